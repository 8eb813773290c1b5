import PyProof.Rows.All
import Wide.All
import OpenK.AllK
import Wide.FinOn
import Lean
import PyProof.EqAt
import PyProof.EqKinds
import PyProof.TupleCall
import PySem.Challenge.RW_stripmeld_k35_deeds_at_the_desk
set_option Elab.async false
set_option linter.all false
set_option compiler.extract_closed false
set_option genSizeOf false
set_option maxRecDepth 100000
def bu_0(h:True:=by rfl):True:=h
def au_0:Lean.Syntax:=bu_0._auto_1
def bu_1(h:True:=by decide):True:=h
def au_1:Lean.Syntax:=bu_1._auto_1
def bu_2(h:True:=by first | exact .inl rfl | exact .inr rfl | assumption):True:=h
def au_2:Lean.Syntax:=bu_2._auto_1
def bu_3(h:True:=by intro _; rfl):True:=h
def au_3:Lean.Syntax:=bu_3._auto_1
def bu_4(h:True:=by first | exact Or.inl rfl | exact Or.inr (Or.inl rfl) | exact Or.inr (Or.inr rfl)):True:=h
def au_4:Lean.Syntax:=bu_4._auto_1
def bu_5(h:True:=by decide +kernel):True:=h
def au_5:Lean.Syntax:=bu_5._auto_1
def bu_6(h:True:=by first | exact Or.inl rfl | exact Or.inr rfl):True:=h
def au_6:Lean.Syntax:=bu_6._auto_1
def bu_7(h:True:=by intro _ _; rfl):True:=h
def au_7:Lean.Syntax:=bu_7._auto_1
def bu_8(h:True:=by kernel_rfl):True:=h
def au_8:Lean.Syntax:=bu_8._auto_1
def bu_9(h:True:=by intro _; first | exact Or.inl rfl | exact Or.inr (Or.inl rfl) | exact Or.inr (Or.inr rfl)):True:=h
def au_9:Lean.Syntax:=bu_9._auto_1
def bu_10(h:True:=by intro _; exact ⟨rfl, rfl, rfl⟩):True:=h
def au_10:Lean.Syntax:=bu_10._auto_1
def bu_11(h:True:=by with_unfolding_all rfl):True:=h
def au_11:Lean.Syntax:=bu_11._auto_1
def bu_12(h:True:=by intro _; first | exact Or.inl rfl | exact Or.inr rfl):True:=h
def au_12:Lean.Syntax:=bu_12._auto_1
def bu_13(h:True:=by intro _; first | exact .inl rfl | exact .inr rfl | assumption):True:=h
def au_13:Lean.Syntax:=bu_13._auto_1
def bu_14(h:True:=by intro _; kernel_rfl):True:=h
def au_14:Lean.Syntax:=bu_14._auto_1
open PySem PySem.Spec PyProof.Rows
noncomputable section
def Wg:=@List.length_map
def Wh:=@decide_eq_true
def Wi:=@of_decide_eq_true
def Wj:=@List.getElem?_eq_getElem
def Wk:=@Nat.le_trans
def Wl:=@List.mem_singleton
def Wm:=@if_pos
def Wn:=@Nat.le_refl
def Wo:=@if_neg
def Wp:=@PySem.wpAny_bind
def Wq:=@PySem.Heap.get?_push_of_some
def Wr:=@List.length_append
def Ws:=@PySem.Heap.lt_size
def Wt:=@Option.some.inj
def Wu:=@List.mem_cons
def Wv:=@List.getD_eq_getElem?_getD
def Ww:=@List.getElem?_map
def Wx:=@decide_eq_false
def Wy:=@PySem.wpAny_pure
def Wz:=@Bool.false_ne_true
def W0:=@List.mem_cons_of_mem
def W1:=@Nat.lt_of_lt_of_le
def W2:=@PySem.Heap.get?_push_size
def W3:=@Nat.add_le_add
def W4:=@List.size_toArray
def W5:=@List.length_cons
def W6:=@List.map_append
def W7:=@List.mem_cons_self
def W8:=@PySem.W.mg_of
def W9:=@congrArg
def WA:=@List.mem_of_getElem?
def WB:=@List.mem_append_right
def WC:=@List.mem_append
def WD:=@List.append_nil
def WE:=@Bool.and_eq_true
def WG:=@List.all_eq_true
def WH:=@List.getElem?_append_right
def WI:=@List.getElem?_append_left
def WJ:=@PySem.W.mg_none_of
def WK:=@Nat.ne_of_lt
def WL:=@PySem.F.plainAttrs_list
def WM:=@List.mem_map
def WN:=@List.getElem_mem
def WO:=@List.getElem?_eq_some_iff
def WQ:=@PySem.wpAny_mono
def WR:=@List.map_cons
def WS:=@PySem.W.kia_one
def WT:=@List.filterMap_cons
def WU:=@List.lookup_cons
def WV:=@List.mem_append_left
def WW:=@Classical.not_not
def WX:=@List.length_set
def WY:=@PySem.Heap.get?_update_other
def WZ:=@List.filterMap_eq_map'
def Qa:=@Nat.lt_irrefl
def Qb:=@List.eq_nil_or_concat
def Qc:=@Nat.le_of_eq
def Qd:=@List.map_map
def Qe:=@List.dropLast_concat
def Qf:=@PyProof.Rows.boot_isinstance
def Qg:=@PySem.PassesOwn.never
def Qh:=@PySem.mem_of_lookup
def Qi:=@List.length_singleton
def Qj:=@PySem.wpAny_truthy_bool
def Qk:=@PySem.wpAny_newObj_type
def Ql:=@Classical.byContradiction
def Qm:=@PySem.F.slot_list_append
def Qn:=@PySem.F.type_list_append
def Qo:=@PySem.wpAny_Call_Name_kw
def Qp:=@Nat.lt_of_le_of_lt
def Qq:=@Int.emod_lt_of_pos
def Qr:=@List.concat_eq_append
def Qs:=@PySem.F.slot_list_pop
def Qt:=@PySem.F.type_list_pop
def Qu:=@PyProof.Rows.callWith_type1
def Qv:=@List.all_cons
def Qw:=@Array.getElem?_eq_some_iff
def Qx:=@Nat.zero_le
def Qy:=@PySem.wpAny_field
def Qz:=@beq_eq_false_iff_ne
def Q0:=@Array.length_toList
def Q1:=@PySem.wpAny_passesOwn
def Q2:=@Bool.eq_iff_iff
def Q3:=@List.nodup_cons
def Q4:=@Int.emod_nonneg
def Q5:=@PySem.W.callWith_K
def Q6:=@PySem.Heap.size_push
def Q7:=@List.getElem?_replicate
def Q8:=@List.getElem?_cons_succ
def Q9:=@Int.eq_ofNat_of_zero_le
def QA:=@PySem.F.plainAttrs_str
def QB:=@Nat.lt_succ_self
def QC:=@Nat.succ_le_succ
def QD:=@PySem.W.methodCall_KW
def QE:=@PyProof.Rows.slot_tuple_getitem
def QF:=@PySem.Heap.get?_none_of_le
def QG:=@List.getElem?_set_ne
def QH:=@PySem.codeAny_mono
def QI:=@PySem.W.plainGet_of
def QJ:=@List.length_pos_iff
def QK:=@PySem.length_partsBetween
def QL:=@ne_true_of_eq_false
def QM:=@List.mem_range
def QN:=@List.mem_filterMap
def QO:=@Nat.not_lt
def QP:=@Nat.le_of_lt
def QR:=@List.length_take
def QS:=@Nat.sub_self
def QT:=@List.not_mem_nil
abbrev ZY:=List (Int×Int)
abbrev ZZ:=List Int
abbrev Ya:=List (PySem.Addr×PySem.Obj)
abbrev Yb:=PySem.Str->Option PySem.Value
abbrev Yc:=PySem.Value->PySem.Shared->Prop
abbrev Yd:=List (Option Nat)
abbrev Ye:=List Nat
abbrev Yf:=List PySem.Value
abbrev Yg:=List PySem.Str
abbrev Yh:=List PySem.Expr
abbrev Yi:=List PySem.Stmt
abbrev Yj:=Option PySem.Value
abbrev Yk:=Option PySem.Addr
abbrev Yl:=List (PySem.Str×PySem.Addr)
abbrev ZX:=PySem.W.Frag
namespace L2
abbrev Key:=Sum Int Str
noncomputable def Av:Key->Value->Bool
 | .inl k,v=>Value.isInt k v
 | .inr x,v=>Value.isStrOf x v
noncomputable def R1(w:World):Key->Int
 | .inl k=>hashInt k
 | .inr x=>hashStr w x
def XB:∀{k}{v:Value},Av k v=true->(∃i t,k=Sum.inl i/\v=Value.int i t)\/(∃x t,k=Sum.inr x/\v=Value.str x t)
 | .inl i,v,h=>by
  obtain⟨t,e⟩:=Value.isInt_shape h
  grind
 | .inr x,v,h=>by
  obtain⟨t,e⟩:=Value.isStrOf_shape h
  grind
def Om(a b:Int):decide ((Sum.inl a:Key)=Sum.inl b)=(a==b):=by grind
def Me(a b:Str):decide ((Sum.inr a:Key)=Sum.inr b)=decide (a=b):=by simp
def HG(a:Int)(b:Str):decide ((Sum.inl a:Key)=Sum.inr b)=false:=Wx (λq=>nomatch q)
def Za8(a:Str)(b:Int):decide ((Sum.inr a:Key)=Sum.inl b)=false:=Wx (λq=>nomatch q)
noncomputable def AI(prog:Program)(w:World):PySem.KeyKind prog w Key where
 is:=Av
 hash:=R1 w
 inj:=λv a b ha hb=>by
  rcases XB ha with⟨i,t,rfl,rfl⟩|⟨x,t,rfl,rfl⟩
  ·rcases XB hb with⟨j,u,rfl,e⟩|⟨y,u,rfl,e⟩
   ·injection e with e1 _;rw[e1]
   ·exact nomatch e
  ·rcases XB hb with⟨j,u,rfl,e⟩|⟨y,u,rfl,e⟩
   ·exact nomatch e
   ·injection e with e1 _;rw[e1]
 byValue:=λk v h=>by
  rcases XB h with⟨i,t,rfl,rfl⟩|⟨x,t,rfl,rfl⟩<;>rfl
 pyHash:=λhv h=>by
  rcases XB hv with⟨i,t,rfl,rfl⟩|⟨x,t,rfl,rfl⟩
  ·exact wpAny_pyHash_int h
  ·exact wpAny_pyHash_str h
 eqBool:=λhu hv h=>by
  rcases XB hu with⟨i,t,rfl,rfl⟩|⟨x,t,rfl,rfl⟩
  ·rcases XB hv with⟨j,u,rfl,rfl⟩|⟨y,u,rfl,rfl⟩
   ·rw[Om]at h;exact wpAny_eqBool_int h
   ·rw[HG]at h;exact SeqAt.EqAt.int_str i t y u _ _ _ _ h
  ·rcases XB hv with⟨j,u,rfl,rfl⟩|⟨y,u,rfl,rfl⟩
   ·rw[Za8]at h;exact SeqAt.EqAt.str_int x t j u _ _ _ _ h
   ·rw[Me]at h;exact wpAny_eqBool_str h
 «strs»:=λk x t v h=>by
  rcases XB h with⟨i,u,rfl,e⟩|⟨y,u,rfl,e⟩
  ·exact nomatch e
  ·injection e with e1 _;subst e1;cases v<;>rfl
inductive V where
 |non|bl (b:Bool)|int (i:Int)|str (x:Str)|byt (b:Array UInt8)|flt (b:UInt64)|ref (a:Addr)|ty (n:String)
 deriving DecidableEq
def RelV:V->Value->Prop
 | .non,u=>u=Value.none
 | .bl b,u=>u=Value.bool b
 | .int i,u=>∃t,u=Value.int i t
 | .str x,u=>∃t,u=Value.str x t
 | .byt b,u=>∃t,u=Value.bytes b t
 | .flt b,u=>∃t,u=Value.float b t
 | .ref a,u=>u=Value.ref a
 | .ty n,u=>u=Value.type n
abbrev Vals:List V->Yf->Prop:=Paired RelV
def Vals.length (r:Vals xs us):xs.length=us.length:=Paired.length r
def Vals.get:∀{xs us}{i:Nat}{x:V},Vals xs us->xs[i]?=some x->∃u,us[i]?=some u/\RelV x u:=by
 intro n
 induction n with
 |nil=>
  intro _ i _ h e;simp at e
 |cons _ _ f=>
  intro _ i d h e;cases h with
  |cons h r=>
   cases i with
   |zero=>
    simp at e;subst e;exact⟨_,rfl,h⟩
   |succ i=>
    obtain⟨v,l,g⟩:=f r (by simpa using e);exact⟨v,by simpa using l,g⟩
def Vals.append:∀{xs f}{us g:Yf},Vals xs us->Vals f g->Vals (xs++f) (us++g):=by
 intro n
 induction n with
 |nil=>
  intro _ _ _ h s;cases h
  exact s
 |cons _ _ l=>
  intro _ _ _ h s;cases h with
  |cons h r=>
   exact .cons h (l r s)
theorem Vals.take:∀{xs us} n,Vals xs us->Vals (xs.take n) (us.take n)
 |_,_,0,_|_,_,_+1,.nil=>.nil
 |_,_,n+1,.cons r t=>.cons r (Vals.take n t)
theorem Vals.drop:∀{xs us} n,Vals xs us->Vals (xs.drop n) (us.drop n)
 |_,_,0,r=>r
 |_,_,_+1,.nil=>.nil
 |_,_,n+1,.cons _ t=>Vals.drop n t
def RelO:Option V->Yj->Prop
 |some v,some u=>RelV v u
 |none,none=>True
 |_,_=>False
def KV{f:Type}:List (f×V)->List (f×Value)->Prop:=Paired λ(p:f×V) (q:f×Value)=>p.1=q.1/\RelV p.2 q.2
noncomputable def kV:Key->V
 | .inl i=>.int i
 | .inr x=>.str x
inductive HO where
 |lst (xs:List V)
 |tup (xs:List V)
 |dK (kvs:List (Key×V))|dT (kvs:List (List Key×V))
 |set (S:Int->Bool) (n:Nat)
 |ins (C dx:Addr) (fs:List (Str×V))
 |own (x:Addr)
 |xd (fs:List (Str×V))
 |met (f x:Addr)
 |rng (lo hi:Int)
 |frz (o:Obj) (u:HO)
 |tbl (ps:Array Value)
 |ext (φ:Heap->Prop)
abbrev Hp:=Addr->Option HO
noncomputable def upd(H:Hp)(a:Addr)(o:HO):Hp:=λb=>if b=a then some o else H b
def Um:upd H a o a=some o:=by unfold upd;rw[Wm rfl]
def JF{a b o}(h:b≠a):upd H a o b=H b:=by unfold upd;rw[Wo h]
def Xm{H:Hp}{a b}{o}(h:H a=some o)(f:H b=none):a≠b:=by grind
section
variable (P:Program) (w:World)
def ObjOk(H:Hp)(h:Heap)(a:Addr):HO->Prop
 | .lst xs=>xs.length<=sizeLine/\∃(l:Yf) (n:Nat),Vals xs l/\h.get? a=some {cls:=.type "list",data:=.seq l.toArray n}
 | .tup xs=>xs.length<=sizeLine/\∃l:Yf,Vals xs l/\IsTup h a l.toArray
 | .dK g=>g.length<=sizeLine/\(a==sysModules)=false/\∃z,KV g z/\h.DictOf (AI P w) a z
 | .dT g=>g.length<=sizeLine/\(a==sysModules)=false/\∃xs:List (List Key×Addr×Value),
   Paired (λ(p:List Key×V) (q:List Key×Addr×Value)=>p.1=q.1/\H q.2.1=some (.tup<|p.1.map kV)/\RelV p.2 q.2.2) g xs/\
   ∃o E L,h.get? a=some o/\o.ExactDict/\o.data=.dict E L/\E.toList=xs.map (entryOfKey<|tupleKind<|AI P w)/\(xs.map (·.1)).Nodup
 | .set S n=>h.SetOf (intKind P w) a S n
 | .ins C s fs=>H s=some (.own a)/\fs.length<=1000/\s≠a/\h.get? a=some (PySem.W.instObj C s)/\
   ∃r,h.Ns1 s r/\(∀f,RelO (fs.lookup f) (r f))/\PySem.Within r (fs.map (·.1))
 | .own _=>∃o,h.get? a=some o
 | .xd fs=>∃r,h.Ns1 a r/\∀f,RelO (fs.lookup f) (r f)
 | .rng lo J=>∃t u v,h.get? a=some {cls:=.type "range",data:=.fields #[.int lo t,.int J u,.int 1 v]}
 | .frz o u=>h.get? a=some o/\ObjOk H h a u
 | .tbl G=>h.get? a=some {cls:=.none,data:=.fields G}
 | .met f x=>h.get? a=some (PySem.W.methodObj (.ref f)<|.ref x)
 | .ext y=>y h/\(∃o,h.get? a=some o)/\∀B A:Heap,y B->(∀o,B.get? a=some o->A.get? a=some o)->y A
def HOk(H:Hp)(h:Heap):Prop:=∀a o,H a=some o->ObjOk P w H h a o
end
section
variable {P:Program}{w:World}{H H':Hp}{h h':Heap}{a:Addr}{o:HO}
def ObjOk.lt (x:ObjOk P w H h a o):a<h.objs.size:=by
 cases o with
 |lst xs=>obtain⟨_,_,_,_,e⟩:=x;exact Ws e
 |tup xs=>obtain⟨_,_,_,p⟩:=x;exact p.lt
 |set S n=>obtain⟨o,_,_,_,e,_⟩:=x;exact Ws e
 |ins C t fs=>obtain⟨_,_,_,e,_⟩:=x;exact Ws e
 |own y=>obtain⟨_,e⟩:=x;exact Ws e
 |xd fs=>obtain⟨_,⟨_,_,_,e,_⟩,_⟩:=x;exact Ws e
 |rng lo s=>obtain⟨_,_,_,e⟩:=x;exact Ws e
 |frz r u=>obtain⟨e,_⟩:=x;exact Ws e
 |tbl l|met f y=>exact Ws x
 |ext g=>obtain⟨_,⟨_,e⟩,_⟩:=x;exact Ws e
 |_=>obtain⟨_,_,_,_,o,_,_,e,_⟩:=x;exact Ws e
def Paired.mapP:∀{l:List t}{g:List s},Paired F l g->(∀a b,F a b->G a b)->Paired G l g:=by
 intro p
 induction p with
 |nil=>
  intro _ h _;cases h
  exact .nil
 |cons _ _ n=>
  intro _ h f;cases h with
  |cons h r=>
   exact .cons (f _ _ h) (n r f)
def ObjOk.stay (x:ObjOk P w H h a o) (k:∀b u,(b=a\/H b=some (.own a))->h.get? b=some u->h'.get? b=some u)
  (Q:∀b,H b=some (.own a)->H' b=some (.own a)) (N:∀b xs,H b=some (.tup xs)->H' b=some (.tup xs)):ObjOk P w H' h' a o:=by
 induction o with
 |lst xs=>obtain⟨z,A,n,r,e⟩:=x;exact⟨z,A,n,r,k _ _ (.inl rfl) e⟩
 |tup xs=>obtain⟨z,A,r,g,e,c⟩:=x;exact⟨z,A,r,g,k _ _ (.inl rfl) e,c⟩
 |dK G=>obtain⟨z,y,J,r,g,l,s,e,c⟩:=x;exact⟨z,y,J,r,g,l,s,k _ _ (.inl rfl) e,c⟩
 |dT G=>
  obtain⟨z,y,xs,r,g,l,s,e,c⟩:=x;exact⟨z,y,xs,Paired.mapP r λp q z=>⟨z.1,N _ _ z.2.1,z.2.2⟩,g,l,s,k _ _ (.inl rfl) e,c⟩
 |set S n=>obtain⟨g,l,s,t,e,c⟩:=x;exact⟨g,l,s,t,k _ _ (.inl rfl) e,c⟩
 |ins C dx fs=>
  obtain⟨d,z,L,e,E,⟨B,l,s,T,c⟩,r⟩:=x;exact⟨Q _ d,z,L,k _ _ (.inl rfl) e,E,⟨B,l,s,k _ _ (.inr d) T,c⟩,r⟩
 |own y=>obtain⟨g,e⟩:=x;exact⟨g,k _ _ (.inl rfl) e⟩
 |xd fs=>obtain⟨E,⟨B,l,s,e,c⟩,r⟩:=x;exact⟨E,⟨B,l,s,k _ _ (.inl rfl) e,c⟩,r⟩
 |rng lo hi=>obtain⟨t,u,v,e⟩:=x;exact⟨t,u,v,k _ _ (.inl rfl) e⟩
 |frz g u M=>obtain⟨e,q⟩:=x;exact⟨k _ _ (.inl rfl) e,M q⟩
 |tbl Y=>
  have e:=x;exact k a _ (.inl rfl) e
 |met f y=>
  have e:=x;exact k a _ (.inl rfl) e
 |ext U=>obtain⟨p,⟨o,e⟩,st⟩:=x;exact⟨st _ _ p λo q=>k _ _ (.inl rfl) q,⟨o,k _ _ (.inl rfl) e⟩,st⟩
def HOk.lt (x:HOk P w H h) (e:H a=some o):a<h.objs.size:=(x a o e).lt
def HOk.fresh (x:HOk P w H h) (e:h.objs.size<=a):H a=none:=by
 cases q:H a with
 |none=>rfl
 |some u=>exact absurd (W1 (x.lt q) e) (Qa _)
def HOk.kept (x:HOk P w H h) (k:∀b u,h.get? b=some u->h'.get? b=some u):HOk P w H h':=λa o e=>
 (x a o e).stay (λb u _ q=>k b u q) (λ_ q=>q) λ_ _ q=>q
def HOk.laid (x:HOk P w H h) (k:∀b u,h.get? b=some u->h'.get? b=some u) (n:h.objs.size<=a) (f:ObjOk P w (upd H a o) h' a o):HOk P w (upd H a o) h':=λb u e=>by
 have g:=x.fresh n;by_cases l:b=a
 ·subst l;rw[Um]at e;cases e;exact f
 ·rw[JF l]at e;exact(x b u e).stay (λc v _ q=>k c v q) (λc q=>by rw[JF (Xm q g)];exact q) λc xs q=>by rw[JF (Xm q g)];exact q
end
def Rd(H:Hp)(a:Addr)(u:HO):Prop:=H a=some u\/∃o,H a=some (.frz o u)
def Rd.ok {H h a u} (r:Rd H a u) (x:HOk P w H h):ObjOk P w H h a u:=by
 rcases r with r|⟨o,r⟩
 ·exact x a u r
 ·obtain⟨_,q⟩:=x a _ r;lia
def Mut:Option HO->Prop
 |some (.lst _)=>True
 |some (.dK _)=>True
 |some (.dT _)=>True
 |some (.set _ _)=>True
 |some (.ins _ _ _)=>True
 |some (.ext _)=>True
 |_=>False
section
variable {P:Program}{w:World}{H:Hp}{h h':Heap}{x e:Addr}{o':HO}
def HOk.write (ok:HOk P w H h) (g:Mut (H x)) (A:e=x\/H e=some (.own x)) (k:∀b u,b≠e->h.get? b=some u->h'.get? b=some u) (n:∃u,h'.get? e=some u)
  (l:ObjOk P w (upd H x o') h' x o'):HOk P w (upd H x o') h':=λb u q=>by
 have nown:∀c y,H c=some (.own y)->c≠x:=λc y r z=>by subst z;rw[r]at g;exact g
 have ntup:∀c xs,H c=some (.tup xs)->c≠x:=λc xs r z=>by subst z;rw[r]at g;exact g
 by_cases s:b=x
 ·subst s;rw[Um]at q;cases q;exact l
 ·rw[JF s]at q;by_cases f:b=e
  ·have o:H b=some (.own x):=by
    rcases A with z|z
    ·grind
    ·rw[f];exact z
   rw[q]at o;cases o;obtain⟨v,t⟩:=n;exact⟨v,by rw[f];exact t⟩
  ·refine(ok b u q).stay (λc v p r=>k c v ?_ r) (λc r=>by rw[JF (nown c b r)];exact r) λc xs r=>by rw[JF (ntup c xs r)];exact r
   rcases p with rfl|p
   ·exact f
   ·grind
end
structure Un (fs ex:List Addr) (H H':Hp) (h h':Heap):Prop where
 keep:∀b o,h.get? b=some o->H b=none->b∉fs->b∉ex->h'.get? b=some o
 slot:∀b o,h.get? b=some o->H b=none->b∈fs->b∉ex->∃sl,h'.get? b=some {o with slots:=sl}
 free:∀b o,h.get? b=some o->H b=none->b∉ex->H' b=none
 there:∀b o,h.get? b=some o->b∉ex->∃o',h'.get? b=some o'
 tups:∀b xs,H b=some (.tup xs)->H' b=some (.tup xs)
 frzs:∀b o u,H b=some (.frz o u)->H' b=some (.frz o u)
 tbls:∀b ps,H b=some (.tbl ps)->∃more,H' b=some (.tbl (ps++more))
section
variable {fs fs' ex ex':List Addr}{H H1 H2:Hp}{h h1 h2 h':Heap}{a x e:Addr}{o:HO}
def Un.any (u:Un fs ex H H1 h h1) {b f} (q:h.get? b=some f) (n:H b=none) (hx:b∉ex):∃sl,h1.get? b=some {f with slots:=sl}:=by
 by_cases g:b∈fs
 ·exact u.slot b f q n g hx
 ·exact⟨f.slots,u.keep b f q n g hx⟩
def Un.kept (k:∀b u,h.get? b=some u->h'.get? b=some u):Un fs ex H H h h':=
 ⟨λb f q _ _ _=>k b f q,λb f q _ _ _=>⟨f.slots,k b f q⟩,λ_ _ _ n _=>n,λb f q _=>⟨f,k b f q⟩,λ_ _ q=>q,λ_ _ _ q=>q,λ_ g q=>⟨#[],by rw[q];simp⟩⟩
def Un.refl:Un fs ex H H h h:=Un.kept λ_ _ q=>q
def Un.laid (k:∀b u,h.get? b=some u->h'.get? b=some u) (hp:h.objs.size<=a) (hn:H a=none):Un fs ex H (upd H a o) h h' where
 keep:=λb u q _ _ _=>k b u q
 slot:=λb u q _ _ _=>⟨u.slots,k b u q⟩
 free:=λb u q n _=>by rw[JF (WK<|W1 (Ws q) hp)];exact n
 there:=λb u q _=>⟨u,k b u q⟩
 tups:=λb xs q=>by rw[JF (Xm q hn)];exact q
 frzs:=λb u xs q=>by rw[JF (Xm q hn)];exact q
 tbls:=λb ps q=>⟨#[],by rw[JF (Xm q hn),q];simp⟩
def Un.write (f:Mut (H x)) (t:e=x\/H e=some (.own x)) (k:∀b u,b≠e->h.get? b=some u->h'.get? b=some u) (s:∃u,h'.get? e=some u):Un fs ex H (upd H x o) h h':=by
 have hx:∀b,H b=none->b≠x:=λb n z=>by subst z;rw[n]at f;exact f
 have l:∀b,H b=none->b≠e:=λb n z=>by
  rcases t with r|r
  ·grind
  ·grind
 have g:∀b u,H b=some u->¬Mut (some u)->b≠x:=λb u q p z=>by subst z;rw[q]at f;exact p f
 refine⟨λb u q n _ _=>k b u (l b n) q,λb u q n _ _=>⟨u.slots,k b u (l b n) q⟩,λb u q n _=>by rw[JF (hx b n)];exact n,λb u q _=>?_,
  λb xs q=>by rw[JF (g b _ q λz=>z)];exact q,λb u xs q=>by rw[JF (g b _ q λz=>z)];exact q,λb w q=>⟨#[],by rw[JF (g b _ q λz=>z),q];simp⟩⟩
 by_cases v:b=e
 ·grind
 ·grind
end
noncomputable def trk(h:Heap)(H:Hp):List Addr:=(List.range h.objs.size).filter λa=>(H a).isSome
noncomputable def XQ(h:Heap)(H:Hp):Heap:=PySem.W.hideAll h (trk h H)
def Rw(h:Heap)(H:Hp):(XQ h H).objs.size=h.objs.size:=PySem.W.hideAll_size _ _
def Hy{H b o}(e:h.get? b=some o)(n:H b=none):(XQ h H).get? b=some o:=
 PySem.W.hideAll_get _ e λf=>by
  have q:=(List.mem_filter.mp f).2
  grind
def Zbe(e:(XQ h H).get? b=some o):h.get? b=some o/\H b=none:=by
 have f:=PySem.W.of_hideAll (trk h H) e;refine⟨f,?_⟩;cases q:H b with
 |none=>rfl
 |some x=>
  have g:b∈trk h H:=List.mem_filter.mpr ⟨QM.mpr (Ws f),by simp[q]⟩;have z:(XQ h H).get? b=none:=PySem.W.hideAll_none (trk h H) g
  grind
noncomputable def Gi(g h:Heap)(L:Addr):Ya:=(List.range h.objs.size).filterMap λa=>if a=L\/(g.get? a).isSome=true then none else(h.get? a).map λo=>(a,o)
noncomputable def rest(g h:Heap)(L d:Addr):Ya:=(Gi g h L).filter λp=>decide (p.1≠d)
structure Mod (K:ZX) (mg:Yb) (base:Heap):Prop where
 kin:K.In base
 glob:base.Ns mainGlobals mg
 blt:∃mb,base.Ns builtinsNs mb/\∀x:Str,x≠"__name__"->mb x=bootBuiltins x
 nolimit:base.NoLimit
structure Cx where
 prog:Program
 w:World
 K:ZX
 mg:Yb
 base:Heap
 A:Around
 N:Yg
 s₀:Shared
 H₀:Hp
 env:Env
 outer:List Env
 stack:List Env
 ex:List Addr
 fn:Str->Bool
 calm:Bool
 pn:Ya
 xe:Yc
noncomputable def frs(l:List Env):List Addr:=l.filterMap (·.frame)
noncomputable abbrev Cx.fs (X:Cx):List Addr:=frs X.outer
def Vis(f:Scope)(x:Str):Prop:=f.names.lookup x=some .local\/f.names.lookup x=some .cell\/f.names.lookup x=some .free
def Loc(f:Scope)(x:Str):Prop:=f.names.lookup x=some .local\/f.names.lookup x=some .cell
def Look(env:Env)(h:Heap)(m:Yb)(x:Str)(u:Value):Prop:=
 (env.kindOf x=some .local/\m x=some u)\/((env.kindOf x=some .cell\/env.kindOf x=some .free)/\∃c,env.cells.lookup x=some c/\h.IsCell c (some u))
structure Cx.Ok (X:Cx):Prop where
 mod:Mod X.K X.mg X.base
 kind:X.env.scope.kind=.function
 glob:X.env.globals=mainGlobals
 blt:X.env.builtins=builtinsNs
 above:X.s₀.heap.objs.size<=X.env.locals
 inj:∀x y c,X.env.cells.lookup x=some c->X.env.cells.lookup y=some c->x=y
 has:∀x,(X.env.kindOf x=some .cell\/X.env.kindOf x=some .free)->∃c,X.env.cells.lookup x=some c
 cab:∀x c,X.fn x=true->X.env.cells.lookup x=some c->X.s₀.heap.objs.size<=c
 hd:X.calm=true->X.A.handled=none
 frames:X.A.frames=some X.stack
 stk:X.stack=X.outer\/(X.stack=X.env::X.outer/\X.env.frame=some X.env.locals)
 exf:∀b∈X.ex,b≠X.env.locals/\∀x c,X.env.cells.lookup x=some c->c≠b
 bs:∀b o,X.base.get? b=some o->X.s₀.heap.get? b=some o/\X.H₀ b=none
 bsz:X.base.objs.size<=X.s₀.heap.objs.size
 noex:∀b o,X.base.get? b=some o->b∉X.ex
 exfs:∀b∈X.ex,b∉X.fs
 funs:X.s₀.heap.FunFrames X.base X.outer
 frf:∀b∈X.fs,X.H₀ b=none
structure Inv (X:Cx) (pins:Ya) (σ:List (Option V)) (H:Hp) (s:Shared):Prop where
 ok:X.Ok
 os:s.os=X.s₀.os
 bare:AllBare s.gens
 base:Un X.fs X.ex X.H₀ H X.s₀.heap s.heap
 loc:∃m,s.heap.Ns X.env.locals m/\∀(i:Nat) (x:Str) (v:V),X.N[i]?=some x->σ[i]?=some (some v)->Vis X.env.scope x->∃u,RelV v u/\Look X.env s.heap m x u
 cell:∀x c,X.env.cells.lookup x=some c->∃v,s.heap.IsCell c v
 free:H X.env.locals=none
 freeC:∀x c,X.env.cells.lookup x=some c->H c=none
 pin:∀p∈X.pn++pins,s.heap.get? p.1=some p.2/\H p.1=none/\p.1≠X.env.locals/\p.1∉X.fs/\∀v,p.2.data≠.cell v
 hok:HOk X.prog X.w H s.heap
 len:σ.length=X.N.length
section
variable {X:Cx}{pins:Ya}{σ:List (Option V)}{H H':Hp}{s:Shared}{h':Heap}
def Cx.Ok.nofr (ok:X.Ok) {b o} (e:X.base.get? b=some o):b∉X.fs:=λf=>by
 have:=(ok.funs.mem f).1
 grind
def Inv.bs (I:Inv X pins σ H s):∀b o,X.base.get? b=some o->s.heap.get? b=some o/\H b=none:=λb o e=>
 ⟨I.base.keep b o (I.ok.bs b o e).1 (I.ok.bs b o e).2 (I.ok.nofr e) (I.ok.noex b o e),I.base.free b o (I.ok.bs b o e).1 (I.ok.bs b o e).2 (I.ok.noex b o e)⟩
def Inv.bk (I:Inv X pins σ H s):∀b o,X.base.get? b=some o->s.heap.get? b=some o:=λb o e=>(I.bs b o e).1
def Inv.mod (I:Inv X pins σ H s):Mod X.K X.mg X.base:=I.ok.mod
def Inv.kIn (I:Inv X pins σ H s):X.K.In s.heap:=I.ok.mod.kin.keeps I.bk
def Inv.lt (I:Inv X pins σ H s):X.env.locals<s.heap.objs.size:=let ⟨_,f,_⟩:=I.loc;f.lt
def Inv.sz (I:Inv X pins σ H s):X.s₀.heap.objs.size<=s.heap.objs.size:=Wk I.ok.above (QP I.lt)
def Inv.nofs (I:Inv X pins σ H s) {a:Addr} (h:s.heap.objs.size<=a):a∉X.fs:=λg=>by
 obtain⟨_,o,f,_⟩:=I.ok.funs.mem g;exact absurd (W1 (Ws f)<|Wk I.sz h) (Qa _)
def Inv.cne (I:Inv X pins σ H s):∀x c,X.env.cells.lookup x=some c->c≠X.env.locals:=λx c e z=>by
 obtain⟨v,o,l,n⟩:=I.cell x c e;obtain⟨m,⟨h,p,r,f,g,_⟩,_⟩:=I.loc
 grind
def Inv.funs (I:Inv X pins σ H s):s.heap.FunFrames X.base X.outer:=by
 have all:∀l,(∀b∈frs l,b∈X.fs)->X.s₀.heap.FunFrames X.base l->s.heap.FunFrames X.base l:=by
  intro l
  induction l with
  |nil=>intro _ _;trivial
  |cons A r p=>
   intro n w;obtain⟨x,⟨L,o,f,v,u,y⟩,t⟩:=w;have h:=n L (by unfold frs;rw[WT,f];exact W7);obtain⟨sl,e⟩:=I.base.slot L o u (I.ok.frf L h) h λz=>I.ok.exfs L z h;exact⟨x,⟨L,_,f,v,e,y⟩,p (λb g=>n b (by unfold frs;rw[WT,f];exact W0 _ g)) t⟩
 exact all X.outer (λ_ g=>g) I.ok.funs
def Inv.stack (I:Inv X pins σ H s):s.heap.FunFrames X.base X.stack:=by
 rcases I.ok.stk with e|⟨e,g⟩
 ·rw[e];exact I.funs
 ·rw[e];obtain⟨m,f,_⟩:=I.loc;refine .cons (by rw[I.ok.kind];decide) g f ?_ I.funs;exact QF (Wk I.ok.bsz I.ok.above)
def Inv.stkSub (I:Inv X pins σ H s):∀b∈frs X.stack,b∈X.env.locals::X.fs:=λb f=>by
 rcases I.ok.stk with e|⟨e,g⟩
 ·grind
 ·rw[e]at f;unfold frs at f;rw[WT,g]at f;trivial
def Inv.stkFree (I:Inv X pins σ H s):∀b∈frs X.stack,H b=none:=λb f=>by
 rcases Wu.mp (I.stkSub b f)with e|f
 ·rw[e];exact I.free
 ·obtain⟨_,o,g,_⟩:=I.ok.funs.mem f;exact I.base.free b o g (I.ok.frf b f) λz=>I.ok.exfs b z f
def Inv.step {d'}{ch:List Addr} (I:Inv X pins σ H s)
  (g:∀b∈ch,(b∈X.ex\/X.s₀.heap.objs.size<=b)/\b≠X.env.locals/\(∀x c,X.env.cells.lookup x=some c->c≠b)/\∀p∈X.pn++pins,p.1≠b)
  (keep:∀b o,b≠X.env.locals->b∉X.fs->b∉ch->s.heap.get? b=some o->H b=none->h'.get? b=some o)
  (slot:∀b o,b≠X.env.locals->b∈X.fs->b∉ch->s.heap.get? b=some o->H b=none->∃sl,h'.get? b=some {o with slots:=sl}) (free:∀b o,b∉ch->s.heap.get? b=some o->H b=none->H' b=none)
  (there:∀b o,b∉ch->s.heap.get? b=some o->∃o',h'.get? b=some o')
  (tups:∀b xs,H b=some (.tup xs)->H' b=some (.tup xs)) (frzs:∀b o u,H b=some (.frz o u)->H' b=some (.frz o u)) (tbls:∀b ps,H b=some (.tbl ps)->∃more,H' b=some (.tbl (ps++more)))
  (M:∀m,s.heap.Ns X.env.locals m->h'.Ns X.env.locals m) (G:HOk X.prog X.w H' h') (hg:AllBare g') :
  Inv X pins σ H' {s with heap:=h',gens:=g',drawn:=d',toks:=t'}:=by
 have A:∀b o,X.s₀.heap.get? b=some o->b≠X.env.locals:=λb o e=>WK (W1 (Ws e) I.ok.above)
 have f:∀b o,X.s₀.heap.get? b=some o->b∉X.ex->b∉ch:=λb o e hx t=>by
  rcases(g b t).1 with z|z
  ·exact hx z
  ·exact absurd (W1 (Ws e) z) (Qa _)
 have cellK:∀x c,X.env.cells.lookup x=some c->∀v,s.heap.IsCell c v->h'.IsCell c v:=λx c e v ⟨o,y,J⟩=>by
  have B:=λz=>(g c z).2.2.1 x c e rfl;by_cases L:c∈X.fs
  ·obtain⟨sl,q⟩:=slot c o (I.cne x c e) L B y (I.freeC x c e);exact⟨_,q,J⟩
  ·exact⟨o,keep c o (I.cne x c e) L B y (I.freeC x c e),J⟩
 refine⟨I.ok,I.os,hg,⟨λb o e n t hx=>?_,λb o e n t hx=>?_,λb o e n hx=>?_,λb o e hx=>?_,λb xs e=>tups b xs (I.base.tups b xs e),λb o xs e=>frzs b o xs (I.base.frzs b o xs e),λb ps e=>?_⟩,?_,λx c e=>?_,?_,λx c e=>?_,λp T=>?_,G,I.len⟩
 ·exact keep b o (A b o e) t (f b o e hx) (I.base.keep b o e n t hx) (I.base.free b o e n hx)
 ·obtain⟨sl,h⟩:=I.base.slot b o e n t hx;obtain⟨E,C⟩:=slot b _ (A b o e) t (f b o e hx) h (I.base.free b o e n hx);exact⟨E,C⟩
 ·obtain⟨o',h⟩:=I.base.there b o e hx;exact free b o' (f b o e hx) h (I.base.free b o e n hx)
 ·obtain⟨o',h⟩:=I.base.there b o e hx;exact there b o' (f b o e hx) h
 ·obtain⟨Q,h⟩:=I.base.tbls b ps e;obtain⟨N,C⟩:=tbls b _ h;exact⟨Q++N,by rw[C,Array.append_assoc]⟩
 ·obtain⟨m,U,Y⟩:=I.loc;refine⟨m,M m U,λi x v h C e3=>?_⟩;obtain⟨u,r,l⟩:=Y i x v h C e3;refine⟨u,r,?_⟩;rcases l with l|⟨k,c,e,z⟩
  ·exact .inl l
  ·exact .inr ⟨k,c,e,cellK x c e _ z⟩
 ·obtain⟨v,z⟩:=I.cell x c e;exact⟨v,cellK x c e v z⟩
 ·obtain⟨m,⟨o,_,_,y,_⟩,_⟩:=I.loc;exact free _ o (λz=>(g _ z).2.1 rfl) y I.free
 ·obtain⟨v,o,y,J⟩:=I.cell x c e;exact free c o (λz=>(g c z).2.2.1 x c e rfl) y (I.freeC x c e)
 ·obtain⟨e,n,ne,nf,d⟩:=I.pin p T
  grind
def Inv.un (I:Inv X pins σ H s) (u:Un X.fs [] H H' s.heap h') (g:HOk X.prog X.w H' h'):Inv X pins σ H' {s with heap:=h',toks:=t'}:=by
 obtain⟨m,⟨o,C,E,t,r⟩,_⟩:=id I.loc;obtain⟨sl,y⟩:=u.any t I.free (by simp)
 exact I.step (ch:=[]) (λ_ z=>nomatch z) (λb o _ h _ e n=>u.keep b o e n h (by simp)) (λb o _ h _ e n=>u.slot b o e n h (by simp)) (λb o _ e n=>u.free b o e n (by simp)) (λb o _ e=>u.there b o e (by simp)) u.tups u.frzs u.tbls (λB x=>by
  obtain⟨A,l,p,f,v⟩:=x;rw[t]at f;cases f;exact⟨_,l,p,y,v⟩) g I.bare
def Inv.call {d'}{ch} (I:Inv X pins σ H s) (u:Un (frs X.stack) ch H H' s.heap h') (l:HOk X.prog X.w H' h') (E:AllBare J)
  (h:∀b∈ch,(b∈X.ex\/X.s₀.heap.objs.size<=b)/\b≠X.env.locals/\(∀x c,X.env.cells.lookup x=some c->c≠b)/\∀p∈X.pn++pins,p.1≠b) :
  Inv X pins σ H' {s with heap:=h',gens:=J,drawn:=d',toks:=t'}:=by
 obtain⟨m,⟨o,N,Q,A,r⟩,_⟩:=id I.loc;obtain⟨sl,t⟩:=u.any A I.free λz=>(h _ z).2.1 rfl
 exact I.step h (λb o t G f e n=>u.keep b o e n (λz=>(Wu.mp<|I.stkSub b z).elim t G) f) (λb o _ _ f e n=>u.any e n f) (λb o f e n=>u.free b o e n f) (λb o f e=>u.there b o e f) u.tups u.frzs u.tbls (λM C=>by
  obtain⟨L,v,y,g,B⟩:=C;rw[A]at g;cases g;exact⟨_,v,y,t,B⟩) l E
def Inv.turned {it} (I:Inv X pins σ H s) (k:∀b o,b≠it->s.heap.get? b=some o->h'.get? b=some o) (A:H it=none) (l:it≠X.env.locals)
  (G:it∈X.ex\/X.s₀.heap.objs.size<=it) (E:∀x c,X.env.cells.lookup x=some c->c≠it) (C:∀p∈X.pn++pins,p.1≠it):Inv X pins σ H {s with heap:=h',toks:=t'}:=by
 refine I.step (ch:=[it]) (λb B=>?_) (λb o _ _ f e _=>k b o (λz=>f (by simp[z])) e) (λb o _ _ f e _=>⟨o.slots,k b o (λz=>f (by simp[z])) e⟩) (λ_ _ _ _ n=>n)
  (λb o f e=>⟨o,k b o (λz=>f (by simp[z])) e⟩) (λ_ _ e=>e) (λ_ _ _ e=>e) (λb y e=>⟨#[],by rw[e];simp⟩) (λm h=>?_) (λb u e=>?_) I.bare
 ·grind
 ·obtain⟨o,t,w,g,r⟩:=h;exact⟨o,t,w,k _ o (Ne.symm l) g,r⟩
 ·refine(I.hok b u e).stay (λc v f q=>k c v ?_ q) (λ_ q=>q) λ_ _ q=>q;rcases f with z|z
  ·grind
  ·grind
def Inv.tok (I:Inv X pins σ H s) (t:Nat):Inv X pins σ H {s with toks:=t}:=I.un Un.refl I.hok
def Inv.kept (I:Inv X pins σ H s) (k:∀b u,s.heap.get? b=some u->h'.get? b=some u):Inv X pins σ H {s with heap:=h',toks:=t'}:=I.un (Un.kept k) (I.hok.kept k)
def Inv.laid {a:Addr}{o}{t'} (I:Inv X pins σ H s) (k:∀b u,s.heap.get? b=some u->h'.get? b=some u) (g:s.heap.objs.size<=a) (f:ObjOk X.prog X.w (upd H a o) h' a o) :
  Inv X pins σ (upd H a o) {s with heap:=h',toks:=t'}:=I.un (Un.laid k g<|I.hok.fresh g) (I.hok.laid k g f)
def Inv.write (I:Inv X pins σ H s) (h:Mut (H x)) (l:e=x\/H e=some (.own x)) (k:∀b u,b≠e->s.heap.get? b=some u->h'.get? b=some u) (f:∃u,h'.get? e=some u)
  (g:ObjOk X.prog X.w (upd H x o) h' x o):Inv X pins σ (upd H x o) {s with heap:=h',toks:=t'}:=I.un (Un.write h l k f) (I.hok.write h l k f g)
def Inv.weak (I:Inv X pins σ H s) (l:f.length=σ.length) (w:∀(i:Nat) v,f[i]?=some (some v)->σ[i]?=some (some v)):Inv X pins f H s:=
 ⟨I.ok,I.os,I.bare,I.base,let ⟨m,h,g⟩:=I.loc;⟨m,h,λi x v p o n=>g i x v p (w i v o) n⟩,I.cell,I.free,I.freeC,I.pin,I.hok,l.trans I.len⟩
def Inv.pins_of (I:Inv X pins σ H s) (h:∀p∈pins',s.heap.get? p.1=some p.2/\H p.1=none/\p.1≠X.env.locals/\p.1∉X.fs/\∀v,p.2.data≠.cell v):Inv X pins' σ H s:=
 ⟨I.ok,I.os,I.bare,I.base,I.loc,I.cell,I.free,I.freeC,λp f=>(WC.mp f).elim (λz=>I.pin p (WV _ z)) (h p),I.hok,I.len⟩
def NT{N:Yg}(f:N.Nodup){i j:Nat}{x}(a:N[i]?=some x)(b:N[j]?=some x):i=j:=by
 obtain⟨n,h⟩:=WO.mp a;obtain⟨l,g⟩:=WO.mp b;exact(List.getElem_inj f).mp (h.trans g.symm)
def Rq{i x v u Q}(I:Inv X pins σ H s)(hN:X.N.Nodup)(hi:X.N[i]?=some x)(hx:Loc X.env.scope x)(r:RelV v u)(h:∀s',Inv X pins (σ.set i<|some v) H s'->(∃a,Heap.SameBut a s.heap s'.heap/\(a=X.env.locals\/X.env.cells.lookup x=some a))->Q () s')(hf:autoParam (X.fn x=true\/X.env.scope.names.lookup x=some .local) au_2):wpAny M A (storeName X.env x u) Q E s:=by
 obtain⟨m,hn,hl⟩:=id I.loc;have hcls:(X.env.scope.kind == .class || (X.env.scope.kind == .module&&X.env.locals != X.env.globals))=false:=by rw[I.ok.kind];rfl
 have G:i<σ.length:=by rw[I.len];exact(WO.mp hi).1
 have cne:=I.cne
 have tracked:∀{a:Addr} {h':Heap},(∃o,s.heap.get? a=some o/\H a=none)->Heap.SameBut a s.heap h'->HOk X.prog X.w H h':=λ{a h'} ha f b ob e=>by
  obtain⟨_,_,t⟩:=ha;refine(I.hok b ob e).stay (λc w' l q=>(f.2 c ?_).trans q) (λ_ q=>q) λ_ _ q=>q;rintro rfl;rcases l with rfl|l
  ·rw[t]at e;cases e
  ·rw[t]at l;cases l
 rcases hx with C|C
 ·refine wpAny_storeName_local C hn (λh' hn' f=>?_) hcls;obtain⟨oL,_,_,hoL,_⟩:=id hn;refine h _ ⟨I.ok,I.os,I.bare,⟨λb o e n T hx=>?_,λb o e n T hx=>?_,I.base.free,λb o e hx=>?_,I.base.tups,I.base.frzs,I.base.tbls⟩,⟨_,hn',λj y v' g B e3=>?_⟩,λy c e=>?_,I.free,I.freeC,λp hp=>?_,tracked ⟨oL,hoL,I.free⟩ f,by simpa using I.len⟩ ⟨_,f,.inl rfl⟩
  ·exact(f.2 b<|WK<|W1 (Ws e) I.ok.above).trans (I.base.keep b o e n T hx)
  ·obtain⟨sl,g⟩:=I.base.slot b o e n T hx;exact⟨sl,(f.2 b<|WK<|W1 (Ws e) I.ok.above).trans g⟩
  ·obtain⟨o',g⟩:=I.base.there b o e hx;exact⟨o',(f.2 b<|WK<|W1 (Ws e) I.ok.above).trans g⟩
  ·by_cases J:j=i
   ·subst J;rw[hi]at g;cases g;rw[List.getElem?_set_self G]at B;cases B
    exact⟨u,r,.inl ⟨C,by simp⟩⟩
   ·rw[QG (Ne.symm J)]at B;obtain⟨u',r',q⟩:=hl j y v' g B e3;refine⟨u',r',?_⟩;rcases q with⟨k,e⟩|⟨k,c,e,z⟩
    ·refine .inl ⟨k,?_⟩
     have:y≠x:=λe=>J (NT hN g (e▸hi))
     simp[this,e]
    ·exact .inr ⟨k,c,e,z.sameBut f (cne y c e)⟩
  ·obtain⟨w',z⟩:=I.cell y c e;exact⟨w',z.sameBut f (cne y c e)⟩
  ·obtain⟨e,n,ne,nf,d⟩:=I.pin p hp;exact⟨(f.2 p.1 ne).trans e,n,ne,nf,d⟩
 ·have L:X.fn x=true:=by
   rcases hf with z|z
   ·exact z
   ·rw[z]at C;cases C
  obtain⟨c,l⟩:=I.ok.has x (.inl C);obtain⟨w',z⟩:=I.cell x c l;refine wpAny_storeName_cell I.ok.kind C l z (λh' hc' f=>?_);obtain⟨oc,Y,U⟩:=id z;refine h {s with heap:=h'} ⟨I.ok,I.os,I.bare,⟨λb o e n T hx=>?_,λb o e n T hx=>?_,I.base.free,λb o e hx=>?_,I.base.tups,I.base.frzs,I.base.tbls⟩,⟨m,hn.sameBut f (Ne.symm<|cne x c l),λj y v' g B e3=>?_⟩,λy c' e=>?_,I.free,I.freeC,λp hp=>?_,tracked ⟨oc,Y,I.freeC x c l⟩ f,by simpa using I.len⟩ ⟨c,f,.inr l⟩
  ·exact(f.2 b<|WK<|W1 (Ws e)<|I.ok.cab x c L l).trans (I.base.keep b o e n T hx)
  ·obtain⟨sl,g⟩:=I.base.slot b o e n T hx;exact⟨sl,(f.2 b<|WK<|W1 (Ws e)<|I.ok.cab x c L l).trans g⟩
  ·obtain⟨o',g⟩:=I.base.there b o e hx;exact⟨o',(f.2 b<|WK<|W1 (Ws e)<|I.ok.cab x c L l).trans g⟩
  ·by_cases J:j=i
   ·subst J;rw[hi]at g;cases g;rw[List.getElem?_set_self G]at B;cases B
    exact⟨u,r,.inr ⟨.inl C,c,l,hc'⟩⟩
   ·rw[QG (Ne.symm J)]at B;obtain⟨u',r',q⟩:=hl j y v' g B e3;refine⟨u',r',?_⟩;rcases q with q|⟨k,c',e,z'⟩
    ·exact .inl q
    ·refine .inr ⟨k,c',e,z'.sameBut f ?_⟩;rintro rfl;exact J (NT hN g (I.ok.inj _ _ _ e l▸hi))
  ·by_cases hcc:c'=c
   ·subst hcc;exact⟨_,hc'⟩
   ·obtain⟨w2,z2⟩:=I.cell y c' e;exact⟨w2,z2.sameBut f hcc⟩
  ·obtain⟨e,n,ne,nf,d⟩:=I.pin p hp;refine⟨(f.2 p.1 ?_).trans e,n,ne,nf,d⟩;intro q;rw[q,Y]at e;exact d w' (by rw[←(Wt e)];exact U)
def Bs{i x v u Q}(I:Inv X pins σ H s)(n:X.N.Nodup)(g:X.N[i]?=some x)(hx:Loc X.env.scope x)(r:RelV v u)(h:∀f,Inv X pins (σ.set i<|some v) H f->Q () f)(l:autoParam (X.fn x=true\/X.env.scope.names.lookup x=some .local) au_2):wpAny M A (storeName X.env x u) Q E s:=
 Rq I n g hx r (λf o _=>h f o) l
def Inv.call' {ch} (I:Inv X pins σ H s) (l:f.os=s.os) (u:Un (frs X.stack) ch H H' s.heap f.heap) (g:HOk X.prog X.w H' f.heap) (n:AllBare f.gens)
  (h:∀b∈ch,(b∈X.ex\/X.s₀.heap.objs.size<=b)/\b≠X.env.locals/\(∀x c,X.env.cells.lookup x=some c->c≠b)/\∀p∈X.pn++pins,p.1≠b):Inv X pins σ H' f:=by
 obtain⟨h',t,v,o,r⟩:=f;subst l;exact I.call u g n h
end
abbrev XK:=Value->Yk->Hp->Prop
abbrev St:=List (Option V)
abbrev VK:=V->Hp->Prop
abbrev TE:=St->Hp->VK->Prop
abbrev TT:=St->Hp->(Bool->Hp->Prop)->Prop
abbrev TA:=St->Hp->(List V->Hp->Prop)->Prop
structure Ends where
 nx:St->Hp->Prop
 rt:VK
 bk:St->Hp->Prop:=λ_ _=>False
 ct:St->Hp->Prop:=λ_ _=>False
abbrev TS:=Ends->St->Hp->Prop
def EP(X:Cx)(pins:Ya)(g:St)(Q:VK)(u:Value)(h:Shared):Prop:=∃v f,Inv X pins g f h/\RelV v u/\Q v f
def TP(X:Cx)(pins:Ya)(g:St)(Q:Bool->Hp->Prop)(b:Bool)(h:Shared):Prop:=∃f,Inv X pins g f h/\Q b f
def AP(X:Cx)(pins:Ya)(h:St)(Q:List V->Hp->Prop)(us:Yf)(l:Shared):Prop:=∃f g,Inv X pins h g l/\Vals f us/\Q f g
def SP(X:Cx)(pins:Ya)(D:Ends)(f:Flow)(l:Shared):Prop:=
 match f with
 | .next=>∃g h,Inv X pins g h l/\D.nx g h
 | .brk=>∃g h,Inv X pins g h l/\D.bk g h
 | .cont=>∃g h,Inv X pins g h l/\D.ct g h
 | .ret u=>∃v g h,Inv X pins g h l/\RelV v u/\D.rt v h
def PE(X:Cx)(e:Expr)(t:TE):Prop:=
 ∀(pins:Ya) (s:Shared) (f:St) (H:Hp) (Q:VK),Inv X pins f H s->t f H Q->wpAny (model X.prog X.w) X.A (eval e X.env) (EP X pins f Q) X.xe s
def PT(X:Cx)(e:Expr)(t:TT):Prop:=
 ∀(pins:Ya) (s:Shared) (f:St) (H:Hp) (Q:Bool->Hp->Prop),Inv X pins f H s->t f H Q->wpAny (model X.prog X.w) X.A (isTrue e X.env<|eval e X.env) (TP X pins f Q) X.xe s
def PW(X:Cx)(e:Expr)(t:TT):Prop:=
 ∀(whole:Sem Value) (pins:Ya) (s:Shared) (f:St) (H:Hp) (Q:Bool->Hp->Prop),Inv X pins f H s->t f H Q->wpAny (model X.prog X.w) X.A (isTrue e X.env whole) (TP X pins f Q) X.xe s
def PW.pt (h:PW X e t):PT X e t:=h _
def PA(X:Cx)(es:Yh)(t:TA):Prop:=
 ∀(pos:Pos) (pins:Ya) (s:Shared) (f:St) (H:Hp) (Q:List V->Hp->Prop),Inv X pins f H s->t f H Q->wpAny (model X.prog X.w) X.A (spliced<|backTo pos<|starEach es X.env) (AP X pins f Q) X.xe s
def PS(X:Cx)(st:Stmt)(t:TS):Prop:=
 ∀(pins:Ya) (s:Shared) (f:St) (H:Hp) (D:Ends),Inv X pins f H s->t D f H->wpAny (model X.prog X.w) X.A (exec st X.env) (SP X pins D) X.xe s
def PSs(X:Cx)(st:Yi)(t:TS):Prop:=
 ∀(pins:Ya) (s:Shared) (f:St) (H:Hp) (D:Ends),Inv X pins f H s->t D f H->wpAny (model X.prog X.w) X.A (execs st X.env) (SP X pins D) X.xe s
def thn{M A E s}(h:wpAny M A t Q E s)(f:∀a s,Q a s->g a s):wpAny M A t g E s:=WQ h f λ_ _ x=>x
section
variable {X:Cx}
def bin{z t}(G:PE X a z)(E:PE X b t){pins}{s}{g:St}{H}{R:V->V->Hp->Prop}(I:Inv X pins g H s)(h:z g H λx r=>t g r λy o=>R x y o){α}{Q}{f:Value->Value->Sem α}(T:∀v u p x y o,Inv X pins g o p->RelV x v->RelV y u->R x y o->wpAny (model X.prog X.w) X.A (f v u) Q X.xe p) :
  wpAny (model X.prog X.w) X.A (eval a X.env) (λv n=>wpAny (model X.prog X.w) X.A (eval b X.env) (λu l=>wpAny (model X.prog X.w) X.A (f v u) Q X.xe l) X.xe n) X.xe s:=by
 refine thn (G pins s g H _ I h) λv B ⟨x,r,J,M,C⟩=>?_;refine thn (E pins B g r _ J C) λu p ⟨y,o,U,L,N⟩=>?_
 grind
noncomputable def UA(i:Nat):TE:=λf H Q=>∃v,f[i]?=some (some v)/\Q v H
noncomputable def tC(v:V):TE:=λ_ H Q=>Q v H
def Mf{pos}(C:X.N[i]?=some x)(y:Vis X.env.scope x)(o:autoParam ((x==("__debug__" : Str))=false) au_1)(p:autoParam ((x==("__classdict__" : Str))=false) au_1):PE X (.Name x pos) (UA i):=by
 intro pins s w H Q I h;obtain⟨v,e,h⟩:=h;obtain⟨m,z,B⟩:=I.loc;obtain⟨u,r,l⟩:=B i x v C e y;have n:EP X pins w Q u s:=⟨v,H,I,r,h⟩;rcases l with⟨g,A⟩|⟨g,c,t,f⟩
 ·exact wpAny_Name (wpAny_loadName_local I.ok.kind g z A n) o
 ·rcases g with g|g
  ·exact wpAny_Name (wpAny_loadName_cell I.ok.kind g t f n) o
  ·exact wpAny_Name (wpAny_loadName_free I.ok.kind g t f n p) o
def JE:PE X (.Constant (.int i) j pos) (tC<|.int i):=λ_ _ _ H _ I h=>wpAny_Constant_int ⟨.int i,H,I.tok _,⟨_,rfl⟩,h⟩
def AB:PE X (.Constant (.bool b) j pos) (tC<|.bl b):=λ_ _ _ H _ I h=>Constant_bool ⟨.bl b,H,I,rfl,h⟩
def JD:PE X (.Constant (.str x) j pos) (tC<|.str x):=λ_ _ _ H _ I h=>Calls.Constant_str ⟨.str x,H,I.tok _,⟨_,rfl⟩,h⟩
def Gl(X:Cx)(x:Str):Prop:=X.env.kindOf x=some .globalImplicit
def Kn{pins}{s}{f:St}{H}{x}{u}{pos}{Q}(I:Inv X pins f H s)(l:Gl X x)(g:X.mg x=some u)(h:Q u s)(n:autoParam ((x==("__debug__" : Str))=false) au_1):wpAny (model X.prog X.w) X.A (eval (.Name x pos) X.env) Q E s:=
 Calls.Name_function_global I.ok.kind l (Calls.loadGlobal_global (by rw[I.ok.glob];exact I.mod.glob.keeps I.bk) g h) n
def Pi{E}{pins}{s}{f:St}{H}{x}{u}{pos}{Q}(I:Inv X pins f H s)(o:Gl X x)(n:X.mg x=none)(g:bootBuiltins x=some u)(h:Q u s)(l:autoParam (x≠"__name__") au_1)(p:autoParam ((x==("__debug__" : Str))=false) au_1):wpAny (model X.prog X.w) X.A (eval (.Name x pos) X.env) Q E s:=by
 obtain⟨v,t,r⟩:=I.mod.blt;exact Calls.Name_function_global I.ok.kind o (Calls.loadGlobal_builtin (by rw[I.ok.glob];exact I.mod.glob.keeps I.bk) n (by rw[I.ok.blt];exact t.keeps I.bk) ((r x l).trans g) h) p
def SS{u pos}(g:Gl X x)(f:X.mg x=some u)(r:RelV v u)(l:autoParam ((x==("__debug__" : Str))=false) au_1):PE X (.Name x pos) (tC v):=
 λ_ _ _ H _ I h=>Kn I g f ⟨v,H,I,r,h⟩ l
def XJ{u pos}(n:Gl X x)(l:X.mg x=none)(f:bootBuiltins x=some u)(r:RelV v u)(g:autoParam (x≠"__name__") au_1)(o:autoParam ((x==("__debug__" : Str))=false) au_1):PE X (.Name x pos) (tC v):=
 λ_ _ _ H _ I h=>Pi I n l f ⟨v,H,I,r,h⟩ g o
variable {a b:Expr}{ta tb:TE}{pos:Pos}
def PC(X:Cx)(l:CmpOp)(a b:Expr)(t:TE):Prop:=
 ∀(pins:Ya) (s:Shared) (h:St) (H:Hp) (Q:VK),Inv X pins h H s->t h H Q->
  wpAny (model X.prog X.w) X.A (eval a X.env) (λv g=>wpAny (model X.prog X.w) X.A (eval b X.env) (λu f=>wpAny (model X.prog X.w) X.A (compareOp l v u) (EP X pins h Q) X.xe f) X.xe g) X.xe s
def Hr(b:Expr){op}(h:op≠.In)(l:op≠.NotIn):behindInMarks op b=false:=by
 have g:(op==CmpOp.In)=false:=by grind
 have f:(op==CmpOp.NotIn)=false:=by grind
 cases b<;>simp[behindInMarks,g,f]
noncomputable def tB(t:TE):TT:=λf H Q=>t f H λx g=>∃c,x=.bl c/\Q c g
def BP(h:PC X g a b t)(f:behindInMarks g b=false:=by first|exact Hr _ (by decide) (by decide)|rfl):PT X (.Compare a [g] [b] pos) (tB t):=by
 intro pins s l H Q I hw;refine wpAny_isTrue_Compare1 (thn (h pins s l H _ I hw) λv A f=>thn f λu z p=>thn p ?_) f;rintro c y ⟨x,w,r,n,o⟩;obtain⟨d,rfl,q⟩:=o;cases n
 exact Qj ⟨w,r,q⟩
variable {tA tB':TT}{rest:Yh}
noncomputable def EB(t u:TT):TT:=λf H Q=>t f H λc g=>if c=true then u f g Q else Q false g
noncomputable def tOr(t u:TT):TT:=λf H Q=>t f H λc g=>if c=true then Q true g else u f g Q
noncomputable def CL(t:TT):TT:=λf H Q=>t f H λc g=>Q (!c) g
def HV(g:PT X a tA):PW X (.BoolOp .And [a] pos) tA:=by
 intro l pins s f H Q I h;refine isTrue_and (thn (g pins s f H Q I h) λc n e=>?_);cases c with
 |true=>exact isTrue_and_nil e
 |false=>exact e
def CZ(g:PT X a tA):PW X (.BoolOp .Or [a] pos) tA:=by
 intro l pins s f H Q I h;refine isTrue_or (thn (g pins s f H Q I h) λc n e=>?_);cases c with
 |false=>exact isTrue_or_nil e
 |true=>exact e
def Oa(p:PT X a tA)(o:PW X (.BoolOp .And (b::rest) pos) tB'):PW X (.BoolOp .And (a::b::rest) pos) (EB tA tB'):=by
 intro g pins s f H Q I h;refine isTrue_and (thn (p pins s f H _ I h) λc l ⟨t,r,n⟩=>?_);cases c with
 |true=>exact o g pins l f t Q r n
 |false=>trivial
def FU(p:PT X a tA)(o:PW X (.BoolOp .Or (b::rest) pos) tB'):PW X (.BoolOp .Or (a::b::rest) pos) (tOr tA tB'):=by
 intro g pins s f H Q I h;refine isTrue_or (thn (p pins s f H _ I h) λc l ⟨t,r,n⟩=>?_);cases c with
 |true=>trivial
 |false=>exact o g pins l f t Q r n
def Cu(g:PT X a tA):PT X (.UnaryOp .Not a pos) (CL tA):=by
 intro pins s f H Q I h;exact isTrue_not (g pins s f H (λc l=>Q (!c) l) I h)
noncomputable def Fp(ta tb:TE):TE:=λf H Q=>ta f H λx g=>∃c,x=.bl c/\if c=true then tb f g Q else Q (.bl false) g
noncomputable def Cv(ta:TE):TE:=λf H Q=>ta f H λx g=>∃c,x=.bl c/\Q (.bl (!c)) g
def HA{t}(h:PE X a t):PE X (.BoolOp f [a] pos) t:=by trivial
def LX(t:PE X a ta)(r:PE X (.BoolOp .And (b::rest) pos) tb):PE X (.BoolOp .And (a::b::rest) pos) (Fp ta tb):=by
 intro pins s g H Q I h;refine BoolOp_and (thn (t pins s g H _ I h) ?_);rintro v o ⟨x,n,l,p,f⟩;obtain⟨c,rfl,f⟩:=f;cases p
 refine Qj ?_;cases c with
 |true=>exact r pins o g n Q l f
 |false=>exact⟨.bl false,n,l,rfl,f⟩
def Ig(n:PE X a ta):PE X (.UnaryOp .Not a pos) (Cv ta):=by
 intro pins s g H Q I h;refine UnaryOp_ (thn (n pins s g H _ I h) ?_);rintro v r ⟨x,p,o,l,f⟩;obtain⟨c,rfl,f⟩:=f;cases l
 exact not_of (Qj ⟨.bl (!c),p,o,rfl,f⟩)
noncomputable def tIf(t:TT)(ta tb:TE):TE:=λf H Q=>t f H λc g=>if c=true then ta f g Q else tb f g Q
def EX(p:PT X c tA)(t:PE X a ta)(r:PE X b tb):PE X (.IfExp c a b pos) (tIf tA ta tb):=by
 intro pins s f H Q I h;refine wpAny_IfExp (thn (p pins s f H _ I h) ?_);rintro d g ⟨o,n,l⟩;cases d with
 |true=>exact t pins g f o Q n l
 |false=>exact r pins g f o Q n l
end
def SqL(K:ZX)(H:Hp)(a:Addr)(xs:List V):Prop:=
 Rd H a (.lst xs)\/
  ∃(o:Obj) (f:Array Value) (n:Nat),K.lookup a=some o/\o.cls=.type "list"/\o.dict=none/\o.data=.seq f n/\f.size<=sizeLine/\Vals xs f.toList
def SqT(K:ZX)(H:Hp)(a:Addr)(xs:List V):Prop:=
 Rd H a (.tup xs)\/
  ∃(o:Obj) (f:Array Value) (n:Nat),K.lookup a=some o/\o.cls=.type "tuple"/\o.data=.seq f n/\f.size<=sizeLine/\Vals xs f.toList
noncomputable def Iy:Value->Option V
 | .none=>some .non
 | .bool b=>some (.bl b)
 | .int i _=>some (.int i)
 | .str x _=>some (.str x)
 | .bytes b _=>some (.byt b)
 | .float b _=>some (.flt b)
 | .ref a=>some (.ref a)
 | .type n=>some (.ty n)
 |_=>none
def RelV.abs (r:RelV x u):Iy u=some x:=by
 cases x with
 |non|bl _|ref _|ty _=>cases r;rfl
 |_=>obtain⟨t,rfl⟩:=r;rfl
def RelV.inj {u} (r:RelV x u) (q:RelV y u):x=y:=Wt (r.abs.symm.trans q.abs)
def Vals.inj:∀{xs f}{us:Yf},Vals xs us->Vals f us->xs=f:=by
 intro p
 induction p with
 |nil=>
  intro _ _ h g;cases h
  cases g
  rfl
 |cons _ _ o=>
  intro _ _ h g;cases h with
  |cons h r=>
   cases g with
   |cons n l=>rw[h.inj n,o r l]
section
variable {X:Cx}{pins:Ya}{σ:St}{H:Hp}{s:Shared}{a:Addr}{xs ys:List V}
def SqL.of {K} (h:H a=some (.lst xs)):SqL K H a xs:=.inl (.inl h)
def SqT.of {K} (h:H a=some (.tup xs)):SqT K H a xs:=.inl (.inl h)
def Inv.list (I:Inv X pins σ H s) (h:SqL X.K H a xs):∃f,Vals xs f/\PlainL s.heap a f.toArray/\xs.length<=sizeLine:=by
 rcases h with h|⟨o,f,n,l,t,p,g,u,r⟩
 ·obtain⟨z,f,n,r,e⟩:=h.ok I.hok;exact⟨f,r,⟨_,n,e,rfl,rfl,rfl⟩,z⟩
 ·refine⟨f.toList,r,⟨o,n,I.kIn a o l,t,p,by simpa using g⟩,?_⟩;have e:=r.length
  grind
def Inv.tuple (I:Inv X pins σ H s) (h:SqT X.K H a xs):∃f,Vals xs f/\IsTup s.heap a f.toArray/\xs.length<=sizeLine:=by
 rcases h with h|⟨o,f,n,l,t,g,u,r⟩
 ·obtain⟨z,f,r,p⟩:=h.ok I.hok
  grind
 ·refine⟨f.toList,r,⟨o,I.kIn a o l,t,n,by simpa using g⟩,?_⟩;have e:=r.length
  grind
def Inv.list_inj (I:Inv X pins σ H s) (h:SqL X.K H a xs) (p:SqL X.K H a ys):xs=ys:=by
 obtain⟨g,r,⟨o,n,e,_,_,d⟩,_⟩:=I.list h;obtain⟨f,l,⟨t,u,v,_,_,w⟩,_⟩:=I.list p
 have:g=f:=by grind
 subst this;exact r.inj l
def Inv.tuple_inj (I:Inv X pins σ H s) (h:SqT X.K H a xs) (p:SqT X.K H a ys):xs=ys:=by
 obtain⟨g,r,⟨o,e,_,n,d⟩,_⟩:=I.tuple h;obtain⟨f,l,⟨t,v,_,u,w⟩,_⟩:=I.tuple p
 have:g=f:=by grind
 subst this;exact r.inj l
end
noncomputable abbrev Cx.wish (X:Cx) (E:Yc):Cx:={X with xe:=E}
noncomputable abbrev Cx.nox (X:Cx):Cx:=X.wish λ_ _=>False
def Cx.Ok.wish {X:Cx} (ok:X.Ok) (E:Yc):(X.wish E).Ok:=
 ⟨ok.mod,ok.kind,ok.glob,ok.blt,ok.above,ok.inj,ok.has,ok.cab,ok.hd,ok.frames,ok.stk,ok.exf,ok.bs,ok.bsz,ok.noex,ok.exfs,ok.funs,ok.frf⟩
def Cx.Ok.unwish {X:Cx}{E} (ok:(X.wish E).Ok):X.Ok:=
 ⟨ok.mod,ok.kind,ok.glob,ok.blt,ok.above,ok.inj,ok.has,ok.cab,ok.hd,ok.frames,ok.stk,ok.exf,ok.bs,ok.bsz,ok.noex,ok.exfs,ok.funs,ok.frf⟩
section
variable {X:Cx}{pins:Ya}{σ:St}{H:Hp}{s:Shared}{E:Yc}
def Inv.wish (I:Inv X pins σ H s) (E:Yc):Inv (X.wish E) pins σ H s:=⟨I.ok.wish E,I.os,I.bare,I.base,I.loc,I.cell,I.free,I.freeC,I.pin,I.hok,I.len⟩
def Inv.unwish (I:Inv (X.wish E) pins σ H s):Inv X pins σ H s:=⟨I.ok.unwish,I.os,I.bare,I.base,I.loc,I.cell,I.free,I.freeC,I.pin,I.hok,I.len⟩
def SP.unwish (h:SP (X.wish E) pins D f n):SP X pins D f n:=by
 cases f with
 |ret u=>obtain⟨v,g,l,I,r,q⟩:=h;exact⟨v,g,l,I.unwish,r,q⟩
 |_=>obtain⟨g,l,I,q⟩:=h;exact⟨g,l,I.unwish,q⟩
def PSs.nox {st t} (h:PSs X.nox st t):PSs X st t:=λpins s σ H D I hw=>
 WQ (h pins s σ H D (I.wish _) hw) (λ_ _ q=>q.unwish) λ_ _ z=>False.elim z
end
section
variable {X:Cx}{st:Stmt}{rest:Yi}{t u:TS}{e:Expr}{te:TE}{pos:Pos}
noncomputable def Dy:TS:=λD f H=>D.nx f H
noncomputable def Ce(t u:TS):TS:=λD f H=>t {D with nx:=u D} f H
def Fu:PSs X [] Dy:=λ_ _ f H _ I h=>wpAny_execs_nil ⟨f,H,I,h⟩
def Ee(p:PS X st t)(o:PSs X rest u):PSs X (st::rest) (Ce t u):=by
 intro pins s l H D I h;refine wpAny_execs_cons (thn (p pins s l H {D with nx:=u D} I h) λf n q=>?_)
 cases f with
 |next=>
  obtain⟨g,v,r,q⟩:=q;exact o pins n g v D r q
 |_=>exact q
def Uw(l:PS X st t):PSs X [st] t:=by
 intro pins s g H D I h;refine wpAny_execs_cons (thn (l pins s g H D I h) λf n q=>?_);cases f with
 |next=>exact wpAny_execs_nil q
 |_=>lia
def Inv.quiet {f:St}{H}{s} (I:Inv X pins f H s):interactive X.env=false:=by simp[interactive,I.ok.kind]
noncomputable def Tx(te:TE):TS:=λD f H=>te f H λ_ g=>D.nx f g
def Xg(n:PE X e te)(l:autoParam (swapsWith e none pos.line X.env=pure false) au_0):PS X (.Expr e pos) (Tx te):=by
 intro pins s f H D I h;exact wpAny_Expr_any (thn (n pins s f H _ I h) λv r ⟨x,p,o,w,g⟩=>⟨f,p,o,g⟩) I.quiet l
noncomputable def Po(te:TE):TS:=λD f H=>te f H D.rt
def JH(n:PE X e te):PS X (.Return (some e) pos) (Po te):=by
 intro pins s f H D I h;exact wpAny_Return_some (thn (n pins s f H _ I h) λv r ⟨x,p,o,g,l⟩=>⟨x,f,p,o,g,l⟩)
noncomputable def BS(c:TT)(t u:TS):TS:=λD f H=>c f H λb g=>if b=true then t D f g else u D f g
def Fx{tc}(p:PT X c tc)(v:PSs X a t)(r:PSs X b u):PS X (.If c a b pos) (BS tc t u):=by
 intro pins s f H D I h;refine wpAny_If (thn (p pins s f H _ I h) ?_);rintro d g ⟨o,n,l⟩;cases d with
 |true=>exact v pins g f o D n l
 |false=>exact r pins g f o D n l
noncomputable def Eo:TS:=λ_ _ _=>False
def T4:PS X st Eo:=λ_ _ _ _ _ _ h=>h.elim
end
abbrev TG:=V->St->Hp->(St->Hp->Prop)->Prop
abbrev TGs:=List V->St->Hp->(St->Hp->Prop)->Prop
def PG(X:Cx)(target:Expr)(t:TG):Prop:=
 ∀(pins:Ya) (s:Shared) (g:St) (H:Hp) (v:V) (u:Value) (Q:St->Hp->Prop),Inv X pins g H s->RelV v u->t v g H Q->
  wpAny (model X.prog X.w) X.A (assign target X.env u) (λ_ l=>∃f h,Inv X pins f h l/\Q f h) X.xe s
def PGs(X:Cx)(o:Yh)(t:TGs):Prop:=
 ∀(pins:Ya) (s:Shared) (g:St) (H:Hp) (h:List V) (l:Yf) (Q:St->Hp->Prop),Inv X pins g H s->Vals h l->t h g H Q->
  wpAny (model X.prog X.w) X.A (assignInOrder ((assignEach o X.env).map (·.2)) l) (λ_ p=>∃f n,Inv X pins f n p/\Q f n) X.xe s
section
variable {X:Cx}{pos:Pos}
noncomputable def PU(i:Nat):TG:=λv f H Q=>Q (f.set i<|some v) H
def Og(l:X.N.Nodup)(f:X.N[i]?=some x)(hx:Loc X.env.scope x)(g:autoParam (X.fn x=true\/X.env.scope.names.lookup x=some .local) au_2):PG X (.Name x pos) (PU i):=by
 intro pins s o H v u Q I r h;exact wpAny_assign_Name (Bs I l f hx r (λp n=>⟨_,H,n,h⟩) g)
noncomputable def Aw:TGs:=λg f H Q=>g=[]/\Q f H
noncomputable def FK(t:TG)(u:TGs):TGs:=λh g H Q=>∃v r,h=v::r/\t v g H λf l=>u r f l Q
def OI:PGs X [] Aw:=by
 intro pins s f H g l Q I r h;obtain⟨e,h⟩:=h;exact assignInOrder_nil ⟨f,H,I,h⟩
def LI{t u}(x:PG X e t)(w:PGs X es u)(p:autoParam ((assignEach (e::es) X.env).map (·.2)=assign e X.env::(assignEach es X.env).map (·.2)) au_0):PGs X (e::es) (FK t u):=by
 intro pins s g H B E Q I r h;obtain⟨v,C,y,h⟩:=h;subst y;cases r with
 |cons r n=>
  rw[p];refine assignInOrder_cons (thn (x pins s g H _ _ _ I r h) ?_);rintro _ l ⟨f,A,z,o⟩;exact w pins l f A _ _ Q z n o
noncomputable def NG(K:ZX)(n:Nat)(t:TGs):TG:=λv f H Q=>∃a xs,v=.ref a/\SqT K H a xs/\xs.length=n/\t xs f H Q
def Ry{k t n}(z:X.calm=true)(h:PGs X es t)(x:autoParam ((assignEach es X.env).length=n) au_0)(f:autoParam ((assignEach es X.env).findIdx? (·.1)=none) au_0):PG X (.Tuple es k pos) (NG X.K n t):=by
 intro pins s g H v u Q I r hw;obtain⟨a,xs,B,hq,y,hw⟩:=hw;subst B;cases r
 obtain⟨p,l,w,E⟩:=I.tuple hq;refine assign_Tuple_tuple (I.ok.hd z) w (by simp[x,←y,l.length]) f λA hx=>?_;have C:Inv X pins g H {s with heap:=A}:=I.kept λb o e=>hx b o (WK<|Ws e) e
 exact h pins _ g H xs _ Q C (by lia) hw
noncomputable def To(te:TE)(g:TG):TS:=λD f H=>te f H λx h=>g x f h D.nx
def Hg(u:X.N.Nodup)(p:X.N[i]?=some x)(hx:Loc X.env.scope x)(t:PE X e te)(o:autoParam (swapsWith e (some<|.Name x f) pos.line X.env=pure false) au_0)(r:autoParam (X.fn x=true\/X.env.scope.names.lookup x=some .local) au_2) :
  PS X (.Assign [.Name x f] e pos) (To te<|PU i):=by
 intro pins s g H D I h;refine wpAny_Assign_Name (thn (t pins s g H _ I h) λv C ⟨y,A,z,l,n⟩=>?_) o;exact Bs z u p hx l (λB w=>⟨_,A,w,n⟩) r
end
structure It where
 go:Nat->Hp->Prop
 yld:Nat->Hp->V->Hp->Prop
 stop:Nat->Hp->Prop
def XM(X:Cx)(pins:Ya)(H:Hp)(b:Addr):Prop:=
 H b=none/\b≠X.env.locals/\b∉X.fs/\(b∈X.ex\/X.s₀.heap.objs.size<=b)/\(∀x c,X.env.cells.lookup x=some c->c≠b)/\∀p∈X.pn++pins,p.1≠b
def Inv.fpOk {g:St}{H H'}{s}{b:Addr} (I:Inv X pins g H s) (f:s.heap.objs.size<=b) (l:H' b=none):XM X pins H' b:=by
 refine⟨l,Nat.ne_of_gt (W1 I.lt f),I.nofs f,.inr (Wk I.sz f),λx c e z=>?_,λp h z=>?_⟩
 ·obtain⟨v,q⟩:=I.cell x c e;exact absurd (W1 q.lt<|by grind) (Qa _)
 ·exact absurd (W1 (Ws (I.pin p h).1)<|by grind) (Qa _)
structure Turn (P:Program) (w:World) (K:ZX) (tg:Expr) (J:It) (fp:List Addr) (it:Addr) (tn:Nat->Heap->Prop):Prop where
 mem:it∈fp
 obj:∀i h,tn i h->∀b∈fp,∃o,h.get? b=some o/\∀v,o.data≠.cell v
 keep:∀i h h',tn i h->(∀b∈fp,∀o,h.get? b=some o->h'.get? b=some o)->tn i h'
 item:∀(X:Cx),X.prog=P->X.w=w->X.K=K->X.calm=true->∀(i:Nat) (pins:Ya) (s:Shared) (σ:St) (H:Hp) (E:Yc),Inv X pins σ H s->(∀b∈fp,XM X pins H b)->tn i s.heap->J.go i H->
  wpAny (model P w) X.A (pyNext<|.ref it) (λr s1=>∃u,r=some u/\
   wpAny (model P w) X.A (letOwnedTupleGo tg (.ref it) u) (λ_ s2=>∃x H',Inv X pins σ H' s2/\RelV x u/\J.yld i H x H'/\tn (i+1) s2.heap/\∀b∈fp,H' b=none) E s1) E s
 done:∀(X:Cx),X.prog=P->X.w=w->X.K=K->X.calm=true->∀(i:Nat) (pins:Ya) (s:Shared) (σ:St) (H:Hp) (E:Yc),Inv X pins σ H s->(∀b∈fp,XM X pins H b)->tn i s.heap->J.stop i H->
  wpAny (model P w) X.A (pyNext<|.ref it) (λr s1=>r=none/\Inv X pins σ H s1) E s
 self:∀(A:Around) (i:Nat) (s:Shared) (Q:Yc) (E:Yc),tn i s.heap->Q (.ref it) s->wpAny (model P w) A (pyIter<|.ref it) Q E s
abbrev TI:=St->Hp->(It->Hp->Prop)->Prop
def PIE(X:Cx)(pins:Ya)(o:St)(p:Expr)(R:It->Hp->Prop)(f:Value)(h:Shared):Prop:=
 ∃(l:Addr) (n:List Addr) (tn:Nat->Heap->Prop) (J:It) (g:Hp),f=.ref l/\Inv X pins o g h/\Turn X.prog X.w X.K p J n l tn/\tn 0 h.heap/\(∀b∈n,XM X pins g b)/\R J g
def PI(X:Cx)(h iter:Expr)(g:TI):Prop:=
 ∀(pins:Ya) (s:Shared) (f:St) (H:Hp) (R:It->Hp->Prop),Inv X pins f H s->g f H R->
  wpAny (model X.prog X.w) X.A (eval iter X.env) (λv l=>wpAny (model X.prog X.w) X.A (pyIter v) (PIE X pins f h R) X.xe l) X.xe s
def Tj {s g h u o n vs Q} (l : s.heap.get? h = some o) (r : o.cls = .type n) (p : o.data = .fields vs)
    (t : ["enumerate", "zip", "dict_itemiterator", "dict_reverseitemiterator", "odict_iterator", "itertools.zip_longest", "itertools.pairwise"].contains n = false) (f : Q () s) : wpAny M A (letOwnedTupleGo g (.ref h) u) Q E s := by
  cases g <;> first
    | exact Wy f
    | (cases u <;> first
        | exact Wy f
        | (refine Wp (wpAny_load l ?_)
           rw [r, p]
           show wpAny M A (if (["enumerate", "zip", "dict_itemiterator", "dict_reverseitemiterator", "odict_iterator", "itertools.zip_longest", "itertools.pairwise"].contains n && vs[0]? == some (rawInt _)) = true then _ else _) Q E s
           rw [Wo (by grind)]
           exact Wy f))
noncomputable def Itl(K:ZX)(a:Addr):It:=
 ⟨λi H=>∃xs x,SqL K H a xs/\xs[i]?=some x,λi H x f=>f=H/\∀xs,SqL K H a xs->xs[i]?=some x,λi H=>∃xs,SqL K H a xs/\xs.length<=i⟩
noncomputable def Itt(K:ZX)(a:Addr):It:=
 ⟨λi H=>∃xs x,SqT K H a xs/\xs[i]?=some x,λi H x f=>f=H/\∀xs,SqT K H a xs->xs[i]?=some x,λi H=>∃xs,SqT K H a xs/\xs.length<=i⟩
noncomputable def Itr(lo:Int)(n:Nat):It:=⟨λi _=>i<n,λi H x f=>f=H/\x=.int (lo+i),λi _=>n<=i⟩
def GZ{K tg}(a it:Addr):Turn P w K tg (Itl K a) [it] it (λi h=>h.IsListIter it a i) where
 mem:=by simp
 obj:=λi h st b hb=>by
  have e:b=it:=by simpa using hb
  subst e;obtain⟨o,e,c,d⟩:=st;exact⟨o,e,λv z=>by rw[d]at z;cases z⟩
 keep:=λi h h' st k=>st.at λo e=>k it (by simp) o e
 item:=by
  intro X hP hw hK hc i pins s σ H E I hf st hg;subst hP hw hK;obtain⟨xs,x,hq,hx⟩:=hg;obtain⟨its,rv,p,hz⟩:=I.list hq;obtain⟨u,hu,ru⟩:=rv.get hx;obtain⟨f0,f1,f2,f3,f4,f5⟩:=hf it (by simp);refine wpAny_pyNext_list_item st p.isList (by simpa using hu) λh' st' sb=>?_;have I1:Inv X pins σ H {s with heap:=h'}:=I.turned (λb o hb e=>(sb.2 b hb).trans e) f0 f1 f3 f4 f5
  obtain⟨o,e,c,d⟩:=id st';exact⟨u,rfl,Tj e c d (by decide) ⟨x,H,I1,ru,⟨rfl,λys hy=>by rw[I.list_inj hy hq];exact hx⟩,st',λb hb=>(hf b hb).1⟩⟩
 done:=by
  intro X hP hw hK hc i pins s σ H E I hf st hg;subst hP hw hK;obtain⟨xs,hq,hx⟩:=hg;obtain⟨its,rv,p,hz⟩:=I.list hq;obtain⟨f0,f1,f2,f3,f4,f5⟩:=hf it (by simp);have hl:=rv.length;exact wpAny_pyNext_list_end (I.ok.hd hc) st p.isList (by simp;lia) λh' eb=>⟨rfl,I.turned (λb o hb e=>eb b o hb e) f0 f1 f3 f4 f5⟩
 self:=λ_ _ _ _ _ st h=>wpAny_pyIter_listiter st h
def MH{K tg}(a it:Addr):Turn P w K tg (Itt K a) [it] it (λi h=>h.IsTupleIter it a i) where
 mem:=by simp
 obj:=λi h st b hb=>by
  have e:b=it:=by simpa using hb
  subst e;obtain⟨o,e,c,d⟩:=st;exact⟨o,e,λv z=>by rw[d]at z;cases z⟩
 keep:=λi h h' st k=>st.at λo e=>k it (by simp) o e
 item:=by
  intro X hP hw hK hc i pins s σ H E I hf st hg;subst hP hw hK;obtain⟨xs,x,hq,hx⟩:=hg;obtain⟨its,rv,p,hz⟩:=I.tuple hq;obtain⟨u,hu,ru⟩:=rv.get hx;obtain⟨f0,f1,f2,f3,f4,f5⟩:=hf it (by simp);refine wpAny_pyNext_tuple_item st p (by simpa using hu) λh' st' sb=>?_;have I1:Inv X pins σ H {s with heap:=h'}:=I.turned (λb o hb e=>(sb.2 b hb).trans e) f0 f1 f3 f4 f5
  obtain⟨o,e,c,d⟩:=id st';exact⟨u,rfl,Tj e c d (by decide) ⟨x,H,I1,ru,⟨rfl,λys hy=>by rw[I.tuple_inj hy hq];exact hx⟩,st',λb hb=>(hf b hb).1⟩⟩
 done:=by
  intro X hP hw hK hc i pins s σ H E I hf st hg;subst hP hw hK;obtain⟨xs,hq,hx⟩:=hg;obtain⟨its,rv,p,hz⟩:=I.tuple hq;obtain⟨f0,f1,f2,f3,f4,f5⟩:=hf it (by simp);have hl:=rv.length;exact wpAny_pyNext_tuple_end (I.ok.hd hc) st p (by simp;lia) λh' eb=>⟨rfl,I.turned (λb o hb e=>eb b o hb e) f0 f1 f3 f4 f5⟩
 self:=λ_ _ _ _ _ st h=>wpAny_pyIter_tupleiter st h
def Hm{K tg}(it:Addr)(lo:Int)(n:Nat):Turn P w K tg (Itr lo n) [it] it (λi h=>IsRangeIter h it (lo+(i:Nat)*1) ((n:Int)-(i:Nat)) 1) where
 mem:=by simp
 obj:=λi h st b hb=>by
  have e:b=it:=by simpa using hb
  subst e
  exact⟨_,st,λv z=>by
   cases z⟩
 keep:=λi h h' st k=>k it (by simp) _ st
 item:=by
  intro X hP hw hK hc i pins s σ H E I hf st hg;subst hP hw hK;obtain⟨f0,f1,f2,f3,f4,f5⟩:=hf it (by simp);refine(Walks.range (prog:=X.prog) (w:=X.w) (I.ok.hd hc) it lo 1 n).item i s _ _ hg st λv h' tk hv st' kk=>?_;obtain⟨t,rfl⟩:=hv;have I1:Inv X pins σ H {s with heap:=h',toks:=tk}:=I.turned (λb o hb e=>kk b o (by simpa using hb) e) f0 f1 f3 f4 f5
  refine⟨_,rfl,Tj st' rfl rfl (by decide) ⟨.int (lo+i),H,I1,⟨t,?_⟩,⟨rfl,rfl⟩,st',λb hb=>(hf b hb).1⟩⟩;rw[Int.mul_one]
 done:=by
  intro X hP hw hK hc i pins s σ H E I hf st hg;obtain⟨f0,f1,f2,f3,f4,f5⟩:=hf it (by simp);exact wpAny_pyNext_range_end (I.ok.hd hc) st (by have:n<=i:=hg;lia) λh' eb=>⟨rfl,I.turned (λb o hb e=>eb b o hb e) f0 f1 f3 f4 f5⟩
 self:=λ_ _ _ _ _ st h=>wpAny_pyIter_rangeiter st h
section
variable {X:Cx}{tg:Expr}
noncomputable def Ta(K:ZX)(h:TE):TI:=λg H R=>h g H λx f=>∃a,x=.ref a/\(∃xs,SqL K f a xs)/\R (Itl K a) f
noncomputable def BC(K:ZX)(h:TE):TI:=λg H R=>h g H λx f=>∃a,x=.ref a/\(∃xs,SqT K f a xs)/\R (Itt K a) f
def Hj(y:PE X l r):PI X tg l (Ta X.K r):=by
 intro pins s n H R I h;refine thn (y pins s n H _ I h) λv g ⟨x,z,f,t,u⟩=>?_;obtain⟨a,e,⟨xs,hq⟩,q⟩:=u;subst e;cases t
 obtain⟨w,A,p,B⟩:=f.list hq;refine wpAny_pyIter_list p.isList ?_;refine⟨g.heap.objs.size,[g.heap.objs.size],_,_,z,rfl,f.kept λb o e=>Wq _ e,GZ a _,⟨_,W2 _ rfl,rfl,rfl⟩,λb C=>?_,q⟩;have e:b=g.heap.objs.size:=by grind
 subst e;exact f.fpOk (Wn _) (f.hok.fresh<|Wn _)
def M5(y:PE X l r):PI X tg l (BC X.K r):=by
 intro pins s n H R I h;refine thn (y pins s n H _ I h) λv g ⟨x,z,f,t,u⟩=>?_;obtain⟨a,e,⟨xs,hq⟩,q⟩:=u;subst e;cases t
 obtain⟨w,A,p,B⟩:=f.tuple hq;refine wpAny_pyIter_tuple p ?_;refine⟨g.heap.objs.size,[g.heap.objs.size],_,_,z,rfl,f.kept λb o e=>Wq _ e,MH a _,⟨_,W2 _ rfl,rfl,rfl⟩,λb C=>?_,q⟩;have e:b=g.heap.objs.size:=by grind
 subst e;exact f.fpOk (Wn _) (f.hok.fresh<|Wn _)
def Ew{g:St}{H}{s}{R}{E}{lo f}{t u v}{tk}(I:Inv X pins g H s)(x:-(2 ^ 62)<=lo)(r:lo<2 ^ 62)(p:-(2 ^ 62)<=f)(n:f<2 ^ 62)(q:R (Itr lo (f-lo).toNat) H):wpAny (model X.prog X.w) X.A (pyIter<|.ref s.heap.objs.size) (PIE X pins g tg R) E {s with heap:=s.heap.push {cls:=.type "range",data:=.fields #[.int lo t,.int f u,.int 1 v]},toks:=tk}:=by
 refine wpAny_pyIter_range (IsRange.new ..) (small_one x r p n) ?_;have h:Inv X pins g H {s with heap:=s.heap.push {cls:=.type "range",data:=.fields #[.int lo t,.int f u,.int 1 v]},toks:=tk}:=I.kept λb o e=>Wq _ e
 refine⟨(s.heap.push {cls:=.type "range",data:=.fields #[.int lo t,.int f u,.int 1 v]}).objs.size,[(s.heap.push {cls:=.type "range",data:=.fields #[.int lo t,.int f u,.int 1 v]}).objs.size],_,_,H,rfl,
  h.kept λb o e=>Wq _ e,Hm _ lo (f-lo).toNat,?_,λb l=>?_,q⟩
 ·have z:lo+((0:Nat):Int)*1=lo:=by simp
  have y:(((f-lo).toNat:Nat):Int)-((0:Nat):Int)=Builtin.Range.rangeSize lo f 1:=by rw[rangeSize_one];split<;>lia
  rw[z,y];exact W2 _ rfl
 ·have e:b=(s.heap.push {cls:=.type "range",data:=.fields #[.int lo t,.int f u,.int 1 v]}).objs.size:=by simpa using l
  subst e;exact h.fpOk (Wn _) (h.hok.fresh<|Wn _)
noncomputable def Fy(h:TA):TI:=λf H R=>h f H λg l=>∃j:Int,g=[.int j]/\-(2 ^ 62)<=j/\j<2 ^ 62/\R (Itr 0 j.toNat) l
noncomputable def AA(h:TA):TI:=λf H R=>h f H λg l=>∃i j:Int,g=[.int i,.int j]/\(-(2 ^ 62)<=i/\i<2 ^ 62/\-(2 ^ 62)<=j/\j<2 ^ 62)/\R (Itr i (j-i).toNat) l
def Gp(x:Gl X "range")(w:X.mg "range"=none)(y:PA X [a] l)(v:autoParam (starEach [a] X.env=[(false,eval a X.env)]) au_0):PI X tg (.Call (.Name "range" p) [a] [] pos) (Fy l):=by
 intro pins s g H R I h;refine Call_ (Pi I x w boot_range<|Qu (thn (y pos pins s g H _ I h) λB C ⟨A,E,z,o,f⟩=>?_) v rfl);obtain⟨j,e,f,u,q⟩:=f;subst e;cases o with
 |cons r n=>
  cases n
  obtain⟨t,rfl⟩:=r;exact call_range_1 (Ew z (by lia) (by lia) f u<|by grind)
def Ou{p pos}(A:Gl X "range")(z:X.mg "range"=none)(B:PA X [a,b] o)(M:autoParam (starEach [a,b] X.env=[(false,eval a X.env),(false,eval b X.env)]) au_0)(l:autoParam (starEach [b] X.env=[(false,eval b X.env)]) au_0) :
  PI X tg (.Call (.Name "range" p) [a,b] [] pos) (AA o):=by
 intro pins s n H R I h;refine Call_ (Pi I A z boot_range<|Qu (thn (B pos pins s n H _ I h) λG L ⟨E,N,C,u,g⟩=>?_) (by grind)<|by rw[l];rfl);obtain⟨i,j,e,⟨g,y,x,w⟩,q⟩:=g;subst e;cases u with
 |cons r f=>
  cases f with
  |cons v f=>
   cases f
   obtain⟨t,rfl⟩:=r;obtain⟨J,rfl⟩:=v;exact call_range_2 (Ew C g y x w q)
noncomputable def DR(p:TI)(g:TG)(r:TS):TS:=λD f H=>p f H λJ t=>∃W:Nat->Nat->St->Hp->Prop,(∃m,W 0 m f t)/\∀i m f H,W i m f H->
 (J.stop i H/\D.nx f H)\/(J.go i H/\∃N:St->Hp->Prop,(∀h l,N h l->∃o,o<m/\W (i+1) o h l)/\∀x l,J.yld i H x l->g x f l λn s=>r {D with nx:=N,ct:=N,bk:=D.nx} n s)
noncomputable def P5(f:List Addr)(h:Heap):Ya:=f.filterMap λb=>(h.get? b).map λo=>(b,o)
def Ti{b o}(f:b∈g)(e:h.get? b=some o):(b,o)∈P5 g h:=QN.mpr ⟨b,f,by rw[e];rfl⟩
def Rt(f:p∈P5 g h):p.1∈g/\h.get? p.1=some p.2:=by
 obtain⟨b,l,e⟩:=QN.mp f;cases q:h.get? b with
 |_=>grind
def Inv.pinned {f:St}{H}{s}{fp} (I:Inv X pins f H s) (h:∀b∈fp,XM X pins H b) (n:∀b∈fp,∃o,s.heap.get? b=some o/\∀v,o.data≠.cell v):Inv X (pins++P5 fp s.heap) f H s:=
 I.pins_of λp g=>(WC.mp g).elim (λz=>I.pin p (WB _ z)) λz=>by
  obtain⟨l,e⟩:=Rt z;obtain⟨f0,f1,r,_⟩:=h p.1 l
  grind
def Inv.unpinned {f:St}{H}{s} (I:Inv X (pins++h) f H s):Inv X pins f H s:=I.pins_of λp g=>I.pin p (WB _<|WV _ g)
def Rv{wi g tb pos}(M:PassesOwn (model X.prog X.w) X.A X.env X.xe)(hc:X.calm=true)(hi:PI X tg iter wi)(hg:PG X tg g)(y:PSs X body tb)(hs:autoParam (∀x,foldedSetIterable iter X.env x=pure x) au_3):PS X (.For tg iter body [] pos) (DR wi g tb):=by
 intro pins s σ H D I h;refine wpAny_For (thn (hi pins s σ H _ I h) λv s1 h1=>thn h1 λitv s2 h2=>?_) hs;obtain⟨it,U,tn,J,H2,e,I2,T,st2,f2,W,⟨m0,w0⟩,turn⟩:=h2;subst e;have stat:∀{B:Hp},(∀b∈U,B b=none)->∀b∈U,XM X pins B b:=λhn b y=>⟨hn b y,(f2 b y).2⟩;refine codeAny_forLoop_any (λn s'=>∃i t B,Inv X pins t B s'/\tn i s'.heap/\(∀b∈U,B b=none)/\W i n t B) ?_ m0 ⟨0,σ,H2,I2,st2,λb y=>(f2 b y).1,w0⟩;rintro n s3 ⟨i,p,Y,I3,L,Q,w3⟩;rcases turn i n p Y w3 with⟨stop,qn⟩|⟨go,N,hN,step⟩
 ·refine Q1 M (thn (T.done X rfl rfl rfl hc i pins s3 p Y X.xe I3 (stat Q) L stop) ?_);rintro r s4 ⟨hr,I4⟩;subst hr;exact wpAny_execs_nil ⟨p,Y,I4,qn⟩
 ·refine Q1 M (thn (T.item X rfl rfl rfl hc i pins s3 p Y X.xe I3 (stat Q) L go) ?_);rintro r s4 ⟨u,hr,h4⟩;subst hr;refine Q1 M (thn h4 ?_);rintro _ s5 ⟨x,H5,I5,r5,y5,E,fr5⟩;refine Q1 M (thn (hg _ s5 p H5 x u _ (I5.pinned (stat fr5)<|T.obj _ _ E) r5<|step x H5 y5) ?_);rintro _ s6 ⟨σ6,H6,I6,q6⟩;refine Q1 M (thn (y _ s6 σ6 H6 _ I6 q6) λf s7 G=>?_)
  have again:∀{l:St} {z:Hp},Inv X (pins++P5 U s5.heap) l z s7->N l z->∃m,m<n/\∃i t B,Inv X pins t B s7/\tn i s7.heap/\(∀b∈U,B b=none)/\W i m t B:=λ{l z} C n7=>by
   obtain⟨m',hm,w7⟩:=hN l z n7;refine⟨m',hm,i+1,l,z,C.unpinned,T.keep _ _ _ E λb y o e=>(C.pin (b,o)<|WB _<|WB _<|Ti y e).1,λb y=>?_,w7⟩;obtain⟨o,e,d⟩:=T.obj _ _ E b y;exact(C.pin (b,o)<|WB _<|WB _<|Ti y e).2.1
  cases f with
  |brk=>obtain⟨l,z,C,G⟩:=G;exact⟨l,z,C.unpinned,G⟩
  |ret v=>obtain⟨x7,l,z,C,r7,G⟩:=G;exact⟨x7,l,z,C.unpinned,r7,G⟩
  |_=>obtain⟨l,z,C,n7⟩:=G;exact again C n7
end
abbrev R2:=V->V->Hp->VK->Prop
def OpR(X:Cx)(f:Value->Value->Sem Value)(r:R2):Prop:=
 ∀(pins:Ya) (s:Shared) (g:St) (H:Hp) (x y:V) (v u:Value) (Q:VK),Inv X pins g H s->RelV x v->RelV y u->r x y H Q->
  wpAny (model X.prog X.w) X.A (f v u) (EP X pins g Q) X.xe s
def UnR(X:Cx)(f:Value->Sem Value)(r:V->Hp->VK->Prop):Prop:=
 ∀(pins:Ya) (s:Shared) (g:St) (H:Hp) (x:V) (v:Value) (Q:VK),Inv X pins g H s->RelV x v->r x H Q->
  wpAny (model X.prog X.w) X.A (f v) (EP X pins g Q) X.xe s
def UE(X:Cx)(f:Value)(r:List V->Hp->VK->Prop):Prop:=
 ∀(pins:Ya) (s:Shared) (g:St) (H:Hp) (xs:List V) (h:Yf) (Q:VK),Inv X pins g H s->Vals xs h->r xs H Q->
  wpAny (model X.prog X.w) X.A (call f h) (EP X pins g Q) X.xe s
def RX(X:Cx)(r:V->Hp->(Bool->Hp->Prop)->Prop):Prop:=
 ∀(pins:Ya) (s:Shared) (f:St) (H:Hp) (x:V) (v:Value) (Q:Bool->Hp->Prop),Inv X pins f H s->RelV x v->r x H Q->
  wpAny (model X.prog X.w) X.A (truthy v) (TP X pins f Q) X.xe s
noncomputable def tOp(r:R2)(h g:TE):TE:=λf H Q=>h f H λx n=>g f n λy l=>r x y l Q
noncomputable def tUn(r:V->Hp->VK->Prop)(g:TE):TE:=λf H Q=>g f H λx h=>r x h Q
noncomputable def rI(C:Int->Int->Prop)(g:Int->Int->V):R2:=λx y H Q=>∃i j,x=.int i/\y=.int j/\C i j/\Q (g i j) H
noncomputable def rI0(g:Int->Int->V):R2:=λx y H Q=>∃i j,x=.int i/\y=.int j/\Q (g i j) H
def rU(g:Int->V):V->Hp->VK->Prop:=λx H Q=>∃i,x=.int i/\Q (g i) H
section
variable {X:Cx}{a b c:Expr}{ta tb tc:TE}{pos:Pos}
def Nu(C:PE X a ta)(B:PE X b tb){pins}{s}{g:St}{H}{R:V->V->Hp->Prop}(I:Inv X pins g H s)(h:ta g H λx r=>tb g r λy o=>R x y o){Q}{f:Value->Value->Sem Value}(M:∀v u p x y o,Inv X pins g o p->RelV x v->RelV y u->R x y o->wpAny (model X.prog X.w) X.A (f v u) Q X.xe p) :
  wpAny (model X.prog X.w) X.A (eval a X.env) (λv n=>wpAny (model X.prog X.w) X.A (eval b X.env) (λu l=>wpAny (model X.prog X.w) X.A (f v u) Q X.xe l) X.xe n) X.xe s:=by
 refine thn (C pins s g H _ I h) λv t ⟨x,r,E,J,z⟩=>?_;refine thn (B pins t g r _ E z) λu p ⟨y,o,N,G,L⟩=>?_
 grind
def Kp(p:OpR X (binaryOp o) r)(w:PE X a ta)(t:PE X b tb):PE X (.BinOp a o b pos) (tOp r ta tb):=by
 intro pins s f H Q I h;exact wpAny_BinOp (Nu w t I h λv u g x y A z n l q=>p pins g f A x y v u Q z n l q)
def X9(p:UnR X (unaryOp o) r)(t:PE X a ta):PE X (.UnaryOp o a pos) (tUn r ta):=by
 intro pins s f H Q I h;exact UnaryOp_ (thn (t pins s f H _ I h) λv g ⟨x,w,u,l,n⟩=>p pins g f w x v Q u l n)
def opI{C}{g:Int->Int->Int}(rule:∀i j t u s Q E,C i j->Q (.int (g i j) s.toks) {s with toks:=s.toks+1}->wpAny (model X.prog X.w) X.A (f (.int i t)<|.int j u) Q E s) :
  OpR X f (rI C λi j=>.int (g i j)):=by
 intro pins s r H x y v u Q I o n h;obtain⟨i,j,rfl,rfl,p,q⟩:=h;obtain⟨t,rfl⟩:=o;obtain⟨l,rfl⟩:=n;exact rule i j t l s _ _ p ⟨.int (g i j),H,I.tok _,⟨_,rfl⟩,q⟩
def AK{g:Int->Int->Int}(rule:∀i j t u s Q E,Q (.int (g i j) s.toks) {s with toks:=s.toks+1}->wpAny (model X.prog X.w) X.A (f (.int i t)<|.int j u) Q E s) :
  OpR X f (rI0 λi j=>.int (g i j)):=by
 intro pins s p H x y v u Q I o n h;obtain⟨i,j,rfl,rfl,q⟩:=h;obtain⟨t,rfl⟩:=o;obtain⟨l,rfl⟩:=n;exact rule i j t l s _ _ ⟨.int (g i j),H,I.tok _,⟨_,rfl⟩,q⟩
def N1{g:Int->Int->Bool}(rule:∀i j t u s Q E,Q (.bool<|g i j) s->wpAny (model X.prog X.w) X.A (f (.int i t)<|.int j u) Q E s) :
  OpR X f (rI0 λi j=>.bl (g i j)):=by
 intro pins s p H x y v u Q I o n h;obtain⟨i,j,rfl,rfl,q⟩:=h;obtain⟨t,rfl⟩:=o;obtain⟨l,rfl⟩:=n;exact rule i j t l s _ _ ⟨.bl (g i j),H,I,rfl,q⟩
def Sv(i j:Int):Prop:=0<j/\j<1073741824
def SI(i j:Int):Prop:=0<=j/\j<=1000000/\i.natAbs<2 ^ 64
def CMul(i j:Int):Prop:=(-(2 ^ 64)<i/\i<2 ^ 64)\/(-(2 ^ 64)<j/\j<2 ^ 64)
def CMul.ok (h:CMul i j):IntMulOk i j:=by
 rcases h with⟨g,f⟩|⟨g,f⟩
 ·exact .of_left (intBits_le_64 g f)
 ·exact .of_right (intBits_le_64 g f)
def JS:OpR X (binaryOp .Add) (rI0 λi j=>.int (i+j)):=AK λ_ _ _ _ _ _ _ q=>add_int q
def U2:OpR X (binaryOp .Sub) (rI0 λi j=>.int (i-j)):=AK λ_ _ _ _ _ _ _ q=>sub_int q
def PK:OpR X (binaryOp .Mult) (rI CMul λi j=>.int (i*j)):=opI λ_ _ _ _ _ _ _ f q=>mul_int q f.ok
def Ub:OpR X (binaryOp .FloorDiv) (rI Sv λi j=>.int (i / j)):=opI λi j _ _ _ _ _ f q=>by
 have h:=f.1;have g:=f.2;exact floordiv_int (by lia) (by rw[Int.fdiv_eq_ediv_of_nonneg i (by lia)];exact q) (.inl<|PyProof.noPylong_small<|by lia)
def JK:OpR X (binaryOp .Mod) (rI (λ_ j=>0<j) λi j=>.int (i % j)):=opI λi j _ _ _ _ _ f q=>by
 exact mod_int' (by lia) (by grind)
def B7:OpR X (binaryOp .Pow) (rI SI λi j=>.int (i ^ j.toNat)):=opI λ_ _ _ _ _ _ _ f q=>pow_int_small f.1 f.2.1 f.2.2 q
def unI{g:Int->Int}(rule:∀i t s Q E,Q (.int (g i) s.toks) {s with toks:=s.toks+1}->wpAny (model X.prog X.w) X.A (f<|.int i t) Q E s) :
  UnR X f (rU λi=>.int (g i)):=by
 intro pins s n H x v Q I l h;obtain⟨i,rfl,q⟩:=h;obtain⟨t,rfl⟩:=l;exact rule i t s _ _ ⟨.int (g i),H,I.tok _,⟨_,rfl⟩,q⟩
def X4:UnR X (unaryOp .USub) (rU λi=>.int (-i)):=unI λ_ _ _ _ _ q=>neg_int q
end
noncomputable def AQ:V->V->Bool
 | .non,.non=>true | .non,.int _=>true | .int _,.non=>true | .non,.bl _=>true | .bl _,.non=>true | .non,.str _=>true | .str _,.non=>true
 | .int _,.int _=>true | .bl _,.bl _=>true | .str _,.str _=>true | .byt _,.byt _=>true
 | .int _,.str _=>true | .str _,.int _=>true | .bl _,.str _=>true | .str _,.bl _=>true
 |_,_=>false
noncomputable def rEq:R2:=λx y H Q=>AQ x y=true/\Q (.bl<|decide (x=y)) H
noncomputable def rNe:R2:=λx y H Q=>AQ x y=true/\Q (.bl (!decide (x=y))) H
def Cs{i j:Int}:decide (V.int i=V.int j)=(i==j):=by
 rw[Q2];simp
def E4{i j:Bool}:decide (V.bl i=V.bl j)=(i==j):=by
 rw[Q2];simp
def FO{i j:Str}:decide (V.str i=V.str j)=(i==j):=by
 rw[Q2];simp
def A9{i j:Array UInt8}:decide (V.byt i=V.byt j)=(i.toList==j.toList):=by
 rw[Q2];cases i
 cases j
 simp
section
variable {X:Cx}{a b c:Expr}{ta tb tc:TE}{pos:Pos}
def JR{f:St}{H}{s}{Q}{k g}(I:Inv X pins f H s)(q:Q (.bl k) H)(e:k=g):EP X pins f Q (.bool g) s:=by
 subst e;exact⟨.bl k,H,I,rfl,q⟩
def op_eq:OpR X (compareOp .Eq) rEq:=by
 intro pins s o H x y v u Q I n f h;obtain⟨l,q⟩:=h;cases x with
 |non=>
  cases n
  cases y with
  |non=>cases f;exact PySem.EqNone.eq_none_none (JR I q<|by simp)
  |bl j=>cases f;exact PySem.EqNone.eq_none_bool (JR I q<|by simp)
  |int j=>obtain⟨g,rfl⟩:=f;exact PySem.EqNone.eq_none_int (JR I q<|by simp)
  |str j=>obtain⟨g,rfl⟩:=f;exact PySem.EqNone.eq_none_str (JR I q<|by simp)
  |_=>exact absurd l Wz
 |bl i=>
  cases n
  cases y with
  |non=>cases f;exact PySem.EqNone.eq_bool_none (JR I q<|by simp)
  |bl j=>cases f;exact eq_bool (JR I q E4)
  |str j=>obtain⟨g,rfl⟩:=f;exact PySem.EqMixed.eq_bool_str (JR I q<|by simp)
  |_=>exact absurd l Wz
 |int i=>
  obtain⟨t,rfl⟩:=n;cases y with
  |non=>cases f;exact PySem.EqNone.eq_int_none (JR I q<|by simp)
  |int j=>obtain⟨g,rfl⟩:=f;exact eq_int (JR I q Cs)
  |str j=>obtain⟨g,rfl⟩:=f;exact PySem.EqMixed.eq_int_str (JR I q<|by simp)
  |_=>exact absurd l Wz
 |str i=>
  obtain⟨t,rfl⟩:=n;cases y with
  |non=>cases f;exact PySem.EqNone.eq_str_none (JR I q<|by simp)
  |bl j=>cases f;exact PySem.EqMixed.eq_str_bool (JR I q<|by simp)
  |int j=>obtain⟨g,rfl⟩:=f;exact PySem.EqMixed.eq_str_int (JR I q<|by simp)
  |str j=>obtain⟨g,rfl⟩:=f;exact eq_str (JR I q FO)
  |_=>exact absurd l Wz
 |byt i=>
  obtain⟨t,rfl⟩:=n;cases y with
  |byt j=>obtain⟨g,rfl⟩:=f;exact PySem.W.eq_bytes (JR I q A9)
  |_=>exact absurd l Wz
 |_=>cases y<;>exact absurd (show false=true from l) Wz
def op_ne:OpR X (compareOp .NotEq) rNe:=by
 intro pins s o H x y v u Q I n f h;obtain⟨l,q⟩:=h;cases x with
 |non=>
  cases n
  cases y with
  |non=>cases f;exact PySem.EqNone.ne_none_none (JR I q<|by simp)
  |bl j=>cases f;exact PySem.EqNone.ne_none_bool (JR I q<|by simp)
  |int j=>obtain⟨g,rfl⟩:=f;exact PySem.EqNone.ne_none_int (JR I q<|by simp)
  |str j=>obtain⟨g,rfl⟩:=f;exact PySem.EqNone.ne_none_str (JR I q<|by simp)
  |_=>exact absurd l Wz
 |bl i=>
  cases n
  cases y with
  |non=>cases f;exact PySem.EqNone.ne_bool_none (JR I q<|by simp)
  |bl j=>cases f;exact ne_bool (JR I q<|W9 not E4)
  |str j=>obtain⟨g,rfl⟩:=f;exact PySem.EqMixed.ne_bool_str (JR I q<|by simp)
  |_=>exact absurd l Wz
 |int i=>
  obtain⟨t,rfl⟩:=n;cases y with
  |non=>cases f;exact PySem.EqNone.ne_int_none (JR I q<|by simp)
  |int j=>obtain⟨g,rfl⟩:=f;exact ne_int (JR I q<|W9 not Cs)
  |str j=>obtain⟨g,rfl⟩:=f;exact PySem.EqMixed.ne_int_str (JR I q<|by simp)
  |_=>exact absurd l Wz
 |str i=>
  obtain⟨t,rfl⟩:=n;cases y with
  |non=>cases f;exact PySem.EqNone.ne_str_none (JR I q<|by simp)
  |bl j=>cases f;exact PySem.EqMixed.ne_str_bool (JR I q<|by simp)
  |int j=>obtain⟨g,rfl⟩:=f;exact PySem.EqMixed.ne_str_int (JR I q<|by simp)
  |str j=>obtain⟨g,rfl⟩:=f;exact ne_str (JR I q<|W9 not FO)
  |_=>exact absurd l Wz
 |byt i=>
  obtain⟨t,rfl⟩:=n;cases y with
  |byt j=>obtain⟨g,rfl⟩:=f;exact PySem.W.ne_bytes (JR I q<|W9 not A9)
  |_=>exact absurd l Wz
 |_=>cases y<;>exact absurd (show false=true from l) Wz
def UG:OpR X (compareOp .Lt) (rI0 λi j=>.bl (decide (i<j))):=N1 λ_ _ _ _ _ _ _ q=>lt_int q
def UT:OpR X (compareOp .Gt) (rI0 λi j=>.bl (decide (j<i))):=N1 λ_ _ _ _ _ _ _ q=>gt_int q
def K6:OpR X (compareOp .GtE) (rI0 λi j=>.bl (decide (j<=i))):=N1 λ_ _ _ _ _ _ _ q=>ge_int q
def OpR.or (h:OpR X f r) (p:OpR X f o):OpR X f (λx y H Q=>r x y H Q\/o x y H Q):=by
 intro pins s g H x y v u Q I n l q;rcases q with q|q
 ·exact h pins s g H x y v u Q I n l q
 ·exact p pins s g H x y v u Q I n l q
def Xt(b:Expr){op}(h:autoParam (op≠.In) au_1)(l:autoParam (op≠.NotIn) au_1):behindInMarks op b=false:=by
 have g:(op==CmpOp.In)=false:=by grind
 have f:(op==CmpOp.NotIn)=false:=by grind
 cases b<;>simp[behindInMarks,g,f]
def Tw(p:OpR X (compareOp f) r)(z:PE X a ta)(w:PE X b tb)(t:behindInMarks f b=false):PE X (.Compare a [f] [b] pos) (tOp r ta tb):=by
 intro pins s g H Q I h;exact wpAny_Compare1 (Nu z w I h λv u l x y B A o n q=>p pins l g B x y v u Q A o n q) t
noncomputable def PQ(t:TE):TT:=λf H Q=>t f H λx g=>∃k,x=.bl k/\Q k g
def X7(C:OpR X (compareOp g) r)(J:PE X a ta)(G:PE X b tb)(E:behindInMarks g b=false):PT X (.Compare a [g] [b] pos) (PQ<|tOp r ta tb):=by
 intro pins s f H Q I h
 refine wpAny_isTrue_Compare1 (thn (J pins s f H _ I h) λv n ⟨x,Y,N,t,B⟩=>thn (G pins n f Y _ N B) λu l ⟨y,U,M,p,A⟩=>
  thn (C pins l f U x y v u _ M t p A) λc s3 ⟨z,T,L,o,k,e,w⟩=>?_) E
 subst e;cases o
 exact Qj ⟨T,L,w⟩
def B8(K:ZX)(x:V)(H:Hp)(k:Bool):Prop:=
 match x with
 | .non=>k=false
 | .bl b=>k=b
 | .int i=>k=(i != 0)
 | .str y=>y.length<=sizeLine/\k=((y.length:Int) != 0)
 | .byt y=>y.size<=sizeLine/\k=((y.size:Int) != 0)
 | .ref p=>(∃xs,SqL K H p xs/\k=!xs.isEmpty)\/(∃xs,SqT K H p xs/\k=!xs.isEmpty)\/∃f,H p=some (.dK f)/\k=!f.isEmpty
 |_=>False
def MT(r:KV f vs):(!vs.isEmpty)=!f.isEmpty:=by
 cases r<;>rfl
def Ez(r:Vals xs f):(!f.toArray.isEmpty)=!xs.isEmpty:=by
 cases r<;>simp
def TQ:(sizeLine:Nat)<2 ^ 63:=by trivial
def LY:RX X (λx H Q=>∃k,B8 X.K x H k/\Q k H):=by
 intro pins s B H x v Q I l h;obtain⟨k,e,q⟩:=h;have G:=TQ;have E:=sizeLine_eq;cases x with
 |non=>
  cases l
  have f:=e;subst f;exact truthy_none ⟨H,I,q⟩
 |bl b=>
  cases l
  have f:=e;subst f;exact Qj ⟨H,I,q⟩
 |int i=>
  obtain⟨t,rfl⟩:=l;have f:=e;subst f;exact PySem.P.truthy_int ⟨H,I,q⟩
 |str y=>
  obtain⟨t,rfl⟩:=l;obtain⟨z,f⟩:=e;subst f;exact PySem.P.truthy_str (by lia) ⟨H,I.tok _,q⟩
 |byt y=>
  obtain⟨t,rfl⟩:=l;obtain⟨z,f⟩:=e;subst f;exact PySem.W.truthy_bytes (by lia) ⟨H,I.tok _,q⟩
 |ref p=>
  cases l
  have f:=e;rcases f with⟨xs,hx,f⟩|⟨xs,hx,f⟩|⟨w,hx,f⟩
  ·subst f;obtain⟨o,r,n,u⟩:=I.list hx;have g:=r.length;exact wpAny_truthy_list n.isList (by simp only[W4];lia) ⟨H,I.tok _,by rw[Ez r];exact q⟩
  ·subst f;obtain⟨o,r,n,u⟩:=I.tuple hx;have g:=r.length;exact truthy_tuple n (by simp only[W4];lia) ⟨H,I.tok _,by rw[Ez r];exact q⟩
  ·subst f;obtain⟨u,A,C,r,m⟩:=I.hok p _ hx;have g:=Paired.length r;exact wpAny_truthy_dict A m (by lia) ⟨H,I.tok _,by rw[MT r];exact q⟩
 |_=>exact e.elim
def RP(p:PE X a ta)(o:∀whole,isTrue a X.env whole=(do let v ←whole;standAt a.pos;holding [v] (truthy v))) :
  PT X a (λf H Q=>ta f H λx H'=>∃k,B8 X.K x H' k/\Q k H'):=by
 intro pins s f H Q I h;exact isTrue_plain (thn (p pins s f H _ I h) λv g ⟨x,t,r,l,n⟩=>LY pins g f t x v Q r l n) (o _)
def A5:OpR X (binaryOp .Add) (λx y H Q=>∃i j,x=.str i/\y=.str j/\i.length+j.length<=sizeLine/\Q (.str (i++j)) H):=by
 intro pins s o H x y v u Q I l g h;obtain⟨i,j,rfl,rfl,n,q⟩:=h;obtain⟨t,rfl⟩:=l;obtain⟨f,rfl⟩:=g;exact add_str (λf p=>⟨.str (i++j),H,I.tok _,⟨_,rfl⟩,q⟩) n
def vals1(r:Vals [x] us):∃u,us=[u]/\RelV x u:=by
 cases r with
 |cons g f=>cases f;exact⟨_,rfl,g⟩
def vals2(r:Vals [x,y] us):∃u f,us=[u,f]/\RelV x u/\RelV y f:=by
 cases r with
 |cons n l=>
  cases l with
  |cons h g=>cases g;exact⟨_,_,rfl,n,h⟩
def Af(g:X.calm=true):UE X (.builtin "max") (λxs H Q=>∃i j,xs=[.int i,.int j]/\Q (.int (if j>i then j else i)) H):=by
 intro pins s l H xs o Q I r h;obtain⟨i,j,rfl,q⟩:=h;obtain⟨u,n,rfl,⟨t,rfl⟩,⟨v,rfl⟩⟩:=vals2 r;refine max_two_ints (I.ok.hd g) λw p k=>⟨_,H,I.kept k,?_,q⟩;by_cases f:j>i
 ·rw[Wm f,Wm f];exact⟨_,rfl⟩
 ·rw[Wo f,Wo f];exact⟨_,rfl⟩
def Zbg(g:X.calm=true):UE X (.builtin "min") (λxs H Q=>∃i j,xs=[.int i,.int j]/\Q (.int (if j<i then j else i)) H):=by
 intro pins s l H xs o Q I r h;obtain⟨i,j,rfl,q⟩:=h;obtain⟨u,n,rfl,⟨t,rfl⟩,⟨v,rfl⟩⟩:=vals2 r;refine min_two_ints (I.ok.hd g) λw p k=>⟨_,H,I.kept k,?_,q⟩;by_cases f:j<i
 ·rw[Wm f,Wm f];exact⟨_,rfl⟩
 ·rw[Wo f,Wo f];exact⟨_,rfl⟩
def Oe:UE X (.type "int") (λxs H Q=>(∃i,xs=[.int i]/\Q (.int i) H)\/∃k,xs=[.bl k]/\Q (.int (if k then 1 else 0)) H):=by
 intro pins s g H xs l Q I r h;rcases h with⟨i,rfl,q⟩|⟨k,rfl,q⟩
 ·obtain⟨u,rfl,t,rfl⟩:=vals1 r;exact call_int_int ⟨.int i,H,I,⟨_,rfl⟩,q⟩
 ·obtain⟨u,rfl,f⟩:=vals1 r;cases f
  exact call_int_bool ⟨.int (if k then 1 else 0),H,I.tok _,⟨_,rfl⟩,q⟩
def Nw:UE X (.type "str") (λxs H Q=>∃i,xs=[.int i]/\i.natAbs.log2<1920/\Q (.str<|toString i) H):=by
 intro pins s g H xs l Q I r h;obtain⟨i,rfl,f,q⟩:=h;obtain⟨u,rfl,t,rfl⟩:=vals1 r;exact PySem.P.str_of_int f ⟨.str _,H,I.tok _,⟨_,rfl⟩,q⟩
def T3(K:ZX)(x:V)(H:Hp)(n:Nat):Prop:=
 match x with
 | .str y=>y.length<=sizeLine/\n=y.length
 | .byt y=>y.size<=sizeLine/\n=y.size
 | .ref p=>(∃xs,SqL K H p xs/\n=xs.length)\/∃xs,SqT K H p xs/\n=xs.length
 |_=>False
def Mq:UE X (.builtin "len") (λxs H Q=>∃x n,xs=[x]/\T3 X.K x H n/\Q (.int n) H):=by
 intro pins s B H xs C Q I r h;obtain⟨x,n,rfl,e,q⟩:=h;obtain⟨u,rfl,l⟩:=vals1 r;have E:=sizeLine_eq;cases x with
 |str y=>
  obtain⟨t,rfl⟩:=l;obtain⟨A,g⟩:=e;subst g;exact len_str (by lia) ⟨.int _,H,I.tok _,⟨_,rfl⟩,q⟩
 |byt y=>
  obtain⟨t,rfl⟩:=l;obtain⟨A,g⟩:=e;subst g;exact PySem.W.len_bytes (by lia) ⟨.int _,H,I.tok _,⟨_,rfl⟩,q⟩
 |ref p=>
  cases l
  have g:=e;rcases g with⟨xs,hx,g⟩|⟨xs,hx,g⟩
  ·subst g;obtain⟨w,o,v,z⟩:=I.list hx;have f:=o.length;exact Calls.call_len_list v.isList (by simp only[W4];lia) ⟨.int xs.length,H,I.tok _,⟨_,by simp only[W4];rw[f]⟩,q⟩
  ·subst g;obtain⟨w,o,v,z⟩:=I.tuple hx;have f:=o.length;exact len_tuple v (by simp only[W4];lia) ⟨.int xs.length,H,I.tok _,⟨_,by simp only[W4];rw[f]⟩,q⟩
 |_=>exact e.elim
end
structure K5 (h:Heap) (x dx C:Addr) (mA:Yb):Prop where
 obj:h.get? x=some (PySem.W.instObj C dx)
 ns:h.Ns1 dx mA
 ne:dx≠x
def II{h:Heap}{dx}{mA}(n:h.Ns1 dx mA):∃g,h.get? dx=some g/\∀name,PySem.W.lookIn name g=some (mA name):=by
 obtain⟨o,v,w,p,u,s,_,r⟩:=n;refine⟨o,p,λname=>?_⟩;have e:=r name;unfold nsFind findBy at e;unfold PySem.W.lookIn;rw[u]
 dsimp only
 split
 ·grind
 ·rename_i q
  have a:v.toList.any (·.refKey)=false:=by
   rw[List.any_eq_false];intro y l;obtain⟨z,t,f⟩:=s y (Array.mem_toList_iff.mp l);simp[DictEntry.refKey,f]
  grind
def K5.look (I:K5 h x o C g):∃f,PySem.W.InstAt h x (PySem.W.instObj C o) C (some f)/\∀name,PySem.W.lookIn name f=some (g name):=
 let ⟨f,l,n⟩:=II I.ns
 ⟨f,⟨I.obj,rfl,rfl,l⟩,n⟩
section
variable {prog:Program}{w:World}{A:Around}{E:Yc}{s:Shared}{K:ZX}{x dx C f:Addr}{mA:Yb}{name:Str}{v:Value}
def G2{Q}(X:K.In s.heap)(I:K5 s.heap x dx C mA)(n:PySem.W.plainGet K C name=true)(l:PySem.W.hasDictIn K C=true)(o:PySem.W.findIn K (.ref C) name=some none)(r:mA name=some v)(g:PySem.W.handedIn v=true)(h:Q v {s with toks:=s.toks+1}) :
  wpAny (model prog w) A (getAttr (.ref x) name expr) Q E s:=by
 obtain⟨p,J,t⟩:=I.look;exact PySem.W.get_value X J (QI n).1 (PySem.W.findObj_own l o rfl<|by grind) g h
def RW{Q}(X:K.In s.heap)(I:K5 s.heap x dx C mA)(g:PySem.W.plainGet K C name=true)(r:PySem.W.findIn K (.ref C) name=some (some<|.ref f))(o:PySem.W.isFn K (.ref f)=true)(n:mA name=none)(h:Q (.ref f,[.ref x]) s) :
  wpAny (model prog w) A (getMethod (.ref x) name t) Q E s:=by
 obtain⟨l,J,p⟩:=I.look;exact PySem.W.method_fn X J (QI g).1 (QI g).2 r (beq_iff_eq.mp o) (by show(PySem.W.lookIn name l).map (·.isSome)=some false;rw[p,n];rfl) h
def Rg(X:K.In s.heap)(I:K5 s.heap x dx C mA)(G:PySem.W.findIn K (.ref C) "__setattr__"=some (some<|.builtin "object.__setattr__"))(H:PySem.W.plainOver K C=true)(z:PySem.W.takerIn K C name=some none)(L:PySem.W.hasDictIn K C=true)(hw:PySem.Within mA u)(B:u.length<=sizeLine)(h:∀n,K5 n x dx C (λy=>if y=name then some v else mA y)->Heap.SameBut dx s.heap n->Q () {s with heap:=n,toks:=s.toks+2}) :
  wpAny (model prog w) A (setAttr (.ref x) name v) Q E s:=by
 obtain⟨U,J,hl⟩:=I.look;refine PySem.W.set_plain X J G (PySem.W.osa_open X J H z λb=>?_);obtain⟨cd,M,r⟩:=PySem.W.any_some L;refine Wp (Wy<|Wp<|Wp<|wpAny_loadPart I.obj<|Wp<|PySem.W.Looks.here (PySem.W.looks_clsIn X M) ?_);rw[r];refine Wy (Wp<|Wy<|Wp ?_);refine wpAny_nsSet1 I.ns λn l g=>?_;obtain⟨Y,N,T,o,p,t⟩:=l.count (PySem.Within.cons name v hw);refine Wp (wpAny_lookBehind o (by rw[p];exact pastItsLine_dict (Wk t<|by grind)) ?_);exact Wy (h _ ⟨(g.2 _<|Ne.symm I.ne).trans I.obj,l,I.ne⟩ g)
def Rh{vs g}(X:K.In s.heap)(l:PySem.W.makesIn K C=true)(n:PySem.W.findIn K (.ref C) "__init__"=some (some<|.ref f))(o:PySem.W.typeIn K (.ref f)=some (.type "function"))
  (h:codeAny (model prog w) (A.under<|.builtin "type.__call__" ⟨.ref C::vs,g⟩) (.call (.ref f) ⟨.ref (s.heap.objs.size+1)::vs,g⟩) (PySem.W.InitBack (s.heap.objs.size+1) R)
   {s with heap:=(s.heap.push PySem.W.emptyDict).push (PySem.W.instObj C s.heap.objs.size)}) :
  codeAny (model prog w) A (.call (.ref C) ⟨vs,g⟩) R s:=PySem.W.make_core (PySem.W.makes_of X l) (PySem.W.looks_findIn X n) (λself=>PySem.W.bind_fn X self o) (.inl rfl) h
end
noncomputable def U4(f:Str)(v:V):List (Str×V)->List (Str×V)
 |[]=>[(f,v)]
 |(g,x)::r=>if g=f then(g,v)::r else(g,x)::U4 f v r
theorem Fw(f g:Str)(v:V):∀fs,(U4 f v fs).lookup g=if g=f then some v else fs.lookup g
 |[]=>by
  show List.lookup g [(f,v)]=_;by_cases h:g=f
  ·have l:=beq_iff_eq.mpr h;simp only[List.lookup,l,Wm h]
  ·have l:=Qz.mpr h;simp only[List.lookup,l,Wo h]
 |(k,x)::r=>by
  rw[show U4 f v ((k,x)::r)=(if k=f then(k,v)::r else(k,x)::U4 f v r)from rfl]
  by_cases n:k=f
  ·rw[Wm n];by_cases h:g=k
   ·simp_all
   ·have l:=Qz.mpr h;simp only[List.lookup,l,Wo (λe:g=f=>h (e.trans n.symm))]
  ·rw[Wo n];by_cases h:g=k
   ·simp_all
   ·have l:=Qz.mpr h;simp only[List.lookup,l];exact(Fw f g v r)
theorem NU(f:Str)(v:V):∀fs,f∈(U4 f v fs).map (·.1)/\∀g,g∈fs.map (·.1)->g∈(U4 f v fs).map (·.1)
 |[]=>⟨by simp[U4],λg h=>by simp at h⟩
 |(k,x)::r=>by
  obtain⟨n,l⟩:=NU f v r;rw[show U4 f v ((k,x)::r)=(if k=f then(k,v)::r else(k,x)::U4 f v r)from rfl]
  by_cases o:k=f
  ·grind
  ·grind
theorem FH(f:Str)(v:V):∀fs,(U4 f v fs).length<=fs.length+1
 |[]=>by simp[U4]
 |(k,x)::r=>by
  have g:=FH f v r;rw[show U4 f v ((k,x)::r)=(if k=f then(k,v)::r else(k,x)::U4 f v r)from rfl]
  by_cases h:k=f
  ·grind
  ·grind
def RelO.some_of (r:RelO (some v) o):∃u,o=some u/\RelV v u:=by
 cases o with
 |none=>trivial
 |some u=>exact⟨u,rfl,r⟩
def RelO.none_of (r:RelO none o):o=none:=by
 cases o with
 |none=>rfl
 |some u=>trivial
def Gf(r:RelV v u):PySem.W.handedIn u=true:=by
 cases v with
 |non|bl b|ref a|ty n=>cases r;rfl
 |_=>obtain⟨t,e⟩:=r;cases e;rfl
section
variable {P:Program}{w:World}{H H':Hp}{h h':Heap}{a C dx:Addr}{fs fs':List (Str×V)}
def Nd(l:HOk P w H h)(e:H a=some (.ins C dx fs)):∃g,K5 h a dx C g/\(∀f,RelO (fs.lookup f) (g f))/\PySem.Within g (fs.map (·.1))/\fs.length<=1000/\H dx=some (.own a):=by
 obtain⟨d,z,p,o,g,n,r,q⟩:=(l a _ e);exact⟨g,⟨o,n,p⟩,r,q,z,d⟩
end
structure Cls (K:ZX) (C:Addr):Prop where
 pg:PySem.W.plainGet K C Str.empty=true
 hd:PySem.W.hasDictIn K C=true
 po:PySem.W.plainOver K C=true
 sa:PySem.W.findIn K (.ref C) "__setattr__"=some (some<|.builtin "object.__setattr__")
def Cls.get {K C} (c:Cls K C) (f:Str):PySem.W.plainGet K C f=true:=c.pg
def NoAttr(K:ZX)(C:Addr)(f:Str):Prop:=PySem.W.findIn K (.ref C) f=some none
def NoAttr.taker {K C f} (n:NoAttr K C f):PySem.W.takerIn K C f=some none:=by
 unfold PySem.W.takerIn;rw[show PySem.W.findIn K (.ref C) f=some none from n]
 rfl
structure JP (K:ZX) (C:Addr) (m:Str) (f:Addr):Prop where
 at_:PySem.W.findIn K (.ref C) m=some (some<|.ref f)
 fn:PySem.W.isFn K (.ref f)=true
 kp:PySem.W.keepIn K (.ref f)=true
section
variable {X:Cx}{pins:Ya}{σ:St}{H:Hp}{s:Shared}{a C dx:Addr}{fs:List (Str×V)}{f:Str}{v:V}{A:Around}{E:Yc}
def Zag{Q}(I:Inv X pins σ H s)(e:H a=some (.ins C dx fs))(c:Cls X.K C)(n:NoAttr X.K C f)(l:fs.lookup f=some v)(h:∀u g,Inv X pins σ H g->RelV v u->Q u g):wpAny (model X.prog X.w) A (getAttr (.ref a) f b) Q E s:=by
 obtain⟨t,O,r,_,_,_⟩:=Nd I.hok e;obtain⟨u,p,o⟩:=RelO.some_of (by rw[←l];exact r f);exact G2 I.kIn O (c.get f) c.hd n p (Gf o) (h u _ (I.tok _) o)
def Ss{Q}(I:Inv X pins σ H s)(e:H a=some (.ins C dx fs))(c:Cls X.K C)(k:JP X.K C m g)(l:fs.lookup m=none)(h:Q (.ref g,[.ref a]) s):wpAny (model X.prog X.w) A (getMethod (.ref a) m n) Q E s:=by
 obtain⟨o,O,r,_,_,_⟩:=Nd I.hok e;exact RW I.kIn O (c.get m) k.at_ k.fn (RelO.none_of<|by rw[←l];exact r m) h
def OH(I:Inv X pins σ H s)(e:H a=some (.ins C dx fs))(c:Cls X.K C)(n:NoAttr X.K C f)(hl:fs.length<1000)(G:RelV y u)(h:∀t,Inv X pins σ (upd H a<|.ins C dx<|U4 f y fs) t->Q () t):wpAny (model X.prog X.w) A (setAttr (.ref a) f u) Q E s:=by
 obtain⟨J,O,r,p,_,x⟩:=Nd I.hok e;have L:(fs.map (·.1)).length<=sizeLine:=by rw[Wg,sizeLine_eq];lia
 refine Rg I.kIn O c.sa c.po n.taker c.hd p L λU l B=>h _ ?_;have N:∃o,U.get? dx=some o:=let ⟨o,_,_,Y,_⟩:=l.ns;⟨o,Y⟩;refine I.write (by rw[e];exact True.intro) (.inr x) (λb q T z=>(B.2 b T).trans z) N ?_;refine⟨by rw[JF O.ne];exact x,?_,O.ne,l.obj,_,l.ns,λg=>?_,λg M=>?_⟩
 ·have:=FH f y fs;lia
 ·show RelO ((U4 f y fs).lookup g) (if g=f then some u else J g);rw[Fw];by_cases q:g=f
  ·rw[Wm q,Wm q];exact G
  ·grind
 ·by_cases q:g=f
  ·rw[q];exact(NU f y fs).1
  ·refine(NU f y fs).2 g (p g λz=>M ?_)
   grind
def Inv.made (I:Inv X pins σ H s):Inv X pins σ (upd (upd H s.heap.objs.size<|.own (s.heap.objs.size+1)) (s.heap.objs.size+1)<|.ins C s.heap.objs.size [])
  {s with heap:=(s.heap.push PySem.W.emptyDict).push (PySem.W.instObj C s.heap.objs.size)}:=by
 have h:(s.heap.push PySem.W.emptyDict).get? s.heap.objs.size=some PySem.W.emptyDict:=W2 s.heap rfl
 have r:((s.heap.push PySem.W.emptyDict).push (PySem.W.instObj C s.heap.objs.size)).get? (s.heap.objs.size+1)=some (PySem.W.instObj C s.heap.objs.size):=by
  have:=W2 (s.heap.push PySem.W.emptyDict) (o:=PySem.W.instObj C s.heap.objs.size) rfl
  rwa[Q6]at this
 have p:(s.heap.push PySem.W.emptyDict).Ns s.heap.objs.size (λ_=>none):=⟨PySem.W.emptyDict,#[],_,h,rfl,(λe n=>absurd n (by simp)),λ_=>rfl⟩;refine(I.laid (o:=.own (s.heap.objs.size+1)) (t':=s.toks) (λb u q=>Wq _ q) (Wn _) ⟨_,h⟩).laid (λb u q=>Wq _ q) (Qc<|Q6 _ _) ?_;have g:s.heap.objs.size≠s.heap.objs.size+1:=WK (QB _);refine⟨by rw[JF g,Um],Qx _,g,r,λ_=>none,(Heap.Ns1.of_empty p).at λo q=>Wq _ q,λ_=>True.intro,λy l=>absurd rfl l⟩
def MJ{env e f pos s Q}(l:attributeBase e f env (eval e env)=eval e env)(h:wpAny (model prog w) A (eval e env) (λo g=>wpAny (model prog w) A (getAttr o f true) Q E g) E s):wpAny (model prog w) A (eval (.Attribute e f pos) env) Q E s:=
 Attribute_any_ h (by rw[arm_eval_Attribute,l])
end
noncomputable def TK(K:ZX)(l:TE)(f:Str):TE:=λh H Q=>l h H λx g=>∃a C n fs v,x=.ref a/\g a=some (.ins C n fs)/\Cls K C/\NoAttr K C f/\fs.lookup f=some v/\Q v g
noncomputable def AJ(K:ZX)(o n:TE)(f:Str):TS:=λD g H=>n g H λy p=>o g p λx l=>∃a C h fs,x=.ref a/\l a=some (.ins C h fs)/\Cls K C/\NoAttr K C f/\fs.length<1000/\
 D.nx g (upd l a<|.ins C h<|U4 f y fs)
section
variable {X:Cx}{o e value:Expr}{f:Str}{pos pos' tpos:Pos}{ta tv:TE}
def Xb(t:PE X e ta)(w:attributeBase e f X.env (eval e X.env)=eval e X.env):PE X (.Attribute e f pos) (TK X.K ta f):=by
 intro pins s g H Q I h;refine MJ w (thn (t pins s g H _ I h) ?_);rintro u L ⟨x,E,B,p,a,C,M,fs,v,y,z,c,n,l,q⟩;subst y;obtain rfl:=p;exact Zag B z c n l λG J A r=>⟨v,E,A,r,q⟩
def Ba(A:PE X o ta)(w:PE X value tv)(z:swapsWith value (some<|.Attribute o f pos') pos.line X.env=pure false):PS X (.Assign [.Attribute o f pos'] value pos) (AJ X.K ta tv f):=by
 intro pins s g H D I h;refine plainObj_wpAny_Assign_Attribute (thn (w pins s g H _ I h) ?_) z;rintro u p ⟨y,M,L,r,q⟩;refine thn (A pins p g M _ L q) ?_;rintro T Q ⟨x,Y,J,t,a,C,U,fs,B,E,c,n,l,v⟩;subst B;obtain rfl:=t;exact OH J E c n l r λN G=>⟨g,_,G,v⟩
def Zb2{m}{apos}{args}{pins}{s}{n:St}{H}{Q}{te}(E:PE X e te)(I:Inv X pins n H s)
  (h:te n H λx r=>∃a C v fs g,x=.ref a/\r a=some (.ins C v fs)/\Cls X.K C/\JP X.K C m g/\fs.lookup m=none/\
   ∀p,Inv X pins n r p->wpAny (model X.prog X.w) X.A (callWith pos (.ref g) [.ref a] (backTo pos<|starEach args X.env)<|backToKw pos<|keywordEach [] X.env) Q X.xe p)
  (B:eval (.Call (.Attribute e m apos) args [] pos) X.env=(do
   let t ←eval e X.env
   standAt apos.atName
   let (f,first) ←holding [t] (getMethod t m L)
   callWith pos f first (backTo pos<|starEach args X.env) (backToKw pos<|keywordEach [] X.env))) :
  wpAny (model X.prog X.w) X.A (eval (.Call (.Attribute e m apos) args [] pos) X.env) Q X.xe s:=by
 refine QD (thn (E pins s n H _ I h) ?_) B;rintro u p ⟨x,r,y,z,a,C,v,fs,g,G,J,c,k,l,q⟩;subst G;obtain rfl:=z;exact Ss y J c k l (q p y)
end
section
variable {X:Cx}{pins:Ya}{σ:St}{H:Hp}{s:Shared}{A:Around}{E:Yc}{Q:Yc}{c:Value}{b:Bool}
inductive UF (K:ZX) (H:Hp):V->Value->Prop where
 |non:UF K H .non (.type "NoneType")
 |bl (x:Bool):UF K H (.bl x) (.type "bool")
 |int (i:Int):UF K H (.int i) (.type "int")
 |str (x:Str):UF K H (.str x) (.type "str")
 |flt (x:UInt64):UF K H (.flt x) (.type "float")
 |lst {a:Addr} {xs:List V} (e:H a=some (.lst xs)):UF K H (.ref a) (.type "list")
 |frz {a:Addr} {o:Obj} {xs:List V} (e:H a=some (.frz o<|.lst xs)):UF K H (.ref a) (.type "list")
 |tup {a:Addr} {xs:List V} (e:H a=some (.tup xs)):UF K H (.ref a) (.type "tuple")
 |dK {a:Addr} {kvs:List (Key×V)} (e:H a=some (.dK kvs)):UF K H (.ref a) (.type "dict")
 |dT {a:Addr} {kvs:List (List Key×V)} (e:H a=some (.dT kvs)):UF K H (.ref a) (.type "dict")
 |ins {a C dx:Addr} {fs:List (Str×V)} (e:H a=some (.ins C dx fs)) (cl:Cls K C) (ha:PySem.W.findIn K (.ref C) "__class__"=some (some<|.builtin "object.__class__"))
   (hn:PySem.W.specialIn K (.builtin "object.__class__") "__get__"=some (some<|.builtin "getset_descriptor.__get__")) (htk:PySem.W.takesIn K (.builtin "object.__class__")=some true)
   (hm:PySem.W.mroIn K C (.type "object")=some true):UF K H (.ref a) (.ref C)
def O3(I:Inv X pins σ H s)(f:RelV x u)(L:UF X.K H x t)(e:PySem.W.kitOne X.K t c=some b)(h:∀M,Q (.bool b) {s with toks:=M}) :
  wpAny (model X.prog X.w) A (call (.builtin "isinstance") [u,c]) Q E s:=by
 cases L with
 |non=>cases f;exact WS PySem.W.kitx_none I.kIn True.intro e (λz=>nomatch z) h
 |bl y=>cases f;exact WS PySem.W.kitx_bool I.kIn True.intro e (λz=>nomatch z) h
 |int i=>obtain⟨t,q⟩:=f;cases q;exact WS PySem.W.kitx_int I.kIn True.intro e (λz=>nomatch z) h
 |str y=>obtain⟨t,q⟩:=f;cases q;exact WS PySem.W.kitx_str I.kIn True.intro e (λz=>nomatch z) h
 |flt y=>obtain⟨t,q⟩:=f;cases q;exact WS PySem.W.kitx_float I.kIn True.intro e (λz=>nomatch z) h
 | @lst a xs g=>
  cases f
  obtain⟨_,_,n,_,l⟩:=(I.hok a _ g);exact WS PySem.W.kitx_list I.kIn ⟨_,l,rfl⟩ e (λz=>nomatch z) h
 | @frz a ob xs g=>
  cases f
  obtain⟨_,_,_,n,_,l⟩:=(I.hok a _ g);exact WS PySem.W.kitx_list I.kIn ⟨_,l,rfl⟩ e (λz=>nomatch z) h
 | @tup a xs g=>
  cases f
  obtain⟨_,_,_,p⟩:=(I.hok a _ g);obtain⟨o,l,r,_⟩:=p;exact WS PySem.W.kitx_tuple I.kIn ⟨o,l,r⟩ e (λz=>nomatch z) h
 | @dK a v g=>
  cases f
  obtain⟨_,_,vs,_,p⟩:=(I.hok a _ g);obtain⟨o,Y,ep,l,r,_⟩:=p;exact WS PySem.W.kitx_dict I.kIn ⟨o,l,r.1⟩ e (λz=>nomatch z) h
 | @dT a v g=>
  cases f
  obtain⟨_,_,xs,_,o,Y,ep,l,r,_⟩:=(I.hok a _ g);exact WS PySem.W.kitx_dict I.kIn ⟨o,l,r.1⟩ e (λz=>nomatch z) h
 | @ins a C dx fs g G U N B T=>
  cases f
  obtain⟨mA,O,_⟩:=Nd I.hok g;obtain⟨od,J,_⟩:=O.look;exact WS (PySem.W.kitx_own (G.get _) G.hd U N B T) I.kIn J e (λz=>nomatch z) h
end
structure J7 (k:Nat) (A:Around):Prop where
 hd:A.handled=none
 dp:A.depth+3*k+5<recursionLimit
 un:A.units+16*k+200<cLine
 gd:A.guards=some []
def J7.mono {j k A} (r:J7 k A) (h:j<=k):J7 j A:=⟨r.hd,by have:=r.dp;lia,by have:=r.un;lia,r.gd⟩
def J7.deeper (r:J7 (k+1) A) (env:Env):J7 k (A.deeper env):=
 ⟨r.hd,by have:=r.dp;show A.depth+1+3*k+5<_;lia,by have:=r.un;show A.units+3+16*k+200<_;lia,r.gd⟩
def GM{A:Around}{C}{us}{kw}:(A.under<|.builtin "type.__call__" ⟨.ref C::us,kw⟩).depth=A.depth+1:=by
 rfl
def Zao{A:Around}{C}{us}{kw}:(A.under<|.builtin "type.__call__" ⟨.ref C::us,kw⟩).units=A.units+1:=rfl
def M9{A:Around}{C:Addr}{us:Yf}{f:List (Str×Value)}(h:A.guards=some []):(A.under<|.builtin "type.__call__" ⟨.ref C::us,f⟩).guards=some []:=by
 simpa [Around.under,Code.guards,Code.isGuard,guardIds,pushGuards]using h
def J7.make (r:J7 (k+1) A) (C:Addr) (us:Yf) (f:List (Str×Value)):J7 k (A.under<|.builtin "type.__call__" ⟨.ref C::us,f⟩):=
 ⟨r.hd,by have:=r.dp;rw[GM];lia,by have:=r.un;rw[Zao];lia,M9 r.gd⟩
def J7.depth (r:J7 k A):A.depth<recursionLimit:=by have:=r.dp;lia
def J7.units (r:J7 k A):A.units+64<cLine:=by have:=r.un;lia
def J7.units0 (r:J7 k A):A.units<cLine:=by have:=r.un;lia
noncomputable def UD:TA:=λ_ H Q=>Q [] H
noncomputable def Ud(h:TE)(g:TA):TA:=λf H Q=>h f H λx n=>g f n λxs l=>Q (x::xs) l
section
variable {X:Cx}{e:Expr}{es:Yh}{te:TE}{t:TA}{pos:Pos}
def Xn:PA X [] UD:=λ_ _ _ _ H Q I h=>Calls.spliced_nil ⟨[],H,I,.nil,h⟩
def Uo(w:PE X e te)(v:PA X es t)(r:autoParam (starEach (e::es) X.env=(false,eval e X.env)::starEach es X.env) au_0):PA X (e::es) (Ud te t):=by
 intro pos pins s f H Q I h;rw[r];refine Calls.spliced_cons (thn (w pins s f H _ I h) ?_);rintro u g ⟨x,B,z,n,p⟩;exact thn (v pos pins g f B _ z p) λC E ⟨xs,A,y,l,o⟩=>⟨x::xs,A,y,.cons n l,o⟩
noncomputable def Ai(t:TA):TE:=λg H Q=>t g H λxs f=>xs.length<=sizeLine/\∀p,f p=none->Q (.ref p) (upd f p<|.tup xs)
noncomputable def A8(t:TA):TE:=λg H Q=>t g H λxs f=>xs.length<=sizeLine/\∀p,f p=none->Q (.ref p) (upd f p<|.lst xs)
def Kl(h:PA X es t):PE X (.Tuple es p pos) (Ai t):=by
 intro pins s l H Q I hq;refine wpAny_Tuple_spliced (thn (h pos pins s l H _ I hq) ?_);rintro n f ⟨xs,o,g,r,z,q⟩;refine⟨by rw[←r.length];exact z,?_⟩;refine⟨.ref f.heap.objs.size,upd o f.heap.objs.size (.tup xs),g.laid (λb u e=>Wq _ e) (Wn _) ?_,rfl,q _ (g.hok.fresh<|Wn _)⟩;exact⟨z,n,r,⟨_,W2 _ rfl,rfl,_,rfl⟩⟩
def X5(h:PA X es t):PE X (.List es pos) (A8 t):=by
 intro pins s l H Q I hq;refine wpAny_List_spliced (thn (h pos pins s l H _ I hq) ?_);rintro n f ⟨xs,o,g,r,z,q⟩;refine⟨by rw[←r.length];exact z,?_⟩;refine⟨.ref f.heap.objs.size,upd o f.heap.objs.size (.lst xs),g.laid (λb u e=>Wq _ e) (Wn _) ?_,rfl,q _ (g.hok.fresh<|Wn _)⟩;exact⟨z,n,0,r,W2 _ rfl⟩
end
abbrev Sp:=List V->Hp->VK->XK->Prop
abbrev CXT:=List Env->Hp->Shared->XK->Yc
structure Kq (P:Program) (w:World) (K:ZX) (mg:Yb) (base:Heap) (A:Around) (outer:List Env) (s:Shared) (H:Hp):Prop where
 frames:A.frames=some outer
 mod:Mod K mg base
 bs:∀b o,base.get? b=some o->s.heap.get? b=some o/\H b=none
 bsz:base.objs.size<=s.heap.objs.size
 funs:s.heap.FunFrames base outer
 frf:∀b∈frs outer,H b=none
 hok:HOk P w H s.heap
 bare:AllBare s.gens
def CE(outer:List Env)(P:Program)(w:World)(H:Hp)(s:Shared)(Q:VK)(u:Value)(f:Shared):Prop:=
 ∃v g,f.os=s.os/\AllBare f.gens/\Un (frs outer) [] H g s.heap f.heap/\HOk P w g f.heap/\RelV v u/\Q v g
def CR(CX:CXT)(outer:List Env)(P:Program)(w:World)(H:Hp)(s:Shared)(Q:VK)(E:XK)(r:Result)(f:Shared):Prop:=
 match r with
 | .ok (.ret u)=>CE outer P w H s Q u f
 | .ok _=>False
 | .error e=>CX outer H s E e f
structure U3 (P:Program) (w:World) (K:ZX) (mg:Yb) (base:Heap) (CX:CXT) (k:Nat) (f:Addr) (fd:FuncData) (ps:Yg) (sp:Sp):Prop where
 len:∀vs H Q E,sp vs H Q E->vs.length=ps.length
 run:∀(A:Around) (outer:List Env) (s:Shared) (H:Hp) (args:Args) (us:Yf) (vs:List V) (Q:VK) (E:XK),J7 k A->Kq P w K mg base A outer s H->BindsTo s fd args (ps.zip us)->Vals vs us->sp vs H Q E->
  codeAny (model P w) A (.call (.ref f) args) (CR CX outer P w H s Q E) s
def U3.imp {K l base CX k f n ps sp g} (F:U3 P w K l base CX k f n ps sp)
  (h:∀vs H Q E,g vs H Q E->sp vs H Q E):U3 P w K l base CX k f n ps g:=
 ⟨λvs H Q E q=>F.len vs H Q E (h _ _ _ _ q),λA outer s H args o vs Q E t u v p r=>F.run A outer s H args o vs Q E t u v p (h _ _ _ _ r)⟩
def Kq.make {K f base A outer s H} (e:Kq P w K f base A outer s H) (C:Addr) (us:Yf) (g:List (Str×Value)) :
  Kq P w K f base (A.under<|.builtin "type.__call__" ⟨.ref C::us,g⟩) outer s H:=⟨by first|exact e.frames|(simpa [Around.under,Code.envs,Code.isFrame,pushEnvs]using e.frames),e.mod,e.bs,e.bsz,e.funs,e.frf,e.hok,e.bare⟩
section
variable {X:Cx}{pins:Ya}{σ:St}{H:Hp}{s s':Shared}
def Inv.env0 (I:Inv X pins σ H s):Kq X.prog X.w X.K X.mg X.base X.A X.stack s H:=
 ⟨I.ok.frames,I.ok.mod,I.bs,Wk I.ok.bsz I.sz,I.stack,I.stkFree,I.hok,I.bare⟩
def Inv.after (I:Inv X pins σ H s) (h:CE X.stack X.prog X.w H s Q u s'):EP X pins σ Q u s':=by
 obtain⟨v,n,os,bare,un,f,r,q⟩:=h;obtain⟨o,g,d,t,l⟩:=s';obtain rfl:=os;exact⟨v,n,I.call un f bare (λb z=>absurd z (by simp)),r,q⟩
end
noncomputable def XG(sp:Sp)(f:List V)(E:XK)(t:TA):TE:=λg H Q=>t g H λh l=>sp (h++f) l Q E
noncomputable def Ki(C:Addr)(m:Str)(sp:Sp)(f:List V)(E:XK)(n:TE)(t:TA):TE:=λg H Q=>n g H λx h=>∃a o fs,x=.ref a/\h a=some (.ins C o fs)/\fs.lookup m=none/\
 t g h λl p=>sp (x::(l++f)) p Q E
noncomputable def NI(C:Addr)(sp:Sp)(g:List V)(E:XK)(t:TA):TE:=λl H Q=>t l H λn h=>∀x f,h x=none->h f=none->f≠x->
 sp (.ref x::(n++g)) (upd (upd h f<|.own x) x<|.ins C f []) (λv o=>v=.non/\Q (.ref x) o) E
def Binds(K:ZX)(g:FuncData)(ps:Yg)(ds:Yf):Prop:=
 ∀(s:Shared) (f:Yf),K.In s.heap->(f++ds).length=ps.length->BindsTo s g ⟨f,[]⟩ (ps.zip (f++ds))
def Binds.all {K g ps} (h:∀us,us.length=ps.length->bindArgs g ⟨us,[]⟩=pure (ps.zip us)):Binds K g ps []:=λs us _ f=>by
 rw[WD]at f ⊢;exact .of_eq (h us f)
def US(CX:CXT)(X:Cx)(E:XK):Prop:=∀(pins:Ya) (g:St) (H:Hp) (s:Shared) (e:Value) (f:Shared),Inv X pins g H s->CX X.stack H s E e f->X.xe e f
section
variable {X:Cx}{CX:CXT}{k:Nat}{f C:Addr}{fd:FuncData}{ps:Yg}{sp:Sp}{dvs:List V}{ds:Yf}{E:XK}{x m:Str}{p pos apos:Pos}{e o:Expr}{es:Yh}{ta:TE}{t:TA}
def BQ{g:St}{H}{s}{Q}{us}{vs}(F:U3 X.prog X.w X.K X.mg X.base CX k f fd ps sp)(v:J7 k X.A)(B:Binds X.K fd ps ds)(z:Vals dvs ds)(hx:US CX X E)(I:Inv X pins g H s)(r:Vals vs us)(h:sp (vs++dvs) H Q E):wpAny (model X.prog X.w) X.A (call (.ref f) us) (EP X pins g Q) X.xe s:=by
 have l:=r.append z;have y:(us++ds).length=ps.length:=by rw[←l.length];exact F.len _ _ _ _ h
 refine wpAny_call (QH (F.run X.A X.stack s H ⟨us,[]⟩ (us++ds) (vs++dvs) Q E v I.env0 (B s us I.kIn y) l h) λr n hq=>?_);cases r with
 |error e=>exact hx pins g H s e n I hq
 |ok G=>
  cases G with
  |ret u=>exact I.after hq
  |cont=>exact False.elim hq
  |_=>trivial
def IR(F:U3 X.prog X.w X.K X.mg X.base CX k f fd ps sp)(v:J7 k X.A)(B:Gl X x)(y:X.mg x=some (.ref f))(z:PySem.W.keepIn X.K (.ref f)=true)(L:Binds X.K fd ps ds)(J:Vals dvs ds)(hx:US CX X E)(M:PA X (e::es) t)(l:autoParam ((x==("__debug__" : Str))=false) au_1)(G:autoParam (starEach (e::es) X.env=(false,eval e X.env)::starEach es X.env) au_0)(g:autoParam ((backTo pos<|starEach es X.env).any (·.1)=false) au_0) :
  PE X (.Call (.Name x p) (e::es) [] pos) (XG sp dvs E t):=by
 intro pins s u H Q I h;refine Qo (Kn I B y ?_ l);refine Q5 I.ok.mod.kin z (thn (M pos pins s u H _ I h) ?_) G g;rintro T U ⟨N,Y,n,r,q⟩;refine⟨n.kIn,?_⟩;exact BQ F v L J hx n r q
def Lf{pl}(U:PE X o ta)(c:Cls X.K C)(z:JP X.K C m f)(F:U3 X.prog X.w X.K X.mg X.base CX k f fd ps sp)(T:J7 k X.A)(hb:Binds X.K fd ps ds)(Y:Vals dvs ds)(hx:US CX X E)(ha:PA X (e::es) t)(g:autoParam (starEach (e::es) X.env=(false,eval e X.env)::starEach es X.env) au_0)(n:autoParam ((backTo pos<|starEach es X.env).any (·.1)=false) au_0)
  (N:autoParam (eval (.Call (.Attribute o m apos) (e::es) [] pos) X.env=(do
   let y ←eval o X.env
   standAt apos.atName
   let (f,first) ←holding [y] (getMethod y m pl)
   callWith pos f first (backTo pos<|starEach (e::es) X.env) (backToKw pos<|keywordEach [] X.env))) au_0) :
  PE X (.Call (.Attribute o m apos) (e::es) [] pos) (Ki C m sp dvs E ta t):=by
 intro pins s v H Q I h;refine QD (thn (U pins s v H _ I h) ?_) N;rintro u J ⟨x,H1,G,L,a,dx,fs,ex,ea,l,q⟩;subst ex;obtain rfl:=L;refine Ss G ea c z l ?_;refine Q5 I.ok.mod.kin z.kp (thn (ha pos pins J v H1 _ G q) ?_) g n;rintro us s2 ⟨vs,H2,B,r,M⟩;refine⟨B.kIn,?_⟩;exact BQ (vs:=.ref a::vs) F T hb Y hx B (.cons rfl r) M
def HZ(G:PE X o ta)(c:Cls X.K C)(r:JP X.K C m f)(F:U3 X.prog X.w X.K X.mg X.base CX k f fd ps sp)(B:J7 k X.A)(L:Binds X.K fd ps ds)(J:Vals dvs ds)(hx:US CX X E)
  (z:autoParam (eval (.Call (.Attribute o m apos) [] [] pos) X.env=(do
   let n ←eval o X.env
   standAt apos.atName
   let (f,first) ←holding [n] (getMethod n m U)
   callWith pos f first (backTo pos<|starEach [] X.env) (backToKw pos<|keywordEach [] X.env))) au_0) :
  PE X (.Call (.Attribute o m apos) [] [] pos) (Ki C m sp dvs E ta UD):=by
 intro pins s v H Q I h;refine QD (thn (G pins s v H _ I h) ?_) z;rintro u T ⟨x,H1,g,y,a,Y,fs,M,N,l,q⟩;subst M;obtain rfl:=y;refine Ss g N c r l ?_;exact PySem.W.callWith_K0 g.kIn r.kp (BQ (vs:=[.ref a]) F B L J hx g (.cons rfl .nil) q)
structure Mk (K:ZX) (C f:Addr):Prop where
 makes:PySem.W.makesIn K C=true
 init:PySem.W.findIn K (.ref C) "__init__"=some (some<|.ref f)
 fn:PySem.W.isFn K (.ref f)=true
 kp:PySem.W.keepIn K (.ref C)=true
def MF{y:St}{H}{s}{Q}{us}{vs}(M:Mk X.K C f)(F:U3 X.prog X.w X.K X.mg X.base CX k f fd ps sp)(L:J7 (k+1) X.A)(U:Binds X.K fd ps ds)(T:Vals dvs ds)(hx:US CX X E)(I:Inv X pins y H s)(r:Vals vs us)(h:∀x l,H x=none->H l=none->l≠x->sp (.ref x::(vs++dvs)) (upd (upd H l<|.own x) x<|.ins C l []) (λv H2=>v=.non/\Q (.ref x) H2) E) :
  wpAny (model X.prog X.w) X.A (call (.ref C) us) (EP X pins y Q) X.xe s:=by
 have hq:=h (s.heap.objs.size+1) s.heap.objs.size (I.hok.fresh<|Nat.le_succ _) (I.hok.fresh<|Wn _) (WK<|QB _);have n:=Inv.made (C:=C) I;have z:Vals (V.ref (s.heap.objs.size+1)::(vs++dvs)) (Value.ref (s.heap.objs.size+1)::(us++ds)):=.cons rfl (r.append T)
 have N:(Value.ref (s.heap.objs.size+1)::us++ds).length=ps.length:=by
  have e:=z.length;rw[F.len _ _ _ _ hq]at e
  grind
 refine wpAny_call (Rh I.kIn M.makes M.init (beq_iff_eq.mp M.fn) (QH (F.run _ X.stack _ _ ⟨Value.ref (s.heap.objs.size+1)::us,[]⟩ (Value.ref (s.heap.objs.size+1)::(us++ds)) _ _ E (L.make C us [])
  (n.env0.make C us []) (U _ (Value.ref (s.heap.objs.size+1)::us) n.kIn N) z hq) λr B g=>?_))
 cases r with
 |error e=>exact hx pins y _ _ e B n g
 |ok Y=>
  cases Y with
  |ret u=>
   obtain⟨v,H',I3,G,ev,J⟩:=n.after g;subst ev;exact⟨G,⟨V.ref (s.heap.objs.size+1),H',I3,rfl,J⟩⟩
  |_=>exact False.elim g
def GH(M:Mk X.K C f)(F:U3 X.prog X.w X.K X.mg X.base CX k f fd ps sp)(v:J7 (k+1) X.A)(z:Gl X x)(y:X.mg x=some (.ref C))(J:Binds X.K fd ps ds)(G:Vals dvs ds)(hx:US CX X E)(L:PA X (e::es) t)(l:autoParam ((x==("__debug__" : Str))=false) au_1)(B:autoParam (starEach (e::es) X.env=(false,eval e X.env)::starEach es X.env) au_0)(g:autoParam ((backTo pos<|starEach es X.env).any (·.1)=false) au_0) :
  PE X (.Call (.Name x p) (e::es) [] pos) (NI C sp dvs E t):=by
 intro pins s u H Q I h;refine Qo (Kn I z y ?_ l);refine Q5 I.ok.mod.kin M.kp (thn (L pos pins s u H _ I h) ?_) B g;rintro T U ⟨N,Y,n,r,q⟩;refine⟨n.kIn,?_⟩;exact MF M F v J G hx n r q
end
structure J1 (N P:Yg) (sc:Scope):Prop where
 kind:sc.kind=.function
 co:sc.isCoroutine=false
 gen:sc.isGenerator=false
 nd:N.Nodup
 pre:N.take P.length=P
 par:∀x∈P,sc.names.lookup x=some .local\/sc.names.lookup x=some .cell
 nofree:∀y∈sc.names,y.2≠.free
theorem Dq{kindOf x}:∀{binds}{m:Yb},(∀v,(x,v)∉binds)->bindL kindOf binds m x=m x
 |[],_,_=>rfl
 |(n,v)::r,m,h=>by
  unfold bindL;rw[Dq λw hw=>h w (W0 _ hw)];split
  ·grind
  ·rfl
theorem Du{kindOf x}:∀{binds}{m:Yb},(∀v,(x,v)∉binds)->bindC kindOf binds m x=m x
 |[],_,_=>rfl
 |(n,v)::r,m,h=>by
  unfold bindC;rw[Du λw hw=>h w (W0 _ hw)];split
  ·rfl
  ·grind
theorem Au{kindOf}{x}{v}:∀{P:Yg}{vs}{i:Nat}{m:Yb},P.Nodup->P[i]?=some x->vs[i]?=some v->kindOf x=some .local->
  bindL kindOf (P.zip vs) m x=some v
 |[],_,_,_,_,h,_,_|_::_,[],_,_,_,_,h,_=>by simp at h
 |p::P,w::vs,0,m,f,n,l,g=>by
  simp at n l;subst n;subst l;show bindL kindOf ((p,w)::P.zip vs) m p=_;unfold bindL;rw[Dq λv o=>(Q3.mp f).1 (List.of_mem_zip o).1,Wm g];simp
 |p::P,w::vs,i+1,m,f,n,l,g=>by
  unfold bindL;exact Au (Q3.mp f).2 (by trivial) (by grind) g
theorem DA{kindOf}{x}{v}:∀{P:Yg}{vs}{i:Nat}{m:Yb},P.Nodup->P[i]?=some x->vs[i]?=some v->kindOf x≠some .local->
  bindC kindOf (P.zip vs) m x=some v
 |[],_,_,_,_,h,_,_|_::_,[],_,_,_,_,h,_=>by simp at h
 |p::P,w::vs,0,m,f,n,l,g=>by
  simp at n l;subst n;subst l;show bindC kindOf ((p,w)::P.zip vs) m p=_;unfold bindC;rw[Du λv o=>(Q3.mp f).1 (List.of_mem_zip o).1,Wo g];simp
 |p::P,w::vs,i+1,m,f,n,l,g=>by
  unfold bindC;exact DA (Q3.mp f).2 (by trivial) (by grind) g
noncomputable def start(N:Yg)(vs:List V):St:=vs.map some++List.replicate (N.length-vs.length) none
noncomputable def JX(CX:CXT)(P:Program)(w:World)(K:ZX)(mg:Yb)(base:Heap)(N:Yg)(qual:Str)(scope:Scope)(f:Addr)(cd:Value)(A:Around)(outer:List Env)(s:Shared)(H:Hp)(E:XK):Cx where
 prog:=P
 w:=w
 K:=K
 mg:=mg
 base:=base
 A:=A.deeper (envOfC qual scope s.heap.objs.size f cd)
 N:=N
 s₀:=s
 H₀:=H
 env:=envOfC qual scope s.heap.objs.size f cd
 outer:=outer
 stack:=envOfC qual scope s.heap.objs.size f cd::outer
 ex:=[]
 calm:=true
 fn:=λ_=>true
 pn:=[]
 xe:=λe s'=>wpAny (model P w) (A.deeper<|envOfC qual scope s.heap.objs.size f cd) (leaving (envOfC qual scope s.heap.objs.size f cd) e) (λ_ s''=>CX outer H s E e s'') (λe' s''=>CX outer H s E e' s'') s'
def Ak{f:Scope}{n}{x}(h:f.names.lookup x=some .cell):∃c,(cellsFrom n f.names []).lookup x=some c:=by
 exact Option.isSome_iff_exists.mp (PySem.W.cellsFrom_some f.names n []<|.inl h)
def Zbd{P}{w}{K}{mg}{base}{N ps}{qual}{scope}{f}{cd}{A}{outer}{s J}{H}{E}{us}{vs}(S:J1 N ps scope)(U:A.handled=none)(l:Kq P w K mg base A outer s H)(hl:vs.length=ps.length)(r:Vals vs us)(x:InCallC s s.heap.objs.size (bindL (envOfC qual scope s.heap.objs.size f cd).kindOf (ps.zip us) λ_=>none) (cellsFrom (s.heap.objs.size+1) scope.names []) (bindC (envOfC qual scope s.heap.objs.size f cd).kindOf (ps.zip us) λ_=>none) J) :
  Inv (JX CX P w K mg base N qual scope f cd A outer s H E) [] (start N vs) H J:=by
 have T:ps.length<=N.length:=by have:=W9 List.length S.pre;rw[QR]at this;lia
 obtain⟨G,tk,rfl,M⟩:=x.done;have n:∀b,b∉(JX CX P w K mg base N qual scope f cd A outer s H E).ex:=λb z=>absurd (show b∈([]:List Addr)from z) (by simp)
 refine⟨⟨l.mod,S.kind,rfl,rfl,Wn _,λy z c G g=>?_,λy o=>?_,λy c _ h=>?_,λ_=>U,Around.frames_deeper l.frames,.inr ⟨rfl,rfl⟩,λb z=>absurd z (n b),l.bs,l.bsz,λb _ _=>n b,λb z=>absurd z (n b),l.funs,l.frf⟩,
  rfl,l.bare,Un.kept M,⟨_,x.toInCall.ns,λi y v G g h3=>?_⟩,λy c h=>⟨_,x.cell y c h⟩,l.hok.fresh (Wn _),λy c h=>?_,λp B=>absurd (show p∈([]:Ya)from B) (by simp),l.hok.kept M,?_⟩
 ·exact name_of_addr x.apart (Qh G) (Qh g)
 ·have o:=o;rcases o with o|o
  ·exact Ak o
  ·exact absurd rfl (S.nofree _<|Qh o)
 ·exact QP (x.above y c<|Qh h)
 ·have C:i<vs.length:=by
   unfold start at g;by_cases C:i<vs.length
   ·exact C
   ·rw[WH (by simpa using C)]at g;rw[Q7]at g;split at g<;>cases g
  have Y:vs[i]?=some v:=by
   unfold start at g;rw[WI (by simpa using C),Ww]at g;cases e:vs[i]? with
   |none=>rw[e]at g;cases g
   |some a=>rw[e]at g;cases g;rfl
  obtain⟨u,L,Q⟩:=r.get Y
  have B:ps[i]?=some y:=by
   rw[←S.pre,List.getElem?_take_of_lt (by lia)];exact G
  have t:ps.Nodup:=by rw[←S.pre];exact S.nd.sublist (List.take_sublist _ _)
  refine⟨u,Q,?_⟩;rcases S.par y (WA B)with k|k
  ·exact .inl ⟨k,Au t B L k⟩
  ·obtain⟨c,e⟩:=Ak k;refine .inr ⟨.inl k,c,e,?_⟩;have q:=x.cell y c e;rw[DA t B L (by show scope.names.lookup y≠_;rw[k];decide)]at q;exact q
 ·exact l.hok.fresh (QP<|x.above y c<|Qh h)
 ·unfold start;show _=N.length;rw[Wr,Wg,List.length_replicate];lia
def NY{K M base k f name qual params body scope dV kV L pm g ct oc an od Y N ps sp}(lk:K.lookup f=some ⟨oc,od,.func (PySem.W.fnOf name qual params body scope dV kV L pm an g ct),Y⟩)(hcd:PySem.W.codeIn K g qual=true)(S:J1 N ps scope)(len:∀vs H Q E,sp vs H Q E->vs.length=ps.length)
  (p:∀A outer s H vs Q E,J7 k (A.deeper<|envOfC qual scope s.heap.objs.size f g)->sp vs H Q E->
   ∃t,PSs (JX CX P w K M base N qual scope f g A outer s H E) body t/\t {nx:=λ_ H'=>Q .non H',rt:=Q} (start N vs) H) :
  U3 P w K M base CX (k+1) f (PySem.W.fnOf name qual params body scope dV kV L pm an g ct) ps sp:=by
 refine⟨len,λA outer s H args us vs Q E hr G hb r z=>?_⟩;have KX:=G.mod.kin.keeps λb o e=>(G.bs b o e).1
 have l:∀y∈ps.zip us,scope.names.lookup y.1=some .local\/(scope.names.lookup y.1=some .cell/\((cellsFrom (s.heap.objs.size+1) scope.names []).lookup y.1).isSome=true):=λ⟨n,v⟩ hy=>by
  rcases S.par n (List.of_mem_zip hy).1 with q|q
  ·exact .inl q
  ·exact .inr ⟨q,PySem.W.cellsFrom_some _ _ _ (.inl q)⟩
 refine codeAny_call_function hr.depth (KX _ _ lk) rfl S.co S.gen rfl (PySem.W.codeRec_of KX hcd) (hb _ _ _ _ ?_);refine wpAny_newFunctionEnv_cells S.kind l λenv he s1 x=>?_;subst he;refine⟨(G.mod.nolimit.keeps λb o e=>(G.bs b o e).1).keeps x.toInCall.keep,codeAny_func ?_⟩;obtain⟨t,ht,hq⟩:=p A outer s H vs Q E (hr.deeper _) z;have I:Inv (JX CX P w K M base N qual scope f g A outer s H E) [] (start N vs) H s1:=Zbd S hr.hd G (len _ _ _ _ z) r x;refine WQ (ht [] s1 (start N vs) H _ I hq) (λfl T B=>?_) λe T B=>B
 have C:∀{h:St} {H':Hp} {v:V} {u:Value},Inv (JX CX P w K M base N qual scope f g A outer s H E) [] h H' T->RelV v u->Q v H'->CE outer P w H s Q u T:=
  λ{h H' v u} J U q=>⟨v,H',J.os,J.bare,J.base,J.hok,U,q⟩
 cases fl with
 |ret u=>
  obtain⟨v,h,H',J,U,q⟩:=B;exact C J U q
 |next=>
  obtain⟨h,H',J,q⟩:=B;exact C (v:=V.non) J rfl q
 |_=>
  obtain⟨_,_,_,q⟩:=B;exact False.elim q
section
variable {X:Cx}{x:Str}{p pos:Pos}{e:Expr}{es:Yh}{t:TA}{id T:String}{r:List V->Hp->VK->Prop}
noncomputable def tCB(r:List V->Hp->VK->Prop)(t:TA):TE:=λf H Q=>t f H λg h=>r g h Q
def UC(E:UE X (.builtin id) r)(B:Gl X x)(A:X.mg x=none)(y:bootBuiltins x=some (.builtin id))(G:PA X (e::es) t)(z:autoParam (x≠"__name__") au_1)(g:autoParam ((x==("__debug__" : Str))=false) au_1)(C:autoParam (starEach (e::es) X.env=(false,eval e X.env)::starEach es X.env) au_0)(f:autoParam ((backTo pos<|starEach es X.env).any (·.1)=false) au_0):PE X (.Call (.Name x p) (e::es) [] pos) (tCB r t):=by
 intro pins s l H Q I h;refine Qo (Pi I B A y ?_ z g);exact PyProof.Rows.callWith_builtin1 (thn (G pos pins s l H _ I h) λo u ⟨n,L,J,v,w⟩=>E pins u l L n o Q J v w) C f
def Xx(E:UE X (.type T) r)(B:Gl X x)(A:X.mg x=none)(y:bootBuiltins x=some (.type T))(G:PA X (e::es) t)(z:autoParam (x≠"__name__") au_1)(g:autoParam ((x==("__debug__" : Str))=false) au_1)(C:autoParam (starEach (e::es) X.env=(false,eval e X.env)::starEach es X.env) au_0)(f:autoParam ((backTo pos<|starEach es X.env).any (·.1)=false) au_0):PE X (.Call (.Name x p) (e::es) [] pos) (tCB r t):=by
 intro pins s l H Q I h;refine Qo (Pi I B A y ?_ z g);exact Qu (thn (G pos pins s l H _ I h) λo u ⟨n,L,J,v,w⟩=>E pins u l L n o Q J v w) C f
end
end L2
namespace HT
open PySem PyProof.Rows
section
variable {prog:Program}{w:World}{A:Around}{E:Yc}{s:Shared}
noncomputable def sIx(n d:Nat):Option Int->Nat
 |none=>d
 |some v=>if v<0 then(v+(n:Int)).toNat else min v.toNat n
def AX(n d:Nat):sIx n d none=d:=rfl
def Kk(n d k:Nat):sIx n d (some (k:Int))=min k n:=rfl
def Zby(n d:Nat)(g:d<=n)(o:Option Int):sIx n d o<=n:=by
 cases o with
 |none=>trivial
 |some v=>
  show(if v<0 then(v+(n:Int)).toNat else min v.toNat n)<=n;by_cases f:v<0
  ·grind
  ·grind
def DQ(v:Int)(n d:Nat):(if v<0 then max (v+(n:Int)) 0 else min v (n:Int))=((sIx n d (some v):Nat):Int):=by
 show(if v<0 then max (v+(n:Int)) 0 else min v (n:Int))=(((if v<0 then(v+(n:Int)).toNat else min v.toNat n):Nat):Int);by_cases f:v<0
 ·grind
 ·grind
def La(lo f:Option Int)(n:Nat):Builtin.Slice.sliceAdjust lo f 1 (n:Int)=(((sIx n 0 lo:Nat):Int),((sIx n n f:Nat):Int)):=by
 refine Prod.ext ?_ ?_
 ·cases lo with
  |none=>rfl
  |some v=>exact DQ v n 0
 ·cases f with
  |none=>rfl
  |some v=>exact DQ v n n
def LH(i j:Nat):Builtin.Slice.slicePlaces (i:Int) (j:Int) 1=j-i:=by
 unfold Builtin.Slice.slicePlaces;lia
def Dj(p:IsPart v o)(h:Q o s):wpAny (model prog w) A (Builtin.Slice.slicePartIndex v) Q E s:=by
 cases p with
 |none=>exact slicePart_none h
 |int i t=>exact slicePart_int h
def Zbq{lo g n}{Q:Int×Int×Nat->Shared->Prop}(u:s.heap.IsSliceOf sl p o .none)(t:IsPart p lo)(r:IsPart o g)(h:Q (((sIx n 0 lo:Nat):Int),1,sIx n n g-sIx n 0 lo) s):wpAny (model prog w) A (Builtin.Slice.sliceApplied (.ref sl)<|pure (n:Int)) Q E s:=by
 obtain⟨os,f,v,l⟩:=id u;refine Wp (Wp<|Qy f l (x:=p) rfl<|Wp<|Qy f l (x:=o) rfl<|Wp<|Qy f l (x:=.none) rfl<|Wy ?_);refine Wp (slicePart_none ?_);refine Wp (Dj t<|Wp<|Dj r<|Wp<|Wy ?_);show wpAny _ _ (match Builtin.Slice.sliceAdjust lo g 1 (n:Int)with|(lo,g)=>pure (lo,(1:Int),Builtin.Slice.slicePlaces lo g 1)) _ _ s
 rw[La lo g n];show wpAny _ _ (pure (((sIx n 0 lo:Nat):Int),(1:Int),Builtin.Slice.slicePlaces ((sIx n 0 lo:Nat):Int) ((sIx n n g:Nat):Int) 1)) _ _ s;rw[LH];exact Wy h
def Ls(xs:Array Value)(i k:Nat):((List.range k).filterMap λ(m:Nat)=>xs[((i:Int)+(m:Int)*1).toNat]?).toArray=((xs.toList.drop i).take k).toArray:=by
 have e:(λ(m:Nat)=>xs[((i:Int)+(m:Int)*1).toNat]?)=λm=>xs[i+m]?:=by grind
 have:=pick_run xs i k
 have f:((λx=>xs[x]?)∘λx=>i+x)=λm=>xs[i+m]?:=rfl
 grind
def G8{items v u lo g Q}(l:IsTup s.heap t items)(x:s.heap.IsSliceOf sl v u .none)(z:IsPart v lo)(y:IsPart u g)(hw:¬(sIx items.size 0 lo=0/\sIx items.size items.size g=items.size))(h:Q (.ref s.heap.objs.size) {s with heap:=s.heap.push {cls:=.type "tuple",data:=.seq ((items.toList.drop<|sIx items.size 0 lo).take (sIx items.size items.size g-sIx items.size 0 lo)).toArray}})(B:items.size<=sizeLine):wpAny (model prog w) A (getItem (.ref t)<|.ref sl) Q E s:=by
 have f:sizeOk (.seq ((items.toList.drop<|sIx items.size 0 lo).take (sIx items.size items.size g-sIx items.size 0 lo)).toArray):=by
  show((items.toList.drop<|sIx items.size 0 lo).take (sIx items.size items.size g-sIx items.size 0 lo)).toArray.size<=sizeLine;rw[W4,QR,List.length_drop,Q0];lia
 obtain⟨os,n,p,C⟩:=id x;have r:s.TypeIs (.ref sl) "slice":=⟨os,n,p⟩;unfold getItem
 try with_reducible refine wpAny_holding ?_
 refine Wp (wpAny_sequenceKey l.typeIs (by decide) ?_)
 refine Wp (wpAny_callSpecial?_slot l.typeIs QE
  (wpAny_call_entry QE l.typeIs entry_tuple_getitem ?_<|args_tuple_getitem _ _))
 show wpAny _ _ (Builtin.Tuple.tupleItemsOf (.ref t) >>= _) _ _ s;refine Wp (tupleItemsOf_ l ?_);refine Wp (wpAny_typeOf r ?_);refine Wp (Zbq x z y ?_)
 have o:¬((((sIx items.size 0 lo:Nat):Int)==0&&(1:Int)==1&&(sIx items.size items.size g-sIx items.size 0 lo)==items.size)=true):=by
  intro q;rw[WE,WE]at q;have H:=eq_of_beq q.1.1;have G:=eq_of_beq q.2;exact hw ⟨by lia,by lia⟩
 show wpAny _ _ (if (((sIx items.size 0 lo:Nat):Int)==0&&(1:Int)==1&&(sIx items.size items.size g-sIx items.size 0 lo)==items.size)=true then _ else _) _ _ s;rw[Wo o,Ls]
 first
  |exact Wp (Qk (Wy ⟨_,rfl,Wy h⟩) f)
  |exact Wp (Qk (Wp<|Wy<|Wy ⟨_,rfl,Wy h⟩) f)
  |exact Wp (Wp<|Qk (Wy<|Wy ⟨_,rfl,Wy h⟩) f)
  |exact Wp (Wp<|Qk (Wy ⟨_,rfl,Wy h⟩) f)
end
end HT
namespace L2
abbrev TO:=St->Hp->(Option Int->Hp->Prop)->Prop
def PO(X:Cx)(e:Option Expr)(t:TO):Prop:=
 ∀(pins:Ya) (s:Shared) (f:St) (H:Hp) (Q:Option Int->Hp->Prop),Inv X pins f H s->t f H Q->
  wpAny (model X.prog X.w) X.A (evalPart e X.env) (λu h=>∃o g,Inv X pins f g h/\IsPart u o/\Q o g) X.xe s
noncomputable def FM:TO:=λ_ H Q=>Q none H
noncomputable def Fc(t:TE):TO:=λf H Q=>t f H λx g=>∃i,x=.int i/\Q (some i) g
section
variable {X:Cx}{e:Expr}{te:TE}{lo hi:Option Expr}{tl th:TO}{pos p2:Pos}
def KL:PO X none FM:=by
 intro pins s f H Q I h;exact Wy ⟨none,H,I,.none,h⟩
def XU(h:PE X e te):PO X (some e) (Fc te):=by
 intro pins s f H Q I hw;refine thn (h pins s f H _ I hw) ?_;rintro u p ⟨x,o,n,g,l⟩;obtain⟨i,rfl,q⟩:=l;obtain⟨t,rfl⟩:=g;exact⟨some i,o,n,.int i t,q⟩
def SlR(X:Cx)(r:V->Option Int->Option Int->Hp->VK->Prop):Prop:=
 ∀(pins:Ya) (s:Shared) (f:St) (H:Hp) (x:V) (v h g:Value) (lo hi:Option Int) (sl:Addr) (Q:VK),Inv X pins f H s->RelV x v->s.heap.IsSliceOf sl h g .none->IsPart h lo->IsPart g hi->r x lo hi H Q->
  ∃T id,typeLookup (.type T) "__getitem__"=pure (some<|.builtin id)/\s.TypeIs v T/\wpAny (model X.prog X.w) X.A (getItem v<|.ref sl) (EP X pins f Q) X.xe s
noncomputable def tSl(r:V->Option Int->Option Int->Hp->VK->Prop)(te:TE)(tl th:TO):TE:=λf H Q=>te f H λx n=>tl f n λl h=>th f h λu g=>r x l u g Q
def Ks(L:SlR X r)(U:PE X e te)(M:PO X lo tl)(G:PO X hi th):PE X (.Subscript e (.Slice lo hi none p2) pos) (tSl r te tl th):=by
 intro pins s f H Q I h;refine Subscript_ (thn (U pins s f H _ I h) ?_);rintro v w ⟨x,H1,I1,y,B⟩;refine wpAny_Slice (thn (M pins w f H1 _ I1 B) ?_);rintro o t ⟨l,H2,I2,E,A⟩;refine thn (G pins t f H2 _ I2 A) ?_;rintro n g ⟨u,p,I3,C,z⟩;refine Wy ?_;have I4:Inv X pins f p {g with heap:=g.heap.push {cls:=.type "slice",data:=.fields #[o,n,.none]}}:=I3.kept λb ob q=>Wq _ q
 obtain⟨T,id,Y,J,N⟩:=L pins {g with heap:=g.heap.push {cls:=.type "slice",data:=.fields #[o,n,.none]}} f p x v o n l u g.heap.objs.size Q I4 y (Heap.IsSliceOf.new ..) E C z
 exact tail_any J Y N rfl
noncomputable def X1(xs:List V)(lo hi:Option Int):List V:=(xs.drop<|HT.sIx xs.length 0 lo).take (HT.sIx xs.length xs.length hi-HT.sIx xs.length 0 lo)
def FE(xs:List V)(lo hi:Option Int):(X1 xs lo hi).length<=xs.length:=by
 unfold X1
 grind
def NO(K:ZX):V->Option Int->Option Int->Hp->VK->Prop:=λx lo hi H Q=>∃a xs,x=.ref a/\SqT K H a xs/\
 ¬(HT.sIx xs.length 0 lo=0/\HT.sIx xs.length xs.length hi=xs.length)/\∀p,H p=none->Q (.ref p) (upd H p<|.tup<|X1 xs lo hi)
def Rr:SlR X (NO X.K):=by
 intro pins s w H x v z y lo hi sl Q I n u p o h;obtain⟨a,xs,rfl,hx,hw,q⟩:=h;cases n
 obtain⟨g,r,l,t⟩:=I.tuple hx;have f:g.toArray.size=xs.length:=by rw[W4];exact r.length.symm
 refine⟨"tuple",_,PyProof.Rows.slot_tuple_getitem.lookup,l.typeIs,?_⟩;refine HT.G8 l u p o (by grind) ?_ (by lia);rw[f];refine⟨.ref s.heap.objs.size,_,I.laid (λb A q=>Wq _ q) (Wn _) ?_,rfl,q _ (I.hok.fresh<|Wn _)⟩;exact⟨Wk (FE xs lo hi) t,_,(r.drop<|HT.sIx xs.length 0 lo).take (HT.sIx xs.length xs.length hi-HT.sIx xs.length 0 lo),IsTup.new _ _⟩
end
noncomputable def ixN(n:Nat)(i:Int):Option Nat:=if 0<=i then(if i<n then some i.toNat else none)else if -(n:Int)<=i then some (i+n).toNat else none
noncomputable def atI{f:Type}(xs:List f)(i:Int):Option f:=(ixN xs.length i).bind λj=>xs[j]?
def Gd(h:ixN n i=some j):seqIndex? i n=some j/\j<n/\-(n:Int)<=i/\i<n:=by
 unfold ixN at h;by_cases g:0<=i
 ·rw[Wm g]at h;by_cases f:i<n
  ·rw[Wm f]at h;have e:=Wt h;exact⟨by rw[seqIndex_of g f,e],by lia,by lia,f⟩
  ·grind
 ·rw[Wo g]at h;by_cases f:-(n:Int)<=i
  ·rw[Wm f]at h;have e:=Wt h;exact⟨by rw[seqIndex_neg (by lia) f,e],by lia,f,by lia⟩
  ·grind
def Be(h:atI xs i=some v):∃j,seqIndex? i xs.length=some j/\xs[j]?=some v/\j<xs.length/\-(xs.length:Int)<=i/\i<xs.length:=by
 unfold atI at h;cases e:ixN xs.length i with
 |none=>grind
 |some j=>
  obtain⟨n,l,g,f⟩:=Gd e
  grind
def PB{j:Nat}{v}(h:xs[j]?=some v):atI xs (j:Int)=some v:=by
 have e:ixN xs.length (j:Int)=some j:=by
  unfold ixN
  grind
 unfold atI;rw[e];exact h
def Sr(b:Expr):Prop:=∀o i,subscripted b false o i=operate [o,i] (getItem o i)
def IxR(X:Cx)(r:R2):Prop:=
 ∀(value slice:Expr) (pins:Ya) (s:Shared) (f:St) (H:Hp) (x y:V) (v u:Value) (Q:VK),Inv X pins f H s->RelV x v->RelV y u->r x y H Q->
  subscripted slice false v u=operate [v,u] (getItem v u)->wpAny (model X.prog X.w) X.A (subscriptTail value slice v u) (EP X pins f Q) X.xe s
def MtR(X:Cx)(id:String)(r:V->List V->Hp->VK->Prop):Prop:=
 ∀(pins:Ya) (s:Shared) (f:St) (H:Hp) (x:V) (xs:List V) (v:Value) (g:Yf) (Q:VK),Inv X pins f H s->RelV x v->Vals xs g->r x xs H Q->
  wpAny (model X.prog X.w) X.A (call (.builtin id) (v::g)) (EP X pins f Q) X.xe s
section
variable {X:Cx}{a b:Expr}{ta tb:TE}{pos:Pos}
def IxR.or (h:IxR X r) (p:IxR X o):IxR X (λx y H Q=>r x y H Q\/o x y H Q):=by
 intro value slice pins s f H x y v u Q I l g q n;rcases q with q|q
 ·exact h value slice pins s f H x y v u Q I l g q n
 ·exact p value slice pins s f H x y v u Q I l g q n
def NS(p:IxR X r)(w:PE X a ta)(t:PE X b tb)(o:Sr b):PE X (.Subscript a b pos) (tOp r ta tb):=by
 intro pins s f H Q I h;exact Subscript_ (Nu w t I h λv u g x y A z n l q=>p a b pins g f A x y v u Q z n l q (o _ _))
noncomputable def KC(K:ZX):R2:=λx y H Q=>∃p xs i v,x=.ref p/\y=.int i/\SqL K H p xs/\atI xs i=some v/\Q v H
noncomputable def KR(K:ZX):R2:=λx y H Q=>∃p xs i v,x=.ref p/\y=.int i/\SqT K H p xs/\atI xs i=some v/\Q v H
noncomputable def AM:R2:=λx y H Q=>∃z i c,x=.str z/\y=.int i/\z.length<=sizeLine/\atI z.cps.toList i=some c/\Q (.str ⟨#[c]⟩) H
def ix_list:IxR X (KC X.K):=by
 intro value slice pins s G H x y v u Q I L J h B;obtain⟨p,xs,i,z,rfl,rfl,hq,N,q⟩:=h;cases L
 obtain⟨t,rfl⟩:=J;obtain⟨o,r,n,hz⟩:=I.list hq;obtain⟨j,g,Y,h3,U,T⟩:=Be N;obtain⟨w,E,l⟩:=r.get Y;have M:=r.length;have hn:=TQ;have f:EP X pins G Q w s:=⟨z,H,I,l,q⟩;by_cases C:0<=i
 ·have A:i.toNat=j:=by
   rw[seqIndex_of C T]at g;exact Wt g
  exact item_listR n.isList C (by lia) (by rw[A];simpa using E) f B
 ·have A:(i+(o.toArray.size:Int)).toNat=j:=by
   rw[seqIndex_neg (by lia) U]at g;rw[W4,←M];exact Wt g
  exact subscriptTail_builtinR n.isList.typeIs slot_list_getitem.lookup
   (wpAny_getItem_list_neg n.isList (by lia) (by rw[W4]<;>lia) (by lia) (by rw[A];simpa using E) ⟨rfl,f⟩) B
def Iw:IxR X (KR X.K):=by
 intro value slice pins s n H x y v u Q I A o h C;obtain⟨p,xs,i,z,rfl,rfl,hq,E,q⟩:=h;cases A
 obtain⟨t,rfl⟩:=o;obtain⟨B,r,l,L⟩:=I.tuple hq;obtain⟨j,J,G,U,T,N⟩:=Be E;obtain⟨w,Y,f⟩:=r.get G;have M:=TQ;have g:EP X pins n Q w s:=⟨z,H,I,f,q⟩
 exact subscriptTail_builtinR l.typeIs slot_tuple_getitem.lookup
  (getItem_tuple l (by lia) (by lia) (by rw[W4,←r.length];exact J) (by grind) ⟨rfl,g⟩) C
def Mz:IxR X AM:=by
 intro value slice pins s E H x y v u Q I l g h n;obtain⟨z,i,c,rfl,rfl,J,p,q⟩:=h;obtain⟨t,rfl⟩:=l;obtain⟨G,rfl⟩:=g;obtain⟨j,f,A,M,w,r⟩:=Be p;have o:z.cps.toList.length=z.length:=by simp[Str.length]
 rw[o]at f w r;have L:=TQ
 exact tail_any (typeIs_str s z t) slot_str_getitem.lookup (getItem_str (by
  have C:decide (i < -(2 ^ 63:Int))=false:=Wx (by lia);have B:decide (i>=2 ^ 63)=false:=Wx (by lia);rw[C,B,Bool.or_false]) (by rw[f];simpa using A) ⟨.str ⟨#[c]⟩,H,I.tok _,⟨_,rfl⟩,q⟩) n
def L1(lo f:Option Int)(n:Nat):(sliceBounds lo f none n).1=((HT.sIx n 0 lo:Nat):Int)/\(sliceBounds lo f none n).2.1=((HT.sIx n n f:Nat):Int)/\(sliceBounds lo f none n).2.2=1:=by
 refine⟨?_,?_,rfl⟩
 ·cases lo with
  |none=>simp[sliceBounds,HT.sIx]
  |some i=>
   simp only[sliceBounds,HT.sIx,Option.getD_none,show(1:Int)>0 by decide,if_true];by_cases h:i<0
   ·grind
   ·simp only[h,if_false]<;>lia
 ·cases f with
  |none=>simp[sliceBounds,HT.sIx]
  |some i=>
   simp only[sliceBounds,HT.sIx,Option.getD_none,show(1:Int)>0 by decide,if_true];by_cases h:i<0
   ·simp only[h,if_true]<;>lia
   ·simp only[h,if_false]<;>lia
def RY(f:Yf)(lo g:Option Int):slicePick f.toArray lo g none=((f.drop<|HT.sIx f.length 0 lo).take (HT.sIx f.length f.length g-HT.sIx f.length 0 lo)).toArray:=by
 obtain⟨n,l,h⟩:=L1 lo g f.toArray.size;unfold slicePick;rw[n,l,h];simp only[sliceRange_one,pick_run,W4]<;>rfl
def PX(K:ZX):V->Option Int->Option Int->Hp->VK->Prop:=λx lo f H Q=>∃a xs,x=.ref a/\SqL K H a xs/\∀p,H p=none->Q (.ref p) (upd H p<|.lst<|X1 xs lo f)
def Lp:SlR X (PX X.K):=by
 intro pins s y H x v A z lo l sl Q I n w p o h;obtain⟨a,xs,rfl,hx,q⟩:=h;cases n
 obtain⟨t,r,g,u⟩:=I.list hx;have f:=r.length;refine⟨"list",_,slot_list_getitem.lookup,g.isList.typeIs,?_⟩;refine wpAny_getItem_list_slice g.isList w p o .none (by simp) ?_ (by grind);rw[RY,←f];refine⟨.ref s.heap.objs.size,_,I.laid (λb B q=>Wq _ q) (Wn _) ?_,rfl,q _ (I.hok.fresh<|Wn _)⟩;exact⟨Wk (FE xs lo l) u,_,0,(r.drop<|HT.sIx xs.length 0 lo).take (HT.sIx xs.length xs.length l-HT.sIx xs.length 0 lo),W2 _ rfl⟩
noncomputable def UO:V->Bool
 | .non=>true
 | .bl _=>true
 | .int _=>true
 | .str _=>true
 |_=>false
noncomputable def eqV:V->V->Bool
 | .non,.non=>true
 | .bl a,.bl b=>a==b
 | .bl a,.int b=>(if a then 1 else 0)==b
 | .int a,.bl b=>a==(if b then 1 else 0)
 | .int a,.int b=>a==b
 | .str a,.str b=>a==b
 |_,_=>false
def Fi{y x u v}(h:RelV y u)(f:RelV x v)(fy:UO y=true)(l:UO x=true):SeqAt.EqAt A s u v (eqV y x):=by
 cases y with
 |non=>
  cases h
  cases x with
  |non=>cases f;exact SeqAt.EqAt.same _
  |bl b=>cases f;exact SeqAt.EqAt.none_bool b
  |int b=>obtain⟨t,rfl⟩:=f;exact SeqAt.EqAt.none_int b t
  |str b=>obtain⟨t,rfl⟩:=f;exact SeqAt.EqAt.none_str b t
  |_=>exact absurd l Wz
 |bl a=>
  cases h
  cases x with
  |non=>cases f;exact SeqAt.EqAt.bool_none a
  |bl b=>cases f;exact SeqAt.EqAt.bool_bool a b
  |int b=>obtain⟨t,rfl⟩:=f;exact SeqAt.EqAt.bool_int a b t
  |str b=>obtain⟨t,rfl⟩:=f;exact SeqAt.EqAt.bool_str a b t
  |_=>exact absurd l Wz
 |int a=>
  obtain⟨g,rfl⟩:=h;cases x with
  |non=>cases f;exact SeqAt.EqAt.int_none a g
  |bl b=>cases f;exact SeqAt.EqAt.int_bool a g b
  |int b=>obtain⟨t,rfl⟩:=f;exact SeqAt.EqAt.int_int a g b t
  |str b=>obtain⟨t,rfl⟩:=f;exact SeqAt.EqAt.int_str a g b t
  |_=>exact absurd l Wz
 |str a=>
  obtain⟨g,rfl⟩:=h;cases x with
  |non=>cases f;exact SeqAt.EqAt.str_none a g
  |bl b=>cases f;exact SeqAt.EqAt.str_bool a g b
  |int b=>obtain⟨t,rfl⟩:=f;exact SeqAt.EqAt.str_int a g b t
  |str b=>obtain⟨t,rfl⟩:=f;exact SeqAt.EqAt.str_str a g b t
  |_=>exact absurd l Wz
 |_=>exact absurd fy Wz
noncomputable def eqU(x:V)(u:Value):Bool:=match u with
 | .none=>eqV .non x
 | .bool b=>eqV (.bl b) x
 | .int i _=>eqV (.int i) x
 | .str z _=>eqV (.str z) x
 |_=>false
def Dv{x y u}(r:RelV y u)(f:UO y=true):eqU x u=eqV y x:=by
 cases y with
 |non|bl b=>cases r;rfl
 |int i|str z=>obtain⟨t,rfl⟩:=r;rfl
 |_=>trivial
theorem PR:∀{xs}{us:Yf},Vals xs us->xs.all UO=true->us.any (eqU x)=xs.any λy=>eqV y x
 |_,_,.nil,_=>rfl
 |y::xs,u::us,.cons r t,f=>by
  rw[Qv,WE]at f;rw[List.any_cons,List.any_cons,Dv r f.1,PR t f.2]
theorem PZ{x v}(h:RelV x v)(l:UO x=true):∀{xs}{us:Yf},Vals xs us->xs.all UO=true->∀u∈us,SeqAt.EqAt A s u v (eqU x u)
 |_,_,.nil,_=>λu g=>by cases g
 |y::xs,u::us,.cons r t,f=>λn g=>by
  rw[Qv,WE]at f;rcases Wu.mp g with rfl|g
  ·rw[Dv r f.1];exact Fi r h f.1 l
  ·exact PZ h l t f.2 n g
noncomputable def inV(x:V)(xs:List V):Bool:=xs.any λy=>eqV y x
noncomputable def rIn(K:ZX)(neg:Bool):R2:=λx y H Q=>∃p xs,y=.ref p/\(SqL K H p xs\/SqT K H p xs)/\UO x=true/\xs.all UO=true/\Q (.bl (if neg then !inV x xs else inV x xs)) H
def O2:OpR X (compareOp .In) (rIn X.K false):=by
 intro pins s z H x y v u Q I l o h;obtain⟨p,xs,rfl,hq,n,fs,q⟩:=h;cases o
 rcases hq with hq|hq
 ·obtain⟨f,r,g,t⟩:=I.list hq;refine SeqAt.in_listAt (eqU x) g.isList (λw hw=>PZ l n r fs w (by grind)) ⟨.bl _,H,I,rfl,?_⟩;rwa[show f.toArray.any (eqU x)=f.any (eqU x) by simp,PR r fs]
 ·obtain⟨f,r,g,t⟩:=I.tuple hq;refine SeqAt.in_tupleAt (eqU x) g (λw hw=>PZ l n r fs w (by simpa using hw)) ⟨.bl _,H,I,rfl,?_⟩;rwa[show f.toArray.any (eqU x)=f.any (eqU x) by simp,PR r fs]
def GV:OpR X (compareOp .NotIn) (rIn X.K true):=by
 intro pins s z H x y v u Q I l o h;obtain⟨p,xs,rfl,hq,n,fs,q⟩:=h;cases o
 rcases hq with hq|hq
 ·obtain⟨f,r,g,t⟩:=I.list hq;refine SeqAt.notIn_listAt (eqU x) g.isList (λw hw=>PZ l n r fs w (by grind)) ⟨.bl _,H,I,rfl,?_⟩;rwa[show f.toArray.any (eqU x)=f.any (eqU x) by simp,PR r fs]
 ·obtain⟨f,r,g,t⟩:=I.tuple hq;refine SeqAt.notIn_tupleAt (eqU x) g (λw hw=>PZ l n r fs w (by grind)) ⟨.bl _,H,I,rfl,?_⟩;rwa[show f.toArray.any (eqU x)=f.any (eqU x) by simp,PR r fs]
def Zat:UE X (.type "list") (λxs H Q=>∃p t,xs=[.ref p]/\(SqL X.K H p t\/SqT X.K H p t)/\∀l,H l=none->Q (.ref l) (upd H l<|.lst t)):=by
 intro pins s M H xs T Q I r h;obtain⟨p,t,rfl,hq,q⟩:=h;obtain⟨u,rfl,N⟩:=vals1 r;cases N
 have B:∀f,Vals t f->t.length<=sizeLine->∀g x,(∀b L,s.heap.get? b=some L->g.get? b=some L)->
   g.get? s.heap.objs.size=some {cls:=.type "list",dict:=none,data:=.seq f.toArray x,slots:=#[]}->EP X pins M Q (.ref s.heap.objs.size) {s with heap:=g}:=λf v z g x y e=>
  ⟨.ref s.heap.objs.size,_,I.laid y (Wn _) (show ObjOk X.prog X.w _ g _ (.lst t)from⟨z,f,x,v,e⟩),rfl,q _ (I.hok.fresh<|Wn _)⟩
 rcases hq with hq|hq
 ·obtain⟨f,v,C,z⟩:=I.list hq;have A:=v.length;obtain⟨o,E,J,n,G⟩:=C.isList;exact call_list_seq p (.inl rfl) E J G (λg x y e=>B f v z g x y e) (by grind)
 ·obtain⟨f,v,C,z⟩:=I.tuple hq;have A:=v.length;obtain⟨o,E,J,n,G⟩:=C;exact call_list_seq p (.inr rfl) E J G (λg x y e=>B f v z g x y e) (by simp only[W4]<;>lia)
def tyV(K:ZX)(T:String)(x:V)(H:Hp):Prop:=match x with
 | .str _=>T = "str"
 | .int _=>T = "int"
 | .ref p=>(T = "list"/\∃xs,SqL K H p xs)\/(T = "tuple"/\∃o,K.lookup p=some o/\o.cls=.type "tuple"/\o.dict=none)\/
   (T = "dict"/\((∃f,H p=some (.dK f))\/∃f,H p=some (.dT f)))\/(T = "set"/\∃S n,H p=some (.set S n))
 |_=>False
def Ej{B:St}{H}{s}{T}{x}{v}(I:Inv X pins B H s)(r:RelV x v)(h:tyV X.K T x H) :
  s.TypeIs v T/\∀a,v=.ref a->∃A,s.heap.get? a=some A/\A.dict=none:=by
 cases x with
 |str z=>
  obtain⟨t,rfl⟩:=r;cases h
  exact⟨typeIs_str s z t,λ_ e=>nomatch e⟩
 |int i=>
  obtain⟨t,rfl⟩:=r;cases h
  exact⟨typeIs_int s i t,λ_ e=>nomatch e⟩
 |ref p=>
  cases r
  rcases h with⟨rfl,xs,hq⟩|⟨rfl,o,f,E,u⟩|⟨rfl,f⟩|⟨rfl,S,n,f⟩
  ·obtain⟨C,_,y,_⟩:=I.list hq;refine⟨y.isList.typeIs,λa e=>?_⟩;cases e
   obtain⟨o,n,e,c,u,_⟩:=y;exact⟨o,e,u⟩
  ·refine⟨⟨o,I.kIn p o f,E⟩,λa e=>?_⟩;cases e
   exact⟨o,I.kIn _ o f,u⟩
  ·have z:∃o,s.heap.get? p=some o/\o.ExactDict:=by
    rcases f with⟨l,f⟩|⟨l,f⟩
    ·obtain⟨_,_,_,_,o,_,_,e,g,_⟩:=I.hok p _ f;exact⟨o,e,g⟩
    ·obtain⟨_,_,_,_,o,_,_,e,g,_⟩:=I.hok p _ f;exact⟨o,e,g⟩
   obtain⟨o,e,g⟩:=z;refine⟨⟨o,e,g.1⟩,λa w=>?_⟩;cases w
   exact⟨o,e,g.2.1⟩
  ·obtain⟨o,_,_,_,e,g,_⟩:=I.hok p _ f;refine⟨⟨o,e,g.1⟩,λa w=>?_⟩;cases w
   exact⟨o,e,g.2.1⟩
 |_=>exact False.elim h
noncomputable def BG(K:ZX)(T:String)(r:V->List V->Hp->VK->Prop)(h:TE):TE:=λg H Q=>h g H λx f=>tyV K T x f/\r x [] f Q
noncomputable def tBM(K:ZX)(T:String)(r:V->List V->Hp->VK->Prop)(h:TE)(t:TA):TE:=λf H Q=>h f H λx g=>tyV K T x g/\t f g λxs l=>r x xs l Q
variable {o e:Expr}{es:Yh}{to:TE}{t:TA}{name:Str}{apos cpos:Pos}{T id:String}{r:V->List V->Hp->VK->Prop}
def T8(A:PlainAttrs T)(slot:Slot T name id)(l:typeOf (.builtin id)=pure (.type "method_descriptor"))(C:MtR X id r)(B:PE X o to)(g:autoParam (attributeBase o name X.env (eval o X.env)=eval o X.env) au_0)(f:autoParam ((apos.endLine==cpos.line)=true) au_0):PE X (.Call (.Attribute o name apos) [] [] cpos) (BG X.K T r to):=by
 intro pins s n H Q I h;refine wpAny_Call_method0_late g f (thn (B pins s n H _ I h) ?_);rintro v y ⟨x,J,u,p,w,z⟩;obtain⟨G,E⟩:=Ej u p w;exact⟨T,id,A,slot,l,G,E,Calls.callWith_builtin rfl (PySem.evalArgs_none<|C pins y n J x [] v [] Q u p .nil z)⟩
def Td(N:PlainAttrs T)(slot:Slot T name id)(u:typeOf (.builtin id)=pure (.type "method_descriptor"))(hm:MtR X id r)(Y:PE X o to)(ha:PA X (e::es) t)(g:autoParam (attributeBase o name X.env (eval o X.env)=eval o X.env) au_0)
  (l:autoParam (((backTo cpos<|starEach (e::es) X.env).all (λx=>!x.1)&&(backToKw cpos<|keywordEach [] X.env).all (λx=>x.1.isSome)
   && decide ((e::es).length+([]:List Keyword).length+(if ([]:List Keyword).isEmpty then 0 else 1)<30))=true) au_0)
  (f:autoParam ((apos.endLine==cpos.line)=true) au_0) (U:autoParam (starEach (e::es) X.env=(false,eval e X.env)::starEach es X.env) au_0) (n:autoParam ((backTo cpos<|starEach es X.env).any (·.1)=false) au_0) :
  PE X (.Call (.Attribute o name apos) (e::es) [] cpos) (tBM X.K T r to t):=by
 intro pins s p H Q I h;refine wpAny_Call_method_late g l f rfl (thn (Y pins s p H _ I h) λv G ⟨x,H1,z,w,C,M⟩=>?_);obtain⟨h1,h2⟩:=Ej z w C;refine⟨T,id,N,slot,u,h1,h2,?_⟩;have y:=ha cpos pins G p H1 _ z M;rw[U]at y ⊢;refine Calls.callWith_builtin (by grind) (Calls.evalArgs_plain ?_);exact thn y λB E ⟨A,H2,I2,J,L⟩=>hm pins E p H2 x A v B Q I2 w J L
end
def MtM(X:Cx)(id:String)(r:V->List V->Hp->VK->Prop):Prop:=
 ∀(pins:Ya) (s:Shared) (f:St) (H:Hp) (x:V) (xs:List V) (v:Value) (g:Yf) (Q:VK),Inv X pins f H s->RelV x v->Vals xs g->r x xs H Q->
  wpAny (model X.prog X.w) X.A (call (.builtin id) (v::g)) (EP X pins f Q) X.xe s
def Vals.one:∀{x}{us:Yf},Vals [x] us->∃u,us=[u]/\RelV x u:=by
 intro _ _ h;cases h with
 |cons r t=>
  cases t
  exact⟨_,rfl,r⟩
def Vals.zero:∀{us:Yf},Vals [] us->us=[]
 |_,.nil=>rfl
def Vals.dropLast (h:Vals xs us):Vals xs.dropLast us.dropLast:=by
 induction h with
 |nil=>exact .nil
 |cons r t f=>
  cases t with
  |nil=>grind
  |cons q g=>exact .cons r f
def Zbz{f:Type}(l:List f):l.eraseIdx (l.length-1)=l.dropLast:=by simp
section
variable {X:Cx}{pins:Ya}{σ:St}{H:Hp}{s:Shared}{l b:Addr}{xs ys zs:List V}
def Inv.lset {h g:Yf}{n}{f}{t'} (I:Inv X pins σ H s) (w:H l=some (.lst xs))
  (e:s.heap.get? l=some {cls:=.type "list",data:=.seq h.toArray n}) (t:f h.toArray=g.toArray) (p:Vals ys g) (o:ys.length<=sizeLine) :
  Inv X pins σ (upd H l<|.lst ys) {s with heap:=s.heap.update l (Obj.mapSeq f),toks:=t'}:=by
 have q:=PySem.IsL.update e f;rw[t]at q;refine I.write (by rw[w];exact trivial) (.inl rfl) (λx u v r=>(WY s.heap (Obj.mapSeq f)<|Ne.symm v).trans r) ⟨_,q⟩ ?_;exact⟨o,g,_,p,q⟩
def Inv.lnew (I:Inv X pins σ H s) (h:Vals ys f) (g:ys.length<=sizeLine) :
  Inv X pins σ (upd H s.heap.objs.size<|.lst ys) {s with heap:=s.heap.push {cls:=.type "list",data:=.seq f.toArray},toks:=t'}:=
 I.laid (λ_ _ q=>Wq _ q) (Wn _) ⟨g,f,0,h,W2 _ rfl⟩
def Inv.fresh (I:Inv X pins σ H s):H s.heap.objs.size=none:=I.hok.fresh (Wn _)
def Inv.lstM (I:Inv X pins σ H s) (g:H l=some (.lst xs)):xs.length<=sizeLine/\∃f n,Vals xs f/\xs.length=f.length/\s.heap.get? l=some {cls:=.type "list",data:=.seq f.toArray n}:=by
 obtain⟨z,f,n,r,e⟩:=I.hok l _ g;exact⟨z,f,n,r,r.length,e⟩
end
section
variable {X:Cx}
def NC:V->List V->Hp->VK->Prop:=λx f H Q=>∃l xs y,x=.ref l/\f=[y]/\H l=some (.lst xs)/\xs.length<sizeLine/\Q .non (upd H l<|.lst (xs++[y]))
def PP:MtM X "list.append" NC:=by
 intro pins s w H x A v B Q I o p h;obtain⟨l,xs,y,rfl,rfl,g,C,q⟩:=h;cases o
 obtain⟨u,rfl,t⟩:=p.one;obtain⟨z,f,n,r,E,e⟩:=I.lstM g;refine call_meets F.slot_list_append ⟨_,e,rfl⟩ F.entry_list_append (F.args_list_append_2 _ _) (PySem.list_append l f.toArray n u<|by grind) ⟨e,?_⟩;refine⟨.non,_,I.lset g e (by simp) (r.append<|.cons t .nil) ?_,rfl,q⟩
 grind
def Sn:V->List V->Hp->VK->Prop:=λx f H Q=>∃l xs y,x=.ref l/\f=[]/\H l=some (.lst xs)/\xs[xs.length-1]?=some y/\Q y (upd H l<|.lst xs.dropLast)
def Tn:MtM X "list.pop" Sn:=by
 intro pins s C H x E v G Q I t w h;obtain⟨l,xs,y,rfl,rfl,p,B,q⟩:=h;cases t
 have o:=w.zero;subst o;obtain⟨z,f,n,r,L,e⟩:=I.lstM p;obtain⟨u,J,A⟩:=r.get B;have g:f.toArray[f.toArray.size-1]?=some u:=by grind
 refine call_meets F.slot_list_pop ⟨_,e,rfl⟩ F.entry_list_pop (F.args_list_pop_1 _) (MeetsSeq.list_pop_last l f.toArray n u g<|by rw[W4];lia) ⟨e,?_⟩;refine⟨y,_,I.lset p e ?_ r.dropLast ?_,A,q⟩
 ·simp
 ·grind
noncomputable def AV:R2:=λx y H Q=>∃l b xs f,x=.ref l/\y=.ref b/\H l=some (.lst xs)/\H b=some (.lst f)/\xs.length+f.length<=sizeLine/\∀p,H p=none->Q (.ref p) (upd H p<|.lst (xs++f))
def U7:OpR X (binaryOp .Add) AV:=by
 intro pins s G H x y v u Q I p o h;obtain⟨l,b,xs,J,rfl,rfl,A,B,N,q⟩:=h;cases p
 cases o
 obtain⟨z,g,n,r,T,e⟩:=I.lstM A;obtain⟨L,f,M,t,w,E⟩:=I.lstM B;refine PySem.P.add_list e E ?_ (by grind);have C:g.toArray++f.toArray=(g++f).toArray:=by simp
 rw[C];exact⟨.ref _,_,I.lnew (r.append t) (by grind),rfl,q _ I.fresh⟩
end
end L2
namespace Att
open PySem PySem.W PySem.Calls PyProof.Rows
def OF:∀f vs,WellAll P h vs (f.map WData.int)->IntsAre vs f:=by
 intro f
 induction f with
 |nil=>
  intro vs w;cases w
  exact .nil
 |cons n f g=>
  intro vs w;cases w with
  |cons a b=>
   cases a
   exact .cons _ _ (g _ b)
def GR{l:OpenLaw}{n}(y:l.most=some n){P}{h}{args}{vals}(g:l.row.toRowW.claim.pre args=true)(s:WellAll P h vals args) :
  ∃a vs f,vals=[Value.ref a]/\args=[WData.list (f.map WData.int)]/\h.get? a=some {cls:=.type "list",data:=.seq vs.toArray}/\IntsAre vs f/\f.length<=n:=by
 have t:WShape.hasAll [] args [.list .int]=true:=(pre_splitW g).1;have z:l.pre.holds [] {args:=args}=true:=(pre_splitW g).2;obtain⟨d,r,rfl,C,B⟩:=hasAllW_cons t;obtain rfl:=hasAllW_nil B;obtain⟨xs,rfl,A⟩:=hasW_list C;obtain⟨f,rfl⟩:=items_int A
 have o:f.length<=n:=by
  have u:(WTm.not<|.lt (.lit<|.int (n:Int))<|.len<|.arg 0).holds [] {args:=[.list (f.map .int)]}=true:=by
   have u:=(holds_andW z).1;rw[y]at u;lia
  have E:=condW_of u (w_not<|w_lt w_lit<|w_len_list<|w_arg rfl);simp_all
 cases s with
 |cons w v=>
  cases v
  cases w with
  |list x p=>exact⟨_,_,f,rfl,rfl,x,OF f _ p,o⟩
def ON(l:OpenLaw)(args:List WData):l.row.toRowW.claim.post args (.bool true) args=true:=
 postW_of
  rfl
  (w_eq_bool (w_res rfl) w_lit) rfl
def Ic{l:OpenLaw}{n}{q}{loose}{XP}{YP}{d}(U:l.most=some n)(J:d.params.defaults=[])
  (call:∀w s₀ g z C v o B A p a vs y,
   Ground q loose [] XP w s₀ z C g.heap->YP w g.heap->
   g.heap.get? v=some o->o.data=.func (docDef d.name d.params d.body d.scope B A p)->g.heap.CodeRec A d.name->z d.name=some (.ref v)->
   g.heap.get? a=some {cls:=.type "list",data:=.seq vs.toArray}->IntsAre vs y->y.length<=n->g.gens=#[]->
   codeAny (model l.prog w) callerA (.call (.ref v) ⟨[.ref a],[]⟩) (λr x=>r=.ok (.ret<|.bool true)/\OldK g.heap x.heap/\x.os=g.os/\AllBare x.gens) g) :
  WalkO q loose XP YP l.row.toRowW d [] (λf vs=>PySem.call f vs):=by
 intro w s₀ g z C G Y v o B A p dV kV T hd L N H hg args vals as s M Q E hlo;obtain rfl:=Dflts.none N J;obtain rfl:=Dflts.noKw N;obtain⟨a,vs,y,rfl,rfl,t,h,u⟩:=GR U s E;refine enter_call (QH (call w s₀ g z C v o B A p a vs y G Y T (fd_plain hd) L H t h u hg) λr x hq=>?_);obtain⟨rfl,h2,h3,h4⟩:=hq;exact⟨.inl ⟨.bool true,.bool true,[],rfl,λ_=>rfl,.bool true,ON l _,λ_=>⟨List.Pairwise.nil,λ_ hm=>(nomatch hm)⟩⟩,h2,h3,h4⟩
end Att
namespace L2
theorem Fk:∀{vs}{f:ZZ},IntsAre vs f->Vals (f.map V.int) vs
 |_,_,.nil=>.nil
 |_,_,.cons n t h=>.cons ⟨t,rfl⟩ (Fk h)
def Ni(H:Hp):Prop:=∀b,H b=none\/∃o xs,H b=some (.frz o<|.lst xs)
def L5{K B U CX k fa a fd x sp f vs A}(KX:K.In f.heap)(G:f.heap.Ns mainGlobals B)(g:f.heap.Ns builtinsNs U)(hbb:∀x:Str,x≠"__name__"->U x=bootBuiltins x)(J:f.heap.NoLimit)(hg:f.gens=#[])(M:f.heap.get? a=some {cls:=.type "list",data:=.seq vs.toArray})(hi:IntsAre vs A)(hl:A.length<=sizeLine)(hr:J7 k callerA)(F:∀base,K.In base->base.Ns mainGlobals B->U3 P w K B base CX k fa fd [x] sp)(t:∀s u,BindsTo s fd ⟨[u],[]⟩ [(x,u)])(Y:∀H,Ni H->SqL K H a (A.map V.int)->sp [.ref a] H (λv _=>v=.bl true) λ_ _ _=>False)(hCX:∀H e l,CX [] H f (λ_ _ _=>False) e l->False) :
  codeAny (model P w) callerA (.call (.ref fa) ⟨[.ref a],[]⟩) (λr l=>r=.ok (.ret<|.bool true)/\OldK f.heap l.heap/\l.os=f.os/\AllBare l.gens) f:=by
 have rv:=Fk hi
 have core:∀H,Ni H->SqL K H a (A.map V.int)->HOk P w H f.heap->(∀b,H b≠none->b=a)->(H a≠none->K.lookup a=none)->
   codeAny (model P w) callerA (.call (.ref fa) ⟨[.ref a],[]⟩) (λr l=>r=.ok (.ret<|.bool true)/\OldK f.heap l.heap/\l.os=f.os/\AllBare l.gens) f:=by
  intro H hO hS E hA hK;have base_of:∀{b:Addr} {o:Obj},f.heap.get? b=some o->H b=none->(XQ f.heap H).get? b=some o:=λe n=>Hy e n
  have T:∀{b:Addr} {o:Obj} {N:Array DictEntry} {Q:Nat},f.heap.get? b=some o->o.data=.dict N Q->H b=none:=λ{b o N Q} e d=>by
   cases q:H b with
   |none=>rfl
   |some u=>
    have e':=hA b (by rw[q];simp);subst e';rw[M]at e;cases e;cases d
  have p:∀{b:Addr} {m:Yb},f.heap.Ns b m->(XQ f.heap H).Ns b m:=λ{b m} ⟨o,N,Q,e,d,r⟩=>⟨o,N,Q,base_of e (T e d),d,r⟩
  have L:=λb o e=>base_of (KX b o e) (by
   cases q:H b with
   |none=>rfl
   |some u=>
    have e':=hA b (by rw[q];simp);subst e';rw[hK (by rw[q];simp)]at e;cases e)
  have hM:Mod K B (XQ f.heap H):=⟨L,p G,⟨U,p g,hbb⟩,let ⟨mc,h1,h2⟩:=J;⟨mc,p h1,h2⟩⟩;have e0:Kq P w K B (XQ f.heap H) callerA [] f H:=⟨rfl,hM,λb o e=>Zbe e,Qc (Rw _ _),trivial,λb g=>absurd (show b∈([]:List Addr)from g) (by simp),E,.of_eq hg⟩
  refine QH ((F _ L<|p G).run callerA [] f H ⟨[.ref a],[]⟩ [.ref a] [.ref a] _ _ hr e0 (t f<|.ref a) (.cons rfl .nil) (Y H hO hS)) λr l h=>?_;cases r with
  |error e=>exact(hCX H e l h).elim
  |ok fl=>
   cases fl with
   |ret u=>
    obtain⟨v,H',os,bare,un,C,r',q⟩:=h;subst q;obtain rfl:=r';refine⟨rfl,OldK.of_keep λb o e=>?_,os,bare⟩;cases q:H b with
    |none=>exact un.keep b o e q (by intro z;exact absurd (show b∈([]:List Addr)from z) (by simp)) (by simp)
    |some u=>
     rcases hO b with z|⟨ob,xs,z⟩
     ·rw[q]at z;cases z
     ·have z2:=un.frzs b ob _ z;obtain⟨e1,_⟩:=E b _ z;obtain⟨e2,_⟩:=C b _ z2;rw[e]at e1;cases e1;exact e2
   |_=>exact False.elim h
 cases hk:K.lookup a with
 |some o=>
  have e:=KX a o hk;rw[M]at e;cases e
  refine core (λ_=>none) (λ_=>.inl rfl) (.inr ⟨_,vs.toArray,_,hk,rfl,rfl,rfl,by rw[W4,hi.length];exact hl,by simpa using rv⟩) (λb u z=>by have y:=z;cases y) (λb z=>absurd rfl z) λz=>absurd rfl z
 |none=>
  refine core (λb=>if b=a then some (.frz {cls:=.type "list",data:=.seq vs.toArray} (.lst<|A.map V.int))else none) (λb=>?_) (.inl<|.inr ⟨{cls:=.type "list",data:=.seq vs.toArray},Wm rfl⟩) (λb u z=>?_) (λb z=>?_) λ_=>hk
  ·by_cases g:b=a
   ·exact .inr ⟨_,_,Wm g⟩
   ·exact .inl (Wo g)
  ·by_cases g:b=a
   ·have y:=(Wm g).symm.trans z;cases y
    subst g;exact⟨M,by rw[Wg];exact hl,vs,_,rv,M⟩
   ·have y:=(Wo g).symm.trans z;cases y
  ·by_cases g:b=a
   ·exact g
   ·exact absurd (Wo g) z
def MC{l:PySem.W.OpenLaw}{n k}{q}{loose}{XP}{YP}{d}{K:Params->ZX}{CX:World->CXT}{sp:World->Sp}{x}(hn:l.most=some n)(J:n<=sizeLine)(M:d.params.defaults=[])(hr:J7 k callerA)(hY:∀w h,YP w h->(K w.params).In h)
  (F:∀w t B h,(K w.params).In h->h.Ns mainGlobals t->t d.name=some (.ref B)->
   ∃Q,(∀s u,BindsTo s Q ⟨[u],[]⟩ [(x,u)])/\
    ∀base,(K w.params).In base->base.Ns mainGlobals t->U3 l.prog w (K w.params) t base (CX w) k B Q [x] (sp w))
  (E:∀w H a (A:ZZ),A.length<=n->Ni H->SqL (K w.params) H a (A.map V.int)->sp w [.ref a] H (λv _=>v=.bl true) λ_ _ _=>False)
  (N:∀w H s e C,CX w [] H s (λ_ _ _=>False) e C->False) :
  PySem.W.WalkO q loose XP YP l.row.toRowW d [] (λf vs=>PySem.call f vs):=by
 refine Att.Ic hn M λw U y t mb B o pm cd doc a vs A G Y ho hd hcd L z r p hg=>?_;have KX:=hY w _ Y;obtain⟨Q,hb,hF⟩:=F w t B _ KX G.T.g L;exact L5 KX G.T.g G.T.b G.T.builtins G.T.nolimit hg z r (Wk p J) hr hF hb (λH hO hS=>E w H a A p hO hS) λH e C=>N w H y e C
def OO{l:PySem.W.OpenLaw}{n k}{q}{loose}{XP}{YP}{d}{K:Params->ZX}{CX}{sp:ZX->Sp}{x}(E:l.most=some n)(t:n<=sizeLine)(y:d.params.defaults=[])(C:J7 k callerA)(G:∀w h,YP w h->(K w.params).In h)
  (F:∀w o B h,(K w.params).In h->h.Ns mainGlobals o->o d.name=some (.ref B)->
   ∃A,(∀s u,BindsTo s A ⟨[u],[]⟩ [(x,u)])/\
    ∀base,(K w.params).In base->base.Ns mainGlobals o->U3 l.prog w (K w.params) o base CX k B A [x] (sp<|K w.params))
  (r:∀K H a (g:ZZ),g.length<=n->Ni H->SqL K H a (g.map V.int)->sp K [.ref a] H (λv _=>v=.bl true) λ_ _ _=>False)
  (z:∀H s e p,CX [] H s (λ_ _ _=>False) e p->False) :
  PySem.W.WalkO q loose XP YP l.row.toRowW d [] (λf vs=>PySem.call f vs):=
 MC E t y C G F (λw H a g M L J=>r (K w.params) H a g M L J) λ_ H s e p=>z H s e p
noncomputable def inClass(s:Stmt)(j:Nat):Stmt:=match s with
 | .ClassDef _ _ _ body _ _ _ _ _ _ _=>body.getD j (.Pass ⟨0,0,0,0⟩)
 |_=>.Pass ⟨0,0,0,0⟩
noncomputable def Xd(s:Stmt):Arguments:=match s with
 | .FunctionDef _ a _ _ _ _ _ _ _ _=>a
 |_=>{posonlyargs:=[],args:=[],vararg:=none,kwonlyargs:=[],kw_defaults:=[],kwarg:=none,defaults:=[]}
noncomputable def JT(s:Stmt):Yi:=match s with
 | .FunctionDef _ _ b _ _ _ _ _ _ _=>b
 |_=>[]
noncomputable def Jy(s:Stmt):Scope:=match s with
 | .FunctionDef _ _ _ _ _ _ f _ _ _=>f
 |_=>{kind:=.function,names:=[],isGenerator:=false,isCoroutine:=false}
noncomputable abbrev CX0:CXT:=λ_ _ _ _ _ _=>False
noncomputable abbrev E0:XK:=λ_ _ _=>False
def Uu:US CX0 X E0:=λ_ _ _ _ _ _ _ h=>h.elim
structure Fun (K:ZX) (x qual:Str) (st:Stmt) (f:Addr) (fd:FuncData):Prop where
 ex:∃(oc:Value) (od:Yk) (kV doc pm:Value) (an:Yk) (cdv ct:Value) (osl:Array (Yj)),
  fd=PySem.W.fnOf x qual (Xd st) (JT st) (Jy st) .none kV doc pm an cdv ct/\K.lookup f=some ⟨oc,od,.func fd,osl⟩/\PySem.W.codeIn K cdv qual=true
 kp:PySem.W.keepIn K (.ref f)=true
section
variable {P:Program}{w:World}{K:ZX}{mg:Yb}{base:Heap}
def Fun.ok {st f p N ps k sp} (F:Fun K x qual st f p) (S:J1 N ps (Jy st)) (len:∀vs H Q E,sp vs H Q E->vs.length=ps.length)
  (l:∀g A outer s H vs Q E,J7 k (A.deeper<|envOfC qual (Jy st) s.heap.objs.size f g)->sp vs H Q E->
   ∃t,PSs (JX CX0 P w K mg base N qual (Jy st) f g A outer s H E).nox (JT st) t/\t {nx:=λ_ H'=>Q .non H',rt:=Q} (start N vs) H):U3 P w K mg base CX0 (k+1) f p ps sp:=by
 obtain⟨oc,B,kV,y,z,G,g,C,r,rfl,u,o⟩:=F.ex;refine NY u o S len λA outer s H vs Q E v n=>?_;obtain⟨t,h,q⟩:=l g A outer s H vs Q E v n;exact⟨t,h.nox,q⟩
def Fun.binds {st f p ps} (F:Fun K x qual st f p)
  (h:∀kV g n o l ct us,us.length=ps.length->bindArgs (PySem.W.fnOf x qual (Xd st) (JT st) (Jy st) .none kV g n o l ct) ⟨us,[]⟩=pure (ps.zip us)):Binds K p ps []:=by
 obtain⟨oc,t,kV,g,n,o,l,ct,r,rfl,u,s⟩:=F.ex;exact .all (h kV g n o l ct)
def Sk{st f oc r p n kV h o g ct}(l:K.lookup f=some ⟨oc,r,.func (PySem.W.fnOf x qual (Xd st) (JT st) (Jy st) .none kV h o p g ct),n⟩)(c:PySem.W.codeIn K g qual=true)(k:PySem.W.keepIn K (.ref f)=true):Fun K x qual st f (PySem.W.fnOf x qual (Xd st) (JT st) (Jy st) .none kV h o p g ct):=⟨⟨oc,r,kV,h,o,p,g,ct,n,rfl,l,c⟩,k⟩
end
def Ed{k}(f:J7 k A):A.units+1<cLine:=Qp (Nat.add_le_add_left (by simp) _) f.units
def LA(h:n<=1000):n<sizeLine:=Qp h (by decide)
section
variable {X:Cx}
def pv(i:Nat){x pos}(l:autoParam (X.N[i]?=some x) au_0)(g:autoParam (Vis X.env.scope x) au_4)(h:autoParam ((x==("__debug__" : Str))=false) au_1)(f:autoParam ((x==("__classdict__" : Str))=false) au_1):PE X (.Name x pos) (UA i):=Mf l g h f
end
def JN{A B:Prop}(h:B):if false=true then A else B:=by grind
def Ur{A B:Prop}(h:A):if true=true then A else B:=by grind
def J2{c A B:Prop}[Decidable c](g:c->A)(f:¬c->B):if c then A else B:=by grind
def KP{c A B:Prop}[Decidable c](f:c)(h:B):if (!decide c)=true then A else B:=by grind
def Same(H H':Hp):Prop:=∀b o,H b=some o->H' b=some o
def Same.refl (H:Hp):Same H H:=λ_ _ h=>h
def Same.trans (a:Same H g) (b:Same g f):Same H f:=λc o h=>b c o (a c o h)
def Same.free (e:Same H H') {l} (h:H' l=Option.none):H l=Option.none:=by
 cases q:H l with
 |none=>rfl
 |some o=>
  rw[e l o q]at h;lia
def Same.seq {K H H'}{a xs} (e:Same H H') (h:SqL K H a xs):SqL K H' a xs:=by
 rcases h with(h|⟨o,h⟩)|h
 ·exact .inl (.inl<|e _ _ h)
 ·exact .inl (.inr ⟨o,e _ _ h⟩)
 ·exact .inr h
end L2
set_option maxHeartbeats 4000000
namespace L2
section
variable {κ:Type} [DecidableEq κ]
def RelO.isSome_eq {o:Option V}{u:Yj} (r:RelO o u):o.isSome=u.isSome:=by
 cases o with
 |none=>cases u with
  |none=>rfl
  |some _=>exact(show False from r).elim
 |some _=>cases u with
  |none=>exact(show False from r).elim
  |some _=>rfl
end
def Dx(i:Expr):Prop:=∀f g,subscripted i false f g=operate [f,g] (getItem f g)
def Ob{prog:Program}{w:World}{A:Around}{E:Yc}{s:Shared}{env:Env}{value slice:Expr}{pos:Pos}{T id:String}{Q:Yc}(z:typeLookup (.type T) "__getitem__"=pure (some<|.builtin id))(y:Dx slice)(h:wpAny (model prog w) A (eval value env) (λo n=>wpAny (model prog w) A (eval slice env) (λi f=>f.TypeIs o T/\wpAny (model prog w) A (getItem o i) Q E f) E n) E s) :
  wpAny (model prog w) A (eval (.Subscript value slice pos) env) Q E s:=by
 refine Subscript_ (WQ h (λo n u=>WQ u (λi f g=>?_) λ_ _ x=>x) λ_ _ x=>x);obtain⟨v,g⟩:=g;unfold subscriptTail;refine Wp ?_;rw[getitemInPython_of_ne v.not_modules];refine Wp (wpAny_specialOf v z ?_)
 have p:wpAny (model prog w) A (subscripted slice false o i) (λr l=>wpAny (model prog w) A (letTemporaryGo value o r >>= λ_=>pure r) Q E l) E f:=by
  rw[y o i];exact wpAny_operating (WQ g (λr l t=>Wp (wpAny_letTemporaryGo<|Wy t)) λ_ _ x=>x)
 first
  |exact Wy (Wp p)
  |exact Wp (Wy<|Wp p)
  |exact Wp p
end L2
set_option genInjectivity false
set_option genSizeOfSpec false
namespace Own
open L2
structure Def (K:ZX) (mg:Yb) (x:Str) (st:Stmt) (ps:Yg):Prop where
 ex:∃f fd,Fun K x x st f fd/\mg x=some (.ref f)/\Binds K fd ps []
structure Callee (P:Program) (w:World) (K:ZX) (mg:Yb) (base:Heap) (CX:CXT) (k:Nat) (x:Str) (ps:Yg) (sp:Sp):Prop where
 ex:∃f fd,U3 P w K mg base CX k f fd ps sp/\mg x=some (.ref f)/\PySem.W.keepIn K (.ref f)=true/\(∃o:Obj,K.lookup f=some o/\o.data=.func fd)/\Binds K fd ps []
section
variable {P:Program}{w:World}{K:ZX}{mg:Yb}{base:Heap}
def Callee.at {st f g k ps sp} (C:Callee P w K mg base CX k x ps sp) (u:mg x=some (.ref f)) (F:Fun K x x st f g) (_:Def K mg x st ps):U3 P w K mg base CX k f g ps sp:=by
 obtain⟨y,n,B,l,_,v,_⟩:=C.ex;obtain⟨oc,s,kV,o,r,A,p,z,h,_,t,_⟩:=F.ex
 grind
def Def.ok {st N ps k sp} (D:Def K mg x st ps) (S:J1 N ps (Jy st)) (len:∀vs H Q E,sp vs H Q E->vs.length=ps.length)
  (l:∀f g A outer s H vs Q E,J7 k (A.deeper<|envOfC x (Jy st) s.heap.objs.size f g)->sp vs H Q E->
   ∃t,PSs (JX CX0 P w K mg base N x (Jy st) f g A outer s H E).nox (JT st) t/\t {nx:=λ_ H'=>Q .non H',rt:=Q} (start N vs) H):Callee P w K mg base CX0 (k+1) x ps sp:=by
 obtain⟨f,u,F,p,r⟩:=D.ex;refine⟨f,u,F.ok S len λg A outer s H vs Q E o h=>l f g A outer s H vs Q E o h,p,F.kp,?_,r⟩;obtain⟨oc,z,kV,v,y,G,g,C,n,_,B,_⟩:=F.ex
 grind
end
section
variable {X:Cx}{CX:CXT}{k:Nat}{ps:Yg}{sp:Sp}{E:XK}{x:Str}{p pos:Pos}{e:Expr}{es:Yh}{t:TA}
def NF(C:Callee X.prog X.w X.K X.mg X.base CX k x ps sp)(l:J7 k X.A)(hx:US CX X E)(v:PA X (e::es) t)(r:autoParam (Gl X x) au_0)(h:autoParam ((x==("__debug__" : Str))=false) au_1)(s:autoParam (starEach (e::es) X.env=(false,eval e X.env)::starEach es X.env) au_0)(g:autoParam ((backTo pos<|starEach es X.env).any (·.1)=false) au_0) :
  PE X (.Call (.Name x p) (e::es) [] pos) (XG sp [] E t):=by
 obtain⟨f,y,F,n,o,_,u⟩:=C.ex;exact IR F l r n o u .nil hx v h s g
def Lc:UE X (.builtin "isinstance") (λxs H Q=>∃x n t b,xs=[x,.ty n]/\UF X.K H x t/\PySem.W.kitOne X.K t (.type n)=some b/\Q (.bl b) H):=by
 intro pins s w H xs y Q I o h;obtain⟨x,n,t,b,rfl,g,e,q⟩:=h;cases o with
 |cons r u=>
  cases u with
  |cons v f=>
   cases f
   obtain rfl:=v;exact O3 I r g e λl=>⟨.bl b,H,I.tok l,rfl,q⟩
def Gg:IxR X (λx y H Q=>KC X.K x y H Q\/KR X.K x y H Q):=ix_list.or Iw
end
noncomputable def Dm(t u:TS):TS:=λD h H=>∃J:L2.St->Hp->Prop,t {D with nx:=J} h H/\∀f g,J f g->u D f g
def Iv{st rest t u}(r:PS X st t)(p:PSs X rest u):PSs X (st::rest) (Dm t u):=by
 intro pins s n H D I h;obtain⟨J,h,k⟩:=h;refine wpAny_execs_cons (thn (r pins s n H {D with nx:=J} I h) λf o q=>?_)
 cases f with
 |next=>
  obtain⟨g,l,v,q⟩:=q;exact p pins o g l D v (k g l q)
 |_=>exact q
def Zbo(K:ZX)(n:String):PySem.W.kitOne K (.type n) (.type n)=some true:=by
 unfold PySem.W.kitOne;simp
def Pg{xs i v}(h:atI xs i=some v):atI (xs.map f) i=some (f v):=by
 unfold atI at h ⊢;cases e:ixN xs.length i with
 |_=>grind
def PJ{i v}(f:0<=i)(h:xs[i.toNat]?=some v):atI xs i=some v:=by
 have:=PB h
 grind
def UP(h:H a=none):Same H (upd H a o):=λb u e=>by rw[JF (Xm e h)];exact e
def Ih(names:List (Str×NameKind))(g:∀x∈names,x.2=.free->∃c,env.cells.lookup x.1=some c):∀f,(∀x c,f.lookup x=some c->env.cells.lookup x=some c)->
  ∃l,(forIn names f (λx z=>if (x.2 == .free)=true then(do let c ←cellOf env x.1;pure (ForInStep.yield ((x.1,c)::z)))else pure (ForInStep.yield z)):Sem (Yl))=pure l/\
   (∀x c,l.lookup x=some c->env.cells.lookup x=some c)/\(∀x,(∃c,f.lookup x=some c)->∃c,l.lookup x=some c)/\∀x∈names,x.2=.free->∃c,l.lookup x.1=some c:=by
 induction names with
 |nil=>
  intro f s;exact⟨f,rfl,s,λ_ h=>h,λx hx=>by cases hx⟩
 |cons y r A=>
  intro f s;have o:=A λx hx=>g x (W0 _ hx);obtain⟨n,k⟩:=y;by_cases v:k=.free
  ·subst v;obtain⟨c,w⟩:=g (n,.free) W7 rfl
   have B:∀x d,List.lookup x ((n,c)::f)=some d->env.cells.lookup x=some d:=λx d e=>by
    rw[WU]at e;by_cases hx:x=n
    ·subst hx;simp at e;subst e;exact w
    ·have:(x==n)=false:=by simpa using hx
     rw[this]at e;exact s x d e
   obtain⟨l,e,u,p2,t⟩:=o ((n,c)::f) B;refine⟨l,?_,u,λx hx=>p2 x ?_,λx hx p=>?_⟩
   ·rw[List.forIn_cons];have C:cellOf env n=pure c:=by unfold cellOf;rw[w]
    rwa[C]
   ·rw[WU];cases (x==n)
    ·exact hx
    ·exact⟨c,rfl⟩
   ·rcases Wu.mp hx with rfl|hx
    ·exact p2 n ⟨c,by simp[WU]⟩
    ·exact t x hx p
  ·obtain⟨l,e,u,p2,t⟩:=o f s;refine⟨l,?_,u,p2,λx hx p=>?_⟩
   ·grind
   ·rcases Wu.mp hx with rfl|hx
    ·exact absurd p v
    ·exact t x hx p
def MY{sc}(f:∀x∈sc.names,x.2=.free->∃c,env.cells.lookup x.1=some c) :
  ∃g,closureFor sc env=pure g/\(∀x c,g.lookup x=some c->env.cells.lookup x=some c)/\∀x∈sc.names,x.2=.free->∃c,g.lookup x.1=some c:=by
 obtain⟨g,e,n,_,l⟩:=Ih sc.names f [] (λx c h=>by cases h);unfold closureFor
 grind
noncomputable def Up(X:Cx)(n:Yg)(h:Scope)(l:Yl)(C:Addr)(f:Shared)(g:Hp)(ex:List Addr):Cx:=
 {X with N:=n,s₀:=f,H₀:=g,env:=compEnvC h l C X.env,outer:=X.stack,ex:=ex,fn:=λ_=>false,pn:=[],xe:=λ_ _=>False}
structure Tf (X:Cx) (N':Yg) (φ:Yd) (sc:Scope):Prop where
 kind:sc.kind=.function
 okind:X.env.scope.kind=.function
 nocell:∀y∈sc.names,y.2≠.cell
 names:∀y∈sc.names,y.2=.local->sc.names.lookup y.1=some .local
 frees:∀y∈sc.names,y.2=.free->X.env.scope.names.lookup y.1=some .cell
 len:φ.length=N'.length
 pick:∀(i:Nat) (x:Str) (j:Nat),N'[i]?=some x->φ[i]?=some (some j)->X.N[j]?=some x/\sc.names.lookup x=some .free
noncomputable def atStart(f:Yd)(g:L2.St):L2.St:=f.map λo=>o.bind λj=>(g[j]?).join
def Sub(g f:L2.St):Prop:=f.length=g.length/\∀(i:Nat) (v:V),g[i]?=some (some v)->f[i]?=some (some v)
def Sub.refl:Sub f f:=⟨rfl,λ_ _ h=>h⟩
theorem Az{env:Env}(p:env.scope.kind=.function):∀{names:List (Str×NameKind)}{x:Str},names.lookup x=some .free->env.scope.names.lookup x=some .cell->
  (names.map λ(n,k)=>if (k==NameKind.free&&env.scope.kind == .function&&env.kindOf n==some .cell)then(n,NameKind.cell)else(n,k)).lookup x=some .cell
 |[],_,h,_=>by simp at h
 |(n,k)::r,x,h,g=>by
  have l:=@Az env p r x;show List.lookup x ((if (k==NameKind.free&&env.scope.kind == .function&&env.kindOf n==some .cell)=true then(n,NameKind.cell)else(n,k))::_)=_;cases hx:x==n with
  |true=>
   have o:env.kindOf x=some .cell:=g;simp_all
  |false=>
   simp only[WU,hx]at h;by_cases f:(k==NameKind.free&&env.scope.kind == .function&&env.kindOf n==some .cell)=true
   ·rw[Wm f];simp only[WU,hx];exact l h g
   ·rw[Wo f];simp only[WU,hx];exact l h g
theorem BD{env:Env}:∀{names:List (Str×NameKind)}{x}{q:NameKind},
  (names.map λ(n,k)=>if (k==NameKind.free&&env.scope.kind == .function&&env.kindOf n==some .cell)then(n,NameKind.cell)else(n,k)).lookup x=some q->∃k,(x,k)∈names/\(q=k\/k=.free)
 |[],_,_,h=>by simp at h
 |(n,k)::r,x,q,h=>by
  have g:List.lookup x ((if (k==NameKind.free&&env.scope.kind == .function&&env.kindOf n==some .cell)=true then(n,NameKind.cell)else(n,k))::(r.map λ(n,k)=>if (k==NameKind.free&&env.scope.kind == .function&&env.kindOf n==some .cell)then(n,NameKind.cell)else(n,k)))=some q:=h;cases hx:x==n with
  |true=>
   have e:x=n:=by simpa using hx
   subst e;by_cases f:(k==NameKind.free&&env.scope.kind == .function&&env.kindOf x==some .cell)=true
   ·simp_all
   ·simp_all
  |false=>
   have p:List.lookup x (r.map λ(n,k)=>if (k==NameKind.free&&env.scope.kind == .function&&env.kindOf n==some .cell)then(n,NameKind.cell)else(n,k))=some q:=by
    by_cases f:(k==NameKind.free&&env.scope.kind == .function&&env.kindOf n==some .cell)=true
    ·rw[Wm f]at g;simp only[WU,hx]at g;exact g
    ·rw[Wo f]at g;simp only[WU,hx]at g;exact g
   obtain⟨l,o,hq⟩:=(@BD env r x q) p;exact⟨l,W0 _ o,hq⟩
def GI{J target iter C scope pos M L env}(I:Nat->Shared->Prop)
  (turn:∀n s,I n s->wpAny (model prog w) A (pyNext M) (λr l=>match r with
   |none=>R (.ok .next) l
   |some v=>wpAny (model prog w) A (letOwnedTupleGo target M v) (λ_ g=>wpAny (model prog w) A (assign target env v) (λ_ u=>
     wpAny (model prog w) A (forIn C true λc r=>if r=true then do let ok ←isTrue c env (eval c env);pure (ForInStep.yield ok)else pure (ForInStep.yield r)) (λok f=>
      if ok=true then wpAny (model prog w) A (eval J env) (λx t=>
       wpAny (model prog w) A (call (.builtin "list.append") [L,x]) (λ_ p=>∃m,m<n/\I m p) (λ_ _=>False) t) (λ_ _=>False) f
      else ∃m,m<n/\I m f) (λ_ _=>False) u) (λ_ _=>False) g) (λ_ _=>False) l) (λ_ _=>False) s)
  (n:Nat) (h:I n s) :
  codeAny (model prog w) A (.compLoop (.ListComp J [⟨target,iter,C,0⟩] scope pos) 0 M L env) R s:=by
 refine codeAny_loop rfl I (λn s N=>?_) n h;refine wpAny_noted ?_;rw[compTurn_list];refine Wp (wpAny_standAt<|Wp (WQ (turn n s N) (λr l z=>?_) λ_ _ o=>o.elim));cases r with
 |none=>exact Wy z
 |some v=>
  refine Wp (WQ z (λ_ g B=>?_) λ_ _ o=>o.elim);refine Wp (WQ B (λ_ u H=>Wp (WQ H (λok f y=>?_) λ_ _ o=>o.elim)) λ_ _ o=>o.elim);cases ok with
  |false=>exact Wy ⟨rfl,y⟩
  |true=>
   exact Wp (Wp (WQ y (λx t G=>Wp (WQ G (λ_ p E=>Wy (Wy ⟨rfl,E⟩)) λ_ _ o=>o.elim)) λ_ _ o=>o.elim))
def KW(X:Cx)(g:Yh)(t:TT):Prop:=
 ∀(pins:Ya) (s:Shared) (f:L2.St) (H:Hp) (Q:Bool->Hp->Prop),Inv X pins f H s->t f H Q->
  wpAny (model X.prog X.w) X.A (forIn g true λc r=>if r=true then do let ok ←isTrue c X.env (eval c X.env);pure (ForInStep.yield ok)else pure (ForInStep.yield r)) (TP X pins f Q) X.xe s
noncomputable def A2:TT:=λ_ H Q=>Q true H
def Pa:KW X [] A2:=λ_ _ _ H _ I h=>Wy ⟨H,I,h⟩
def MV(g:PT X c t):KW X [c] t:=by
 intro pins s f H Q I h;rw[List.forIn_cons];refine Wp ?_;exact Wp (thn (g pins s f H Q I h) λb l q=>Wy (Wy q))
noncomputable def T5(p:Yd)(v:TI)(g:TG)(tc:TT)(te:TE):TE:=λo H Q=>v o H λJ u=>∀D,u D=none->∃W:Nat->Nat->List V->Hp->Prop,(∃m,W 0 m [] (upd u D<|.lst []))/\
 ∀i m h n,W i m h n->(J.stop i n/\Q (.ref D) n)\/(J.go i n/\∀x t,J.yld i n x t->g x (atStart p o) t λf w=>Sub (atStart p o) f/\tc f w λb s=>
  if b=true then te f s λy r=>r D=some (.lst h)/\h.length<sizeLine/\∃l,l<m/\W (i+1) l (h++[y]) (upd r D<|.lst (h++[y]))else ∃l,l<m/\W (i+1) l h s)
def Inv.weak {g f:L2.St}{H}{s} (I:Inv X pins f H s) (S:Sub g f):Inv X pins g H s:=
 ⟨I.ok,I.os,I.bare,I.base,let ⟨m,h,l⟩:=I.loc;⟨m,h,λi x v p o n=>l i x v p (S.2 i v o) n⟩,I.cell,I.free,I.freeC,I.pin,I.hok,by rw[←S.1];exact I.len⟩
def DZ{i:Nat}{v}(h:(atStart f g)[i]?=some (some v)):∃j,f[i]?=some (some j)/\g[j]?=some (some v):=by
 unfold atStart at h;cases e:f[i]? with
 |none=>grind
 |some o=>
  cases o with
  |_=>grind
def CompEnd(X:Cx)(pins:Ya)(h:L2.St)(Q:VK)(use:Option (Value->Sem Unit))(l:Yc):Prop:=
 ∀(D C:Addr) (g:Hp) (f:Shared),Q (.ref D) g->Inv X pins h g f->(∃m,f.heap.Ns C m)->g C=none->C≠X.env.locals->X.s₀.heap.objs.size<=C->(∀x c,X.env.cells.lookup x=some c->c≠C)->(∀p∈X.pn++pins,p.1≠C)->C∉X.fs->
  compPost (model X.prog X.w) X.A X.xe use l (.ref D) C (.ok .next) f
def Hc{elt iter tg}{ifs}{pos pos'}{wi}{g}{tc}{te}{use}{QQ}(hcalm:X.calm=true)(S:Tf X N' φ E)(hi:PI X tg iter wi)(hin:∀N C s₃ H₃ ex,PG (Up X N' E N C s₃ H₃ ex) tg g/\KW (Up X N' E N C s₃ H₃ ex) ifs tc/\PE (Up X N' E N C s₃ H₃ ex) elt te)(hs:∀x,foldedSetIterable iter X.env x=pure x){pins}{s}{σ:L2.St}{H}{Q}(I:Inv X pins σ H s)(h:T5 φ wi g tc te σ H Q)(fin:CompEnd X pins σ Q use QQ) :
  wpAny (model X.prog X.w) X.A (comprehension (.ListComp elt [⟨tg,iter,ifs,0⟩] E pos) E X.env pos' (newList []) false (eval iter X.env) use) QQ X.xe s:=by
 obtain⟨N,hcl,p1,p3⟩:=MY λx hx hf=>I.ok.has x.1 (.inl<|S.frees x hx hf);refine wpAny_comprehension_free rfl hs hcl S.kind S.names ?_;refine thn (hi pins s σ H _ I h) λv s1 h1=>thn h1 λitv s2 h2=>?_;obtain⟨it,G,tn,J,H2,e,I2,T,st2,f2,hR⟩:=h2;subst e;refine Qk ?_;have hf:=I2.hok.fresh (Wn _);obtain⟨W,⟨m0,w0⟩,turn⟩:=hR s2.heap.objs.size hf;generalize eD:s2.heap.objs.size=D at *
 have Y:Inv X pins σ (upd H2 D<|.lst []) {s2 with heap:=s2.heap.push {cls:=.type "list",dict:=none,data:=.seq ([]:Yf).toArray}}:=
  I2.laid (λb u e=>Wq _ e) (Qc eD) ⟨Qx _,[],0,.nil,by rw[←eD];exact W2 _ rfl⟩
 have st3:tn 0 (s2.heap.push {cls:=.type "list",dict:=none,data:=.seq ([]:Yf).toArray}):=T.keep _ _ _ st2 λb _ o e=>Wq _ e
 have hfpD:∀b∈G,b≠D:=λb f z=>by
  obtain⟨o,ho,_⟩:=T.obj _ _ st2 b f
  have:=Ws ho
  rw[z,←eD]at this;exact Qa _ this
 have f3:∀b∈G,XM X pins (upd H2 D<|.lst []) b:=λb f=>⟨by rw[JF (hfpD b f)];exact(f2 b f).1,(f2 b f).2⟩;generalize es3:({s2 with heap:=s2.heap.push {cls:=.type "list",dict:=none,data:=.seq ([]:Yf).toArray}}:Shared)=l at *
 have st3':tn 0 l.heap:=by rw[←es3];exact st3
 generalize eH3:upd H2 D (.lst [])=H3 at *;refine wpAny_newFunctionEnv S.nocell (by intro y hy;simp at hy) (λh₁ B t=>?_) S.kind;have hh3:l.heap=s2.heap.push {cls:=.type "list",dict:=none,data:=.seq ([]:Yf).toArray}:=by rw[←es3]
 rw[hh3]at B t;rw[←hh3]at B t;have old:=λb o e=>t.extBut b o (WK<|Ws e) (Wq _ e)
 have hC0:l.heap.get? l.heap.objs.size=none:=by
  cases e:l.heap.get? l.heap.objs.size with
  |none=>rfl
  |some o=>exact absurd (Ws e) (Qa _)
 generalize eC:l.heap.objs.size=C at *;have hH3C:=Y.hok.fresh (Qc eC)
 have OK:(Up X N' E N C l H3 G).Ok:=by
  refine⟨I.ok.mod,?_,I.ok.glob,I.ok.blt,Qc eC,λx y c h1 h2=>I.ok.inj x y c (p1 x c h1) (p1 y c h2),?_,(λx c hx=>by cases hx),I.ok.hd,I.ok.frames,.inl rfl,?_,Y.bs,Wk I.ok.bsz Y.sz,?_,?_,Y.stack,Y.stkFree⟩
  ·exact S.kind
  ·intro x hx;have hx':=hx.imp BD BD
   have hfr:(x,NameKind.free)∈E.names:=by
    rcases hx' with⟨k,hm,rfl|rfl⟩|⟨k,hm,rfl|rfl⟩
    ·exact absurd rfl (S.nocell _ hm)
    ·exact hm
    ·exact hm
    ·exact hm
   exact p3 _ hfr rfl
  ·intro b f;refine⟨λz=>?_,λx c hx=>(f3 b f).2.2.2.2.1 x c (p1 x c hx)⟩;obtain⟨o,ho,_⟩:=T.obj _ _ st3' b f;have z':b=C:=z;rw[z',hC0]at ho;cases ho
  ·intro b o f hx;obtain⟨_,_,_,q,_,_⟩:=f3 b hx;rcases q with q|q
   ·exact I.ok.noex b o f q
   ·have:=W1 (Ws f) (Wk I.ok.bsz q)
    exact Qa _ this
  ·intro b f hz;rcases Wu.mp (I.stkSub b hz)with q|q
   ·exact(f3 b f).2.1 q
   ·exact(f3 b f).2.2.1 q
 have hlen0:(atStart φ σ).length=N'.length:=by unfold atStart;rw[Wg];exact S.len
 have I4:Inv (Up X N' E N C l H3 G) [] (atStart φ σ) H3 {l with heap:=h₁,toks:=l.toks+([]:List (Str×Value)).length}:=by
  refine⟨OK,rfl,Y.bare,Un.kept old,⟨_,B,λi x v h1 h2 h3=>?_⟩,λx c hx=>?_,hH3C,λx c hx=>Y.freeC x c (p1 x c hx),λp hp=>?_,Y.hok.kept old,hlen0⟩
  ·obtain⟨j,hj,hv⟩:=DZ h2;obtain⟨hN,hfr⟩:=S.pick i x j h1 hj;obtain⟨m,_,hl⟩:=Y.loc;have hm:=Qh hfr;have L:=S.frees _ hm rfl;obtain⟨u,ru,lk⟩:=hl j x v hN hv (.inr<|.inl L);refine⟨u,ru,.inr ⟨.inl (Az S.okind hfr L),?_⟩⟩;obtain⟨c,hc⟩:=p3 _ hm rfl;rcases lk with⟨hk,_⟩|⟨_,c',hc',hcl'⟩
   ·have hk':X.env.scope.names.lookup x=some .local:=hk;rw[L]at hk';cases hk'
   ·have e:=p1 _ _ hc;rw[hc']at e;cases e
    obtain⟨o,ho,hd⟩:=hcl';exact⟨_,hc,o,old _ o ho,hd⟩
  ·obtain⟨v,hv⟩:=Y.cell x c (p1 x c hx);obtain⟨o,ho,hd⟩:=hv;exact⟨v,o,old _ o ho,hd⟩
  ·exact absurd hp (by simp[Up])
 have st4:=T.keep _ _ _ st3' λb _ o e=>old b o e
 have stat:∀{H':Hp},(∀b∈G,H' b=none)->∀b∈G,XM (Up X N' E N C l H3 G) [] H' b:=λhn b f=>
  ⟨hn b f,(OK.exf b f).1,OK.exfs b f,.inl f,(OK.exf b f).2,λp hp=>absurd hp (by simp[Up])⟩
 obtain⟨hPG,hPI,hPE⟩:=hin N C l H3 G
 have loop:codeAny (model X.prog X.w) X.A (.compLoop (.ListComp elt [⟨tg,iter,ifs,0⟩] E pos) 0 (.ref it) (.ref D)<|compEnvC E N C X.env) (compPost (model X.prog X.w) X.A X.xe use QQ (.ref D) C) {l with heap:=h₁,toks:=l.toks+([]:List (Str×Value)).length}:=by
  refine GI (λn s'=>∃i ys σ' H',Inv (Up X N' E N C l H3 G) [] σ' H' s'/\Sub (atStart φ σ) σ'/\tn i s'.heap/\(∀b∈G,H' b=none)/\W i n ys H') ?_ m0 ⟨0,[],_,_,I4,Sub.refl,st4,λb f=>(f3 b f).1,w0⟩;rintro n s5 ⟨i,ys,σ5,H5,I5,sub5,st5,fr5,w5⟩;have I5':=Own.Inv.weak I5 sub5;rcases turn i n ys H5 w5 with⟨stop,qn⟩|⟨go,step⟩
  ·refine thn (T.done (Up X N' E N C l H3 G) rfl rfl rfl hcalm i [] s5 _ H5 _ I5' (stat fr5) st5 stop) ?_;rintro r s6 ⟨hr,I6⟩;subst hr;obtain⟨m,hn,_⟩:=I6.loc;obtain⟨hh,gg,dd,tt,oo⟩:=s6;obtain rfl:=I6.os;have R:Inv X pins σ H5 {l with heap:=hh,gens:=gg,drawn:=dd,toks:=tt}:=Y.call I6.base I6.hok I6.bare λb f=>⟨(f3 b f).2.2.2.1,(f3 b f).2.1,(f3 b f).2.2.2.2.1,(f3 b f).2.2.2.2.2⟩
   have hC3:=Qc eC;obtain⟨q0,q1,q2,q3,q4,q5⟩:=Y.fpOk hC3 hH3C;refine fin D C H5 _ qn R ⟨m,hn⟩ I6.free q1 (Wk Y.sz hC3) q4 q5 q2
  ·refine thn (T.item (Up X N' E N C l H3 G) rfl rfl rfl hcalm i [] s5 _ H5 _ I5' (stat fr5) st5 go) ?_;rintro r s6 ⟨u,hr,h6⟩;subst hr;refine thn h6 ?_;rintro _ s7 ⟨x,H7,I7,r7,y7,st7,fr7⟩;have I7':=I7.pinned (stat fr7) (T.obj _ _ st7);refine thn (hPG _ s7 _ H7 x u _ I7' r7<|step x H7 y7) ?_;rintro _ s8 ⟨σ8,H8,I8,sub8,q8⟩;refine thn (hPI _ s8 σ8 H8 _ I8 q8) ?_;rintro ok s9 ⟨H9,I9,q9⟩
   have again:∀{U:Shared} {M:Hp} {ys':List V} {m':Nat},Inv (Up X N' E N C l H3 G) ([]++P5 G s7.heap) σ8 M U->W (i+1) m' ys' M->∃i ys σ' H',Inv (Up X N' E N C l H3 G) [] σ' H' U/\Sub (atStart φ σ) σ'/\tn i U.heap/\(∀b∈G,H' b=none)/\W i m' ys H':=λ{U M ys' m'} J10 w10=>by
    refine⟨i+1,ys',σ8,M,J10.unpinned,sub8,T.keep _ _ _ st7 λb f o e=>(J10.pin (b,o)<|WB _<|WB _<|Ti f e).1,λb f=>?_,w10⟩;obtain⟨o,e,d⟩:=T.obj _ _ st7 b f;exact(J10.pin (b,o)<|WB _<|WB _<|Ti f e).2.1
   cases ok with
   |false=>
    obtain⟨m',hm,w'⟩:=q9;exact⟨m',hm,again I9 w'⟩
   |true=>
    refine thn (hPE _ s9 σ8 H9 _ I9 q9) ?_;rintro xv U ⟨y,M,I10,r10,hD,hl,m',hm,w'⟩;refine thn (PP _ U σ8 M (.ref D) [y] (.ref D) [xv] (λ_ H11=>H11=upd M D (.lst (ys++[y]))) I10 rfl (.cons r10 .nil) ⟨D,ys,y,rfl,rfl,hD,hl,rfl⟩) ?_;rintro _ s11 ⟨_,H11,I11,_,e11⟩;subst e11;exact⟨m',hm,again I11 w'⟩
 refine codeAny_compStart_list loop (T.self _ 0 _ _ _ st4 loop)
def Cf{r iter u p pos z g tc te}(n:X.calm=true)(S:Tf X y A t)(L:PI X u iter z)(v:∀w C f l ex,PG (Up X y t w C f l ex) u g/\KW (Up X y t w C f l ex) p tc/\PE (Up X y t w C f l ex) r te)(E:autoParam (∀x,foldedSetIterable iter X.env x=pure x) au_3):PE X (.ListComp r [⟨u,iter,p,0⟩] t pos) (T5 A z g tc te):=by
 intro pins s σ H Q I h;refine Hc n S L v E I h λD C H5 s6 q R J c0 Y U T N c5=>?_;obtain⟨m,G⟩:=J;exact⟨m,G,λh' B=>⟨.ref D,H5,R.turned (λb o M e=>B.extBut b o M e) c0 Y (.inr U) T N,rfl,q⟩⟩
noncomputable def Ng(sc f:Scope)(N h:Yg)(g:Yd):Bool:=
 sc.kind == .function&&f.kind == .function&&(sc.names.all λy=>y.2 != .cell&&(y.2 != .local || sc.names.lookup y.1==some .local)&&(y.2 != .free || f.names.lookup y.1==some .cell)) &&
  g.length==h.length&&((h.zip g).all λp=>match p.2 with|none=>true|some j=>N[j]? == some p.1&&sc.names.lookup p.1==some .free)
def Tf.of {N'}{f l} (h:Ng l X.env.scope X.N N' f=true):Tf X N' f l:=by
 unfold Ng at h;simp only[WE,beq_iff_eq,WG,Bool.or_eq_true,bne_iff_ne,ne_eq]at h;obtain⟨⟨⟨⟨v,u⟩,t⟩,s⟩,r⟩:=h;refine⟨v,u,λy g=>(t y g).1.1,λy g w=>?_,λy g z=>?_,s,λi x j p o=>?_⟩
 ·grind
 ·grind
 ·have n:(N'.zip f)[i]?=some (x,some j):=by rw[List.getElem?_zip_eq_some];exact⟨p,o⟩
  have:=r _ (WA n)
  grind
section
variable {X:Cx}{K:ZX}
def BX(f:autoParam (X.K=K) au_0):IxR X (λx y H Q=>KC K x y H Q\/KR K x y H Q):=by subst f;exact Gg
def MD(f:autoParam (X.K=K) au_0):UE X (.builtin "len") (λxs H Q=>∃x n,xs=[x]/\T3 K x H n/\Q (.int n) H):=by subst f;exact Mq
def OU(f:autoParam (X.K=K) au_0):OpR X (compareOp .In) (rIn K false):=by subst f;exact O2
def Hs(f:autoParam (X.K=K) au_0):OpR X (compareOp .NotIn) (rIn K true):=by subst f;exact GV
def RV{pos es k t n}(l:X.calm=true)(h:PGs X es t)(o:autoParam (X.K=K) au_0)(g:autoParam ((assignEach es X.env).length=n) au_0)(f:autoParam ((assignEach es X.env).findIdx? (·.1)=none) au_0):PG X (.Tuple es k pos) (NG K n t):=by subst o;exact Ry l h g f
end
noncomputable def eqL(xs f:List V):Bool:=decide (xs.length=f.length)&&(List.range xs.length).all λj=>eqV (xs.getD j .non) (f.getD j .non)
noncomputable def XF(K:ZX)(neg:Bool):R2:=λx y H Q=>∃(p q:Addr) (xs f:List V),x=.ref p/\y=.ref q/\SqL K H p xs/\SqL K H q f/\xs.all UO=true/\f.all UO=true/\Q (.bl (if neg then !eqL xs f else eqL xs f)) H
section
variable {X:Cx}
def BA{xs f us g}(n:Vals xs us)(l:Vals f g)(f1:xs.all UO=true)(x:f.all UO=true)(j:Nat)(v:j<us.toArray.size)(t:j<g.toArray.size) :
  SeqAt.EqAt A s us.toArray[j] g.toArray[j] (eqV (xs.getD j .non)<|f.getD j .non):=by
 have G:=n.length;have E:=l.length;have J:j<us.length:=by simpa using v
 have H:j<g.length:=by simpa using t
 have p:xs[j]?=some (xs[j]'(by lia)):=Wj _;have o:f[j]?=some (f[j]'(by lia)):=Wj _;obtain⟨u,M,r⟩:=n.get p;obtain⟨w,L,h⟩:=l.get o;have z:us.toArray[j]=u:=by grind
 have y:g.toArray[j]=w:=by grind
 have C:xs.getD j .non=xs[j]'(by lia):=by rw[Wv,p];rfl
 have B:f.getD j .non=f[j]'(by lia):=by rw[Wv,o];rfl
 rw[z,y,C,B];exact Fi r h (WG.mp f1 _<|WN _) (WG.mp x _<|WN _)
def Lv(r:X.A.units<cLine):OpR X (compareOp .Eq) (XF X.K false):=by
 intro pins s G H x y v u Q I w t h;obtain⟨p,q,xs,f,rfl,rfl,z,hq,f1,E,k⟩:=h;obtain rfl:=w;obtain rfl:=t;obtain⟨L,l,n,_⟩:=I.list z;obtain⟨J,g,p2,_⟩:=I.list hq;have N:=l.length;have M:=g.length;have o:=k;by_cases e:xs.length=f.length
 ·refine SeqAt.eq_listAt n.isList p2.isList (by simp;lia) r (λj C B=>BA l g f1 E j C B) ⟨.bl (eqL xs f),H,I,?_,o⟩;show _=Value.bool (eqL xs f);unfold eqL
  grind
 ·refine SeqAt.eq_list_lengthsAt n.isList p2.isList (by simp;lia) r ⟨.bl (eqL xs f),H,I,?_,o⟩;unfold eqL;rw[Wx e];rfl
def MX(r:X.A.units<cLine):OpR X (compareOp .NotEq) (XF X.K true):=by
 intro pins s G H x y v u Q I w t h;obtain⟨p,q,xs,f,rfl,rfl,z,hq,f1,E,k⟩:=h;obtain rfl:=w;obtain rfl:=t;obtain⟨L,l,n,_⟩:=I.list z;obtain⟨J,g,p2,_⟩:=I.list hq;have N:=l.length;have M:=g.length;have o:=k;by_cases e:xs.length=f.length
 ·refine SeqAt.RcNeAt.lists n.isList p2.isList (by simp;lia) r (λj C B=>BA l g f1 E j C B) _ _ _ _ ⟨.bl (!eqL xs f),H,I,?_,o⟩;show _=Value.bool (!eqL xs f);unfold eqL
  grind
 ·refine SeqAt.RcNeAt.lists_lengths n.isList p2.isList (by simp;lia) r _ _ _ _ ⟨.bl (!eqL xs f),H,I,?_,o⟩;unfold eqL;rw[Wx e];rfl
end
section
variable {X:Cx}{K:ZX}
def Tb{p t name apos cpos T id r}(s:PlainAttrs T)(slot:Slot T name id)(n:typeOf (.builtin id)=pure (.type "method_descriptor"))(w:MtM X id r)(v:PE X o p)(y:PA X (e::es) t)(z:autoParam (X.K=K) au_0)(h:autoParam (attributeBase o name X.env (eval o X.env)=eval o X.env) au_0)
  (l:autoParam (((backTo cpos<|starEach (e::es) X.env).all (λx=>!x.1)&&(backToKw cpos<|keywordEach [] X.env).all (λx=>x.1.isSome)
   && decide ((e::es).length+([]:List Keyword).length+(if ([]:List Keyword).isEmpty then 0 else 1)<30))=true) au_0)
  (g:autoParam ((apos.endLine==cpos.line)=true) au_0) (u:autoParam (starEach (e::es) X.env=(false,eval e X.env)::starEach es X.env) au_0) (f:autoParam ((backTo cpos<|starEach es X.env).any (·.1)=false) au_0) :
  PE X (.Call (.Attribute o name apos) (e::es) [] cpos) (tBM K T r p t):=by
 subst z;exact Td s slot n w v y h l g u f
end
def Bo(xs f:ZZ):eqL (xs.map V.int) (f.map V.int)=decide (xs=f):=by
 unfold eqL;rw[Wg,Wg];by_cases e:xs=f
 ·subst e;rw[Wh rfl,Wh rfl,Bool.true_and,WG];intro j o;have h:j<xs.length:=by simpa using o
  rw[Wv,Ww,Wj h];show(xs[j]==xs[j])=true;simp
 ·rw[Wx e];by_cases l:xs.length=f.length
  ·rw[Wh l,Bool.true_and,Bool.eq_false_iff];intro g;apply e;apply List.ext_getElem l;intro j n r
   have:=WG.mp g j (by simpa using n)
   rw[Wv,Ww,Wj n,Wv,Ww,Wj r]at this;have p:(xs[j]==f[j])=true:=this;simpa using p
  ·grind
def Ke(xs:ZZ):(xs.map V.int).all UO=true:=by
 rw[List.all_map];exact WG.mpr λ_ _=>rfl
end Own
namespace M
open L2 Own
def LV{f:Type}(R:Hp->V->f->Prop)(H:Hp)(vs:List V)(xs:List f):Prop:=
 vs.length=xs.length/\∀(i:Nat) (x:f),xs[i]?=some x->∃v,vs[i]?=some v/\R H v x
def LAt{f:Type}(R:Hp->V->f->Prop)(H:Hp)(l:Addr)(xs:List f):Prop:=∃g,H l=some (.lst g)/\LV R H g xs
def Xc(H:Hp)(v:V)(q:Int×Int):Prop:=∃a,v=.ref a/\H a=some (.tup [.int q.1,.int q.2])
def P1(m:ZZ):Prop:=∃a b c d e:Int,m=[a,b,c,d,e]/\(1<=a/\a<=10)/\(1<=b/\b<=9/\(b=1\/b=3\/b=7\/b=9))/\(0<=c/\c<=9)/\(1<=d/\d<=1000)/\(1<=e/\e+d<=1001)
def Field(ps:ZY):Prop:=∀q∈ps,1<=q.1/\q.1<=10/\1<=q.2/\q.2<=1000
def E8(z:Int)(xs:ZZ):inV (.int z) (xs.map V.int)=decide (z∈xs):=by
 unfold inV
 induction xs with
 |nil=>rfl
 |cons x r f=>
  show((x==z) || _)=_;by_cases e:x=z
  ·grind
  ·grind
end M
namespace ExcR
open L2
structure U8 (fs ex:List Addr) (h h':Heap):Prop where
 keep:∀b o,h.get? b=some o->b∉fs->b∉ex->h'.get? b=some o
 slot:∀b o,h.get? b=some o->b∉ex->∃sl,h'.get? b=some {o with slots:=sl}
 size:h.objs.size<=h'.objs.size
def U8.trans (a:U8 fs ex l h) (b:U8 fs ex h g):U8 fs ex l g:=
 ⟨λc o e n m=>b.keep c o (a.keep c o e n m) n m,λc o e m=>by
  obtain⟨s,r⟩:=a.slot c o e m;obtain⟨f,p⟩:=b.slot c _ r m;exact⟨f,p⟩,Wk a.size b.size⟩
def U8.mono {fs f ex g}{l h} (a:U8 fs ex l h) (p:∀b∈fs,b∈f) (hx:∀b∈ex,b∈g):U8 f g l h:=
 ⟨λc o e n m=>a.keep c o e (λz=>n (p c z)) (λz=>m (hx c z)),λc o e m=>a.slot c o e λz=>m (hx c z),a.size⟩
def Zay(o:Obj)(f):(o.mapFields f).dict=o.dict:=by
 obtain⟨c,d,g,sl⟩:=o;cases g<;>rfl
structure Trc (h:Heap) (e T:Addr) (cls:Value×Yk) (fl:Value):Prop where
 ne:T≠e
 exc:∃oe vs,h.get? e=some oe/\(oe.cls,oe.dict)=cls/\oe.data=.fields vs/\vs[1]?=some (.ref T)
 ent:∃oT ts,h.get? T=some oT/\oT.data=.fields ts/\ts[3]?=some fl
section
variable {M:Model}{A:Around}{E:Yc}{s:Shared}{base:Heap}{env:Env}{outer:List Env}{L e:Addr}
def BY{hadNext Q}(B:A.frames=some (env::outer))(U:s.heap.FunFrames base (env::outer))(hf:env.frame=some L)(Y:s.heap.get? e=some v)(C:v.data=.fields vs)(n:1<vs.size)(h:∀H T,s.heap.objs.size<=T->Trc H e T (v.cls,v.dict) (rawInt L)->U8 (frs (env::outer)) [e] s.heap H->Q () {s with heap:=H}) :
  wpAny M A (do let a ←frameOf env;let u ←entryPlaceOf L hadNext;let b ←EntryCells.newEntry head a .none (rawInt L) .none u;setField (.ref e) 1 b) Q E s:=by
 have p:e∉frs (env::outer):=λhm=>by
  obtain⟨_,o,N,y⟩:=U.mem hm;rw[Y]at N;cases N
  exact y vs C
 refine Wp (wpAny_frameOf_fun B U hf λG g=>Wp (wpAny_entryPlaceOf λu x=>?_));refine Wp (Qk ?_<|x.sizeOk5 _ _ _ _ _);have t:=(g.2.1 e p).trans Y;generalize eo:({cls:=.type "traceback",dict:=none,data:=.fields ([head,.ref L,.none,rawInt L,.none]++(if u.isEmpty then List.replicate 6 Value.none else u)).toArray}:Obj)=J;have r:=Wq J t;refine wpAny_setField r C n (h _ G.objs.size (Qc g.1.symm) ?_ ?_)
 ·have l:=Nat.ne_of_gt (Ws t);have d3:=Obj.data_mapFields C (·.setIfInBounds 1 (Value.ref G.objs.size));refine⟨l,⟨_,_,Heap.get?_update_self _ r (Obj.isFreed_of_fields d3),by rw[Obj.cls_mapFields,Zay],d3,by simp[n]⟩,J,_,?_,by rw[←eo],?_⟩
  ·exact(WY _ _<|Ne.symm l).trans (W2 G<|by rw[←eo];rfl)
  ·rfl
 ·refine⟨λb o q nb w=>?_,λb o q w=>?_,?_⟩
  ·have f:b≠e:=λz=>w (by simp[z]);rw[WY _ _ (Ne.symm f)];exact Wq _ ((g.2.1 b nb).trans q)
  ·have f:b≠e:=λz=>w (by simp[z]);obtain⟨sl,q1⟩:=g.2.2 b o q;exact⟨sl,by rw[WY _ _ (Ne.symm f)];exact Wq _ q1⟩
  ·rw[Heap.size_update,Q6,g.1];exact Nat.le_succ _
def O7(g:A.frames=some (env::outer))(t:s.heap.FunFrames base (env::outer))(n:env.frame=some L)(o:s.heap.get? e=some f)(p:f.data=.fields vs)(r:vs[1]?=some .none)(h:∀l T,s.heap.objs.size<=T->Trc l e T (f.cls,f.dict) (rawInt L)->U8 (frs (env::outer)) [e] s.heap l->Q () {s with heap:=l}):wpAny M A (noteFrame (.ref e) env) Q E s:=by
 unfold noteFrame;simp only[n];refine Wp (Qy o p r ?_);exact BY g t n o p (Qw.mp r).1 h
def Dk(x:Trc s.heap e T cls U)(h:∀g,Trc g e T cls .none->U8 [] [T] s.heap g->Q () {s with heap:=g}) :
  wpAny M A (setField (.ref T) 3 .none) Q E s:=by
 obtain⟨n,⟨v,u,H,G,C,B⟩,N,J,r,p,w⟩:=x;have t:=(Qw.mp w).1;refine wpAny_setField r p t (h _ ?_ ?_)
 ·have d3:=Obj.data_mapFields p (·.setIfInBounds 3 Value.none);exact⟨n,⟨v,u,(WY _ _ n).trans H,G,C,B⟩,_,_,Heap.get?_update_self _ r (Obj.isFreed_of_fields d3),d3,by simp[t]⟩
 ·have l:∀b,b≠T->(s.heap.update T<|Obj.mapFields (·.setIfInBounds 3 Value.none)).get? b=s.heap.get? b:=λb y=>WY _ _ (Ne.symm y);exact⟨λb o q _ f=>(l b λz=>f (by grind)).trans q,λb o q f=>⟨o.slots,(l b λz=>f (by grind)).trans q⟩,Qc (Heap.size_update ..).symm⟩
def AY(n:A.frames=some (env::outer))(Y:s.heap.FunFrames base (env::outer))(w:env.frame=some L)(x:Trc s.heap e T cls .none)(h:∀r f,s.heap.objs.size<=f->Trc r e f cls (rawInt L)->U8 (frs (env::outer)) [e,T] s.heap r->Q () {s with heap:=r}):wpAny M A (noteFrame (.ref e) env) Q E s:=by
 obtain⟨ne,⟨oe,vs,g1,g2,g3,g4⟩,oT,C,v,u,U⟩:=id x;unfold noteFrame;simp only[w];refine Wp (Qy g1 g3 g4 ?_);refine Wp (Qy v u U ?_);refine Wp (Dk x λh1 y t=>?_)
 have l:=Y.of_keeps λb o q g=>⟨o,t.keep b o q (by simp) (λz=>by
  rw[Wl.mp z,v]at q;cases q
  exact g C u),rfl⟩
 obtain⟨_,⟨N,B,J,p2,H,G⟩,_⟩:=id y;refine BY n l w J H (Qw.mp G).1 λh2 f p x2 K2=>h h2 f (Wk t.size p) (by grind) ?_;exact(t.mono (by simp)<|by simp).trans (K2.mono (λ_ z=>z)<|by simp)
def Pt(x:Trc s.heap e T cls u)(h:∀f,Trc f e T cls .none->U8 [] [T] s.heap f->Q () {s with heap:=f}) :
  wpAny M A (setFlight (.ref e) none) Q E s:=by
 obtain⟨r,⟨p,o,n,t,l,g⟩,_⟩:=id x;refine Wp (Qy n l g ?_);exact Dk x h
def OE(l:A.frames=some (env::outer))(w:s.heap.FunFrames base (env::outer))(y:env.frame=some L)(B:s.heap.get? e=some f)(C:f.data=.fields vs)(H:vs[1]?=some .none)(h:∀p T,s.heap.objs.size<=T->Trc p e T (f.cls,f.dict) .none->U8 (frs (env::outer)) [e] s.heap p->Q () {s with heap:=p}):wpAny M A (leaving env<|.ref e) Q E s:=by
 unfold leaving;refine Wp (O7 l w y B C H λJ T n x K=>Pt x λG t r=>h G T n t ?_);refine⟨λb o q v g=>r.keep b o (K.keep b o q v g) (by simp) (λz=>?_),λb o q g=>?_,Wk K.size r.size⟩
 ·rw[Wl.mp z]at q;exact absurd (Ws q) (QO.mpr n)
 ·obtain⟨sl,u⟩:=K.slot b o q g;exact⟨sl,r.keep b _ u (by simp) (λz=>by rw[Wl.mp z]at q;exact absurd (Ws q) (QO.mpr n))⟩
def Oz(l:A.frames=some (env::outer))(y:s.heap.FunFrames base (env::outer))(B:env.frame=some L)(x:Trc s.heap e T cls .none)(h:∀p f,s.heap.objs.size<=f->Trc p e f cls .none->U8 (frs (env::outer)) [e,T] s.heap p->Q () {s with heap:=p}):wpAny M A (leaving env<|.ref e) Q E s:=by
 refine Wp (AY l y B x λG f n u K=>Pt u λC t r=>h C f n t ?_);refine⟨λb o q w g=>r.keep b o (K.keep b o q w g) (by simp) (λz=>?_),λb o q g=>?_,Wk K.size r.size⟩
 ·rw[Wl.mp z]at q;exact absurd (Ws q) (QO.mpr n)
 ·obtain⟨sl,v⟩:=K.slot b o q g;exact⟨sl,r.keep b _ v (by simp) (λz=>by rw[Wl.mp z]at q;exact absurd (Ws q) (QO.mpr n))⟩
end
section
variable {P:Program}{w:World}{H H':Hp}{h h':Heap}{a:Addr}{o:HO}{fs ex:List Addr}
def has(x:ObjOk P w H h a o):∃u,h.get? a=some u:=by
 cases o with
 |lst xs=>exact let ⟨_,_,_,_,e⟩:=x;⟨_,e⟩
 |tup xs=>exact let ⟨_,_,_,u,e,_⟩:=x;⟨u,e⟩
 |dK f|dT f=>exact let ⟨_,_,_,_,u,_,_,e,_⟩:=x;⟨u,e⟩
 |set S n=>exact let ⟨u,_,_,_,e,_⟩:=x;⟨u,e⟩
 |ins C r fs=>exact let ⟨_,_,_,e,_⟩:=x;⟨_,e⟩
 |own y=>exact x
 |xd fs=>exact let ⟨_,⟨u,_,_,e,_⟩,_⟩:=x;⟨u,e⟩
 |rng lo p=>exact let ⟨_,_,_,e⟩:=x;⟨_,e⟩
 |frz l u=>exact⟨_,x.1⟩
 |ext g=>exact x.2.1
 |_=>exact⟨_,x⟩
def GU(ok:HOk P w H h)(e:h.get? a=none):H a=none:=by
 cases q:H a with
 |none=>rfl
 |some o=>
  obtain⟨u,z⟩:=has (ok a o q)
  grind
def KD(ok:HOk P w H h)(k:U8 fs ex h h')(g:∀b∈fs,H b=none)(hx:∀b∈ex,H b=none):HOk P w H h':=λa o e=>by
 refine(ok a o e).stay (λb u l q=>?_) (λ_ q=>q) (λ_ _ q=>q);have f:H b≠none:=by grind
 exact k.keep b u q (λz=>f (g b z)) λz=>f (hx b z)
end
structure XAt (P:Program) (w:World) (outer:List Env) (H H':Hp) (s s':Shared) (a T C:Addr) (dx:Yk):Prop where
 os:s'.os=s.os
 bare:AllBare s'.gens
 un:Un (frs outer) [] H H' s.heap s'.heap
 hok:HOk P w H' s'.heap
 na:s.heap.get? a=none
 nT:s.heap.get? T=none
 fa:H' a=none
 fT:H' T=none
 tr:Trc s'.heap a T (.ref C,dx) .none
noncomputable def CXe(P:Program)(w:World):CXT:=λouter H s E e h=>∃a T C f g,e=.ref a/\XAt P w outer H g s h a T C f/\E (.ref C) f g
section
variable {X:Cx}{pins:Ya}{σ:L2.St}{H H':Hp}{s s':Shared}{a T C:Addr}{dx:Yk}
def Cd(I:Inv X pins σ H s)(p:X.ex=[])(k:U8 (frs X.stack) ex s.heap v)(hx:∀b∈ex,X.s₀.heap.get? b=none):Un X.fs [] X.H₀ H X.s₀.heap v:=by
 have B:=I.base;rw[p]at B;have f:∀b o,X.s₀.heap.get? b=some o->b∉ex:=λb o q z=>by rw[hx b z]at q;cases q
 have t:∀b o,X.s₀.heap.get? b=some o->b∉X.fs->b∉frs X.stack:=λb o q nf z=>by
  rcases Wu.mp (I.stkSub b z)with e|e
  ·have x:=Ws q;have w:=I.ok.above
   grind
  ·exact nf e
 refine⟨λb o q n nf g=>k.keep b o (B.keep b o q n nf g) (t b o q nf) (f b o q),λb o q n u g=>?_,λb o q n g=>B.free b o q n g,λb o q g=>?_,B.tups,B.frzs,B.tbls⟩
 ·obtain⟨sl,l⟩:=B.slot b o q n u g;obtain⟨h,r⟩:=k.slot b _ l (f b o q)
  grind
 ·obtain⟨o1,l⟩:=B.there b o q g;obtain⟨h,r⟩:=k.slot b _ l (f b o q);exact⟨_,r⟩
def Tp(I:Inv X pins σ H s)(f:X.ex=[])(e:s.heap.get? b=none):X.s₀.heap.get? b=none:=by
 cases q:X.s₀.heap.get? b with
 |none=>rfl
 |some o=>
  obtain⟨u,z⟩:=I.base.there b o q (by grind)
  grind
variable {E:Yc}
def O8(I:Inv X pins σ H s)(f:X.ex=[])(h:X.stack=X.env::X.outer)(n:X.env.frame=some X.env.locals)(x:XAt X.prog X.w X.stack H H' s s' a T C dx) :
  wpAny (model X.prog X.w) X.A (leaving X.env<|.ref a) (λ_ u=>∃o,XAt X.prog X.w X.outer X.H₀ H' X.s₀ u a o C dx) E s':=by
 have J:=I.call' x.os x.un x.hok x.bare λb z=>absurd z (by simp);have p:=J.stack;have r:=J.ok.frames;rw[h]at p r;refine Oz r p n x.tr λv o l t k=>⟨o,J.os,J.bare,?_,?_,Tp I f x.na,?_,x.fa,x.hok.fresh l,t⟩
 ·exact Cd J f (by rw[h];exact k) λb g=>by
   rcases Wu.mp g with rfl|g
   ·exact Tp I f x.na
   ·rw[Wl.mp g];exact Tp I f x.nT
 ·refine KD x.hok k (λb g=>J.stkFree b (by grind)) λb g=>?_;rcases Wu.mp g with rfl|g
  ·exact x.fa
  ·rw[Wl.mp g];exact x.fT
 ·exact QF (Wk J.sz l)
def Li(J:Inv X pins σ H s)(o:X.ex=[])(f:X.stack=X.env::X.outer)(n:X.env.frame=some X.env.locals)(t:X.s₀.heap.get? a=none)(x:H a=none)(B:s.heap.get? a=some l)(L:l.cls=.ref C)(p:l.dict=dx)(G:l.data=.fields vs)(M:vs[1]?=some .none) :
  wpAny (model X.prog X.w) X.A (leaving X.env<|.ref a) (λ_ z=>∃r,XAt X.prog X.w X.outer X.H₀ H X.s₀ z a r C dx) E s:=by
 have u:=J.stack;have v:=J.ok.frames;rw[f]at u v;refine OE v u n B G M λN r g y k=>⟨r,J.os,J.bare,?_,?_,t,?_,x,J.hok.fresh g,by rw[←L,←p];exact y⟩
 ·exact Cd J o (by rw[f];exact k) λb h=>by rw[Wl.mp h];exact t
 ·exact KD J.hok k (λb h=>J.stkFree b (by grind)) λb h=>by rw[Wl.mp h];exact x
 ·exact QF (Wk J.sz g)
def Lj{h vs}(I:Inv X pins σ H s)(g:X.ex=[])(l:X.stack=X.env::X.outer)(n:X.env.frame=some X.env.locals)(keeps:∀b o,s.heap.get? b=some o->r.get? b=some o)(f:s.heap.get? a=none)(u:r.get? a=some h)(x:h.cls=.ref C)(p:h.dict=dx)(v:h.data=.fields vs)(y:vs[1]?=some .none) :
  wpAny (model X.prog X.w) X.A (leaving X.env<|.ref a) (λ_ t=>∃B,XAt X.prog X.w X.outer X.H₀ H X.s₀ t a B C dx) E {s with heap:=r}:=
 Li (s:={s with heap:=r}) (I.call' (ch:=[]) rfl (Un.kept keeps) (I.hok.kept keeps) I.bare λb z=>absurd z (by simp)) g l n (Tp I g f) (GU I.hok f) u x p v y
end
structure Nc (K:ZX) (C:Addr):Prop where
 q:PySem.W.excIn K C [.type "ValueError",.type "Exception",.type "BaseException",.type "object"] "ValueError.__new__"=true
def Nc.obj {K C h} (c:Nc K C) (k:K.In h):∃f N nm q bs hdct sn sub ab col dd k0 k1 k2 k3 k5 p,h.get? C=some (excClassObj nm q C N bs f hdct sn sub ab col dd k0 k1 k2 k3 k5 "ValueError.__new__")/\h.Ns N p/\p "__init__"=none/\
  OwnTail h [.type "ValueError",.type "Exception",.type "BaseException",.type "object"] f:=by
 have e:=c.q;unfold PySem.W.excIn at e;split at e
 next dd J sl z=>
  split at e
  next L f k0 k1 k2 k3 n k5 s r=>
   simp only[WE,beq_iff_eq,Bool.not_eq_true']at e;obtain⟨⟨⟨⟨⟨G,E⟩,v⟩,B⟩,o⟩,u⟩:=e;subst G E;have t:=k _ _ z;cases J with
   |mk nm bs y x w A sn sub ab col H=>
    simp only at s v o u
    have g:sl=#[k0,k1,k2,k3,some (.builtin "ValueError.__new__"),k5]:=by
     cases sl with
     |mk l=>simp only at r;rw[r]
    rw[s,v,g]at t;exact⟨f,x,nm,w,bs,A,sn,sub,ab,col,dd,k0,k1,k2,k3,k5,_,t,.of_isNs (PySem.W.isNs_of_in k o),PySem.W.nsMap_none_of_in k o u,PySem.W.tail_of_in k B⟩
  next=>cases e
 next=>cases e
abbrev TF:=L2.St->Hp->Str->(Str->Hp->Prop)->Prop
def PF(X:Cx)(es:Yh)(t:TF):Prop:=
 ∀(pins:Ya) (s:Shared) (g:L2.St) (H:Hp) (f:Str) (Q:Str->Hp->Prop),Inv X pins g H s->t g H f Q->
  wpAny (model X.prog X.w) X.A (joinParts f<|evalEach es X.env) (λu l=>∃x h,Inv X pins g h l/\RelV (.str x) u/\Q x h) X.xe s
section
variable {X:Cx}{e e1 e2:Expr}{es:Yh}{t:TF}{tv:TE}{pos:Pos}
noncomputable def AR:TF:=λ_ H f Q=>f.length<=sizeLine/\Q f H
noncomputable def Ep(x:Str)(t:TF):TF:=λg H f Q=>(f++x).length<=sizeLine/\t g H (f++x) Q
noncomputable def FS(tv:TE)(t:TF):TF:=λg H f Q=>tv g H λv h=>(∃i:Int,v=.int i/\i.natAbs.log2<1920/\(f++(Str.ofString<|toString i)).length<=sizeLine/\t g h (f++Str.ofString (toString i)) Q)\/
 ∃x:Str,v=.str x/\x.length<=sizeLine/\(f++x).length<=sizeLine/\t g h (f++x) Q
def XN:PF X [] AR:=λpins s g H f Q I h=>joinParts_nilE (joinParts_nil ⟨f,H,I.tok _,⟨_,rfl⟩,h.2⟩ h.1)
def UW(h:PF X es t):PF X (.Constant (.str x) j pos::es) (Ep x t):=λpins s f H g Q I q=>
 joinParts_consE (joinParts_cons<|Calls.Constant_str ⟨q.1,h pins _ f H _ Q (I.tok _) q.2⟩)
def XW(A:PE X e tv)(h:PF X es t):PF X (.FormattedValue e (-1) none pos::es) (FS tv t):=λpins s f H z Q I q=>by
 refine joinParts_consE (joinParts_cons<|FormattedValue_plain<|thn (A pins s f H _ I q) ?_);rintro u E ⟨v,o,n,r,y⟩;rcases y with⟨i,rfl,B,l,g⟩|⟨x,rfl,hx,l,g⟩
 ·obtain⟨w,rfl⟩:=r;exact formatField_int_small B ⟨l,h pins _ f o _ Q (n.tok _) g⟩
 ·obtain⟨w,rfl⟩:=r;exact formatField_str (λC p=>⟨l,h pins _ f o _ Q (n.tok _) g⟩) hx
noncomputable def tF(t:TF):TE:=λf H Q=>t f H Str.empty λx g=>Q (.str x) g
def XX(h:PF X (e1::e2::es) t):PE X (.JoinedStr (e1::e2::es) pos) (tF t):=λpins s f H Q I q=>
 JoinedStr_many (thn (h pins s f H _ _ I q) λu o ⟨x,n,l,r,g⟩=>⟨.str x,n,l,r,g⟩)
end
def NZ(X:Cx)(E:XK):Prop:=∀(pins:Ya) (g:L2.St) (H:Hp) (s:Shared) (C a:Addr) (f:Heap) (args:Yf),Inv X pins g H s->Heap.MadeExcOf s.heap f a (.ref C) args->E (.ref C) none H->X.xe (.ref a) {s with heap:=f}
noncomputable def ED(C:Addr)(E:XK)(t:TA):TS:=λ_ f H=>t f H λg h=>g.length<=sizeLine/\E (.ref C) none h
section
variable {X:Cx}{x:Str}{C:Addr}{E:XK}{e:Expr}{es:Yh}{t:TA}{p cpos pos:Pos}
def MG(c:Nc X.K C)(L:X.mg x=some (.ref C))(U:NZ X E)(Q:X.calm=true)(T:PA X (e::es) t)(M:autoParam (Gl X x) au_0)(r:autoParam ((x==("__debug__" : Str))=false) au_1)(v:autoParam (starEach (e::es) X.env=(false,eval e X.env)::starEach es X.env) au_0)(l:autoParam ((backTo cpos<|starEach es X.env).any (·.1)=false) au_0):PS X (.Raise (some<|.Call (.Name x p) (e::es) [] cpos) none pos) (ED C E t):=by
 intro pins s u H D I h;obtain⟨bm,N,nm,q,bs,hdct,sn,sub,ab,col,dd,k0,k1,k2,k3,k5,mN,hC,Y,n,w⟩:=c.obj I.ok.mod.kin
 have f:(backTo cpos<|starEach (e::es) X.env).any (·.1)=false:=by
  rw[v];show(false || (backTo cpos<|starEach es X.env).any (·.1))=false;rw[l];rfl
 refine wpAny_Raise_call_subU (nm:=nm) (q:=q) (N:=N) (bs:=bs) (hdct:=hdct) (sn:=sn) (sub:=sub) (ab:=ab) (col:=col) (dd:=dd) (k0:=k0) (k1:=k1) (k2:=k2) (k3:=k3) (k5:=k5)
  PySem.F.excBase_ValueError (by decide +kernel) PySem.F.excBase_ValueError (w.hasType<|by decide +kernel) (I.ok.hd Q) f n (Kn I M L ⟨rfl,?_⟩ r)
 have y:=T cpos pins s u H _ I h;rw[v]at y ⊢;refine Calls.evalArgs_plain (thn y ?_);rintro z A ⟨vs,H2,g,B,J,G⟩;refine⟨rfl,by rw[←B.length];exact J,g.bk _ _ hC,Y.keeps g.bk,w.keeps g.bk,λh' a o=>?_⟩;exact U pins u H2 A C a h' z g o G
end
section
variable {P:Program}{w:World}{K:ZX}{mg:Yb}{base:Heap}{N ps:Yg}{qual x:Str}{scope:Scope}{f:Addr}{cd:Value}{A:Around}{outer:List Env}{s:Shared}{H:Hp}{E:XK}
def UJ:NZ (JX (CXe P w) P w K mg base N qual scope f cd A outer s H E) E:=by
 intro pins n l p C a r args I m q;obtain⟨t,g,_,_⟩:=m.there;exact WQ (Lj I rfl rfl rfl m.keeps m.new g rfl rfl rfl rfl) (λ_ o ⟨h,y⟩=>⟨a,h,C,none,l,rfl,y,q⟩) λ_ _ z=>z
def JY:US (CXe P w) (JX (CXe P w) P w K mg base N qual scope f cd A outer s H E) E:=by
 rintro pins n t r e p I ⟨a,T,C,g,l,rfl,y,q⟩;exact WQ (O8 I rfl rfl rfl y) (λ_ o ⟨h,z⟩=>⟨a,h,C,g,l,rfl,z,q⟩) λ_ _ z=>z
def Mw:PassesOwn (model P w) (JX (CXe P w) P w K mg base N qual scope f cd A outer s H E).A (JX (CXe P w) P w K mg base N qual scope f cd A outer s H E).env (JX (CXe P w) P w K mg base N qual scope f cd A outer s H E).xe:=PassesOwn.leaving
def Def.okX {st k sp} (D:Own.Def K mg x st ps) (S:J1 N ps (Jy st)) (len:∀vs H Q E,sp vs H Q E->vs.length=ps.length)
  (h:∀f g A outer s H vs Q E,J7 k (A.deeper<|envOfC x (Jy st) s.heap.objs.size f g)->sp vs H Q E->
   ∃t,PSs (JX (CXe P w) P w K mg base N x (Jy st) f g A outer s H E) (JT st) t/\t {nx:=λ_ H'=>Q .non H',rt:=Q} (start N vs) H):Own.Callee P w K mg base (CXe P w) (k+1) x ps sp:=by
 obtain⟨f,C,F,u,v⟩:=D.ex;obtain⟨oc,B,kV,y,z,J,g,G,p,rfl,o,n⟩:=F.ex;exact⟨f,_,NY o n S len λA outer s H vs Q E r l=>h f g A outer s H vs Q E r l,u,F.kp,⟨_,o,rfl⟩,v⟩
end
end ExcR
namespace ExcR
open L2
open Sem (wp)
structure Ut (K:ZX) (C:Addr):Prop where
 c:Nc K C
 ga:PySem.W.findIn K (.ref C) "__getattribute__"=some (some<|.builtin "BaseException.__getattribute__")
 gt:PySem.W.findIn K (.ref C) "__getattr__"=some none
 cl:PySem.W.findIn K (.ref C) "__class__"=some (some<|.builtin "object.__class__")
 is:(PySem.W.clsIn K C).isSome=true
end ExcR
namespace ExcR
open L2
noncomputable def Xp(a C:Addr)(g:Yk):HO:=.ext λh=>∃o,h.get? a=some o/\(o.cls,o.dict)=(.ref C,g)/\∃f,o.data=.fields f
noncomputable abbrev LM(a C:Addr):HO:=Xp a C none
def MZ{h a T C g r}(x:Trc h a T (.ref C,g) r):ObjOk P w H h a (Xp a C g):=by
 obtain⟨_,⟨o,l,f,t,s,_⟩,_⟩:=x;exact⟨⟨o,f,t,l,s⟩,⟨o,f⟩,λv u ⟨o1,p,n⟩ k=>⟨o1,k o1 p,n⟩⟩
def TR{H H'}{h s r}(u:Un fs [] H H' h s)(k:U8 fs ex s r)(hx:∀b∈ex,h.get? b=none):Un fs [] H H' h r:=by
 have f:∀b o,h.get? b=some o->b∉ex:=λb o q z=>by rw[hx b z]at q;cases q
 refine⟨λb o q n nf g=>k.keep b o (u.keep b o q n nf g) nf (f b o q),λb o q n v g=>?_,u.free,λb o q g=>?_,u.tups,u.frzs,u.tbls⟩
 ·obtain⟨sl,p⟩:=u.slot b o q n v g;obtain⟨l,t⟩:=k.slot b _ p (f b o q)
  grind
 ·obtain⟨o1,p⟩:=u.there b o q g;obtain⟨l,t⟩:=k.slot b _ p (f b o q)
  grind
noncomputable def Xu(X:Cx)(a:Addr):Cx:={X with A:=X.A.mark (some<|.ref a),calm:=false,xe:=λ_ _=>False}
section
variable {X:Cx}{pins pins1:Ya}{σ:L2.St}{H H':Hp}{s s':Shared}{a T C:Addr}{D:Ends}{h0:ExceptHandler}
def My(o:X.Ok):(Xu X a).Ok:=⟨o.mod,o.kind,o.glob,o.blt,o.above,o.inj,o.has,o.cab,(λz=>nomatch z),o.frames,o.stk,o.exf,o.bs,o.bsz,o.noex,o.exfs,o.funs,o.frf⟩
def TX(I:Inv X pins σ H s):Inv (Xu X a) pins σ H s:=⟨My I.ok,I.os,I.bare,I.base,I.loc,I.cell,I.free,I.freeC,I.pin,I.hok,I.len⟩
def N7(o:X.Ok)(I:Inv (Xu X a) pins σ H s):Inv X pins σ H s:=⟨o,I.os,I.bare,I.base,I.loc,I.cell,I.free,I.freeC,I.pin,I.hok,I.len⟩
def O4{h'}{tk}(I:Inv X pins σ H s)(hN:X.N.Nodup)(hi:X.N[i]?=some n)(hk:X.env.scope.names.lookup n=some .local)(hm:∀(i:Nat) x v,X.N[i]?=some x->σ[i]?=some (some v)->Vis X.env.scope x->∃u,RelV v u/\Look X.env s.heap m x u)(hn:s.heap.Ns X.env.locals m)(l:h'.Ns X.env.locals (λx=>if x=n then v else m x))(f:Heap.SameBut X.env.locals s.heap h'):Inv X pins (σ.set i none) H {s with heap:=h',toks:=tk}:=by
 have cne:=I.cne;have h:∀{b o},X.s₀.heap.get? b=some o->b≠X.env.locals:=λe=>WK (W1 (Ws e) I.ok.above);refine⟨I.ok,I.os,I.bare,⟨λb o e n r hx=>(f.2 b<|h e).trans (I.base.keep b o e n r hx),λb o e n r hx=>?_,I.base.free,λb o e hx=>?_,I.base.tups,I.base.frzs,I.base.tbls⟩,⟨_,l,λj y G g B e3=>?_⟩,λy c e=>?_,I.free,I.freeC,λp Y=>?_,λb M e=>?_,by simpa using I.len⟩
 ·obtain⟨sl,g⟩:=I.base.slot b o e n r hx;exact⟨sl,(f.2 b<|h e).trans g⟩
 ·obtain⟨Q,g⟩:=I.base.there b o e hx;exact⟨Q,(f.2 b<|h e).trans g⟩
 ·by_cases w:j=i
  ·grind
  ·rw[QG (Ne.symm w)]at B;obtain⟨J,L,q⟩:=hm j y G g B e3;refine⟨J,L,?_⟩;rcases q with⟨k,e⟩|⟨k,c,e,z⟩
   ·have U:y≠n:=λz=>w (NT hN g (z▸hi));exact .inl ⟨k,by simp[U,e]⟩
   ·exact .inr ⟨k,c,e,z.sameBut f (cne y c e)⟩
 ·obtain⟨E,z⟩:=I.cell y c e;exact⟨E,z.sameBut f (cne y c e)⟩
 ·obtain⟨e,n,t,nf,d⟩:=I.pin p Y;exact⟨(f.2 p.1 t).trans e,n,t,nf,d⟩
 ·refine(I.hok b M e).stay (λc u hc q=>(f.2 c ?_).trans q) (λ_ q=>q) λ_ _ q=>q;rintro rfl;have A:=I.free;rcases hc with z|z
  ·rw[←z,A]at e;cases e
  ·rw[A]at z;cases z
end
noncomputable def AZ(i:Nat)(D:Ends):Ends:={nx:=λf H=>D.nx (f.set i none) H,rt:=D.rt,bk:=λf H=>D.bk (f.set i none) H,ct:=λf H=>D.ct (f.set i none) H}
noncomputable def hx(K:ZX)(l:Addr)(i:Nat)(g:TS)(D:Ends):L2.St->XK:=λf c h H=>∃C,c=.ref C/\PySem.W.exmOne K (.ref C) (.ref l)=some true/\
 ∀a,H a=none->g (AZ i D) (f.set i<|some<|.ref a) (upd H a<|Xp a C h)
def Ca(CX:CXT)(X:Cx)(E:L2.St->XK):Prop:=∀(pins:Ya) (f:L2.St) (H:Hp) (s:Shared) (e:Value) (g:Shared),Inv X pins f H s->CX X.stack H s (E f) e g->X.xe e g
noncomputable def FF(sp:Sp)(E:L2.St->XK)(t:TA):TE:=λf H Q=>t f H λg h=>sp (g++[]) h Q (E f)
section
variable {X:Cx}{CX:CXT}{k:Nat}{ps:Yg}{sp:Sp}{E:L2.St->XK}{x:Str}{p pos:Pos}{e:Expr}{es:Yh}{t:TA}
def Zal(C:Own.Callee X.prog X.w X.K X.mg X.base CX k x ps sp)(J:J7 k X.A)(L:Ca CX X E)(ha:PA X (e::es) t)(U:autoParam (Gl X x) au_0)(y:autoParam ((x==("__debug__" : Str))=false) au_1)(Y:autoParam (starEach (e::es) X.env=(false,eval e X.env)::starEach es X.env) au_0)(v:autoParam ((backTo pos<|starEach es X.env).any (·.1)=false) au_0) :
  PE X (.Call (.Name x p) (e::es) [] pos) (FF sp E t):=by
 obtain⟨f,fd,F,M,T,_,hb⟩:=C.ex;intro pins s n H Q I h;refine Qo (Kn I U M ?_ y);refine Q5 I.ok.mod.kin T (thn (ha pos pins s n H _ I h) λl o ⟨B,z,g,r,q⟩=>⟨g.kIn,?_⟩) Y v;have N:(l++[]).length=ps.length:=by rw[WD,←r.length,←F.len _ _ _ _ q,WD]
 refine wpAny_call (QH (F.run X.A X.stack o z ⟨l,[]⟩ (l++[]) (B++[]) Q (E n) J g.env0 (hb o l g.kIn N) (by grind) q) λr G hq=>?_);cases r with
 |error e=>exact L pins n z o e G g hq
 |ok fl=>
  cases fl with
  |ret u=>exact g.after hq
  |next=>trivial
  |_=>exact False.elim hq
end
noncomputable def J0(f:Yb)(x:Str):Addr:=match f x with
 |some (.ref C)=>C
 |_=>0
def NB(h:f x=some (.ref C)):J0 f x=C:=by unfold J0;rw[h]
def UK{v pos}(h:∃u,X.mg x=some u/\RelV v u)(f:autoParam (Gl X x) au_0)(g:autoParam ((x==("__debug__" : Str))=false) au_1):PE X (.Name x pos) (tC v):=by
 obtain⟨u,n,l⟩:=h;exact SS f n l g
end ExcR
namespace Own
open L2 M
section
variable {X:Cx}{pins:Ya}{σ:L2.St}{H:Hp}{s:Shared}
def Dh{p:Int×Int}{its}(r:Vals [V.int p.1,V.int p.2] its):∃g f,its=[.int p.1 g,.int p.2 f]:=by
 cases r with
 |cons o h=>
  cases h with
  |cons n l=>
   cases l
   obtain⟨g,rfl⟩:=o;obtain⟨f,rfl⟩:=n
   grind
def IZ{x y p q u v}(I:Inv X pins σ H s)(T:A.units<cLine)(J:RelV x u)(G:RelV y v)(U:Xc H x p)(hq:Xc H y q):SeqAt.EqAt A s u v (decide (p=q)):=by
 obtain⟨a,rfl,B⟩:=U;obtain⟨b,rfl,l⟩:=hq;obtain rfl:=J;obtain rfl:=G;by_cases n:a=b
 ·subst n;rw[B]at l
  have e:p=q:=by
   injection l with l;injection l with l;injection l with g f;injection f with f _;exact Prod.ext (V.int.inj g) (V.int.inj f)
  rw[Wh e];exact SeqAt.EqAt.same _
 ·obtain⟨_,Q,M,E⟩:=(I.hok a _ B);obtain⟨_,N,L,C⟩:=(I.hok b _ l);obtain⟨w,t,rfl⟩:=Dh M;obtain⟨r,o,rfl⟩:=Dh L
  have h:=SeqAt.RcAt.tuples (e:=λj=>if j=0 then p.1==q.1 else p.2==q.2) E C T (λj g f=>by
   have Y:j=0\/j=1:=by
    have h1':j<2:=g;lia
   rcases Y with rfl|rfl
   ·exact SeqAt.EqAt.int_int _ _ _ _
   ·exact SeqAt.EqAt.int_int _ _ _ _)
  have e:((List.range (min ([Value.int p.1 w,Value.int p.2 t].toArray).size ([Value.int q.1 r,Value.int q.2 o].toArray).size)).all (λj=>if j=0 then p.1==q.1 else p.2==q.2)&&([Value.int p.1 w,Value.int p.2 t].toArray).size==([Value.int q.1 r,Value.int q.2 o].toArray).size)=decide (p=q):=by
   show((List.range 2).all (λj=>if j=0 then p.1==q.1 else p.2==q.2)&&true)=decide (p=q);rw[Bool.and_true];have e2:(List.range 2).all (λj=>if j=0 then p.1==q.1 else p.2==q.2)=((p.1==q.1)&&(p.2==q.2)):=by simp[List.range,List.range.loop]
   rw[e2];by_cases g:p.1=q.1
   ·by_cases f:p.2=q.2
    ·rw[Wh (Prod.ext g f)];simp[g,f]
    ·rw[Wx (λz=>f (by rw[z]))];simp[f]
   ·rw[Wx (λz=>g (by rw[z]))];simp[g]
  rw[e]at h;exact SeqAt.EqAt.of_refs n h
noncomputable def eP(H:Hp)(q:Int×Int)(u:Value):Bool:=match u with
 | .ref a=>(match H a with
  |some (.tup [.int i,.int j])=>decide ((i,j)=q)
  |_=>false)
 |_=>false
def EA{p q}(h:Xc H v p)(r:RelV v u):eP H q u=decide (p=q):=by
 obtain⟨a,rfl,f⟩:=h;obtain rfl:=r;unfold eP;simp_all
theorem Bh:∀{vs us}{ps:ZY},Vals vs us->LV Xc H vs ps->us.any (eP H q)=decide (q∈ps)
 |_,_,[],.nil,_=>rfl
 |_,_,_::_,.nil,h|v::vs,u::us,[],.cons _ _,h=>absurd h.1 (by simp)
 |v::vs,u::us,p::ps,.cons r t,h=>by
  obtain⟨l,e,f⟩:=h.2 0 p rfl;cases e
  have g:LV Xc H vs ps:=⟨by simpa using h.1,λi x e=>h.2 (i+1) x e⟩;rw[List.any_cons,EA f r,Bh t g];by_cases n:p=q
  ·grind
  ·grind
noncomputable def Pk(neg:Bool):R2:=λx y H Q=>∃(l:Addr) (f:ZY) (q:Int×Int),y=.ref l/\Xc H x q/\LAt Xc H l f/\Q (.bl (if neg then !decide (q∈f)else decide (q∈f))) H
theorem Si{x v q}(I:Inv X pins σ H s)(l:A.units<cLine)(g:RelV x v)(hx:Xc H x q):∀{vs us}{ps:ZY},Vals vs us->LV Xc H vs ps->∀u∈us,SeqAt.EqAt A s u v (eP H q u)
 |_,_,_,.nil,_,u,f=>by cases f
 |w::vs,u::us,[],.cons _ _,h,_,_=>absurd h.1 (by simp)
 |w::vs,u::us,p::ps,.cons r t,h,n,f=>by
  obtain⟨y,e,hw⟩:=h.2 0 p rfl;cases e
  have o:LV Xc H vs ps:=⟨by simpa using h.1,λi x e=>h.2 (i+1) x e⟩;rcases Wu.mp f with rfl|f
  ·rw[EA hw r];exact IZ I l r g hw hx
  ·exact Si I l g hx t o n f
def MK(t:X.A.in1.units<cLine):OpR X (compareOp .In) (Pk false):=by
 intro pins s σ H x y v u Q I o n h;obtain⟨l,C,q,rfl,hx,⟨B,z,g⟩,k⟩:=h;cases n
 obtain⟨f,r,p,E⟩:=I.list (SqL.of z);refine SeqAt.in_listAt (eP H q) p.isList (λw hw=>Si I t o hx r g w (by grind)) ⟨.bl _,H,I,rfl,?_⟩;rwa[show f.toArray.any (eP H q)=f.any (eP H q) by simp,Bh r g]
def Zad(t:X.A.in1.units<cLine):OpR X (compareOp .NotIn) (Pk true):=by
 intro pins s σ H x y v u Q I o n h;obtain⟨l,C,q,rfl,hx,⟨B,z,g⟩,k⟩:=h;cases n
 obtain⟨f,r,p,E⟩:=I.list (SqL.of z);refine SeqAt.notIn_listAt (eP H q) p.isList (λw hw=>Si I t o hx r g w (by grind)) ⟨.bl _,H,I,rfl,?_⟩;rwa[show f.toArray.any (eP H q)=f.any (eP H q) by simp,Bh r g]
end
end Own
namespace M
open L2 Own
section
variable {α:Type}{R:Hp->V->α->Prop}{H:Hp}
noncomputable def pick(c:α->Bool)(d:V×α):Option V:=if c d.2=true then some d.1 else none
end
end M
namespace Own
open L2
section
variable {X:Cx}{K:ZX}
theorem FG:∀{bs}{us:Yf},Vals (bs.map V.bl) us->LSm.BoolsAre us bs
 |[],_,.nil=>.nil
 |b::r,_,.cons h t=>by
  cases h
  exact .cons b (FG t)
noncomputable def Sb(K:ZX)(neg:Bool):R2:=λx y H Q=>∃(p q:Addr) (xs:List V),x=.ref p/\y=.ref q/\SqL K H p xs/\SqL K H q []/\Q (.bl (if neg then !xs.isEmpty else xs.isEmpty)) H
def OJ(l:X.A.units<cLine)(C:autoParam (X.K=K) au_0):OpR X (compareOp .Eq) (Sb K false):=by
 subst C;intro pins s G H x y v u Q I t o h;obtain⟨p,q,xs,rfl,rfl,B,hq,k⟩:=h;obtain rfl:=t;obtain rfl:=o;obtain⟨J,z,f,_⟩:=I.list B;obtain⟨n,w,p2,_⟩:=I.list hq;have M:=z.length;have L:0=n.length:=w.length;have g:=k;by_cases e:xs.length=0
 ·refine SeqAt.eq_listAt (e:=λ_=>true) f.isList p2.isList (by simp;lia) l (λj N E=>by simp at E;lia) ⟨.bl xs.isEmpty,H,I,?_,g⟩;show _=Value.bool xs.isEmpty
  grind
 ·refine SeqAt.eq_list_lengthsAt f.isList p2.isList (by simp;lia) l ⟨.bl xs.isEmpty,H,I,?_,g⟩;cases xs with
  |nil=>exact absurd rfl e
  |cons a r=>rfl
def L4(l:X.A.units<cLine)(C:autoParam (X.K=K) au_0):OpR X (compareOp .NotEq) (Sb K true):=by
 subst C;intro pins s G H x y v u Q I t o h;obtain⟨p,q,xs,rfl,rfl,B,hq,k⟩:=h;obtain rfl:=t;obtain rfl:=o;obtain⟨J,z,f,_⟩:=I.list B;obtain⟨n,w,p2,_⟩:=I.list hq;have M:=z.length;have L:0=n.length:=w.length;have g:=k;by_cases e:xs.length=0
 ·refine SeqAt.RcNeAt.lists (e:=λ_=>true) f.isList p2.isList (by simp;lia) l (λj N E=>by simp at E;lia) _ _ _ _ ⟨.bl (!xs.isEmpty),H,I,?_,g⟩;show _=Value.bool (!xs.isEmpty)
  grind
 ·refine SeqAt.RcNeAt.lists_lengths f.isList p2.isList (by simp;lia) l _ _ _ _ ⟨.bl (!xs.isEmpty),H,I,?_,g⟩;cases xs with
  |nil=>exact absurd rfl e
  |cons a r=>rfl
end
end Own
namespace M
def sl:ZZ->ZZ->Prop
 |x::xs,y::f=>x<y\/(x=y/\sl xs f)
 |_,_=>False
def Xo(f:ZY):Prop:=f.length<=20/\f.Nodup/\∀q∈f,(1<=q.1/\q.1<=10/\1<=q.2/\q.2<=10)/\q.1≠q.2
end M
namespace Pu
open L2 Own
inductive D where
 |int (i:Int)|bl (b:Bool)|non|str (x:Str)|ty (n:String)|tup (ds:List D)|lst (ds:List D)|scr (ns:ZZ)|dK (kvs:List (Key×V))|dT (kvs:List (List Key×V))|loc (a:Addr) (d:D)|err (C:Addr)|ref (a:Addr)|ins (C:Addr) (xs:Yg) (ds:List D)|dF (kvs:List (List Key×V))|erM (C:Addr) (r:ZZ)|fL (ns:ZZ)
mutual
inductive Rp (K:ZX) (H:Hp):D->V->Prop
 |int (i:Int):Rp K H (.int i) (.int i)
 |bl (b:Bool):Rp K H (.bl b) (.bl b)
 |non:Rp K H .non .non
 |str (x:Str):Rp K H (.str x) (.str x)
 |ty (n:String):Rp K H (.ty n) (.ty n)
 |tup {ds:List D} {vs:List V} {a:Addr}:H a=some (.tup vs)->Rps K H ds vs->Rp K H (.tup ds) (.ref a)
 |lst {ds:List D} {vs:List V} {a:Addr}:H a=some (.lst vs)->Rps K H ds vs->Rp K H (.lst ds) (.ref a)
 |scr {ns:ZZ} {a:Addr}:SqL K H a (ns.map V.int)->Rp K H (.scr ns) (.ref a)
 |dK {kvs:List (Key×V)} {a:Addr}:H a=some (.dK kvs)->Rp K H (.dK kvs) (.ref a)
 |dT {kvs:List (List Key×V)} {a:Addr}:H a=some (.dT kvs)->Rp K H (.dT kvs) (.ref a)
 |dF {kvs:List (List Key×V)} {o:Obj} {a:Addr}:H a=some (.frz o<|.dT kvs)->Rp K H (.dF kvs) (.ref a)
 |loc {d:D} {a:Addr}:Rp K H d (.ref a)->Rp K H (.loc a d) (.ref a)
 |err {C a:Addr}:H a=some (ExcR.LM a C)->Rp K H (.err C) (.ref a)
 |ref (a:Addr):Rp K H (.ref a) (.ref a)
 |erM {C a dx l:Addr} {o:Obj} {r:ZZ}:H a=some (ExcR.Xp a C<|some dx)->H dx=some (.xd [("members",.ref l)])->H l=some (.frz o<|.lst<|r.map V.int)->Rp K H (.erM C r) (.ref a)
 |fL {a:Addr} {o:Obj} {ns:ZZ}:H a=some (.frz o<|.lst<|ns.map V.int)->Rp K H (.fL ns) (.ref a)
 |ins {C a dx:Addr} {xs:Yg} {ds:List D} {vs:List V}:H a=some (.ins C dx<|xs.zip vs)->xs.length=vs.length->Rps K H ds vs->Rp K H (.ins C xs ds) (.ref a)
inductive Rps (K:ZX) (H:Hp):List D->List V->Prop
 |nil:Rps K H [] []
 |cons {d:D} {v:V} {ds:List D} {vs:List V}:Rp K H d v->Rps K H ds vs->Rps K H (d::ds) (v::vs)
end
section
variable {K:ZX}{H H':Hp}
def Rp.mono (S:Same H H') {d:D}{v:V}:Rp K H d v->Rp K H' d v:=
 Rp.rec (motive_1:=λd v _=>Rp K H' d v) (motive_2:=λg f _=>Rps K H' g f) .int .bl .non .str .ty (λh _ r=>.tup (S _ _ h) r) (λh _ r=>.lst (S _ _ h) r) (λh=>.scr (S.seq h)) (λh=>.dK (S _ _ h)) (λh=>.dT (S _ _ h)) (λh=>.dF (S _ _ h)) (λ_ h=>.loc h) (λh=>.err (S _ _ h)) .ref (λa b c=>.erM (S _ _ a) (S _ _ b) (S _ _ c)) (λh=>.fL (S _ _ h)) (λh e _ r=>.ins (S _ _ h) e r) .nil λ_ _=>.cons
def Rps.mono (S:Same H H') {ds:List D}:∀{vs:List V},Rps K H ds vs->Rps K H' ds vs:=by
 induction ds with
 |nil=>intro _ h;cases h;exact .nil
 |cons _ _ f=>intro _ h;cases h with|cons a b=>exact .cons (Rp.mono S a) (f b)
def Rps.len:∀{ds}{vs:List V},Rps K H ds vs->vs.length=ds.length:=by
 intro ds
 induction ds with
 |nil=>
  intro _ h;cases h
  rfl
 |cons _ _ f=>
  intro _ h;cases h with
  |cons h r=>
   exact W9 (· + 1) (f r)
def Rps.get:∀{ds vs}{i:Nat}{d:D},Rps K H ds vs->ds[i]?=some d->∃v,vs[i]?=some v/\Rp K H d v:=by
 intro ds
 induction ds with
 |nil=>
  intro _ i _ h e;simp at e
 |cons _ _ f=>
  intro _ i d h e;cases h with
  |cons h r=>
   cases i with
   |zero=>
    simp at e;subst e;exact⟨_,rfl,h⟩
   |succ i=>
    obtain⟨v,l,g⟩:=f r (by simpa using e);exact⟨v,by simpa using l,g⟩
def Rps.append:∀{ds es}{vs us:List V},Rps K H ds vs->Rps K H es us->Rps K H (ds++es) (vs++us):=by
 intro ds
 induction ds with
 |nil=>
  intro _ _ _ h s;cases h
  exact s
 |cons _ _ f=>
  intro _ _ _ h s;cases h with
  |cons h r=>
   exact .cons h (f r s)
def Rps.at (r:Rps K H ds vs) (e:atI ds i=some d):∃v,atI vs i=some v/\Rp K H d v:=by
 unfold atI at e ⊢;rw[r.len];cases q:ixN ds.length i with
 |none=>grind
 |some j=>
  rw[q]at e;exact r.get e
theorem Rps.drop:∀{ds vs} n,Rps K H ds vs->Rps K H (ds.drop n) (vs.drop n)
 |_,_,0,r=>r
 |_,_,_+1,.nil=>.nil
 |_,_,n+1,.cons _ r=>Rps.drop n r
theorem Rps.take:∀{ds vs} n,Rps K H ds vs->Rps K H (ds.take n) (vs.take n)
 |_,_,0,_|_,_,_+1,.nil=>.nil
 |_,_,n+1,.cons h r=>.cons h (Rps.take n r)
end
mutual
noncomputable def imm:D->Bool
 | .tup f=>U6 f
 | .lst _=>false
 | .scr _=>false
 | .dK _=>false
 | .dT _=>false
 | .loc _ _=>false
 | .err _=>false
 | .erM _ _=>false
 | .ins _ _ _=>false
 |_=>true
noncomputable def U6:List D->Bool
 |[]=>true
 |d::r=>imm d&&U6 r
end
open Classical in
noncomputable def off(Z:Addr->Prop)(H:Hp):Hp:=λb=>if Z b then none else H b
section
variable {K:ZX}{H H':Hp}{Z Z':Addr->Prop}
def Xz(h:off Z H b=some o):H b=some o/\¬Z b:=by
 unfold off at h;by_cases z:Z b
 ·grind
 ·grind
def Uj(h:H b=some o)(z:¬Z b):off Z H b=some o:=by
 unfold off
 grind
def JB(S:Same H H')(g:∀b o,H b=some o->¬Z b->¬Z' b):Same (off Z H) (off Z' H'):=λb o h=>by
 obtain⟨f,l⟩:=Xz h;exact Uj (S b o f) (g b o f l)
def off_sub:Same (off Z H) H:=λ_ _ h=>(Xz h).1
def Rp.off (s:∀b,Z b->Mut (H b)) {d:D}{v:V}:Rp K H d v->imm d=true->Rp K (off Z H) d v:=by
 have g:∀{a o},H a=some o->¬Mut (some o)->Pu.off Z H a=some o:=λh n=>Uj h λz=>n (h▸s _ z);have f:∀{d} {P:Prop},imm d=false->imm d=true->P:=λh e=>by rw[h]at e;cases e
 exact Rp.rec (motive_1:=λd v _=>imm d=true->Rp K (Pu.off Z H) d v) (motive_2:=λl p _=>U6 l=true->Rps K (Pu.off Z H) l p) (λi _=>.int i) (λb _=>.bl b) (λ_=>.non) (λx _=>.str x) (λn _=>.ty n) (λh _ r e=>.tup (g h id) (r<|by unfold imm at e;exact e)) (λ_ _ _=>f (by unfold imm;rfl)) (λ_=>f (by unfold imm;rfl)) (λ_=>f (by unfold imm;rfl)) (λ_=>f (by unfold imm;rfl)) (λh _=>.dF (g h id)) (λ_ _=>f (by unfold imm;rfl)) (λ_=>f (by unfold imm;rfl)) (λa _=>.ref a) (λ_ _ _=>f (by unfold imm;rfl)) (λh _=>.fL (g h id)) (λ_ _ _ _=>f (by unfold imm;rfl)) (λ_=>.nil) (λ_ _ a b e=>by
  unfold U6 at e;rw[WE]at e;exact .cons (a e.1) (b e.2))
def Rps.off (g:∀b,Z b->Mut (H b)) {ds:List D}:∀{vs:List V},Rps K H ds vs->U6 ds=true->Rps K (off Z H) ds vs:=by
 induction ds with
 |nil=>intro _ h _;cases h;exact .nil
 |cons _ _ f=>
  intro _ h e;unfold U6 at e;rw[WE]at e;cases h with|cons a b=>exact .cons (Rp.off g a e.1) (f b e.2)
end
inductive O where
 |lst (ds:List D)|dK (kvs:List (Key×V))|dT (kvs:List (List Key×V))|ins (a C:Addr) (xs:Yg) (cs:List (Addr×List D))|lsA (a:Addr) (ds:List D)|nst (cs:List (Addr×List D))|nsl (a:Addr) (cs:List (Addr×List D))
instance:Coe (List D) O:=⟨O.lst⟩
noncomputable def O.d:O->D
 | .lst h=>.lst h | .dK f=>.dK f | .dT f=>.dT f | .ins _ C xs g=>.ins C xs (g.map λc=>.lst c.2) | .lsA _ h=>.lst h | .nst g=>.tup (g.map λc=>.lst c.2) | .nsl _ g=>.lst (g.map λc=>.lst c.2)
def O.adr (a:Addr):O->Addr->Prop
 | .lst _=>λb=>b=a
 | .dK _=>λb=>b=a
 | .dT _=>λb=>b=a
 | .ins x _ _ f=>λb=>b=x\/∃c∈f,b=c.1
 | .lsA x _=>λb=>b=x
 | .nst f=>λb=>∃c∈f,b=c.1
 | .nsl x f=>λb=>b=x\/∃c∈f,b=c.1
def OR(K:ZX)(F H:Hp)(a:Addr):O->Prop
 | .lst l=>∃f,H a=some (.lst f)/\Rps K F l f
 | .dK h=>H a=some (.dK h)
 | .dT h=>H a=some (.dT h)
 | .lsA x l=>a=x/\∃f,H a=some (.lst f)/\Rps K F l f
 | .ins x C xs g=>a=x/\xs.length=g.length/\(∃n,H a=some (.ins C n<|xs.zip (g.map λc=>V.ref c.1)))/\(∀c∈g,∃f,H c.1=some (.lst f)/\Rps K F c.2 f)/\(g.map (·.1)).Nodup
 | .nsl x g=>a=x/\H a=some (.lst (g.map λc=>V.ref c.1))/\(∀c∈g,∃f,H c.1=some (.lst f)/\Rps K F c.2 f)/\(x::g.map (·.1)).Nodup
 | .nst g=>F a=some (.tup (g.map λc=>V.ref c.1))/\(∀c∈g,∃f,H c.1=some (.lst f)/\Rps K F c.2 f)/\(g.map (·.1)).Nodup
def OR.mono {K F y H H'}{a o} (s:Same F y) (r:∀b,o.adr a b->∀x,H b=some x->H' b=some x) (h:OR K F H a o):OR K y H' a o:=by
 cases o with
 |lst A=>obtain⟨f,n,g⟩:=h;exact⟨f,r _ rfl _ n,Rps.mono s g⟩
 |lsA x A=>obtain⟨rfl,f,n,g⟩:=h;exact⟨rfl,f,r _ rfl _ n,Rps.mono s g⟩
 |nsl x w=>
  obtain⟨e,n,g,v⟩:=h;exact⟨e,r _ (.inl e) _ n,λc p=>let ⟨f,u,t⟩:=g c p;⟨f,r _ (.inr ⟨c,p,rfl⟩) _ u,Rps.mono s t⟩,v⟩
 |nst w=>
  obtain⟨n,g,v⟩:=h;exact⟨s _ _ n,λc p=>let ⟨f,u,t⟩:=g c p;⟨f,r _ ⟨c,p,rfl⟩ _ u,Rps.mono s t⟩,v⟩
 |ins x C xs w=>
  obtain⟨e,l,⟨z,n⟩,g,v⟩:=h;exact⟨e,l,⟨z,r _ (.inl e) _ n⟩,λc p=>let ⟨f,u,t⟩:=g c p;⟨f,r _ (.inr ⟨c,p,rfl⟩) _ u,Rps.mono s t⟩,v⟩
 |_=>exact r _ rfl _ h
theorem Kb{K F}:∀{f:List (Addr×List D)},(∀c∈f,∃vs,F c.1=some (.lst vs)/\Rps K F c.2 vs)->Rps K F (f.map λc=>.lst c.2) (f.map λc=>V.ref c.1)
 |[],_=>.nil
 |c::f,h=>let ⟨_,l,g⟩:=h c W7;.cons (.lst l g) (Kb λo n=>h o (W0 _ n))
def OR.rpIn {K F w H a o} (s:Same F w) (n:∀b,o.adr a b->∀x,H b=some x->w b=some x) (h:OR K F H a o):Rp K w o.d (.ref a):=by
 cases o with
 |lst A=>obtain⟨r,g,f⟩:=h;exact .lst (n _ rfl _ g) (Rps.mono s f)
 |dK v=>exact .dK (n _ rfl _ h)
 |dT v=>exact .dT (n _ rfl _ h)
 |lsA x A=>obtain⟨rfl,r,g,f⟩:=h;exact .lst (n _ rfl _ g) (Rps.mono s f)
 |nsl x z=>
  obtain⟨e,g,f,y⟩:=h;exact .lst (n _ (.inl e) _ g) (Kb λc p=>let ⟨r,u,t⟩:=f c p;⟨r,n _ (.inr ⟨c,p,rfl⟩) _ u,Rps.mono s t⟩)
 |nst z=>
  obtain⟨g,f,y⟩:=h;exact .tup (s _ _ g) (Kb λc p=>let ⟨r,u,t⟩:=f c p;⟨r,n _ ⟨c,p,rfl⟩ _ u,Rps.mono s t⟩)
 |ins x C xs z=>
  obtain⟨e,l,⟨B,g⟩,f,y⟩:=h;exact .ins (n _ (.inl e) _ g) (by grind) (Kb λc p=>let ⟨r,u,t⟩:=f c p;⟨r,n _ (.inr ⟨c,p,rfl⟩) _ u,Rps.mono s t⟩)
def OR.rp {K F H a o} (f:Same F H) (h:OR K F H a o):Rp K H o.d (.ref a):=h.rpIn f λ_ _ _ e=>e
def OR.mut {K F H a o} (h:OR K F H a o):∀b,o.adr a b->Mut (H b):=by
 cases o with
 |lst w=>obtain⟨t,g,p⟩:=h;intro b e;rw[show b=a from e,g];trivial
 |dK n=>intro b e;rw[show b=a from e,show H a=some (.dK n)from h];trivial
 |dT n=>intro b e;rw[show b=a from e,show H a=some (.dT n)from h];trivial
 |lsA x w=>obtain⟨rfl,t,g,p⟩:=h;intro b e;rw[show b=a from e,g];trivial
 |nsl x v=>
  obtain⟨e,g,p,u⟩:=h;intro b f;rcases f with f|⟨c,s,f⟩
  ·rw[show b=a from f.trans e.symm,g];trivial
  ·obtain⟨t,r,_⟩:=p c s;rw[f,r];trivial
 |nst v=>
  obtain⟨g,p,u⟩:=h;rintro b ⟨c,s,f⟩;obtain⟨t,r,_⟩:=p c s;rw[f,r];trivial
 |ins x C xs v=>
  obtain⟨e,l,⟨y,g⟩,p,u⟩:=h;intro b f;rcases f with f|⟨c,s,f⟩
  ·rw[show b=a from f.trans e.symm,g];trivial
  ·obtain⟨t,r,_⟩:=p c s;rw[f,r];trivial
inductive S where
 |bor (d:D)|sh (d:D)|own (o:O)|view (o:O)|tmp (d:D)
abbrev Γ:=List (Option S)
noncomputable def D.strip:D->D
 | .loc _ d=>d|d=>d
def Rp.strip {K H d v} (h:Rp K H d v):Rp K H d.strip v:=by
 cases h with
 |loc h=>exact h
 |int i=>exact .int i
 |bl b=>exact .bl b
 |non=>exact .non
 |str x=>exact .str x
 |ty n=>exact .ty n
 |tup h r=>exact .tup h r
 |lst h r=>exact .lst h r
 |scr h=>exact .scr h
 |dK h=>exact .dK h
 |dT h=>exact .dT h
 |dF h=>exact .dF h
 |err h=>exact .err h
 |ref a=>exact .ref a
 |erM l g f=>exact .erM l g f
 |fL h=>exact .fL h
 |ins h e r=>exact .ins h e r
noncomputable def S.d:S->D
 | .bor d=>d.strip | .sh d=>d | .own o=>o.d | .view o=>o.d | .tmp d=>d
noncomputable def arg(d:D):S:=match imm d with|true=>.sh d|false=>.bor d
noncomputable def UL(d:D):S:=match imm d with|true=>.sh d|false=>.tmp d
noncomputable def S.sub:S->D->S
 | .bor _,e=>arg e | .tmp _,e=>UL e | .own (.nst _),e=>UL e | .view (.nst _),e=>UL e | .own (.nsl _ _),e=>UL e | .view (.nsl _ _),e=>UL e|_,e=>.sh e
noncomputable def S.shd:S->Option D
 | .sh d=>some d | .own o=>some o.d
 | .bor d=>match imm d with|true=>some d|false=>none
 | .tmp d=>match imm d with|true=>some d|false=>none
 | .view _=>none
noncomputable def S.slot:S->Option S
 | .view _=>none | .bor d=>some (.bor d) | .sh d=>some (.sh d) | .own f=>some (.own f)
 | .tmp d=>match imm d with|true=>some (.sh d)|false=>none
def Zaz(h:Γ)(g:L2.St)(b:Addr):Prop:=∃(i:Nat) (f:O) (a:Addr),h[i]?=some (some<|.own f)/\g[i]?=some (some<|.ref a)/\f.adr a b
def zof(B:Addr->Prop)(g:Γ)(f:L2.St):Addr->Prop:=λb=>B b\/Zaz g f b
def SV(K:ZX)(Z:Addr->Prop)(f H:Hp):S->V->Prop
 | .bor d,v=>Rp K f d v
 | .sh d,v=>Rp K (off Z H) d v
 | .own o,v=>∃a,v=.ref a/\(∀b,o.adr a b->f b=none)/\OR K (off Z H) H a o
 |_,_=>False
def TV(K:ZX)(Z:Addr->Prop)(f H H':Hp):S->V->Prop
 | .bor d,v=>Rp K f d v
 | .sh d,v=>Rp K (off Z H') d v
 | .own o,v=>∃a,v=.ref a/\(∀b,o.adr a b->H b=none)/\OR K (off (λb=>Z b\/o.adr a b) H') H' a o
 | .view o,v=>∃a,v=.ref a/\OR K (off Z H') H' a o
 | .tmp d,v=>Rp K H' d v
structure Jz (K:ZX) (H0:Hp) (B:Addr->Prop) (H:Hp) (σ:L2.St) (γ:Γ):Prop where
 same:Same H0 H
 len:σ.length=γ.length
 bm:∀b,B b->Mut (H b)
 own:∀(i j:Nat) (a a':Addr) (ds es:O) (b:Addr),γ[i]?=some (some<|.own ds)->γ[j]?=some (some<|.own es)->σ[i]?=some (some<|.ref a)->σ[j]?=some (some<|.ref a')->ds.adr a b->es.adr a' b->i=j
 slot:∀(i:Nat) (s:S),γ[i]?=some (some s)->∃v,σ[i]?=some (some v)/\SV K (zof B γ σ) H0 H s v
section
variable {K:ZX}{H0 H H1 H':Hp}{B Z Z':Addr->Prop}{σ:L2.St}{γ:Γ}
def X0(S:Same H H'){b}(h:Mut (H b)):Mut (H' b):=by
 cases e:H b with
 |none=>rw[e]at h;exact h.elim
 |some o=>rw[S b o e,←e];exact h
def Pe(h:Mut (H b)):∃o,H b=some o:=by
 cases e:H b with
 |none=>rw[e]at h;exact h.elim
 |some o=>grind
def Jz.grow (E:Jz K H0 B H σ γ) (S:Same H H'):Jz K H0 B H' σ γ where
 same:=E.same.trans S
 len:=E.len
 bm b h:=X0 S (E.bm b h)
 own:=E.own
 slot i s h:=by
  obtain⟨v,h1,h2⟩:=E.slot i s h;refine⟨v,h1,?_⟩;cases s with
  |bor d=>trivial
  |sh d=>exact Rp.mono (JB S λ_ _ _ z=>z) h2
  |own ds=>
   obtain⟨a,e1,e3,e4⟩:=h2;exact⟨a,e1,e3,e4.mono (JB S λ_ _ _ z=>z) λb _ x=>S b x⟩
  |_=>exact h2
def Jz.zm (E:Jz K H0 B H σ γ):∀b,zof B γ σ b->Mut (H b):=λb h=>by
 rcases h with h|⟨i,s,x,n,l,g⟩
 ·exact E.bm b h
 ·obtain⟨v,f,a,p,r,o⟩:=E.slot i _ n;rw[l]at f;cases f
  cases p
  exact o.mut b g
def TV.rp (f:Same H0 H') (h:TV K Z H0 H H' s v):Rp K H' s.d v:=by
 cases s with
 |bor d=>exact(Rp.mono f h).strip
 |sh d=>exact Rp.mono off_sub h
 |own g=>
  obtain⟨a,rfl,_,r⟩:=h;exact r.rp off_sub
 |view g=>
  obtain⟨a,rfl,r⟩:=h;exact r.rp off_sub
 |tmp d=>exact h
def TV.grow (f:Same H' H1) (h:TV K Z H0 H H' s v):TV K Z H0 H H1 s v:=by
 cases s with
 |bor d=>exact h
 |sh d=>exact Rp.mono (JB f λ_ _ _ z=>z) h
 |own l=>
  obtain⟨a,rfl,g,r⟩:=h;exact⟨a,rfl,g,r.mono (JB f λ_ _ _ z=>z) λb _ x=>f b x⟩
 |view l=>
  obtain⟨a,rfl,r⟩:=h;exact⟨a,rfl,r.mono (JB f λ_ _ _ z=>z) λb _ x=>f b x⟩
 |tmp d=>exact Rp.mono f h
def TV.weak (o:Same H H1) (f:∀b,Z b->Z' b) (h:TV K Z' H0 H1 H' s v):TV K Z H0 H H' s v:=by
 cases s with
 |sh d=>exact Rp.mono (JB (Same.refl _) λb _ _ z y=>z (f b y)) h
 |own n=>
  obtain⟨a,rfl,l,r⟩:=h;exact⟨a,rfl,λb g=>o.free (l b g),r.mono (JB (Same.refl _) λb _ _ z y=>z (y.imp (f b) id)) λ_ _ _ q=>q⟩
 |view n=>
  obtain⟨a,rfl,r⟩:=h;exact⟨a,rfl,r.mono (JB (Same.refl _) λb _ _ z y=>z (f b y)) λ_ _ _ q=>q⟩
 |_=>exact h
def TV.shd (o:Same H0 H') (l:∀b,Z b->Mut (H b)) (u:Same H H') (h:TV K Z H0 H H' s v) (e:s.shd=some d):Rp K (off Z H') d v:=by
 have f:=λb z=>X0 u (l b z);cases s with
 |bor g=>
  unfold S.shd at e;cases q:imm g with
  |false=>simp_all
  |true=>
   simp[q]at e;subst e;exact Rp.off f (Rp.mono o h) q
 |sh g=>cases e;exact h
 |own t=>
  cases e
  obtain⟨a,rfl,p,r⟩:=h;exact r.rpIn (JB (Same.refl _) λb _ _ z y=>z (.inl y)) λb n x e=>Uj e λz=>by have:=l _ z;rw[p b n]at this;exact this
 |view t=>cases e
 |tmp g=>
  unfold S.shd at e;cases q:imm g with
  |false=>simp[q]at e
  |true=>
   simp[q]at e;subst e;exact Rp.off f h q
def Ko(f:∀b,Z b->Mut (H' b))(g:Same H0 H')(h:Rp K H0 d v):TV K Z H0 H H' (arg d) v:=by
 unfold arg;cases q:imm d with
 |true=>exact Rp.off f (Rp.mono g h) q
 |false=>exact h
def Xq(f:∀b,Z b->Mut (H' b))(h:Rp K H' d v):TV K Z H0 H H' (UL d) v:=by
 unfold UL;cases q:imm d with
 |true=>exact Rp.off f h q
 |false=>exact h
def Rp.lst_inv (h:Rp K H (.lst ds) v):∃a vs,v=.ref a/\H a=some (.lst vs)/\Rps K H ds vs:=by
 cases h with
 |lst h r=>grind
def Rp.tup_inv (h:Rp K H (.tup ds) v):∃a vs,v=.ref a/\H a=some (.tup vs)/\Rps K H ds vs:=by
 cases h with
 |tup h r=>grind
def TV.part (C:Same H0 H') (M:∀b,Z b->Mut (H b)) (N:Same H H') (h:TV K Z H0 H H' s v) :
  (∀ds,s.d=.lst ds->∃a vs,v=.ref a/\H' a=some (.lst vs)/\vs.length=ds.length/\∀(i:Nat) d,ds[i]?=some d->∃u,vs[i]?=some u/\TV K Z H0 H H' (s.sub d) u)/\
  (∀ds,s.d=.tup ds->∃a vs,v=.ref a/\H' a=some (.tup vs)/\vs.length=ds.length/\∀(i:Nat) d,ds[i]?=some d->∃u,vs[i]?=some u/\TV K Z H0 H H' (s.sub d) u):=by
 have l:=λb z=>X0 N (M b z);cases s with
 |bor d=>
  have h:=Rp.strip h;refine⟨λds e=>?_,λds e=>?_⟩<;>rw[show d.strip=_ from e]at h
  ·obtain⟨a,vs,rfl,h,r⟩:=Rp.lst_inv h;exact⟨_,_,rfl,C _ _ h,r.len,λi d e=>let ⟨u,g,f⟩:=r.get e;⟨u,g,Ko l C f⟩⟩
  ·obtain⟨a,vs,rfl,h,r⟩:=Rp.tup_inv h;exact⟨_,_,rfl,C _ _ h,r.len,λi d e=>let ⟨u,g,f⟩:=r.get e;⟨u,g,Ko l C f⟩⟩
 |sh d=>
  refine⟨λds e=>?_,λds e=>?_⟩<;>(have J:=e;subst J)
  ·obtain⟨a,vs,rfl,h,r⟩:=Rp.lst_inv h;exact⟨_,_,rfl,off_sub _ _ h,r.len,λi d e=>r.get e⟩
  ·obtain⟨a,vs,rfl,h,r⟩:=Rp.tup_inv h;exact⟨_,_,rfl,off_sub _ _ h,r.len,λi d e=>r.get e⟩
 |own t=>
  cases t with
  |lst t=>
   refine⟨λds e=>?_,λds e=>by cases e⟩;cases e
   obtain⟨a,rfl,G,vs,e,r⟩:=h;exact⟨a,vs,rfl,e,r.len,λi d e=>let ⟨u,g,f⟩:=r.get e;⟨u,g,Rp.mono (JB (Same.refl _) λb _ _ z y=>z (.inl y)) f⟩⟩
  |lsA x t=>
   refine⟨λds e=>?_,λds e=>by cases e⟩;cases e
   obtain⟨a,rfl,G,_,vs,e,r⟩:=h;exact⟨a,vs,rfl,e,r.len,λi d e=>let ⟨u,g,f⟩:=r.get e;⟨u,g,Rp.mono (JB (Same.refl _) λb _ _ z y=>z (.inl y)) f⟩⟩
  |nsl x L=>
   refine⟨λds e=>?_,λds e=>by cases e⟩;cases e
   obtain⟨a,rfl,G,_,A,w,E⟩:=h;have r:=Kb λc p=>let ⟨vs,o,n⟩:=w c p;⟨vs,o,Rps.mono off_sub n⟩;exact⟨a,_,rfl,A,r.len,λi d e=>let ⟨u,g,f⟩:=r.get e;⟨u,g,Xq l f⟩⟩
  |nst L=>
   refine⟨(λds e=>by cases e),λds e=>?_⟩;cases e
   obtain⟨a,rfl,G,A,w,E⟩:=h;have r:=Kb λc p=>let ⟨vs,o,n⟩:=w c p;⟨vs,o,Rps.mono off_sub n⟩;exact⟨a,_,rfl,off_sub _ _ A,r.len,λi d e=>let ⟨u,g,f⟩:=r.get e;⟨u,g,Xq l f⟩⟩
  |_=>exact⟨(λds e=>by cases e),(λds e=>by cases e)⟩
 |view t=>
  cases t with
  |lst t=>
   refine⟨λds e=>?_,λds e=>by cases e⟩;cases e
   obtain⟨a,rfl,vs,e,r⟩:=h;exact⟨a,vs,rfl,e,r.len,λi d e=>r.get e⟩
  |lsA x t=>
   refine⟨λds e=>?_,λds e=>by cases e⟩;cases e
   obtain⟨a,rfl,_,vs,e,r⟩:=h;exact⟨a,vs,rfl,e,r.len,λi d e=>r.get e⟩
  |nsl x L=>
   refine⟨λds e=>?_,λds e=>by cases e⟩;cases e
   obtain⟨a,rfl,_,A,w,E⟩:=h;have r:=Kb λc p=>let ⟨vs,o,n⟩:=w c p;⟨vs,o,Rps.mono off_sub n⟩;exact⟨a,_,rfl,A,r.len,λi d e=>let ⟨u,g,f⟩:=r.get e;⟨u,g,Xq l f⟩⟩
  |nst L=>
   refine⟨(λds e=>by cases e),λds e=>?_⟩;cases e
   obtain⟨a,rfl,A,w,E⟩:=h;have r:=Kb λc p=>let ⟨vs,o,n⟩:=w c p;⟨vs,o,Rps.mono off_sub n⟩;exact⟨a,_,rfl,off_sub _ _ A,r.len,λi d e=>let ⟨u,g,f⟩:=r.get e;⟨u,g,Xq l f⟩⟩
  |_=>exact⟨(λds e=>by cases e),(λds e=>by cases e)⟩
 |tmp d=>
  refine⟨λds e=>?_,λds e=>?_⟩<;>(have J:=e;subst J)
  ·obtain⟨a,vs,rfl,h,r⟩:=Rp.lst_inv h;exact⟨_,_,rfl,h,r.len,λi d e=>let ⟨u,g,f⟩:=r.get e;⟨u,g,Xq l f⟩⟩
  ·obtain⟨a,vs,rfl,h,r⟩:=Rp.tup_inv h;exact⟨_,_,rfl,h,r.len,λi d e=>let ⟨u,g,f⟩:=r.get e;⟨u,g,Xq l f⟩⟩
def Fr(B:Addr->Prop)(H:Hp)(σ:L2.St)(γ:Γ)(H':Hp)(f:L2.St)(g:Γ):Prop:=∀b o,H b=some o->¬zof B γ σ b->H' b=some o/\¬zof B g f b
def Fr.refl:Fr B H σ γ H σ γ:=λ_ _ h z=>⟨h,z⟩
def Fr.trans {H1 p g f n l} (a:Fr B H σ γ H1 g n) (b:Fr B H1 g n p f l):Fr B H σ γ p f l:=λx o h z=>let ⟨s,r⟩:=a x o h z;b x o s r
def Fr.grow (f:Same H H'):Fr B H σ γ H' σ γ:=λ_ _ h z=>⟨f _ _ h,z⟩
def Fr.off {H'}{σ'}{γ'} (f:Fr B H σ γ H' σ' γ'):Same (off (zof B γ σ) H) (Pu.off (zof B γ' σ') H'):=λb o h=>by
 obtain⟨p,n⟩:=Xz h;obtain⟨l,g⟩:=f b o p n;exact Uj l g
def Ua{f:Type}{l:List f}{i j}{x y}(h:(l.set i x)[j]?=some y):(j=i/\x=y/\i<l.length)\/(j≠i/\l[j]?=some y):=by grind
def Tv{f:Type}{l:List f}{i}{x}(h:i<l.length):(l.set i x)[i]?=some x:=by grind
def Xl{f:Type}{l:List f}{i j}{x}(h:j≠i):(l.set i x)[j]?=l[j]?:=by grind
def Jz.drop (E:Jz K H0 B H σ γ) (i:Nat):Jz K H0 B H σ (γ.set i none)/\Fr B H σ γ H σ (γ.set i none):=by
 have p:∀b,zof B (γ.set i none) σ b->zof B γ σ b:=λb z=>z.imp id λ⟨j,l,a,g,f,t⟩=>by
  rcases Ua g with⟨_,e,_⟩|⟨_,e⟩
  ·grind
  ·exact⟨j,l,a,e,f,t⟩
 refine⟨⟨E.same,by rw[WX];exact E.len,E.bm,λk j a C l u b g f=>?_,λk s h=>?_⟩,λb o h z=>⟨h,λy=>z (p b y)⟩⟩
 ·rcases Ua g with⟨_,e,_⟩|⟨_,n⟩
  ·cases e
  ·rcases Ua f with⟨_,e,_⟩|⟨_,A⟩
   ·cases e
   ·exact E.own k j a C l u b n A
 ·rcases Ua h with⟨_,e,_⟩|⟨_,e⟩
  ·cases e
  ·obtain⟨v,g,f⟩:=E.slot k s e;refine⟨v,g,?_⟩;have r:Same (Pu.off (zof B γ σ) H) (Pu.off (zof B (γ.set i none) σ) H):=JB (Same.refl _) λb _ _ z y=>z (p b y);cases s with
   |sh d=>exact Rp.mono r f
   |own l=>
    obtain⟨a,n,x,w⟩:=f;exact⟨a,n,x,w.mono r λ_ _ _ q=>q⟩
   |_=>exact f
def Jz.put {s J}{v} (E:Jz K H0 B H σ γ) (S1:Same H H') (h:TV K (zof B γ σ) H0 H H' s v) (e:s.slot=some J) (hi:i<γ.length) :
  Jz K H0 B H' (σ.set i<|some v) (γ.set i<|some J)/\Fr B H σ γ H' (σ.set i<|some v) (γ.set i<|some J):=by
 have n:i<σ.length:=by rw[E.len];exact hi
 have E':=E.grow S1
 have isown:∀f,J=.own f->s=.own f:=λf q=>by
  subst q;cases s with
  |own G=>cases e;rfl
  |tmp d=>unfold S.slot at e;cases q:imm d<;>simp[q]at e
  |_=>cases e
 have l:∀b,zof B (γ.set i<|some J) (σ.set i<|some v) b->zof B γ σ b\/∃f a,s=.own f/\v=.ref a/\f.adr a b:=λb z=>by
  rcases z with z|⟨j,f,a,h1,C,t⟩
  ·exact .inl (.inl z)
  ·rcases Ua h1 with⟨U,g,_⟩|⟨Q,g⟩
   ·subst U;rw[Tv n]at C
    have:=Wt g
    exact .inr ⟨f,a,isown f this,Wt (Wt C),t⟩
   ·rw[Xl Q]at C;exact .inl (.inr ⟨j,f,a,g,C,t⟩)
 have fresh:∀f a b,s=.own f->v=.ref a->f.adr a b->H b=none:=λf a b G ev p=>by
  subst G;obtain⟨Y,g,e0,_⟩:=h;rw[ev]at g;cases g
  exact e0 b p
 have hz:∀b o,H b=some o->¬zof B γ σ b->¬zof B (γ.set i<|some J) (σ.set i<|some v) b:=λb o p z y=>by
  rcases l b y with y|⟨f,a,y1,y2,y3⟩
  ·exact z y
  ·rw[fresh f a b y1 y2 y3]at p;cases p
 have So:=JB S1 hz;refine⟨⟨E'.same,by rw[WX,WX];exact E.len,E'.bm,λk j a Y f G b h1 C t L h5 h6=>?_,λk u hk=>?_⟩,λb o p z=>⟨S1 b o p,hz b o p z⟩⟩
 ·have N:∀(k:Nat) f a b,γ[k]?=some (some<|.own f)->σ[k]?=some (some<|.ref a)->f.adr a b->∃o,H b=some o:=λk f a b g A e3=>by
   obtain⟨u,q1,Y,M,_,q3⟩:=E.slot k _ g;rw[A]at q1;cases q1
   cases M
   exact Pe (q3.mut b e3)
  rcases Ua h1 with⟨ek,g,_⟩|⟨nk,g⟩
  ·rcases Ua C with⟨U,A,_⟩|⟨Q,A⟩
   ·rw[ek,U]
   ·subst ek;rw[Tv n]at t;rw[Xl Q]at L;obtain⟨o,T⟩:=N j G Y b A L h6;rw[fresh f a b (isown f<|Wt g) (Wt<|Wt t) h5]at T;cases T
  ·rcases Ua C with⟨U,A,_⟩|⟨Q,A⟩
   ·subst U;rw[Tv n]at L;rw[Xl nk]at t;obtain⟨o,T⟩:=N k f a b g t h5;rw[fresh G Y b (isown G<|Wt A) (Wt<|Wt L) h6]at T;cases T
   ·rw[Xl nk]at t;rw[Xl Q]at L;exact E.own k j a Y f G b g A t L h5 h6
 ·rcases Ua hk with⟨ek,g,_⟩|⟨nk,g⟩
  ·subst ek
   have:=(Wt g).symm
   subst this;refine⟨v,Tv n,?_⟩;cases s with
   |own f=>
    cases e
    obtain⟨a,rfl,e0,r⟩:=h;refine⟨a,rfl,λb p=>E.same.free (e0 b p),r.mono (JB (Same.refl _) λb o _ z y=>?_) λ_ _ _ q=>q⟩;rcases l b y with y|⟨_,_,y1,y,y2⟩
    ·exact z (.inl y)
    ·cases y;cases y1;exact z (.inr y2)
   |sh d=>
    cases e
    refine Rp.mono (JB (Same.refl _) λb o _ z y=>?_) h;rcases l b y with y|⟨_,_,y,_⟩
    ·exact z y
    ·cases y
   |bor d=>cases e;exact h
   |view d=>cases e
   |tmp d=>
    unfold S.slot at e;cases q:imm d with
    |false=>simp[q]at e
    |true=>
     simp[q]at e;subst e;refine Rp.off (λb y=>?_) h q;rcases l b y with y|⟨_,_,y,_⟩
     ·exact X0 S1 (E.zm b y)
     ·cases y
  ·obtain⟨w,q1,M⟩:=E.slot k u g;refine⟨w,by rw[Xl nk];exact q1,?_⟩;cases u with
   |sh d=>exact Rp.mono So M
   |own f=>
    obtain⟨a,g,e3,e4⟩:=M;exact⟨a,g,e3,e4.mono So λb _ x=>S1 b x⟩
   |_=>exact M
noncomputable def frz(i:Nat)(γ:Γ):Γ:=match γ[i]? with
 |some (some<|.own o)=>γ.set i (some<|.sh o.d)
 |_=>γ
def Jz.frz (E:Jz K H0 B H σ γ) (Y:∀b,B b->∃o,H0 b=some o) (i:Nat):Jz K H0 B H σ (frz i γ)/\Fr B H σ γ H σ (Pu.frz i γ):=by
 unfold Pu.frz;split
 ·rename_i p G
  have C:∀b,zof B (γ.set i<|some<|.sh p.d) σ b->zof B γ σ b:=λb z=>z.imp id λ⟨j,l,a,g,f,J⟩=>by
   rcases Ua g with⟨_,e,_⟩|⟨_,e⟩
   ·cases e
   ·exact⟨j,l,a,e,f,J⟩
  have A:Same (Pu.off (zof B γ σ) H) (Pu.off (zof B (γ.set i<|some<|.sh p.d) σ) H):=JB (Same.refl _) λb _ _ z y=>z (C b y);refine⟨⟨E.same,by rw[WX];exact E.len,E.bm,λk j a w l r b g f=>?_,λk s h=>?_⟩,λb o h z=>⟨h,λy=>z (C b y)⟩⟩
  ·rcases Ua g with⟨_,e,_⟩|⟨_,n⟩
   ·cases e
   ·rcases Ua f with⟨_,e,_⟩|⟨_,u⟩
    ·cases e
    ·exact E.own k j a w l r b n u
  ·rcases Ua h with⟨Q,e,_⟩|⟨U,e⟩
   ·subst Q
    have:=Wt e
    subst this;obtain⟨v,g,a,rfl,J,N⟩:=E.slot k _ G;refine⟨_,g,N.rpIn A λb M x f=>Uj f λz=>?_⟩;rcases z with z|⟨j,l,w,n,u,t⟩
    ·grind
    ·rcases Ua n with⟨_,q,_⟩|⟨L,q⟩
     ·cases q
     ·exact L (E.own j k w a l p b q G u g t M)
   ·obtain⟨v,g,f⟩:=E.slot k s e;refine⟨v,g,?_⟩;cases s with
    |sh d=>exact Rp.mono A f
    |own p=>
     obtain⟨a,n,t,T⟩:=f;exact⟨a,n,t,T.mono A λ_ _ _ q=>q⟩
    |_=>exact f
 ·exact⟨E,Fr.refl⟩
def Jz.change {o o'} (E:Jz K H0 B H σ γ) (L:γ[i]?=some (some<|.own o)) (t:σ[i]?=some (some<|.ref a))
  (M:∀b x,H b=some x->¬o.adr a b->H' b=some x) (hm:∀b,o.adr a b->Mut (H' b)) (l:∀b,o'.adr a b->o.adr a b\/H b=none) (r:OR K (Pu.off (zof B (γ.set i<|some<|.own o') σ) H') H' a o') :
  Jz K H0 B H' σ (γ.set i<|some<|.own o')/\Fr B H σ γ H' σ (γ.set i<|some<|.own o'):=by
 obtain⟨v,h1,a',rfl,h3,h4⟩:=E.slot i _ L;rw[t]at h1;cases h1
 have za:∀b,o.adr a b->zof B γ σ b:=λb A=>.inr ⟨i,o,a,L,t,A⟩
 have hz:∀b x,H b=some x->zof B (γ.set i<|some<|.own o') σ b->zof B γ σ b:=λb x hx z=>by
  rcases z with z|⟨j,fs,a',T,p,n⟩
  ·exact .inl z
  ·rcases Ua T with⟨Q,q,_⟩|⟨_,e⟩
   ·subst Q;cases q
    rw[t]at p;cases p
    rcases l b n with k|k
    ·exact za b k
    ·rw[k]at hx;cases hx
   ·exact .inr ⟨j,fs,a',e,p,n⟩
 have S1:=λb x h=>by
  obtain⟨g,f⟩:=Xz h;exact Uj (M b x g λk=>f (za b k)) λz=>f (hz b x g z)
 have G:∀(k:Nat) ds a b,γ[k]?=some (some<|.own ds)->σ[k]?=some (some<|.ref a)->ds.adr a b->∃o,H b=some o:=λk ds a b T p n=>by
  obtain⟨u,g,a',f,_,q3⟩:=E.slot k _ T;rw[p]at g;cases g
  cases f
  exact Pe (q3.mut b n)
 refine⟨⟨λb x h=>?_,by rw[WX];exact E.len,λb A=>?_,λk j x x' fs N b T p n C e5 Y=>?_,λk s h=>?_⟩,λb x h z=>⟨?_,λy=>z (hz b x h y)⟩⟩
 ·exact M b x (E.same b x h) λk=>by rw[h3 b k]at h;cases h
 ·by_cases k:o.adr a b
  ·exact hm b k
  ·have:=E.bm b A
   obtain⟨x,hx⟩:=Pe this;rwa[M b x hx k,←hx]
 ·rcases Ua T with⟨U,g,_⟩|⟨nk,g⟩
  ·rcases Ua p with⟨Q,_,_⟩|⟨nj,f⟩
   ·rw[U,Q]
   ·subst U;cases g
    rw[t]at n;cases n
    rcases l b e5 with w|w
    ·exact E.own k j _ _ _ _ b L f t C w Y
    ·obtain⟨u,J⟩:=G j N x' b f C Y;rw[w]at J;cases J
  ·rcases Ua p with⟨Q,f,_⟩|⟨nj,f⟩
   ·subst Q;cases f
    rw[t]at C;cases C
    rcases l b Y with w|w
    ·exact E.own k j _ _ _ _ b g L n t e5 w
    ·obtain⟨u,J⟩:=G k fs x b g n e5;rw[w]at J;cases J
   ·exact E.own k j x x' fs N b g f n C e5 Y
 ·rcases Ua h with⟨U,e,_⟩|⟨nk,e⟩
  ·subst U
   have:=Wt e
   subst this;exact⟨_,t,a,rfl,λb A=>(l b A).elim (h3 b) λw=>E.same.free w,r⟩
  ·obtain⟨v,g,f⟩:=E.slot k s e;refine⟨v,g,?_⟩;cases s with
   |sh d=>exact Rp.mono S1 f
   |own fs=>
    obtain⟨x,rfl,n,C⟩:=f;exact⟨x,rfl,n,C.mono S1 λb A y p=>M b y p λw=>nk (E.own k i x a fs o b e L g t A w)⟩
   |_=>exact f
 ·exact M b x h λk=>z (za b k)
def Jz.mutate {i:Nat}{a:Addr}{ds es:O}{us:HO} (E:Jz K H0 B H σ γ) (t:γ[i]?=some (some<|.own ds)) (f:σ[i]?=some (some<|.ref a)) (v:Mut (some us)) (r:∀F H':Hp,Same (Pu.off (zof B γ σ) H) F->H' a=some us->OR K F H' a es)
  (k1:autoParam (ds.adr a=λb=>b=a) au_0) (k2:autoParam (es.adr a=λb=>b=a) au_0) :
  Jz K H0 B (upd H a us) σ (γ.set i<|some<|.own es)/\Fr B H σ γ (upd H a us) σ (γ.set i<|some<|.own es):=by
 refine E.change (o:=ds) (o':=es) t f (λb x h n=>by rw[JF (λz=>n (by rw[k1];exact z))];exact h) (λb h=>by rw[k1]at h;rw[show b=a from h,Um];exact v) (λb h=>.inl (by rw[k1];rw[k2]at h;exact h)) (r _ _ ?_ Um)
 intro b x h;obtain⟨u,p⟩:=Xz h;have s:b≠a:=λz=>p (.inr ⟨i,ds,a,t,f,by rw[k1];exact z⟩);refine Uj (by rw[JF s];exact u) λz=>p ?_;rcases z with z|⟨j,fs,A,y,l,g⟩
 ·exact .inl z
 ·rcases Ua y with⟨w,q,_⟩|⟨_,e⟩
  ·subst w;cases q
   rw[f]at l;cases l
   rw[k2]at g;exact absurd g s
  ·exact .inr ⟨j,fs,A,e,l,g⟩
end
end Pu
namespace Pu
open L2 Own
abbrev XR:=Str->Prop
noncomputable def eI:Int->Nat
 | .ofNat n=>2*n
 | .negSucc n=>2*n+1
noncomputable def dI(n:Nat):Int:=if n % 2=0 then .ofNat (n / 2)else .negSucc (n / 2)
def Zaj:∀i,dI (eI i)=i
 | .ofNat n=>by
  show dI (2*n)=_;unfold dI;simp
 | .negSucc n=>by
  show dI (2*n+1)=_;unfold dI;lia
noncomputable def Bv(r:ZZ):Str:=⟨(0::r.map eI).toArray⟩
noncomputable def On:Ye->Option (ZZ)
 | 0::t=>some (t.map dI)
 |_=>none
noncomputable def Kr(x:Str):Option (ZZ):=On x.cps.toList
def Ia(r:ZZ):Kr (Bv r)=some r:=by
 show some ((r.map eI).map dI)=some r;rw[Qd];congr 1
 conv=>rhs;rw[←List.map_id r]
 exact List.map_congr_left λi _=>Zaj i
def XE(f:Yb)(E:XK)(c:Str)(H':Hp):Prop:=match Kr c with
 |none=>E (.ref<|ExcR.J0 f c) none H'
 |some r=>∀(g l:Addr) (o:Obj),H' g=some (.xd [("members",.ref l)])->H' l=some (.frz o<|.lst<|r.map V.int)->E (.ref<|ExcR.J0 f "Ringed") (some g) H'
def XE.plain {c H'} (g:Kr c=none) (h:XE f E c H'):E (.ref<|ExcR.J0 f c) none H':=by
 unfold XE at h;simp_all
def XE.of {E c H'} (g:Kr c=none) (h:E (.ref<|ExcR.J0 f c) none H'):XE f E c H':=by
 unfold XE;simp_all
def XE.ofM {E r H'} (h:∀f l o,H' f=some (.xd [("members",.ref l)])->H' l=some (.frz o<|.lst<|r.map V.int)->E (.ref<|ExcR.J0 g "Ringed") (some f) H'):XE g E (Bv r) H':=by
 unfold XE;rw[Ia];lia
abbrev PTE:=Γ->(S->Prop)->XR->Prop
abbrev PTT:=Γ->(Bool->Prop)->XR->Prop
abbrev PTA:=Γ->(List S->Prop)->XR->Prop
abbrev PTO:=Γ->(Option Int->Prop)->XR->Prop
structure XA where
 nx:Γ->Prop
 rt:S->Prop
 ex:Γ->Str->Prop
 bk:Γ->Prop:=λ_=>False
 ct:Γ->Prop:=λ_=>False
 rv:Γ->D->Prop:=λ_ _=>False
abbrev PTS:=XA->Γ->Prop
abbrev PTG:=S->Γ->(Γ->Prop)->Prop
abbrev KH:=List S->Γ->(Γ->Prop)->Prop
inductive TVs (K:ZX) (Z:Addr->Prop) (H0 H H':Hp):List S->List V->Prop
 |nil:TVs K Z H0 H H' [] []
 |cons {s:S} {v:V} {ss:List S} {vs:List V}:TV K Z H0 H H' s v->TVs K Z H0 H H' ss vs->TVs K Z H0 H H' (s::ss) (v::vs)
section
variable (K:ZX) (mg:Yb) (E:L2.St->XK)
def Jw(t:TE)(p:PTE):Prop:=∀(l:Hp) (B:Addr->Prop) (H:Hp) (g:L2.St) (h:Γ) (R:S->Prop) (X:XR) (Q:VK),Jz K l B H g h->p h R X->
 (∀s v f,R s->Same H f->TV K (zof B h g) l H f s v->Q v f)->(∀c f,X c->Same H f->XE mg (E g) c f)->t g H Q
def Uq(t:TT)(p:PTT):Prop:=∀(l:Hp) (B:Addr->Prop) (H:Hp) (g:L2.St) (h:Γ) (R:Bool->Prop) (X:XR) (Q:Bool->Hp->Prop),Jz K l B H g h->p h R X->
 (∀b f,R b->Same H f->Q b f)->(∀c f,X c->Same H f->XE mg (E g) c f)->t g H Q
def JI(t:TA)(p:PTA):Prop:=∀(o:Hp) (B:Addr->Prop) (H:Hp) (g:L2.St) (h:Γ) (R:List S->Prop) (X:XR) (Q:List V->Hp->Prop),Jz K o B H g h->p h R X->
 (∀n l f,R n->Same H f->TVs K (zof B h g) o H f n l->Q l f)->(∀c f,X c->Same H f->XE mg (E g) c f)->t g H Q
def Xk(t:TO)(p:PTO):Prop:=∀(l:Hp) (B:Addr->Prop) (H:Hp) (g:L2.St) (h:Γ) (R:Option Int->Prop) (X:XR) (Q:Option Int->Hp->Prop),Jz K l B H g h->p h R X->
 (∀o f,R o->Same H f->Q o f)->(∀c f,X c->Same H f->XE mg (E g) c f)->t g H Q
structure Ph (H0:Hp) (B:Addr->Prop) (H:Hp) (σ:L2.St) (γ:Γ) (R:XA) (D:Ends):Prop where
 nx:∀σ' γ' H',R.nx γ'->Jz K H0 B H' σ' γ'->Fr B H σ γ H' σ' γ'->D.nx σ' H'
 rt:∀s v H',R.rt s->Same H0 H'->TV K B H0 H0 H' s v->D.rt v H'
 ex:∀σ' γ' c H',R.ex γ' c->Jz K H0 B H' σ' γ'->Fr B H σ γ H' σ' γ'->XE mg (E σ') c H'
 bk:∀σ' γ' H',R.bk γ'->Jz K H0 B H' σ' γ'->Fr B H σ γ H' σ' γ'->D.bk σ' H'
 ct:∀σ' γ' H',R.ct γ'->Jz K H0 B H' σ' γ'->Fr B H σ γ H' σ' γ'->D.ct σ' H'
 rv:∀σ' γ' d v H',R.rv γ' d->Jz K H0 B H' σ' γ'->Fr B H σ γ H' σ' γ'->Rp K (off (zof B γ' σ') H') d v->D.rt v H'
def JA(t:TS)(p:PTS):Prop:=∀(h:Hp) (B:Addr->Prop) (H:Hp) (f:L2.St) (g:Γ) (R:XA) (D:Ends),(∀b,B b->∃o,h b=some o)->Jz K h B H f g->p R g->Ph K mg E h B H f g R D->t D f H
end
section
variable {K:ZX}{mg:Yb}{E:L2.St->XK}{H0 H H1 H':Hp}{B Z Z':Addr->Prop}{σ:L2.St}{γ:Γ}
def TVs.weakG {H1 g}:∀{ss}{vs:List V},Same H H1->TVs K Z H0 H1 g ss vs->TVs K Z H0 H g ss vs:=by
 intro ss
 induction ss with
 |nil=>
  intro _ _ h;cases h
  exact .nil
 |cons _ _ l=>
  intro _ f h;cases h with
  |cons h r=>
   exact .cons (TV.weak f (λ_ z=>z) h) (l f r)
def TVs.rps (g:Same H0 H'):∀{ss}{vs:List V},TVs K Z H0 H H' ss vs->Rps K H' (ss.map S.d) vs:=by
 intro ss
 induction ss with
 |nil=>
  intro _ h;cases h
  exact .nil
 |cons _ _ f=>
  intro _ h;cases h with
  |cons h r=>
   exact .cons (h.rp g) (f r)
theorem TVs.shd {ds:List D} (l:Same H0 H') (g:∀b,Z b->Mut (H b)) (n:Same H H'):∀{f vs}{ds:List D},TVs K Z H0 H H' f vs->f.map S.shd=ds.map some->Rps K (off Z H') ds vs
 |_,_,[],.nil,_=>.nil
 |_,_,_::_,.nil,e|_,_,[],.cons _ _,e=>by cases e
 |_,_,d::ds,.cons h r,e=>by
  rw[WR,WR,List.cons.injEq]at e;exact .cons (h.shd l g n e.1) (TVs.shd (ds:=ds) l g n r e.2)
def Rp.int_inv (h:Rp K H (.int i) v):v=.int i:=by cases h;rfl
def Rp.bl_inv (h:Rp K H (.bl b) v):v=.bl b:=by cases h;rfl
def Rp.str_inv (h:Rp K H (.str x) v):v=.str x:=by cases h;rfl
def Rp.non_inv (h:Rp K H .non v):v=.non:=by cases h;rfl
def Rp.ty_inv (h:Rp K H (.ty n) v):v=.ty n:=by cases h;rfl
noncomputable def TH(i:Nat):PTE:=λγ R _=>match γ[i]? with
 |some (some<|.own f)=>R (.view f)
 |some (some s)=>R s
 |_=>False
def Jx(i:Nat):Jw K mg E (UA i) (TH i):=by
 intro H0 B H σ γ R X Q f h q _;unfold TH at h;split at h
 ·rename_i o e;obtain⟨v,g,a,rfl,r,n⟩:=f.slot i _ e;exact⟨_,g,q _ _ H h (Same.refl _) ⟨a,rfl,n⟩⟩
 ·rename_i s p e;obtain⟨v,g,l⟩:=f.slot i _ e;refine⟨v,g,q _ _ H h (Same.refl _) ?_⟩;cases s with
  |bor d|sh d=>exact l
  |own o=>grind
  |_=>exact l.elim
 ·grind
noncomputable def pC(d:D):PTE:=λ_ R _=>R (.sh d)
def Nm(h:∀H,Rp K H d v):Jw K mg E (tC v) (pC d):=by
 intro H0 B H σ γ R X Q f p q _;exact q _ _ H p (Same.refl _) (h _)
def J8:Jw K mg E (tC<|.int i) (pC<|.int i):=Nm λ_=>.int i
def AS:Jw K mg E (tC<|.bl b) (pC<|.bl b):=Nm λ_=>.bl b
def JC:Jw K mg E (tC<|.str x) (pC<|.str x):=Nm λ_=>.str x
def XO:Jw K mg E (tC<|.ty n) (pC<|.ty n):=Nm λ_=>.ty n
noncomputable def p2(a b:PTE)(f:S->S->(S->Prop)->Prop):PTE:=λγ R X=>a γ (λx=>b γ (λy=>f x y R) X) X
def Xa{w t a b f}(U:Jw K mg E w a)(T:Jw K mg E t b)(M:∀H0 H h Z x y v u R Q,Same H0 h->Same H h->(∀b,Z b->Mut (H b))->TV K Z H0 H h x v->TV K Z H0 H h y u->f x y R->(∀s z H',R s->Same h H'->TV K Z H0 H H' s z->Q z H')->r v u h Q) :
  Jw K mg E (tOp r w t) (p2 a b f):=by
 intro H0 B H σ γ R X Q l p q A;refine U H0 B H σ γ _ X _ l p (λx v H1 h1 n J=>?_) A;have g:=l.grow n;refine T H0 B H1 σ γ _ X _ g h1 (λy u h Y o G=>?_) λc H' N S'=>A c H' N (n.trans S');exact M H0 H h _ x y v u R Q (g.same.trans o) (n.trans o) l.zm (J.grow o) (TV.weak n (λ_ z=>z) G) Y λs z H' L S3 C=>q s z H' L ((n.trans o).trans S3) C
def fI0(g:Int->Int->D):S->S->(S->Prop)->Prop:=λx y R=>match x.d,y.d with
 | .int i,.int j=>R (.sh<|g i j)
 |_,_=>False
def fI(C:Int->Int->Prop)(g:Int->Int->D):S->S->(S->Prop)->Prop:=λx y R=>match x.d,y.d with
 | .int i,.int j=>C i j/\R (.sh<|g i j)
 |_,_=>False
def Pr{g'}{l f a b}(t:∀H i j,Rp K H (g' i j) (g i j))(z:Jw K mg E l a)(w:Jw K mg E f b):Jw K mg E (tOp (rI0 g) l f) (p2 a b<|fI0 g'):=by
 refine Xa z w λH0 H G Z x y v u R Q n J L s r h q=>?_;unfold fI0 at h;have p:=s.rp n;have o:=r.rp n;split at h
 ·rename_i i j C A;rw[C]at p;rw[A]at o;exact⟨i,j,p.int_inv,o.int_inv,q _ _ G h (Same.refl _) (t _ i j)⟩
 ·grind
def Nj{g r}{l f a b}(w:∀H i j,Rp K H (r i j) (g i j))(A:Jw K mg E l a)(z:Jw K mg E f b):Jw K mg E (tOp (rI C g) l f) (p2 a b<|fI C r):=by
 refine Xa A z λH0 H L Z x y v u R Q n M N t s h q=>?_;unfold fI at h;have p:=t.rp n;have o:=s.rp n;split at h
 ·rename_i i j J G;rw[J]at p;rw[G]at o;exact⟨i,j,p.int_inv,o.int_inv,h.1,q _ _ L h.2 (Same.refl _) (w _ i j)⟩
 ·grind
section
variable {ta tb tc:TE}{a b c:PTE}
def JQ(g:Jw K mg E ta a)(f:Jw K mg E tb b):Jw K mg E (tOp (rI0 λi j=>.int (i+j)) ta tb) (p2 a b (fI0 λi j=>.int (i+j))):=Pr (λ_ _ _=>.int _) g f
def U0(g:Jw K mg E ta a)(f:Jw K mg E tb b):Jw K mg E (tOp (rI0 λi j=>.int (i-j)) ta tb) (p2 a b (fI0 λi j=>.int (i-j))):=Pr (λ_ _ _=>.int _) g f
def P4(g:Jw K mg E ta a)(f:Jw K mg E tb b):Jw K mg E (tOp (rI CMul λi j=>.int (i*j)) ta tb) (p2 a b (fI CMul λi j=>.int (i*j))):=Nj (λ_ _ _=>.int _) g f
def Uc(g:Jw K mg E ta a)(f:Jw K mg E tb b):Jw K mg E (tOp (rI Sv λi j=>.int (i / j)) ta tb) (p2 a b (fI Sv λi j=>.int (i / j))):=Nj (λ_ _ _=>.int _) g f
def JJ(g:Jw K mg E ta a)(f:Jw K mg E tb b):Jw K mg E (tOp (rI (λ_ j=>0<j) λi j=>.int (i % j)) ta tb) (p2 a b (fI (λ_ j=>0<j) λi j=>.int (i % j))):=Nj (λ_ _ _=>.int _) g f
def BM(g:Jw K mg E ta a)(f:Jw K mg E tb b):Jw K mg E (tOp (rI SI λi j=>.int (i ^ j.toNat)) ta tb) (p2 a b (fI SI λi j=>.int (i ^ j.toNat))):=Nj (λ_ _ _=>.int _) g f
def UB(g:Jw K mg E ta a)(f:Jw K mg E tb b):Jw K mg E (tOp (rI0 λi j=>.bl (decide (i<j))) ta tb) (p2 a b (fI0 λi j=>.bl (decide (i<j)))):=Pr (λ_ _ _=>.bl _) g f
def UU(g:Jw K mg E ta a)(f:Jw K mg E tb b):Jw K mg E (tOp (rI0 λi j=>.bl (decide (j<i))) ta tb) (p2 a b (fI0 λi j=>.bl (decide (j<i)))):=Pr (λ_ _ _=>.bl _) g f
def K0(g:Jw K mg E ta a)(f:Jw K mg E tb b):Jw K mg E (tOp (rI0 λi j=>.bl (decide (j<=i))) ta tb) (p2 a b (fI0 λi j=>.bl (decide (j<=i)))):=Pr (λ_ _ _=>.bl _) g f
def fEq(neg:Bool):S->S->(S->Prop)->Prop:=λx y R=>match x.d,y.d with
 | .int i,.int j=>R (.sh<|.bl (if neg then !decide (i=j)else decide (i=j)))
 | .str i,.str j=>R (.sh<|.bl (if neg then !decide (i=j)else decide (i=j)))
 | .bl i,.bl j=>R (.sh<|.bl (if neg then !decide (i=j)else decide (i=j)))
 |_,_=>False
def KO{g h:Type}[DecidableEq g][DecidableEq h]{f:g->h}(l:∀a b,f a=f b->a=b)(a b:g):decide (f a=f b)=decide (a=b):=by grind
def fIx:S->S->(S->Prop)->Prop:=λx y R=>match x.d,y.d with
 | .lst g,.int k=>∃d,atI g k=some d/\R (x.sub d)
 | .tup g,.int k=>∃d,atI g k=some d/\R (x.sub d)
 | .scr f,.int k=>∃i,atI f k=some i/\R (.sh<|.int i)
 | .fL f,.int k=>∃i,atI f k=some i/\R (.sh<|.int i)
 |_,_=>False
def FJ{P:D->V->Prop}(f:vs.length=ds.length)(h:∀(i:Nat) d,ds[i]?=some d->∃u,vs[i]?=some u/\P d u)(e:atI ds k=some d):∃u,atI vs k=some u/\P d u:=by
 unfold atI at e ⊢;cases q:ixN ds.length k with
 |_=>grind
def Ue(ha:Jw K mg E ta a)(hb:Jw K mg E tb b):Jw K mg E (tOp (λx y H Q=>KC K x y H Q\/KR K x y H Q) ta tb) (p2 a b fIx):=by
 refine Xa ha hb λH0 H s Z x y v u R Q r Y hm w U h q=>?_;unfold fIx at h;have f:=U.rp r;obtain⟨pl,pt⟩:=w.part r hm Y;split at h
 ·rename_i T k o n;rw[n]at f;obtain⟨d,N,g⟩:=h;obtain⟨l,t,rfl,L,J,G⟩:=pl T o;obtain⟨z,A,tz⟩:=FJ J G N;exact .inl ⟨l,t,k,z,rfl,f.int_inv,SqL.of L,A,q _ _ s g (Same.refl _) tz⟩
 ·rename_i T k o n;rw[n]at f;obtain⟨d,N,g⟩:=h;obtain⟨l,t,rfl,L,J,G⟩:=pt T o;obtain⟨z,A,tz⟩:=FJ J G N;exact .inr ⟨l,t,k,z,rfl,f.int_inv,SqT.of L,A,q _ _ s g (Same.refl _) tz⟩
 ·rename_i ns k o n;rw[n]at f;obtain⟨i,M,g⟩:=h;have p:=w.rp r;rw[o]at p;cases p with
  |scr C=>exact .inl ⟨_,_,k,.int i,rfl,f.int_inv,C,Pg M,q _ _ s g (Same.refl _) (.int i)⟩
 ·rename_i ns k o n;rw[n]at f;obtain⟨i,M,g⟩:=h;have p:=w.rp r;rw[o]at p;cases p with
  |fL C=>exact .inl ⟨_,_,k,.int i,rfl,f.int_inv,.inl (.inr ⟨_,C⟩),Pg M,q _ _ s g (Same.refl _) (.int i)⟩
 ·exact h.elim
noncomputable def RJ(a b:PTE):PTE:=λγ R X=>a γ (λx=>match x.d with | .bl c=>if c=true then b γ R X else R (.sh<|.bl false)|_=>False) X
noncomputable def OA(a:PTE):PTE:=λγ R X=>a γ (λx=>match x.d with | .bl c=>R (.sh<|.bl (!c))|_=>False) X
def Za2(A:Jw K mg E ta a)(w:Jw K mg E tb b):Jw K mg E (Fp ta tb) (RJ a b):=by
 intro H0 B H σ γ R X Q h p q r;refine A H0 B H σ γ _ X _ h p (λx v H1 n l t=>?_) r;have f:=h.grow l;have o:=t.rp f.same;split at n
 ·rename_i c G;rw[G]at o;refine⟨c,o.bl_inv,?_⟩;split at n
  ·rename_i g;rw[Wm g];exact w H0 B H1 σ γ _ X _ f n (λy u M C J s=>q y u M C (l.trans J) (TV.weak l (λ_ z=>z) s)) λc H' g L=>r c H' g (l.trans L)
  ·rename_i g;rw[Wo g];exact q _ _ H1 n l (.bl _)
 ·grind
def Zae(r:Jw K mg E ta a):Jw K mg E (Cv ta) (OA a):=by
 intro H0 B H σ γ R X Q f p q o;refine r H0 B H σ γ _ X _ f p (λx v H1 h l n=>?_) o;have g:=n.rp (f.grow l).same;split at h
 ·rename_i c s;rw[s]at g;exact⟨c,g.bl_inv,q _ _ H1 h l (.bl _)⟩
 ·grind
noncomputable def Zbr(a:PTE):PTE:=λγ R X=>a γ (λx=>match x.d with | .int i=>R (.sh<|.int (-i))|_=>False) X
def X8(r:Jw K mg E ta a):Jw K mg E (tUn (rU λi=>.int (-i)) ta) (Zbr a):=by
 intro H0 B H σ γ R X Q f p q o;refine r H0 B H σ γ _ X _ f p (λx v H1 h l n=>?_) o;have g:=n.rp (f.grow l).same;split at h
 ·rename_i c s;rw[s]at g;exact⟨c,g.int_inv,q _ _ H1 h l (.int _)⟩
 ·grind
noncomputable def Kw(a:PTE):PTT:=λγ R X=>a γ (λx=>match x.d with | .bl c=>R c|_=>False) X
def Xj(r:Jw K mg E ta a):Uq K mg E (PQ ta) (Kw a):=by
 intro H0 B H σ γ R X Q f p q o;refine r H0 B H σ γ _ X _ f p (λx v H1 h l n=>?_) o;have g:=n.rp (f.grow l).same;split at h
 ·rename_i c s;rw[s]at g;exact⟨c,g.bl_inv,q _ H1 h l⟩
 ·grind
def Bm(f:Jw K mg E ta a):Uq K mg E (tB ta) (Kw a):=Xj f
variable {sa sb:TT}{pa pb:PTT}
noncomputable def FA(a b:PTT):PTT:=λγ R X=>a γ (λc=>if c=true then b γ R X else R false) X
noncomputable def pOr(a b:PTT):PTT:=λγ R X=>a γ (λc=>if c=true then R true else b γ R X) X
noncomputable def CC(a:PTT):PTT:=λγ R X=>a γ (λc=>R (!c)) X
def Ln(r:Uq K mg E sa pa)(o:Uq K mg E sb pb):Uq K mg E (EB sa sb) (FA pa pb):=by
 intro H0 B H σ γ R X Q f p q l;refine r H0 B H σ γ _ X _ f p (λc H1 n h=>?_) l;split at n
 ·rename_i g;rw[Wm g];exact o H0 B H1 σ γ _ X _ (f.grow h) n (λy v s t=>q y v s (h.trans t)) λc H' g u=>l c H' g (h.trans u)
 ·grind
def Ga(r:Uq K mg E sa pa)(o:Uq K mg E sb pb):Uq K mg E (tOr sa sb) (pOr pa pb):=by
 intro H0 B H σ γ R X Q f p q l;refine r H0 B H σ γ _ X _ f p (λc H1 n h=>?_) l;split at n
 ·grind
 ·rename_i g;rw[Wo g];exact o H0 B H1 σ γ _ X _ (f.grow h) n (λy v s t=>q y v s (h.trans t)) λc H' g u=>l c H' g (h.trans u)
def EE(h:Uq K mg E sa pa):Uq K mg E (CL sa) (CC pa):=by
 intro H0 B H σ γ R X Q f p q g;exact h H0 B H σ γ _ X _ f p (λc H1 l n=>q _ H1 l n) g
noncomputable def D8(c:PTT)(a b:PTE):PTE:=λγ R X=>c γ (λk=>if k=true then a γ R X else b γ R X) X
def Iq(h:Uq K mg E sa pa)(A:Jw K mg E ta a)(x:Jw K mg E tb b):Jw K mg E (tIf sa ta tb) (D8 pa a b):=by
 intro H0 B H σ γ R X Q g p q n;refine h H0 B H σ γ _ X _ g p (λc H1 s f=>?_) n;split at s
 ·rename_i o;rw[Wm o];exact A H0 B H1 σ γ _ X _ (g.grow f) s (λy u w r t l=>q y u w r (f.trans t) (TV.weak f (λ_ z=>z) l)) λc H' h v=>n c H' h (f.trans v)
 ·rename_i o;rw[Wo o];exact x H0 B H1 σ γ _ X _ (g.grow f) s (λy u w r t l=>q y u w r (f.trans t) (TV.weak f (λ_ z=>z) l)) λc H' h v=>n c H' h (f.trans v)
end
noncomputable def XC:PTA:=λ_ R _=>R []
noncomputable def UN(a:PTE)(r:PTA):PTA:=λγ R X=>a γ (λs=>r γ (λf=>R (s::f)) X) X
def JV:JI K mg E UD XC:=by
 intro H0 B H σ γ R X Q f p q _;exact q _ _ H p (Same.refl _) .nil
def UH{a r}(x:Jw K mg E te a)(u:JI K mg E n r):JI K mg E (Ud te n) (UN a r):=by
 intro H0 B H σ γ R X Q f p q h;refine x H0 B H σ γ _ X _ f p (λs v H1 z g t=>?_) h;refine u H0 B H1 σ γ _ X _ (f.grow g) z (λJ G C y l o=>?_) λc H' w A=>h c H' w (g.trans A);exact q _ _ C y (g.trans l) (.cons (t.grow l)<|TVs.weakG g o)
noncomputable def Pz:List S->Option (List D)
 |[]=>some []
 |s::r=>match s.shd,Pz r with
  |some d,some f=>some (d::f)
  |_,_=>none
theorem Sh:∀{ss}{ds:List D},Pz ss=some ds->ss.map S.shd=ds.map some
 |[],ds,h=>by cases h;rfl
 |s::r,ds,h=>by
  unfold Pz at h;split at h
  ·rename_i d l g f;cases h
   rw[WR,WR,g,Sh f]
  ·grind
noncomputable def D4(r:PTA):PTE:=λγ R X=>r γ (λg=>match Pz g with|some f=>f.length<=1000/\R (.sh<|.tup f)|none=>False) X
noncomputable def AO(r:PTA):PTE:=λγ R X=>r γ (λg=>match Pz g with|some f=>f.length<=1000/\R (.own f)|none=>False) X
def Bu(h:n<=1000):n<=sizeLine:=QP (LA h)
def Kv(y:JI K mg E v r):Jw K mg E (Ai v) (D4 r):=by
 intro H0 B H σ γ R X Q g p q x;refine y H0 B H σ γ _ X _ g p (λA u H1 h n w=>?_) x;split at h
 ·rename_i ds e;have f:=g.grow n;have rp:=w.shd (ds:=ds) f.same g.zm n (Sh e);refine⟨by rw[rp.len];exact Bu h.1,λl s=>?_⟩;have t:=UP (o:=.tup u) s;refine q _ _ _ h.2 (n.trans t) (.tup (Uj Um λz=>?_)<|Rps.mono (JB t λ_ _ _ z=>z) rp)
  have:=f.zm l z
  rw[s]at this;exact this
 ·grind
def Kz{H H1 l vs ds}(h:Same H H1)(f:H1 l=none)(rp:Rps K (off Z H1) ds vs):TV K Z H0 H (upd H1 l<|.lst vs) (.own ds) (.ref l):=
 ⟨l,rfl,(λ_ e=>e▸h.free f),vs,Um,Rps.mono (JB (UP f) λb o g z y=>y.elim z λe=>by rw[e,f]at g;cases g) rp⟩
def X6(u:JI K mg E o r):Jw K mg E (A8 o) (AO r):=by
 intro H0 B H σ γ R X Q f p q t;refine u H0 B H σ γ _ X _ f p (λw v H1 h g s=>?_) t;split at h
 ·rename_i ds e;have rp:=s.shd (ds:=ds) (f.grow g).same f.zm g (Sh e);refine⟨by rw[rp.len];exact Bu h.1,λl n=>?_⟩;exact q _ _ _ h.2 (g.trans<|UP n) (Kz g n rp)
 ·grind
abbrev Pc:=List D->(S->Prop)->XR->Prop
noncomputable def J9(mg:Yb)(c:Pc)(K:ZX):Sp:=λg H Q E=>∃f R X,Rps K H f g/\c f R X/\(∀s v H',R s->Same H H'->TV K (λb=>Mut (H b)) H H H' s v->Q v H')/\∀e H',X e->Same H H'->XE mg E e H'
noncomputable def S.back:S->S
 | .bor d=>UL d | .view o=>.tmp o.d|s=>s
def TV.back (env:Jz K H0 B H1 σ γ) (o:Same H H1) (f:Same H1 H') (h:TV K (λb=>Mut (H1 b)) H1 H1 H' s v):TV K (zof B γ σ) H0 H H' s.back v:=by
 cases s with
 |bor d=>exact Xq (λb z=>X0 f (env.zm b z)) (Rp.mono f h)
 |sh d=>exact Rp.mono (JB (Same.refl _) λb _ _ z y=>z (env.zm b y)) h
 |own n=>
  obtain⟨a,rfl,l,r⟩:=h;exact⟨a,rfl,(λb g=>o.free (l b g)),r.mono (JB (Same.refl _) λb _ _ z y=>z (y.imp (env.zm b) id)) λ_ _ _ q=>q⟩
 |view n=>
  obtain⟨a,rfl,r⟩:=h;exact r.rp off_sub
 |tmp d=>exact h
noncomputable def Di(c:Pc)(r:PTA):PTE:=λγ R X=>r γ (λf=>c (f.map S.d) (λs=>R s.back) λ_=>False) X
noncomputable def Dg(c:Pc)(r:PTA):PTE:=λγ R X=>r γ (λf=>c (f.map S.d) (λs=>R s.back) X) X
def Nf{l r}(x:JI K mg E l r):Jw K mg E (XG (J9 mg c K) [] E0 l) (Di c r):=by
 intro H0 B H σ γ R X Q g p q u;refine x H0 B H σ γ _ X _ g p (λC A H1 y h t=>?_) u;rw[WD];have f:=g.grow h;exact⟨_,_,_,t.rps f.same,y,λs v H' w n o=>q _ _ H' w (h.trans n) (o.back f h n),λ_ _ z=>z.elim⟩
def RA{o r n}(y:JI K mg (λ_=>n) o r):Jw K mg (λ_=>n) (XG (J9 mg c K) [] n o) (Dg c r):=by
 intro H0 B H σ γ R X Q g p q t;refine y H0 B H σ γ _ X _ g p (λG C H1 A l w=>?_) t;rw[WD];have f:=g.grow l;exact⟨_,_,X,w.rps f.same,A,λs v H' x h u=>q _ _ H' x (l.trans h) (u.back f l h),λe H' z h=>t e H' z (l.trans h)⟩
def Jz.set {s f}{v} (l:Jz K H0 B H σ γ) (g:Same H H') (h:TV K (zof B γ σ) H0 H H' s v) (e:s.slot=some f) :
  Jz K H0 B H' (σ.set i<|some v) (γ.set i<|some f)/\Fr B H σ γ H' (σ.set i<|some v) (γ.set i<|some f):=by
 by_cases n:i<γ.length
 ·exact l.put g h e n
 ·rw[List.set_eq_of_length_le (by rw[l.len];lia),List.set_eq_of_length_le (by lia)];exact⟨l.grow g,Fr.grow g⟩
def Upd(g:Ye)(σ f:L2.St):Prop:=(∀j,j∉g->f[j]?=σ[j]?)/\f.length=σ.length
def Kj(K:ZX)(h:Ye)(t:TG)(p:PTG):Prop:=∀(H0:Hp) (B:Addr->Prop) (H H':Hp) (σ:L2.St) (γ:Γ) (s:S) (v:V) (R:Γ->Prop) (Q:L2.St->Hp->Prop),Jz K H0 B H σ γ->Same H H'->TV K (zof B γ σ) H0 H H' s v->p s γ R->
 (∀f g,R g->Jz K H0 B H' f g->Fr B H σ γ H' f g->Upd h σ f->Q f H')->t v σ H' Q
noncomputable def P2(i:Nat):PTG:=λs γ R=>match s.slot with|some f=>R (γ.set i<|some f)|none=>False
def XI(i:Nat):Kj K [i] (PU i) (P2 i):=by
 intro H0 B H H' σ γ s v R Q f n g p q;unfold P2 at p;split at p
 ·rename_i o e;obtain⟨l,f1⟩:=f.set n g e;exact q _ _ p l f1 ⟨λj h=>Xl λz=>h (by grind),WX⟩
 ·grind
noncomputable def Ek:KH:=λf γ R=>match f with|[]=>R γ|_=>False
noncomputable def Ff(g:PTG)(r:KH):KH:=λh γ R=>match h with|s::t=>g s γ λf=>r t f R|[]=>False
def TV.notown {σ'}{γ'}{Hb} (f:Fr B H σ γ H' σ' γ') (g:Same H H') (n:∀ds,s≠.own ds) (l:∀ds,s≠.view ds) (h:TV K (zof B γ σ) H0 Hb H s v):TV K (zof B γ' σ') H0 H' H' s v:=by
 cases s with
 |bor d=>exact h
 |sh d=>exact Rp.mono f.off h
 |tmp d=>exact Rp.mono g h
 |_=>grind
def TVs.notown (f:Fr B H σ γ H g l):∀{ss}{vs:List V},(∀s∈ss,∀ds,s≠.own ds/\s≠.view ds)->TVs K (zof B γ σ) H0 t H ss vs->TVs K (zof B l g) H0 H H ss vs:=by
 intro ss
 induction ss with
 |nil=>
  intro _ _ h;cases h
  exact .nil
 |cons _ _ o=>
  intro _ n h;cases h with
  |cons h r=>
   exact .cons (h.notown f (Same.refl _) (λds=>(n _ W7 ds).1) λds=>(n _ W7 ds).2) (o (λs p=>n s (W0 _ p)) r)
def Bj(d:D):arg d=.sh d\/arg d=.bor d:=by unfold arg;cases imm d<;>simp
def DM(d:D):UL d=.sh d\/UL d=.tmp d:=by unfold UL;cases imm d<;>simp
def F1(s:S)(d:D):∀ds,s.sub d≠.own ds/\s.sub d≠.view ds:=λds=>by
 cases s with
 |bor b=>rcases Bj d with e|e<;>(show arg d≠_/\arg d≠_;rw[e];exact⟨(λz=>by cases z),(λz=>by cases z)⟩)
 |tmp b=>rcases DM d with e|e<;>(show UL d≠_/\UL d≠_;rw[e];exact⟨(λz=>by cases z),(λz=>by cases z)⟩)
 |sh b=>exact⟨(λz=>by cases z),(λz=>by cases z)⟩
 |own b|view b=>
  cases b with
  |nst f|nsl a f=>rcases DM d with e|e<;>(show UL d≠_/\UL d≠_;rw[e];exact⟨(λz=>by cases z),(λz=>by cases z)⟩)
  |_=>exact⟨(λz=>by cases z),(λz=>by cases z)⟩
def PY(K:ZX)(o:Ye)(t:TGs)(p:KH):Prop:=∀(H0:Hp) (B:Addr->Prop) (H:Hp) (σ:L2.St) (γ:Γ) (h:List S) (l:List V) (R:Γ->Prop) (Q:L2.St->Hp->Prop),Jz K H0 B H σ γ->TVs K (zof B γ σ) H0 H H h l->(∀s∈h,∀n,s≠.own n/\s≠.view n)->p h γ R->
 (∀f g,R g->Jz K H0 B H f g->Fr B H σ γ H f g->Upd o σ f->Q f H)->t l σ H Q
def Lx:PY K [] Aw Ek:=by
 intro H0 B H σ γ l h R Q f g n p q;cases g with
 |nil=>exact⟨rfl,q _ _ p f Fr.refl ⟨λ_ _=>rfl,rfl⟩⟩
 |cons _ _=>exact p.elim
def Zbf{g r x w}(U:Kj K N g x)(T:PY K M r w):PY K (N++M) (FK g r) (Ff x w):=by
 intro H0 B H σ γ ss vs R Q v J y p q;cases J with
 |nil=>exact p.elim
 |cons h t=>
  refine⟨_,_,rfl,U H0 B H H σ γ _ _ _ _ v (Same.refl _) h p λl o L e1 f1 C=>?_⟩;refine T H0 B H l o _ _ _ _ e1 (TVs.notown f1 (λs u=>y s (W0 _ u)) t) (λs u=>y s (W0 _ u)) L λf n p2 e2 Y A=>?_;exact q f n p2 e2 (f1.trans Y) ⟨λj G=>(A.1 j λz=>G (WB _ z)).trans (C.1 j λz=>G (WV _ z)),A.2.trans C.2⟩
noncomputable def Bx(n:Nat)(r:KH):PTG:=λs γ R=>match s.d with | .tup f=>f.length=n/\r (f.map s.sub) γ R|_=>False
theorem TVs.of_part {ds:List D}{s:S}:∀{vs}{ds:List D},vs.length=ds.length->(∀(i:Nat) d,ds[i]?=some d->∃u,vs[i]?=some u/\TV K Z H0 H H' (s.sub d) u)->TVs K Z H0 H H' (ds.map s.sub) vs
 |[],[],_,_=>.nil
 |[],_::_,e,_|_::_,[],e,_=>by cases e
 |v::vs,d::ds,e,h=>by
  obtain⟨u,g,f⟩:=h 0 d rfl;cases g
  exact .cons f (TVs.of_part (ds:=ds) (by grind) λi l n=>by simpa using h (i+1) l (by grind))
def Mx{x r w}(G:PY K x r w):Kj K x (NG K n r) (Bx n w):=by
 intro H0 B H H' σ γ s v R Q g t z p q;unfold Bx at p;have f:=g.grow t;obtain⟨_,pt⟩:=z.part f.same g.zm t;split at p
 ·rename_i ds e;obtain⟨a,u,rfl,L,y,J⟩:=pt ds e;refine⟨a,u,rfl,SqT.of L,y.trans p.1,?_⟩;refine G H0 B H' σ γ _ u R Q f (TVs.notown (Fr.refl) (λA o ds=>?_)<|TVs.of_part (ds:=ds) y J) (λA o ds=>?_) p.2 λh l M N f1 C=>q h l M N (Fr.trans (Fr.grow t) f1) C
  ·obtain⟨d,_,rfl⟩:=WM.mp o;exact F1 s d ds
  ·obtain⟨d,_,rfl⟩:=WM.mp o;exact F1 s d ds
 ·grind
def Ph.from {D p r} (e:Ph K mg E H0 B H σ γ R D) (f:Fr B H σ γ H1 p r):Ph K mg E H0 B H1 p r R D:=
 ⟨λg h H' o n l=>e.nx g h H' o n (f.trans l),e.rt,λg h c H' o n l=>e.ex g h c H' o n (f.trans l),λg h H' o n l=>e.bk g h H' o n (f.trans l),λg h H' o n l=>e.ct g h H' o n (f.trans l),λg h d v H' o n l=>e.rv g h d v H' o n (f.trans l)⟩
variable {te:TE}{a:PTE}{tt:TT}{c:PTT}{t u:TS}{p q:PTS}
noncomputable def Em:PTS:=λR γ=>R.nx γ
def Ds:JA K mg E Dy Em:=λ_ _ _ _ _ _ _ _ f h e=>e.nx _ _ _ h f Fr.refl
noncomputable def En(p q:PTS):PTS:=λR γ=>p {R with nx:=q R} γ
def Ao(o:JA K mg E t p)(hq:JA K mg E u q):JA K mg E (Ce t u) (En p q):=by
 intro H0 B H σ γ R D n l h e;refine o H0 B H σ γ _ _ n l h ⟨λf g H' r s f1=>?_,e.rt,e.ex,e.bk,e.ct,e.rv⟩;exact hq H0 B H' f g R D n s r (e.from f1)
structure D3 (p q:PTS) (R:XA) (γ:Γ):Prop where
 w:∃J:Γ->Prop,p {R with nx:=J} γ/\∀γ',J γ'->q R γ'
noncomputable def Fm(p q:PTS):PTS:=λR γ=>D3 p q R γ
def OD(s:JA K mg E t p)(hq:JA K mg E u q):JA K mg E (Dm t u) (Fm p q):=by
 intro H0 B H σ γ R D r n h e;obtain⟨J,h,k⟩:=h.w;refine⟨λg H'=>∃f,J f/\Jz K H0 B H' g f/\Fr B H σ γ H' g f,s H0 B H σ γ _ _ r n h ⟨λg f H' l o f1=>⟨f,l,o,f1⟩,e.rt,e.ex,e.bk,e.ct,e.rv⟩,?_⟩;rintro g H' ⟨f,l,o,f1⟩;exact hq H0 B H' g f R D r o (k f l) (e.from f1)
noncomputable def EJ(i:Nat)(p:PTS):PTS:=λR γ=>p R (frz i γ)
def Su(i:Nat)(l:JA K mg E t p):JA K mg E t (EJ i p):=by
 intro H0 B H σ γ R D g f h e;obtain⟨n,f1⟩:=f.frz g i;exact l H0 B H σ _ R D g n h (e.from f1)
noncomputable def CN(a:PTE)(g:PTG):PTS:=λR γ=>a γ (λs=>g s γ R.nx) (R.ex γ)
def Ms(z:Jw K mg E te a)(x:Kj K M g w):JA K mg E (To te g) (CN a w):=by
 intro H0 B H σ γ R D N f h e;refine z H0 B H σ γ _ _ _ f h (λs v H1 C L r=>?_) λc H' y o=>e.ex σ γ c H' y (f.grow o) (Fr.grow o);exact x H0 B H H1 σ γ s v _ _ f L r C λl n A J G _=>e.nx l n H1 A J G
noncomputable def Zbu(i:Nat)(f:Int->Int->Int)(a:PTE):PTS:=λR γ=>match γ[i]? with
 |some (some<|.sh<|.int x)=>a γ (λy=>match y.d with | .int j=>R.nx (γ.set i<|some<|.sh<|.int<|f x j)|_=>False) (R.ex γ)
 |_=>False
noncomputable def Da(a:PTE):PTS:=λR γ=>a γ R.rt (R.ex γ)
def AC(o:Jw K mg E te a):JA K mg E (Po te) (Da a):=by
 intro H0 B H σ γ R D x f h e;refine o H0 B H σ γ _ _ _ f h (λs v H1 r w l=>?_) λc H' n g=>e.ex σ γ c H' n (f.grow g) (Fr.grow g);exact e.rt s v H1 r (f.same.trans w) (TV.weak f.same (λb z=>.inl z) l)
noncomputable def NK(i:Nat):PTS:=λR γ=>match γ[i]? with|some (some s)=>R.rt s|_=>False
def HE(i:Nat):JA K mg E (Po<|UA i) (NK i):=by
 intro H0 B H σ γ R D C f h e;unfold NK at h;split at h
 ·rename_i s n;obtain⟨v,o,g⟩:=f.slot i _ n;refine⟨v,o,e.rt s v H h f.same ?_⟩;cases s with
  |bor d=>exact g
  |sh d=>exact Rp.mono (JB (Same.refl _) λb _ _ z y=>z (.inl y)) g
  |own r=>
   obtain⟨l,rfl,A,x⟩:=g;exact⟨l,rfl,A,x.mono (JB (Same.refl _) λb _ _ z y=>z (y.elim .inl λw=>.inr ⟨i,r,l,n,o,w⟩)) λ_ _ _ q=>q⟩
  |view r=>exact g.elim
  |tmp d=>trivial
 ·grind
noncomputable def FL(c:PTT)(p q:PTS):PTS:=λR γ=>c γ (λb=>if b=true then p R γ else q R γ) (R.ex γ)
def Zbc(l:Uq K mg E tt c)(v:JA K mg E t p)(hq:JA K mg E u q):JA K mg E (BS tt t u) (FL c p q):=by
 intro H0 B H σ γ R D r f h e;refine l H0 B H σ γ _ _ _ f h (λb H1 o g=>?_) λc H' l s=>e.ex σ γ c H' l (f.grow s) (Fr.grow s);split at o
 ·rename_i n;rw[Wm n];exact v H0 B H1 σ γ R D r (f.grow g) o (e.from<|Fr.grow g)
 ·rename_i n;rw[Wo n];exact hq H0 B H1 σ γ R D r (f.grow g) o (e.from<|Fr.grow g)
noncomputable def CM(a:PTE):PTS:=λR γ=>a γ (λ_=>R.nx γ) (R.ex γ)
def Pb(o:Jw K mg E te a):JA K mg E (Tx te) (CM a):=by
 intro H0 B H σ γ R D x f h e;exact o H0 B H σ γ _ _ _ f h (λs v H1 r g w=>e.nx σ γ H1 r (f.grow g) (Fr.grow g)) λc H' n l=>e.ex σ γ c H' n (f.grow l) (Fr.grow l)
noncomputable def GX:PTS:=λ_ _=>False
def Tq:JA K mg E Eo GX:=λ_ _ _ _ _ _ _ _ _ h _=>h
noncomputable def Cr(x:Str)(r:PTA):PTS:=λR γ=>r γ (λf=>f.length<=1000/\R.ex γ x) (R.ex γ)
def TVs.len:∀{ss}{vs:List V},TVs K Z H0 H H' ss vs->vs.length=ss.length:=by
 intro ss
 induction ss with
 |nil=>
  intro _ h;cases h
  rfl
 |cons _ _ f=>
  intro _ h;cases h with
  |cons h r=>
   exact W9 (· + 1) (f r)
def Rj{l r g}(w:JI K mg (λ_=>g) l r)(hx:autoParam (Kr x=none) au_0):JA K mg (λ_=>g) (ExcR.ED (ExcR.J0 mg x) g l) (Cr x r):=by
 intro H0 B H σ γ R D C f h e;refine w H0 B H σ γ _ _ _ f h (λA z H1 n o v=>⟨?_,?_⟩) λc H' y s=>e.ex σ γ c H' y (f.grow s) (Fr.grow s)
 ·rw[v.len];exact Bu n.1
 ·exact(e.ex σ γ x H1 n.2 (f.grow o)<|Fr.grow o).plain hx
def Zb0(i j:Nat)(γ:Γ)(R:Γ->Prop):List S->Prop
 |[.sh d,.sh e]=>R ((γ.set i<|some<|.sh d).set j (some<|.sh e))
 |_=>False
noncomputable def clr:Ye->Γ->Γ
 |[],γ=>γ
 |i::r,γ=>clr r (γ.set i none)
theorem Jz.clr:∀f {γ:Γ},Jz K H0 B H σ γ->Jz K H0 B H σ (clr f γ)/\Fr B H σ γ H σ (Pu.clr f γ)
 |[],_,e=>⟨e,Fr.refl⟩
 |i::r,γ,e=>by
  obtain⟨l,f1⟩:=e.drop i;obtain⟨h,g⟩:=Jz.clr r l;exact⟨h,f1.trans g⟩
def Later(H0:Hp)(Z:Addr->Prop)(H1:Hp)(Z':Addr->Prop)(H':Hp):Prop:=Same H0 H'/\(∀b,Z' b->Mut (H' b))/\∀b o,H1 b=some o->¬Z b->H' b=some o/\¬Z' b
def Later.of (e:Jz K H0 B H' g h) (f:Fr B H1 σ γ H' g h):Later H0 (zof B γ σ) H1 (zof B h g) H':=⟨e.same,e.zm,f⟩
def Later.off (l:Later H0 Z H1 Z' H'):Same (off Z H1) (Pu.off Z' H'):=λb o h=>by
 obtain⟨r,n⟩:=Xz h;obtain⟨g,f⟩:=l.2.2 b o r n;exact Uj g f
structure Eu (K:ZX) (H0:Hp) (B:Addr->Prop) (H1:Hp) (σ:L2.St) (γ:Γ) (J:It) (n:Nat) (item:Nat->S):Prop where
 go:∀(i:Nat) (H':Hp) (Z':Addr->Prop),i<n->Later H0 (zof B γ σ) H1 Z' H'->J.go i H'/\∀x H'',J.yld i H' x H''->Same H' H''/\TV K Z' H0 H' H'' (item i) x
 stop:∀(H':Hp) (Z':Addr->Prop),Later H0 (zof B γ σ) H1 Z' H'->J.stop n H'
abbrev PTI:=Γ->(Nat->(Nat->S)->Prop)->XR->Prop
def SndI(K:ZX)(mg:Yb)(E:L2.St->XK)(f:TI)(g:PTI):Prop:=∀(H0:Hp) (B:Addr->Prop) (H:Hp) (σ:L2.St) (γ:Γ) (R:Nat->(Nat->S)->Prop) (X:XR) (Q:It->Hp->Prop),Jz K H0 B H σ γ->g γ R X->
 (∀n item J H1,R n item->Same H H1->Eu K H0 B H1 σ γ J n item->Q J H1)->(∀c H',X c->Same H H'->XE mg (E σ) c H')->f σ H Q
structure P6 (js:Ye) (γ:Γ) (g:PTG) (body:PTS) (R:XA) (n:Nat) (item:Nat->S):Prop where
 w:∃inv:Nat->Γ->Prop,inv 0 (clr js γ)/\
 (∀i γ',i<n->inv i γ'->g (item i) γ' λγ2=>body {R with nx:=λγ3=>inv (i+1) (clr js γ3),ct:=λγ3=>inv (i+1) (clr js γ3),bk:=R.nx} γ2)/\∀γ',inv n γ'->R.nx γ'
noncomputable def Ae(f:Ye)(h:PTI)(g:PTG)(body:PTS):PTS:=λR γ=>h γ (λn item=>P6 f γ g body R n item) (R.ex γ)
def Rc{wi g it pg}(M:Ye)(hi:SndI K mg E wi it)(hg:Kj K is g pg)(hb:JA K mg E t p):JA K mg E (DR wi g t) (Ae M it pg p):=by
 intro H0 B H σ γ R D hB Q h e;refine hi H0 B H σ γ _ _ _ Q h (λn item J H1 h1 S1 ok=>?_) λc H' hc S'=>e.ex σ γ c H' hc (Q.grow S') (Fr.grow S');obtain⟨inv,h0,hs,hd⟩:=h1.w;have L:=Q.grow S1;refine⟨λi m z H'=>m=n-i/\i<=n/\∃f,inv i f/\Jz K H0 B H' z f/\Fr B H1 σ γ H' z f,⟨n,by simp,Qx _,_,h0,(L.clr M).1,(L.clr M).2⟩,?_⟩;rintro i m z H' ⟨rfl,hin,f,Y,e',f'⟩;by_cases N:i<n
 ·obtain⟨go,yl⟩:=ok.go i H' _ N (Later.of e' f');refine .inr ⟨go,λs H2=>∃r,inv (i+1) r/\Jz K H0 B H2 s r/\Fr B H1 σ γ H2 s r,λs H2 ⟨r,a1,a2,a3⟩=>⟨n-(i+1),by lia,rfl,N,r,a1,a2,a3⟩,λx U y=>?_⟩;obtain⟨S2,tv⟩:=yl x U y;refine hg H0 B H' U z f _ _ _ _ e' S2 tv (hs i f N Y) λs r q2 e2 f2 _=>?_;have fall:=f'.trans f2;refine hb H0 B U s r _ _ hB e2 q2 ⟨λl o T C A G=>?_,e.rt,λl o c T C A G=>e.ex l o c T C A ((Fr.grow S1).trans (fall.trans G)),λl o T C A G=>e.nx l o T C A ((Fr.grow S1).trans (fall.trans G)),λl o T C A G=>?_,λl o d v T C A G=>e.rv l o d v T C A ((Fr.grow S1).trans (fall.trans G))⟩
  ·exact⟨_,C,(A.clr M).1,(fall.trans G).trans (A.clr M).2⟩
  ·exact⟨_,C,(A.clr M).1,(fall.trans G).trans (A.clr M).2⟩
 ·have:i=n:=by lia
  subst this;exact .inl ⟨ok.stop H' _ (Later.of e' f'),e.nx z f H' (hd f Y) e' ((Fr.grow S1).trans f')⟩
noncomputable def S.fix:S->Bool
 | .bor _=>true | .sh _=>true | .own (.nsl _ _)=>false | .own _=>true|_=>false
noncomputable def pIL(a:PTE):PTI:=λγ R X=>a γ (λs=>match s.d with
 | .lst g=>s.fix=true/\R g.length λi=>s.sub (g.getD i .non)
 | .scr f=>s.fix=true/\R f.length λi=>.sh (.int<|f.getD i 0)
 |_=>False) X
def TV.last (env:Jz K H0 B H σ γ) (L:Same H H1) (f:TV K (zof B γ σ) H0 H H1 s v) (G:s.fix=true) (o:s.d=.lst ds):∃l vs,v=.ref l/\vs.length=ds.length/\
  ∀H' Z',Later H0 (zof B γ σ) H1 Z' H'->H' l=some (.lst vs)/\∀(i:Nat) d,ds[i]?=some d->∃u,vs[i]?=some u/\TV K Z' H0 H' H' (s.sub d) u:=by
 have g:∀{s:S},(∀d,s.sub d=.sh d)->Rp K (Pu.off (zof B γ σ) H1) (.lst ds) v->∃l vs,v=.ref l/\vs.length=ds.length/\
   ∀H' Z',Later H0 (zof B γ σ) H1 Z' H'->H' l=some (.lst vs)/\∀i d,ds[i]?=some d->∃u,vs[i]?=some u/\TV K Z' H0 H' H' (s.sub d) u:=λM h=>by
  obtain⟨l,vs,rfl,z,n⟩:=Rp.lst_inv h;refine⟨l,vs,rfl,n.len,λH' Z' lt=>⟨off_sub _ _ (lt.off _ _ z),λi d r=>?_⟩⟩;obtain⟨u,y,w⟩:=n.get r;refine⟨u,y,?_⟩;rw[M];exact Rp.mono lt.off w
 cases s with
 |bor d=>
  have f:=Rp.strip f;rw[show d.strip=.lst ds from o]at f
  obtain⟨l,vs,rfl,z,n⟩:=Rp.lst_inv f;refine⟨l,vs,rfl,n.len,λH' Z' lt=>⟨lt.1 _ _ z,λi d r=>?_⟩⟩;obtain⟨u,y,w⟩:=n.get r;exact⟨u,y,Ko lt.2.1 lt.1 w⟩
 |sh d=>
  have:=o
  subst this;exact g (λ_=>rfl) f
 |own A=>
  cases A with
  |dK A|dT A|ins x C xs J|nst J=>cases o
  |nsl a J=>cases G
  |_=>
   cases o
   exact g (λ_=>rfl) (f.shd (env.grow L).same env.zm L rfl)
 |_=>cases G
def Lb(ha:Jw K mg E te a):SndI K mg E (Ta K te) (pIL a):=by
 intro H0 B H σ γ R X Q n h q qx;refine ha H0 B H σ γ _ X _ n h (λs v H1 r M o=>?_) qx;have f:=n.grow M;split at r
 ·rename_i Y C;obtain⟨l,G,rfl,hn,g⟩:=o.last n M r.1 C;obtain⟨N,_⟩:=g H1 _ (Later.of f Fr.refl);refine⟨l,rfl,⟨G,SqL.of N⟩,q _ _ _ H1 r.2 M ⟨λi H' Z' L lt=>?_,λH' Z' lt=>?_⟩⟩
  ·obtain⟨w,k2⟩:=g H' Z' lt;have hd:Y[i]?=some (Y.getD i .non):=by rw[Wv,Wj L];rfl
   obtain⟨u,z,tu⟩:=k2 i _ hd;refine⟨⟨G,u,SqL.of w,z⟩,λx T y=>?_⟩;obtain⟨rfl,y⟩:=y
   have:=y G (SqL.of w)
   rw[z]at this;cases this
   exact⟨Same.refl _,tu⟩
  ·exact⟨G,SqL.of (g H' Z' lt).1,by lia⟩
 ·rename_i J C
  have A:∃l,v=.ref l/\∀H' Z',Later H0 (zof B γ σ) H1 Z' H'->SqL K H' l (J.map V.int):=by
   cases s with
   |bor d=>
    have o:=Rp.strip o;rw[show d.strip=.scr J from C]at o
    cases o with
    |scr A=>exact⟨_,rfl,λH' Z' lt=>lt.1.seq A⟩
   |sh d=>
    have:=C
    subst this;cases o with
    |scr A=>exact⟨_,rfl,λH' Z' lt=>off_sub.seq (lt.off.seq A)⟩
   |own U|view U=>cases U<;>cases C
   |tmp d=>cases r.1
  obtain⟨l,rfl,g⟩:=A;refine⟨l,rfl,⟨_,g H1 _ (Later.of f Fr.refl)⟩,q _ _ _ H1 r.2 M ⟨λi H' Z' L lt=>?_,λH' Z' lt=>?_⟩⟩
  ·have w:=g H' Z' lt
   have z:(J.map V.int)[i]?=some (.int<|J.getD i 0):=by
    rw[Ww,Wj L,Wv,Wj L];rfl
   refine⟨⟨_,_,w,z⟩,λx T y=>?_⟩;obtain⟨rfl,y⟩:=y
   have:=y _ w
   rw[z]at this;cases this
   exact⟨Same.refl _,.int _⟩
  ·exact⟨_,g H' Z' lt,by rw[Wg];exact Wn _⟩
 ·exact r.elim
def fR1(R:Nat->(Nat->S)->Prop):List D->Prop
 |[.int j]=>(-(2 ^ 62)<=j/\j<2 ^ 62)/\R j.toNat λi=>.sh (.int (0+(i:Int)))
 |_=>False
def fR2(R:Nat->(Nat->S)->Prop):List D->Prop
 |[.int i,.int j]=>(-(2 ^ 62)<=i/\i<2 ^ 62/\-(2 ^ 62)<=j/\j<2 ^ 62)/\R (j-i).toNat λk=>.sh (.int (i+(k:Int)))
 |_=>False
noncomputable def Co(r:PTA):PTI:=λγ R X=>r γ (λf=>fR1 R (f.map S.d)) X
noncomputable def Cp(r:PTA):PTI:=λγ R X=>r γ (λf=>fR2 R (f.map S.d)) X
def Rps.one_inv (h:Rps K H [d] vs):∃v,vs=[v]/\Rp K H d v:=by
 cases h with
 |cons h r=>cases r;exact⟨_,rfl,h⟩
def Rps.two_inv (h:Rps K H [d,e] vs):∃v u,vs=[v,u]/\Rp K H d v/\Rp K H e u:=by
 cases h with
 |cons h r=>cases r with|cons f r=>cases r;exact⟨_,_,rfl,h,f⟩
def Fh{lo n}:Eu K H0 B H1 σ γ (Itr lo n) n λi=>.sh (.int (lo+(i:Int))):=by
 refine⟨λi H' Z' f lt=>⟨f,λx g y=>?_⟩,λH' Z' lt=>Wn _⟩;obtain⟨e,y⟩:=y;subst e y;exact⟨Same.refl _,.int _⟩
def Zac(y:JI K mg E o r):SndI K mg E (Fy o) (Co r):=by
 intro H0 B H σ γ R X Q g h q x;refine y H0 B H σ γ _ X _ g h (λC A H1 f n s=>?_) x;have l:=s.rps (g.grow n).same;unfold fR1 at f;split at f
 ·rename_i j z;rw[z]at l;obtain⟨v,rfl,w⟩:=l.one_inv;rw[w.int_inv];exact⟨j,rfl,f.1.1,f.1.2,q _ _ _ H1 f.2 n Fh⟩
 ·grind
def IW(z:JI K mg E o r):SndI K mg E (AA o) (Cp r):=by
 intro H0 B H σ γ R X Q f h q y;refine z H0 B H σ γ _ X _ f h (λG C H1 g n s=>?_) y;have l:=s.rps (f.grow n).same;unfold fR2 at g;split at g
 ·rename_i i j A;rw[A]at l;obtain⟨v,u,rfl,x,w⟩:=l.two_inv;rw[x.int_inv,w.int_inv];exact⟨i,j,rfl,g.1,q _ _ _ H1 g.2 n Fh⟩
 ·grind
end
section
variable {K:ZX}{mg:Yb}{E:L2.St->XK}{H0 H H1 H':Hp}{B Z Z':Addr->Prop}{σ:L2.St}{γ:Γ}
noncomputable def X2(N:Yg)(ds:List D):Γ:=ds.map (λd=>some (arg d))++List.replicate (N.length-ds.length) none
def Mi{ds vs}(r:Rps K H ds vs)(w:ds.length<=N.length):Jz K H (λb=>Mut (H b)) H (start N vs) (X2 N ds):=by
 have get:∀i s,(X2 N ds)[i]?=some (some s)->∃d,ds[i]?=some d/\s=arg d:=λi s h=>by
  unfold X2 at h;by_cases g:i<ds.length
  ·rw[WI (by rw[Wg];exact g),Ww,Wj g]at h;exact⟨_,Wj g,(Wt<|Wt h).symm⟩
  ·rw[WH (by rw[Wg];lia),Q7]at h;split at h<;>cases h
 have noown:∀(i:Nat) f,(X2 N ds)[i]?≠some (some<|.own f):=λi f h=>by
  obtain⟨d,_,e⟩:=get i _ h;rcases Bj d with q|q<;>rw[q]at e<;>cases e
 refine⟨Same.refl _,?_,λb h=>h,λi j a x f u b h=>absurd h (noown i f),λi s h=>?_⟩
 ·unfold L2.start X2;simp[r.len]
 ·obtain⟨d,t,rfl⟩:=get i s h;obtain⟨v,n,o⟩:=r.get t;refine⟨v,?_,?_⟩
  ·unfold L2.start;rw[WI (by rw[Wg];exact(WO.mp n).1),Ww,n];rfl
  ·have l:=Ko (Z:=zof (λb=>Mut (H b)) (X2 N ds) (start N vs)) (H:=H) (λb z=>z.elim id λ⟨k,f,_,p,_⟩=>absurd p (noown k f)) (Same.refl _) o;rcases Bj d with q|q<;>rw[q]at l ⊢<;>exact l
def Za1{t p vs Q y n}(h:J9 mg c K vs H Q y)(o:JA K mg (λ_=>y) t p)(L:n<=N.length)(u:∀ds R X,c ds R X->ds.length=n/\p {nx:=λ_=>R (.sh .non),rt:=R,ex:=λ_ e=>X e} (X2 N ds)):t {nx:=λ_ H'=>Q .non H',rt:=Q} (start N vs) H:=by
 obtain⟨ds,R,X,r,C,x,G⟩:=h;obtain⟨e,u⟩:=u ds R X C;refine o H (λb=>Mut (H b)) H _ _ _ _ (λb z=>Pe z) (Mi r<|by lia) u ⟨λg l H' f w f1=>x _ _ H' f w.same .non,λs v H' f J A=>x s v H' f J A,λg l c H' f w f1=>G c H' f w.same,λ_ _ _ z=>z.elim,λ_ _ _ z=>z.elim,λ_ _ _ _ _ z=>z.elim⟩
def EV(h:J9 mg c K vs H Q l)(f:∀ds R X,c ds R X->ds.length=n):vs.length=n:=by
 obtain⟨ds,R,X,r,g,_⟩:=h;rw[r.len]
 grind
noncomputable def atP(f:Yd)(γ:Γ):Γ:=f.map λo=>o.bind λj=>(γ[j]?).join
structure X3 (φ:Yd) (γ:Γ) (g:PTG) (c:PTT) (e:PTE) (n:Nat) (item:Nat->S) (R:S->Prop):Prop where
 w:n<=100000/\∃f:Nat->Option D,(∀i,i<n->g (item i) (atP φ γ) λγ2=>c γ2 (λb=>if b=true then e γ2 (λs=>∃d,s.shd=some d/\f i=some d) (λ_=>False)else f i=none) (λ_=>False))/\R (.own ((List.range n).filterMap f))
noncomputable def De(f:Yd)(h:PTI)(g:PTG)(c:PTT)(e:PTE):PTE:=λγ R X=>h γ (λn item=>X3 f γ g c e n item R) X
def Na{i:Nat}{s}(h:(atP f γ)[i]?=some (some s)):∃j,f[i]?=some (some j)/\γ[j]?=some (some s):=by
 unfold atP at h;cases e:f[i]? with
 |none=>grind
 |some o=>
  cases o with
  |_=>grind
theorem Nt:∀{l:Yd},(l.filterMap id).Nodup->∀(i j k:Nat),l[i]?=some (some k)->l[j]?=some (some k)->i=j
 |[],_,i,_,_,h,_=>by simp at h
 |none::r,o,i,j,k,g,f=>by
  cases i with
  |zero=>simp at g
  |succ i=>
   cases j with
   |zero=>simp at f
   |succ j=>exact W9 (· + 1) (Nt (by simpa using o) i j k (by simpa using g)<|by simpa using f)
 |some m::r,o,i,j,k,g,f=>by
  have n:m∉r.filterMap id/\(r.filterMap id).Nodup:=by simpa using o
  have p:∀{j:Nat},r[j]?=some (some k)->k∈r.filterMap id:=λh=>QN.mpr ⟨some k,WA h,rfl⟩;cases i with
  |zero=>
   cases j with
   |zero=>rfl
   |succ j=>simp_all
  |succ i=>
   cases j with
   |zero=>simp_all
   |succ j=>exact W9 (· + 1) (Nt n.2 i j k (by simpa using g)<|by simpa using f)
def Tr{i j:Nat}(h:f[i]?=some (some j)){v}(g:σ[j]?=some (some v)):(atStart f σ)[i]?=some (some v):=by
 unfold atStart
 grind
def EK{L}(env:Jz K H0 B H σ γ)(t:H L=none):∀b o,H b=some o->¬zof B γ σ b->¬zof (λb=>zof B γ σ b\/b=L) (atP l γ) (atStart l σ) b:=λb o v z y=>by
 rcases y with(y|y)|⟨u,s,x,p,f,n⟩
 ·grind
 ·grind
 ·obtain⟨m,r,h⟩:=Na p;obtain⟨w,g,_⟩:=env.slot m _ h;rw[Tr r g]at f;exact z (.inr ⟨m,s,x,h,by rw[g];exact W9 some (Wt f),n⟩)
def Ir{L}(env:Jz K H0 B H σ γ)(o:Same H H')(N:H L=none)(Q:∃w,H' L=some (.lst w))(t:(f.filterMap id).Nodup) :
  Jz K H0 (λb=>zof B γ σ b\/b=L) H' (atStart f σ) (atP f γ):=by
 refine⟨env.same.trans o,by unfold atStart atP;simp,λb z=>?_,λi j a a' J es b h1 h2 Y G U T=>?_,λi s h=>?_⟩
 ·rcases z with z|rfl
  ·exact X0 o (env.zm b z)
  ·obtain⟨w,e⟩:=Q;rw[e];trivial
 ·obtain⟨k,n,g⟩:=Na h1;obtain⟨l,C,A⟩:=Na h2;obtain⟨v,r,_⟩:=env.slot k _ g;obtain⟨u,y,_⟩:=env.slot l _ A;rw[Tr n r]at Y;rw[Tr C y]at G
  have:=env.own k l a a' J es b g A (by grind) (by rw[y];exact W9 some (Wt G)) U T
  subst this;exact Nt t i j k n C
 ·obtain⟨k,n,g⟩:=Na h;obtain⟨v,r,p⟩:=env.slot k _ g;have M:Same (off (zof B γ σ) H) (off (zof (λb=>zof B γ σ b\/b=L) (atP f γ)<|atStart f σ) H'):=JB o (EK env N);refine⟨v,Tr n r,?_⟩;cases s with
  |sh d=>exact Rp.mono M p
  |own J=>
   obtain⟨a,e1,e3,e4⟩:=p;exact⟨a,e1,e3,e4.mono M λb _ x=>o b x⟩
  |_=>exact p
def Sub.of {g:Ye} (h:f.length=σ.length) (n:∀j,j∉g->f[j]?=σ[j]?) (o:∀j∈g,∀v,σ[j]?≠some (some v)):Sub σ f:=⟨h,λi v e=>by
 by_cases l:i∈g
 ·grind
 ·rw[n i l];exact e⟩
structure GJ (K:ZX) (H0:Hp) (B:Addr->Prop) (H1:Hp) (σ:L2.St) (γ:Γ) (J:It) (n:Nat) (item:Nat->S):Prop where
 go:∀(i:Nat) (H':Hp) (Z':Addr->Prop),i<n->Same H1 H'->Later H0 (zof B γ σ) H1 Z' H'->J.go i H'/\∀x H'',J.yld i H' x H''->Same H' H''/\TV K Z' H0 H' H'' (item i) x
 stop:∀(H':Hp) (Z':Addr->Prop),Same H1 H'->Later H0 (zof B γ σ) H1 Z' H'->J.stop n H'
def KZ(K:ZX)(mg:Yb)(E:L2.St->XK)(f:TI)(g:PTI):Prop:=∀(H0:Hp) (B:Addr->Prop) (H:Hp) (σ:L2.St) (γ:Γ) (R:Nat->(Nat->S)->Prop) (X:XR) (Q:It->Hp->Prop),Jz K H0 B H σ γ->g γ R X->
 (∀n item J H1,R n item->Same H H1->GJ K H0 B H1 σ γ J n item->Q J H1)->(∀c H',X c->Same H H'->XE mg (E σ) c H')->f σ H Q
def SndI.c (h:SndI K mg E g o):KZ K mg E g o:=λH0 B H σ γ R X Q f p q l=>
 h H0 B H σ γ R X Q f p (λn item J H1 s t ok=>q n item J H1 s t ⟨λi H' Z' r _ lt=>ok.go i H' Z' r lt,λH' Z' _ lt=>ok.stop H' Z' lt⟩) l
noncomputable def Ax(a:PTE):PTI:=λγ R X=>a γ (λs=>match s.d with
 | .lst f=>R f.length λi=>s.sub (f.getD i .non)
 | .tup f=>False
 | .scr g=>R g.length λi=>.sh (.int<|g.getD i 0)
 |_=>False) X
def Sf(ha:Jw K mg E te a):KZ K mg E (Ta K te) (Ax a):=by
 intro H0 B H σ γ R X Q env h q qx;refine ha H0 B H σ γ _ X _ env h (λs v H1 h1 S1 w=>?_) qx;have L:=env.grow S1;split at h1
 ·rename_i ds A;have U:=w.rp L.same;rw[A]at U;obtain⟨l,T,rfl,f,r1⟩:=U.lst_inv;refine⟨l,rfl,⟨T,SqL.of f⟩,q _ _ _ H1 h1 S1 ⟨λi H' Z' hi G lt=>?_,λH' Z' G lt=>⟨T,SqL.of (G _ _ f),by rw[r1.len];exact Wn _⟩⟩⟩;have M:ds[i]?=some (ds.getD i .non):=by rw[Wv,Wj hi];rfl
  have hi':∃u,T[i]?=some u/\TV K Z' H0 H' H' (s.sub<|ds.getD i .non) u:=by
   cases s with
   |bor d=>
    have w:=Rp.strip w;rw[show d.strip=.lst ds from A]at w
    obtain⟨N,o,t,r,p⟩:=Rp.lst_inv w;cases t
    rw[L.same _ _ r]at f;cases f
    obtain⟨u,n,g⟩:=p.get M;exact⟨u,n,Ko lt.2.1 lt.1 g⟩
   |sh d=>
    have:=A
    subst this;obtain⟨N,o,t,r,p⟩:=Rp.lst_inv w;cases t
    rw[off_sub _ _ r]at f;cases f
    obtain⟨u,n,g⟩:=p.get M;exact⟨u,n,Rp.mono lt.off g⟩
   |own J=>
    cases J with
    |dK J|dT J|ins x C xs cs|nst cs=>cases A
    |nsl x cs=>
     obtain⟨u,n,g⟩:=r1.get M;exact⟨u,n,Xq lt.2.1 (Rp.mono G g)⟩
    |lsA x J=>
     cases A
     obtain⟨N,t,h0,_,o,r,p⟩:=w;cases t
     rw[r]at f;cases f
     obtain⟨u,n,g⟩:=p.get M;exact⟨u,n,Rp.mono lt.off (Rp.mono (JB (Same.refl _) λb _ _ z y=>z (.inl y)) g)⟩
    |lst J=>
    cases A
    obtain⟨N,t,h0,o,r,p⟩:=w;cases t
    rw[r]at f;cases f
    obtain⟨u,n,g⟩:=p.get M;exact⟨u,n,Rp.mono lt.off (Rp.mono (JB (Same.refl _) λb _ _ z y=>z (.inl y)) g)⟩
   |view J=>
    cases J with
    |dK J|dT J|ins x C xs cs|nst cs=>cases A
    |nsl x cs=>
     obtain⟨u,n,g⟩:=r1.get M;exact⟨u,n,Xq lt.2.1 (Rp.mono G g)⟩
    |lsA x J=>
     cases A
     obtain⟨N,t,_,o,r,p⟩:=w;cases t
     rw[r]at f;cases f
     obtain⟨u,n,g⟩:=p.get M;exact⟨u,n,Rp.mono lt.off g⟩
    |lst J=>
    cases A
    obtain⟨N,t,o,r,p⟩:=w;cases t
    rw[r]at f;cases f
    obtain⟨u,n,g⟩:=p.get M;exact⟨u,n,Rp.mono lt.off g⟩
   |tmp d=>
    have:=A
    subst this;obtain⟨N,o,t,r,p⟩:=Rp.lst_inv w;cases t
    rw[r]at f;cases f
    obtain⟨u,n,g⟩:=p.get M;exact⟨u,n,Xq lt.2.1 (Rp.mono G g)⟩
  obtain⟨u,Y,tu⟩:=hi';refine⟨⟨T,u,SqL.of (G _ _ f),Y⟩,λx H'' y=>?_⟩;obtain⟨rfl,y⟩:=y
  have:=y T (SqL.of<|G _ _ f)
  rw[Y]at this;cases this
  exact⟨Same.refl _,tu⟩
 ·exact h1.elim
 ·rename_i ns A;have U:=w.rp L.same;rw[A]at U;cases U with
  |scr hs=>
   refine⟨_,rfl,⟨_,hs⟩,q _ _ _ H1 h1 S1 ⟨λi H' Z' hi G lt=>?_,λH' Z' G lt=>⟨_,G.seq hs,by rw[Wg];exact Wn _⟩⟩⟩
   have Y:(ns.map V.int)[i]?=some (.int<|ns.getD i 0):=by
    rw[Ww,Wj hi,Wv,Wj hi];rfl
   refine⟨⟨_,_,G.seq hs,Y⟩,λx H'' y=>?_⟩;obtain⟨rfl,y⟩:=y
   have:=y _ (G.seq hs)
   rw[Y]at this;cases this
   exact⟨Same.refl _,.int _⟩
 ·exact h1.elim
def KU{φ is wi g tc te it pg c a}(hi:KZ K mg E wi it)(hg:Kj K is g pg)(hc:Uq K mg E tc c)(he:Jw K mg E te a)(h1:autoParam ((φ.filterMap id).Nodup) au_1)(h2:autoParam (∀j∈is,φ[j]?=some none) au_1):Jw K mg E (T5 φ wi g tc te) (De φ it pg c a):=by
 intro H0 B H σ γ R X Q Y h q qx;refine hi H0 B H σ γ _ X _ Y h (λn item J H1 h1' S1 ok=>?_) qx;obtain⟨hn,f,hf,hR⟩:=h1'.w;have l:=Y.grow S1;have hbig:n<=sizeLine:=Wk hn (by decide);intro L T;refine⟨λi m C A=>m=n-i/\i<=n/\Same H1 A/\A L=some (.lst C)/\Rps K (off (λb=>zof B γ σ b\/b=L) A) ((List.range i).filterMap f) C,⟨n,by simp,Qx _,UP T,Um,.nil⟩,?_⟩;rintro i m C A ⟨rfl,hin,t,hL,p⟩;have u:=l.grow t;by_cases r:i<n
 ·have envI2:=Ir l t T ⟨C,hL⟩ h1;obtain⟨go,yl⟩:=ok.go i A _ r t ⟨u.same,envI2.zm,λb o U z=>⟨t _ _ U,EK l T b o U z⟩⟩;refine .inr ⟨go,λx H3 y=>?_⟩;obtain⟨S3,tv⟩:=yl x H3 y;refine hg H0 _ A H3 _ _ _ _ _ _ envI2 S3 tv (hf i r) λM N p2 e2 f2 k2=>⟨?_,?_⟩
  ·refine Sub.of k2.2 k2.1 λj hj v z=>?_;obtain⟨k,k1,_⟩:=DZ z;rw[h2 j hj]at k1;cases k1
  ·refine hc H0 _ H3 M N _ _ _ e2 p2 (λb H5 q5 S5=>?_) λ_ _ z=>z.elim;have e5:=e2.grow S5;cases b with
   |false=>
    rw[Wo Wz]at q5 ⊢;refine⟨n-(i+1),by lia,rfl,r,(t.trans S3).trans S5,(S3.trans S5) _ _ hL,?_⟩;rw[List.range_succ,List.filterMap_append];simp only[WT,q5,List.filterMap_nil,WD];exact Rps.mono (JB (S3.trans S5) λ_ _ _ z=>z) p
   |true=>
    refine he H0 _ H5 M N _ _ _ e5 q5 (λs v H6 q6 S6 t6=>?_) λ_ _ z=>z.elim;obtain⟨d,hd,hfd⟩:=q6;have G:=(S3.trans S5).trans S6
    have hlen:C.length<=i:=by
     rw[p.len];exact Wk (List.length_filterMap_le _ _) (by rw[List.length_range];exact Wn _)
    refine⟨G _ _ hL,by lia,n-(i+1),by lia,rfl,r,λb o U=>?_,Um,?_⟩
    ·rw[JF (Xm U T)];exact G _ _ (t _ _ U)
    ·rw[List.range_succ,List.filterMap_append];have ef:[i].filterMap f=[d]:=by simp[hfd]
     rw[ef]
     have So:Same (off (λb=>zof B γ σ b\/b=L) H6) (off (λb=>zof B γ σ b\/b=L)<|upd H6 L<|.lst (C++[v])):=λb o h=>by
      obtain⟨a1,a2⟩:=Xz h;refine Uj ?_ a2;rwa[JF λz=>a2 (.inr z)]
     refine Rps.append (Rps.mono So<|Rps.mono (JB G λ_ _ _ z=>z) p) (.cons (Rp.mono So<|Rp.mono (JB (Same.refl _) λb _ _ z y=>z (.inl y)) (t6.shd (e5.grow S6).same e5.zm S6 hd)) .nil)
 ·have:i=n:=by lia
  subst this;exact .inl ⟨ok.stop A _ t (Later.of u<|Fr.grow t),q _ _ A hR (S1.trans t) ⟨L,rfl,(λ_ e=>e▸S1.free T),C,hL,p⟩⟩
noncomputable def SL:PTT:=λ_ R _=>R true
def KG:Uq K mg E A2 SL:=λ_ _ H _ _ _ _ _ _ p q _=>q _ H p (Same.refl _)
def Ml{g h:Type}(xs:List g)(f:g->Option h):(List.range xs.length).filterMap (λi=>(xs[i]?).bind f)=xs.filterMap f:=by
 induction xs with
 |nil=>rfl
 |cons x r l=>
  rw[W5,List.range_succ_eq_map,WT,List.filterMap_map,WT];have e:(λi=>((x::r)[i]?).bind f)∘Nat.succ=λi=>(r[i]?).bind f:=rfl;rw[e,l];rfl
end
open M
section
variable {K:ZX}{mg:Yb}{E:L2.St->XK}{H0 H H1 H':Hp}{B Z Z':Addr->Prop}{σ:L2.St}{γ:Γ}
noncomputable def pCB(f:List S->(S->Prop)->Prop)(r:PTA):PTE:=λγ R X=>r γ (λg=>f g R) X
def Xr{f o r}(y:JI K mg E o r)(h:∀H0 H H1 Z l vs R Q,Same H0 H1->Same H H1->(∀b,Z b->Mut (H b))->TVs K Z H0 H H1 l vs->f l R->(∀s z H',R s->Same H1 H'->TV K Z H0 H H' s z->Q z H')->v vs H1 Q) :
  Jw K mg E (tCB v o) (pCB f r):=by
 intro H0 B H σ γ R X Q g p q w;refine y H0 B H σ γ _ X _ g p (λl vs H1 A n u=>?_) w;exact h H0 H H1 _ l vs R Q (g.grow n).same n g.zm u A λs z H' x C t=>q s z H' x (n.trans C) t
noncomputable def S.free:S->List D->Bool
 | .bor _,f=>U6 f | .tmp _,f=>U6 f | .view (.nst _),f=>U6 f | .view (.nsl _ _),f=>U6 f|_,_=>true
def TVs.one_inv (h:TVs K Z H0 H H' [s] vs):∃v,vs=[v]/\TV K Z H0 H H' s v:=by
 cases h with
 |cons h r=>cases r;exact⟨_,rfl,h⟩
def TVs.two_inv (h:TVs K Z H0 H H' [s,t] vs):∃v u,vs=[v,u]/\TV K Z H0 H H' s v/\TV K Z H0 H H' t u:=by
 cases h with
 |cons h r=>cases r with|cons f r=>cases r;exact⟨_,_,rfl,h,f⟩
def TV.items (n:Same H0 H') (t:∀b,Z b->Mut (H b)) (A:Same H H') (h:TV K Z H0 H H' s v) (p:s.free ds=true) :
  (s.d=.lst ds->∃a vs,v=.ref a/\H' a=some (.lst vs)/\Rps K (off Z H') ds vs)/\(s.d=.tup ds->∃a vs,v=.ref a/\H' a=some (.tup vs)/\Rps K (off Z H') ds vs):=by
 have g:=λb z=>X0 A (t b z);cases s with
 |bor d=>
  have h:=Rp.strip h;refine⟨λe=>?_,λe=>?_⟩<;>rw[show d.strip=_ from e]at h
  ·obtain⟨a,vs,rfl,f,r⟩:=Rp.lst_inv h;exact⟨a,vs,rfl,n _ _ f,Rps.off g (Rps.mono n r) p⟩
  ·obtain⟨a,vs,rfl,f,r⟩:=Rp.tup_inv h;exact⟨a,vs,rfl,n _ _ f,Rps.off g (Rps.mono n r) p⟩
 |sh d=>
  refine⟨λe=>?_,λe=>?_⟩<;>(have u:=e;subst u)
  ·obtain⟨a,vs,rfl,f,r⟩:=Rp.lst_inv h;exact⟨a,vs,rfl,off_sub _ _ f,r⟩
  ·obtain⟨a,vs,rfl,f,r⟩:=Rp.tup_inv h;exact⟨a,vs,rfl,off_sub _ _ f,r⟩
 |own o=>
  cases o with
  |nsl x w=>
   refine⟨λe=>?_,λe=>by cases e⟩;have l:=h.shd n t A rfl;cases e
   obtain⟨a,vs,rfl,f,r⟩:=Rp.lst_inv l;exact⟨a,vs,rfl,off_sub _ _ f,r⟩
  |nst w=>
   refine⟨(λe=>by cases e),λe=>?_⟩;have l:=h.shd n t A rfl;cases e
   obtain⟨a,vs,rfl,f,r⟩:=Rp.tup_inv l;exact⟨a,vs,rfl,off_sub _ _ f,r⟩
  |lst o=>
   refine⟨λe=>?_,λe=>by cases e⟩;cases e
   obtain⟨a,rfl,C,vs,e,r⟩:=h;exact⟨a,vs,rfl,e,Rps.mono (JB (Same.refl _) λb _ _ z y=>z (.inl y)) r⟩
  |lsA x o=>
   refine⟨λe=>?_,λe=>by cases e⟩;cases e
   obtain⟨a,rfl,C,_,vs,e,r⟩:=h;exact⟨a,vs,rfl,e,Rps.mono (JB (Same.refl _) λb _ _ z y=>z (.inl y)) r⟩
  |_=>exact⟨(λe=>by cases e),(λe=>by cases e)⟩
 |view o=>
  cases o with
  |nsl x w=>
   refine⟨λe=>?_,λe=>by cases e⟩;have l:=h.rp n;rw[e]at l;obtain⟨a,vs,rfl,f,r⟩:=Rp.lst_inv l;exact⟨a,vs,rfl,f,Rps.off g r p⟩
  |nst w=>
   refine⟨(λe=>by cases e),λe=>?_⟩;have l:=h.rp n;rw[e]at l;obtain⟨a,vs,rfl,f,r⟩:=Rp.tup_inv l;exact⟨a,vs,rfl,f,Rps.off g r p⟩
  |lst o=>
   refine⟨λe=>?_,λe=>by cases e⟩;cases e
   obtain⟨a,rfl,vs,e,r⟩:=h;exact⟨a,vs,rfl,e,r⟩
  |lsA x o=>
   refine⟨λe=>?_,λe=>by cases e⟩;cases e
   obtain⟨a,rfl,_,vs,e,r⟩:=h;exact⟨a,vs,rfl,e,r⟩
  |_=>exact⟨(λe=>by cases e),(λe=>by cases e)⟩
 |tmp d=>
  refine⟨λe=>?_,λe=>?_⟩<;>(have u:=e;subst u)
  ·obtain⟨a,vs,rfl,f,r⟩:=Rp.lst_inv h;exact⟨a,vs,rfl,f,Rps.off g r p⟩
  ·obtain⟨a,vs,rfl,f,r⟩:=Rp.tup_inv h;exact⟨a,vs,rfl,f,Rps.off g r p⟩
def SW:List S->(S->Prop)->Prop
 |[s],R=>(match s.d with
  | .lst g=>R (.sh<|.int g.length) | .tup g=>R (.sh<|.int g.length) | .scr f=>R (.sh<|.int f.length) | .fL f=>R (.sh<|.int f.length) | .str x=>x.length<=sizeLine/\R (.sh<|.int x.length)|_=>False)
 |_,_=>False
def Ky(A:JI K mg E u r):Jw K mg E (tCB (λxs H Q=>∃x n,xs=[x]/\T3 K x H n/\Q (.int n) H) u) (pCB SW r):=by
 refine Xr A λH0 H H1 Z J G R Q y L M t h q=>?_;unfold SW at h;split at h
 ·rename_i s;obtain⟨v,rfl,w⟩:=t.one_inv;have f:=w.rp y;split at h
  ·rename_i C e;rw[e]at f;obtain⟨a,g,rfl,p,l⟩:=f.lst_inv;exact⟨_,_,rfl,.inl ⟨g,SqL.of p,rfl⟩,by rw[l.len];exact q _ _ H1 h (Same.refl _) (.int _)⟩
  ·rename_i C e;rw[e]at f;obtain⟨a,g,rfl,p,l⟩:=f.tup_inv;exact⟨_,_,rfl,.inr ⟨g,SqT.of p,rfl⟩,by rw[l.len];exact q _ _ H1 h (Same.refl _) (.int _)⟩
  ·rename_i z e;rw[e]at f;cases f with
   |scr o=>exact⟨_,_,rfl,.inl ⟨_,o,rfl⟩,by rw[Wg];exact q _ _ H1 h (Same.refl _) (.int _)⟩
  ·rename_i z e;rw[e]at f;cases f with
   |fL o=>exact⟨_,_,rfl,.inl ⟨_,.inl (.inr ⟨_,o⟩),rfl⟩,by rw[Wg];exact q _ _ H1 h (Same.refl _) (.int _)⟩
  ·rename_i x e;rw[e]at f;rw[f.str_inv];exact⟨_,_,rfl,⟨h.1,rfl⟩,q _ _ H1 h.2 (Same.refl _) (.int _)⟩
  ·exact h.elim
 ·exact h.elim
def Cm:List S->(S->Prop)->Prop
 |[s],R=>(match s.d with
  | .lst f=>s.free f=true/\R (.own f) | .tup f=>s.free f=true/\R (.own f)|_=>False)
 |_,_=>False
def Pj(C:JI K mg E A r):Jw K mg E (tCB (λxs H Q=>∃p n,xs=[.ref p]/\(SqL K H p n\/SqT K H p n)/\∀l,H l=none->Q (.ref l) (upd H l<|.lst n)) A) (pCB Cm r):=by
 refine Xr C λH0 H H1 Z L J R Q x g y z h q=>?_;unfold Cm at h;split at h
 ·rename_i s;obtain⟨v,rfl,w⟩:=z.one_inv;split at h
  ·rename_i G e;obtain⟨a,o,rfl,u,t⟩:=(w.items x y g h.1).1 e;exact⟨a,o,rfl,.inl (SqL.of u),λl f=>q _ _ _ h.2 (UP f) (Kz g f t)⟩
  ·rename_i G e;obtain⟨a,o,rfl,u,t⟩:=(w.items x y g h.1).2 e;exact⟨a,o,rfl,.inr (SqT.of u),λl f=>q _ _ _ h.2 (UP f) (Kz g f t)⟩
  ·grind
 ·grind
theorem Rps.ints:∀{f:ZZ}{vs:List V},Rps K H (f.map D.int) vs->vs=f.map V.int
 |[],_,.nil=>rfl
 |j::r,_,.cons h t=>by rw[Rp.int_inv h,Rps.ints t];rfl
theorem Rps.of_ints:∀(f:ZZ),Rps K H (f.map D.int) (f.map V.int)
 |[]=>.nil
 |j::r=>.cons (.int j) (Rps.of_ints r)
def Fl:List S->(S->Prop)->Prop
 |[s,t],R=>(match s.d,t.d with | .int i,.int j=>R (.sh<|.int (if j>i then j else i))|_,_=>False)
 |_,_=>False
def BZ:List S->(S->Prop)->Prop
 |[s,t],R=>(match s.d,t.d with | .int i,.int j=>R (.sh<|.int (if j<i then j else i))|_,_=>False)
 |_,_=>False
def DV(t:JI K mg E o r):Jw K mg E (tCB (λxs H Q=>∃i j,xs=[.int i,.int j]/\Q (.int (if j>i then j else i)) H) o) (pCB Fl r):=by
 refine Xr t λH0 H H1 Z z y R Q f A C n h q=>?_;unfold Fl at h;split at h
 ·obtain⟨v,u,rfl,s,p⟩:=n.two_inv;have l:=s.rp f;have g:=p.rp f;split at h
  ·rename_i i j x w;rw[x]at l;rw[w]at g;rw[l.int_inv,g.int_inv];exact⟨i,j,rfl,q _ _ H1 h (Same.refl _) (.int _)⟩
  ·grind
 ·grind
def O9(t:JI K mg E o r):Jw K mg E (tCB (λxs H Q=>∃i j,xs=[.int i,.int j]/\Q (.int (if j<i then j else i)) H) o) (pCB BZ r):=by
 refine Xr t λH0 H H1 Z z y R Q f A C n h q=>?_;unfold BZ at h;split at h
 ·obtain⟨v,u,rfl,s,p⟩:=n.two_inv;have l:=s.rp f;have g:=p.rp f;split at h
  ·rename_i i j x w;rw[x]at l;rw[w]at g;rw[l.int_inv,g.int_inv];exact⟨i,j,rfl,q _ _ H1 h (Same.refl _) (.int _)⟩
  ·grind
 ·grind
def Zb1:List S->(S->Prop)->Prop
 |[s],R=>(match s.d with | .int i=>R (.sh<|.int (if i<0 then -i else i))|_=>False)
 |_,_=>False
noncomputable def tyD:D->Option String
 | .int _=>some "int" | .bl _=>some "bool" | .non=>some "NoneType" | .str _=>some "str" | .tup _=>some "tuple" | .lst _=>some "list" | .fL _=>some "list" | .dK _=>some "dict" | .dT _=>some "dict" |_=>none
inductive Uv:String->String->Bool->Prop
 |same (n:String):Uv n n true
 |ib:Uv "int" "bool" false
 |bi:Uv "bool" "int" true
 |tl:Uv "tuple" "list" false
 |lt:Uv "list" "tuple" false
 |it:Uv "int" "tuple" false
 |il:Uv "int" "list" false
 |bt:Uv "bool" "tuple" false
 |bL:Uv "bool" "list" false
 |ti:Uv "tuple" "int" false
 |li:Uv "list" "int" false
 |si:Uv "str" "int" false
 |is:Uv "int" "str" false
 |ni:Uv "NoneType" "int" false
 |nl:Uv "NoneType" "list" false
 |nt:Uv "NoneType" "tuple" false
def Uv.kit (h:Uv m n b):PySem.W.kitOne K (.type m) (.type n)=some b:=by
 cases h with
 |same=>exact Zbo K _
 |_=>rfl
def Cg:List S->(S->Prop)->Prop
 |[s,t],R=>(match tyD s.d,t.d with|some m,.ty n=>∃b,Uv m n b/\R (.sh<|.bl b)|_,_=>False)
 |_,_=>False
def Oc(h:Rp K H d v)(e:tyD d=some m):UF K H v (.type m):=by
 cases h with
 |int i=>cases e;exact .int i
 |bl b=>cases e;exact .bl b
 |non=>cases e;exact .non
 |str x=>cases e;exact .str x
 |tup h r=>cases e;exact .tup h
 |lst h r=>cases e;exact .lst h
 |dK h=>cases e;exact .dK h
 |dT h=>cases e;exact .dT h
 |fL h=>cases e;exact .frz h
 |_=>cases e
def XZ(w:JI K mg E o r):Jw K mg E (tCB (λxs H Q=>∃x n t b,xs=[x,.ty n]/\UF K H x t/\PySem.W.kitOne K t (.type n)=some b/\Q (.bl b) H) o) (pCB Cg r):=by
 refine Xr w λH0 H H1 Z G C R Q f J L l h q=>?_;unfold Cg at h;split at h
 ·obtain⟨v,u,rfl,s,p⟩:=l.two_inv;have g:=p.rp f;split at h
  ·rename_i m n A z;rw[z]at g;rw[g.ty_inv];obtain⟨b,k,y⟩:=h;exact⟨v,n,_,b,rfl,Oc (s.rp f) A,k.kit,q _ _ H1 y (Same.refl _) (.bl _)⟩
  ·grind
 ·grind
noncomputable def prD(p:Int×Int):D:=.tup [.int p.1,.int p.2]
inductive InR:D->D->Bool->Prop
 |li (i:Int) (hs:ZZ):InR (.int i) (.lst<|hs.map D.int) (decide (i∈hs))
 |ti (i:Int) (hs:ZZ):InR (.int i) (.tup<|hs.map D.int) (decide (i∈hs))
 |lp (q:Int×Int) (ps:ZY):InR (prD q) (.lst<|ps.map prD) (decide (q∈ps))
def fIn(neg:Bool):S->S->(S->Prop)->Prop:=λx y R=>∃b,InR x.d y.d b/\R (.sh<|.bl (if neg then !b else b))
def Rp.pair (h:Rp K H (prD q) v):Xc H v q:=by
 obtain⟨a,n,rfl,f,r⟩:=Rp.tup_inv h;obtain⟨x,y,rfl,l,g⟩:=r.two_inv;rw[l.int_inv,g.int_inv]at f;exact⟨a,rfl,f⟩
def Rps.lv {vs} (h:Rps K H (ps.map prD) vs):LV Xc H vs ps:=by
 refine⟨by rw[h.len,Wg],λi p f=>?_⟩;obtain⟨v,l,g⟩:=h.get (by rw[Ww,f];rfl);exact⟨v,l,g.pair⟩
def Ag{A z a b}(T:Jw K mg E A a)(N:Jw K mg E z b):Jw K mg E (tOp (λx y H Q=>rIn K neg x y H Q\/Pk neg x y H Q) A z) (p2 a b<|fIn neg):=by
 refine Xa T N λH0 H w Z x y v u R Q C U Y J G h q=>?_;obtain⟨k,s,t⟩:=h;have n:=J.rp C;have g:=G.rp C;generalize ex:x.d=dx at s n;generalize ey:y.d=dy at s g;cases s with
 |li i M=>
  obtain⟨l,o,rfl,f,r⟩:=g.lst_inv;rw[r.ints]at f;rw[n.int_inv];refine .inl ⟨l,_,rfl,.inl (SqL.of f),rfl,Ke _,?_⟩;rw[E8];exact q _ _ w t (Same.refl _) (.bl _)
 |ti i M=>
  obtain⟨l,o,rfl,f,r⟩:=g.tup_inv;rw[r.ints]at f;rw[n.int_inv];refine .inl ⟨l,_,rfl,.inr (SqT.of f),rfl,Ke _,?_⟩;rw[E8];exact q _ _ w t (Same.refl _) (.bl _)
 |lp p L=>
  obtain⟨l,o,rfl,f,r⟩:=g.lst_inv;exact .inr ⟨l,L,p,rfl,n.pair,⟨o,f,r.lv⟩,q _ _ w t (Same.refl _) (.bl _)⟩
def Pd(neg:Bool):S->S->(S->Prop)->Prop:=λx y R=>match x.d,y.d with
 | .lst h,.lst g=>∃xs f:ZZ,h=xs.map D.int/\g=f.map D.int/\R (.sh<|.bl (if neg then !decide (xs=f)else decide (xs=f)))
 |_,_=>fEq neg x y R
def TL{a b}(N:Jw K mg E J a)(M:Jw K mg E G b):Jw K mg E (tOp (λx y H Q=>rEq x y H Q\/XF K false x y H Q) J G) (p2 a b<|Pd false):=by
 refine Xa N M λH0 H p Z x y v u R Q t s1 s C A h q=>?_;have g:=C.rp t;have f:=A.rp t;unfold Pd at h;split at h
 ·rename_i ds es o n;obtain⟨xs,U,rfl,rfl,T⟩:=h;rw[o]at g;rw[n]at f;obtain⟨l,us,rfl,w,r⟩:=g.lst_inv;obtain⟨m,Y,rfl,s,L⟩:=f.lst_inv;rw[r.ints]at w;rw[L.ints]at s;refine .inr ⟨l,m,_,_,rfl,rfl,SqL.of w,SqL.of s,Ke _,Ke _,?_⟩;rw[Bo];exact q _ _ p T (Same.refl _) (.bl _)
 ·refine .inl ?_;unfold fEq at h;split at h
  ·rename_i i j o n;rw[o]at g;rw[n]at f;rw[g.int_inv,f.int_inv];refine⟨rfl,?_⟩;rw[KO λ_ _ z=>V.int.inj z];exact q _ _ p h (Same.refl _) (.bl _)
  ·rename_i i j o n;rw[o]at g;rw[n]at f;rw[g.str_inv,f.str_inv];refine⟨rfl,?_⟩;rw[KO λ_ _ z=>V.str.inj z];exact q _ _ p h (Same.refl _) (.bl _)
  ·rename_i i j o n;rw[o]at g;rw[n]at f;rw[g.bl_inv,f.bl_inv];refine⟨rfl,?_⟩;rw[KO λ_ _ z=>V.bl.inj z];exact q _ _ p h (Same.refl _) (.bl _)
  ·exact h.elim
def Ad{a b}(N:Jw K mg E J a)(M:Jw K mg E G b):Jw K mg E (tOp (λx y H Q=>rNe x y H Q\/XF K true x y H Q) J G) (p2 a b<|Pd true):=by
 refine Xa N M λH0 H p Z x y v u R Q t s1 s C A h q=>?_;have g:=C.rp t;have f:=A.rp t;unfold Pd at h;split at h
 ·rename_i ds es o n;obtain⟨xs,U,rfl,rfl,T⟩:=h;rw[o]at g;rw[n]at f;obtain⟨l,us,rfl,w,r⟩:=g.lst_inv;obtain⟨m,Y,rfl,s,L⟩:=f.lst_inv;rw[r.ints]at w;rw[L.ints]at s;refine .inr ⟨l,m,_,_,rfl,rfl,SqL.of w,SqL.of s,Ke _,Ke _,?_⟩;rw[Bo];exact q _ _ p T (Same.refl _) (.bl _)
 ·refine .inl ?_;unfold fEq at h;split at h
  ·rename_i i j o n;rw[o]at g;rw[n]at f;rw[g.int_inv,f.int_inv];refine⟨rfl,?_⟩;rw[KO λ_ _ z=>V.int.inj z];exact q _ _ p h (Same.refl _) (.bl _)
  ·rename_i i j o n;rw[o]at g;rw[n]at f;rw[g.str_inv,f.str_inv];refine⟨rfl,?_⟩;rw[KO λ_ _ z=>V.str.inj z];exact q _ _ p h (Same.refl _) (.bl _)
  ·rename_i i j o n;rw[o]at g;rw[n]at f;rw[g.bl_inv,f.bl_inv];refine⟨rfl,?_⟩;rw[KO λ_ _ z=>V.bl.inj z];exact q _ _ p h (Same.refl _) (.bl _)
  ·exact h.elim
noncomputable abbrev E1(K:ZX)(f:TE):TT:=λσ H Q=>f σ H λx H'=>∃k,B8 K x H' k/\Q k H'
noncomputable def AE(a:PTE):PTT:=λγ R X=>a γ (λx=>match x.d with
 | .bl b=>R b | .lst f=>R (!f.isEmpty) | .tup f=>R (!f.isEmpty) | .int i=>R (i != 0) | .non=>R false|_=>False) X
def N3{g f:Type}{l:List g}{m:List f}(h:l.length=m.length):l.isEmpty=m.isEmpty:=by
 cases l<;>cases m<;>simp at h ⊢
def DN(w:Jw K mg E te a):Uq K mg E (E1 K te) (AE a):=by
 intro H0 B H σ γ R X Q o p q u;refine w H0 B H σ γ _ X _ o p (λx v H1 g h t=>?_) u;have f:=t.rp (o.grow h).same;split at g
 ·rename_i b e;rw[e]at f;rw[f.bl_inv];exact⟨b,rfl,q _ H1 g h⟩
 ·rename_i y e;rw[e]at f;obtain⟨l,n,rfl,s,r⟩:=f.lst_inv;exact⟨!n.isEmpty,.inl ⟨n,SqL.of s,rfl⟩,by rw[N3 r.len];exact q _ H1 g h⟩
 ·rename_i y e;rw[e]at f;obtain⟨l,n,rfl,s,r⟩:=f.tup_inv;exact⟨!n.isEmpty,.inr (.inl ⟨n,SqT.of s,rfl⟩),by rw[N3 r.len];exact q _ H1 g h⟩
 ·rename_i i e;rw[e]at f;rw[f.int_inv];exact⟨_,rfl,q _ H1 g h⟩
 ·rename_i e;rw[e]at f;rw[f.non_inv];exact⟨_,rfl,q _ H1 g h⟩
 ·exact g.elim
noncomputable def cutD{f:Type}(xs:List f)(lo g:Option Int):List f:=(xs.drop<|HT.sIx xs.length 0 lo).take (HT.sIx xs.length xs.length g-HT.sIx xs.length 0 lo)
noncomputable def FT:PTO:=λ_ R _=>R none
noncomputable def DP(a:PTE):PTO:=λγ R X=>a γ (λs=>match s.d with | .int i=>R (some i)|_=>False) X
def K9:Xk K mg E FM FT:=λ_ _ H _ _ _ _ _ _ p q _=>q _ H p (Same.refl _)
def Ka(r:Jw K mg E te a):Xk K mg E (Fc te) (DP a):=by
 intro H0 B H σ γ R X Q f p q o;refine r H0 B H σ γ _ X _ f p (λx v H1 h l n=>?_) o;have g:=n.rp (f.grow l).same;split at h
 ·rename_i i e;rw[e]at g;exact⟨i,g.int_inv,q _ H1 h l⟩
 ·grind
noncomputable def pSl(a:PTE)(l u:PTO):PTE:=λγ R X=>a γ (λs=>l γ (λlo=>u γ (λg=>match s.d with | .lst f=>s.free f=true/\R (.own<|cutD f lo g)|_=>False) X) X) X
def Rps.cut {lo f} (r:Rps K H ds vs):Rps K H (cutD ds lo f) (X1 vs lo f):=by
 unfold cutD X1;rw[r.len];exact Rps.take _ (Rps.drop _ r)
def Ey{a l u}(T:Jw K mg E te a)(M:Xk K mg E C l)(L:Xk K mg E G u):Jw K mg E (tSl (PX K) te C G) (pSl a l u):=by
 intro H0 B H σ γ R X Q f p q o;refine T H0 B H σ γ _ X _ f p (λx v H1 Y h J=>?_) o;refine M H0 B H1 σ γ _ X _ (f.grow h) Y (λlo H2 U n=>?_) λc H' s w=>o c H' s (h.trans w);refine L H0 B H2 σ γ _ X _ ((f.grow h).grow n) U (λhi H3 t z=>?_) λc H' s w=>o c H' s ((h.trans n).trans w);have g:=(h.trans n).trans z;split at t
 ·rename_i ds e;obtain⟨b,A,rfl,N,r⟩:=((J.grow<|n.trans z).items (f.grow g).same f.zm g t.1).1 e;exact⟨b,A,rfl,SqL.of N,λm y=>q _ _ _ t.2 (g.trans<|UP y) (Kz g y r.cut)⟩
 ·grind
def Cn:S->S->(S->Prop)->Prop:=λx y R=>match x.d,y.d with
 | .lst g,.lst f=>x.free g=true/\y.free f=true/\g.length+f.length<=100000/\R (.own (g++f))
 |_,_=>False
def U5{a b}(T:Jw K mg E J a)(N:Jw K mg E G b):Jw K mg E (tOp AV J G) (p2 a b Cn):=by
 refine Xa T N λH0 H H2 Z x y v u R Q s f z C A h q=>?_;unfold Cn at h;split at h
 ·rename_i ds es Y U;obtain⟨l,o,rfl,M,r⟩:=(C.items s z f h.1).1 Y;obtain⟨m,n,rfl,g,t⟩:=(A.items s z f h.2.1).1 U;have L:o.length+n.length<=sizeLine:=by rw[r.len,t.len];exact Wk h.2.2.1 (by decide)
  exact⟨l,m,o,n,rfl,rfl,M,g,L,λp w=>q _ _ _ h.2.2.2 (UP w) (Kz f w<|r.append t)⟩
 ·grind
noncomputable def Bp(i:Nat)(a:PTE):PTS:=λR γ=>match γ[i]? with
 |some (some<|.own<|.lst f)=>a γ (λs=>match s.shd with
  |some d=>f.length<10000000/\R.nx (γ.set i<|some<|.own (f++[d]))
  |none=>False) (R.ex γ)
 |some (some<|.own<|.lsA x f)=>a γ (λs=>match s.shd with
  |some d=>f.length<10000000/\R.nx (γ.set i<|some<|.own<|.lsA x (f++[d]))
  |none=>False) (R.ex γ)
 |_=>False
def Gc(i:Nat){te a}(Q:Jw K mg E te a):JA K mg E (Tx<|tBM K "list" NC (UA i)<|Ud te UD) (Bp i a):=by
 intro H0 B H σ γ R D T f h e;unfold Bp at h;split at h
 ·rename_i M t;obtain⟨v,r,b,rfl,G,us,w,p⟩:=f.slot i _ t;refine⟨_,r,.inl ⟨rfl,us,SqL.of w⟩,Q H0 B H σ γ _ _ _ f h (λs u H1 n l A=>?_) λc H' C y=>e.ex σ γ c H' C (f.grow y) (Fr.grow y)⟩;have g:=f.grow l;split at n
  ·rename_i d o;refine⟨b,us,u,rfl,rfl,l _ _ w,by rw[p.len];exact Nat.lt_trans n.1 (by decide),?_⟩;obtain⟨o,L⟩:=g.mutate (es:=.lst (M++[d])) (us:=.lst (us++[u])) t r trivial λF H' N J=>⟨_,J,Rps.mono N (Rps.append (Rps.mono (JB l λ_ _ _ z=>z) p)<|.cons (A.shd g.same f.zm l o) .nil)⟩;exact e.nx _ _ _ n.2 o ((Fr.grow l).trans L)
  ·exact n.elim
 ·rename_i x M t;obtain⟨v,r,b,rfl,G,rfl,us,w,p⟩:=f.slot i _ t;refine⟨_,r,.inl ⟨rfl,us,SqL.of w⟩,Q H0 B H σ γ _ _ _ f h (λs u H1 n l A=>?_) λc H' C y=>e.ex σ γ c H' C (f.grow y) (Fr.grow y)⟩;have g:=f.grow l;split at n
  ·rename_i d o;refine⟨b,us,u,rfl,rfl,l _ _ w,by rw[p.len];exact Nat.lt_trans n.1 (by decide),?_⟩;obtain⟨o,L⟩:=g.mutate (es:=.lsA b (M++[d])) (us:=.lst (us++[u])) t r trivial λF H' N J=>⟨rfl,_,J,Rps.mono N (Rps.append (Rps.mono (JB l λ_ _ _ z=>z) p)<|.cons (A.shd g.same f.zm l o) .nil)⟩;exact e.nx _ _ _ n.2 o ((Fr.grow l).trans L)
  ·exact n.elim
 ·exact h.elim
end
section
variable {X:Cx}{K:ZX}
def ID(f:X.A.in1.units<cLine)(g:autoParam (X.K=K) au_0):OpR X (compareOp .In) (λx y H Q=>rIn K false x y H Q\/Pk false x y H Q):=(OU g).or (MK f)
def HD(f:X.A.in1.units<cLine)(g:autoParam (X.K=K) au_0):OpR X (compareOp .NotIn) (λx y H Q=>rIn K true x y H Q\/Pk true x y H Q):=(Hs g).or (Zad f)
def Tc(f:X.A.units<cLine)(g:autoParam (X.K=K) au_0):OpR X (compareOp .Eq) (λx y H Q=>rEq x y H Q\/XF K false x y H Q):=by subst g;exact op_eq.or (Lv f)
def Ld(f:X.A.units<cLine)(g:autoParam (X.K=K) au_0):OpR X (compareOp .NotEq) (λx y H Q=>rNe x y H Q\/XF K true x y H Q):=by subst g;exact op_ne.or (MX f)
def DE(g:PE X e te)(h:autoParam (X.K=K) au_0)(f:autoParam (∀whole,isTrue e X.env whole=(do let v ←whole;standAt e.pos;holding [v] (truthy v))) au_3):PT X e (E1 K te):=by
 subst h;exact RP g f
def Pm(g:autoParam (X.K=K) au_0):UE X (.type "list") (λxs H Q=>∃p f,xs=[.ref p]/\(SqL K H p f\/SqT K H p f)/\∀l,H l=none->Q (.ref l) (upd H l<|.lst f)):=by subst g;exact Zat
def Kd(f:autoParam (X.K=K) au_0):UE X (.builtin "isinstance") (λxs H Q=>∃x n t b,xs=[x,.ty n]/\UF K H x t/\PySem.W.kitOne K t (.type n)=some b/\Q (.bl b) H):=by subst f;exact Lc
def T6(f:autoParam (X.K=K) au_0):SlR X (PX K):=by subst f;exact Lp
def P7{g l f}(h:PE X l f)(n:autoParam (X.K=K) au_0):PI X g l (Ta K f):=by subst n;exact Hj h
end
section
variable {P:Program}{w:World}{K:ZX}{mg:Yb}{base:Heap}{H H':Hp}
def Rp.scr_inv (h:Rp K H (.scr f) v):∃a,v=.ref a/\SqL K H a (f.map V.int):=by
 cases h with
 |scr h=>grind
theorem Fz:∀(f:ZZ),U6 (f.map D.int)=true
 |[]=>rfl
 |n::r=>by rw[WR];unfold U6;rw[Fz r];unfold imm;rfl
def GD(p:Int×Int):imm (prD p)=true:=rfl
theorem Xy:∀(ps:ZY),U6 (ps.map prD)=true
 |[]=>rfl
 |p::r=>by rw[WR];unfold U6;rw[Xy r,GD];rfl
def Zbx{g:Type}{f:g->D}{xs:List g}{i}(h:i<xs.length):(xs.map f).getD i .non=f xs[i]:=by grind
def KA{g:Type}{f:g->D}{xs:List g}{i}(l:0<=i)(h:i<(xs.length:Int)):atI (xs.map f) i=some (f (xs[i.toNat]'(by lia))):=by
 have n:i.toNat<xs.length:=by lia
 exact Pg (PJ l<|Wj n)
def Sz{g:Type}{f:g->D}{xs:List g}{i}(h:i<xs.length):atI (xs.map f) (i:Int)=some (f xs[i]):=Pg (PB<|Wj h)
def Kx{l:Type}{φ}{γ}{g}{c}{e}{s:S}{R}{xs:List l}{emb}(f:l->Option D)(n:xs.length<=100000)(turn:∀x∈xs,g (s.sub<|emb x) (atP φ γ) λh=>c h (λb=>if b=true then e h (λs=>∃d,s.shd=some d/\f x=some d) (λ_=>False)else f x=none) λ_=>False)(done:R (.own<|xs.filterMap f)) :
  X3 φ γ g c e (xs.map emb).length (λi=>s.sub ((xs.map emb).getD i .non)) R:=by
 rw[Wg];refine⟨⟨n,λi=>(xs[i]?).bind f,λi o=>?_,by rw[Ml];exact done⟩⟩;simp_all
def DH{g c e item R n}(f:Nat->Option D)(p:n<=100000)(turn:∀i,i<n->g (item i) (atP l o) λh=>c h (λb=>if b=true then e h (λs=>∃d,s.shd=some d/\f i=some d) (λ_=>False)else f i=none) λ_=>False)(done:R (.own ((List.range n).filterMap f))) :
  X3 l o g c e n item R:=⟨⟨p,f,turn,done⟩⟩
def SU{o:Type}{js}{γ}{g}{body}{s:S}{R}{xs:List o}{emb}(inv:Nat->Γ->Prop)(r:inv 0 (clr js γ))(turn:∀i p f,inv i f->g (s.sub (emb xs[i])) f λn=>body {R with nx:=λl=>inv (i+1) (clr js l),ct:=λl=>inv (i+1) (clr js l),bk:=R.nx} n)(done:∀f,inv xs.length f->R.nx f) :
  P6 js γ g body R (xs.map emb).length (λi=>s.sub ((xs.map emb).getD i .non)):=by
 refine⟨⟨inv,r,λi f p h=>?_,λf h=>?_⟩⟩
 ·grind
 ·grind
def Ku{n item}(inv:Nat->Γ->Prop)(r:inv 0 (clr o p))(turn:∀i f,i<n->inv i f->g (item i) f λl=>body {R with nx:=λh=>inv (i+1) (clr o h),ct:=λh=>inv (i+1) (clr o h),bk:=R.nx} l)(done:∀f,inv n f->R.nx f):P6 o p g body R n item:=⟨⟨inv,r,turn,done⟩⟩
def TU(J:Γ->Prop)(l:p {R with nx:=J} g)(h:∀f,J f->q R f):D3 p q R g:=⟨⟨J,l,h⟩⟩
theorem TN{f:Type}(c:f->Bool)(emb:f->D):∀g:List f,g.filterMap (λq=>if c q=true then some (emb q)else none)=(g.filter c).map emb
 |[]=>rfl
 |q::r=>by
  by_cases h:c q=true
  ·rw[List.filterMap_cons_some (by rw[Wm h]),List.filter_cons_of_pos h,WR,TN c emb r]
  ·rw[List.filterMap_cons_none (by grind),List.filter_cons_of_neg h,TN c emb r]
def M4{f:Type}(emb:f->D)(g:List f):g.filterMap (λq=>some (emb q))=g.map emb:=by simp
def K7(f:h->D)(xs:List h)(lo g:Option Int):cutD (xs.map f) lo g=(cutD xs lo g).map f:=by
 unfold cutD;simp
def ND(xs:List f){n}(h:0<=n):cutD xs none (some n)=xs.take n.toNat:=by
 unfold cutD;have e:n=(n.toNat:Int):=by lia
 rw[HT.AX,e,HT.Kk,List.drop_zero,Nat.sub_zero,Int.toNat_natCast];by_cases c:n.toNat<=xs.length
 ·simp
 ·simp
def Xv(xs:List f){n}(h:0<=n):cutD xs (some n) none=xs.drop n.toNat:=by
 unfold cutD;have e:n=(n.toNat:Int):=by lia
 rw[HT.AX,e,HT.Kk,Int.toNat_natCast];by_cases c:n.toNat<=xs.length
 ·grind
 ·rw[Nat.min_eq_right (by lia),List.drop_of_length_le (Wn _),List.drop_of_length_le (by lia)];simp
noncomputable def N2(K:ZX):Sp:=λf H Q _=>∃(a:Addr) (g:ZZ),f=[.ref a]/\SqL K H a (g.map V.int)/\∀H',Q (.bl true) H'
noncomputable def D9:Pc:=λg R _=>∃f:ZZ,g=[.scr f]/\R (.sh<|.bl true)
def Hn(h:N2 K vs H Q n):J9 mg D9 K vs H Q n:=by
 obtain⟨a,f,rfl,l,q⟩:=h;refine⟨[.scr f],λs=>s=.sh (.bl true),λ_=>False,.cons (.scr l) .nil,⟨f,rfl,rfl⟩,λs v H' e o g=>?_,λ_ _ z=>z.elim⟩;subst e;cases g
 grind
end
section
variable {K:ZX}{mg:Yb}{E:L2.St->XK}{H0 H H1 H':Hp}{B Z Z':Addr->Prop}{σ:L2.St}{γ:Γ}
def Ux(d:f)(ds:List f):atI (d::ds) 0=some d:=PJ (by simp) rfl
noncomputable def em(l:Int)(p:ZZ):D:=.lst ((l::p).map D.int)
def Zbw:List S->(S->Prop)->Prop
 |[s],R=>∃f:ZZ,s.d=.lst (f.map D.int)/\R (.sh<|.int f.sum)
 |_,_=>False
theorem Rps.bls:∀{f:List Bool}{vs:List V},Rps K H (f.map D.bl) vs->vs=f.map V.bl
 |[],_,.nil=>rfl
 |j::r,_,.cons h t=>by rw[Rp.bl_inv h,Rps.bls t];rfl
def Ap(neg:Bool):S->S->(S->Prop)->Prop:=λx y R=>match x.d,y.d with
 | .lst f,.lst []=>R (.sh<|.bl (if neg then !f.isEmpty else f.isEmpty))
 |_,_=>False
def Ex{n g a b}(J:Jw K mg E n a)(G:Jw K mg E g b):Jw K mg E (tOp (Sb K neg) n g) (p2 a b<|Ap neg):=by
 refine Xa J G λH0 H N Z x y v u R Q o U Y z w h q=>?_;have s:=z.rp o;have p:=w.rp o;unfold Ap at h;split at h
 ·rename_i ds M L;rw[M]at s;rw[L]at p;obtain⟨l,t,rfl,C,r⟩:=s.lst_inv;obtain⟨m,T,rfl,f,A⟩:=p.lst_inv;cases A
  refine⟨l,m,t,rfl,rfl,SqL.of C,SqL.of f,?_⟩;rw[N3 r.len];exact q _ _ N h (Same.refl _) (.bl _)
 ·grind
def Hu(x y:Int){k}(h:k=0\/k=1):atI [D.int x,D.int y] k=some (.int (if k=0 then x else y)):=by
 rcases h with rfl|rfl
 ·rfl
 ·rfl
def Kf(xs:List g)(lo f:Option Int):(cutD xs lo f).Sublist xs:=(List.take_sublist _ _).trans (List.drop_sublist _ _)
def Jz.gone (N:Jz K H0 B H σ γ) (i:Nat):Jz K H0 B H (σ.set i none) (γ.set i none)/\Fr B H σ γ H (σ.set i none) (γ.set i none):=by
 obtain⟨l,f1⟩:=N.drop i
 have f:∀j s,(γ.set i none)[j]?=some (some s)->j≠i:=λj s h=>by
  rcases Ua h with⟨_,e,_⟩|⟨n,_⟩
  ·cases e
  ·exact n
 have C:∀b,zof B (γ.set i none) (σ.set i none) b↔zof B (γ.set i none) σ b:=λb=>by
  constructor
  ·rintro(z|⟨j,p,x,g,r,t⟩)
   ·exact .inl z
   ·rw[Xl (f j _ g)]at r;exact .inr ⟨j,p,x,g,r,t⟩
  ·rintro(z|⟨j,p,x,g,r,t⟩)
   ·exact .inl z
   ·exact .inr ⟨j,p,x,g,by rw[Xl (f j _ g)];exact r,t⟩
 have ez:=funext λb=>propext (C b);refine⟨⟨l.same,by rw[WX];exact l.len,l.bm,λk j a M p L b w u A y J G=>?_,λj s h=>?_⟩,λb o h z=>?_⟩
 ·rw[Xl (f k _ w)]at A;rw[Xl (f j _ u)]at y;exact l.own k j a M p L b w u A y J G
 ·obtain⟨v,w,u⟩:=l.slot j s h
  grind
 ·rw[ez];exact f1 b o h z
noncomputable def TY:Option D->Option (List D)
 |some (.tup f)=>some f|_=>none
def GS(h:TY o=some ds):o=some (.tup ds):=by
 unfold TY at h;split at h
 ·grind
 ·grind
noncomputable def pIT(a:PTE):PTI:=λγ R X=>a γ (λs=>∃f,TY s.shd=some f/\R f.length λi=>.sh (f.getD i .non)) X
def N0(L:Jw K mg E te a):SndI K mg E (BC K te) (pIT a):=by
 intro H0 B H σ γ R X Q f h q C;refine L H0 B H σ γ _ X _ f h (λs v H1 o p A=>?_) C;obtain⟨w,M,o⟩:=o;obtain⟨l,g,rfl,n,r⟩:=Rp.tup_inv (A.shd (f.grow p).same f.zm p (GS M));refine⟨l,rfl,⟨g,SqT.of (off_sub _ _ n)⟩,q _ _ _ H1 o p ⟨λi H' Z' G lt=>?_,λH' Z' lt=>?_⟩⟩
 ·have J:w[i]?=some (w.getD i .non):=by rw[Wv,Wj G];rfl
  obtain⟨u,t,z⟩:=r.get J;have k:=off_sub _ _ (lt.off _ _ n);refine⟨⟨g,u,SqT.of k,t⟩,λx N y=>?_⟩;obtain⟨rfl,y⟩:=y
  have:=y g (SqT.of k)
  rw[t]at this;cases this
  exact⟨Same.refl _,Rp.mono lt.off z⟩
 ·exact⟨g,SqT.of (off_sub _ _<|lt.off _ _ n),by rw[r.len];exact Wn _⟩
end
section
variable {X:Cx}{K:ZX}
def SG{g l f}(h:PE X l f)(n:autoParam (X.K=K) au_0):PI X g l (BC K f):=by subst n;exact M5 h
end
end Pu
namespace M
open L2 Own Pu
noncomputable def oc(c:Int->Int->Int):ZZ->Int
 |[]=>0
 |a::r=>(r.map<|c a).sum+oc c r
end M
namespace Pu
open L2 Own
section
variable {K:ZX}{mg:Yb}{E:L2.St->XK}{H0 H H1 H':Hp}{B Z Z':Addr->Prop}{σ:L2.St}{γ:Γ}
def O.from:O->O->Prop
 | .ins x _ _ h,.ins g _ _ f=>g=x/\∀c∈h,∃l∈f,l.1=c.1
 | .lsA x _,.lsA g _=>g=x
 | .nsl x h,.nsl g f=>g=x/\f.map (·.1)=h.map (·.1)
 |_,_=>False
def O.from_adr {o o':O}{a} (h:o.from o'):∀b,o.adr a b->o'.adr a b:=by
 unfold O.from at h
 split at h
 ·intro b g;rcases g with g|⟨c,p,g⟩
  ·exact .inl (g.trans h.1.symm)
  ·obtain⟨r,n,l⟩:=h.2 c p;exact .inr ⟨r,n,g.trans l.symm⟩
 ·intro b g;exact g.trans h.symm
 ·intro b g;rcases g with g|⟨c,p,g⟩
  ·exact .inl (g.trans h.1.symm)
  ·have m:=List.mem_map_of_mem (f:=(·.1)) p;rw[←h.2]at m;obtain⟨r,n,l⟩:=WM.mp m;exact .inr ⟨r,n,g.trans l.symm⟩
 ·grind
def O.from_at {a l}{F n H H'} (h:o.from o') (g:OR K F H a o) (f:OR K n H' l o'):l=a:=by
 unfold O.from at h
 split at h
 ·exact f.1.trans (h.1.trans g.1.symm)
 ·exact f.1.trans (h.trans g.1.symm)
 ·exact f.1.trans (h.1.trans g.1.symm)
 ·grind
abbrev Pw:=O->List S->(O->D->Prop)->(O->Str->Prop)->Prop
noncomputable def S.pass:S->Option S
 | .sh d=>some (.sh d) | .own o=>some (.sh o.d)
 | .bor d=>match imm d with|true=>some (.sh d)|false=>some (.bor d)
 | .tmp d=>match imm d with|true=>some (.sh d)|false=>none
 | .view _=>none
def S.flat:S->Prop
 | .sh _=>True | .bor _=>True|_=>False
noncomputable def passes:List S->Option (List S)
 |[]=>some []
 |s::r=>match s.pass,passes r with|some f,some g=>some (f::g)|_,_=>none
structure After (K:ZX) (B:Addr->Prop) (H:Hp) (a:Addr) (o o':O) (H':Hp):Prop where
 same:Same (off (o.adr a) H) H'
 old:∀b,o.adr a b->o'.adr a b
 new:∀b,o'.adr a b->o.adr a b\/H b=none
 at_:OR K (off (λb=>B b\/o'.adr a b) H') H' a o'
noncomputable def spW(mg:Yb)(c:Pw)(K:ZX):Sp:=λl H Q E=>∃(o:O) (a:Addr) (g:List S) (h:List V) (B:Addr->Prop) (R:O->D->Prop) (X:O->Str->Prop),
 l=.ref a::h/\(∀b,B b->Mut (H b)/\¬o.adr a b)/\OR K (off (λb=>B b\/o.adr a b) H) H a o/\TVs K (λb=>B b\/o.adr a b) (off (o.adr a) H) H H g h/\(∀s∈g,s.flat)/\c o g R X/\
 (∀f d v H',R f d->After K B H a o f H'->Rp K (off (λb=>B b\/f.adr a b) H') d v->Q v H')/\∀f e H',X f e->After K B H a o f H'->XE mg E e H'
def TVs.get:∀{f vs}{i:Nat}{s:S},TVs K Z H0 H H' f vs->f[i]?=some s->∃v,vs[i]?=some v/\TV K Z H0 H H' s v:=by
 intro o
 induction o with
 |nil=>
  intro _ i _ h e;simp at e
 |cons _ _ g=>
  intro _ i d h e;cases h with
  |cons h r=>
   cases i with
   |zero=>
    simp at e;subst e;exact⟨_,rfl,h⟩
   |succ i=>
    obtain⟨v,n,l⟩:=g r (by simpa using e);exact⟨v,by simpa using n,l⟩
noncomputable def XT(N:Yg)(o:O)(f:List S):Γ:=some (.own o)::(f.map some++List.replicate (N.length-(f.length+1)) none)
def Il{o a f us}(Q:∀b,B b->Mut (H b)/\¬o.adr a b)(L:OR K (off (λb=>B b\/o.adr a b) H) H a o)(r:TVs K (λb=>B b\/o.adr a b) (off (o.adr a) H) H H f us)(J:∀s∈f,s.flat)(Y:f.length+1<=N.length) :
  Jz K (off (o.adr a) H) B H (start N (.ref a::us)) (XT N o f):=by
 have get:∀i s,(XT N o f)[i+1]?=some (some s)->f[i]?=some s:=λi s h=>by
  unfold XT at h;rw[Q8]at h;by_cases p:i<f.length
  ·rw[WI (by rw[Wg];exact p),Ww,Wj p]at h;rw[Wj p];exact W9 some (Wt<|Wt h)
  ·rw[WH (by rw[Wg];lia),Q7]at h;split at h<;>cases h
 have noown:∀i g,(XT N o f)[i+1]?≠some (some<|.own g):=λi g h=>J _ (WA<|get i _ h)
 have n:(start N (V.ref a::us))[0]?=some (some<|.ref a):=by
  unfold L2.start;rfl
 have A:∀b,zof B (XT N o f) (start N (V.ref a::us)) b->B b\/o.adr a b:=λb z=>by
  rcases z with z|⟨i,g,a',l,t,T⟩
  ·exact .inl z
  ·cases i with
   |zero=>
    cases t
    have:o=g:=by
     cases l
     rfl
    subst this;exact .inr T
   |succ i=>exact absurd l (noown i g)
 refine⟨off_sub,?_,λb h=>(Q b h).1,λi j x U g u b l t _ _ _ _=>?_,λi s h=>?_⟩
 ·unfold L2.start XT;simp[r.len]
 ·cases i with
  |succ i=>exact absurd l (noown i g)
  |zero=>
   cases j with
   |zero=>rfl
   |succ j=>exact absurd t (noown j u)
 ·cases i with
  |zero=>
   have h:=h;cases h
   refine⟨_,n,a,rfl,λb M=>?_,L.mono (JB (Same.refl _) λb _ _ z y=>z (A b y)) λ_ _ _ q=>q⟩;unfold off;rw[Wm M]
  |succ i=>
   have G:=get i s h;obtain⟨v,C,w⟩:=r.get G;refine⟨v,?_,?_⟩
   ·unfold L2.start;rw[WI (by rw[Wg,W5];have:=(WO.mp C).1;lia),Ww,Q8,C];rfl
   ·have:=J s (WA G)
    cases s with
    |bor d=>exact w
    |sh d=>exact Rp.mono (JB (Same.refl _) λb _ _ z y=>z (A b y)) w
    |_=>exact this.elim
def CP(o:O)(R:O->D->Prop)(γ:Γ)(d:D):Prop:=∃f,γ[0]?=some (some<|.own f)/\o.from f/\R f d
def Zbk(o:O)(X:O->Str->Prop)(γ:Γ)(e:Str):Prop:=∃f,γ[0]?=some (some<|.own f)/\o.from f/\X f e
noncomputable def A1(o:O)(R:O->D->Prop)(X:O->Str->Prop):XA:={nx:=λγ=>CP o R γ .non,rt:=λ_=>False,ex:=Zbk o X,rv:=CP o R}
def NP{σ'}{γ'}(n:OR K (off (λb=>B b\/o.adr a b) H) H a o)(e:Jz K (off (o.adr a) H) B H' σ' γ')(h:γ'[0]?=some (some<|.own o'))(k:o.from o'):After K B H a o o' H'/\∀b,B b\/o'.adr a b->zof B γ' σ' b:=by
 obtain⟨v,s,f,rfl,r,l⟩:=e.slot 0 _ h;have t:=O.from_at k n l;subst t;have g:∀b,B b\/o'.adr f b->zof B γ' σ' b:=λb z=>z.imp id λz=>⟨0,o',f,h,s,z⟩;refine⟨⟨e.same,O.from_adr k,λb p=>?_,l.mono (JB (Same.refl _) λb _ _ z y=>z (g b y)) λ_ _ _ q=>q⟩,g⟩
 have:=r b p
 unfold off at this;by_cases q:o.adr f b
 ·exact .inl q
 ·grind
def Ly{t p vs Q Y n}(h:spW mg c K vs H Q Y)(L:JA K mg (λ_=>Y) t p)(hn:n+1<=N.length)(M:∀o u R X,c o u R X->u.length=n/\p (A1 o R X) (XT N o u)):t {nx:=λ_ H'=>Q .non H',rt:=Q} (start N vs) H:=by
 obtain⟨o,a,u,us,B,R,X,rfl,U,J,r,hf,hc,T,hX⟩:=h;obtain⟨e,M⟩:=M o u R X hc;refine L _ B H _ _ _ _ (λb z=>?_) (Il U J r hf<|by rw[e];exact hn) M ⟨λl s H' C G f1=>?_,λ_ _ _ z=>z.elim,λl s c H' C G f1=>?_,λ_ _ _ z=>z.elim,λ_ _ _ z=>z.elim,λl s d v H' C G f1 rd=>?_⟩
 ·obtain⟨g,f⟩:=U b z;obtain⟨x,hx⟩:=Pe g;exact⟨x,Uj hx f⟩
 ·obtain⟨A,g,f,w⟩:=C;exact T A .non .non H' w (NP J G g f).1 .non
 ·obtain⟨A,g,f,w⟩:=C;exact hX A c H' w (NP J G g f).1
 ·obtain⟨A,g,f,w⟩:=C;obtain⟨k1,k2⟩:=NP J G g f;exact T A d v H' w k1 (Rp.mono (JB (Same.refl _) λb _ _ z y=>z (k2 b y)) rd)
def Lk(h:spW mg c K vs H Q s)(g:∀o f R X,c o f R X->f.length=n):vs.length=n+1:=by
 obtain⟨o,a,f,p,B,R,X,rfl,_,_,r,_,l,_⟩:=h;rw[W5,r.len,g o f R X l]
abbrev PTW:=Γ->(Γ->D->Prop)->(Γ->Str->Prop)->Prop
def U1(K:ZX)(mg:Yb)(E:L2.St->XK)(t:TE)(p:PTW):Prop:=∀(H0:Hp) (B:Addr->Prop) (H:Hp) (σ:L2.St) (γ:Γ) (R:Γ->D->Prop) (X:Γ->Str->Prop) (Q:VK),(∀b,B b->∃o,H0 b=some o)->Jz K H0 B H σ γ->p γ R X->
 (∀f d v H',R f d->Jz K H0 B H' σ f->Fr B H σ γ H' σ f->Rp K (off (zof B f σ) H') d v->Q v H')->(∀f c H',X f c->Jz K H0 B H' σ f->Fr B H σ γ H' σ f->XE mg (E σ) c H')->t σ H Q
variable {te:TE}{w:PTW}
noncomputable def M0(w:PTW)(g:PTG):PTS:=λR γ=>w γ (λf d=>g (.sh d) f R.nx) R.ex
def AL(hw:U1 K mg E te w)(s:Kj K L g r):JA K mg E (To te g) (M0 w r):=by
 intro H0 B H σ γ R D u o h e;refine hw H0 B H σ γ _ _ _ u o h (λf d v H1 y G f1 p=>?_) λf c H' t J A=>e.ex σ f c H' t J A;exact s H0 B H1 H1 σ f (.sh d) v _ _ G (Same.refl _) p y λl n x C z _=>e.nx l n H1 x C (f1.trans z)
noncomputable def OZ(w:PTW):PTS:=λR γ=>w γ (λf _=>R.nx f) R.ex
def PM(hw:U1 K mg E te w):JA K mg E (Tx te) (OZ w):=by
 intro H0 B H σ γ R D n g h e;exact hw H0 B H σ γ _ _ _ n g h (λf d v H1 o r f1 _=>e.nx σ f H1 o r f1) λf c H' l s p=>e.ex σ f c H' l s p
noncomputable def L0(w:PTW):PTS:=λR γ=>w γ R.rv R.ex
def UM(hw:U1 K mg E te w):JA K mg E (Po te) (L0 w):=by
 intro H0 B H σ γ R D o g h e;exact hw H0 B H σ γ _ _ _ o g h (λf d v H1 p s f1 l=>e.rv σ f d v H1 p s f1 l) λf c H' n t r=>e.ex σ f c H' n t r
noncomputable def G1(a:PTE):PTS:=λR γ=>a γ (λs=>match s.shd with|some d=>R.rv γ d|none=>False) (R.ex γ)
def Ul(r:Jw K mg E te a):JA K mg E (Po te) (G1 a):=by
 intro H0 B H σ γ R D u f h e;refine r H0 B H σ γ _ _ _ f h (λs v H1 l g o=>?_) λc H' p n=>e.ex σ γ c H' p (f.grow n) (Fr.grow n);split at l
 ·rename_i d t;exact e.rv σ γ d v H1 l (f.grow g) (Fr.grow g) (o.shd (f.grow g).same f.zm g t)
 ·grind
def IU{s f:S}(h:s.pass=some f):f.flat:=by
 cases s with
 |bor d=>unfold S.pass at h;cases q:imm d<;>simp[q]at h<;>subst h<;>trivial
 |tmp d=>
  unfold S.pass at h;cases q:imm d<;>simp[q]at h
  subst h;trivial
 |view o=>cases h
 |_=>cases h;trivial
theorem Th:∀{g f:List S},passes g=some f->∀s∈f,s.flat
 |[],_,h=>by cases h;simp
 |s::r,_,h=>by
  unfold passes at h;split at h
  ·rename_i o p n l;cases h
   intro x hx;rcases Wu.mp hx with rfl|hx
   ·exact IU n
   ·exact Th l x hx
  ·grind
def TV.pass {v P W f} (r:Same H0 H') (n:∀b,Z b->Mut (H b)) (u:Same H H') (p:Same H0 (off P f)) (l:Same (off Z H') (off W f)) (h:TV K Z H0 H H' s v) (e:s.pass=some g):TV K W (off P f) f f g v:=by
 have shd:∀d,s.shd=some d->Rp K (off W f) d v:=λd t=>Rp.mono l (h.shd r n u t);cases s with
 |view o=>cases e
 |tmp d=>
  unfold S.pass at e;cases q:imm d with
  |false=>simp_all
  |true=>simp[q]at e;subst e;exact shd d (by unfold S.shd;simp[q])
 |bor d=>
  unfold S.pass at e;cases q:imm d with
  |false=>simp[q]at e;subst e;exact Rp.mono p h
  |true=>simp[q]at e;subst e;exact shd d (by unfold S.shd;simp[q])
 |_=>cases e;exact shd _ rfl
theorem TVs.pass {HB} (p:Same H0 H') (n:∀b,Z b->Mut (H b)) (s:Same H H') (o:Same H0 (off P HB)) (l:Same (off Z H') (off W HB)):∀{g f}{vs:List V},TVs K Z H0 H H' g vs->passes g=some f->TVs K W (off P HB) HB HB f vs
 |_,_,_,.nil,e=>by cases e;exact .nil
 |_,_,_,.cons h r,e=>by
  unfold passes at e;split at e
  ·rename_i v x u t;cases e
   exact .cons (h.pass p n s o l u) (TVs.pass p n s o l r t)
  ·grind
def Tz{c:Pw}{i:Nat}{o:O}{a:Addr}{Y l:List S}{us:List V}{R:Γ->D->Prop}{X:Γ->Str->Prop}{Q:VK}{Ec:XK}(env:Jz K H0 B H σ γ)(hB:∀b,B b->∃o,H0 b=some o)(T:Same H H1)(J:γ[i]?=some (some<|.own o))(C:σ[i]?=some (some<|.ref a))(t1:TVs K (zof B γ σ) H0 H H1 Y us)(hp:passes Y=some l)(hc:c o l (λo' d=>R (γ.set i<|some<|.own o') d) (λo' e=>X (γ.set i<|some<|.own o') e))(q:∀f d v H',R f d->Jz K H0 B H' σ f->Fr B H σ γ H' σ f->Rp K (off (zof B f σ) H') d v->Q v H')(qx:∀f c H',X f c->Jz K H0 B H' σ f->Fr B H σ γ H' σ f->XE mg Ec c H'):spW mg c K (.ref a::us) H1 Q Ec:=by
 have g:=env.grow T;obtain⟨v,h1,N,ev,h3,h4⟩:=g.slot i _ J;rw[C]at h1;cases h1
 cases ev
 have U:∀b,o.adr a b->zof B γ σ b:=λb p=>.inr ⟨i,o,a,J,C,p⟩
 have G:∀o' H',After K (λb=>zof B γ σ b/\¬o.adr a b) H1 a o o' H'->Jz K H0 B H' σ (γ.set i<|some<|.own o')/\Fr B H σ γ H' σ (γ.set i<|some<|.own o')/\∀b x,H' b=some x->¬((zof B γ σ b/\¬o.adr a b)\/o'.adr a b)->¬zof B (γ.set i<|some<|.own o') σ b:=λo' H' A=>by
  have t:∀b x,H' b=some x->¬((zof B γ σ b/\¬o.adr a b)\/o'.adr a b)->¬zof B (γ.set i<|some<|.own o') σ b:=λb x _ n z=>by
   rcases z with z|⟨j,fs,N,e1,L,M⟩
   ·refine n (.inl ⟨.inl z,λw=>?_⟩);obtain⟨u,hu⟩:=hB b z;rw[h3 b w]at hu;cases hu
   ·rcases Ua e1 with⟨ej,q,_⟩|⟨nj,q⟩
    ·subst ej;cases q
     rw[C]at L;cases L
     exact n (.inr M)
    ·exact n (.inl ⟨.inr ⟨j,fs,N,q,L,M⟩,λw=>nj (env.own j i N a fs o b q J L C M w)⟩)
  obtain⟨s,r⟩:=g.change (o':=o') (H':=H') J C (λb x hx n=>A.same b x (Uj hx n)) (λb p=>A.at_.mut b (A.old b p)) A.new (A.at_.mono (JB (Same.refl _) λb x hx z=>t b x hx z) λ_ _ _ q=>q);exact⟨s,(Fr.grow T).trans r,t⟩
 refine⟨o,a,l,us,λb=>zof B γ σ b/\¬o.adr a b,_,_,rfl,λb p=>⟨g.zm b p.1,p.2⟩,h4.mono (JB (Same.refl _) λb _ _ z y=>z (y.elim (λy=>y.1)<|U b)) λ_ _ _ q=>q,?_,Th hp,hc,λo' d v H' hR A rd=>?_,λo' e H' hX A=>?_⟩
 ·refine t1.pass g.same env.zm T (λb x hx=>Uj (g.same b x hx) λw=>?_) (JB (Same.refl _) λb _ _ z y=>z (y.elim (λy=>y.1)<|U b)) hp;rw[h3 b w]at hx;cases hx
 ·obtain⟨s,r,k3⟩:=G o' H' A;exact q _ d v H' hR s r (Rp.mono (λb x h=>let ⟨p1,p2⟩:=Xz h;Uj p1 (k3 b x p1 p2)) rd)
 ·obtain⟨s,r,_⟩:=G o' H' A;exact qx _ e H' hX s r
noncomputable def TC(i:Nat)(c:Pw)(r:PTA):PTW:=λγ R X=>match γ[i]? with
 |some (some<|.own o)=>r γ (λh=>match passes h with|some f=>c o f (λg d=>R (γ.set i<|some<|.own g) d) (λg e=>X (γ.set i<|some<|.own g) e)|none=>False) (X γ)
 |_=>False
def FN(i:Nat){c l r}(A:JI K mg E l r){g:L2.St->XK}(G:∀σ,g σ=E σ):U1 K mg E (λσ H Q=>Ud (UA i) l σ H λvs H1=>spW mg c K (vs++[]) H1 Q (g σ)) (TC i c r):=by
 intro H0 B H σ γ R X Q J f h q n;unfold TC at h;split at h
 ·rename_i o s;obtain⟨v,p,a,rfl,_,_⟩:=f.slot i _ s;refine⟨_,p,A H0 B H σ γ _ _ _ f h (λN x H1 t M y=>?_) λc H' C u=>n γ c H' C (f.grow u) (Fr.grow u)⟩;show spW mg c K ((V.ref a::x)++[]) H1 Q (g σ);rw[WD,G];split at t
  ·rename_i z L;exact Tz f J M s p y L t q n
  ·grind
 ·grind
def Gr(i:Nat){c f r}(g:JI K mg E f r):U1 K mg E (ExcR.FF (spW mg c K) E<|Ud (UA i) f) (TC i c r):=FN i g λ_=>rfl
def Hz(i:Nat){c g r f}(h:JI K mg (λ_=>f) g r):U1 K mg (λ_=>f) (XG (spW mg c K) [] f<|Ud (UA i) g) (TC i c r):=FN i h λ_=>rfl
noncomputable def Ea(i:Nat)(c:Pw)(r:PTA):PTW:=λγ R X=>match γ[i]? with
 |some (some<|.own o)=>r γ (λg=>match passes g with|some f=>c o f (λh d=>R (γ.set i<|some<|.own h) d) (λ_ _=>False)|none=>False) (X γ)
 |_=>False
def SM(i:Nat){c g r}(A:JI K mg E g r):U1 K mg E (XG (spW mg c K) [] E0<|Ud (UA i) g) (Ea i c r):=by
 intro H0 B H σ γ R X Q G f h q y;unfold Ea at h;split at h
 ·rename_i o n;obtain⟨v,l,a,rfl,_,_⟩:=f.slot i _ n;refine⟨_,l,A H0 B H σ γ _ _ _ f h (λM t H1 p L u=>?_) λc H' C s=>y γ c H' C (f.grow s) (Fr.grow s)⟩;show spW mg c K ((V.ref a::t)++[]) H1 Q E0;rw[WD];split at p
  ·rename_i x J;exact Tz (X:=λ_ _=>False) f G L n l u J p q λ_ _ _ z=>z.elim
  ·grind
 ·grind
def DJ(C:Addr)(xs:Yg)(j:Nat):S->(S->Prop)->Prop
 | .view (.ins _ g f l),R=>g=C/\f=xs/\∃c,l[j]?=some c/\R (.view<|.lst c.2)
 | .bor (.ins g f h),R=>g=C/\f=xs/\∃d,h[j]?=some d/\R (arg d)
 |_,_=>False
noncomputable def Oq(C:Addr)(xs:Yg)(j:Nat)(a:PTE):PTE:=λγ R X=>a γ (λs=>DJ C xs j s R) X
def Rp.ins_inv (h:Rp K H (.ins C xs ds) v):∃a f vs,v=.ref a/\H a=some (.ins C f<|xs.zip vs)/\xs.length=vs.length/\Rps K H ds vs:=by
 cases h with
 |ins h e r=>grind
def FldAt(f:Str)(xs:Yg)(j:Nat):Prop:=∀g:List V,xs.length=g.length->(xs.zip g).lookup f=g[j]?
def KI(j:Nat){a}(J:Cls K C)(A:NoAttr K C f)(G:FldAt f xs j)(ha:Jw K mg E te a):Jw K mg E (TK K te f) (Oq C xs j a):=by
 intro H0 B H σ γ R X Q l p q qx;refine ha H0 B H σ γ _ X _ l p (λs v H1 h y z=>?_) qx;have g:=l.grow y;unfold DJ at h;split at h
 ·rename_i x C' n cs;obtain⟨rfl,rfl,c,L,o⟩:=h;obtain⟨b,rfl,N,M,⟨t,r⟩,e4,e5⟩:=z;obtain⟨T,Y,U⟩:=e4 c (WA L);refine⟨b,_,t,_,_,rfl,r,J,A,?_,q _ _ H1 o y ⟨c.1,rfl,T,Y,U⟩⟩;rw[G _ (by grind),Ww,L];rfl
 ·rename_i C' n ds;obtain⟨rfl,rfl,d,ed,o⟩:=h;obtain⟨b,t,vs,rfl,N,M,r⟩:=Rp.ins_inv z;obtain⟨u,hu,ru⟩:=r.get ed;refine⟨b,_,t,_,u,rfl,g.same _ _ N,J,A,by rw[G _ M];exact hu,q _ _ H1 o y (Ko g.zm g.same ru)⟩
 ·exact h.elim
noncomputable def CY(C:Addr)(xs:Yg)(c:Pc)(a:PTE)(r:PTA):PTE:=λγ R X=>a γ (λs=>match s.d with
 | .ins g f l=>g=C/\f=xs/\r γ (λh=>c (.ins g f l::h.map S.d) (λs=>R s.back) X) X
 |_=>False) X
def NoFld(m:Str)(xs:Yg):Prop:=∀f:List V,(xs.zip f).lookup m=none
noncomputable def Ay(C:Addr)(m:Str)(sp:Sp)(E:L2.St->XK)(g:TE)(t:TA):TE:=λσ H Q=>g σ H λx H1=>∃a h fs,x=.ref a/\H1 a=some (.ins C h fs)/\fs.lookup m=none/\t σ H1 λf l=>sp (x::(f++[])) l Q (E σ)
def I0{m xs c y a r}(hx:NoFld m xs)(Y:Jw K mg E te a)(N:JI K mg E y r):Jw K mg E (Ay C m (J9 mg c K) E te y) (CY C xs c a r):=by
 intro H0 B H σ γ R X Q h p q x;refine Y H0 B H σ γ _ X _ h p (λs v H1 o n L=>?_) x;have f:=h.grow n;split at o
 ·rename_i C' z ds ed;obtain⟨rfl,rfl,o⟩:=o;have u:=L.rp f.same;rw[ed]at u;obtain⟨b,dx,A,rfl,e1,e2,e3⟩:=Rp.ins_inv u;refine⟨b,dx,_,rfl,e1,hx A,N H0 B H1 σ γ _ X _ f o (λss us H2 h2 l J=>?_) λc H' U S'=>x c H' U (n.trans S')⟩;have g:=f.grow l;rw[WD];refine⟨_,_,X,Rps.cons (Rp.mono l u) (J.rps g.same),h2,λs v H' M t G=>q _ _ H' M ((n.trans l).trans t) (G.back g (n.trans l) t),λe H' T t=>x e H' T ((n.trans l).trans t)⟩
 ·grind
def Pp{m xs c g a r f}(hx:NoFld m xs)(l:Jw K mg (λ_=>f) te a)(h:JI K mg (λ_=>f) g r):Jw K mg (λ_=>f) (Ki C m (J9 mg c K) [] f te g) (CY C xs c a r):=I0 hx l h
noncomputable def R7(C:Addr)(xs:Yg)(c:Pc)(a:PTE)(r:PTA):PTE:=λγ R X=>a γ (λs=>match s.d with
 | .ins g f l=>g=C/\f=xs/\r γ (λh=>c (.ins g f l::h.map S.d) (λs=>R s.back) λ_=>False) X
 |_=>False) X
def UX{m xs c u a r}(hx:NoFld m xs)(Y:Jw K mg E te a)(T:JI K mg E u r):Jw K mg E (Ki C m (J9 mg c K) [] E0 te u) (R7 C xs c a r):=by
 intro H0 B H σ γ R X Q h p q x;refine Y H0 B H σ γ _ X _ h p (λs v H1 l o M=>?_) x;have f:=h.grow o;split at l
 ·rename_i C' A ds ed;obtain⟨rfl,rfl,l⟩:=l;have t:=M.rp f.same;rw[ed]at t;obtain⟨b,dx,G,rfl,e1,e2,e3⟩:=Rp.ins_inv t;refine⟨b,dx,_,rfl,e1,hx G,T H0 B H1 σ γ _ X _ f l (λss us H2 h2 n L=>?_) λc H' U S'=>x c H' U (o.trans S')⟩;have g:=f.grow n;rw[WD];exact⟨_,_,_,Rps.cons (Rp.mono n t) (L.rps g.same),h2,λs v H' N y J=>q _ _ H' N ((o.trans n).trans y) (J.back g (o.trans n) y),λ_ _ z=>z.elim⟩
 ·grind
noncomputable def Nn(i:Nat)(C:Addr)(xs:Yg)(c:Pw)(r:PTA):PTW:=λγ R X=>match γ[i]? with
 |some (some<|.own<|.ins x l f o)=>l=C/\f=xs/\r γ (λn=>match passes n with|some g=>c (.ins x l f o) g (λh d=>R (γ.set i<|some<|.own h) d) (λh e=>X (γ.set i<|some<|.own h) e)|none=>False) (X γ)
 |_=>False
def GC(i:Nat){C m xs c g r}(hx:NoFld m xs)(z:JI K mg E g r):U1 K mg E (Ay C m (spW mg c K) E (UA i) g) (Nn i C xs c r):=by
 intro H0 B H σ γ R X Q G f h q l;unfold Nn at h;split at h
 ·rename_i x C' t cs o;obtain⟨rfl,rfl,h⟩:=h;obtain⟨v,n,a,rfl,_,e1,e2,⟨M,L⟩,Y⟩:=f.slot i _ o;refine⟨_,n,a,M,_,rfl,L,hx _,z H0 B H σ γ _ _ _ f h (λU T H1 p N u=>?_) λc H' A s=>l γ c H' A (f.grow s) (Fr.grow s)⟩;rw[WD];split at p
  ·rename_i y J;exact Tz f G N o n u J p q l
  ·grind
 ·grind
def KE(i:Nat){C m xs c g r f}(hx:NoFld m xs)(h:JI K mg (λ_=>f) g r):U1 K mg (λ_=>f) (Ki C m (spW mg c K) [] f (UA i) g) (Nn i C xs c r):=GC i hx h
noncomputable def F8(i:Nat)(C:Addr)(xs:Yg)(c:Pw)(r:PTA):PTW:=λγ R X=>match γ[i]? with
 |some (some<|.own<|.ins x h f o)=>h=C/\f=xs/\r γ (λl=>match passes l with|some g=>c (.ins x h f o) g (λn d=>R (γ.set i<|some<|.own n) d) (λ_ _=>False)|none=>False) (X γ)
 |_=>False
def Pf(i:Nat){C m xs c g r}(hx:NoFld m xs)(A:JI K mg E g r):U1 K mg E (Ki C m (spW mg c K) [] E0 (UA i) g) (F8 i C xs c r):=by
 intro H0 B H σ γ R X Q J f h q y;unfold F8 at h;split at h
 ·rename_i x C' s cs n;obtain⟨rfl,rfl,h⟩:=h;obtain⟨v,l,a,rfl,_,e1,e2,⟨N,M⟩,e4⟩:=f.slot i _ n;refine⟨_,l,a,N,_,rfl,M,hx _,A H0 B H σ γ _ _ _ f h (λY U H1 o T t=>?_) λc H' G p=>y γ c H' G (f.grow p) (Fr.grow p)⟩;rw[WD];split at o
  ·rename_i u L;exact Tz (X:=λ_ _=>False) f J T n l t L o q λ_ _ _ z=>z.elim
  ·grind
 ·grind
theorem FP{g:Type}:∀{l:List g}{i j:Nat}{x:g},l.Nodup->l[i]?=some x->l[j]?=some x->i=j
 |[],_,_,_,_,h,_=>by simp at h
 |y::r,0,0,_,_,_,_=>rfl
 |y::r,0,j+1,x,f,o,n|y::r,i+1,0,x,f,o,n=>by
  grind
 |y::r,i+1,j+1,x,f,o,n=>W9 (· + 1) (FP (Q3.mp f).2 (by trivial)<|by grind)
def Jz.cell {f b ds es us} (env:Jz K H0 B H σ γ) (J:γ[i]?=some (some<|.own<|.ins x C xs f)) (s:f[j]?=some (b,ds)) (r:Rps K (off (zof B γ σ) H) es us) :
  Jz K H0 B (upd H b<|.lst us) σ (γ.set i<|some<|.own<|.ins x C xs<|f.set j (b,es))/\Fr B H σ γ (upd H b<|.lst us) σ (γ.set i<|some<|.own<|.ins x C xs<|f.set j (b,es)):=by
 obtain⟨v,U,a,rfl,e0,e1,e2,⟨dx,e3⟩,e4,Y⟩:=env.slot i _ J;subst e1;have l:=WA s
 have L:a≠b:=λz=>by
  obtain⟨Q,o,_⟩:=e4 _ l;rw[←show a=b from z,e3]at o
  cases o
 have em:(f.set j (b,es)).map (·.1)=f.map (·.1):=by
  apply List.ext_getElem?;intro k;rw[Ww,Ww,List.getElem?_set];by_cases e:j=k
  ·subst e;rw[Wm rfl,Wm ((WO.mp s).1),s];rfl
  ·rw[Wo e]
 have M:(f.set j (b,es)).map (λc=>V.ref c.1)=f.map λc=>V.ref c.1:=by
  have:=W9 (List.map V.ref) em
  rw[Qd,Qd]at this;exact this
 have adr:∀c,(O.ins a C xs<|f.set j (b,es)).adr a c->(O.ins a C xs f).adr a c:=λc g=>by
  rcases g with g|⟨d,hd,g⟩
  ·exact .inl g
  ·have:d.1∈(f.set j (b,es)).map (·.1):=List.mem_map_of_mem hd
   rw[em]at this;obtain⟨d',y,p⟩:=WM.mp this;exact .inr ⟨d',y,g.trans p.symm⟩
 have t:∀c,(O.ins a C xs f).adr a c->zof B γ σ c:=λc g=>.inr ⟨i,_,a,J,U,g⟩
 have So:Same (off (zof B γ σ) H) (off (zof B (γ.set i<|some<|.own<|.ins a C xs<|f.set j (b,es)) σ)<|upd H b<|.lst us):=λc u h=>by
  obtain⟨y,p⟩:=Xz h;have A:=λz=>p (t c<|.inr ⟨_,l,z⟩);refine Uj (by rw[JF A];exact y) λz=>p ?_;rcases z with z|⟨k,fs,a',k1,k2,T⟩
  ·exact .inl z
  ·rcases Ua k1 with⟨N,q,_⟩|⟨_,q⟩
   ·subst N;cases q
    exact t c (adr c T)
   ·exact .inr ⟨k,fs,a',q,k2,T⟩
 refine env.change J U (λc u hu n=>?_) (λc g=>?_) (λc g=>.inl (adr c g)) ⟨rfl,by rw[WX];exact e2,⟨dx,?_⟩,λc g=>?_,by rw[em];exact Y⟩
 ·rw[JF λz=>n (.inr ⟨_,l,z⟩)];exact hu
 ·by_cases z:c=b
  ·rw[z,Um];trivial
  ·rw[JF z];exact env.zm c (t c g)
 ·rw[JF L,M];exact e3
 ·obtain⟨k,hk,N⟩:=List.getElem_of_mem g;have G:(f.set j (b,es))[k]?=some c:=by rw[Wj hk,N]
  rcases Ua G with⟨_,q,_⟩|⟨nk,q⟩
  ·subst q;exact⟨us,Um,Rps.mono So r⟩
  ·obtain⟨Q,o,w2⟩:=e4 c (WA q)
   have A:=λz=>nk (by
    have h1:(f.map (·.1))[k]?=some b:=by rw[Ww,q];exact W9 some z
    have h2:(f.map (·.1))[j]?=some b:=by rw[Ww,s];rfl
    exact FP Y h1 h2)
   exact⟨Q,by rw[JF A];exact o,Rps.mono So w2⟩
noncomputable def FV(i j:Nat)(C:Addr)(xs:Yg)(a:PTE):PTW:=λγ R X=>match γ[i]? with
 |some (some<|.own<|.ins x h f g)=>h=C/\f=xs/\∃c,g[j]?=some c/\a γ (λs=>match s.shd with
  |some d=>c.2.length<10000000/\R (γ.set i<|some<|.own<|.ins x h f<|g.set j (c.1,c.2++[d])) .non
  |none=>False) (X γ)
 |_=>False
def Bi(i j:Nat){C f xs a}(p:Cls K C)(hn:NoAttr K C f)(hj:FldAt f xs j)(ha:Jw K mg E te a):U1 K mg E (tBM K "list" NC (TK K (UA i) f)<|Ud te UD) (FV i j C xs a):=by
 intro H0 B H σ γ R X Q hB g h q N;unfold FV at h;split at h
 ·rename_i x C' L cs G;obtain⟨rfl,rfl,c,r,h⟩:=h;obtain⟨v,Y,b,rfl,_,e1,e2,⟨dx,e3⟩,e4,e5⟩:=g.slot i _ G;obtain⟨t,A,y⟩:=e4 c (WA r);refine⟨_,Y,b,_,dx,_,V.ref c.1,rfl,e3,p,hn,?_,.inl ⟨rfl,t,SqL.of A⟩,ha H0 B H σ γ _ _ _ g h (λs u H1 o n M=>?_) λc H' p J=>N γ c H' p (g.grow J) (Fr.grow J)⟩
  ·rw[hj _ (by grind),Ww,r];rfl
  ·have l:=g.grow n;split at o
   ·rename_i d ed;refine⟨c.1,t,u,rfl,rfl,n _ _ A,by rw[y.len];exact Nat.lt_trans o.1 (by decide),?_⟩;obtain⟨U,T⟩:=l.cell G r (Rps.append (Rps.mono (JB n λ_ _ _ z=>z) y)<|.cons (M.shd l.same g.zm n ed) .nil);exact q _ _ _ _ o.2 U ((Fr.grow n).trans T) .non
   ·exact o.elim
 ·exact h.elim
noncomputable def As(i j:Nat)(C:Addr)(xs:Yg):PTW:=λγ R _=>match γ[i]? with
 |some (some<|.own<|.ins x h f g)=>h=C/\f=xs/\∃c d,g[j]?=some c/\c.2[c.2.length-1]?=some d/\R (γ.set i<|some<|.own<|.ins x h f<|g.set j (c.1,c.2.dropLast)) d
 |_=>False
def Rps.dropLast:∀{ds}{vs:List V},Rps K H ds vs->Rps K H ds.dropLast vs.dropLast:=by
 intro ds
 induction ds with
 |nil=>
  intro _ h;cases h
  exact .nil
 |cons _ _ f=>
  intro _ h;cases h with
  |cons h r=>
   cases r with
   |nil=>exact .nil
   |cons c e=>exact .cons h (f<|.cons c e)
def NW(i j:Nat){C f xs}(M:Cls K C)(J:NoAttr K C f)(L:FldAt f xs j):U1 K mg E (BG K "list" Sn<|TK K (UA i) f) (As i j C xs):=by
 intro H0 B H σ γ R X Q hB g h q qx;unfold As at h;split at h
 ·rename_i x C' t cs s;obtain⟨rfl,rfl,c,d,n,N,h⟩:=h;obtain⟨v,A,b,rfl,_,e1,e2,⟨Y,U⟩,T,e5⟩:=g.slot i _ s;obtain⟨o,p,l⟩:=T c (WA n);obtain⟨u,G,y⟩:=l.get N;refine⟨_,A,b,_,Y,_,V.ref c.1,rfl,U,M,J,?_,.inl ⟨rfl,o,SqL.of p⟩,c.1,o,u,rfl,rfl,p,by rw[l.len];exact G,?_⟩
  ·rw[L _ (by grind),Ww,n];rfl
  ·obtain⟨z,r⟩:=g.cell s n (Rps.dropLast l);exact q _ _ _ _ h z r (Rp.mono r.off y)
 ·grind
def PutAt(f:Str)(xs:Yg):Prop:=∀(g:List V) (y:V),xs.length=g.length->U4 f y (xs.zip g)=(xs++[f]).zip (g++[y])
noncomputable def Zbl(i:Nat)(C:Addr)(f:Str)(xs:Yg)(a:PTE):PTS:=λR γ=>a γ (λs=>match s with
 | .own (.lst l)=>(match γ[i]? with
  |some (some<|.own<|.ins x h g n)=>h=C/\g=xs/\xs.length<1000/\∀b,R.nx (γ.set i<|some<|.own<|.ins x h (xs++[f]) (n++[(b,l)]))
  |_=>False)
 |_=>False) (R.ex γ)
def B4(i:Nat){C f xs a}(g:Cls K C)(hn:NoAttr K C f)(hp:PutAt f xs)(ha:Jw K mg E te a):JA K mg E (AJ K (UA i) te f) (Zbl i C f xs a):=by
 intro H0 B H σ γ R D hB p h e;refine ha H0 B H σ γ _ _ _ p h (λs v H1 A N t1=>?_) λc H' g S'=>e.ex σ γ c H' g (p.grow S') (Fr.grow S');split at A
 ·rename_i ds;split at A
  ·rename_i x L o r hi;obtain⟨rfl,rfl,hl,A⟩:=A;obtain⟨u,Y,b,rfl,e0,e1,e2,⟨dx,e3⟩,e4,e5⟩:=p.slot i _ hi;subst e1;obtain⟨l,rfl,J,vs,l1,l2⟩:=t1;have J:=J l rfl;refine⟨_,Y,b,_,dx,_,rfl,N _ _ e3,g,hn,?_,?_⟩
   ·rw[List.length_zip,Wg];lia
   ·rw[hp _ _ (by rw[Wg];exact e2)]
    have nl:∀c∈r,c.1≠l:=λc g=>by
     obtain⟨ws,G,_⟩:=e4 c g;exact Xm G J
    have nb:∀c∈r,c.1≠b:=λc g z=>by
     obtain⟨ws,G,_⟩:=e4 c g;rw[z,e3]at G;cases G
    have Q:∀c,(O.ins b L o r).adr b c->zof B γ σ c:=λc g=>.inr ⟨i,_,b,hi,Y,g⟩
    have key:∀c u,H1 c=some u->¬(zof B γ σ c\/c=l)->¬zof B (γ.set i<|some<|.own<|.ins b L (o++[f]) (r++[(l,ds)])) σ c:=λc u _ n z=>by
     rcases z with z|⟨k,fs,a',k1,M,t⟩
     ·exact n (.inl<|.inl z)
     ·rcases Ua k1 with⟨ek,q,_⟩|⟨_,q⟩
      ·subst ek;cases q
       rw[Y]at M;cases M
       rcases t with t|⟨d,hd,t⟩
       ·exact n (.inl<|Q c<|.inl t)
       ·rcases WC.mp hd with hd|hd
        ·exact n (.inl<|Q c<|.inr ⟨d,hd,t⟩)
        ·rw[Wl]at hd;subst hd;exact n (.inr t)
      ·exact n (.inl<|.inr ⟨k,fs,a',q,M,t⟩)
    have So:Same (off (λc=>zof B γ σ c\/c=l) H1) (off (zof B (γ.set i<|some<|.own<|.ins b L (o++[f]) (r++[(l,ds)])) σ)<|upd H1 b<|.ins L dx ((o++[f]).zip ((r.map λc=>V.ref c.1)++[.ref l]))):=λc u h=>by
     obtain⟨U,T⟩:=Xz h;exact Uj (by rw[JF λz=>T (.inl<|Q c<|.inl z)];exact U) (key c u U T)
    have S0:Same (off (zof B γ σ) H) (off (λc=>zof B γ σ c\/c=l) H1):=JB N λc u g z y=>y.elim z λy=>by rw[y,J]at g;cases g
    obtain⟨k1,M⟩:=p.change (o':=.ins b L (o++[f]) (r++[(l,ds)])) (H':=upd H1 b (.ins L dx ((o++[f]).zip ((r.map λc=>V.ref c.1)++[.ref l])))) hi Y
     (λc u hu n=>by rw[JF λz=>n (.inl z)];exact N _ _ hu)
     (λc g=>by
      by_cases z:c=b
      ·rw[z,Um];trivial
      ·rw[JF z];exact(p.grow N).zm c (Q c g))
     (λc g=>by
      rcases g with g|⟨d,hd,g⟩
      ·exact .inl (.inl g)
      ·rcases WC.mp hd with hd|hd
       ·exact .inl (.inr ⟨d,hd,g⟩)
       ·rw[Wl]at hd;subst hd;exact .inr (by rw[show c=l from g];exact J))
     ⟨rfl,by rw[Wr,Wr,e2];rfl,⟨dx,by rw[Um,W6];rfl⟩,λc g=>by
      rcases WC.mp g with g|g
      ·obtain⟨ws,G,w2⟩:=e4 c g;exact⟨ws,by rw[JF (nb c g)];exact N _ _ G,Rps.mono So (Rps.mono S0 w2)⟩
      ·rw[Wl]at g;subst g;exact⟨vs,by rw[JF (λz=>(Xm e3 J) z.symm)];exact l1,Rps.mono So l2⟩,by
      rw[W6,List.nodup_append]
      exact⟨e5,by simp,λc g d hd z=>by
       obtain⟨c',U,T⟩:=WM.mp g
       have:d=l:=by simpa using hd
       exact nl c' U (T.trans<|z.trans this)⟩⟩
    exact e.nx _ _ _ (A l) k1 M
  ·exact A.elim
 ·exact A.elim
def Gx{c}{L l}{us}{R:S->Prop}{X:XR}{Q:VK}{Ec}(env:Jz K H0 B H σ γ)(p:Same H H1)(N:TVs K (zof B γ σ) H0 H H1 L us)(M:passes L=some l)(h1:∀x,c (.ins x C [] []) l (λo' d=>d=.non/\R (.own o')) (λ_ e=>X e))(q:∀s v H',R s->Same H H'->TV K (zof B γ σ) H0 H H' s v->Q v H')(U:∀c H',X c->Same H H'->XE mg Ec c H') :
  ∀x h,H1 x=none->H1 h=none->h≠x->spW mg c K (.ref x::us) (upd (upd H1 h<|.own x) x<|.ins C h []) (λv H2=>v=.non/\Q (.ref x) H2) Ec:=by
 have f:=env.grow p;intro x h n G Y
 have t:Same H1 (upd (upd H1 h<|.own x) x<|.ins C h []):=λb o e=>by
  rwa[JF (Xm e n),JF (Xm e G)]
 have r:∀o' H',After K (zof B γ σ) (upd (upd H1 h<|.own x) x<|.ins C h []) x (.ins x C [] []) o' H'->Same H1 H'/\∀b,o'.adr x b->H b=none:=λo' H' A=>by
  refine⟨λb o e=>A.same b o (Uj (t b o e) λz=>?_),λb u=>?_⟩
  ·rcases z with z|⟨c,g,_⟩
   ·rw[z,n]at e;cases e
   ·cases g
  ·rcases A.new b u with(z|⟨c,g,_⟩)|z
   ·rw[z];exact p.free n
   ·cases g
   ·exact p.free (t.free z)
 refine⟨.ins x C [] [],x,l,us,zof B γ σ,_,_,rfl,λb u=>⟨X0 t (f.zm b u),λz=>?_⟩,⟨rfl,rfl,⟨h,Um⟩,(λc g=>by cases g),List.nodup_nil⟩,?_,Th M,h1 x,λo' d v H' J A T=>?_,λo' e H' hX A=>?_⟩
 ·rcases z with z|⟨c,g,_⟩
  ·have:=f.zm b u
   rw[z,n]at this;exact this
  ·cases g
 ·refine N.pass f.same env.zm p (λb o e=>Uj (t _ _<|f.same b o e) λz=>?_) (JB t λb o e z y=>?_) M
  ·rcases z with z|⟨c,g,_⟩
   ·rw[z,(f.same).free n]at e;cases e
   ·cases g
  ·rcases y with y|y|⟨c,g,_⟩
   ·exact z y
   ·rw[y,n]at e;cases e
   ·cases g
 ·obtain⟨rfl,J⟩:=J;obtain⟨k1,k2⟩:=r o' H' A;exact⟨Rp.non_inv T,q _ _ H' J (p.trans k1) ⟨x,rfl,k2,A.at_⟩⟩
 ·exact U e H' hX (p.trans (r o' H' A).1)
noncomputable def L3(C:Addr)(c:Pw)(r:PTA):PTE:=λγ R X=>r γ (λg=>match passes g with|some f=>∀x,c (.ins x C [] []) f (λh d=>d=.non/\R (.own h)) (λ_ _=>False)|none=>False) X
def RC{g r}(s:JI K mg E g r):Jw K mg E (NI C (spW mg c K) [] E0 g) (L3 C c r):=by
 intro H0 B H σ γ R X Q f p q o;refine s H0 B H σ γ _ X _ f p (λx v H1 h u l=>?_) o;split at h
 ·rename_i n t;rw[WD];exact Gx f u l t h q λ_ _ z=>z.elim
 ·grind
end
def P0{f:Type}{us:List f}(h:us.length=1):∃a,us=[a]:=List.length_eq_one_iff.mp h
def Tg{f:Type}{us:List f}(h:us.length=2):∃a b,us=[a,b]:=by
 cases us with
 |nil=>grind
 |cons a r=>obtain⟨b,rfl⟩:=P0 (by simpa using h);exact⟨a,b,rfl⟩
def Tu{f:Type}{us:List f}(h:us.length=3):∃a b c,us=[a,b,c]:=by
 cases us with
 |nil=>grind
 |cons a r=>obtain⟨b,c,rfl⟩:=Tg (by simpa using h);exact⟨a,b,c,rfl⟩
def BB{f:Type}{us:List f}(h:us.length=4):∃a b c d,us=[a,b,c,d]:=by
 cases us with
 |nil=>grind
 |cons a r=>obtain⟨b,c,d,rfl⟩:=Tu (by simpa using h);exact⟨a,b,c,d,rfl⟩
def Za5{f:Type}{us:List f}(h:us.length=5):∃a b c d e,us=[a,b,c,d,e]:=by
 cases us with
 |nil=>grind
 |cons a r=>obtain⟨b,c,d,e,rfl⟩:=BB (by simpa using h);exact⟨a,b,c,d,e,rfl⟩
structure JO (K:ZX) (W:Addr->Prop) (x q:Str) (st:Stmt) (ps:Yg):Prop where
 ex:∃f fd,Fun K x q st f fd/\W f/\Binds K fd ps []
structure Xf (P:Program) (w:World) (K:ZX) (mg:Yb) (base:Heap) (CX:CXT) (k:Nat) (W:Addr->Prop) (ps:Yg) (sp:Sp):Prop where
 ex:∃f fd,U3 P w K mg base CX k f fd ps sp/\W f/\Binds K fd ps []
section
variable {P:Program}{w:World}{K:ZX}{mg:Yb}{base:Heap}{W:Addr->Prop}
def JO.ok {st N ps k sp} (D:JO K W x q st ps) (S:J1 N ps (Jy st)) (len:∀vs H Q E,sp vs H Q E->vs.length=ps.length)
  (l:∀f g A outer s H vs Q E,J7 k (A.deeper<|envOfC q (Jy st) s.heap.objs.size f g)->sp vs H Q E->
   ∃t,PSs (JX CX0 P w K mg base N q (Jy st) f g A outer s H E).nox (JT st) t/\t {nx:=λ_ H'=>Q .non H',rt:=Q} (start N vs) H):Xf P w K mg base CX0 (k+1) W ps sp:=by
 obtain⟨f,r,F,o,p⟩:=D.ex;exact⟨f,r,F.ok S len λg A outer s H vs Q E n h=>l f g A outer s H vs Q E n h,o,p⟩
def JO.okX {st N ps k sp} (D:JO K W x q st ps) (S:J1 N ps (Jy st)) (len:∀vs H Q E,sp vs H Q E->vs.length=ps.length)
  (h:∀f g A outer s H vs Q E,J7 k (A.deeper<|envOfC q (Jy st) s.heap.objs.size f g)->sp vs H Q E->
   ∃t,PSs (JX (ExcR.CXe P w) P w K mg base N q (Jy st) f g A outer s H E) (JT st) t/\t {nx:=λ_ H'=>Q .non H',rt:=Q} (start N vs) H):Xf P w K mg base (ExcR.CXe P w) (k+1) W ps sp:=by
 obtain⟨f,C,F,u,v⟩:=D.ex;obtain⟨oc,B,kV,y,z,J,g,G,o,rfl,p,n⟩:=F.ex;exact⟨f,_,NY p n S len λA outer s H vs Q E r l=>h f g A outer s H vs Q E r l,u,v⟩
def Lq:US (ExcR.CXe P w) X E0:=λ_ _ _ _ _ _ _ h=>by
 obtain⟨a,T,C,f,g,_,_,z⟩:=h
 grind
end
section
variable {X:Cx}{CX:CXT}{k:Nat}{Cc:Addr}{ps:Yg}{sp:Sp}{E:XK}{ES:L2.St->XK}{x m:Str}{p pos apos:Pos}{e o:Expr}{es:Yh}{ta:TE}{t:TA}
def Xw{pl}(C:Xf X.prog X.w X.K X.mg X.base CX k (JP X.K Cc m) ps sp)(c:Cls X.K Cc)(r:J7 k X.A)(hx:US CX X E)(u:PE X o ta)(y:PA X (e::es) t)(g:autoParam (starEach (e::es) X.env=(false,eval e X.env)::starEach es X.env) au_0)(h:autoParam ((backTo pos<|starEach es X.env).any (·.1)=false) au_0)
  (n:autoParam (eval (.Call (.Attribute o m apos) (e::es) [] pos) X.env=(do
   let l ←eval o X.env
   standAt apos.atName
   let (f,first) ←holding [l] (getMethod l m pl)
   callWith pos f first (backTo pos<|starEach (e::es) X.env) (backToKw pos<|keywordEach [] X.env))) au_0) :
  PE X (.Call (.Attribute o m apos) (e::es) [] pos) (Ki Cc m sp [] E ta t):=by
 obtain⟨f,z,F,s,v⟩:=C.ex;exact Lf u c s F r v .nil hx y g h n
def Us(C:Xf X.prog X.w X.K X.mg X.base CX k (JP X.K Cc m) ps sp)(c:Cls X.K Cc)(l:J7 k X.A)(hx:US CX X E)(r:PE X o ta)
  (h:autoParam (eval (.Call (.Attribute o m apos) [] [] pos) X.env=(do
   let g ←eval o X.env
   standAt apos.atName
   let (f,first) ←holding [g] (getMethod g m u)
   callWith pos f first (backTo pos<|starEach [] X.env) (backToKw pos<|keywordEach [] X.env))) au_0) :
  PE X (.Call (.Attribute o m apos) [] [] pos) (Ki Cc m sp [] E ta UD):=by
 obtain⟨f,v,F,n,s⟩:=C.ex;exact HZ r c n F l s .nil hx h
def G6(C:Xf X.prog X.w X.K X.mg X.base CX k (Mk X.K Cc) ps sp)(n:X.mg x=some (.ref Cc))(l:J7 (k+1) X.A)(hx:US CX X E)(v:PA X (e::es) t)(r:autoParam (Gl X x) au_0)(h:autoParam ((x==("__debug__" : Str))=false) au_1)(s:autoParam (starEach (e::es) X.env=(false,eval e X.env)::starEach es X.env) au_0)(g:autoParam ((backTo pos<|starEach es X.env).any (·.1)=false) au_0) :
  PE X (.Call (.Name x p) (e::es) [] pos) (NI Cc sp [] E t):=by
 obtain⟨f,y,F,M,u⟩:=C.ex;exact GH M F l r n u .nil hx v h s g
end
abbrev PTF:=Γ->Str->(Str->Prop)->XR->Prop
section
variable {K:ZX}{mg:Yb}{E:L2.St->XK}{t:ExcR.TF}{p:PTF}{te:TE}{a:PTE}
def KF(K:ZX)(mg:Yb)(E:L2.St->XK)(t:ExcR.TF)(p:PTF):Prop:=∀(n:Hp) (B:Addr->Prop) (H:Hp) (h:L2.St) (l:Γ) (f:Str) (R:Str->Prop) (X:XR) (Q:Str->Hp->Prop),Jz K n B H h l->p l f R X->
 (∀x g,R x->Same H g->Q x g)->(∀c g,X c->Same H g->XE mg (E h) c g)->t h H f Q
noncomputable def G7:PTF:=λ_ f R _=>f.length<=sizeLine/\R f
def Kc:KF K mg E ExcR.AR G7:=λo B H l n f R X Q g h q _=>⟨h.1,q _ H h.2 (Same.refl _)⟩
noncomputable def Gv(x:Str)(p:PTF):PTF:=λg f R X=>(f++x).length<=sizeLine/\p g (f++x) R X
def UV(h:KF K mg E t p):KF K mg E (ExcR.Ep x t) (Gv x p):=λs B H l n r R X Q f g q o=>⟨g.1,h s B H l n _ R X Q f g.2 q o⟩
noncomputable def Hk(a:PTE)(p:PTF):PTF:=λg f R X=>a g (λs=>match s.d with
 | .int i=>i.natAbs.log2<1920/\(f++(Str.ofString<|toString i)).length<=sizeLine/\p g (f++Str.ofString (toString i)) R X
 | .str x=>x.length<=sizeLine/\(f++x).length<=sizeLine/\p g (f++x) R X
 |_=>False) X
def Kg(N:Jw K mg E te a)(h:KF K mg E t p):KF K mg E (ExcR.FS te t) (Hk a p):=λC B H w y L R X Q o M q z=>by
 refine N C B H w y _ X _ o M (λs v G g r J=>?_) z;have f:=o.grow r;have u:=J.rp f.same;split at g
 ·rename_i i ei;rw[ei]at u;exact .inl ⟨i,u.int_inv,g.1,g.2.1,h C B G w y _ R X Q f g.2.2 (λx n hx l=>q x n hx (r.trans l)) λc n A l=>z c n A (r.trans l)⟩
 ·rename_i x T;rw[T]at u;exact .inr ⟨x,u.str_inv,g.1,g.2.1,h C B G w y _ R X Q f g.2.2 (λx n hx l=>q x n hx (r.trans l)) λc n A l=>z c n A (r.trans l)⟩
 ·grind
noncomputable def pF(p:PTF):PTE:=λf R X=>p f Str.empty (λx=>R (.sh<|.str x)) X
def XS(h:KF K mg E t p):Jw K mg E (ExcR.tF t) (pF p):=λs B H g l R X Q f o q n=>
 h s B H g l _ _ X _ f o (λx u hx r=>q _ _ u hx r (.str x)) n
end
open M
noncomputable abbrev plD(f:ZY):D:=.lst (f.map prD)
noncomputable abbrev dD(q:Str×ZZ):D:=.tup (.str q.1::q.2.map D.int)
noncomputable abbrev vF:Yg:=["book","fields","wished"]
noncomputable abbrev vO(C x b1 h g:Addr)(bk:List (Str×ZZ))(fs f:List (ZY)):O:=.ins x C vF [(b1,bk.map dD),(h,fs.map plD),(g,f.map plD)]
noncomputable abbrev PN(C:Addr)(bk:List (Str×ZZ))(fs f:List (ZY)):D:=.ins C vF [.lst (bk.map dD),.lst (fs.map plD),.lst (f.map plD)]
def Fj{g:Type}(f:g->D)(xs:List g)(x:g):atI ((xs++[x]).map f) (-1)=some (f x):=by
 refine Pg ?_;unfold atI ixN;rw[Wo (by lia),Wm (by grind)];show(xs++[x])[_]?=some x;have e:((-1:Int)+((xs++[x]).length:Int)).toNat=xs.length:=by grind
 rw[e,WH (Wn _),QS];rfl
def Uk(e:Option Str)(X:Str->Prop)(R:Prop):Prop:=match e with|some c=>X c|none=>R
noncomputable def KJ(h:Int):Option Str:=if 1<=h/\h<=10 then none else some "BadHolder"
noncomputable def Kh:ZY->Option Str
 |[]=>none
 |q::r=>if ¬(1<=q.1/\q.1<=10)then some "BadHolder" else if ¬(1<=q.2/\q.2<=1000)then some "BadWidth" else Kh r
noncomputable def KB(ps:ZY):Option Str:=if 40<ps.length then some "TooManyStrips" else Kh ps
theorem A6:∀{ps:ZY},Field ps->Kh ps=none
 |[],_=>rfl
 |q::r,h=>by
  obtain⟨n,l,g,f⟩:=h q W7;unfold Kh;rw[Wo (λz=>z ⟨n,l⟩),Wo (λz=>z ⟨g,f⟩)];exact A6 λx hx=>h x (W0 _ hx)
def R6(h:Field ps)(f:ps.length<=40):KB ps=none:=by
 unfold KB;rw[Wo (by lia)];exact A6 h
noncomputable def Ts(ps:ZY)(p:Int):Option Str:=if p<1\/(ps.length:Int)<p then some "NoStrip" else none
noncomputable def J6(ps:ZY)(p:Int):Int×Int:=ps.getD (p-1).toNat (0,0)
noncomputable def Uy(ps:ZY)(p h:Int):Option Str:=if p<1\/(ps.length:Int)<p then some "NoStrip" else if ¬(1<=h/\h<=10)then some "BadHolder" else if (J6 ps p).1=h then some "OwnStrip" else none
noncomputable def XD(ps:ZY)(p h:Int):ZY:=ps.set (p-1).toNat (h,(J6 ps p).2)
def CQ{ps:ZY}{p:Int}{x}(g:1<=p)(f:p<=ps.length):cutD (ps.map prD) none (some (p-1))++[prD x]++cutD (ps.map prD) (some p) none=(ps.set (p-1).toNat x).map prD:=by
 rw[K7,K7,ND ps (by lia),Xv ps (by lia)];have e:p.toNat=(p-1).toNat+1:=by lia
 rw[e,List.set_eq_take_append_cons_drop,Wm (by lia),W6,WR,List.append_assoc];rfl
def XH{p}(g:1<=p)(f:p<=ps.length):atI (ps.map prD) (p-1)=some (prD<|J6 ps p):=by
 rw[KA (by lia) (by lia)];unfold J6;rw[Wv,Wj (by lia)];rfl
def Zbn(ps:ZY)(p h:Int):(XD ps p h).length=ps.length:=WX ..
def GG(f:Field ps)(e:Uy ps p h=none):Field (XD ps p h):=by
 unfold Uy at e;split at e
 ·cases e
 ·split at e
  ·cases e
  ·rename_i r o;have g:(p-1).toNat<ps.length:=by lia
   intro q hq;rcases List.mem_or_eq_of_mem_set hq with hq|rfl
   ·exact f q hq
   ·have:J6 ps p∈ps:=by
     unfold J6;rw[Wv,Wj g]
     grind
    obtain⟨_,_,n,l⟩:=f _ this;lia
def Ro(q:Int×Int)(r:ZY):Kh (q::r)=if ¬(1<=q.1/\q.1<=10)then some ("BadHolder" : Str)else if ¬(1<=q.2/\q.2<=1000)then some ("BadWidth" : Str)else Kh r:=rfl
def FI(q:Str×ZZ):imm (dD q)=true:=by
 unfold dD imm U6;rw[Fz];rfl
theorem CH:∀(bk:List (Str×ZZ)),U6 (bk.map dD)=true
 |[]=>rfl
 |q::r=>by
  rw[WR];unfold U6;rw[FI,CH r];rfl
def T7(q:Str×ZZ):arg (dD q)=.sh (dD q):=by
 unfold arg;rw[FI]
def B9:X2 N (dD q::ds)=some (.sh<|dD q)::(ds.map (λd=>some (arg d))++List.replicate (N.length-(ds.length+1)) none):=by
 unfold X2;rw[WR,T7];rfl
def N6{q:Str×ZZ}{i}(h:i<q.2.length):atI (.str q.1::q.2.map D.int) (1+(i:Int))=some (.int q.2[i]):=PB (by grind)
noncomputable def Ui(ps:ZY)(p w:Int):Option Str:=if p<1\/(ps.length:Int)<p then some "NoStrip" else if w<1\/(J6 ps p).2<=w then some "BadPart" else if 40<=ps.length then some "TooManyStrips" else none
noncomputable def Xe(ps:ZY)(p w:Int):ZY:=ps.take (p-1).toNat++[((J6 ps p).1,w),((J6 ps p).1,(J6 ps p).2-w)]++ps.drop p.toNat
noncomputable def P3(ps:ZY)(p w:Int):List Bool:=if p<1\/(ps.length:Int)<p then[true,true,false,false]else if w<1\/(J6 ps p).2<=w then[true,false,true,false]else if 40<=ps.length then[true,false,false,true]else[]
def Do(ps:ZY)(p w:Int):(Ui ps p w=some ("NoStrip" : Str)/\P3 ps p w=[true,true,false,false])\/(Ui ps p w=some ("BadPart" : Str)/\P3 ps p w=[true,false,true,false])\/(Ui ps p w=some ("TooManyStrips" : Str)/\P3 ps p w=[true,false,false,true])\/
  (Ui ps p w=none/\P3 ps p w=[]/\1<=p/\p<=ps.length/\1<=w/\w<(J6 ps p).2/\ps.length<40):=by
 unfold Ui P3;by_cases c:p<1\/(ps.length:Int)<p
 ·grind
 ·grind
def PD{p}(h:1<=p)(g:p<=ps.length):J6 ps p∈ps:=by
 have f:(p-1).toNat<ps.length:=by lia
 unfold J6;rw[Wv,Wj f]
 grind
def EG{p w}(f:1<=p):cutD (ps.map prD) none (some (p-1))++[prD ((J6 ps p).1,w),prD ((J6 ps p).1,(J6 ps p).2-w)]++cutD (ps.map prD) (some p) none=(Xe ps p w).map prD:=by
 rw[K7,K7,ND ps (by lia),Xv ps (by lia)];unfold Xe
 grind
def GT{p w}(g:1<=p)(f:p<=ps.length):(Xe ps p w).length=ps.length+1:=by
 unfold Xe
 grind
def IA{p w:Int}(f:Field ps)(h:1<=p)(g:p<=ps.length)(n:1<=w)(l:w<(J6 ps p).2):Field (Xe ps p w):=by
 obtain⟨a1,a2,a3,a4⟩:=f _ (PD h g);intro q hq;rcases WC.mp hq with hq|hq
 ·rcases WC.mp hq with hq|hq
  ·exact f q (List.mem_of_mem_take hq)
  ·grind
 ·exact f q (List.mem_of_mem_drop hq)
end Pu
namespace Pu
open L2 Own
section
variable {K:ZX}{mg:Yb}{E:L2.St->XK}
noncomputable def Rf(a:PTE)(l u:PTO):PTE:=λg R X=>a g (λs=>l g (λlo=>u g (λh=>∃f,TY s.shd=some f/\¬(HT.sIx f.length 0 lo=0/\HT.sIx f.length f.length h=f.length)/\R (.sh<|.tup<|cutD f lo h)) X) X) X
def Br{a l u}(ha:Jw K mg E te a)(hl:Xk K mg E N l)(Y:Xk K mg E T u):Jw K mg E (tSl (NO K) te N T) (Rf a l u):=by
 intro G B H o s R X Q f p q t;refine ha G B H o s _ X _ f p (λx v H1 h1 h U=>?_) t;refine hl G B H1 o s _ X _ (f.grow h) h1 (λlo H2 h2 n=>?_) λc J y C=>t c J y (h.trans C);refine Y G B H2 o s _ X _ ((f.grow h).grow n) h2 (λhi H3 h3 L=>?_) λc J y C=>t c J y ((h.trans n).trans C);have g:=(h.trans n).trans L;obtain⟨ds,e,hn,hR⟩:=h3;cases A:x.shd with
 |none=>rw[A]at e;cases e
 |some d=>
  rw[A]at e;cases d with
  |tup ds'=>
   cases e
   obtain⟨b,M,rfl,hb,r⟩:=Rp.tup_inv ((U.grow<|n.trans L).shd (f.grow g).same f.zm g A);refine⟨b,M,rfl,SqT.of (off_sub _ _ hb),by rw[r.len];exact hn,λm w=>q _ _ _ hR (g.trans<|UP w) ?_⟩;refine .tup (Uj Um λz=>?_) (Rps.mono (JB (UP w) λ_ _ _ z=>z) r.cut)
   have:=X0 g (f.zm m z)
   rw[w]at this;exact this
  |_=>cases e
def NA(f:autoParam (X.K=K) au_0):SlR X (NO K):=by subst f;exact Rr
end
open M
noncomputable def JZ(f:ZY)(a b:Int):Option Str:=if ¬(1<=a/\a<=10)then some "BadHolder" else if ¬(1<=b/\b<=10)then some "BadHolder" else if a=b then some "LikeHolders" else if (a,b)∈f then some "WishStands" else if 20<=f.length then some "TooManyWishes" else none
noncomputable def Uh(f:ZY)(a b:Int):Option Str:=if (a,b)∈f then none else some "NoWish"
noncomputable def KS(f:ZY)(a b:Int):ZY:=f.filter λq=>!decide (q=(a,b))
noncomputable def JW(ps:ZY)(p:Int):Option Str:=if p<1\/(ps.length:Int)<=p then some "NoStrip" else if ¬(J6 ps p).1=(J6 ps (p+1)).1 then some "UnlikeHolders" else if 1000<(J6 ps p).2+(J6 ps (p+1)).2 then some "TooWide" else none
noncomputable def Xh(ps:ZY)(p:Int):ZY:=ps.take (p-1).toNat++[((J6 ps p).1,(J6 ps p).2+(J6 ps (p+1)).2)]++ps.drop (p+1).toNat
def Fs{p}(f:1<=p):cutD (ps.map prD) none (some (p-1))++[prD ((J6 ps p).1,(J6 ps p).2+(J6 ps (p+1)).2)]++cutD (ps.map prD) (some (p+1)) none=(Xh ps p).map prD:=by
 rw[K7,K7,ND ps (by lia),Xv ps (by lia)];unfold Xh
 grind
def Oh{p}(g:1<=p)(f:p<ps.length):(Xh ps p).length+1=ps.length:=by
 unfold Xh
 grind
def RN(f:Field ps)(e:JW ps p=none):Field (Xh ps p):=by
 unfold JW at e;split at e
 ·grind
 split at e
 ·cases e
 split at e
 ·cases e
 obtain⟨a1,a2,a3,a4⟩:=f _ (PD (p:=p) (by lia)<|by lia);obtain⟨b1,l,h,g⟩:=f _ (PD (p:=p+1) (by lia)<|by lia);intro q hq;rcases WC.mp hq with hq|hq
 ·rcases WC.mp hq with hq|hq
  ·exact f q (List.mem_of_mem_take hq)
  ·grind
 ·exact f q (List.mem_of_mem_drop hq)
def EZ(h:Xo f)(e:JZ f a b=none):Xo (f++[(a,b)]):=by
 unfold JZ at e;split at e
 ·cases e
 split at e
 ·cases e
 split at e
 ·cases e
 split at e
 ·cases e
 split at e
 ·cases e
 rename_i u t s n r;obtain⟨p,l,o⟩:=h;refine⟨by rw[Wr,Qi];lia,?_,λq hq=>?_⟩
 ·rw[List.nodup_append];exact⟨l,by simp,λx hx y g z=>by rw[Wl]at g;subst g;exact n (z▸hx)⟩
 ·grind
def LC(h:Xo f):Xo (KS f a b):=
 ⟨Wk (List.length_filter_le _ _) h.1,h.2.1.filter _,λq hq=>h.2.2 q (List.mem_filter.mp hq).1⟩
def GE:Xo []:=by trivial
noncomputable def Zbj(m:ZZ)(k:Int):Int:=1+(k*m.getD 1 0+m.getD 2 0) % 10
noncomputable def Pn(ps:ZY)(p:Int):List Bool:=if p<1\/(ps.length:Int)<=p then[true,true,false,false]else if ¬(J6 ps p).1=(J6 ps (p+1)).1 then[true,false,true,false]else if 1000<(J6 ps p).2+(J6 ps (p+1)).2 then[true,false,false,true]else[]
def F7(ps:ZY)(p:Int):(JW ps p=some ("NoStrip" : Str)/\Pn ps p=[true,true,false,false])\/(JW ps p=some ("UnlikeHolders" : Str)/\Pn ps p=[true,false,true,false])\/(JW ps p=some ("TooWide" : Str)/\Pn ps p=[true,false,false,true])\/
  (JW ps p=none/\Pn ps p=[]/\1<=p/\p<ps.length):=by
 unfold JW Pn;by_cases c:p<1\/(ps.length:Int)<=p
 ·grind
 ·grind
def Hd{p}(g:1<=p)(f:p<ps.length):atI (ps.map prD) p=some (prD<|J6 ps (p+1)):=by
 have:=XH (ps:=ps) (p:=p+1) (by lia) (by lia)
 grind
noncomputable abbrev d3(k:Str)(a b:Int):D:=.tup [.str k,.int a,.int b]
end Pu
namespace Pu
open L2 Own
section
variable {K:ZX}{mg:Yb}{E:L2.St->XK}
noncomputable def El(K:ZX):R2:=λx y H Q=>∃(p q:Addr) (xs f:List V),x=.ref p/\y=.ref q/\SqT K H p xs/\SqT K H q f/\xs.all UO=true/\f.all UO=true/\Q (.bl (!eqL xs f)) H
def EL(t:X.A.units<cLine)(z:autoParam (X.K=K) au_0):OpR X (compareOp .NotEq) (El K):=by
 subst z;intro pins s J H x y v u Q I o n h;obtain⟨p,q,xs,f,rfl,rfl,w,hq,f1,G,k⟩:=h;obtain rfl:=o;obtain rfl:=n;obtain⟨M,l,r,_⟩:=I.tuple w;obtain⟨L,g,p2,_⟩:=I.tuple hq;have T:=l.length;have N:=g.length;refine SeqAt.RcNeAt.tuples r p2 t (λj C B=>BA l g f1 G j C B) _ _ _ _ ⟨.bl (!eqL xs f),H,I,?_,k⟩;show _=Value.bool (!eqL xs f);unfold eqL;by_cases e:xs.length=f.length
 ·grind
 ·grind
def B1:S->S->(S->Prop)->Prop:=λx y R=>∃xs f:ZZ,x.d=.tup (xs.map D.int)/\y.d=.tup (f.map D.int)/\R (.sh<|.bl (!decide (xs=f)))
def Dn{a b}(G:Jw K mg E w a)(C:Jw K mg E t b):Jw K mg E (tOp (El K) w t) (p2 a b B1):=by
 refine Xa G C λH0 H N Z x y v u R Q g s1 hm s r h q=>?_;obtain⟨xs,T,M,L,J⟩:=h;have n:=s.rp g;have l:=r.rp g;rw[M]at n;rw[L]at l;obtain⟨p,Y,rfl,o,A⟩:=Rp.tup_inv n;obtain⟨B,U,rfl,f,z⟩:=Rp.tup_inv l;rw[A.ints]at o;rw[z.ints]at f;refine⟨p,B,_,_,rfl,rfl,SqT.of o,SqT.of f,Ke _,Ke _,?_⟩;rw[Bo];exact q _ _ N J (Same.refl _) (.bl _)
def Ab:List S->(S->Prop)->Prop
 |[s],R=>(match s.d with | .int i=>R (.sh<|.int i) | .bl k=>R (.sh<|.int (if k then 1 else 0))|_=>False)
 |_,_=>False
def Lg(t:JI K mg E n r):Jw K mg E (tCB (λxs H Q=>(∃i,xs=[.int i]/\Q (.int i) H)\/∃k,xs=[.bl k]/\Q (.int (if k then 1 else 0)) H) n) (pCB Ab r):=by
 refine Xr t λz H g Z w u R Q p x y l h q=>?_;unfold Ab at h;split at h
 ·rename_i s;obtain⟨v,rfl,o⟩:=l.one_inv;have f:=o.rp p;split at h
  ·rename_i i e;rw[e]at f;exact .inl ⟨i,by rw[f.int_inv],q _ _ g h (Same.refl _) (.int _)⟩
  ·rename_i k e;rw[e]at f;exact .inr ⟨k,by rw[f.bl_inv],q _ _ g h (Same.refl _) (.int _)⟩
  ·grind
 ·exact h.elim
def Mn(p q:Int×Int):decide ([p.1,p.2]=[q.1,q.2])=decide (p=q):=by grind
def Lz{R}(h:R (.sh<|.bl (!decide (p=q)))):B1 (.sh<|prD p) (.sh<|prD q) R:=by
 refine⟨[p.1,p.2],[q.1,q.2],rfl,rfl,?_⟩;have e:decide ([p.1,p.2]=[q.1,q.2])=decide (p=q):=by grind
 rw[e];omega
end
structure DI (K:ZX) (x:Str) (st:Stmt):Prop where
 ex:∃f fd,PySem.W.nsIn K mainGlobals x=some (some<|.ref f)/\Fun K x x st f fd
structure MI (K:ZX) (C:Addr) (m q:Str) (st:Stmt):Prop where
 ex:∃f fd,PySem.W.findIn K (.ref C) m=some (some<|.ref f)/\PySem.W.isFn K (.ref f)=true/\Fun K m q st f fd
section
variable {K:ZX}{h:Heap}{mg:Yb}
def di{st f oc r s n kV o p g ct}(a:PySem.W.nsIn K mainGlobals x=some (some<|.ref f))(l:K.lookup f=some ⟨oc,r,.func (PySem.W.fnOf x x (Xd st) (JT st) (Jy st) .none kV o p s g ct),n⟩)(c:PySem.W.codeIn K g x=true)(k:PySem.W.keepIn K (.ref f)=true):DI K x st:=⟨f,_,a,Sk l c k⟩
def mi{st f oc r s n kV o p g ct}(a:PySem.W.findIn K (.ref C) m=some (some<|.ref f))(i:PySem.W.isFn K (.ref f)=true)(l:K.lookup f=some ⟨oc,r,.func (PySem.W.fnOf m q (Xd st) (JT st) (Jy st) .none kV o p s g ct),n⟩)(c:PySem.W.codeIn K g q=true)(k:PySem.W.keepIn K (.ref f)=true):MI K C m q st:=⟨f,_,a,i,Sk l c k⟩
def DI.d {st ps} (D:DI K x st) (X:K.In h) (o:h.Ns mainGlobals mg)
  (b:∀kV f l n g ct us,us.length=ps.length->bindArgs (PySem.W.fnOf x x (Xd st) (JT st) (Jy st) .none kV f l n g ct) ⟨us,[]⟩=pure (ps.zip us)):Def K mg x st ps:=
 let ⟨_,_,a,F⟩:=D.ex
 ⟨_,_,F,W8 X o a,F.binds b⟩
def MI.d {m q st ps} (D:MI K C m q st) (e:o=C)
  (b:∀kV f l n g ct us,us.length=ps.length->bindArgs (PySem.W.fnOf m q (Xd st) (JT st) (Jy st) .none kV f l n g ct) ⟨us,[]⟩=pure (ps.zip us)):JO K (JP K o m) m q st ps:=
 let ⟨_,_,a,i,F⟩:=D.ex
 ⟨_,_,F,by rw[e];exact⟨a,i,F.kp⟩,F.binds b⟩
def MI.i {q st ps} (D:MI K C "__init__" q st) (e:p=C) (mk:PySem.W.makesIn K C=true) (n:PySem.W.keepIn K (.ref C)=true)
  (b:∀kV f l o g ct us,us.length=ps.length->bindArgs (PySem.W.fnOf "__init__" q (Xd st) (JT st) (Jy st) .none kV f l o g ct) ⟨us,[]⟩=pure (ps.zip us)):JO K (Mk K p) "__init__" q st ps:=
 let ⟨_,_,a,i,F⟩:=D.ex
 ⟨_,_,F,by rw[e];exact⟨mk,a,i,n⟩,F.binds b⟩
end
def fs{N P f}(r:autoParam (f.kind=.function) au_0)(p:autoParam (f.isCoroutine=false) au_0)(o:autoParam (f.isGenerator=false) au_0)(n:autoParam (N.Nodup) au_5)(l:autoParam (N.take P.length=P) au_0)(h:autoParam (∀x∈P,f.names.lookup x=some .local\/f.names.lookup x=some .cell) au_5)(g:autoParam (∀y∈f.names,y.2≠.free) au_5):J1 N P f:=⟨r,p,o,n,l,h,g⟩
def pz{pos x e te f}(i:Nat)(o:X.N.Nodup)(n:PE X e te)(h:autoParam (X.N[i]?=some x) au_0)(hx:autoParam (Loc X.env.scope x) au_6)(g:autoParam (swapsWith e (some<|.Name x f) pos.line X.env=pure false) au_0)(l:autoParam (X.fn x=true\/X.env.scope.names.lookup x=some .local) au_2) :
  PS X (.Assign [.Name x f] e pos) (To te<|PU i):=Hg o h hx n g l
section
variable {K:ZX}{mg:Yb}{E:L2.St->XK}{H0 H H1 H':Hp}{B Z Z':Addr->Prop}{σ:L2.St}{γ:Γ}
def Jz.named (env:Jz K H0 B H σ γ) (f:γ[i]?=some (some<|.own<|.lst ds)) (g:σ[i]?=some (some<|.ref a)):Jz K H0 B H σ (γ.set i<|some<|.own<|.lsA a ds)/\Fr B H σ γ H σ (γ.set i<|some<|.own<|.lsA a ds):=by
 obtain⟨v,l,b,rfl,t,p,n,r⟩:=env.slot i _ f;rw[g]at l;cases l
 have s:∀b,zof B (γ.set i<|some<|.own<|.lsA a ds) σ b->zof B γ σ b:=λb z=>by
  rcases z with z|⟨j,fs,A,x,w,o⟩
  ·exact .inl z
  ·rcases Ua x with⟨u,q,_⟩|⟨_,e⟩
   ·subst u;cases q
    exact .inr ⟨j,_,a,f,g,o⟩
   ·exact .inr ⟨j,fs,A,e,w,o⟩
 exact env.change f g (λ_ _ h _=>h) (λb h=>by rw[show b=a from h,n];trivial) (λb h=>.inl h) ⟨rfl,p,n,Rps.mono (JB (Same.refl _) λb _ _ z y=>z (s b y)) r⟩
noncomputable def pNm(i:Nat)(p:PTS):PTS:=λR γ=>match γ[i]? with
 |some (some<|.own<|.lst f)=>∀a,p R (γ.set i<|some<|.own<|.lsA a f)
 |_=>p R γ
def LU(i:Nat){t p}(g:JA K mg E t p):JA K mg E t (pNm i p):=by
 intro H0 B H σ γ R D n f h e;unfold pNm at h;split at h
 ·rename_i y l;obtain⟨v,o,b,rfl,r,u,x,w⟩:=f.slot i _ l;obtain⟨s,f1⟩:=f.named l o;exact g H0 B H σ _ R D n s (h b) (e.from f1)
 ·exact g H0 B H σ γ R D n f h e
abbrev Pw2:=O->O->List S->(O->O->D->Prop)->(O->O->Str->Prop)->Prop
def two(o1 f:O)(a1 a2:Addr):Addr->Prop:=λb=>o1.adr a1 b\/f.adr a2 b
noncomputable def Zbt(i j:Nat)(c:Pw2)(r:PTA):PTW:=λγ R X=>match γ[i]?,γ[j]? with
 |some (some<|.own o1),some (some<|.own n)=>r γ (λl=>match passes l with|some h=>c o1 n h (λg f d=>R ((γ.set i<|some<|.own g).set j (some<|.own f)) d) (λg f e=>X ((γ.set i<|some<|.own g).set j (some<|.own f)) e)|none=>False) (X γ)
 |_,_=>False
abbrev PTV:=Γ->(Γ->Bool->Prop)->(Γ->Str->Prop)->Prop
def KY(K:ZX)(mg:Yb)(E:L2.St->XK)(t:TT)(p:PTV):Prop:=∀(H0:Hp) (B:Addr->Prop) (H:Hp) (σ:L2.St) (γ:Γ) (R:Γ->Bool->Prop) (X:Γ->Str->Prop) (Q:Bool->Hp->Prop),(∀b,B b->∃o,H0 b=some o)->Jz K H0 B H σ γ->p γ R X->
 (∀f b H',R f b->Jz K H0 B H' σ f->Fr B H σ γ H' σ f->Q b H')->(∀f c H',X f c->Jz K H0 B H' σ f->Fr B H σ γ H' σ f->XE mg (E σ) c H')->t σ H Q
noncomputable def pVP(p:PTT):PTV:=λγ R X=>p γ (λb=>R γ b) (X γ)
def ME(n:Uq K mg E t p):KY K mg E t (pVP p):=by
 intro H0 B H σ γ R X Q s f h q l;exact n H0 B H σ γ _ _ _ f h (λb H' r g=>q γ b H' r (f.grow g) (Fr.grow g)) λc H' o g=>l γ c H' o (f.grow g) (Fr.grow g)
noncomputable def Zai(p r:PTV):PTV:=λγ R X=>p γ (λf b=>if b=true then R f true else r f R X) X
def HS{p r}(z:KY K mg E t p)(y:KY K mg E u r):KY K mg E (tOr t u) (Zai p r):=by
 intro H0 B H σ γ R X Q x s h q w;refine z H0 B H σ γ _ _ _ x s h (λf b H' G A f1=>?_) w;cases b with
 |true=>grind
 |false=>
  have n:r f R X:=by grind
  exact y H0 B H' σ f _ _ _ x A n (λg b C l v o=>q _ _ _ l v (f1.trans o)) λg c C l v o=>w _ _ _ l v (f1.trans o)
noncomputable def OP(c:PTV)(p q:PTS):PTS:=λR γ=>c γ (λf b=>if b=true then p R f else q R f) R.ex
def Rz{p q}(s:KY K mg E tt c)(r:JA K mg E t p)(hq:JA K mg E u q):JA K mg E (BS tt t u) (OP c p q):=by
 intro H0 B H σ γ R D l n h e;refine s H0 B H σ γ _ _ _ l n h (λf b H' o g f1=>?_) λf c H' o g f1=>e.ex _ _ _ _ o g f1;cases b with
 |true=>
  exact r H0 B H' σ f R D l g (by grind) (e.from f1)
 |false=>
  exact hq H0 B H' σ f R D l g (by grind) (e.from f1)
noncomputable def DG(i:Nat):PTW:=λγ R _=>match γ[i]? with
 |some (some<|.own<|.lsA x f)=>∃d,f[f.length-1]?=some d/\R (γ.set i<|some<|.own<|.lsA x f.dropLast) d
 |some (some<|.own<|.lst f)=>∃d,f[f.length-1]?=some d/\R (γ.set i<|some<|.own<|.lst f.dropLast) d
 |_=>False
def RE(i:Nat):U1 K mg E (BG K "list" Sn<|UA i) (DG i):=by
 intro H0 B H σ γ R X Q J f h q G;unfold DG at h;split at h
 ·rename_i x A n;obtain⟨d,y,h⟩:=h;obtain⟨v,l,b,rfl,t,rfl,us,o,g⟩:=f.slot i _ n;obtain⟨u,s,r⟩:=g.get y;refine⟨_,l,.inl ⟨rfl,us,SqL.of o⟩,b,us,u,rfl,rfl,o,by rw[g.len];exact s,?_⟩;obtain⟨z,p⟩:=f.mutate (es:=.lsA b A.dropLast) (us:=.lst us.dropLast) n l trivial λF H' C w=>⟨rfl,_,w,Rps.mono C (Rps.dropLast g)⟩;exact q _ _ _ _ h z p (Rp.mono p.off r)
 ·rename_i A n;obtain⟨d,y,h⟩:=h;obtain⟨v,l,b,rfl,t,us,o,g⟩:=f.slot i _ n;obtain⟨u,s,r⟩:=g.get y;refine⟨_,l,.inl ⟨rfl,us,SqL.of o⟩,b,us,u,rfl,rfl,o,by rw[g.len];exact s,?_⟩;obtain⟨z,p⟩:=f.mutate (es:=.lst A.dropLast) (us:=.lst us.dropLast) n l trivial λF H' C w=>⟨_,w,Rps.mono C (Rps.dropLast g)⟩;exact q _ _ _ _ h z p (Rp.mono p.off r)
 ·grind
noncomputable def Oo(w:PTW)(k:Int):PTW:=λγ R X=>w γ (λf d=>match d with | .tup g=>∃e,atI g k=some e/\R f e|_=>False) X
def Gb(hw:U1 K mg E te w):U1 K mg E (tOp (λx y H Q=>KC K x y H Q\/KR K x y H Q) te<|tC<|.int k) (Oo w k):=by
 intro H0 B H σ γ R X Q C g h q s;refine hw H0 B H σ γ _ _ _ C g h (λl d v H' f G f1 p=>?_) s;split at f
 ·rename_i J;obtain⟨e,z,f⟩:=f;obtain⟨a,n,rfl,A,r⟩:=Rp.tup_inv p;obtain⟨u,t,o⟩:=r.at z;exact .inr ⟨a,n,k,u,rfl,rfl,SqT.of (off_sub _ _ A),t,q _ _ _ _ f G f1 o⟩
 ·grind
abbrev Pq:=List S->(S->Prop)->(Str->Prop)->Prop
noncomputable def spS(mg:Yb)(c:Pq)(K:ZX):Sp:=λg H Q E=>∃(f:List S) (B:Addr->Prop) (R:S->Prop) (X:Str->Prop),(∀b,B b->Mut (H b))/\TVs K B H H H f g/\(∀s∈f,s.flat)/\c f R X/\
 (∀s v H',R s->Same H H'->TV K B H H H' s v->Q v H')/\∀e H',X e->Same H H'->XE mg E e H'
noncomputable def XY(N:Yg)(f:List S):Γ:=f.map some++List.replicate (N.length-f.length) none
def RS{f us}(A:∀b,B b->Mut (H b))(r:TVs K B H H H f us)(u:∀s∈f,s.flat)(J:f.length<=N.length):Jz K H B H (start N us) (XY N f):=by
 have get:∀i s,(XY N f)[i]?=some (some s)->f[i]?=some s:=λi s h=>by
  unfold XY at h;by_cases l:i<f.length
  ·rw[WI (by rw[Wg];exact l),Ww,Wj l]at h;rw[Wj l];exact W9 some (Wt<|Wt h)
  ·grind
 have noown:∀(i:Nat) g,(XY N f)[i]?≠some (some<|.own g):=λi g h=>u _ (WA<|get i _ h)
 have w:∀b,zof B (XY N f) (start N us) b->B b:=λb z=>by
  rcases z with z|⟨i,g,Q,n,M,L⟩
  ·exact z
  ·exact absurd n (noown i g)
 refine⟨Same.refl _,?_,A,λi j x G g C b n _ _ _ _ _=>absurd n (noown i g),λi s h=>?_⟩
 ·unfold L2.start XY;simp[r.len]
 ·have t:=get i s h;obtain⟨v,p,o⟩:=r.get t;refine⟨v,?_,?_⟩
  ·unfold L2.start;rw[WI (by rw[Wg];exact(WO.mp p).1),Ww,p];rfl
  ·have:=u s (WA t)
   cases s with
   |bor d=>exact o
   |sh d=>exact Rp.mono (JB (Same.refl _) λb _ _ z y=>z (w b y)) o
   |_=>exact this.elim
def RR{t p vs Q C n}(h:spS mg c K vs H Q C)(u:JA K mg (λ_=>C) t p)(U:n<=N.length)(w:∀f R X,c f R X->f.length=n/\p {nx:=λ_=>R (.sh .non),rt:=R,ex:=λ_ e=>X e} (XY N f)):t {nx:=λ_ H'=>Q .non H',rt:=Q} (start N vs) H:=by
 obtain⟨f,B,R,X,A,r,J,L,y,M⟩:=h;obtain⟨e,w⟩:=w f R X L;exact u H B H _ _ _ _ (λb z=>Pe (A b z)) (RS A r J<|by lia) w ⟨λl o H' g x f1=>y _ _ H' g x.same .non,λs v H' g T G=>y s v H' g T G,λl o c H' g x f1=>M c H' g x.same,λ_ _ _ z=>z.elim,λ_ _ _ z=>z.elim,λ_ _ _ _ _ z=>z.elim⟩
def IY(h:spS mg c K vs H Q o)(g:∀f R X,c f R X->f.length=n):vs.length=n:=by
 obtain⟨f,B,R,X,_,r,_,l,_⟩:=h;rw[r.len]
 grind
def TV.backS (env:Jz K H0 B H1 σ γ) (o:Same H H1) (f:Same H1 H') (h:TV K (zof B γ σ) H1 H1 H' s v):TV K (zof B γ σ) H0 H H' s.back v:=by
 cases s with
 |bor d=>exact Xq (λb z=>X0 f (env.zm b z)) (Rp.mono f h)
 |own n=>
  obtain⟨a,rfl,l,r⟩:=h;exact⟨a,rfl,(λb g=>o.free (l b g)),r⟩
 |view n=>
  obtain⟨a,rfl,r⟩:=h;exact r.rp off_sub
 |_=>exact h
def TV.passS {v} (env:Jz K H0 B H1 σ γ) (g:∀b,zof B γ σ b->Mut (H b)) (n:Same H H1) (h:TV K (zof B γ σ) H0 H H1 s v) (e:s.pass=some f):TV K (zof B γ σ) H1 H1 H1 f v:=by
 have shd:∀d,s.shd=some d->Rp K (off (zof B γ σ) H1) d v:=λd l=>h.shd env.same g n l;cases s with
 |view o=>cases e
 |tmp d=>
  unfold S.pass at e;cases q:imm d with
  |false=>simp_all
  |true=>simp[q]at e;subst e;exact shd d (by unfold S.shd;simp[q])
 |bor d=>
  unfold S.pass at e;cases q:imm d with
  |false=>simp[q]at e;subst e;exact Rp.mono env.same h
  |true=>simp[q]at e;subst e;exact shd d (by unfold S.shd;simp[q])
 |_=>cases e;exact shd _ rfl
theorem TVs.passS (env:Jz K H0 B H1 σ γ) (l:∀b,zof B γ σ b->Mut (H b)) (n:Same H H1):∀{g f}{vs:List V},TVs K (zof B γ σ) H0 H H1 g vs->passes g=some f->TVs K (zof B γ σ) H1 H1 H1 f vs
 |_,_,_,.nil,e=>by cases e;exact .nil
 |_,_,_,.cons h r,e=>by
  unfold passes at e;split at e
  ·rename_i s t p o;cases e
   exact .cons (h.passS env l n p) (TVs.passS env l n r o)
  ·grind
noncomputable def RH(c:Pq)(r:PTA):PTE:=λγ R X=>r γ (λg=>match passes g with|some f=>c f (λs=>R s.back) (λ_=>False)|none=>False) X
def BR{n r}(C:JI K mg E n r):Jw K mg E (XG (spS mg c K) [] E0 n) (RH c r):=by
 intro H0 B H σ γ R X Q g p q y;refine C H0 B H σ γ _ X _ g p (λJ G H1 o h x=>?_) y;rw[WD];have f:=g.grow h;split at o
 ·rename_i l t;exact⟨l,zof B γ σ,_,_,f.zm,x.passS f g.zm h t,Th t,o,λs v H' A u w=>q _ _ H' A (h.trans u) (w.backS f h u),λ_ _ z=>z.elim⟩
 ·grind
noncomputable def Zbv(a:PTE)(l u:PTO):PTE:=λγ R X=>a γ (λs=>l γ (λlo=>u γ (λf=>match s.d with | .lst g=>R (.tmp<|.lst<|cutD g lo f)|_=>False) X) X) X
noncomputable def IE(a:PTE)(l u:PTO):PTI:=λγ R X=>a γ (λs=>l γ (λlo=>u γ (λf=>match s with
 | .bor d=>(match d.strip with | .lst g=>R (cutD g lo f).length (λi=>arg ((cutD g lo f).getD i .non))|_=>False)
 |_=>False) X) X) X
def MN{a l u}(ha:Jw K mg E te a)(hl:Xk K mg E Y l)(hu:Xk K mg E th u):KZ K mg E (Ta K<|tSl (PX K) te Y th) (IE a l u):=by
 intro H0 B H σ γ R X Q f p q A;refine ha H0 B H σ γ _ X _ f p (λx v H1 h1 o s=>?_) A;refine hl H0 B H1 σ γ _ X _ (f.grow o) h1 (λlo H2 h2 J=>?_) λc H' G L=>A c H' G (o.trans L);refine hu H0 B H2 σ γ _ X _ ((f.grow o).grow J) h2 (λg T h S3=>?_) λc H' G L=>A c H' G ((o.trans J).trans L);have n:=(o.trans J).trans S3;split at h
 ·rename_i d;split at h
  ·rename_i t ed;have s:=Rp.strip s;rw[ed]at s;obtain⟨b,z,rfl,hb,r⟩:=Rp.lst_inv s;refine⟨b,z,rfl,SqL.of ((f.grow n).same _ _ hb),λm nm=>?_⟩;have S4:Same T (upd T m<|.lst<|X1 z lo g):=UP nm;have M:Rps K H0 (cutD t lo g) (X1 z lo g):=r.cut;refine⟨m,rfl,⟨_,SqL.of Um⟩,q _ _ _ _ h (n.trans S4) ⟨λi H' Z' C w lt=>?_,λH' Z' w lt=>⟨_,SqL.of (w _ _ Um),by rw[M.len];exact Wn _⟩⟩⟩;have hd:(cutD t lo g)[i]?=some ((cutD t lo g).getD i .non):=by rw[Wv,Wj C];rfl
   obtain⟨u,N,h5⟩:=M.get hd;have U:TV K Z' H0 H' H' (arg ((cutD t lo g).getD i .non)) u:=Ko lt.2.1 lt.1 h5;refine⟨⟨_,u,SqL.of (w _ _ Um),N⟩,λx H'' y=>?_⟩;obtain⟨rfl,y⟩:=y
   have:=y _ (SqL.of<|w _ _ Um)
   rw[N]at this;cases this
   exact⟨Same.refl _,U⟩
  ·exact h.elim
 ·exact h.elim
def GF{n:Type}{φ}{γ}{g}{c}{e}{R}{xs:List n}{emb}(f:n->Option D)(t:xs.length<=100000)(turn:∀x∈xs,g (arg<|emb x) (atP φ γ) λh=>c h (λb=>if b=true then e h (λs=>∃d,s.shd=some d/\f x=some d) (λ_=>False)else f x=none) λ_=>False)(done:R (.own<|xs.filterMap f)) :
  X3 φ γ g c e (xs.map emb).length (λi=>arg ((xs.map emb).getD i .non)) R:=by
 refine⟨⟨by rw[Wg];exact t,λi=>(xs[i]?).bind f,λi u=>?_,?_⟩⟩
 ·simp_all
 ·have:(List.range (xs.map emb).length).filterMap (λi=>(xs[i]?).bind f)=xs.filterMap f:=by
   rw[Wg]
   have o:∀l:List n,(List.range l.length).filterMap (λi=>(l[i]?).bind f)=l.filterMap f:=λl=>by
    induction l with
    |nil=>rfl
    |cons x r p=>
     rw[W5,List.range_succ_eq_map,WT,List.filterMap_map,WT];simp only[List.getElem?_cons_zero,Option.bind_some];have e:((λi=>((x::r)[i]?).bind f)∘Nat.succ)=λi=>(r[i]?).bind f:=rfl;rw[e,p]
   exact o xs
  grind
noncomputable def Ij(a:PTE)(l u:PTO):PTE:=λγ R X=>a γ (λs=>l γ (λlo=>u γ (λg=>match s.d with | .scr f=>R (.own ((cutD f lo g).map D.int))|_=>False) X) X) X
def OC(f:ZZ)(lo g:Option Int):X1 (f.map V.int) lo g=(cutD f lo g).map V.int:=by
 unfold X1 cutD;simp
def Iu{a l u}(N:Jw K mg E te a)(L:Xk K mg E A l)(J:Xk K mg E C u):Jw K mg E (tSl (PX K) te A C) (Ij a l u):=by
 intro H0 B H σ γ R X Q f p q o;refine N H0 B H σ γ _ X _ f p (λx v H1 U h G=>?_) o;refine L H0 B H1 σ γ _ X _ (f.grow h) U (λlo Y T n=>?_) λc H' r s=>o c H' r (h.trans s);refine J H0 B Y σ γ _ X _ ((f.grow h).grow n) T (λhi H3 y z=>?_) λc H' r s=>o c H' r ((h.trans n).trans s);have g:=(h.trans n).trans z;split at y
 ·rename_i ns e;have t:=(G.grow<|n.trans z).rp (f.grow g).same;rw[e]at t;obtain⟨b,rfl,M⟩:=t.scr_inv;refine⟨b,_,rfl,M,λm w=>?_⟩;rw[OC];exact q _ _ _ y (g.trans<|UP w) (Kz g w<|Rps.of_ints _)
 ·grind
end
open M
inductive Dd where
 |sell (p h:Int)|part (p w:Int)|unite (p:Int)|wish (a b:Int)|drop (a b:Int)
noncomputable def Dd.q:Dd->Str×ZZ
 | .sell p h=>("sell",[p,h]) | .part p w=>("part",[p,w]) | .unite p=>("unite",[p]) | .wish a b=>("wish",[a,b]) | .drop a b=>("drop",[a,b])
noncomputable def Dd.land:Dd->Bool
 | .sell _ _=>true | .part _ _=>true | .unite _=>true|_=>false
noncomputable def Dd.err (f w:ZY):Dd->Option Str
 | .sell p h=>Uy f p h | .part p v=>Ui f p v | .unite p=>JW f p | .wish a b=>JZ w a b | .drop a b=>Uh w a b
noncomputable def Dd.fld (f:ZY):Dd->ZY
 | .sell p h=>XD f p h | .part p v=>Xe f p v | .unite p=>Xh f p|_=>f
noncomputable def Dd.wsh (w:ZY):Dd->ZY
 | .wish a b=>w++[(a,b)] | .drop a b=>KS w a b|_=>w
noncomputable def codeN:Option Str->Int
 |none=>0
 |some c=>if c=("NoStrip" : Str)then 1 else if c=("BadHolder" : Str)then 2 else if c=("OwnStrip" : Str)then 3 else if c=("BadPart" : Str)then 4 else if c=("TooManyStrips" : Str)then 5 else if c=("UnlikeHolders" : Str)then 6 else if c=("TooWide" : Str)then 7 else if c=("LikeHolders" : Str)then 8 else if c=("WishStands" : Str)then 9 else if c=("TooManyWishes" : Str)then 10 else 11
def N4:codeN (some "NoStrip")=1:=rfl
def TJ:codeN (some "BadHolder")=2:=rfl
def FQ:codeN (some "OwnStrip")=3:=rfl
def N9:codeN (some "BadPart")=4:=rfl
def Dt:codeN (some "TooManyStrips")=5:=rfl
def Dl:codeN (some "UnlikeHolders")=6:=rfl
def Fe:codeN (some "TooWide")=7:=rfl
def AU:codeN (some "LikeHolders")=8:=rfl
def Ft:codeN (some "WishStands")=9:=rfl
def BW:codeN (some "TooManyWishes")=10:=rfl
def EC:codeN (some "NoWish")=11:=rfl
noncomputable def Dd.fld' (f:ZY) (x:Dd):ZY:=if x.err f []=none then x.fld f else f
noncomputable def Dd.wsh' (w:ZY) (x:Dd):ZY:=if x.err [] w=none then x.wsh w else w
noncomputable def Dd.nf (f w:ZY) (x:Dd):ZY:=if x.err f w=none then x.fld f else f
noncomputable def Dd.nw (f w:ZY) (x:Dd):ZY:=if x.err f w=none then x.wsh w else w
def Dd.err_land {x:Dd} (h:x.land=true) (f w u:ZY):x.err f w=x.err f u:=by
 cases x<;>first|rfl|cases h
def Dd.err_wish {x:Dd} (h:x.land=false) (f g w:ZY):x.err f w=x.err g w:=by
 cases x<;>first|rfl|cases h
def Dd.err_cases (f w : ZY) (x : Dd) : x.err f w = none ∨ x.err f w = some ("NoStrip" : Str) ∨ x.err f w = some ("BadHolder" : Str) ∨ x.err f w = some ("OwnStrip" : Str) ∨ x.err f w = some ("BadPart" : Str) ∨ x.err f w = some ("TooManyStrips" : Str) ∨ x.err f w = some ("UnlikeHolders" : Str) ∨ x.err f w = some ("TooWide" : Str) ∨ x.err f w = some ("LikeHolders" : Str) ∨ x.err f w = some ("WishStands" : Str) ∨ x.err f w = some ("TooManyWishes" : Str) ∨ x.err f w = some ("NoWish" : Str) := by
  cases x with
  | sell p h => show Uy f p h = _ ∨ Uy f p h = _ ∨ Uy f p h = _ ∨ Uy f p h = _ ∨ _; unfold Uy; repeat' split
                all_goals simp
  | part p h => show Ui f p h = _ ∨ Ui f p h = _ ∨ Ui f p h = _ ∨ Ui f p h = _ ∨ Ui f p h = _ ∨ Ui f p h = _ ∨ _; unfold Ui; repeat' split
                all_goals simp
  | unite p => show JW f p = _ ∨ JW f p = _ ∨ JW f p = _ ∨ JW f p = _ ∨ JW f p = _ ∨ JW f p = _ ∨ JW f p = _ ∨ JW f p = _ ∨ _; unfold JW; repeat' split
               all_goals simp
  | wish a b => show JZ w a b = _ ∨ JZ w a b = _ ∨ JZ w a b = _ ∨ JZ w a b = _ ∨ JZ w a b = _ ∨ JZ w a b = _ ∨ JZ w a b = _ ∨ JZ w a b = _ ∨ JZ w a b = _ ∨ JZ w a b = _ ∨ JZ w a b = _ ∨ _; unfold JZ; repeat' split
                all_goals simp
  | drop a b => show Uh w a b = _ ∨ Uh w a b = _ ∨ Uh w a b = _ ∨ Uh w a b = _ ∨ Uh w a b = _ ∨ Uh w a b = _ ∨ Uh w a b = _ ∨ Uh w a b = _ ∨ Uh w a b = _ ∨ Uh w a b = _ ∨ Uh w a b = _ ∨ Uh w a b = _; unfold Uh; repeat' split
                all_goals simp
abbrev Ug:=List (Dd×ZY×ZY)
noncomputable def bkH(f:Ug):List (Str×ZZ):=f.map λh=>h.1.q
noncomputable def fsH(f0:ZY)(f:Ug):List (ZY):=f0::f.map λh=>h.2.1
noncomputable def wsH(f:Ug):List (ZY):=[]::f.map λh=>h.2.2
noncomputable def Py(h:Dd×ZY×ZY):D:=.tup [plD h.2.1,plD h.2.2,dD h.1.q]
noncomputable def HW(f0:ZY):D:=.tup [plD f0,.lst [],.tup []]
noncomputable def JU(f0:ZY)(f:Ug):List D:=HW f0::f.map Py
noncomputable def JM(f0:ZY)(f:Ug):ZY:=match f.getLast? with|some h=>h.2.1|none=>f0
noncomputable def JL(f:Ug):ZY:=match f.getLast? with|some h=>h.2.2|none=>[]
def SX(f0:ZY)(f:Ug):∃fs,fsH f0 f=fs++[JM f0 f]/\fs.length=f.length:=by
 unfold fsH JM;rcases Qb f with rfl|⟨h,x,rfl⟩
 ·exact⟨[],rfl,rfl⟩
 ·refine⟨f0::h.map λh=>h.2.1,?_,by simp⟩;simp
def NH(f:Ug):∃g,wsH f=g++[JL f]/\g.length=f.length:=by
 unfold wsH JL;rcases Qb f with rfl|⟨h,x,rfl⟩
 ·exact⟨[],rfl,rfl⟩
 ·refine⟨[]::h.map λh=>h.2.2,?_,by simp⟩;simp
def NQ(f0:ZY)(g:Ug):∃d,atI (JU f0 g) (-1)=some (.tup [plD (JM f0 g),plD (JL g),d]):=by
 have f:∀l (x:D),l≠[]->l[l.length-1]?=some x->atI l (-1)=some x:=λl x n h=>by
  have o:=QJ.mpr n;unfold atI ixN;rw[Wo (by lia),Wm (by lia)];show l[_]?=_;rw[show((-1:Int)+(l.length:Int)).toNat=l.length-1 by lia];lia
 unfold JU JM JL;rcases Qb g with rfl|⟨h,x,rfl⟩
 ·exact⟨.tup [],f _ _ (by simp) rfl⟩
 ·refine⟨dD x.1.q,f _ _ (by simp) ?_⟩;rw[Qr,List.getLast?_concat,W5,Wg,Wr,Qi,Nat.add_sub_cancel,Q8,W6,WH (by simp),Wg,QS];rfl
def D7(f:Ug)(h:Dd×ZY×ZY):bkH (f++[h])=bkH f++[h.1.q]:=by unfold bkH;rw[W6];rfl
def Te(f0:ZY)(f:Ug)(h:Dd×ZY×ZY):fsH f0 (f++[h])=fsH f0 f++[h.2.1]:=by unfold fsH;rw[W6];rfl
def Nb(f:Ug)(h:Dd×ZY×ZY):wsH (f++[h])=wsH f++[h.2.2]:=by unfold wsH;rw[W6];rfl
def BE(f0:ZY)(f:Ug)(h:Dd×ZY×ZY):JU f0 (f++[h])=JU f0 f++[Py h]:=by unfold JU;rw[W6];rfl
def Cq(f:Ug):(bkH f).length=f.length:=Wg ..
def LO(f0:ZY)(f:Ug):(fsH f0 f).length=f.length+1:=by unfold fsH;rw[W5,Wg]
def Mj(f:Ug):(wsH f).length=f.length+1:=by unfold wsH;rw[W5,Wg]
def PL(f0:ZY)(f:Ug):(JU f0 f).length=f.length+1:=by unfold JU;rw[W5,Wg]
def Dd.q_len (x:Dd):x.q.2.length<=2:=by cases x<;>simp[Dd.q]
end Pu
namespace Pu
@[irreducible] def mixP (c k:Int):Int:=((c % 2147483647+7919*k+1)*48271 % 2147483647+104729*k+11)*69621 % 2147483647
open L2 M Own PyProof.Rows PySem PySem.Spec
def Dd.fld_ok {d:Dd} (g:Field f) (o:f.length<=40) (e:d.err f w=none):Field (d.fld f)/\(d.fld f).length<=40:=by
 cases d with
 |sell p h=>exact⟨GG g e,by rw[show(Dd.sell p h).fld f=XD f p h from rfl,Zbn];exact o⟩
 |part p v=>
  have e:Ui f p v=none:=e;rcases Do f p v with⟨z,_⟩|⟨z,_⟩|⟨z,_⟩|⟨_,_,n,l,s,r,t⟩
  ·grind
  ·rw[e]at z;cases z
  ·rw[e]at z;cases z
  ·exact⟨IA g n l s r,by rw[show(Dd.part p v).fld f=Xe f p v from rfl,GT n l];lia⟩
 |unite p=>
  have e:JW f p=none:=e;rcases F7 f p with⟨z,_⟩|⟨z,_⟩|⟨z,_⟩|⟨_,_,n,l⟩
  ·rw[e]at z;cases z
  ·rw[e]at z;cases z
  ·rw[e]at z;cases z
  ·exact⟨RN g e,by rw[show(Dd.unite p).fld f=Xh f p from rfl];have:=Oh n l;lia⟩
 |_=>exact⟨g,o⟩
def Dd.wsh_ok {f w}{d:Dd} (g:Xo w) (e:d.err f w=none):Xo (d.wsh w):=by
 cases d with
 |wish a b=>exact EZ g e
 |drop a b=>exact LC g
 |_=>trivial
def FineH(f0:ZY)(f:Ug):Prop:=(∀g∈fsH f0 f,Field g/\g.length<=40)/\∀g∈wsH f,Xo g
def FineH.cur (h:FineH f0 f):(Field (JM f0 f)/\(JM f0 f).length<=40)/\Xo (JL f):=by
 obtain⟨fs,n,_⟩:=SX f0 f;obtain⟨g,l,_⟩:=NH f;exact⟨h.1 _ (by grind),h.2 _ (by grind)⟩
def FineH.nil (l:Field f0) (h:f0.length<=40):FineH f0 []:=
 ⟨λg f=>by rw[show fsH f0 []=[f0]from rfl,Wl]at f;subst f;exact⟨l,h⟩,λg f=>by rw[show wsH []=[[]]from rfl,Wl]at f;subst f;exact GE⟩
def FineH.snoc (h:FineH f0 l) (o:Field x.2.1/\x.2.1.length<=40) (n:Xo x.2.2):FineH f0 (l++[x]):=
 ⟨λg f=>by rw[Te]at f;rcases WC.mp f with f|f;{exact h.1 g f};{rw[Wl]at f;subst f;exact o},λg f=>by rw[Nb]at f;rcases WC.mp f with f|f;{exact h.2 g f};{rw[Wl]at f;subst f;exact n}⟩
def FineH.init (h:FineH f0 (l++[x])):FineH f0 l:=
 ⟨λg f=>h.1 g (by rw[Te];exact WV _ f),λg f=>h.2 g (by rw[Nb];exact WV _ f)⟩
def FineH.back (h:FineH f0 f):FineH f0 f.dropLast:=by
 rcases Qb f with rfl|⟨l,x,rfl⟩
 ·grind
 ·rw[Qr]at h ⊢;rw[Qe];exact h.init
noncomputable def UQ(f0:ZY)(f:Ug)(d:Dd):Ug:=if d.err (JM f0 f) (JL f)=none then f++[(d,d.fld (JM f0 f),d.wsh (JL f))]else f
def FineH.add (h:FineH f0 f) (d:Dd):FineH f0 (UQ f0 f d):=by
 unfold UQ;split
 ·rename_i e;obtain⟨⟨n,l⟩,g⟩:=h.cur;exact h.snoc (Dd.fld_ok n l e) (Dd.wsh_ok g e)
 ·lia
def Dd.code_pos {x:Dd} (h:¬x.err f w=none):0<codeN (x.err f w):=by
 rcases x.err_cases f w with e|e|e|e|e|e|e|e|e|e|e|e<;>rw[e]at h ⊢
 ·grind
 ·trivial
 ·rw[TJ];decide
 ·rw[FQ];decide
 ·rw[N9];decide
 ·rw[Dt];decide
 ·rw[Dl];decide
 ·rw[Fe];decide
 ·rw[AU];decide
 ·rw[Ft];decide
 ·rw[BW];decide
 ·rw[EC];decide
def Dd.not_back (d:Dd):¬d.q.1=("back" : Str):=by
 cases d with
 |sell p h=>exact(by decide +kernel:¬("sell" : Str) = "back")
 |part p h=>exact(by decide +kernel:¬("part" : Str) = "back")
 |unite p=>exact(by decide +kernel:¬("unite" : Str) = "back")
 |wish p h=>exact(by decide +kernel:¬("wish" : Str) = "back")
 |drop p h=>exact(by decide +kernel:¬("drop" : Str) = "back")
end Pu
namespace Own
open L2
section
variable {prog:Program}{w:World}{A:Around}{E:Yc}{s:Shared}{l:Addr}{xs:Array (Int×Tok)}
def O5(x:A.handled=none)(r:s.heap.IsTuple l (intItems xs))(n:0<xs.size)(h:∀v f g,(intItems xs)[argBest (λi j=>decide (numAt xs i<numAt xs j)) (xs.size-1)]?=some v->(∀b o,s.heap.get? b=some o->f.get? b=some o)->Q v {s with heap:=f,toks:=g}) :
  wpAny (model prog w) A (call (.builtin "min") [.ref l]) Q E s:=by
 have p:l<s.heap.objs.size:=by obtain⟨_,e,_⟩:=r;exact Ws e
 refine call_min_walk (wpAny_pyIter_tuple r ?_);refine⟨_,[_,l],[_],_,_,_,_,rfl,Walks.tuple (A:=A.in1) x _ l (WK p) (intItems xs),⟨⟨_,W2 _ rfl,rfl,rfl⟩,r.push _⟩,λc t=>?_,by simpa [intItems]using n,CmpOf.ints_lt (numAt xs) (λ_ _=>intItems_at),λv f g y u=>?_⟩
 ·show c<(s.heap.push _).objs.size;rw[Q6];rcases Wu.mp t with rfl|t
  ·exact QB _
  ·grind
 ·refine h v f g (by simpa [intItems]using y) λb o e=>u b o (λhm=>?_) (Wq _ e);rcases Wu.mp hm with z|hm
  ·exact absurd (z▸Ws e) (Qa _)
  ·cases hm
def Mg(x:A.handled=none)(r:s.heap.IsTuple l (intItems xs))(n:0<xs.size)(h:∀v f g,(intItems xs)[argBest (λi j=>decide (numAt xs i>numAt xs j)) (xs.size-1)]?=some v->(∀b o,s.heap.get? b=some o->f.get? b=some o)->Q v {s with heap:=f,toks:=g}) :
  wpAny (model prog w) A (call (.builtin "max") [.ref l]) Q E s:=by
 have p:l<s.heap.objs.size:=by obtain⟨_,e,_⟩:=r;exact Ws e
 refine call_max_walk (wpAny_pyIter_tuple r ?_);refine⟨_,[_,l],[_],_,_,_,_,rfl,Walks.tuple (A:=A.in1) x _ l (WK p) (intItems xs),⟨⟨_,W2 _ rfl,rfl,rfl⟩,r.push _⟩,λc t=>?_,by simpa [intItems]using n,CmpOf.ints_gt (numAt xs) (λ_ _=>intItems_at),λv f g y u=>?_⟩
 ·show c<(s.heap.push _).objs.size;rw[Q6];rcases Wu.mp t with rfl|t
  ·exact QB _
  ·grind
 ·refine h v f g (by simpa [intItems]using y) λb o e=>u b o (λhm=>?_) (Wq _ e);rcases Wu.mp hm with z|hm
  ·exact absurd (z▸Ws e) (Qa _)
  ·cases hm
end
section
variable {X:Cx}{K:ZX}
def GP(C:X.calm=true)(J:autoParam (X.K=K) au_0):UE X (.builtin "min") (λxs H Q=>∃p a b,xs=[.ref p]/\SqT K H p [.int a,.int b]/\Q (.int (if b<a then b else a)) H):=by
 subst J;intro pins s L H xs M Q I t h;obtain⟨p,a,b,rfl,E,q⟩:=h;obtain⟨u,rfl,w⟩:=t.one;obtain rfl:=w;obtain⟨A,r,z,_⟩:=I.tuple E;cases r with
 |cons y r=>
  cases r with
  |cons x r=>
   cases r
   obtain⟨g,rfl⟩:=y;obtain⟨f,rfl⟩:=x;have B:s.heap.IsTuple p (intItems #[(a,g),(b,f)]):=by have this:s.heap.IsTuple p _:=z;simpa [intItems]using this
   refine O5 (I.ok.hd C) B (by simp) λv T N G o=>?_;have n:(intItems #[(a,g),(b,f)])[argBest (λi j=>decide (numAt #[(a,g),(b,f)] i<numAt #[(a,g),(b,f)] j)) 1]?=some v:=G;by_cases l:b<a
   ·have e:argBest (λi j=>decide (numAt #[(a,g),(b,f)] i<numAt #[(a,g),(b,f)] j)) 1=1:=by simp[argBest,numAt,l]
    rw[e]at n;obtain rfl:Value.int b f=v:=by simpa [intItems]using n
    rw[Wm l]at q;exact⟨.int b,H,I.kept o,⟨_,rfl⟩,q⟩
   ·have e:argBest (λi j=>decide (numAt #[(a,g),(b,f)] i<numAt #[(a,g),(b,f)] j)) 1=0:=by simp[argBest,numAt,l]
    rw[e]at n;obtain rfl:Value.int a g=v:=by simpa [intItems]using n
    rw[Wo l]at q;exact⟨.int a,H,I.kept o,⟨_,rfl⟩,q⟩
def Ri(C:X.calm=true)(J:autoParam (X.K=K) au_0):UE X (.builtin "max") (λxs H Q=>∃p a b,xs=[.ref p]/\SqT K H p [.int a,.int b]/\Q (.int (if b>a then b else a)) H):=by
 subst J;intro pins s L H xs M Q I t h;obtain⟨p,a,b,rfl,E,q⟩:=h;obtain⟨u,rfl,w⟩:=t.one;obtain rfl:=w;obtain⟨A,r,z,_⟩:=I.tuple E;cases r with
 |cons y r=>
  cases r with
  |cons x r=>
   cases r
   obtain⟨g,rfl⟩:=y;obtain⟨f,rfl⟩:=x;have B:s.heap.IsTuple p (intItems #[(a,g),(b,f)]):=by have this:s.heap.IsTuple p _:=z;simpa [intItems]using this
   refine Mg (I.ok.hd C) B (by simp) λv T N G o=>?_;have n:(intItems #[(a,g),(b,f)])[argBest (λi j=>decide (numAt #[(a,g),(b,f)] i>numAt #[(a,g),(b,f)] j)) 1]?=some v:=G;by_cases l:b>a
   ·have e:argBest (λi j=>decide (numAt #[(a,g),(b,f)] i>numAt #[(a,g),(b,f)] j)) 1=1:=by simp[argBest,numAt,l]
    rw[e]at n;obtain rfl:Value.int b f=v:=by simpa [intItems]using n
    rw[Wm l]at q;exact⟨.int b,H,I.kept o,⟨_,rfl⟩,q⟩
   ·have e:argBest (λi j=>decide (numAt #[(a,g),(b,f)] i>numAt #[(a,g),(b,f)] j)) 1=0:=by simp[argBest,numAt,l]
    rw[e]at n;obtain rfl:Value.int a g=v:=by simpa [intItems]using n
    rw[Wo l]at q;exact⟨.int a,H,I.kept o,⟨_,rfl⟩,q⟩
end
end Own
namespace Pu
open L2 Own
section
variable {K:ZX}{mg:Yb}{E:L2.St->XK}
def Eb:List S->(S->Prop)->Prop
 |[s],R=>(match s.d with | .tup [.int a,.int b]=>R (.sh<|.int (if b<a then b else a))|_=>False)
 |_,_=>False
def D1:List S->(S->Prop)->Prop
 |[s],R=>(match s.d with | .tup [.int a,.int b]=>R (.sh<|.int (if b>a then b else a))|_=>False)
 |_,_=>False
def R8(A:JI K mg E n r):Jw K mg E (tCB (λxs H Q=>∃p a b,xs=[.ref p]/\SqT K H p [.int a,.int b]/\Q (.int (if b<a then b else a)) H) n) (pCB Eb r):=by
 refine Xr A λN H B Z J C R Q t L M l h q=>?_;unfold Eb at h;split at h
 ·rename_i s;obtain⟨v,rfl,o⟩:=l.one_inv;have f:=o.rp t;split at h
  ·rename_i a b e;rw[e]at f;obtain⟨p,G,rfl,g,u⟩:=Rp.tup_inv f;obtain⟨x,y,rfl,z,w⟩:=u.two_inv;rw[z.int_inv,w.int_inv]at g;exact⟨p,a,b,rfl,SqT.of g,q _ _ B h (Same.refl _) (.int _)⟩
  ·exact h.elim
 ·exact h.elim
def IG(A:JI K mg E n r):Jw K mg E (tCB (λxs H Q=>∃p a b,xs=[.ref p]/\SqT K H p [.int a,.int b]/\Q (.int (if b>a then b else a)) H) n) (pCB D1 r):=by
 refine Xr A λN H B Z J C R Q t L M l h q=>?_;unfold D1 at h;split at h
 ·rename_i s;obtain⟨v,rfl,o⟩:=l.one_inv;have f:=o.rp t;split at h
  ·rename_i a b e;rw[e]at f;obtain⟨p,G,rfl,g,u⟩:=Rp.tup_inv f;obtain⟨x,y,rfl,z,w⟩:=u.two_inv;rw[z.int_inv,w.int_inv]at g;exact⟨p,a,b,rfl,SqT.of g,q _ _ B h (Same.refl _) (.int _)⟩
  ·grind
 ·grind
end
section
variable {X:Cx}{k j:Nat}{x:Str}{ps:Yg}{sp:Sp}{e a b c:Expr}{es:Yh}{t:TA}{te tf tg:TE}{p pos:Pos}
def fz(C:Callee X.prog X.w X.K X.mg X.base CX0 k x ps sp)(h:J7 j X.A)(r:PA X (e::es) t)(l:autoParam (k<=j) au_1)(n:autoParam (Gl X x) au_0)(g:autoParam ((x==("__debug__" : Str))=false) au_1)(o:autoParam (starEach (e::es) X.env=(false,eval e X.env)::starEach es X.env) au_0)(f:autoParam ((backTo pos<|starEach es X.env).any (·.1)=false) au_0) :
  PE X (.Call (.Name x p) (e::es) [] pos) (XG sp [] E0 t):=NF C (h.mono l) Uu r n g o f
def jx(K:ZX)(h:PE X a te)(g:PE X b tf)(l:autoParam (X.K=K) au_0)(f:autoParam (Sr b) au_7):PE X (.Subscript a b pos) (tOp (λx y H Q=>KC K x y H Q\/KR K x y H Q) te tf):=NS (BX l) h g f
def ln(K:ZX)(h:X.mg "len"=none)(o:PE X a te)(r:autoParam (X.K=K) au_0)(l:autoParam (Gl X "len") au_0)(g:autoParam (starEach [a] X.env=(false,eval a X.env)::starEach [] X.env) au_0)(f:autoParam ((backTo pos<|starEach [] X.env).any (·.1)=false) au_0) :
  PE X (.Call (.Name "len" p) [a] [] pos) (tCB (λxs H Q=>∃x n,xs=[x]/\T3 K x H n/\Q (.int (n:Nat)) H)<|Ud te UD):=UC (MD r) l h PySem.boot_len (Uo o Xn g) (by decide) rfl g f
def cq(K:ZX)(f:J7 j X.A)(h:PE X a te)(g:PE X b tf)(l:autoParam (X.K=K) au_0):PT X (.Compare a [.Eq] [b] pos) (PQ<|tOp (λx y H Q=>rEq x y H Q\/XF K false x y H Q) te tf):=X7 (Tc f.units0 l) h g (Xt _)
def cn(K:ZX)(f:J7 j X.A)(h:PE X a te)(g:PE X b tf)(l:autoParam (X.K=K) au_0):PT X (.Compare a [.NotEq] [b] pos) (PQ<|tOp (λx y H Q=>rNe x y H Q\/XF K true x y H Q) te tf):=X7 (Ld f.units0 l) h g (Xt _)
def az(f:PE X a te)(g:autoParam (starEach [a] X.env=(false,eval a X.env)::starEach [] X.env) au_0):PA X [a] (Ud te UD):=Uo f Xn g
def bz(g:PE X a te)(f:PE X b tf)(l:autoParam (starEach [a,b] X.env=(false,eval a X.env)::starEach [b] X.env) au_0)(h:autoParam (starEach [b] X.env=(false,eval b X.env)::starEach [] X.env) au_0):PA X [a,b] (Ud te<|Ud tf UD):=Uo g (Uo f Xn h) l
def dz(h:PE X a te)(g:PE X b tf)(f:PE X c tg)(o:autoParam (starEach [a,b,c] X.env=(false,eval a X.env)::starEach [b,c] X.env) au_0)(n:autoParam (starEach [b,c] X.env=(false,eval b X.env)::starEach [c] X.env) au_0)(l:autoParam (starEach [c] X.env=(false,eval c X.env)::starEach [] X.env) au_0):PA X [a,b,c] (Ud te<|Ud tf<|Ud tg UD):=Uo h (Uo g (Uo f Xn l) n) o
end
section
variable {K:ZX}{mg:Yb}{E:L2.St->XK}{ta tb tc:TE}{a b c:PTE}
def sz(f:Jw K mg E ta a):JI K mg E (Ud ta UD) (UN a XC):=UH f JV
def tz(g:Jw K mg E ta a)(f:Jw K mg E tb b):JI K mg E (Ud ta<|Ud tb UD) (UN a<|UN b XC):=UH g (sz f)
def uz(h:Jw K mg E ta a)(g:Jw K mg E tb b)(f:Jw K mg E tc c):JI K mg E (Ud ta<|Ud tb<|Ud tc UD) (UN a<|UN b<|UN c XC):=UH h (tz g f)
end
section
variable {K:ZX}{h:Heap}{mg:Yb}{C C':Addr}{x m q:Str}{st:Stmt}{ps:Yg}
abbrev Bd(x q:Str)(st:Stmt)(ps:Yg):Prop:=∀(kV g n:Value) (p:Yk) (l o:Value) (f:Yf),f.length=ps.length->bindArgs (PySem.W.fnOf x q (Xd st) (JT st) (Jy st) .none kV g n p l o) ⟨f,[]⟩=pure (ps.zip f)
def DI.e (D:DI K x st) (X:K.In h) (g:h.Ns mainGlobals mg) (b:Bd x x st ps:=by
  intro _ _ _ _ _ _ us f
  first
   |(obtain⟨_,rfl⟩:=Pu.P0 f;rfl)
   |(obtain⟨_,_,rfl⟩:=Pu.Tg f;rfl)
   |(obtain⟨_,_,_,rfl⟩:=Pu.Tu f;rfl)
   |(obtain⟨_,_,_,_,rfl⟩:=Pu.BB f;rfl)
   |(obtain⟨_,_,_,_,_,rfl⟩:=Pu.Za5 f;rfl)):Def K mg x st ps:=D.d X g b
def MI.e (D:MI K C m q st) (e:C'=C) (b:Bd m q st ps:=by
  intro _ _ _ _ _ _ us f
  first
   |(obtain⟨_,rfl⟩:=Pu.P0 f;rfl)
   |(obtain⟨_,_,rfl⟩:=Pu.Tg f;rfl)
   |(obtain⟨_,_,_,rfl⟩:=Pu.Tu f;rfl)
   |(obtain⟨_,_,_,_,rfl⟩:=Pu.BB f;rfl)):JO K (JP K C' m) m q st ps:=D.d e b
def MI.j (D:MI K C "__init__" q st) (e:C'=C) (mk:PySem.W.makesIn K C=true) (g:PySem.W.keepIn K (.ref C)=true) (b:Bd "__init__" q st ps:=by
  intro _ _ _ _ _ _ us f
  first
   |(obtain⟨_,rfl⟩:=Pu.P0 f;rfl)
   |(obtain⟨_,_,rfl⟩:=Pu.Tg f;rfl)
   |(obtain⟨_,_,_,rfl⟩:=Pu.Tu f;rfl)):JO K (Mk K C') "__init__" q st ps:=D.i e mk g b
end
section
variable {P:Program}{w:World}{K:ZX}{mg:Yb}{base:Heap}{N ps:Yg}{sp:Sp}{p:PTS}{x q:Str}{st:Stmt}{k:Nat}{W:Addr->Prop}
structure Uz (K:ZX) (mg:Yb) (N ps:Yg) (sp:Sp) (p:PTS):Prop where
 len:∀vs H Q E,sp vs H Q E->vs.length=ps.length
 run:∀vs H Q E t,sp vs H Q E->JA K mg (λ_=>E) t p->t {nx:=λ_ H'=>Q .non H',rt:=Q} (start N vs) H
def Uz.a (f:∀ds R X,c ds R X->ds.length=ps.length/\p {nx:=λ_=>R (.sh .non),rt:=R,ex:=λ_ e=>X e} (X2 N ds)) (g:autoParam (ps.length<=N.length) au_1):Uz K mg N ps (J9 mg c K) p:=
 ⟨λ_ _ _ _ h=>EV h λds R X z=>(f ds R X z).1,λ_ _ _ _ _ h s=>Za1 h s g f⟩
def Uz.b (g:∀f R X,c f R X->f.length=ps.length/\p {nx:=λ_=>R (.sh .non),rt:=R,ex:=λ_ e=>X e} (XY N f)) (l:autoParam (ps.length<=N.length) au_1):Uz K mg N ps (spS mg c K) p:=
 ⟨λ_ _ _ _ h=>IY h λn R X z=>(g n R X z).1,λ_ _ _ _ _ h s=>RR h s l g⟩
def Uz.c {c y} (g:∀o f R X,c o f R X->f.length=ps.length/\p (A1 o R X) (XT N o f)) (l:autoParam (ps.length+1<=N.length) au_1):Uz K mg N (y::ps) (spW mg c K) p:=
 ⟨λ_ _ _ _ h=>Lk h λo n R X z=>(g o n R X z).1,λ_ _ _ _ _ h s=>Ly h s l g⟩
def _root_.Own.Def.oz (D:Def K mg x st ps) (S:J1 N ps (Jy st))
  (l:∀f g A outer s H E,J7 k (A.deeper<|envOfC x (Jy st) s.heap.objs.size f g)->
   ∃t,PSs (JX CX0 P w K mg base N x (Jy st) f g A outer s H E).nox (JT st) t/\JA K mg (λ_=>E) t p) (u:Uz K mg N ps sp p):Callee P w K mg base CX0 (k+1) x ps sp:=
 D.ok S u.len λf g A outer s H o Q E n h=>(l f g A outer s H E n).elim λt z=>⟨t,z.1,u.run _ _ _ _ _ h z.2⟩
def _root_.Own.Def.ox (D:Def K mg x st ps) (S:J1 N ps (Jy st))
  (l:∀f g A outer s H E,J7 k (A.deeper<|envOfC x (Jy st) s.heap.objs.size f g)->
   ∃t,PSs (JX (ExcR.CXe P w) P w K mg base N x (Jy st) f g A outer s H E) (JT st) t/\JA K mg (λ_=>E) t p) (u:Uz K mg N ps sp p):Callee P w K mg base (ExcR.CXe P w) (k+1) x ps sp:=
 ExcR.Def.okX D S u.len λf g A outer s H o Q E n h=>(l f g A outer s H E n).elim λt z=>⟨t,z.1,u.run _ _ _ _ _ h z.2⟩
def JO.oz (D:JO K W x q st ps) (S:J1 N ps (Jy st))
  (l:∀f g A outer s H E,J7 k (A.deeper<|envOfC q (Jy st) s.heap.objs.size f g)->
   ∃t,PSs (JX CX0 P w K mg base N q (Jy st) f g A outer s H E).nox (JT st) t/\JA K mg (λ_=>E) t p) (u:Uz K mg N ps sp p):Xf P w K mg base CX0 (k+1) W ps sp:=
 D.ok S u.len λf g A outer s H o Q E n h=>(l f g A outer s H E n).elim λt z=>⟨t,z.1,u.run _ _ _ _ _ h z.2⟩
def JO.ox (D:JO K W x q st ps) (S:J1 N ps (Jy st))
  (l:∀f g A outer s H E,J7 k (A.deeper<|envOfC q (Jy st) s.heap.objs.size f g)->
   ∃t,PSs (JX (ExcR.CXe P w) P w K mg base N q (Jy st) f g A outer s H E) (JT st) t/\JA K mg (λ_=>E) t p) (u:Uz K mg N ps sp p):Xf P w K mg base (ExcR.CXe P w) (k+1) W ps sp:=
 D.okX S u.len λf g A outer s H o Q E n h=>(l f g A outer s H E n).elim λt z=>⟨t,z.1,u.run _ _ _ _ _ h z.2⟩
end
section
variable {K:ZX}{h:Heap}{mg:Yb}{x:Str}{C:Addr}
structure EI (K:ZX) (x:Str) (C:Addr):Prop where
 a:PySem.W.nsIn K mainGlobals x=some (some<|.ref C)
 g:ExcR.Ut K C
def ei(a:PySem.W.nsIn K mainGlobals x=some (some<|.ref C))(q:PySem.W.excIn K C [.type "ValueError",.type "Exception",.type "BaseException",.type "object"] "ValueError.__new__"=true)(g:PySem.W.findIn K (.ref C) "__getattribute__"=some (some<|.builtin "BaseException.__getattribute__"))(f:PySem.W.findIn K (.ref C) "__getattr__"=some none)(l:PySem.W.findIn K (.ref C) "__class__"=some (some<|.builtin "object.__class__"))(i:PySem.W.clsIn K C=some d):EI K x C:=⟨a,⟨⟨q⟩,g,f,l,by rw[i];rfl⟩⟩
def EI.c (y:EI K x C) (X:K.In h) (f:h.Ns mainGlobals mg):ExcR.J0 mg x=C:=ExcR.NB (W8 X f y.a)
def EI.m (y:EI K x C) (X:K.In h) (f:h.Ns mainGlobals mg):mg x=some (.ref<|ExcR.J0 mg x):=by rw[y.c X f];exact W8 X f y.a
def EI.k (y:EI K x C) (X:K.In h) (f:h.Ns mainGlobals mg):ExcR.Ut K (ExcR.J0 mg x):=by rw[y.c X f];exact y.g
end
theorem NoFld.of:∀{xs:Yg},(xs.all λx=>!(m==x))=true->NoFld m xs
 |[],_,_|_::_,_,[]=>rfl
 |x::xs,h,v::f=>by
  rw[Qv,WE]at h;show(match m==x with|true=>some v|false=>(xs.zip f).lookup m)=none
  rw[show(m==x)=false by simpa using h.1];exact NoFld.of h.2 f
theorem FldAt.of (n:(f==f)=true):∀{xs}{j:Nat},((xs.take j).all λx=>!(f==x))=true->xs[j]?=some f->FldAt f xs j
 |[],_,_,e,_,_=>by simp at e
 |_::_,_,_,_,[],e=>rfl
 |x::xs,0,_,e,v::g,_=>by
  simp_all
 |x::xs,j+1,h,e,v::g,l=>by
  rw[List.take_succ_cons,Qv,WE]at h;show(match f==x with|true=>some v|false=>(xs.zip g).lookup f)=(v::g)[j+1]?
  rw[show(f==x)=false by simpa using h.1];exact FldAt.of n h.2 (by grind) g (by grind)
theorem PutAt.of:∀{xs:Yg},(xs.all λx=>decide (x≠f))=true->PutAt f xs
 |[],_,[],_,_=>rfl
 |[],_,_::_,_,e|_::_,_,[],_,e=>by cases e
 |x::xs,h,v::g,y,e=>by
  rw[Qv,WE]at h;show(if x=f then(x,y)::xs.zip g else(x,v)::U4 f y (xs.zip g))=(x,v)::(xs++[f]).zip (g++[y]);rw[Wo (Wi h.1),PutAt.of h.2 g y (by grind)]
end Pu
namespace ExcR
open L2
noncomputable def hxL(K:ZX):List (Addr×Option Nat×TS)->Ends->L2.St->XK
 |[],_=>λ_ _ _ _=>False
 |(n,l,g)::r,D=>λf c h H=>∃C b,c=.ref C/\PySem.W.exmOne K (.ref C) (.ref n)=some b/\
  if b=true then(match l with
   |some i=>∀a,H a=none->g (AZ i D) (f.set i<|some<|.ref a) (upd H a<|Xp a C h)
   |none=>g D f H)else hxL K r D f c h H
section
variable {X:Cx}{pins pins1:Ya}{σ:L2.St}{H H':Hp}{s s':Shared}{h3:Heap}{a T C C0:Addr}{dx:Yk}{fl:Value}{D:Ends}{hs:List ExceptHandler}{L:List (Addr×Option Nat×TS)}
structure Pre (X:Cx) (pins:Ya) (σ:L2.St) (H H':Hp) (s s':Shared) (h3:Heap) (a T C:Addr) (dx:Yk) (fl:Value):Prop where
 I:Inv X pins σ H s
 os:s'.os=s.os
 bare:AllBare s'.gens
 na:s.heap.get? a=none
 nT:s.heap.get? T=none
 fa:H' a=none
 fT:H' T=none
 tr:Trc h3 a T (.ref C,dx) fl
 u:Un (frs X.stack) [] H H' s.heap h3
 ok:HOk X.prog X.w H' h3
def Pre.inv (p:Pre X pins σ H H' s s' h3 a T C dx fl):Inv X pins σ H' {s' with heap:=h3}:=p.I.call' p.os p.u p.ok p.bare λb z=>absurd z (by simp)
def PH(X:Cx)(hs:List ExceptHandler)(L:List (Addr×Option Nat×TS)):Prop:=∀(pins:Ya) (σ:L2.St) (H H':Hp) (s s':Shared) (h3:Heap) (a T C:Addr) (dx:Yk) (fl:Value) (D:Ends),
 Pre X pins σ H H' s s' h3 a T C dx fl->hxL X.K L D σ (.ref C) dx H'->wpAny (model X.prog X.w) X.A (handleBy (.ref a) X.env hs) (SP X pins D) X.xe {s' with heap:=h3}
def RG:PH X [] []:=λ_ _ _ _ _ _ _ _ _ _ _ _ _ _ h=>h.elim
section
variable {x n:Str}{np hpos:Pos}{b0:Stmt}{suite:Yi}{i:Nat}{ts:TS}
def Zau(hN:X.N.Nodup)(hi:X.N[i]?=some n)(E:X.env.scope.names.lookup n=some .local)(hg:Gl X x)(hm:X.mg x=some (.ref C0))(hdb:(x==("__debug__" : Str))=false)(U:∀a,PSs (Xu X a) (b0::suite) ts)(hr:PH X hs L):PH X (.ExceptHandler (some<|.Name x np) (some n) (b0::suite) hpos::hs) ((C0,some i,ts)::L):=by
 rintro pins σ H H' s s' h3 a T C dx fl D p ⟨C',b,ec,em,q⟩;obtain rfl:=Value.ref.inj ec;have J3:=p.inv;have S3:Inv (Xu X a) pins σ H' {s' with heap:=h3}:=TX J3
 refine wpAny_handleBy_cons (codeAny_handlers_test<|Kn S3 hg hm ?_ hdb) (by intro z;cases z);obtain⟨_,⟨oe,vs,g1,g2,g3,g4⟩,_⟩:=id p.tr;refine(PySem.W.exm_one J3.kIn ((show oe.cls=Value.ref C from W9 Prod.fst g2)▸(PySem.W.Looks.ld g1).andThen .now) em).here ?_
 cases b with
 |false=>exact hr pins σ H H' s s' h3 a T C dx fl D p q
 |true=>
 refine codeAny_handlers_suite_as (Pt p.tr λG J k4=>?_);have h:=TR p.u (k4.mono (by simp) λ_ z=>z) λb r=>by rw[Wl.mp r];exact p.nT
 have u5:Un (frs X.stack) [] H (upd H' a<|Xp a C dx) s.heap G:=by
  have ne:∀b o,s.heap.get? b=some o->b≠a:=λb o z w=>by rw[w,p.na]at z;cases z
  have l:∀b o,H' b=some o->b≠a:=λb o z w=>by rw[w,p.fa]at z;cases z
  refine⟨h.keep,h.slot,λb o z n m=>by rw[JF (ne b o z)];exact h.free b o z n m,h.there,λb xs z=>?_,λb o u z=>?_,λb ps z=>?_⟩
  ·rw[JF (l b _<|h.tups b xs z)];exact h.tups b xs z
  ·rw[JF (l b _<|h.frzs b o u z)];exact h.frzs b o u z
  ·obtain⟨more,z1⟩:=h.tbls b ps z;exact⟨more,by rw[JF (l b _ z1)];exact z1⟩
 have Q:HOk X.prog X.w (upd H' a<|Xp a C dx) G:=λb ob e=>by
  by_cases r:b=a
  ·subst r;rw[Um]at e;cases e
   exact MZ J
  ·rw[JF r]at e;refine((KD p.ok k4 (by simp) λb r=>by rw[Wl.mp r];exact p.fT) b ob e).stay (λ_ _ _ z=>z) (λc z=>?_) λc xs z=>?_
   ·rw[JF λw=>by rw[w,p.fa]at z;cases z];exact z
   ·rw[JF λw=>by rw[w,p.fa]at z;cases z];exact z
 have J5:Inv X pins σ (upd H' a<|Xp a C dx) {s' with heap:=G}:=p.I.call' p.os u5 Q p.bare λb z=>absurd z (by simp)
 have S5:Inv (Xu X a) pins σ (upd H' a<|Xp a C dx) {s' with heap:=G}:=TX J5
 refine Bs (X:=Xu X a) S5 hN hi (.inl E) (v:=.ref a) rfl (λs6 S6=>?_) (.inr E);refine WQ (U a pins s6 _ _ _ S6<|q a p.fa) (λf s7 h7=>?_) λ_ _ z=>z.elim
 have gone:∀{g:L2.St} {y:Hp} {R:Unit->Shared->Prop},Inv (Xu X a) pins g y s7->(∀B,Inv X pins (g.set i none) y B->R () B)->wpAny (model X.prog X.w) X.A (do bindName X.env n .none;unbindBehindTheSuite X.env n hpos) R X.xe s7:=λ{g y R} t hR=>by
  obtain⟨m,hn,hl⟩:=id t.loc;exact wpAny_nameGoes_keeps E hn (by rw[show X.env.scope.kind=.function from J5.ok.kind];rfl) λh8 v hn8 Y=>hR _ (O4 (N7 J5.ok t) hN hi E hl hn hn8 Y)
 cases f with
 |ret u=>obtain⟨v,g,y,t,rv,M⟩:=h7;exact gone t λB I8=>⟨v,_,_,I8,rv,M⟩
 |_=>obtain⟨g,y,t,M⟩:=h7;exact gone t λB I8=>⟨_,_,I8,M⟩
def UR(Q:Gl X x)(N:X.mg x=some (.ref C0))(o:(x==("__debug__" : Str))=false)(l:∀a,PSs (Xu X a) (b0::suite) ts)(M:PH X hs L):PH X (.ExceptHandler (some<|.Name x np) none (b0::suite) hpos::hs) ((C0,none,ts)::L):=by
 rintro pins σ H H' s s' h3 a T C dx fl D p ⟨C',b,ec,em,q⟩;obtain rfl:=Value.ref.inj ec;have B:=p.inv;have S3:Inv (Xu X a) pins σ H' {s' with heap:=h3}:=TX B
 refine wpAny_handleBy_cons (codeAny_handlers_test<|Kn S3 Q N ?_ o) (by intro z;cases z);obtain⟨_,⟨J,vs,g1,Y,g3,g4⟩,_⟩:=id p.tr;refine(PySem.W.exm_one B.kIn ((show J.cls=Value.ref C from W9 Prod.fst Y)▸(PySem.W.Looks.ld g1).andThen .now) em).here ?_
 cases b with
 |false=>exact M pins σ H H' s s' h3 a T C dx fl D p q
 |true=>
 refine codeAny_handlers_suite (Pt p.tr λU E y=>?_);have w:Inv X pins σ H' {s' with heap:=U}:=p.I.call' p.os (TR p.u (y.mono (by simp) λ_ z=>z) λb r=>by rw[Wl.mp r];exact p.nT) (KD p.ok y (by simp) λb r=>by rw[Wl.mp r];exact p.fT) p.bare λb z=>absurd z (by simp)
 refine WQ (l a pins _ _ _ _ (TX w) q) (λf s7 A=>?_) λ_ _ z=>z.elim;cases f with
 |ret u=>obtain⟨v,g,H7,t,G,h⟩:=A;exact⟨v,_,_,N7 w.ok t,G,h⟩
 |_=>obtain⟨g,H7,t,h⟩:=A;exact⟨_,_,N7 w.ok t,h⟩
end
noncomputable def P9(X:Cx)(pins:Ya)(D:Ends)(hs:List ExceptHandler):Cx:=
 {X with pn:=X.pn++pins,xe:=λe h=>wpAny (model X.prog X.w) X.A (noteFrame e X.env) (λ_ g=>wpAny (model X.prog X.w) X.A (setFlight e none) (λ_ f=>wpAny (model X.prog X.w) X.A (handleBy e X.env hs) (SP X pins D) X.xe f) X.xe g) X.xe h}
def Hh(I:Inv X pins σ H s):Inv (P9 X pins D hs) [] σ H s:=⟨⟨I.ok.mod,I.ok.kind,I.ok.glob,I.ok.blt,I.ok.above,I.ok.inj,I.ok.has,I.ok.cab,I.ok.hd,I.ok.frames,I.ok.stk,I.ok.exf,I.ok.bs,I.ok.bsz,I.ok.noex,I.ok.exfs,I.ok.funs,I.ok.frf⟩,I.os,I.bare,I.base,I.loc,I.cell,I.free,I.freeC,λp f=>I.pin p (by simpa [P9]using f),I.hok,I.len⟩
def TB(I:Inv (P9 X pins D hs) pins1 σ H s):Inv X pins σ H s:=⟨⟨I.ok.mod,I.ok.kind,I.ok.glob,I.ok.blt,I.ok.above,I.ok.inj,I.ok.has,I.ok.cab,I.ok.hd,I.ok.frames,I.ok.stk,I.ok.exf,I.ok.bs,I.ok.bsz,I.ok.noex,I.ok.exfs,I.ok.funs,I.ok.frf⟩,I.os,I.bare,I.base,I.loc,I.cell,I.free,I.freeC,λp f=>I.pin p (WV _ f),I.hok,I.len⟩
def MQ(h:X.stack=X.env::X.outer)(v:X.env.frame=some X.env.locals)(N:PH X hs L):Ca (CXe X.prog X.w) (P9 X pins D hs) (hxL X.K L D):=by
 rintro pins1 σ H s e s' I ⟨a,T,C,dx,H',rfl,y,q⟩;have I:=TB I;have J:=I.call' y.os y.un y.hok y.bare λb z=>absurd z (by simp);have B:=J.stack;have E:=J.ok.frames;rw[h]at B E;refine AY E B v y.tr λQ p l t A=>?_
 have g:s.heap.get? p=none:=by
  cases z:s.heap.get? p with
  |none=>rfl
  |some o=>
   obtain⟨o1,G⟩:=y.un.there p o z (by simp);exact absurd (Ws G) (QO.mpr l)
 have n:=y.hok.fresh l
 have M:Un (frs X.stack) [] H H' s.heap Q:=TR y.un (by rw[h];exact A) λb f=>by
  rcases Wu.mp f with rfl|f
  ·exact y.na
  ·rw[Wl.mp f];exact y.nT
 have u:=KD y.hok A (λb f=>J.stkFree b (by grind)) λb f=>by
  rcases Wu.mp f with rfl|f
  ·exact y.fa
  ·rw[Wl.mp f];exact y.fT
 refine Pt t λh3 r x=>?_;exact N pins σ H H' s s' h3 a p C dx _ D ⟨I,y.os,y.bare,y.na,g,y.fa,n,r,TR M (x.mono (by simp) λ_ z=>z) λb f=>by rw[Wl.mp f];exact g,KD u x (by simp) λb f=>by rw[Wl.mp f];exact n⟩ q
def OV{n:Ends->TS}(o:∀pins D,PSs (P9 X pins D (p::hs)) body (n D)):PS X (.Try body (p::hs) [] [] pos) (λD σ H=>n D D σ H):=by
 intro pins s σ H D I h;refine wpAny_Try_except (WQ (o pins D [] s σ H D (Hh I) h) (λf t l=>?_) λ_ _ z=>z);cases f with
 |next=>
  obtain⟨g,H',J,q⟩:=l;exact Wy ⟨g,H',TB J,q⟩
 |ret u=>obtain⟨v,g,H',J,r,q⟩:=l;exact⟨v,g,H',TB J,r,q⟩
 |_=>obtain⟨g,H',J,q⟩:=l;exact⟨g,H',TB J,q⟩
end
end ExcR
namespace Pu
open L2 Own
noncomputable def P8(c n:Str):Bool:=decide (c=n) || decide (n=("MeldError" : Str))
noncomputable def O0(oi:Option Nat)(R:XA):XA:=match oi with
 |some i=>{nx:=λg=>R.nx (g.set i none),rt:=R.rt,ex:=λ_ _=>False,bk:=λg=>R.bk (g.set i none),ct:=λg=>R.ct (g.set i none),rv:=R.rv}
 |none=>{R with ex:=λ_ _=>False}
noncomputable def IF(oi:Option Nat)(d:D)(f:Γ):Γ:=match oi with
 |some i=>f.set i (some<|.sh d)
 |none=>f
def pHs:List (Str×Option Nat×PTS)->Str->D->XA->Γ->Prop
 |[],_,_,_,_=>False
 |(n,g,p)::r,c,d,R,f=>if P8 c n=true then p (O0 g R) (IF g d f)else pHs r c d R f
noncomputable def RI(g:Yb)(o:Yg)(h:List (Str×Option Nat×PTS))(n:PTS):PTS:=λR l=>n {R with ex:=λf c=>(c∈o/\pHs h c (.err<|ExcR.J0 g c) R f)\/∃r,c=Bv r/\pHs h "Ringed" (.erM (ExcR.J0 g "Ringed") r) R f} l
def ExOk(K:ZX)(f:Yb)(h g:Yg):Prop:=∀c∈h,∀n∈g,PySem.W.exmOne K (.ref<|ExcR.J0 f c) (.ref<|ExcR.J0 f n)=some (P8 c n)
inductive HsS (K:ZX) (mg:Yb) (E:L2.St->XK):List (Addr×Option Nat×TS)->List (Str×Option Nat×PTS)->Prop
 |nil:HsS K mg E [] []
 |cons {n:Str} {oi:Option Nat} {ts:TS} {p:PTS} {L:List (Addr×Option Nat×TS)} {hs:List (Str×Option Nat×PTS)}:JA K mg E ts p->HsS K mg E L hs->HsS K mg E ((ExcR.J0 mg n,oi,ts)::L) ((n,oi,p)::hs)
section
variable {K:ZX}{mg:Yb}{E:L2.St->XK}
theorem B2{B Y w}{γ x}{R D c d C dx}(T:∀b,B b->∃o,M b=some o)(e:Ph K mg E M B H Y γ R D)(U:Jz K M B H' w x)(A:Fr B H Y γ H' w x){E'}(hd:∀a,H' a=none->Rp K (off (zof B x w)<|upd H' a<|ExcR.Xp a C dx) d (.ref a)):∀{L} {N:List (Str×Option Nat×PTS)},HsS K mg E' L N->(∀n∈N.map (·.1),PySem.W.exmOne K (.ref C) (.ref<|ExcR.J0 mg n)=some (P8 c n))->pHs N c d R x->ExcR.hxL K L D w (.ref C) dx H'
 |_,_,.nil,_,h=>h
 |_,_,.cons (n:=n) (oi:=oi) hh r,hx,h=>by
  refine⟨C,P8 c n,rfl,hx n W7,?_⟩;unfold pHs at h;split at h
  ·rename_i Q;rw[Wm Q];cases oi with
   |none=>exact hh M B H' w x _ _ T U h ⟨λf g u l t p=>e.nx _ _ u l t (A.trans p),e.rt,λ_ _ _ _ z=>z.elim,λf g u l t p=>e.bk _ _ u l t (A.trans p),λf g u l t p=>e.ct _ _ u l t (A.trans p),λf g d v u l t p=>e.rv f g d v u l t (A.trans p)⟩
   |some i=>
    intro a na;obtain⟨e2,f2⟩:=U.set (s:=.sh d) (UP na) (hd a na) rfl;have y:=A.trans f2;refine hh M B _ _ _ _ _ T e2 h ⟨λf g u l t p=>?_,e.rt,λ_ _ _ _ z=>z.elim,λf g u l t p=>?_,λf g u l t p=>?_,λf g d v u l t p=>e.rv f g d v u l t (y.trans p)⟩
    ·obtain⟨J,G⟩:=t.gone i;exact e.nx _ _ u l J (y.trans<|p.trans G)
    ·obtain⟨J,G⟩:=t.gone i;exact e.bk _ _ u l J (y.trans<|p.trans G)
    ·obtain⟨J,G⟩:=t.gone i;exact e.ct _ _ u l J (y.trans<|p.trans G)
  ·rename_i Q;rw[Wo Q];exact B2 T e U A hd r (λn hn=>hx n (W0 _ hn)) h
def RM{x:Ends->TS}{pb}{E'}(w y:Yg)(hx:ExOk K mg ("Ringed" :: w) y)(G:HsS K mg E' L A)(hb:∀D,JA K mg (ExcR.hxL K L D) (x D) pb)(Y:autoParam (A.map (·.1)=y) au_0)(hd:autoParam (∀c∈w,Kr c=none) au_1):JA K mg E (λD s H=>x D D s H) (RI mg w A pb):=by
 subst Y;intro H0 B H s U R D u v h e;refine hb D H0 B H s U _ D u v h ⟨e.nx,e.rt,λQ T c H' hc f J=>?_,e.bk,e.ct,e.rv⟩;rcases hc with⟨g,t⟩|⟨r,rfl,t⟩
 ·exact .of (hd c g) (B2 u e f J (λa p=>.err (Uj Um λz=>by have:=f.zm a z;rw[p]at this;exact this)) G (hx c<|W0 _ g) t)
 ·refine .ofM λM l o n C=>B2 u e f J (λa p=>?_) G (hx _ W7) t;have N:=UP (o:=ExcR.Xp a (ExcR.J0 mg "Ringed") (some M)) p;exact .erM (Uj Um λz=>by have:=f.zm a z;rw[p]at this;exact this) (Uj (N _ _ n) λz=>by have:=f.zm M z;rw[n]at this;exact this) (Uj (N _ _ C) λz=>by have:=f.zm l z;rw[C]at this;exact this)
end
def ExOk.sub {K o p l g f} (h:ExOk K o p l) (u:∀c∈g,c∈p) (t:∀n∈f,n∈l):ExOk K o g f:=λc s n r=>h c (u c s) n (t n r)
noncomputable def DK(K:ZX)(g f:Yl):Bool:=g.all λc=>f.all λn=>decide (PySem.W.exmOne K (.ref c.2) (.ref n.2)=some (P8 c.1 n.1))
def G3{K f l g}(h:DK K (l.map λc=>(c,ExcR.J0 f c)) (g.map λn=>(n,ExcR.J0 f n))=true):ExOk K f l g:=λc p n o=>
 Wi (WG.mp (WG.mp h _<|WM.mpr ⟨c,p,rfl⟩) _<|WM.mpr ⟨n,o,rfl⟩)
def hq{A}(h:J7 j A)(f:autoParam (k<=j) au_1):J7 k A:=h.mono f
section
variable {X:Cx}{sc:Scope}{elt iter tg:Expr}{ifs:Yh}{pos:Pos}{wi:TI}{g:TG}{tc:TT}{te:TE}{x:Str}
def cz(n:Yg)(r:Yd)(t:PI X tg iter wi)(o:∀{p C f h ex},PG (Up X n sc p C f h ex) tg g/\KW (Up X n sc p C f h ex) ifs tc/\PE (Up X n sc p C f h ex) elt te)(l:autoParam (X.calm=true) au_0)(S:autoParam (Ng sc X.env.scope X.N n r=true) au_0)(s:autoParam (∀x,foldedSetIterable iter X.env x=pure x) au_3):PE X (.ListComp elt [⟨tg,iter,ifs,0⟩] sc pos) (T5 r wi g tc te):=Cf l (.of S) t (λ_ _ _ _ _=>o) s
def gk(i:Nat)(l:autoParam (decide X.N.Nodup=true) au_8)(f:autoParam (X.N[i]?=some x) au_0)(hx:autoParam (Loc X.env.scope x) au_6)(h:autoParam (X.fn x=true\/X.env.scope.names.lookup x=some .local) au_2):PG X (.Name x pos) (PU i):=Og (Wi l) f hx h
end
section
variable {P:Program}{w:World}{K:ZX}{mg:Yb}{base:Heap}{N ps:Yg}{sp:Sp}{p:PTS}{x q:Str}{st:Stmt}{k:Nat}{W:Addr->Prop}
def _root_.Own.Def.ez (D:Def K mg x st ps) (S:J1 N ps (Jy st))
  (h:∀{f g A outer s H} {E:XK},J7 k (A.deeper<|envOfC x (Jy st) s.heap.objs.size f g)->
   ∃t,PSs (JX CX0 P w K mg base N x (Jy st) f g A outer s H E).nox (JT st) t/\JA K mg (λ_=>E) t p) (u:Uz K mg N ps sp p):Callee P w K mg base CX0 (k+1) x ps sp:=D.oz S (λ_ _ _ _ _ _ _=>h) u
def _root_.Own.Def.ey (D:Def K mg x st ps) (S:J1 N ps (Jy st))
  (h:∀{f g A outer s H} {E:XK},J7 k (A.deeper<|envOfC x (Jy st) s.heap.objs.size f g)->
   ∃t,PSs (JX (ExcR.CXe P w) P w K mg base N x (Jy st) f g A outer s H E) (JT st) t/\JA K mg (λ_=>E) t p) (u:Uz K mg N ps sp p):Callee P w K mg base (ExcR.CXe P w) (k+1) x ps sp:=D.ox S (λ_ _ _ _ _ _ _=>h) u
def JO.ez (D:JO K W x q st ps) (S:J1 N ps (Jy st))
  (h:∀{f g A outer s H} {E:XK},J7 k (A.deeper<|envOfC q (Jy st) s.heap.objs.size f g)->
   ∃t,PSs (JX CX0 P w K mg base N q (Jy st) f g A outer s H E).nox (JT st) t/\JA K mg (λ_=>E) t p) (u:Uz K mg N ps sp p):Xf P w K mg base CX0 (k+1) W ps sp:=D.oz S (λ_ _ _ _ _ _ _=>h) u
def JO.ey (D:JO K W x q st ps) (S:J1 N ps (Jy st))
  (h:∀{f g A outer s H} {E:XK},J7 k (A.deeper<|envOfC q (Jy st) s.heap.objs.size f g)->
   ∃t,PSs (JX (ExcR.CXe P w) P w K mg base N q (Jy st) f g A outer s H E) (JT st) t/\JA K mg (λ_=>E) t p) (u:Uz K mg N ps sp p):Xf P w K mg base (ExcR.CXe P w) (k+1) W ps sp:=D.ox S (λ_ _ _ _ _ _ _=>h) u
end
structure Fit {ι:Type} (F:ι->Cx) (K:ZX) (mg:Yb):Prop where
 k:∀j,(F j).K=K
 m:∀j,(F j).mg=mg
section
variable {ι:Type} (F:ι->Cx) (K:ZX) (mg:Yb) (E:L2.St->XK)
structure CE (e:Expr) (p:PTE):Prop where
 h:Fit F K mg->∃t,(∀j,PE (F j) e t)/\Jw K mg E t p
structure CT (e:Expr) (p:PTT):Prop where
 h:Fit F K mg->∃t,(∀j,PT (F j) e t)/\Uq K mg E t p
structure CW (e:Expr) (p:PTT):Prop where
 h:Fit F K mg->∃t,(∀j,PW (F j) e t)/\Uq K mg E t p
structure CA (es:Yh) (p:PTA):Prop where
 h:Fit F K mg->∃t,(∀j,PA (F j) es t)/\JI K mg E t p
structure CS (s:Stmt) (p:PTS):Prop where
 h:Fit F K mg->∃t,(∀j,PS (F j) s t)/\JA K mg E t p
structure CB (b:Yi) (p:PTS):Prop where
 h:Fit F K mg->∃t,(∀j,PSs (F j) b t)/\JA K mg E t p
structure CI (tg e:Expr) (p:PTI):Prop where
 h:Fit F K mg->∃t,(∀j,PI (F j) tg e t)/\SndI K mg E t p
structure CJ (tg e:Expr) (p:PTI):Prop where
 h:Fit F K mg->∃t,(∀j,PI (F j) tg e t)/\KZ K mg E t p
structure CG (e:Expr) (is:Ye) (p:PTG):Prop where
 h:Fit F K mg->∃t,(∀j,PG (F j) e t)/\Kj K is t p
structure CGs (es:Yh) (is:Ye) (p:KH):Prop where
 h:Fit F K mg->∃t,(∀j,PGs (F j) es t)/\PY K is t p
structure CF (es:Yh) (p:PTT):Prop where
 h:Fit F K mg->∃t,(∀j,KW (F j) es t)/\Uq K mg E t p
end
section
variable {ι:Type}{F:ι->Cx}{K:ZX}{mg:Yb}{E:L2.St->XK}{e f g:Expr}{es:Yh}{a b c:PTE}{r:PTA}{x:Str}{pos p1:Pos}{k n:Nat}{s:Stmt}{d1 d2:Yi}{p q:PTS}{t u:PTT}{is:Ye}{pg:PTG}{it:PTI}
def xv(i:Nat)(v:autoParam (∀j,(F j).N[i]?=some x) au_3)(h:autoParam (∀j,Vis (F j).env.scope x) au_9)(l:autoParam ((x==("__debug__" : Str))=false) au_1)(o:autoParam ((x==("__classdict__" : Str))=false) au_1):CE F K mg E (.Name x pos) (TH i):=.mk λ_=>⟨_,λj=>pv i (v j) (h j) l o,Jx i⟩
def xi:CE F K mg E (.Constant (.int i) k pos) (pC<|.int i):=.mk λ_=>⟨_,λ_=>JE,J8⟩
def xb:CE F K mg E (.Constant (.bool i) k pos) (pC<|.bl i):=.mk λ_=>⟨_,λ_=>AB,AS⟩
def xs:CE F K mg E (.Constant (.str i) k pos) (pC<|.str i):=.mk λ_=>⟨_,λ_=>JD,JC⟩
def xe(h:∀{j},PE (F j) e te)(k:Jw K mg E te a):CE F K mg E e a:=.mk λ_=>⟨_,λ_=>h,k⟩
def xo{r}(y:∀{X},OpR X (binaryOp l) r)(w:∀{t u},Jw K mg E t a->Jw K mg E u b->Jw K mg E (tOp r t u) c)(A:CE F K mg E e a)(B:CE F K mg E f b):CE F K mg E (.BinOp e l f pos) c:=
 .mk λh=>let ⟨_,C,v⟩:=A.h h;let ⟨_,z,o⟩:=B.h h;⟨_,λj=>Kp y (C j) (z j),w v o⟩
def xx(A:CE F K mg E e a)(B:CE F K mg E f b)(v:autoParam (Sr f) au_7):CE F K mg E (.Subscript e f pos) (p2 a b fIx):=
 .mk λh=>let ⟨_,y,o⟩:=A.h h;let ⟨_,w,l⟩:=B.h h;⟨_,λj=>jx K (y j) (w j) (h.k j) v,Ue o l⟩
def xl(w:mg "len"=none)(A:CE F K mg E e a)(y:autoParam (∀j,Gl (F j) "len") au_3)(v:autoParam (∀j,starEach [e] (F j).env=(false,eval e (F j).env)::starEach [] (F j).env) au_3)(l:autoParam (∀j,(backTo pos (starEach [] (F j).env)).any (·.1)=false) au_3) :
  CE F K mg E (.Call (.Name "len" p1) [e] [] pos) (pCB SW<|UN a XC):=
 .mk λh=>let ⟨_,z,o⟩:=A.h h;⟨_,λj=>ln K (by rw[h.m j];exact w) (z j) (h.k j) (y j) (v j) (l j),Ky (sz o)⟩
def xf{ps v}(C:Callee P w K mg base CX0 k x ps (J9 mg v K))(H:∀j,J7 m (F j).A)(A:CA F K mg E (e::es) r)(N:autoParam (∀j,(F j).prog=P/\(F j).w=w/\(F j).base=base) au_10)(J:autoParam (k<=m) au_1)(L:autoParam (∀j,Gl (F j) x) au_3)(o:autoParam ((x==("__debug__" : Str))=false) au_1)(M:autoParam (∀j,starEach (e::es) (F j).env=(false,eval e (F j).env)::starEach es (F j).env) au_3)(l:autoParam (∀j,(backTo pos (starEach es (F j).env)).any (·.1)=false) au_3) :
  CE F K mg E (.Call (.Name x p1) (e::es) [] pos) (Di v r):=
 .mk λh=>let ⟨_,Q,G⟩:=A.h h;⟨_,λj=>fz (by obtain⟨B,z,y⟩:=N j;rw[B,z,y,h.k j,h.m j];exact C) (H j) (Q j) J (L j) o (M j) (l j),Nf G⟩
def xt(A:CA F K mg E es r):CE F K mg E (.Tuple es k pos) (D4 r):=.mk λh=>let ⟨_,o,l⟩:=A.h h;⟨_,λj=>Kl (o j),Kv l⟩
def xL(A:CA F K mg E es r):CE F K mg E (.List es pos) (AO r):=.mk λh=>let ⟨_,o,l⟩:=A.h h;⟨_,λj=>X5 (o j),X6 l⟩
def a0:CA F K mg E [] XC:=.mk λ_=>⟨_,λ_=>Xn,JV⟩
def ac(A:CE F K mg E e a)(B:CA F K mg E es r)(y:autoParam (∀j,starEach (e::es) (F j).env=(false,eval e (F j).env)::starEach es (F j).env) au_3):CA F K mg E (e::es) (UN a r):=
 .mk λh=>let ⟨_,w,o⟩:=A.h h;let ⟨_,v,l⟩:=B.h h;⟨_,λj=>Uo (w j) (v j) (y j),UH o l⟩
def a1(A:CE F K mg E e a)(h:autoParam (∀j,starEach [e] (F j).env=(false,eval e (F j).env)::starEach [] (F j).env) au_3):CA F K mg E [e] (UN a XC):=ac A a0 h
def a2(A:CE F K mg E e a)(B:CE F K mg E f b)(l:autoParam (∀j,starEach [e,f] (F j).env=(false,eval e (F j).env)::starEach [f] (F j).env) au_3)(h:autoParam (∀j,starEach [f] (F j).env=(false,eval f (F j).env)::starEach [] (F j).env) au_3):CA F K mg E [e,f] (UN a<|UN b XC):=ac A (a1 B h) l
def a3(A:CE F K mg E e a)(B:CE F K mg E f b)(C:CE F K mg E g c)(o:autoParam (∀j,starEach [e,f,g] (F j).env=(false,eval e (F j).env)::starEach [f,g] (F j).env) au_3)(l:autoParam (∀j,starEach [f,g] (F j).env=(false,eval f (F j).env)::starEach [g] (F j).env) au_3)(h:autoParam (∀j,starEach [g] (F j).env=(false,eval g (F j).env)::starEach [] (F j).env) au_3):CA F K mg E [e,f,g] (UN a<|UN b<|UN c XC):=ac A (a2 B C l h) o
def te(h:∀{j},PT (F j) e tt)(k:Uq K mg E tt t):CT F K mg E e t:=.mk λ_=>⟨_,λ_=>h,k⟩
def tc{r}(y:∀{X},OpR X (compareOp l) r)(w:∀{t u},Jw K mg E t a->Jw K mg E u b->Jw K mg E (tOp r t u) c)(A:CE F K mg E e a)(B:CE F K mg E f b)(z:behindInMarks l f=false:=by exact Xt _):CT F K mg E (.Compare e [l] [f] pos) (Kw c):=
 .mk λh=>let ⟨_,G,v⟩:=A.h h;let ⟨_,C,o⟩:=B.h h;⟨_,λj=>X7 y (G j) (C j) z,Xj (w v o)⟩
def tq(v:∀j,J7 n (F j).A)(A:CE F K mg E e a)(B:CE F K mg E f b):CT F K mg E (.Compare e [.Eq] [f] pos) (Kw<|p2 a b<|Pd false):=
 .mk λh=>let ⟨_,y,o⟩:=A.h h;let ⟨_,w,l⟩:=B.h h;⟨_,λj=>cq K (v j) (y j) (w j) (h.k j),Xj (TL o l)⟩
def tn(v:∀j,J7 n (F j).A)(A:CE F K mg E e a)(B:CE F K mg E f b):CT F K mg E (.Compare e [.NotEq] [f] pos) (Kw<|p2 a b<|Pd true):=
 .mk λh=>let ⟨_,y,o⟩:=A.h h;let ⟨_,w,l⟩:=B.h h;⟨_,λj=>cn K (v j) (y j) (w j) (h.k j),Xj (Ad o l)⟩
def ti(v:∀j,J7 n (F j).A)(A:CE F K mg E e a)(B:CE F K mg E f b)(w:autoParam (behindInMarks .In f=false) au_11):CT F K mg E (.Compare e [.In] [f] pos) (Kw<|p2 a b<|fIn false):=
 .mk λh=>let ⟨_,z,o⟩:=A.h h;let ⟨_,y,l⟩:=B.h h;⟨_,λj=>X7 (ID (Ed<|v j)<|h.k j) (z j) (y j) w,Xj (Ag o l)⟩
def tI(v:∀j,J7 n (F j).A)(A:CE F K mg E e a)(B:CE F K mg E f b)(w:autoParam (behindInMarks .NotIn f=false) au_11):CT F K mg E (.Compare e [.NotIn] [f] pos) (Kw<|p2 a b<|fIn true):=
 .mk λh=>let ⟨_,z,o⟩:=A.h h;let ⟨_,y,l⟩:=B.h h;⟨_,λj=>X7 (HD (Ed<|v j)<|h.k j) (z j) (y j) w,Xj (Ag o l)⟩
def tt(A:CE F K mg E e a)(o:autoParam (∀j whole,isTrue e (F j).env whole=(do let v ←whole;standAt e.pos;holding [v] (truthy v))) au_7):CT F K mg E e (AE a):=.mk λh=>let ⟨_,w,l⟩:=A.h h;⟨_,λj=>DE (w j) (h.k j) (o j),DN l⟩
def tN(A:CT F K mg E e t):CT F K mg E (.UnaryOp .Not e pos) (CC t):=.mk λh=>let ⟨_,o,l⟩:=A.h h;⟨_,λj=>Cu (o j),EE l⟩
def tp(A:CW F K mg E e t):CT F K mg E e t:=.mk λh=>let ⟨_,o,l⟩:=A.h h;⟨_,λj=>(o j).pt,l⟩
def wa(A:CT F K mg E e t)(B:CW F K mg E (.BoolOp .And (f::es) pos) u):CW F K mg E (.BoolOp .And (e::f::es) pos) (FA t u):=.mk λh=>let ⟨_,w,o⟩:=A.h h;let ⟨_,v,l⟩:=B.h h;⟨_,λj=>Oa (w j) (v j),Ln o l⟩
def wo(A:CT F K mg E e t)(B:CW F K mg E (.BoolOp .Or (f::es) pos) u):CW F K mg E (.BoolOp .Or (e::f::es) pos) (pOr t u):=.mk λh=>let ⟨_,w,o⟩:=A.h h;let ⟨_,v,l⟩:=B.h h;⟨_,λj=>FU (w j) (v j),Ga o l⟩
def wA(A:CT F K mg E e t):CW F K mg E (.BoolOp .And [e] pos) t:=.mk λh=>let ⟨_,o,l⟩:=A.h h;⟨_,λj=>HV (o j),l⟩
def wO(A:CT F K mg E e t):CW F K mg E (.BoolOp .Or [e] pos) t:=.mk λh=>let ⟨_,o,l⟩:=A.h h;⟨_,λj=>CZ (o j),l⟩
def se(h:∀{j},PS (F j) s l)(k:JA K mg E l p):CS F K mg E s p:=.mk λ_=>⟨_,λ_=>h,k⟩
def sS(i:Nat)(y:∀j,(F j).N.Nodup)(A:CE F K mg E e a)(v:autoParam (∀j,(F j).N[i]?=some x) au_3)(hx:autoParam (∀j,Loc (F j).env.scope x) au_12)(o:autoParam (∀j,swapsWith e (some<|.Name x p1) pos.line (F j).env=pure false) au_3)(w:autoParam (∀j,(F j).fn x=true\/(F j).env.scope.names.lookup x=some .local) au_13):CS F K mg E (.Assign [.Name x p1] e pos) (CN a<|P2 i):=
 .mk λh=>let ⟨_,z,l⟩:=A.h h;⟨_,λj=>pz i (y j) (z j) (v j) (hx j) (o j) (w j),Ms l (XI i)⟩
def sR(A:CE F K mg E e a):CS F K mg E (.Return (some e) pos) (Da a):=.mk λh=>let ⟨_,o,l⟩:=A.h h;⟨_,λj=>JH (o j),AC l⟩
def sF(i:Nat)(A:CS F K mg E s p):CS F K mg E s (EJ i p):=.mk λh=>let ⟨_,o,l⟩:=A.h h;⟨_,o,Su i l⟩
def sI(A:CT F K mg E e t)(B:CB F K mg E d1 p)(C:CB F K mg E d2 q):CS F K mg E (.If e d1 d2 pos) (FL t p q):=.mk λh=>let ⟨_,z,v⟩:=A.h h;let ⟨_,y,o⟩:=B.h h;let ⟨_,w,l⟩:=C.h h;⟨_,λj=>Fx (z j) (y j) (w j),Zbc v o l⟩
def sE(A:CE F K mg E e a)(o:autoParam (∀j,swapsWith e none pos.line (F j).env=pure false) au_3):CS F K mg E (.Expr e pos) (CM a):=.mk λh=>let ⟨_,v,l⟩:=A.h h;⟨_,λj=>Xg (v j) (o j),Pb l⟩
def sO(l:Ye)(C:∀{j},PassesOwn (model (F j).prog (F j).w) (F j).A (F j).env (F j).xe)(I:CI F K mg E f e it)(G:CG F K mg f is pg)(B:CB F K mg E d1 p)(H:autoParam (∀j,(F j).calm=true) au_3)(z:autoParam (∀j x,foldedSetIterable e (F j).env x=pure x) au_7) :
  CS F K mg E (.For f e d1 [] pos) (Ae l it pg p):=
 .mk λh=>let ⟨_,M,y⟩:=I.h h;let ⟨_,L,v⟩:=G.h h;let ⟨_,J,o⟩:=B.h h;⟨_,λj=>Rv C (H j) (M j) (L j) (J j) (z j),Rc l y v o⟩
def b0:CB F K mg E [] Em:=.mk λ_=>⟨_,λ_=>Fu,Ds⟩
def b1(A:CS F K mg E s p):CB F K mg E [s] p:=.mk λh=>let ⟨_,o,l⟩:=A.h h;⟨_,λj=>Uw (o j),l⟩
def bc(A:CS F K mg E s p)(B:CB F K mg E d1 q):CB F K mg E (s::d1) (En p q):=.mk λh=>let ⟨_,w,o⟩:=A.h h;let ⟨_,v,l⟩:=B.h h;⟨_,λj=>Ee (w j) (v j),Ao o l⟩
def bj(A:CS F K mg E s p)(B:CB F K mg E d1 q):CB F K mg E (s::d1) (Fm p q):=.mk λh=>let ⟨_,w,o⟩:=A.h h;let ⟨_,v,l⟩:=B.h h;⟨_,λj=>Iv (w j) (v j),OD o l⟩
def ie(h:∀{j},PI (F j) f e l)(k:SndI K mg E l it):CI F K mg E f e it:=.mk λ_=>⟨_,λ_=>h,k⟩
def iL(A:CE F K mg E e a):CI F K mg E f e (pIL a):=.mk λh=>let ⟨_,o,l⟩:=A.h h;⟨_,λj=>P7 (o j) (h.k j),Lb l⟩
def ir(v:mg "range"=none)(A:CA F K mg E [e] r)(w:autoParam (∀j,Gl (F j) "range") au_3)(o:autoParam (∀j,starEach [e] (F j).env=[(false,eval e (F j).env)]) au_3):CI F K mg E f (.Call (.Name "range" p1) [e] [] pos) (Co r):=
 .mk λh=>let ⟨_,y,l⟩:=A.h h;⟨_,λj=>Gp (w j) (by rw[h.m j];exact v) (y j) (o j),Zac l⟩
def iR(w:mg "range"=none)(A:CA F K mg E [e,g] r)(y:autoParam (∀j,Gl (F j) "range") au_3)(v:autoParam (∀j,starEach [e,g] (F j).env=[(false,eval e (F j).env),(false,eval g (F j).env)]) au_3)(l:autoParam (∀j,starEach [g] (F j).env=[(false,eval g (F j).env)]) au_3):CI F K mg E f (.Call (.Name "range" p1) [e,g] [] pos) (Cp r):=
 .mk λh=>let ⟨_,z,o⟩:=A.h h;⟨_,λj=>Ou (y j) (by rw[h.m j];exact w) (z j) (v j) (l j),IW o⟩
def je(h:∀{j},PI (F j) f e l)(k:KZ K mg E l it):CJ F K mg E f e it:=.mk λ_=>⟨_,λ_=>h,k⟩
def jL(A:CE F K mg E e a):CJ F K mg E f e (Ax a):=.mk λh=>let ⟨_,o,l⟩:=A.h h;⟨_,λj=>P7 (o j) (h.k j),Sf l⟩
def jI(I:CI F K mg E f e it):CJ F K mg E f e it:=.mk λh=>let ⟨_,o,l⟩:=I.h h;⟨_,o,l.c⟩
def gN(i:Nat)(o:autoParam (∀j,decide (F j).N.Nodup=true) au_14)(h:autoParam (∀j,(F j).N[i]?=some x) au_3)(hx:autoParam (∀j,Loc (F j).env.scope x) au_12)(l:autoParam (∀j,(F j).fn x=true\/(F j).env.scope.names.lookup x=some .local) au_13):CG F K mg (.Name x pos) [i] (P2 i):=.mk λ_=>⟨_,λj=>gk i (o j) (h j) (hx j) (l j),XI i⟩
def gT(n:Nat){pr}(G:CGs F K mg es is pr)(w:autoParam (∀j,(F j).calm=true) au_3)(v:autoParam (∀j,(assignEach es (F j).env).length=n) au_3)(l:autoParam (∀j,(assignEach es (F j).env).findIdx? (·.1)=none) au_3):CG F K mg (.Tuple es k pos) is (Bx n pr):=
 .mk λh=>let ⟨_,y,o⟩:=G.h h;⟨_,λj=>RV (w j) (y j) (h.k j) (v j) (l j),Mx o⟩
def g0:CGs F K mg [] [] Ek:=.mk λ_=>⟨_,λ_=>OI,Lx⟩
def gc(G:CG F K mg e is pg)(B:CGs F K mg es w l)(y:autoParam (∀j,(assignEach (e::es) (F j).env).map (·.2)=assign e (F j).env::(assignEach es (F j).env).map (·.2)) au_3):CGs F K mg (e::es) (is++w) (Ff pg l):=
 .mk λh=>let ⟨_,A,v⟩:=G.h h;let ⟨_,z,o⟩:=B.h h;⟨_,λj=>LI (A j) (z j) (y j),Zbf v o⟩
def f0:CF F K mg E [] SL:=.mk λ_=>⟨_,λ_=>Pa,KG⟩
def f1(A:CT F K mg E e t):CF F K mg E [e] t:=.mk λh=>let ⟨_,o,l⟩:=A.h h;⟨_,λj=>MV (o j),l⟩
noncomputable abbrev Blk(F:ι->Cx)(l:Yg)(h:Scope):ι×Yl×Addr×Shared×Hp×List Addr->Cx:=λj=>Up (F j.1) l h j.2.1 j.2.2.1 j.2.2.2.1 j.2.2.2.2.1 j.2.2.2.2.2
def xC(w:Yg)(y:Yd)(I:CJ F K mg E f e it)(G:CG (Blk F w v) K mg f is pg)(T:CF (Blk F w v) K mg E es t)(A:CE (Blk F w v) K mg E g a)(hc:autoParam (∀j,(F j).calm=true) au_3)(S:autoParam (∀j,Ng v (F j).env.scope (F j).N w y=true) au_3)(hs:autoParam (∀j x,foldedSetIterable e (F j).env x=pure x) au_7)(h1:autoParam ((y.filterMap id).Nodup) au_1)(h2:autoParam (∀j∈is,y[j]?=some none) au_1) :
  CE F K mg E (.ListComp g [⟨f,e,es,0⟩] v pos) (De y it pg t a):=.mk λh=>by
 have z:Fit (Blk F w v) K mg:=⟨λj=>h.k j.1,λj=>h.m j.1⟩;obtain⟨_,i1,Q⟩:=I.h h;obtain⟨_,i2,M⟩:=G.h z;obtain⟨_,Y,L⟩:=T.h z;obtain⟨_,U,J⟩:=A.h z;exact⟨_,λj=>Cf (hc j) (.of<|S j) (i1 j) (λH C l o B=>⟨i2 (j,H,C,l,o,B),Y (j,H,C,l,o,B),U (j,H,C,l,o,B)⟩) (hs j),KU Q M L J h1 h2⟩
def sN(i:Nat)(A:CS F K mg E s p):CS F K mg E s (pNm i p):=.mk λh=>let ⟨_,o,l⟩:=A.h h;⟨_,o,LU i l⟩
def sV(i:Nat)(v:autoParam (∀j,(F j).N[i]?=some x) au_3)(h:autoParam (∀j,Vis (F j).env.scope x) au_9)(l:autoParam ((x==("__debug__" : Str))=false) au_1)(o:autoParam ((x==("__classdict__" : Str))=false) au_1):CS F K mg E (.Return (some<|.Name x p1) pos) (NK i):=.mk λ_=>⟨_,λj=>JH (pv i (v j) (h j) l o),HE i⟩
def sA(i:Nat)(A:CE F K mg E e a)(H:autoParam (∀j,(F j).N[i]?=some x) au_3)(B:autoParam (∀j,Vis (F j).env.scope x) au_9)(C:autoParam ((x==("__debug__" : Str))=false) au_1)(G:autoParam ((x==("__classdict__" : Str))=false) au_1){apos cpos}(v:autoParam (∀j,attributeBase (.Name x p1) "append" (F j).env (eval (.Name x p1) (F j).env)=eval (.Name x p1) (F j).env) au_3)(w:autoParam (∀j,((backTo cpos (starEach [e] (F j).env)).all (λx=>!x.1)&&(backToKw cpos (keywordEach [] (F j).env)).all (λx=>x.1.isSome)&&decide ([e].length+([]:List Keyword).length+(if ([]:List Keyword).isEmpty then 0 else 1)<30))=true) au_3)(o:autoParam ((apos.endLine==cpos.line)=true) au_0)(y:autoParam (∀j,starEach [e] (F j).env=(false,eval e (F j).env)::starEach [] (F j).env) au_3)(l:autoParam (∀j,(backTo cpos (starEach [] (F j).env)).any (·.1)=false) au_3)(hw:autoParam (∀j,swapsWith (.Call (.Attribute (.Name x p1) "append" apos) [e] [] cpos) none pos.line (F j).env=pure false) au_3):CS F K mg E (.Expr (.Call (.Attribute (.Name x p1) "append" apos) [e] [] cpos) pos) (Bp i a):=
 .mk λh=>let ⟨_,J,z⟩:=A.h h;⟨_,λj=>Xg (Tb WL Qm Qn PP (pv i (H j) (B j) C G) (Uo (J j) Xn<|y j) (h.k j) (v j) (w j) o (y j)<|l j) (hw j),Gc i z⟩
structure CO {ι:Type} (F:ι->Cx) (K:ZX) (mg:Yb) (E:L2.St->XK) (o:Option Expr) (p:PTO):Prop where
 h:Fit F K mg->∃t,(∀j,PO (F j) o t)/\Xk K mg E t p
def o0:CO F K mg E none FT:=.mk λ_=>⟨_,λ_=>KL,K9⟩
def o1(A:CE F K mg E e a):CO F K mg E (some e) (DP a):=.mk λh=>let ⟨_,o,l⟩:=A.h h;⟨_,λj=>XU (o j),Ka l⟩
def xp{lo o l u v}(A:CE F K mg E e a)(L:CO F K mg E lo l)(U:CO F K mg E o u):CE F K mg E (.Subscript e (.Slice lo o none v) pos) (pSl a l u):=
 .mk λh=>let ⟨_,G,z⟩:=A.h h;let ⟨_,C,y⟩:=L.h h;let ⟨_,B,w⟩:=U.h h;⟨_,λj=>Ks (T6<|h.k j) (G j) (C j) (B j),Ey z y w⟩
def xI(C:CT F K mg E g t)(A:CE F K mg E e a)(B:CE F K mg E f b):CE F K mg E (.IfExp g e f pos) (D8 t a b):=.mk λh=>let ⟨_,z,v⟩:=C.h h;let ⟨_,y,o⟩:=A.h h;let ⟨_,w,l⟩:=B.h h;⟨_,λj=>EX (z j) (y j) (w j),Iq v o l⟩
def sQ{cpos v}(B:ExcR.Ut K (ExcR.J0 mg x))(y:mg x=some (.ref<|ExcR.J0 mg x))(H:∀{j},ExcR.NZ (F j) v)(A:CA F K mg (λ_=>v) (e::es) r)(G:autoParam (∀j,(F j).calm=true) au_3)(z:autoParam (∀j,Gl (F j) x) au_3)(o:autoParam ((x==("__debug__" : Str))=false) au_1)(C:autoParam (∀j,starEach (e::es) (F j).env=(false,eval e (F j).env)::starEach es (F j).env) au_3)(l:autoParam (∀j,(backTo cpos (starEach es (F j).env)).any (·.1)=false) au_3)(hx:autoParam (Kr x=none) au_0) :
  CS F K mg (λ_=>v) (.Raise (some<|.Call (.Name x p1) (e::es) [] cpos) none pos) (Cr x r):=
 .mk λh=>let ⟨_,J,w⟩:=A.h h;⟨_,λj=>ExcR.MG (by rw[h.k j];exact B.c) (by rw[h.m j];exact y) H (G j) (J j) (z j) o (C j) (l j),Rj w hx⟩
def xg{ps y v}(C:Callee P w K mg base (ExcR.CXe P w) k x ps (J9 mg y K))(J:∀j,J7 m (F j).A)(hx:∀{j},US (ExcR.CXe P w) (F j) v)(A:CA F K mg (λ_=>v) (e::es) r)(Q:autoParam (∀j,(F j).prog=P/\(F j).w=w/\(F j).base=base) au_10)(L:autoParam (k<=m) au_1)(M:autoParam (∀j,Gl (F j) x) au_3)(o:autoParam ((x==("__debug__" : Str))=false) au_1)(N:autoParam (∀j,starEach (e::es) (F j).env=(false,eval e (F j).env)::starEach es (F j).env) au_3)(l:autoParam (∀j,(backTo pos (starEach es (F j).env)).any (·.1)=false) au_3) :
  CE F K mg (λ_=>v) (.Call (.Name x p1) (e::es) [] pos) (Dg y r):=
 .mk λh=>let ⟨_,T,H⟩:=A.h h;⟨_,λj=>NF (by obtain⟨G,B,z⟩:=Q j;rw[G,B,z,h.k j,h.m j];exact C) ((J j).mono L) hx (T j) (M j) o (N j) (l j),RA H⟩
variable {pw:PTW}
end
section
variable {P:Program}{w:World}{K:ZX}{mg:Yb}{base:Heap}{N ps:Yg}{sp:Sp}{p:PTS}{x q:Str}{st:Stmt}{k:Nat}{W:Addr->Prop}
def _root_.Own.Def.fz (D:Def K mg x st ps) (S:J1 N ps (Jy st))
  (o:∀{f g A outer s H} {E:XK},(∀{n:Type},n->J7 k (A.deeper<|envOfC x (Jy st) s.heap.objs.size f g))->(Unit->N.Nodup)->
   CB (λ_:Unit=>(JX CX0 P w K mg base N x (Jy st) f g A outer s H E).nox) K mg (λ_=>E) (JT st) p) (u:Uz K mg N ps sp p):Callee P w K mg base CX0 (k+1) x ps sp:=
 D.ez S (λr=>let ⟨t,h,l⟩:=(o (λ_=>r) λ_=>S.nd).h ⟨λ_=>rfl,λ_=>rfl⟩;⟨t,h (),l⟩) u
def _root_.Own.Def.fy (D:Def K mg x st ps) (S:J1 N ps (Jy st))
  (o:∀{f g A outer s H} {E:XK},(∀{n:Type},n->J7 k (A.deeper<|envOfC x (Jy st) s.heap.objs.size f g))->(Unit->N.Nodup)->
   CB (λ_:Unit=>JX (ExcR.CXe P w) P w K mg base N x (Jy st) f g A outer s H E) K mg (λ_=>E) (JT st) p) (u:Uz K mg N ps sp p):Callee P w K mg base (ExcR.CXe P w) (k+1) x ps sp:=
 D.ey S (λr=>let ⟨t,h,l⟩:=(o (λ_=>r) λ_=>S.nd).h ⟨λ_=>rfl,λ_=>rfl⟩;⟨t,h (),l⟩) u
def JO.fz (D:JO K W x q st ps) (S:J1 N ps (Jy st))
  (o:∀{f g A outer s H} {E:XK},(∀{n:Type},n->J7 k (A.deeper<|envOfC q (Jy st) s.heap.objs.size f g))->(Unit->N.Nodup)->
   CB (λ_:Unit=>(JX CX0 P w K mg base N q (Jy st) f g A outer s H E).nox) K mg (λ_=>E) (JT st) p) (u:Uz K mg N ps sp p):Xf P w K mg base CX0 (k+1) W ps sp:=
 D.ez S (λr=>let ⟨t,h,l⟩:=(o (λ_=>r) λ_=>S.nd).h ⟨λ_=>rfl,λ_=>rfl⟩;⟨t,h (),l⟩) u
def JO.fy (D:JO K W x q st ps) (S:J1 N ps (Jy st))
  (o:∀{f g A outer s H} {E:XK},(∀{n:Type},n->J7 k (A.deeper<|envOfC q (Jy st) s.heap.objs.size f g))->(Unit->N.Nodup)->
   CB (λ_:Unit=>JX (ExcR.CXe P w) P w K mg base N q (Jy st) f g A outer s H E) K mg (λ_=>E) (JT st) p) (u:Uz K mg N ps sp p):Xf P w K mg base (ExcR.CXe P w) (k+1) W ps sp:=
 D.ey S (λr=>let ⟨t,h,l⟩:=(o (λ_=>r) λ_=>S.nd).h ⟨λ_=>rfl,λ_=>rfl⟩;⟨t,h (),l⟩) u
end
end Pu
namespace M
open L2 Own Pu
def Sm(f:Ug):Prop:=∀h∈f,∀n∈h.1.q.2,0<=n/\n<=1000
def HF{f w:ZY}{d:Dd}(u:Field f)(x:f.length<=40)(t:Xo w)(e:d.err f w=none):∀n∈d.q.2,0<=n/\n<=1000:=by
 cases d with
 |sell p h=>
  have e:Uy f p h=none:=e;unfold Uy at e;split at e
  ·cases e
  split at e
  ·cases e
  rename_i s r
  have:=WW.mp r
  intro n g;rcases Wu.mp g with rfl|g
  ·lia
  ·rw[Wl]at g;lia
 |part p v=>
  have e:Ui f p v=none:=e;rcases Do f p v with⟨z,_⟩|⟨z,_⟩|⟨z,_⟩|⟨_,_,o,l,B,A,y⟩
  ·rw[e]at z;cases z
  ·rw[e]at z;cases z
  ·rw[e]at z;cases z
  have:=u _ (PD o l)
  intro n g;rcases Wu.mp g with rfl|g
  ·lia
  ·rw[Wl]at g;lia
 |unite p=>
  have e:JW f p=none:=e;rcases F7 f p with⟨z,_⟩|⟨z,_⟩|⟨z,_⟩|⟨_,_,o,l⟩
  ·rw[e]at z;cases z
  ·rw[e]at z;cases z
  ·rw[e]at z;cases z
  intro n g;rcases Wu.mp g with rfl|g
  ·lia
  ·cases g
 |wish a b=>
  have e:JZ w a b=none:=e;unfold JZ at e;split at e
  ·cases e
  split at e
  ·cases e
  rename_i s r;have o:=WW.mp s;have l:=WW.mp r;intro n g;rcases Wu.mp g with rfl|g
  ·lia
  ·rw[Wl]at g;lia
 |drop a b=>
  have e:Uh w a b=none:=e;unfold Uh at e;split at e
  ·rename_i h
   have:=(t.2.2 _ h).1
   intro n g;rcases Wu.mp g with rfl|g
   ·lia
   ·rw[Wl]at g;lia
  ·cases e
def Sm.add {f0:ZY}{l:Ug} (h:Sm l) (n:FineH f0 l) (d:Dd):Sm (UQ f0 l d):=by
 unfold UQ;split
 ·rename_i e;obtain⟨⟨r,p⟩,o⟩:=n.cur;intro g f;rcases WC.mp f with f|f
  ·exact h g f
  ·rw[Wl.mp f];exact HF r p o e
 ·exact h
end M
namespace Own
open L2
theorem Aq:∀{g:Yg}{f:Yf},Vals (g.map V.str) f->∃l:List (Str×Tok),f=strValues l/\l.map (·.1)=g
 |[],_,.nil=>⟨[],rfl,rfl⟩
 |t::r,_,.cons h k=>by
  obtain⟨n,rfl⟩:=h;obtain⟨l,rfl,e⟩:=Aq k;exact⟨(t,n)::l,rfl,by rw[WR,e]⟩
theorem Al:∀l:List (Str×Tok),Vals ((l.map (·.1)).map V.str) (strValues l)
 |[]=>.nil
 |_::r=>.cons ⟨_,rfl⟩ (Al r)
section
variable {X:Cx}{K:ZX}
def DW(J:X.calm=true)(N:autoParam (X.K=K) au_0):UE X (.builtin "all") (λxs H Q=>∃(p:Addr) (bs:List Bool),xs=[.ref p]/\SqL K H p (bs.map V.bl)/\Q (.bl<|bs.all id) H):=by
 subst N;intro pins s T H xs U Q I B h;obtain⟨p,bs,rfl,L,q⟩:=h;obtain⟨u,rfl,C⟩:=B.one;obtain rfl:u=Value.ref p:=C;obtain⟨f,r,E,_⟩:=I.list L;have w:=FG r;have o:=E.isList;have n:p<s.heap.objs.size:=by obtain⟨_,e,_⟩:=o;exact Ws e
 refine call_all_walk (wpAny_pyIter_list o ?_)
 refine⟨s.heap.objs.size,[s.heap.objs.size,p],[s.heap.objs.size],f.toArray.size,_,_,λi=>(bs[i]?).getD true,rfl,Walks.list (A:=X.A.in1) (I.ok.hd J) _ p (WK n) f.toArray,
  ⟨⟨_,W2 _ rfl,rfl,rfl⟩,o.push _⟩,λi v Y Q' E' M x=>?_,λh' y G=>?_⟩
 ·obtain⟨b,e,rfl⟩:=w.get i v (by simpa using M);simp only[e,Option.getD_some]at x;exact Qj x
 ·have e:((List.range f.toArray.size).all λi=>(bs[i]?).getD true)=bs.all id:=by
   rw[W4,w.length];rw[Q2,WG,WG];refine⟨λz b t=>?_,λz i l=>?_⟩
   ·obtain⟨i,l,rfl⟩:=List.getElem_of_mem t
    have:=z i (QM.mpr l)
    rw[Wj l]at this;exact this
   ·have g:=QM.mp l;rw[Wj g];exact z _ (WN g)
  rw[e];exact⟨.bl (bs.all id),H,I.kept (t':=y) (LSm.kept_iter G),rfl,q⟩
def E3:V->List V->Hp->VK->Prop:=λx f H Q=>∃t y:Str,x=.str t/\f=[.str y]/\(y.length==0)=false/\t.length+2<=sizeLine/\∀p,H p=none->Q (.ref p) (upd H p<|.lst ((Txt.split t y).map V.str))
def Mp(t y:Str):(Txt.split t y).length<=t.length+2:=by
 unfold Txt.split;split
 ·exact QC (Qx _)
 ·split
  ·exact QC (Qx _)
  ·rw[QK];exact QC (StrLaws.occ_length_le _ _ _ _ _)
def Gw:MtM X "str.split" E3:=by
 intro pins s A H x G v J Q I B C h;obtain⟨t,y,rfl,rfl,z,w,q⟩:=h;obtain⟨p,rfl⟩:=B;obtain⟨u,rfl,E⟩:=C.one;obtain⟨f,rfl⟩:=E
 have g:∀(l:List (Str×Tok)) (k:Nat),l.map (·.1)=Txt.split t y->EP X pins A Q (.ref s.heap.objs.size) {s with toks:=k,heap:=s.heap.push {cls:=.type "list",data:=.seq (strValues l).toArray}}:=λl k e=>by
  have n:=I.hok.fresh (Wn _);refine⟨.ref s.heap.objs.size,upd H s.heap.objs.size (.lst ((Txt.split t y).map V.str)),I.laid (t':=k) (λb u e=>Wq _ e) (Wn _) ⟨?_,strValues l,0,?_,W2 _ rfl⟩,rfl,q _ n⟩
  ·rw[Wg];exact Wk (Mp t y) w
  ·rw[←e];exact Al l
 have r:t.length<=sizeLine:=by lia
 cases o:(decide (t.length<y.length) || decide (Builtin.Str.strKind t<Builtin.Str.strKind y))
 ·cases n:(Builtin.Str.occurrences t y 0 t.length (t.length+1)).isEmpty
  ·refine call_meets F.slot_str_split (typeIs_str _ _ _) F.entry_str_split (F.args_str_split_2 _ _) (meets_str_split_sep t y p f o z n r<|by rw[QK];exact Wk (QC<|StrLaws.occ_length_le _ _ _ _ _) w) ?_;show wants _ _ _ {s with toks:=_,heap:=s.heap.push {cls:=.type "list",data:=.seq (strsFrom s.toks<|Builtin.Str.partsBetween t (Builtin.Str.occurrences t y 0 t.length (t.length+1)) y.length).toArray}}
   rw[strsFrom_eq];exact g (numbered s.toks _) _ ((numbered_texts _ _).trans ((Wo<|QL o).trans (Wo<|QL n)).symm)
  ·exact call_meets F.slot_str_split (typeIs_str _ _ _) F.entry_str_split (F.args_str_split_2 _ _) (meets_str_split_not_found t y p f o z n) (g [(t,p)] _ ((Wo<|QL o).trans (Wm n)).symm)
 ·exact call_meets F.slot_str_split (typeIs_str _ _ _) F.entry_str_split (F.args_str_split_2 _ _) (meets_str_split_cannot_occur t y p f o) (g [(t,p)] _ (Wm o).symm)
def rJoin(K:ZX):V->List V->Hp->VK->Prop:=λx h H Q=>∃(f:Str) (a:Addr) (g:Yg),x=.str f/\h=[.ref a]/\SqL K H a (g.map V.str)/\JoinOk f g=true/\Q (.str<|Txt.join f g) H
def Cj(y:autoParam (X.K=K) au_0):MtM X "str.join" (rJoin K):=by
 subst y;intro pins s z H x A v B Q I g n h;obtain⟨f,a,C,rfl,rfl,w,ok,q⟩:=h;obtain⟨E,rfl⟩:=g;obtain⟨u,rfl,o⟩:=n.one;obtain rfl:u=Value.ref a:=o;obtain⟨t,r,p,_⟩:=I.list w;obtain⟨l,rfl,e⟩:=Aq r;exact SC.join p.isList e ok λG k=>⟨.str _,H,I.tok k,⟨_,rfl⟩,q⟩
end
def Lits(P:Params):List DictEntry->List (Str×Int)->Prop
 |[],[]=>True
 |e::r,p::q=>(∃t,e.key=.str p.1 t)/\e.hash=PyData.keyHash P p.1/\(∃t,e.val=.int p.2 t)/\Lits P r q
 |_,_=>False
def Lits.keys {P:Params}:∀{l:List DictEntry}{f:List (Str×Int)},Lits P l f->PySem.W.KeysLit P l
 |[],_,_=>trivial
 |_::_,[],h=>h.elim
 |_::_,p::_,⟨⟨t,n⟩,g,_,h⟩=>⟨⟨p.1,t,n,g⟩,h.keys⟩
def Lits.find {P:Params} (x:Str):∀{l:List DictEntry}{f:List (Str×Int)},Lits P l f->RelO ((f.lookup x).map V.int) ((l.find? λd=>Value.isStrOf x d.key).map (·.val))
 |[],[],_=>by trivial
 |[],_::_,h=>h.elim
 |_::_,[],h=>h.elim
 |e::l,p::q,⟨⟨t,o⟩,_,⟨r,n⟩,h⟩=>by
  obtain⟨k,i⟩:=p;rw[List.find?_cons,WU,o];by_cases z:x=k
  ·subst z;have g:Value.isStrOf x (.str x t)=true:=by simp[Value.isStrOf]
   simp only[beq_self_eq_true,g];show RelO (some<|V.int i) (some e.val);rw[n];exact⟨_,rfl⟩
  ·have g:Value.isStrOf x (.str k t)=false:=by simp[Value.isStrOf];exact λe=>z e.symm
   simp only[Qz.mpr z,g];exact h.find x
structure Tt (K:ZX) (P:Params) (mg:Yb) (x:Str) (kvs:List (Str×Int)):Prop where
 ex:∃a es n,mg x=some (.ref a)/\(a==sysModules)=false/\K.lookup a=some ⟨.type "dict",none,.dict es n,#[]⟩/\Lits P es.toList kvs
section
variable {X:Cx}{x:Str}{kvs:List (Str×Int)}{i:Expr}{ty:TE}{pos pos':Pos}
noncomputable def CV(kvs:List (Str×Int))(ty:TE):TE:=λf H Q=>ty f H λy g=>∃z,y=.str z/\Q (.bl (kvs.lookup z).isSome) g
def NX(C:Tt X.K X.w.params X.mg x kvs)(M:PE X i ty)(N:autoParam (Gl X x) au_0)(T:autoParam ((x==("__debug__" : Str))=false) au_1):PC X .In i (.Name x pos) (CV kvs ty):=by
 intro pins s l H Q I h;obtain⟨a,p,n,h1,Y,U,o⟩:=C.ex;refine thn (M pins s l H _ I h) ?_;rintro iv B ⟨y,t,I1,E,L⟩;refine thn (SS (v:=.ref a) N h1 rfl T pins B l t (λv g=>v=.ref a/\g=t) I1 ⟨rfl,rfl⟩) ?_;rintro u s2 ⟨_,g,r,G,e1,e2⟩;subst e1;subst e2;obtain rfl:u=Value.ref a:=G;obtain⟨z,rfl,J⟩:=L;obtain⟨A,rfl⟩:=E;refine wpAny_in_of (strKind_is X.prog X.w z A) Y (PySem.W.mapOf_K (prog:=X.prog) r.kIn U o.keys) ?_;have f:=(o.find z).isSome_eq;rw[Option.isSome_map]at f
 have e:findBy Value.isStrOf p z=(p.toList.find? λd=>Value.isStrOf z d.key).map (·.val):=by
  unfold findBy;rw[←List.find?_toArray]
 rw[e,←f];exact⟨.bl _,g,r.tok _,rfl,J⟩
noncomputable def A0(kvs:List (Str×Int))(ty:TE):TE:=λf H Q=>ty f H λy g=>∃z v,y=.str z/\kvs.lookup z=some v/\Q (.int v) g
def E6(C:Tt X.K X.w.params X.mg x kvs)(N:PE X i ty)(M:Dx i)(T:autoParam (Gl X x) au_0)(U:autoParam ((x==("__debug__" : Str))=false) au_1):PE X (.Subscript (.Name x pos) i pos') (A0 kvs ty):=by
 intro pins s o H Q I h;obtain⟨a,es,n,h1,h2,Y,r⟩:=C.ex;refine Ob PySem.F.slot_dict_getitem.lookup M (thn (SS (v:=.ref a) T h1 rfl U pins s o H (λv l=>v=.ref a/\l=H) I ⟨rfl,rfl⟩) ?_);rintro u E ⟨_,H',I1,J,e1,e2⟩;subst e1;subst e2;obtain rfl:u=Value.ref a:=J;refine thn (N pins E o H' _ I1 h) ?_;rintro iv s2 ⟨y,l,t,G,z,v,e,ev,L⟩;subst e;obtain⟨B,rfl⟩:=G;have p:=PySem.W.mapOf_K (prog:=X.prog) t.kIn Y r.keys;have f:=r.find z;rw[ev]at f;obtain⟨A,hw,g⟩:=RelO.some_of (v:=V.int v) f
 have e:findBy Value.isStrOf es z=some A:=by
  rw[←hw];unfold findBy;rw[←List.find?_toArray]
 exact⟨p.typeIs,wpAny_getItem_of (strKind_is X.prog X.w z B) p e ⟨.int v,l,t.tok _,g,L⟩⟩
end
end Own
namespace Pu
open L2 Own
section
variable {K:ZX}{mg:Yb}{E:L2.St->XK}
theorem Rps.of_strs {H:Hp}:∀f:Yg,Rps K H (f.map D.str) (f.map V.str)
 |[]=>.nil
 |_::r=>.cons (.str _) (Rps.of_strs r)
theorem Rps.strs {H:Hp}:∀{f:Yg}{vs:List V},Rps K H (f.map D.str) vs->vs=f.map V.str
 |[],_,.nil=>rfl
 |t::r,_,.cons h k=>by rw[Rps.strs k];cases h;rfl
def NN:List S->(S->Prop)->Prop
 |[s],R=>∃bs:List Bool,s.d=.lst (bs.map D.bl)/\R (.sh<|.bl<|bs.all id)
 |_,_=>False
def Dr{f:TA}{r:PTA}(u:JI K mg E f r):Jw K mg E (tCB (λxs H Q=>∃(p:Addr) (bs:List Bool),xs=[.ref p]/\SqL K H p (bs.map V.bl)/\Q (.bl<|bs.all id) H) f) (pCB NN r):=by
 refine Xr u λG H x Z A y R Q s B C n h q=>?_;unfold NN at h;split at h
 ·obtain⟨v,rfl,o⟩:=n.one_inv;obtain⟨bs,e,w⟩:=h;have g:=o.rp s;rw[e]at g;obtain⟨a,z,rfl,l,t⟩:=g.lst_inv;rw[t.bls]at l;exact⟨a,bs,rfl,SqL.of l,q _ _ x w (Same.refl _) (.bl _)⟩
 ·exact h.elim
noncomputable def pBT(f:Str->D->(S->Prop)->Prop)(a b:PTE):PTE:=λg R X=>a g (λs=>match s.d with | .str t=>b g (λu=>f t u.d R) X|_=>False) X
def Es{G:V->List V->Hp->VK->Prop}{f:Str->D->(S->Prop)->Prop}{te C:TE}{a b:PTE}(ha:Jw K mg E te a)(hb:Jw K mg E C b)(Y:∀(p H l:Hp) (Z:Addr->Prop) (t:Str) (d:D) (u:V) (R:S->Prop) (Q:VK),Same H l->Rp K l d u->f t d R->(∀s v o,R s->Same l o->TV K Z p H o s v->Q v o)->G (.str t) [u] l Q):Jw K mg E (tBM K "str" G te<|Ud C UD) (pBT f a b):=by
 intro p B H z A R X Q n h q L;refine ha p B H z A _ X _ n h (λs v H1 x r T=>?_) L;have g:=n.grow r;have J:=T.rp g.same;split at x
 ·rename_i t et;rw[et]at J;cases J
  refine⟨rfl,hb p B H1 z A _ X _ g x (λu w l h2 y N=>?_) λc H' hc S'=>L c H' hc (r.trans S')⟩;exact Y p H l _ t _ _ _ _ (r.trans y) (N.rp (g.grow y).same) h2 λs v o U S3 M=>q s v o U ((r.trans y).trans S3) M
 ·exact x.elim
def FW:Str->D->(S->Prop)->Prop:=λt d R=>match d with
 | .str y=>(y.length==0)=false/\t.length+2<=sizeLine/\R (.own ((Txt.split t y).map D.str))
 |_=>False
def Iz{te f:TE}{a b:PTE}(n:Jw K mg E te a)(l:Jw K mg E f b):Jw K mg E (tBM K "str" E3 te<|Ud f UD) (pBT FW a b):=by
 refine Es n l λv H s Z t d u R Q o r h q=>?_;unfold FW at h;split at h
 ·cases r
  exact⟨t,_,rfl,rfl,h.1,h.2.1,λp g=>q _ _ _ h.2.2 (UP g) (Kz o g<|Rps.of_strs _)⟩
 ·exact h.elim
def FX:Str->D->(S->Prop)->Prop:=λt d R=>match d with
 | .lst g=>∃f:Yg,g=f.map D.str/\JoinOk t f=true/\R (.sh<|.str<|Txt.join t f)
 |_=>False
def F2{te f:TE}{a b:PTE}(s:Jw K mg E te a)(p:Jw K mg E f b):Jw K mg E (tBM K "str" (rJoin K) te<|Ud f UD) (pBT FX a b):=by
 refine Es s p λz H w Z t d u R Q y r h q=>?_;unfold FX at h;split at h
 ·obtain⟨n,rfl,ok,v⟩:=h;obtain⟨l,x,rfl,g,o⟩:=r.lst_inv;rw[o.strs]at g;exact⟨t,l,n,rfl,rfl,SqL.of g,ok,q _ _ w v (Same.refl _) (.str _)⟩
 ·exact h.elim
noncomputable def Os(f:List (Str×Int))(a:PTE):PTE:=λg R X=>a g (λs=>match s.d with | .str z=>R (.sh (.bl (f.lookup z).isSome))|_=>False) X
def Bk{f:List (Str×Int)}{te:TE}{a:PTE}(x:Jw K mg E te a):Jw K mg E (CV f te) (Os f a):=by
 intro A B H p r R X Q g h q w;refine x A B H p r _ X _ g h (λs v z l o u=>?_) w;have n:=u.rp (g.grow o).same;split at l
 ·rename_i t y;rw[y]at n;cases n
  exact⟨t,rfl,q _ _ z l o (.bl _)⟩
 ·exact l.elim
noncomputable def Zav(f:List (Str×Int))(a:PTE):PTE:=λg R X=>a g (λs=>match s.d with | .str z=>∃v,f.lookup z=some v/\R (.sh<|.int v)|_=>False) X
def DX{f:List (Str×Int)}{te:TE}{a:PTE}(x:Jw K mg E te a):Jw K mg E (A0 f te) (Zav f a):=by
 intro C B H p r R X Q g h q w;refine x C B H p r _ X _ g h (λs v A l o u=>?_) w;have n:=u.rp (g.grow o).same;split at l
 ·rename_i t z;rw[z]at n;cases n
  obtain⟨v,e,y⟩:=l;exact⟨t,v,rfl,e,q _ _ A y o (.int _)⟩
 ·exact l.elim
end
end Pu
namespace Own
open L2
noncomputable def Its(x:Str):It:=⟨λi _=>i<x.cps.size,λi H v f=>f=H/\∃c,x.cps[i]?=some c/\v=.str ⟨#[c]⟩,λi _=>x.cps.size<=i⟩
def OM{P:Program}{w:World}{K:ZX}{tg:Expr}(x:Str)(t:Tok)(it:Addr):Turn P w K tg (Its x) [it] it (λi h=>h.IsStrIter it "str_ascii_iterator" x t i) where
 mem:=by simp
 obj:=λi h st b hb=>by
  have e:b=it:=by simpa using hb
  subst e;obtain⟨o,e,c,d⟩:=st;exact⟨o,e,λv z=>by rw[d]at z;cases z⟩
 keep:=λi h h' st k=>by
  obtain⟨o,e,c,d⟩:=st;exact⟨o,k it (by simp) o e,c,d⟩
 item:=by
  intro X hP hw hK hc i pins s σ H E I hf st hg;subst hP hw hK;have hx:x.cps[i]?=some (x.cps[i]'hg):=Array.getElem?_eq_getElem hg;obtain⟨f0,f1,f2,f3,f4,f5⟩:=hf it (by simp);refine wpAny_pyNext_ascii_item st hx λh' st' sb=>?_;have I1:Inv X pins σ H {s with heap:=h',toks:=s.toks+1}:=I.turned (t':=s.toks+1) (λb o hb e=>(sb.2 b hb).trans e) f0 f1 f3 f4 f5
  obtain⟨o,e,c,d⟩:=id st';exact⟨_,rfl,Tj (s:={s with heap:=h',toks:=s.toks+1}) e c d (by decide) ⟨.str ⟨#[x.cps[i]'hg]⟩,H,I1,⟨_,rfl⟩,⟨rfl,_,hx,rfl⟩,st',λb hb=>(hf b hb).1⟩⟩
 done:=by
  intro X hP hw hK hc i pins s σ H E I hf st hg;subst hP hw hK;obtain⟨f0,f1,f2,f3,f4,f5⟩:=hf it (by simp);have hx:x.cps[i]?=none:=Array.getElem?_eq_none hg;exact wpAny_pyNext_ascii_end (I.ok.hd hc) st hx λh' eb=>⟨rfl,I.turned (t':=s.toks) (λb o hb e=>eb b o hb e) f0 f1 f3 f4 f5⟩
 self:=λ_ _ _ _ _ st h=>wpAny_pyIter_striter_ascii st h
noncomputable def AD(g:TE):TI:=λf H R=>g f H λv h=>∃x:Str,v=.str x/\x.cps.all (· < 128)=true/\R (Its x) h
section
variable {X:Cx}{K:ZX}{tg:Expr}
def Ha{l:Expr}{n:TE}(w:PE X l n):PI X tg l (AD n):=by
 intro pins s p H R I h;refine thn (w pins s p H _ I h) ?_;rintro v f ⟨x,B,g,t,u⟩;obtain⟨z,e,A,q⟩:=u;subst e;obtain⟨r,rfl⟩:=t;refine wpAny_pyIter_ascii A ?_;refine⟨f.heap.objs.size,[f.heap.objs.size],_,_,B,rfl,g.kept (t':=f.toks) λb o e=>Wq _ e,OM z r _,⟨_,W2 _ rfl,rfl,rfl⟩,λb y=>?_,q⟩;have e:b=f.heap.objs.size:=by simpa using y
 subst e;exact g.fpOk (Wn _) (g.hok.fresh<|Wn _)
noncomputable def FR:R2:=λx y H Q=>∃(c:Nat) (t:Str),x=.str ⟨#[c]⟩/\y=.str t/\Q (.bl<|decide (c∈t.cps.toList)) H
def HR:OpR X (compareOp .In) FR:=by
 intro pins s n H x y v u Q I l g h;obtain⟨c,t,rfl,rfl,q⟩:=h;obtain⟨o,rfl⟩:=l;obtain⟨f,rfl⟩:=g;refine P.in_str ?_;rw[StrLaws.found_one];exact⟨.bl _,H,I,rfl,q⟩
def Gj:UE X (.type "int") (λxs H Q=>∃(t:Str) (n:Int),xs=[.str t]/\PySem.intText? t=some n/\t.length<=640/\Q (.int n) H):=by
 intro pins s l H xs o Q I r h;obtain⟨t,n,rfl,g,f,q⟩:=h;obtain⟨u,rfl,p,rfl⟩:=r.one;exact PySem.W.KIN.call_text g f ⟨.int n,H,I.tok _,⟨_,rfl⟩,q⟩
end
end Own
namespace Pu
open L2 Own
section
variable {K:ZX}{mg:Yb}{E:L2.St->XK}
noncomputable def pIS(a:PTE):PTI:=λf R X=>a f (λs=>match s.d with | .str x=>x.cps.all (· < 128)=true/\R x.cps.size (λi=>.sh (.str ⟨#[x.cps.getD i 0]⟩))|_=>False) X
def Le{te:TE}{a:PTE}(z:Jw K mg E te a):SndI K mg E (AD te) (pIS a):=by
 intro J B H o p R X Q f h q t;refine z J B H o p _ X _ f h (λs v G g n r=>?_) t;have l:=r.rp (f.grow n).same;split at g
 ·rename_i x A;rw[A]at l;cases l
  refine⟨x,rfl,g.1,q _ _ _ G g.2 n ⟨λi M C u lt=>?_,λM C lt=>Wn _⟩⟩;refine⟨u,λv L y=>?_⟩;obtain⟨rfl,c,w,rfl⟩:=y;have e:x.cps.getD i 0=c:=by rw[Array.getD_eq_getD_getElem?,w];rfl
  rw[e];exact⟨Same.refl _,.str _⟩
 ·exact g.elim
def Ar:S->S->(S->Prop)->Prop:=λx y R=>match x.d,y.d with
 | .str t,.int i=>t.length<=sizeLine/\∃c,atI t.cps.toList i=some c/\R (.sh<|.str ⟨#[c]⟩)
 |_,_=>False
def M1{g f:TE}{a b:PTE}(w:Jw K mg E g a)(s:Jw K mg E f b):Jw K mg E (tOp AM g f) (p2 a b Ar):=by
 refine Xa w s λN H J Z x y v u R Q l L M r p h q=>?_;have o:=r.rp l;have n:=p.rp l;unfold Ar at h;split at h
 ·rename_i t i G C;rw[G]at o;rw[C]at n;cases o
  cases n
  obtain⟨B,c,A,z⟩:=h;exact⟨t,i,c,rfl,rfl,B,A,q _ _ J z (Same.refl _) (.str _)⟩
 ·exact h.elim
def SY:S->S->(S->Prop)->Prop:=λx y R=>match x.d,y.d with
 | .str s,.str t=>∃c,s=⟨#[c]⟩/\R (.sh<|.bl<|decide (c∈t.cps.toList))
 |_,_=>False
def Rk{g f:TE}{a b:PTE}(z:Jw K mg E g a)(w:Jw K mg E f b):Jw K mg E (tOp FR g f) (p2 a b SY):=by
 refine Xa z w λM H G Z x y v u R Q l J L r p h q=>?_;have o:=r.rp l;have n:=p.rp l;unfold SY at h;split at h
 ·rename_i s t C B;rw[C]at o;rw[B]at n;cases o
  cases n
  obtain⟨c,rfl,A⟩:=h;exact⟨c,t,rfl,rfl,q _ _ G A (Same.refl _) (.bl _)⟩
 ·exact h.elim
def DY:List S->(S->Prop)->Prop
 |[s],R=>(match s.d with | .str t=>∃n,PySem.intText? t=some n/\t.length<=640/\R (.sh<|.int n)|_=>False)
 |_,_=>False
def HN{f:TA}{r:PTA}(s:JI K mg E f r):Jw K mg E (tCB (λxs H Q=>∃(t:Str) (n:Int),xs=[.str t]/\PySem.intText? t=some n/\t.length<=640/\Q (.int n) H) f) (pCB DY r):=by
 refine Xr s λG H y Z A z R Q p B C l h q=>?_;unfold DY at h;split at h
 ·obtain⟨v,rfl,o⟩:=l.one_inv;have g:=o.rp p;split at h
  ·rename_i t e;rw[e]at g;cases g
   obtain⟨n,x,w,u⟩:=h;exact⟨t,n,rfl,x,w,q _ _ y u (Same.refl _) (.int _)⟩
  ·exact h.elim
 ·exact h.elim
def Et:List S->(S->Prop)->Prop
 |[s],R=>(match s.d with | .int i=>i.natAbs.log2<1920/\R (.sh<|.str<|toString i)|_=>False)
 |_,_=>False
def NJ{f:TA}{r:PTA}(p:JI K mg E f r):Jw K mg E (tCB (λxs H Q=>∃i,xs=[.int i]/\i.natAbs.log2<1920/\Q (.str<|toString i) H) f) (pCB Et r):=by
 refine Xr p λy H s Z u t R Q o w x l h q=>?_;unfold Et at h;split at h
 ·obtain⟨v,rfl,n⟩:=l.one_inv;have g:=n.rp o;split at h
  ·rename_i i e;rw[e]at g;cases g
   exact⟨i,rfl,h.1,q _ _ s h.2 (Same.refl _) (.str _)⟩
  ·exact h.elim
 ·exact h.elim
def E7:S->S->(S->Prop)->Prop:=λx y R=>match x.d,y.d with
 | .str s,.str t=>s.length+t.length<=sizeLine/\R (.sh<|.str (s++t))
 |_,_=>False
def Aa{g f:TE}{a b:PTE}(z:Jw K mg E g a)(w:Jw K mg E f b):Jw K mg E (tOp (λx y H Q=>∃i j,x=.str i/\y=.str j/\i.length+j.length<=sizeLine/\Q (.str (i++j)) H) g f) (p2 a b E7):=by
 refine Xa z w λL H C Z x y v u R Q l G J r p h q=>?_;have o:=r.rp l;have n:=p.rp l;unfold E7 at h;split at h
 ·rename_i s t B A;rw[B]at o;rw[A]at n;cases o
  cases n
  exact⟨s,t,rfl,rfl,h.1,q _ _ C h.2 (Same.refl _) (.str _)⟩
 ·exact h.elim
end
end Pu
namespace M
open L2 Own Pu
noncomputable def spc:Str:=⟨#[32]⟩
def DB{a b:Str}(h:a.cps.toList=b.cps.toList):a=b:=by
 obtain⟨a⟩:=a;obtain⟨b⟩:=b;rw[show a=b from Array.toList_inj.mp h]
def AW(a b:Str):(a++b).cps.toList=a.cps.toList++b.cps.toList:=by
 show(a.cps++b.cps).toList=_;rw[Array.toList_append]
def TZ(c:Nat)(x y:Str)(r:Yg):(Str.join ⟨#[c]⟩ (x::y::r)).cps.toList=x.cps.toList++c::(Str.join ⟨#[c]⟩ (y::r)).cps.toList:=by
 show(x++⟨#[c]⟩++Str.join ⟨#[c]⟩ (y::r)).cps.toList=_;rw[AW,AW,List.append_assoc];rfl
theorem A3{c:Nat}:∀{a b r s:Ye},c∉a->c∉b->a++c::r=b++c::s->a=b/\r=s
 |[],[],_,_,_,_,h=>⟨rfl,(List.cons.inj h).2⟩
 |[],y::b,_,_,_,f,h=>absurd ((List.cons.inj h).1▸W7) f
 |x::a,[],_,_,g,_,h=>absurd ((List.cons.inj h).1.symm▸W7) g
 |x::a,y::b,r,s,g,f,h=>by
  obtain⟨n,l⟩:=List.cons.inj h;obtain⟨p,o⟩:=A3 (λz=>g (W0 _ z)) (λz=>f (W0 _ z)) l;exact⟨by rw[n,p],o⟩
theorem FY(c:Nat):∀{f us:Yg},f≠[]->us≠[]->(∀w∈f,c∉w.cps.toList)->(∀w∈us,c∉w.cps.toList)->(Str.join ⟨#[c]⟩ f).cps.toList=(Str.join ⟨#[c]⟩ us).cps.toList->f=us
 |[],_,h,_,_,_,_=>absurd rfl h
 |_,[],_,h,_,_,_=>absurd rfl h
 |[x],[y],_,_,_,_,h=>by rw[DB (a:=x) (b:=y) h]
 |[x],y::z::r,_,_,hx,_,h=>by
  rw[TZ]at h;have h:x.cps.toList=_:=h;exact absurd (by rw[h];simp) (hx x W7)
 |x::z::r,[y],_,_,_,g,h=>by
  rw[TZ]at h;have h:_=y.cps.toList:=h;exact absurd (by rw[←h];simp) (g y W7)
 |x::p::r,y::o::s,_,_,hx,g,h=>by
  rw[TZ,TZ]at h;obtain⟨n,l⟩:=A3 (hx x W7) (g y W7) h;rw[DB n,FY c (by simp) (by simp) (λw hw=>hx w (W0 _ hw)) (λw hw=>g w (W0 _ hw)) l]
def Gs(x y:Str):Txt.split x y≠[]:=by
 unfold Txt.split;split
 ·simp
 ·split
  ·simp
  ·intro z
   have:=W9 List.length z
   rw[QK]at this;cases this
def IX{c:Nat}{f:Yg}(g:f≠[])(h:∀w∈f,c∉w.cps.toList):Txt.split (Str.join ⟨#[c]⟩ f) ⟨#[c]⟩=f:=
 FY c (Gs _ _) g (StrLaws.split_free _ c) h (by rw[StrLaws.join_split])
noncomputable def nS(n:Int):Str:=Str.ofString (toString n)
noncomputable def U9(x:Str):Bool:=!(decide ((x.length:Int)<1) || decide ((x.length:Int)>4)) && !(decide (x.cps.toList.head?=some 48) && !decide (x=("0" : Str)))&&(x.cps.toList.map λc=>decide (c∈("0123456789" : Str).cps.toList)).all id
def Zbh:((List.range 10000).all λm=>decide ((Nat.toDigits 10 m).length<=4) && !(decide ((Nat.toDigits 10 m).head?=some '0') && !decide (m=0)))=true:=by decide +kernel
def Pv(m:Nat):(nS (m:Int)).cps.toList=(Nat.toDigits 10 m).map Char.toNat:=PySem.W.KIN.signs_num m
def DC{n:Int}(h:0<=n):∀c∈(nS n).cps.toList,48<=c/\c<=57:=by
 obtain⟨m,rfl⟩:=Q9 h;intro c g;rw[Pv]at g;obtain⟨l,f,e⟩:=WM.mp g;rw[←e];exact digit_range (Nat.isDigit_of_mem_toDigits (by decide) (by decide) f)
def DO{n:Int}(r:0<=n)(s:n<=9999):1<=(nS n).length/\(nS n).length<=4/\((nS n).cps.toList.head?=some 48->n=0):=by
 obtain⟨m,rfl⟩:=Q9 r;have h:=WG.mp Zbh m (QM.mpr<|by lia);rw[WE]at h;have p:=Wi h.1
 have l:(nS (m:Int)).length=(Nat.toDigits 10 m).length:=by
  have:=W9 List.length (Pv m)
  rw[Wg,Q0]at this;exact this
 refine⟨?_,by rw[l];exact p,λz=>?_⟩
 ·rw[l];exact toDigits_len_ge 10 m
 ·rw[Pv,List.head?_map]at z;have f:=h.2;cases e:(Nat.toDigits 10 m).head? with
  |none=>rw[e]at z;cases z
  |some o=>
   rw[e]at z f
   have g:o='0':=Char.ext (by
    have z:o.toNat=48:=Wt z;exact UInt32.toNat_inj.mp z)
   rw[g,Wh rfl,Bool.true_and,Bool.not_not]at f
   have:=Wi f
   lia
def Od{n:Int}(f:0<=n)(o:n<=9999):U9 (nS n)=true:=by
 obtain⟨r,p,g⟩:=DO f o;unfold U9;rw[Wx (by lia),Wx (by lia)];rw[WE,WE];refine⟨⟨rfl,?_⟩,?_⟩
 ·by_cases z:(nS n).cps.toList.head?=some 48
  ·rw[g z];decide +kernel
  ·rw[Wx z];rfl
 ·rw[WG];intro b l;obtain⟨c,h,rfl⟩:=WM.mp l;obtain⟨t,s⟩:=DC f c h
  have:c=48\/c=49\/c=50\/c=51\/c=52\/c=53\/c=54\/c=55\/c=56\/c=57:=by lia
  rcases this with rfl|rfl|rfl|rfl|rfl|rfl|rfl|rfl|rfl|rfl<;>decide +kernel
def MU{n:Int}(f:0<=n)(g:n<=9999):PySem.intText? (nS n)=some n:=PySem.W.KIN.num_reads f (by lia)
def N5(m:Nat):(nS<|Int.negSucc m).cps.toList=45::(Nat.toDigits 10 (m+1)).map Char.toNat:=by
 show(Str.ofString ("-"++Nat.repr (m+1))).cps.toList=_;rw[signs_ofString,String.toList_append,W6,Nat.toList_repr];rfl
def LQ(m:Nat):∀c∈(Nat.toDigits 10 m).map Char.toNat,48<=c/\c<=57:=by
 intro c g;obtain⟨h,f,e⟩:=WM.mp g;rw[←e];exact digit_range (Nat.isDigit_of_mem_toDigits (by decide) (by decide) f)
def Cb(n:Int):∀c∈(nS n).cps.toList,c=45\/(48<=c/\c<=57):=by
 intro c f;cases n with
 |ofNat m=>exact .inr (DC (Int.natCast_nonneg m) c f)
 |negSucc m=>
  rw[N5]at f;rcases Wu.mp f with h|h
  ·exact .inl h
  ·exact .inr (LQ _ c h)
def Zah(n:Int):(nS n).cps.all (· < 128)=true:=by
 rw[←Array.all_toList,WG];intro c f
 have:=Cb n c f
 exact Wh (by lia)
def EY(n:Int):32∉(nS n).cps.toList:=λz=>by
 have:=Cb n 32 z
 lia
def SD(m:Nat){k:Nat}(f:0<k):(Nat.toDigits 10 m).length<=k↔m<10 ^ k:=by
 rw[←Nat.length_repr_le_iff f,←Nat.toList_repr];exact Iff.rfl
def BK{n:Int}{f:Ye}(h:(nS n).cps.toList=f):(nS n).length=f.length:=by
 rw[←h,Q0];rfl
def K8{n:Int}(h:n.natAbs<=10 ^ 30):1<=(nS n).length/\(nS n).length<=32:=by
 cases n with
 |ofNat m=>
  have e:=BK (Pv m);rw[Wg]at e
  have:=(SD m (k:=31)<|by decide).mpr (Qp h<|by decide)
  have:=toDigits_len_ge 10 m
  exact⟨by rw[show(Int.ofNat m)=((m:Nat):Int)from rfl];lia,by rw[show(Int.ofNat m)=((m:Nat):Int)from rfl];lia⟩
 |negSucc m=>
  have e:=BK (N5 m);rw[W5,Wg]at e
  have:=(SD (m+1) (k:=31)<|by decide).mpr (Qp h<|by decide)
  exact⟨by lia,by lia⟩
def RB(n:Int):U9 (nS n)=decide (0<=n/\n<=9999):=by
 by_cases h:0<=n/\n<=9999
 ·rw[Od h.1 h.2,Wh h]
 ·rw[Wx h];unfold U9;cases n with
  |ofNat m=>
   have e:=BK (Pv m);rw[Wg]at e
   have:¬(Nat.toDigits 10 m).length<=4:=λz=>by
    have:=(SD m (k:=4)<|by decide).mp z
    exact h ⟨Int.natCast_nonneg m,by show((m:Nat):Int)<=9999;lia⟩
   rw[show Int.ofNat m=((m:Nat):Int)from rfl,Wh (p:=((nS (m:Int)).length:Int)>4) (by lia),Bool.or_true]
   rfl
  |negSucc m=>
   rw[N5,WR,Qv,show decide (45∈("0123456789" : Str).cps.toList)=false by decide +kernel];exact Bool.and_false _
noncomputable def UY(os:ZZ):Bool:=os.all λn=>decide (0<=n/\n<=9999)
def rowB_iff{os:ZZ}:UY os=true↔∀n∈os,0<=n/\n<=9999:=by
 unfold UY;rw[WG];exact⟨λh n f=>Wi (h n f),λh n f=>Wh (h n f)⟩
def Oy(os:ZZ):(os.map λn=>U9 (nS n)).all id=UY os:=by
 unfold UY;rw[List.all_map];congr 1;funext n;exact RB n
def T1{i:Int}(h:i.natAbs<=10 ^ 30):i.natAbs.log2<1920:=by
 by_cases z:i.natAbs=0
 ·rw[z];decide
 ·exact W1 ((Nat.log2_lt z).mpr (Qp h<|show 10 ^ 30<2 ^ 100 by decide)) (by decide)
def G9(a b:Str):(a++b).length=a.length+b.length:=by
 show(a.cps++b.cps).size=_;rw[Array.size_append];rfl
end M
namespace Pu
open L2 Own M
section
variable {K:ZX}{mg:Yb}{E:L2.St->XK}
noncomputable def Zbs(w:PTW)(c:Str):PTV:=λg R X=>w g (λf d=>match d with | .str s=>R f (!decide (s=c))|_=>False) X
noncomputable def Io(w:PTW)(c:Pc)(r:PTA):PTW:=λg R X=>w g (λf d=>r f (λh=>c (d::h.map S.d) (λs=>∃e,s.shd=some e/\R f e) (λ_=>False)) (X f)) X
def A7{te:TE}{w:PTW}{c:Pc}{A:TA}{r:PTA}(hw:U1 K mg E te w)(hr:JI K mg E A r):U1 K mg E (XG (J9 mg c K) [] E0<|Ud te A) (Io w c r):=by
 intro J B H u L R X Q hB o h q C;refine hw J B H u L _ _ _ hB o h (λl d v H' h1 p f1 rd=>?_) C;refine hr J B H' u l _ _ _ p h1 (λU M H1 h2 t T=>?_) (λc G hc g=>C l c G hc (p.grow g) (f1.trans<|Fr.grow g));have f:=p.grow t;show J9 mg c K ((v::M)++[]) H1 _ E0;rw[WD];refine⟨d::U.map S.d,_,_,.cons (Rp.mono t<|Rp.mono off_sub rd) (T.rps f.same),h2,λs x G n g N=>?_,λ_ _ z=>z.elim⟩;obtain⟨e,ee,n⟩:=n;have Y:=N.shd g (λ_ z=>z) g ee;exact q _ _ _ _ n (f.grow g) (f1.trans<|Fr.grow<|t.trans g) (Rp.mono (JB (Same.refl _) λb _ _ z y=>z (f.zm b y)) Y)
noncomputable def OG(a:PTE)(w:PTW):PTV:=λg R X=>a g (λs=>w g (λf d=>match s.d,d with | .str x,.str y=>R f (!decide (x=y))|_,_=>False) X) (X g)
def GN{N te:TE}{a:PTE}{w:PTW}(ha:Jw K mg E N a)(hw:U1 K mg E te w):KY K mg E (PQ<|tOp (λx y H Q=>rNe x y H Q\/XF K true x y H Q) N te) (OG a w):=by
 intro M B H r t R X Q hB l h q u;refine ha M B H r t _ _ _ l h (λs v H1 h1 J Y=>?_) λc H' z U=>u t c H' z (l.grow U) (Fr.grow U);have g:=l.grow J;have T:=Y.rp g.same;refine hw M B H1 r t _ _ _ hB g h1 (λf d v' L C o G rd=>?_) λf c L z o G=>u f c L z o ((Fr.grow J).trans G);have n:=(Fr.grow J).trans G;split at C
 ·rename_i x y e;rw[e]at T;rw[T.str_inv,rd.str_inv];exact Xj (Ad (JC (x:=x))<|JC (x:=y)) M B L r f (λb=>R f b) (X f) _ o C (λb H3 A p=>q _ _ _ A (o.grow p) (n.trans<|Fr.grow p)) λc H3 A p=>u _ _ _ A (o.grow p) (n.trans<|Fr.grow p)
 ·exact C.elim
end
end Pu
namespace T
open L2
noncomputable def top(i:Nat):Stmt:=PySem.Challenge.pw_stripmeld_k35_deeds_at_the_desk.main.body.getD i (.Pass ⟨0,0,0,0⟩)
noncomputable abbrev Sx:Stmt:=top 24
def GY:J1 ["holder"] ["holder"] (Jy Sx):=Pu.fs
noncomputable abbrev Sl:Stmt:=top 25
def Zan:J1 ["width"] ["width"] (Jy Sl):=Pu.fs
noncomputable abbrev Sq:Stmt:=top 26
def Gz:J1 ["strips","holder","width"] ["strips"] (Jy Sq):=Pu.fs
noncomputable abbrev S8:Stmt:=top 38
def Of:J1 ["strips","place"] ["strips","place"] (Jy S8):=Pu.fs
noncomputable abbrev Nz:Stmt:=top 47
def IS:J1 ["strips","place"] ["strips","place"] (Jy Nz):=Pu.fs
noncomputable abbrev B5:Stmt:=top 48
def R3:J1 ["strips","place","holder","strip"] ["strips","place","holder"] (Jy B5):=Pu.fs
noncomputable abbrev Sd:Stmt:=top 49
def Zbp:J1 ["strips","place","width","strip"] ["strips","place","width"] (Jy Sd):=Pu.fs
noncomputable abbrev SH:Stmt:=top 50
def Gk:J1 ["strips","place","left","right"] ["strips","place"] (Jy SH):=Pu.fs
noncomputable abbrev Bg:Stmt:=top 51
def Ht:J1 ["wishes","ahead","behind"] ["wishes","ahead","behind"] (Jy Bg):=Pu.fs
noncomputable abbrev NL:Stmt:=top 52
def Mr:J1 ["wishes","ahead","behind"] ["wishes","ahead","behind"] (Jy NL):=Pu.fs
noncomputable abbrev N8:Stmt:=inClass (top 67) 0
def HX:J1 ["self","strips"] ["self","strips"] (Jy N8):=Pu.fs
noncomputable abbrev SN:Stmt:=inClass (top 67) 1
def OS:J1 ["self"] ["self"] (Jy SN):=Pu.fs
noncomputable abbrev SO:Stmt:=inClass (top 67) 2
def LW:J1 ["self"] ["self"] (Jy SO):=Pu.fs
noncomputable abbrev BO:Stmt:=inClass (top 67) 3
def Mc:J1 ["self"] ["self"] (Jy BO):=Pu.fs
noncomputable abbrev Nv:Stmt:=inClass (top 67) 4
def Ik:J1 ["self"] ["self"] (Jy Nv):=Pu.fs
noncomputable abbrev S9:Stmt:=inClass (top 67) 5
def He:J1 ["self","deed","field","wishes"] ["self","deed","field","wishes"] (Jy S9):=Pu.fs
noncomputable abbrev Bw:Stmt:=inClass (top 67) 6
def Zba:J1 ["self","place","holder","field"] ["self","place","holder"] (Jy Bw):=Pu.fs
noncomputable abbrev Bc:Stmt:=inClass (top 67) 7
def Hf:J1 ["self","place","width","field"] ["self","place","width"] (Jy Bc):=Pu.fs
noncomputable abbrev Bt:Stmt:=inClass (top 67) 8
def RO:J1 ["self","place","field"] ["self","place"] (Jy Bt):=Pu.fs
noncomputable abbrev Nq:Stmt:=inClass (top 67) 9
def Hq:J1 ["self","ahead","behind","wishes"] ["self","ahead","behind"] (Jy Nq):=Pu.fs
noncomputable abbrev BN:Stmt:=inClass (top 67) 10
def Hx:J1 ["self","ahead","behind","wishes"] ["self","ahead","behind"] (Jy BN):=Pu.fs
noncomputable abbrev SA:Stmt:=inClass (top 67) 11
def ER:J1 ["self"] ["self"] (Jy SA):=Pu.fs
noncomputable abbrev NR:Stmt:=top 74
def Zbi:J1 ["text"] ["text"] (Jy NR):=Pu.fs
noncomputable abbrev BV:Stmt:=top 75
def Za7:J1 ["word","texts"] ["word","texts"] (Jy BV):=Pu.fs
noncomputable abbrev Sw:Stmt:=top 76
def Mm:J1 ["texts"] ["texts"] (Jy Sw):=Pu.fs
noncomputable abbrev Bl:Stmt:=top 80
def Zap:J1 ["deed"] ["deed"] (Jy Bl):=Pu.fs
noncomputable abbrev B0:Stmt:=top 82
def Gh:J1 ["village","word","numbers"] ["village","word","numbers"] (Jy B0):=Pu.fs
noncomputable abbrev SK:Stmt:=top 84
def AN:J1 ["village","word","numbers","many"] ["village","word","numbers"] (Jy SK):=Pu.fs
noncomputable abbrev SE:Stmt:=top 85
def Am:J1 ["village","word","numbers","e","members"] ["village","word","numbers"] (Jy SE):=Pu.fs
noncomputable abbrev By:Stmt:=top 86
def OW:J1 ["village","row","words"] ["village","row"] (Jy By):=Pu.fs
noncomputable abbrev Nr:Stmt:=top 88
def Ow:J1 ["_law_script","_law_k"] ["_law_script","_law_k"] (Jy Nr):=Pu.fs
noncomputable abbrev Nx:Stmt:=top 89
def RZ:J1 ["_law_found"] ["_law_found"] (Jy Nx):=Pu.fs
noncomputable abbrev BL:Stmt:=top 90
def Re:J1 ["_law_cell","_law_place_here","_law_first"] ["_law_cell","_law_place_here"] (Jy BL):=Pu.fs
noncomputable abbrev SB:Stmt:=top 91
def Ip:J1 ["_law_script","_law_k"] ["_law_script","_law_k"] (Jy SB):=Pu.fs
noncomputable abbrev Bz:Stmt:=top 92
def HQ:J1 ["_law_script"] ["_law_script"] (Jy Bz):=Pu.fs
noncomputable abbrev NM:Stmt:=top 93
def Lh:J1 ["_law_cell","_law_wide","_law_least"] ["_law_cell"] (Jy NM):=Pu.fs
noncomputable abbrev B6:Stmt:=top 94
def Ra:J1 ["_law_menu_here","_law_k"] ["_law_menu_here","_law_k"] (Jy B6):=Pu.fs
noncomputable abbrev Sg:Stmt:=top 95
def Zam:J1 ["_law_found","_law_due_here","_law_k","_law_j"] ["_law_found","_law_due_here"] (Jy Sg):=Pu.fs
noncomputable abbrev Sj:Stmt:=top 96
def RT:J1 ["_law_found","_law_due_here","_law_j"] ["_law_found","_law_due_here"] (Jy Sj):=Pu.fs
noncomputable abbrev Sa:Stmt:=top 97
def Zaw:J1 ["_law_found","_law_due_here","_law_k"] ["_law_found","_law_due_here"] (Jy Sa):=Pu.fs
noncomputable abbrev SQ:Stmt:=top 98
def Mt:J1 ["_law_strips","_law_deed_here","_law_place_here","_law_holder_here","_law_width_here","_law_parts"] ["_law_strips","_law_deed_here"] (Jy SQ):=Pu.fs
noncomputable abbrev Sy:Stmt:=top 99
def Gm:J1 ["_law_wishes","_law_deed_here","_law_pair_here"] ["_law_wishes","_law_deed_here"] (Jy Sy):=Pu.fs
noncomputable abbrev Se:Stmt:=top 100
def Gy:J1 ["_law_now","_law_deed_here","_law_step_here"] ["_law_now","_law_deed_here"] (Jy Se):=Pu.fs
noncomputable abbrev BH:Stmt:=top 101
def ET:J1 ["_law_village","_law_past"] ["_law_village","_law_past"] (Jy BH):=Pu.fs
noncomputable abbrev Bq:Stmt:=top 102
def O1:J1 ["_law_script","_law_menu_here","_law_many","_law_rest","_law_strips","_law_k","_law_cell","_law_width_here"] ["_law_script","_law_menu_here","_law_many"] (Jy Bq):=Pu.fs
noncomputable abbrev B3:Stmt:=top 103
def GO:J1 ["_law_script","_law_most"] ["_law_script","_law_most"] (Jy B3):=Pu.fs
noncomputable abbrev SJ:Stmt:=top 104
def EW:J1 ["_law_cell","_law_good"] ["_law_cell","_law_good"] (Jy SJ):=Pu.fs
noncomputable abbrev SZ:Stmt:=top 105
def IQ:J1 ["_law_cell","_law_strips"] ["_law_cell","_law_strips"] (Jy SZ):=Pu.fs
noncomputable abbrev Ny:Stmt:=top 106
def L8:J1 ["_law_cell","_law_menu_here","_law_pool","_law_one","_law_two","_law_ahead"] ["_law_cell","_law_menu_here"] (Jy Ny):=Pu.fs
noncomputable abbrev BU:Stmt:=top 107
def G5:J1 ["_law_cell","_law_strips","_law_place_here"] ["_law_cell","_law_strips","_law_place_here"] (Jy BU):=Pu.fs
noncomputable abbrev Np:Stmt:=top 108
def Ol:J1 ["_law_cell","_law_menu_here","_law_now","_law_kind","_law_rest","_law_place_here","_law_more","_law_pair_here"] ["_law_cell","_law_menu_here","_law_now"] (Jy Np):=Pu.fs
noncomputable abbrev Bf:Stmt:=top 109
def Mv:J1 ["_law_deed_here"] ["_law_deed_here"] (Jy Bf):=Pu.fs
noncomputable abbrev BJ:Stmt:=top 110
def R9:J1 ["_law_k"] ["_law_k"] (Jy BJ):=Pu.fs
noncomputable abbrev NV:Stmt:=top 111
def HL:J1 ["_law_past","_law_deed_here","_law_number","_law_step_here"] ["_law_past","_law_deed_here"] (Jy NV):=Pu.fs
noncomputable abbrev Bb:Stmt:=top 112
def IH:J1 ["_law_cell","_law_deeds","_law_k","_law_one"] ["_law_cell"] (Jy Bb):=Pu.fs
noncomputable abbrev Xs:Stmt:=top 113
def D2:J1 ["_law_script","_law_menu_here","_law_strips","_law_village","_law_past","_law_first","_law_cells","_law_k","_law_deed_here","_law_found"] ["_law_script"] (Jy Xs):=Pu.fs
structure Glob (w:World) (K:ZX) (mg:Yb):Prop where
 ZR:mg "all"=none
 ZT:mg "bool"=none
 ZJ:mg "int"=none
 Zc:mg "isinstance"=none
 len:mg "len"=none
 Zk:mg "list"=none
 ZK:mg "max"=none
 ZS:mg "min"=none
 Zg:mg "range"=none
 Z0:mg "str"=none
 ZD:mg "tuple"=none
 Z4:∃u,mg "HOLDERS"=some u/\RelV (.int 10) u
 Zo:∃u,mg "STRIPS"=some u/\RelV (.int 40) u
 Zp:∃u,mg "WIDEST"=some u/\RelV (.int 1000) u
 Zr:∃u,mg "MOST_WISHES"=some u/\RelV (.int 20) u
 Zt:∃u,mg "MOST_DEEDS"=some u/\RelV (.int 100) u
 ZQ:∃u,mg "FIGURES"=some u/\RelV (.str "0123456789") u
 Z7:∃u,mg "MOST_FIGURES"=some u/\RelV (.int 4) u
 Z1:Own.Tt K w.params mg "DEEDS" [("sell",2),("part",2),("unite",1),("wish",2),("drop",2)]
 Z8:Own.Tt K w.params mg "OTHERS" [("back",0),("field",0),("wishes",0),("stood",1),("ring",0),("order",0),("cost",0),("moves",0),("offer",2)]
 Zf:mg "TooManyStrips"=some (.ref<|ExcR.J0 mg "TooManyStrips")
 Zh:ExcR.Ut K (ExcR.J0 mg "TooManyStrips")
 Zs:mg "BadHolder"=some (.ref<|ExcR.J0 mg "BadHolder")
 ZC:ExcR.Ut K (ExcR.J0 mg "BadHolder")
 ZE:mg "BadWidth"=some (.ref<|ExcR.J0 mg "BadWidth")
 ZF:ExcR.Ut K (ExcR.J0 mg "BadWidth")
 Zl:mg "NoStrip"=some (.ref<|ExcR.J0 mg "NoStrip")
 Zw:ExcR.Ut K (ExcR.J0 mg "NoStrip")
 ZG:mg "BadOrder"=some (.ref<|ExcR.J0 mg "BadOrder")
 ZU:ExcR.Ut K (ExcR.J0 mg "BadOrder")
 Zu:mg "OwnStrip"=some (.ref<|ExcR.J0 mg "OwnStrip")
 ZH:ExcR.Ut K (ExcR.J0 mg "OwnStrip")
 Zx:mg "BadPart"=some (.ref<|ExcR.J0 mg "BadPart")
 ZL:ExcR.Ut K (ExcR.J0 mg "BadPart")
 Zi:mg "UnlikeHolders"=some (.ref<|ExcR.J0 mg "UnlikeHolders")
 Z2:ExcR.Ut K (ExcR.J0 mg "UnlikeHolders")
 Zy:mg "TooWide"=some (.ref<|ExcR.J0 mg "TooWide")
 ZM:ExcR.Ut K (ExcR.J0 mg "TooWide")
 Zm:mg "LikeHolders"=some (.ref<|ExcR.J0 mg "LikeHolders")
 Z5:ExcR.Ut K (ExcR.J0 mg "LikeHolders")
 Zq:mg "WishStands"=some (.ref<|ExcR.J0 mg "WishStands")
 Z9:ExcR.Ut K (ExcR.J0 mg "WishStands")
 Zj:mg "TooManyWishes"=some (.ref<|ExcR.J0 mg "TooManyWishes")
 Z3:ExcR.Ut K (ExcR.J0 mg "TooManyWishes")
 Zz:mg "NoWish"=some (.ref<|ExcR.J0 mg "NoWish")
 ZO:ExcR.Ut K (ExcR.J0 mg "NoWish")
 Zv:mg "BookFull"=some (.ref<|ExcR.J0 mg "BookFull")
 ZI:ExcR.Ut K (ExcR.J0 mg "BookFull")
 Zn:mg "NothingDone"=some (.ref<|ExcR.J0 mg "NothingDone")
 Z6:ExcR.Ut K (ExcR.J0 mg "NothingDone")
 ZA:mg "NoSuchDeed"=some (.ref<|ExcR.J0 mg "NoSuchDeed")
 ZV:ExcR.Ut K (ExcR.J0 mg "NoSuchDeed")
 ZP:mg "Ringed"=some (.ref<|ExcR.J0 mg "Ringed")
 ZW:PySem.W.exmOne K (.ref<|ExcR.J0 mg "Ringed") (.ref<|ExcR.J0 mg "Ringed")=some true
 ex:Pu.ExOk K mg ["Ringed","TooManyStrips","BadHolder","NoStrip","OwnStrip","BadPart","UnlikeHolders","TooWide","LikeHolders","WishStands","TooManyWishes","NoWish","BookFull","NothingDone"] ["TooManyStrips","BadHolder","NoStrip","OwnStrip","BadPart","UnlikeHolders","TooWide","LikeHolders","WishStands","TooManyWishes","NoWish","BookFull","NothingDone","NoSuchDeed","BadOrder","Ringed"]
 ZN:mg "Village"=some (.ref<|ExcR.J0 mg "Village")
 Za:Cls K (ExcR.J0 mg "Village")
 Zb:NoAttr K (ExcR.J0 mg "Village") "book"
 Zd:NoAttr K (ExcR.J0 mg "Village") "fields"
 Ze:NoAttr K (ExcR.J0 mg "Village") "wished"
def KM:Pu.FldAt "book" ["book","fields","wished"] 0:=.of (by decide +kernel) (by decide +kernel) rfl
def Zbm:Pu.PutAt "book" []:=.of (by decide +kernel)
def BF:Pu.FldAt "fields" ["book","fields","wished"] 1:=.of (by decide +kernel) (by decide +kernel) rfl
def GK:Pu.PutAt "fields" ["book"]:=.of (by decide +kernel)
def BI:Pu.FldAt "wished" ["book","fields","wished"] 2:=.of (by decide +kernel) (by decide +kernel) rfl
def G4:Pu.PutAt "wished" ["book","fields"]:=.of (by decide +kernel)
def KN:Pu.NoFld "strips" ["book","fields","wished"]:=.of (by decide +kernel)
def KQ:Pu.NoFld "wishes" ["book","fields","wished"]:=.of (by decide +kernel)
def HY:Pu.NoFld "deeds" ["book","fields","wished"]:=.of (by decide +kernel)
def Px:Pu.NoFld "check_room" ["book","fields","wished"]:=.of (by decide +kernel)
def PV:Pu.NoFld "enter" ["book","fields","wished"]:=.of (by decide +kernel)
def OT:Pu.NoFld "sell" ["book","fields","wished"]:=.of (by decide +kernel)
def Rm:Pu.NoFld "part" ["book","fields","wished"]:=.of (by decide +kernel)
def Ii:Pu.NoFld "unite" ["book","fields","wished"]:=.of (by decide +kernel)
def ML:Pu.NoFld "wish" ["book","fields","wished"]:=.of (by decide +kernel)
def GL:Pu.NoFld "drop" ["book","fields","wished"]:=.of (by decide +kernel)
def OX:Pu.NoFld "take_back" ["book","fields","wished"]:=.of (by decide +kernel)
end T
namespace M
open L2 Own Pu
noncomputable def Mb:Pc:=λf R X=>∃h:Int,f=[.int h]/\Uk (KJ h) X (R<|.sh .non)
noncomputable def SR(h:Int):Option Str:=if 1<=h/\h<=1000 then none else some "BadWidth"
noncomputable def Lw:Pc:=λf R X=>∃h:Int,f=[.int h]/\Uk (SR h) X (R<|.sh .non)
noncomputable def M2:Pc:=λg R X=>∃(f:ZY) (p:Int),g=[.lst (f.map prD),.int p]/\(if p<1\/(f.length:Int)<=p then X "NoStrip" else R (.sh .non))
noncomputable def LS:Pc:=λg R X=>∃(f:ZY) (p:Int),g=[plD f,.int p]/\Uk (Ts f p) X (R<|.sh .non)
noncomputable def IP:Pc:=λg R X=>∃(f:ZY) (a b:Int),g=[plD f,.int a,.int b]/\f.length<=1000/\Uk (Uh f a b) X (R<|.own ((KS f a b).map prD))
noncomputable def Ot(C:Addr):Pc:=λh R _=>∃(bk:List (Str×ZZ)) (fs g:List (ZY)) (f:ZY),h=[PN C bk (fs++[f]) g]/\R (.own<|f.map prD)
noncomputable def Oi(C:Addr):Pc:=λh R _=>∃(bk:List (Str×ZZ)) (fs g:List (ZY)) (f:ZY),h=[PN C bk fs (g++[f])]/\R (.own<|f.map prD)
noncomputable def Ho(C:Addr):Pc:=λg R _=>∃(bk:List (Str×ZZ)) (fs f:List (ZY)),g=[PN C bk fs f]/\R (.own<|bk.map dD)
noncomputable def Km(bk:List (Str×ZZ)):Option Str:=if 100<=bk.length then some "BookFull" else none
noncomputable def Lu(C:Addr):Pc:=λg R X=>∃(bk:List (Str×ZZ)) (fs f:List (ZY)),g=[PN C bk fs f]/\Uk (Km bk) X (R<|.sh .non)
noncomputable def LZ(C:Addr):Pw:=λo n R _=>∃(x b1 l h:Addr) (bk:List (Str×ZZ)) (fs g:List (ZY)) (q:Str×ZZ) (f w:ZY),o=vO C x b1 l h bk fs g/\n=[.sh (dD q),.sh (plD f),.sh (plD w)]/\bk.length<=1000/\fs.length<=1000/\g.length<=1000/\
 R (vO C x b1 l h (bk++[q]) (fs++[f]) (g++[w])) (.int (bk.length+1))
noncomputable def OL(C:Addr):Pw:=λo l R X=>∃(x b1 h g:Addr) (bk:List (Str×ZZ)) (fs f:List (ZY)),o=vO C x b1 h g bk fs f/\l=[]/\fs.length=bk.length+1/\f.length=bk.length+1/\
 (bk=[]->X (vO C x b1 h g bk fs f) "NothingDone")/\∀b0 q,bk=b0++[q]->R (vO C x b1 h g b0 fs.dropLast f.dropLast) (dD q)
noncomputable def GW:Pc:=λf R _=>∃x:Str,f=[.str x]/\x.length<=sizeLine/\x.cps.all (· < 128)=true/\R (.sh<|.bl<|U9 x)
noncomputable def Ma:Pc:=λg R _=>∃f:Yg,g=[.lst (f.map D.str)]/\JoinOk spc f=true/\R (.sh<|.str (if f=[]then "none" else Txt.join spc f))
noncomputable def Gn:Pc:=λg R _=>∃(f:ZZ) (k:Int),g=[.scr f,.int k]/\0<=k/\R (.sh<|.int<|f.getD k.toNat 0)
noncomputable def OB:Pc:=λf R _=>∃i:Int,f=[.int i]/\R (.sh<|.bl true)
noncomputable def Hv:Pc:=λf R _=>∃c p:Int,f=[.int c,.int p]/\R (.sh<|.int<|mixP c p)
noncomputable def Hl:Pc:=λf R _=>∃c:Int,f=[.int c]/\∀m,P1 m->R (.own<|m.map D.int)
noncomputable def RK:Pc:=λf R _=>∃(m:ZZ) (k:Int),f=[.lst (m.map D.int),.int k]/\P1 m/\∀h:Int,1<=h->h<=10->h=Zbj m k->R (.sh<|.int h)
noncomputable def Oj:Pq:=λg R _=>∃(f:ZY) (x:Dd),g=[.sh (plD f),.sh (dD x.q)]/\x.land=true/\f.length<=40/\R (.own [.int (codeN<|x.err f []),plD (x.fld' f)])
noncomputable def Md:Pq:=λf R _=>∃(w:ZY) (x:Dd),f=[.sh (plD w),.sh (dD x.q)]/\x.land=false/\w.length<=20/\R (.own [.int (codeN<|x.err [] w),plD (x.wsh' w)])
noncomputable def Ge:Pc:=λf R _=>∃c g:Int,f=[.int c,.int g]/\g.natAbs<=10 ^ 30/\∀v:Int,v.natAbs<=10 ^ 30->R (.sh<|.int v)
noncomputable def LD:Pc:=λg R _=>∃(c:Int) (f:ZY),g=[.int c,plD f]/\f.length<=1000/\∀v:Int,v.natAbs<=10 ^ 30->R (.sh<|.int v)
noncomputable def LN:Pc:=λg R _=>∃(c:Int) (f:ZY) (p:Int),g=[.int c,plD f,.int p]/\f.length<=1000/\Field f/\∀v:Int,v.natAbs<=10 ^ 30->R (.sh<|.int v)
noncomputable def LL:Pc:=λf R _=>∃q:Str×ZZ,f=[dD q]/\q.1.length<=6/\q.2.length<=2/\(∀n∈q.2,n.natAbs<=10 ^ 30)/\R (.sh<|.str<|Str.join spc (q.1::q.2.map nS))
noncomputable def Kt(k:Int):Str:=if k=1 then "place" else if k=2 then "holder" else if k=3 then "own" else if k=4 then "part" else if k=5 then "strips" else if k=6 then "unlike" else if k=7 then "wide" else if k=8 then "like" else if k=9 then "twice" else if k=10 then "wishes" else if k=11 then "unknown" else ""
noncomputable def MA:Pc:=λf R _=>∃k:Int,f=[.int k]/\0<=k/\k<=11/\R (.sh<|.str<|Kt k)
noncomputable def L7:Pc:=λg R _=>∃c:Int,g=[.int c]/\∀f:ZY,f.length<=20->(∀q∈f,(1<=q.1/\q.1<=10)/\1<=q.2/\q.2<=10)->R (.own (f.map λq=>d3 "wish" q.1 q.2))
noncomputable def LB:Pc:=λg R X=>∃f:ZY,g=[plD f]/\f.length<=1000/\Uk (KB f) X (R<|.sh .non)
noncomputable def M6:Pc:=λg R X=>∃(f:ZY) (p h:Int),g=[plD f,.int p,.int h]/\f.length<=1000/\Uk (Uy f p h) X (R<|.own (XD f p h |>.map prD))
noncomputable def Mh:Pc:=λg R X=>∃(f:ZY) (p w:Int),g=[plD f,.int p,.int w]/\f.length<=1000/\Uk (Ui f p w) X (R<|.own ((Xe f p w).map prD))
noncomputable def RF:Pc:=λg R X=>∃(f:ZY) (p:Int),g=[plD f,.int p]/\f.length<=1000/\Uk (JW f p) X (R<|.own ((Xh f p).map prD))
noncomputable def LR:Pc:=λg R X=>∃(f:ZY) (a b:Int),g=[plD f,.int a,.int b]/\f.length<=1000/\Uk (JZ f a b) X (R<|.own ((f++[(a,b)]).map prD))
noncomputable def TM(bk:List (Str×ZZ))(w:ZY)(a b:Int):Option Str:=if 100<=bk.length then some "BookFull" else Uh w a b
noncomputable def HC(C:Addr):Pw:=λo r R X=>∃(x b1 n l:Addr) (bk:List (Str×ZZ)) (fs g:List (ZY)) (f w:ZY) (p h:Int),o=vO C x b1 n l bk (fs++[f]) (g++[w])/\r=[.sh (.int p),.sh (.int h)]/\bk.length<=1000/\fs.length<=900/\g.length<=900/\w.length<=1000/\
 Uk (TM bk w p h) (X<|vO C x b1 n l bk (fs++[f]) (g++[w])) (R (vO C x b1 n l (bk++[(("drop" : Str),[p,h])]) (fs++[f]++[f]) (g++[w]++[KS w p h]))<|.int (bk.length+1))
noncomputable def Gu:Pc:=λf R _=>∃(w:Str) (os:ZZ),f=[.str w,.lst (os.map λn=>D.str (nS n))]/\(w,os.length)∈[(("sell" : Str),2),("part",2),("unite",1),("wish",2),("drop",2),("back",0)]/\(∀n∈os,n.natAbs<=10 ^ 30)/\R (.sh<|.bl<|UY os)
noncomputable def Ov:Pc:=λf R _=>∃q:Str×ZZ,f=[dD q]/\q.1.length<=6/\q.2.length<=2/\(∀n∈q.2,n.natAbs<=10 ^ 30)/\R (.sh<|.str<|Str.join spc (q.1::q.2.map nS))
noncomputable def RQ:Pc:=λg R _=>∃(f:ZZ) (k:Int),g=[.scr f,.int k]/\0<=k/\∀v:Int,R (.sh<|.int v)
noncomputable def Gq:Pc:=λg R _=>∃f:ZZ,g=[.scr f]/\∀v:Int,R (.sh<|.int v)
noncomputable def M3:Pc:=λg R _=>∃f:ZY,g=[.lst (f.map prD),.lst (f.map prD)]/\f.length<=1000000/\R (.sh<|.bl true)
noncomputable def Zax:Pc:=λf R _=>∃q:Str×ZZ,f=[dD q,dD q]/\q.2.length<=100/\R (.sh<|.bl true)
noncomputable def EU:Pq:=λg R _=>∃(f w:ZY) (h:List D) (x:Dd),g=[.sh (.tup (plD f::plD w::h)),.sh (dD x.q)]/\f.length<=40/\w.length<=20/\R (.own [.int (codeN<|x.err f w),plD (x.nf f w),plD (x.nw f w)])
noncomputable def L9:Pc:=λh R _=>∃(g m:ZZ) (n:Int),h=[.scr g,.lst (m.map D.int),.int n]/\P1 m/\0<=n/\n<=1000/\∀f:ZY,Field f->f.length=n.toNat->R (.own<|f.map prD)
noncomputable def GQ:Pc:=λh R _=>∃(g:ZZ) (n:Int),h=[.scr g,.int n]/\0<=n/\n<=1000/\∀f:ZZ,(f.length:Int)<=n->R (.own<|f.map D.int)
noncomputable def M7:Pc:=λf R _=>∃(c:Int) (m:ZZ),f=[.int c,.lst (m.map D.int)]/\P1 m/\∀a b:Int,a.natAbs<=10 ^ 30->b.natAbs<=10 ^ 30->R (.sh<|prD (a,b))
noncomputable def Ox(C:Addr):Pw:=λo g R X=>∃(x:Addr) (f:ZY),o=.ins x C [] []/\g=[.sh (plD f)]/\f.length<=1000/\Uk (KB f) (X<|.ins x C [] []) (∀b1 l h,R (vO C x b1 l h [] [f] [[]]) .non)
noncomputable def Nl(bk:List (Str×ZZ))(f:ZY)(p h:Int):Option Str:=if 100<=bk.length then some "BookFull" else Uy f p h
noncomputable def R4(C:Addr):Pw:=λo r R X=>∃(x b1 n l:Addr) (bk:List (Str×ZZ)) (fs g:List (ZY)) (f w:ZY) (p h:Int),o=vO C x b1 n l bk (fs++[f]) (g++[w])/\r=[.sh (.int p),.sh (.int h)]/\bk.length<=1000/\fs.length<=900/\g.length<=900/\f.length<=1000/\
 Uk (Nl bk f p h) (X<|vO C x b1 n l bk (fs++[f]) (g++[w])) (R (vO C x b1 n l (bk++[(("sell" : Str),[p,h])]) (fs++[f]++[XD f p h]) (g++[w]++[w]))<|.int (bk.length+1))
noncomputable def Nk(bk:List (Str×ZZ))(f:ZY)(p h:Int):Option Str:=if 100<=bk.length then some "BookFull" else Ui f p h
noncomputable def Zaq(C:Addr):Pw:=λo r R X=>∃(x b1 n l:Addr) (bk:List (Str×ZZ)) (fs g:List (ZY)) (f w:ZY) (p h:Int),o=vO C x b1 n l bk (fs++[f]) (g++[w])/\r=[.sh (.int p),.sh (.int h)]/\bk.length<=1000/\fs.length<=900/\g.length<=900/\f.length<=1000/\
 Uk (Nk bk f p h) (X<|vO C x b1 n l bk (fs++[f]) (g++[w])) (R (vO C x b1 n l (bk++[(("part" : Str),[p,h])]) (fs++[f]++[Xe f p h]) (g++[w]++[w]))<|.int (bk.length+1))
noncomputable def Nh(bk:List (Str×ZZ))(f:ZY)(p:Int):Option Str:=if 100<=bk.length then some "BookFull" else JW f p
noncomputable def Za9(C:Addr):Pw:=λo n R X=>∃(x b1 l h:Addr) (bk:List (Str×ZZ)) (fs g:List (ZY)) (f w:ZY) (p:Int),o=vO C x b1 l h bk (fs++[f]) (g++[w])/\n=[.sh (.int p)]/\bk.length<=1000/\fs.length<=900/\g.length<=900/\f.length<=1000/\
 Uk (Nh bk f p) (X<|vO C x b1 l h bk (fs++[f]) (g++[w])) (R (vO C x b1 l h (bk++[(("unite" : Str),[p])]) (fs++[f]++[Xh f p]) (g++[w]++[w]))<|.int (bk.length+1))
noncomputable def T9(bk:List (Str×ZZ))(w:ZY)(a b:Int):Option Str:=if 100<=bk.length then some "BookFull" else JZ w a b
noncomputable def HJ(C:Addr):Pw:=λo r R X=>∃(x b1 n l:Addr) (bk:List (Str×ZZ)) (fs g:List (ZY)) (f w:ZY) (p h:Int),o=vO C x b1 n l bk (fs++[f]) (g++[w])/\r=[.sh (.int p),.sh (.int h)]/\bk.length<=1000/\fs.length<=900/\g.length<=900/\w.length<=1000/\
 Uk (T9 bk w p h) (X<|vO C x b1 n l bk (fs++[f]) (g++[w])) (R (vO C x b1 n l (bk++[(("wish" : Str),[p,h])]) (fs++[f]++[f]) (g++[w]++[w++[(p,h)]]))<|.int (bk.length+1))
noncomputable def Zak:Pc:=λf R _=>∃bk:List (Str×ZZ),f=[.lst (bk.map dD),.lst (bk.map dD)]/\(∀q∈bk,q.2.length<=100)/\bk.length<=1000/\R (.sh<|.bl true)
noncomputable def Zab:Pc:=λh R _=>∃(c:Int) (m:ZZ) (f w:ZY) (g:List D),h=[.int c,.lst (m.map D.int),.tup (plD f::plD w::g)]/\P1 m/\f.length<=1000/\Field f/\w.length<=1000/\(∀q∈w,q.1.natAbs<=10 ^ 30/\q.2.natAbs<=10 ^ 30)/\(∀x:Dd,(∀n∈x.q.2,n.natAbs<=10 ^ 30)->R (.sh<|dD x.q))/\R (.sh<|.tup [.str "back"])
noncomputable def R5:Pw:=λo g R _=>∃(a:Addr) (f0:ZY) (f:Ug) (q:D),o=.lsA a (JU f0 f)/\g=[.sh q]/\f.length<=100/\FineH f0 f/\Sm f/\
 ((q=.tup [.str "back"]/\(f=[]->R (.lsA a<|JU f0 f) (.str "refused: nothing"))/\∀h y,f=h++[y]->R (.lsA a<|JU f0 h) (.str<|Str.join spc (y.1.q.1::y.1.q.2.map nS)))\/
  ∃d:Dd,q=dD d.q/\(UY d.q.2=false->R (.lsA a<|JU f0 f) (.str "refused: row"))/\(UY d.q.2=true->(d.err (JM f0 f) (JL f)=none->R (.lsA a<|JU f0<|UQ f0 f d) (.str (("done " : Str)++nS ((f.length:Int)+1))))/\(d.err (JM f0 f) (JL f)≠none->R (.lsA a<|JU f0 f) (.str ("refused: "++Kt (codeN<|d.err (JM f0 f)<|JL f))))))
noncomputable def Xi(bk:List (Str×ZZ))(f w:ZY)(d:Dd):Option Str:=if 100<=bk.length then some "BookFull" else d.err f w
noncomputable def OY(C:Addr):Pw:=λo n R X=>∃(x b1 l h:Addr) (bk:List (Str×ZZ)) (fs g:List (ZY)) (f w:ZY) (d:Dd),o=vO C x b1 l h bk (fs++[f]) (g++[w])/\n=[.sh (.str d.q.1),.sh (.lst<|d.q.2.map D.int)]/\bk.length<=1000/\fs.length<=900/\g.length<=900/\f.length<=1000/\w.length<=1000/\
 Uk (Xi bk f w d) (X<|vO C x b1 l h bk (fs++[f]) (g++[w])) (R (vO C x b1 l h (bk++[d.q]) (fs++[f]++[d.fld f]) (g++[w]++[d.wsh w]))<|.int (bk.length+1))
noncomputable def EN(C:Addr):Pc:=λh R _=>∃(f0:ZY) (f:List (Dd×ZY×ZY)),h=[PN C (bkH f) (fsH f0 f) (wsH f),.lst (JU f0 f)]/\f.length<=200/\(∀g∈fsH f0 f,g.length<=1000)/\(∀g∈wsH f,g.length<=1000)/\R (.sh<|.bl true)
noncomputable def K4(q:Str×ZZ):Str:=Str.join spc (q.1::q.2.map nS)
noncomputable def Za4(C:Addr):Pw:=λo t R X=>∃(x b1 r p:Addr) (bk:List (Str×ZZ)) (fs g:List (ZY)),o=vO C x b1 r p bk fs g/\∃(word:Str) (s:ZZ),t=[.sh (.str word),.sh (.lst<|s.map D.int)]/\
 ((∃(l h:List (ZY)) (f w:ZY) (d:Dd),fs=l++[f]/\g=h++[w]/\word=d.q.1/\s=d.q.2/\bk.length<=1000/\l.length<=900/\h.length<=900/\f.length<=1000/\w.length<=1000/\
  Uk (Xi bk f w d) (X<|vO C x b1 r p bk fs g) (R (vO C x b1 r p (bk++[d.q]) (fs++[d.fld f]) (g++[d.wsh w]))<|.str (("done " : Str)++nS (bk.length+1))))\/
  (word = "back"/\s=[]/\fs.length=bk.length+1/\g.length=bk.length+1/\(bk=[]->X (vO C x b1 r p bk fs g) "NothingDone")/\∀b0 q,bk=b0++[q]->q.1.length<=6/\q.2.length<=2/\(∀n∈q.2,n.natAbs<=10 ^ 30)/\R (vO C x b1 r p b0 fs.dropLast g.dropLast) (.str<|K4 q)))
noncomputable def UI(c:Str):Str:=if c=("TooManyStrips" : Str)then "refused: strips" else if c=("BadHolder" : Str)then "refused: holder" else if c=("NoStrip" : Str)then "refused: place" else if c=("OwnStrip" : Str)then "refused: own" else if c=("BadPart" : Str)then "refused: part" else if c=("UnlikeHolders" : Str)then "refused: unlike" else if c=("TooWide" : Str)then "refused: wide" else if c=("LikeHolders" : Str)then "refused: like" else if c=("WishStands" : Str)then "refused: twice" else if c=("TooManyWishes" : Str)then "refused: wishes" else if c=("NoWish" : Str)then "refused: unknown" else "refused: full"
noncomputable def HM(C:Addr):Pw:=λo t R _=>∃(x b1 r p:Addr) (bk:List (Str×ZZ)) (fs g:List (ZY)),o=vO C x b1 r p bk fs g/\∃(word:Str) (s:ZZ),t=[.sh (.str word),.sh (.lst<|s.map D.int)]/\
 ((∃(l h:List (ZY)) (f w:ZY) (d:Dd),fs=l++[f]/\g=h++[w]/\word=d.q.1/\s=d.q.2/\bk.length<=1000/\l.length<=900/\h.length<=900/\f.length<=1000/\w.length<=1000/\
  (Xi bk f w d=none->R (vO C x b1 r p (bk++[d.q]) (fs++[d.fld f]) (g++[d.wsh w])) (.str (("done " : Str)++nS (bk.length+1))))/\∀c,Xi bk f w d=some c->R (vO C x b1 r p bk fs g) (.str<|UI c))\/
  (word = "back"/\s=[]/\fs.length=bk.length+1/\g.length=bk.length+1/\(bk=[]->R (vO C x b1 r p bk fs g) (.str "refused: nothing"))/\∀b0 q,bk=b0++[q]->q.1.length<=6/\q.2.length<=2/\(∀n∈q.2,n.natAbs<=10 ^ 30)/\R (vO C x b1 r p b0 fs.dropLast g.dropLast) (.str<|K4 q)))
noncomputable def MB(C:Addr):Pw:=λo s R _=>∃(x b1 l h:Addr) (bk:List (Str×ZZ)) (fs g:List (ZY)),o=vO C x b1 l h bk fs g/\∃t:Str,s=[.sh (.str t)]/\
 ((∃(r p:List (ZY)) (f w:ZY) (d:Dd),fs=r++[f]/\g=p++[w]/\t=K4 d.q/\bk.length<=1000/\r.length<=900/\p.length<=900/\f.length<=1000/\w.length<=1000/\(∀n∈d.q.2,n.natAbs<=10 ^ 30)/\
  (UY d.q.2=false->R (vO C x b1 l h bk fs g) (.str "refused: row"))/\(UY d.q.2=true->
  (Xi bk f w d=none->R (vO C x b1 l h (bk++[d.q]) (fs++[d.fld f]) (g++[d.wsh w])) (.str (("done " : Str)++nS (bk.length+1))))/\∀c,Xi bk f w d=some c->R (vO C x b1 l h bk fs g) (.str<|UI c)))\/
  (t = "back"/\fs.length=bk.length+1/\g.length=bk.length+1/\(bk=[]->R (vO C x b1 l h bk fs g) (.str "refused: nothing"))/\∀b0 q,bk=b0++[q]->q.1.length<=6/\q.2.length<=2/\(∀n∈q.2,n.natAbs<=10 ^ 30)/\R (vO C x b1 l h b0 fs.dropLast g.dropLast) (.str<|K4 q)))
structure Fv (P:Program) (w:World) (K:ZX) (mg:Yb) (base:Heap):Type
variable {P:Program}{w:World}{K:ZX}{mg:Yb}{base:Heap}
abbrev Cal(_:Fv P w K mg base):=Callee P w K mg base
abbrev Cam(_:Fv P w K mg base):=Xf P w K mg base
abbrev Cxe(_:Fv P w K mg base):=ExcR.CXe P w
abbrev JG(_:Fv P w K mg base):=ExcR.J0 mg "Village"
variable (ζ:Fv P w K mg base)
abbrev A4:Prop:=Cal ζ (Cxe ζ) 1 "check_holder" ["holder"] (J9 mg Mb K)
abbrev Ef:Prop:=Cal ζ (Cxe ζ) 1 "check_width" ["width"] (J9 mg Lw K)
abbrev Cy:Prop:=Cal ζ (Cxe ζ) 1 "check_neighbours" ["strips","place"] (J9 mg M2 K)
abbrev Eg:Prop:=Cal ζ (Cxe ζ) 1 "check_place" ["strips","place"] (J9 mg LS K)
abbrev Ci:Prop:=Cal ζ (Cxe ζ) 1 "without_wish" ["wishes","ahead","behind"] (J9 mg IP K)
abbrev Cw:Prop:=Cam ζ CX0 1 (JP K (JG ζ) "strips") ["self"] (J9 mg (Ot<|JG ζ) K)
abbrev F5:Prop:=Cam ζ CX0 1 (JP K (JG ζ) "wishes") ["self"] (J9 mg (Oi<|JG ζ) K)
abbrev F6:Prop:=Cam ζ CX0 1 (JP K (JG ζ) "deeds") ["self"] (J9 mg (Ho<|JG ζ) K)
abbrev Ac:Prop:=Cam ζ (Cxe ζ) 1 (JP K (JG ζ) "check_room") ["self"] (J9 mg (Lu<|JG ζ) K)
abbrev Dc:Prop:=Cam ζ CX0 1 (JP K (JG ζ) "enter") ["self","deed","field","wishes"] (Pu.spW mg (LZ<|JG ζ) K)
abbrev F9:Prop:=Cam ζ (Cxe ζ) 1 (JP K (JG ζ) "take_back") ["self"] (Pu.spW mg (OL<|JG ζ) K)
abbrev Er:Prop:=Cal ζ CX0 1 "is_number" ["text"] (J9 mg GW K)
abbrev DF:Prop:=Cal ζ CX0 1 "told_texts" ["texts"] (J9 mg Ma K)
abbrev DS:Prop:=Cal ζ CX0 1 "_law_at" ["_law_script","_law_k"] (J9 mg Gn K)
abbrev Ei:Prop:=Cal ζ CX0 1 "_law_whole" ["_law_found"] (J9 mg OB K)
abbrev E9:Prop:=Cal ζ CX0 1 "_law_mix" ["_law_cell","_law_place_here"] (J9 mg Hv K)
abbrev E5:Prop:=Cal ζ CX0 1 "_law_menu" ["_law_cell"] (J9 mg Hl K)
abbrev Dp:Prop:=Cal ζ CX0 1 "_law_holder" ["_law_menu_here","_law_k"] (J9 mg RK K)
abbrev AH:Prop:=Cal ζ CX0 1 "_law_field_step" ["_law_strips","_law_deed_here"] (Pu.spS mg Oj K)
abbrev FZ:Prop:=Cal ζ CX0 1 "_law_wish_step" ["_law_wishes","_law_deed_here"] (Pu.spS mg Md K)
abbrev EH:Prop:=Cal ζ CX0 1 "_law_odd" ["_law_cell","_law_good"] (J9 mg Ge K)
abbrev F4:Prop:=Cal ζ CX0 1 "_law_place" ["_law_cell","_law_strips"] (J9 mg LD K)
abbrev Df:Prop:=Cal ζ CX0 1 "_law_width" ["_law_cell","_law_strips","_law_place_here"] (J9 mg LN K)
abbrev Dz:Prop:=Cal ζ CX0 1 "_law_row_of" ["_law_deed_here"] (J9 mg LL K)
abbrev An:Prop:=Cal ζ CX0 1 "_law_word" ["_law_k"] (J9 mg MA K)
abbrev Cz:Prop:=Cal ζ CX0 1 "_law_filled" ["_law_cell"] (J9 mg L7 K)
abbrev FD:Prop:=Cal ζ (Cxe ζ) 2 "check_strips" ["strips"] (J9 mg LB K)
abbrev Fd:Prop:=Cal ζ (Cxe ζ) 2 "sold" ["strips","place","holder"] (J9 mg M6 K)
abbrev FB:Prop:=Cal ζ (Cxe ζ) 2 "parted" ["strips","place","width"] (J9 mg Mh K)
abbrev D5:Prop:=Cal ζ (Cxe ζ) 2 "united" ["strips","place"] (J9 mg RF K)
abbrev CK:Prop:=Cal ζ (Cxe ζ) 2 "with_wish" ["wishes","ahead","behind"] (J9 mg LR K)
abbrev Ck:Prop:=Cam ζ (Cxe ζ) 2 (JP K (JG ζ) "drop") ["self","ahead","behind"] (Pu.spW mg (HC<|JG ζ) K)
abbrev FC:Prop:=Cal ζ CX0 2 "is_row" ["word","texts"] (J9 mg Gu K)
abbrev Aj:Prop:=Cal ζ CX0 2 "told_deed" ["deed"] (J9 mg Ov K)
abbrev D6:Prop:=Cal ζ CX0 2 "_law_draw" ["_law_script","_law_k"] (J9 mg RQ K)
abbrev Eh:Prop:=Cal ζ CX0 2 "_law_spare" ["_law_script"] (J9 mg Gq K)
abbrev DU:Prop:=Cal ζ CX0 2 "_law_tuples" ["_law_found","_law_due_here"] (J9 mg M3 K)
abbrev CD:Prop:=Cal ζ CX0 2 "_law_deed_is" ["_law_found","_law_due_here"] (J9 mg Zax K)
abbrev Fn:Prop:=Cal ζ CX0 2 "_law_step" ["_law_now","_law_deed_here"] (Pu.spS mg EU K)
abbrev Ah:Prop:=Cal ζ CX0 2 "_law_start" ["_law_script","_law_menu_here","_law_many"] (J9 mg L9 K)
abbrev AF:Prop:=Cal ζ CX0 2 "_law_days" ["_law_script","_law_most"] (J9 mg GQ K)
abbrev EF:Prop:=Cal ζ CX0 2 "_law_pair" ["_law_cell","_law_menu_here"] (J9 mg M7 K)
abbrev Fb:Prop:=Cam ζ (Cxe ζ) 3 (Mk K<|JG ζ) ["self","strips"] (Pu.spW mg (Ox<|JG ζ) K)
abbrev DL:Prop:=Cam ζ (Cxe ζ) 3 (JP K (JG ζ) "sell") ["self","place","holder"] (Pu.spW mg (R4<|JG ζ) K)
abbrev F0:Prop:=Cam ζ (Cxe ζ) 3 (JP K (JG ζ) "part") ["self","place","width"] (Pu.spW mg (Zaq<|JG ζ) K)
abbrev Fq:Prop:=Cam ζ (Cxe ζ) 3 (JP K (JG ζ) "unite") ["self","place"] (Pu.spW mg (Za9<|JG ζ) K)
abbrev AG:Prop:=Cam ζ (Cxe ζ) 3 (JP K (JG ζ) "wish") ["self","ahead","behind"] (Pu.spW mg (HJ<|JG ζ) K)
abbrev E2:Prop:=Cal ζ CX0 3 "_law_book_is" ["_law_found","_law_due_here"] (J9 mg Zak K)
abbrev D0:Prop:=Cal ζ CX0 3 "_law_deed" ["_law_cell","_law_menu_here","_law_now"] (J9 mg Zab K)
abbrev DT:Prop:=Cal ζ CX0 3 "_law_due" ["_law_past","_law_deed_here"] (Pu.spW mg R5 K)
abbrev Ct:Prop:=Cal ζ (Cxe ζ) 4 "do_deed" ["village","word","numbers"] (Pu.spW mg (OY<|JG ζ) K)
abbrev CU:Prop:=Cal ζ CX0 4 "_law_stands" ["_law_village","_law_past"] (J9 mg (EN<|JG ζ) K)
abbrev F3:Prop:=Cal ζ (Cxe ζ) 5 "told_row" ["village","word","numbers"] (Pu.spW mg (Za4<|JG ζ) K)
abbrev Fg:Prop:=Cal ζ CX0 6 "told_or_refused" ["village","word","numbers"] (Pu.spW mg (HM<|JG ζ) K)
abbrev Dw:Prop:=Cal ζ CX0 7 "answer" ["village","row"] (Pu.spW mg (MB<|JG ζ) K)
abbrev Zbb:Prop:=Cal ζ CX0 8 "law" ["_law_script"] (J9 mg D9 K)
end M
namespace M
open L2 Own Pu
def HK(f:ZY)(o:∀q∈f,(1<=q.1/\q.1<=10)/\1<=q.2/\q.2<=10)(k:Int)(p:0<=k):∃q,atI (f.map (λq=>d3 "wish" q.1 q.2)++[D.tup [.str "back"]]) (if (((f.map λq=>d3 "wish" q.1 q.2).length:Nat):Int)<k then(((f.map λq=>d3 "wish" q.1 q.2).length:Nat):Int)else k)=some q/\(q=.tup [.str "back"]\/∃d:Dd,q=dD d.q/\∀n∈d.q.2,n.natAbs<=10 ^ 30):=by
 rw[Wg];by_cases h:k<f.length
 ·rw[Wo (by lia)];obtain⟨j,rfl⟩:=Q9 p;have l:j<f.length:=by lia
  refine⟨dD (Dd.wish f[j].1 f[j].2).q,PB ?_,.inr ⟨_,rfl,λn g=>?_⟩⟩
  ·rw[WI (by rw[Wg];exact l),Ww,Wj l];rfl
  ·have r:=o _ (WN l);refine Wk (show n.natAbs<=10 from ?_) (by decide)
   rcases Wu.mp g with rfl|g
   ·lia
   ·rw[Wl.mp g];lia
 ·have e:(if (f.length:Int)<k then(f.length:Int)else k)=(f.length:Int):=by split<;>lia
  rw[e];refine⟨_,PB ?_,.inl rfl⟩;rw[WH (by rw[Wg];exact Wn _),Wg,QS];rfl
def Mo{f w:ZY}{d:Dd}{c:Str}(e:d.err f w=some c):UI c=("refused: " : Str)++Kt (codeN<|some c):=by
 rcases d.err_cases f w with z|z|z|z|z|z|z|z|z|z|z|z<;>rw[z]at e<;>cases e<;>decide +kernel
def UZ{f0:ZY}{f:Ug}(h:FineH f0 f):(∀g∈fsH f0 f,g.length<=1000)/\∀g∈wsH f,g.length<=1000:=⟨λg l=>by have:=(h.1 g l).2;lia,λg l=>by have:=(h.2 g l).1;lia⟩
end M
namespace T
open L2 Own M Pu
section
variable {P:Program}{w:World}{K:ZX}{mg:Yb}{base:Heap} (ζ:Fv P w K mg base)
variable (G:Glob w K mg) (Yr:A4 ζ) (Y0:Ef ζ) (Y1:Cy ζ) (Yv:Eg ζ) (Y2:Ci ζ) (Yn:Cw ζ) (Yo:F5 ζ) (Y3:F6 ζ) (Yp:Ac ζ) (Yq:Dc ζ) (Y4:F9 ζ) (Y5:Er ζ) (Y6:DF ζ) (Ym:DS ζ) (Yw:Ei ζ) (Ys:E9 ζ) (Y7:E5 ζ) (Yt:Dp ζ) (Y8:AH ζ) (Y9:FZ ζ) (Yu:EH ζ) (YA:F4 ζ) (YB:Df ζ) (Yx:Dz ζ) (YC:An ζ) (YD:Cz ζ) (YE:FD ζ) (YF:Fd ζ) (YG:FB ζ) (YH:D5 ζ) (YI:CK ζ) (YJ:Ck ζ) (YK:FC ζ) (YL:Aj ζ) (YM:D6 ζ) (YN:Eh ζ) (Yy:DU ζ) (YO:CD ζ) (YQ:Fn ζ) (YR:Ah ζ) (YS:AF ζ) (YT:EF ζ) (YU:Fb ζ) (YV:DL ζ) (YW:F0 ζ) (YX:Fq ζ) (YY:AG ζ) (YZ:E2 ζ) (Wa:D0 ζ) (Wb:DT ζ) (Wc:Ct ζ) (Yz:CU ζ) (Wd:F3 ζ) (We:Fg ζ) (Wf:Dw ζ)
def LF(p:Def K mg "check_holder" Sx ["holder"])
  : A4 ζ:=by
 refine p.fy GY (λr n=>(b1<|sI (tp<|wo (tc UG UB (xv 0) xi)<|wO<|tc UT UU (xv 0)<|xe (ExcR.UK G.Z4) J8) (b1<|sQ G.ZC G.Zs ExcR.UJ<|a1<|xe (ExcR.XX<|ExcR.UW<|ExcR.XW (ExcR.UK G.Z4) ExcR.XN)<|XS<|UV<|Kg J8 Kc) b0)) (.a ?_)
 ·rintro t R X ⟨h,rfl,f⟩;refine⟨rfl,?_⟩;unfold KJ at f;refine J2 (λg=>Ur ?_) (λg=>?_)
  ·rw[Wo (by have:=Wi g;lia)]at f;exact⟨by decide,by decide,by decide,by decide,by simp,f⟩
  ·have s:¬h<1:=λz=>g (Wh z);refine J2 (λl=>?_) (λl=>?_)
   ·rw[Wo (by have:=Wi l;lia)]at f;exact⟨by decide,by decide,by decide,by decide,by simp,f⟩
   ·have o:¬10<h:=λz=>l (Wh z);rw[Wm (by lia)]at f;exact f
def Rx(p:Def K mg "check_width" Sl ["width"])
  : Ef ζ:=by
 refine p.fy Zan (λr n=>(b1<|sI (tp<|wo (tc UG UB (xv 0) xi)<|wO<|tc UT UU (xv 0)<|xe (ExcR.UK G.Zp) J8) (b1<|sQ G.ZF G.ZE ExcR.UJ<|a1<|xe (ExcR.XX<|ExcR.UW<|ExcR.XW (ExcR.UK G.Zp) ExcR.XN)<|XS<|UV<|Kg J8 Kc) b0)) (.a ?_)
 ·rintro t R X ⟨h,rfl,f⟩;refine⟨rfl,?_⟩;unfold SR at f;refine J2 (λg=>Ur ?_) (λg=>?_)
  ·rw[Wo (by have:=Wi g;lia)]at f;exact⟨by decide,by decide,by decide,by decide,by simp,f⟩
  ·have s:¬h<1:=λz=>g (Wh z);refine J2 (λl=>?_) (λl=>?_)
   ·rw[Wo (by have:=Wi l;lia)]at f;exact⟨by decide,by decide,by decide,by decide,by simp,f⟩
   ·have o:¬1000<h:=λz=>l (Wh z);rw[Wm (by lia)]at f;exact f
def Hw(r:Def K mg "check_neighbours" S8 ["strips","place"])
  : Cy ζ:=by
 refine r.fy Of (λs n=>(b1<|sI (tp<|wo (tc UG UB (xv 1) xi)<|wO<|tc K6 K0 (xv 1)<|xl G.len<|xv 0) (b1<|sQ G.Zw G.Zl ExcR.UJ<|a1 xs) b0)) (.a ?_)
 ·rintro v R X ⟨h,p,rfl,f⟩;refine⟨rfl,?_⟩;have t:(h.map prD).length=h.length:=Wg ..;refine J2 (λg=>Ur ?_) (λg=>?_)
  ·rw[Wm (.inl<|Wi g)]at f;exact⟨by simp,f⟩
  ·have u:¬p<1:=λz=>g (Wh z);refine J2 (λo=>?_) (λo=>?_)
   ·have l:((h.map prD).length:Int)<=p:=Wi o;rw[Wm (.inr<|by lia)]at f;exact⟨by simp,f⟩
   ·have l:¬((h.map prD).length:Int)<=p:=λz=>o (Wh z);rw[Wo (by lia)]at f;exact f
def Hi(r:Def K mg "check_place" Nz ["strips","place"])
  : Eg ζ:=by
 refine r.fy IS (λs n=>(b1<|sI (tp<|wo (tc UG UB (xv 1) xi)<|wO<|tc UT UU (xv 1)<|xl G.len<|xv 0) (b1<|sQ G.Zw G.Zl ExcR.UJ<|a1 xs) b0)) (.a ?_)
 ·rintro v R X ⟨h,p,rfl,f⟩;refine⟨rfl,?_⟩;have t:(h.map prD).length=h.length:=Wg ..;unfold Ts at f;refine J2 (λg=>Ur ?_) (λg=>?_)
  ·rw[Wm (.inl<|Wi g)]at f;exact⟨by simp,f⟩
  ·have u:¬p<1:=λz=>g (Wh z);refine J2 (λo=>?_) (λo=>?_)
   ·have l:((h.map prD).length:Int)<p:=Wi o;rw[Wm (.inr<|by lia)]at f;exact⟨by simp,f⟩
   ·have l:¬((h.map prD).length:Int)<p:=λz=>o (Wh z);rw[Wo (by lia)]at f;exact f
def GB(r:Def K mg "without_wish" NL ["wishes","ahead","behind"])
  : Ci ζ:=by
 refine r.fy Mr (λp n=>(bc (sI (tI p (xt<|a2 (xv 1)<|xv 2)<|xv 0) (b1<|sQ G.ZO G.Zz ExcR.UJ<|a1 xs) b0)<|b1<|sF 2<|sF 1<|sR<|xC ["wish","ahead","behind"] [none,some 1,some 2] (jL<|xv 0) (gN 0) (f1<|te (X7 (EL (K:=K)<|show _<cLine from(p ()).units0) (pv 0) (Kl<|bz (pv 1)<|pv 2)<|Xt _)<|Xj<|Dn (Jx 0)<|Kv<|tz (Jx 1)<|Jx 2)<|xv 0)) (.a ?_)
 ·rintro t R X ⟨l,a,b,rfl,s,f⟩;refine⟨rfl,?_⟩;unfold Uh at f;refine⟨by simp,_,.lp (a,b) l,J2 (λg=>?_) (λg=>?_)⟩
  ·have o:¬(a,b)∈l:=λz=>by rw[Wm rfl,Wh z]at g;cases g
   rw[Wo o]at f;exact⟨by simp,f⟩
  ·have o:(a,b)∈l:=Ql λz=>g (by rw[Wm rfl,Wx z];rfl);rw[Wm o]at f;refine Kx (xs:=l) (emb:=prD) (λq=>if (!decide (q=(a,b)))=true then some (prD q)else none) (by lia) (λq hq=>?_) ?_
   ·refine⟨by simp,?_⟩;show B1 (.sh<|prD q) (.sh<|prD (a,b)) _;refine Lz ?_;exact J2 (λh=>⟨_,rfl,Wm h⟩) (λh=>Wo h)
   ·rw[TN (λq:Int×Int=>!decide (q=(a,b)))];exact f
def MM(h:JO K (JP K (JG ζ) "strips") "strips" "Village.strips" SN ["self"])
  : Cw ζ:=by
 refine h.fz OS (λo n=>(b1<|sR<|xe (Xx (Pm (K:=K)) (by rfl) G.Zk boot_list<|az<|jx K (Xb (pv 0) rfl)<|X9 X4 JE)<|Pj<|sz<|Ue (KI 1 G.Za G.Zd BF<|Jx 0)<|X8 J8)) (.a ?_)
 ·rintro p R X ⟨bk,fs,l,f,rfl,g⟩;refine⟨rfl,?_⟩;exact⟨rfl,rfl,_,rfl,_,Fj plD fs f,Xy _,g⟩
def RD(l:JO K (JP K (JG ζ) "wishes") "wishes" "Village.wishes" SO ["self"])
  : F5 ζ:=by
 refine l.fz LW (λo n=>(b1<|sR<|xe (Xx (Pm (K:=K)) (by rfl) G.Zk boot_list<|az<|jx K (Xb (pv 0) rfl)<|X9 X4 JE)<|Pj<|sz<|Ue (KI 2 G.Za G.Ze BI<|Jx 0)<|X8 J8)) (.a ?_)
 ·rintro p R X ⟨bk,fs,g,f,rfl,h⟩;refine⟨rfl,?_⟩;exact⟨rfl,rfl,_,rfl,_,Fj plD g f,Xy _,h⟩
def IK(g:JO K (JP K (JG ζ) "deeds") "deeds" "Village.deeds" BO ["self"])
  : F6 ζ:=by
 refine g.fz Mc (λl n=>(b1<|sR<|xe (Xx (Pm (K:=K)) (by rfl) G.Zk boot_list<|az<|Xb (pv 0) rfl)<|Pj<|sz<|KI 0 G.Za G.Zb KM<|Jx 0)) (.a ?_)
 ·rintro o R X ⟨bk,fs,h,rfl,f⟩;refine⟨rfl,?_⟩;exact⟨rfl,rfl,_,rfl,CH _,f⟩
def EM(l:JO K (JP K (JG ζ) "check_room") "check_room" "Village.check_room" Nv ["self"])
  : Ac ζ:=by
 refine l.fy Ik (λp n=>(b1<|sI (tc K6 K0 (xl G.len<|xe (Xb (pv 0) rfl)<|KI 0 G.Za G.Zb KM<|Jx 0)<|xe (ExcR.UK G.Zt) J8) (b1<|sQ G.ZI G.Zv ExcR.UJ<|a1<|xe (ExcR.XX<|ExcR.UW<|ExcR.XW (ExcR.UK G.Zt)<|ExcR.UW ExcR.XN)<|XS<|UV<|Kg J8<|UV Kc) b0)) (.a ?_)
 ·rintro s R X ⟨bk,fs,o,rfl,f⟩;refine⟨rfl,?_⟩;have r:(bk.map dD).length=bk.length:=Wg ..;unfold Km at f;refine⟨rfl,rfl,_,rfl,J2 (λg=>?_) (λg=>?_)⟩
  ·have h:(100:Int)<=((bk.map dD).length:Int):=Wi g;rw[Wm (by lia)]at f;exact⟨by decide,by decide,by decide,by decide,by decide,by simp,f⟩
  ·have h:¬(100:Int)<=((bk.map dD).length:Int):=λz=>g (Wh z);rw[Wo (by lia)]at f;exact f
def Rb(z:JO K (JP K (JG ζ) "enter") "enter" "Village.enter" S9 ["self","deed","field","wishes"])
  : Dc ζ:=by
 refine z.fz He (λB n=>(bc (sF 1<|se (Xg<|Td WL Qm Qn PP (Xb (pv 0) rfl)<|az<|pv 1)<|PM<|Bi 0 0 G.Za G.Zb KM<|Jx 1)<|bc (sF 2<|se (Xg<|Td WL Qm Qn PP (Xb (pv 0) rfl)<|az<|pv 2)<|PM<|Bi 0 1 G.Za G.Zd BF<|Jx 2)<|bc (sF 3<|se (Xg<|Td WL Qm Qn PP (Xb (pv 0) rfl)<|az<|pv 3)<|PM<|Bi 0 2 G.Za G.Ze BI<|Jx 3)<|b1<|se (JH<|ln K G.len<|Xb (pv 0) rfl)<|Ul<|Ky<|sz<|KI 0 G.Za G.Zb KM<|Jx 0)) (.c ?_)
 ·rintro o A R X ⟨x,b1,y,v,bk,fs,g,q,f,w,rfl,rfl,H,E,C,r⟩;refine⟨rfl,?_⟩;have p:(bk.map dD).length<10000000:=by rw[Wg];lia
  have l:(fs.map plD).length<10000000:=by rw[Wg];lia
  have h:(g.map plD).length<10000000:=by rw[Wg];lia
  refine⟨rfl,rfl,_,rfl,p,rfl,rfl,_,rfl,l,rfl,rfl,_,rfl,h,rfl,rfl,_,rfl,_,rfl,⟨rfl,by simp⟩,?_⟩;have e:(((bk.map dD++[dD q]).length:Nat):Int)=(bk.length:Int)+1:=by rw[Wr,Wg];simp
  show R (.ins x _ vF [(b1,bk.map dD++[dD q]),(y,fs.map plD++[plD f]),(v,g.map plD++[plD w])]) (.int (((bk.map dD++[dD q]).length:Nat):Int));rw[e];have u:bk.map dD++[dD q]=(bk++[q]).map dD:=by rw[W6];rfl
  have t:fs.map plD++[plD f]=(fs++[f]).map plD:=by rw[W6];rfl
  have s:g.map plD++[plD w]=(g++[w]).map plD:=by rw[W6];rfl
  rw[u,t,s];exact r
def Ib(E:JO K (JP K (JG ζ) "take_back") "take_back" "Village.take_back" SA ["self"])
  : F9 ζ:=by
 refine E.fy ER (λJ n=>(bc (sI (tN<|tt<|xe (Xb (pv 0) rfl)<|KI 0 G.Za G.Zb KM<|Jx 0) (b1<|sQ G.Z6 G.Zn ExcR.UJ<|a1 xs) b0)<|bc (se (Xg<|T8 WL Qs Qt Tn<|Xb (pv 0) rfl)<|PM<|NW 0 1 G.Za G.Zd BF)<|bc (se (Xg<|T8 WL Qs Qt Tn<|Xb (pv 0) rfl)<|PM<|NW 0 2 G.Za G.Ze BI)<|b1<|se (JH<|T8 WL Qs Qt Tn<|Xb (pv 0) rfl)<|UM<|NW 0 0 G.Za G.Zb KM)) (.c ?_)
 ·rintro o H R X ⟨x,b1,r,p,bk,fs,f,rfl,rfl,M,L,v,y⟩;refine⟨rfl,?_⟩;have l:(bk.map dD).isEmpty=decide (bk=[]):=by cases bk<;>simp
  refine⟨rfl,rfl,_,rfl,?_⟩;show if (!(!(bk.map dD).isEmpty))=true then _ else _;rw[Bool.not_not,l];refine J2 (λg=>⟨by simp,_,rfl,⟨rfl,by simp⟩,v (Wi g)⟩) (λg=>?_);have h:bk≠[]:=λz=>g (Wh z);obtain⟨b0,q,rfl⟩:∃b0 q,bk=b0++[q]:=⟨_,_,(List.dropLast_concat_getLast h).symm⟩;have u:(b0++[q]).length=b0.length+1:=by simp
  have f1:(fs.map plD)[(fs.map plD).length-1]?=some (plD (fs[fs.length-1]'(by lia))):=by
   rw[Wg,Ww,Wj (by lia)];rfl
  have s:(f.map plD)[(f.map plD).length-1]?=some (plD (f[f.length-1]'(by lia))):=by
   rw[Wg,Ww,Wj (by lia)];rfl
  have t:((b0++[q]).map dD)[((b0++[q]).map dD).length-1]?=some (dD q):=by
   rw[Wg,Ww,u,Nat.add_sub_cancel,WH (Wn _),QS];rfl
  refine⟨rfl,rfl,_,_,rfl,f1,rfl,rfl,_,_,rfl,s,rfl,rfl,_,_,rfl,t,_,rfl,⟨rfl,by simp⟩,?_⟩;have C:((b0++[q]).map dD).dropLast=b0.map dD:=by rw[W6];exact Qe
  have B:(fs.map plD).dropLast=fs.dropLast.map plD:=List.map_dropLast.symm;have A:(f.map plD).dropLast=f.dropLast.map plD:=List.map_dropLast.symm
  have:=y b0 q rfl
  rw[show vO (ExcR.J0 mg "Village") x b1 r p b0 fs.dropLast f.dropLast=.ins x (ExcR.J0 mg "Village") vF [(b1,((b0++[q]).map dD).dropLast),(r,(fs.map plD).dropLast),(p,(f.map plD).dropLast)] by rw[C,B,A]]at this;exact this
def LG(N:Def K mg "is_number" NR ["text"])
  : Er ζ:=by
 refine N.fz Zbi (λv n=>(bc (sI (tp<|wo (tc UG UB (xl G.len<|xv 0) xi)<|wO<|tc UT UU (xl G.len<|xv 0)<|xe (ExcR.UK G.Z7) J8) (b1<|sR xb) b0)<|bc (sI (tp<|wa (tq v (xe (NS Mz (pv 0) JE (λ_ _=>rfl))<|M1 (Jx 0) J8) xs)<|wA<|tn v (xv 0) xs) (b1<|sR xb) b0)<|b1<|sR<|xe (UC (DW (K:=K) rfl) (by rfl) G.ZR boot_all<|az<|cz ["sign"] [none] (Ha<|pv 0) ⟨(gk 0),Pa,(Tw HR (pv 0) (ExcR.UK G.ZQ)<|by with_unfolding_all rfl)⟩)<|Dr<|sz<|KU (SndI.c<|Le<|Jx 0) (XI 0) KG<|Rk (Jx 0) JC)) (.a ?_)
 ·rintro T R X ⟨x,rfl,l,y,f⟩;refine⟨rfl,l,J2 (λg=>?_) (λp=>⟨l,J2 (λg=>?_) (λo=>?_)⟩)⟩
  ·have e:U9 x=false:=by
    unfold U9;have g:decide ((x.length:Int)<1)=true:=g;rw[g];rfl
   rw[←e];exact f
  ·have e:U9 x=false:=by
    unfold U9;have g:decide ((4:Int)<(x.length:Int))=true:=g;rw[show decide ((x.length:Int)>4)=true from g,Bool.or_true]
    rfl
   rw[←e];exact f
  have p:¬(x.length:Int)<1:=λz=>p (Wh z);have o:¬(4:Int)<(x.length:Int):=λz=>o (Wh z);have u:x.cps.toList.length=x.length:=Q0
  obtain⟨c,r,B⟩:∃c r,x.cps.toList=c::r:=by
   cases e:x.cps.toList with
   |nil=>rw[e]at u;simp at u;lia
   |cons c r=>exact⟨c,r,rfl⟩
  have E:atI x.cps.toList 0=some c:=by rw[B];exact Ux _ _
  have M:decide ((⟨#[c]⟩:Str) = "0")=decide (x.cps.toList.head?=some 48):=by
   rw[B];by_cases z:c=48
   ·subst z;rw[show(48::r).head?=some 48 from rfl,Wh rfl]
    decide +kernel
   ·rw[Wx (λh=>z (by have:=W9 (λs:Str=>s.cps.toList) h;exact(List.cons.inj this).1))];exact(Wx λh=>z (Wt h)).symm
  have t:U9 x=(!(decide (x.cps.toList.head?=some 48) && !decide (x=("0" : Str)))&&(x.cps.toList.map λc=>decide (c∈("0123456789" : Str).cps.toList)).all id):=by
   unfold U9;rw[Wx p,Wx o];rfl
  refine⟨l,c,E,?_⟩;show if decide ((⟨#[c]⟩:Str) = "0")=true then _ else _;rw[M];have C:x.cps.size<=4:=by have:x.cps.size=x.length:=rfl;lia
  have last:∀b:Bool,b=(x.cps.toList.map λc=>decide (c∈("0123456789" : Str).cps.toList)).all id->U9 x=b->X3 [none] [some (.sh<|.str x)] (P2 0) SL (p2 (TH 0) (pC<|.str "0123456789") SY) x.cps.size (λi=>.sh (.str ⟨#[x.cps.getD i 0]⟩)) λs=>NN [s] R:=λb J L=>by
   refine DH (λi=>some (.bl<|decide (x.cps.getD i 0∈("0123456789" : Str).cps.toList))) (by lia) (λi Q=>?_) ?_
   ·exact⟨_,rfl,_,rfl,rfl⟩
   ·have e:(List.range x.cps.size).filterMap (λi=>some (D.bl<|decide (x.cps.getD i 0∈("0123456789" : Str).cps.toList)))=(x.cps.toList.map λc=>decide (c∈("0123456789" : Str).cps.toList)).map D.bl:=by
     rw[WZ,Qd];refine List.ext_getElem (by simp) λi A H=>?_;simp at A H ⊢;rw[Array.getElem?_eq_getElem A];rfl
    rw[e];refine⟨_,rfl,?_⟩;rw[←J,←L];exact f
  refine J2 (λg=>?_) (λg=>?_)
  ·show if (!decide (x=("0" : Str)))=true then _ else _;by_cases z:x=("0" : Str)
   ·rw[Wh z];refine JN ⟨y,last _ rfl ?_⟩;rw[t,Wh z,Bool.not_true,Bool.and_false];rfl
   ·rw[Wx z];refine Ur ?_;have e:U9 x=false:=by rw[t,g,Wx z];rfl
    rw[←e];exact f
  ·refine JN ⟨y,last _ rfl ?_⟩;rw[t,Bool.eq_false_iff.mpr g,Bool.false_and];rfl
def MP(o:Def K mg "told_texts" Sw ["texts"])
  : DF ζ:=by
 refine o.fz Mm (λp n=>(b1<|sR<|xI (tt<|xv 0) (xe (Tb (K:=K) QA PySem.F.slot_str_join PySem.F.type_str_join (Cj (K:=K)) JD<|az<|pv 0)<|F2 JC<|Jx 0) xs)) (.a ?_)
 ·rintro r R X ⟨f,rfl,l,g⟩;refine⟨rfl,?_⟩;have h:(f.map D.str).isEmpty=decide (f=[]):=by cases f<;>simp
  show if (!(f.map D.str).isEmpty)=true then _ else _;rw[h];by_cases z:f=[]
  ·rw[Wh z];rw[Wm z]at g;exact JN g
  ·rw[Wx z];rw[Wo z]at g;exact Ur ⟨f,rfl,l,g⟩
def Ll(p:Def K mg "_law_at" Nr ["_law_script","_law_k"])
  : DS ζ:=by
 refine p.fz Ow (λr n=>(bc (sI (tc UG UB (xv 1)<|xl G.len<|xv 0) (b1<|sR<|xx (xv 0)<|xv 1) b0)<|b1<|sR xi)) (.a ?_)
 ·rintro s R X ⟨h,k,rfl,l,f⟩;refine⟨rfl,?_⟩;refine J2 (λg=>?_) (λg=>?_)
  ·have o:k<(h.length:Int):=Wi g;have e:=Wj (show k.toNat<h.length by omega);rw[Wv,e]at f;exact⟨_,PJ l e,f⟩
  ·have o:¬k<(h.length:Int):=λz=>g (Wh z);rw[Wv,List.getElem?_eq_none (by omega)]at f;exact f
def Za0(g:Def K mg "_law_whole" Nx ["_law_found"])
  : Ei ζ:=by
 refine g.fz RZ (λh n=>(b1<|sR<|xe (LX (UC (Kd (K:=K)) (by rfl) G.Zc Qf<|bz (pv 0)<|XJ (v:=.ty "int") rfl G.ZJ boot_int rfl)<|HA<|Ig<|UC (Kd (K:=K)) (by rfl) G.Zc Qf<|bz (pv 0)<|XJ (v:=.ty "bool") rfl G.ZT boot_bool rfl)<|Za2 (XZ<|tz (Jx 0) XO)<|Zae<|XZ<|tz (Jx 0) XO)) (.a ?_)
 ·rintro l R X ⟨i,rfl,f⟩;refine⟨rfl,?_⟩;exact⟨_,.same _,_,.ib,f⟩
def IM(g:Def K mg "_law_mix" BL ["_law_cell","_law_place_here"])
  : E9 ζ:=by
 refine g.fz Re (λh n=>(bc (sS 2 n<|xo JK JJ (xo PK P4 (xo JS JQ (xo JS JQ (xo JK JJ (xv 0) xi)<|xo PK P4 xi<|xv 1) xi) xi) xi)<|b1<|sR<|xo JK JJ (xo PK P4 (xo JS JQ (xo JS JQ (xv 2)<|xo PK P4 xi<|xv 1) xi) xi) xi)) (.a ?_)
 ·rintro l R X ⟨c,p,rfl,f⟩;refine⟨rfl,?_⟩;unfold mixP at f;exact⟨(by show(0:Int)<2147483647;decide),.inl ⟨by decide,by decide⟩,.inr ⟨by decide,by decide⟩,(by show(0:Int)<2147483647;decide),.inl ⟨by decide,by decide⟩,.inr ⟨by decide,by decide⟩,(by show(0:Int)<2147483647;decide),f⟩
def MR(z:Def K mg "_law_menu" NM ["_law_cell"])
  : E5 ζ:=by
 refine z.fz Lh (λA n=>(bc (sS 1 n<|xx (xL<|ac xi<|ac xi<|ac xi<|ac xi<|ac xi a0)<|xo JK JJ (xo Ub Uc (xv 0) xi) xi)<|bc (sS 2 n<|xx (xL<|ac xi<|ac xi<|ac xi<|ac xi<|ac xi a0)<|xo JK JJ (xo Ub Uc (xv 0) xi) xi)<|b1<|sF 2<|sF 1<|sR<|xL<|ac (xo JS JQ xi<|xo JK JJ (xv 0) xi)<|ac (xx (xL<|ac xi<|ac xi<|ac xi<|ac xi a0)<|xo JK JJ (xo Ub Uc (xv 0) xi) xi)<|ac (xo JK JJ (xo Ub Uc (xv 0) xi) xi)<|ac (xv 1)<|ac (xv 2) a0)) (.a ?_)
 ·rintro B R X ⟨c,rfl,u⟩;refine⟨rfl,?_⟩;have p:0<=c / 10 % 4/\c / 10 % 4<4:=by lia
  have o:0<=c / 400 % 5/\c / 400 % 5<5:=by lia
  have t:∀v∈([1,3,7,9]:ZZ),1<=v/\v<=9/\(v=1\/v=3\/v=7\/v=9):=by decide
  have g:∀i:Int,0<=i->i<5->∃d e:Int,atI [D.int 1000,.int 3,.int 1,.int 2,.int 3] i=some (.int d)/\atI [D.int 1,.int 1,.int 1,.int 1,.int 998] i=some (.int e)/\(1<=d/\d<=1000)/\1<=e/\e+d<=1001:=λi a b=>by
   have:i=0\/i=1\/i=2\/i=3\/i=4:=by lia
   rcases this with rfl|rfl|rfl|rfl|rfl
   ·exact⟨1000,1,rfl,rfl,by decide,by decide,by decide⟩
   ·exact⟨3,1,rfl,rfl,by decide,by decide,by decide⟩
   ·exact⟨1,1,rfl,rfl,by decide,by decide,by decide⟩
   ·exact⟨2,1,rfl,rfl,by decide,by decide,by decide⟩
   ·exact⟨3,998,rfl,rfl,by decide,by decide,by decide⟩
  obtain⟨d,e,y,x,s,r⟩:=g _ o.1 o.2;have h:=t _ (WN (l:=([1,3,7,9]:ZZ)) (n:=(c / 10 % 4).toNat)<|by show(c / 10 % 4).toNat<4;lia);refine⟨by simp,⟨by decide,by decide⟩,(by show(0:Int)<5;decide),_,y,by simp,⟨by decide,by decide⟩,(by show(0:Int)<5;decide),_,x,(by show(0:Int)<10;decide),by simp,⟨by decide,by decide⟩,(by show(0:Int)<4;decide),_,KA (f:=D.int) (xs:=[1,3,7,9]) p.1 p.2,⟨by decide,by decide⟩,(by show(0:Int)<10;decide),by simp,?_⟩;exact u [_,_,_,_,_] ⟨_,_,_,_,_,rfl,by lia,h,by lia,s,r⟩
def Zar(h:Def K mg "_law_holder" B6 ["_law_menu_here","_law_k"])
  : Dp ζ:=by
 refine h.fz Ra (λl n=>(b1<|sR<|xo JS JQ xi<|xo JK JJ (xo JS JQ (xo PK P4 (xv 1)<|xx (xv 0) xi)<|xx (xv 0) xi) xi)) (.a ?_)
 ·rintro u R X ⟨m,k,rfl,g,f⟩;refine⟨rfl,?_⟩;obtain⟨a,b,c,d,e,rfl,t,s,r,p,o⟩:=g;exact⟨_,rfl,.inr ⟨by lia,by lia⟩,_,rfl,(by show(0:Int)<10;decide),f _ (by lia) (by lia) rfl⟩
def IB(M:Def K mg "_law_field_step" SQ ["_law_strips","_law_deed_here"])
  : AH ζ:=by
 refine M.fz Mt (λA n=>(bc (sS 2 n<|xx (xv 1) xi)<|bc (sI (tp<|wo (tc UG UB (xv 2) xi)<|wO<|tc UT UU (xv 2)<|xo U2 U0 (xl G.len<|xv 0)<|xe (Xx Oe (by rfl) G.ZJ boot_int<|az<|Tw (Tc (K:=K)<|show _<cLine from(A ()).units0) (jx K (pv 1) JE) JD<|Xt _)<|Lg<|sz<|TL (Ue (Jx 1) J8) JC) (b1<|sF 0<|sR<|xL<|a2 xi<|xv 0) b0)<|bc (sS 3 n<|xx (xx (xv 0)<|xo U2 U0 (xv 2) xi) xi)<|bc (sS 4 n<|xx (xx (xv 0)<|xo U2 U0 (xv 2) xi) xi)<|bc (sI (tq A (xx (xv 1) xi) xs) (bc (sI (tp<|wo (tc UG UB (xx (xv 1) xi) xi)<|wO<|tc UT UU (xx (xv 1) xi) xi) (b1<|sF 0<|sR<|xL<|a2 xi<|xv 0) b0)<|bc (sI (tq A (xx (xv 1) xi)<|xv 3) (b1<|sF 0<|sR<|xL<|a2 xi<|xv 0) b0)<|b1<|sR<|xL<|a2 xi<|xo U7 U5 (xo U7 U5 (xp (xv 0) o0<|o1<|xo U2 U0 (xv 2) xi)<|xL<|a1<|xt<|a2 (xx (xv 1) xi)<|xv 4)<|xp (xv 0) (o1<|xv 2) o0) b0)<|bc (sI (tq A (xx (xv 1) xi) xs) (bc (sI (tp<|wo (tc UG UB (xx (xv 1) xi) xi)<|wO<|tc K6 K0 (xx (xv 1) xi)<|xv 4) (b1<|sF 0<|sR<|xL<|a2 xi<|xv 0) b0)<|bc (sI (tq A (xl G.len<|xv 0) xi) (b1<|sF 0<|sR<|xL<|a2 xi<|xv 0) b0)<|bc (sS 5 n<|xL<|a2 (xt<|a2 (xv 3)<|xx (xv 1) xi)<|xt<|a2 (xv 3)<|xo U2 U0 (xv 4)<|xx (xv 1) xi)<|b1<|sR<|xL<|a2 xi<|xo U7 U5 (xo U7 U5 (xp (xv 0) o0<|o1<|xo U2 U0 (xv 2) xi)<|xv 5)<|xp (xv 0) (o1<|xv 2) o0) b0)<|bc (sI (tn A (xx (xx (xv 0)<|xv 2) xi)<|xv 3) (b1<|sF 0<|sR<|xL<|a2 xi<|xv 0) b0)<|bc (sI (tc UT UU (xo JS JQ (xv 4)<|xx (xx (xv 0)<|xv 2) xi) xi) (b1<|sF 0<|sR<|xL<|a2 xi<|xv 0) b0)<|b1<|sR<|xL<|a2 xi<|xo U7 U5 (xo U7 U5 (xp (xv 0) o0<|o1<|xo U2 U0 (xv 2) xi)<|xL<|a1<|xt<|a2 (xv 3)<|xo JS JQ (xv 4)<|xx (xx (xv 0)<|xv 2) xi)<|xp (xv 0) (o1<|xo JS JQ (xv 2) xi) o0)) (.b ?_)
 ·rintro T R X ⟨f,x,rfl,hx,N,l⟩;refine⟨rfl,?_⟩;have Q:(f.map prD).length=f.length:=Wg ..;have y:∀p:Int,(cutD (f.map prD) none<|some (p-1)).length<=1000:=λp=>by have:=(Kf (f.map prD) none<|some (p-1)).length_le;rw[Wg]at this;lia
  have C:∀p:Int,(cutD (f.map prD) (some p) none).length<=1000:=λp=>by have:=(Kf (f.map prD) (some p) none).length_le;rw[Wg]at this;lia
  cases x with
  |wish a b=>cases hx
  |drop a b=>cases hx
  |sell p h=>
   have l:R (.own [.int (codeN<|Uy f p h),plD (if Uy f p h=none then XD f p h else f)]):=l
   have o:∀c:Str,Uy f p h=some c->R (.own [.int (codeN<|some c),plD f]):=λc e=>by
    rw[e,Wo (by intro z;cases z)]at l;exact l
   unfold Uy at o l
   have one:(p<1\/(f.length:Int)<p)->R (.own [.int 1,plD f]):=λz=>by
    rw[←N4];exact o _ (Wm z)
   refine⟨_,rfl,J2 (λg=>Ur ?_) (λg=>⟨_,rfl,J2 (λu=>?_) (λu=>?_)⟩)⟩
   ·exact⟨by simp,one (.inl<|Wi g)⟩
   ·have r:(((f.map prD).length:Nat):Int)-0<p:=Wi u;exact⟨by simp,one (.inr<|by lia)⟩
   ·have H:¬p<1:=λz=>g (Wh z);have E:¬(((f.map prD).length:Nat):Int)-0<p:=λz=>u (Wh z);rw[Wo (by lia)]at o l;have a1:=XH (ps:=f) (p:=p) (by lia) (by lia);refine⟨_,a1,_,rfl,_,a1,_,rfl,_,rfl,?_⟩;refine⟨_,rfl,J2 (λs=>Ur ?_) (λs=>⟨_,rfl,J2 (λt=>?_) (λt=>?_)⟩)⟩
    ·have r:h<1:=Wi s
     have:=o _ (Wm<|by lia)
     rw[TJ]at this;exact⟨by simp,this⟩
    ·have r:10<h:=Wi t
     have:=o _ (Wm<|by lia)
     rw[TJ]at this;exact⟨by simp,this⟩
    ·have L:¬h<1:=λz=>s (Wh z);have J:¬10<h:=λz=>t (Wh z);rw[Wo (WW.mpr ⟨by lia,by lia⟩)]at o l;refine⟨_,rfl,J2 (λv=>?_) (λv=>?_)⟩
     ·have r:h=(J6 f p).1:=Wi v
      have:=o _ (Wm r.symm)
      rw[FQ]at this;exact⟨by simp,this⟩
     ·have r:¬h=(J6 f p).1:=λz=>v (Wh z);rw[Wo (λz=>r z.symm),Wm rfl]at l;have e:=CQ (ps:=f) (p:=p) (x:=(h,(J6 f p).2)) (by lia) (by lia);refine⟨rfl,_,rfl,by simp,by simp,rfl,rfl,Wk (W3 (y p)<|Wn 1) (by decide),rfl,rfl,rfl,Wk (W3 (by rw[Wr];exact W3 (y p) (Wn 1))<|C p) (by decide),by simp,?_⟩;have B:plD (XD f p h)=.lst (cutD (f.map prD) none (some (p-1))++[prD (h,(J6 f p).2)]++cutD (f.map prD) (some p) none):=W9 D.lst e.symm;rw[B]at l;exact l
  |part p w=>
   have l:R (.own [.int (codeN<|Ui f p w),plD (if Ui f p w=none then Xe f p w else f)]):=l
   have o:∀c:Str,Ui f p w=some c->R (.own [.int (codeN<|some c),plD f]):=λc e=>by
    rw[e,Wo (by intro z;cases z)]at l;exact l
   unfold Ui at o l
   have one:(p<1\/(f.length:Int)<p)->R (.own [.int 1,plD f]):=λz=>by
    rw[←N4];exact o _ (Wm z)
   refine⟨_,rfl,J2 (λg=>Ur ?_) (λg=>⟨_,rfl,J2 (λu=>?_) (λu=>?_)⟩)⟩
   ·exact⟨by simp,one (.inl<|Wi g)⟩
   ·have r:(((f.map prD).length:Nat):Int)-0<p:=Wi u;exact⟨by simp,one (.inr<|by lia)⟩
   ·have H:¬p<1:=λz=>g (Wh z);have E:¬(((f.map prD).length:Nat):Int)-0<p:=λz=>u (Wh z);rw[Wo (by lia)]at o l;have a1:=XH (ps:=f) (p:=p) (by lia) (by lia);refine⟨_,a1,_,rfl,_,a1,_,rfl,_,rfl,_,rfl,?_⟩;refine⟨_,rfl,J2 (λs=>Ur ?_) (λs=>⟨_,rfl,J2 (λt=>?_) (λt=>?_)⟩)⟩
    ·have:=o _ (Wm<|.inl<|Wi s)
     rw[N9]at this;exact⟨by simp,this⟩
    ·have:=o _ (Wm<|.inr<|Wi t)
     rw[N9]at this;exact⟨by simp,this⟩
    ·have L:¬w<1:=λz=>s (Wh z);have J:¬(J6 f p).2<=w:=λz=>t (Wh z);rw[Wo (by lia)]at o l;refine J2 (λv=>?_) (λv=>?_)
     ·have r:(((f.map prD).length:Nat):Int)=40:=Wi v
      have:=o _ (Wm<|by lia)
      rw[Dt]at this;exact⟨by simp,this⟩
     ·have r:¬(((f.map prD).length:Nat):Int)=40:=λz=>v (Wh z);rw[Wo (by lia),Wm rfl]at l;refine⟨_,rfl,by simp,_,rfl,by simp,by simp,?_⟩;refine⟨rfl,rfl,rfl,Wk (W3 (y p)<|Wn 2) (by decide),rfl,rfl,rfl,Wk (W3 (by rw[Wr];exact W3 (y p) (Wn 2))<|C p) (by decide),by simp,?_⟩;have B:plD (Xe f p w)=.lst (cutD (f.map prD) none (some (p-1))++[prD ((J6 f p).1,w),prD ((J6 f p).1,(J6 f p).2-w)]++cutD (f.map prD) (some p) none):=W9 D.lst (EG<|by lia).symm;rw[B]at l;exact l
  |unite p=>
   have l:R (.own [.int (codeN<|JW f p),plD (if JW f p=none then Xh f p else f)]):=l
   have o:∀c:Str,JW f p=some c->R (.own [.int (codeN<|some c),plD f]):=λc e=>by
    rw[e,Wo (by intro z;cases z)]at l;exact l
   unfold JW at o l
   have one:(p<1\/(f.length:Int)<=p)->R (.own [.int 1,plD f]):=λz=>by
    rw[←N4];exact o _ (Wm z)
   refine⟨_,rfl,J2 (λg=>Ur ?_) (λg=>⟨_,rfl,J2 (λu=>?_) (λu=>?_)⟩)⟩
   ·exact⟨by simp,one (.inl<|Wi g)⟩
   ·have r:(((f.map prD).length:Nat):Int)-1<p:=Wi u;exact⟨by simp,one (.inr<|by lia)⟩
   ·have H:¬p<1:=λz=>g (Wh z);have E:¬(((f.map prD).length:Nat):Int)-1<p:=λz=>u (Wh z);rw[Wo (by lia)]at o l;have a1:=XH (ps:=f) (p:=p) (by lia) (by lia);have a2:=Hd (ps:=f) (p:=p) (by lia) (by lia);refine⟨_,a1,_,rfl,_,a1,_,rfl,_,rfl,_,rfl,?_⟩;refine⟨_,a2,_,rfl,J2 (λs=>?_) (λs=>?_)⟩
    ·have r:¬(J6 f (p+1)).1=(J6 f p).1:=λz=>by rw[Wh z]at s;cases s
     have:=o _ (Wm (λz=>r z.symm))
     rw[Dl]at this;exact⟨by simp,this⟩
    ·have r:(J6 f (p+1)).1=(J6 f p).1:=Ql λz=>s (by rw[Wx z];rfl);rw[Wo (WW.mpr r.symm)]at o l;refine⟨_,a2,_,rfl,J2 (λt=>?_) (λt=>?_)⟩
     ·have:=o _ (Wm<|Wi t)
      rw[Fe]at this;exact⟨by simp,this⟩
     ·rw[Wo (λz=>t (Wh z)),Wm rfl]at l;refine⟨rfl,_,a2,_,rfl,by simp,by simp,rfl,rfl,Wk (W3 (y p)<|Wn 1) (by decide),rfl,rfl,rfl,Wk (W3 (by rw[Wr];exact W3 (y p) (Wn 1))<|C (p+1)) (by decide),by simp,?_⟩;have B:plD (Xh f p)=.lst (cutD (f.map prD) none (some (p-1))++[prD ((J6 f p).1,(J6 f p).2+(J6 f (p+1)).2)]++cutD (f.map prD) (some (p+1)) none):=W9 D.lst (Fs<|by lia).symm;rw[B]at l;exact l
def LP(Q:Def K mg "_law_wish_step" Sy ["_law_wishes","_law_deed_here"])
  : FZ ζ:=by
 refine Q.fz Gm (λr n=>(bc (sS 2 n<|xt<|a2 (xx (xv 1) xi)<|xx (xv 1) xi)<|bc (sI (tq r (xx (xv 1) xi) xs) (bc (sI (tI r (xv 2)<|xv 0) (b1<|sF 0<|sR<|xL<|a2 xi<|xv 0) b0)<|b1<|sR<|xL<|a2 xi<|xC ["_law_one","_law_pair_here"] [none,some 2] (jL<|xv 0) (gN 0) (f1<|te (X7 (EL (K:=K)<|show _<cLine from(r ()).units0) (pv 0) (pv 1)<|Xt _)<|Xj<|Dn (Jx 0)<|Jx 1)<|xv 0) b0)<|bc (sI (tp<|wo (tc UG UB (xe (UC (GP (K:=K) rfl) (by rfl) G.ZS boot_min<|az<|pv 2)<|R8<|sz<|Jx 2) xi)<|wO<|tc UT UU (xe (UC (Ri (K:=K) rfl) (by rfl) G.ZK boot_max<|az<|pv 2)<|IG<|sz<|Jx 2) xi) (b1<|sF 0<|sR<|xL<|a2 xi<|xv 0) b0)<|bc (sI (tq r (xx (xv 1) xi)<|xx (xv 1) xi) (b1<|sF 0<|sR<|xL<|a2 xi<|xv 0) b0)<|bc (sI (ti r (xv 2)<|xv 0) (b1<|sF 0<|sR<|xL<|a2 xi<|xv 0) b0)<|bc (sI (tq r (xl G.len<|xv 0) xi) (b1<|sF 0<|sR<|xL<|a2 xi<|xv 0) b0)<|b1<|sF 2<|sR<|xL<|a2 xi<|xo U7 U5 (xv 0)<|xL<|a1<|xv 2)) (.b ?_)
 ·rintro ds R X ⟨w,x,rfl,hx,hz,f⟩;refine⟨rfl,?_⟩;have L:(w.map prD).length=w.length:=Wg ..;cases x with
  |sell p h=>cases hx
  |part p h=>cases hx
  |unite p=>cases hx
  |drop a b=>
   refine⟨_,rfl,_,rfl,by simp,_,rfl,?_⟩;show ∃c,InR (prD (a,b)) (plD w) c/\_;have f:R (.own [.int (codeN<|Uh w a b),plD (if Uh w a b=none then KS w a b else w)]):=f;refine⟨_,.lp (a,b) w,J2 (λg=>?_) (λg=>?_)⟩
   ·have o:¬(a,b)∈w:=λz=>by rw[Wm rfl,Wh z]at g;cases g
    have e:Uh w a b=some ("NoWish" : Str):=Wo o;rw[e,EC,Wo (by intro z;cases z)]at f;exact⟨by simp,f⟩
   ·have o:(a,b)∈w:=Ql λz=>g (by rw[Wm rfl,Wx z];rfl);have e:Uh w a b=none:=Wm o;rw[e,Wm rfl]at f;refine Kx (xs:=w) (emb:=prD) (λq=>if (!decide (q=(a,b)))=true then some (prD q)else none) (by omega) (λq hq=>?_) ?_
    ·refine⟨[q.1,q.2],[a,b],rfl,rfl,?_⟩;have e:decide ([q.1,q.2]=[a,b])=decide (q=(a,b)):=Mn q (a,b);show if (!decide ([q.1,q.2]=[a,b]))=true then _ else _;rw[e];exact J2 (λh=>⟨_,rfl,Wm h⟩) (λh=>Wo h)
    ·rw[TN (λq:Int×Int=>!decide (q=(a,b)))];exact⟨by simp,f⟩
  |wish a b=>
   refine⟨_,rfl,_,rfl,by simp,_,rfl,?_⟩;have f:R (.own [.int (codeN<|JZ w a b),plD (if JZ w a b=none then w++[(a,b)]else w)]):=f
   have l:∀c:Str,JZ w a b=some c->R (.own [.int (codeN<|some c),plD w]):=λc e=>by
    rw[e,Wo (by intro z;cases z)]at f;exact f
   have t:¬((1<=a/\a<=10)/\(1<=b/\b<=10))->R (.own [.int 2,plD w]):=λz=>by
    rw[←TJ];refine l _ ?_;unfold JZ;by_cases s:1<=a/\a<=10
    ·rw[Wo (WW.mpr s),Wm (λy=>z ⟨s,y⟩)]
    ·rw[Wm s]
   have J:∀x y:Int,(if y<x then y else x)<=x/\(if y<x then y else x)<=y/\((if y<x then y else x)=x\/(if y<x then y else x)=y):=λx y=>by split<;>omega
   have H:∀x y:Int,x<=(if y>x then y else x)/\y<=(if y>x then y else x)/\((if y>x then y else x)=x\/(if y>x then y else x)=y):=λx y=>by split<;>omega
   have m1:=J a b;have Y:=H a b;refine J2 (λg=>Ur ?_) (λg=>J2 (λB=>?_) (λB=>?_))
   ·have o:(if b<a then b else a)<1:=Wi g;exact⟨by simp,t (by omega)⟩
   ·have o:10<(if b>a then b else a):=Wi B;exact⟨by simp,t (by omega)⟩
   ·have U:¬(if b<a then b else a)<1:=λz=>g (Wh z);have T:¬10<(if b>a then b else a):=λz=>B (Wh z);have s:1<=a/\a<=10:=by omega
    have N:1<=b/\b<=10:=by omega
    unfold JZ at l f;rw[Wo (WW.mpr s),Wo (WW.mpr N)]at l f;refine⟨_,rfl,_,rfl,J2 (λA=>?_) (λA=>?_)⟩
    ·have:=l _ (Wm<|Wi A)
     rw[AU]at this;exact⟨by simp,this⟩
    ·have E:¬a=b:=λz=>A (Wh z);rw[Wo E]at l f;show ∃c,InR (prD (a,b)) (plD w) c/\_;refine⟨_,.lp (a,b) w,J2 (λv=>?_) (λv=>?_)⟩
     ·have:=l _ (Wm<|Wi v)
      rw[Ft]at this;exact⟨by simp,this⟩
     ·have C:¬(a,b)∈w:=λz=>v (Wh z);rw[Wo C]at l f;refine J2 (λu=>?_) (λu=>?_)
      ·have o:(((w.map prD).length:Nat):Int)=20:=Wi u
       have:=l _ (Wm<|by omega)
       rw[BW]at this;exact⟨by simp,this⟩
      ·have o:¬(((w.map prD).length:Nat):Int)=20:=λz=>u (Wh z);rw[Wo (by omega),Wm rfl]at f;refine⟨by simp,rfl,rfl,Wk (W3 (Qc L)<|Wn 1) (by omega),by simp,?_⟩;have M:plD (w++[(a,b)])=.lst (w.map prD++[prD (a,b)]):=W9 D.lst W6;rw[M]at f;exact f
def Lm(r:Def K mg "_law_odd" SJ ["_law_cell","_law_good"])
  : EH ζ:=by
 refine r.fz EW (λo n=>(bc (sI (tq o (xo JK JJ (xv 0) xi) xi) (b1<|sR<|xx (xL<|ac xi<|ac xi<|ac (xe (X9 X4 JE)<|X8 J8)<|ac (xo B7 BM xi xi) a0)<|xo JK JJ (xo Ub Uc (xv 0) xi) xi) b0)<|b1<|sV 1)) (.a ?_)
 ·rintro s R X ⟨c,g,rfl,p,h⟩;refine⟨rfl,?_⟩;have all:∀v∈([0,11,-3,10 ^ (30:Int).toNat]:ZZ),v.natAbs<=10 ^ 30:=by decide +kernel
  have l:0<=c / 7 % 4/\c / 7 % 4<4:=by lia
  refine⟨(by show(0:Int)<7;decide),J2 (λ_=>?_) (λ_=>h _ p)⟩;exact⟨⟨by decide,by decide,by decide⟩,by simp,⟨by decide,by decide⟩,(by show(0:Int)<4;decide),_,KA (f:=D.int) (xs:=[0,11,-3,10 ^ (30:Int).toNat]) l.1 l.2,h _ (all _<|WN _)⟩
def RL(x:Def K mg "_law_place" SZ ["_law_cell","_law_strips"])
  : F4 ζ:=by
 refine x.fz IQ (λs n=>(bc (sI (tq s (xo JK JJ (xv 0) xi) xi) (b1<|sR<|xx (xL<|ac xi<|ac (xe (X9 X4 JE)<|X8 J8)<|ac (xo JS JQ (xl G.len<|xv 1) xi)<|ac (xo B7 BM xi xi) a0)<|xo JK JJ (xo Ub Uc (xv 0) xi) xi) b0)<|bc (sI (te (X7 (OJ (K:=K)<|show _<cLine from(s ()).units0) (pv 1) (X5 Xn)<|Xt _)<|Xj<|Ex (Jx 1)<|X6 JV) (b1<|sR xi) b0)<|b1<|sR<|xo JS JQ xi<|xo JK JJ (xo Ub Uc (xv 0) xi)<|xl G.len<|xv 1)) (.a ?_)
 ·rintro E R X ⟨c,h,rfl,B,o⟩;refine⟨rfl,?_⟩;have t:0<=c / 11 % 4/\c / 11 % 4<4:=by omega
  have C:(h.map prD).length=h.length:=Wg ..;have l:(10000:Nat)<=10 ^ 30:=by decide
  have all:∀v∈([0,-1,(((h.map prD).length:Nat):Int)+1,10 ^ (30:Int).toNat]:ZZ),v.natAbs<=10 ^ 30:=by
   intro v r;simp only[Wu,QT,or_false]at r;rcases r with rfl|rfl|rfl|rfl
   ·decide
   ·decide
   ·exact Wk (show _<=10000 by lia) l
   ·decide +kernel
  refine⟨(by show(0:Int)<11;decide),J2 (λ_=>?_) (λ_=>?_)⟩
  ·exact⟨⟨by decide,by decide,by decide⟩,by simp,⟨by decide,by decide⟩,(by show(0:Int)<4;decide),_,KA (f:=D.int) (xs:=[0,-1,(((h.map prD).length:Nat):Int)+1,10 ^ (30:Int).toNat]) t.1 t.2,o _ (all _<|WN _)⟩
  ·refine⟨by simp,?_⟩;have p:(h.map prD).isEmpty=decide (h=[]):=by cases h<;>simp
   show if (h.map prD).isEmpty=true then _ else _;rw[p];refine J2 (λ_=>o _ (by decide)) (λg=>?_);have u:0<h.length:=QJ.mpr λz=>g (Wh z);have A:=Q4 (c / 11) (show(((h.map prD).length:Nat):Int)≠0 by lia);have y:=Qq (c / 11) (show 0<(((h.map prD).length:Nat):Int) by lia);exact⟨⟨by decide,by decide⟩,(by show 0<(((h.map prD).length:Nat):Int);lia),o _ (Wk (show _<=10000 by lia) l)⟩
def EO(B:Def K mg "_law_width" BU ["_law_cell","_law_strips","_law_place_here"])
  : Df ζ:=by
 refine B.fz G5 (λx n=>(bc (sI (tp<|wo (tc UG UB (xv 2) xi)<|wo (tc UT UU (xv 2)<|xl G.len<|xv 1)<|wO<|tq x (xo JK JJ (xv 0) xi) xi) (b1<|sR<|xx (xL<|ac xi<|ac (xe (X9 X4 JE)<|X8 J8)<|ac xi<|ac xi<|ac xi<|ac xi<|ac (xo B7 BM xi xi) a0)<|xo JK JJ (xo Ub Uc (xv 0) xi) xi) b0)<|b1<|sR<|xo JK JJ (xo Ub Uc (xv 0) xi)<|xo JS JQ (xx (xx (xv 1)<|xo U2 U0 (xv 2) xi) xi) xi)) (.a ?_)
 ·rintro M R X ⟨c,ps,p,rfl,H,y,h⟩;refine⟨rfl,?_⟩;have L:(ps.map prD).length=ps.length:=Wg ..;have s:(10000:Nat)<=10 ^ 30:=by decide
  have all:∀v∈([0,-1,1,1000,1001,999,10 ^ (30:Int).toNat]:ZZ),v.natAbs<=10 ^ 30:=by decide +kernel
  have t:0<=c / 5 % 7/\c / 5 % 7<7:=by lia
  have l:∃v:Int,v.natAbs<=10 ^ 30/\atI ([0,-1,1,1000,1001,999,10 ^ (30:Int).toNat].map D.int) (c / 5 % 7)=some (.int v):=⟨_,all _ (WN _),KA (f:=D.int) (xs:=[0,-1,1,1000,1001,999,10 ^ (30:Int).toNat]) t.1 t.2⟩;obtain⟨v,o,r⟩:=l;refine J2 (λg=>Ur ?_) (λg=>J2 (λu=>Ur ?_) (λu=>⟨(by show(0:Int)<5;decide),J2 (λA=>?_) (λA=>?_)⟩))
  ·exact⟨⟨by decide,by decide,by decide⟩,by simp,⟨by decide,by decide⟩,(by show(0:Int)<7;decide),_,r,h _ o⟩
  ·exact⟨⟨by decide,by decide,by decide⟩,by simp,⟨by decide,by decide⟩,(by show(0:Int)<7;decide),_,r,h _ o⟩
  ·exact⟨⟨by decide,by decide,by decide⟩,by simp,⟨by decide,by decide⟩,(by show(0:Int)<7;decide),_,r,h _ o⟩
  ·have E:¬p<1:=λz=>g (Wh z);have C:¬(((ps.map prD).length:Nat):Int)<p:=λz=>u (Wh z);have J:=y _ (PD (ps:=ps) (p:=p) (by lia)<|by lia);exact⟨⟨by decide,by decide⟩,_,XH (by lia) (by lia),_,rfl,(by show 0<(J6 ps p).2+1;lia),h _ (Wk (show _<=10000 by have:=Q4 (c / 5) (show(J6 ps p).2+1≠0 by lia);have:=Qq (c / 5) (show 0<(J6 ps p).2+1 by lia);lia) s)⟩
def Ru(t:Def K mg "_law_row_of" Bf ["_law_deed_here"])
  : Dz ζ:=by
 refine t.fz Mv (λx n=>(b1<|sR<|xe (Tb (K:=K) QA PySem.F.slot_str_join PySem.F.type_str_join (Cj (K:=K)) JD<|az<|Kp U7 (X5<|az<|jx K (pv 0) JE)<|cz ["_law_number"] [none] (SG (K:=K)<|Ks (NA (K:=K)) (pv 0) (XU JE) KL) ⟨(gk 0),Pa,(Xx Nw (by rfl) G.Z0 boot_str<|az<|pv 0)⟩)<|F2 JC<|U5 (X6<|sz<|Ue (Jx 0) J8)<|KU (SndI.c<|N0<|Br (Jx 0) (Ka J8) K9) (XI 0) KG<|NJ<|sz<|Jx 0)) (.a ?_)
 ·rintro C R X ⟨q,rfl,y,A,h,o⟩;refine⟨rfl,?_⟩;have u:(1000:Nat)<=sizeLine:=by decide
  have l:∀v∈q.1::q.2.map nS,v.length<=32:=λv f=>by
   rcases Wu.mp f with rfl|f
   ·lia
   ·obtain⟨n,g,rfl⟩:=WM.mp f;exact(K8<|h n g).2
  have p:JoinOk spc (q.1::q.2.map nS)=true:=by
   unfold JoinOk;rw[StrLaws.joinFits (B:=32) l (by rw[W5,Wg,show spc.length=1 from rfl];lia)]
   rfl
  have r:Txt.join spc (q.1::q.2.map nS)=Str.join spc (q.1::q.2.map nS):=StrLaws.glued_eq_join _ _;have s:cutD (D.str q.1::q.2.map D.int) (some 1) none=q.2.map D.int:=by rw[Xv _ (by decide)];rfl
  have em:q.2.filterMap (λn=>some (D.str<|nS n))=(q.2.map nS).map D.str:=by rw[WZ,Qd];rfl
  rw[B9];refine⟨_,Ux _ _,by simp,?_⟩;refine⟨_,rfl,?_,q.2.map D.int,W9 some s,?_⟩
  ·rintro⟨z,_⟩;rw[show(1:Int)=((1:Nat):Int)from rfl,HT.Kk,W5]at z
   lia
  show X3 _ _ _ _ _ (q.2.map D.int).length (λi=>S.sub (.sh .non) ((q.2.map D.int).getD i .non)) _;refine Kx (xs:=q.2) (emb:=D.int) (λn=>some (.str<|nS n)) (by lia) (λn g=>⟨T1 (h n g),_,rfl,rfl⟩) ?_;rw[em];refine⟨rfl,rfl,by rw[Wg,Wg];show 1+_<=100000;lia,?_⟩;rw[show(" " : Str)=spc by decide +kernel];exact⟨q.1::q.2.map nS,rfl,p,by rw[r];exact o⟩
def Mu(g:Def K mg "_law_word" BJ ["_law_k"])
  : An ζ:=by
 refine g.fz R9 (λh n=>(b1<|sR<|xe (λ{_}=>(@NS _ _ _ _ _ _ _ (BX (K:=K)) (@X5 _ _ _ _<|@Uo _ _ _ _ _ JD (@Uo _ _ _ _ _ JD (@Uo _ _ _ _ _ JD (@Uo _ _ _ _ _ JD (@Uo _ _ _ _ _ JD (@Uo _ _ _ _ _ JD (@Uo _ _ _ _ _ JD (@Uo _ _ _ _ _ JD (@Uo _ _ _ _ _ JD (@Uo _ _ _ _ _ JD (@Uo _ _ _ _ _ JD (@Uo _ _ _ _ _ JD Xn rfl) rfl) rfl) rfl) rfl) rfl) rfl) rfl) rfl) rfl) rfl) rfl) (pv 0) (λ_ _=>rfl)))<|Ue (X6<|UH JC<|UH JC<|UH JC<|UH JC<|UH JC<|UH JC<|UH JC<|UH JC<|UH JC<|UH JC<|UH JC<|UH JC JV)<|Jx 0)) (.a ?_)
 ·rintro p R X ⟨k,rfl,o,l,f⟩;refine⟨rfl,?_⟩;rcases(by lia:k=0\/k=1\/k=2\/k=3\/k=4\/k=5\/k=6\/k=7\/k=8\/k=9\/k=10\/k=11)with rfl|rfl|rfl|rfl|rfl|rfl|rfl|rfl|rfl|rfl|rfl|rfl<;>exact⟨by simp,_,rfl,f⟩
def OQ(v:Def K mg "_law_filled" Bb ["_law_cell"])
  : Cz ζ:=by
 refine v.fz IH (λh n=>(bc (sS 1 n<|xL a0)<|bj (sI (tq h (xo JK JJ (xv 0) xi) xi) (b1<|sO [2,3] Qg (ir G.Zg<|a1 xi) (gN 2)<|bc (sS 3 n<|xo JK JJ (xo JS JQ (xo Ub Uc (xv 0) xi)<|xv 2) xi)<|b1<|sA 1<|xt<|a3 xs (xo JS JQ xi<|xv 3)<|xo JS JQ xi<|xo JK JJ (xo JS JQ (xo JS JQ (xv 3) xi)<|xo Ub Uc (xv 2) xi) xi) b0)<|b1<|sV 1)) (.a ?_)
 ·rintro x R X ⟨c,rfl,u⟩;refine⟨rfl,by simp,?_⟩;refine TU (λg=>∃(f:ZY) (o l:Option S),f.length<=20/\(∀q∈f,(1<=q.1/\q.1<=10)/\1<=q.2/\q.2<=10)/\g=[some (.sh<|.int c),some (.own (f.map λq=>d3 "wish" q.1 q.2)),o,l]) ?_ ?_
  ·refine⟨(by show(0:Int)<5;decide),J2 (λ_=>?_) (λ_=>⟨[],_,_,by simp,by simp,rfl⟩)⟩;refine⟨by decide,Ku (λi g=>∃f:ZY,f.length=i/\(∀q∈f,(1<=q.1/\q.1<=10)/\1<=q.2/\q.2<=10)/\g=[some (.sh<|.int c),some (.own (f.map λq=>d3 "wish" q.1 q.2)),none,none]) ⟨[],rfl,by simp,rfl⟩ ?_ ?_⟩
   ·rintro i g t ⟨f,hq,h,rfl⟩;have s:i<20:=t;have r:(f.map λq=>d3 "wish" q.1 q.2).length=f.length:=Wg ..;refine⟨⟨by decide,by decide⟩,(by show(0:Int)<10;decide),⟨by decide,by decide⟩,(by show(0:Int)<10;decide),by simp,by lia,?_⟩;refine⟨f++[(1+(c / 5+(0+(i:Int))) % 10,1+((c / 5+(0+(i:Int))) % 10+1+(0+(i:Int)) / 10) % 10)],by simp[hq],λq hm=>?_,by rw[W6];rfl⟩;rcases WC.mp hm with hm|hm
    ·exact h q hm
    ·rw[Wl.mp hm];show(1<=1+_ % 10/\1+_ % 10<=10)/\1<=1+_ % 10/\1+_ % 10<=10;lia
   ·rintro g ⟨f,hq,h,rfl⟩;have p:f.length=20:=hq;exact⟨f,_,_,by lia,h,rfl⟩
  ·rintro g ⟨f,o,l,hq,h,rfl⟩;exact u f hq h
def LK(x:Def K mg "check_strips" Sq ["strips"])
  : FD ζ:=by
 refine x.fy Gz (λs n=>(bc (sI (tc UT UU (xl G.len<|xv 0)<|xe (ExcR.UK G.Zo) J8) (b1<|sQ G.Zh G.Zf ExcR.UJ<|a1<|xe (ExcR.XX<|ExcR.UW<|ExcR.XW (ExcR.UK G.Zo)<|ExcR.UW ExcR.XN)<|XS<|UV<|Kg J8<|UV Kc) b0)<|b1<|sF 0<|sO [1,2] ExcR.Mw (iL<|xv 0) (gT 2<|gc (gN 1)<|gc (gN 2) g0)<|bc (sE<|xg Yr s ExcR.JY<|a1<|xv 1)<|b1<|sE<|xg Y0 s ExcR.JY<|a1<|xv 2)) (.a ?_)
 ·rintro B R X ⟨f,rfl,y,l⟩;refine⟨rfl,?_⟩;have A:(f.map prD).length=f.length:=Wg ..;unfold KB at l;refine J2 (λg=>?_) (λg=>?_)
  ·have u:(40:Int)<((f.map prD).length:Int):=Wi g;rw[Wm (by lia)]at l;exact⟨by decide,by decide,by decide,by decide,by decide,by simp,l⟩
  ·have u:¬(40:Int)<((f.map prD).length:Int):=λz=>g (Wh z);rw[Wo (by lia)]at l;refine⟨rfl,SU (xs:=f) (emb:=prD) (λi o=>o=[some (.bor<|plD f),none,none]/\Kh (f.drop i)=Kh f) ⟨rfl,rfl⟩ ?_ ?_⟩
   ·rintro i t o ⟨rfl,h⟩;have v:f.drop i=f[i]::f.drop (i+1):=List.drop_eq_getElem_cons t;rw[v,Ro]at h;generalize f[i]=p at h ⊢;refine⟨rfl,p.1,rfl,?_⟩;unfold KJ;by_cases c:1<=p.1/\p.1<=10
    ·rw[Wo (λz=>z c)]at h;rw[Wm c];refine⟨p.2,rfl,?_⟩;unfold SR;by_cases r:1<=p.2/\p.2<=1000
     ·rw[Wo (λz=>z r)]at h;rw[Wm r];exact⟨rfl,h⟩
     ·rw[Wm r]at h;rw[Wo r];rw[←h]at l;exact l
    ·rw[Wm c]at h;rw[Wo c];rw[←h]at l;exact l
   ·rintro o ⟨rfl,h⟩;rw[List.drop_length]at h;rw[←h]at l;exact l
def HH(u:Def K mg "sold" B5 ["strips","place","holder"])
  : Fd ζ:=by
 refine u.fy R3 (λo n=>(bc (sE<|xg Yv o ExcR.JY<|a2 (xv 0)<|xv 1)<|bc (sE<|xg Yr o ExcR.JY<|a1<|xv 2)<|bc (sS 3 n<|xx (xv 0)<|xo U2 U0 (xv 1) xi)<|bc (sI (tq o (xx (xv 3) xi)<|xv 2) (b1<|sQ G.ZH G.Zu ExcR.UJ<|a1 xs) b0)<|b1<|sF 2<|sR<|xo U7 U5 (xo U7 U5 (xp (xv 0) o0<|o1<|xo U2 U0 (xv 1) xi)<|xL<|a1<|xt<|a2 (xv 2)<|xx (xv 3) xi)<|xp (xv 0) (o1<|xv 1) o0)) (.a ?_)
 ·rintro y R X ⟨ps,p,h,rfl,v,f⟩;refine⟨rfl,?_⟩;unfold Uy at f;refine⟨ps,p,rfl,?_⟩;unfold Ts;by_cases c:p<1\/(ps.length:Int)<p
  ·rw[Wm c]at f ⊢;exact f
  ·rw[Wo c]at f ⊢;refine⟨h,rfl,?_⟩;unfold KJ;by_cases l:1<=h/\h<=10
   ·rw[Wo (λz=>z l)]at f;rw[Wm l];refine⟨_,XH (by lia) (by lia),?_⟩;have s:(cutD (ps.map prD) none<|some (p-1)).length<=1000:=by have:=(Kf (ps.map prD) none<|some (p-1)).length_le;rw[Wg]at this;lia
    have t:(cutD (ps.map prD) (some p) none).length<=1000:=by have:=(Kf (ps.map prD) (some p) none).length_le;rw[Wg]at this;lia
    refine⟨_,rfl,J2 (λg=>?_) (λg=>?_)⟩
    ·have r:(J6 ps p).1=h:=Wi g;rw[Wm r]at f;exact⟨by simp,f⟩
    ·have r:¬(J6 ps p).1=h:=λz=>g (Wh z);rw[Wo r]at f;refine⟨Xy _,_,rfl,by simp,by simp,rfl,rfl,Wk (W3 s<|Wn 1) (by decide),Xy _,rfl,rfl,Wk (W3 (by rw[Wr];exact W3 s (Wn 1)) t) (by decide),?_⟩;have e:=CQ (ps:=ps) (p:=p) (x:=(h,(J6 ps p).2)) (by lia) (by lia);show R (.own (cutD (ps.map prD) none (some (p-1))++[prD (h,(J6 ps p).2)]++cutD (ps.map prD) (some p) none));rw[e];exact f
   ·rw[Wm l]at f;rw[Wo l];exact f
def Zas(y:Def K mg "parted" Sd ["strips","place","width"])
  : FB ζ:=by
 refine y.fy Zbp (λv n=>(bc (sE<|xg Yv v ExcR.JY<|a2 (xv 0)<|xv 1)<|bc (sS 3 n<|xx (xv 0)<|xo U2 U0 (xv 1) xi)<|bc (sI (tp<|wo (tc UG UB (xv 2) xi)<|wO<|tc K6 K0 (xv 2)<|xx (xv 3) xi) (b1<|sQ G.ZL G.Zx ExcR.UJ<|a1 xs) b0)<|bc (sI (tc K6 K0 (xl G.len<|xv 0)<|xe (ExcR.UK G.Zo) J8) (b1<|sQ G.Zh G.Zf ExcR.UJ<|a1<|xe (ExcR.XX<|ExcR.UW<|ExcR.XW (ExcR.UK G.Zo)<|ExcR.UW ExcR.XN)<|XS<|UV<|Kg J8<|UV Kc) b0)<|b1<|sF 2<|sR<|xo U7 U5 (xo U7 U5 (xp (xv 0) o0<|o1<|xo U2 U0 (xv 1) xi)<|xL<|a2 (xt<|a2 (xx (xv 3) xi)<|xv 2)<|xt<|a2 (xx (xv 3) xi)<|xo U2 U0 (xx (xv 3) xi)<|xv 2)<|xp (xv 0) (o1<|xv 1) o0)) (.a ?_)
 ·rintro H R X ⟨h,p,w,rfl,A,f⟩;refine⟨rfl,?_⟩;have B:(h.map prD).length=h.length:=Wg ..;refine⟨h,p,rfl,?_⟩;unfold Ui at f;unfold Ts;by_cases c:p<1\/(h.length:Int)<p
  ·rw[Wm c]at f ⊢;exact f
  ·rw[Wo c]at f ⊢;refine⟨_,XH (by lia) (by lia),?_⟩
   have C:¬(w<1\/(J6 h p).2<=w)->_:=λo=>by
    rw[Wo o]at f;exact f
   by_cases o:w<1\/(J6 h p).2<=w
   ·rw[Wm o]at f;refine J2 (λg=>Ur ⟨by simp,f⟩) (λg=>⟨_,rfl,J2 (λl=>⟨by simp,f⟩) (λl=>?_)⟩);have E:¬w<1:=λz=>g (Wh z);have x:¬(J6 h p).2<=w:=λz=>l (Wh z);lia
   ·rw[Wo o]at f;refine J2 (λg=>absurd (Wi g) (by lia)) (λg=>⟨_,rfl,J2 (λl=>absurd (Wi l) (by lia)) (λl=>?_)⟩);refine J2 (λs=>?_) (λs=>?_)
    ·have r:(40:Int)<=((h.map prD).length:Int):=Wi s;rw[Wm (by lia)]at f;exact⟨by decide,by decide,by decide,by decide,by decide,by simp,f⟩
    ·have r:¬(40:Int)<=((h.map prD).length:Int):=λz=>s (Wh z);rw[Wo (by lia)]at f;have t:(cutD (h.map prD) none<|some (p-1)).length<=1000:=by have:=(Kf (h.map prD) none<|some (p-1)).length_le;rw[Wg]at this;lia
     have u:(cutD (h.map prD) (some p) none).length<=1000:=by have:=(Kf (h.map prD) (some p) none).length_le;rw[Wg]at this;lia
     refine⟨Xy _,_,rfl,by simp,_,rfl,_,rfl,by simp,by simp,rfl,rfl,Wk (W3 t<|Wn 2) (by decide),Xy _,rfl,rfl,Wk (W3 (by rw[Wr];exact W3 t (Wn 2)) u) (by decide),?_⟩;rw[←EG (by lia)]at f;exact f
def Lo(u:Def K mg "united" SH ["strips","place"])
  : D5 ζ:=by
 refine u.fy Gk (λr n=>(bc (sE<|xg Y1 r ExcR.JY<|a2 (xv 0)<|xv 1)<|bc (sS 2 n<|xx (xv 0)<|xo U2 U0 (xv 1) xi)<|bc (sS 3 n<|xx (xv 0)<|xv 1)<|bc (sI (tn r (xx (xv 2) xi)<|xx (xv 3) xi) (b1<|sQ G.Z2 G.Zi ExcR.UJ<|a1 xs) b0)<|bc (sI (tc UT UU (xo JS JQ (xx (xv 2) xi)<|xx (xv 3) xi)<|xe (ExcR.UK G.Zp) J8) (b1<|sQ G.ZM G.Zy ExcR.UJ<|a1<|xe (ExcR.XX<|ExcR.UW<|ExcR.XW (ExcR.UK G.Zp)<|ExcR.UW ExcR.XN)<|XS<|UV<|Kg J8<|UV Kc) b0)<|b1<|sR<|xo U7 U5 (xo U7 U5 (xp (xv 0) o0<|o1<|xo U2 U0 (xv 1) xi)<|xL<|a1<|xt<|a2 (xx (xv 2) xi)<|xo JS JQ (xx (xv 2) xi)<|xx (xv 3) xi)<|xp (xv 0) (o1<|xo JS JQ (xv 1) xi) o0)) (.a ?_)
 ·rintro y R X ⟨ps,p,rfl,v,f⟩;refine⟨rfl,?_⟩;have x:(ps.map prD).length=ps.length:=Wg ..;refine⟨ps,p,rfl,?_⟩;unfold JW at f;by_cases c:p<1\/(ps.length:Int)<=p
  ·rw[Wm c]at f ⊢;exact f
  ·rw[Wo c]at f ⊢
   have t:atI (ps.map prD) p=some (prD<|J6 ps (p+1)):=by
    have:=XH (ps:=ps) (p:=p+1) (by lia) (by lia)
    rwa[show p+1-1=p by lia]at this
   refine⟨_,XH (by lia) (by lia),_,t,_,rfl,_,rfl,J2 (λg=>?_) (λg=>?_)⟩
   ·have l:¬(J6 ps p).1=(J6 ps (p+1)).1:=λz=>by rw[Wh z]at g;cases g
    rw[Wm l]at f;exact⟨by simp,f⟩
   ·have l:(J6 ps p).1=(J6 ps (p+1)).1:=Ql λz=>g (by rw[Wx z];rfl);rw[Wo (λz=>z l)]at f;refine⟨_,rfl,_,rfl,J2 (λh=>?_) (λh=>?_)⟩
    ·rw[Wm (Wi h)]at f;exact⟨by decide,by decide,by decide,by decide,by decide,by simp,f⟩
    ·rw[Wo (λz=>h (Wh z))]at f;have o:(cutD (ps.map prD) none<|some (p-1)).length<=1000:=by have:=(Kf (ps.map prD) none<|some (p-1)).length_le;rw[Wg]at this;lia
     have s:(cutD (ps.map prD) (some (p+1)) none).length<=1000:=by have:=(Kf (ps.map prD) (some (p+1)) none).length_le;rw[Wg]at this;lia
     refine⟨Xy _,_,rfl,_,rfl,_,rfl,by simp,by simp,rfl,rfl,Wk (W3 o<|Wn 1) (by decide),Xy _,rfl,rfl,Wk (W3 (by rw[Wr];exact W3 o (Wn 1)) s) (by decide),?_⟩;rw[←Fs (by lia)]at f;exact f
def Rn(x:Def K mg "with_wish" Bg ["wishes","ahead","behind"])
  : CK ζ:=by
 refine x.fy Ht (λl n=>(bc (sE<|xg Yr l ExcR.JY<|a1<|xv 1)<|bc (sE<|xg Yr l ExcR.JY<|a1<|xv 2)<|bc (sI (tq l (xv 1)<|xv 2) (b1<|sQ G.Z5 G.Zm ExcR.UJ<|a1 xs) b0)<|bc (sI (ti l (xt<|a2 (xv 1)<|xv 2)<|xv 0) (b1<|sQ G.Z9 G.Zq ExcR.UJ<|a1 xs) b0)<|bc (sI (tc K6 K0 (xl G.len<|xv 0)<|xe (ExcR.UK G.Zr) J8) (b1<|sQ G.Z3 G.Zj ExcR.UJ<|a1<|xe (ExcR.XX<|ExcR.UW<|ExcR.XW (ExcR.UK G.Zr)<|ExcR.UW ExcR.XN)<|XS<|UV<|Kg J8<|UV Kc) b0)<|b1<|sF 2<|sF 1<|sR<|xo U7 U5 (xv 0)<|xL<|a1<|xt<|a2 (xv 1)<|xv 2)) (.a ?_)
 ·rintro y R X ⟨h,a,b,rfl,u,f⟩;refine⟨rfl,?_⟩;have v:(h.map prD).length=h.length:=Wg ..;unfold JZ at f;refine⟨a,rfl,?_⟩;unfold KJ;by_cases p:1<=a/\a<=10
  ·rw[Wo (λz=>z p)]at f;rw[Wm p];refine⟨b,rfl,?_⟩;unfold KJ;by_cases o:1<=b/\b<=10
   ·rw[Wo (λz=>z o)]at f;rw[Wm o];refine J2 (λg=>?_) (λg=>?_)
    ·rw[Wm (Wi g)]at f;exact⟨by simp,f⟩
    ·rw[Wo (λz=>g (Wh z))]at f;refine⟨by simp,_,.lp (a,b) h,J2 (λt=>?_) (λt=>?_)⟩
     ·rw[Wm (Wi t)]at f;exact⟨by simp,f⟩
     ·rw[Wo (λz=>t (Wh z))]at f;refine J2 (λs=>?_) (λs=>?_)
      ·have r:(20:Int)<=((h.map prD).length:Int):=Wi s;rw[Wm (by lia)]at f;exact⟨by decide,by decide,by decide,by decide,by decide,by simp,f⟩
      ·have r:¬(20:Int)<=((h.map prD).length:Int):=λz=>s (Wh z);rw[Wo (by lia)]at f;refine⟨by simp,by simp,Xy _,rfl,Wk (W3 (Wk (Qc v) u)<|Wn 1) (by decide),?_⟩;rw[W6]at f;exact f
   ·rw[Wm o]at f;rw[Wo o];exact f
  ·rw[Wm p]at f;rw[Wo p];exact f
def MW(y:JO K (JP K (JG ζ) "drop") "drop" "Village.drop" BN ["self","ahead","behind"])
  : Ck ζ:=by
 refine y.fy Hx (λl n=>(bc (se (Xg<|Us Yp G.Za (hq<|l ()) ExcR.JY<|pv 0)<|Pb<|Pp Px (Jx 0) JV)<|bc (sS 3 n<|xg Y2 l ExcR.JY<|a3 (xe (Us Yo G.Za (hq<|l ()) Uu<|pv 0)<|UX KQ (Jx 0) JV) (xv 1)<|xv 2)<|b1<|sF 2<|sF 1<|sF 3<|se (JH<|Xw Yq G.Za (hq<|l ()) Uu (pv 0)<|dz (Kl<|dz JD (pv 1)<|pv 2) (Us Yn G.Za (hq<|l ()) Uu<|pv 0)<|pv 3)<|UM<|Pf 0 PV<|uz (Kv<|uz JC (Jx 1)<|Jx 2) (UX KN (Jx 0) JV)<|Jx 3)) (.c ?_)
 ·rintro o z R X ⟨x,b1,v,u,bk,fs,r,f,w,p,h,rfl,rfl,t,A,hw,s,g⟩;refine⟨rfl,?_⟩;unfold TM at g;refine⟨rfl,rfl,bk,fs++[f],r++[w],rfl,?_⟩;unfold Km;by_cases c:100<=bk.length
  ·rw[Wm c]at g ⊢;exact⟨_,rfl,⟨rfl,by simp⟩,g⟩
  ·rw[Wo c]at g ⊢;refine⟨rfl,rfl,bk,fs++[f],r,w,rfl,w,p,h,rfl,s,?_⟩;cases e:Uh w p h with
   |some c=>
    rw[e]at g;exact⟨_,rfl,⟨rfl,by simp⟩,g⟩
   |none=>
    rw[e]at g;refine⟨rfl,rfl,by simp,rfl,rfl,bk,fs,r++[w],f,rfl,?_⟩;exact⟨x,b1,v,u,bk,fs++[f],r++[w],("drop",[p,h]),f,KS w p h,rfl,rfl,t,by rw[Wr];simp;lia,by rw[Wr];simp;lia,_,rfl,⟨rfl,by simp⟩,g⟩
def M8(p:Def K mg "is_row" BV ["word","texts"])
  : FC ζ:=by
 refine p.fz Za7 (λf n=>(bc (sI (tN<|tt<|xe (UC (DW (K:=K) rfl) (by rfl) G.ZR boot_all<|az<|cz ["text"] [none] (P7 (K:=K)<|pv 1) ⟨(gk 0),Pa,(fz Y5 (f ())<|az<|pv 0)⟩)<|Dr<|sz<|KU (Sf<|Jx 1) (XI 0) KG<|Nf<|sz<|Jx 0) (b1<|sR xb) b0)<|bc (sI (te (BP<|NX G.Z1<|pv 0)<|Bm<|Bk<|Jx 0) (b1<|sR<|xe (Tw (Tc (K:=K)<|show _<cLine from(f ()).units0) (E6 G.Z1 (pv 0) (λ_ _=>rfl)) (ln K G.len<|pv 1)<|Xt _)<|TL (DX<|Jx 0)<|Ky<|sz<|Jx 1) b0)<|bc (sI (te (BP<|NX G.Z8<|pv 0)<|Bm<|Bk<|Jx 0) (b1<|sR<|xe (Tw (Tc (K:=K)<|show _<cLine from(f ()).units0) (E6 G.Z8 (pv 0) (λ_ _=>rfl)) (ln K G.len<|pv 1)<|Xt _)<|TL (DX<|Jx 0)<|Ky<|sz<|Jx 1) b0)<|b1<|se T4 Tq)) (.a ?_)
 ·rintro t R X ⟨w,os,rfl,hw,g,l⟩;refine⟨rfl,?_⟩
  have r:os.length<=2:=by
   simp only[Wu,QT,Prod.mk.injEq,or_false]at hw;lia
  refine Kx (xs:=os) (emb:=λn=>D.str (nS n)) (λn=>some (.bl<|U9<|nS n)) (by lia) (λn h=>?_) ?_
  ·have o:=(K8<|g n h).2;exact⟨_,rfl,Wk o (by decide),Zah n,_,rfl,rfl⟩
  have em:os.filterMap (λn=>some (D.bl<|U9<|nS n))=(os.map λn=>U9 (nS n)).map D.bl:=by rw[WZ,Qd];rfl
  rw[em];refine⟨_,rfl,?_⟩;rw[Oy];have f:∀b:Bool,UY os=b->R (.sh<|.bl b):=λb e=>e▸l;generalize UY os=b at f ⊢;cases b with
  |false=>exact Ur (f _ rfl)
  |true=>
   refine JN ?_;have s:((os.map λn=>D.str (nS n)).length:Int)=os.length:=by rw[Wg]
   simp only[Wu,QT,Prod.mk.injEq,or_false]at hw;rcases hw with⟨rfl,e⟩|⟨rfl,e⟩|⟨rfl,e⟩|⟨rfl,e⟩|⟨rfl,e⟩|⟨rfl,e⟩
   all_goals
    refine⟨_,rfl,?_⟩;show R (.sh<|.bl<|decide (_=(((os.map λn=>D.str (nS n)).length:Nat):Int)));rw[Wh (by lia)];exact f _ rfl
def IJ(u:Def K mg "told_deed" Bl ["deed"])
  : Aj ζ:=by
 refine u.fz Zap (λl n=>(b1<|sR<|xf Y6 l<|a1<|xo U7 U5 (xL<|a1<|xx (xv 0) xi)<|xC ["number"] [none] (je (SG (K:=K)<|Ks (NA (K:=K)) (pv 0) (XU JE) KL)<|SndI.c<|N0<|Br (Jx 0) (Ka J8) K9) (gN 0) f0<|xe (Xx Nw (by rfl) G.Z0 boot_str<|az<|pv 0)<|NJ<|sz<|Jx 0)) (.a ?_)
 ·rintro C R X ⟨q,rfl,y,A,h,p⟩;refine⟨rfl,?_⟩;have x:(1000:Nat)<=sizeLine:=by decide
  have o:∀v∈q.1::q.2.map nS,v.length<=32:=λv f=>by
   rcases Wu.mp f with rfl|f
   ·lia
   ·obtain⟨n,g,rfl⟩:=WM.mp f;exact(K8<|h n g).2
  have r:JoinOk spc (q.1::q.2.map nS)=true:=by
   unfold JoinOk;rw[StrLaws.joinFits (B:=32) o (by rw[W5,Wg,show spc.length=1 from rfl];lia)]
   rfl
  have s:Txt.join spc (q.1::q.2.map nS)=Str.join spc (q.1::q.2.map nS):=StrLaws.glued_eq_join _ _;have t:cutD (D.str q.1::q.2.map D.int) (some 1) none=q.2.map D.int:=by rw[Xv _ (by decide)];rfl
  have em:q.2.filterMap (λn=>some (D.str<|nS n))=(q.2.map nS).map D.str:=by rw[WZ,Qd];rfl
  rw[B9];refine⟨_,Ux _ _,by simp,?_⟩;refine⟨_,rfl,?_,q.2.map D.int,W9 some t,?_⟩
  ·rintro⟨z,_⟩;rw[show(1:Int)=((1:Nat):Int)from rfl,HT.Kk,W5]at z
   lia
  show X3 _ _ _ _ _ (q.2.map D.int).length (λi=>S.sub (.sh .non) ((q.2.map D.int).getD i .non)) _;refine Kx (xs:=q.2) (emb:=D.int) (λn=>some (.str<|nS n)) (by lia) (λn g=>⟨T1 (h n g),_,rfl,rfl⟩) ?_;rw[em];refine⟨rfl,rfl,by rw[Wg,Wg];show 1+_<=100000;lia,?_⟩;refine⟨q.1::q.2.map nS,rfl,r,?_⟩;rw[Wo (by simp),s];exact p
def R0(l:Def K mg "_law_draw" SB ["_law_script","_law_k"])
  : D6 ζ:=by
 refine l.fz Ip (λf n=>(bc (sI (tq f (xo JK JJ (xf Ym f<|a2 (xv 0) xi) xi) xi) (b1<|sR<|xf Ym f<|a2 (xv 0)<|xo JS JQ xi<|xv 1) b0)<|b1<|sR<|xf Ys f<|a2 (xf Ym f<|a2 (xv 0) xi)<|xv 1)) (.a ?_)
 ·rintro p R X ⟨g,k,rfl,o,h⟩;refine⟨rfl,g,0,rfl,by decide,(by show(0:Int)<2;decide),J2 (λ_=>?_) (λ_=>?_)⟩
  ·exact⟨g,_,rfl,by lia,h _⟩
  ·exact⟨g,1,rfl,by decide,_,_,rfl,h _⟩
def Zaa(l:Def K mg "_law_spare" Bz ["_law_script"])
  : Eh ζ:=by
 refine l.fz HQ (λf n=>(bc (sI (tq f (xo JK JJ (xf Ym f<|a2 (xv 0) xi) xi) xi) (b1<|sR<|xo Ub Uc (xf Ym f<|a2 (xv 0) xi) xi) b0)<|b1<|sR<|xf Ys f<|a2 (xf Ym f<|a2 (xv 0) xi) xi)) (.a ?_)
 ·rintro o R X ⟨g,rfl,h⟩;refine⟨rfl,?_⟩;exact⟨g,0,rfl,by decide,(by show(0:Int)<2;decide),J2 (λ_=>⟨g,0,rfl,by decide,⟨by decide,by decide⟩,h _⟩) (λ_=>⟨g,1,rfl,by decide,_,_,rfl,h _⟩)⟩
def Lr(A:Def K mg "_law_tuples" Sg ["_law_found","_law_due_here"])
  : DU ζ:=by
 refine A.fz Zam (λl n=>(bc (sI (tp<|wo (tN<|tt<|xe (UC (Kd (K:=K)) (by rfl) G.Zc Qf<|bz (pv 0)<|XJ (v:=.ty "list") rfl G.Zk boot_list rfl)<|XZ<|tz (Jx 0) XO)<|wO<|tn l (xl G.len<|xv 0)<|xl G.len<|xv 1) (b1<|sR xb) b0)<|bc (sO [2,3] Qg (ir G.Zg<|a1<|xl G.len<|xv 1) (gN 2)<|bc (sI (tp<|wo (tN<|tt<|xe (UC (Kd (K:=K)) (by rfl) G.Zc Qf<|bz (jx K (pv 0)<|pv 2)<|XJ (v:=.ty "tuple") rfl G.ZD boot_tuple rfl)<|XZ<|tz (Ue (Jx 0)<|Jx 2) XO)<|wO<|tn l (xl G.len<|xx (xv 0)<|xv 2)<|xl G.len<|xx (xv 1)<|xv 2) (b1<|sR xb) b0)<|b1<|sO [3] Qg (ir G.Zg<|a1<|xl G.len<|xx (xv 1)<|xv 2) (gN 3)<|b1<|sI (tp<|wo (tN<|tt<|xf Yw l<|a1<|xx (xx (xv 0)<|xv 2)<|xv 3)<|wO<|tn l (xx (xx (xv 0)<|xv 2)<|xv 3)<|xx (xx (xv 1)<|xv 2)<|xv 3) (b1<|sR xb) b0)<|b1<|sR xb)) (.a ?_)
 ·rintro E R X ⟨g,rfl,B,y⟩;refine⟨rfl,?_⟩;have C:(g.map prD).length=g.length:=Wg ..;refine⟨_,.same _,JN (KP rfl ?_)⟩;refine⟨⟨by lia,by lia⟩,Ku (λi f=>∃t,f=[some (.bor<|.lst<|g.map prD),some (.bor<|.lst<|g.map prD),none,t]) ⟨_,rfl⟩ ?_ ?_⟩
  ·rintro i f u ⟨t,rfl⟩;have s:i<(((g.map prD).length:Nat):Int).toNat:=u;have ez:(0:Int)+(i:Int)=(i:Int):=by lia
   have x:i<g.length:=by lia
   have h:atI (g.map prD) (0+(i:Int))=some (prD g[i]):=by rw[ez];exact Sz x
   generalize g[i]=q at h;refine⟨_,h,_,.same _,JN ⟨_,h,_,h,?_⟩⟩;refine⟨_,h,⟨(by show -(2 ^ 62)<=(2:Int);decide),(by show(2:Int)<2 ^ 62;decide)⟩,Ku (λj f=>∃t,f=[some (.bor<|.lst<|g.map prD),some (.bor<|.lst<|g.map prD),some (.sh<|.int (0+(i:Int))),t]) ⟨_,rfl⟩ ?_ ?_⟩
   ·rintro j f r ⟨t,rfl⟩;have p:j<2:=r
    obtain⟨z,o⟩:∃z:Int,atI [D.int q.1,D.int q.2] (0+(j:Int))=some (.int z):=by
     have:j=0\/j=1:=by lia
     rcases this with rfl|rfl
     ·exact⟨_,rfl⟩
     ·exact⟨_,rfl⟩
    exact⟨_,h,_,o,z,rfl,JN ⟨_,h,_,o,_,h,_,o,KP rfl ⟨_,rfl⟩⟩⟩
   ·rintro f ⟨t,rfl⟩;exact⟨_,rfl⟩
  ·rintro f ⟨t,rfl⟩;exact y
def O6(p:Def K mg "_law_deed_is" Sj ["_law_found","_law_due_here"])
  : CD ζ:=by
 refine p.fz RT (λh n=>(bc (sI (tp<|wo (tN<|tt<|xe (UC (Kd (K:=K)) (by rfl) G.Zc Qf<|bz (pv 0)<|XJ (v:=.ty "tuple") rfl G.ZD boot_tuple rfl)<|XZ<|tz (Jx 0) XO)<|wo (tn h (xl G.len<|xv 0)<|xl G.len<|xv 1)<|wO<|tN<|tt<|xe (UC (Kd (K:=K)) (by rfl) G.Zc Qf<|bz (jx K (pv 0) JE)<|XJ (v:=.ty "str") rfl G.Z0 boot_str rfl)<|XZ<|tz (Ue (Jx 0) J8) XO) (b1<|sR xb) b0)<|bc (sI (tn h (xx (xv 0) xi)<|xx (xv 1) xi) (b1<|sR xb) b0)<|bc (sO [2] Qg (iR G.Zg<|a2 xi<|xl G.len<|xv 1) (gN 2)<|b1<|sI (tp<|wo (tN<|tt<|xf Yw h<|a1<|xx (xv 0)<|xv 2)<|wO<|tn h (xx (xv 0)<|xv 2)<|xx (xv 1)<|xv 2) (b1<|sR xb) b0)<|b1<|sR xb)) (.a ?_)
 ·rintro t R X ⟨q,rfl,r,o⟩;refine⟨rfl,?_⟩;have s:(D.str q.1::q.2.map D.int).length=q.2.length+1:=by rw[W5,Wg]
  rw[B9];show _;rw[WR,T7];refine⟨_,.same _,JN (KP rfl ⟨_,Ux _ _,_,.same _,JN ⟨_,Ux _ _,_,Ux _ _,KP rfl ?_⟩⟩)⟩;refine⟨⟨by omega,by omega⟩,Ku (λi f=>f=[some (.sh<|dD q),some (.sh<|dD q),none]) rfl ?_ ?_⟩
  ·rintro i f l rfl
   have g:i<q.2.length:=by
    have:i<((((D.str q.1::q.2.map D.int).length:Nat):Int)-1).toNat:=l
    omega
   exact⟨_,N6 g,_,rfl,JN ⟨_,N6 g,_,N6 g,KP rfl rfl⟩⟩
  ·rintro f rfl;exact o
def Za6(u:Def K mg "_law_step" Se ["_law_now","_law_deed_here"])
  : Fn ζ:=by
 refine u.fz Gy (λo n=>(bc (sI (tp<|wo (tq o (xx (xv 1) xi) xs)<|wO<|tq o (xx (xv 1) xi) xs) (bc (sF 1<|sS 2 n<|xe (fz Y9 (o ())<|bz (jx K (pv 0) JE)<|pv 1)<|BR<|tz (Ue (Jx 0) J8)<|Jx 1)<|b1<|sR<|xL<|a3 (xx (xv 2) xi) (xx (xv 0) xi)<|xx (xv 2) xi) b0)<|bc (sF 1<|sS 2 n<|xe (fz Y8 (o ())<|bz (jx K (pv 0) JE)<|pv 1)<|BR<|tz (Ue (Jx 0) J8)<|Jx 1)<|b1<|sR<|xL<|a3 (xx (xv 2) xi) (xx (xv 2) xi)<|xx (xv 0) xi)) (.b ?_)
 ·rintro t R X ⟨f,w,t,x,rfl,r,hw,l⟩;refine⟨rfl,?_⟩;have g:atI (plD f::plD w::t) 1=some (plD w):=PJ (by decide) rfl
  have land:∀x:Dd,x.land=true->R (.own [.int (codeN<|x.err f w),plD (x.nf f w),plD (x.nw f w)])->R (.own [.int (codeN<|x.err f []),plD (x.fld' f),plD w]):=λx h k=>by
   have e:=x.err_land h f w [];have s:x.wsh w=w:=by cases x<;>first|rfl|cases h
   unfold Dd.nf Dd.nw at k;rw[s,e,ite_self]at k;unfold Dd.fld';exact k
  have wish:∀x:Dd,x.land=false->R (.own [.int (codeN<|x.err f w),plD (x.nf f w),plD (x.nw f w)])->R (.own [.int (codeN<|x.err [] w),plD f,plD (x.wsh' w)]):=λx h k=>by
   have e:=x.err_wish h f [] w;have s:x.fld f=f:=by cases x<;>first|rfl|cases h
   unfold Dd.nf Dd.nw at k;rw[s,e,ite_self]at k;unfold Dd.wsh';exact k
  cases x with
  |sell p h=>exact⟨_,rfl,_,rfl,_,Ux _ _,f,.sell p h,rfl,rfl,r,_,rfl,_,rfl,_,g,by simp,land _ rfl l⟩
  |part p h=>exact⟨_,rfl,_,rfl,_,Ux _ _,f,.part p h,rfl,rfl,r,_,rfl,_,rfl,_,g,by simp,land _ rfl l⟩
  |unite p=>exact⟨_,rfl,_,rfl,_,Ux _ _,f,.unite p,rfl,rfl,r,_,rfl,_,rfl,_,g,by simp,land _ rfl l⟩
  |wish a b=>exact⟨_,rfl,_,g,w,.wish a b,rfl,rfl,hw,_,rfl,_,Ux _ _,_,rfl,by simp,wish _ rfl l⟩
  |drop a b=>exact⟨_,rfl,_,rfl,_,g,w,.drop a b,rfl,rfl,hw,_,rfl,_,Ux _ _,_,rfl,by simp,wish _ rfl l⟩
def IV(H:Def K mg "_law_start" Bq ["_law_script","_law_menu_here","_law_many"])
  : Ah ζ:=by
 refine H.fz O1 (λl n=>(bc (sS 3 n<|xf Ym l<|a2 (xv 0) xi)<|bc (sS 4 n<|xL a0)<|bc (sO [5,6,7] Qg (ir G.Zg<|a1<|xv 2) (gN 5)<|bc (sF 3<|sS 6 n<|xv 3)<|bj (sI (tq l (xo JK JJ (xf Ym l<|a2 (xv 0) xi) xi) xi) (b1<|sS 6 n<|xf Ys l<|a2 (xf Ym l<|a2 (xv 0) xi)<|xo JS JQ xi<|xv 5) b0)<|bc (sS 7 n<|xo JS JQ (xx (xv 1) xi)<|xo JK JJ (xo Ub Uc (xv 6)<|xx (xv 1) xi)<|xx (xv 1) xi)<|bc (sF 7<|sA 4<|xt<|a2 (xf Yt l<|a2 (xv 1)<|xo JK JJ (xv 6)<|xx (xv 1) xi)<|xv 7)<|b1<|sS 3 n<|xo Ub Uc (xo Ub Uc (xv 3)<|xx (xv 1) xi)<|xx (xv 1) xi)<|b1<|sV 4)) (.a ?_)
 ·rintro ds R X ⟨o,m,n,rfl,x,h0,Y,E⟩;refine⟨rfl,?_⟩;have s:=x;obtain⟨a,b,c,d,e,rfl,U,T,Q,N,M⟩:=x;refine⟨o,2,rfl,by decide,by simp,⟨by lia,by lia⟩,Ku (λi f=>∃(g:ZY) (r:Int),f=[some (.bor<|.scr o),some (.bor<|.lst (([a,b,c,d,e]:ZZ).map D.int)),some (.sh<|.int n),some (.sh<|.int r),some (.own<|g.map prD),none,none,none]/\Field g/\g.length=i) ⟨[],_,rfl,(λq hq=>by cases hq),rfl⟩ ?_ ?_⟩
  ·rintro i f C ⟨g,r,rfl,u,p⟩;have A:(g.map prD).length=g.length:=Wg ..;have B:i<n.toNat:=C;refine TU (λf=>∃(v:Int) (t:Option S),f=[some (.bor<|.scr o),some (.bor<|.lst (([a,b,c,d,e]:ZZ).map D.int)),some (.sh<|.int n),some (.sh<|.int r),some (.own<|g.map prD),t,some (.sh<|.int v),none]) ?_ ?_
   ·refine⟨o,0,rfl,by decide,(by show(0:Int)<2;decide),J2 (λ_=>?_) (λ_=>⟨_,_,rfl⟩)⟩;exact⟨o,1,rfl,by decide,_,_,rfl,_,_,rfl⟩
   ·rintro f ⟨v,t,rfl⟩;have L:=Q4 (v / a) (show d≠0 by lia);have J:=Qq (v / a) (show 0<d by lia);refine⟨_,rfl,_,rfl,⟨by lia,by lia⟩,_,rfl,(by show 0<d;lia),_,rfl,(by show 0<a;lia),[a,b,c,d,e],_,rfl,s,λh z y _=>⟨by simp,by lia,?_⟩⟩;refine⟨_,rfl,⟨by lia,by lia⟩,_,rfl,⟨by lia,by lia⟩,g++[(h,e+v / a % d)],r / a / d,?_,λq hq=>?_,by rw[Wr,p];rfl⟩
    ·rw[W6];rfl
    ·rcases WC.mp hq with hq|hq
     ·exact u q hq
     ·rw[Wl]at hq;subst hq;exact⟨z,y,by show 1<=e+v / a % d;lia,by show e+v / a % d<=1000;lia⟩
  ·rintro f ⟨g,r,rfl,u,p⟩;exact E g u p
def GA(p:Def K mg "_law_days" B3 ["_law_script","_law_most"])
  : AF ζ:=by
 refine p.fz GO (λg n=>(bc (sI (tq g (xo JK JJ (xf Ym g<|a2 (xv 0) xi) xi) xi) (b1<|sR<|xe (Ks (T6 (K:=K)) (pv 0) (XU JE)<|XU<|Kp JS JE<|pv 1)<|Iu (Jx 0) (Ka J8)<|Ka<|JQ J8<|Jx 1) b0)<|b1<|sR<|xC ["_law_k","_law_script"] [none,some 0] (jI<|ir G.Zg<|a1<|xo JK JJ (xf Ym g<|a2 (xv 0) xi)<|xo JS JQ (xv 1) xi) (gN 0) f0<|xf Ys g<|a2 (xf Ym g<|a2 (xv 1) xi)<|xo JS JQ xi<|xv 0)) (.a ?_)
 ·rintro x R X ⟨f,n,rfl,v,u,h⟩;refine⟨rfl,f,0,rfl,by decide,(by show(0:Int)<2;decide),J2 (λ_=>?_) (λ_=>?_)⟩
  ·refine h _ ?_;unfold Pu.cutD;rw[QR]
   have l:HT.sIx f.length 0 (some 3)=min 3 f.length:=by
    rw[show(3:Int)=((3:Nat):Int) by rfl,HT.Kk]
   have o:HT.sIx f.length f.length (some (3+n))=min (3+n).toNat f.length:=by
    rw[show(3+n:Int)=(((3+n).toNat:Nat):Int) by lia,HT.Kk];rfl
   rw[l,o];lia
  ·refine⟨f,2,rfl,by decide,(by show 0<n+1;lia),?_⟩;have s:=Q4 (f.getD (2:Int).toNat 0) (show n+1≠0 by lia);have r:=Qq (f.getD (2:Int).toNat 0) (show 0<n+1 by lia);refine⟨⟨by lia,by lia⟩,DH (λi=>some (.int<|mixP (f.getD (1:Int).toNat 0) (200+(0+(i:Int))))) (by lia) (λi t=>⟨f,1,rfl,by decide,_,_,rfl,_,rfl,rfl⟩) ?_⟩
   have e:(List.range (f.getD (2:Int).toNat 0 % (n+1)).toNat).filterMap (λi:Nat=>some (D.int<|mixP (f.getD (1:Int).toNat 0) (200+(0+(i:Int)))))=((List.range (f.getD (2:Int).toNat 0 % (n+1)).toNat).map λi:Nat=>mixP (f.getD (1:Int).toNat 0) (200+(0+(i:Int)))).map D.int:=by
    rw[WZ,Qd];rfl
   rw[e];refine h _ ?_;rw[Wg,List.length_range];lia
def Ie(A:Def K mg "_law_pair" Ny ["_law_cell","_law_menu_here"])
  : EF ζ:=by
 refine A.fz L8 (λl n=>(bc (sS 2 n<|xx (xL<|ac xi<|ac (xx (xv 1) xi)<|ac (xx (xv 1) xi)<|ac (xx (xv 1) xi) a0)<|xo JK JJ (xv 0) xi)<|bc (sS 3 n<|xo JK JJ (xo Ub Uc (xv 0) xi)<|xv 2)<|bc (sS 4 n<|xo JK JJ (xo JS JQ (xo JS JQ (xv 3) xi)<|xo JK JJ (xo Ub Uc (xv 0) xi)<|xe (UC (Af rfl) (by rfl) G.ZK boot_max<|bz JE<|Kp U2 (pv 2) JE)<|DV<|tz J8<|U0 (Jx 2) J8)<|xv 2)<|bc (sS 5 n<|xf Yu l<|a2 (xo Ub Uc (xv 0) xi)<|xf Yt l<|a2 (xv 1)<|xv 3)<|b1<|sF 5<|sR<|xt<|a2 (xv 5)<|xf Yu l<|a2 (xo Ub Uc (xv 0) xi)<|xf Yt l<|a2 (xv 1)<|xv 4)) (.a ?_)
 ·rintro Y R X ⟨c,m,rfl,s,y⟩;refine⟨rfl,?_⟩;have g:=s;obtain⟨a,b,e,d,f,rfl,r,N,L,M,J⟩:=s;have Q:0<=c % 4/\c % 4<4:=by lia
  obtain⟨pool,z,H⟩:∃p:Int,atI [D.int 10,.int a,.int a,.int a] (c % 4)=some (.int p)/\1<=p/\p<=10:=by
   have:c % 4=0\/c % 4=1\/c % 4=2\/c % 4=3:=by lia
   rcases this with e|e|e|e<;>rw[e]
   ·exact⟨10,rfl,by decide,by decide⟩
   ·exact⟨a,rfl,r⟩
   ·exact⟨a,rfl,r⟩
   ·exact⟨a,rfl,r⟩
  have o:0<(if pool-1>1 then pool-1 else 1):=by split<;>lia
  refine⟨_,rfl,_,rfl,_,rfl,by simp,(by show(0:Int)<4;decide),_,z,?_⟩;refine⟨⟨by decide,by decide⟩,(by show 0<pool;lia),⟨by decide,by decide⟩,o,(by show 0<pool;lia),?_⟩;have h:(10000:Nat)<=10 ^ 30:=by decide
  refine⟨⟨by decide,by decide⟩,_,_,rfl,g,λU E p2 _=>⟨_,_,rfl,Wk (show _<=10000 by lia) h,λu x=>?_⟩⟩;exact⟨⟨by decide,by decide⟩,_,_,rfl,g,λT C B _=>⟨_,_,rfl,Wk (show _<=10000 by lia) h,λt v=>⟨by simp,y u t x v⟩⟩⟩
def IC(s:JO K (Mk K<|JG ζ) "__init__" "Village.__init__" N8 ["self","strips"])
  : Fb ζ:=by
 refine s.fy HX (λl n=>(bc (sE<|xg YE l ExcR.JY<|a1<|xv 1)<|bc (se (Ba (pv 0) (X5 Xn) rfl)<|B4 0 G.Za G.Zb Zbm<|X6 JV)<|bc (se (Ba (pv 0) (X5<|az<|Xx (Pm (K:=K)) (by rfl) G.Zk boot_list<|az<|pv 1) rfl)<|B4 0 G.Za G.Zd GK<|X6<|sz<|Pj<|sz<|Jx 1)<|b1<|se (Ba (pv 0) (X5<|az<|X5 Xn) rfl)<|B4 0 G.Za G.Ze G4<|X6<|sz<|X6 JV)) (.c ?_)
 ·rintro o t R X ⟨x,g,rfl,rfl,h,f⟩;refine⟨rfl,g,rfl,h,?_⟩;cases e:KB g with
  |some c=>
   rw[e]at f;exact⟨_,rfl,⟨rfl,by simp⟩,f⟩
  |none=>
   rw[e]at f;refine⟨by simp,rfl,rfl,by decide,λb1=>?_⟩;refine⟨rfl,by simp,rfl,rfl,by decide,λr=>?_⟩;refine⟨by simp,by simp,rfl,rfl,by decide,λp=>?_⟩;exact⟨_,rfl,⟨rfl,by simp⟩,f b1 r p⟩
def Im(y:JO K (JP K (JG ζ) "sell") "sell" "Village.sell" Bw ["self","place","holder"])
  : DL ζ:=by
 refine y.fy Zba (λl n=>(bc (se (Xg<|Us Yp G.Za (hq<|l ()) ExcR.JY<|pv 0)<|Pb<|Pp Px (Jx 0) JV)<|bc (sS 3 n<|xg YF l ExcR.JY<|a3 (xe (Us Yn G.Za (hq<|l ()) Uu<|pv 0)<|UX KN (Jx 0) JV) (xv 1)<|xv 2)<|b1<|sF 2<|sF 1<|sF 3<|se (JH<|Xw Yq G.Za (hq<|l ()) Uu (pv 0)<|dz (Kl<|dz JD (pv 1)<|pv 2) (pv 3)<|Us Yo G.Za (hq<|l ()) Uu<|pv 0)<|UM<|Pf 0 PV<|uz (Kv<|uz JC (Jx 1)<|Jx 2) (Jx 3)<|UX KQ (Jx 0) JV)) (.c ?_)
 ·rintro o z R X ⟨x,b1,v,u,bk,fs,r,f,w,p,h,rfl,rfl,t,A,hw,s,g⟩;refine⟨rfl,?_⟩;unfold Nl at g;refine⟨rfl,rfl,bk,fs++[f],r++[w],rfl,?_⟩;unfold Km;by_cases c:100<=bk.length
  ·rw[Wm c]at g ⊢;exact⟨_,rfl,⟨rfl,by simp⟩,g⟩
  ·rw[Wo c]at g ⊢;refine⟨rfl,rfl,bk,fs,r++[w],f,rfl,f,p,h,rfl,s,?_⟩;cases e:Uy f p h with
   |some c=>
    rw[e]at g;exact⟨_,rfl,⟨rfl,by simp⟩,g⟩
   |none=>
    rw[e]at g;refine⟨rfl,rfl,by simp,rfl,rfl,bk,fs++[f],r,w,rfl,?_⟩;exact⟨x,b1,v,u,bk,fs++[f],r++[w],("sell",[p,h]),XD f p h,w,rfl,rfl,t,by rw[Wr];simp;lia,by rw[Wr];simp;lia,_,rfl,⟨rfl,by simp⟩,g⟩
def HI(y:JO K (JP K (JG ζ) "part") "part" "Village.part" Bc ["self","place","width"])
  : F0 ζ:=by
 refine y.fy Hf (λl n=>(bc (se (Xg<|Us Yp G.Za (hq<|l ()) ExcR.JY<|pv 0)<|Pb<|Pp Px (Jx 0) JV)<|bc (sS 3 n<|xg YG l ExcR.JY<|a3 (xe (Us Yn G.Za (hq<|l ()) Uu<|pv 0)<|UX KN (Jx 0) JV) (xv 1)<|xv 2)<|b1<|sF 2<|sF 1<|sF 3<|se (JH<|Xw Yq G.Za (hq<|l ()) Uu (pv 0)<|dz (Kl<|dz JD (pv 1)<|pv 2) (pv 3)<|Us Yo G.Za (hq<|l ()) Uu<|pv 0)<|UM<|Pf 0 PV<|uz (Kv<|uz JC (Jx 1)<|Jx 2) (Jx 3)<|UX KQ (Jx 0) JV)) (.c ?_)
 ·rintro o z R X ⟨x,b1,v,u,bk,fs,r,f,w,p,h,rfl,rfl,t,A,hw,s,g⟩;refine⟨rfl,?_⟩;unfold Nk at g;refine⟨rfl,rfl,bk,fs++[f],r++[w],rfl,?_⟩;unfold Km;by_cases c:100<=bk.length
  ·rw[Wm c]at g ⊢;exact⟨_,rfl,⟨rfl,by simp⟩,g⟩
  ·rw[Wo c]at g ⊢;refine⟨rfl,rfl,bk,fs,r++[w],f,rfl,f,p,h,rfl,s,?_⟩;cases e:Ui f p h with
   |some c=>
    rw[e]at g;exact⟨_,rfl,⟨rfl,by simp⟩,g⟩
   |none=>
    rw[e]at g;refine⟨rfl,rfl,by simp,rfl,rfl,bk,fs++[f],r,w,rfl,?_⟩;exact⟨x,b1,v,u,bk,fs++[f],r++[w],("part",[p,h]),Xe f p h,w,rfl,rfl,t,by rw[Wr];simp;lia,by rw[Wr];simp;lia,_,rfl,⟨rfl,by simp⟩,g⟩
def L6(v:JO K (JP K (JG ζ) "unite") "unite" "Village.unite" Bt ["self","place"])
  : Fq ζ:=by
 refine v.fy RO (λh n=>(bc (se (Xg<|Us Yp G.Za (hq<|h ()) ExcR.JY<|pv 0)<|Pb<|Pp Px (Jx 0) JV)<|bc (sS 2 n<|xg YH h ExcR.JY<|a2 (xe (Us Yn G.Za (hq<|h ()) Uu<|pv 0)<|UX KN (Jx 0) JV)<|xv 1)<|b1<|sF 1<|sF 2<|se (JH<|Xw Yq G.Za (hq<|h ()) Uu (pv 0)<|dz (Kl<|bz JD<|pv 1) (pv 2)<|Us Yo G.Za (hq<|h ()) Uu<|pv 0)<|UM<|Pf 0 PV<|uz (Kv<|tz JC<|Jx 1) (Jx 2)<|UX KQ (Jx 0) JV)) (.c ?_)
 ·rintro o y R X ⟨x,b1,u,t,bk,fs,l,f,w,p,rfl,rfl,s,z,hw,r,g⟩;refine⟨rfl,?_⟩;unfold Nh at g;refine⟨rfl,rfl,bk,fs++[f],l++[w],rfl,?_⟩;unfold Km;by_cases c:100<=bk.length
  ·rw[Wm c]at g ⊢;exact⟨_,rfl,⟨rfl,by simp⟩,g⟩
  ·rw[Wo c]at g ⊢;refine⟨rfl,rfl,bk,fs,l++[w],f,rfl,f,p,rfl,r,?_⟩;cases e:JW f p with
   |some c=>
    rw[e]at g;exact⟨_,rfl,⟨rfl,by simp⟩,g⟩
   |none=>
    rw[e]at g;refine⟨rfl,rfl,by simp,rfl,rfl,bk,fs++[f],l,w,rfl,?_⟩;exact⟨x,b1,u,t,bk,fs++[f],l++[w],("unite",[p]),Xh f p,w,rfl,rfl,s,by rw[Wr];simp;lia,by rw[Wr];simp;lia,_,rfl,⟨rfl,by simp⟩,g⟩
def MS(y:JO K (JP K (JG ζ) "wish") "wish" "Village.wish" Nq ["self","ahead","behind"])
  : AG ζ:=by
 refine y.fy Hq (λl n=>(bc (se (Xg<|Us Yp G.Za (hq<|l ()) ExcR.JY<|pv 0)<|Pb<|Pp Px (Jx 0) JV)<|bc (sS 3 n<|xg YI l ExcR.JY<|a3 (xe (Us Yo G.Za (hq<|l ()) Uu<|pv 0)<|UX KQ (Jx 0) JV) (xv 1)<|xv 2)<|b1<|sF 2<|sF 1<|sF 3<|se (JH<|Xw Yq G.Za (hq<|l ()) Uu (pv 0)<|dz (Kl<|dz JD (pv 1)<|pv 2) (Us Yn G.Za (hq<|l ()) Uu<|pv 0)<|pv 3)<|UM<|Pf 0 PV<|uz (Kv<|uz JC (Jx 1)<|Jx 2) (UX KN (Jx 0) JV)<|Jx 3)) (.c ?_)
 ·rintro o z R X ⟨x,b1,v,u,bk,fs,r,f,w,p,h,rfl,rfl,t,A,hw,s,g⟩;refine⟨rfl,?_⟩;unfold T9 at g;refine⟨rfl,rfl,bk,fs++[f],r++[w],rfl,?_⟩;unfold Km;by_cases c:100<=bk.length
  ·rw[Wm c]at g ⊢;exact⟨_,rfl,⟨rfl,by simp⟩,g⟩
  ·rw[Wo c]at g ⊢;refine⟨rfl,rfl,bk,fs++[f],r,w,rfl,w,p,h,rfl,s,?_⟩;cases e:JZ w p h with
   |some c=>
    rw[e]at g;exact⟨_,rfl,⟨rfl,by simp⟩,g⟩
   |none=>
    rw[e]at g;refine⟨rfl,rfl,by simp,rfl,rfl,bk,fs,r++[w],f,rfl,?_⟩;exact⟨x,b1,v,u,bk,fs++[f],r++[w],("wish",[p,h]),f,w++[(p,h)],rfl,rfl,t,by rw[Wr];simp;lia,by rw[Wr];simp;lia,_,rfl,⟨rfl,by simp⟩,g⟩
def MO(s:Def K mg "_law_book_is" Sa ["_law_found","_law_due_here"])
  : E2 ζ:=by
 refine s.fz Zaw (λg n=>(bc (sI (tp<|wo (tN<|tt<|xe (UC (Kd (K:=K)) (by rfl) G.Zc Qf<|bz (pv 0)<|XJ (v:=.ty "list") rfl G.Zk boot_list rfl)<|XZ<|tz (Jx 0) XO)<|wO<|tn g (xl G.len<|xv 0)<|xl G.len<|xv 1) (b1<|sR xb) b0)<|bc (sO [2] Qg (ir G.Zg<|a1<|xl G.len<|xv 1) (gN 2)<|b1<|sI (tN<|tt<|xf YO g<|a2 (xx (xv 0)<|xv 2)<|xx (xv 1)<|xv 2) (b1<|sR xb) b0)<|b1<|sR xb)) (.a ?_)
 ·rintro x R X ⟨bk,rfl,hq,t,r⟩;refine⟨rfl,?_⟩;have u:(bk.map dD).length=bk.length:=Wg ..;refine⟨_,.same _,JN (KP rfl ?_)⟩;refine⟨⟨by omega,by omega⟩,Ku (λi f=>f=[some (.bor<|.lst<|bk.map dD),some (.bor<|.lst<|bk.map dD),none]) rfl ?_ ?_⟩
  ·rintro i f p rfl;have o:i<(((bk.map dD).length:Nat):Int).toNat:=p;have ez:(0:Int)+(i:Int)=(i:Int):=by omega
   have h:i<bk.length:=by omega
   have l:atI (bk.map dD) (0+(i:Int))=some (dD bk[i]):=by rw[ez];exact Sz h
   refine⟨_,l,_,l,bk[i],?_,hq _ (WN h),JN rfl⟩;show[(arg (dD bk[i])).d,(arg (dD bk[i])).d]=_;rw[T7];rfl
  ·rintro f rfl;exact r
def HU(DD:Def K mg "_law_deed" Np ["_law_cell","_law_menu_here","_law_now"])
  : D0 ζ:=by
 refine DD.fz Ol (λr n=>(bc (sS 3 n<|xo JK JJ (xv 0) xi)<|bc (sS 4 n<|xo Ub Uc (xv 0) xi)<|bc (sS 5 n<|xf YA r<|a2 (xv 4)<|xx (xv 2) xi)<|bc (sS 6 n<|xo Ub Uc (xo Ub Uc (xv 4) xi)<|xe (UC (Af rfl) (by rfl) G.ZK boot_max<|bz JE<|ln K G.len<|jx K (pv 2) JE)<|DV<|tz J8<|Ky<|sz<|Ue (Jx 2) J8)<|bc (sI (tc UG UB (xv 3) xi) (b1<|sF 5<|sR<|xt<|a3 xs (xv 5)<|xf Yu r<|a2 (xv 6)<|xf Yt r<|a2 (xv 1)<|xo JK JJ (xo Ub Uc (xv 6) xi)<|xx (xv 1) xi) b0)<|bc (sI (tc UG UB (xv 3) xi) (b1<|sF 5<|sR<|xt<|a3 xs (xv 5)<|xf YB r<|a3 (xv 6) (xx (xv 2) xi)<|xv 5) b0)<|bc (sI (tq r (xv 3) xi) (b1<|sF 5<|sR<|xt<|a2 xs<|xv 5) b0)<|bc (sS 7 n<|xf YT r<|a2 (xv 4)<|xv 1)<|bj (sI (tp<|wa (tq r (xv 3) xi)<|wa (tc UT UU (xo JK JJ (xv 4) xi) xi)<|wA<|te (X7 (L4 (K:=K)<|show _<cLine from(r ()).units0) (jx K (pv 2) JE) (X5 Xn)<|Xt _)<|Xj<|Ex (Ue (Jx 2) J8)<|X6 JV) (b1<|sS 7 n<|xx (xx (xv 2) xi)<|xo JK JJ (xo Ub Uc (xv 4) xi)<|xl G.len<|xx (xv 2) xi) b0)<|bc (sI (tc UG UB (xv 3) xi) (b1<|sR<|xt<|a3 (xx (xL<|a2 xs xs)<|xo Ub Uc (xv 3) xi) (xx (xv 7) xi)<|xx (xv 7) xi) b0)<|b1<|sR<|xt<|a1 xs)) (.a ?_)
 ·rintro ds R X ⟨c,m,f,w,es,rfl,hM,hz,hF,hw,H,B,hB⟩;refine⟨rfl,?_⟩;have Q:(10000:Nat)<=10 ^ 30:=by decide
  have two:∀{u v:Int},u.natAbs<=10 ^ 30->v.natAbs<=10 ^ 30->∀n∈[u,v],n.natAbs<=10 ^ 30:=λhu x n y=>by
   rcases Wu.mp y with rfl|y
   ·exact hu
   ·rw[Wl.mp y];exact x
  have C:=hM;have s:atI (plD f::plD w::es) 1=some (plD w):=PJ (by decide) rfl;have hl:(f.map prD).length=f.length:=Wg ..;have hlw:(w.map prD).length=w.length:=Wg ..;have L:∀z:Int,0<(if z>1 then z else 1)/\((if z>1 then z else 1)=z\/(if z>1 then z else 1)=1):=λz=>by split<;>lia
  have A:=L (((f.map prD).length:Nat):Int);refine⟨(by show(0:Int)<9;decide),⟨by decide,by decide⟩,_,Ux _ _,_,f,rfl,hz,λp E=>?_⟩;refine⟨⟨by decide,by decide⟩,_,Ux _ _,⟨A.1,Int.lt_of_le_of_lt (b:=1000) (by rcases A.2 with w|w<;>rw[w]<;>lia) (by decide)⟩,?_⟩
  obtain⟨m0,m1,m2,m3,m4,em,ha,hb,hc,hd,he⟩:=hM;have i0:atI (m.map D.int) 0=some (.int m0):=by rw[em];rfl
  refine J2 (λ_=>?_) (λ_=>J2 (λ_=>?_) (λ_=>J2 (λ_=>?_) (λg4=>?_)))
  ·exact⟨⟨by decide,by decide⟩,_,i0,(by show 0<m0;lia),m,_,rfl,C,λh p1 p2 _=>⟨_,_,rfl,Wk (show _<=10000 by lia) Q,λv x=>⟨by simp,B (.sell p v) (two E x)⟩⟩⟩
  ·exact⟨_,Ux _ _,_,f,p,rfl,hz,hF,λv x=>⟨by simp,B (.part p v) (two E x)⟩⟩
  ·exact⟨by simp,B (.unite p) (λn y=>by rw[Wl.mp y];exact E)⟩
  ·refine⟨_,m,rfl,C,λa b o l=>?_⟩;refine TU (λt=>∃(a b:Int) (Y U T:Option S),(a.natAbs<=10 ^ 30/\b.natAbs<=10 ^ 30)/\t=[some (.sh<|.int c),some (.bor<|.lst<|m.map D.int),some (.bor<|.tup (plD f::plD w::es)),some (.sh<|.int (c % 9)),Y,U,T,some (.sh<|prD (a,b))]) ?_ ?_
   ·refine J2 (λ_=>⟨(by show(0:Int)<4;decide),J2 (λ_=>⟨_,s,by simp,?_⟩) (λ_=>JN ⟨a,b,_,_,_,⟨o,l⟩,rfl⟩)⟩) (λ_=>JN ⟨a,b,_,_,_,⟨o,l⟩,rfl⟩);have N:(w.map prD).isEmpty=decide (w=[]):=by cases w<;>simp
    show if (!(w.map prD).isEmpty)=true then _ else _;rw[N];refine J2 (λg=>?_) (λg=>⟨a,b,_,_,_,⟨o,l⟩,rfl⟩);have J:w≠[]:=λz=>by rw[Wh z]at g;cases g
    have E:0<w.length:=QJ.mpr J;have q1:=Q4 (c / 9 / 4) (show(((w.map prD).length:Nat):Int)≠0 by lia);have q2:=Qq (c / 9 / 4) (show 0<(((w.map prD).length:Nat):Int) by lia);exact⟨_,s,⟨by decide,by decide⟩,_,s,(by show 0<(((w.map prD).length:Nat):Int);lia),_,KA (f:=prD) (xs:=w) q1 (by lia),_,_,_,_,_,H _ (WN _),rfl⟩
   ·rintro t ⟨a,b,Y,U,T,⟨o,l⟩,rfl⟩;refine J2 (λg=>?_) (λg=>⟨by simp,hB⟩);have g':c % 9<8:=Wi g;have hk:c % 9 / 7=0\/c % 9 / 7=1:=by lia
    have ex:∃k:Str,atI [D.str "wish",.str "drop"] (c % 9 / 7)=some (.str k)/\(k=("wish" : Str)\/k=("drop" : Str)):=by
     rcases hk with e|e<;>rw[e]
     ·exact⟨_,rfl,.inl rfl⟩
     ·exact⟨_,rfl,.inr rfl⟩
    obtain⟨k,ek,M⟩:=ex;refine⟨by simp,⟨by decide,by decide⟩,_,ek,_,Ux _ _,_,Hu _ _ (.inr rfl),by simp,?_⟩;rcases M with rfl|rfl
    ·exact B (.wish a b) (two o l)
    ·exact B (.drop a b) (two o l)
def Rl(DD:Def K mg "_law_due" NV ["_law_past","_law_deed_here"])
  : DT ζ:=by
 refine DD.fz HL (λs n=>(bc (sO [2] Qg (ie (SG (K:=K)<|Ks (NA (K:=K)) (pv 1) (XU JE) KL)<|N0<|Br (Jx 1) (Ka J8) K9) (gN 2)<|b1<|sI (tp<|wo (tc UG UB (xv 2) xi)<|wO<|tc UT UU (xv 2) xi) (b1<|se (JH JD)<|Ul JC) b0)<|bc (sI (tq s (xx (xv 1) xi) xs) (bc (sI (tq s (xl G.len<|xv 0) xi) (b1<|se (JH JD)<|Ul JC) b0)<|b1<|se (JH<|fz Yx (s ())<|az<|jx K (T8 WL Qs Qt Tn<|pv 0) JE)<|UM<|A7 (Gb<|RE 0) JV) b0)<|bc (sF 1<|sS 3 n<|xe (fz YQ (s ())<|bz (jx K (pv 0)<|X9 X4 JE)<|pv 1)<|BR<|tz (Ue (Jx 0)<|X8 J8)<|Jx 1)<|bc (sI (tc UT UU (xx (xv 3) xi) xi) (b1<|se (JH<|Kp A5 JD<|fz YC (s ())<|az<|jx K (pv 3) JE)<|Ul<|Aa JC<|Nf<|sz<|Ue (Jx 3) J8) b0)<|bc (sF 1<|sA 0<|xt<|a3 (xx (xv 3) xi) (xx (xv 3) xi)<|xv 1)<|b1<|se (JH<|Kp A5 JD<|Xx Nw (by rfl) G.Z0 boot_str<|az<|Kp U2 (ln K G.len<|pv 0) JE)<|Ul<|Aa JC<|NJ<|sz<|U0 (Ky<|sz<|Jx 0) J8)) (.c ?_)
 ·rintro o ss R X ⟨a,f0,f,q,rfl,rfl,hz,hf,hm,J⟩;refine⟨rfl,?_⟩;obtain⟨⟨h1,h2⟩,h3⟩:=hf.cur;have hs1:(10000:Nat)<=sizeLine:=by decide
  rcases J with⟨rfl,hN,p⟩|⟨d,rfl,hB,p⟩
  ·have Q:cutD [D.str ("back" : Str)] (some 1) none=([]:ZZ).map D.int:=by rw[Xv _ (by decide)];rfl
   refine⟨_,rfl,by decide,([]:ZZ).map D.int,W9 some Q,?_⟩;show P6 _ _ _ _ _ (([]:ZZ).map D.int).length (λi=>S.sub (.sh .non) ((([]:ZZ).map D.int).getD i .non));refine SU (xs:=([]:ZZ)) (emb:=D.int) (λi l=>l=[some (.own<|.lsA a<|JU f0 f),some (.sh<|.tup [.str "back"]),none,none]) rfl (λi B=>by cases B) ?_;rintro l rfl;refine⟨_,rfl,?_⟩;have A:=PL f0 f;rcases Qb f with rfl|⟨h,y,rfl⟩
   ·exact⟨_,rfl,rfl,hN rfl⟩
   ·rw[Qr]at A p hm ⊢;show if decide ((((JU f0 (h++[y])).length:Nat):Int)=1)=true then _ else _;rw[Wx (by rw[A,Wr,Qi];lia)];have C:(JU f0 (h++[y])).length=h.length+2:=by rw[PL,Wr,Qi]
    have M:(JU f0 (h++[y]))[(JU f0 (h++[y])).length-1]?=some (Py y):=by
     rw[C,BE,WH (by rw[PL];lia),PL];rw[show h.length+2-1-(h.length+1)=0 by lia];rfl
    have N:(JU f0 (h++[y])).dropLast=JU f0 h:=by rw[BE,Qe]
    refine JN ⟨_,M,?_⟩;rw[N];have E:∀v∈[("sell" : Str), "part","unite","wish","drop"],v.length<=6:=by decide +kernel
    have h6:=E y.1.q.1 (by cases y.1<;>simp[Dd.q]);have hb:∀n∈y.1.q.2,n.natAbs<=10 ^ 30:=λn r=>Wk (show n.natAbs<=1000 by have:=hm y (by simp) n r;lia) (by decide);exact⟨_,rfl,y.1.q,rfl,h6,y.1.q_len,hb,_,rfl,_,rfl,rfl,p h y rfl⟩
  ·have hq2:=d.q_len;have Q:cutD (D.str d.q.1::d.q.2.map D.int) (some 1) none=d.q.2.map D.int:=by rw[Xv _ (by decide)];rfl
   refine⟨_,rfl,?_,d.q.2.map D.int,W9 some Q,?_⟩
   ·rintro⟨z,_⟩;rw[show(1:Int)=((1:Nat):Int)from rfl,HT.Kk,W5]at z
    lia
   show P6 _ _ _ _ _ (d.q.2.map D.int).length (λi=>S.sub (.sh .non) ((d.q.2.map D.int).getD i .non));refine SU (xs:=d.q.2) (emb:=D.int) (λi l=>(∀n∈d.q.2.take i,0<=n/\n<=9999)/\l=[some (.own<|.lsA a<|JU f0 f),some (.sh<|dD d.q),none,none]) ⟨by simp,rfl⟩ ?_ ?_
   ·rintro i B l ⟨r,rfl⟩
    have x:¬(0<=d.q.2[i]/\d.q.2[i]<=9999)->R (.lsA a<|JU f0 f) (.str "refused: row"):=λz=>hB (by
     cases e:UY d.q.2 with
     |false=>rfl
     |true=>exact absurd (rowB_iff.mp e _<|WN B) z)
    refine J2 (λg=>⟨_,rfl,rfl,x ?_⟩) λg=>J2 (λu=>⟨_,rfl,rfl,x ?_⟩) λu=>⟨?_,rfl⟩
    ·have Y:d.q.2[i]<0:=Wi g;lia
    ·have U:9999<d.q.2[i]:=Wi u;lia
    ·rw[List.take_succ_eq_append_getElem B];intro n hm;rcases WC.mp hm with hm|hm
     ·exact r n hm
     ·rw[Wl.mp hm];have Y:¬d.q.2[i]<0:=λz=>g (Wh z);have U:¬9999<d.q.2[i]:=λz=>u (Wh z);lia
   rintro l ⟨r,rfl⟩;rw[List.take_length]at r;obtain⟨p,hC⟩:=p (rowB_iff.mpr r);obtain⟨dl,M⟩:=NQ f0 f;have A:=PL f0 f;refine⟨_,Ux _ _,?_⟩;show if decide (d.q.1=("back" : Str))=true then _ else _;rw[Wx d.not_back];refine JN ⟨_,M,JM f0 f,JL f,[dl],d,rfl,h2,h3.1,_,rfl,?_⟩
   have t:0<=codeN (d.err (JM f0 f)<|JL f)/\codeN (d.err (JM f0 f)<|JL f)<=11:=by
    cases d.err (JM f0 f) (JL f)with
    |none=>exact⟨by decide,by decide⟩
    |some c=>unfold codeN;dsimp only;(repeat' split)<;>decide
   have H:∀k,(Kt k).length<=10:=λk=>by unfold Kt;(repeat' split)<;>decide +kernel
   have hpl:("refused: " : Str).length=9:=by decide +kernel
   by_cases e:d.err (JM f0 f) (JL f)=none
   ·have ea:UQ f0 f d=f++[(d,d.fld (JM f0 f),d.wsh (JL f))]:=by unfold UQ;rw[Wm e]
    have p:=p e;rw[ea,BE]at p;show if decide (codeN (d.err (JM f0 f)<|JL f)>0)=true then _ else _;rw[e];refine JN ⟨_,rfl,_,rfl,by simp,by lia,?_⟩;have en:d.nf (JM f0 f) (JL f)=d.fld (JM f0 f):=by unfold Dd.nf;rw[Wm e]
    have ew:d.nw (JM f0 f) (JL f)=d.wsh (JL f):=by unfold Dd.nw;rw[Wm e]
    rw[en,ew];have L:(((JU f0 f++[D.tup [plD (d.fld<|JM f0 f),plD (d.wsh<|JL f),dD d.q]]).length:Nat):Int)-1=(f.length:Int)+1:=by rw[Wr,Qi,A];lia
    have r:((f.length:Int)+1).natAbs<=10 ^ 30:=Wk (show _<=1001 by lia) (by decide);have T:=T1 r;have u:=(K8 r).2;have hd5:("done " : Str).length=5:=by decide +kernel
    rw[←L]at T u p;exact⟨T,by show("done " : Str).length+(nS _).length<=sizeLine;lia,_,rfl,rfl,p⟩
   ·show if decide (codeN (d.err (JM f0 f)<|JL f)>0)=true then _ else _;rw[Wh (Dd.code_pos e)];refine Ur ⟨_,rfl,_,rfl,t.1,t.2,?_,_,rfl,rfl,hC e⟩;show("refused: " : Str).length+(Kt _).length<=sizeLine
    have:=H (codeN<|d.err (JM f0 f)<|JL f)
    lia
def Za3(A:Def K mg "do_deed" B0 ["village","word","numbers"])
  : Ct ζ:=by
 refine A.fy Gh (λt n=>(bc (sI (tq t (xv 1) xs) (b1<|se (JH<|Xw YV G.Za (hq<|t ()) ExcR.JY (pv 0)<|bz (jx K (pv 2) JE)<|jx K (pv 2) JE)<|UM<|KE 0 OT<|tz (Ue (Jx 2) J8)<|Ue (Jx 2) J8) b0)<|bc (sI (tq t (xv 1) xs) (b1<|se (JH<|Xw YW G.Za (hq<|t ()) ExcR.JY (pv 0)<|bz (jx K (pv 2) JE)<|jx K (pv 2) JE)<|UM<|KE 0 Rm<|tz (Ue (Jx 2) J8)<|Ue (Jx 2) J8) b0)<|bc (sI (tq t (xv 1) xs) (b1<|se (JH<|Xw YX G.Za (hq<|t ()) ExcR.JY (pv 0)<|az<|jx K (pv 2) JE)<|UM<|KE 0 Ii<|sz<|Ue (Jx 2) J8) b0)<|bc (sI (tq t (xv 1) xs) (b1<|se (JH<|Xw YY G.Za (hq<|t ()) ExcR.JY (pv 0)<|bz (jx K (pv 2) JE)<|jx K (pv 2) JE)<|UM<|KE 0 ML<|tz (Ue (Jx 2) J8)<|Ue (Jx 2) J8) b0)<|b1<|se (JH<|Xw YJ G.Za (hq<|t ()) ExcR.JY (pv 0)<|bz (jx K (pv 2) JE)<|jx K (pv 2) JE)<|UM<|KE 0 GL<|tz (Ue (Jx 2) J8)<|Ue (Jx 2) J8)) (.c ?_)
 ·rintro o B R X ⟨x,b1,s,r,bk,fs,l,f,w,d,rfl,rfl,v,u,hw,y,z,g⟩;refine⟨rfl,?_⟩;cases d with
  |sell p h=>
   refine⟨rfl,rfl,_,rfl,_,rfl,x,b1,s,r,bk,fs,l,f,w,p,h,rfl,rfl,v,u,hw,y,?_⟩;have g:Uk (Nl bk f p h) (X<|vO (ExcR.J0 mg "Village") x b1 s r bk (fs++[f]) (l++[w])) (R (vO (ExcR.J0 mg "Village") x b1 s r (bk++[(Dd.sell p h).q]) (fs++[f]++[(Dd.sell p h).fld f]) (l++[w]++[(Dd.sell p h).wsh w]))<|.int (bk.length+1)):=g;cases e:Nl bk f p h with
   |some c=>rw[e]at g;exact⟨_,rfl,⟨rfl,by simp⟩,g⟩
   |none=>rw[e]at g;exact⟨_,rfl,⟨rfl,by simp⟩,g⟩
  |part p h=>
   refine⟨rfl,rfl,_,rfl,_,rfl,x,b1,s,r,bk,fs,l,f,w,p,h,rfl,rfl,v,u,hw,y,?_⟩;have g:Uk (Nk bk f p h) (X<|vO (ExcR.J0 mg "Village") x b1 s r bk (fs++[f]) (l++[w])) (R (vO (ExcR.J0 mg "Village") x b1 s r (bk++[(Dd.part p h).q]) (fs++[f]++[(Dd.part p h).fld f]) (l++[w]++[(Dd.part p h).wsh w]))<|.int (bk.length+1)):=g;cases e:Nk bk f p h with
   |some c=>rw[e]at g;exact⟨_,rfl,⟨rfl,by simp⟩,g⟩
   |none=>rw[e]at g;exact⟨_,rfl,⟨rfl,by simp⟩,g⟩
  |unite p=>
   refine⟨rfl,rfl,_,rfl,x,b1,s,r,bk,fs,l,f,w,p,rfl,rfl,v,u,hw,y,?_⟩;have g:Uk (Nh bk f p) (X<|vO (ExcR.J0 mg "Village") x b1 s r bk (fs++[f]) (l++[w])) (R (vO (ExcR.J0 mg "Village") x b1 s r (bk++[(Dd.unite p).q]) (fs++[f]++[(Dd.unite p).fld f]) (l++[w]++[(Dd.unite p).wsh w]))<|.int (bk.length+1)):=g;cases e:Nh bk f p with
   |some c=>rw[e]at g;exact⟨_,rfl,⟨rfl,by simp⟩,g⟩
   |none=>rw[e]at g;exact⟨_,rfl,⟨rfl,by simp⟩,g⟩
  |wish p h=>
   refine⟨rfl,rfl,_,rfl,_,rfl,x,b1,s,r,bk,fs,l,f,w,p,h,rfl,rfl,v,u,hw,z,?_⟩;have g:Uk (T9 bk w p h) (X<|vO (ExcR.J0 mg "Village") x b1 s r bk (fs++[f]) (l++[w])) (R (vO (ExcR.J0 mg "Village") x b1 s r (bk++[(Dd.wish p h).q]) (fs++[f]++[(Dd.wish p h).fld f]) (l++[w]++[(Dd.wish p h).wsh w]))<|.int (bk.length+1)):=g;cases e:T9 bk w p h with
   |some c=>rw[e]at g;exact⟨_,rfl,⟨rfl,by simp⟩,g⟩
   |none=>rw[e]at g;exact⟨_,rfl,⟨rfl,by simp⟩,g⟩
  |drop p h=>
   refine⟨rfl,rfl,_,rfl,_,rfl,x,b1,s,r,bk,fs,l,f,w,p,h,rfl,rfl,v,u,hw,z,?_⟩;have g:Uk (TM bk w p h) (X<|vO (ExcR.J0 mg "Village") x b1 s r bk (fs++[f]) (l++[w])) (R (vO (ExcR.J0 mg "Village") x b1 s r (bk++[(Dd.drop p h).q]) (fs++[f]++[(Dd.drop p h).fld f]) (l++[w]++[(Dd.drop p h).wsh w]))<|.int (bk.length+1)):=g;cases e:TM bk w p h with
   |some c=>rw[e]at g;exact⟨_,rfl,⟨rfl,by simp⟩,g⟩
   |none=>rw[e]at g;exact⟨_,rfl,⟨rfl,by simp⟩,g⟩
def RU(y:Def K mg "_law_stands" BH ["_law_village","_law_past"])
  : CU ζ:=by
 refine y.fz ET (λg n=>(bc (sI (tN<|tt<|xf Yy g<|a2 (xe (Us Yn G.Za (hq<|g ()) Uu<|pv 0)<|UX KN (Jx 0) JV)<|xx (xx (xv 1)<|xe (X9 X4 JE)<|X8 J8) xi) (b1<|sR xb) b0)<|bc (sI (tN<|tt<|xf Yy g<|a2 (xe (Us Yo G.Za (hq<|g ()) Uu<|pv 0)<|UX KQ (Jx 0) JV)<|xx (xx (xv 1)<|xe (X9 X4 JE)<|X8 J8) xi) (b1<|sR xb) b0)<|b1<|sR<|xf YZ g<|a2 (xe (Us Y3 G.Za (hq<|g ()) Uu<|pv 0)<|UX HY (Jx 0) JV)<|xe (cz ["_law_one"] [none] (P7 (K:=K)<|Ks (T6 (K:=K)) (pv 1) (XU JE) KL) ⟨(gk 0),Pa,(jx K (pv 0) JE)⟩)<|KU (MN (Jx 1) (Ka J8) K9) (XI 0) KG<|Ue (Jx 0) J8)) (.a ?_)
 ·rintro J R X ⟨f0,f,rfl,C,s,hw,t⟩;refine⟨rfl,?_⟩;obtain⟨fs,p,A⟩:=SX f0 f;obtain⟨r,l,z⟩:=NH f;obtain⟨d,o⟩:=NQ f0 f;have H:(JM f0 f).length<=1000:=s _ (by rw[p];simp);have E:(JL f).length<=1000:=hw _ (by rw[l];simp);have B:=Cq f
  have x:∀q∈bkH f,q.2.length<=100:=λq hq=>by
   unfold bkH at hq;obtain⟨h,_,rfl⟩:=WM.mp hq
   have:=h.1.q_len
   lia
  have u:cutD (JU f0 f) (some 1) none=f.map Py:=by
   rw[Xv _ (by decide)];rfl
  refine⟨rfl,rfl,bkH f,fs,wsH f,JM f0 f,by rw[←p];rfl,?_⟩;refine⟨_,o,_,rfl,JM f0 f,rfl,by lia,JN ?_⟩;refine⟨rfl,rfl,bkH f,fsH f0 f,r,JL f,by rw[←l];rfl,?_⟩;refine⟨_,o,_,rfl,JL f,rfl,by lia,JN ?_⟩;refine⟨rfl,rfl,bkH f,fsH f0 f,wsH f,rfl,?_⟩;show X3 _ _ _ _ _ (cutD (JU f0 f) (some 1) none).length (λi=>arg ((cutD (JU f0 f) (some 1) none).getD i .non)) _;rw[u];refine GF (xs:=f) (emb:=Py) (λh=>some (dD h.1.q)) (by lia) (λh _=>?_) ?_
  ·refine⟨_,rfl,_,?_,rfl⟩;show(arg<|dD h.1.q).shd=_;rw[T7];rfl
  ·rw[M4 (λh:Dd×ZY×ZY=>dD h.1.q)]
   have v:f.map (λh:Dd×ZY×ZY=>dD h.1.q)=(bkH f).map dD:=by
    unfold bkH;rw[Qd];rfl
   rw[v];exact⟨bkH f,rfl,x,by lia,t⟩
def HP(U:Def K mg "told_row" SK ["village","word","numbers"])
  : F3 ζ:=by
 refine U.fy AN (λh n=>(bc (sI (te (BP<|NX G.Z1<|pv 1)<|Bm<|Bk<|Jx 1) (bc (sF 2<|sF 1<|se (Pu.pz 3 AN.nd<|NF Wc (hq<|h ()) ExcR.JY<|dz (pv 0) (pv 1)<|pv 2)<|AL (Hz 0<|tz (Jx 1)<|Jx 2)<|XI 3)<|b1<|se (JH<|ExcR.XX<|ExcR.UW<|ExcR.XW (pv 3) ExcR.XN)<|Ul<|XS<|UV<|Kg (Jx 3) Kc) b0)<|bc (sI (tq h (xv 1) xs) (b1<|se (JH<|fz YL (h ())<|az<|Us Y4 G.Za (hq<|h ()) ExcR.JY<|pv 0)<|UM<|A7 (KE 0 OX JV) JV) b0)<|b1<|se T4 Tq)) (.c ?_)
 ·rintro o Y R X ⟨x,b1,C,B,bk,fs,E,rfl,word,ns,rfl,s⟩;refine⟨rfl,?_⟩;rcases s with⟨u,p,f,w,d,rfl,rfl,rfl,rfl,M,L,hw,H,J,g⟩|⟨rfl,rfl,T,A,N,g⟩
  ·have t:(List.lookup d.q.1 [(("sell" : Str),(2:Int)),("part",2),("unite",1),("wish",2),("drop",2)]).isSome=true:=by cases d<;>rfl
   show if (List.lookup d.q.1 [(("sell" : Str),(2:Int)),("part",2),("unite",1),("wish",2),("drop",2)]).isSome=true then _ else _;rw[t];refine Ur ⟨x,b1,C,B,bk,u,p,f,w,d,rfl,rfl,M,L,hw,H,J,?_⟩;cases e:Xi bk f w d with
   |some c=>
    rw[e]at g;exact⟨_,rfl,⟨rfl,by simp⟩,g⟩
   |none=>
    rw[e]at g;have l:((bk.length:Int)+1).natAbs<=10 ^ 30:=Wk (show _<=1001 by lia) (by decide);have A:=(K8 l).2;have hs:(1000:Nat)<=sizeLine:=by decide
    have y:(Str.empty++("done " : Str)).length=5:=by decide +kernel
    have v:(Str.empty++("done " : Str)++nS ((bk.length:Int)+1)).length<=sizeLine:=by rw[G9,y];lia
    refine⟨by rw[y];lia,T1 l,v,v,?_⟩;refine⟨_,rfl,⟨rfl,by simp⟩,?_⟩;have g:R _ (.str (("done " : Str)++nS ((bk.length:Int)+1))):=g;rw[←PySem.W.KT.empty_app ("done " : Str)]at g;exact g
  ·refine⟨rfl,rfl,x,b1,C,B,bk,fs,E,rfl,rfl,T,A,λz=>⟨_,rfl,⟨rfl,by simp⟩,N z⟩,λb0 q z=>?_⟩;obtain⟨Q,r,l,g⟩:=g b0 q z;exact⟨q,rfl,Q,r,l,_,rfl,_,rfl,⟨rfl,by simp⟩,g⟩
def IL(T:Def K mg "told_or_refused" SE ["village","word","numbers"])
  : Fg ζ:=by
 refine T.fz Am (λB n=>(b1<|se (ExcR.OV (λpins D=>(Uw<|JH<|ExcR.Zal Wd (hq<|B ()) (ExcR.MQ (pins:=pins) (D:=D) rfl rfl<|ExcR.UR rfl G.Zf (by decide) (λa=>(Uw<|JH JD))<|ExcR.UR rfl G.Zs (by decide) (λa=>(Uw<|JH JD))<|ExcR.UR rfl G.Zl (by decide) (λa=>(Uw<|JH JD))<|ExcR.UR rfl G.Zu (by decide) (λa=>(Uw<|JH JD))<|ExcR.UR rfl G.Zx (by decide) (λa=>(Uw<|JH JD))<|ExcR.UR rfl G.Zi (by decide) (λa=>(Uw<|JH JD))<|ExcR.UR rfl G.Zy (by decide) (λa=>(Uw<|JH JD))<|ExcR.UR rfl G.Zm (by decide) (λa=>(Uw<|JH JD))<|ExcR.UR rfl G.Zq (by decide) (λa=>(Uw<|JH JD))<|ExcR.UR rfl G.Zj (by decide) (λa=>(Uw<|JH JD))<|ExcR.UR rfl G.Zz (by decide) (λa=>(Uw<|JH JD))<|ExcR.UR rfl G.Zv (by decide) (λa=>(Uw<|JH JD))<|ExcR.UR rfl G.Zn (by decide) (λa=>(Uw<|JH JD))<|ExcR.UR rfl G.ZA (by decide) (λa=>(Uw<|JH JD))<|ExcR.UR rfl G.ZG (by decide) (λa=>(Uw<|JH JD))<|ExcR.Zau (i:=3) Am.nd rfl rfl rfl G.ZP (by decide) (λa=>(Ee T4<|Uw T4)) ExcR.RG)<|dz (pv 0) (pv 1)<|pv 2)))<|RM (E':=λ_=>E0) ["TooManyStrips","BadHolder","NoStrip","OwnStrip","BadPart","UnlikeHolders","TooWide","LikeHolders","WishStands","TooManyWishes","NoWish","BookFull","NothingDone"] ["TooManyStrips","BadHolder","NoStrip","OwnStrip","BadPart","UnlikeHolders","TooWide","LikeHolders","WishStands","TooManyWishes","NoWish","BookFull","NothingDone","NoSuchDeed","BadOrder","Ringed"] (G.ex.sub (by decide)<|by decide) (.cons (Ul JC)<|.cons (Ul JC)<|.cons (Ul JC)<|.cons (Ul JC)<|.cons (Ul JC)<|.cons (Ul JC)<|.cons (Ul JC)<|.cons (Ul JC)<|.cons (Ul JC)<|.cons (Ul JC)<|.cons (Ul JC)<|.cons (Ul JC)<|.cons (Ul JC)<|.cons (Ul JC)<|.cons (Ul JC) (.cons (Ao Tq
    Tq)
    .nil)) (λD=>(Su 2<|Su 1<|UM<|Gr 0<|tz (Jx 1)<|Jx 2)))) (.c ?_)
 ·rintro o U R X ⟨x,b1,u,t,bk,fs,v,rfl,word,Y,rfl,s⟩;refine⟨rfl,?_⟩;rcases s with⟨l,h,f,w,d,rfl,rfl,rfl,rfl,H,E,hw,y,A,g,L⟩|⟨rfl,rfl,Q,N,J,g⟩
  ·refine⟨x,b1,u,t,bk,l++[f],h++[w],rfl,_,_,rfl,.inl ⟨l,h,f,w,d,rfl,rfl,rfl,rfl,H,E,hw,y,A,?_⟩⟩;cases e:Xi bk f w d with
   |none=>exact⟨_,rfl,⟨rfl,by simp⟩,g e⟩
   |some c=>
    have g:=L c e
    have p:c = "BookFull"\/d.err f w=some c:=by
     unfold Xi at e;split at e
     ·exact .inl (Wt e).symm
     ·exact .inr e
    rcases p with rfl|p
    ·rw[show UI "BookFull" = "refused: full" by decide +kernel]at g;exact .inl ⟨by simp,_,rfl,⟨rfl,by simp⟩,g⟩
    ·rcases d.err_cases f w with z|z|z|z|z|z|z|z|z|z|z|z<;>rw[z]at p<;>cases p
     ·rw[show UI "NoStrip" = "refused: place" by decide +kernel]at g;exact .inl ⟨by simp,_,rfl,⟨rfl,by simp⟩,g⟩
     ·rw[show UI "BadHolder" = "refused: holder" by decide +kernel]at g;exact .inl ⟨by simp,_,rfl,⟨rfl,by simp⟩,g⟩
     ·rw[show UI "OwnStrip" = "refused: own" by decide +kernel]at g;exact .inl ⟨by simp,_,rfl,⟨rfl,by simp⟩,g⟩
     ·rw[show UI "BadPart" = "refused: part" by decide +kernel]at g;exact .inl ⟨by simp,_,rfl,⟨rfl,by simp⟩,g⟩
     ·rw[show UI "TooManyStrips" = "refused: strips" by decide +kernel]at g;exact .inl ⟨by simp,_,rfl,⟨rfl,by simp⟩,g⟩
     ·rw[show UI "UnlikeHolders" = "refused: unlike" by decide +kernel]at g;exact .inl ⟨by simp,_,rfl,⟨rfl,by simp⟩,g⟩
     ·rw[show UI "TooWide" = "refused: wide" by decide +kernel]at g;exact .inl ⟨by simp,_,rfl,⟨rfl,by simp⟩,g⟩
     ·rw[show UI "LikeHolders" = "refused: like" by decide +kernel]at g;exact .inl ⟨by simp,_,rfl,⟨rfl,by simp⟩,g⟩
     ·rw[show UI "WishStands" = "refused: twice" by decide +kernel]at g;exact .inl ⟨by simp,_,rfl,⟨rfl,by simp⟩,g⟩
     ·rw[show UI "TooManyWishes" = "refused: wishes" by decide +kernel]at g;exact .inl ⟨by simp,_,rfl,⟨rfl,by simp⟩,g⟩
     ·rw[show UI "NoWish" = "refused: unknown" by decide +kernel]at g;exact .inl ⟨by simp,_,rfl,⟨rfl,by simp⟩,g⟩
  ·refine⟨x,b1,u,t,bk,fs,v,rfl,_,_,rfl,.inr ⟨rfl,rfl,Q,N,λz=>.inl ⟨by simp,_,rfl,⟨rfl,by simp⟩,J z⟩,λb0 q z=>?_⟩⟩;obtain⟨M,r,C,g⟩:=g b0 q z;exact⟨M,r,C,_,rfl,⟨rfl,by simp⟩,g⟩
def LJ(DD:Def K mg "answer" By ["village","row"])
  : Dw ζ:=by
 refine DD.fz OW (λy n=>(bc (sS 2 n<|xe (Tb (K:=K) QA PySem.F.slot_str_split PySem.F.type_str_split Gw (pv 1)<|az JD)<|Iz (Jx 1) JC)<|bc (sI (tN<|tt<|xf YK y<|a2 (xx (xv 2) xi)<|xp (xv 2) (o1 xi) o0) (b1<|se (JH JD)<|Ul JC) b0)<|b1<|se (JH<|fz We (y ())<|dz (pv 0) (jx K (pv 2) JE)<|cz ["text"] [none] (P7 (K:=K)<|Ks (T6 (K:=K)) (pv 2) (XU JE) KL) ⟨(gk 0),Pa,(Xx Gj (by rfl) G.ZJ boot_int<|az<|pv 0)⟩)<|UM<|SM 0<|tz (Ue (Jx 2) J8)<|KU (Sf<|Ey (Jx 2) (Ka J8) K9) (XI 0) KG<|HN<|sz<|Jx 0)) (.c ?_)
 ·rintro o ss R X ⟨x,b1,Y,U,bk,fs,ws,rfl,t,rfl,L⟩;refine⟨rfl,?_⟩;have J:(" " : Str)=spc:=by decide +kernel
  have hs:(10000:Nat)<=sizeLine:=by decide
  rcases L with⟨u,p,f,w,d,rfl,rfl,rfl,hb,hf,hw,hz,hy,A,hB,l⟩|⟨rfl,B,Q,hN,l⟩
  ·have H:d.q.1.length<=6/\32∉d.q.1.cps.toList:=by
    have E:∀v∈[("sell" : Str), "part","unite","wish","drop"],v.length<=6/\32∉v.cps.toList:=by decide +kernel
    exact E d.q.1 (by cases d<;>simp[Dd.q])
   have r:=d.q_len
   have M:∀v∈d.q.1::d.q.2.map nS,32∉v.cps.toList:=λv g=>by
    rcases Wu.mp g with rfl|g
    ·exact H.2
    ·obtain⟨n,_,rfl⟩:=WM.mp g;exact EY n
   have N:∀v∈d.q.1::d.q.2.map nS,v.length<=32:=λv g=>by
    rcases Wu.mp g with rfl|g
    ·lia
    ·obtain⟨n,s,rfl⟩:=WM.mp g;exact(K8<|A n s).2
   have T:Txt.split (Str.join spc (d.q.1::d.q.2.map nS)) " " = d.q.1::d.q.2.map nS:=by rw[J];exact IX (by simp) M
   have hj:(Str.join spc (d.q.1::d.q.2.map nS)).length+2<=sizeLine:=by
    have B:=StrLaws.join_length_le spc (d.q.1::d.q.2.map nS);have Q:=StrLaws.sumLen_le _ N;have h3:(d.q.1::d.q.2.map nS).length=d.q.2.length+1:=by rw[W5,Wg]
    have h4:spc.length=1:=rfl;rw[h3]at B Q;rw[h4]at B;lia
   have C:cutD ((d.q.1::d.q.2.map nS).map D.str) (some 1) none=d.q.2.map λn=>D.str (nS n):=by
    rw[Xv _ (by decide)];show(d.q.2.map nS).map D.str=_;rw[Qd];rfl
   unfold K4;refine⟨rfl,hj,?_⟩;rw[T];refine⟨_,Ux _ _,rfl,d.q.1,d.q.2,W9 (λz=>[D.str d.q.1,D.lst z]) C,by cases d<;>simp[Dd.q],A,?_⟩;cases e:UY d.q.2 with
   |false=>exact Ur ⟨_,rfl,⟨rfl,by simp⟩,hB e⟩
   |true=>
    obtain⟨l,hC⟩:=l e;have y:=rowB_iff.mp e;refine JN ⟨_,Ux _ _,rfl,?_⟩;show X3 _ _ _ _ _ (cutD ((d.q.1::d.q.2.map nS).map D.str) (some 1) none).length (λi=>S.sub (.own<|.lst<|cutD ((d.q.1::d.q.2.map nS).map D.str) (some 1) none) ((cutD ((d.q.1::d.q.2.map nS).map D.str) (some 1) none).getD i .non)) _;rw[C];refine Kx (xs:=d.q.2) (emb:=λn=>D.str (nS n)) (λn=>some (.int n)) (by lia) (λn s=>?_) ?_
    ·have h:=y n s;exact⟨n,MU h.1 h.2,by have:=(DO h.1 h.2).2.1;lia,_,rfl,rfl⟩
    have em:d.q.2.filterMap (λn=>some (D.int n))=d.q.2.map D.int:=by rw[WZ]
    rw[em];exact⟨x,b1,Y,U,bk,u++[f],p++[w],rfl,_,_,rfl,.inl ⟨u,p,f,w,d,rfl,rfl,rfl,rfl,hb,hf,hw,hz,hy,λz=>⟨_,rfl,⟨rfl,by simp⟩,l z⟩,λc z=>⟨_,rfl,⟨rfl,by simp⟩,hC c z⟩⟩⟩
  ·have T:Txt.split ("back" : Str) " " = [("back" : Str)]:=by decide +kernel
   refine⟨rfl,Wk (show("back" : Str).length+2<=10000 by decide +kernel) hs,?_⟩;rw[T];refine⟨_,rfl,rfl, "back",[],rfl,by simp,by simp,JN ?_⟩;refine⟨_,rfl,rfl,?_⟩;have C:cutD ([("back" : Str)].map D.str) (some 1) none=[]:=by rw[Xv _ (by decide)];rfl
   show X3 _ _ _ _ _ (cutD ([("back" : Str)].map D.str) (some 1) none).length (λi=>S.sub (.own<|.lst<|cutD ([("back" : Str)].map D.str) (some 1) none) ((cutD ([("back" : Str)].map D.str) (some 1) none).getD i .non)) _;rw[C];refine Kx (xs:=([]:ZZ)) (emb:=D.int) (λn=>some (.int n)) (by simp) (λn s=>by cases s) ?_;refine⟨x,b1,Y,U,bk,fs,ws,rfl, "back",[],rfl,.inr ⟨rfl,rfl,B,Q,λz=>⟨_,rfl,⟨rfl,by simp⟩,hN z⟩,λb0 q z=>?_⟩⟩;obtain⟨h6,r,A,l⟩:=l b0 q z;exact⟨h6,r,A,_,rfl,⟨rfl,by simp⟩,l⟩
def Zaf(DD:Def K mg "law" Xs ["_law_script"])
  : Zbb ζ:=by
 refine DD.fz D2 (λp n=>(bc (sS 1 n<|xf Y7 p<|a1<|xf YM p<|a2 (xv 0) xi)<|bc (sS 2 n<|xf YR p<|a3 (xv 0) (xv 1)<|xo JK JJ (xo Ub Uc (xf Ym p<|a2 (xv 0) xi) xi) xi)<|bc (sS 3 n<|xe (G6 YU G.ZN (hq<|p ()) Lq<|az<|Xx (Pm (K:=K)) (by rfl) G.Zk boot_list<|az<|pv 2)<|RC<|sz<|Pj<|sz<|Jx 2)<|bc (sF 2<|sS 4 n<|xL<|a1<|xt<|a3 (xv 2) (xL a0)<|xt a0)<|bc (sS 5 n<|xf YD p<|a1<|xf YN p<|a1<|xv 0)<|bc (sS 6 n<|xf YS p<|a2 (xv 0) xi)<|bc (sN 4<|sO [7,8,9] Qg (ir G.Zg<|a1<|xo JS JQ (xl G.len<|xv 5)<|xl G.len<|xv 6) (gN 7)<|bc (sS 8 n<|xx (xo U7 U5 (xv 5)<|xL<|a1<|xt<|a1 xs)<|xe (UC (Zbg rfl) (by rfl) G.ZS boot_min<|bz (pv 7)<|ln K G.len<|pv 5)<|O9<|tz (Jx 7)<|Ky<|sz<|Jx 5)<|bj (sI (tc K6 K0 (xv 7)<|xl G.len<|xv 5) (b1<|sS 8 n<|xf Wa p<|a3 (xx (xv 6)<|xo U2 U0 (xv 7)<|xl G.len<|xv 5) (xv 1)<|xx (xv 4)<|xe (X9 X4 JE)<|X8 J8) b0)<|bc (se (Pu.pz 9 D2.nd<|fz Wf (p ())<|bz (pv 3)<|fz Yx (p ())<|az<|pv 8)<|AL (SM 3<|sz<|Nf<|sz<|Jx 8)<|XI 9)<|bc (sF 8<|sN 4<|se (Fx (PW.pt<|FU (Cu<|DE (K:=K)<|UC (Kd (K:=K)) (by rfl) G.Zc Qf<|bz (pv 9)<|XJ (v:=.ty "str") rfl G.Z0 boot_str rfl)<|CZ<|cn K (p ()) (pv 9)<|fz Wb (p ())<|bz (pv 4)<|pv 8) (Uw<|JH AB)
   Fu)<|Rz (HS (ME<|EE<|DN<|XZ<|tz (Jx 9) XO)<|GN (Jx 9)<|SM 4<|sz<|Jx 8) (AC AS) Ds)<|b1<|sI (tN<|tt<|xf Yz p<|a2 (xv 3)<|xv 4) (b1<|sR xb) b0)<|b1<|sR<|xf Yz p<|a2 (xv 3)<|xv 4)) (.a ?_)
 ·rintro ds R X ⟨B,rfl,hR⟩;refine⟨rfl,B,0,rfl,by decide,λc0=>⟨c0,rfl,λm hM=>?_⟩⟩;refine⟨B,0,rfl,by decide,⟨by decide,by decide⟩,(by show(0:Int)<41;decide),B,m,_,rfl,hM,by lia,by lia,λl hF hlen=>?_⟩;have hz:l.length<=40:=by lia
  refine⟨rfl,λx=>⟨x,l,rfl,rfl,by lia,?_⟩⟩;rw[R6 hF hz];refine λb1 T Q=>⟨rfl,?_⟩;refine⟨by simp,by simp,by simp,by simp,?_⟩;have hA0:FineH l []:=FineH.nil hF hz;refine⟨B,rfl,λsp=>⟨sp,rfl,λs hq p=>?_⟩⟩;refine⟨B,40,rfl,by decide,by decide,λu hc=>λa=>?_⟩;have lq:(s.map λq=>d3 "wish" q.1 q.2).length=s.length:=Wg ..;have lc:(u.map D.int).length=u.length:=Wg ..;refine⟨⟨by lia,by lia⟩,Ku (λi r=>∃f:Ug,f.length<=i/\FineH l f/\Sm f/\r=[some (.bor<|.scr B),some (.own<|m.map D.int),some (.sh<|plD l),some (.own<|vO (ExcR.J0 mg "Village") x b1 T Q (bkH f) (fsH l f)<|wsH f),some (.own<|.lsA a<|JU l f),some (.own (s.map λq=>d3 "wish" q.1 q.2)),some (.own<|u.map D.int),none,none,none]) ?_ ?_ ?_⟩
  ·exact⟨[],Wn _,hA0,λg hg=>(by cases hg),rfl⟩
  ·rintro i r hi ⟨f,L,o,t,rfl⟩;have hi':i<((((s.map λq=>d3 "wish" q.1 q.2).length:Nat):Int)+(((u.map D.int).length:Nat):Int)).toNat:=hi;obtain⟨q,J,H⟩:=HK s p (0+(i:Int)) (by lia);obtain⟨⟨c1,c2⟩,c3⟩:=o.cur;refine⟨by simp,by simp,rfl,rfl,by rw[lq];show _+1<=_;lia,q,J,?_⟩;refine TU (λr=>∃q:D,(q=.tup [.str "back"]\/∃d:Dd,q=dD d.q/\∀n∈d.q.2,n.natAbs<=10 ^ 30)/\r=[some (.bor<|.scr B),some (.own<|m.map D.int),some (.sh<|plD l),some (.own<|vO (ExcR.J0 mg "Village") x b1 T Q (bkH f) (fsH l f)<|wsH f),some (.own<|.lsA a<|JU l f),some (.own (s.map λq=>d3 "wish" q.1 q.2)),some (.own<|u.map D.int),some (.sh<|.int (0+(i:Int))),some (.sh q),none]) ?_ ?_
   ·refine J2 (λg=>?_) (λg=>⟨q,H,rfl⟩);have g':(((s.map λq=>d3 "wish" q.1 q.2).length:Nat):Int)<=0+(i:Int):=Wi g;obtain⟨dl,el⟩:=NQ l f;have hb:i-s.length<u.length:=by lia
    have ec:atI (u.map D.int) (0+(i:Int)-(((s.map λq=>d3 "wish" q.1 q.2).length:Nat):Int))=some (.int u[i-s.length]):=by
     rw[show 0+(i:Int)-(((s.map λq=>d3 "wish" q.1 q.2).length:Nat):Int)=((i-s.length:Nat):Int) by lia];exact Sz hb
    have Y:∀q∈JL f,q.1.natAbs<=10 ^ 30/\q.2.natAbs<=10 ^ 30:=λq hq=>by
     have h:=c3.2.2 q hq;exact⟨Wk (show _<=10 by lia) (by decide),Wk (show _<=10 by lia) (by decide)⟩
    exact⟨_,ec,_,el,_,m,JM l f,JL f,[dl],rfl,hM,by lia,c1,by have:=c3.1;lia,Y,λd M=>⟨_,.inr ⟨d,rfl,M⟩,rfl⟩,⟨_,.inl rfl,rfl⟩⟩
   rintro r ⟨q,hq,rfl⟩;clear J H;have lb:=Cq f;have lf:=LO l f;have lw:=Mj f;have E:∀v∈[("sell" : Str), "part","unite","wish","drop"],v.length<=6:=by decide +kernel
   rcases hq with rfl|⟨d,rfl,M⟩
   ·refine⟨("back",[]),rfl,by decide +kernel,by simp,by simp,x,b1,T,Q,bkH f,fsH l f,wsH f,rfl,_,rfl,.inr ⟨rfl,by lia,by lia,λz=>?_,λb0 q z=>?_⟩⟩
    ·obtain rfl:f=[]:=List.map_eq_nil_iff.mp z;refine⟨true,.same _,JN ?_⟩;exact⟨a,l,[],_,rfl,rfl,by simp,o,t,.inl ⟨rfl,λ_=>⟨l,[],rfl,by simp,(UZ o).1,(UZ o).2,JN ⟨[],Qx _,o,t,rfl⟩⟩,λh y z=>absurd z (by simp)⟩⟩
    ·rcases Qb f with rfl|⟨h,y,rfl⟩
     ·exact absurd z (by simp[bkH])
     rw[Qr]at L o t z ⊢;rw[D7]at z;obtain⟨rfl,e2⟩:=List.append_inj' z rfl;cases e2
     rw[Te,Nb,Qe,Qe];have C:FineH l h:=by have:=o.back;rwa[Qe]at this
     have U:Sm h:=λg hg n hn=>t g (WV _ hg) n hn;have hl1:h.length+1<=i:=by simpa using L
     have h6:=E y.1.q.1 (by cases y.1<;>simp[Dd.q]);have hb:∀n∈y.1.q.2,n.natAbs<=10 ^ 30:=λn hn=>Wk (show n.natAbs<=1000 by have:=t y (by simp) n hn;lia) (by decide);refine⟨h6,y.1.q_len,hb,true,.same _,JN ⟨a,l,h++[y],_,rfl,rfl,by simp;lia,o,t,.inl ⟨rfl,λz=>absurd z (by simp),λh' y' z=>?_⟩⟩⟩;obtain⟨rfl,e3⟩:=List.append_inj' z rfl;cases e3
     show if (!decide (K4 y.1.q=K4 y.1.q))=true then _ else _;rw[Wh rfl];exact JN ⟨l,h,rfl,by lia,(UZ C).1,(UZ C).2,JN ⟨h,by lia,C,U,rfl⟩⟩
   ·obtain⟨fs,ef,lf2⟩:=SX l f;obtain⟨ws,ew,lw2⟩:=NH f;have hi2:f.length<=60:=by lia
    have h6:=E d.q.1 (by cases d<;>simp[Dd.q]);have ed:Xi (bkH f) (JM l f) (JL f) d=d.err (JM l f) (JL f):=by unfold Xi;rw[Wo (by lia)]
    refine⟨d.q,rfl,h6,d.q_len,M,x,b1,T,Q,bkH f,fsH l f,wsH f,rfl,_,rfl,.inl ⟨fs,ws,JM l f,JL f,d,ef,ew,rfl,by lia,by lia,by lia,by lia,by have:=c3.1;lia,M,λe=>?_,λe=>⟨λz=>?_,λc z=>?_⟩⟩⟩
    ·refine⟨true,.same _,JN ⟨a,l,f,_,rfl,rfl,by lia,o,t,.inr ⟨d,rfl,λ_=>?_,λz=>absurd (e.symm.trans z) (by decide)⟩⟩⟩;exact⟨l,f,rfl,by lia,(UZ o).1,(UZ o).2,JN ⟨f,by lia,o,t,rfl⟩⟩
    ·rw[ed]at z;have N:UQ l f d=f++[(d,d.fld (JM l f),d.wsh (JL f))]:=by unfold UQ;rw[Wm z]
     have C:=o.add d;have U:=t.add o d;have kl:(UQ l f d).length=f.length+1:=by rw[N,Wr];rfl
     have eb:bkH f++[d.q]=bkH (UQ l f d):=by rw[N,D7]
     have ef2:fsH l f++[d.fld (JM l f)]=fsH l (UQ l f d):=by rw[N,Te]
     have ew2:wsH f++[d.wsh (JL f)]=wsH (UQ l f d):=by rw[N,Nb]
     rw[eb,ef2,ew2,lb];refine⟨true,.same _,JN ⟨a,l,f,_,rfl,rfl,by lia,o,t,.inr ⟨d,rfl,λA=>absurd (e.symm.trans A) (by decide),λ_=>⟨λ_=>?_,λA=>absurd z A⟩⟩⟩⟩;show if (!decide ((("done " : Str)++nS ((f.length:Int)+1))=(("done " : Str)++nS ((f.length:Int)+1))))=true then _ else _;rw[Wh rfl];exact JN ⟨l,UQ l f d,rfl,by lia,(UZ C).1,(UZ C).2,JN ⟨UQ l f d,by lia,C,U,rfl⟩⟩
    ·rw[ed]at z;refine⟨true,.same _,JN ⟨a,l,f,_,rfl,rfl,by lia,o,t,.inr ⟨d,rfl,λA=>absurd (e.symm.trans A) (by decide),λ_=>⟨λA=>absurd (z.symm.trans A) (by simp),λ_=>?_⟩⟩⟩⟩;show if (!decide (UI c=(("refused: " : Str)++Kt (codeN<|d.err (JM l f)<|JL f))))=true then _ else _;rw[z,Wh (Mo z)];exact JN ⟨l,f,rfl,by lia,(UZ o).1,(UZ o).2,JN ⟨f,by lia,o,t,rfl⟩⟩
  ·rintro r ⟨f,L,o,t,rfl⟩
   have hl:f.length<=200:=by
    have L:f.length<=((((s.map λq=>d3 "wish" q.1 q.2).length:Nat):Int)+(((u.map D.int).length:Nat):Int)).toNat:=L;lia
   exact⟨l,f,rfl,hl,(UZ o).1,(UZ o).2,hR⟩
end
end T
namespace T
open L2 Own M
def IT{l:PySem.W.OpenLaw}{w:World}{K:ZX}{h:Heap}{g:Yb}{fa:Addr}(X:K.In h)(f:h.Ns mainGlobals g)(hfa:g "law"=some (.ref fa)){n:Addr}(Vm:PySem.W.nsIn K mainGlobals "Village"=some (some<|.ref n))(Vp:PySem.W.plainGet K n Str.empty=true)(Vq:PySem.W.hasDictIn K n=true)(Vr:PySem.W.plainOver K n=true)(Vs:PySem.W.findIn K (.ref n) "__setattr__"=some (some<|.builtin "object.__setattr__"))(Vt:PySem.W.makesIn K n=true)(Vu:PySem.W.keepIn K (.ref n)=true)(Vv:PySem.W.findIn K (.ref n) "book"=some none)(Vw:PySem.W.findIn K (.ref n) "fields"=some none)(Vx:PySem.W.findIn K (.ref n) "wished"=some none)(a0:Pu.DI K "check_holder" Sx)(a1:Pu.DI K "check_width" Sl)(a2:Pu.DI K "check_strips" Sq)(a3:Pu.DI K "check_neighbours" S8)(a4:Pu.DI K "check_place" Nz)(a5:Pu.DI K "sold" B5)(a6:Pu.DI K "parted" Sd)(a7:Pu.DI K "united" SH)(a8:Pu.DI K "with_wish" Bg)(a9:Pu.DI K "without_wish" NL)(a10:Pu.MI K n "__init__" "Village.__init__" N8)(a11:Pu.MI K n "strips" "Village.strips" SN)(a12:Pu.MI K n "wishes" "Village.wishes" SO)(a13:Pu.MI K n "deeds" "Village.deeds" BO)(a14:Pu.MI K n "check_room" "Village.check_room" Nv)(a15:Pu.MI K n "enter" "Village.enter" S9)(a16:Pu.MI K n "sell" "Village.sell" Bw)(a17:Pu.MI K n "part" "Village.part" Bc)(a18:Pu.MI K n "unite" "Village.unite" Bt)(a19:Pu.MI K n "wish" "Village.wish" Nq)(a20:Pu.MI K n "drop" "Village.drop" BN)(a21:Pu.MI K n "take_back" "Village.take_back" SA)(a22:Pu.DI K "is_number" NR)(a23:Pu.DI K "is_row" BV)(a24:Pu.DI K "told_texts" Sw)(a25:Pu.DI K "told_deed" Bl)(a26:Pu.DI K "do_deed" B0)(a27:Pu.DI K "told_row" SK)(a28:Pu.DI K "told_or_refused" SE)(a29:Pu.DI K "answer" By)(a30:Pu.DI K "_law_at" Nr)(a31:Pu.DI K "_law_whole" Nx)(a32:Pu.DI K "_law_mix" BL)(a33:Pu.DI K "_law_draw" SB)(a34:Pu.DI K "_law_spare" Bz)(a35:Pu.DI K "_law_menu" NM)(a36:Pu.DI K "_law_holder" B6)(a37:Pu.DI K "_law_tuples" Sg)(a38:Pu.DI K "_law_deed_is" Sj)(a39:Pu.DI K "_law_book_is" Sa)(a40:Pu.DI K "_law_field_step" SQ)(a41:Pu.DI K "_law_wish_step" Sy)(a42:Pu.DI K "_law_step" Se)(a43:Pu.DI K "_law_stands" BH)(a44:Pu.DI K "_law_start" Bq)(a45:Pu.DI K "_law_days" B3)(a46:Pu.DI K "_law_odd" SJ)(a47:Pu.DI K "_law_place" SZ)(a48:Pu.DI K "_law_pair" Ny)(a49:Pu.DI K "_law_width" BU)(a50:Pu.DI K "_law_deed" Np)(a51:Pu.DI K "_law_row_of" Bf)(a52:Pu.DI K "_law_word" BJ)(a53:Pu.DI K "_law_due" NV)(a54:Pu.DI K "_law_filled" Bb){L:Addr}{T J:Yk}{Q:Array (Yj)}{U C E B t H:Value}(a55:PySem.W.nsIn K mainGlobals "law"=some (some<|.ref L))(l55:K.lookup L=some ⟨U,T,.func (PySem.W.fnOf "law" "law" (Xd Xs) (JT Xs) (Jy Xs) .none C E B J t H),Q⟩)(c55:PySem.W.codeIn K t "law"=true)(k55:PySem.W.keepIn K (.ref L)=true)(Vy:PySem.W.nsIn K mainGlobals "all"=some none)(Vz:PySem.W.nsIn K mainGlobals "bool"=some none)(V0:PySem.W.nsIn K mainGlobals "int"=some none)(V1:PySem.W.nsIn K mainGlobals "isinstance"=some none)(V2:PySem.W.nsIn K mainGlobals "len"=some none)(V3:PySem.W.nsIn K mainGlobals "list"=some none)(V4:PySem.W.nsIn K mainGlobals "max"=some none)(V5:PySem.W.nsIn K mainGlobals "min"=some none)(V6:PySem.W.nsIn K mainGlobals "range"=some none)(V7:PySem.W.nsIn K mainGlobals "str"=some none)(V8:PySem.W.nsIn K mainGlobals "tuple"=some none){VZ:Tok}(V9:PySem.W.nsIn K mainGlobals "HOLDERS"=some (some<|.int 10 VZ)){Ja:Tok}(VA:PySem.W.nsIn K mainGlobals "STRIPS"=some (some<|.int 40 Ja)){Jb:Tok}(VB:PySem.W.nsIn K mainGlobals "WIDEST"=some (some<|.int 1000 Jb)){Jc:Tok}(VC:PySem.W.nsIn K mainGlobals "MOST_WISHES"=some (some<|.int 20 Jc)){Jd:Tok}(VD:PySem.W.nsIn K mainGlobals "MOST_DEEDS"=some (some<|.int 100 Jd)){Je:Tok}(VE:PySem.W.nsIn K mainGlobals "FIGURES"=some (some<|.str "0123456789" Je)){Jf:Tok}(VF:PySem.W.nsIn K mainGlobals "MOST_FIGURES"=some (some<|.int 4 Jf)){d_DEEDS:Addr}{es_DEEDS:Array DictEntry}{n_DEEDS:Nat}(VG:PySem.W.nsIn K mainGlobals "DEEDS"=some (some<|.ref d_DEEDS))(zm_DEEDS:(d_DEEDS==sysModules)=false)(zl_DEEDS:K.lookup d_DEEDS=some ⟨.type "dict",none,.dict es_DEEDS n_DEEDS,#[]⟩)(ze_DEEDS:Own.Lits w.params es_DEEDS.toList [("sell",2),("part",2),("unite",1),("wish",2),("drop",2)]){d_OTHERS:Addr}{es_OTHERS:Array DictEntry}{n_OTHERS:Nat}(VH:PySem.W.nsIn K mainGlobals "OTHERS"=some (some<|.ref d_OTHERS))(zm_OTHERS:(d_OTHERS==sysModules)=false)(zl_OTHERS:K.lookup d_OTHERS=some ⟨.type "dict",none,.dict es_OTHERS n_OTHERS,#[]⟩)(ze_OTHERS:Own.Lits w.params es_OTHERS.toList [("back",0),("field",0),("wishes",0),("stood",1),("ring",0),("order",0),("cost",0),("moves",0),("offer",2)]){VI:Addr}(QW:Pu.EI K "TooManyStrips" VI){VJ:Addr}(QX:Pu.EI K "BadHolder" VJ){Jg:Addr}(Vn:Pu.EI K "BadWidth" Jg){VL:Addr}(QY:Pu.EI K "NoStrip" VL){VX:Addr}(QZ:Pu.EI K "BadOrder" VX){VM:Addr}(Va:Pu.EI K "OwnStrip" VM){VN:Addr}(Vb:Pu.EI K "BadPart" VN){VO:Addr}(Vc:Pu.EI K "UnlikeHolders" VO){VP:Addr}(Vd:Pu.EI K "TooWide" VP){VQ:Addr}(Ve:Pu.EI K "LikeHolders" VQ){VR:Addr}(Vf:Pu.EI K "WishStands" VR){VS:Addr}(Vg:Pu.EI K "TooManyWishes" VS){VT:Addr}(Vh:Pu.EI K "NoWish" VT){VU:Addr}(Vi:Pu.EI K "BookFull" VU){VV:Addr}(Vj:Pu.EI K "NothingDone" VV){VY:Addr}(Vk:Pu.EI K "NoSuchDeed" VY){Y:Addr}(Vo:PySem.W.nsIn K mainGlobals "Ringed"=some (some<|.ref Y))(x_Ringed:PySem.W.exmOne K (.ref Y) (.ref Y)=some true)(x_all:Pu.DK K [("Ringed",Y),("TooManyStrips",VI),("BadHolder",VJ),("NoStrip",VL),("OwnStrip",VM),("BadPart",VN),("UnlikeHolders",VO),("TooWide",VP),("LikeHolders",VQ),("WishStands",VR),("TooManyWishes",VS),("NoWish",VT),("BookFull",VU),("NothingDone",VV)] [("TooManyStrips",VI),("BadHolder",VJ),("NoStrip",VL),("OwnStrip",VM),("BadPart",VN),("UnlikeHolders",VO),("TooWide",VP),("LikeHolders",VQ),("WishStands",VR),("TooManyWishes",VS),("NoWish",VT),("BookFull",VU),("NothingDone",VV),("NoSuchDeed",VY),("BadOrder",VX),("Ringed",Y)]=true)
  : ∃fd:FuncData,(∀(s:Shared) (v:Value),BindsTo s fd ⟨[v],[]⟩ [("_law_script",v)])/\∀base:Heap,K.In base->base.Ns mainGlobals g->U3 l.prog w K g base CX0 8 fa fd ["_law_script"] (Pu.N2 K):=by
 have e:=hfa.symm.trans (W8 X f a55);cases e
 have Jh:=QW.c X f;have Ji:=QX.c X f;have Jj:=QY.c X f;have Jk:=QZ.c X f;have Jl:=Va.c X f;have Jm:=Vb.c X f;have Jn:=Vc.c X f;have Jo:=Vd.c X f;have Jp:=Ve.c X f;have Jq:=Vf.c X f;have Jr:=Vg.c X f;have Js:=Vh.c X f;have Jt:=Vi.c X f;have Ju:=Vj.c X f;have Jv:=Vk.c X f;have VW:=ExcR.NB (W8 X f Vo);have o:=ExcR.NB (W8 X f Vm);have G:Glob w K g:=⟨WJ X f Vy,WJ X f Vz,WJ X f V0,WJ X f V1,WJ X f V2,WJ X f V3,WJ X f V4,WJ X f V5,WJ X f V6,WJ X f V7,WJ X f V8,⟨_,W8 X f V9,⟨_,rfl⟩⟩,⟨_,W8 X f VA,⟨_,rfl⟩⟩,⟨_,W8 X f VB,⟨_,rfl⟩⟩,⟨_,W8 X f VC,⟨_,rfl⟩⟩,⟨_,W8 X f VD,⟨_,rfl⟩⟩,⟨_,W8 X f VE,⟨_,rfl⟩⟩,⟨_,W8 X f VF,⟨_,rfl⟩⟩,⟨⟨_,_,_,W8 X f VG,zm_DEEDS,zl_DEEDS,ze_DEEDS⟩⟩,⟨⟨_,_,_,W8 X f VH,zm_OTHERS,zl_OTHERS,ze_OTHERS⟩⟩,(QW.m X f),(QW.k X f),(QX.m X f),(QX.k X f),(Vn.m X f),(Vn.k X f),(QY.m X f),(QY.k X f),(QZ.m X f),(QZ.k X f),(Va.m X f),(Va.k X f),(Vb.m X f),(Vb.k X f),(Vc.m X f),(Vc.k X f),(Vd.m X f),(Vd.k X f),(Ve.m X f),(Ve.k X f),(Vf.m X f),(Vf.k X f),(Vg.m X f),(Vg.k X f),(Vh.m X f),(Vh.k X f),(Vi.m X f),(Vi.k X f),(Vj.m X f),(Vj.k X f),(Vk.m X f),(Vk.k X f),(by rw[VW];exact W8 X f Vo),(by rw[VW];exact x_Ringed),(by rw[←VW,←Jh,←Ji,←Jj,←Jl,←Jm,←Jn,←Jo,←Jp,←Jq,←Jr,←Js,←Jt,←Ju,←Jv,←Jk]at x_all;exact Pu.G3 x_all),(by rw[o];exact W8 X f Vm),(by rw[o];exact⟨Vp,Vq,Vr,Vs⟩),(by rw[o];exact Vv),(by rw[o];exact Vw),(by rw[o];exact Vx)⟩;have M:=Sk (st:=Xs) l55 c55 k55;have b55:=M.binds (ps:=["_law_script"]) λ_ _ _ _ _ _ us hl=>by obtain⟨_,rfl⟩:=Pu.P0 hl;rfl
 have D55:Def K g "law" Xs ["_law_script"]:=⟨_,_,M,W8 X f a55,b55⟩;refine⟨PySem.W.fnOf "law" "law" (Xd Xs) (JT Xs) (Jy Xs) .none C E B J t H,λs v=>.of_eq rfl,λbase _ _=>?_⟩;have C0:=@LF l.prog w K g base ⟨⟩ G (a0.e X f);have C1:=@Rx l.prog w K g base ⟨⟩ G (a1.e X f);have C3:=@Hw l.prog w K g base ⟨⟩ G (a3.e X f);have C4:=@Hi l.prog w K g base ⟨⟩ G (a4.e X f);have C9:=@GB l.prog w K g base ⟨⟩ G (a9.e X f);have r:=@MM l.prog w K g base ⟨⟩ G (a11.e o);have p:=@RD l.prog w K g base ⟨⟩ G (a12.e o);have C13:=@IK l.prog w K g base ⟨⟩ G (a13.e o);have y:=@EM l.prog w K g base ⟨⟩ G (a14.e o);have x:=@Rb l.prog w K g base ⟨⟩ G (a15.e o);have C21:=@Ib l.prog w K g base ⟨⟩ G (a21.e o);have C22:=@LG l.prog w K g base ⟨⟩ G (a22.e X f);have C24:=@MP l.prog w K g base ⟨⟩ (a24.e X f);have u:=@Ll l.prog w K g base ⟨⟩ G (a30.e X f);have C31:=@Za0 l.prog w K g base ⟨⟩ G (a31.e X f);have A:=@IM l.prog w K g base ⟨⟩ (a32.e X f);have C35:=@MR l.prog w K g base ⟨⟩ (a35.e X f);have N:=@Zar l.prog w K g base ⟨⟩ (a36.e X f);have C40:=@IB l.prog w K g base ⟨⟩ G (a40.e X f);have C41:=@LP l.prog w K g base ⟨⟩ G (a41.e X f);have C46:=@Lm l.prog w K g base ⟨⟩ (a46.e X f);have C47:=@RL l.prog w K g base ⟨⟩ G (a47.e X f);have C49:=@EO l.prog w K g base ⟨⟩ G (a49.e X f);have C51:=@Ru l.prog w K g base ⟨⟩ G (a51.e X f);have C52:=@Mu l.prog w K g base ⟨⟩ (a52.e X f);have C54:=@OQ l.prog w K g base ⟨⟩ G (a54.e X f);have C2:=LK ⟨⟩ G C0 C1 (a2.e X f);have C5:=HH ⟨⟩ G C0 C4 (a5.e X f);have C6:=Zas ⟨⟩ G C4 (a6.e X f);have C7:=Lo ⟨⟩ G C3 (a7.e X f);have C8:=Rn ⟨⟩ G C0 (a8.e X f);have C20:=MW ⟨⟩ G C9 r p y x (a20.e o);have C23:=M8 ⟨⟩ G C22 (a23.e X f);have C25:=IJ ⟨⟩ G C24 (a25.e X f);have C33:=R0 ⟨⟩ u A (a33.e X f);have C34:=Zaa ⟨⟩ u A (a34.e X f);have C37:=Lr ⟨⟩ G C31 (a37.e X f);have C38:=O6 ⟨⟩ G C31 (a38.e X f);have C42:=Za6 ⟨⟩ C40 C41 (a42.e X f);have C44:=IV ⟨⟩ G u A N (a44.e X f);have C45:=GA ⟨⟩ G u A (a45.e X f);have C48:=Ie ⟨⟩ G N C46 (a48.e X f);have C10:=IC ⟨⟩ G C2 (a10.j o Vt Vu);have C16:=Im ⟨⟩ G r p y x C5 (a16.e o);have C17:=HI ⟨⟩ G r p y x C6 (a17.e o);have C18:=L6 ⟨⟩ G r p y x C7 (a18.e o);have C19:=MS ⟨⟩ G r p y x C8 (a19.e o);have C39:=MO ⟨⟩ G C38 (a39.e X f);have C50:=HU ⟨⟩ G N C46 C47 C49 C48 (a50.e X f);have C53:=Rl ⟨⟩ G C51 C52 C42 (a53.e X f);have C26:=Za3 ⟨⟩ G C20 C16 C17 C18 C19 (a26.e X f);have C43:=RU ⟨⟩ G r p C13 C37 C39 (a43.e X f);have C27:=HP ⟨⟩ G C21 C25 C26 (a27.e X f);have C28:=IL ⟨⟩ G C27 (a28.e X f);have C29:=LJ ⟨⟩ G C23 C28 (a29.e X f);have C55:=Zaf ⟨⟩ G u C35 C51 C54 C33 C34 C44 C45 C10 C50 C53 C43 C29 D55;exact(C55.at (W8 X f a55) M D55).imp λ_ _ _ _ z=>Pu.Hn z
end T
namespace PySem.W.Fast
def I:True:=⟨⟩
def tw8772254830707086128:=I
def tw3665359073255481344:=I
def tw17561107507605245024:=I
def tw17757870815720808544:=I
def tw17829635555752781984:=I
def tw18303524624602943648:=I
def tw11237464289239391392:=I
def tw11112705050213081312:=I
def tw5349475732579170592:=I
def tw11159545207587081536:=I
def tw4921096052850970944:=I
def tw7700229359103449440:=I
def tw9296470274568068448:=I
def tw6139522012386824640:=I
def tw5762233847030680160:=I
def tw7658252667248980640:=I
def tw9071374617976392352:=I
def tw3078039827445206720:=I
def tw2826729765241168608:=I
def tw13155285844344973056:=I
def tw4332388515381189408:=I
def tw4535440933855581984:=I
def tw10455043736818175872:=I
def tw8094395605886623648:=I
def tw6090399813361051649:=I
def tw1662560581832003617:=I
def tw652166755985261633:=I
def tw228159456435942465:=I
def tw5425634938186692705:=I
def tw8242544658942081:=I
def tw8956044885736300673:=I
def tw3461924083510900897:=I
def tw4612666064077274305:=I
def tw8749585573137268929:=I
def tw9245078401202128193:=I
def tw1899653090396279137:=I
def tw17141794462224758113:=I
def tw13498378728735920481:=I
def tw10599940848384555393:=I
def tw4739773180101632481:=I
def tw16324900330965680609:=I
def tw4283748592143395329:=I
def tw6690104887140647457:=I
def tw18089726083457167969:=I
def tw12919056374837561953:=I
def tw4277820564150652609:=I
def tw10138962603465219809:=I
def tw12324489216248955617:=I
def tw6106815502735712065:=I
def tw11135184362235317057:=I
def tw9810657898421174113:=I
def tw10565524010965160801:=I
def tw4504299678007377889:=I
def tw4276673374924167137:=I
def tw9098403417642026018:=I
def tw448534153271127106:=I
def tw5641156676596802690:=I
def tw16747771899831203970:=I
def tw16787357445250253986:=I
def tw17251552356533877986:=I
def tw6231510468106410210:=I
def tw9868768682281623778:=I
def tw9688596426256120034:=I
def tw2427521829782952194:=I
def tw3077426226885209346:=I
def tw992951823186251010:=I
def tw8727331841609203042:=I
def tw6423261994218540418:=I
def tw13079238437536942530:=I
def tw2092533163175965122:=I
def tw12391985183947190722:=I
def tw7806157584248650210:=I
def tw4423051648083730946:=I
def tw10207854039102630466:=I
def tw4955261676506922562:=I
def tw9529854456245977762:=I
def tw3072587321145497250:=I
def tw10637717319771664034:=I
def tw4801702827406871202:=I
def tw7228562152133812930:=I
def tw7301606856734709474:=I
def tw2013974004051674882:=I
def tw8572332905542989730:=I
def tw5544900887701014434:=I
def tw9471944111679123394:=I
def tw3861755091144433602:=I
def tw11744290383700166691:=I
def tw13213049137371681859:=I
def tw9723179395287958595:=I
def tw2666069996860839139:=I
def tw8073820453324901603:=I
def tw1973250149931675875:=I
def tw16507758476590192899:=I
def tw8496092864594489603:=I
def tw1108289853496997315:=I
def tw10379986477391329731:=I
def tw9664708413119780323:=I
def tw8306517898491910627:=I
def tw6101845714296382979:=I
def tw8977664709214481955:=I
def tw13362360145893441059:=I
def tw3136053432086579747:=I
def tw9424508023636613699:=I
def tw15945370402510315203:=I
def tw16041258208056083171:=I
def tw8927076485158709987:=I
def tw13748432927589414627:=I
def tw3979666979601271587:=I
def tw10710738346649091875:=I
def tw1580308359647500099:=I
def tw14475881047577187171:=I
def tw933044900163594179:=I
def tw2502753080248543171:=I
def tw17262734235894736932:=I
def tw1250832763170738244:=I
def tw9891932046551409764:=I
def tw5179968049259934820:=I
def tw15657879210929682564:=I
def tw11594824322156101796:=I
def tw6916221931316095140:=I
def tw15171192060031955108:=I
def tw14613349084186564804:=I
def tw13105289935167086788:=I
def tw513262970975370468:=I
def tw9565713356500974820:=I
def tw6620117146743530724:=I
def tw103134808567576804:=I
def tw17890415057665404164:=I
def tw18395528026986068228:=I
def tw2514645318167252228:=I
def tw16139943091911221508:=I
def tw7053373675405908292:=I
def tw9371762010231152964:=I
def tw540493992291454276:=I
def tw121180534478352740:=I
def tw5445487308162726244:=I
def tw4517645580606116260:=I
def tw3761476684164548036:=I
def tw8928576056819121604:=I
def tw8665925289373488612:=I
def tw5298013698397363684:=I
def tw10021975066571105796:=I
def tw2289860145071741476:=I
def tw11290374072643118628:=I
def tw7322105592243455556:=I
def tw9434663395757724228:=I
def tw17361128802703235652:=I
def tw14147818175910344260:=I
def tw17034674700550063780:=I
def tw8168593911215249092:=I
def tw17648191668277865156:=I
def tw6670549104312806084:=I
def tw3051582923918243524:=I
def tw8028506094527599332:=I
def tw15307588397750417124:=I
def tw179523212156430116:=I
def tw1210284882866670404:=I
def tw2844196254538755908:=I
def tw14539111718703062884:=I
def tw16458189453218599812:=I
def tw4601588351103458180:=I
def tw2576506314908132228:=I
def tw16337789642249395108:=I
def tw14794640069940149156:=I
def tw933946678076150724:=I
def tw3451281419129114564:=I
def tw158288445198716900:=I
def tw5475210887655506949:=I
def tw16400766586725782533:=I
def tw1089559492316101669:=I
def tw4814027232083842213:=I
def tw2352809526069106853:=I
def tw721045959546706085:=I
def tw14139086186948664485:=I
def tw3080331916941750437:=I
def tw17423531083390384293:=I
def tw17837941048570201349:=I
def tw14519715742467831077:=I
def tw11904162296861074757:=I
def tw5596292116312637797:=I
def tw2856505950181045637:=I
def tw13811312109316036997:=I
def tw13891902098461859237:=I
def tw5335869262303161765:=I
def tw3080676688447590853:=I
def tw10464136717952249285:=I
def tw17767604371140973029:=I
def tw12872279045709070853:=I
def tw8679878541636210181:=I
def tw15434947533525428805:=I
def tw8785841068762675781:=I
def tw3817480204718746213:=I
def tw12117404285963835045:=I
def tw8632482884954517157:=I
def tw797784486787683013:=I
def tw1628562533393476325:=I
def tw12646558602601284357:=I
def tw11653252779068516101:=I
def tw9979983702512921349:=I
def tw421597807908961093:=I
def tw15362571688619334469:=I
def tw8639132422321682277:=I
def tw16490014834077035365:=I
def tw4471927275681027973:=I
def tw1737152138530058149:=I
def tw3649730879260818373:=I
def tw14675877847051052038:=I
def tw3586625305690529830:=I
def tw7196796760172180550:=I
def tw18330254701041470566:=I
def tw11418921485917577318:=I
def tw3604661455473215622:=I
def tw15002906188359961830:=I
def tw12106058512510885094:=I
def tw16502007514679072998:=I
def tw13804827301462062342:=I
def tw14480177878540895494:=I
def tw12095133844044628294:=I
def tw18088765796892094822:=I
def tw8066592584935325030:=I
def tw3582486090945547654:=I
def tw200028080731516294:=I
def tw14616565408915296678:=I
def tw18039887045693052358:=I
def tw12159379414467539398:=I
def tw7134841284453044742:=I
def tw15712354422224916998:=I
def tw145745073682552326:=I
def tw11148668006948241958:=I
def tw3542955244151514694:=I
def tw6908582753160396390:=I
def tw18133862961128917638:=I
def tw5997056435611760294:=I
def tw10930561092151507622:=I
def tw1526813381863468742:=I
def tw7475769336375847654:=I
def tw17372086614755128038:=I
def tw1728869364743201574:=I
def tw5320186856009812806:=I
def tw13095981123714797414:=I
def tw1364488819048789958:=I
def tw9626229349100055526:=I
def tw10209583216228370471:=I
def tw15048580599340015687:=I
def tw8789364603777247303:=I
def tw6822520777893214279:=I
def tw4329419663301942375:=I
def tw3296255309436796007:=I
def tw3330404061879548039:=I
def tw17463548083339908263:=I
def tw11678056522807322823:=I
def tw7924043433477055751:=I
def tw13251200281205780775:=I
def tw16910320502918991143:=I
def tw5589935738222245191:=I
def tw8286671503188207975:=I
def tw14591563452931065191:=I
def tw11188828509386422663:=I
def tw4420339109575280103:=I
def tw10961364979244142087:=I
def tw14183745783659833863:=I
def tw12532732250536138247:=I
def tw3004276137941361159:=I
def tw10626054197621910055:=I
def tw17938334971273803303:=I
def tw10810089346745647687:=I
def tw1646347593238689383:=I
def tw2072543629146297991:=I
def tw1007431636755660423:=I
def tw10810856909372320487:=I
def tw10151964814874904327:=I
def tw5230543842996554503:=I
def tw2521837938776359687:=I
def tw6725722527962519335:=I
def tw16404982165640291175:=I
def tw9943538335858012039:=I
def tw765785899910841223:=I
def tw15194718373166486439:=I
def tw15447600652413326279:=I
def tw9086046692574446567:=I
def tw6966485957772515368:=I
def tw3394211744778033224:=I
def tw2984434558464015464:=I
def tw8661838312133058664:=I
def tw2717503455082028168:=I
def tw12015064334145082504:=I
def tw3223789437914174664:=I
def tw11697191261215041800:=I
def tw4779675856450212104:=I
def tw6462487780529830152:=I
def tw13760388055462170920:=I
def tw10658860934879374632:=I
def tw13910414533665753416:=I
def tw15495451036079540552:=I
def tw9147167289335958856:=I
def tw179860882166667592:=I
def tw8338548956418499912:=I
def tw2845706495800712:=I
def tw16649722083053551016:=I
def tw14067911225480958376:=I
def tw15196673567254057512:=I
def tw12346116874436294312:=I
def tw16474895601724614344:=I
def tw13496069412089700072:=I
def tw14527548719975676680:=I
def tw15673514341898627944:=I
def tw13312360864203811688:=I
def tw9898646605600165768:=I
def tw829504266418555816:=I
def tw16404576279491958696:=I
def tw10941244852432440264:=I
def tw3597933008289895368:=I
def tw17015258101869000648:=I
def tw16361202615601288136:=I
def tw3218040860136436680:=I
def tw16476819248682166248:=I
def tw2517162968334013449:=I
def tw22087834179377161:=I
def tw17227028300851142665:=I
def tw8054154279689577481:=I
def tw11555132463299169321:=I
def tw11215824149033871401:=I
def tw13191517637050427433:=I
def tw737814221401950313:=I
def tw5874334327622175849:=I
def tw4752397365315507305:=I
def tw12354537616752722025:=I
def tw17858204491456306281:=I
def tw3442195376441276617:=I
def tw7615579705462544585:=I
def tw4145196074932597065:=I
def tw4714507334287363433:=I
def tw1218632809914360169:=I
def tw10378918131280834921:=I
def tw10732553996629576073:=I
def tw3120250080758968809:=I
def tw1937599083550949897:=I
def tw4840678381288561257:=I
def tw15644239257765621353:=I
def tw11196096781290005129:=I
def tw14347018135096309417:=I
def tw10652514650099827401:=I
def tw140460175914318569:=I
def tw9051009534941225705:=I
def tw3203873512121684745:=I
def tw15866790632063205129:=I
def tw8316870525461506889:=I
def tw7152533828371752841:=I
def tw14318934771219561353:=I
def tw3235898100712981417:=I
def tw2078346002679891913:=I
def tw14352945075842288585:=I
def tw9539951927610061801:=I
def tw3591586036907420746:=I
def tw17609101799191086186:=I
def tw7139827385961273482:=I
def tw71025358581151914:=I
def tw6891383587950250154:=I
def tw4874156574644885706:=I
def tw15059551656045962442:=I
def tw2589931697180706058:=I
def tw13001500630762628362:=I
def tw13805837613448481098:=I
def tw12022031961405289802:=I
def tw2976948973953863018:=I
def tw1554981092790779274:=I
def tw12563044319085077002:=I
def tw14909532584088597066:=I
def tw10697928262585321066:=I
def tw13556752781038892682:=I
def tw14292660863413378698:=I
def tw2938462688620966538:=I
def tw17958664492668948138:=I
def tw17311169974264757930:=I
def tw15046096918305089226:=I
def tw1414419610676083402:=I
def tw17494796553081145034:=I
def tw13758671950829912810:=I
def tw447454884719443690:=I
def tw802765713500483338:=I
def tw9490453434265141002:=I
def tw1744820956742865738:=I
def tw14554810323247589258:=I
def tw15426982010577451946:=I
def tw15531700179956511690:=I
def tw6270731960047877066:=I
def tw16790634408531654602:=I
def tw5014676041256283114:=I
def tw16231815034369525738:=I
def tw6279480721085615082:=I
def tw5828228036318958667:=I
def tw9649723606119786571:=I
def tw8423393891706328139:=I
def tw3092423900265913483:=I
def tw4233823692895088843:=I
def tw9380909346993110251:=I
def tw8832475670208977227:=I
def tw12565210636648572235:=I
def tw16512542771690894667:=I
def tw17259413437146574187:=I
def tw11676318288791675275:=I
def tw9956038309394861451:=I
def tw2800601428985020843:=I
def tw6688157205497285035:=I
def tw2751273220313469355:=I
def tw13576293031636580811:=I
def tw15745997728362516939:=I
def tw8890920927396278763:=I
def tw10998325175804808683:=I
def tw17283899169303357963:=I
def tw1312709386301113931:=I
def tw1417943078221940331:=I
def tw18248949175090102891:=I
def tw3929946490545689195:=I
def tw5260878897992616619:=I
def tw11943658644350969547:=I
def tw10084607754349192907:=I
def tw6383861688613579659:=I
def tw11711595281303681963:=I
def tw1660703587556816811:=I
def tw6390540311857966027:=I
def tw16268223733987525579:=I
def tw526532331021520843:=I
def tw11429260170766669771:=I
def tw7043543914138931179:=I
def tw3964384875833463787:=I
def tw8714961189493907435:=I
def tw9128555008066376683:=I
def tw10481167368830113771:=I
def tw9095846109561098252:=I
def tw9363268556172839020:=I
def tw8906269126658380908:=I
def tw10997074481657486476:=I
def tw16088903746901291148:=I
def tw5218992803705141420:=I
def tw13434774217008073996:=I
def tw17814861028122049836:=I
def tw3132906589741852012:=I
def tw14152291259190559084:=I
def tw5200351889048837548:=I
def tw9534368596991215052:=I
def tw11336334397285511660:=I
def tw10274324880881937932:=I
def tw10278714973595796012:=I
def tw1671795814986417740:=I
def tw17284425095769602636:=I
def tw14848793079827447404:=I
def tw12141759514262269580:=I
def tw2891717188466429612:=I
def tw12687371678562094860:=I
def tw1705876846005885740:=I
def tw8042151159255946028:=I
def tw6524953396562225996:=I
def tw7309160408760890220:=I
def tw6540130265948501868:=I
def tw10699297784429547404:=I
def tw7282876422882327436:=I
def tw10020768628036277164:=I
def tw2932117839012373420:=I
def tw11907524055865798604:=I
def tw3670693545487135692:=I
def tw5192433462848662508:=I
def tw16465050712212176909:=I
def tw17959527474301614093:=I
def tw1858603637032731789:=I
def tw6444123884495312045:=I
def tw15726919759527294125:=I
def tw4955347782988091629:=I
def tw1900401783239303437:=I
def tw16991413592644368685:=I
def tw10725694222635107661:=I
def tw11730557221267019117:=I
def tw5953136644056685965:=I
def tw12520797959909257613:=I
def tw14861303327074650541:=I
def tw4072597695147410925:=I
def tw17651061874352005677:=I
def tw13780508800436514349:=I
def tw10074455965394767437:=I
def tw18368949335907735149:=I
def tw13943825016050002541:=I
def tw16096586732738824877:=I
def tw8592390326032170669:=I
def tw17040026550457190093:=I
def tw14447962703876293357:=I
def tw11746856724582585101:=I
def tw5765551089265210157:=I
def tw4005819860104523661:=I
def tw10220527074607612877:=I
def tw6243448746246808557:=I
def tw6520005521568020461:=I
def tw7697933223081652302:=I
def tw12000857155631285358:=I
def tw9866634994913172590:=I
def tw9367090255109502094:=I
def tw6259370481007858862:=I
def tw15153607365606204590:=I
def tw11442232298502370510:=I
def tw17360472377842553038:=I
def tw12498523236613257518:=I
def tw692069307833436494:=I
def tw1997569172022383950:=I
def tw3917343591310514510:=I
def tw16498731022631033262:=I
def tw18283851330327531022:=I
def tw3165463125276523054:=I
def tw3422401970165224014:=I
def tw18369465830978540110:=I
def tw8535274756730869358:=I
def tw8499948530411314830:=I
def tw16443231924382262958:=I
def tw7405936778025870030:=I
def tw7079349623260109518:=I
def tw2035527486049866478:=I
def tw6694829380165654254:=I
def tw15566077584555214606:=I
def tw2157956773055645454:=I
def tw9345692678611325710:=I
def tw11730256238987981678:=I
def tw10593250466720016238:=I
def tw13738709652351262606:=I
def tw3746443875661499278:=I
def tw7202891885122024334:=I
def tw11550324556846248878:=I
def tw5427717625289585614:=I
def tw1424056777639778254:=I
def tw15555667425915404303:=I
def tw14506971146917931087:=I
def tw1051392582041702511:=I
def tw6601358416099133551:=I
def tw1149722371162858639:=I
def tw17154592157598956719:=I
def tw14343505639150926031:=I
def tw8012871186881797359:=I
def tw4804519101498301743:=I
def tw15785210391169485263:=I
def tw11040666674293656015:=I
def tw7316051527940935151:=I
def tw3016829126109780463:=I
def tw3535133027419313711:=I
def tw11176858725489832495:=I
def tw8795746942636070479:=I
def tw9183395597707167343:=I
def tw16808652671489186479:=I
def tw13761321242534475471:=I
def tw907715581707704079:=I
def tw8365973434540073775:=I
def tw5291802221281331023:=I
def tw15359582992956103567:=I
def tw6993337288415320015:=I
def tw13304582482151395279:=I
def tw14735767812591216591:=I
def tw11030492833241483247:=I
def tw11146487621646543855:=I
def tw11355147726339734511:=I
def tw3935746545390636048:=I
def tw14999010256788245520:=I
def tw5057532203932294192:=I
def tw16656292845159382064:=I
def tw6701566615917659216:=I
def tw1549185626376865872:=I
def tw3644223412581972080:=I
def tw1437707629274879088:=I
def tw4007052461007744144:=I
def tw14269423509633514640:=I
def tw18124603567340077200:=I
def tw11937903329257594032:=I
def tw11183553323297062064:=I
def tw12794025042440801456:=I
def tw10489996920317038768:=I
def tw7482868752673536176:=I
def tw9596889890282756368:=I
def tw2178526811518032144:=I
def tw8600350576102629648:=I
def tw12191040655773560080:=I
def tw11941029406393262416:=I
def tw7137473238568982928:=I
def tw18334626183831131664:=I
def tw11477300262347875888:=I
def tw8773055080574631472:=I
def tw9826276371525228080:=I
def tw13460977119115794992:=I
def tw14615178483392407088:=I
def tw10285984901638298192:=I
def tw5842842138567736912:=I
def tw17928530479775349360:=I
def tw9951507870961321616:=I
def tw2029753892129343184:=I
def tw6928666105407550160:=I
def tw17160024626965517040:=I
def tw2902280067478702832:=I
def tw16914892902767458096:=I
def tw3831132459896368016:=I
def tw9812894266254809008:=I
def tw6050078847203477456:=I
def tw12273789154981784560:=I
def tw11364490777015179313:=I
def tw7659138949824742481:=I
def tw14845327863748539505:=I
def tw12016776674760230065:=I
def tw11260628806713059505:=I
def tw10185947512074875089:=I
def tw1600561741109219569:=I
def tw247165403329914289:=I
def tw12921303335241904561:=I
def tw8274951310881457617:=I
def tw1859159336620394993:=I
def tw10551212988983400977:=I
def tw9612462298482663953:=I
def tw10504229538877216433:=I
def tw6340106731999582897:=I
def tw14825317670466818801:=I
def tw2886119046370053873:=I
def tw14177747480547151601:=I
def tw11085496484053963537:=I
def tw2107453303969574673:=I
def tw18124311999984828241:=I
def tw9879368948998163345:=I
def tw5511629926268579761:=I
def tw14439680027485985745:=I
def tw14477098582499310577:=I
def tw6286036110159199314:=I
def tw2396224869570631762:=I
def tw10667437781041671282:=I
def tw7247119439277882482:=I
def tw7842440171865661586:=I
def tw12394915881443500242:=I
def tw16496651196488536306:=I
def tw14337117862446262514:=I
def tw6814013893782517010:=I
def tw3332524935635424530:=I
def tw7474416787703350578:=I
def tw8014858132763592018:=I
def tw9484728948975112594:=I
def tw1595381522154359218:=I
def tw8948170904479425970:=I
def tw7577031633407522258:=I
def tw17573497152439351826:=I
def tw2583888846279917106:=I
def tw12622557822651889202:=I
def tw14163529874740222546:=I
def tw7797311529622129234:=I
def tw14013718886239341170:=I
def tw11260269592600829554:=I
def tw7195728500748980946:=I
def tw15044070285259234002:=I
def tw14746960929566175986:=I
def tw14309913291983174386:=I
def tw15683355066700849906:=I
def tw15654721321253584658:=I
def tw17233143324988507954:=I
def tw7284214278465600306:=I
def tw10015975184040743762:=I
def tw2432234109005975442:=I
def tw13449320721398858674:=I
def tw14147419387796234162:=I
def tw5798957214713256914:=I
def tw11907281444130799570:=I
def tw67699863092146195:=I
def tw15632972826200789011:=I
def tw14458228419227966515:=I
def tw6068364530150006867:=I
def tw15960105706227002451:=I
def tw3858814811549063283:=I
def tw1783533066616224915:=I
def tw16070618317540204755:=I
def tw2393189359475574995:=I
def tw17037372486599676147:=I
def tw13851593034696786259:=I
def tw10267805922924723571:=I
def tw4961402947756626323:=I
def tw11201837216699605427:=I
def tw8698304096919285171:=I
def tw9592541955135830483:=I
def tw15369107987664018067:=I
def tw6563762338986243731:=I
def tw17769712574077627027:=I
def tw7452470050732215987:=I
def tw13525487268837799635:=I
def tw14175391857060343507:=I
def tw9921507229804659443:=I
def tw7513394192717366003:=I
def tw15576386044497948403:=I
def tw9276631638668865299:=I
def tw9951070548042642195:=I
def tw5230583939082158899:=I
def tw10631738803906030387:=I
def tw6971832897408487219:=I
def tw11263913283557809971:=I
def tw12867654013477359539:=I
def tw18191348672493332403:=I
def tw11735437737271465971:=I
def tw4678256446254076915:=I
def tw14893527057066285043:=I
def tw15869900961720696819:=I
def tw4397602195512509460:=I
def tw425249161328022708:=I
def tw10014157154149310708:=I
def tw3449674785862681876:=I
def tw6338071079959682324:=I
def tw791311367655650644:=I
def tw15742822654034213204:=I
def tw8828298883948521844:=I
def tw18359154092197834132:=I
def tw124326598384826804:=I
def tw9631698002503690676:=I
def tw17150065438757651924:=I
def tw906019632195470804:=I
def tw8196903351936242132:=I
def tw2717670611310028276:=I
def tw8434674926475123252:=I
def tw7184191524752442932:=I
def tw10526481421703648852:=I
def tw14933653583048091220:=I
def tw4576061583287193204:=I
def tw5105833361824357012:=I
def tw8399657123747535540:=I
def tw18163041060704209588:=I
def tw1104524793248302836:=I
def tw17520178070372994804:=I
def tw2826926138839073620:=I
def tw8068331253205346132:=I
def tw10981303153960167252:=I
def tw1885329160259235700:=I
def tw5107579927177534388:=I
def tw12467526391896382452:=I
def tw14599225827167375381:=I
def tw4670853654306940981:=I
def tw2589520529988218933:=I
def tw8424636780557006901:=I
def tw9259622845466070101:=I
def tw3606857961066385525:=I
def tw11019468199723511989:=I
def tw13192500422145522901:=I
def tw12473763275944723733:=I
def tw4184762987151720757:=I
def tw12938005107411132725:=I
def tw3429186086310504757:=I
def tw1188378437533971797:=I
def tw1431282088836132181:=I
def tw12183604586441809269:=I
def tw16176428782589933973:=I
def tw11747373820744850869:=I
def tw6342215071889668597:=I
def tw15070399052923064821:=I
def tw7979259210982820373:=I
def tw3206929435672630805:=I
def tw9279893685245393493:=I
def tw10130089376068166229:=I
def tw18164556523469631093:=I
def tw6247420279368004277:=I
def tw4853288183477337781:=I
def tw9394879980380165877:=I
def tw9489688778578245365:=I
def tw8687397343259784949:=I
def tw501351227112601397:=I
def tw15754439727688284981:=I
def tw11270608671541561173:=I
def tw10983975220624581461:=I
def tw2275609721774508917:=I
def tw6906555275327762357:=I
def tw1417102157529543637:=I
def tw13312818052284816406:=I
def tw6063382882369355798:=I
def tw13342569998754503766:=I
def tw7836856447492842582:=I
def tw14201519621812995190:=I
def tw17944464105079755926:=I
def tw1796691605216014614:=I
def tw16482012742792986902:=I
def tw1498353326730536214:=I
def tw7994720577424629174:=I
def tw10408876211222840886:=I
def tw3590343739679609398:=I
def tw8032650434374426166:=I
def tw14525555588269656662:=I
def tw993061535287937654:=I
def tw470974251506866838:=I
def tw11584564690515309238:=I
def tw2701725042950126294:=I
def tw1287026815567014646:=I
def tw6054258607247697718:=I
def tw10407181359771237174:=I
def tw13881327084458169142:=I
def tw17500082746955950934:=I
def tw6951196349885318006:=I
def tw2197022115731257238:=I
def tw11862048551820640182:=I
def tw12881615338919084982:=I
def tw15583645418947111862:=I
def tw7737550587049669719:=I
def tw3164361975470417143:=I
def tw948108404619451735:=I
def tw4244872541179290999:=I
def tw8523488649850985879:=I
def tw13798312079806418327:=I
def tw15634289489045363159:=I
def tw12308167395726909943:=I
def tw7453656213686051351:=I
def tw4967416604364850743:=I
def tw4417466528391967319:=I
def tw12956281264768178775:=I
def tw7248896735170132567:=I
def tw221741213185036919:=I
def tw15816050453774681751:=I
def tw2388959543590924087:=I
def tw1239571009614177079:=I
def tw15036810520854361911:=I
def tw4556186783436999511:=I
def tw1291886769165459287:=I
def tw6585277963636052919:=I
def tw3368580458336307127:=I
def tw14218207416390744120:=I
def tw1770934462206066776:=I
def tw4171949812489513048:=I
def tw17807223525864868984:=I
def tw8670680130075480184:=I
def tw1067225119803841688:=I
def tw2463479494290824344:=I
def tw15791985871805998296:=I
def tw6535272151795297560:=I
def tw8696235717444956440:=I
def tw8763615030410441112:=I
def tw14825448489468991960:=I
def tw18128143342303919608:=I
def tw10028735619989159448:=I
def tw15000633890229409304:=I
def tw5156826665722114584:=I
def tw14679005763069199960:=I
def tw16914887959641106040:=I
def tw16076807666595462840:=I
def tw1854406711378546392:=I
def tw1719261768258145016:=I
def tw6410806169657555864:=I
def tw7848691560798211064:=I
def tw15574119050614243353:=I
def tw16734135601716215865:=I
def tw8466945354041964633:=I
def tw4029674690062242905:=I
def tw3949028753224688729:=I
def tw13424728057849017433:=I
def tw12636839806930220121:=I
def tw3206966334038183033:=I
def tw11089946895696785529:=I
def tw4374129998027814009:=I
def tw12428087300810986745:=I
def tw10734342523099578649:=I
def tw12669168812492819737:=I
def tw6841111684753136953:=I
def tw8446756158226680121:=I
def tw12797600568686165337:=I
def tw5845834117445136793:=I
def tw4639627829845053849:=I
def tw7952359207003689401:=I
def tw1321279005104713145:=I
def tw6739807848840511929:=I
def tw1664137879579128249:=I
def tw5598899644557394393:=I
def tw4372036215072137689:=I
def tw5364628104206632409:=I
def tw2482448580580111865:=I
def tw5464650854028995097:=I
def tw7753084406094564921:=I
def tw14155687259822199353:=I
def tw9495826577392562777:=I
def tw17851904207287125625:=I
def tw12255604263385904761:=I
def tw15892476690020369049:=I
def tw11097136654891789977:=I
def tw10713205384124166809:=I
def tw12460640278100726521:=I
def tw3670358033475668793:=I
def tw17520199564307539801:=I
def tw16674504049965841305:=I
def tw2784937266535939993:=I
def tw18370577981386494905:=I
def tw10146424238880772025:=I
def tw6360924743771885529:=I
def tw5143532975662005209:=I
def tw9689065729435761625:=I
def tw9278034767345229817:=I
def tw17828399747232872441:=I
def tw6643807029713623098:=I
def tw12808188665063642234:=I
def tw16963289610792901754:=I
def tw16016212709957966970:=I
def tw1886370277614607482:=I
def tw9374836728532274330:=I
def tw10570384873057106074:=I
def tw10516930945210465434:=I
def tw1445420068919821466:=I
def tw5763124611924321434:=I
def tw3938273095010488570:=I
def tw2680100434312413466:=I
def tw11902883079333331290:=I
def tw1509825561917817210:=I
def tw15903759724411946362:=I
def tw16085623208385006010:=I
def tw15243926113158256090:=I
def tw3515966394766882266:=I
def tw2057996225787503098:=I
def tw16781181409178583578:=I
def tw2718039202277100058:=I
def tw13515412969963108890:=I
def tw7951397320202416666:=I
def tw13267571602889574970:=I
def tw12113484215052887642:=I
def tw5360023619483518586:=I
def tw11168616458006965914:=I
def tw8046490214263370394:=I
def tw6932422836248978106:=I
def tw15647475420530849466:=I
def tw11484733677639192250:=I
def tw5914949228562692826:=I
def tw2843198401441161946:=I
def tw1792901990543949530:=I
def tw3952642503976058586:=I
def tw15195320290637022042:=I
def tw11697925722785903450:=I
def tw7630890419798768506:=I
def tw3271187046503863194:=I
def tw10853623798606812058:=I
def tw11459484924501889978:=I
def tw10813816851141795834:=I
def tw5223410798577770523:=I
def tw16646360314499604539:=I
def tw17192979906632423547:=I
def tw9615788497146305691:=I
def tw13995258548793321659:=I
def tw16064270480976194747:=I
def tw4120962464478543067:=I
def tw17291230476656428251:=I
def tw4412390469087237371:=I
def tw6833105063855664411:=I
def tw706026961940238619:=I
def tw17769681503705856315:=I
def tw15062408084012512603:=I
def tw761281790787956091:=I
def tw14982744991403997563:=I
def tw4633381424815232475:=I
def tw142166126764882395:=I
def tw8491124485357217307:=I
def tw4008992458185484827:=I
def tw7282450719687307867:=I
def tw13574574405054104187:=I
def tw11827505366961426075:=I
def tw1800338792967916187:=I
def tw8285664758734185115:=I
def tw18193282111079775899:=I
def tw1477282748508607163:=I
def tw4930561084418288315:=I
def tw11229200354215395003:=I
def tw9887751761014788827:=I
def tw12644622614102004539:=I
def tw14922954077002535803:=I
def tw3781656707909775227:=I
def tw14088588485435421563:=I
def tw8015811214023662491:=I
def tw4439057220986580891:=I
def tw6649227310177075131:=I
def tw12336803144931594171:=I
def tw13910724089919758299:=I
def tw15336797667971768348:=I
def tw9233804406479375452:=I
def tw12140315603957332092:=I
def tw17872868877685016732:=I
def tw11471877512531890428:=I
def tw15563590479530764572:=I
def tw16328166582045944092:=I
def tw4761678224612780348:=I
def tw6692787751817193884:=I
def tw3977671579514296732:=I
def tw16359113768919798204:=I
def tw6228074902788592060:=I
def tw16741969404598745532:=I
def tw11841409056679274972:=I
def tw11754616703480244700:=I
def tw3966430448144880124:=I
def tw3131490279528334876:=I
def tw11907096087101261340:=I
def tw686171005686449788:=I
def tw1334536329959951996:=I
def tw4651690648069278364:=I
def tw3620545331861770908:=I
def tw5677487138479509212:=I
def tw1370521279235208924:=I
def tw17586047639161435868:=I
def tw16814177698337958652:=I
def tw12031643258325535548:=I
def tw1513386503806338876:=I
def tw3989800446789409596:=I
def tw505349106625799004:=I
def tw9670989473429921692:=I
def tw3032735587263449020:=I
def tw1075427453856134237:=I
def tw580511640043293821:=I
def tw11032829889822437501:=I
def tw16283379668256964765:=I
def tw1448908326382668989:=I
def tw6468671608813274301:=I
def tw9588028201763390685:=I
def tw9577847352776669437:=I
def tw1157239084335564093:=I
def tw3095862990859800989:=I
def tw16803729709739582909:=I
def tw2623460081369302493:=I
def tw16980940169616550461:=I
def tw9315876596863909469:=I
def tw17971477083277872733:=I
def tw17334586287848943197:=I
def tw5024708085080595101:=I
def tw13102190343614209725:=I
def tw8939301829729048253:=I
def tw15784984196582340285:=I
def tw2604296970926160573:=I
def tw13902963158450667261:=I
def tw9227396760634602269:=I
def tw10832830812256090909:=I
def tw10108498198364964637:=I
def tw15715736634822996797:=I
def tw770566393274100541:=I
def tw13956038235101166397:=I
def tw14300127485317290845:=I
def tw8494473092666503005:=I
def tw2862463864945436541:=I
def tw6017840463249593245:=I
def tw5632270887999199326:=I
def tw8715318474494306494:=I
def tw11064861163064489182:=I
def tw7642382572829997342:=I
def tw2110597844765181246:=I
def tw12718329870485925182:=I
def tw1598656292303519102:=I
def tw7934271201250401726:=I
def tw10253978970068492798:=I
def tw1933762597272179198:=I
def tw1253534631463765534:=I
def tw3792607761173125694:=I
def tw5294256106228557406:=I
def tw15329105614777022046:=I
def tw9999169752607496926:=I
def tw17832819607101579998:=I
def tw9445041893018282718:=I
def tw3864813028647934718:=I
def tw1858820920588803838:=I
def tw6614288627447795486:=I
def tw13716507137513113406:=I
def tw13716630353054174078:=I
def tw4198811125192582046:=I
def tw11288014687837145086:=I
def tw2693284263777896479:=I
def tw11262937054548602943:=I
def tw7943381263809000511:=I
def tw8943801782896786495:=I
def tw18214169365377645631:=I
def tw7215053880067927167:=I
def tw6760805569393997951:=I
def tw17472078363187134591:=I
def tw13660608868048148639:=I
def tw3021649265063142559:=I
def tw11490557076386356415:=I
def tw8064042731619758303:=I
def tw15639486421814215039:=I
def tw16808254162822401407:=I
def tw4287656496266435967:=I
def tw7261210464637664671:=I
def tw6768797156256664991:=I
def tw6290695906525929919:=I
def tw17435123799808282079:=I
def tw6015963176961352223:=I
def tw2991199490743792159:=I
def tw1242963148580625983:=I
def tw8755755263809037919:=I
def tw5091372757101846143:=I
def tw9837931498498774655:=I
def tw17825672292306719391:=I
def tw1725058114892357279:=I
def tw16030840343225273055:=I
def tw14487400314905988895:=I
def tw5559333698325746463:=I
def tw14393282022911446847:=I
def tw16884090438238999423:=I
def tw6723068202804753279:=I
def tw14631116697507620767:=I
def tw5862677724406500287:=I
def tw5477582960035258367:=I
def tw10954912774718941183:=I
end PySem.W.Fast
open PySem PySem.W PyProof.Rows
set_option maxRecDepth 100000 in
set_option maxHeartbeats 0 in
theorem PySem.Challenge.cw_stripmeld_k35_deeds_at_the_desk_holds : PySem.Challenge.rw_stripmeld_k35_deeds_at_the_desk.Holds := by
 w_on;o_law;k_head;(case hw=>w_witness2)
 k_fill
 refine L2.OO (l:=PySem.Challenge.rw_stripmeld_k35_deeds_at_the_desk) (n:=63) (k:=8) (x:="_law_script") (CX:=L2.CX0) (sp:=Pu.N2) rfl (by decide) rfl ⟨rfl,by decide,by decide,rfl⟩ (fun w h Y=>PySem.W.kIn_of Y) ?F ?S ?C
 case F=>
  intro w mg fa h KX G hmg
  refine' T.IT KX G hmg ?Vm ?Vp ?Vq ?Vr ?Vs ?Vt ?Vu ?Vv ?Vw ?Vx ?a0 ?a1 ?a2 ?a3 ?a4 ?a5 ?a6 ?a7 ?a8 ?a9 ?a10 ?a11 ?a12 ?a13 ?a14 ?a15 ?a16 ?a17 ?a18 ?a19 ?a20 ?a21 ?a22 ?a23 ?a24 ?a25 ?a26 ?a27 ?a28 ?a29 ?a30 ?a31 ?a32 ?a33 ?a34 ?a35 ?a36 ?a37 ?a38 ?a39 ?a40 ?a41 ?a42 ?a43 ?a44 ?a45 ?a46 ?a47 ?a48 ?a49 ?a50 ?a51 ?a52 ?a53 ?a54 ?a55 ?l55 ?c55 ?k55 ?Vy ?Vz ?V0 ?V1 ?V2 ?V3 ?V4 ?V5 ?V6 ?V7 ?V8 ?V9 ?VA ?VB ?VC ?VD ?VE ?VF ?VG ?zm_DEEDS ?zl_DEEDS ?ze_DEEDS ?VH ?zm_OTHERS ?zl_OTHERS ?ze_OTHERS ?QW ?QX ?Vn ?QY ?QZ ?Va ?Vb ?Vc ?Vd ?Ve ?Vf ?Vg ?Vh ?Vi ?Vj ?Vk ?Vo ?x_Ringed ?x_all
  (case Vm|Vp|Vq|Vr|Vs|Vt|Vu|Vv|Vw|Vx=>k_is)
  (case a0|a1|a2|a3|a4|a5|a6|a7|a8|a9=>apply Pu.di<;>k_is)
  (case a10|a11|a12|a13|a14|a15|a16|a17|a18|a19|a20|a21=>apply Pu.mi<;>k_is)
  (case a22|a23|a24|a25|a26|a27|a28|a29|a30|a31|a32|a33|a34|a35|a36|a37|a38|a39|a40|a41|a42|a43|a44|a45|a46|a47|a48|a49|a50|a51|a52|a53|a54=>apply Pu.di<;>k_is)
  (case a55|l55|c55|k55|Vy|Vz|V0|V1|V2|V3|V4|V5|V6|V7|V8|V9|VA|VB|VC|VD|VE|VF|VG=>k_is)
  (case zm_DEEDS=>decide)
  (case zl_DEEDS=>k_is)
  (case ze_DEEDS=>exact⟨⟨_,rfl⟩,rfl,⟨_,rfl⟩,⟨⟨_,rfl⟩,rfl,⟨_,rfl⟩,⟨⟨_,rfl⟩,rfl,⟨_,rfl⟩,⟨⟨_,rfl⟩,rfl,⟨_,rfl⟩,⟨⟨_,rfl⟩,rfl,⟨_,rfl⟩,trivial⟩⟩⟩⟩⟩)
  (case VH=>k_is)
  (case zm_OTHERS=>decide)
  (case zl_OTHERS=>k_is)
  (case ze_OTHERS=>exact⟨⟨_,rfl⟩,rfl,⟨_,rfl⟩,⟨⟨_,rfl⟩,rfl,⟨_,rfl⟩,⟨⟨_,rfl⟩,rfl,⟨_,rfl⟩,⟨⟨_,rfl⟩,rfl,⟨_,rfl⟩,⟨⟨_,rfl⟩,rfl,⟨_,rfl⟩,⟨⟨_,rfl⟩,rfl,⟨_,rfl⟩,⟨⟨_,rfl⟩,rfl,⟨_,rfl⟩,⟨⟨_,rfl⟩,rfl,⟨_,rfl⟩,⟨⟨_,rfl⟩,rfl,⟨_,rfl⟩,trivial⟩⟩⟩⟩⟩⟩⟩⟩⟩)
  (case QW|QX|Vn|QY|QZ|Va|Vb|Vc|Vd|Ve|Vf|Vg|Vh|Vi|Vj|Vk=>apply Pu.ei<;>first|(k_is;done)|k_exc)
  (case Vo=>k_is)
  (case x_Ringed=>kts_exm)
  (case x_all=>kernel_rfl)
 case S=>exact fun K H a ns hl hO hS=>⟨a,ns,rfl,hS,fun _=>rfl⟩
 case C=>exact fun _ _ _ _ z=>z
