import PyProof.Rows.All
import Wide.All
import OpenK.AllK
import Wide.FinOn
import PyProof.EqAt
import PyProof.EqKinds
import PyProof.TupleCall
import KE.BitLaws
import PyProof.ExcInit
import PyProof.InstStoreFacts
import PyProof.ExcArgsOwn
import KE.KTryMore
import PyProof.EnumMake
import PyProof.Draws
import PyProof.Rows.SortShellAny
import Open.SpecLaws
import KE.OsHead
import KE.OsGo
import PySem.Challenge.RW_kinghalldesk_s01_answers
import PyWqacda
set_option Elab.async false
set_option linter.all false
set_option maxRecDepth 100000
set_option maxHeartbeats 2000000
def Px:=@List.length_map
def Py:=@if_neg
def Pz:=@if_pos
abbrev PB:=PySem.W.Frag
def PD:=@List.getElem?_eq_getElem
def PF:=@Nat.le_refl
def PJ:=@decide_eq_true
abbrev PK:=Tafl.Rules
def PL:=@PySem.sizeLine_eq
def PM:=@Bool.false_ne_true
def PN:=@PySem.wpAny_bind
abbrev PP:=PySem.FuncData
def PQ:=@List.getElem?_eq_some_iff
def PR:=@of_decide_eq_true
def PU:=@List.mem_cons_self
def PV:=@decide_eq_true_iff
abbrev PX:=Tafl.Bytes
def PY:=@List.mem_cons_of_mem
def PZ:=@Ne.symm
def P0:=@List.length_append
def P4:=@Bool.and_eq_true
def P9:=@PySem.Heap.lt_size
def P_:=@List.mem_map
def Qa:=@List.getElem?_map
def Qb:=@List.mem_singleton
def Qc:=@List.mem_append
def Qe:=@List.mem_range
def Qg:=@List.map_append
def Qh:=@List.mem_cons
def Qi:=@PySem.Heap.get?_push_of_some
def Qj:=@List.length_cons
def Qk:=@Option.some.inj
def Ql:=@List.mem_of_getElem?
def Qm:=@Int.toNat_natCast
def Qn:=@List.size_toArray
abbrev Qo:=Tafl.Piece
def Qp:=@List.take_of_length_le
def Qq:=@Nat.le_trans
def Qr:=@decide_eq_false
def Qs:=@Nat.lt_of_lt_of_le
def Qt:=@List.length_take
abbrev Qu:=Tafl.Pos
def Qv:=@PySem.wpAny_pure
abbrev Qw:=PySem.Program
def Qx:=@List.length_replicate
def Qy:=@PySem.F.plainAttrs_list
def Qz:=@List.mem_filter
def QA:=@List.append_nil
def QB:=@PySem.Str.length_append
def QC:=@Nat.ne_of_lt
def QD:=@List.map_cons
def QE:=@PySem.Heap.get?_push_size
def QF:=@List.length_singleton
def QG:=@Nat.zero_le
def QH:=@List.append_assoc
def QI:=@congrArg
def QJ:=@List.map_map
def QK:=@PySem.mem_of_lookup
def QL:=@List.length_range
def QM:=@List.flatMap_cons
def QN:=@Bool.eq_iff_iff
def QO:=@PySem.PassesOwn.leaving
def QP:=@List.length_eq_zero_iff
def QQ:=@beq_iff_eq
def QR:=@List.any_eq_true
def QS:=@PySem.PassesOwn.never
def QT:=@Option.bind_some
def QU:=@List.mem_flatMap
def QV:=@PySem.F.slot_list_append
def QW:=@PySem.F.type_list_append
def QX:=@List.mem_append_left
def QY:=@List.drop_eq_getElem_cons
def QZ:=@List.take_succ
def Q0:=@List.nil_append
def Q1:=@List.mem_append_right
def Q2:=@List.getElem?_replicate
def Q3:=@Nat.lt_irrefl
def Q4:=@List.pairwise_lt_range
def Q5:=@List.drop_of_length_le
def Q6:=@PySem.Heap.size_push
def Q7:=@List.of_mem_zip
def Q8:=@List.foldl_cons
def Q9:=@List.findIdx_lt_length_of_exists
def Q_:=@Nat.mul_le_mul_right
def Ra:=@PySem.Heap.get?_update_other
def Rb:=@PySem.wpAny_truthy_bool
def Rc:=@PySem.wpAny_mono
def Re:=@PySem.wpAny_Call_Name_kw
def Rg:=@List.all_eq_true
def Rh:=@PySem.F.slot_list_extend
def Ri:=@PySem.F.type_list_extend
def Rj:=@List.any_eq_false
def Rk:=@PyProof.Rows.callWith_type1
def Rl:=@List.length_set
def Rm:=@Bool.or_eq_true
def Rn:=@List.map_congr_left
def Ro:=@List.getElem_of_mem
def Rp:=@List.flatMap_map
def Rq:=@List.mem_filterMap
def Rr:=@List.any_map
def Rs:=@Nat.mul_succ
def Rt:=@UInt8.toNat_inj
def Ru:=@List.pairwise_map
def Rv:=@PySem.wpAny_standAt
def Rw:=@List.length_drop
def Rx:=@List.lookup_cons
def Ry:=@List.map_flatMap
def Rz:=@List.range_succ_eq_map
def RB:=@Nat.lt_or_ge
def RC:=@PySem.wpAny_passesOwn
def RD:=@PySem.Heap.get?_update_self
def RF:=@List.length_zip
def RG:=@List.contains_iff_mem
def RH:=@List.getElem?_append_right
def RI:=@List.any_cons
def RJ:=@List.nodup_append
def RK:=@List.getElem?_append_left
def RL:=@List.getElem?_zip_eq_some
def RM:=@List.mem_of_find?_eq_some
def RN:=@Nat.ne_of_gt
def RO:=@Nat.le_add_right
def RQ:=@Nat.lt_trans
def RR:=@decide_eq_decide
def RS:=@Nat.lt_succ_iff_lt_or_eq
def RT:=@List.getElem_mem
def RU:=@List.cons_append
def RV:=@beq_eq_false_iff_ne
def RW:=@List.toList_toArray
def RX:=@PySem.plainObj_wpAny_Assign_Attribute
def RY:=@decide_eq_false_iff_not
def RZ:=@List.sum_cons
def R6:=@PySem.W.callWith_K
def R7:=@List.nodup_cons
def R8:=@Option.map_eq_some_iff
def R9:=@Nat.le_of_succ_le
def R_:=@List.getElem?_eq_none
def Sa:=@Nat.mul_le_mul
def Sb:=@List.length_filter_le
def Sc:=@PySem.W.looks_findIn
def Sd:=@List.mem_of_mem_drop
def Se:=@List.replicate_succ'
def Sf:=@List.drop_eq_nil_iff
def Sg:=@PySem.wpAny_holding
def Sh:=@PySem.wpAny_field
def Si:=@PySem.W.looks_clsIn
def Sj:=@List.getElem?_range
def Sk:=@PySem.wpAny_execs_nil
namespace L2
open PySem PySem.Spec PyProof.Rows
abbrev Key:=Sum Int Str
def Ka:Key->Value->Bool
 |.inl k,v=>Value.isInt k v
 |.inr x,v=>Value.isStrOf x v
def Oa(w:World):Key->Int
 |.inl k=>hashInt k
 |.inr x=>hashStr w x
theorem dX:∀{k:Key}{v:Value},Ka k v=true->(∃i t,k=Sum.inl i/\v=Value.int i t)\/(∃x t,k=Sum.inr x/\v=Value.str x t)
 |.inl i,v,h=>by
  obtain⟨t,e⟩:=Value.isInt_shape (k:=i) (v:=v) h;exact .inl ⟨i,t,rfl,e⟩
 |.inr x,v,h=>by
  obtain⟨t,e⟩:=Value.isStrOf_shape (x:=x) (v:=v) h;exact .inr ⟨x,t,rfl,e⟩
theorem Lz(a b:Int):decide ((Sum.inl a:Key)=Sum.inl b)=(a==b):=by
 by_cases e:a=b
 ·subst e;simp
 ·have h:¬(Sum.inl a:Key)=Sum.inl b:=λq=>e (Sum.inl.inj q)
  rw[Qr h];exact(RV.mpr e).symm
theorem Lh(a b:Str):decide ((Sum.inr a:Key)=Sum.inr b)=decide (a=b):=by
 by_cases e:a=b
 ·subst e;simp
 ·have h:¬(Sum.inr a:Key)=Sum.inr b:=λq=>e (Sum.inr.inj q)
  rw[Qr h,Qr e]
theorem K_(a:Int)(b:Str):decide ((Sum.inl a:Key)=Sum.inr b)=false:=Qr (λq=>nomatch q)
theorem La(a:Str)(b:Int):decide ((Sum.inr a:Key)=Sum.inl b)=false:=Qr (λq=>nomatch q)
def EZ(prog:Qw)(w:World):PySem.KeyKind prog w Key where
 is:=Ka
 hash:=Oa w
 inj:=λv a b ha hb=>by
  rcases dX ha with⟨i,t,rfl,rfl⟩|⟨x,t,rfl,rfl⟩
  ·rcases dX hb with⟨j,u,rfl,e⟩|⟨y,u,rfl,e⟩
   ·injection e with e1 _;rw[e1]
   ·exact nomatch e
  ·rcases dX hb with⟨j,u,rfl,e⟩|⟨y,u,rfl,e⟩
   ·exact nomatch e
   ·injection e with e1 _;rw[e1]
 byValue:=λk v h=>by
  rcases dX h with⟨i,t,rfl,rfl⟩|⟨x,t,rfl,rfl⟩<;>rfl
 pyHash:=λhv h=>by
  rcases dX hv with⟨i,t,rfl,rfl⟩|⟨x,t,rfl,rfl⟩
  ·exact wpAny_pyHash_int h
  ·exact wpAny_pyHash_str h
 eqBool:=λhu hv h=>by
  rcases dX hu with⟨i,t,rfl,rfl⟩|⟨x,t,rfl,rfl⟩
  ·rcases dX hv with⟨j,u,rfl,rfl⟩|⟨y,u,rfl,rfl⟩
   ·rw[Lz]at h;exact wpAny_eqBool_int h
   ·rw[K_]at h;exact SeqAt.EqAt.int_str i t y u _ _ _ _ h
  ·rcases dX hv with⟨j,u,rfl,rfl⟩|⟨y,u,rfl,rfl⟩
   ·rw[La]at h;exact SeqAt.EqAt.str_int x t j u _ _ _ _ h
   ·rw[Lh]at h;exact wpAny_eqBool_str h
 «strs»:=λk x t v h=>by
  rcases dX h with⟨i,u,rfl,e⟩|⟨y,u,rfl,e⟩
  ·exact nomatch e
  ·injection e with e1 _
   subst e1;cases v<;>rfl
inductive V where
 |eB|bl(b:Bool)|int(i:Int)|str(x:Str)|Br(b:Array UInt8)|flt(b:UInt64)|ref(a:Addr)|ty(n:String)
 deriving DecidableEq
def RelV:V->Value->Prop
 |.eB,u=>u=Value.none
 |.bl b,u=>u=Value.bool b
 |.int i,u=>∃t,u=Value.int i t
 |.str x,u=>∃t,u=Value.str x t
 |.Br b,u=>∃t,u=Value.bytes b t
 |.flt b,u=>∃t,u=Value.float b t
 |.ref a,u=>u=Value.ref a
 |.ty n,u=>u=Value.type n
abbrev Vals:List V->List Value->Prop:=Paired RelV
theorem Vals.length{xs:List V}{us:List Value}(r:Vals xs us):xs.length=us.length:=Paired.length r
theorem Vals.get:∀{xs:List V}{us:List Value}{i:Nat}{x:V},Vals xs us->xs[i]? =some x->∃u,us[i]? =some u/\RelV x u
 |_,_,_,_,.nil,e=>by simp at e
 |_,_,0,_,.cons r _,e=>by simp at e;subst e;exact⟨_,rfl,r⟩
 |_,_,i+1,x,.cons _ t,e=>by
  obtain⟨u,h1,h2⟩:=Vals.get (i:=i) (x:=x) t (by simpa using e);exact⟨u,by simpa using h1,h2⟩
theorem Vals.set{x:V}{u:Value}(r:RelV x u):∀{xs:List V}{us:List Value}(i:Nat),Vals xs us->Vals (xs.set i x) (us.set i u)
 |_,_,_,.nil=>.nil
 |_,_,0,.cons _ t=>.cons r t
 |_,_,i+1,.cons q t=>.cons q (Vals.set r i t)
theorem Vals.append:∀{xs ys:List V}{us ws:List Value},Vals xs us->Vals ys ws->Vals (xs++ys) (us++ws)
 |_,_,_,_,.nil,s=>s
 |_,_,_,_,.cons r t,s=>.cons r (Vals.append t s)
theorem Vals.take:∀{xs:List V}{us:List Value}(n:Nat),Vals xs us->Vals (xs.take n) (us.take n)
 |_,_,0,_=>.nil
 |_,_,_+1,.nil=>.nil
 |_,_,n+1,.cons r t=>.cons r (Vals.take n t)
theorem Vals.drop:∀{xs:List V}{us:List Value}(n:Nat),Vals xs us->Vals (xs.drop n) (us.drop n)
 |_,_,0,r=>r
 |_,_,_+1,.nil=>.nil
 |_,_,n+1,.cons _ t=>Vals.drop n t
def qJ:Option V->Option Value->Prop
 |some v,some u=>RelV v u
 |none,none=>True
 |_,_=>False
def KV{κ:Type}:List (κ×V)->List (κ×Value)->Prop:=Paired λ(p:κ×V)(q:κ×Value)=>p.1=q.1/\RelV p.2 q.2
def kV:Key->V
 |.inl i=>.int i
 |.inr x=>.str x
inductive HO where
 |lst(xs:List V)
 |tup(xs:List V)
 |dK(kvs:List (Key×V))|dT(kvs:List (List Key×V))
 |set(S:Int->Bool)(n:Nat)
 |ins(C dx:Addr)(fs:List (Str×V))
 |own(x:Addr)
 |xd(fs:List (Str×V))
 |met(f x:Addr)
 |Nt(lo hi:Int)
 |xK(o:Obj)(u:HO)
 |J1(ps:Array Value)
 |ext(φ:Heap->Prop)
abbrev Hp:=Addr->Option HO
def upd(H:Hp)(a:Addr)(o:HO):Hp:=λb=>if b=a then some o else H b
theorem ah{H:Hp}{a:Addr}{o:HO}:upd H a o a=some o:=by unfold upd;rw[Pz rfl]
theorem ai{H:Hp}{a b:Addr}{o:HO}(h:b≠a):upd H a o b=H b:=by unfold upd;rw[Py h]
theorem eR{H:Hp}{a:Addr}{o u:HO}:upd (upd H a o) a u=upd H a u:=by
 funext b;unfold upd;split<;>rfl
theorem bf{H:Hp}{a b:Addr}{o u:HO}(h:H a=some o)(h':H b=some u)(d:o≠u):a≠b:=by
 intro e;subst e;rw[h]at h';exact d (Qk h')
theorem ak{H:Hp}{a b:Addr}{o:HO}(h:H a=some o)(h':H b=none):a≠b:=by
 intro e;subst e;rw[h]at h';cases h'
section
variable(P:Qw)(w:World)
def dH(H:Hp)(h:Heap)(a:Addr):HO->Prop
 |.lst xs=>xs.length<=sizeLine/\∃(its:List Value)(n:Nat),Vals xs its/\h.get? a=some {cls:= .type "list",data:= .seq its.toArray n}
 |.tup xs=>xs.length<=sizeLine/\∃its:List Value,Vals xs its/\IsTup h a its.toArray
 |.dK kvs=>kvs.length<=sizeLine/\(a==sysModules)=false/\∃vs,KV kvs vs/\h.DictOf (EZ P w) a vs
 |.dT kvs=>kvs.length<=sizeLine/\(a==sysModules)=false/\∃xs:List (List Key×Addr×Value),
   Paired (λ(p:List Key×V)(q:List Key×Addr×Value)=>p.1=q.1/\H q.2.1=some (.tup (p.1.map kV))/\RelV p.2 q.2.2) kvs xs/\
   ∃o es ep,h.get? a=some o/\o.ExactDict/\o.data=.dict es ep/\es.toList=xs.map (entryOfKey (tupleKind (EZ P w)))/\(xs.map (·.1)).Nodup
 |.set S n=>h.SetOf (intKind P w) a S n
 |.ins C dx fs=>H dx=some (.own a)/\fs.length<=1000/\dx≠a/\h.get? a=some (PySem.W.instObj C dx)/\
   ∃mA,h.Ns1 dx mA/\(∀f,qJ (fs.lookup f) (mA f))/\PySem.Within mA (fs.map (·.1))
 |.own _=>∃o,h.get? a=some o
 |.xd fs=>∃mA,h.Ns1 a mA/\∀f,qJ (fs.lookup f) (mA f)
 |.Nt lo hi=>∃t u v,h.get? a=some {cls:= .type "range",data:= .fields #[.int lo t,.int hi u,.int 1 v]}
 |.xK o u=>h.get? a=some o/\dH H h a u
 |.J1 ps=>h.get? a=some {cls:= .none,data:= .fields ps}
 |.met f x=>h.get? a=some (PySem.W.methodObj (.ref f) (.ref x))
 |.ext φ=>φ h/\(∃o,h.get? a=some o)/\∀h1 h2:Heap,φ h1->(∀o,h1.get? a=some o->h2.get? a=some o)->φ h2
def lV(H:Hp)(h:Heap):Prop:=∀a o,H a=some o->dH P w H h a o
end
section
variable{P:Qw}{w:World}{H H':Hp}{h h':Heap}{a:Addr}{o:HO}
theorem dH.lt(x:dH P w H h a o):a<h.objs.size:=by
 cases o with
 |lst xs=>obtain⟨_,_,_,_,e⟩:=x;exact P9 e
 |tup xs=>obtain⟨_,_,_,p⟩:=x;exact p.lt
 |dK kvs=>obtain⟨_,_,_,_,o,_,_,e,_⟩:=x;exact P9 e
 |dT kvs=>obtain⟨_,_,_,_,o,_,_,e,_⟩:=x;exact P9 e
 |set S n=>obtain⟨o,_,_,_,e,_⟩:=x;exact P9 e
 |ins C dx fs=>obtain⟨_,_,_,e,_⟩:=x;exact P9 e
 |own y=>obtain⟨_,e⟩:=x;exact P9 e
 |xd fs=>obtain⟨_,⟨_,_,_,e,_⟩,_⟩:=x;exact P9 e
 |Nt lo hi=>obtain⟨_,_,_,e⟩:=x;exact P9 e
 |xK ob u=>obtain⟨e,_⟩:=x;exact P9 e
 |J1 ps=>exact P9 (show h.get? a=some _ from x)
 |met f y=>exact P9 (show h.get? a=some _ from x)
 |ext φ=>obtain⟨_,⟨_,e⟩,_⟩:=x;exact P9 e
theorem Paired.Mv{α β:Type}{F G:α->β->Prop}:∀{l₁:List α}{l₂:List β},Paired F l₁ l₂->(∀a b,F a b->G a b)->Paired G l₁ l₂
 |_,_,.nil,_=>.nil
 |_,_,.cons r t,f=>.cons (f _ _ r) (Paired.Mv t f)
theorem dH.vG(x:dH P w H h a o)(k:∀b u,(b=a\/H b=some (.own a))->h.get? b=some u->h'.get? b=some u)
  (ho:∀b,H b=some (.own a)->H' b=some (.own a))(ht:∀b xs,H b=some (.tup xs)->H' b=some (.tup xs)):dH P w H' h' a o:=by
 induction o with
 |lst xs=>obtain⟨z,its,n,r,e⟩:=x;exact⟨z,its,n,r,k _ _ (.inl rfl) e⟩
 |tup xs=>obtain⟨z,its,r,ob,e,c⟩:=x;exact⟨z,its,r,ob,k _ _ (.inl rfl) e,c⟩
 |dK kvs=>obtain⟨z,y,vs,r,ob,es,ep,e,c⟩:=x;exact⟨z,y,vs,r,ob,es,ep,k _ _ (.inl rfl) e,c⟩
 |dT kvs=>
  obtain⟨z,y,xs,r,ob,es,ep,e,c⟩:=x;exact⟨z,y,xs,Paired.Mv r λp q z=>⟨z.1,ht _ _ z.2.1,z.2.2⟩,ob,es,ep,k _ _ (.inl rfl) e,c⟩
 |set S n=>obtain⟨ob,es,ep,t,e,c⟩:=x;exact⟨ob,es,ep,t,k _ _ (.inl rfl) e,c⟩
 |ins C dx fs=>
  obtain⟨d,z,ne,e,mA,⟨od,es,ep,e2,c⟩,r⟩:=x;exact⟨ho _ d,z,ne,k _ _ (.inl rfl) e,mA,⟨od,es,ep,k _ _ (.inr d) e2,c⟩,r⟩
 |own y=>obtain⟨ob,e⟩:=x;exact⟨ob,k _ _ (.inl rfl) e⟩
 |xd fs=>obtain⟨mA,⟨od,es,ep,e,c⟩,r⟩:=x;exact⟨mA,⟨od,es,ep,k _ _ (.inl rfl) e,c⟩,r⟩
 |Nt lo hi=>obtain⟨t,u,v,e⟩:=x;exact⟨t,u,v,k _ _ (.inl rfl) e⟩
 |xK ob u ih=>obtain⟨e,q⟩:=x;exact⟨k _ _ (.inl rfl) e,ih q⟩
 |J1 ps=>
  have e:h.get? a=some {cls:= .none,data:= .fields ps}:=x;show h'.get? a=some {cls:= .none,data:= .fields ps};exact k a _ (.inl rfl) e
 |met f y=>
  have e:h.get? a=some (PySem.W.methodObj (.ref f) (.ref y)):=x;show h'.get? a=some (PySem.W.methodObj (.ref f) (.ref y));exact k a _ (.inl rfl) e
 |ext φ=>obtain⟨p,⟨o,e⟩,st⟩:=x;exact⟨st _ _ p λo q=>k _ _ (.inl rfl) q,⟨o,k _ _ (.inl rfl) e⟩,st⟩
theorem lV.lt(x:lV P w H h)(e:H a=some o):a<h.objs.size:=(x a o e).lt
theorem lV.fresh(x:lV P w H h)(e:h.objs.size<=a):H a=none:=by
 cases q:H a with
 |none=>rfl
 |some u=>exact absurd (Qs (x.lt q) e) (Q3 _)
theorem lV.kept(x:lV P w H h)(k:∀b u,h.get? b=some u->h'.get? b=some u):lV P w H h':=λa o e=>
 (x a o e).vG (λb u _ q=>k b u q) (λ_ q=>q) λ_ _ q=>q
theorem lV.laid(x:lV P w H h)(k:∀b u,h.get? b=some u->h'.get? b=some u)(hp:h.objs.size<=a)(new:dH P w (upd H a o) h' a o):lV P w (upd H a o) h':=λb u e=>by
 have hn:=x.fresh hp
 by_cases hb:b=a
 ·subst hb;rw[ah]at e;cases e;exact new
 ·rw[ai hb]at e
  exact(x b u e).vG (λc v _ q=>k c v q) (λc q=>by rw[ai (ak q hn)];exact q) λc xs q=>by rw[ai (ak q hn)];exact q
end
def Rd(H:Hp)(a:Addr)(u:HO):Prop:=H a=some u\/∃o,H a=some (.xK o u)
theorem Rd.ok{P:Qw}{w:World}{H:Hp}{h:Heap}{a:Addr}{u:HO}(r:Rd H a u)(x:lV P w H h):dH P w H h a u:=by
 rcases r with r|⟨o,r⟩
 ·exact x a u r
 ·obtain⟨_,q⟩:=x a _ r
  exact q
def Nw:Option HO->Prop
 |some (.lst _)=>True
 |some (.dK _)=>True
 |some (.dT _)=>True
 |some (.set _ _)=>True
 |some (.ins _ _ _)=>True
 |some (.ext _)=>True
 |_=>False
section
variable{P:Qw}{w:World}{H:Hp}{h h':Heap}{x e:Addr}{o':HO}
theorem lV.write(ok:lV P w H h)(mu:Nw (H x))(he:e=x\/H e=some (.own x))(k:∀b u,b≠e->h.get? b=some u->h'.get? b=some u)(heo:∃u,h'.get? e=some u)
  (new:dH P w (upd H x o') h' x o'):lV P w (upd H x o') h':=λb u q=>by
 have nown:∀c y,H c=some (.own y)->c≠x:=λc y r z=>by subst z;rw[r]at mu;exact mu
 have ntup:∀c xs,H c=some (.tup xs)->c≠x:=λc xs r z=>by subst z;rw[r]at mu;exact mu
 by_cases hb:b=x
 ·subst hb;rw[ah]at q;cases q;exact new
 ·rw[ai hb]at q
  by_cases hbe:b=e
  ·have q':H b=some (.own x):=by
    rcases he with z|z
    ·exact absurd (hbe.trans z) hb
    ·rw[hbe];exact z
   rw[q]at q';cases q';obtain⟨v,hv⟩:=heo;exact⟨v,by rw[hbe];exact hv⟩
  ·refine(ok b u q).vG (λc v hc r=>k c v ?_ r) (λc r=>by rw[ai (nown c b r)];exact r) λc xs r=>by rw[ai (ntup c xs r)];exact r
   rcases hc with rfl|hc
   ·exact hbe
   ·rintro rfl
    rcases he with z|z
    ·exact nown c b hc z
    ·rw[hc]at z;cases z;exact hb rfl
end
structure Un(fs ex:List Addr)(H H':Hp)(h h':Heap):Prop where
 keep:∀b o,h.get? b=some o->H b=none->b∉fs->b∉ex->h'.get? b=some o
 slot:∀b o,h.get? b=some o->H b=none->b∈fs->b∉ex->∃sl,h'.get? b=some {o with slots:=sl}
 free:∀b o,h.get? b=some o->H b=none->b∉ex->H' b=none
 there:∀b o,h.get? b=some o->b∉ex->∃o',h'.get? b=some o'
 rP:∀b xs,H b=some (.tup xs)->H' b=some (.tup xs)
 qF:∀b o u,H b=some (.xK o u)->H' b=some (.xK o u)
 rG:∀b ps,H b=some (.J1 ps)->∃more,H' b=some (.J1 (ps++more))
section
variable{fs fs' ex ex':List Addr}{H H1 H2:Hp}{h h1 h2 h':Heap}{a x e:Addr}{o:HO}
theorem Un.any(u:Un fs ex H H1 h h1){b:Addr}{ob:Obj}(q:h.get? b=some ob)(n:H b=none)(hx:b∉ex):∃sl,h1.get? b=some {ob with slots:=sl}:=by
 by_cases hb:b∈fs
 ·exact u.slot b ob q n hb hx
 ·exact⟨ob.slots,u.keep b ob q n hb hx⟩
theorem Un.trans(a:Un fs ex H H1 h h1)(b:Un fs ex H1 H2 h1 h2):Un fs ex H H2 h h2 where
 keep:=λc ob q n hc hx=>b.keep c ob (a.keep c ob q n hc hx) (a.free c ob q n hx) hc hx
 slot:=λc ob q n hc hx=>by
  obtain⟨sl,e1⟩:=a.slot c ob q n hc hx;obtain⟨sl',e2⟩:=b.slot c _ e1 (a.free c ob q n hx) hc hx;exact⟨sl',e2⟩
 free:=λc ob q n hx=>by
  obtain⟨o',e1⟩:=a.there c ob q hx;exact b.free c o' e1 (a.free c ob q n hx) hx
 there:=λc ob q hx=>by
  obtain⟨o',e1⟩:=a.there c ob q hx;exact b.there c o' e1 hx
 rP:=λc xs q=>b.rP c xs (a.rP c xs q)
 qF:=λc ob xs q=>b.qF c ob xs (a.qF c ob xs q)
 rG:=λc ps q=>by
  obtain⟨m1,e1⟩:=a.rG c ps q;obtain⟨m2,e2⟩:=b.rG c _ e1;exact⟨m1++m2,by rw[e2,Array.append_assoc]⟩
theorem Un.kept(k:∀b u,h.get? b=some u->h'.get? b=some u):Un fs ex H H h h':=
 ⟨λb ob q _ _ _=>k b ob q,λb ob q _ _ _=>⟨ob.slots,k b ob q⟩,λ_ _ _ n _=>n,λb ob q _=>⟨ob,k b ob q⟩,λ_ _ q=>q,λ_ _ _ q=>q,λ_ ps q=>⟨#[],by rw[q];simp⟩⟩
theorem Un.refl:Un fs ex H H h h:=Un.kept λ_ _ q=>q
theorem Un.laid(k:∀b u,h.get? b=some u->h'.get? b=some u)(hp:h.objs.size<=a)(hn:H a=none):Un fs ex H (upd H a o) h h' where
 keep:=λb u q _ _ _=>k b u q
 slot:=λb u q _ _ _=>⟨u.slots,k b u q⟩
 free:=λb u q n _=>by rw[ai (QC (Qs (P9 q) hp))];exact n
 there:=λb u q _=>⟨u,k b u q⟩
 rP:=λb xs q=>by rw[ai (ak q hn)];exact q
 qF:=λb u xs q=>by rw[ai (ak q hn)];exact q
 rG:=λb ps q=>⟨#[],by rw[ai (ak q hn),q];simp⟩
theorem Un.write(mu:Nw (H x))(he:e=x\/H e=some (.own x))(k:∀b u,b≠e->h.get? b=some u->h'.get? b=some u)(heo:∃u,h'.get? e=some u):Un fs ex H (upd H x o) h h':=by
 have hx:∀b,H b=none->b≠x:=λb n z=>by subst z;rw[n]at mu;exact mu
 have hb:∀b,H b=none->b≠e:=λb n z=>by
  subst z;rcases he with r|r
  ·exact hx b n r
  ·rw[n]at r;cases r
 have hm:∀b u,H b=some u->¬Nw (some u)->b≠x:=λb u q nm z=>by subst z;rw[q]at mu;exact nm mu
 refine⟨λb u q n _ _=>k b u (hb b n) q,λb u q n _ _=>⟨u.slots,k b u (hb b n) q⟩,λb u q n _=>by rw[ai (hx b n)];exact n,λb u q _=>?_,
  λb xs q=>by rw[ai (hm b _ q λz=>z)];exact q,λb u xs q=>by rw[ai (hm b _ q λz=>z)];exact q,λb ps q=>⟨#[],by rw[ai (hm b _ q λz=>z),q];simp⟩⟩
 by_cases hbe:b=e
 ·subst hbe;exact heo
 ·exact⟨u,k b u hbe q⟩
theorem Un.mono(u:Un fs ex H H1 h h1)(hs:∀b∈fs,b∈fs')(hx:∀b∈ex,b∈ex'):Un fs' ex' H H1 h h1:=
 ⟨λb ob q n hb he=>u.keep b ob q n (λz=>hb (hs b z)) λz=>he (hx b z),λ_ _ q n _ he=>u.any q n λz=>he (hx _ z),λb ob q n he=>u.free b ob q n λz=>he (hx b z),λb ob q he=>u.there b ob q λz=>he (hx b z),u.rP,u.qF,u.rG⟩
end
def Np(h:Heap)(H:Hp):List Addr:=(List.range h.objs.size).filter λa=>(H a).isSome
def Ac(h:Heap)(H:Hp):Heap:=PySem.W.hideAll h (Np h H)
theorem Fl(h:Heap)(H:Hp):(Ac h H).objs.size=h.objs.size:=PySem.W.hideAll_size _ _
theorem Ij{h:Heap}{H:Hp}{b:Addr}{o:Obj}(e:h.get? b=some o)(n:H b=none):(Ac h H).get? b=some o:=
 PySem.W.hideAll_get _ e λhm=>by
  have q:(H b).isSome=true:=(Qz.mp hm).2;rw[n]at q;simp at q
theorem JD{h:Heap}{H:Hp}{b:Addr}{o:Obj}(e:(Ac h H).get? b=some o):h.get? b=some o/\H b=none:=by
 have e':h.get? b=some o:=PySem.W.of_hideAll (Np h H) e;refine⟨e',?_⟩;cases q:H b with
 |none=>rfl
 |some x=>
  have hm:b∈Np h H:=Qz.mpr ⟨Qe.mpr (P9 e'),by simp[q]⟩;have z:(Ac h H).get? b=none:=PySem.W.hideAll_none (Np h H) hm;rw[z]at e;cases e
structure Mod(K:PB)(mg:Str->Option Value)(base:Heap):Prop where
 JX:K.In base
 glob:base.Ns mainGlobals mg
 blt:∃mb,base.Ns builtinsNs mb/\∀x:Str,x≠"__name__"->mb x=bootBuiltins x
 nolimit:base.NoLimit
structure Cx where
 prog:Qw
 w:World
 K:PB
 mg:Str->Option Value
 base:Heap
 A:Around
 N:List Str
 vz:Shared
 MD:Hp
 env:Env
 outer:List Env
 stack:List Env
 ex:List Addr
 fn:Str->Bool
 calm:Bool
 pn:List (Addr×Obj)
 xe:Value->Shared->Prop
def yU(l:List Env):List Addr:=l.filterMap (·.frame)
abbrev Cx.fs(X:Cx):List Addr:=yU X.outer
def LP(sc:Scope)(x:Str):Prop:=sc.names.lookup x=some .local\/sc.names.lookup x=some .cell\/sc.names.lookup x=some .free
def Loc(sc:Scope)(x:Str):Prop:=sc.names.lookup x=some .local\/sc.names.lookup x=some .cell
def Look(env:Env)(h:Heap)(m:Str->Option Value)(x:Str)(u:Value):Prop:=
 (env.kindOf x=some .local/\m x=some u)\/((env.kindOf x=some .cell\/env.kindOf x=some .free)/\∃c,env.cells.lookup x=some c/\h.IsCell c (some u))
structure Cx.Ok(X:Cx):Prop where
 mod:Mod X.K X.mg X.base
 kind:X.env.scope.kind=.function
 glob:X.env.globals=mainGlobals
 blt:X.env.builtins=builtinsNs
 above:X.vz.heap.objs.size<=X.env.locals
 inj:∀x y c,X.env.cells.lookup x=some c->X.env.cells.lookup y=some c->x=y
 has:∀x,(X.env.kindOf x=some .cell\/X.env.kindOf x=some .free)->∃c,X.env.cells.lookup x=some c
 LA:∀x c,X.fn x=true->X.env.cells.lookup x=some c->X.vz.heap.objs.size<=c
 hd:X.calm=true->X.A.handled=none
 frames:X.A.frames=some X.stack
 LQ:X.stack=X.outer\/(X.stack=X.env::X.outer/\X.env.frame=some X.env.locals)
 LN:∀b∈X.ex,b≠X.env.locals/\∀x c,X.env.cells.lookup x=some c->c≠b
 bs:∀b o,X.base.get? b=some o->X.vz.heap.get? b=some o/\X.MD b=none
 F5:X.base.objs.size<=X.vz.heap.objs.size
 Dm:∀b o,X.base.get? b=some o->b∉X.ex
 Db:∀b∈X.ex,b∉X.fs
 rK:X.vz.heap.FunFrames X.base X.outer
 Dd:∀b∈X.fs,X.MD b=none
structure Inv(X:Cx)(pins:List (Addr×Obj))(σ:List (Option V))(H:Hp)(s:Shared):Prop where
 ok:X.Ok
 os:s.os=X.vz.os
 bare:AllBare s.gens
 base:Un X.fs X.ex X.MD H X.vz.heap s.heap
 loc:∃m,s.heap.Ns X.env.locals m/\∀(i:Nat)(x:Str)(v:V),X.N[i]? =some x->σ[i]? =some (some v)->LP X.env.scope x->∃u,RelV v u/\Look X.env s.heap m x u
 cell:∀x c,X.env.cells.lookup x=some c->∃v,s.heap.IsCell c v
 free:H X.env.locals=none
 ms:∀x c,X.env.cells.lookup x=some c->H c=none
 pin:∀p∈X.pn++pins,s.heap.get? p.1=some p.2/\H p.1=none/\p.1≠X.env.locals/\p.1∉X.fs/\∀v,p.2.data≠.cell v
 cE:lV X.prog X.w H s.heap
 len:σ.length=X.N.length
section
variable{X:Cx}{pins:List (Addr×Obj)}{σ:List (Option V)}{H H':Hp}{s:Shared}{h':Heap}
theorem Cx.Ok.N3(ok:X.Ok){b:Addr}{o:Obj}(e:X.base.get? b=some o):b∉X.fs:=λhb=>by
 have:=(ok.rK.mem hb).1;rw[e]at this;cases this
theorem Inv.bs(I:Inv X pins σ H s):∀b o,X.base.get? b=some o->s.heap.get? b=some o/\H b=none:=λb o e=>
 ⟨I.base.keep b o (I.ok.bs b o e).1 (I.ok.bs b o e).2 (I.ok.N3 e) (I.ok.Dm b o e),I.base.free b o (I.ok.bs b o e).1 (I.ok.bs b o e).2 (I.ok.Dm b o e)⟩
theorem Inv.bk(I:Inv X pins σ H s):∀b o,X.base.get? b=some o->s.heap.get? b=some o:=λb o e=>(I.bs b o e).1
theorem Inv.mod(I:Inv X pins σ H s):Mod X.K X.mg X.base:=I.ok.mod
theorem Inv.qQ(I:Inv X pins σ H s):X.K.In s.heap:=I.ok.mod.JX.keeps I.bk
theorem Inv.lt(I:Inv X pins σ H s):X.env.locals<s.heap.objs.size:=let⟨_,hn,_⟩:=I.loc;hn.lt
theorem Inv.sz(I:Inv X pins σ H s):X.vz.heap.objs.size<=s.heap.objs.size:=Qq I.ok.above (Nat.le_of_lt I.lt)
theorem Inv.N5(I:Inv X pins σ H s){a:Addr}(h:s.heap.objs.size<=a):a∉X.fs:=λhb=>by
 obtain⟨_,o,ho,_⟩:=I.ok.rK.mem hb;exact absurd (Qs (P9 ho) (Qq I.sz h)) (Q3 _)
theorem Inv.J8(I:Inv X pins σ H s):∀x c,X.env.cells.lookup x=some c->c≠X.env.locals:=λx c e z=>by
 obtain⟨v,o,ho,hd⟩:=I.cell x c e;obtain⟨m,⟨o',es,ep,ho',hd',_⟩,_⟩:=I.loc;rw[z,ho']at ho;cases ho;rw[hd']at hd;cases hd
theorem Inv.rK(I:Inv X pins σ H s):s.heap.FunFrames X.base X.outer:=by
 have all:∀(l:List Env),(∀b∈yU l,b∈X.fs)->X.vz.heap.FunFrames X.base l->s.heap.FunFrames X.base l:=by
  intro l
  induction l with
  |nil=>intro _ _;trivial
  |cons env r ih=>
   intro hs hl;obtain⟨hk,⟨L,o,hf,hn,ho,hd⟩,hr⟩:=hl;have hL:L∈X.fs:=hs L (by unfold yU;rw[List.filterMap_cons,hf];exact PU);obtain⟨sl,e⟩:=I.base.slot L o ho (I.ok.Dd L hL) hL λz=>I.ok.Db L z hL;exact⟨hk,⟨L,_,hf,hn,e,hd⟩,ih (λb hb=>hs b (by unfold yU;rw[List.filterMap_cons,hf];exact PY _ hb)) hr⟩
 exact all X.outer (λ_ hb=>hb) I.ok.rK
theorem Inv.stack(I:Inv X pins σ H s):s.heap.FunFrames X.base X.stack:=by
 rcases I.ok.LQ with e|⟨e,hf⟩
 ·rw[e];exact I.rK
 ·rw[e]
  obtain⟨m,hn,_⟩:=I.loc;refine .cons (by rw[I.ok.kind];decide) hf hn ?_ I.rK;exact Heap.get?_none_of_le (Qq I.ok.F5 I.ok.above)
theorem Inv.Dr(I:Inv X pins σ H s):∀b∈yU X.stack,b∈X.env.locals::X.fs:=λb hb=>by
 rcases I.ok.LQ with e|⟨e,hf⟩
 ·rw[e]at hb;exact PY _ hb
 ·rw[e]at hb
  unfold yU at hb;rw[List.filterMap_cons,hf]at hb;exact hb
theorem Inv.vW(I:Inv X pins σ H s):∀b∈yU X.stack,H b=none:=λb hb=>by
 rcases Qh.mp (I.Dr b hb)with e|hb
 ·rw[e];exact I.free
 ·obtain⟨_,o,ho,_⟩:=I.ok.rK.mem hb
  exact I.base.free b o ho (I.ok.Dd b hb) λz=>I.ok.Db b z hb
theorem Inv.step{g':Array GenState}{t':Nat}{d':Drawn}{ch:List Addr}(I:Inv X pins σ H s)
  (hch:∀b∈ch,(b∈X.ex\/X.vz.heap.objs.size<=b)/\b≠X.env.locals/\(∀x c,X.env.cells.lookup x=some c->c≠b)/\∀p∈X.pn++pins,p.1≠b)
  (keep:∀b o,b≠X.env.locals->b∉X.fs->b∉ch->s.heap.get? b=some o->H b=none->h'.get? b=some o)
  (slot:∀b o,b≠X.env.locals->b∈X.fs->b∉ch->s.heap.get? b=some o->H b=none->∃sl,h'.get? b=some {o with slots:=sl})(free:∀b o,b∉ch->s.heap.get? b=some o->H b=none->H' b=none)
  (there:∀b o,b∉ch->s.heap.get? b=some o->∃o',h'.get? b=some o')
  (rP:∀b xs,H b=some (.tup xs)->H' b=some (.tup xs))(qF:∀b o u,H b=some (.xK o u)->H' b=some (.xK o u))(rG:∀b ps,H b=some (.J1 ps)->∃more,H' b=some (.J1 (ps++more)))
  (ns:∀m,s.heap.Ns X.env.locals m->h'.Ns X.env.locals m)(cE:lV X.prog X.w H' h')(hg:AllBare g'):
  Inv X pins σ H' {s with heap:=h',gens:=g',drawn:=d',toks:=t'}:=by
 have neL:∀b o,X.vz.heap.get? b=some o->b≠X.env.locals:=λb o e=>QC (Qs (P9 e) I.ok.above);have neC:∀b o,X.vz.heap.get? b=some o->b∉X.ex->b∉ch:=λb o e hx hb=>by
  rcases(hch b hb).1 with z|z
  ·exact hx z
  ·exact absurd (Qs (P9 e) z) (Q3 _)
 have cellK:∀x c,X.env.cells.lookup x=some c->∀v,s.heap.IsCell c v->h'.IsCell c v:=λx c e v⟨o,ho,hd⟩=>by
  have nch:c∉ch:=λz=>(hch c z).2.2.1 x c e rfl
  by_cases hc:c∈X.fs
  ·obtain⟨sl,q⟩:=slot c o (I.J8 x c e) hc nch ho (I.ms x c e)
   exact⟨_,q,hd⟩
  ·exact⟨o,keep c o (I.J8 x c e) hc nch ho (I.ms x c e),hd⟩
 refine⟨I.ok,I.os,hg,⟨λb o e n hb hx=>?_,λb o e n hb hx=>?_,λb o e n hx=>?_,λb o e hx=>?_,λb xs e=>rP b xs (I.base.rP b xs e),λb o xs e=>qF b o xs (I.base.qF b o xs e),λb ps e=>?_⟩,?_,λx c e=>?_,?_,λx c e=>?_,λp hp=>?_,cE,I.len⟩
 ·exact keep b o (neL b o e) hb (neC b o e hx) (I.base.keep b o e n hb hx) (I.base.free b o e n hx)
 ·obtain⟨sl,e1⟩:=I.base.slot b o e n hb hx
  obtain⟨sl',e2⟩:=slot b _ (neL b o e) hb (neC b o e hx) e1 (I.base.free b o e n hx);exact⟨sl',e2⟩
 ·obtain⟨o',e1⟩:=I.base.there b o e hx
  exact free b o' (neC b o e hx) e1 (I.base.free b o e n hx)
 ·obtain⟨o',e1⟩:=I.base.there b o e hx
  exact there b o' (neC b o e hx) e1
 ·obtain⟨m1,e1⟩:=I.base.rG b ps e
  obtain⟨m2,e2⟩:=rG b _ e1;exact⟨m1++m2,by rw[e2,Array.append_assoc]⟩
 ·obtain⟨m,hn,hl⟩:=I.loc
  refine⟨m,ns m hn,λi x v e1 e2 e3=>?_⟩;obtain⟨u,r,l⟩:=hl i x v e1 e2 e3;refine⟨u,r,?_⟩;rcases l with l|⟨k,c,e,z⟩
  ·exact .inl l
  ·exact .inr ⟨k,c,e,cellK x c e _ z⟩
 ·obtain⟨v,z⟩:=I.cell x c e
  exact⟨v,cellK x c e v z⟩
 ·obtain⟨m,⟨o,_,_,ho,_⟩,_⟩:=I.loc
  exact free _ o (λz=>(hch _ z).2.1 rfl) ho I.free
 ·obtain⟨v,o,ho,hd⟩:=I.cell x c e
  exact free c o (λz=>(hch c z).2.2.1 x c e rfl) ho (I.ms x c e)
 ·obtain⟨e,n,ne,nf,d⟩:=I.pin p hp
  have nch:p.1∉ch:=λz=>(hch p.1 z).2.2.2 p hp rfl;exact⟨keep p.1 p.2 ne nf nch e n,free p.1 p.2 nch e n,ne,nf,d⟩
theorem Inv.un{t':Nat}(I:Inv X pins σ H s)(u:Un X.fs [] H H' s.heap h')(cE:lV X.prog X.w H' h'):Inv X pins σ H' {s with heap:=h',toks:=t'}:=by
 obtain⟨m,⟨o,es,ep,ho,r⟩,_⟩:=id I.loc;obtain⟨sl,hL⟩:=u.any ho I.free (by simp);exact I.step (g':=s.gens) (d':=s.drawn) (ch:=[]) (λ_ z=>nomatch z) (λb o _ hb _ e n=>u.keep b o e n hb (by simp)) (λb o _ hb _ e n=>u.slot b o e n hb (by simp)) (λb o _ e n=>u.free b o e n (by simp)) (λb o _ e=>u.there b o e (by simp)) u.rP u.qF u.rG (λm' hm=>by
  obtain⟨o',es',ep',ho',r'⟩:=hm;rw[ho]at ho';cases ho';exact⟨_,es',ep',hL,r'⟩) cE I.bare
theorem Inv.call{g':Array GenState}{t':Nat}{d':Drawn}{ch:List Addr}(I:Inv X pins σ H s)(u:Un (yU X.stack) ch H H' s.heap h')(cE:lV X.prog X.w H' h')(hg:AllBare g')
  (hch:∀b∈ch,(b∈X.ex\/X.vz.heap.objs.size<=b)/\b≠X.env.locals/\(∀x c,X.env.cells.lookup x=some c->c≠b)/\∀p∈X.pn++pins,p.1≠b):
  Inv X pins σ H' {s with heap:=h',gens:=g',drawn:=d',toks:=t'}:=by
 obtain⟨m,⟨o,es,ep,ho,r⟩,_⟩:=id I.loc;obtain⟨sl,hL⟩:=u.any ho I.free λz=>(hch _ z).2.1 rfl;exact I.step (ch:=ch) hch (λb o hL hb hc e n=>u.keep b o e n (λz=>(Qh.mp (I.Dr b z)).elim hL hb) hc) (λb o _ _ hc e n=>u.any e n hc) (λb o hc e n=>u.free b o e n hc) (λb o hc e=>u.there b o e hc) u.rP u.qF u.rG (λm' hm=>by
  obtain⟨o',es',ep',ho',r'⟩:=hm;rw[ho]at ho';cases ho';exact⟨_,es',ep',hL,r'⟩) cE hg
theorem Inv.turned{t':Nat}{it:Addr}(I:Inv X pins σ H s)(k:∀b o,b≠it->s.heap.get? b=some o->h'.get? b=some o)(hn:H it=none)(hL:it≠X.env.locals)
  (h1:it∈X.ex\/X.vz.heap.objs.size<=it)(h2:∀x c,X.env.cells.lookup x=some c->c≠it)(h3:∀p∈X.pn++pins,p.1≠it):Inv X pins σ H {s with heap:=h',toks:=t'}:=by
 have nit:∀b u,H b=some u->b≠it:=λb u e z=>by rw[z,hn]at e;cases e
 refine I.step (g':=s.gens) (d':=s.drawn) (ch:=[it]) (λb hb=>?_) (λb o _ _ hc e _=>k b o (λz=>hc (by simp[z])) e) (λb o _ _ hc e _=>⟨o.slots,k b o (λz=>hc (by simp[z])) e⟩) (λ_ _ _ _ n=>n)
  (λb o hc e=>⟨o,k b o (λz=>hc (by simp[z])) e⟩) (λ_ _ e=>e) (λ_ _ _ e=>e) (λb ps e=>⟨#[],by rw[e];simp⟩) (λm hm=>?_) (λb u e=>?_) I.bare
 ·have e:b=it:=by simpa using hb
  subst e;exact⟨h1,hL,h2,h3⟩
 ·obtain⟨o,es,ep,ho,r⟩:=hm
  exact⟨o,es,ep,k _ o (PZ hL) ho,r⟩
 ·refine(I.cE b u e).vG (λc v hc q=>k c v ?_ q) (λ_ q=>q) λ_ _ q=>q
  rcases hc with z|z
  ·rw[z];exact nit b u e
  ·exact nit c _ z
theorem Inv.tok(I:Inv X pins σ H s)(t:Nat):Inv X pins σ H {s with toks:=t}:=I.un (h':=s.heap) (t':=t) Un.refl I.cE
theorem Inv.kept{t':Nat}(I:Inv X pins σ H s)(k:∀b u,s.heap.get? b=some u->h'.get? b=some u):Inv X pins σ H {s with heap:=h',toks:=t'}:=I.un (Un.kept k) (I.cE.kept k)
theorem Inv.laid{a:Addr}{o:HO}{t':Nat}(I:Inv X pins σ H s)(k:∀b u,s.heap.get? b=some u->h'.get? b=some u)(hp:s.heap.objs.size<=a)(new:dH X.prog X.w (upd H a o) h' a o):
  Inv X pins σ (upd H a o) {s with heap:=h',toks:=t'}:=I.un (Un.laid k hp (I.cE.fresh hp)) (I.cE.laid k hp new)
theorem Inv.write{x e:Addr}{o:HO}{t':Nat}(I:Inv X pins σ H s)(mu:Nw (H x))(he:e=x\/H e=some (.own x))(k:∀b u,b≠e->s.heap.get? b=some u->h'.get? b=some u)(heo:∃u,h'.get? e=some u)
  (new:dH X.prog X.w (upd H x o) h' x o):Inv X pins σ (upd H x o) {s with heap:=h',toks:=t'}:=I.un (Un.write mu he k heo) (I.cE.write mu he k heo new)
theorem Inv.weak{σ':List (Option V)}(I:Inv X pins σ H s)(hl:σ'.length=σ.length)(w:∀(i:Nat) v,σ'[i]? =some (some v)->σ[i]? =some (some v)):Inv X pins σ' H s:=
 ⟨I.ok,I.os,I.bare,I.base,let⟨m,hn,hl'⟩:=I.loc;⟨m,hn,λi x v e1 e2 e3=>hl' i x v e1 (w i v e2) e3⟩,I.cell,I.free,I.ms,I.pin,I.cE,hl.trans I.len⟩
theorem Inv.EN{pins':List (Addr×Obj)}(I:Inv X pins σ H s)(h:∀p∈pins',s.heap.get? p.1=some p.2/\H p.1=none/\p.1≠X.env.locals/\p.1∉X.fs/\∀v,p.2.data≠.cell v):Inv X pins' σ H s:=
 ⟨I.ok,I.os,I.bare,I.base,I.loc,I.cell,I.free,I.ms,λp hp=>(Qc.mp hp).elim (λz=>I.pin p (QX _ z)) (h p),I.cE,I.len⟩
theorem xI{N:List Str}(hN:N.Nodup){i j:Nat}{x:Str}(a:N[i]? =some x)(b:N[j]? =some x):i=j:=by
 obtain⟨h1,e1⟩:=PQ.mp a;obtain⟨h2,e2⟩:=PQ.mp b;exact(List.getElem_inj hN).mp (e1.trans e2.symm)
theorem zW{M:Model}{A:Around}{E:Value->Shared->Prop}{i:Nat}{x:Str}{v:V}{u:Value}{Q:Unit->Shared->Prop}(I:Inv X pins σ H s)(hN:X.N.Nodup)(hi:X.N[i]? =some x)(hx:Loc X.env.scope x)(r:RelV v u)
  (h:∀s',Inv X pins (σ.set i (some v)) H s'->(∃a,Heap.SameBut a s.heap s'.heap/\(a=X.env.locals\/X.env.cells.lookup x=some a))->Q () s')(hf:X.fn x=true\/X.env.scope.names.lookup x=some .local:=by first|exact .inl rfl|exact .inr rfl|assumption):wpAny M A (storeName X.env x u) Q E s:=by
 obtain⟨m,hn,hl⟩:=id I.loc;have hcls:(X.env.scope.kind== .class||(X.env.scope.kind== .module&&X.env.locals !=X.env.globals))=false:=by rw[I.ok.kind];rfl
 have hiσ:i<σ.length:=by rw[I.len];exact(PQ.mp hi).1
 have J8:=I.J8;have tracked:∀{a:Addr}{h':Heap},(∃o,s.heap.get? a=some o/\H a=none)->Heap.SameBut a s.heap h'->lV X.prog X.w H h':=λ{a h'} ha hs b ob e=>by
  obtain⟨_,_,hfree⟩:=ha;refine(I.cE b ob e).vG (λc w' hc q=>(hs.2 c ?_).trans q) (λ_ q=>q) λ_ _ q=>q
  rintro rfl
  rcases hc with rfl|hc
  ·rw[hfree]at e;cases e
  ·rw[hfree]at hc;cases hc
 rcases hx with hk|hk
 ·refine wpAny_storeName_local hk hn (λh' hn' hs=>?_) hcls
  obtain⟨oL,_,_,hoL,_⟩:=id hn;refine h _ ⟨I.ok,I.os,I.bare,⟨λb o e n hb hx=>?_,λb o e n hb hx=>?_,I.base.free,λb o e hx=>?_,I.base.rP,I.base.qF,I.base.rG⟩,⟨_,hn',λj y v' e1 e2 e3=>?_⟩,λy c e=>?_,I.free,I.ms,λp hp=>?_,tracked ⟨oL,hoL,I.free⟩ hs,by simpa using I.len⟩ ⟨_,hs,.inl rfl⟩
  ·exact(hs.2 b (QC (Qs (P9 e) I.ok.above))).trans (I.base.keep b o e n hb hx)
  ·obtain⟨sl,e1⟩:=I.base.slot b o e n hb hx
   exact⟨sl,(hs.2 b (QC (Qs (P9 e) I.ok.above))).trans e1⟩
  ·obtain⟨o',e1⟩:=I.base.there b o e hx
   exact⟨o',(hs.2 b (QC (Qs (P9 e) I.ok.above))).trans e1⟩
  ·by_cases hj:j=i
   ·subst hj
    rw[hi]at e1;cases e1;rw[List.getElem?_set_self hiσ]at e2;cases e2;exact⟨u,r,.inl ⟨hk,by simp⟩⟩
   ·rw[List.getElem?_set_ne (PZ hj)]at e2
    obtain⟨u',r',q⟩:=hl j y v' e1 e2 e3;refine⟨u',r',?_⟩;rcases q with⟨k,e⟩|⟨k,c,e,z⟩
    ·refine .inl ⟨k,?_⟩
     have:y≠x:=λe=>hj (xI hN e1 (e▸hi));simp[this,e]
    ·exact .inr ⟨k,c,e,z.sameBut hs (J8 y c e)⟩
  ·obtain⟨w',z⟩:=I.cell y c e
   exact⟨w',z.sameBut hs (J8 y c e)⟩
  ·obtain⟨e,n,ne,nf,d⟩:=I.pin p hp
   exact⟨(hs.2 p.1 ne).trans e,n,ne,nf,d⟩
 ·have hfn:X.fn x=true:=by
   rcases hf with z|z
   ·exact z
   ·rw[z]at hk;cases hk
  obtain⟨c,hc⟩:=I.ok.has x (.inl hk);obtain⟨w',z⟩:=I.cell x c hc;refine wpAny_storeName_cell I.ok.kind hk hc z (λh' hc' hs=>?_);obtain⟨oc,hoc,hocd⟩:=id z;refine h {s with heap:=h'} ⟨I.ok,I.os,I.bare,⟨λb o e n hb hx=>?_,λb o e n hb hx=>?_,I.base.free,λb o e hx=>?_,I.base.rP,I.base.qF,I.base.rG⟩,⟨m,hn.sameBut hs (PZ (J8 x c hc)),λj y v' e1 e2 e3=>?_⟩,λy c' e=>?_,I.free,I.ms,λp hp=>?_,tracked ⟨oc,hoc,I.ms x c hc⟩ hs,by simpa using I.len⟩ ⟨c,hs,.inr hc⟩
  ·exact(hs.2 b (QC (Qs (P9 e) (I.ok.LA x c hfn hc)))).trans (I.base.keep b o e n hb hx)
  ·obtain⟨sl,e1⟩:=I.base.slot b o e n hb hx
   exact⟨sl,(hs.2 b (QC (Qs (P9 e) (I.ok.LA x c hfn hc)))).trans e1⟩
  ·obtain⟨o',e1⟩:=I.base.there b o e hx
   exact⟨o',(hs.2 b (QC (Qs (P9 e) (I.ok.LA x c hfn hc)))).trans e1⟩
  ·by_cases hj:j=i
   ·subst hj
    rw[hi]at e1;cases e1;rw[List.getElem?_set_self hiσ]at e2;cases e2;exact⟨u,r,.inr ⟨.inl hk,c,hc,hc'⟩⟩
   ·rw[List.getElem?_set_ne (PZ hj)]at e2
    obtain⟨u',r',q⟩:=hl j y v' e1 e2 e3;refine⟨u',r',?_⟩;rcases q with q|⟨k,c',e,z'⟩
    ·exact .inl q
    ·refine .inr ⟨k,c',e,z'.sameBut hs ?_⟩
     rintro rfl
     exact hj (xI hN e1 (I.ok.inj _ _ _ e hc▸hi))
  ·by_cases hcc:c'=c
   ·subst hcc;exact⟨_,hc'⟩
   ·obtain⟨w2,z2⟩:=I.cell y c' e
    exact⟨w2,z2.sameBut hs hcc⟩
  ·obtain⟨e,n,ne,nf,d⟩:=I.pin p hp
   refine⟨(hs.2 p.1 ?_).trans e,n,ne,nf,d⟩;intro q;rw[q,hoc]at e;have q':oc=p.2:=Qk e;exact d w' (by rw[<-q'];exact hocd)
theorem tf{M:Model}{A:Around}{E:Value->Shared->Prop}{i:Nat}{x:Str}{v:V}{u:Value}{Q:Unit->Shared->Prop}(I:Inv X pins σ H s)(hN:X.N.Nodup)(hi:X.N[i]? =some x)(hx:Loc X.env.scope x)(r:RelV v u)
  (h:∀s',Inv X pins (σ.set i (some v)) H s'->Q () s')(hf:X.fn x=true\/X.env.scope.names.lookup x=some .local:=by first|exact .inl rfl|exact .inr rfl|assumption):wpAny M A (storeName X.env x u) Q E s:=
 zW I hN hi hx r (λs' I' _=>h s' I') hf
theorem Inv.Hg{s':Shared}{ch:List Addr}(I:Inv X pins σ H s)(ho:s'.os=s.os)(u:Un (yU X.stack) ch H H' s.heap s'.heap)(cE:lV X.prog X.w H' s'.heap)(hg:AllBare s'.gens)
  (hch:∀b∈ch,(b∈X.ex\/X.vz.heap.objs.size<=b)/\b≠X.env.locals/\(∀x c,X.env.cells.lookup x=some c->c≠b)/\∀p∈X.pn++pins,p.1≠b):Inv X pins σ H' s':=by
 obtain⟨h',g',d',t',o'⟩:=s';have e:o'=s.os:=ho;subst e;exact I.call (g':=g') (t':=t') (d':=d') u cE hg hch
end
abbrev XK:=Value->Option Addr->Hp->Prop
abbrev St:=List (Option V)
abbrev VK:=V->Hp->Prop
abbrev TE:=St->Hp->VK->Prop
abbrev TT:=St->Hp->(Bool->Hp->Prop)->Prop
abbrev TA:=St->Hp->(List V->Hp->Prop)->Prop
structure Ends where
 nx:St->Hp->Prop
 rt:VK
 bk:St->Hp->Prop:=λ_ _=>False
 ct:St->Hp->Prop:=λ_ _=>False
abbrev TS:=Ends->St->Hp->Prop
@[reducible] def Ends.go (D:Ends) (n:St->Hp->Prop):Ends:={D with nx:=n}
@[reducible] def Ends.lp (D:Ends) (n:St->Hp->Prop):Ends:={D with nx:=n,ct:=n,bk:=D.nx}
inductive EP(X:Cx)(pins:List (Addr×Obj))(σ:St)(Q:VK)(u:Value)(s':Shared):Prop
 |mk (v:V) (H':Hp) (_:Inv X pins σ H' s') (_:RelV v u) (_:Q v H'):EP X pins σ Q u s'
inductive TP(X:Cx)(pins:List (Addr×Obj))(σ:St)(Q:Bool->Hp->Prop)(b:Bool)(s':Shared):Prop
 |mk (H':Hp) (_:Inv X pins σ H' s') (_:Q b H'):TP X pins σ Q b s'
inductive AP(X:Cx)(pins:List (Addr×Obj))(σ:St)(Q:List V->Hp->Prop)(us:List Value)(s':Shared):Prop
 |mk (vs:List V) (H':Hp) (_:Inv X pins σ H' s') (_:Vals vs us) (_:Q vs H'):AP X pins σ Q us s'
inductive SN(X:Cx)(pins:List (Addr×Obj))(R:St->Hp->Prop)(s':Shared):Prop
 |mk (σ':St) (H':Hp) (_:Inv X pins σ' H' s') (_:R σ' H'):SN X pins R s'
inductive SR(X:Cx)(pins:List (Addr×Obj))(R:VK)(u:Value)(s':Shared):Prop
 |mk (v:V) (σ':St) (H':Hp) (_:Inv X pins σ' H' s') (_:RelV v u) (_:R v H'):SR X pins R u s'
def SP(X:Cx)(pins:List (Addr×Obj))(D:Ends)(f:Flow)(s':Shared):Prop:=
 match f with
 |.next=>SN X pins D.nx s'
 |.brk=>SN X pins D.bk s'
 |.cont=>SN X pins D.ct s'
 |.ret u=>SR X pins D.rt u s'
def PE(X:Cx)(e:Expr)(t:TE):Prop:=
 ∀(pins:List (Addr×Obj))(s:Shared)(σ:St)(H:Hp)(Q:VK),Inv X pins σ H s->t σ H Q->wpAny (model X.prog X.w) X.A (eval e X.env) (EP X pins σ Q) X.xe s
def PT(X:Cx)(e:Expr)(t:TT):Prop:=
 ∀(pins:List (Addr×Obj))(s:Shared)(σ:St)(H:Hp)(Q:Bool->Hp->Prop),Inv X pins σ H s->t σ H Q->wpAny (model X.prog X.w) X.A (isTrue e X.env (eval e X.env)) (TP X pins σ Q) X.xe s
def PW(X:Cx)(e:Expr)(t:TT):Prop:=
 ∀(whole:Sem Value)(pins:List (Addr×Obj))(s:Shared)(σ:St)(H:Hp)(Q:Bool->Hp->Prop),Inv X pins σ H s->t σ H Q->wpAny (model X.prog X.w) X.A (isTrue e X.env whole) (TP X pins σ Q) X.xe s
theorem PW.pt{X:Cx}{e:Expr}{t:TT}(h:PW X e t):PT X e t:=h _
def PA(X:Cx)(es:List Expr)(t:TA):Prop:=
 ∀(pos:Pos)(pins:List (Addr×Obj))(s:Shared)(σ:St)(H:Hp)(Q:List V->Hp->Prop),Inv X pins σ H s->t σ H Q->wpAny (model X.prog X.w) X.A (spliced (backTo pos (starEach es X.env))) (AP X pins σ Q) X.xe s
def PS(X:Cx)(st:Stmt)(t:TS):Prop:=
 ∀(pins:List (Addr×Obj))(s:Shared)(σ:St)(H:Hp)(D:Ends),Inv X pins σ H s->t D σ H->wpAny (model X.prog X.w) X.A (exec st X.env) (SP X pins D) X.xe s
def xx(X:Cx)(st:List Stmt)(t:TS):Prop:=
 ∀(pins:List (Addr×Obj))(s:Shared)(σ:St)(H:Hp)(D:Ends),Inv X pins σ H s->t D σ H->wpAny (model X.prog X.w) X.A (execs st X.env) (SP X pins D) X.xe s
theorem dM{α:Type}{t:Sem α}{Q Q':α->Shared->Prop}{M:Model}{A:Around}{E:Value->Shared->Prop}{s:Shared}(h:wpAny M A t Q E s)(hQ:∀a s,Q a s->Q' a s):wpAny M A t Q' E s:=Rc h hQ λ_ _ x=>x
section
variable{X:Cx}
inductive Nb(σ:St)(i:Nat)(H:Hp)(Q:VK):Prop
 |mk (v:V) (_:σ[i]? =some (some v)) (_:Q v H):Nb σ i H Q
def MN(i:Nat):TE:=λσ H Q=>Nb σ i H Q
def tC(v:V):TE:=λ_ H Q=>Q v H
theorem Kz{i:Nat}{x:Str}{pos:Pos}(hN:X.N[i]? =some x)(hv:LP X.env.scope x)(hd:(x==("__debug__":Str))=false:=by decide)(hcd:(x==("__classdict__":Str))=false:=by decide):PE X (.Name x pos) (MN i):=by
 intro pins s σ H Q I h;obtain⟨v,e,h⟩:=h;obtain⟨m,hn,hl⟩:=I.loc;obtain⟨u,r,l⟩:=hl i x v hN e hv;have fin:EP X pins σ Q u s:=⟨v,H,I,r,h⟩;rcases l with⟨hk,hm⟩|⟨hk,c,hc,hcell⟩
 ·exact wpAny_Name (wpAny_loadName_local I.ok.kind hk hn hm fin) hd
 ·rcases hk with hk|hk
  ·exact wpAny_Name (wpAny_loadName_cell I.ok.kind hk hc hcell fin) hd
  ·exact wpAny_Name (wpAny_loadName_free I.ok.kind hk hc hcell fin hcd) hd
theorem aw{i j pos}:PE X (.Constant (.int i) j pos) (tC (.int i)):=λ_ _ _ H _ I h=>wpAny_Constant_int ⟨.int i,H,I.tok _,⟨_,rfl⟩,h⟩
theorem qT{b j pos}:PE X (.Constant (.bool b) j pos) (tC (.bl b)):=λ_ _ _ H _ I h=>Constant_bool ⟨.bl b,H,I,rfl,h⟩
theorem Lp{j pos}:PE X (.Constant .none j pos) (tC .eB):=λ_ _ _ H _ I h=>Constant_none ⟨.eB,H,I,rfl,h⟩
theorem a9{x j pos}:PE X (.Constant (.str x) j pos) (tC (.str x)):=λ_ _ _ H _ I h=>Calls.Constant_str ⟨.str x,H,I.tok _,⟨_,rfl⟩,h⟩
def Gl(X:Cx)(x:Str):Prop:=X.env.kindOf x=some .globalImplicit
theorem l7{E:Value->Shared->Prop}{pins:List (Addr×Obj)}{s:Shared}{σ:St}{H:Hp}{x:Str}{u:Value}{pos:Pos}{Q:Value->Shared->Prop}(I:Inv X pins σ H s)(hg:Gl X x)(hm:X.mg x=some u)(h:Q u s)
  (hd:(x==("__debug__":Str))=false:=by decide):wpAny (model X.prog X.w) X.A (eval (.Name x pos) X.env) Q E s:=
 Calls.Name_function_global I.ok.kind hg (Calls.loadGlobal_global (by rw[I.ok.glob];exact I.mod.glob.keeps I.bk) hm h) hd
theorem uv{E:Value->Shared->Prop}{pins:List (Addr×Obj)}{s:Shared}{σ:St}{H:Hp}{x:Str}{u:Value}{pos:Pos}{Q:Value->Shared->Prop}(I:Inv X pins σ H s)(hg:Gl X x)(hm:X.mg x=none)(hv:bootBuiltins x=some u)(h:Q u s)
  (hn:x≠"__name__":=by decide)(hd:(x==("__debug__":Str))=false:=by decide):wpAny (model X.prog X.w) X.A (eval (.Name x pos) X.env) Q E s:=by
 obtain⟨mb,h1,h2⟩:=I.mod.blt;exact Calls.Name_function_global I.ok.kind hg (Calls.loadGlobal_builtin (by rw[I.ok.glob];exact I.mod.glob.keeps I.bk) hm (by rw[I.ok.blt];exact h1.keeps I.bk) ((h2 x hn).trans hv) h) hd
theorem ko{x:Str}{v:V}{u:Value}{pos:Pos}(hg:Gl X x)(hm:X.mg x=some u)(r:RelV v u)(hd:(x==("__debug__":Str))=false:=by decide):PE X (.Name x pos) (tC v):=
 λ_ _ _ H _ I h=>l7 I hg hm ⟨v,H,I,r,h⟩ hd
variable{a b:Expr}{ta tb:TE}{pos:Pos}
def PC(X:Cx)(op:CmpOp)(a b:Expr)(t:TE):Prop:=
 ∀(pins:List (Addr×Obj))(s:Shared)(σ:St)(H:Hp)(Q:VK),Inv X pins σ H s->t σ H Q->
  wpAny (model X.prog X.w) X.A (eval a X.env) (λv s₁=>wpAny (model X.prog X.w) X.A (eval b X.env) (λu s₂=>wpAny (model X.prog X.w) X.A (compareOp op v u) (EP X pins σ Q) X.xe s₂) X.xe s₁) X.xe s
theorem Ik(b:Expr){op:CmpOp}(h:op≠.In)(h2:op≠.NotIn):behindInMarks op b=false:=by
 have e1:(op==CmpOp.In)=false:=by cases op<;>first|rfl|exact absurd rfl h
 have e2:(op==CmpOp.NotIn)=false:=by cases op<;>first|rfl|exact absurd rfl h2
 cases b<;>simp[behindInMarks,e1,e2]
def N_(ta:TE):TE:=λσ H Q=>ta σ H λx H1=>Q (.bl (decide (x=.eB))) H1
theorem RelV.HJ{x:V}{v:Value}(r:RelV x v):(v==Value.none)=decide (x=.eB):=by
 cases x with
 |eB=>cases r;rfl
 |bl _=>cases r;rfl
 |int _=>obtain⟨t,rfl⟩:=r;rfl
 |str _=>obtain⟨t,rfl⟩:=r;rfl
 |Br _=>obtain⟨t,rfl⟩:=r;rfl
 |flt _=>obtain⟨t,rfl⟩:=r;rfl
 |ref _=>cases r;rfl
 |ty _=>cases r;rfl
theorem KO{j pos'}(ha:PE X a ta):PC X .Is a (.Constant .none j pos') (N_ ta):=by
 intro pins s σ H Q I h;refine dM (ha pins s σ H _ I h) λv s1⟨x,H1,I1,r1,q1⟩=>?_;exact Constant_none (is_none_gen ⟨.bl _,H1,I1,by rw[r1.HJ];rfl,q1⟩)
inductive N9(x:V)(H:Hp)(Q:Bool->Hp->Prop):Prop
 |mk (c:Bool) (_:x=.bl c) (_:Q c H):N9 x H Q
def tB(t:TE):TT:=λσ H Q=>t σ H λx H1=>N9 x H1 Q
theorem KH{op:CmpOp}{t:TE}(h:PC X op a b t)(h1:behindInMarks op b=false:=by first|exact Ik _ (by decide) (by decide)|rfl):PT X (.Compare a [op] [b] pos) (tB t):=by
 intro pins s σ H Q I hw;refine wpAny_isTrue_Compare1 (dM (h pins s σ H _ I hw) λv s1 h1=>dM h1 λu s2 h2=>dM h2 λc s3⟨x,H1,I1,r1,q1⟩=>?_) h1;obtain⟨d,rfl,q⟩:=q1;cases r1;exact Rb ⟨H1,I1,q⟩
theorem dD{e:Expr}{t:TE}(h:PE X e t)(he:∀whole,isTrue e X.env whole=(do let v<-whole;standAt e.pos;holding [v] (truthy v)):=by intro _;rfl):PT X e (tB t):=by
 intro pins s σ H Q I hw;refine isTrue_plain (dM (h pins s σ H _ I hw) λv s1⟨x,H1,I1,r1,q1⟩=>?_) (he _);obtain⟨d,rfl,q⟩:=q1;cases r1;exact Rb ⟨H1,I1,q⟩
variable{tA tB':TT}{rest:List Expr}
def OC(t u:TT):TT:=λσ H Q=>t σ H λc H1=>if c=true then u σ H1 Q else Q false H1
def Pr(t u:TT):TT:=λσ H Q=>t σ H λc H1=>if c=true then Q true H1 else u σ H1 Q
def Os(t:TT):TT:=λσ H Q=>t σ H λc H1=>Q (!c) H1
theorem fc(ha:PT X a tA):PW X (.BoolOp .And [a] pos) tA:=by
 intro wh pins s σ H Q I h;refine isTrue_and (dM (ha pins s σ H Q I h) λc s1 e=>?_);cases c with
 |true=>exact isTrue_and_nil e
 |false=>exact e
theorem t_(ha:PT X a tA):PW X (.BoolOp .Or [a] pos) tA:=by
 intro wh pins s σ H Q I h;refine isTrue_or (dM (ha pins s σ H Q I h) λc s1 e=>?_);cases c with
 |false=>exact isTrue_or_nil e
 |true=>exact e
theorem gM(ha:PT X a tA)(hb:PW X (.BoolOp .And (b::rest) pos) tB'):PW X (.BoolOp .And (a::b::rest) pos) (OC tA tB'):=by
 intro wh pins s σ H Q I h;refine isTrue_and (dM (ha pins s σ H _ I h) λc s1⟨H1,I1,q1⟩=>?_);cases c with
 |true=>exact hb wh pins s1 σ H1 Q I1 q1
 |false=>exact⟨H1,I1,q1⟩
theorem z5(ha:PT X a tA)(hb:PW X (.BoolOp .Or (b::rest) pos) tB'):PW X (.BoolOp .Or (a::b::rest) pos) (Pr tA tB'):=by
 intro wh pins s σ H Q I h;refine isTrue_or (dM (ha pins s σ H _ I h) λc s1⟨H1,I1,q1⟩=>?_);cases c with
 |true=>exact⟨H1,I1,q1⟩
 |false=>exact hb wh pins s1 σ H1 Q I1 q1
theorem lK(ha:PT X a tA):PT X (.UnaryOp .Not a pos) (Os tA):=by
 intro pins s σ H Q I h;exact isTrue_not (dM (ha pins s σ H (λc H1=>Q (!c) H1) I h) λ_ _⟨H1,I1,q⟩=>⟨H1,I1,q⟩)
def MY(ta tb:TE):TE:=λσ H Q=>ta σ H λx H1=>∃c,x=.bl c/\if c=true then tb σ H1 Q else Q (.bl false) H1
def Oz(ta tb:TE):TE:=λσ H Q=>ta σ H λx H1=>∃c,x=.bl c/\if c=true then Q (.bl true) H1 else tb σ H1 Q
def Nh(ta:TE):TE:=λσ H Q=>ta σ H λx H1=>∃c,x=.bl c/\Q (.bl (!c)) H1
theorem p8{op}{t:TE}(h:PE X a t):PE X (.BoolOp op [a] pos) t:=λpins s σ H Q I hw=>BoolOp_one (h pins s σ H Q I hw)
theorem wm(ha:PE X a ta)(hb:PE X (.BoolOp .And (b::rest) pos) tb):PE X (.BoolOp .And (a::b::rest) pos) (MY ta tb):=by
 intro pins s σ H Q I h;refine BoolOp_and (dM (ha pins s σ H _ I h) λv s1⟨x,H1,I1,r1,q1⟩=>?_);obtain⟨c,rfl,q1⟩:=q1;cases r1;refine Rb ?_;cases c with
 |true=>exact hb pins s1 σ H1 Q I1 q1
 |false=>exact⟨.bl false,H1,I1,rfl,q1⟩
theorem GS(ha:PE X a ta)(hb:PE X (.BoolOp .Or (b::rest) pos) tb):PE X (.BoolOp .Or (a::b::rest) pos) (Oz ta tb):=by
 intro pins s σ H Q I h;refine BoolOp_or (dM (ha pins s σ H _ I h) λv s1⟨x,H1,I1,r1,q1⟩=>?_);obtain⟨c,rfl,q1⟩:=q1;cases r1;refine Rb ?_;cases c with
 |false=>exact hb pins s1 σ H1 Q I1 q1
 |true=>exact⟨.bl true,H1,I1,rfl,q1⟩
theorem GF(ha:PE X a ta):PE X (.UnaryOp .Not a pos) (Nh ta):=by
 intro pins s σ H Q I h;refine UnaryOp_ (dM (ha pins s σ H _ I h) λv s1⟨x,H1,I1,r1,q1⟩=>?_);obtain⟨c,rfl,q1⟩:=q1;cases r1;exact not_of (Rb ⟨.bl (!c),H1,I1,rfl,q1⟩)
def Pd(t:TT)(ta tb:TE):TE:=λσ H Q=>t σ H λc H1=>if c=true then ta σ H1 Q else tb σ H1 Q
theorem wY{c:Expr}(hc:PT X c tA)(ha:PE X a ta)(hb:PE X b tb):PE X (.IfExp c a b pos) (Pd tA ta tb):=by
 intro pins s σ H Q I h;refine wpAny_IfExp (dM (hc pins s σ H _ I h) λd s1⟨H1,I1,q1⟩=>?_);cases d with
 |true=>exact ha pins s1 σ H1 Q I1 q1
 |false=>exact hb pins s1 σ H1 Q I1 q1
end
def a0(K:PB)(H:Hp)(a:Addr)(xs:List V):Prop:=
 Rd H a (.lst xs)\/
  ∃(o:Obj)(its:Array Value)(n:Nat),K.lookup a=some o/\o.cls=.type "list"/\o.dict=none/\o.data=.seq its n/\its.size<=sizeLine/\Vals xs its.toList
def iP(K:PB)(H:Hp)(a:Addr)(xs:List V):Prop:=
 Rd H a (.tup xs)\/
  ∃(o:Obj)(its:Array Value)(n:Nat),K.lookup a=some o/\o.cls=.type "tuple"/\o.data=.seq its n/\its.size<=sizeLine/\Vals xs its.toList
def Ob:Value->Option V
 |.none=>some .eB
 |.bool b=>some (.bl b)
 |.int i _=>some (.int i)
 |.str x _=>some (.str x)
 |.bytes b _=>some (.Br b)
 |.float b _=>some (.flt b)
 |.ref a=>some (.ref a)
 |.type n=>some (.ty n)
 |_=>none
theorem RelV.abs{x:V}{u:Value}(r:RelV x u):Ob u=some x:=by
 cases x with
 |eB=>cases r;rfl
 |bl _=>cases r;rfl
 |int _=>obtain⟨t,rfl⟩:=r;rfl
 |str _=>obtain⟨t,rfl⟩:=r;rfl
 |Br _=>obtain⟨t,rfl⟩:=r;rfl
 |flt _=>obtain⟨t,rfl⟩:=r;rfl
 |ref _=>cases r;rfl
 |ty _=>cases r;rfl
theorem RelV.inj{x y:V}{u:Value}(r:RelV x u)(q:RelV y u):x=y:=Qk (r.abs.symm.trans q.abs)
theorem Vals.inj:∀{xs ys:List V}{us:List Value},Vals xs us->Vals ys us->xs=ys
 |_,_,_,.nil,.nil=>rfl
 |_,_,_,.cons r t,.cons r' t'=>by rw[r.inj r',Vals.inj t t']
section
variable{X:Cx}{pins:List (Addr×Obj)}{σ:St}{H:Hp}{s:Shared}{a:Addr}{xs ys:List V}
theorem a0.of{K:PB}(h:H a=some (.lst xs)):a0 K H a xs:= .inl (.inl h)
theorem iP.of{K:PB}(h:H a=some (.tup xs)):iP K H a xs:= .inl (.inl h)
theorem Inv.list(I:Inv X pins σ H s)(h:a0 X.K H a xs):∃its:List Value,Vals xs its/\PlainL s.heap a its.toArray/\xs.length<=sizeLine:=by
 rcases h with h|⟨o,its,n,hk,hc,hd,hs,hz,r⟩
 ·obtain⟨z,its,n,r,e⟩:=h.ok I.cE
  exact⟨its,r,⟨_,n,e,rfl,rfl,rfl⟩,z⟩
 ·refine⟨its.toList,r,⟨o,n,I.qQ a o hk,hc,hd,by simpa using hs⟩,?_⟩
  have e:=r.length;simp only[Array.length_toList]at e;omega
theorem Inv.tuple(I:Inv X pins σ H s)(h:iP X.K H a xs):∃its:List Value,Vals xs its/\IsTup s.heap a its.toArray/\xs.length<=sizeLine:=by
 rcases h with h|⟨o,its,n,hk,hc,hs,hz,r⟩
 ·obtain⟨z,its,r,p⟩:=h.ok I.cE
  exact⟨its,r,p,z⟩
 ·refine⟨its.toList,r,⟨o,I.qQ a o hk,hc,n,by simpa using hs⟩,?_⟩
  have e:=r.length;simp only[Array.length_toList]at e;omega
theorem Inv.tz(I:Inv X pins σ H s)(h:a0 X.K H a xs)(h':a0 X.K H a ys):xs=ys:=by
 obtain⟨its,r,⟨o,n,e,_,_,d⟩,_⟩:=I.list h;obtain⟨its',r',⟨o',n',e',_,_,d'⟩,_⟩:=I.list h';rw[e]at e';cases e';rw[d]at d';injection d' with d1 _;have:its=its':=by simpa using QI Array.toList d1
 subst this;exact r.inj r'
theorem Inv.FL(I:Inv X pins σ H s)(h:iP X.K H a xs)(h':iP X.K H a ys):xs=ys:=by
 obtain⟨its,r,⟨o,e,_,n,d⟩,_⟩:=I.tuple h;obtain⟨its',r',⟨o',e',_,n',d'⟩,_⟩:=I.tuple h';rw[e]at e';cases e';rw[d]at d';injection d' with d1 _;have:its=its':=by simpa using QI Array.toList d1
 subst this;exact r.inj r'
end
abbrev Cx.yK(X:Cx)(E:Value->Shared->Prop):Cx:={X with xe:=E}
abbrev Cx.M9(X:Cx):Cx:=X.yK λ_ _=>False
theorem Cx.Ok.yK{X:Cx}(ok:X.Ok)(E:Value->Shared->Prop):(X.yK E).Ok:=
 ⟨ok.mod,ok.kind,ok.glob,ok.blt,ok.above,ok.inj,ok.has,ok.LA,ok.hd,ok.frames,ok.LQ,ok.LN,ok.bs,ok.F5,ok.Dm,ok.Db,ok.rK,ok.Dd⟩
theorem Cx.Ok.qb{X:Cx}{E:Value->Shared->Prop}(ok:(X.yK E).Ok):X.Ok:=
 ⟨ok.mod,ok.kind,ok.glob,ok.blt,ok.above,ok.inj,ok.has,ok.LA,ok.hd,ok.frames,ok.LQ,ok.LN,ok.bs,ok.F5,ok.Dm,ok.Db,ok.rK,ok.Dd⟩
section
variable{X:Cx}{pins:List (Addr×Obj)}{σ:St}{H:Hp}{s:Shared}{E:Value->Shared->Prop}
theorem Inv.yK(I:Inv X pins σ H s)(E:Value->Shared->Prop):Inv (X.yK E) pins σ H s:=⟨I.ok.yK E,I.os,I.bare,I.base,I.loc,I.cell,I.free,I.ms,I.pin,I.cE,I.len⟩
theorem Inv.qb(I:Inv (X.yK E) pins σ H s):Inv X pins σ H s:=⟨I.ok.qb,I.os,I.bare,I.base,I.loc,I.cell,I.free,I.ms,I.pin,I.cE,I.len⟩
theorem SP.qb{D:Ends}{f:Flow}{s':Shared}(h:SP (X.yK E) pins D f s'):SP X pins D f s':=by
 cases f with
 |next=>obtain⟨σ',H',I,q⟩:=h;exact⟨σ',H',I.qb,q⟩
 |brk=>obtain⟨σ',H',I,q⟩:=h;exact⟨σ',H',I.qb,q⟩
 |cont=>obtain⟨σ',H',I,q⟩:=h;exact⟨σ',H',I.qb,q⟩
 |ret u=>obtain⟨v,σ',H',I,r,q⟩:=h;exact⟨v,σ',H',I.qb,r,q⟩
theorem xx.M9{st:List Stmt}{t:TS}(h:xx X.M9 st t):xx X st t:=λpins s σ H D I hw=>
 Rc (h pins s σ H D (I.yK _) hw) (λ_ _ q=>q.qb) λ_ _ z=>False.elim z
end
section
variable{X:Cx}{st:Stmt}{rest:List Stmt}{t u:TS}{e:Expr}{te:TE}{pos:Pos}
def Mz:TS:=λD σ H=>D.nx σ H
def L7(t u:TS):TS:=λD σ H=>t (D.go (u D)) σ H
theorem aX:xx X [] Mz:=λ_ _ σ H _ I h=>Sk ⟨σ,H,I,h⟩
theorem sw(h1:PS X st t)(h2:xx X rest u):xx X (st::rest) (L7 t u):=by
 intro pins s σ H D I h;refine wpAny_execs_cons (dM (h1 pins s σ H {D with nx:=u D} I h) λf s1 q=>?_);cases f with
 |next=>
  obtain⟨σ',H',I',q⟩:=q;exact h2 pins s1 σ' H' D I' q
 |ret v=>exact q
 |brk=>exact q
 |cont=>exact q
theorem cT(h1:PS X st t):xx X [st] t:=by
 intro pins s σ H D I h;refine wpAny_execs_cons (dM (h1 pins s σ H D I h) λf s1 q=>?_);cases f with
 |next=>exact Sk q
 |ret v=>exact q
 |brk=>exact q
 |cont=>exact q
def Kw:TS:=λD σ H=>D.bk σ H
theorem Bh:PS X (.Break pos) Kw:=λ_ _ σ H _ I h=>wpAny_Break ⟨σ,H,I,h⟩
theorem Inv.quiet{pins:List (Addr×Obj)}{σ:St}{H:Hp}{s:Shared}(I:Inv X pins σ H s):interactive X.env=false:=by simp[interactive,I.ok.kind]
def Nj(te:TE):TS:=λD σ H=>te σ H λ_ H1=>D.nx σ H1
theorem aZ(he:PE X e te)(hs:swapsWith e none pos.line X.env=pure false:=by rfl):PS X (.Expr e pos) (Nj te):=by
 intro pins s σ H D I h;exact wpAny_Expr_any (dM (he pins s σ H _ I h) λv s1⟨x,H1,I1,r1,q1⟩=>⟨σ,H1,I1,q1⟩) I.quiet hs
def Oe(te:TE):TS:=λD σ H=>te σ H D.rt
theorem aE(he:PE X e te):PS X (.Return (some e) pos) (Oe te):=by
 intro pins s σ H D I h;exact wpAny_Return_some (dM (he pins s σ H _ I h) λv s1⟨x,H1,I1,r1,q1⟩=>⟨x,σ,H1,I1,r1,q1⟩)
def NS(c:TT)(t u:TS):TS:=λD σ H=>c σ H λb H1=>if b=true then t D σ H1 else u D σ H1
theorem bE{c:Expr}{a b:List Stmt}{tc:TT}(hc:PT X c tc)(ha:xx X a t)(hb:xx X b u):PS X (.If c a b pos) (NS tc t u):=by
 intro pins s σ H D I h;refine wpAny_If (dM (hc pins s σ H _ I h) λd s1⟨H1,I1,q1⟩=>?_);cases d with
 |true=>exact ha pins s1 σ H1 D I1 q1
 |false=>exact hb pins s1 σ H1 D I1 q1
end
abbrev TG:=V->St->Hp->(St->Hp->Prop)->Prop
abbrev KL:=List V->St->Hp->(St->Hp->Prop)->Prop
def PG(X:Cx)(target:Expr)(t:TG):Prop:=
 ∀(pins:List (Addr×Obj))(s:Shared)(σ:St)(H:Hp)(v:V)(u:Value)(Q:St->Hp->Prop),Inv X pins σ H s->RelV v u->t v σ H Q->
  wpAny (model X.prog X.w) X.A (assign target X.env u) (λ_ s'=>SN X pins Q s') X.xe s
def Nv(X:Cx)(ts:List Expr)(t:KL):Prop:=
 ∀(pins:List (Addr×Obj))(s:Shared)(σ:St)(H:Hp)(vs:List V)(us:List Value)(Q:St->Hp->Prop),Inv X pins σ H s->Vals vs us->t vs σ H Q->
  wpAny (model X.prog X.w) X.A (assignInOrder ((assignEach ts X.env).map (·.2)) us) (λ_ s'=>SN X pins Q s') X.xe s
abbrev K9:=V->V->V->Hp->(Hp->Prop)->Prop
def MU(X:Cx)(t:K9):Prop:=
 ∀(pins:List (Addr×Obj))(s:Shared)(σ:St)(H:Hp)(o i v:V)(ov iv u:Value)(Q:Hp->Prop),Inv X pins σ H s->RelV o ov->RelV i iv->RelV v u->t o i v H Q->
  wpAny (model X.prog X.w) X.A (setItem ov iv u) (λ_ s'=>∃H',Inv X pins σ H' s'/\Q H') X.xe s
abbrev LS:=V->V->Hp->VK->Prop
def MS(X:Cx)(op:Operator)(t:LS):Prop:=
 ∀(pins:List (Addr×Obj))(s:Shared)(σ:St)(H:Hp)(x y:V)(v u:Value)(Q:VK),Inv X pins σ H s->RelV x v->RelV y u->t x y H Q->
  wpAny (model X.prog X.w) X.A (inplaceOp op v u) (EP X pins σ Q) X.xe s
section
variable{X:Cx}{pos:Pos}
def zf(i:Nat):TG:=λv σ H Q=>Q (σ.set i (some v)) H
theorem JL{i:Nat}{x:Str}(hN:X.N.Nodup)(hi:X.N[i]? =some x)(hx:Loc X.env.scope x)(hf:X.fn x=true\/X.env.scope.names.lookup x=some .local:=by first|exact .inl rfl|exact .inr rfl|assumption):PG X (.Name x pos) (zf i):=by
 intro pins s σ H v u Q I r h;exact wpAny_assign_Name (tf I hN hi hx r (λs' I'=>⟨_,H,I',h⟩) hf)
def NH:KL:=λvs σ H Q=>vs=[]/\Q σ H
def My(t:TG)(u:KL):KL:=λvs σ H Q=>∃v r,vs=v::r/\t v σ H λσ' H'=>u r σ' H' Q
theorem qB:Nv X [] NH:=by
 intro pins s σ H vs us Q I r h;obtain⟨e,h⟩:=h;subst e;cases r;exact assignInOrder_nil ⟨σ,H,I,h⟩
theorem fh{e:Expr}{es:List Expr}{t:TG}{u:KL}(h1:PG X e t)(h2:Nv X es u)
  (hs:(assignEach (e::es) X.env).map (·.2)=assign e X.env::(assignEach es X.env).map (·.2):=by rfl):Nv X (e::es) (My t u):=by
 intro pins s σ H vs us Q I r h;obtain⟨v,vr,e1,h⟩:=h;subst e1;cases r with
 |cons r rr=>
  rw[hs];refine assignInOrder_cons (dM (h1 pins s σ H _ _ _ I r h) λ_ s1⟨σ1,H1,I1,q1⟩=>?_);exact h2 pins s1 σ1 H1 _ _ Q I1 rr q1
def NJ(K:PB)(n:Nat)(t:KL):TG:=λv σ H Q=>∃a xs,v=.ref a/\iP K H a xs/\xs.length=n/\t xs σ H Q
theorem tV{es:List Expr}{k:Nat}{t:KL}{n:Nat}(hc:X.calm=true)(h:Nv X es t)
  (hn:(assignEach es X.env).length=n:=by rfl)(hst:(assignEach es X.env).findIdx? (·.1)=none:=by rfl):PG X (.Tuple es k pos) (NJ X.K n t):=by
 intro pins s σ H v u Q I r hw;obtain⟨a,xs,e1,hq,hl,hw⟩:=hw;subst e1;cases r;obtain⟨its,rv,ht,hz⟩:=I.tuple hq;refine assign_Tuple_tuple (I.ok.hd hc) ht (by simp[hn,<-hl,rv.length]) hst λh' hx=>?_;have I1:Inv X pins σ H {s with heap:=h'}:=I.kept (t':=s.toks) λb o e=>hx b o (QC (P9 e)) e;exact h pins _ σ H xs _ Q I1 (by simpa using rv) hw
def NV(to ti:TE)(t:K9):TG:=λv σ H Q=>to σ H λo H1=>ti σ H1 λi H2=>t o i v H2 λH3=>Q σ H3
theorem wB{o i:Expr}{to ti:TE}{t:K9}(ho:PE X o to)(hi:PE X i ti)(hs:MU X t)
  (ha:∀v,assign (.Subscript o i pos) X.env v=(do
   let ov<-holding [v] (eval o X.env)
   let iv<-holding [v,ov] (eval i X.env)
   standAt pos
   holding [v,ov,iv] (setItem ov iv v)
   release [v,ov,iv] []):=by intro _;rfl):PG X (.Subscript o i pos) (NV to ti t):=by
 intro pins s σ H v u Q I r h;rw[ha];refine PN (Sg (dM (ho pins s σ H _ I h) λov s1⟨x,H1,I1,r1,q1⟩=>?_));refine PN (Sg (dM (hi pins s1 σ H1 _ I1 q1) λiv s2⟨y,H2,I2,r2,q2⟩=>?_));refine PN (Rv (PN (Sg (dM (hs pins s2 σ H2 x y v ov iv u _ I2 r1 r2 r q2) λ_ s3⟨H3,I3,q3⟩=>?_))));exact wpAny_release ⟨σ,H3,I3,q3⟩
def IE(te:TE)(g:TG):TS:=λD σ H=>te σ H λx H1=>g x σ H1 D.nx
theorem wF{tg e:Expr}{te:TE}{g:TG}(he:PE X e te)(hg:PG X tg g)(hs:swapsWithSole [tg] e pos.line X.env=pure false:=by rfl)(hw:swappedStores [tg] e X.env=pure none:=by rfl)
  (h1:(assignEach [tg] X.env).map (·.2)=[assign tg X.env]:=by rfl):PS X (.Assign [tg] e pos) (IE te g):=by
 intro pins s σ H D I h;refine wpAny_Assign_stores (dM (he pins s σ H _ I h) λv s1⟨x,H1,I1,r1,q1⟩=>?_) hs hw;rw[h1];exact dM (hg pins s1 σ H1 x v _ I1 r1 q1) λ_ s2 q=>q
theorem Lk{i:Nat}{x:Str}{e:Expr}{te:TE}{pos':Pos}(hN:X.N.Nodup)(hi:X.N[i]? =some x)(hx:Loc X.env.scope x)(he:PE X e te)(hs:swapsWith e (some (.Name x pos')) pos.line X.env=pure false:=by rfl)(hf:X.fn x=true\/X.env.scope.names.lookup x=some .local:=by first|exact .inl rfl|exact .inr rfl|assumption):
  PS X (.Assign [.Name x pos'] e pos) (IE te (zf i)):=by
 intro pins s σ H D I h;refine wpAny_Assign_Name (dM (he pins s σ H _ I h) λv s1⟨y,H1,I1,r1,q1⟩=>?_) hs;exact tf I1 hN hi hx r1 (λs2 I2=>⟨_,H1,I2,q1⟩) hf
def M_(i:Nat)(te:TE)(ti:LS):TS:=λD σ H=>∃x,σ[i]? =some (some x)/\te σ H λy H1=>ti x y H1 λz H2=>D.nx (σ.set i (some z)) H2
theorem LC{i:Nat}{x:Str}{e:Expr}{te:TE}{op:Operator}{ti:LS}{pos':Pos}(hN:X.N.Nodup)(hi:X.N[i]? =some x)(hx:Loc X.env.scope x)(he:PE X e te)(ho:MS X op ti)(hf:X.fn x=true\/X.env.scope.names.lookup x=some .local:=by first|exact .inl rfl|exact .inr rfl|assumption):
  PS X (.AugAssign (.Name x pos') op e pos) (M_ i te ti):=by
 intro pins s σ H D I h;obtain⟨v,e1,h⟩:=h;obtain⟨m,hn,hl⟩:=I.loc;have vis:LP X.env.scope x:=by rcases hx with k|k;exact .inl k;exact .inr (.inl k)
 obtain⟨u,r,l⟩:=hl i x v hi e1 vis;refine wpAny_AugAssign_Name ?_;have go:wpAny (model X.prog X.w) X.A (eval e X.env) (λw s₂=>wpAny (model X.prog X.w) X.A (inplaceOp op u w) (λr s₃=>wpAny (model X.prog X.w) X.A (storeName X.env x r) (λ_=>SP X pins D .next) X.xe s₃) X.xe s₂) X.xe s:=by
  refine dM (he pins s σ H _ I h) λw s1⟨y,H1,I1,r1,q1⟩=>?_;refine dM (ho pins s1 σ H1 v y u w _ I1 r r1 q1) λz s2⟨zv,H2,I2,r2,q2⟩=>?_;exact tf I2 hN hi hx r2 (λs3 I3=>⟨_,H2,I3,q2⟩) hf
 rcases l with⟨hk,hm⟩|⟨hk,c,hc,hcell⟩
 ·exact wpAny_loadName_local I.ok.kind hk hn hm go
 ·rcases hk with hk|hk
  ·exact wpAny_loadName_cell I.ok.kind hk hc hcell go
  ·rcases hx with k|k
   ·have:X.env.scope.names.lookup x=some .free:=hk
    rw[k]at this;cases this
   ·have:X.env.scope.names.lookup x=some .free:=hk
    rw[k]at this;cases this
def OL(f:Int->Int->Int):LS:=λx y H Q=>∃i j,x=.int i/\y=.int j/\Q (.int (f i j)) H
theorem tW:MS X .Add (OL λi j=>i+j):=by
 intro pins s σ H x y v u Q I r1 r2 h;obtain⟨i,j,e1,e2,q⟩:=h;subst e1;subst e2;obtain⟨t,rfl⟩:=r1;obtain⟨t',rfl⟩:=r2;exact iadd_int ⟨.int _,H,I.tok _,⟨_,rfl⟩,q⟩
theorem HE:MS X .Sub (OL λi j=>i-j):=by
 intro pins s σ H x y v u Q I r1 r2 h;obtain⟨i,j,e1,e2,q⟩:=h;subst e1;subst e2;obtain⟨t,rfl⟩:=r1;obtain⟨t',rfl⟩:=r2;exact isub_int ⟨.int _,H,I.tok _,⟨_,rfl⟩,q⟩
end
section
variable{X:Cx}{pos:Pos}
def K7(c:TT)(tb:TS):TS:=λD σ H=>∃W:Nat->St->Hp->Prop,(∃m,W m σ H)/\∀m σ H,W m σ H->
 c σ H λb H1=>if b=true then∃N:St->Hp->Prop,(∀σ' H',N σ' H'->∃m',m'<m/\W m' σ' H')/\tb (D.lp N) σ H1 else D.nx σ H1
theorem jE{c:Expr}{body:List Stmt}{tc:TT}{tb:TS}(hp:PassesOwn (model X.prog X.w) X.A X.env X.xe)(hc:PT X c tc)(hb:xx X body tb):PS X (.While c body [] pos) (K7 tc tb):=by
 intro pins s σ H D I h;obtain⟨W,⟨m0,w0⟩,turn⟩:=h;refine wpAny_While (codeAny_whileLoop (λn s'=>∃σ' H',Inv X pins σ' H' s'/\W n σ' H') ?_ m0 ⟨σ,H,I,w0⟩)
 rintro n s1 ⟨σ1,H1,I1,w1⟩
 refine RC hp (dM (hc pins s1 σ1 H1 _ I1 (turn n σ1 H1 w1)) λb s2⟨H2,I2,q2⟩=>?_);cases b with
 |true=>
  obtain⟨N,hN,q2⟩:=q2;rw[Pz rfl];refine RC hp (dM (hb pins s2 σ1 H2 _ I2 q2) λf s3 q3=>?_);cases f with
  |next=>
   obtain⟨σ3,H3,I3,n3⟩:=q3;obtain⟨m',hm,w3⟩:=hN σ3 H3 n3;exact⟨m',hm,σ3,H3,I3,w3⟩
  |cont=>
   obtain⟨σ3,H3,I3,n3⟩:=q3;obtain⟨m',hm,w3⟩:=hN σ3 H3 n3;exact⟨m',hm,σ3,H3,I3,w3⟩
  |brk=>exact q3
  |ret v=>exact q3
 |false=>
  rw[Py PM];exact Sk ⟨σ1,H2,I2,q2⟩
end
structure It where
 go:Nat->Hp->Prop
 F6:Nat->Hp->V->Hp->Prop
 stop:Nat->Hp->Prop
def vI(X:Cx)(pins:List (Addr×Obj))(H:Hp)(b:Addr):Prop:=
 H b=none/\b≠X.env.locals/\b∉X.fs/\(b∈X.ex\/X.vz.heap.objs.size<=b)/\(∀x c,X.env.cells.lookup x=some c->c≠b)/\∀p∈X.pn++pins,p.1≠b
theorem Inv.A9{X:Cx}{pins:List (Addr×Obj)}{σ:St}{H H':Hp}{s:Shared}{b:Addr}(I:Inv X pins σ H s)(hb:s.heap.objs.size<=b)(hn:H' b=none):vI X pins H' b:=by
 refine⟨hn,RN (Qs I.lt hb),I.N5 hb,.inr (Qq I.sz hb),λx c e z=>?_,λp hp z=>?_⟩
 ·obtain⟨v,q⟩:=I.cell x c e
  exact absurd (Qs q.lt (by rw[z];exact hb)) (Q3 _)
 ·exact absurd (Qs (P9 (I.pin p hp).1) (by rw[z];exact hb)) (Q3 _)
structure Turn(P:Qw)(w:World)(K:PB)(tg:Expr)(J:It)(fp:List Addr)(it:Addr)(tn:Nat->Heap->Prop):Prop where
 mem:it∈fp
 obj:∀i h,tn i h->∀b∈fp,∃o,h.get? b=some o/\∀v,o.data≠.cell v
 keep:∀i h h',tn i h->(∀b∈fp,∀o,h.get? b=some o->h'.get? b=some o)->tn i h'
 item:∀(X:Cx),X.prog=P->X.w=w->X.K=K->X.calm=true->∀(i:Nat)(pins:List (Addr×Obj))(s:Shared)(σ:St)(H:Hp)(E:Value->Shared->Prop),Inv X pins σ H s->(∀b∈fp,vI X pins H b)->tn i s.heap->J.go i H->
  wpAny (model P w) X.A (pyNext (.ref it)) (λr s1=>∃u,r=some u/\
   wpAny (model P w) X.A (letOwnedTupleGo tg (.ref it) u) (λ_ s2=>∃x H',Inv X pins σ H' s2/\RelV x u/\J.F6 i H x H'/\tn (i+1) s2.heap/\∀b∈fp,H' b=none) E s1) E s
 done:∀(X:Cx),X.prog=P->X.w=w->X.K=K->X.calm=true->∀(i:Nat)(pins:List (Addr×Obj))(s:Shared)(σ:St)(H:Hp)(E:Value->Shared->Prop),Inv X pins σ H s->(∀b∈fp,vI X pins H b)->tn i s.heap->J.stop i H->
  wpAny (model P w) X.A (pyNext (.ref it)) (λr s1=>r=none/\Inv X pins σ H s1) E s
 self:∀(A:Around)(i:Nat)(s:Shared)(Q:Value->Shared->Prop)(E:Value->Shared->Prop),tn i s.heap->Q (.ref it) s->wpAny (model P w) A (pyIter (.ref it)) Q E s
abbrev TI:=St->Hp->(It->Hp->Prop)->Prop
def NL(X:Cx)(pins:List (Addr×Obj))(σ:St)(tg:Expr)(R:It->Hp->Prop)(itv:Value)(s2:Shared):Prop:=
 ∃(it:Addr)(fp:List Addr)(tn:Nat->Heap->Prop)(J:It)(H':Hp),itv=.ref it/\Inv X pins σ H' s2/\Turn X.prog X.w X.K tg J fp it tn/\tn 0 s2.heap/\(∀b∈fp,vI X pins H' b)/\R J H'
def PI(X:Cx)(tg iter:Expr)(wi:TI):Prop:=
 ∀(pins:List (Addr×Obj))(s:Shared)(σ:St)(H:Hp)(R:It->Hp->Prop),Inv X pins σ H s->wi σ H R->
  wpAny (model X.prog X.w) X.A (eval iter X.env) (λv s1=>wpAny (model X.prog X.w) X.A (pyIter v) (NL X pins σ tg R) X.xe s1) X.xe s
theorem EX{M:Model}{A:Around}{E:Value->Shared->Prop}{s:Shared}{tg:Expr}{it:Addr}{u:Value}{o:Obj}{n:String}{vs:Array Value}{Q:Unit->Shared->Prop}(ho:s.heap.get? it=some o)(hc:o.cls=.type n)(hd:o.data=.fields vs)
  (hn:["enumerate","zip","dict_itemiterator","dict_reverseitemiterator","odict_iterator","itertools.zip_longest","itertools.pairwise"].contains n=false)(hQ:Q () s):wpAny M A (letOwnedTupleGo tg (.ref it) u) Q E s:=by
 unfold letOwnedTupleGo;cases tg<;>first
  |exact Qv hQ
  |(cases u<;>first
    |exact Qv hQ
    |(refine PN (wpAny_load ho ?_)
      rw[hc,hd];show wpAny M A (if(["enumerate","zip","dict_itemiterator","dict_reverseitemiterator","odict_iterator","itertools.zip_longest","itertools.pairwise"].contains n&&vs[0]? ==some (rawInt _))=true then _ else _) Q E s;rw[Py (by intro h;rw[hn,Bool.false_and]at h;cases h)];exact Qv hQ))
def C9(K:PB)(a:Addr):It:=
 ⟨λi H=>∃xs x,a0 K H a xs/\xs[i]? =some x,λi H x H'=>H'=H/\∀xs,a0 K H a xs->xs[i]? =some x,λi H=>∃xs,a0 K H a xs/\xs.length<=i⟩
def LU(K:PB)(a:Addr):It:=
 ⟨λi H=>∃xs x,iP K H a xs/\xs[i]? =some x,λi H x H'=>H'=H/\∀xs,iP K H a xs->xs[i]? =some x,λi H=>∃xs,iP K H a xs/\xs.length<=i⟩
def Fm(lo:Int)(n:Nat):It:=⟨λi _=>i<n,λi H x H'=>H'=H/\x=.int (lo+i),λi _=>n<=i⟩
theorem Fj{P:Qw}{w:World}{K:PB}{tg:Expr}(a it:Addr):Turn P w K tg (C9 K a) [it] it (λi h=>h.IsListIter it a i) where
 mem:=by simp
 obj:=λi h st b hb=>by
  have e:b=it:=by simpa using hb
  subst e;obtain⟨o,e,c,d⟩:=st;exact⟨o,e,λv z=>by rw[d]at z;cases z⟩
 keep:=λi h h' st k=>st.at λo e=>k it (by simp) o e
 item:=by
  intro X hP hw hK hc i pins s σ H E I hf st hg;subst hP hw hK;obtain⟨xs,x,hq,hx⟩:=hg;obtain⟨its,rv,p,hz⟩:=I.list hq;obtain⟨u,hu,ru⟩:=rv.get hx;obtain⟨f0,f1,f2,f3,f4,f5⟩:=hf it (by simp);refine wpAny_pyNext_list_item st p.isList (x:=u) (by simpa using hu) λh' st' sb=>?_;have I1:Inv X pins σ H {s with heap:=h'}:=I.turned (t':=s.toks) (λb o hb e=>(sb.2 b hb).trans e) f0 f1 f3 f4 f5;obtain⟨o,e,c,d⟩:=id st';exact⟨u,rfl,EX (s:={s with heap:=h'}) e c d (by decide) ⟨x,H,I1,ru,⟨rfl,λys hy=>by rw[I.tz hy hq];exact hx⟩,st',λb hb=>(hf b hb).1⟩⟩
 done:=by
  intro X hP hw hK hc i pins s σ H E I hf st hg;subst hP hw hK;obtain⟨xs,hq,hx⟩:=hg;obtain⟨its,rv,p,hz⟩:=I.list hq;obtain⟨f0,f1,f2,f3,f4,f5⟩:=hf it (by simp);have hl:=rv.length;exact wpAny_pyNext_list_end (I.ok.hd hc) st p.isList (by simp;omega) λh' eb=>⟨rfl,I.turned (t':=s.toks) (λb o hb e=>eb b o hb e) f0 f1 f3 f4 f5⟩
 self:=λ_ _ _ _ _ st h=>wpAny_pyIter_listiter st h
theorem Da{P:Qw}{w:World}{K:PB}{tg:Expr}(a it:Addr):Turn P w K tg (LU K a) [it] it (λi h=>h.IsTupleIter it a i) where
 mem:=by simp
 obj:=λi h st b hb=>by
  have e:b=it:=by simpa using hb
  subst e;obtain⟨o,e,c,d⟩:=st;exact⟨o,e,λv z=>by rw[d]at z;cases z⟩
 keep:=λi h h' st k=>st.at λo e=>k it (by simp) o e
 item:=by
  intro X hP hw hK hc i pins s σ H E I hf st hg;subst hP hw hK;obtain⟨xs,x,hq,hx⟩:=hg;obtain⟨its,rv,p,hz⟩:=I.tuple hq;obtain⟨u,hu,ru⟩:=rv.get hx;obtain⟨f0,f1,f2,f3,f4,f5⟩:=hf it (by simp);refine wpAny_pyNext_tuple_item st (show s.heap.IsTuple a its.toArray from p) (x:=u) (by simpa using hu) λh' st' sb=>?_;have I1:Inv X pins σ H {s with heap:=h'}:=I.turned (t':=s.toks) (λb o hb e=>(sb.2 b hb).trans e) f0 f1 f3 f4 f5;obtain⟨o,e,c,d⟩:=id st';exact⟨u,rfl,EX (s:={s with heap:=h'}) e c d (by decide) ⟨x,H,I1,ru,⟨rfl,λys hy=>by rw[I.FL hy hq];exact hx⟩,st',λb hb=>(hf b hb).1⟩⟩
 done:=by
  intro X hP hw hK hc i pins s σ H E I hf st hg;subst hP hw hK;obtain⟨xs,hq,hx⟩:=hg;obtain⟨its,rv,p,hz⟩:=I.tuple hq;obtain⟨f0,f1,f2,f3,f4,f5⟩:=hf it (by simp);have hl:=rv.length;exact wpAny_pyNext_tuple_end (I.ok.hd hc) st (show s.heap.IsTuple a its.toArray from p) (by simp;omega) λh' eb=>⟨rfl,I.turned (t':=s.toks) (λb o hb e=>eb b o hb e) f0 f1 f3 f4 f5⟩
 self:=λ_ _ _ _ _ st h=>wpAny_pyIter_tupleiter st h
theorem CI{P:Qw}{w:World}{K:PB}{tg:Expr}(it:Addr)(lo:Int)(n:Nat):Turn P w K tg (Fm lo n) [it] it (λi h=>IsRangeIter h it (lo+(i:Nat)*1) ((n:Int)-(i:Nat)) 1) where
 mem:=by simp
 obj:=λi h st b hb=>by
  have e:b=it:=by simpa using hb
  subst e;exact⟨_,st,λv z=>by
   have z':Data.fields _=Data.cell v:=z;cases z'⟩
 keep:=λi h h' st k=>k it (by simp) _ st
 item:=by
  intro X hP hw hK hc i pins s σ H E I hf st hg;subst hP hw hK;obtain⟨f0,f1,f2,f3,f4,f5⟩:=hf it (by simp);have W:=Walks.range (prog:=X.prog) (w:=X.w) (I.ok.hd hc) it lo 1 n;refine W.item i s _ _ hg st λv h' tk hv st' kk=>?_;obtain⟨t,rfl⟩:=hv;have I1:Inv X pins σ H {s with heap:=h',toks:=tk}:=I.turned (λb o hb e=>kk b o (by simpa using hb) e) f0 f1 f3 f4 f5;refine⟨_,rfl,EX (s:={s with heap:=h',toks:=tk}) (n:="range_iterator") st' rfl rfl (by decide) ⟨.int (lo+i),H,I1,⟨t,?_⟩,⟨rfl,rfl⟩,st',λb hb=>(hf b hb).1⟩⟩;rw[Int.mul_one]
 done:=by
  intro X hP hw hK hc i pins s σ H E I hf st hg;subst hP hw hK;obtain⟨f0,f1,f2,f3,f4,f5⟩:=hf it (by simp);exact wpAny_pyNext_range_end (I.ok.hd hc) st (by have:n<=i:=hg;omega) λh' eb=>⟨rfl,I.turned (t':=s.toks) (λb o hb e=>eb b o hb e) f0 f1 f3 f4 f5⟩
 self:=λ_ _ _ _ _ st h=>wpAny_pyIter_rangeiter st h
section
variable{X:Cx}{tg:Expr}
def MC(K:PB)(tl:TE):TI:=λσ H R=>tl σ H λx H1=>∃a,x=.ref a/\(∃xs,a0 K H1 a xs)/\R (C9 K a) H1
def OG(K:PB)(tl:TE):TI:=λσ H R=>tl σ H λx H1=>∃a,x=.ref a/\(∃xs,iP K H1 a xs)/\R (LU K a) H1
theorem cN{l:Expr}{tl:TE}(hl:PE X l tl):PI X tg l (MC X.K tl):=by
 intro pins s σ H R I h;refine dM (hl pins s σ H _ I h) λv s1⟨x,H1,I1,r1,q1⟩=>?_;obtain⟨a,e,⟨xs,hq⟩,q⟩:=q1;subst e;cases r1;obtain⟨its,rv,p,hz⟩:=I1.list hq;refine wpAny_pyIter_list p.isList ?_;refine⟨s1.heap.objs.size,[s1.heap.objs.size],_,_,H1,rfl,I1.kept (t':=s1.toks) λb o e=>Qi _ e,Fj a _,⟨_,QE _ rfl,rfl,rfl⟩,λb hb=>?_,q⟩;have e:b=s1.heap.objs.size:=by simpa using hb
 subst e;exact I1.A9 (PF _) (I1.cE.fresh (PF _))
theorem KI{l:Expr}{tl:TE}(hl:PE X l tl):PI X tg l (OG X.K tl):=by
 intro pins s σ H R I h;refine dM (hl pins s σ H _ I h) λv s1⟨x,H1,I1,r1,q1⟩=>?_;obtain⟨a,e,⟨xs,hq⟩,q⟩:=q1;subst e;cases r1;obtain⟨its,rv,p,hz⟩:=I1.tuple hq;refine wpAny_pyIter_tuple (show s1.heap.IsTuple a its.toArray from p) ?_;refine⟨s1.heap.objs.size,[s1.heap.objs.size],_,_,H1,rfl,I1.kept (t':=s1.toks) λb o e=>Qi _ e,Da a _,⟨_,QE _ rfl,rfl,rfl⟩,λb hb=>?_,q⟩;have e:b=s1.heap.objs.size:=by simpa using hb
 subst e;exact I1.A9 (PF _) (I1.cE.fresh (PF _))
theorem Io{pins:List (Addr×Obj)}{σ:St}{H:Hp}{s:Shared}{R:It->Hp->Prop}{E:Value->Shared->Prop}{lo hi:Int}{t u v:Tok}{tk:Nat}(I:Inv X pins σ H s)(h1: -(2^62)<=lo)(h2:lo<2^62)(h3: -(2^62)<=hi)(h4:hi<2^62)
  (q:R (Fm lo (hi-lo).toNat) H):wpAny (model X.prog X.w) X.A (pyIter (.ref s.heap.objs.size)) (NL X pins σ tg R) E {s with heap:=s.heap.push {cls:= .type "range",data:= .fields #[.int lo t,.int hi u,.int 1 v]},toks:=tk}:=by
 refine wpAny_pyIter_range (IsRange.new ..) (small_one h1 h2 h3 h4) ?_;have I1:Inv X pins σ H {s with heap:=s.heap.push {cls:= .type "range",data:= .fields #[.int lo t,.int hi u,.int 1 v]},toks:=tk}:=I.kept λb o e=>Qi _ e;refine⟨(s.heap.push {cls:= .type "range",data:= .fields #[.int lo t,.int hi u,.int 1 v]}).objs.size,[(s.heap.push {cls:= .type "range",data:= .fields #[.int lo t,.int hi u,.int 1 v]}).objs.size],_,_,H,rfl,
  I1.kept (t':=tk) λb o e=>Qi _ e,CI _ lo (hi-lo).toNat,?_,λb hb=>?_,q⟩
 ·have e1:lo+((0:Nat):Int)*1=lo:=by simp
  have e2:(((hi-lo).toNat:Nat):Int)-((0:Nat):Int)=Builtin.Range.rangeSize lo hi 1:=by rw[rangeSize_one];split<;>omega
  show IsRangeIter _ _ (lo+((0:Nat):Int)*1) ((((hi-lo).toNat:Nat):Int)-((0:Nat):Int)) 1;rw[e1,e2];exact QE _ rfl
 ·have e:b=(s.heap.push {cls:= .type "range",data:= .fields #[.int lo t,.int hi u,.int 1 v]}).objs.size:=by simpa using hb
  subst e;exact I1.A9 (PF _) (I1.cE.fresh (PF _))
def Nk(ta:TA):TI:=λσ H R=>ta σ H λvs H1=>∃j:Int,vs=[.int j]/\ -(2^62)<=j/\j<2^62/\R (Fm 0 j.toNat) H1
theorem dP{a:Expr}{ta:TA}{p pos:Pos}(hg:Gl X "range")(hm:X.mg "range"=none)(ha:PA X [a] ta)(hs:starEach [a] X.env=[(false,eval a X.env)]:=by rfl):PI X tg (.Call (.Name "range" p) [a] [] pos) (Nk ta):=by
 intro pins s σ H R I h;refine Call_ (uv I hg hm boot_range (Rk (dM (ha pos pins s σ H _ I h) λus s1⟨vs,H1,I1,r1,q1⟩=>?_) hs rfl));obtain⟨j,e,q1,q2,q⟩:=q1;subst e;cases r1 with
 |cons r rr=>
  cases rr;obtain⟨t,rfl⟩:=r;exact call_range_1 (Io I1 (by omega) (by omega) q1 q2 (by simpa using q))
def Of(wi:TI)(g:TG)(tb:TS):TS:=λD σ H=>wi σ H λJ H1=>∃W:Nat->Nat->St->Hp->Prop,(∃m,W 0 m σ H1)/\∀i m σ H,W i m σ H->
 (J.stop i H/\D.nx σ H)\/(J.go i H/\∃N:St->Hp->Prop,(∀σ' H',N σ' H'->∃m',m'<m/\W (i+1) m' σ' H')/\∀x H',J.F6 i H x H'->g x σ H' λσ2 H2=>tb (D.lp N) σ2 H2)
def wL(fp:List Addr)(h:Heap):List (Addr×Obj):=fp.filterMap λb=>(h.get? b).map λo=>(b,o)
theorem rE{fp:List Addr}{h:Heap}{b:Addr}{o:Obj}(hb:b∈fp)(e:h.get? b=some o):(b,o)∈wL fp h:=Rq.mpr ⟨b,hb,by rw[e];rfl⟩
theorem Fc{fp:List Addr}{h:Heap}{p:Addr×Obj}(hp:p∈wL fp h):p.1∈fp/\h.get? p.1=some p.2:=by
 obtain⟨b,hb,e⟩:=Rq.mp hp;cases q:h.get? b with
 |none=>rw[q]at e;cases e
 |some o=>
  rw[q]at e;have e':(b,o)=p:=Qk e;subst e';exact⟨hb,q⟩
theorem Inv.pinned{pins:List (Addr×Obj)}{σ:St}{H:Hp}{s:Shared}{fp:List Addr}(I:Inv X pins σ H s)(hf:∀b∈fp,vI X pins H b)(ho:∀b∈fp,∃o,s.heap.get? b=some o/\∀v,o.data≠.cell v):Inv X (pins++wL fp s.heap) σ H s:=
 I.EN λp hp=>(Qc.mp hp).elim (λz=>I.pin p (Q1 _ z)) λz=>by
  obtain⟨hb,e⟩:=Fc z;obtain⟨f0,f1,f2,_⟩:=hf p.1 hb;obtain⟨o,e',d⟩:=ho p.1 hb;rw[e]at e';cases e';exact⟨e,f0,f1,f2,d⟩
theorem Inv.r9{pins pl:List (Addr×Obj)}{σ:St}{H:Hp}{s:Shared}(I:Inv X (pins++pl) σ H s):Inv X pins σ H s:=I.EN λp hp=>I.pin p (Q1 _ (QX _ hp))
theorem dI{iter:Expr}{body:List Stmt}{wi:TI}{g:TG}{tb:TS}{pos:Pos}(hp:PassesOwn (model X.prog X.w) X.A X.env X.xe)(hc:X.calm=true)(hi:PI X tg iter wi)(hg:PG X tg g)(hb:xx X body tb)
  (hs:∀x,foldedSetIterable iter X.env x=pure x:=by intro _;rfl):PS X (.For tg iter body [] pos) (Of wi g tb):=by
 intro pins s σ H D I h;refine wpAny_For (dM (hi pins s σ H _ I h) λv s1 h1=>dM h1 λitv s2 h2=>?_) hs;obtain⟨it,fp,tn,J,H2,e,I2,T,st2,f2,W,⟨m0,w0⟩,turn⟩:=h2;subst e;have stat:∀{H':Hp},(∀b∈fp,H' b=none)->∀b∈fp,vI X pins H' b:=λhn b hb=>⟨hn b hb,(f2 b hb).2⟩;refine codeAny_forLoop_any (λn s'=>∃i σ' H',Inv X pins σ' H' s'/\tn i s'.heap/\(∀b∈fp,H' b=none)/\W i n σ' H') ?_ m0 ⟨0,σ,H2,I2,st2,λb hb=>(f2 b hb).1,w0⟩
 rintro n s3 ⟨i,σ3,H3,I3,st3,fr3,w3⟩
 rcases turn i n σ3 H3 w3 with⟨stop,qn⟩|⟨go,N,hN,step⟩
 ·refine RC hp (dM (T.done X rfl rfl rfl hc i pins s3 σ3 H3 X.xe I3 (stat fr3) st3 stop) λr s4⟨hr,I4⟩=>?_)
  subst hr;exact Sk ⟨σ3,H3,I4,qn⟩
 ·refine RC hp (dM (T.item X rfl rfl rfl hc i pins s3 σ3 H3 X.xe I3 (stat fr3) st3 go) λr s4⟨u,hr,h4⟩=>?_)
  subst hr;refine RC hp (dM h4 λ_ s5⟨x,H5,I5,r5,y5,st5,fr5⟩=>?_);have I5':=I5.pinned (stat fr5) (T.obj _ _ st5);refine RC hp (dM (hg _ s5 σ3 H5 x u _ I5' r5 (step x H5 y5)) λ_ s6⟨σ6,H6,I6,q6⟩=>?_);refine RC hp (dM (hb _ s6 σ6 H6 _ I6 q6) λf s7 q7=>?_);have again:∀{σ7:St}{H7:Hp},Inv X (pins++wL fp s5.heap) σ7 H7 s7->N σ7 H7->∃m,m<n/\∃i σ' H',Inv X pins σ' H' s7/\tn i s7.heap/\(∀b∈fp,H' b=none)/\W i m σ' H':=λ{σ7 H7} I7 n7=>by
   obtain⟨m',hm,w7⟩:=hN σ7 H7 n7;refine⟨m',hm,i+1,σ7,H7,I7.r9,T.keep _ _ _ st5 λb hb o e=>(I7.pin (b,o) (Q1 _ (Q1 _ (rE hb e)))).1,λb hb=>?_,w7⟩;obtain⟨o,e,d⟩:=T.obj _ _ st5 b hb;exact(I7.pin (b,o) (Q1 _ (Q1 _ (rE hb e)))).2.1
  cases f with
  |next=>obtain⟨σ7,H7,I7,n7⟩:=q7;exact again I7 n7
  |cont=>obtain⟨σ7,H7,I7,n7⟩:=q7;exact again I7 n7
  |brk=>obtain⟨σ7,H7,I7,q7⟩:=q7;exact⟨σ7,H7,I7.r9,q7⟩
  |ret v=>obtain⟨x7,σ7,H7,I7,r7,q7⟩:=q7;exact⟨x7,σ7,H7,I7.r9,r7,q7⟩
end
theorem fR{K:PB}{a:Addr}{xs:List V}{g:TG}{tb:TS}{D:Ends}{σ:St}{H:Hp}(Pv:Nat->St->Hp->Prop)(h0:Pv 0 σ H)(hl:∀i σ H,i<=xs.length->Pv i σ H->a0 K H a xs)
  (hs:∀i x σ H,xs[i]? =some x->Pv i σ H->g x σ H λσ2 H2=>tb (D.lp (Pv (i+1))) σ2 H2)(hd:∀σ H,Pv xs.length σ H->D.nx σ H):
  ∃W:Nat->Nat->St->Hp->Prop,(∃m,W 0 m σ H)/\∀i m σ H,W i m σ H->
   ((C9 K a).stop i H/\D.nx σ H)\/((C9 K a).go i H/\∃N:St->Hp->Prop,(∀σ' H',N σ' H'->∃m',m'<m/\W (i+1) m' σ' H')/\∀x H',(C9 K a).F6 i H x H'->g x σ H' λσ2 H2=>tb (D.lp N) σ2 H2):=by
 refine⟨λi m σ H=>m=xs.length-i/\i<=xs.length/\Pv i σ H,⟨xs.length,by simp,QG _,h0⟩,?_⟩
 rintro i m σ H ⟨rfl,hi,p⟩
 have q:=hl i σ H hi p
 by_cases hlt:i<xs.length
 ·refine .inr ⟨⟨xs,xs[i],q,by simp[hlt]⟩,Pv (i+1),λσ' H' p'=>⟨xs.length-(i+1),by omega,rfl,hlt,p'⟩,λx H' y=>?_⟩
  obtain⟨e,y⟩:=y;subst e;exact hs i x σ _ (y xs q) p
 ·have e:i=xs.length:=by omega
  subst e;exact .inl ⟨⟨xs,q,PF _⟩,hd σ H p⟩
theorem IF{K:PB}{a:Addr}{xs:List V}{g:TG}{tb:TS}{D:Ends}{σ:St}{H:Hp}(Pv:Nat->St->Hp->Prop)(h0:Pv 0 σ H)(hl:∀i σ H,i<=xs.length->Pv i σ H->iP K H a xs)
  (hs:∀i x σ H,xs[i]? =some x->Pv i σ H->g x σ H λσ2 H2=>tb (D.lp (Pv (i+1))) σ2 H2)(hd:∀σ H,Pv xs.length σ H->D.nx σ H):
  ∃W:Nat->Nat->St->Hp->Prop,(∃m,W 0 m σ H)/\∀i m σ H,W i m σ H->
   ((LU K a).stop i H/\D.nx σ H)\/((LU K a).go i H/\∃N:St->Hp->Prop,(∀σ' H',N σ' H'->∃m',m'<m/\W (i+1) m' σ' H')/\∀x H',(LU K a).F6 i H x H'->g x σ H' λσ2 H2=>tb (D.lp N) σ2 H2):=by
 refine⟨λi m σ H=>m=xs.length-i/\i<=xs.length/\Pv i σ H,⟨xs.length,by simp,QG _,h0⟩,?_⟩
 rintro i m σ H ⟨rfl,hi,p⟩
 have q:=hl i σ H hi p
 by_cases hlt:i<xs.length
 ·refine .inr ⟨⟨xs,xs[i],q,by simp[hlt]⟩,Pv (i+1),λσ' H' p'=>⟨xs.length-(i+1),by omega,rfl,hlt,p'⟩,λx H' y=>?_⟩
  obtain⟨e,y⟩:=y;subst e;exact hs i x σ _ (y xs q) p
 ·have e:i=xs.length:=by omega
  subst e;exact .inl ⟨⟨xs,q,PF _⟩,hd σ H p⟩
theorem mX{lo:Int}{n:Nat}{g:TG}{tb:TS}{D:Ends}{σ:St}{H:Hp}(Pv:Nat->St->Hp->Prop)(h0:Pv 0 σ H)
  (hs:∀i σ H,i<n->Pv i σ H->g (.int (lo+i)) σ H λσ2 H2=>tb (D.lp (Pv (i+1))) σ2 H2)(hd:∀σ H,Pv n σ H->D.nx σ H):
  ∃W:Nat->Nat->St->Hp->Prop,(∃m,W 0 m σ H)/\∀i m σ H,W i m σ H->
   ((Fm lo n).stop i H/\D.nx σ H)\/((Fm lo n).go i H/\∃N:St->Hp->Prop,(∀σ' H',N σ' H'->∃m',m'<m/\W (i+1) m' σ' H')/\∀x H',(Fm lo n).F6 i H x H'->g x σ H' λσ2 H2=>tb (D.lp N) σ2 H2):=by
 refine⟨λi m σ H=>m=n-i/\i<=n/\Pv i σ H,⟨n,by simp,QG _,h0⟩,?_⟩
 rintro i m σ H ⟨rfl,hi,p⟩
 by_cases hlt:i<n
 ·refine .inr ⟨hlt,Pv (i+1),λσ' H' p'=>⟨n-(i+1),by omega,rfl,hlt,p'⟩,λx H' y=>?_⟩
  obtain⟨e,y⟩:=y;subst e y;exact hs i σ _ hlt p
 ·have e:i=n:=by omega
  subst e;exact .inl ⟨PF _,hd σ H p⟩
abbrev R2:=V->V->Hp->VK->Prop
def vo(X:Cx)(f:Value->Value->Sem Value)(r:R2):Prop:=
 ∀(pins:List (Addr×Obj))(s:Shared)(σ:St)(H:Hp)(x y:V)(v u:Value)(Q:VK),Inv X pins σ H s->RelV x v->RelV y u->r x y H Q->
  wpAny (model X.prog X.w) X.A (f v u) (EP X pins σ Q) X.xe s
def OB(X:Cx)(f:Value->Sem Value)(r:V->Hp->VK->Prop):Prop:=
 ∀(pins:List (Addr×Obj))(s:Shared)(σ:St)(H:Hp)(x:V)(v:Value)(Q:VK),Inv X pins σ H s->RelV x v->r x H Q->
  wpAny (model X.prog X.w) X.A (f v) (EP X pins σ Q) X.xe s
def nj(X:Cx)(f:Value)(r:List V->Hp->VK->Prop):Prop:=
 ∀(pins:List (Addr×Obj))(s:Shared)(σ:St)(H:Hp)(xs:List V)(us:List Value)(Q:VK),Inv X pins σ H s->Vals xs us->r xs H Q->
  wpAny (model X.prog X.w) X.A (call f us) (EP X pins σ Q) X.xe s
def NB(r:R2)(ta tb:TE):TE:=λσ H Q=>ta σ H λx H1=>tb σ H1 λy H2=>r x y H2 Q
def O4(r:V->Hp->VK->Prop)(ta:TE):TE:=λσ H Q=>ta σ H λx H1=>r x H1 Q
inductive OP(C:Int->Int->Prop)(g:Int->Int->V)(x y:V)(H:Hp)(Q:VK):Prop
 |mk (i j:Int) (_:x=.int i) (_:y=.int j) (_:C i j) (_:Q (g i j) H):OP C g x y H Q
def rI(C:Int->Int->Prop)(g:Int->Int->V):R2:=λx y H Q=>OP C g x y H Q
inductive ON(g:Int->Int->V)(x y:V)(H:Hp)(Q:VK):Prop
 |mk (i j:Int) (_:x=.int i) (_:y=.int j) (_:Q (g i j) H):ON g x y H Q
def JW(g:Int->Int->V):R2:=λx y H Q=>ON g x y H Q
def rU(g:Int->V):V->Hp->VK->Prop:=λx H Q=>∃i,x=.int i/\Q (g i) H
section
variable{X:Cx}{a b c:Expr}{ta tb tc:TE}{pos:Pos}
theorem KJ(ha:PE X a ta)(hb:PE X b tb){pins:List (Addr×Obj)}{s:Shared}{σ:St}{H:Hp}{R:V->V->Hp->Prop}(I:Inv X pins σ H s)
  (h:ta σ H λx H1=>tb σ H1 λy H2=>R x y H2){Q:Value->Shared->Prop}{f:Value->Value->Sem Value}
  (hf:∀v u s2 x y H2,Inv X pins σ H2 s2->RelV x v->RelV y u->R x y H2->wpAny (model X.prog X.w) X.A (f v u) Q X.xe s2):
  wpAny (model X.prog X.w) X.A (eval a X.env) (λv s₁=>wpAny (model X.prog X.w) X.A (eval b X.env) (λu s₂=>wpAny (model X.prog X.w) X.A (f v u) Q X.xe s₂) X.xe s₁) X.xe s:=by
 refine dM (ha pins s σ H _ I h) λv s1⟨x,H1,I1,r1,q1⟩=>?_;refine dM (hb pins s1 σ H1 _ I1 q1) λu s2⟨y,H2,I2,r2,q2⟩=>?_;exact hf v u s2 x y H2 I2 r1 r2 q2
theorem bv{op:Operator}{r:R2}(ho:vo X (binaryOp op) r)(ha:PE X a ta)(hb:PE X b tb):PE X (.BinOp a op b pos) (NB r ta tb):=by
 intro pins s σ H Q I h;exact wpAny_BinOp (KJ ha hb I h λv u s2 x y H2 I2 rx ry q=>ho pins s2 σ H2 x y v u Q I2 rx ry q)
theorem oE{op:UnaryOp}{r:V->Hp->VK->Prop}(ho:OB X (unaryOp op) r)(ha:PE X a ta):PE X (.UnaryOp op a pos) (O4 r ta):=by
 intro pins s σ H Q I h;exact UnaryOp_ (dM (ha pins s σ H _ I h) λv s1⟨x,H1,I1,r1,q1⟩=>ho pins s1 σ H1 x v Q I1 r1 q1)
theorem N0{f:Value->Value->Sem Value}{C:Int->Int->Prop}{g:Int->Int->Int}
  (rule:∀(i j:Int)(t u:Tok)(s:Shared)(Q:Value->Shared->Prop)(E:Value->Shared->Prop),C i j->Q (.int (g i j) s.toks) {s with toks:=s.toks+1}->wpAny (model X.prog X.w) X.A (f (.int i t) (.int j u)) Q E s):
  vo X f (rI C λi j=>.int (g i j)):=by
 intro pins s σ H x y v u Q I rx ry h;obtain⟨i,j,rfl,rfl,hc,q⟩:=h;obtain⟨t,rfl⟩:=rx;obtain⟨t',rfl⟩:=ry;exact rule i j t t' s _ _ hc ⟨.int (g i j),H,I.tok _,⟨_,rfl⟩,q⟩
theorem Lc{f:Value->Value->Sem Value}{g:Int->Int->Int}
  (rule:∀(i j:Int)(t u:Tok)(s:Shared)(Q:Value->Shared->Prop)(E:Value->Shared->Prop),Q (.int (g i j) s.toks) {s with toks:=s.toks+1}->wpAny (model X.prog X.w) X.A (f (.int i t) (.int j u)) Q E s):
  vo X f (JW λi j=>.int (g i j)):=by
 intro pins s σ H x y v u Q I rx ry h;obtain⟨i,j,rfl,rfl,q⟩:=h;obtain⟨t,rfl⟩:=rx;obtain⟨t',rfl⟩:=ry;exact rule i j t t' s _ _ ⟨.int (g i j),H,I.tok _,⟨_,rfl⟩,q⟩
theorem Jo{f:Value->Value->Sem Value}{g:Int->Int->Bool}
  (rule:∀(i j:Int)(t u:Tok)(s:Shared)(Q:Value->Shared->Prop)(E:Value->Shared->Prop),Q (.bool (g i j)) s->wpAny (model X.prog X.w) X.A (f (.int i t) (.int j u)) Q E s):
  vo X f (JW λi j=>.bl (g i j)):=by
 intro pins s σ H x y v u Q I rx ry h;obtain⟨i,j,rfl,rfl,q⟩:=h;obtain⟨t,rfl⟩:=rx;obtain⟨t',rfl⟩:=ry;exact rule i j t t' s _ _ ⟨.bl (g i j),H,I,rfl,q⟩
def NI(i j:Int):Prop:=0<j/\j<1073741824
def K2(i j:Int):Prop:=(-(2^64)<i/\i<2^64)\/(-(2^64)<j/\j<2^64)
theorem K2.ok{i j:Int}(h:K2 i j):IntMulOk i j:=by
 rcases h with⟨h1,h2⟩|⟨h1,h2⟩
 ·exact .of_left (intBits_le_64 h1 h2)
 ·exact .of_right (intBits_le_64 h1 h2)
theorem gN:vo X (binaryOp .Add) (JW λi j=>.int (i+j)):=Lc λ_ _ _ _ _ _ _ q=>add_int q
theorem nZ:vo X (binaryOp .Sub) (JW λi j=>.int (i-j)):=Lc λ_ _ _ _ _ _ _ q=>sub_int q
theorem oW:vo X (binaryOp .Mult) (rI K2 λi j=>.int (i*j)):=N0 λ_ _ _ _ _ _ _ hc q=>mul_int q hc.ok
theorem EG:vo X (binaryOp .FloorDiv) (rI NI λi j=>.int (i/j)):=N0 λi j _ _ _ _ _ hc q=>by
 have h1:(0:Int)<j:=hc.1;have h2:j<1073741824:=hc.2;exact floordiv_int (by omega) (by rw[Int.fdiv_eq_ediv_of_nonneg i (by omega)];exact q) (.inl (PyProof.noPylong_small (by omega)))
theorem Gh:vo X (binaryOp .Mod) (rI (λ_ j=>0<j) λi j=>.int (i%j)):=N0 λi j _ _ _ _ _ hc q=>by
 have h1:(0:Int)<j:=hc;exact mod_int' (by omega) (by rw[Int.fmod_eq_emod_of_nonneg i (by omega)];exact q)
theorem Lu:vo X (binaryOp .BitAnd) (JW λi j=>.int (Builtin.bitAnd i j)):=Lc λ_ _ _ _ _ _ _ q=>and_int q
theorem Po{f:Value->Sem Value}{g:Int->Int}
  (rule:∀(i:Int)(t:Tok)(s:Shared)(Q:Value->Shared->Prop)(E:Value->Shared->Prop),Q (.int (g i) s.toks) {s with toks:=s.toks+1}->wpAny (model X.prog X.w) X.A (f (.int i t)) Q E s):
  OB X f (rU λi=>.int (g i)):=by
 intro pins s σ H x v Q I rx h;obtain⟨i,rfl,q⟩:=h;obtain⟨t,rfl⟩:=rx;exact rule i t s _ _ ⟨.int (g i),H,I.tok _,⟨_,rfl⟩,q⟩
theorem jZ:OB X (unaryOp .USub) (rU λi=>.int (-i)):=Po λ_ _ _ _ _ q=>neg_int q
end
def MI:V->V->Bool
 |.eB,.eB=>true|.eB,.int _=>true|.int _,.eB=>true|.eB,.bl _=>true|.bl _,.eB=>true|.eB,.str _=>true|.str _,.eB=>true
 |.int _,.int _=>true|.bl _,.bl _=>true|.str _,.str _=>true|.Br _,.Br _=>true
 |.int _,.str _=>true|.str _,.int _=>true|.bl _,.str _=>true|.str _,.bl _=>true
 |_,_=>false
def O0:R2:=λx y H Q=>MI x y=true/\Q (.bl (decide (x=y))) H
def O7:R2:=λx y H Q=>MI x y=true/\Q (.bl (!decide (x=y))) H
theorem g9{i j:Int}:decide (V.int i=V.int j)=(i==j):=by
 rw[QN];simp
theorem Gj{i j:Bool}:decide (V.bl i=V.bl j)=(i==j):=by
 rw[QN];simp
theorem DD{i j:Str}:decide (V.str i=V.str j)=(i==j):=by
 rw[QN];simp
theorem DX{i j:Array UInt8}:decide (V.Br i=V.Br j)=(i.toList==j.toList):=by
 rw[QN];cases i;cases j;simp
section
variable{X:Cx}{a b c:Expr}{ta tb tc:TE}{pos:Pos}
theorem ca{pins:List (Addr×Obj)}{σ:St}{H:Hp}{s:Shared}{Q:VK}{k k':Bool}(I:Inv X pins σ H s)(q:Q (.bl k) H)(e:k=k'):EP X pins σ Q (.bool k') s:=by
 subst e;exact⟨.bl k,H,I,rfl,q⟩
theorem bO:vo X (compareOp .Eq) O0:=by
 intro pins s σ H x y v u Q I rx ry h;obtain⟨hs,q⟩:=h;cases x with
 |eB=>
  cases rx;cases y with
  |eB=>cases ry;exact PySem.EqNone.eq_none_none (ca I q (by simp))
  |bl j=>cases ry;exact PySem.EqNone.eq_none_bool (ca I q (by simp))
  |int j=>obtain⟨t',rfl⟩:=ry;exact PySem.EqNone.eq_none_int (ca I q (by simp))
  |str j=>obtain⟨t',rfl⟩:=ry;exact PySem.EqNone.eq_none_str (ca I q (by simp))
  |_=>exact absurd (show false=true from hs) PM
 |bl i=>
  cases rx;cases y with
  |eB=>cases ry;exact PySem.EqNone.eq_bool_none (ca I q (by simp))
  |bl j=>cases ry;exact eq_bool (ca I q Gj)
  |str j=>obtain⟨t',rfl⟩:=ry;exact PySem.EqMixed.eq_bool_str (ca I q (by simp))
  |_=>exact absurd (show false=true from hs) PM
 |int i=>
  obtain⟨t,rfl⟩:=rx;cases y with
  |eB=>cases ry;exact PySem.EqNone.eq_int_none (ca I q (by simp))
  |int j=>obtain⟨t',rfl⟩:=ry;exact eq_int (ca I q g9)
  |str j=>obtain⟨t',rfl⟩:=ry;exact PySem.EqMixed.eq_int_str (ca I q (by simp))
  |_=>exact absurd (show false=true from hs) PM
 |str i=>
  obtain⟨t,rfl⟩:=rx;cases y with
  |eB=>cases ry;exact PySem.EqNone.eq_str_none (ca I q (by simp))
  |bl j=>cases ry;exact PySem.EqMixed.eq_str_bool (ca I q (by simp))
  |int j=>obtain⟨t',rfl⟩:=ry;exact PySem.EqMixed.eq_str_int (ca I q (by simp))
  |str j=>obtain⟨t',rfl⟩:=ry;exact eq_str (ca I q DD)
  |_=>exact absurd (show false=true from hs) PM
 |Br i=>
  obtain⟨t,rfl⟩:=rx;cases y with
  |Br j=>obtain⟨t',rfl⟩:=ry;exact PySem.W.eq_bytes (ca I q DX)
  |_=>exact absurd (show false=true from hs) PM
 |_=>cases y<;>exact absurd (show false=true from hs) PM
theorem EH:vo X (compareOp .NotEq) O7:=by
 intro pins s σ H x y v u Q I rx ry h;obtain⟨hs,q⟩:=h;cases x with
 |eB=>
  cases rx;cases y with
  |eB=>cases ry;exact PySem.EqNone.ne_none_none (ca I q (by simp))
  |bl j=>cases ry;exact PySem.EqNone.ne_none_bool (ca I q (by simp))
  |int j=>obtain⟨t',rfl⟩:=ry;exact PySem.EqNone.ne_none_int (ca I q (by simp))
  |str j=>obtain⟨t',rfl⟩:=ry;exact PySem.EqNone.ne_none_str (ca I q (by simp))
  |_=>exact absurd (show false=true from hs) PM
 |bl i=>
  cases rx;cases y with
  |eB=>cases ry;exact PySem.EqNone.ne_bool_none (ca I q (by simp))
  |bl j=>cases ry;exact ne_bool (ca I q (QI not Gj))
  |str j=>obtain⟨t',rfl⟩:=ry;exact PySem.EqMixed.ne_bool_str (ca I q (by simp))
  |_=>exact absurd (show false=true from hs) PM
 |int i=>
  obtain⟨t,rfl⟩:=rx;cases y with
  |eB=>cases ry;exact PySem.EqNone.ne_int_none (ca I q (by simp))
  |int j=>obtain⟨t',rfl⟩:=ry;exact ne_int (ca I q (QI not g9))
  |str j=>obtain⟨t',rfl⟩:=ry;exact PySem.EqMixed.ne_int_str (ca I q (by simp))
  |_=>exact absurd (show false=true from hs) PM
 |str i=>
  obtain⟨t,rfl⟩:=rx;cases y with
  |eB=>cases ry;exact PySem.EqNone.ne_str_none (ca I q (by simp))
  |bl j=>cases ry;exact PySem.EqMixed.ne_str_bool (ca I q (by simp))
  |int j=>obtain⟨t',rfl⟩:=ry;exact PySem.EqMixed.ne_str_int (ca I q (by simp))
  |str j=>obtain⟨t',rfl⟩:=ry;exact ne_str (ca I q (QI not DD))
  |_=>exact absurd (show false=true from hs) PM
 |Br i=>
  obtain⟨t,rfl⟩:=rx;cases y with
  |Br j=>obtain⟨t',rfl⟩:=ry;exact PySem.W.ne_bytes (ca I q (QI not DX))
  |_=>exact absurd (show false=true from hs) PM
 |_=>cases y<;>exact absurd (show false=true from hs) PM
theorem uL:vo X (compareOp .Lt) (JW λi j=>.bl (decide (i<j))):=Jo λ_ _ _ _ _ _ _ q=>lt_int q
theorem wA:vo X (compareOp .LtE) (JW λi j=>.bl (decide (i<=j))):=Jo λ_ _ _ _ _ _ _ q=>le_int q
theorem oC:vo X (compareOp .Gt) (JW λi j=>.bl (decide (j<i))):=Jo λ_ _ _ _ _ _ _ q=>gt_int q
theorem zj:vo X (compareOp .GtE) (JW λi j=>.bl (decide (j<=i))):=Jo λ_ _ _ _ _ _ _ q=>ge_int q
theorem aJ(b:Expr){op:CmpOp}(h:op≠.In:=by decide)(h2:op≠.NotIn:=by decide):behindInMarks op b=false:=by
 have e1:(op==CmpOp.In)=false:=by cases op<;>first|rfl|exact absurd rfl h
 have e2:(op==CmpOp.NotIn)=false:=by cases op<;>first|rfl|exact absurd rfl h2
 cases b<;>simp[behindInMarks,e1,e2]
theorem d9{op:CmpOp}{r:R2}(ho:vo X (compareOp op) r)(ha:PE X a ta)(hb:PE X b tb)(hm:behindInMarks op b=false):PE X (.Compare a [op] [b] pos) (NB r ta tb):=by
 intro pins s σ H Q I h;exact wpAny_Compare1 (KJ ha hb I h λv u s2 x y H2 I2 rx ry q=>ho pins s2 σ H2 x y v u Q I2 rx ry q) hm
def Kp(t:TE):TT:=λσ H Q=>t σ H λx H1=>N9 x H1 Q
theorem aI{op:CmpOp}{r:R2}(ho:vo X (compareOp op) r)(ha:PE X a ta)(hb:PE X b tb)(hm:behindInMarks op b=false):PT X (.Compare a [op] [b] pos) (Kp (NB r ta tb)):=by
 intro pins s σ H Q I h;refine wpAny_isTrue_Compare1 (dM (ha pins s σ H _ I h) λv s1⟨x,H1,I1,r1,q1⟩=>dM (hb pins s1 σ H1 _ I1 q1) λu s2⟨y,H2,I2,r2,q2⟩=>
  dM (ho pins s2 σ H2 x y v u _ I2 r1 r2 q2) λc s3⟨z,H3,I3,r3,k,e,q3⟩=>?_) hm
 subst e;cases r3;exact Rb ⟨H3,I3,q3⟩
def LK(r r':R2)(ta tb tc:TE):TE:=λσ H Q=>ta σ H λx H1=>tb σ H1 λy H2=>r x y H2 λz H3=>∃k,z=.bl k/\
 (if k=true then tc σ H3 λw' H4=>r' y w' H4 Q else Q (.bl false) H3)
theorem sj{op op':CmpOp}{r r':R2}(ho:vo X (compareOp op) r)(ho':vo X (compareOp op') r')(ha:PE X a ta)(hb:PE X b tb)(hc:PE X c tc)
  (hm:lastMarks [op,op'] [b,c]=false:=by with_unfolding_all rfl):PT X (.Compare a [op,op'] [b,c] pos) (Kp (LK r r' ta tb tc)):=by
 intro pins s σ H Q I h;refine isTrue_chain (dM (ha pins s σ H _ I h) λv s1⟨x,H1,I1,r1,q1⟩=>test_link (dM (hb pins s1 σ H1 _ I1 q1) λu s2⟨y,H2,I2,r2,q2⟩=>
  dM (ho pins s2 σ H2 x y v u _ I2 r1 r2 q2) λd s3⟨z,H3,I3,r3,k,e,q3⟩=>?_)) hm
 subst e;cases r3;refine Rb ?_;cases k with
 |false=>
  obtain⟨k',e',q'⟩:=q3;cases e';exact ite_ff ⟨H3,I3,q'⟩
 |true=>
  refine ite_tt (test_last (dM (hc pins s3 σ H3 _ I3 q3) λw' s4⟨z',H4,I4,r4,q4⟩=>dM (ho' pins s4 σ H4 y z' u w' _ I4 r2 r4 q4) λd' s5⟨z2,H5,I5,r5,k2,e2,q5⟩=>?_));subst e2;cases r5;exact Rb ⟨H5,I5,q5⟩
theorem uo:(sizeLine:Nat)<2^63:=by rw[PL];decide
theorem dB:vo X (binaryOp .Add) (λx y H Q=>∃i j,x=.str i/\y=.str j/\i.length+j.length<=sizeLine/\Q (.str (i++j)) H):=by
 intro pins s σ H x y v u Q I rx ry h;obtain⟨i,j,rfl,rfl,hz,q⟩:=h;obtain⟨t,rfl⟩:=rx;obtain⟨t',rfl⟩:=ry;exact add_str (λt' tk=>⟨.str (i++j),H,I.tok _,⟨_,rfl⟩,q⟩) hz
theorem vals1{x:V}{us:List Value}(r:Vals [x] us):∃u,us=[u]/\RelV x u:=by
 cases r with
 |cons r1 r2=>cases r2;exact⟨_,rfl,r1⟩
theorem vals2{x y:V}{us:List Value}(r:Vals [x,y] us):∃u w',us=[u,w']/\RelV x u/\RelV y w':=by
 cases r with
 |cons r1 r2=>
  cases r2 with
  |cons r3 r4=>cases r4;exact⟨_,_,rfl,r1,r3⟩
theorem zc(hc:X.calm=true):nj X (.builtin "max") (λxs H Q=>∃i j,xs=[.int i,.int j]/\Q (.int (if j>i then j else i)) H):=by
 intro pins s σ H xs us Q I r h;obtain⟨i,j,rfl,q⟩:=h;obtain⟨u,w',rfl,⟨t,rfl⟩,⟨t',rfl⟩⟩:=vals2 r;refine max_two_ints (I.ok.hd hc) λh' tk k=>⟨_,H,I.kept k,?_,q⟩
 by_cases hj:j>i
 ·rw[Pz hj,Pz hj];exact⟨_,rfl⟩
 ·rw[Py hj,Py hj];exact⟨_,rfl⟩
theorem zk(hc:X.calm=true):nj X (.builtin "min") (λxs H Q=>∃i j,xs=[.int i,.int j]/\Q (.int (if j<i then j else i)) H):=by
 intro pins s σ H xs us Q I r h;obtain⟨i,j,rfl,q⟩:=h;obtain⟨u,w',rfl,⟨t,rfl⟩,⟨t',rfl⟩⟩:=vals2 r;refine min_two_ints (I.ok.hd hc) λh' tk k=>⟨_,H,I.kept k,?_,q⟩
 by_cases hj:j<i
 ·rw[Pz hj,Pz hj];exact⟨_,rfl⟩
 ·rw[Py hj,Py hj];exact⟨_,rfl⟩
theorem om:nj X (.type "str") (λxs H Q=>∃i,xs=[.int i]/\i.natAbs.log2<1920/\Q (.str (toString i)) H):=by
 intro pins s σ H xs us Q I r h;obtain⟨i,rfl,hz,q⟩:=h;obtain⟨u,rfl,t,rfl⟩:=vals1 r;exact PySem.P.str_of_int hz ⟨.str _,H,I.tok _,⟨_,rfl⟩,q⟩
theorem Bs:nj X (.builtin "ord") (λxs H Q=>∃x,xs=[.str x]/\x.length=1/\Q (.int (x.cps.getD 0 0:Nat)) H):=by
 intro pins s σ H xs us Q I r h;obtain⟨x,rfl,hz,q⟩:=h;obtain⟨u,rfl,t,rfl⟩:=vals1 r;exact ord_of_one hz ⟨.int _,H,I.tok _,⟨_,rfl⟩,q⟩
end
structure C8(h:Heap)(x dx C:Addr)(mA:Str->Option Value):Prop where
 obj:h.get? x=some (PySem.W.instObj C dx)
 ns:h.Ns1 dx mA
 ne:dx≠x
theorem uz{h:Heap}{dx:Addr}{mA:Str->Option Value}(n:h.Ns1 dx mA):∃od,h.get? dx=some od/\∀name,PySem.W.lookIn name od=some (mA name):=by
 obtain⟨o,es,ep,ho,hd,hk,_,hm⟩:=n;refine⟨o,ho,λname=>?_⟩;have e:=hm name;unfold nsFind findBy at e;rw[<-Array.find?_toList]at e;unfold PySem.W.lookIn;rw[hd];dsimp only;split
 ·rename_i y q
  rw[q]at e;exact QI some e
 ·rename_i q
  rw[q]at e;have a:es.toList.any (·.refKey)=false:=by
   rw[Rj];intro y hy;obtain⟨z,t,hkey⟩:=hk y (Array.mem_toList_iff.mp hy);simp[DictEntry.refKey,hkey]
  have a':¬es.toList.any (·.refKey)=true:=by rw[a];exact PM
  rw[Py a'];exact QI some e
theorem C8.look{h:Heap}{x dx C:Addr}{mA:Str->Option Value}(I:C8 h x dx C mA):∃od,PySem.W.InstAt h x (PySem.W.instObj C dx) C (some od)/\∀name,PySem.W.lookIn name od=some (mA name):=
 let⟨od,ho,hl⟩:=uz I.ns
 ⟨od,⟨I.obj,rfl,rfl,ho⟩,hl⟩
section
variable{prog:Qw}{w:World}{A:Around}{E:Value->Shared->Prop}{s:Shared}{K:PB}{x dx C f:Addr}{mA:Str->Option Value}{name:Str}{v:Value}
theorem get_map{expr:Bool}{Q:Value->Shared->Prop}(X:K.In s.heap)(I:C8 s.heap x dx C mA)(hg:PySem.W.plainGet K C name=true)(hh:PySem.W.hasDictIn K C=true)
  (ha:PySem.W.findIn K (.ref C) name=some none)(hv:mA name=some v)(hv':PySem.W.handedIn v=true)(h:Q v {s with toks:=s.toks+1}):
  wpAny (model prog w) A (getAttr (.ref x) name expr) Q E s:=by
 obtain⟨od,J,hl⟩:=I.look;exact PySem.W.get_value X J (PySem.W.plainGet_of hg).1 (PySem.W.findObj_own hh ha rfl (by rw[hl,hv])) hv' h
theorem Gk{pl:Sem Bool}{Q:Value×List Value->Shared->Prop}(X:K.In s.heap)(I:C8 s.heap x dx C mA)(hg:PySem.W.plainGet K C name=true)
  (hf:PySem.W.findIn K (.ref C) name=some (some (.ref f)))(ht:PySem.W.isFn K (.ref f)=true)(hv:mA name=none)(h:Q (.ref f,[.ref x]) s):
  wpAny (model prog w) A (getMethod (.ref x) name pl) Q E s:=by
 obtain⟨od,J,hl⟩:=I.look;exact PySem.W.method_fn X J (PySem.W.plainGet_of hg).1 (PySem.W.plainGet_of hg).2 hf (QQ.mp ht) (by show(PySem.W.lookIn name od).map (·.isSome)=some false;rw[hl,hv];rfl) h
theorem Ju{ns:List Str}{Q:Unit->Shared->Prop}(X:K.In s.heap)(I:C8 s.heap x dx C mA)
  (hs:PySem.W.findIn K (.ref C) "__setattr__"=some (some (.builtin "object.__setattr__")))(hp:PySem.W.plainOver K C=true)(ht:PySem.W.takerIn K C name=some none)(hh:PySem.W.hasDictIn K C=true)
  (hw:PySem.Within mA ns)(hsz:ns.length<=sizeLine)
  (h:∀h',C8 h' x dx C (λy=>if y=name then some v else mA y)->Heap.SameBut dx s.heap h'->Q () {s with heap:=h',toks:=s.toks+2}):
  wpAny (model prog w) A (setAttr (.ref x) name v) Q E s:=by
 obtain⟨od,J,hl⟩:=I.look;refine PySem.W.set_plain X J hs (PySem.W.osa_open (s:={s with toks:=s.toks+1}) (r:=none) X J hp ht λb=>?_);obtain⟨cd,hc,hd'⟩:=PySem.W.any_some hh;have hx:s.heap.get? x=some ⟨.ref C,some dx,.plain,#[]⟩:=I.obj;refine PN (Qv (PN (PN (wpAny_loadPart hx (PN (PySem.W.Looks.here (s:={s with toks:=s.toks+1}) (Si X hc) ?_))))));rw[hd'];refine Qv (a:=some dx) (PN (Qv (PN ?_)));refine wpAny_nsSet1 (s:={s with toks:=s.toks+1}) I.ns λh' hn2 hs2=>?_;obtain⟨oD,esD,epD,hoD,hdD,hcD⟩:=hn2.count (PySem.Within.cons name v hw);refine PN (wpAny_lookBehind hoD (by rw[hdD];exact pastItsLine_dict (Qq hcD (by rw[Qj];omega))) ?_);exact Qv (h _ ⟨(hs2.2 _ (PZ I.ne)).trans I.obj,hn2,I.ne⟩ hs2)
theorem HN{R:Result->Shared->Prop}{vs:List Value}{kw:List (Str×Value)}(X:K.In s.heap)(hm:PySem.W.makesIn K C=true)
  (hi:PySem.W.findIn K (.ref C) "__init__"=some (some (.ref f)))(hf:PySem.W.typeIn K (.ref f)=some (.type "function"))
  (h:codeAny (model prog w) (A.under (.builtin "type.__call__" ⟨.ref C::vs,kw⟩)) (.call (.ref f) ⟨.ref (s.heap.objs.size+1)::vs,kw⟩) (PySem.W.InitBack (s.heap.objs.size+1) R)
   {s with heap:=(s.heap.push PySem.W.emptyDict).push (PySem.W.instObj C s.heap.objs.size)}):
  codeAny (model prog w) A (.call (.ref C) ⟨vs,kw⟩) R s:=by
 obtain⟨hh,g,d,t,os⟩:=s;exact PySem.W.make_core (PySem.W.makes_of X hm) (Sc X hi) (λself=>PySem.W.bind_fn X self hf) (.inl rfl) h
end
def cf(f:Str)(v:V):List (Str×V)->List (Str×V)
 |[]=>[(f,v)]
 |(g,x)::r=>if g=f then(g,v)::r else(g,x)::cf f v r
theorem o4(f g:Str)(v:V):∀fs:List (Str×V),(cf f v fs).lookup g=if g=f then some v else fs.lookup g
 |[]=>by
  show List.lookup g [(f,v)]=_
  by_cases h:g=f
  ·have hb:(g==f)=true:=QQ.mpr h
   simp only[List.lookup,hb,Pz h]
  ·have hb:(g==f)=false:=RV.mpr h
   simp only[List.lookup,hb,Py h]
 |(k,x)::r=>by
  have ih:=o4 f g v r;rw[show cf f v ((k,x)::r)=(if k=f then(k,v)::r else(k,x)::cf f v r)from rfl]
  by_cases hk:k=f
  ·rw[Pz hk]
   by_cases h:g=k
   ·have hb:(g==k)=true:=QQ.mpr h
    simp only[List.lookup,hb,Pz (h.trans hk)]
   ·have hb:(g==k)=false:=RV.mpr h
    simp only[List.lookup,hb,Py (λe:g=f=>h (e.trans hk.symm))]
  ·rw[Py hk]
   by_cases h:g=k
   ·have hb:(g==k)=true:=QQ.mpr h
    simp only[List.lookup,hb,Py (λe:g=f=>hk (h.symm.trans e))]
   ·have hb:(g==k)=false:=RV.mpr h
    simp only[List.lookup,hb];exact ih
theorem nA(f:Str)(v:V):∀fs:List (Str×V),f∈(cf f v fs).map (·.1)/\∀g,g∈fs.map (·.1)->g∈(cf f v fs).map (·.1)
 |[]=>⟨by simp[cf],λg h=>by simp at h⟩
 |(k,x)::r=>by
  obtain⟨i1,i2⟩:=nA f v r;rw[show cf f v ((k,x)::r)=(if k=f then(k,v)::r else(k,x)::cf f v r)from rfl]
  by_cases hk:k=f
  ·rw[Pz hk]
   subst hk;exact⟨by simp,λg h=>by simpa using h⟩
  ·rw[Py hk]
   refine⟨?_,λg h=>?_⟩
   ·rw[QD]
    exact PY _ i1
   ·rw[QD]at h ⊢
    rcases Qh.mp h with e|e
    ·exact Qh.mpr (.inl e)
    ·exact PY _ (i2 g e)
theorem p6(f:Str)(v:V):∀fs:List (Str×V),(cf f v fs).length<=fs.length+1
 |[]=>by simp[cf]
 |(k,x)::r=>by
  have ih:=p6 f v r;rw[show cf f v ((k,x)::r)=(if k=f then(k,v)::r else(k,x)::cf f v r)from rfl]
  by_cases hk:k=f
  ·rw[Pz hk,Qj,Qj];omega
  ·rw[Py hk,Qj,Qj];omega
theorem qJ.some_of{v:V}{o:Option Value}(r:qJ (some v) o):∃u,o=some u/\RelV v u:=by
 cases o with
 |none=>exact(show False from r).elim
 |some u=>exact⟨u,rfl,r⟩
theorem qJ.none_of{o:Option Value}(r:qJ none o):o=none:=by
 cases o with
 |none=>rfl
 |some u=>exact(show False from r).elim
theorem zJ{v:V}{u:Value}(r:RelV v u):PySem.W.handedIn u=true:=by
 cases v with
 |eB=>cases(show u=Value.none from r);rfl
 |bl b=>cases(show u=Value.bool b from r);rfl
 |int i=>obtain⟨t,e⟩:=(show∃t,u=Value.int i t from r);cases e;rfl
 |str x=>obtain⟨t,e⟩:=(show∃t,u=Value.str x t from r);cases e;rfl
 |Br b=>obtain⟨t,e⟩:=(show∃t,u=Value.bytes b t from r);cases e;rfl
 |flt b=>obtain⟨t,e⟩:=(show∃t,u=Value.float b t from r);cases e;rfl
 |ref a=>cases(show u=Value.ref a from r);rfl
 |ty n=>cases(show u=Value.type n from r);rfl
section
variable{P:Qw}{w:World}{H H':Hp}{h h':Heap}{a C dx:Addr}{fs fs':List (Str×V)}
theorem AH(cE:lV P w H h)(e:H a=some (.ins C dx fs)):∃mA,C8 h a dx C mA/\(∀f,qJ (fs.lookup f) (mA f))/\PySem.Within mA (fs.map (·.1))/\fs.length<=1000/\H dx=some (.own a):=by
 obtain⟨d,z,ne,ob,mA,n,r,q⟩:=(show dH P w H h a (.ins C dx fs)from cE a _ e);exact⟨mA,⟨ob,n,ne⟩,r,q,z,d⟩
end
structure HC(K:PB)(C:Addr):Prop where
 pg:PySem.W.plainGet K C Str.empty=true
 hd:PySem.W.hasDictIn K C=true
 po:PySem.W.plainOver K C=true
 sa:PySem.W.findIn K (.ref C) "__setattr__"=some (some (.builtin "object.__setattr__"))
theorem HC.get{K:PB}{C:Addr}(c:HC K C)(f:Str):PySem.W.plainGet K C f=true:=c.pg
def aP(K:PB)(C:Addr)(f:Str):Prop:=PySem.W.findIn K (.ref C) f=some none
theorem aP.Mo{K:PB}{C:Addr}{f:Str}(n:aP K C f):PySem.W.takerIn K C f=some none:=by
 unfold PySem.W.takerIn;rw[show PySem.W.findIn K (.ref C) f=some none from n];rfl
structure Meth(K:PB)(C:Addr)(m:Str)(f:Addr):Prop where
 at_:PySem.W.findIn K (.ref C) m=some (some (.ref f))
 fn:PySem.W.isFn K (.ref f)=true
 kp:PySem.W.keepIn K (.ref f)=true
section
variable{X:Cx}{pins:List (Addr×Obj)}{σ:St}{H:Hp}{s:Shared}{a C dx:Addr}{fs:List (Str×V)}{f:Str}{v:V}{A:Around}{E:Value->Shared->Prop}
theorem xM{b:Bool}{Q:Value->Shared->Prop}(I:Inv X pins σ H s)(e:H a=some (.ins C dx fs))(c:HC X.K C)(n:aP X.K C f)(l:fs.lookup f=some v)
  (h:∀u s',Inv X pins σ H s'->RelV v u->Q u s'):wpAny (model X.prog X.w) A (getAttr (.ref a) f b) Q E s:=by
 obtain⟨mA,O,r,_,_,_⟩:=AH I.cE e;obtain⟨u,hu,ru⟩:=qJ.some_of (v:=v) (o:=mA f) (by rw[<-l];exact r f);exact get_map I.qQ O (c.get f) c.hd n hu (zJ ru) (h u _ (I.tok _) ru)
theorem wk{m:Str}{g:Addr}{pl:Sem Bool}{Q:Value×List Value->Shared->Prop}(I:Inv X pins σ H s)(e:H a=some (.ins C dx fs))(c:HC X.K C)(k:Meth X.K C m g)(l:fs.lookup m=none)
  (h:Q (.ref g,[.ref a]) s):wpAny (model X.prog X.w) A (getMethod (.ref a) m pl) Q E s:=by
 obtain⟨mA,O,r,_,_,_⟩:=AH I.cE e;have hn:mA m=none:=qJ.none_of (by rw[<-l];exact r m);exact Gk I.qQ O (c.get m) k.at_ k.fn hn h
theorem xz{y:V}{u:Value}{Q:Unit->Shared->Prop}(I:Inv X pins σ H s)(e:H a=some (.ins C dx fs))(c:HC X.K C)(n:aP X.K C f)(hl:fs.length<1000)(ry:RelV y u)
  (h:∀s',Inv X pins σ (upd H a (.ins C dx (cf f y fs))) s'->Q () s'):wpAny (model X.prog X.w) A (setAttr (.ref a) f u) Q E s:=by
 obtain⟨mA,O,r,wi,_,ho⟩:=AH I.cE e;have hz:(fs.map (·.1)).length<=sizeLine:=by rw[Px,PL];omega
 refine Ju I.qQ O c.sa c.po n.Mo c.hd wi hz λh' O' sb=>h _ ?_;have hd:∃o,h'.get? dx=some o:=let⟨o,_,_,e',_⟩:=O'.ns;⟨o,e'⟩;refine I.write (x:=a) (e:=dx) (by rw[e];exact True.intro) (.inr ho) (λb q hb z=>(sb.2 b hb).trans z) hd ?_;refine⟨by rw[ai O.ne];exact ho,?_,O.ne,O'.obj,_,O'.ns,λg=>?_,λg hg=>?_⟩
 ·have:=p6 f y fs;omega
 ·show qJ ((cf f y fs).lookup g) (if g=f then some u else mA g)
  rw[o4]
  by_cases q:g=f
  ·rw[Pz q,Pz q];exact ry
  ·rw[Py q,Py q];exact r g
 ·by_cases q:g=f
  ·rw[q];exact(nA f y fs).1
  ·refine(nA f y fs).2 g (wi g λz=>hg ?_)
   show(if g=f then some u else mA g)=none;rw[Py q];exact z
theorem Inv.made(I:Inv X pins σ H s):Inv X pins σ (upd (upd H s.heap.objs.size (.own (s.heap.objs.size+1))) (s.heap.objs.size+1) (.ins C s.heap.objs.size []))
  {s with heap:=(s.heap.push PySem.W.emptyDict).push (PySem.W.instObj C s.heap.objs.size)}:=by
 have e1:(s.heap.push PySem.W.emptyDict).get? s.heap.objs.size=some PySem.W.emptyDict:=QE s.heap rfl;have e2:((s.heap.push PySem.W.emptyDict).push (PySem.W.instObj C s.heap.objs.size)).get? (s.heap.objs.size+1)=some (PySem.W.instObj C s.heap.objs.size):=by
  have:=QE (s.heap.push PySem.W.emptyDict) (o:=PySem.W.instObj C s.heap.objs.size) rfl;rwa[Q6]at this
 have e3:(s.heap.push PySem.W.emptyDict).Ns s.heap.objs.size (λ_=>none):=⟨PySem.W.emptyDict,#[],_,e1,rfl,(λe he=>absurd he (by simp)),λ_=>rfl⟩;have I1:=I.laid (a:=s.heap.objs.size) (o:= .own (s.heap.objs.size+1)) (h':=s.heap.push PySem.W.emptyDict) (t':=s.toks) (λb u q=>Qi _ q) (PF _) ⟨_,e1⟩;refine I1.laid (a:=s.heap.objs.size+1) (o:= .ins C s.heap.objs.size []) (t':=s.toks) (λb u q=>Qi _ q) (Nat.le_of_eq (Q6 _ _)) ?_;have ne:s.heap.objs.size≠s.heap.objs.size+1:=QC (Nat.lt_succ_self _);refine⟨by rw[ai ne,ah],QG _,ne,e2,λ_=>none,(Heap.Ns1.of_empty e3).at λo q=>Qi _ q,λ_=>True.intro,λy hy=>absurd rfl hy⟩
theorem Dx{prog:Qw}{w:World}{env:Env}{e:Expr}{f:Str}{pos:Pos}{s:Shared}{Q:Value->Shared->Prop}(hb:attributeBase e f env (eval e env)=eval e env)
  (h:wpAny (model prog w) A (eval e env) (λo s₁=>wpAny (model prog w) A (getAttr o f true) Q E s₁) E s):wpAny (model prog w) A (eval (.Attribute e f pos) env) Q E s:=
 Attribute_any_ h (by rw[arm_eval_Attribute,hb])
end
inductive M8(K:PB)(f:Str)(x:V)(H:Hp)(Q:VK):Prop
 |mk (a C dx:Addr) (fs:List (Str×V)) (v:V) (_:x=.ref a) (_:H a=some (.ins C dx fs)) (_:HC K C) (_:aP K C f) (_:fs.lookup f=some v) (_:Q v H):M8 K f x H Q
def Mn(K:PB)(ta:TE)(f:Str):TE:=λσ H Q=>ta σ H λx H1=>M8 K f x H1 Q
inductive Ma(K:PB)(f:Str)(x y:V)(H:Hp)(N:Hp->Prop):Prop
 |mk (a C dx:Addr) (fs:List (Str×V)) (_:x=.ref a) (_:H a=some (.ins C dx fs)) (_:HC K C) (_:aP K C f) (_:fs.length<1000) (_:N (upd H a (.ins C dx (cf f y fs)))):Ma K f x y H N
def Oc(K:PB)(ta tv:TE)(f:Str):TS:=λD σ H=>tv σ H λy H1=>ta σ H1 λx H2=>Ma K f x y H2 (D.nx σ)
def MF(X:Cx)(op:Operator)(rd:V->V->Hp->VK->Prop):Prop:=
 ∀(pins:List (Addr×Obj))(s:Shared)(σ:St)(H:Hp)(x y:V)(u v:Value)(Q:VK),Inv X pins σ H s->RelV x u->RelV y v->rd x y H Q->wpAny (model X.prog X.w) X.A (inplaceOp op u v) (EP X pins σ Q) X.xe s
def Ji(K:PB)(ta tv:TE)(rd:V->V->Hp->VK->Prop)(f:Str):TS:=λD σ H=>ta σ H λx H1=>∃a C dx fs v,x=.ref a/\H1 a=some (.ins C dx fs)/\HC K C/\aP K C f/\fs.lookup f=some v/\
 tv σ H1 λy H2=>rd v y H2 λz H3=>∃dx' fs',H3 a=some (.ins C dx' fs')/\fs'.length<1000/\D.nx σ (upd H3 a (.ins C dx' (cf f z fs')))
section
variable{X:Cx}{o e value:Expr}{f:Str}{pos pos' tpos:Pos}{ta tv:TE}
theorem au(he:PE X e ta)(hb:attributeBase e f X.env (eval e X.env)=eval e X.env):PE X (.Attribute e f pos) (Mn X.K ta f):=by
 intro pins s σ H Q I h;refine Dx hb (dM (he pins s σ H _ I h) λu s1⟨x,H1,I1,rx,a,C,dx,fs,v,ex,ea,c,n,l,q⟩=>?_);subst ex;obtain rfl:u=Value.ref a:=rx;exact xM I1 ea c n l λu' s2 I2 ru=>⟨v,H1,I2,ru,q⟩
theorem a5(ha:PE X o ta)(hv:PE X value tv)(hs:swapsWith value (some (.Attribute o f pos')) pos.line X.env=pure false):PS X (.Assign [.Attribute o f pos'] value pos) (Oc X.K ta tv f):=by
 intro pins s σ H D I h;refine RX (dM (hv pins s σ H _ I h) λu s1⟨y,H1,I1,ry,q⟩=>dM (ha pins s1 σ H1 _ I1 q) λov s2⟨x,H2,I2,rx,a,C,dx,fs,ex,ea,c,n,l,q2⟩=>?_) hs;subst ex;obtain rfl:ov=Value.ref a:=rx;exact xz I2 ea c n l ry λs3 I3=>⟨σ,_,I3,q2⟩
theorem qr{op:Operator}{rd:V->V->Hp->VK->Prop}(ha:PE X o ta)(hv:PE X value tv)(hop:MF X op rd):PS X (.AugAssign (.Attribute o f tpos) op value pos) (Ji X.K ta tv rd f):=by
 intro pins s σ H D I h;refine wpAny_AugAssign_AttributeAny (dM (ha pins s σ H _ I h) λov s1⟨x,H1,I1,rx,a,C,dx,fs,v,ex,ea,c,n,l,q⟩=>?_);subst ex;obtain rfl:ov=Value.ref a:=rx;refine xM I1 ea c n l λu s2 I2 ru=>dM (hv pins s2 σ H1 _ I2 q) λw3 s3⟨y,H2,I3,ry,q3⟩=>dM (hop pins s3 σ H2 v y u w3 _ I3 ru ry q3) λw4 s4⟨z,H3,I4,rz,dx',fs',ea',l',q4⟩=>?_;exact xz I4 ea' c n l' rz λs5 I5=>⟨σ,_,I5,q4⟩
def NO:V->V->Hp->VK->Prop:=λx y H Q=>∃i j,x=.int i/\y=.int j/\Q (.int (i+j)) H
theorem Ah:MF X .Add NO:=by
 rintro pins s σ H x y u v Q I rx ry ⟨i,j,rfl,rfl,q⟩
 obtain⟨t,rfl⟩:=(show∃t,u=Value.int i t from rx);obtain⟨t',rfl⟩:=(show∃t',v=Value.int j t' from ry);exact PyProof.Rows.iadd_int ⟨.int (i+j),H,I.tok _,⟨_,rfl⟩,q⟩
end
structure fZ(k:Nat)(A:Around):Prop where
 hd:A.handled=none
 dp:A.depth+3*k+5<recursionLimit
 un:A.units+16*k+200<cLine
theorem fZ.mono{j k:Nat}{A:Around}(r:fZ k A)(h:j<=k):fZ j A:=⟨r.hd,by have:=r.dp;omega,by have:=r.un;omega⟩
theorem fZ.deeper{k:Nat}{A:Around}(r:fZ (k+1) A)(env:Env):fZ k (A.deeper env):=
 ⟨r.hd,by have:=r.dp;show A.depth+1+3*k+5<_;omega,by have:=r.un;show A.units+3+16*k+200<_;omega⟩
theorem yx{A:Around}{C:Addr}{us:List Value}{kw:List (Str×Value)}:(A.under (.builtin "type.__call__" ⟨.ref C::us,kw⟩)).depth=A.depth+1:=by
 first|rfl|simp[Around.under,Code.weight,Code.isCreation,Code.isGuard,Code.isCaller,Code.frames,Code.isFrame,guardIds]
theorem CO{A:Around}{C:Addr}{us:List Value}{kw:List (Str×Value)}:(A.under (.builtin "type.__call__" ⟨.ref C::us,kw⟩)).units=A.units+1:=by
 first|rfl|simp[Around.under,Code.cUnits,Code.frames,Code.isFrame]
theorem fZ.make{k:Nat}{A:Around}(r:fZ (k+1) A)(C:Addr)(us:List Value)(kw:List (Str×Value)):fZ k (A.under (.builtin "type.__call__" ⟨.ref C::us,kw⟩)):=
 ⟨r.hd,by have:=r.dp;rw[yx];omega,by have:=r.un;rw[CO];omega⟩
theorem fZ.depth{k:Nat}{A:Around}(r:fZ k A):A.depth<recursionLimit:=by have:=r.dp;omega
theorem fZ.units{k:Nat}{A:Around}(r:fZ k A):A.units+64<cLine:=by have:=r.un;omega
def rQ:TA:=λ_ H Q=>Q [] H
def GR(ta:TE)(tr:TA):TA:=λσ H Q=>ta σ H λx H1=>tr σ H1 λxs H2=>Q (x::xs) H2
section
variable{X:Cx}{e:Expr}{es:List Expr}{te:TE}{t:TA}{pos:Pos}
theorem ae:PA X [] rQ:=λ_ _ _ _ H Q I h=>Calls.spliced_nil ⟨[],H,I,.nil,h⟩
theorem aa(ha:PE X e te)(hr:PA X es t)(hs:starEach (e::es) X.env=(false,eval e X.env)::starEach es X.env:=by rfl):PA X (e::es) (GR te t):=by
 intro pos pins s σ H Q I h;rw[hs];show wpAny _ _ (spliced ((false,eval e X.env)::backTo pos (starEach es X.env))) _ _ s;refine Calls.spliced_cons (dM (ha pins s σ H _ I h) λu s1⟨x,H1,I1,r1,q1⟩=>?_);exact dM (hr pos pins s1 σ H1 _ I1 q1) λus s2⟨xs,H2,I2,r2,q2⟩=>⟨x::xs,H2,I2,.cons r1 r2,q2⟩
def Og(t:TA):TE:=λσ H Q=>t σ H λxs H1=>xs.length<=sizeLine/\∀p,H1 p=none->Q (.ref p) (upd H1 p (.tup xs))
def NM(t:TA):TE:=λσ H Q=>t σ H λxs H1=>xs.length<=sizeLine/\∀p,H1 p=none->Q (.ref p) (upd H1 p (.lst xs))
theorem nV{x1}(h:PA X es t):PE X (.Tuple es x1 pos) (Og t):=by
 intro pins s σ H Q I hq;refine wpAny_Tuple_spliced (dM (h pos pins s σ H _ I hq) λus s1⟨xs,H1,I1,r,z,q⟩=>⟨by rw[<-r.length];exact z,?_⟩);have hf:H1 s1.heap.objs.size=none:=I1.cE.fresh (PF _);refine⟨.ref s1.heap.objs.size,upd H1 s1.heap.objs.size (.tup xs),I1.laid (t':=s1.toks) (λb u e=>Qi _ e) (PF _) ?_,rfl,q _ hf⟩;exact⟨z,us,r,⟨_,QE _ rfl,rfl,_,rfl⟩⟩
theorem cb(h:PA X es t):PE X (.List es pos) (NM t):=by
 intro pins s σ H Q I hq;refine wpAny_List_spliced (dM (h pos pins s σ H _ I hq) λus s1⟨xs,H1,I1,r,z,q⟩=>⟨by rw[<-r.length];exact z,?_⟩);have hf:H1 s1.heap.objs.size=none:=I1.cE.fresh (PF _);refine⟨.ref s1.heap.objs.size,upd H1 s1.heap.objs.size (.lst xs),I1.laid (t':=s1.toks) (λb u e=>Qi _ e) (PF _) ?_,rfl,q _ hf⟩;exact⟨z,us,0,r,QE _ rfl⟩
end
abbrev Sp:=List V->Hp->VK->XK->Prop
abbrev Ey:=List Env->Hp->Shared->XK->Value->Shared->Prop
structure B3(P:Qw)(w:World)(K:PB)(mg:Str->Option Value)(base:Heap)(A:Around)(outer:List Env)(s:Shared)(H:Hp):Prop where
 frames:A.frames=some outer
 mod:Mod K mg base
 bs:∀b o,base.get? b=some o->s.heap.get? b=some o/\H b=none
 F5:base.objs.size<=s.heap.objs.size
 rK:s.heap.FunFrames base outer
 Dd:∀b∈yU outer,H b=none
 cE:lV P w H s.heap
 bare:AllBare s.gens
def CE(outer:List Env)(P:Qw)(w:World)(H:Hp)(s:Shared)(Q:VK)(u:Value)(s':Shared):Prop:=
 ∃v H',s'.os=s.os/\AllBare s'.gens/\Un (yU outer) [] H H' s.heap s'.heap/\lV P w H' s'.heap/\RelV v u/\Q v H'
def CR(CX:Ey)(outer:List Env)(P:Qw)(w:World)(H:Hp)(s:Shared)(Q:VK)(E:XK)(r:Result)(s':Shared):Prop:=
 match r with
 |.ok (.ret u)=>CE outer P w H s Q u s'
 |.ok _=>False
 |.error e=>CX outer H s E e s'
structure a4(P:Qw)(w:World)(K:PB)(mg:Str->Option Value)(base:Heap)(CX:Ey)(k:Nat)(f:Addr)(fd:PP)(ps:List Str)(sp:Sp):Prop where
 len:∀vs H Q E,sp vs H Q E->vs.length=ps.length
 run:∀(A:Around)(outer:List Env)(s:Shared)(H:Hp)(args:Args)(us:List Value)(vs:List V)(Q:VK)(E:XK),fZ k A->B3 P w K mg base A outer s H->BindsTo s fd args (ps.zip us)->Vals vs us->sp vs H Q E->
  codeAny (model P w) A (.call (.ref f) args) (CR CX outer P w H s Q E) s
theorem B3.make{P:Qw}{w:World}{K:PB}{mg:Str->Option Value}{base:Heap}{A:Around}{outer:List Env}{s:Shared}{H:Hp}(e:B3 P w K mg base A outer s H)(C:Addr)(us:List Value)(kw:List (Str×Value)):
  B3 P w K mg base (A.under (.builtin "type.__call__" ⟨.ref C::us,kw⟩)) outer s H:=⟨by first|exact e.frames|(simpa[Around.under,Code.envs,Code.isFrame,pushEnvs]using e.frames),e.mod,e.bs,e.F5,e.rK,e.Dd,e.cE,e.bare⟩
section
variable{X:Cx}{pins:List (Addr×Obj)}{σ:St}{H:Hp}{s s':Shared}
theorem Inv.K6(I:Inv X pins σ H s):B3 X.prog X.w X.K X.mg X.base X.A X.stack s H:=
 ⟨I.ok.frames,I.ok.mod,I.bs,Qq I.ok.F5 I.sz,I.stack,I.vW,I.cE,I.bare⟩
theorem Inv.after{Q:VK}{u:Value}(I:Inv X pins σ H s)(h:CE X.stack X.prog X.w H s Q u s'):EP X pins σ Q u s':=by
 obtain⟨v,H',os,bare,un,cE,r,q⟩:=h;obtain⟨hh,g,d,t,os'⟩:=s';obtain rfl:os'=s.os:=os;exact⟨v,H',I.call (h':=hh) (g':=g) (d':=d) (t':=t) (ch:=[]) un cE bare (λb z=>absurd z (by simp)),r,q⟩
end
def J3(sp:Sp)(dvs:List V)(E:XK)(t:TA):TE:=λσ H Q=>t σ H λvs H1=>sp (vs++dvs) H1 Q E
inductive Kb(C:Addr)(m:Str)(x:V)(H:Hp)(R:Prop):Prop
 |mk (a dx:Addr) (fs:List (Str×V)) (_:x=.ref a) (_:H a=some (.ins C dx fs)) (_:fs.lookup m=none) (_:R):Kb C m x H R
def EA(C:Addr)(m:Str)(sp:Sp)(dvs:List V)(E:XK)(ta:TE)(t:TA):TE:=λσ H Q=>ta σ H λx H1=>Kb C m x H1 (t σ H1 λvs H2=>sp (x::(vs++dvs)) H2 Q E)
def He(C:Addr)(sp:Sp)(dvs:List V)(E:XK)(t:TA):TE:=λσ H Q=>t σ H λvs H1=>∀x dx,H1 x=none->H1 dx=none->dx≠x->
 sp (.ref x::(vs++dvs)) (upd (upd H1 dx (.own x)) x (.ins C dx [])) (λv H2=>v=.eB/\Q (.ref x) H2) E
def Binds(K:PB)(fd:PP)(ps:List Str)(ds:List Value):Prop:=
 ∀(s:Shared)(us:List Value),K.In s.heap->(us++ds).length=ps.length->BindsTo s fd ⟨us,[]⟩ (ps.zip (us++ds))
theorem Binds.all{K:PB}{fd:PP}{ps:List Str}(h:∀us:List Value,us.length=ps.length->bindArgs fd ⟨us,[]⟩=pure (ps.zip us)):Binds K fd ps []:=λs us _ hl=>by
 rw[QA]at hl ⊢;exact .of_eq (h us hl)
def Passes(CX:Ey)(X:Cx)(E:XK):Prop:=∀(pins:List (Addr×Obj))(σ:St)(H:Hp)(s:Shared)(e:Value)(s':Shared),Inv X pins σ H s->CX X.stack H s E e s'->X.xe e s'
section
variable{X:Cx}{CX:Ey}{k:Nat}{f C:Addr}{fd:PP}{ps:List Str}{sp:Sp}{dvs:List V}{ds:List Value}{E:XK}{x m:Str}{p pos apos:Pos}{e o:Expr}{es:List Expr}{ta:TE}{t:TA}
theorem CM{pins:List (Addr×Obj)}{σ:St}{H:Hp}{s:Shared}{Q:VK}{us:List Value}{vs:List V}(F:a4 X.prog X.w X.K X.mg X.base CX k f fd ps sp)(hr:fZ k X.A)(hb:Binds X.K fd ps ds)(hd:Vals dvs ds)(hx:Passes CX X E)
  (I:Inv X pins σ H s)(r:Vals vs us)(h:sp (vs++dvs) H Q E):wpAny (model X.prog X.w) X.A (call (.ref f) us) (EP X pins σ Q) X.xe s:=by
 have r2:Vals (vs++dvs) (us++ds):=r.append hd;have hl:(us++ds).length=ps.length:=by rw[<-r2.length];exact F.len _ _ _ _ h
 refine wpAny_call (codeAny_mono (F.run X.A X.stack s H ⟨us,[]⟩ (us++ds) (vs++dvs) Q E hr I.K6 (hb s us I.qQ hl) r2 h) λr s' hq=>?_);cases r with
 |error e=>exact hx pins σ H s e s' I hq
 |ok fl=>
  cases fl with
  |ret u=>exact I.after hq
  |next=>exact False.elim hq
  |brk=>exact False.elim hq
  |cont=>exact False.elim hq
theorem JM(F:a4 X.prog X.w X.K X.mg X.base CX k f fd ps sp)(hr:fZ k X.A)(hg:Gl X x)(hm:X.mg x=some (.ref f))(hk:PySem.W.keepIn X.K (.ref f)=true)(hb:Binds X.K fd ps ds)(hd:Vals dvs ds)(hx:Passes CX X E)
  (ha:PA X (e::es) t)(hdb:(x==("__debug__":Str))=false:=by decide)(he:starEach (e::es) X.env=(false,eval e X.env)::starEach es X.env:=by rfl)(hpl:(backTo pos (starEach es X.env)).any (·.1)=false:=by rfl):
  PE X (.Call (.Name x p) (e::es) [] pos) (J3 sp dvs E t):=by
 intro pins s σ H Q I h;refine Re (l7 I hg hm ?_ hdb);refine R6 (h₀:=X.base) I.ok.mod.JX hk (dM (ha pos pins s σ H _ I h) λus s1⟨vs,H1,I1,r,q⟩=>⟨I1.qQ,?_⟩) he hpl;exact CM F hr hb hd hx I1 r q
theorem JO{pl:Sem Bool}(he:PE X o ta)(c:HC X.K C)(hm:Meth X.K C m f)(F:a4 X.prog X.w X.K X.mg X.base CX k f fd ps sp)(hr:fZ k X.A)(hb:Binds X.K fd ps ds)(hd:Vals dvs ds)(hx:Passes CX X E)(ha:PA X (e::es) t)
  (hst:starEach (e::es) X.env=(false,eval e X.env)::starEach es X.env:=by rfl)(hpl:(backTo pos (starEach es X.env)).any (·.1)=false:=by rfl)
  (ht:eval (.Call (.Attribute o m apos) (e::es) [] pos) X.env=(do
   let ov<-eval o X.env
   standAt apos.atName
   let(f,first)<-holding [ov] (getMethod ov m pl)
   callWith pos f first (backTo pos (starEach (e::es) X.env)) (backToKw pos (keywordEach [] X.env))):=by rfl):
  PE X (.Call (.Attribute o m apos) (e::es) [] pos) (EA C m sp dvs E ta t):=by
 intro pins s σ H Q I h;refine PySem.W.methodCall_KW (pl:=pl) (dM (he pins s σ H _ I h) λu s1⟨x,H1,I1,rx,a,dx,fs,ex,ea,l,q⟩=>?_) ht;subst ex;obtain rfl:u=Value.ref a:=rx;refine wk I1 ea c hm l ?_;refine R6 (first:=[.ref a]) (h₀:=X.base) I.ok.mod.JX hm.kp (dM (ha pos pins s1 σ H1 _ I1 q) λus s2⟨vs,H2,I2,r,q2⟩=>⟨I2.qQ,?_⟩) hst hpl;exact CM (us:= .ref a::us) (vs:= .ref a::vs) F hr hb hd hx I2 (.cons rfl r) q2
theorem HA{pl:Sem Bool}(he:PE X o ta)(c:HC X.K C)(hm:Meth X.K C m f)(F:a4 X.prog X.w X.K X.mg X.base CX k f fd ps sp)(hr:fZ k X.A)(hb:Binds X.K fd ps ds)(hd:Vals dvs ds)(hx:Passes CX X E)
  (ht:eval (.Call (.Attribute o m apos) [] [] pos) X.env=(do
   let ov<-eval o X.env
   standAt apos.atName
   let(f,first)<-holding [ov] (getMethod ov m pl)
   callWith pos f first (backTo pos (starEach [] X.env)) (backToKw pos (keywordEach [] X.env))):=by rfl):
  PE X (.Call (.Attribute o m apos) [] [] pos) (EA C m sp dvs E ta rQ):=by
 intro pins s σ H Q I h;refine PySem.W.methodCall_KW (pl:=pl) (dM (he pins s σ H _ I h) λu s1⟨x,H1,I1,rx,a,dx,fs,ex,ea,l,q⟩=>?_) ht;subst ex;obtain rfl:u=Value.ref a:=rx;refine wk I1 ea c hm l ?_;exact PySem.W.callWith_K0 (first:=[.ref a]) I1.qQ hm.kp (CM (us:=[.ref a]) (vs:=[.ref a]) F hr hb hd hx I1 (.cons rfl .nil) q)
structure Mk(K:PB)(C f:Addr):Prop where
 makes:PySem.W.makesIn K C=true
 init:PySem.W.findIn K (.ref C) "__init__"=some (some (.ref f))
 fn:PySem.W.isFn K (.ref f)=true
 kp:PySem.W.keepIn K (.ref C)=true
theorem Co{pins:List (Addr×Obj)}{σ:St}{H:Hp}{s:Shared}{Q:VK}{us:List Value}{vs:List V}(M:Mk X.K C f)(F:a4 X.prog X.w X.K X.mg X.base CX k f fd ps sp)(hr:fZ (k+1) X.A)(hb:Binds X.K fd ps ds)(hd:Vals dvs ds)
  (hx:Passes CX X E)(I:Inv X pins σ H s)(r:Vals vs us)
  (h:∀x dx,H x=none->H dx=none->dx≠x->sp (.ref x::(vs++dvs)) (upd (upd H dx (.own x)) x (.ins C dx [])) (λv H2=>v=.eB/\Q (.ref x) H2) E):
  wpAny (model X.prog X.w) X.A (call (.ref C) us) (EP X pins σ Q) X.xe s:=by
 have hq:=h (s.heap.objs.size+1) s.heap.objs.size (I.cE.fresh (Nat.le_succ _)) (I.cE.fresh (PF _)) (QC (Nat.lt_succ_self _));have I2:=Inv.made (C:=C) I;have r2:Vals (V.ref (s.heap.objs.size+1)::(vs++dvs)) (Value.ref (s.heap.objs.size+1)::(us++ds)):= .cons rfl (r.append hd);have hl:(Value.ref (s.heap.objs.size+1)::us++ds).length=ps.length:=by
  have e:=r2.length;rw[F.len _ _ _ _ hq]at e;exact e.symm
 refine wpAny_call (HN (f:=f) I.qQ M.makes M.init (QQ.mp M.fn) (codeAny_mono (F.run _ X.stack _ _ ⟨Value.ref (s.heap.objs.size+1)::us,[]⟩ (Value.ref (s.heap.objs.size+1)::(us++ds)) _ _ E (hr.make C us [])
  (I2.K6.make C us []) (hb _ (Value.ref (s.heap.objs.size+1)::us) I2.qQ hl) r2 hq) λr s' hq'=>?_))
 cases r with
 |error e=>exact hx pins σ _ _ e s' I2 hq'
 |ok fl=>
  cases fl with
  |ret u=>
   obtain⟨v,H',I3,rv,ev,q3⟩:=I2.after hq';subst ev;exact⟨rv,⟨V.ref (s.heap.objs.size+1),H',I3,rfl,q3⟩⟩
  |next=>exact False.elim hq'
  |brk=>exact False.elim hq'
  |cont=>exact False.elim hq'
theorem JQ(M:Mk X.K C f)(F:a4 X.prog X.w X.K X.mg X.base CX k f fd ps sp)(hr:fZ (k+1) X.A)(hg:Gl X x)(hm:X.mg x=some (.ref C))(hb:Binds X.K fd ps ds)(hd:Vals dvs ds)(hx:Passes CX X E)
  (ha:PA X (e::es) t)(hdb:(x==("__debug__":Str))=false:=by decide)(he:starEach (e::es) X.env=(false,eval e X.env)::starEach es X.env:=by rfl)(hpl:(backTo pos (starEach es X.env)).any (·.1)=false:=by rfl):
  PE X (.Call (.Name x p) (e::es) [] pos) (He C sp dvs E t):=by
 intro pins s σ H Q I h;refine Re (l7 I hg hm ?_ hdb);refine R6 (h₀:=X.base) I.ok.mod.JX M.kp (dM (ha pos pins s σ H _ I h) λus s1⟨vs,H1,I1,r,q⟩=>⟨I1.qQ,?_⟩) he hpl;exact Co M F hr hb hd hx I1 r q
theorem Bn(M:Mk X.K C f)(F:a4 X.prog X.w X.K X.mg X.base CX k f fd ps sp)(hr:fZ (k+1) X.A)(hg:Gl X x)(hm:X.mg x=some (.ref C))(hb:Binds X.K fd ps ds)(hd:Vals dvs ds)(hx:Passes CX X E)
  (hdb:(x==("__debug__":Str))=false:=by decide):PE X (.Call (.Name x p) [] [] pos) (He C sp dvs E rQ):=by
 intro pins s σ H Q I h;refine Re (l7 I hg hm ?_ hdb);exact PySem.W.callWith_K0 I.qQ M.kp (Co (us:=[]) M F hr hb hd hx I .nil h)
end
structure az(N P:List Str)(sc:Scope):Prop where
 kind:sc.kind=.function
 co:sc.isCoroutine=false
 gen:sc.isGenerator=false
 nd:N.Nodup
 pre:N.take P.length=P
 par:∀x∈P,sc.names.lookup x=some .local\/sc.names.lookup x=some .cell
 KW:∀y∈sc.names,y.2≠.free
theorem zu{kindOf:Str->Option NameKind}{x:Str}:∀{binds:List (Str×Value)}{m:Str->Option Value},(∀v,(x,v)∉binds)->bindL kindOf binds m x=m x
 |[],_,_=>rfl
 |(n,v)::r,m,h=>by
  unfold bindL;rw[zu λw hw=>h w (PY _ hw)];split
  ·have:x≠n:=by rintro rfl;exact h v PU
   simp[this]
  ·rfl
theorem zq{kindOf:Str->Option NameKind}{x:Str}:∀{binds:List (Str×Value)}{m:Str->Option Value},(∀v,(x,v)∉binds)->bindC kindOf binds m x=m x
 |[],_,_=>rfl
 |(n,v)::r,m,h=>by
  unfold bindC;rw[zq λw hw=>h w (PY _ hw)];split
  ·rfl
  ·have:x≠n:=by rintro rfl;exact h v PU
   simp[this]
theorem zr{kindOf:Str->Option NameKind}{x:Str}{v:Value}:∀{P:List Str}{vs:List Value}{i:Nat}{m:Str->Option Value},P.Nodup->P[i]? =some x->vs[i]? =some v->kindOf x=some .local->
  bindL kindOf (P.zip vs) m x=some v
 |[],_,_,_,_,h,_,_=>by simp at h
 |_::_,[],_,_,_,_,h,_=>by simp at h
 |p::P,w::vs,0,m,nd,h1,h2,hk=>by
  simp at h1 h2;subst h1;subst h2;show bindL kindOf ((p,w)::P.zip vs) m p=_;unfold bindL;rw[zu λv hv=>(R7.mp nd).1 (Q7 hv).1,Pz hk];simp
 |p::P,w::vs,i+1,m,nd,h1,h2,hk=>by
  show bindL kindOf ((p,w)::P.zip vs) m x=_;unfold bindL;exact zr (i:=i) (R7.mp nd).2 (by simpa using h1) (by simpa using h2) hk
theorem zy{kindOf:Str->Option NameKind}{x:Str}{v:Value}:∀{P:List Str}{vs:List Value}{i:Nat}{m:Str->Option Value},P.Nodup->P[i]? =some x->vs[i]? =some v->kindOf x≠some .local->
  bindC kindOf (P.zip vs) m x=some v
 |[],_,_,_,_,h,_,_=>by simp at h
 |_::_,[],_,_,_,_,h,_=>by simp at h
 |p::P,w::vs,0,m,nd,h1,h2,hk=>by
  simp at h1 h2;subst h1;subst h2;show bindC kindOf ((p,w)::P.zip vs) m p=_;unfold bindC;rw[zq λv hv=>(R7.mp nd).1 (Q7 hv).1,Py hk];simp
 |p::P,w::vs,i+1,m,nd,h1,h2,hk=>by
  show bindC kindOf ((p,w)::P.zip vs) m x=_;unfold bindC;exact zy (i:=i) (R7.mp nd).2 (by simpa using h1) (by simpa using h2) hk
def start(N:List Str)(vs:List V):St:=vs.map some++List.replicate (N.length-vs.length) none
def uA(CX:Ey)(P:Qw)(w:World)(K:PB)(mg:Str->Option Value)(base:Heap)(N:List Str)(qual:Str)(scope:Scope)(f:Addr)(cd:Value)(A:Around)(outer:List Env)(s:Shared)(H:Hp)(E:XK):Cx where
 prog:=P
 w:=w
 K:=K
 mg:=mg
 base:=base
 A:=A.deeper (envOfC qual scope s.heap.objs.size f cd)
 N:=N
 vz:=s
 MD:=H
 env:=envOfC qual scope s.heap.objs.size f cd
 outer:=outer
 stack:=envOfC qual scope s.heap.objs.size f cd::outer
 ex:=[]
 calm:=true
 fn:=λ_=>true
 pn:=[]
 xe:=λe s'=>wpAny (model P w) (A.deeper (envOfC qual scope s.heap.objs.size f cd)) (leaving (envOfC qual scope s.heap.objs.size f cd) e) (λ_ s''=>CX outer H s E e s'') (λe' s''=>CX outer H s E e' s'') s'
theorem Ch{sc:Scope}{n:Nat}{x:Str}(h:sc.names.lookup x=some .cell):∃c,(cellsFrom n sc.names []).lookup x=some c:=by
 have q:=PySem.W.cellsFrom_some sc.names n [] (.inl h);exact Option.isSome_iff_exists.mp q
theorem zF{CX:Ey}{P:Qw}{w:World}{K:PB}{mg:Str->Option Value}{base:Heap}{N ps:List Str}{qual:Str}{scope:Scope}{f:Addr}{cd:Value}{A:Around}{outer:List Env}{s s1:Shared}{H:Hp}{E:XK}{us:List Value}{vs:List V}
  (S:az N ps scope)(hd:A.handled=none)(e0:B3 P w K mg base A outer s H)(hl:vs.length=ps.length)(r:Vals vs us)
  (x:InCallC s s.heap.objs.size (bindL (envOfC qual scope s.heap.objs.size f cd).kindOf (ps.zip us) λ_=>none) (cellsFrom (s.heap.objs.size+1) scope.names []) (bindC (envOfC qual scope s.heap.objs.size f cd).kindOf (ps.zip us) λ_=>none) s1):
  Inv (uA CX P w K mg base N qual scope f cd A outer s H E) [] (start N vs) H s1:=by
 have hpl:ps.length<=N.length:=by have:=QI List.length S.pre;rw[Qt]at this;omega
 obtain⟨h1,tk,rfl,hk⟩:=x.done;have noA:∀b:Addr,b∉(uA CX P w K mg base N qual scope f cd A outer s H E).ex:=λb z=>absurd (show b∈([]:List Addr)from z) (by simp);refine⟨⟨e0.mod,S.kind,rfl,rfl,PF _,λy z c h1 h2=>?_,λy hy=>?_,λy c _ h=>?_,λ_=>hd,Around.frames_deeper e0.frames,.inr ⟨rfl,rfl⟩,λb z=>absurd z (noA b),e0.bs,e0.F5,λb _ _=>noA b,λb z=>absurd z (noA b),e0.rK,e0.Dd⟩,
  rfl,e0.bare,Un.kept hk,⟨_,x.toInCall.ns,λi y v h1 h2 h3=>?_⟩,λy c h=>⟨_,x.cell y c h⟩,e0.cE.fresh (PF _),λy c h=>?_,λp hp=>absurd (show p∈([]:List (Addr×Obj))from hp) (by simp),e0.cE.kept hk,?_⟩
 ·exact name_of_addr x.apart (QK h1) (QK h2)
 ·have hy:scope.names.lookup y=some .cell\/scope.names.lookup y=some .free:=hy
  rcases hy with hy|hy
  ·exact Ch hy
  ·exact absurd rfl (S.KW _ (QK hy))
 ·exact Nat.le_of_lt (x.above y c (QK h))
 ·have hi:i<vs.length:=by
   unfold start at h2
   by_cases hi:i<vs.length
   ·exact hi
   ·rw[RH (by simpa using hi)]at h2
    rw[Q2]at h2;split at h2<;>cases h2
  have ha:vs[i]? =some v:=by
   unfold start at h2;rw[RK (by simpa using hi),Qa]at h2;cases e:vs[i]? with
   |none=>rw[e]at h2;cases h2
   |some a=>rw[e]at h2;cases h2;rfl
  obtain⟨u,hu,rv⟩:=r.get ha;have hp:ps[i]? =some y:=by
   rw[<-S.pre,List.getElem?_take_of_lt (by omega)];exact h1
  have ndP:ps.Nodup:=by rw[<-S.pre];exact S.nd.sublist (List.take_sublist _ _)
  refine⟨u,rv,?_⟩;rcases S.par y (Ql hp)with k|k
  ·exact .inl ⟨k,zr ndP hp hu k⟩
  ·obtain⟨c,e⟩:=Ch (n:=s.heap.objs.size+1) k
   refine .inr ⟨.inl k,c,e,?_⟩;have q:=x.cell y c e;rw[zy ndP hp hu (by show scope.names.lookup y≠_;rw[k];decide)]at q;exact q
 ·exact e0.cE.fresh (Nat.le_of_lt (x.above y c (QK h)))
 ·unfold start
  show _=N.length;rw[P0,Px,Qx];omega
theorem Mg{CX:Ey}{P:Qw}{w:World}{K:PB}{mg:Str->Option Value}{base:Heap}{k:Nat}{f:Addr}{name qual:Str}{params:Arguments}{body:List Stmt}{scope:Scope}{dV kV doc pm cdv ct oc:Value}{an od:Option Addr}
  {osl:Array (Option Value)}{N ps:List Str}{sp:Sp}(lk:K.lookup f=some ⟨oc,od,.func (PySem.W.fnOf name qual params body scope dV kV doc pm an cdv ct),osl⟩)(hcd:PySem.W.codeIn K cdv qual=true)(S:az N ps scope)
  (len:∀vs H Q E,sp vs H Q E->vs.length=ps.length)
  (hbody:∀(A:Around)(outer:List Env)(s:Shared)(H:Hp)(vs:List V)(Q:VK)(E:XK),fZ k (A.deeper (envOfC qual scope s.heap.objs.size f cdv))->sp vs H Q E->
   ∃t,xx (uA CX P w K mg base N qual scope f cdv A outer s H E) body t/\t {nx:=λ_ H'=>Q .eB H',rt:=Q} (start N vs) H):
  a4 P w K mg base CX (k+1) f (PySem.W.fnOf name qual params body scope dV kV doc pm an cdv ct) ps sp:=by
 refine⟨len,λA outer s H args us vs Q E hr e0 hb r hsp=>?_⟩;have hl:=len _ _ _ _ hsp;have KX:K.In s.heap:=e0.mod.JX.keeps λb o e=>(e0.bs b o e).1;have lim:s.heap.NoLimit:=e0.mod.nolimit.keeps λb o e=>(e0.bs b o e).1;have hkind:∀y∈ps.zip us,scope.names.lookup y.1=some .local\/(scope.names.lookup y.1=some .cell/\((cellsFrom (s.heap.objs.size+1) scope.names []).lookup y.1).isSome=true):=λ⟨n,v⟩ hy=>by
  rcases S.par n (Q7 hy).1 with q|q
  ·exact .inl q
  ·exact .inr ⟨q,PySem.W.cellsFrom_some _ _ _ (.inl q)⟩
 refine codeAny_call_function hr.depth (KX _ _ lk) rfl S.co S.gen rfl (PySem.W.codeRec_of KX hcd) (hb _ _ _ _ ?_);refine wpAny_newFunctionEnv_cells S.kind hkind λenv he s1 x=>?_;subst he;refine⟨lim.keeps x.toInCall.keep,codeAny_func ?_⟩;obtain⟨t,ht,hq⟩:=hbody A outer s H vs Q E (hr.deeper _) hsp;have I:Inv (uA CX P w K mg base N qual scope f cdv A outer s H E) [] (start N vs) H s1:=zF S hr.hd e0 hl r x;refine Rc (ht [] s1 (start N vs) H _ I hq) (λfl s' hs=>?_) λe s' hs=>hs;have fin:∀{σ':St}{H':Hp}{v:V}{u:Value},Inv (uA CX P w K mg base N qual scope f cdv A outer s H E) [] σ' H' s'->RelV v u->Q v H'->CE outer P w H s Q u s':=
  λ{σ' H' v u} J rv q=>⟨v,H',J.os,J.bare,J.base,J.cE,rv,q⟩
 cases fl with
 |ret u=>
  obtain⟨v,σ',H',J,rv,q⟩:=hs;exact fin J rv q
 |next=>
  obtain⟨σ',H',J,q⟩:=hs;exact fin (v:=V.eB) (u:=Value.none) J rfl q
 |brk=>
  obtain⟨_,_,_,q⟩:=hs;exact False.elim q
 |cont=>
  obtain⟨_,_,_,q⟩:=hs;exact False.elim q
section
variable{X:Cx}{x:Str}{p pos:Pos}{e:Expr}{es:List Expr}{t:TA}{id T:String}{r:List V->Hp->VK->Prop}
def OV(r:List V->Hp->VK->Prop)(t:TA):TE:=λσ H Q=>t σ H λvs H1=>r vs H1 Q
theorem bt(hc:nj X (.builtin id) r)(hg:Gl X x)(hm:X.mg x=none)(hv:bootBuiltins x=some (.builtin id))(ha:PA X (e::es) t)(hn:x≠"__name__":=by decide)(hdb:(x==("__debug__":Str))=false:=by decide)
  (he:starEach (e::es) X.env=(false,eval e X.env)::starEach es X.env:=by rfl)(hpl:(backTo pos (starEach es X.env)).any (·.1)=false:=by rfl):PE X (.Call (.Name x p) (e::es) [] pos) (OV r t):=by
 intro pins s σ H Q I h;refine Re (uv I hg hm hv ?_ hn hdb);exact PyProof.Rows.callWith_builtin1 (dM (ha pos pins s σ H _ I h) λus s1⟨vs,H1,I1,r1,q1⟩=>hc pins s1 σ H1 vs us Q I1 r1 q1) he hpl
theorem ng(hc:nj X (.type T) r)(hg:Gl X x)(hm:X.mg x=none)(hv:bootBuiltins x=some (.type T))(ha:PA X (e::es) t)(hn:x≠"__name__":=by decide)(hdb:(x==("__debug__":Str))=false:=by decide)
  (he:starEach (e::es) X.env=(false,eval e X.env)::starEach es X.env:=by rfl)(hpl:(backTo pos (starEach es X.env)).any (·.1)=false:=by rfl):PE X (.Call (.Name x p) (e::es) [] pos) (OV r t):=by
 intro pins s σ H Q I h;refine Re (uv I hg hm hv ?_ hn hdb);exact Rk (dM (ha pos pins s σ H _ I h) λus s1⟨vs,H1,I1,r1,q1⟩=>hc pins s1 σ H1 vs us Q I1 r1 q1) he hpl
end
end L2
namespace HT
open PySem PyProof.Rows
section
variable{prog:Qw}{w:World}{A:Around}{E:Value->Shared->Prop}{s:Shared}
def jV(n d:Nat):Option Int->Nat
 |none=>d
 |some v=>if v<0 then(v+(n:Int)).toNat else min v.toNat n
theorem GP(n d:Nat):jV n d none=d:=rfl
theorem qi(n d k:Nat):jV n d (some (k:Int))=min k n:=by
 show(if(k:Int)<0 then((k:Int)+(n:Int)).toNat else min (k:Int).toNat n)=min k n;rw[Py (by omega),Qm]
theorem HR(n d:Nat)(hd:d<=n)(o:Option Int):jV n d o<=n:=by
 cases o with
 |none=>exact hd
 |some v=>
  show(if v<0 then(v+(n:Int)).toNat else min v.toNat n)<=n
  by_cases hv:v<0
  ·rw[Pz hv];omega
  ·rw[Py hv];exact Nat.min_le_right _ _
end
end HT
namespace L2
open PySem PySem.Spec PyProof.Rows
abbrev TO:=St->Hp->(Option Int->Hp->Prop)->Prop
def PO(X:Cx)(e:Option Expr)(t:TO):Prop:=
 ∀(pins:List (Addr×Obj))(s:Shared)(σ:St)(H:Hp)(Q:Option Int->Hp->Prop),Inv X pins σ H s->t σ H Q->
  wpAny (model X.prog X.w) X.A (evalPart e X.env) (λu s'=>∃o H',Inv X pins σ H' s'/\IsPart u o/\Q o H') X.xe s
def IQ:TO:=λ_ H Q=>Q none H
def Nl(t:TE):TO:=λσ H Q=>t σ H λx H1=>∃i,x=.int i/\Q (some i) H1
section
variable{X:Cx}{e:Expr}{te:TE}{lo hi:Option Expr}{tl th:TO}{pos p2:Pos}
theorem DQ:PO X none IQ:=by
 intro pins s σ H Q I h;rw[evalPart_none];exact Qv ⟨none,H,I,.none,h⟩
theorem l_(h:PE X e te):PO X (some e) (Nl te):=by
 intro pins s σ H Q I hw;rw[evalPart_some];refine dM (h pins s σ H _ I hw) λu s1⟨x,H1,I1,r1,q1⟩=>?_;obtain⟨i,rfl,q⟩:=q1;obtain⟨t,rfl⟩:=r1;exact⟨some i,H1,I1,.int i t,q⟩
def Nu(X:Cx)(r:V->Option Int->Option Int->Hp->VK->Prop):Prop:=
 ∀(pins:List (Addr×Obj))(s:Shared)(σ:St)(H:Hp)(x:V)(v vl vu:Value)(lo hi:Option Int)(sl:Addr)(Q:VK),Inv X pins σ H s->RelV x v->s.heap.IsSliceOf sl vl vu .none->IsPart vl lo->IsPart vu hi->r x lo hi H Q->
  ∃T id,typeLookup (.type T) "__getitem__"=pure (some (.builtin id))/\s.TypeIs v T/\wpAny (model X.prog X.w) X.A (getItem v (.ref sl)) (EP X pins σ Q) X.xe s
def OX(r:V->Option Int->Option Int->Hp->VK->Prop)(te:TE)(tl th:TO):TE:=λσ H Q=>te σ H λx H1=>tl σ H1 λl H2=>th σ H2 λu H3=>r x l u H3 Q
theorem oS{r:V->Option Int->Option Int->Hp->VK->Prop}(hr:Nu X r)(he:PE X e te)(hl:PO X lo tl)(hu:PO X hi th):PE X (.Subscript e (.Slice lo hi none p2) pos) (OX r te tl th):=by
 intro pins s σ H Q I h;refine Subscript_ (dM (he pins s σ H _ I h) λv s1⟨x,H1,I1,r1,q1⟩=>?_);refine wpAny_Slice (dM (hl pins s1 σ H1 _ I1 q1) λvl s2⟨l,H2,I2,pl,q2⟩=>dM (hu pins s2 σ H2 _ I2 q2) λvu s3⟨u,H3,I3,pu,q3⟩=>?_);rw[evalPart_none];refine Qv ?_;have I4:Inv X pins σ H3 {s3 with heap:=s3.heap.push {cls:= .type "slice",data:= .fields #[vl,vu,.none]}}:=I3.kept (t':=s3.toks) λb ob q=>Qi _ q;obtain⟨T,id,hT,ht,hg⟩:=hr pins {s3 with heap:=s3.heap.push {cls:= .type "slice",data:= .fields #[vl,vu,.none]}} σ H3 x v vl vu l u s3.heap.objs.size Q I4 r1 (Heap.IsSliceOf.new ..) pl pu q3;show wpAny (model X.prog X.w) X.A (subscriptTail e (.Slice lo hi none p2) v (.ref s3.heap.objs.size)) (EP X pins σ Q) X.xe {s3 with heap:=s3.heap.push {cls:= .type "slice",data:= .fields #[vl,vu,.none]}};exact tail_any (ops:=[.ref s3.heap.objs.size,v]) ht hT hg (by with_unfolding_all rfl)
def Ay(xs:List V)(lo hi:Option Int):List V:=(xs.drop (HT.jV xs.length 0 lo)).take (HT.jV xs.length xs.length hi-HT.jV xs.length 0 lo)
theorem Ct(xs:List V)(lo hi:Option Int):(Ay xs lo hi).length<=xs.length:=by
 unfold Ay;rw[Qt,Rw];omega
end
def Ix(n:Nat)(i:Int):Option Nat:=if 0<=i then(if i<n then some i.toNat else none)else if-(n:Int)<=i then some (i+n).toNat else none
def B7{α:Type}(xs:List α)(i:Int):Option α:=(Ix xs.length i).bind λj=>xs[j]?
theorem EC{n:Nat}{i:Int}{j:Nat}(h:Ix n i=some j):seqIndex? i n=some j/\j<n/\ -(n:Int)<=i/\i<n:=by
 unfold Ix at h
 by_cases h0:0<=i
 ·rw[Pz h0]at h
  by_cases h1:i<n
  ·rw[Pz h1]at h
   have e:i.toNat=j:=Qk h;exact⟨by rw[seqIndex_of h0 h1,e],by omega,by omega,h1⟩
  ·rw[Py h1]at h;cases h
 ·rw[Py h0]at h
  by_cases h1: -(n:Int)<=i
  ·rw[Pz h1]at h
   have e:(i+n).toNat=j:=Qk h;exact⟨by rw[seqIndex_neg (by omega) h1,e],by omega,h1,by omega⟩
  ·rw[Py h1]at h;cases h
theorem As{α:Type}{xs:List α}{i:Int}{v:α}(h:B7 xs i=some v):∃j,seqIndex? i xs.length=some j/\xs[j]? =some v/\j<xs.length/\ -(xs.length:Int)<=i/\i<xs.length:=by
 unfold B7 at h;cases e:Ix xs.length i with
 |none=>rw[e]at h;cases h
 |some j=>
  rw[e]at h;obtain⟨h1,h2,h3,h4⟩:=EC e;exact⟨j,h1,h,h2,h3,h4⟩
theorem IL{α:Type}{xs:List α}{j:Nat}{v:α}(h:xs[j]? =some v):B7 xs (j:Int)=some v:=by
 have hj:j<xs.length:=(PQ.mp h).1;have e:Ix xs.length (j:Int)=some j:=by
  unfold Ix;rw[Pz (by omega),Pz (by omega)];simp
 unfold B7;rw[e];exact h
def IN(b:Expr):Prop:=∀o i,subscripted b false o i=operate [o,i] (getItem o i)
def LR(X:Cx)(r:R2):Prop:=
 ∀(value slice:Expr)(pins:List (Addr×Obj))(s:Shared)(σ:St)(H:Hp)(x y:V)(v u:Value)(Q:VK),Inv X pins σ H s->RelV x v->RelV y u->r x y H Q->
  subscripted slice false v u=operate [v,u] (getItem v u)->wpAny (model X.prog X.w) X.A (subscriptTail value slice v u) (EP X pins σ Q) X.xe s
def MP(X:Cx)(id:String)(r:V->List V->Hp->VK->Prop):Prop:=
 ∀(pins:List (Addr×Obj))(s:Shared)(σ:St)(H:Hp)(x:V)(xs:List V)(v:Value)(us:List Value)(Q:VK),Inv X pins σ H s->RelV x v->Vals xs us->r x xs H Q->
  wpAny (model X.prog X.w) X.A (call (.builtin id) (v::us)) (EP X pins σ Q) X.xe s
section
variable{X:Cx}{a b:Expr}{ta tb:TE}{pos:Pos}
theorem bj{r:R2}(hr:LR X r)(ha:PE X a ta)(hb:PE X b tb)(hs:IN b):PE X (.Subscript a b pos) (NB r ta tb):=by
 intro pins s σ H Q I h;exact Subscript_ (KJ ha hb I h λv u s2 x y H2 I2 rx ry q=>hr a b pins s2 σ H2 x y v u Q I2 rx ry q (hs _ _))
inductive ML(K:PB)(x y:V)(H:Hp)(Q:VK):Prop
 |mk (p:Addr) (xs:List V) (i:Int) (v:V) (_:x=.ref p) (_:y=.int i) (_:a0 K H p xs) (_:B7 xs i=some v) (_:Q v H):ML K x y H Q
def LW(K:PB):R2:=λx y H Q=>ML K x y H Q
inductive MT(K:PB)(x y:V)(H:Hp)(Q:VK):Prop
 |mk (p:Addr) (xs:List V) (i:Int) (v:V) (_:x=.ref p) (_:y=.int i) (_:iP K H p xs) (_:B7 xs i=some v) (_:Q v H):MT K x y H Q
def MH(K:PB):R2:=λx y H Q=>MT K x y H Q
def Ov:R2:=λx y H Q=>∃z i c,x=.str z/\y=.int i/\z.length<=sizeLine/\B7 z.cps.toList i=some c/\Q (.str ⟨#[c]⟩) H
theorem a_:LR X (LW X.K):=by
 intro value slice pins s σ H x y v u Q I rx ry h hs;obtain⟨p,xs,i,z,rfl,rfl,hq,he,q⟩:=h;cases rx;obtain⟨t,rfl⟩:=ry;obtain⟨its,r,pl,hz⟩:=I.list hq;obtain⟨j,h1,h2,h3,h4,h5⟩:=As he;obtain⟨w,ew,rw'⟩:=r.get h2;have hl:=r.length;have hn:=uo;have fin:EP X pins σ Q w s:=⟨z,H,I,rw',q⟩
 by_cases h0:0<=i
 ·have hj:i.toNat=j:=by
   rw[seqIndex_of h0 h5]at h1;exact Qk h1
  exact item_listR pl.isList h0 (by omega) (by rw[hj];simpa using ew) fin hs
 ·have hj:(i+(its.toArray.size:Int)).toNat=j:=by
   rw[seqIndex_neg (by omega) h4]at h1;rw[Qn,<-hl];exact Qk h1
  exact subscriptTail_builtinR (x:=w) pl.isList.typeIs slot_list_getitem.lookup
   (wpAny_getItem_list_neg (Q:=λr s'=>r=w/\EP X pins σ Q r s') pl.isList (by omega) (by rw[Qn]<;>omega) (by omega) (by rw[hj];simpa using ew) ⟨rfl,fin⟩) hs
theorem ji:LR X (MH X.K):=by
 intro value slice pins s σ H x y v u Q I rx ry h hs;obtain⟨p,xs,i,z,rfl,rfl,hq,he,q⟩:=h;cases rx;obtain⟨t,rfl⟩:=ry;obtain⟨its,r,pl,hz⟩:=I.tuple hq;obtain⟨j,h1,h2,h3,h4,h5⟩:=As he;obtain⟨w,ew,rw'⟩:=r.get h2;have hl:=r.length;have hn:=uo;have fin:EP X pins σ Q w s:=⟨z,H,I,rw',q⟩;exact subscriptTail_builtinR (x:=w) pl.typeIs slot_tuple_getitem.lookup
  (getItem_tuple (j:=j) (Q:=λr s'=>r=w/\EP X pins σ Q r s') pl (by omega) (by omega) (by rw[Qn,<-hl];exact h1) (by simpa using ew) ⟨rfl,fin⟩) hs
theorem Ax:LR X Ov:=by
 intro value slice pins s σ H x y v u Q I rx ry h hs;obtain⟨z,i,c,rfl,rfl,hz,he,q⟩:=h;obtain⟨t,rfl⟩:=rx;obtain⟨t',rfl⟩:=ry;obtain⟨j,h1,h2,h3,h4,h5⟩:=As he;have hl:z.cps.toList.length=z.length:=by simp[Str.length]
 rw[hl]at h1 h4 h5;have hn:=uo;exact tail_any (typeIs_str s z t) slot_str_getitem.lookup (getItem_str (c:=c) (by
  have e1:decide (i< -(2^63:Int))=false:=Qr (by omega);have e2:decide (i≥2^63)=false:=Qr (by omega);rw[e1,e2,Bool.or_false]) (by rw[h1];simpa using h2) ⟨.str ⟨#[c]⟩,H,I.tok _,⟨_,rfl⟩,q⟩) hs
theorem C5(its:List Value)(n j:Nat)(u:Value):Obj.mapSeq (·.setIfInBounds j u) {cls:= .type "list",data:= .seq its.toArray n}={cls:= .type "list",data:= .seq (its.set j u).toArray n}:=by
 simp[Obj.mapSeq]
theorem Inv.lst{pins:List (Addr×Obj)}{σ:St}{H:Hp}{s:Shared}{p:Addr}{xs:List V}(I:Inv X pins σ H s)(h:H p=some (.lst xs)):
  ∃(its:List Value)(n:Nat),Vals xs its/\s.heap.get? p=some {cls:= .type "list",data:= .seq its.toArray n}/\xs.length<=sizeLine:=by
 obtain⟨z,its,n,r,e⟩:=I.cE p _ h;exact⟨its,n,r,e,z⟩
theorem Inv.Ln{pins:List (Addr×Obj)}{σ:St}{H:Hp}{s:Shared}{p:Addr}{xs ys:List V}{its its':List Value}{n n':Nat}{f:Obj->Obj}(I:Inv X pins σ H s)(h:H p=some (.lst xs))
  (ho:s.heap.get? p=some {cls:= .type "list",data:= .seq its.toArray n})(hf:f {cls:= .type "list",data:= .seq its.toArray n}={cls:= .type "list",data:= .seq its'.toArray n'})(r:Vals ys its')(hz:ys.length<=sizeLine)(t:Nat):
  Inv X pins σ (upd H p (.lst ys)) {s with heap:=s.heap.update p f,toks:=t}:=by
 have e:(s.heap.update p f).get? p=some {cls:= .type "list",data:= .seq its'.toArray n'}:=by
  rw[RD f ho (by rw[hf]<;>rfl),hf]
 refine I.write (x:=p) (e:=p) (by rw[h];trivial) (.inl rfl) (λb u hb q=>(Ra _ _ (PZ hb)).trans q) ⟨_,e⟩ ?_;exact⟨hz,its',n',r,e⟩
inductive JY(o i v:V)(H:Hp)(Q:Hp->Prop):Prop
 |mk (p:Addr) (xs:List V) (k:Int) (j:Nat) (_:o=.ref p) (_:i=.int k) (_:H p=some (.lst xs)) (_:Ix xs.length k=some j) (_:Q (upd H p (.lst (xs.set j v)))):JY o i v H Q
def Mp:V->V->V->Hp->(Hp->Prop)->Prop:=λo i v H Q=>JY o i v H Q
theorem set_list:MU X Mp:=by
 intro pins s σ H o i v ov iv u Q I ro ri rv h;obtain⟨p,xs,k,j,rfl,rfl,hp,hj,q⟩:=h;cases ro;obtain⟨t,rfl⟩:=ri;obtain⟨its,n,r,ho,hz⟩:=I.lst hp;obtain⟨h1,h2,h3,h4⟩:=EC hj;have hl:=r.length;have hn:=uo;have I':Inv X pins σ (upd H p (.lst (xs.set j v))) {s with heap:=s.heap.update p (Obj.mapSeq (·.setIfInBounds j u))}:=
  I.Ln hp ho (C5 its n j u) (r.set rv j) (by rw[Rl];exact hz) s.toks
 by_cases h0:0<=k
 ·have hk:k.toNat=j:=by
   rw[seqIndex_of h0 h4]at h1;exact Qk h1
  exact PySem.W.ki_setAt ho h0 (by omega) (by rw[Qn,<-hl];exact h4) (by rw[hk];exact⟨_,I',q⟩)
 ·have hk:(k+(its.toArray.size:Int)).toNat=j:=by
   rw[seqIndex_neg (by omega) h3]at h1;rw[Qn,<-hl];exact Qk h1
  exact PySem.W.ki_setBack ho (by omega) (by rw[Qn,<-hl];exact h3) (by omega) (by rw[hk];exact⟨_,I',q⟩)
theorem Ai(lo hi:Option Int)(n:Nat):(sliceBounds lo hi none n).1=((HT.jV n 0 lo:Nat):Int)/\(sliceBounds lo hi none n).2.1=((HT.jV n n hi:Nat):Int)/\(sliceBounds lo hi none n).2.2=1:=by
 refine⟨?_,?_,rfl⟩
 ·cases lo with
  |none=>simp[sliceBounds,HT.jV]
  |some i=>
   simp only[sliceBounds,HT.jV,Option.getD_none,show(1:Int)>0 by decide,if_true]
   by_cases h:i<0
   ·simp only[h,if_true]<;>omega
   ·simp only[h,if_false]<;>omega
 ·cases hi with
  |none=>simp[sliceBounds,HT.jV]
  |some i=>
   simp only[sliceBounds,HT.jV,Option.getD_none,show(1:Int)>0 by decide,if_true]
   by_cases h:i<0
   ·simp only[h,if_true]<;>omega
   ·simp only[h,if_false]<;>omega
theorem yN(its:List Value)(lo hi:Option Int):slicePick its.toArray lo hi none=((its.drop (HT.jV its.length 0 lo)).take (HT.jV its.length its.length hi-HT.jV its.length 0 lo)).toArray:=by
 obtain⟨h1,h2,h3⟩:=Ai lo hi its.toArray.size;unfold slicePick;rw[h1,h2,h3];simp only[sliceRange_one,pick_run,Qn]<;>rfl
def Mw(K:PB):V->Option Int->Option Int->Hp->VK->Prop:=λx lo hi H Q=>∃a xs,x=.ref a/\a0 K H a xs/\∀p,H p=none->Q (.ref p) (upd H p (.lst (Ay xs lo hi)))
theorem Ek:Nu X (Mw X.K):=by
 intro pins s σ H x v vl vu lo hi sl Q I rx hs pl pu h;obtain⟨a,xs,rfl,hx,q⟩:=h;cases rx;obtain⟨its,r,ht,hz⟩:=I.list hx;have hlen:=r.length;refine⟨"list",_,slot_list_getitem.lookup,ht.isList.typeIs,?_⟩;refine wpAny_getItem_list_slice ht.isList hs pl pu .none (by simp) ?_ (by rw[Qn]<;>omega);rw[yN,<-hlen];refine⟨.ref s.heap.objs.size,_,I.laid (t':=s.toks) (o:= .lst (Ay xs lo hi)) (λb ob q=>Qi _ q) (PF _) ?_,rfl,q _ (I.cE.fresh (PF _))⟩;exact⟨Qq (Ct xs lo hi) hz,_,0,(r.drop (HT.jV xs.length 0 lo)).take (HT.jV xs.length xs.length hi-HT.jV xs.length 0 lo),QE _ rfl⟩
def ka:V->Bool
 |.eB=>true
 |.bl _=>true
 |.int _=>true
 |.str _=>true
 |_=>false
def EF:V->V->Bool
 |.eB,.eB=>true
 |.bl a,.bl b=>a==b
 |.bl a,.int b=>(if a then 1 else 0)==b
 |.int a,.bl b=>a==(if b then 1 else 0)
 |.int a,.int b=>a==b
 |.str a,.str b=>a==b
 |_,_=>false
theorem Lj{A:Around}{s:Shared}{y x:V}{u v:Value}(ry:RelV y u)(rx:RelV x v)(fy:ka y=true)(fx:ka x=true):SeqAt.EqAt A s u v (EF y x):=by
 cases y with
 |eB=>
  cases ry;cases x with
  |eB=>cases rx;exact SeqAt.EqAt.same _
  |bl b=>cases rx;exact SeqAt.EqAt.none_bool b
  |int b=>obtain⟨t,rfl⟩:=rx;exact SeqAt.EqAt.none_int b t
  |str b=>obtain⟨t,rfl⟩:=rx;exact SeqAt.EqAt.none_str b t
  |_=>exact absurd (show false=true from fx) PM
 |bl a=>
  cases ry;cases x with
  |eB=>cases rx;exact SeqAt.EqAt.bool_none a
  |bl b=>cases rx;exact SeqAt.EqAt.bool_bool a b
  |int b=>obtain⟨t,rfl⟩:=rx;exact SeqAt.EqAt.bool_int a b t
  |str b=>obtain⟨t,rfl⟩:=rx;exact SeqAt.EqAt.bool_str a b t
  |_=>exact absurd (show false=true from fx) PM
 |int a=>
  obtain⟨t',rfl⟩:=ry;cases x with
  |eB=>cases rx;exact SeqAt.EqAt.int_none a t'
  |bl b=>cases rx;exact SeqAt.EqAt.int_bool a t' b
  |int b=>obtain⟨t,rfl⟩:=rx;exact SeqAt.EqAt.int_int a t' b t
  |str b=>obtain⟨t,rfl⟩:=rx;exact SeqAt.EqAt.int_str a t' b t
  |_=>exact absurd (show false=true from fx) PM
 |str a=>
  obtain⟨t',rfl⟩:=ry;cases x with
  |eB=>cases rx;exact SeqAt.EqAt.str_none a t'
  |bl b=>cases rx;exact SeqAt.EqAt.str_bool a t' b
  |int b=>obtain⟨t,rfl⟩:=rx;exact SeqAt.EqAt.str_int a t' b t
  |str b=>obtain⟨t,rfl⟩:=rx;exact SeqAt.EqAt.str_str a t' b t
  |_=>exact absurd (show false=true from fx) PM
 |_=>exact absurd (show false=true from fy) PM
def Iq(x:V)(u:Value):Bool:=match u with
 |.none=>EF .eB x
 |.bool b=>EF (.bl b) x
 |.int i _=>EF (.int i) x
 |.str z _=>EF (.str z) x
 |_=>false
theorem tT{x y:V}{u:Value}(r:RelV y u)(f:ka y=true):Iq x u=EF y x:=by
 cases y with
 |eB=>cases r;rfl
 |bl b=>cases r;rfl
 |int i=>obtain⟨t,rfl⟩:=r;rfl
 |str z=>obtain⟨t,rfl⟩:=r;rfl
 |_=>exact absurd (show false=true from f) PM
theorem AF{x:V}:∀{xs:List V}{us:List Value},Vals xs us->xs.all ka=true->us.any (Iq x)=xs.any λy=>EF y x
 |_,_,.nil,_=>rfl
 |y::xs,u::us,.cons r t,f=>by
  rw[List.all_cons,P4]at f;rw[RI,RI,tT r f.1,AF t f.2]
theorem pB{A:Around}{s:Shared}{x:V}{v:Value}(rx:RelV x v)(fx:ka x=true):∀{xs:List V}{us:List Value},Vals xs us->xs.all ka=true->∀u∈us,SeqAt.EqAt A s u v (Iq x u)
 |_,_,.nil,_=>λu hu=>by cases hu
 |y::xs,u::us,.cons r t,f=>λu' hu=>by
  rw[List.all_cons,P4]at f;rcases Qh.mp hu with rfl|hu
  ·rw[tT r f.1];exact Lj r rx f.1 fx
  ·exact pB rx fx t f.2 u' hu
def Le(x:V)(xs:List V):Bool:=xs.any λy=>EF y x
inductive OK(K:PB)(neg:Bool)(x y:V)(H:Hp)(Q:VK):Prop
 |mk (p:Addr) (xs:List V) (_:y=.ref p) (_:(a0 K H p xs\/iP K H p xs)) (_:ka x=true) (_:xs.all ka=true) (_:Q (.bl (if neg then !Le x xs else Le x xs)) H):OK K neg x y H Q
def Pl(K:PB)(neg:Bool):R2:=λx y H Q=>OK K neg x y H Q
theorem FZ:vo X (compareOp .In) (Pl X.K false):=by
 intro pins s σ H x y v u Q I rx ry h;obtain⟨p,xs,rfl,hq,fx,fs,q⟩:=h;cases ry;rcases hq with hq|hq
 ·obtain⟨its,r,pl,hz⟩:=I.list hq
  refine SeqAt.in_listAt (Iq x) pl.isList (λw hw=>pB rx fx r fs w (by simpa using hw)) ⟨.bl _,H,I,rfl,?_⟩;rw[show its.toArray.any (Iq x)=its.any (Iq x) by simp,AF r fs];exact q
 ·obtain⟨its,r,pl,hz⟩:=I.tuple hq
  refine SeqAt.in_tupleAt (Iq x) pl (λw hw=>pB rx fx r fs w (by simpa using hw)) ⟨.bl _,H,I,rfl,?_⟩;rw[show its.toArray.any (Iq x)=its.any (Iq x) by simp,AF r fs];exact q
theorem bN:nj X (.builtin "len") (λxs H Q=>∃p ys,xs=[.ref p]/\(a0 X.K H p ys\/iP X.K H p ys)/\Q (.int ys.length) H):=by
 intro pins s σ H xs us Q I r h;obtain⟨p,ys,rfl,hq,q⟩:=h;obtain⟨u,rfl,rx⟩:=vals1 r;cases rx;have hn:=uo;rcases hq with hq|hq
 ·obtain⟨its,r',pl,hz⟩:=I.list hq
  have hlen:=r'.length;exact Calls.call_len_list pl.isList (by simp only[Qn]<;>omega) ⟨.int ys.length,H,I.tok _,⟨s.toks+1,by rw[Qn,hlen]⟩,q⟩
 ·obtain⟨its,r',pl,hz⟩:=I.tuple hq
  have hlen:=r'.length;exact len_tuple pl (by simp only[Qn]<;>omega) ⟨.int ys.length,H,I.tok _,⟨s.toks+1,by rw[Qn,hlen]⟩,q⟩
theorem Aa:nj X (.builtin "len") (λxs H Q=>∃z,xs=[.str z]/\z.length<=sizeLine/\Q (.int z.length) H):=by
 intro pins s σ H xs us Q I r h;obtain⟨z,rfl,hz,q⟩:=h;obtain⟨u,rfl,t,rfl⟩:=vals1 r;have hn:=uo;exact len_str (by omega) ⟨.int z.length,H,I.tok _,⟨_,rfl⟩,q⟩
theorem sy:nj X (.type "list") (λxs H Q=>∃p ys,xs=[.ref p]/\(a0 X.K H p ys\/iP X.K H p ys)/\∀l,H l=none->Q (.ref l) (upd H l (.lst ys))):=by
 intro pins s σ H xs us Q I r h;obtain⟨p,ys,rfl,hq,q⟩:=h;obtain⟨u,rfl,rx⟩:=vals1 r;cases rx;have fin:∀(its:List Value),Vals ys its->ys.length<=sizeLine->∀(h':Heap)(c':Nat),(∀b o',s.heap.get? b=some o'->h'.get? b=some o')->
   h'.get? s.heap.objs.size=some {cls:= .type "list",dict:=none,data:= .seq its.toArray c',slots:=#[]}->EP X pins σ Q (.ref s.heap.objs.size) {s with heap:=h'}:=λits r' hz h' c' kp e=>
  ⟨.ref s.heap.objs.size,_,I.laid (t':=s.toks) kp (PF _) (show dH X.prog X.w _ h' _ (.lst ys)from⟨hz,its,c',r',e⟩),rfl,q _ (I.cE.fresh (PF _))⟩
 rcases hq with hq|hq
 ·obtain⟨its,r',pl,hz⟩:=I.list hq
  have hlen:=r'.length;obtain⟨o,ho,hc,n,hd⟩:=pl.isList;exact call_list_seq p (.inl rfl) ho hc hd (λh' c' kp e=>fin its r' hz h' c' kp e) (by simp only[Qn]<;>omega)
 ·obtain⟨its,r',pl,hz⟩:=I.tuple hq
  have hlen:=r'.length;obtain⟨o,ho,hc,n,hd⟩:=pl;exact call_list_seq p (.inr rfl) ho hc hd (λh' c' kp e=>fin its r' hz h' c' kp e) (by simp only[Qn]<;>omega)
def OM(K:PB)(T:String)(x:V)(H:Hp):Prop:=match x with
 |.str _=>T="str"
 |.int _=>T="int"
 |.ref p=>(T="list"/\∃xs,a0 K H p xs)\/(T="tuple"/\∃o,K.lookup p=some o/\o.cls=.type "tuple"/\o.dict=none)\/
   (T="dict"/\((∃kvs,H p=some (.dK kvs))\/∃kvs,H p=some (.dT kvs)))\/(T="set"/\∃S n,H p=some (.set S n))
 |_=>False
theorem KN{pins:List (Addr×Obj)}{σ:St}{H:Hp}{s:Shared}{T:String}{x:V}{v:Value}(I:Inv X pins σ H s)(r:RelV x v)(ty:OM X.K T x H):
  s.TypeIs v T/\∀a,v=.ref a->∃ob,s.heap.get? a=some ob/\ob.dict=none:=by
 cases x with
 |str z=>
  obtain⟨t,rfl⟩:=r;cases(show T="str" from ty);exact⟨typeIs_str s z t,λ_ e=>nomatch e⟩
 |int i=>
  obtain⟨t,rfl⟩:=r;cases(show T="int" from ty);exact⟨typeIs_int s i t,λ_ e=>nomatch e⟩
 |ref p=>
  cases r;rcases ty with⟨rfl,xs,hq⟩|⟨rfl,o,hk,hc,hd⟩|⟨rfl,hk⟩|⟨rfl,S,n,hk⟩
  ·obtain⟨its,_,pl,_⟩:=I.list hq
   refine⟨pl.isList.typeIs,λa e=>?_⟩;cases e;obtain⟨o,n,e,c,hd,_⟩:=pl;exact⟨o,e,hd⟩
  ·refine⟨⟨o,I.qQ p o hk,hc⟩,λa e=>?_⟩
   cases e;exact⟨o,I.qQ _ o hk,hd⟩
  ·have z:∃o,s.heap.get? p=some o/\o.ExactDict:=by
    rcases hk with⟨kvs,hk⟩|⟨kvs,hk⟩
    ·obtain⟨_,_,_,_,o,_,_,e,ex,_⟩:=I.cE p _ hk
     exact⟨o,e,ex⟩
    ·obtain⟨_,_,_,_,o,_,_,e,ex,_⟩:=I.cE p _ hk
     exact⟨o,e,ex⟩
   obtain⟨o,e,ex⟩:=z;refine⟨⟨o,e,ex.1⟩,λa e2=>?_⟩;cases e2;exact⟨o,e,ex.2.1⟩
  ·obtain⟨o,_,_,_,e,ex,_⟩:=I.cE p _ hk
   refine⟨⟨o,e,ex.1⟩,λa e2=>?_⟩;cases e2;exact⟨o,e,ex.2.1⟩
 |_=>exact False.elim ty
def O1(K:PB)(T:String)(r:V->List V->Hp->VK->Prop)(to:TE)(t:TA):TE:=λσ H Q=>to σ H λx H1=>OM K T x H1/\t σ H1 λxs H2=>r x xs H2 Q
variable{o e:Expr}{es:List Expr}{to:TE}{t:TA}{name:Str}{apos cpos:Pos}{T id:String}{r:V->List V->Hp->VK->Prop}
theorem jg(pa:PlainAttrs T)(slot:Slot T name id)(hty:typeOf (.builtin id)=pure (.type "method_descriptor"))(hm:MP X id r)(ho:PE X o to)(ha:PA X (e::es) t)
  (hbase:attributeBase o name X.env (eval o X.env)=eval o X.env:=by rfl)
  (hfew:((backTo cpos (starEach (e::es) X.env)).all (λx=> !x.1)&&(backToKw cpos (keywordEach [] X.env)).all (λx=>x.1.isSome)
   &&decide ((e::es).length+([]:List Keyword).length+(if([]:List Keyword).isEmpty then 0 else 1)<30))=true:=by rfl)
  (hline:(apos.endLine==cpos.line)=true:=by rfl)(hs:starEach (e::es) X.env=(false,eval e X.env)::starEach es X.env:=by rfl)(hplain:(backTo cpos (starEach es X.env)).any (·.1)=false:=by rfl):
  PE X (.Call (.Attribute o name apos) (e::es) [] cpos) (O1 X.K T r to t):=by
 intro pins s σ H Q I h;refine wpAny_Call_method_late hbase hfew hline rfl (dM (ho pins s σ H _ I h) λv s1⟨x,H1,I1,r1,ty,q1⟩=>?_);obtain⟨h1,h2⟩:=KN I1 r1 ty;refine⟨T,id,pa,slot,hty,h1,h2,?_⟩;have hA:=ha cpos pins s1 σ H1 _ I1 q1;rw[hs]at hA ⊢;refine Calls.callWith_builtin (by show(false||(backTo cpos (starEach es X.env)).any (·.1))=false;rw[hplain]<;>rfl) (Calls.evalArgs_plain ?_);exact dM hA λus s2⟨vs,H2,I2,r2,q2⟩=>hm pins s2 σ H2 x vs v us Q I2 r1 r2 q2
end
def OU(X:Cx)(id:String)(r:V->List V->Hp->VK->Prop):Prop:=
 ∀(pins:List (Addr×Obj))(s:Shared)(σ:St)(H:Hp)(x:V)(xs:List V)(v:Value)(us:List Value)(Q:VK),Inv X pins σ H s->RelV x v->Vals xs us->r x xs H Q->
  wpAny (model X.prog X.w) X.A (call (.builtin id) (v::us)) (EP X pins σ Q) X.xe s
theorem Vals.one:∀{x:V}{us:List Value},Vals [x] us->∃u,us=[u]/\RelV x u
 |_,_,.cons r .nil=>⟨_,rfl,r⟩
section
variable{X:Cx}{pins:List (Addr×Obj)}{σ:St}{H:Hp}{s:Shared}{l b:Addr}{xs ys zs:List V}
theorem Inv.Nf{its its':List Value}{n:Nat}{f:Array Value->Array Value}{t':Nat}(I:Inv X pins σ H s)(hH:H l=some (.lst xs))
  (e:s.heap.get? l=some {cls:= .type "list",data:= .seq its.toArray n})(hf:f its.toArray=its'.toArray)(hv:Vals ys its')(hz:ys.length<=sizeLine):
  Inv X pins σ (upd H l (.lst ys)) {s with heap:=s.heap.update l (Obj.mapSeq f),toks:=t'}:=by
 have q:=PySem.IsL.update e f;rw[hf]at q;refine I.write (x:=l) (e:=l) (by rw[hH];exact trivial) (.inl rfl) (λb' u hb hu=>(Ra s.heap (Obj.mapSeq f) (PZ hb)).trans hu) ⟨_,q⟩ ?_;exact⟨hz,its',_,hv,q⟩
theorem Inv.NX{its:List Value}{t':Nat}(I:Inv X pins σ H s)(hv:Vals ys its)(hz:ys.length<=sizeLine):
  Inv X pins σ (upd H s.heap.objs.size (.lst ys)) {s with heap:=s.heap.push {cls:= .type "list",data:= .seq its.toArray},toks:=t'}:=
 I.laid (λ_ _ q=>Qi _ q) (PF _) ⟨hz,its,0,hv,QE _ rfl⟩
theorem Inv.fresh(I:Inv X pins σ H s):H s.heap.objs.size=none:=I.cE.fresh (PF _)
theorem Inv.Il(I:Inv X pins σ H s)(hH:H l=some (.lst xs)):xs.length<=sizeLine/\∃(its:List Value)(n:Nat),Vals xs its/\xs.length=its.length/\s.heap.get? l=some {cls:= .type "list",data:= .seq its.toArray n}:=by
 obtain⟨z,its,n,r,e⟩:=I.cE l _ hH;exact⟨z,its,n,r,r.length,e⟩
theorem HM{n:Nat}(h:n<=sizeLine):Builtin.List.listTooLong n=false:=by
 unfold Builtin.List.listTooLong;exact Qr (by omega)
end
section
variable{X:Cx}
inductive Mm(x:V)(vs:List V)(H:Hp)(Q:VK):Prop
 |mk (l:Addr) (xs:List V) (y:V) (_:x=.ref l) (_:vs=[y]) (_:H l=some (.lst xs)) (_:xs.length<sizeLine) (_:Q .eB (upd H l (.lst (xs++[y])))):Mm x vs H Q
def Jj:V->List V->Hp->VK->Prop:=λx vs H Q=>Mm x vs H Q
theorem gm:OU X "list.append" Jj:=by
 intro pins s σ H x vs v us Q I rx rv h;obtain⟨l,xs,y,rfl,rfl,hH,hz,q⟩:=h;cases rx;obtain⟨u,rfl,ru⟩:=rv.one;obtain⟨z,its,n,r,hl,e⟩:=I.Il hH;refine call_meets F.slot_list_append ⟨_,e,rfl⟩ F.entry_list_append (F.args_list_append_2 _ _) (PySem.list_append l its.toArray n u (by rw[Qn];omega)) ⟨e,?_⟩;refine⟨.eB,_,I.Nf (its':=its++[u]) hH e (by simp) (r.append (.cons ru .nil)) ?_,rfl,q⟩;rw[P0,QF];omega
def Jb:V->List V->Hp->VK->Prop:=λx vs H Q=>∃l b xs zs,x=.ref l/\vs=[.ref b]/\H l=some (.lst xs)/\H b=some (.lst zs)/\xs.length+zs.length<=sizeLine/\Q .eB (upd H l (.lst (xs++zs)))
theorem kI:OU X "list.extend" Jb:=by
 intro pins s σ H x vs v us Q I rx rv h;obtain⟨l,b,xs,zs,rfl,rfl,hH,hB,hz,q⟩:=h;cases rx;obtain⟨u,rfl,ru⟩:=rv.one;cases ru;obtain⟨z,its,n,r,hl,e⟩:=I.Il hH;obtain⟨z2,its2,n2,r2,hl2,e2⟩:=I.Il hB;have hsz:its.toArray.size+its2.toArray.size<=sizeLine:=by rw[Qn,Qn];omega
 have hlong:¬(!its.toArray.isEmpty&&Builtin.List.listTooLong (its.toArray.size+its2.toArray.size))=true:=by
  rw[HM hsz,Bool.and_false];exact PM
 refine call_meets F.slot_list_extend ⟨_,e,rfl⟩ F.entry_list_extend (F.args_list_extend_2 _ _)
  (AutoSeq1.list_extend_list_list_0 l its.toArray n b its2.toArray n2 hlong (by rw[Qn];omega) (by omega)) ⟨e,e2,?_⟩
 refine⟨.eB,_,I.Nf (its':=its++its2) hH e (by simp) (r.append r2) ?_,rfl,q⟩;rw[P0];omega
def Ol:R2:=λx y H Q=>∃l b xs zs,x=.ref l/\y=.ref b/\H l=some (.lst xs)/\H b=some (.lst zs)/\xs.length+zs.length<=sizeLine/\∀p,H p=none->Q (.ref p) (upd H p (.lst (xs++zs)))
theorem pH:vo X (binaryOp .Add) Ol:=by
 intro pins s σ H x y v u Q I rx ry h;obtain⟨l,b,xs,zs,rfl,rfl,hH,hB,hz,q⟩:=h;cases rx;cases ry;obtain⟨z,its,n,r,hl,e⟩:=I.Il hH;obtain⟨z2,its2,n2,r2,hl2,e2⟩:=I.Il hB;refine PySem.P.add_list e e2 ?_ (by rw[Qn,Qn];omega);have ea:its.toArray++its2.toArray=(its++its2).toArray:=by simp
 rw[ea];exact⟨.ref _,_,I.NX (t':=s.toks) (r.append r2) (by rw[P0];omega),rfl,q _ I.fresh⟩
end
theorem Vals.ints:∀{ns:List Int}{us:List Value},Vals (ns.map V.int) us->IntsAre us ns
 |[],us,h=>by
  rw[List.map_nil]at h;cases h;exact IntsAre.nil
 |n::ns,us,h=>by
  rw[QD]at h;cases h with
  |cons r t=>
   obtain⟨k,rfl⟩:=r;exact IntsAre.cons n k (Vals.ints t)
theorem sB:∀{us:List Value}{ns:List Int},IntsAre us ns->Vals (ns.map V.int) us
 |_,_,.nil=>by rw[List.map_nil];exact Paired.nil
 |_,_,.cons n t h=>by rw[QD];exact Paired.cons (show RelV (V.int n) (Value.int n t)from⟨t,rfl⟩) (sB h)
theorem Vals.NN:∀{bs:List Bool}{us:List Value},Vals (bs.map V.bl) us->us=bs.map Value.bool
 |[],us,h=>by
  rw[List.map_nil]at h;cases h;rfl
 |b::bs,us,h=>by
  rw[QD]at h;cases h with
  |cons r t=>
   cases r;rw[Vals.NN t,QD]
theorem Vals.IT{a:Addr}{us:List Value}(r:Vals [V.ref a] us):us=[Value.ref a]:=by
 cases r with
 |cons r t=>
  cases t;cases r;rfl
section
variable{prog:Qw}{w:World}{A:Around}{E:Value->Shared->Prop}{s:Shared}{l:Addr}{its:List Value}{ns:List Int}{Q:Value->Shared->Prop}
theorem IR(hh:A.handled=none)(hl:s.heap.IsList l its.toArray)(hi:IntsAre its ns)
  (h:∀h' tk t',(∀b o,s.heap.get? b=some o->h'.get? b=some o)->Q (.int ns.sum t') {s with heap:=h',toks:=tk}):wpAny (model prog w) A (call (.builtin "sum") [.ref l]) Q E s:=by
 obtain⟨xs,e⟩:=hi.allInts.items;have hn:numsOf (intItems xs).toList=ns:=by rw[<-e];exact hi.numsOf
 rw[nums_intItems]at hn;rw[e]at hl;refine PySem.sum_intListG hh hl λh' tk t' hk=>?_;have:=h h' tk t' hk;rw[preSum_eq,Qp (by simp),hn];exact this
end
section
variable{X:Cx}
def OD(K:PB):List V->Hp->VK->Prop:=λvs H Q=>∃(a:Addr)(ns:List Int),vs=[V.ref a]/\a0 K H a (ns.map V.int)/\Q (.int ns.sum) H
theorem Dj(hc:X.calm=true):nj X (.builtin "sum") (OD X.K):=by
 intro pins s σ H vs us Q I r h;obtain⟨a,ns,rfl,hs,q⟩:=h;obtain⟨its,rv,hl,_⟩:=I.list hs;rw[Vals.IT r];exact IR (I.ok.hd hc) hl.isList rv.ints λh' tk t' hk=>⟨.int _,H,I.kept hk,⟨_,rfl⟩,q⟩
end
section
variable{X:Cx}
def Kx(K:PB):V->List V->Hp->VK->Prop:=λx xs H Q=>∃(a:Addr)(ys:List V)(y:V)(j:Nat)(z:V),x=V.ref a/\xs=[y]/\a0 K H a ys/\ka y=true/\ys.all ka=true/\ys[j]? =some z/\EF z y=true/\
 (∀(m:Nat)(z':V),m<j->ys[m]? =some z'->EF z' y=false)/\Q (.int (j:Nat)) H
theorem vR{ys:List V}(f:ys.all ka=true){j:Nat}{z:V}(h:ys[j]? =some z):ka z=true:=Rg.mp f z (Ql h)
theorem HX:MP X "list.index" (Kx X.K):=by
 intro pins s σ H x xs v us Q I rx rxs h;obtain⟨a,ys,y,j,z,rfl,rfl,hs,fy,fys,hz,hzj,hno,q⟩:=h;cases rx;cases rxs with
 |cons ry rt=>
  rename_i uy ut
  cases rt;obtain⟨its,rv,⟨⟨cls,dd,data,sl⟩,n,ho,hc,hdn,hd⟩,hlen⟩:=I.list hs;simp only at hc hd;subst hc hd;obtain⟨u,hu,ru⟩:=rv.get hz;obtain⟨hjl,hje⟩:=PQ.mp hu;have hvl:=rv.length;have hj:j<its.toArray.size:=by simpa using hjl
  have hsl:=PL;refine call_meets PySem.F.slot_list_index ⟨_,ho,rfl⟩ PySem.F.entry_list_index (PySem.F.args_list_index_2 _ _)
   (SeqAt.list_indexAt a its.toArray n dd sl uy (Iq y) j hj (by omega) ?_ ?_) ⟨ho,λu' hu'=>pB ry fy rv fys u' (by simpa using hu'),?_⟩
  ·have e1:its.toArray[j]=u:=by simpa using hje
   rw[e1,tT ru (vR fys hz)];exact hzj
  ·intro m hm hmj
   have hml:m<its.length:=by simpa using hm
   have hmy:m<ys.length:=by omega
   have hy':ys[m]? =some ys[m]:=PD hmy;obtain⟨u2,hu2,ru2⟩:=rv.get hy';obtain⟨_,hme⟩:=PQ.mp hu2;have e1:its.toArray[m]=u2:=by simpa using hme
   rw[e1,tT ru2 (vR fys hy')];exact hno m _ hmj hy'
  ·exact⟨.int (j:Nat),H,I.tok _,⟨_,rfl⟩,q⟩
end
theorem Bm{prog:Qw}{w:World}{A:Around}{E:Value->Shared->Prop}{s:Shared}{l:Addr}{items:Array Value}{Q:Value->Shared->Prop}(hl:s.heap.IsList l items)
  (h:∀s₂:Shared,s₂={s with heap:=s.heap.push {cls:= .type "list_iterator",data:= .fields #[.ref l,.int 0 0]}}->
   (s₂.heap.IsListIter s.heap.objs.size l 0/\s₂.heap.IsList l items)->l≠s.heap.objs.size->Q (.ref s.heap.objs.size) s₂):wpAny (model prog w) A (pyIter (.ref l)) Q E s:=by
 have hlt:l<s.heap.objs.size:=by obtain⟨_,e,_⟩:=hl;exact P9 e
 exact wpAny_pyIter_list hl (h _ rfl ⟨⟨_,QE _ rfl,rfl,rfl⟩,hl.push _⟩ (QC hlt))
theorem u6{prog:Qw}{w:World}{A:Around}{bs:List Bool}{its:List Value}(e:its=bs.map Value.bool):
  TruthOf prog w A (λi v=>its.toArray[i]? =some v) (λi=>bs.getD i false):=λi v s Q E hv hq=>by
 have hv':its[i]? =some v:=by simpa using hv
 rw[e,Qa]at hv';obtain⟨b,hb,rfl⟩:=R8.mp hv';have hg:bs.getD i false=b:=by rw[List.getD_eq_getElem?_getD,hb]<;>rfl
 have hq':Q (bs.getD i false) s:=hq;rw[hg]at hq';exact Rb hq'
theorem any_range:∀bs:List Bool,(List.range bs.length).any (λi=>bs.getD i false)=bs.any id
 |[]=>rfl
 |b::bs=>by
  rw[Qj,Rz,RI,Rr,RI,<-any_range bs]
  all_goals rfl
theorem all_range:∀bs:List Bool,(List.range bs.length).all (λi=>bs.getD i false)=bs.all id
 |[]=>rfl
 |b::bs=>by
  rw[Qj,Rz,List.all_cons,List.all_map,List.all_cons,<-all_range bs]
  all_goals rfl
section
variable{X:Cx}
def Oh(K:PB):List V->Hp->VK->Prop:=λvs H Q=>∃(a:Addr)(bs:List Bool),vs=[V.ref a]/\a0 K H a (bs.map V.bl)/\Q (.bl (bs.any id)) H
def Oj(K:PB):List V->Hp->VK->Prop:=λvs H Q=>∃(a:Addr)(bs:List Bool),vs=[V.ref a]/\a0 K H a (bs.map V.bl)/\Q (.bl (bs.all id)) H
theorem CV(hc:X.calm=true):nj X (.builtin "any") (Oh X.K):=by
 intro pins s σ H vs us Q I r h;obtain⟨a,bs,rfl,hs,q⟩:=h;obtain⟨its,rv,hl,_⟩:=I.list hs;rw[Vals.IT r];have hb:=rv.NN;refine call_any_walk (Bm hl.isList λs₂ e2 st hne=>?_);subst e2;refine⟨_,_,_,_,_,_,_,rfl,Walks.list (A:=X.A.in1) (I.ok.hd hc) _ a hne its.toArray,st,u6 hb,λh' tk hk=>?_⟩;refine⟨.bl _,H,I.kept λb o eo=>hk b o (λhmem=>?_) (Qi _ eo),?_,q⟩
 ·rcases Qh.mp hmem with e1|hmem
  ·exact absurd (e1▸P9 eo) (Q3 _)
  ·cases hmem
 ·show Value.bool _=Value.bool _
  rw[<-any_range,hb,Qn,Px]
theorem K1(hc:X.calm=true):nj X (.builtin "all") (Oj X.K):=by
 intro pins s σ H vs us Q I r h;obtain⟨a,bs,rfl,hs,q⟩:=h;obtain⟨its,rv,hl,_⟩:=I.list hs;rw[Vals.IT r];have hb:=rv.NN;refine call_all_walk (Bm hl.isList λs₂ e2 st hne=>?_);subst e2;refine⟨_,_,_,_,_,_,_,rfl,Walks.list (A:=X.A.in1) (I.ok.hd hc) _ a hne its.toArray,st,u6 hb,λh' tk hk=>?_⟩;refine⟨.bl _,H,I.kept λb o eo=>hk b o (λhmem=>?_) (Qi _ eo),?_,q⟩
 ·rcases Qh.mp hmem with e1|hmem
  ·exact absurd (e1▸P9 eo) (Q3 _)
  ·cases hmem
 ·show Value.bool _=Value.bool _
  rw[<-all_range,hb,Qn,Px]
end
mutual
inductive Dp(K:PB)(H:Hp):V->PyData->Prop
 |eB:Dp K H .eB .none
 |bl (b:Bool):Dp K H (.bl b) (.bool b)
 |int (i:Int):Dp K H (.int i) (.int i)
 |str (x:Str):Dp K H (.str x) (.str x)
 |lst {a:Addr} {xs:List V} {ds:List PyData}:a0 K H a xs->yq K H xs ds->Dp K H (.ref a) (.list ds)
 |tup {a:Addr} {xs:List V} {ds:List PyData}:iP K H a xs->yq K H xs ds->Dp K H (.ref a) (.tuple ds)
inductive yq(K:PB)(H:Hp):List V->List PyData->Prop
 |nil:yq K H [] []
 |cons {v:V} {vs:List V} {d:PyData} {ds:List PyData}:Dp K H v d->yq K H vs ds->yq K H (v::vs) (d::ds)
end
section
variable{X:Cx}{pins:List (Addr×Obj)}{σ:St}{H:Hp}{s:Shared}
mutual
theorem Dp.reads(I:Inv X pins σ H s):∀(d:PyData)(v:V)(u:Value),Dp X.K H v d->RelV v u->∃as,Reads s.heap u d as
 |.none,_,_,h,r=>by
  cases h;cases r;exact⟨_,Reads.none⟩
 |.bool b,_,_,h,r=>by
  cases h;cases r;exact⟨_,Reads.bool b⟩
 |.int i,_,_,h,r=>by
  cases h;obtain⟨t,rfl⟩:=r;exact⟨_,Reads.int i t⟩
 |.str x,_,_,h,r=>by
  cases h;obtain⟨t,rfl⟩:=r;exact⟨_,Reads.str x t⟩
 |.list ds,_,_,h,r=>by
  cases h with
  |lst hs ha=>
   cases r;obtain⟨its,rv,⟨o,n,ho,hc,_,hd⟩,_⟩:=I.list hs;obtain⟨as,hr⟩:=Dp.readsAll I ds _ its ha rv;exact⟨_,Reads.list ho hc hd hr⟩
 |.tuple ds,_,_,h,r=>by
  cases h with
  |tup hs ha=>
   cases r;obtain⟨its,rv,⟨o,ho,hc,n,hd⟩,_⟩:=I.tuple hs;obtain⟨as,hr⟩:=Dp.readsAll I ds _ its ha rv;exact⟨_,Reads.tuple ho hc hd hr⟩
 |.dict _,_,_,h,_=>by cases h
theorem Dp.readsAll(I:Inv X pins σ H s):∀(ds:List PyData)(vs:List V)(us:List Value),yq X.K H vs ds->Vals vs us->∃as,ReadsAll s.heap us ds as
 |[],_,_,h,r=>by
  cases h;cases r;exact⟨_,ReadsAll.nil⟩
 |d::ds,_,_,h,r=>by
  cases h with
  |cons h1 h2=>
   cases r with
   |cons r1 r2=>
    obtain⟨as,q1⟩:=Dp.reads I d _ _ h1 r1;obtain⟨bs,q2⟩:=Dp.readsAll I ds _ _ h2 r2;exact⟨_,ReadsAll.cons q1 q2⟩
end
end
section
variable{X:Cx}
def NK(K:PB):R2:=λx y H Q=>∃d e,Dp K H x d/\Dp K H y e/\SeqAt.shaped d=true/\SeqAt.shaped e=true/\Q (.bl (PyData.eqv d e)) H
theorem K8(hu:X.A.units+64<cLine):vo X (compareOp .Eq) (NK X.K):=by
 intro pins s σ H x y v u Q I rx ry h;obtain⟨d,e,hd,he,sd,se,q⟩:=h;obtain⟨as,r1⟩:=Dp.reads I d x v hd rx;obtain⟨bs,r2⟩:=Dp.reads I e y u he ry;exact SeqAt.compareEq_shaped r1 r2 sd se hu ⟨.bl _,H,I,rfl,q⟩
end
abbrev HF(h:Heap)(c:Addr)(v:Option Value):Prop:=h.IsCell c v
def Om(scope sc:Scope):Scope:=
 {scope with names:=scope.names.map λ(n,k)=>if(k== .free&&sc.kind== .function&&sc.names.lookup n==some .cell)then(n,.cell)else(n,k)}
def cP(cells:List (Str×Addr)):List (Str×NameKind)->List (Str×Addr)->List (Str×Addr)
 |[],acc=>acc
 |(n,k)::r,acc=>if k== .free then cP cells r ((n,(cells.lookup n).getD 0)::acc)else cP cells r acc
theorem sJ(env:Env)(f:Str×NameKind->List (Str×Addr)->Sem (ForInStep (List (Str×Addr))))
  (hf:∀n k c,f (n,k) c=if k== .free then(do let a<-cellOf env n;pure (.yield ((n,a)::c)))else pure (.yield c)):
  ∀(names:List (Str×NameKind))(acc:List (Str×Addr)),(∀y∈names,y.2=.free->∃c,env.cells.lookup y.1=some c)->forIn names acc f=pure (cP env.cells names acc)
 |[],acc,_=>by rw[List.forIn_nil];rfl
 |(n,k)::r,acc,h=>by
  rw[List.forIn_cons,hf];have ih:=λacc=>sJ env f hf r acc λy hy=>h y (PY _ hy);unfold cP
  by_cases hk:(k==NameKind.free)=true
  ·rw[Pz hk,Pz hk]
   obtain⟨c,hc⟩:=h (n,k) PU (by simpa using hk);have e:cellOf env n=pure c:=by unfold cellOf;rw[hc]
   rw[e];have e2:(env.cells.lookup n).getD 0=c:=by rw[hc];rfl
   rw[e2];exact ih _
  ·rw[Py hk,Py hk]
   exact ih _
theorem CQ{scope:Scope}{env:Env}(h:∀y∈scope.names,y.2=.free->∃c,env.cells.lookup y.1=some c):closureFor scope env=pure (cP env.cells scope.names []):=by
 simp only[closureFor];rw[sJ env _ (λn k c=>rfl) scope.names [] h];rfl
theorem mem_lookup{α:Type}:∀{l:List (Str×α)}{n:Str}{c:α},(n,c)∈l->∃c',l.lookup n=some c'
 |(k,v)::r,n,c,h=>by
  rw[Rx];cases hb:n==k with
  |true=>exact⟨_,rfl⟩
  |false=>
   rcases Qh.mp h with e|h
   ·cases e;simp at hb
   ·exact mem_lookup h
theorem my{cells:List (Str×Addr)}:∀{names:List (Str×NameKind)}{acc:List (Str×Addr)}{n:Str}{c:Addr},(n,c)∈cP cells names acc->(n,c)∈acc\/((n,.free)∈names/\c=(cells.lookup n).getD 0)
 |[],_,_,_,h=>.inl h
 |(m,k)::r,acc,n,c,h=>by
  unfold cP at h;split at h
  ·rename_i hk
   have hk:k=.free:=by simpa using hk
   rcases my h with h|⟨h1,h2⟩
   ·rcases Qh.mp h with e|h
    ·cases e;exact .inr ⟨hk▸PU,rfl⟩
    ·exact .inl h
   ·exact .inr ⟨PY _ h1,h2⟩
  ·rcases my h with h|⟨h1,h2⟩
   ·exact .inl h
   ·exact .inr ⟨PY _ h1,h2⟩
theorem pN{cells:List (Str×Addr)}:∀{names:List (Str×NameKind)}{acc:List (Str×Addr)}{p:Str×Addr},p∈acc->p∈cP cells names acc
 |[],_,_,h=>h
 |(m,k)::r,acc,p,h=>by
  unfold cP;split
  ·exact pN (PY _ h)
  ·exact pN h
theorem oU{cells:List (Str×Addr)}:∀{names:List (Str×NameKind)}{acc:List (Str×Addr)}{n:Str},(n,.free)∈names->(n,(cells.lookup n).getD 0)∈cP cells names acc
 |(m,k)::r,acc,n,h=>by
  unfold cP;rcases Qh.mp h with e|h
  ·cases e
   exact pN PU
  ·split
   ·exact oU h
   ·exact oU h
theorem m5:∀{names:List (Str×NameKind)}{h:Heap}{acc:List (Str×Addr)}{x:Str}{c:Addr},(x,c)∈cellsFrom h.objs.size names acc->
  (x,c)∈acc\/((x,.cell)∈names/\h.objs.size<=c/\HF (pushCells h names) c none)
 |[],_,_,_,_,h=>.inl h
 |(n,k)::r,h,acc,x,c,hm=>by
  unfold cellsFrom at hm;unfold pushCells;split at hm
  ·rename_i hk
   rw[Pz hk];have hk:k=.cell:=by simpa using hk
   rw[<-Q6 h {cls:= .type "cell",data:= .cell none}]at hm;rcases m5 hm with hm|⟨h1,h2,h3⟩
   ·rcases Qh.mp hm with e|hm
    ·cases e
     exact .inr ⟨hk▸PU,PF _,_,pushCells_keeps r _ _ _ (QE _ rfl),rfl⟩
    ·exact .inl hm
   ·rw[Q6]at h2
    exact .inr ⟨PY _ h1,R9 h2,h3⟩
  ·rename_i hk
   rw[Py hk];rcases m5 hm with hm|⟨h1,h2,h3⟩
   ·exact .inl hm
   ·exact .inr ⟨PY _ h1,h2,h3⟩
theorem qA:∀{names:List (Str×NameKind)}{n:Nat}{acc:List (Str×Addr)}{p:Str×Addr},p∈acc->p∈cellsFrom n names acc
 |[],_,_,_,h=>h
 |(m,k)::r,n,acc,p,h=>by
  unfold cellsFrom;split
  ·exact qA (PY _ h)
  ·exact qA h
theorem uw:∀{names:List (Str×NameKind)}{n:Nat}{acc:List (Str×Addr)}{x:Str},(x,.cell)∈names->∃c,(x,c)∈cellsFrom n names acc
 |(m,k)::r,n,acc,x,h=>by
  unfold cellsFrom;rcases Qh.mp h with e|h
  ·cases e
   exact⟨n,qA PU⟩
  ·split
   ·exact uw h
   ·exact uw h
theorem uq:∀{names:List (Str×NameKind)}{h:Heap}{acc:List (Str×Addr)}{x y:Str}{c:Addr},(∀p∈acc,p.2<h.objs.size)->(∀x y c,(x,c)∈acc->(y,c)∈acc->x=y)->
  (x,c)∈cellsFrom h.objs.size names acc->(y,c)∈cellsFrom h.objs.size names acc->x=y
 |[],_,_,_,_,_,_,hi,h1,h2=>hi _ _ _ h1 h2
 |(n,k)::r,h,acc,x,y,c,hl,hi,h1,h2=>by
  unfold cellsFrom at h1 h2;split at h1
  ·rename_i hk
   rw[Pz hk]at h2;rw[<-Q6 h {cls:= .type "cell",data:= .cell none}]at h1 h2;refine uq (h:=h.push _) (λp hp=>?_) (λx y c a b=>?_) h1 h2
   ·rw[Q6]
    rcases Qh.mp hp with rfl|hp
    ·exact Nat.lt_succ_self _
    ·exact Nat.lt_succ_of_lt (hl p hp)
   ·rcases Qh.mp a with e|a<;>rcases Qh.mp b with e'|b
    ·cases e;cases e';rfl
    ·cases e;exact absurd (hl _ b) (Q3 _)
    ·cases e';exact absurd (hl _ a) (Q3 _)
    ·exact hi _ _ _ a b
  ·rename_i hk
   rw[Py hk]at h2;exact uq hl hi h1 h2
theorem BU{M:Model}{A:Around}{E:Value->Shared->Prop}{s:Shared}{scope:Scope}{globals:Addr}{closure:List (Str×Addr)}{qual:Str}{func:Option Addr}{code:Value}{around:Env}{builtins:Addr}{Q:Env->Shared->Prop}
  (h:Q (newEnv scope s.heap.objs.size globals (cellsFrom (s.heap.objs.size+1) scope.names closure) qual func code (some around) builtins)
   {s with heap:=pushCells (s.heap.push {cls:= .type "dict",data:= .dict #[]}) scope.names}):
  wpAny M A (newFunctionEnv scope globals closure [] qual func code (some around) builtins) Q E s:=by
 simp only[newFunctionEnv,Option.isSome_some,if_true];refine PN (wpAny_alloc ?_);refine PN (wpAny_layCells _ (λn k c=>rfl) scope.names closure _ _ ?_);rw[show({s with heap:=s.heap.push {cls:= .type "dict",data:= .dict #[]}}:Shared).heap.objs.size=s.heap.objs.size+1 from Q6 ..];rw[List.forIn_nil];exact PN (Qv (Qv h))
theorem pI{sc:Scope}:∀{names:List (Str×NameKind)}{x:Str}{k:NameKind},
  (names.map λ(n,k)=>if(k==NameKind.free&&sc.kind== .function&&sc.names.lookup n==some .cell)then(n,NameKind.cell)else(n,k)).lookup x=some k->
  ∃k',names.lookup x=some k'/\(k=k'\/(k'=.free/\k=.cell))
 |[],_,_,h=>by simp at h
 |(n,k₀)::r,x,k,h=>by
  have ih:=@pI sc r x k;have h':List.lookup x ((if(k₀==NameKind.free&&sc.kind== .function&&sc.names.lookup n==some .cell)=true then(n,NameKind.cell)else(n,k₀))::(r.map _))=some k:=h;cases hx:x==n with
  |true=>
   simp only[Rx,hx]
   by_cases hc:(k₀==NameKind.free&&sc.kind== .function&&sc.names.lookup n==some .cell)=true
   ·rw[Pz hc]at h'
    simp only[Rx,hx]at h';cases h';simp only[P4,QQ]at hc;exact⟨k₀,rfl,.inr ⟨hc.1.1,rfl⟩⟩
   ·rw[Py hc]at h'
    simp only[Rx,hx]at h';cases h';exact⟨_,rfl,.inl rfl⟩
  |false=>
   simp only[Rx,hx]
   by_cases hc:(k₀==NameKind.free&&sc.kind== .function&&sc.names.lookup n==some .cell)=true
   ·rw[Pz hc]at h'
    simp only[Rx,hx]at h';exact ih h'
   ·rw[Py hc]at h'
    simp only[Rx,hx]at h';exact ih h'
structure Bz(N:List Str)(sc scope:Scope)(own:List (Str×Nat)):Prop where
 kind:scope.kind=.function
 uniq:∀y∈scope.names,scope.names.lookup y.1=some y.2
 ix:∀p∈own,N[p.2]? =some p.1
 free:∀y∈scope.names,y.2=.free->sc.names.lookup y.1=some .cell\/sc.names.lookup y.1=some .free
 own:∀y∈scope.names,y.2=.local\/y.2=.cell->y.1∈own.map (·.1)\/y.1∉N
def wipe(σ:St):List Nat->St
 |[]=>σ
 |v::vs=>(wipe σ vs).set v none
theorem pW(σ:St):∀vs:List Nat,(wipe σ vs).length=σ.length
 |[]=>rfl
 |v::vs=>by unfold wipe;rw[Rl,pW σ vs]
theorem tU{σ:St}{i:Nat}{x:V}:∀{vs:List Nat},(wipe σ vs)[i]? =some (some x)->σ[i]? =some (some x)/\i∉vs
 |[],h=>⟨h,by simp⟩
 |v::vs,h=>by
  unfold wipe at h
  by_cases hi:v=i
  ·subst hi
   by_cases hv:v<(wipe σ vs).length
   ·rw[List.getElem?_set_self hv]at h;cases h
   ·rw[R_ (by simpa using hv)]at h;cases h
  ·rw[List.getElem?_set_ne hi]at h
   obtain⟨h1,h2⟩:=tU h;exact⟨h1,by simp only[Qh,not_or];exact⟨λe=>hi e.symm,h2⟩⟩
abbrev Cx.yd(X:Cx)(s:Shared)(H:Hp)(scope:Scope)(cenv:Env)(fp:List Addr):Cx:={X with vz:=s,MD:=H,env:=cenv,outer:=X.stack,ex:=fp,fn:=λx=>scope.names.lookup x==some .cell,pn:=[],xe:=λ_ _=>False}
section
variable{X:Cx}{pins:List (Addr×Obj)}{σ:St}{H:Hp}{s:Shared}
theorem BW{scope:Scope}{own:List (Str×Nat)}{fp:List Addr}(I:Inv X pins σ H s)(ok:Bz X.N X.env.scope scope own)(hN:X.N.Nodup)(hfp:∀b∈fp,vI X pins H b/\b<s.heap.objs.size):
  Inv (X.yd s H scope (compEnvC scope (cellsFrom (s.heap.objs.size+1) scope.names (cP X.env.cells scope.names [])) s.heap.objs.size X.env) fp) [] (wipe σ (own.map (·.2))) H {s with heap:=pushCells (s.heap.push {cls:= .type "dict",data:= .dict #[]}) scope.names}:=by
 have hfree:∀y∈scope.names,y.2=.free->∃c,X.env.cells.lookup y.1=some c:=λy hy e=>by
  rcases ok.free y hy e with k|k
  ·exact I.ok.has _ (.inl k)
  ·exact I.ok.has _ (.inr k)
 generalize hcenv:compEnvC scope (cellsFrom (s.heap.objs.size+1) scope.names (cP X.env.cells scope.names [])) s.heap.objs.size X.env=cenv;have kp:∀b o,s.heap.get? b=some o->(pushCells (s.heap.push {cls:= .type "dict",data:= .dict #[]}) scope.names).get? b=some o:=λb o e=>pushCells_keeps _ _ _ _ (Qi _ e);have hL:cenv.locals=s.heap.objs.size:=by rw[<-hcenv];rfl
 have hcl:cenv.cells=cellsFrom (s.heap.objs.size+1) scope.names (cP X.env.cells scope.names []):=by rw[<-hcenv];rfl
 have hsc:cenv.scope=Om scope X.env.scope:=by rw[<-hcenv];rfl
 rw[<-Q6 s.heap {cls:= .type "dict",data:= .dict #[]}]at hcl;have cm:∀{y c},(y,c)∈cP X.env.cells scope.names []->X.env.cells.lookup y=some c/\c<s.heap.objs.size:=λ{y c} hm=>by
  rcases my hm with hm|⟨h1,rfl⟩
  ·cases hm
  ·obtain⟨c,hc⟩:=hfree _ h1 rfl
   rw[hc];obtain⟨w,z⟩:=I.cell _ _ hc;exact⟨rfl,z.lt⟩
 have mem:∀{y c},cenv.cells.lookup y=some c->(X.env.cells.lookup y=some c/\c<s.heap.objs.size)\/(s.heap.objs.size+1<=c/\HF (pushCells (s.heap.push {cls:= .type "dict",data:= .dict #[]}) scope.names) c none):=λ{y c} e=>by
  rw[hcl]at e;rcases m5 (QK e)with hm|⟨_,h2,h3⟩
  ·exact .inl (cm hm)
  ·rw[Q6]at h2;exact .inr ⟨h2,h3⟩
 have look:∀{y},scope.names.lookup y=some .free->∃c,cenv.cells.lookup y=some c/\X.env.cells.lookup y=some c:=λ{y} hl=>by
  have hy:(y,NameKind.free)∈scope.names:=QK hl;obtain⟨c',e'⟩:=mem_lookup (qA (names:=scope.names) (n:=(s.heap.push {cls:= .type "dict",data:= .dict #[]}).objs.size) (oU (cells:=X.env.cells) (acc:=[]) hy));rw[<-hcl]at e';refine⟨c',e',?_⟩;rw[hcl]at e';rcases m5 (QK e')with hm|⟨h1,_,_⟩
  ·exact(cm hm).1
  ·have:=ok.uniq _ h1
   rw[hl]at this;cases this
 have okB:(X.yd s H scope cenv fp).Ok:=by
  refine⟨I.ok.mod,by show cenv.scope.kind=_;rw[hsc];exact ok.kind,by show cenv.globals=_;rw[<-hcenv];exact I.ok.glob,by show cenv.builtins=_;rw[<-hcenv];exact I.ok.blt,by show s.heap.objs.size<=cenv.locals;rw[hL];exact PF _,
   λy z c e1 e2=>?_,λy hy=>?_,λy c z e=>?_,I.ok.hd,I.ok.frames,.inl rfl,λb hb=>⟨?_,λy c e z=>?_⟩,I.bs,Qq I.ok.F5 I.sz,λb o e hb=>?_,λb hb z=>?_,I.stack,I.vW⟩
  ·have e1:cenv.cells.lookup y=some c:=e1
   have e2:cenv.cells.lookup z=some c:=e2;rw[hcl]at e1 e2;refine uq (λp hp=>?_) (λy z c a b=>I.ok.inj y z c (cm a).1 (cm b).1) (QK e1) (QK e2);rw[Q6];exact Nat.lt_succ_of_lt (cm (y:=p.1) (c:=p.2) hp).2
  ·show∃c,cenv.cells.lookup y=some c
   have key:∀k,cenv.kindOf y=some k->(k=.cell\/k=.free)->∃c,cenv.cells.lookup y=some c:=λk hk hk'=>by
    unfold Env.kindOf at hk;rw[hsc]at hk;obtain⟨k',e,r⟩:=pI hk;have:k'=.cell\/k'=.free:=by
     rcases r with rfl|⟨rfl,_⟩
     ·exact hk'
     ·exact .inr rfl
    rcases this with rfl|rfl
    ·obtain⟨c,hm⟩:=uw (n:=(s.heap.push {cls:= .type "dict",data:= .dict #[]}).objs.size) (acc:=cP X.env.cells scope.names []) (QK e)
     obtain⟨c',e'⟩:=mem_lookup hm;exact⟨c',by rw[hcl];exact e'⟩
    ·obtain⟨c,h1,_⟩:=look e
     exact⟨c,h1⟩
   rcases hy with hy|hy
   ·exact key _ hy (.inl rfl)
   ·exact key _ hy (.inr rfl)
  ·have z:(scope.names.lookup y==some NameKind.cell)=true:=z
   have z:scope.names.lookup y=some .cell:=by simpa using z
   have e:cenv.cells.lookup y=some c:=e;rw[hcl]at e;rcases m5 (QK e)with hm|⟨_,h2,_⟩
   ·rcases my hm with hm|⟨h1,_⟩
    ·cases hm
    ·have q:=ok.uniq _ h1
     rw[z]at q;cases q
   ·rw[Q6]at h2
    exact R9 h2
  ·show b≠cenv.locals
   rw[hL];exact QC (hfp b hb).2
  ·have e:cenv.cells.lookup y=some c:=e
   rcases mem e with⟨h1,_⟩|⟨h1,_⟩
   ·exact(hfp b hb).1.2.2.2.2.1 y c h1 z
   ·have h2:s.heap.objs.size+1<=b:=by rw[<-z];exact h1
    exact absurd (Qs (hfp b hb).2 (R9 h2)) (Q3 _)
  ·rcases(hfp b hb).1.2.2.2.1 with z|z
   ·exact I.ok.Dm b o e z
   ·exact absurd (Qs (P9 e) (Qq I.ok.F5 z)) (Q3 _)
  ·rcases Qh.mp (I.Dr b z)with z|z
   ·exact(hfp b hb).1.2.1 z
   ·exact(hfp b hb).1.2.2.1 z
 refine⟨okB,rfl,I.bare,Un.kept kp,⟨λ_=>none,?_,λi y av e1 e2 e3=>?_⟩,λy c e=>?_,?_,λy c e=>?_,λp hp=>?_,I.cE.kept kp,by rw[pW];exact I.len⟩
 ·show Heap.Ns _ cenv.locals _
  rw[hL];exact Heap.Ns.keeps (Heap.Ns.new ..) λb o e=>pushCells_keeps _ _ _ _ e
 ·obtain⟨e2,hne⟩:=tU e2
  have hfr:scope.names.lookup y=some .free/\(cenv.kindOf y=some .cell\/cenv.kindOf y=some .free):=by
   have key:∀k,cenv.scope.names.lookup y=some k->k=.local\/k=.cell\/k=.free->scope.names.lookup y=some .free/\(cenv.kindOf y=some .cell\/cenv.kindOf y=some .free):=λk hk hk'=>by
    have hk0:=hk;rw[hsc]at hk;obtain⟨k',e,r⟩:=pI hk;have no:¬(k'=.local\/k'=.cell):=λhh=>by
     rcases ok.own _ (QK e) hh with e'|e'
     ·obtain⟨p,hp,hpy⟩:=P_.mp e'
      have e3:=ok.ix p hp;have:p.1=y:=hpy;rw[this]at e3;exact hne (P_.mpr ⟨p,hp,xI hN e3 e1⟩)
     ·exact e' (Ql e1)
    rcases r with rfl|⟨rfl,rfl⟩
    ·rcases hk' with rfl|rfl|rfl
     ·exact absurd (.inl rfl) no
     ·exact absurd (.inr rfl) no
     ·exact⟨e,.inr hk0⟩
    ·exact⟨e,.inl hk0⟩
   have e3:LP cenv.scope y:=e3;rcases e3 with e3|e3|e3
   ·exact key _ e3 (.inl rfl)
   ·exact key _ e3 (.inr (.inl rfl))
   ·exact key _ e3 (.inr (.inr rfl))
  obtain⟨m,hn,hl⟩:=I.loc;have hvis:LP X.env.scope y:=(ok.free _ (QK hfr.1) rfl).elim (λk=>.inr (.inl k)) (λk=>.inr (.inr k));obtain⟨w,r,q⟩:=hl i y av e1 e2 hvis;refine⟨w,r,.inr ⟨hfr.2,?_⟩⟩;obtain⟨c,h1,h2⟩:=look hfr.1;rcases q with⟨k,_⟩|⟨_,c',e',z⟩
  ·have k:X.env.scope.names.lookup y=some .local:=k
   rcases ok.free _ (QK hfr.1) rfl with k'|k'<;>rw[show X.env.scope.names.lookup y=_ from k']at k<;>cases k
  ·rw[h2]at e';cases e'
   exact⟨c,h1,z.keeps kp⟩
 ·have e:cenv.cells.lookup y=some c:=e
  rcases mem e with⟨h1,_⟩|⟨_,z⟩
  ·obtain⟨w,z⟩:=I.cell y c h1
   exact⟨w,z.keeps kp⟩
  ·exact⟨_,z⟩
 ·show H cenv.locals=none
  rw[hL];exact I.cE.fresh (PF _)
 ·have e:cenv.cells.lookup y=some c:=e
  rcases mem e with⟨h1,_⟩|⟨h1,_⟩
  ·exact I.ms y c h1
  ·exact I.cE.fresh (R9 h1)
 ·exact absurd (show p∈([]:List (Addr×Obj))++[]from hp) (by simp)
theorem LJ{E:Value->Shared->Prop}{D:Addr}{xs:List V}{y:V}{v:Value}{Q:Value->Shared->Prop}(I:Inv X pins σ H s)(hD:H D=some (.lst xs))(hz:xs.length<sizeLine)(r:RelV y v)
  (h:∀s',Inv X pins σ (upd H D (.lst (xs++[y]))) s'->Q .none s'):wpAny (model X.prog X.w) X.A (call (.builtin "list.append") [.ref D,v]) Q E s:=by
 obtain⟨hz',its,n,ri,e⟩:=I.cE D _ hD;have hl:=ri.length;refine append_at (hsz:=by rw[Qn];omega) e λh' sb ho'=>?_;refine h {s with heap:=h'} (I.write (t':=s.toks) (by rw[hD];trivial) (.inl rfl) (λb u hb q=>(sb.2 b hb).trans q) ⟨_,ho'⟩ ⟨by rw[P0];exact hz,its++[v],n+1,ri.append (.cons r .nil),?_⟩);rw[ho'];simp
def MM(X:Cx)(ifs:List Expr)(t:TT):Prop:=
 ∀(pins:List (Addr×Obj))(s:Shared)(σ:St)(H:Hp)(Q:Bool->Hp->Prop),Inv X pins σ H s->t σ H Q->
  wpAny (model X.prog X.w) X.A (forIn ifs true λc r=>if r=true then do let ok<-isTrue c X.env (eval c X.env);pure (ForInStep.yield ok)else pure (ForInStep.yield r)) (TP X pins σ Q) X.xe s
def ND:TT:=λ_ H Q=>Q true H
theorem dZ:MM X [] ND:=λ_ _ _ H _ I h=>wpAny_tests_nil ⟨H,I,h⟩
theorem EO{c:Expr}{t:TT}(h:PT X c t):MM X [c] t:=λpins s σ H Q I hw=>wpAny_tests_one (h pins s σ H Q I hw)
end
theorem Fg{α:Type}{t:Sem α}{Q Q':α->Shared->Prop}{M:Model}{A:Around}{E:Value->Shared->Prop}{s:Shared}(h:wpAny M A t Q (λ_ _=>False) s)(hQ:∀a s,Q a s->Q' a s):wpAny M A t Q' E s:=Rc h hQ λ_ _ z=>False.elim z
theorem AY{prog:Qw}{w:World}{A:Around}{R:Result->Shared->Prop}{s:Shared}{elt target iter:Expr}{ifs:List Expr}{scope:Scope}{pos:Pos}{it acc:Value}{env:Env}(I:Nat->Shared->Prop)
  (turn:∀n s,I n s->wpAny (model prog w) A (pyNext it) (λr s₁=>match r with
   |none=>R (.ok .next) s₁
   |some v=>wpAny (model prog w) A (letOwnedTupleGo target it v) (λ_ s₁'=>wpAny (model prog w) A (assign target env v) (λ_ s₂=>
     wpAny (model prog w) A (forIn ifs true λc r=>if r=true then do let ok<-isTrue c env (eval c env);pure (ForInStep.yield ok)else pure (ForInStep.yield r)) (λok s₃=>
      if ok=true then wpAny (model prog w) A (eval elt env) (λx s₄=>
       wpAny (model prog w) A (call (.builtin "list.append") [acc,x]) (λ_ s₅=>∃m,m<n/\I m s₅) (notedBy (model prog w) A env λe s'=>R (.error e) s') s₄) (notedBy (model prog w) A env λe s'=>R (.error e) s') s₃
      else∃m,m<n/\I m s₃) (notedBy (model prog w) A env λe s'=>R (.error e) s') s₂) (notedBy (model prog w) A env λe s'=>R (.error e) s') s₁') (notedBy (model prog w) A env λe s'=>R (.error e) s') s₁) (notedBy (model prog w) A env λe s'=>R (.error e) s') s)
  (n:Nat)(h:I n s):
  codeAny (model prog w) A (.compLoop (.ListComp elt [⟨target,iter,ifs,0⟩] scope pos) 0 it acc env) R s:=by
 refine codeAny_loop rfl I (λn s hI=>?_) n h;show wpAny _ A ((compTurn (.ListComp elt [⟨target,iter,ifs,0⟩] scope pos) 0 it acc env).onRaise (λx=>do noteFrame x env;theTreesLotGoes x)) _ _ s;refine wpAny_noted ?_;rw[compTurn_list];refine PN (Rv (PN (Rc (turn n s hI) (λr s₁ h₁=>?_) λ_ _ h'=>h')));cases r with
 |none=>exact Qv h₁
 |some v=>
  refine PN (Rc h₁ (λ_ s₁' h₁'=>?_) λ_ _ h'=>h');refine PN (Rc h₁' (λ_ s₂ h₂=>PN (Rc h₂ (λok s₃ h₃=>?_) λ_ _ h'=>h')) λ_ _ h'=>h');cases ok with
  |false=>exact Qv ⟨rfl,h₃⟩
  |true=>
   exact PN (PN (Rc h₃ (λx s₄ h₄=>PN (Rc h₄ (λ_ s₅ h₅=>Qv (Qv ⟨rfl,h₅⟩)) λ_ _ h'=>h')) λ_ _ h'=>h'))
section
variable{X:Cx}
def Nz(wi:TI)(g:TG)(tt:TT)(te:TE)(vs:List Nat):TE:=λσ H Q=>wi σ H λJ H1=>∀D,H1 D=none->∃W:Nat->Nat->Hp->Prop,(∃m,W 0 m (upd H1 D (.lst [])))/\∀i m H,W i m H->
 (J.stop i H/\Q (.ref D) H)\/(J.go i H/\∃Nx:Hp->Prop,(∀H',Nx H'->∃m',m'<m/\W (i+1) m' H')/\∀x H',J.F6 i H x H'->g x (wipe σ vs) H' λσ2 H2=>wipe σ2 vs=wipe σ vs/\tt σ2 H2 λb H3=>
  if b=true then te σ2 H3 λy H4=>∃acc,H4 D=some (.lst acc)/\acc.length<sizeLine/\Nx (upd H4 D (.lst (acc++[y])))else Nx H3)
theorem Ew{pins:List (Addr×Obj)}{s:Shared}{σ:St}{H:Hp}{Q:VK}{elt tg iter:Expr}{ifs:List Expr}{scope:Scope}{own:List (Str×Nat)}{pos pos':Pos}{wi:TI}{g:TG}{tt:TT}{te:TE}{use:Option (Value->Sem Unit)}{Qf:Value->Shared->Prop}
  (hc:X.calm=true)(hN:X.N.Nodup)(I:Inv X pins σ H s)(hi:PI X tg iter wi)(ok:Bz X.N X.env.scope scope own)
  (hg:∀(s:Shared)(H:Hp)(C:Addr)(cl:List (Str×Addr))(fp:List Addr),PG (X.yd s H scope (compEnvC scope cl C X.env) fp) tg g)(ht:∀(s:Shared)(H:Hp)(C:Addr)(cl:List (Str×Addr))(fp:List Addr),MM (X.yd s H scope (compEnvC scope cl C X.env) fp) ifs tt)
  (he:∀(s:Shared)(H:Hp)(C:Addr)(cl:List (Str×Addr))(fp:List Addr),PE (X.yd s H scope (compEnvC scope cl C X.env) fp) elt te)(hs:∀x,foldedSetIterable iter X.env x=pure x)
  (h:Nz wi g tt te (own.map (·.2)) σ H Q)
  (hRR:∀D C s' m H',Inv X pins σ H' s'->Q (.ref D) H'->s'.heap.Ns C m->vI X pins H' C->compPost (model X.prog X.w) X.A X.xe use Qf (.ref D) C (.ok .next) s'):
  wpAny (model X.prog X.w) X.A (comprehension (.ListComp elt [⟨tg,iter,ifs,0⟩] scope pos) scope X.env pos' (newList []) false (eval iter X.env) use) Qf X.xe s:=by
 have hfree:∀y∈scope.names,y.2=.free->∃c,X.env.cells.lookup y.1=some c:=λy hy e=>by
  rcases ok.free y hy e with k|k
  ·exact I.ok.has _ (.inl k)
  ·exact I.ok.has _ (.inr k)
 refine wpAny_comprehension_free (use:=use) rfl hs (CQ hfree) ok.kind (λy hy e=>by rw[ok.uniq y hy,e])
  (dM (hi pins s σ H _ I h) λxv s1 hx=>dM hx λitv s2 h2=>?_)
 obtain⟨it,fp,tn,J,H2,e,I2,T,st2,f2,q⟩:=h2;subst e;refine wpAny_newObj_type (BU ?_) (by show 0<=sizeLine;decide);generalize hD:s2.heap.objs.size=D;have hDn:H2 D=none:=I2.cE.fresh (Nat.le_of_eq hD);obtain⟨W,⟨m0,w0⟩,turn⟩:=q D hDn;generalize hs3:({s2 with heap:=s2.heap.push {cls:= .type "list",data:= .seq ([]:List Value).toArray}}:Shared)=s3;have I3:Inv X pins σ (upd H2 D (.lst [])) s3:=by
  rw[<-hs3];refine I2.laid (t':=s2.toks) (λb o e=>Qi _ e) (Nat.le_of_eq hD) ⟨QG _,[],0,.nil,?_⟩;rw[<-hD];exact QE _ rfl
 have h3:s3.heap=s2.heap.push {cls:= .type "list",data:= .seq ([]:List Value).toArray}:=by rw[<-hs3]
 have sz:∀b∈fp,b<s2.heap.objs.size:=λb hb=>by
  obtain⟨o,e,_⟩:=T.obj _ _ st2 b hb;exact P9 e
 have f3:∀b∈fp,vI X pins (upd H2 D (.lst [])) b/\b<s3.heap.objs.size:=λb hb=>by
  have hlt:=sz b hb;refine⟨⟨?_,(f2 b hb).2⟩,by rw[h3,Q6];exact Nat.lt_succ_of_lt hlt⟩;rw[ai (by rw[<-hD];exact QC hlt)];exact(f2 b hb).1
 have st3:tn 0 s3.heap:=T.keep _ _ _ st2 λb _ o e=>by rw[h3];exact Qi _ e
 have I4:=BW I3 ok hN f3;have pg:=hg s3 (upd H2 D (.lst [])) s3.heap.objs.size (cellsFrom (s3.heap.objs.size+1) scope.names (cP X.env.cells scope.names [])) fp;have pt:=ht s3 (upd H2 D (.lst [])) s3.heap.objs.size (cellsFrom (s3.heap.objs.size+1) scope.names (cP X.env.cells scope.names [])) fp;have pe:=he s3 (upd H2 D (.lst [])) s3.heap.objs.size (cellsFrom (s3.heap.objs.size+1) scope.names (cP X.env.cells scope.names [])) fp;show codeAny _ _ (.compStart (.ListComp elt [⟨tg,iter,ifs,0⟩] scope pos) 0 (.ref it) (.ref D) (compEnvC scope (cellsFrom (s3.heap.objs.size+1) scope.names (cP X.env.cells scope.names [])) s3.heap.objs.size X.env)) (compPost (model X.prog X.w) X.A X.xe use Qf (.ref D) s3.heap.objs.size) {s3 with heap:=pushCells (s3.heap.push {cls:= .type "dict",data:= .dict #[]}) scope.names};have nfp:∀b∈fp,(upd H2 D (.lst [])) b=none:=λb hb=>(f3 b hb).1.1;generalize hce:compEnvC scope (cellsFrom (s3.heap.objs.size+1) scope.names (cP X.env.cells scope.names [])) s3.heap.objs.size X.env=ce at I4 pg pt pe ⊢;have cL:ce.locals=s3.heap.objs.size:=by subst hce;rfl
 generalize hH3:upd H2 D (.lst [])=H3 at I3 I4 pg pt pe w0 nfp f3;generalize hs4:({s3 with heap:=pushCells (s3.heap.push {cls:= .type "dict",data:= .dict #[]}) scope.names}:Shared)=s4 at I4 ⊢;have st4:tn 0 s4.heap:=T.keep _ _ _ st3 λb _ o e=>by rw[<-hs4];exact pushCells_keeps _ _ _ _ (Qi _ e)
 have stat:∀{σ':St}{H':Hp}{s':Shared},Inv (X.yd s3 H3 scope ce fp) [] σ' H' s'->(∀b∈fp,H' b=none)->∀b∈fp,vI (X.yd s3 H3 scope ce fp) [] H' b:=λ{σ' H' s'} I' hn b hb=>
  ⟨hn b hb,(I'.ok.LN b hb).1,I'.ok.Db b hb,.inl hb,λx c e=>(I'.ok.LN b hb).2 x c e,λp hp=>absurd (show p∈([]:List (Addr×Obj))++[]from hp) (by simp)⟩
 have loop:codeAny (model X.prog X.w) X.A (.compLoop (.ListComp elt [⟨tg,iter,ifs,0⟩] scope pos) 0 (.ref it) (.ref D) ce) (compPost (model X.prog X.w) X.A X.xe use Qf (.ref D) s3.heap.objs.size) s4:=by
  refine AY (λn s'=>∃i H',Inv (X.yd s3 H3 scope ce fp) [] (wipe σ (own.map (·.2))) H' s'/\tn i s'.heap/\(∀b∈fp,H' b=none)/\W i n H') ?_ m0 ⟨0,H3,I4,st4,nfp,w0⟩
  rintro n s5 ⟨i,H5,I5,st5,n5,w5⟩
  rcases turn i n H5 w5 with⟨stop,qq⟩|⟨go,Nx,hNx,step⟩
  ·have td:=T.done (X.yd s3 H3 scope ce fp) rfl rfl rfl hc i [] s5 _ H5 (λ_ _=>False) I5 (stat I5 n5) st5 stop
   refine Fg td λr s6⟨hr,I6⟩=>?_;subst hr;have I7:Inv X pins σ H5 s6:=I3.Hg (ch:=fp) I6.os I6.base I6.cE I6.bare λb hb=>⟨(f3 b hb).1.2.2.2.1,(f3 b hb).1.2.1,(f3 b hb).1.2.2.2.2.1,(f3 b hb).1.2.2.2.2.2⟩;have nC:H5 s3.heap.objs.size=none:=by
    have z:H5 ce.locals=none:=I6.free;rw[cL]at z;exact z
   obtain⟨m,hn,_⟩:=I6.loc;have hn:s6.heap.Ns ce.locals m:=hn;rw[cL]at hn;exact hRR D s3.heap.objs.size s6 m H5 I7 qq hn (I3.A9 (PF _) nC)
  ·have ti:=T.item (X.yd s3 H3 scope ce fp) rfl rfl rfl hc i [] s5 _ H5 (λ_ _=>False) I5 (stat I5 n5) st5 go
   refine Fg ti λr s6⟨u,hr,h6⟩=>?_;subst hr;refine Fg h6 λ_ s7⟨x,H7,I7,r7,y7,st7,n7⟩=>?_;have I7':=I7.pinned (stat I7 n7) (T.obj _ _ st7);refine Fg (pg _ s7 _ H7 x u _ I7' r7 (step x H7 y7)) λ_ s8⟨σ8,H8,I8,hw8,q8⟩=>?_;refine Fg (pt _ s8 σ8 H8 _ I8 q8) λb s9⟨H9,I9,q9⟩=>?_;have fin:∀{s':Shared}{H':Hp},Inv (X.yd s3 H3 scope ce fp) ([]++wL fp s7.heap) σ8 H' s'->Nx H'->∃m,m<n/\∃i H',Inv (X.yd s3 H3 scope ce fp) [] (wipe σ (own.map (·.2))) H' s'/\tn i s'.heap/\(∀b∈fp,H' b=none)/\W i m H':=λ{s' H'} I' nx=>by
    obtain⟨m',hm,w'⟩:=hNx H' nx;have pin':∀b∈fp,∀o,s7.heap.get? b=some o->s'.heap.get? b=some o/\H' b=none:=λb hb o e=>
     let z:=I'.pin (b,o) (Q1 _ (Q1 _ (rE hb e)))
     ⟨z.1,z.2.1⟩
    have hl:(wipe σ (own.map (·.2))).length=σ8.length:=by rw[<-hw8,pW]
    refine⟨m',hm,i+1,H',(I'.r9 (pins:=[])).weak hl (λj v e=>?_),T.keep _ _ _ st7 λb hb o e=>(pin' b hb o e).1,λb hb=>?_,w'⟩
    ·rw[<-hw8]at e
     exact(tU e).1
    ·obtain⟨o,e,_⟩:=T.obj _ _ st7 b hb
     exact(pin' b hb o e).2
   cases b with
   |false=>
    simp only[Bool.false_eq_true,if_false]at q9 ⊢;exact fin I9 q9
   |true=>
    simp only[if_true]at q9 ⊢;refine Fg (pe _ s9 σ8 H9 _ I9 q9) λz s10⟨yv,H10,I10,r10,acc,hD10,hz10,nx⟩=>?_;exact LJ (X:=X.yd s3 H3 scope ce fp) I10 hD10 hz10 r10 λs11 I11=>fin I11 nx
 exact codeAny_compStart_list loop (T.self X.A 0 _ _ _ st4 loop)
theorem lE{elt tg iter:Expr}{ifs:List Expr}{scope:Scope}{own:List (Str×Nat)}{pos:Pos}{wi:TI}{g:TG}{tt:TT}{te:TE}(hc:X.calm=true)(hN:X.N.Nodup)(hi:PI X tg iter wi)(ok:Bz X.N X.env.scope scope own)
  (hg:∀(s:Shared)(H:Hp)(C:Addr)(cl:List (Str×Addr))(fp:List Addr),PG (X.yd s H scope (compEnvC scope cl C X.env) fp) tg g)(ht:∀(s:Shared)(H:Hp)(C:Addr)(cl:List (Str×Addr))(fp:List Addr),MM (X.yd s H scope (compEnvC scope cl C X.env) fp) ifs tt)
  (he:∀(s:Shared)(H:Hp)(C:Addr)(cl:List (Str×Addr))(fp:List Addr),PE (X.yd s H scope (compEnvC scope cl C X.env) fp) elt te)(hs:∀x,foldedSetIterable iter X.env x=pure x:=by intro _;rfl):
  PE X (.ListComp elt [⟨tg,iter,ifs,0⟩] scope pos) (Nz wi g tt te (own.map (·.2))):=by
 intro pins s σ H Q I h;rw[eval_ListComp];refine Ew hc hN I hi ok hg ht he hs h λD C s' m H' I' q hn f=>⟨m,hn,λh'' sb=>?_⟩;obtain⟨f0,f1,f2,f3,f4,f5⟩:=f;exact⟨.ref D,H',I'.turned (t':=s'.toks) (λb o hb e=>(sb.2 b hb).trans e) f0 f1 f3 f4 f5,rfl,q⟩
theorem tO{i:Nat}{y:Str}{py:Pos}{elt tg iter:Expr}{ifs:List Expr}{scope:Scope}{own:List (Str×Nat)}{pos spos:Pos}{wi:TI}{g:TG}{tt:TT}{te:TE}(hc:X.calm=true)(hN:X.N.Nodup)(hy:X.N[i]? =some y)(hyl:X.env.scope.names.lookup y=some .local)
  (hsw:swapsWith (.ListComp elt [⟨tg,iter,ifs,0⟩] scope pos) (some (.Name y py)) spos.line X.env=pure true)(hi:PI X tg iter wi)(ok:Bz X.N X.env.scope scope own)
  (hg:∀(s:Shared)(H:Hp)(C:Addr)(cl:List (Str×Addr))(fp:List Addr),PG (X.yd s H scope (compEnvC scope cl C X.env) fp) tg g)(ht:∀(s:Shared)(H:Hp)(C:Addr)(cl:List (Str×Addr))(fp:List Addr),MM (X.yd s H scope (compEnvC scope cl C X.env) fp) ifs tt)
  (he:∀(s:Shared)(H:Hp)(C:Addr)(cl:List (Str×Addr))(fp:List Addr),PE (X.yd s H scope (compEnvC scope cl C X.env) fp) elt te)(hs:∀x,foldedSetIterable iter X.env x=pure x:=by intro _;rfl):
  PS X (.Assign [.Name y py] (.ListComp elt [⟨tg,iter,ifs,0⟩] scope pos) spos) (IE (Nz wi g tt te (own.map (·.2))) (zf i)):=by
 intro pins s σ H D I h;rw[exec_Assign_Name_used _ _ _ _ hsw];refine PN (Rv (PN ?_));show wpAny _ X.A (do let _<-comprehension (.ListComp elt [⟨tg,iter,ifs,0⟩] scope pos) scope X.env (firstIterPos [⟨tg,iter,ifs,0⟩] pos) (newList []) false (eval iter X.env) (some (assign (.Name y py) X.env))) _ _ s;have h:Nz wi g tt te (own.map (·.2)) σ H (λx H1=>zf i x σ H1 D.nx):=h;refine PN (dM (Ew (Qf:=λ_ s'=>SP X pins D .next s') hc hN I hi ok hg ht he hs h λL C s' m H' I' q hn f=>?_) λ_ s' hq=>Qv (Qv hq));show wpAny _ _ (assign (.Name y py) X.env (.ref L)) _ _ _;refine wpAny_assign_Name (zW (v:=V.ref L) I' hN hy (.inl hyl) rfl (λs2 I2⟨a,sb,ha⟩=>?_) (.inr hyl));obtain⟨f0,f1,f2,f3,f4,f5⟩:=f;have haC:C≠a:=by
  rcases ha with z|z
  ·rw[z];exact f1
  ·exactλe=>f4 y a z e.symm
 refine⟨m,hn.sameBut sb haC,λh3 sb3=>?_⟩;exact⟨_,H',I2.turned (t':=s2.toks) (λb o hb e=>(sb3.2 b hb).trans e) f0 f1 f3 f4 f5,q⟩
end
def MW(N:List Str)(sc scope:Scope)(own:List (Str×Nat)):Bool:=
 (match scope.kind with|.function=>true|_=>false)&&(scope.names.all λy=>decide (scope.names.lookup y.1=some y.2))&&(own.all λp=>decide (N[p.2]? =some p.1))&&
  (scope.names.all λy=>match y.2 with
   |.free=>(match sc.names.lookup y.1 with|some .cell=>true|some .free=>true|_=>false)
   |.local=>decide (y.1∈own.map (·.1))||decide (y.1∉N)
   |.cell=>decide (y.1∈own.map (·.1))||decide (y.1∉N)
   |_=>true)
theorem cp{N:List Str}{sc scope:Scope}{own:List (Str×Nat)}(h:MW N sc scope own=true):Bz N sc scope own:=by
 unfold MW at h;simp only[P4,Rg,decide_eq_true_eq]at h;obtain⟨⟨⟨h1,h2⟩,h3⟩,h4⟩:=h;refine⟨?_,h2,h3,λy hy e=>?_,λy hy e=>?_⟩
 ·split at h1
  ·assumption
  ·cases h1
 ·have q:=h4 y hy
  simp only[e]at q;split at q<;>first|exact .inl (by assumption)|exact .inr (by assumption)|cases q
 ·have q:=h4 y hy
  rcases e with e|e<;>(simp only[e,Rm,decide_eq_true_eq]at q;exact q)
section
variable{X:Cx}{pins:List (Addr×Obj)}{σ:St}{H:Hp}{s:Shared}{h':Heap}
theorem Inv.JK{t':Nat}{ch:List Addr}(I:Inv X pins σ H s)(k:∀b o,b∉ch->s.heap.get? b=some o->h'.get? b=some o)(hf:∀b∈ch,vI X pins H b):Inv X pins σ H {s with heap:=h',toks:=t'}:=by
 have nit:∀b u,H b=some u->b∉ch:=λb u e z=>by
  have q:=(hf b z).1;rw[q]at e;cases e
 refine I.step (g':=s.gens) (d':=s.drawn) (ch:=ch) (λb hb=>⟨(hf b hb).2.2.2.1,(hf b hb).2.1,(hf b hb).2.2.2.2.1,(hf b hb).2.2.2.2.2⟩) (λb o _ _ hc e _=>k b o hc e) (λb o _ _ hc e _=>⟨o.slots,k b o hc e⟩)
  (λ_ _ _ _ n=>n) (λb o hc e=>⟨o,k b o hc e⟩) (λ_ _ e=>e) (λ_ _ _ e=>e) (λb ps e=>⟨#[],by rw[e];simp⟩) (λm hm=>?_) (λb u e=>?_) I.bare
 ·obtain⟨o,es,ep,ho,r⟩:=hm
  exact⟨o,es,ep,k _ o (λz=>(hf _ z).2.1 rfl) ho,r⟩
 ·refine(I.cE b u e).vG (λc v hc q=>k c v ?_ q) (λ_ q=>q) λ_ _ q=>q
  rcases hc with z|z
  ·rw[z];exact nit b u e
  ·exact nit c _ z
theorem Inv.ug{t':Nat}{ch:List Addr}{T:Addr}{ob:HO}(I:Inv X pins σ H s)(k:∀b o,b∉ch->s.heap.get? b=some o->h'.get? b=some o)(hf:∀b∈ch,vI X pins H b)(hT:s.heap.objs.size<=T)
  (new:dH X.prog X.w (upd H T ob) h' T ob):Inv X pins σ (upd H T ob) {s with heap:=h',toks:=t'}:=by
 have hn:H T=none:=I.cE.fresh hT;have nit:∀b u,H b=some u->b∉ch:=λb u e z=>by
  have q:=(hf b z).1;rw[q]at e;cases e
 refine I.step (g':=s.gens) (d':=s.drawn) (ch:=ch) (λb hb=>⟨(hf b hb).2.2.2.1,(hf b hb).2.1,(hf b hb).2.2.2.2.1,(hf b hb).2.2.2.2.2⟩) (λb o _ _ hc e _=>k b o hc e) (λb o _ _ hc e _=>⟨o.slots,k b o hc e⟩)
  (λb o _ e n=>?_) (λb o hc e=>⟨o,k b o hc e⟩) (λb xs e=>?_) (λb o u e=>?_) (λb ps e=>⟨#[],?_⟩) (λm hm=>?_) (λb u e=>?_) I.bare
 ·rw[ai (QC (Qs (P9 e) hT))];exact n
 ·rw[ai (ak e hn)];exact e
 ·rw[ai (ak e hn)];exact e
 ·rw[ai (ak e hn),e];simp
 ·obtain⟨o,es,ep,ho,r⟩:=hm
  exact⟨o,es,ep,k _ o (λz=>(hf _ z).2.1 rfl) ho,r⟩
 ·by_cases hb:b=T
  ·subst hb
   rw[ah]at e;cases e;exact new
  ·rw[ai hb]at e
   refine(I.cE b u e).vG (λc v hc q=>k c v ?_ q) (λc q=>by rw[ai (ak q hn)];exact q) λc xs q=>by rw[ai (ak q hn)];exact q
   rcases hc with z|z
   ·rw[z];exact nit b u e
   ·exact nit c _ z
end
section
variable{X:Cx}
theorem Hv{tg:Expr}{pins:List (Addr×Obj)}{σ:St}{H:Hp}{s:Shared}{R:It->Hp->Prop}{J:It}{tn:Nat->Heap->Prop}{tk:Nat}(I:Inv X pins σ H s)(o:Obj)
  (T:Turn X.prog X.w X.K tg J [s.heap.objs.size] s.heap.objs.size tn)(st:tn 0 (s.heap.push o))(q:R J H):NL X pins σ tg R (.ref s.heap.objs.size) {s with heap:=s.heap.push o,toks:=tk}:=by
 refine⟨s.heap.objs.size,[s.heap.objs.size],tn,J,H,rfl,I.kept λb ob e=>Qi _ e,T,st,λb hb=>?_,q⟩;have e:b=s.heap.objs.size:=by simpa using hb
 subst e;exact I.A9 (PF _) (I.cE.fresh (PF _))
end
def Nd(x:Str):It:=⟨λi _=>i<x.cps.size,λi H v H'=>H'=H/\∃c,x.cps[i]? =some c/\v=.str ⟨#[c]⟩,λi _=>x.cps.size<=i⟩
theorem Bj{P:Qw}{w:World}{K:PB}{tg:Expr}(it:Addr)(x:Str)(t:Tok)(ty:String)(hty:ty="str_ascii_iterator"\/ty="str_iterator"):
  Turn P w K tg (Nd x) [it] it (λi h=>h.IsStrIter it ty x t i) where
 mem:=by simp
 obj:=λi h st b hb=>by
  have e:b=it:=by simpa using hb
  subst e;obtain⟨o,e,c,d⟩:=st;exact⟨o,e,λv z=>by rw[d]at z;cases z⟩
 keep:=λi h h' st k=>let⟨o,ho,r⟩:=st;⟨o,k it (by simp) o ho,r⟩
 item:=by
  intro X hP hw hK hc i pins s σ H E I hf st hg;subst hP hw hK;obtain⟨f0,f1,f2,f3,f4,f5⟩:=hf it (by simp);have W:Walks X.prog X.w X.A it [it] [it] x.cps.size (SignAt x) (λi h=>h.IsStrIter it ty x t i):=by
   rcases hty with e|e
   ·rw[e];exact Walks.strAscii (I.ok.hd hc) it x t
   ·rw[e];exact Walks.strWide (I.ok.hd hc) it x t
  have hno:["enumerate","zip","dict_itemiterator","dict_reverseitemiterator","odict_iterator","itertools.zip_longest","itertools.pairwise"].contains ty=false:=by
   rcases hty with e|e
   ·rw[e];decide
   ·rw[e];decide
  refine W.item i s _ _ hg st λv h' tk hv st' kk=>?_;obtain⟨c,u,hcx,rfl⟩:=hv;have I1:Inv X pins σ H {s with heap:=h',toks:=tk}:=I.turned (λb o hb e=>kk b o (by simpa using hb) e) f0 f1 f3 f4 f5;obtain⟨oi,e,cc,dd⟩:=id st';exact⟨_,rfl,EX (s:={s with heap:=h',toks:=tk}) e cc dd hno ⟨.str ⟨#[c]⟩,H,I1,⟨u,rfl⟩,⟨rfl,c,hcx,rfl⟩,st',λb hb=>(hf b hb).1⟩⟩
 done:=by
  intro X hP hw hK hc i pins s σ H E I hf st hg;subst hP hw hK;obtain⟨f0,f1,f2,f3,f4,f5⟩:=hf it (by simp);have hx:x.cps[i]? =none:=Array.getElem?_eq_none hg;rcases hty with e|e
  ·rw[e]at st
   exact wpAny_pyNext_ascii_end (I.ok.hd hc) st hx λh' eb=>⟨rfl,I.turned (t':=s.toks) (λb o hb e=>eb b o hb e) f0 f1 f3 f4 f5⟩
  ·rw[e]at st
   exact wpAny_pyNext_wide_end (I.ok.hd hc) st hx λh' eb=>⟨rfl,I.turned (t':=s.toks) (λb o hb e=>eb b o hb e) f0 f1 f3 f4 f5⟩
 self:=λA i s Q E st h=>by
  rcases hty with e|e
  ·rw[e]at st;exact wpAny_pyIter_striter_ascii st h
  ·rw[e]at st;exact wpAny_pyIter_striter_wide st h
def NE(te:TE):TI:=λσ H R=>te σ H λv H1=>∃x,v=.str x/\R (Nd x) H1
theorem Ds{X:Cx}{tg e:Expr}{te:TE}(he:PE X e te):PI X tg e (NE te):=by
 intro pins s σ H R I h;refine dM (he pins s σ H _ I h) λv s1⟨y,H1,I1,r1,x,ex,q⟩=>?_;subst ex;obtain⟨t,rfl⟩:=r1;cases ha:x.cps.all (·<128)
 ·exact wpAny_pyIter_wide ha (Hv (tk:=s1.toks) I1 _ (Bj _ x t "str_iterator" (.inr rfl)) ⟨_,QE _ rfl,rfl,rfl⟩ q)
 ·exact wpAny_pyIter_ascii ha (Hv (tk:=s1.toks) I1 _ (Bj _ x t "str_ascii_iterator" (.inl rfl)) ⟨_,QE _ rfl,rfl,rfl⟩ q)
def Oy(K:PB)(a:Addr):It:=
 ⟨λi H=>∃(xs:List V)(x:V),a0 K H a xs/\xs[i]? =some x,λi H v H'=>∃T x,v=.ref T/\H T=none/\H'=upd H T (.tup [.int (i:Nat),x])/\∀xs,a0 K H a xs->xs[i]? =some x,λi H=>∃xs:List V,a0 K H a xs/\xs.length<=i⟩
theorem FX{P:Qw}{w:World}{K:PB}{elts:List Expr}{kk:Nat}{tpos:Pos}(a e it:Addr):
  Turn P w K (.Tuple elts kk tpos) (Oy K a) [e,it] e (λi h=>(∃old,IsEnum h e it ((i:Nat):Int) old)/\h.IsListIter it a i/\e≠it) where
 mem:=by simp
 obj:=λi h st b hb=>by
  obtain⟨⟨old,he⟩,⟨o,ho,hc,hd⟩,_⟩:=st;have e':b=e\/b=it:=by simpa using hb
  rcases e' with z|z
  ·rw[z];exact⟨_,he,λv q=>nomatch q⟩
  ·rw[z];exact⟨o,ho,λv q=>by rw[hd]at q;cases q⟩
 keep:=λi h h' st k=>let⟨⟨old,he⟩,hi,hne⟩:=st;⟨⟨old,k e (by simp) _ he⟩,hi.at λo q=>k it (by simp) o q,hne⟩
 item:=by
  intro X hP hw hK hc i pins s σ H E I hf st hg;subst hP hw hK;obtain⟨⟨old,he⟩,hit,hne⟩:=st;obtain⟨xs,x,hq,hx⟩:=hg;obtain⟨its,rv,p,hz⟩:=I.list hq;obtain⟨u,hu,ru⟩:=rv.get hx;have hel:e<s.heap.objs.size:=P9 he;have hil:it<s.heap.objs.size:=by obtain⟨_,q,_⟩:=hit;exact P9 q
  refine wpAny_pyNext_enum_item he hit p.isList (x:=u) (by simpa using hu) hne λh' ho hit' hT hsz hk=>?_;refine⟨_,rfl,wpAny_letOwnedTupleGo_enum (s:={s with heap:=h',toks:=s.toks+1}) ho λh'' he' sb=>?_⟩;have hT2:h''.get? s.heap.objs.size=some {cls:= .type "tuple",data:= .seq #[.int i s.toks,u]}:=(sb.2 _ (RN hel)).trans hT;have new:dH X.prog X.w (upd H s.heap.objs.size (.tup [.int (i:Nat),x])) h'' s.heap.objs.size (.tup [.int (i:Nat),x]):=
   ⟨by show 2<=sizeLine;decide,[.int i s.toks,u],.cons ⟨_,rfl⟩ (.cons ru .nil),⟨_,hT2,rfl,_,rfl⟩⟩
  have I1:Inv X pins σ (upd H s.heap.objs.size (.tup [.int (i:Nat),x])) {s with heap:=h'',toks:=s.toks+1}:=
   I.ug (ch:=[e,it]) (λb ob hb q=>(sb.2 b (λz=>hb (by simp[z]))).trans (hk b ob (λz=>hb (by simp[z])) (λz=>hb (by simp[z])) q)) hf (PF _) new
  refine⟨.ref s.heap.objs.size,_,I1,rfl,⟨_,x,rfl,I.cE.fresh (PF _),rfl,λys hy=>by rw[I.tz hy hq];exact hx⟩,⟨⟨u,?_⟩,hit'.at λo q=>(sb.2 it (PZ hne)).trans q,hne⟩,λb hb=>?_⟩
  ·have e1:((i+1:Nat):Int)=(i:Int)+1:=by omega
   rw[e1];exact he'
  ·have hb':b<s.heap.objs.size:=by
    have e':b=e\/b=it:=by simpa using hb
    rcases e' with z|z
    ·rw[z];exact hel
    ·rw[z];exact hil
   rw[ai (QC hb')];exact(hf b hb).1
 done:=by
  intro X hP hw hK hc i pins s σ H E I hf st hg;subst hP hw hK;obtain⟨⟨old,he⟩,hit,hne⟩:=st;obtain⟨xs,hq,hx⟩:=hg;obtain⟨its,rv,p,hz⟩:=I.list hq;obtain⟨f0,f1,f2,f3,f4,f5⟩:=hf it (by simp);have hl:=rv.length;exact wpAny_pyNext_enum_end (I.ok.hd hc) he hit p.isList (by simp;omega) λh' eb=>⟨rfl,I.turned (t':=s.toks) (λb o hb q=>eb b o hb q) f0 f1 f3 f4 f5⟩
 self:=λA i s Q E st h=>let⟨⟨_,he⟩,_⟩:=st;wpAny_pyIter_enum he h
def MX(K:PB)(ta:TA):TI:=λσ H R=>ta σ H λvs H1=>∃a xs,vs=[.ref a]/\a0 K H1 a xs/\R (Oy K a) H1
theorem Js{X:Cx}{e:Expr}{ta:TA}{p pos tpos:Pos}{elts:List Expr}{kk:Nat}(hg:Gl X "enumerate")(hm:X.mg "enumerate"=none)(ha:PA X [e] ta)(hs:starEach [e] X.env=[(false,eval e X.env)]:=by rfl):
  PI X (.Tuple elts kk tpos) (.Call (.Name "enumerate" p) [e] [] pos) (MX X.K ta):=by
 intro pins s σ H R I h;refine Call_ (uv I hg hm boot_enumerate (Rk (dM (ha pos pins s σ H _ I h) λus s1⟨vs,H1,I1,r1,q1⟩=>?_) hs rfl));obtain⟨a,xs,ex,hq,q⟩:=q1;subst ex;cases r1 with
 |cons r rr=>
  cases rr;cases r;obtain⟨its,rv,p',hz⟩:=I1.list hq;refine call_enumerate_list p'.isList λh' he hit hsz hk=>wpAny_pyIter_enum he ?_;have I2:Inv X pins σ H1 {s1 with heap:=h'}:=I1.kept (t':=s1.toks) hk;refine⟨s1.heap.objs.size+1,[s1.heap.objs.size+1,s1.heap.objs.size],_,_,H1,rfl,I2,FX a (s1.heap.objs.size+1) s1.heap.objs.size,⟨⟨.none,he⟩,hit,Nat.succ_ne_self _⟩,λb hb=>?_,q⟩;have e':b=s1.heap.objs.size+1\/b=s1.heap.objs.size:=by simpa using hb
  have hle:s1.heap.objs.size<=b:=by
   rcases e' with z|z
   ·rw[z];exact RO _ _
   ·rw[z];exact PF _
  exact I1.A9 hle (I1.cE.fresh hle)
theorem FQ:bootBuiltins "zip"=some (.type "zip"):=by decide+kernel
def NC(K:PB)(a b:Addr):It:=
 ⟨λi H=>∃(xs ys:List V)(x y:V),a0 K H a xs/\a0 K H b ys/\xs[i]? =some x/\ys[i]? =some y,
  λi H v H'=>∃T x y,v=.ref T/\H T=none/\H'=upd H T (.tup [x,y])/\(∀xs,a0 K H a xs->xs[i]? =some x)/\∀ys,a0 K H b ys->ys[i]? =some y,
  λi H=>∃xs ys:List V,a0 K H a xs/\a0 K H b ys/\(xs.length<=i\/ys.length<=i)⟩
theorem Hx{P:Qw}{w:World}{K:PB}{elts:List Expr}{kk:Nat}{tpos:Pos}{a b z TI TO i1 i2:Addr}(D:ZipApart z TI TO i1 i2 a b):
  Turn P w K (.Tuple elts kk tpos) (NC K a b) [z,TI,TO,i1,i2] z (λi h=>IsZip h z TI TO .none/\IsPair h TI (.ref i1) (.ref i2)/\(∃x y,IsPair h TO x y)/\h.IsListIter i1 a i/\h.IsListIter i2 b i) where
 mem:=by simp
 obj:=λi h st c hc=>by
  obtain⟨hz,hTI,⟨x,y,hTO⟩,⟨o1,e1,_,d1⟩,⟨o2,e2,_,d2⟩⟩:=st;have e':c=z\/c=TI\/c=TO\/c=i1\/c=i2:=by simpa using hc
  rcases e' with q|q|q|q|q
  ·rw[q];exact⟨_,hz,λv q=>nomatch q⟩
  ·rw[q];exact⟨_,hTI,λv q=>nomatch q⟩
  ·rw[q];exact⟨_,hTO,λv q=>nomatch q⟩
  ·rw[q];exact⟨o1,e1,λv q=>by rw[d1]at q;cases q⟩
  ·rw[q];exact⟨o2,e2,λv q=>by rw[d2]at q;cases q⟩
 keep:=λi h h' st k=>by
  obtain⟨hz,hTI,⟨x,y,hTO⟩,h1,h2⟩:=st;exact⟨k z (by simp) _ hz,k TI (by simp) _ hTI,⟨x,y,k TO (by simp) _ hTO⟩,h1.at λo q=>k i1 (by simp) o q,h2.at λo q=>k i2 (by simp) o q⟩
 item:=by
  intro X hP hw hK hc i pins s σ H E I hf st hg;subst hP hw hK;obtain⟨hz,hTI,⟨x0,y0,hTO⟩,h1,h2⟩:=st;obtain⟨xs,ys,x,y,hqx,hqy,hx,hy⟩:=hg;obtain⟨its,rv,p,_⟩:=I.list hqx;obtain⟨its2,rv2,p2,_⟩:=I.list hqy;obtain⟨u,hu,ru⟩:=rv.get hx;obtain⟨u2,hu2,ru2⟩:=rv2.get hy;have hzl:z<s.heap.objs.size:=P9 hz;refine wpAny_pyNext_zip_item D hz hTI hTO h1 h2 p.isList p2.isList (x:=u) (y:=u2) (by simpa using hu) (by simpa using hu2) λh' z' TO' h1' h2' hT hsz hk=>?_;refine⟨_,rfl,wpAny_letOwnedTupleGo_zip (s:={s with heap:=h'}) z' λh'' z'' sb=>?_⟩;have hT2:h''.get? s.heap.objs.size=some {cls:= .type "tuple",data:= .seq #[u,u2]}:=(sb.2 _ (RN hzl)).trans hT;have new:dH X.prog X.w (upd H s.heap.objs.size (.tup [x,y])) h'' s.heap.objs.size (.tup [x,y]):=
   ⟨by show 2<=sizeLine;decide,[u,u2],.cons ru (.cons ru2 .nil),⟨_,hT2,rfl,_,rfl⟩⟩
  have I1:Inv X pins σ (upd H s.heap.objs.size (.tup [x,y])) {s with heap:=h''}:=
   I.ug (t':=s.toks) (ch:=[z,TI,TO,i1,i2]) (λc o hb q=>(sb.2 c (λq'=>hb (by simp[q']))).trans (hk c o (λq'=>hb (by simp[q'])) (λq'=>hb (by simp[q'])) (λq'=>hb (by simp[q'])) (λq'=>hb (by simp[q'])) q)) hf (PF _) new
  refine⟨.ref s.heap.objs.size,_,I1,rfl,⟨_,x,y,rfl,I.cE.fresh (PF _),rfl,λl hl=>by rw[I.tz hl hqx];exact hx,λl hl=>by rw[I.tz hl hqy];exact hy⟩,⟨z'',?_,⟨u,u2,?_⟩,?_,?_⟩,λc hcm=>?_⟩
  ·exact(sb.2 _ D.TIz).trans (hk _ _ D.TIz D.TITO D.TIi1 D.TIi2 hTI)
  ·exact(sb.2 _ D.TOz).trans TO'
  ·exact h1'.at λo q=>(sb.2 _ D.i1z).trans q
  ·exact h2'.at λo q=>(sb.2 _ D.i2z).trans q
  ·have hlt:c<s.heap.objs.size:=by
    have e':c=z\/c=TI\/c=TO\/c=i1\/c=i2:=by simpa using hcm
    rcases e' with q|q|q|q|q
    ·rw[q];exact hzl
    ·rw[q];exact P9 hTI
    ·rw[q];exact P9 hTO
    ·rw[q];obtain⟨_,e1,_⟩:=h1;exact P9 e1
    ·rw[q];obtain⟨_,e2,_⟩:=h2;exact P9 e2
   rw[ai (QC hlt)];exact(hf c hcm).1
 done:=by
  intro X hP hw hK hc i pins s σ H E I hf st hg;subst hP hw hK;obtain⟨hz,hTI,⟨x0,y0,hTO⟩,h1,h2⟩:=st;obtain⟨xs,ys,hqx,hqy,hend⟩:=hg;obtain⟨its,rv,p,_⟩:=I.list hqx;obtain⟨its2,rv2,p2,_⟩:=I.list hqy;have l1:=rv.length;have l2:=rv2.length;have he:its.toArray[i]? =none\/its2.toArray[i]? =none:=by
   rcases hend with q|q
   ·exact .inl (by simp;omega)
   ·exact .inr (by simp;omega)
  exact wpAny_pyNext_zip_end (I.ok.hd hc) D hz hTI hTO h1 h2 p.isList p2.isList he λh' hk=>⟨rfl,I.JK (t':=s.toks) (ch:=[z,TI,TO,i1,i2]) (λc o hb q=>
   hk c o (λq'=>hb (by simp[q'])) (λq'=>hb (by simp[q'])) (λq'=>hb (by simp[q'])) (λq'=>hb (by simp[q'])) q) hf⟩
 self:=λA i s Q E st h=>wpAny_pyIter_zip st.1 h
def OE(K:PB)(ta:TA):TI:=λσ H R=>ta σ H λvs H1=>∃a b xs ys,vs=[.ref a,.ref b]/\a0 K H1 a xs/\a0 K H1 b ys/\R (NC K a b) H1
theorem Hu{X:Cx}{e e2:Expr}{ta:TA}{p pos tpos:Pos}{elts:List Expr}{kk:Nat}(hg:Gl X "zip")(hm:X.mg "zip"=none)(ha:PA X [e,e2] ta)
  (hs:starEach [e,e2] X.env=(false,eval e X.env)::starEach [e2] X.env:=by rfl)(hpl:(backTo pos (starEach [e2] X.env)).any (·.1)=false:=by rfl):
  PI X (.Tuple elts kk tpos) (.Call (.Name "zip" p) [e,e2] [] pos) (OE X.K ta):=by
 intro pins s σ H R I h;refine Call_ (uv I hg hm FQ (Rk (dM (ha pos pins s σ H _ I h) λus s1⟨vs,H1,I1,r1,q1⟩=>?_) hs hpl));obtain⟨a,b,xs,ys,ex,hqx,hqy,q⟩:=q1;subst ex;cases r1 with
 |cons r rr=>
  cases rr with
  |cons r' rr=>
   cases rr;cases r;cases r';obtain⟨its,rv,p1,_⟩:=I1.list hqx;obtain⟨its2,rv2,p2,_⟩:=I1.list hqy;have la:a<s1.heap.objs.size:=p1.lt;have lb:b<s1.heap.objs.size:=p2.lt;refine call_zip_2 p1.isList p2.isList λh' hz hTI hTO h1 h2 hsz hk=>wpAny_pyIter_zip hz ?_;have I2:Inv X pins σ H1 {s1 with heap:=h'}:=I1.kept (t':=s1.toks) hk;refine⟨s1.heap.objs.size+4,[s1.heap.objs.size+4,s1.heap.objs.size+2,s1.heap.objs.size+3,s1.heap.objs.size,s1.heap.objs.size+1],_,_,H1,rfl,I2,Hx (PySem.W.ktu_apart s1.heap.objs.size a b la lb),⟨hz,hTI,⟨_,_,hTO⟩,h1,h2⟩,λc hcm=>?_,q⟩;have e':c=s1.heap.objs.size+4\/c=s1.heap.objs.size+2\/c=s1.heap.objs.size+3\/c=s1.heap.objs.size\/c=s1.heap.objs.size+1:=by simpa using hcm
   have hle:s1.heap.objs.size<=c:=by
    rcases e' with z|z|z|z|z
    ·rw[z];exact RO _ _
    ·rw[z];exact RO _ _
    ·rw[z];exact RO _ _
    ·rw[z];exact PF _
    ·rw[z];exact RO _ _
   exact I1.A9 hle (I1.cE.fresh hle)
end L2
section
namespace TL
open PySem PySem.Builtin PySem.Builtin.Str PySem.StrLaws
abbrev tl(x:Str):List Nat:=x.cps.toList
theorem ue(x y:Str):tl (x++y)=tl x++tl y:=by
 show(x++y).cps.toList=_;rw[Str.cps_append,Array.toList_append]
def zZ(S:List Nat):List (List Nat)->List Nat
 |[]=>[]
 |[p]=>p
 |p::q::r=>p++(S++zZ S (q::r))
theorem Eg(y:Str):∀parts:List Str,tl (Str.join y parts)=zZ (tl y) (parts.map tl)
 |[]=>rfl
 |[_]=>rfl
 |x::z::r=>by
  show tl (x++y++Str.join y (z::r))=tl x++(tl y++zZ (tl y) ((z::r).map tl));rw[ue,ue,Eg y (z::r),QH]
theorem join_eq(y:Str)(parts:List Str):Txt.join y parts=Str.join y parts:=glued_eq_join y parts
end TL
end
namespace L2
open PySem PySem.Spec PyProof.Rows
theorem nS:∀{ys:List Str}{us:List Value},Vals (ys.map V.str) us->StrsAre us ys
 |[],_,.nil=>.nil
 |y::ys,_,.cons r t=>by
  obtain⟨k,rfl⟩:=r;exact .cons y k (nS t)
section
variable{X:Cx}
theorem DH:MP X "str.join" (λx xs H Q=>∃a p,∃ys:List Str,x=.str a/\xs=[.ref p]/\(a0 X.K H p (ys.map V.str)\/iP X.K H p (ys.map V.str))/\
  (ys.map (·.length)).sum+ys.length*a.length<=16777216/\Q (.str (Txt.join a ys)) H):=by
 intro pins s σ H x xs v us Q I rx rs h;obtain⟨a,p,ys,rfl,rfl,hp,hz,h⟩:=h;obtain⟨t,rfl⟩:=rx;cases rs with
 |cons r1 rs=>
  cases rs;cases r1;rcases hp with hp|hp
  ·obtain⟨its,r,⟨o,n,ho,hc,_,hd⟩,_⟩:=I.list hp
   exact PyProof.Rows.join_list (items:=its.toArray) ⟨o,ho,hc,n,hd⟩ (by rw[RW];exact nS r) hz λt' k=>⟨.str _,H,I.tok k,⟨t',rfl⟩,h⟩
  ·obtain⟨its,r,ht,_⟩:=I.tuple hp
   exact PyProof.Rows.join_tuple (items:=its.toArray) ht (by rw[RW];exact nS r) hz λt' k=>⟨.str _,H,I.tok k,⟨t',rfl⟩,h⟩
end
theorem IsPart.raw{v:Value}{o:Option Int}(p:IsPart v o):∃l:Option (Int×Tok),v=partValue l/\l.map (·.1)=o:=by
 cases p with
 |none=>exact⟨none,rfl,rfl⟩
 |int i t=>exact⟨some (i,t),rfl,rfl⟩
def BQ(n d:Nat):Option Int->Int
 |none=>(d:Int)
 |some i=>max 0 (min (if i<0 then i+(n:Int)else i) (n:Int))
theorem Cf(n d:Nat)(o:Option Int):BQ n d o=((HT.jV n d o:Nat):Int):=by
 cases o with
 |none=>rfl
 |some v=>
  show max (0:Int) (min (if v<0 then v+(n:Int)else v) (n:Int))=(((if v<0 then(v+(n:Int)).toNat else min v.toNat n):Nat):Int)
  by_cases hv:v<0
  ·simp only[Pz hv]
   omega
  ·simp only[Py hv]
   omega
theorem E8(a b:Option Int)(n:Nat):Builtin.Str.strSliceIndices a b 1 n=sliceRange (BQ n 0 a) (BQ n n b) 1:=by
 have h1:((1:Int)>0)=True:=by simp
 cases a<;>cases b<;>first
  |rfl
  |(simp only[Builtin.Str.strSliceIndices,BQ,h1,if_true];rfl)
  |simp[Builtin.Str.strSliceIndices,BQ]
theorem NR(a b:Option Int)(n:Nat):Builtin.Str.strSliceIndices a b 1 n=(List.range (HT.jV n n b-HT.jV n 0 a)).map (λk=>HT.jV n 0 a+k):=by
 rw[E8,Cf,Cf];generalize HT.jV n 0 a=p;generalize HT.jV n n b=q;simp only[sliceRange,show((1:Int)>0)=True from by simp,if_true]
 by_cases hlt:(p:Int)<q
 ·have e3:(((q:Int)-p+1-1)/1).toNat=q-p:=by first|omega|(simp;done)|(simp;omega)
  simp only[hlt,if_true,e3];refine Rn λk _=>?_;omega
 ·have:q-p=0:=by omega
  simp[hlt,this]
def gb(z:Str)(lo hi:Option Int):Str:=
 ⟨((z.cps.toList.drop (HT.jV z.length 0 lo)).take (HT.jV z.length z.length hi-HT.jV z.length 0 lo)).toArray⟩
theorem qU(z:Str)(lo hi:Option Int):PySem.StrLaws.sliceText z lo hi=gb z lo hi:=by
 have h1:HT.jV z.length 0 lo<=z.length:=HT.HR _ _ (QG _) _;have h2:HT.jV z.length z.length hi<=z.length:=HT.HR _ _ (PF _) _;have hp:HT.jV z.length 0 lo<=max (HT.jV z.length 0 lo) (HT.jV z.length z.length hi):=Nat.le_max_left _ _;have hq:max (HT.jV z.length 0 lo) (HT.jV z.length z.length hi)<=z.length:=Nat.max_le.mpr ⟨h1,h2⟩;have hd:max (HT.jV z.length 0 lo) (HT.jV z.length z.length hi)-HT.jV z.length 0 lo=HT.jV z.length z.length hi-HT.jV z.length 0 lo:=by omega
 have e:Builtin.Str.strSliceIndices lo hi 1 z.length=
   Builtin.Str.strSliceIndices (some ((HT.jV z.length 0 lo:Nat):Int)) (some ((max (HT.jV z.length 0 lo) (HT.jV z.length z.length hi):Nat):Int)) 1 z.length:=by
  rw[PySem.StrLaws.strSliceIndices_plain hp hq,hd,NR]
 have e2:PySem.StrLaws.sliceText z lo hi=
   PySem.StrLaws.sliceText z (some ((HT.jV z.length 0 lo:Nat):Int)) (some ((max (HT.jV z.length 0 lo) (HT.jV z.length z.length hi):Nat):Int)):=by
  unfold PySem.StrLaws.sliceText;rw[e]
 rw[e2,PySem.StrLaws.sliceText_nat z hp hq,hd];rfl
theorem Bk(z:Str)(lo hi:Option Int):(gb z lo hi).length<=z.length:=by
 show(((z.cps.toList.drop (HT.jV z.length 0 lo)).take (HT.jV z.length z.length hi-HT.jV z.length 0 lo)).toArray).size<=z.cps.size;rw[Qn,Qt,Rw,Array.length_toList];omega
def Ou:V->Option Int->Option Int->Hp->VK->Prop:=λx lo hi H Q=>∃z,x=.str z/\z.length<=sizeLine/\Q (.str (gb z lo hi)) H
theorem Do{X:Cx}:Nu X Ou:=by
 intro pins s σ H x v vl vu lo hi sl Q I rx hs pl pu h;obtain⟨z,rfl,hz,q⟩:=h;obtain⟨t,rfl⟩:=rx;obtain⟨os,hos,hcs,hds⟩:=hs;obtain⟨l,rfl,rfl⟩:=IsPart.raw pl;obtain⟨u,rfl,rfl⟩:=IsPart.raw pu;refine⟨"str",_,F.slot_str_getitem.lookup,typeIs_str _ _ _,?_⟩;refine wpAny_getItem_str_slice (l:=l) (u:=u) (st:=none) ⟨os,hos,hcs,hds⟩ rfl ?_;have hl:(PySem.StrLaws.sliceText z (l.map (·.1)) (u.map (·.1))).length<=sizeLine:=by
  rw[qU];exact Qq (Bk z _ _) hz
 rw[<-qU]at q;unfold PySem.StrLaws.sliceText at q hl;show Made.post (if((1:Int)==1&&(Builtin.Str.strSliceIndices (l.map (·.1)) (u.map (·.1)) 1 z.length).length==z.length)=true then Made.val (.str z t)
  else Made.str ⟨((Builtin.Str.strSliceIndices (l.map (·.1)) (u.map (·.1)) 1 z.length).filterMap (z.cps[·]?)).toArray⟩) (EP X pins σ Q) s
 by_cases c:((1:Int)==1&&(Builtin.Str.strSliceIndices (l.map (·.1)) (u.map (·.1)) 1 z.length).length==z.length)=true
 ·rw[Pz c]at q ⊢
  exact⟨.str z,H,I,⟨t,rfl⟩,q⟩
 ·rw[Py c]at q hl ⊢
  exact⟨hl,.str _,H,I.tok _,⟨_,rfl⟩,q⟩
def inClass(s:Stmt)(j:Nat):Stmt:=match s with
 |.ClassDef _ _ _ body _ _ _ _ _ _ _=>body.getD j (.Pass ⟨0,0,0,0⟩)
 |_=>.Pass ⟨0,0,0,0⟩
def gH(s:Stmt):Arguments:=match s with
 |.FunctionDef _ a _ _ _ _ _ _ _ _=>a
 |_=>{posonlyargs:=[],args:=[],vararg:=none,kwonlyargs:=[],kw_defaults:=[],kwarg:=none,defaults:=[]}
def dE(s:Stmt):List Stmt:=match s with
 |.FunctionDef _ _ b _ _ _ _ _ _ _=>b
 |_=>[]
def aj(s:Stmt):Scope:=match s with
 |.FunctionDef _ _ _ _ _ _ sc _ _ _=>sc
 |_=>{kind:= .function,names:=[],isGenerator:=false,isCoroutine:=false}
abbrev Oi:Ey:=λ_ _ _ _ _ _=>False
abbrev E0:XK:=λ_ _ _=>False
structure CA(K:PB)(x qual:Str)(st:Stmt)(f:Addr)(fd:PP):Prop where
 ex:∃(oc:Value)(od:Option Addr)(kV doc pm:Value)(an:Option Addr)(cdv ct:Value)(osl:Array (Option Value)),
  fd=PySem.W.fnOf x qual (gH st) (dE st) (aj st) .none kV doc pm an cdv ct/\K.lookup f=some ⟨oc,od,.func fd,osl⟩/\PySem.W.codeIn K cdv qual=true
 kp:PySem.W.keepIn K (.ref f)=true
section
variable{P:Qw}{w:World}{K:PB}{mg:Str->Option Value}{base:Heap}
theorem CA.binds{x qual:Str}{st:Stmt}{f:Addr}{fd:PP}{ps:List Str}(F:CA K x qual st f fd)
  (h:∀(kV doc pm:Value)(an:Option Addr)(cdv ct:Value)(us:List Value),us.length=ps.length->bindArgs (PySem.W.fnOf x qual (gH st) (dE st) (aj st) .none kV doc pm an cdv ct) ⟨us,[]⟩=pure (ps.zip us)):Binds K fd ps []:=by
 obtain⟨oc,od,kV,doc,pm,an,cdv,ct,osl,rfl,lk,hcd⟩:=F.ex;exact .all (h kV doc pm an cdv ct)
theorem Ku{x qual:Str}{st:Stmt}{f:Addr}{oc:Value}{od an:Option Addr}{osl:Array (Option Value)}{kV doc pm cdv ct:Value}(l:K.lookup f=some ⟨oc,od,.func (PySem.W.fnOf x qual (gH st) (dE st) (aj st) .none kV doc pm an cdv ct),osl⟩)
  (c:PySem.W.codeIn K cdv qual=true)(k:PySem.W.keepIn K (.ref f)=true):CA K x qual st f (PySem.W.fnOf x qual (gH st) (dE st) (aj st) .none kV doc pm an cdv ct):=⟨⟨oc,od,kV,doc,pm,an,cdv,ct,osl,rfl,l,c⟩,k⟩
end
section
variable{X:Cx}
theorem pv(i:Nat){x:Str}{pos:Pos}(hN:X.N[i]? =some x:=by rfl)(hv:LP X.env.scope x:=by first|exact Or.inl rfl|exact Or.inr (Or.inl rfl)|exact Or.inr (Or.inr rfl))(hd:(x==("__debug__":Str))=false:=by decide)
  (hcd:(x==("__classdict__":Str))=false:=by decide):PE X (.Name x pos) (MN i):=Kz hN hv hd hcd
end
theorem Mq{A B:Prop}(h:B):if false=true then A else B:=by
 rw[Py PM];exact h
theorem Lv{A B:Prop}(h:A):if true=true then A else B:=by
 rw[Pz rfl];exact h
theorem gB{c A B:Prop} [Decidable c] (h1:c->A)(h2:¬c->B):if c then A else B:=by
 by_cases h:c
 ·rw[Pz h]
  exact h1 h
 ·rw[Py h]
  exact h2 h
def aD(H H':Hp):Prop:=∀b o,H b=some o->H' b=some o
theorem aD.refl(H:Hp):aD H H:=λ_ _ h=>h
theorem aD.trans{H H1 H2:Hp}(a:aD H H1)(b:aD H1 H2):aD H H2:=λc o h=>b c o (a c o h)
theorem aD.free{H H':Hp}(e:aD H H'){l:Addr}(h:H' l=Option.none):H l=Option.none:=by
 cases q:H l with
 |none=>rfl
 |some o=>
  rw[e l o q]at h;cases h
theorem at_of{xs:List V}{z:Int}{j:Nat}{v:V}(e:z=(j:Int))(h:xs[j]? =some v):B7 xs z=some v:=by
 rw[e];exact IL h
end L2
namespace L2
open PySem PySem.Spec PyProof.Rows
def jJ(C:Addr)(d:Option Addr)(vs:Array Value):Obj:={cls:= .ref C,dict:=d,data:= .fields vs}
def XO(e C:Addr)(d:Option Addr)(cx:Bool):HO:= .ext λh=>∃vs:Array Value,h.get? e=some (jJ C d vs)/\vs.size=6/\(cx=true->vs[2]? =some Value.none)
def XD(dx:Addr)(fs:List (Str×V)):HO:= .ext λh=>∃mA,h.Ns1 dx mA/\(∀f,qJ (fs.lookup f) (mA f))/\PySem.Within mA (fs.map (·.1))/\fs.length<=1000
def OT(h:Heap)(H:Hp)(n:Nat)(e:Addr)(vs:Array Value):Option (Addr×Value)->Prop
 |Option.none=>vs[1]? =some Value.none
 |some (T,f)=>vs[1]? =some (.ref T)/\T≠e/\n<=T/\H T=none/\∃oT ts,h.get? T=some oT/\oT.data=Data.fields ts/\ts[3]? =some f
def Rec(h:Heap)(H:Hp)(n:Nat)(e:Addr)(tb:Option (Addr×Value)):Prop:=
 ∃oe vs,h.get? e=some oe/\oe.data=Data.fields vs/\vs.size=6/\OT h H n e vs tb
def wW:Option (Addr×Value)->List Addr
 |none=>[]
 |some p=>[p.1]
section
variable{P:Qw}{w:World}{H:Hp}{h h':Heap}{e C:Addr}{d:Option Addr}{cx:Bool}
theorem Cc(ok:lV P w H h)(he:H e=some (XO e C d cx)):∃vs:Array Value,h.get? e=some (jJ C d vs)/\vs.size=6/\(cx=true->vs[2]? =some Value.none):=
 (show dH P w H h e (XO e C d cx)from ok e _ he).1
theorem G4{vs:Array Value}(g:h.get? e=some (jJ C d vs))(z:vs.size=6)(c:cx=true->vs[2]? =some Value.none):dH P w H h e (XO e C d cx):=
 ⟨⟨vs,g,z,c⟩,⟨_,g⟩,λ_ _⟨ws,g1,z1,c1⟩ k=>⟨ws,k _ g1,z1,c1⟩⟩
theorem JZ{dx:Addr}{fs:List (Str×V)}{mA:Str->Option Value}(n:h.Ns1 dx mA)(r:∀f,qJ (fs.lookup f) (mA f))(wi:PySem.Within mA (fs.map (·.1)))(z:fs.length<=1000):dH P w H h dx (XD dx fs):=by
 refine⟨⟨mA,n,r,wi,z⟩,?_,?_⟩
 ·obtain⟨o,_,_,g,_⟩:=n
  exact⟨o,g⟩
 ·rintro h1 h2 ⟨mB,⟨o,es,ep,g,q⟩,r',w',z'⟩ k
  exact⟨mB,⟨o,es,ep,k _ g,q⟩,r',w',z'⟩
theorem J_{dx:Addr}{fs:List (Str×V)}(ok:lV P w H h)(he:H dx=some (XD dx fs)):∃mA,h.Ns1 dx mA/\(∀f,qJ (fs.lookup f) (mA f))/\PySem.Within mA (fs.map (·.1))/\fs.length<=1000:=
 (show dH P w H h dx (XD dx fs)from ok dx _ he).1
theorem lV.turn(ok:lV P w H h)(he:H e=some (XO e C d cx))(k:∀b u o,b≠e->H b=some o->h.get? b=some u->h'.get? b=some u)
  (new:∀vs:Array Value,h.get? e=some (jJ C d vs)->vs.size=6->(cx=true->vs[2]? =some Value.none)->∃ws:Array Value,h'.get? e=some (jJ C d ws)/\ws.size=6/\(cx=true->ws[2]? =some Value.none)):lV P w H h':=λb o q=>by
 by_cases hb:b=e
 ·subst hb
  rw[he]at q;cases q;obtain⟨vs,g,z,c⟩:=Cc ok he;obtain⟨ws,g',z',c'⟩:=new vs g z c;exact G4 g' z' c'
 ·refine(ok b o q).vG (λc u hc g=>?_) (λ_ z=>z) λ_ _ z=>z
  rcases hc with rfl|hc
  ·exact k c u o hb q g
  ·refine k c u _ (λz=>?_) hc g
   subst z;rw[he]at hc;cases hc
end
section
variable{P:Qw}{w:World}{M:Model}{A:Around}{E:Value->Shared->Prop}{s:Shared}{H:Hp}{base:Heap}{env:Env}{outer:List Env}{L e C:Addr}{d:Option Addr}{cx:Bool}{n:Nat}
structure oJ(P:Qw)(w:World)(H:Hp)(l:List Env)(ch:List Addr)(h h':Heap):Prop where
 un:Un (yU l) ch H H h h'
 ok:lV P w H h'
theorem oJ.trans{l:List Env}{ch:List Addr}{h h1 h2:Heap}(a:oJ P w H l ch h h1)(b:oJ P w H l ch h1 h2):oJ P w H l ch h h2:=⟨a.un.trans b.un,b.ok⟩
theorem oJ.mono{l:List Env}{ch ch':List Addr}{h h1:Heap}(a:oJ P w H l ch h h1)(k:∀b∈ch,b∈ch'):oJ P w H l ch' h h1:=⟨a.un.mono (λ_ z=>z) k,a.ok⟩
theorem Cu{head:Value}{had:Bool}{vs:Array Value}{Q:Unit->Shared->Prop}(hfr:A.frames=some (env::outer))(hl:s.heap.FunFrames base (env::outer))(hf:env.frame=some L)(Dd:∀b∈yU (env::outer),H b=none)
  (ok:lV P w H s.heap)(he:H e=some (XO e C d cx))(ge:s.heap.get? e=some (jJ C d vs))(hz:vs.size=6)(hs:n<=s.heap.objs.size)
  (h:∀h' T,oJ P w H (env::outer) [] s.heap h'->Rec h' H n e (some (T,rawInt L))->(∀b o,s.heap.get? b=some o->b≠T)->Q () {s with heap:=h'}):
  wpAny M A (do let a<-frameOf env;let pl<-entryPlaceOf L had;let b<-EntryCells.newEntry head a .none (rawInt L) .none pl;setField (.ref e) 1 b) Q E s:=by
 have nfr:∀b o,H b=some o->b∉yU (env::outer):=λb o q hb=>by
  have z:=Dd b hb;rw[q]at z;cases z
 refine PN (wpAny_frameOf_fun hfr hl hf λh1 hs1=>?_);refine PN (wpAny_entryPlaceOf λpl hpl=>?_);unfold EntryCells.newEntry newFields;refine PN (wpAny_newObj_type ?_ (hpl.sizeOk5 _ _ _ _ _));have e1:h1.get? e=some (jJ C d vs):=(hs1.2.1 e (nfr e _ he)).trans ge;generalize hob:({cls:=Value.type "traceback",dict:=none,data:=Data.fields ([head,Value.ref L,Value.none,rawInt L,Value.none]++(if pl.isEmpty then List.replicate 6 Value.none else pl)).toArray}:Obj)=ob;have e2:(h1.push ob).get? e=some (jJ C d vs):=Qi _ e1;refine wpAny_setField e2 rfl (by omega) ?_;have neT:h1.objs.size≠e:=RN (P9 e1);have sz:h1.objs.size=s.heap.objs.size:=hs1.1;have fT:H h1.objs.size=none:=ok.fresh (by rw[sz];exact PF _);have e3:((h1.push ob).update e (Obj.mapFields (·.setIfInBounds 1 (Value.ref h1.objs.size)))).get? e=some (jJ C d (vs.setIfInBounds 1 (Value.ref h1.objs.size))):=RD _ e2 rfl;have oth:∀b o,b≠e->h1.get? b=some o->((h1.push ob).update e (Obj.mapFields (·.setIfInBounds 1 (Value.ref h1.objs.size)))).get? b=some o:=λb o hb q=>by
  rw[Ra _ _ (PZ hb)];exact Qi _ q
 have gT:((h1.push ob).update e (Obj.mapFields (·.setIfInBounds 1 (Value.ref h1.objs.size)))).get? h1.objs.size=some ob:=by
  rw[Ra _ _ (PZ neT)];exact QE h1 (by subst hob;rfl)
 refine h _ h1.objs.size ⟨⟨λb o q z hb _=>?_,λb o q z hb _=>?_,λ_ _ _ z _=>z,λb o q _=>?_,λ_ _ q=>q,λ_ _ _ q=>q,λb ps q=>⟨#[],by rw[q];simp⟩⟩,?_⟩ ?_ (λb o q=>by rw[sz];exact QC (P9 q))
 ·have hbe:b≠e:=λy=>by
   subst y;rw[he]at z;cases z
  exact oth b o hbe ((hs1.2.1 b hb).trans q)
 ·have hbe:b≠e:=λy=>by
   subst y;rw[he]at z;cases z
  obtain⟨sl,q1⟩:=hs1.2.2 b o q;exact⟨sl,oth b _ hbe q1⟩
 ·by_cases hbe:b=e
  ·subst hbe
   exact⟨_,e3⟩
  ·obtain⟨sl,q1⟩:=hs1.2.2 b o q
   exact⟨_,oth b _ hbe q1⟩
 ·refine ok.turn he (λb u o hb q g=>oth b u hb ((hs1.2.1 b (nfr b o q)).trans g)) λws g z c=>⟨ws.setIfInBounds 1 (Value.ref h1.objs.size),?_,by simpa using z,λhc=>?_⟩
  ·rw[ge]at g
   have q:vs=ws:=Data.fields.inj (QI Obj.data (Qk g));rw[<-q];exact e3
  ·rw[Array.getElem?_setIfInBounds_ne (by decide)]
   exact c hc
 ·refine⟨_,_,e3,rfl,by simpa using hz,?_,neT,by rw[sz];exact hs,fT,ob,_,gT,by subst hob;rfl,?_⟩
  ·simp[hz]
  ·first
   |(simp;done)
   |(rcases hpl with rfl|⟨_,_,_,_,_,_,_,rfl⟩<;>simp)
theorem Gv{h:Heap}{tb:Option (Addr×Value)}(R:Rec h H n e tb)(ok:lV P w H h)(he:H e=some (XO e C d cx)):∃vs,h.get? e=some (jJ C d vs)/\vs.size=6/\OT h H n e vs tb:=by
 obtain⟨oe,vs,g,hd,z,r⟩:=R;obtain⟨ws,g',_⟩:=Cc ok he;rw[g]at g';cases g';cases(show vs=ws from(Data.fields.inj hd).symm);exact⟨vs,g,z,r⟩
theorem wx{T:Addr}{f:Value}{fr:Option Addr}{Q:Unit->Shared->Prop}(R:Rec s.heap H n e (some (T,f)))(ok:lV P w H s.heap)(he:H e=some (XO e C d cx))(l:List Env)
  (h:∀h',oJ P w H l [T] s.heap h'->Rec h' H n e (some (T,fr.elim Value.none λa=>rawInt a))->Q () {s with heap:=h'}):wpAny M A (setFlight (.ref e) fr) Q E s:=by
 obtain⟨vs,g,z,h1,hTe,hnT,fT,oT,ts,gT,hdT,h3⟩:=Gv R ok he;have z3:3<ts.size:=(Array.getElem?_eq_some_iff.mp h3).1;unfold setFlight;refine PN (Sh g rfl h1 ?_);rw[Pz (show(Value.ref T !=Value.none)=true from by simp)];refine wpAny_setField gT hdT z3 ?_;have oth:∀b,b≠T->(s.heap.update T (Obj.mapFields (·.setIfInBounds 3 (fr.elim Value.none λa=>rawInt a)))).get? b=s.heap.get? b:=λb hb=>Ra _ _ (PZ hb);have gT':(s.heap.update T (Obj.mapFields (·.setIfInBounds 3 (fr.elim Value.none λa=>rawInt a)))).get? T=some (oT.mapFields (·.setIfInBounds 3 (fr.elim Value.none λa=>rawInt a))):=RD _ gT (Obj.isFreed_of_fields (Obj.data_mapFields hdT _));have ne:∀b o,H b=some o->b≠T:=λb o q y=>by
  subst y;rw[fT]at q;cases q
 refine h _ ⟨⟨λb o q _ _ hb=>?_,λb o q _ _ hb=>⟨o.slots,?_⟩,λ_ _ _ y _=>y,λb o q hb=>⟨o,?_⟩,λ_ _ q=>q,λ_ _ _ q=>q,λb ps q=>⟨#[],by rw[q];simp⟩⟩,?_⟩ ?_
 ·exact(oth b λy=>hb (by simp[y])).trans q
 ·exact(oth b λy=>hb (by simp[y])).trans q
 ·exact(oth b λy=>hb (by simp[y])).trans q
 ·exact ok.turn he (λb u o _ q g'=>(oth b (ne b o q)).trans g') λws g' z' c'=>⟨ws,(oth e (PZ hTe)).trans g',z',c'⟩
 ·exact⟨_,vs,(oth e (PZ hTe)).trans g,rfl,z,h1,hTe,hnT,fT,_,_,gT',Obj.data_mapFields hdT _,by simp[z3]⟩
def Goes(L:Addr):Option (Addr×Value)->Prop
 |none=>True
 |some p=>p.2=Value.none\/p.2=rawInt L
theorem IZ{l:List Env}{h:Heap}{T:Addr}{o:Obj}{ts:Array Value}(hl:h.FunFrames base l)(g:h.get? T=some o)(hd:o.data=Data.fields ts):T∉yU l:=λhm=>by
 obtain⟨_,o',g',q⟩:=hl.mem hm;rw[g]at g';cases g';exact q ts hd
theorem xj{tb:Option (Addr×Value)}{Q:Unit->Shared->Prop}(hfr:A.frames=some (env::outer))(hl:s.heap.FunFrames base (env::outer))(hf:env.frame=some L)(Dd:∀b∈yU (env::outer),H b=none)
  (ok:lV P w H s.heap)(he:H e=some (XO e C d cx))(R:Rec s.heap H n e tb)(G:Goes L tb)(hs:n<=s.heap.objs.size)
  (h:∀h' T,oJ P w H (env::outer) (wW tb) s.heap h'->Rec h' H n e (some (T,rawInt L))->(∀b o,s.heap.get? b=some o->b∉wW tb->b≠T)->Q () {s with heap:=h'}):wpAny M A (noteFrame (.ref e) env) Q E s:=by
 obtain⟨vs,g,z,r⟩:=Gv R ok he;unfold noteFrame;simp only[hf]
 match tb,R,G,r,h with
 |none,_,G,r,h=>
  refine PN (Sh g rfl r ?_);rw[Py (by decide)];exact Cu hfr hl hf Dd ok he g z hs λh' T' N2 R2 k2=>h h' T' N2 R2 λb o q _=>k2 b o q
 |some (T,f),R0,G,r,h=>
  obtain⟨h1,hTe,hnT,fT,oT,ts,gT,hdT,h3⟩:=r;refine PN (Sh g rfl h1 ?_);rw[Pz (show(Value.ref T !=Value.none)=true from by simp)];refine PN (Sh gT hdT h3 ?_);rcases(show f=Value.none\/f=rawInt L from G)with rfl|rfl
  ·rw[Py (show¬((Value.none==rawInt L)=true)from by simp[rawInt])]
   have z3:3<ts.size:=(Array.getElem?_eq_some_iff.mp h3).1;refine PN (wpAny_setField gT hdT z3 ?_);have oth:∀b,b≠T->(s.heap.update T (Obj.mapFields (·.setIfInBounds 3 Value.none))).get? b=s.heap.get? b:=λb hb=>Ra _ _ (PZ hb);have nT:=IZ hl gT hdT;have ne:∀b o,H b=some o->b≠T:=λb o q y=>by
    subst y;rw[fT]at q;cases q
   have u1:oJ P w H (env::outer) [T] s.heap (s.heap.update T (Obj.mapFields (·.setIfInBounds 3 Value.none))):=by
    refine⟨⟨λb o q _ _ hb=>?_,λb o q _ _ hb=>⟨o.slots,?_⟩,λ_ _ _ y _=>y,λb o q hb=>⟨o,?_⟩,λ_ _ q=>q,λ_ _ _ q=>q,λb ps q=>⟨#[],by rw[q];simp⟩⟩,?_⟩
    ·exact(oth b λy=>hb (by simp[y])).trans q
    ·exact(oth b λy=>hb (by simp[y])).trans q
    ·exact(oth b λy=>hb (by simp[y])).trans q
    ·exact ok.turn he (λb u o _ q g'=>(oth b (ne b o q)).trans g') λws g' z' c'=>⟨ws,(oth e (PZ hTe)).trans g',z',c'⟩
   refine Cu (s:={s with heap:=s.heap.update T (Obj.mapFields (·.setIfInBounds 3 Value.none))}) hfr (hl.of_keeps λb o hb nf=>⟨o,(oth b λy=>?_).trans hb,rfl⟩) hf Dd u1.ok he ((oth e (PZ hTe)).trans g) z (by rw[Heap.size_after_update];exact hs) λh' T' N2 R2 k2=>h h' T' (u1.trans (N2.mono (by simp))) R2 λb o q hb=>k2 b o ((oth b λy=>hb (by simp[y,wW])).trans q);subst y;rw[gT]at hb;cases hb;exact nf ts hdT
  ·rw[Pz (show(rawInt L==rawInt L)=true from by simp)]
   exact Qv (h s.heap T ⟨Un.refl,ok⟩ R0 λb o _ hb y=>hb (by simp[y,wW]))
end
theorem Un.behind{fs fs' ch:List Addr}{H0 H:Hp}{h0 h h':Heap}(a:Un fs [] H0 H h0 h)(b:Un fs' ch H H h h')(hf:∀x∈fs',x∈fs\/h0.objs.size<=x)(hc:∀x∈ch,h0.objs.size<=x):Un fs [] H0 H h0 h':=by
 have nc:∀x o,h0.get? x=some o->x∉ch:=λx o q m=>absurd (Qs (P9 q) (hc x m)) (Q3 _);have nf:∀x o,h0.get? x=some o->x∉fs->x∉fs':=λx o q m m'=>by
  rcases hf x m' with z|z
  ·exact m z
  ·exact absurd (Qs (P9 q) z) (Q3 _)
 have no:∀x:Addr,x∉([]:List Addr):=λ_ z=>nomatch z;refine⟨λx o q z m _=>?_,λx o q z m _=>?_,λx o q z _=>a.free x o q z (no x),λx o q _=>?_,a.rP,a.qF,a.rG⟩
 ·exact b.keep x o (a.keep x o q z m (no x)) (a.free x o q z (no x)) (nf x o q m) (nc x o q)
 ·obtain⟨sl,q1⟩:=a.slot x o q z m (no x)
  obtain⟨sl',q2⟩:=b.any q1 (a.free x o q z (no x)) (nc x o q);exact⟨sl',q2⟩
 ·obtain⟨o1,q1⟩:=a.there x o q (no x)
  exact b.there x o1 q1 (nc x o q)
theorem Rec.Mu{h:Heap}{H:Hp}{n m:Nat}{e:Addr}{tb:Option (Addr×Value)}(R:Rec h H n e tb)(k:m<=n):Rec h H m e tb:=by
 obtain⟨oe,vs,g,hd,z,r⟩:=R;refine⟨oe,vs,g,hd,z,?_⟩
 match tb,r with
 |none,r=>exact r
 |some (T,f),⟨r1,r2,r3,r4⟩=>exact⟨r1,r2,Qq k r3,r4⟩
def cW(P:Qw)(w:World):Ey:=λouter H s E ev s'=>∃e C d cx T H',ev=.ref e/\s'.os=s.os/\AllBare s'.gens/\Un (yU outer) [] H H' s.heap s'.heap/\lV P w H' s'.heap/\
 H' e=some (XO e C d cx)/\Rec s'.heap H' s.heap.objs.size e (some (T,Value.none))/\E (.ref C) (some e) H'
def Lets(X:Cx)(E:XK):Prop:=∀(pins:List (Addr×Obj))(σ:St)(H:Hp)(s:Shared)(e C:Addr)(d:Option Addr)(cx:Bool)(tb:Option (Addr×Value)),Inv X pins σ H s->H e=some (XO e C d cx)->
 Rec s.heap H X.vz.heap.objs.size e tb->(∀p∈X.pn++pins,∀b∈wW tb,p.1≠b)->Goes X.env.locals tb->E (.ref C) (some e) H->X.xe (.ref e) s
theorem aK{P:Qw}{w:World}{X:Cx}:Passes (cW P w) X E0:=λ_ _ _ _ _ _ _⟨_,_,_,_,_,_,_,_,_,_,_,_,_,h⟩=>h.elim
theorem Lets.passes{X:Cx}{E:XK}(l:Lets X E):Passes (cW X.prog X.w) X E:=by
 rintro pins σ H s ev s' I ⟨e,C,d,cx,T,H',rfl,os,bare,un,ok,he,R,q⟩
 refine l pins σ H' s' e C d cx _ (I.Hg (ch:=[]) os un ok bare (λb z=>nomatch z)) he (R.Mu I.sz) (λp hp b hb=>?_) (.inl rfl) q;obtain⟨_,_,_,_,_,_,_,hT,_⟩:=R;have eb:b=T:=by simpa[wW]using hb
 subst eb;exact QC (Qs (P9 (I.pin p hp).1) hT)
theorem zB{h:Heap}{H:Hp}{n:Nat}{e:Addr}{tb:Option (Addr×Value)}(R:Rec h H n e tb):∀b∈wW tb,n<=b:=by
 intro b hb;cases tb with
 |none=>exact nomatch hb
 |some p=>
  obtain⟨_,_,_,_,_,_,_,hT,_⟩:=R;have eb:b=p.1:=Qb.mp hb;rw[eb];exact hT
section
variable{P:Qw}{w:World}{K:PB}{mg:Str->Option Value}{base:Heap}{N:List Str}{qual:Str}{scope:Scope}{f:Addr}{cd:Value}{A:Around}{outer:List Env}{s:Shared}{H:Hp}{E:XK}
theorem ay:Lets (uA (cW P w) P w K mg base N qual scope f cd A outer s H E) E:=by
 intro pins σ H' s' e C d cx tb I he R hp G q;show wpAny (model P w) _ (leaving _ (.ref e)) _ _ s';have hst:(envOfC qual scope s.heap.objs.size f cd).frame=some s.heap.objs.size:=rfl;unfold leaving;refine PN (xj (P:=P) (w:=w) (base:=base) (n:=s.heap.objs.size) I.ok.frames I.stack hst I.vW I.cE he R G (show s.heap.objs.size<=_ from I.sz) λh1 T N1 R1 _=>?_);refine wx (s:={s' with heap:=h1}) (fr:=none) R1 N1.ok he (envOfC qual scope s.heap.objs.size f cd::outer) λh2 N2 R2=>?_;have u0:Un (yU outer) [] H H' s.heap s'.heap:=I.base;have yT:=zB R1;have hfr:∀x∈yU (envOfC qual scope s.heap.objs.size f cd::outer),x∈yU outer\/s.heap.objs.size<=x:=λx hx=>by
  rcases Qh.mp (show x∈s.heap.objs.size::yU outer from hx)with z|z
  ·exact .inr (Nat.le_of_eq z.symm)
  ·exact .inl z
 have u1:=u0.behind N1.un hfr (zB R);have u2:=u1.behind N2.un hfr yT;exact⟨e,C,d,cx,T,H',rfl,I.os,I.bare,u2,N2.ok,he,R2,q⟩
end
section
variable{P:Qw}{w:World}{K:PB}{mg:Str->Option Value}{base:Heap}
theorem CA.OR{x qual:Str}{st:Stmt}{f:Addr}{fd:PP}{N ps:List Str}{k:Nat}{sp:Sp}(F:CA K x qual st f fd)(S:az N ps (aj st))(len:∀vs H Q E,sp vs H Q E->vs.length=ps.length)
  (hb:∀(cdv:Value)(A:Around)(outer:List Env)(s:Shared)(H:Hp)(vs:List V)(Q:VK)(E:XK),fZ k (A.deeper (envOfC qual (aj st) s.heap.objs.size f cdv))->sp vs H Q E->
   ∃t,xx (uA (cW P w) P w K mg base N qual (aj st) f cdv A outer s H E) (dE st) t/\t {nx:=λ_ H'=>Q .eB H',rt:=Q} (start N vs) H):a4 P w K mg base (cW P w) (k+1) f fd ps sp:=by
 obtain⟨oc,od,kV,doc,pm,an,cdv,ct,osl,rfl,lk,hcd⟩:=F.ex;exact Mg lk hcd S len λA outer s H vs Q E hr hsp=>hb cdv A outer s H vs Q E hr hsp
theorem CA.Nr{x qual:Str}{st:Stmt}{f:Addr}{fd:PP}{N ps:List Str}{k:Nat}{sp:Sp}(F:CA K x qual st f fd)(S:az N ps (aj st))(len:∀vs H Q E,sp vs H Q E->vs.length=ps.length)
  (hb:∀(cdv:Value)(A:Around)(outer:List Env)(s:Shared)(H:Hp)(vs:List V)(Q:VK)(E:XK),fZ k (A.deeper (envOfC qual (aj st) s.heap.objs.size f cdv))->sp vs H Q E->
   ∃t,xx (uA (cW P w) P w K mg base N qual (aj st) f cdv A outer s H E).M9 (dE st) t/\t {nx:=λ_ H'=>Q .eB H',rt:=Q} (start N vs) H):a4 P w K mg base (cW P w) (k+1) f fd ps sp:=
 F.OR S len λcdv A outer s H vs Q E hr hsp=>let⟨t,h,q⟩:=hb cdv A outer s H vs Q E hr hsp;⟨t,h.M9,q⟩
end
abbrev Cx.re(X:Cx)(A:Around)(c:Bool)(pn:List (Addr×Obj))(xe:Value->Shared->Prop):Cx:={X with A:=A,calm:=c,pn:=pn,xe:=xe}
section
variable{X:Cx}{pins pins' pn:List (Addr×Obj)}{σ:St}{H:Hp}{s:Shared}{A:Around}{c:Bool}{xe:Value->Shared->Prop}
theorem Inv.re(I:Inv X pins σ H s)(hA:A.frames=X.A.frames)(hc:c=true->A.handled=none)(hp:∀p∈pn++pins',p∈X.pn++pins):Inv (X.re A c pn xe) pins' σ H s:=
 ⟨⟨I.ok.mod,I.ok.kind,I.ok.glob,I.ok.blt,I.ok.above,I.ok.inj,I.ok.has,I.ok.LA,hc,hA.trans I.ok.frames,I.ok.LQ,I.ok.LN,I.ok.bs,I.ok.F5,I.ok.Dm,I.ok.Db,I.ok.rK,I.ok.Dd⟩,
  I.os,I.bare,I.base,I.loc,I.cell,I.free,I.ms,λp q=>I.pin p (hp p q),I.cE,I.len⟩
theorem Inv.back(I:Inv (X.re A c pn xe) pins σ H s)(hA:A.frames=X.A.frames)(hc:X.calm=true->X.A.handled=none)(hp:∀p∈X.pn++pins',p∈pn++pins):Inv X pins' σ H s:=
 ⟨⟨I.ok.mod,I.ok.kind,I.ok.glob,I.ok.blt,I.ok.above,I.ok.inj,I.ok.has,I.ok.LA,hc,hA.symm.trans I.ok.frames,I.ok.LQ,I.ok.LN,I.ok.bs,I.ok.F5,I.ok.Dm,I.ok.Db,I.ok.rK,I.ok.Dd⟩,
  I.os,I.bare,I.base,I.loc,I.cell,I.free,I.ms,λp q=>I.pin p (hp p q),I.cE,I.len⟩
end
abbrev Iy:List Value:=[.type "ValueError",.type "Exception",.type "BaseException",.type "object"]
structure nB(K:PB)(C:Addr):Prop where
 mro:∃cd:ClassData,PySem.W.clsIn K C=some cd/\cd.mro=.ref C::Iy/\cd.hasDict=true
 sa:PySem.W.findIn K (.ref C) "__setattr__"=some (some (.builtin "object.__setattr__"))
 ga:PySem.W.findIn K (.ref C) "__getattribute__"=some (some (.builtin "BaseException.__getattribute__"))
 gt:PySem.W.findIn K (.ref C) "__getattr__"=some none
def K3(C t:Addr)(d:Option Addr):Obj:=jJ C d #[.ref t,.none,.none,.none,.bool false,.none]
def XI(e C t:Addr)(d:Option Addr):HO:= .ext λh=>h.get? e=some (K3 C t d)
section
variable{prog:Qw}{w:World}{A:Around}{K:PB}{C e t f:Addr}{name:Str}{v:Value}{s:Shared}{ox:Obj}{od:Option Obj}
theorem nB.has(c:nB K C){b:Value}{r:Bool}(h:(Value.ref C::Iy).contains b=r):PySem.W.mroIn K C b=some r:=by
 obtain⟨cd,h1,h2,_⟩:=c.mro;unfold PySem.W.mroIn;rw[h1,QT,h2,Py (by simp),h]
theorem nB.obj(c:nB K C):PySem.W.mroIn K C (.type "object")=some true:=c.has (by simp)
theorem nB.exc(c:nB K C):PySem.W.mroIn K C (.type "BaseException")=some true:=c.has (by simp)
theorem Ks{R:Result->Shared->Prop}{tk:Tok}(c:nB K C)(X:K.In s.heap)(I:PySem.W.InstAt s.heap e ox C od)(n:PySem.W.findIn K (.ref C) name=some none)
  (h:wpAny (model prog w) A.in1 (Builtin.ObjectAttr.storeInOwnDict (.ref e) (.ref C) (.str name tk) name v false)
   (λfin s'=>match fin with|.done f=>R (.ok f) s'|.again c'=>c'.quiet=true/\codeAny (model prog w) A c' R s') (λy s'=>R (.error y) s') s):
  codeAny (model prog w) A (.call (.builtin "object.__setattr__") ⟨[.ref e,.str name tk,v],[]⟩) R s:=by
 have SF:=PySem.F.store_ValueError;obtain⟨cd,h1,h2,h3⟩:=c.mro;have sub:PySem.W.Looks (model prog w) s.heap (isInstance (.ref e) (.type "object")) true:=I.type.andThen (PySem.W.looks_mroIn X c.obj);refine codeAny_call_builtin SF.slot.plain SF.entry (@PySem.W.check_slot (model prog w) _ _ s "object.__setattr__" "object" "__setattr__" (.ref e) [.str name tk,v] [] _ SF.kind SF.split sub (SF.args (.ref e) (.str name tk) v) ?_);have hm:PySem.W.Looks (model prog w) s.heap (mroOf (.ref C)) cd.mro:=(Si X h1).andThen .now;rw[PySem.W.osa_eq,refuse_eq];refine PN (PN (I.type.here (PN (hm.here ?_))));rw[h2,refuseLoop_ref,SF.passes];exact Qv (PN (I.type.here (PN ((Sc X n).here (PN (Qv h))))))
theorem Hr{E:Value->Shared->Prop}{vs:Array Value}{Q:Unit->Shared->Prop}(c:nB K C)(X:K.In s.heap)(n:PySem.W.findIn K (.ref C) name=some none)(he:s.heap.get? e=some (jJ C none vs))
  (h:∀h' tk,h'.get? e=some (jJ C (some s.heap.objs.size) vs)->h'.Ns1 s.heap.objs.size (λy=>if y=name then some v else none)->(∀b o,b≠e->s.heap.get? b=some o->h'.get? b=some o)->Q () {s with heap:=h',toks:=tk}):
  wpAny (model prog w) A (setAttr (.ref e) name v) Q E s:=by
 have I:PySem.W.InstAt s.heap e (jJ C none vs) C none:=⟨he,rfl,rfl,trivial⟩;obtain⟨cd,h1,h2,h3⟩:=c.mro;refine PySem.W.set_plain X I c.sa (Ks (s:={s with toks:=s.toks+1}) c X I n ?_);have hx1:(s.heap.push {cls:= .type "dict",data:= .dict #[]}).get? e=some (jJ C none vs):=Qi _ he;have hxs:e≠s.heap.objs.size:=QC (P9 he);refine PN (Qv (PN (PN (wpAny_loadPart he (PN (PySem.W.Looks.here (s:={s with toks:=s.toks+1}) (Si X h1) ?_))))));rw[h3];refine PN (wpAny_alloc ?_);refine PN (wpAny_update hx1 ?_);refine Qv ?_;have hgd:((s.heap.push {cls:= .type "dict",data:= .dict #[]}).update e λo=>{cls:=o.cls,dict:=some s.heap.objs.size,data:=o.data,slots:=o.slots}).get? s.heap.objs.size=some {cls:= .type "dict",data:= .dict #[]}:=
  (Heap.get?_update_ne _ _ _ _ hxs.symm).trans (Heap.get?_push_at rfl rfl)
 have hge:((s.heap.push {cls:= .type "dict",data:= .dict #[]}).update e λo=>{cls:=o.cls,dict:=some s.heap.objs.size,data:=o.data,slots:=o.slots}).get? e=some (jJ C (some s.heap.objs.size) vs):=RD _ hx1 rfl;have hnd:((s.heap.push {cls:= .type "dict",data:= .dict #[]}).update e λo=>{cls:=o.cls,dict:=some s.heap.objs.size,data:=o.data,slots:=o.slots}).Ns s.heap.objs.size (λ_=>none):=
  ⟨_,#[],_,hgd,rfl,λy hy=>absurd hy (by simp),λ_=>rfl⟩
 refine PN (Qv (PN (wpAny_nsSet1 (Heap.Ns1.of_empty hnd) λh' hn' hs=>?_)));obtain⟨oD,esD,epD,hoD,hdD,hcD⟩:=hn'.count (Within.cons name v Within.nil);refine PN (wpAny_lookBehind hoD (by rw[hdD];exact pastItsLine_dict (Qq hcD (by rw[Qj,List.length_nil,PL];omega))) ?_);refine Qv (h h' _ ((hs.2 e hxs).trans hge) hn' λb o hb q=>?_);exact(hs.2 b (QC (P9 q))).trans ((Heap.get?_update_ne _ _ _ _ hb).trans (Qi _ q))
theorem Hj{E:Value->Shared->Prop}{vs:Array Value}{dx:Addr}{mA:Str->Option Value}{ns:List Str}{Q:Unit->Shared->Prop}(c:nB K C)(X:K.In s.heap)(n:PySem.W.findIn K (.ref C) name=some none)
  (he:s.heap.get? e=some (jJ C (some dx) vs))(hd:s.heap.Ns1 dx mA)(hw:PySem.Within mA ns)(hsz:ns.length<=sizeLine)
  (h:∀h' tk,h'.Ns1 dx (λy=>if y=name then some v else mA y)->Heap.SameBut dx s.heap h'->Q () {s with heap:=h',toks:=tk}):wpAny (model prog w) A (setAttr (.ref e) name v) Q E s:=by
 obtain⟨o,ho,_⟩:=uz hd;have I:PySem.W.InstAt s.heap e (jJ C (some dx) vs) C (some o):=⟨he,rfl,rfl,ho⟩;obtain⟨cd,h1,h2,h3⟩:=c.mro;refine PySem.W.set_plain X I c.sa (Ks (s:={s with toks:=s.toks+1}) c X I n ?_);refine PN (Qv (PN (PN (wpAny_loadPart he (PN (PySem.W.Looks.here (s:={s with toks:=s.toks+1}) (Si X h1) ?_))))));rw[h3];refine Qv (a:=some dx) (PN (Qv (PN ?_)));refine wpAny_nsSet1 (s:={s with toks:=s.toks+1}) hd λh' hn2 hs2=>?_;obtain⟨oD,esD,epD,hoD,hdD,hcD⟩:=hn2.count (PySem.Within.cons name v hw);refine PN (wpAny_lookBehind hoD (by rw[hdD];exact pastItsLine_dict (Qq hcD (by rw[Qj];omega))) ?_);exact Qv (h _ _ hn2 hs2)
theorem MV{E:Value->Shared->Prop}{vs:Array Value}{dx:Addr}{mA:Str->Option Value}{expr:Bool}{Q:Value->Shared->Prop}(c:nB K C)(X:K.In s.heap)(n:PySem.W.findIn K (.ref C) name=some none)
  (he:s.heap.get? e=some (jJ C (some dx) vs))(hd:s.heap.Ns1 dx mA)(hv:mA name=some v)(hh:PySem.W.handedIn v=true)(h:Q v {s with toks:=s.toks+1}):wpAny (model prog w) A (getAttr (.ref e) name expr) Q E s:=by
 obtain⟨o,ho,hl⟩:=uz hd;have I:PySem.W.InstAt s.heap e (jJ C (some dx) vs) C (some o):=⟨he,rfl,rfl,ho⟩;obtain⟨cd,h1,h2,h3⟩:=c.mro;have hf:PySem.W.findObj K C (some o) name=some (.value v):=PySem.W.findObj_own (attr:=none) (by unfold PySem.W.hasDictIn;rw[h1];exact h3) n rfl (by rw[hl,hv]);have hx0:(expr&&onTheHeap (Value.builtin "BaseException.__getattribute__"))=false:=by cases expr<;>rfl
 have hx2:(Value.builtin "BaseException.__getattribute__"==Value.builtin "object.__getattribute__")=false:=by decide+kernel
 have sub:PySem.W.Looks (model prog w) s.heap (isInstance (.ref e) (.type "BaseException")) true:=I.type.andThen (PySem.W.looks_mroIn X c.exc);have sl:Slot "ValueError" "__getattribute__" "BaseException.__getattribute__":= .of (owner:="BaseException") (n:="__getattribute__") (by rw[typeLookup_type,builtinLookup_eq_fast];kernel_rfl) (by decide+kernel) (by decide+kernel) (by decide+kernel)
  (by first|exact .inl (by decide+kernel)|exact .inr (by decide+kernel)) (by rw[isSubtype_type];kernel_rfl)
 have L0:=I.type (M:=model prog w);have L1:=Sc (M:=model prog w) X c.ga;have L2:=Sc (M:=model prog w) X c.gt;have L3:=PySem.W.looks_find (M:=model prog w) X I hf;unfold getAttr getAttrBy;refine PN (wpAny_mkText (Sg (PN (L0.here (s:={s with toks:=s.toks+1}) (PN (L1.here (s:={s with toks:=s.toks+1}) ?_))))));dsimp only;rw[hx2,Bool.and_false,Py PM];unfold getAttrByItsOwn hookBefore;rw[Pz (show onTheHeap (Value.ref C)=true from rfl)];refine PN (L2.here (s:={s with toks:=s.toks+1}) (PN (wpAny_attempt (Sg ?_))));unfold callGetattribute boundAndCalled;rw[hx0,Py PM,sl.bind];refine PN (Qv (wpAny_call (codeAny_call_builtin sl.plain F.entry_bexc_ga (@PySem.W.check_slot (model prog w) _ _ {s with toks:=s.toks+1} "BaseException.__getattribute__" "BaseException" "__getattribute__" (.ref e) [.str name s.toks] [] _ (by decide+kernel) (by decide+kernel) sub (F.args_bexc_ga (.ref e) (.str name s.toks)) ?_))));refine PN (Qv (PN (Qv (PN (L0.here (s:={s with toks:=s.toks+1}) (PN (L3.here (s:={s with toks:=s.toks+1}) ?_)))))));refine Qv ?_;show wpAny _ _ (handedOut v) _ _ _;rw[PySem.W.handedOut_of hh];exact Qv h
end
section
variable{P:Qw}{w:World}{H:Hp}{h h':Heap}{a:Addr}{o:HO}
theorem dH.there(x:dH P w H h a o):∃q,h.get? a=some q:=by
 cases o with
 |lst xs=>obtain⟨_,_,_,_,e⟩:=x;exact⟨_,e⟩
 |tup xs=>obtain⟨_,_,_,o,e,_⟩:=x;exact⟨_,e⟩
 |dK kvs=>obtain⟨_,_,_,_,o,_,_,e,_⟩:=x;exact⟨_,e⟩
 |dT kvs=>obtain⟨_,_,_,_,o,_,_,e,_⟩:=x;exact⟨_,e⟩
 |set S n=>obtain⟨o,_,_,_,e,_⟩:=x;exact⟨_,e⟩
 |ins C dx fs=>obtain⟨_,_,_,e,_⟩:=x;exact⟨_,e⟩
 |own y=>exact x
 |xd fs=>obtain⟨_,⟨_,_,_,e,_⟩,_⟩:=x;exact⟨_,e⟩
 |Nt lo hi=>obtain⟨_,_,_,e⟩:=x;exact⟨_,e⟩
 |xK ob u=>obtain⟨e,_⟩:=x;exact⟨_,e⟩
 |J1 ps=>exact⟨_,(show h.get? a=some _ from x)⟩
 |met f y=>exact⟨_,(show h.get? a=some _ from x)⟩
 |ext φ=>exact x.2.1
theorem lV.none_of(x:lV P w H h)(e:h.get? a=none):H a=none:=by
 cases q:H a with
 |none=>rfl
 |some u=>
  obtain⟨z,g⟩:=(x a u q).there;rw[e]at g;cases g
theorem lV.z4(x:lV P w H h)(k:∀b u,h.get? b=some u->h'.get? b=some u)(hn:h.get? a=none)(new:dH P w (upd H a o) h' a o):lV P w (upd H a o) h':=λb u e=>by
 have hn:=x.none_of hn
 by_cases hb:b=a
 ·subst hb;rw[ah]at e;cases e;exact new
 ·rw[ai hb]at e
  exact(x b u e).vG (λc v _ q=>k c v q) (λc q=>by rw[ai (ak q hn)];exact q) λc xs q=>by rw[ai (ak q hn)];exact q
theorem Un.z4{fs ex:List Addr}(k:∀b u,h.get? b=some u->h'.get? b=some u)(hg:h.get? a=none)(hn:H a=none):Un fs ex H (upd H a o) h h' where
 keep:=λb u q _ _ _=>k b u q
 slot:=λb u q _ _ _=>⟨u.slots,k b u q⟩
 free:=λb u q n _=>by
  have hb:b≠a:=λz=>by rw[z,hg]at q;cases q
  rw[ai hb];exact n
 there:=λb u q _=>⟨u,k b u q⟩
 rP:=λb xs q=>by rw[ai (ak q hn)];exact q
 qF:=λb u xs q=>by rw[ai (ak q hn)];exact q
 rG:=λb ps q=>⟨#[],by rw[ai (ak q hn),q];simp⟩
end
section
variable{X:Cx}{pins:List (Addr×Obj)}{σ:St}{H:Hp}{s:Shared}{h':Heap}
theorem Inv.z4{a:Addr}{o:HO}{t':Nat}(I:Inv X pins σ H s)(k:∀b u,s.heap.get? b=some u->h'.get? b=some u)(hg:s.heap.get? a=none)(new:dH X.prog X.w (upd H a o) h' a o):
  Inv X pins σ (upd H a o) {s with heap:=h',toks:=t'}:=I.un (Un.z4 k hg (I.cE.none_of hg)) (I.cE.z4 k hg new)
end
section
variable{P:Qw}{w:World}{H:Hp}{h:Heap}{e C t:Addr}{d:Option Addr}
theorem uP(ok:lV P w H h)(he:H e=some (XI e C t d)):h.get? e=some (K3 C t d):=(show dH P w H h e (XI e C t d)from ok e _ he).1
theorem GU(g:h.get? e=some (K3 C t d)):dH P w H h e (XI e C t d):=⟨g,⟨_,g⟩,λ_ _ g1 k=>k _ g1⟩
end
def Pg(K:PB)(ta tv:TE)(f:Str):TS:=λD σ H=>tv σ H λy H1=>ta σ H1 λx H2=>∃e C t,x=.ref e/\H2 e=some (XI e C t none)/\nB K C/\aP K C f/\
 ∀dx,H2 dx=none->dx≠e->D.nx σ (upd (upd H2 dx (XD dx [(f,y)])) e (XI e C t (some dx)))
def Pa(K:PB)(ta tv:TE)(f:Str):TS:=λD σ H=>tv σ H λy H1=>ta σ H1 λx H2=>∃e C t dx fs,x=.ref e/\H2 e=some (XI e C t (some dx))/\H2 dx=some (XD dx fs)/\nB K C/\aP K C f/\fs.length<1000/\
 D.nx σ (upd H2 dx (XD dx (cf f y fs)))
section
variable{X:Cx}{o value:Expr}{f:Str}{pos pos':Pos}{ta tv:TE}
theorem DW(ha:PE X o ta)(hv:PE X value tv)(hs:swapsWith value (some (.Attribute o f pos')) pos.line X.env=pure false):PS X (.Assign [.Attribute o f pos'] value pos) (Pg X.K ta tv f):=by
 intro pins s σ H D I h;refine RX (dM (hv pins s σ H _ I h) λu s1⟨y,H1,I1,ry,q⟩=>dM (ha pins s1 σ H1 _ I1 q) λov s2⟨x,H2,I2,rx,e,C,t,ex,ee,c,n,q2⟩=>?_) hs;subst ex;obtain rfl:ov=Value.ref e:=rx;have g:=uP I2.cE ee;refine Hr c I2.qQ n g λh' tk g1 n1 k1=>⟨σ,_,?_,q2 s2.heap.objs.size (I2.cE.fresh (PF _)) (RN (P9 g))⟩;have fz:H2 s2.heap.objs.size=none:=I2.cE.fresh (PF _);have ne:s2.heap.objs.size≠e:=RN (P9 g);have ke:∀b u,b≠e->H2 b=some u->upd (upd H2 s2.heap.objs.size (XD s2.heap.objs.size [(f,y)])) e (XI e C t (some s2.heap.objs.size)) b=some u:=λb u hb q=>by
  rw[ai hb,ai (ak q fz)];exact q
 have tn:∀b u,H2 b=some u->(∀φ,u≠.ext φ)->b≠e:=λb u q z y=>by
  subst y;rw[ee]at q;cases q;exact z _ rfl
 refine I2.un ⟨λb ob q z _ _=>?_,λb ob q z _ _=>⟨ob.slots,?_⟩,λb ob q z _=>?_,λb ob q _=>?_,λb xs q=>ke b _ (tn b _ q λ_ z=>nomatch z) q,λb ob xs q=>ke b _ (tn b _ q λ_ z=>nomatch z) q,λb ps q=>⟨#[],by rw[ke b _ (tn b _ q λ_ z=>nomatch z) q];simp⟩⟩ ?_
 ·exact k1 b ob (λy=>by subst y;rw[ee]at z;cases z) q
 ·exact k1 b ob (λy=>by subst y;rw[ee]at z;cases z) q
 ·rw[ai (λy=>by subst y;rw[ee]at z;cases z),ai (QC (P9 q))]
  exact z
 ·by_cases hb:b=e
  ·subst hb
   exact⟨_,g1⟩
  ·exact⟨ob,k1 b ob hb q⟩
 ·intro b u q
  by_cases hb:b=e
  ·subst hb
   rw[ah]at q;cases q;exact GU g1
  ·rw[ai hb]at q
   by_cases hb2:b=s2.heap.objs.size
   ·subst hb2
    rw[ah]at q;cases q;refine JZ n1 (λz=>?_) (λz hz=>?_) (by show 1<=1000;decide)
    ·show qJ (List.lookup z [(f,y)]) (if z=f then some _ else none)
     by_cases hz:z=f
     ·subst hz
      rw[Pz rfl];simp only[List.lookup,beq_self_eq_true];exact ry
     ·rw[Py hz]
      have hb:(z==f)=false:=RV.mpr hz;simp only[List.lookup,hb];exact trivial
    ·by_cases hzf:z=f
     ·subst hzf
      simp
     ·exact absurd (Py hzf) hz
   ·rw[ai hb2]at q
    refine(I2.cE b u q).vG (λc v hc z=>?_) (λc z=>ke c _ (tn c _ z λ_ y=>nomatch y) z) λc xs z=>ke c _ (tn c _ z λ_ y=>nomatch y) z;rcases hc with rfl|hc
    ·exact k1 c v hb z
    ·exact k1 c v (tn c _ hc λ_ y=>nomatch y) z
theorem J0(ha:PE X o ta)(hv:PE X value tv)(hs:swapsWith value (some (.Attribute o f pos')) pos.line X.env=pure false):PS X (.Assign [.Attribute o f pos'] value pos) (Pa X.K ta tv f):=by
 intro pins s σ H D I h;refine RX (dM (hv pins s σ H _ I h) λu s1⟨y,H1,I1,ry,q⟩=>dM (ha pins s1 σ H1 _ I1 q) λov s2⟨x,H2,I2,rx,e,C,t,dx,fs,ex,ee,ed,c,n,hl,q2⟩=>?_) hs;subst ex;obtain rfl:ov=Value.ref e:=rx;have g:=uP I2.cE ee;obtain⟨mA,na,ra,wa,za⟩:=J_ I2.cE ed;have ne:dx≠e:=λz=>by
  subst z;obtain⟨ob,es,ep,g2,hd2,_⟩:=na;rw[g]at g2;cases g2;cases hd2
 refine Hj c I2.qQ n g na wa (by rw[Px,PL];omega) λh' tk n1 sb=>⟨σ,_,I2.write (x:=dx) (e:=dx) (by rw[ed];exact True.intro) (.inl rfl) (λb ob hb q=>(sb.2 b hb).trans q) ?_ ?_,q2⟩
 ·obtain⟨ob,_,_,g2,_⟩:=n1
  exact⟨ob,g2⟩
 ·refine JZ n1 (λz=>?_) (λz hz=>?_) (by have:=p6 f y fs;omega)
  ·show qJ ((cf f y fs).lookup z) (if z=f then some u else mA z)
   rw[o4]
   by_cases q:z=f
   ·rw[Pz q,Pz q];exact ry
   ·rw[Py q,Py q];exact ra z
  ·by_cases q:z=f
   ·rw[q];exact(nA f y fs).1
   ·refine(nA f y fs).2 z (wa z λy'=>hz ?_)
    show(if z=f then some u else mA z)=none;rw[Py q];exact y'
end
structure uV(P:Qw)(w:World)(K:PB)(mg:Str->Option Value)(base:Heap)(f:Addr)(fd:PP)(ps:List Str)(sp:List V->Hp->VK->Prop):Prop where
 len:∀vs H Q,sp vs H Q->vs.length=ps.length
 run:∀(A:Around)(outer:List Env)(s:Shared)(H:Hp)(args:Args)(us:List Value)(vs:List V)(Q:VK),A.depth<recursionLimit->B3 P w K mg base A outer s H->BindsTo s fd args (ps.zip us)->Vals vs us->sp vs H Q->
  codeAny (model P w) A (.call (.ref f) args) (CR Oi outer P w H s Q E0) s
abbrev OA(P:Qw)(w:World)(K:PB)(mg:Str->Option Value)(base:Heap)(N:List Str)(qual:Str)(scope:Scope)(f:Addr)(cd:Value)(A:Around)(outer:List Env)(s:Shared)(H:Hp):Cx:=
 (uA Oi P w K mg base N qual scope f cd {A with handled:=none} outer s H E0).re (A.deeper (envOfC qual scope s.heap.objs.size f cd)) false [] λ_ _=>False
theorem CA.okN{P:Qw}{w:World}{K:PB}{mg:Str->Option Value}{base:Heap}{x qual:Str}{st:Stmt}{f:Addr}{fd:PP}{N ps:List Str}{sp:List V->Hp->VK->Prop}(F:CA K x qual st f fd)(S:az N ps (aj st))
  (len:∀vs H Q,sp vs H Q->vs.length=ps.length)
  (hbody:∀(cdv:Value)(A:Around)(outer:List Env)(s:Shared)(H:Hp)(vs:List V)(Q:VK),sp vs H Q->∃t,xx (OA P w K mg base N qual (aj st) f cdv A outer s H) (dE st) t/\t {nx:=λ_ H'=>Q .eB H',rt:=Q} (start N vs) H):
  uV P w K mg base f fd ps sp:=by
 obtain⟨oc,od,kV,doc,pm,an,cdv,ct,osl,rfl,lk,hcd⟩:=F.ex;refine⟨len,λA outer s H args us vs Q hdp e0 hb r hsp=>?_⟩;have hl:=len _ _ _ hsp;have KX:K.In s.heap:=e0.mod.JX.keeps λb o e=>(e0.bs b o e).1;have lim:s.heap.NoLimit:=e0.mod.nolimit.keeps λb o e=>(e0.bs b o e).1;have hk:∀y∈ps.zip us,(aj st).names.lookup y.1=some .local\/((aj st).names.lookup y.1=some .cell/\((cellsFrom (s.heap.objs.size+1) (aj st).names []).lookup y.1).isSome=true):=λ⟨n,v⟩ hy=>by
  rcases S.par n (Q7 hy).1 with q|q
  ·exact .inl q
  ·exact .inr ⟨q,PySem.W.cellsFrom_some _ _ _ (.inl q)⟩
 refine codeAny_call_function hdp (KX _ _ lk) rfl S.co S.gen rfl (PySem.W.codeRec_of KX hcd) (hb _ _ _ _ ?_);refine wpAny_newFunctionEnv_cells S.kind hk λenv he s1 z=>?_;subst he;refine⟨lim.keeps z.toInCall.keep,codeAny_func ?_⟩;obtain⟨t,ht,hq⟩:=hbody cdv A outer s H vs Q hsp;have I0:Inv (uA Oi P w K mg base N qual (aj st) f cdv {A with handled:=none} outer s H E0) [] (start N vs) H s1:=zF S rfl ⟨e0.frames,e0.mod,e0.bs,e0.F5,e0.rK,e0.Dd,e0.cE,e0.bare⟩ hl r z;have I:Inv (OA P w K mg base N qual (aj st) f cdv A outer s H) [] (start N vs) H s1:=I0.re rfl (λq=>nomatch q) λp hp=>hp;refine Rc (ht [] s1 (start N vs) H _ I hq) (λfl s' hs=>?_) λe s' hs=>False.elim hs;have fin:∀{σ':St}{H':Hp}{v:V}{u:Value},Inv (OA P w K mg base N qual (aj st) f cdv A outer s H) [] σ' H' s'->RelV v u->Q v H'->CE outer P w H s Q u s':=
  λ{σ' H' v u} J rv q=>⟨v,H',J.os,J.bare,J.base,J.cE,rv,q⟩
 cases fl with
 |ret u=>
  obtain⟨v,σ',H',J,rv,q⟩:=hs;exact fin J rv q
 |next=>
  obtain⟨σ',H',J,q⟩:=hs;exact fin (v:=V.eB) (u:=Value.none) J rfl q
 |brk=>
  obtain⟨_,_,_,q⟩:=hs;exact False.elim q
 |cont=>
  obtain⟨_,_,_,q⟩:=hs;exact False.elim q
structure Cz(K:PB)(C:Addr)(ini:Option Addr):Prop where
 ex:∃(nm q:Str)(N:Addr)(bs:List Value)(sn:List Str)(sub:List Value)(ab:Bool)(col:Option Bool)(dd:Option Addr)(k0 k1 k2 k3 k5:Option Value)(mN:Str->Option Value),
  K.lookup C=some (excClassObj nm q C N bs Iy true sn sub ab col dd k0 k1 k2 k3 k5 "ValueError.__new__")/\(∀h:Heap,K.In h->h.Ns N mN)/\mN "__init__"=ini.map Value.ref
 fn:∀f,ini=some f->∃o,K.lookup f=some o/\o.cls=.type "function"
 kp:PySem.W.keepIn K (.ref C)=true
section
variable{M:Model}{A:Around}{E:Value->Shared->Prop}{env:Env}{s:Shared}
theorem Af{x:Sem Value}{Q:Flow->Shared->Prop}{nm q:Str}{C N:Addr}{bs:List Value}{sn:List Str}{sub:List Value}{ab:Bool}{col:Option Bool}{dd:Option Addr}{k0 k1 k2 k3 k5:Option Value}
  (h:wpAny M A x (λv s1=>∃(e:Addr)(d:Option Addr)(vs:Array Value),v=.ref e/\s1.heap.get? C=some (excClassObj nm q C N bs Iy true sn sub ab col dd k0 k1 k2 k3 k5 "ValueError.__new__")/\s1.heap.get? e=some (jJ C d vs)/\vs[1]? =some Value.none/\
   wpAny M A (raiseNew (.ref e)) Q E s1) E s):wpAny M A (raiseStmt env (some x) none) Q E s:=by
 have hcB:(Value.ref C::Iy).contains (.type "BaseException")=true:=by simp
 unfold raiseStmt;refine PN (Rc h (λv s1 h1=>?_) λ_ _ x=>x);obtain⟨e,d,vs,rfl,hC,he,hv,hr⟩:=h1;obtain⟨hp,g,dr,tk,os⟩:=s1;have hcl:(jJ C d vs).cls=.ref C:=rfl
 repeat(first|(with_reducible refine wpAny_loadPart_at he ?_;try rw[hcl])|with_reducible refine wpAny_loadPart_at hC ?_|(with_reducible refine wpAny_isSubtype_exc hC ?_;rw[hcB])|with_reducible refine Sh he rfl hv ?_|wp_step)
 exact hr
end
theorem yJ:entryFor table "proto.unchain"=some Builtin.«proto.unchain»:=entryFor_of_tree (by kernel_rfl)
section
variable{prog:Qw}{w:World}{A:Around}{E:Value->Shared->Prop}{s:Shared}
theorem Cj{α:Type}{e0 e C0 C:Addr}{d0 d:Option Addr}{vs0 vs:Array Value}{Q:α->Shared->Prop}(hh:A.handled=some (.ref e0))(ne:e0≠e)(g0:s.heap.get? e0=some (jJ C0 d0 vs0))(c0:vs0[2]? =some Value.none)
  (ge:s.heap.get? e=some (jJ C d vs))(z:vs.size=6)(h:∀h':Heap,h'.get? e=some (jJ C d (vs.setIfInBounds 2 (.ref e0)))->(∀b,b≠e->h'.get? b=s.heap.get? b)->E (.ref e) {s with heap:=h'}):
  wpAny (model prog w) A (raiseNew (.ref e):Sem α) Q E s:=by
 unfold raiseNew;refine PN (wpAny_handled ?_);rw[hh];dsimp only;rw[Pz (show(Value.ref e0 !=Value.ref e)=true from by simp[ne])];refine PN (Sg (wpAny_runValue (codeAny_builtin yJ ?_)));unfold Builtin.«proto.unchain»;refine PN (Sh g0 rfl c0 ?_);rw[Pz (by decide)];refine Qv ?_;refine PN ?_;unfold updateField;refine PN (wpAny_load ge ?_);show wpAny _ _ (if 2<vs.size then _ else _) _ _ _;rw[Pz (by omega)];refine wpAny_update ge ?_;refine wpAny_throw (h _ (RD _ ge rfl) λb hb=>Ra _ _ (PZ hb))
end
theorem xg{H:Hp}{a b:Addr}{o u:HO}(h:a≠b):upd (upd H a o) b u=upd (upd H b u) a o:=by
 funext c
 unfold upd
 by_cases h1:c=a
 ·subst h1
  rw[Py h,Pz rfl,Pz rfl]
 ·rw[Py h1,Py h1]
def Kn(K:PB)(C:Addr)(ns:List Str):List V->Hp->VK->Prop:=λvs H Q=>∃e t ws,vs=.ref e::ws/\ws.length=ns.length/\H e=some (XI e C t none)/\
 ∀dx,H dx=none->dx≠e->Q .eB (upd (upd H dx (XD dx (ns.zip ws))) e (XI e C t (some dx)))
section
variable{X:Cx}{pins:List (Addr×Obj)}{σ:St}{H:Hp}{s:Shared}{C f:Addr}{fd:PP}{ps ns:List Str}{us:List Value}{vs:List V}{E:Value->Shared->Prop}
theorem Ig{Q:Value->Shared->Prop}(M:Cz X.K C (some f))(F:uV X.prog X.w X.K X.mg X.base f fd ps (Kn X.K C ns))(hb:Binds X.K fd ps [])(hdp:X.A.depth+1<recursionLimit)(I:Inv X pins σ H s)(r:Vals vs us)(hl:vs.length=ns.length)(hz:vs.length<=1000)
  (h:∀e t dx s',H e=none->H dx=none->dx≠e->Inv X pins σ (upd (upd H dx (XD dx (ns.zip vs))) e (XI e C t (some dx))) s'->Q (.ref e) s'):wpAny (model X.prog X.w) X.A (call (.ref C) us) Q E s:=by
 obtain⟨nm,q,N,bs,sn,sub,ab,col,dd,k0,k1,k2,k3,k5,mN,lk,hN,hi⟩:=M.ex;obtain⟨oI,lI,cI⟩:=M.fn f rfl;have hlu:us.length<=sizeLine:=by rw[<-r.length,PL];omega
 obtain⟨hp,g,d,tk,os⟩:=s;refine wpAny_call_exc_init (hrest:=hlu) PySem.F.excBase_ValueError (I.qQ _ _ lk) (hN _ I.qQ) hi (I.qQ _ _ lI) cI λh1 e mk=>?_;obtain⟨t,ge,_,_⟩:=mk.there;have I1:Inv X pins σ (upd H e (XI e C t none)) ⟨h1,g,d,tk,os⟩:=I.z4 (t':=tk) mk.keeps mk.new (GU ge);have ne:=I.cE.none_of mk.new;have hsp:Kn X.K C ns (.ref e::vs) (upd H e (XI e C t none)) (λv H2=>v=.eB/\∃dx,H dx=none/\dx≠e/\H2=upd (upd H dx (XD dx (ns.zip vs))) e (XI e C t (some dx))):=by
  refine⟨e,t,vs,rfl,hl,ah,λdx hd hne=>⟨rfl,dx,by rw[ai hne]at hd;exact hd,hne,?_⟩⟩;rw[<-xg (H:=H) hne,eR]
 have hlen:=F.len _ _ _ hsp;have r2:Vals (V.ref e::vs) (Value.ref e::us):= .cons rfl r;have hb2:=hb ⟨h1,g,d,tk,os⟩ (Value.ref e::us) I1.qQ (by rw[QA,<-r2.length];exact hlen);rw[QA]at hb2;refine wpAny_call (codeAny_mono (F.run _ X.stack _ _ ⟨Value.ref e::us,[]⟩ (Value.ref e::us) (V.ref e::vs) _ (by rw[yx];exact hdp) (I1.K6.make C us []) hb2 r2 hsp) λrr s' hq=>?_);cases rr with
 |error y=>exact False.elim hq
 |ok fl=>
  cases fl with
  |ret u=>
   obtain⟨v,H',I3,rv,ev,dx,hd,hne,eH⟩:=I1.after hq;subst ev;subst eH;exact⟨rv,h e t dx s' ne hd hne I3⟩
  |next=>exact False.elim hq
  |brk=>exact False.elim hq
  |cont=>exact False.elim hq
theorem Jc{Q:Value->Shared->Prop}(M:Cz X.K C none)(I:Inv X pins σ H s)
  (h:∀e t s',H e=none->Inv X pins σ (upd H e (XI e C t none)) s'->Q (.ref e) s'):wpAny (model X.prog X.w) X.A (call (.ref C) []) Q E s:=by
 obtain⟨nm,q,N,bs,sn,sub,ab,col,dd,k0,k1,k2,k3,k5,mN,lk,hN,hi⟩:=M.ex;obtain⟨hp,g,d,tk,os⟩:=s;refine wpAny_call_exc_sub (hrest:=by size_fits) PySem.F.excBase_ValueError (I.qQ _ _ lk) (hN _ I.qQ) hi λh1 e mk=>?_;obtain⟨t,ge,_,_⟩:=mk.there;exact h e t _ (I.cE.none_of mk.new) (I.z4 (t':=tk) mk.keeps mk.new (GU ge))
theorem Inv.open{e t:Addr}{d:Option Addr}{cx:Bool}(I:Inv X pins σ (upd H e (XI e C t d)) s):Inv X pins σ (upd H e (XO e C d cx)) s:=by
 have g:=uP I.cE (ah (H:=H) (a:=e) (o:=XI e C t d));have eq:∀b,b≠e->upd H e (XO e C d cx) b=upd H e (XI e C t d) b:=λb hb=>by rw[ai hb,ai hb]
 have ki:∀b u,upd H e (XI e C t d) b=some u->(∀φ,u≠.ext φ)->upd H e (XO e C d cx) b=some u:=λb u q z=>by
  rw[eq b λy=>?_]
  ·exact q
  ·subst y
   rw[ah]at q;cases q;exact z _ rfl
 refine I.un (t':=s.toks) ⟨λ_ _ q _ _ _=>q,λb o q _ _ _=>⟨o.slots,q⟩,λb o q z _=>?_,λb o q _=>⟨o,q⟩,λb xs q=>ki b _ q (λ_ z=>nomatch z),λb o xs q=>ki b _ q (λ_ z=>nomatch z),λb ps q=>⟨#[],by rw[ki b _ q λ_ z=>nomatch z];simp⟩⟩ λb u q=>?_
 ·rw[eq b λy=>?_]
  ·exact z
  ·subst y
   rw[ah]at z;cases z
 ·by_cases hb:b=e
  ·subst hb
   rw[ah]at q;cases q;exact G4 g rfl λ_=>rfl
  ·rw[eq b hb]at q
   exact(I.cE b u q).vG (λ_ _ _ z=>z) (λc z=>ki c _ z λ_ y=>nomatch y) λc xs z=>ki c _ z λ_ y=>nomatch y
end
def Hy(C:Addr)(ns:List Str)(cx:Bool)(E:XK)(t:TA):TS:=λ_ σ H=>t σ H λvs H1=>vs.length=ns.length/\vs.length<=1000/\
 ∀e dx,H1 e=none->H1 dx=none->dx≠e->E (.ref C) (some e) (upd (upd H1 dx (XD dx (ns.zip vs))) e (XO e C (some dx) cx))
def JB(C:Addr)(E:XK):TS:=λ_ σ H=>∀e,H e=none->E (.ref C) (some e) (upd H e (XO e C none true))
section
variable{X:Cx}{pins:List (Addr×Obj)}{σ:St}{H:Hp}{s:Shared}{C e t:Addr}{d:Option Addr}{E:XK}
theorem Jx(I:Inv X pins σ (upd H e (XI e C t d)) s)(n:Nat)(H':Hp):Rec s.heap H' n e none:=
 ⟨_,_,uP I.cE ah,rfl,rfl,rfl⟩
theorem zY{α:Type}{Q:α->Shared->Prop}(L:Lets X E)(hh:X.A.handled=none)(I:Inv X pins σ (upd H e (XI e C t d)) s)(q:E (.ref C) (some e) (upd H e (XO e C d true))):
  wpAny (model X.prog X.w) X.A (raiseNew (.ref e):Sem α) Q X.xe s:=
 wpAny_raiseNew_none hh (L pins σ _ s e C d true none (I.open (cx:=true)) ah (Jx I _ _) (λp _ b hb=>nomatch hb) trivial q)
theorem F9{α:Type}{Q:α->Shared->Prop}{e0 C0:Addr}{d0:Option Addr}(L:Lets X E)(hh:X.A.handled=some (.ref e0))(I:Inv X pins σ (upd H e (XI e C t d)) s)(h0:H e0=some (XO e0 C0 d0 true))(ne:e0≠e)(q:E (.ref C) (some e) (upd H e (XO e C d false))):
  wpAny (model X.prog X.w) X.A (raiseNew (.ref e):Sem α) Q X.xe s:=by
 obtain⟨vs0,g0,_,c0⟩:=Cc I.cE (show upd H e (XI e C t d) e0=some (XO e0 C0 d0 true) by rw[ai ne];exact h0);have ge:s.heap.get? e=some (jJ C d #[.ref t,.none,.none,.none,.bool false,.none]):=uP I.cE ah;refine Cj hh ne g0 (c0 rfl) ge rfl λh' g1 k1=>?_;have I2:Inv X pins σ (upd (upd H e (XO e C d false)) e (XO e C d false)) {s with heap:=h',toks:=s.toks}:=(I.open (cx:=false)).write (x:=e) (e:=e) (by rw[ah];exact True.intro) (.inl rfl) (λb u hb z=>(k1 b hb).trans z) ⟨_,g1⟩ (G4 g1 rfl λz=>nomatch z);rw[eR]at I2;exact L pins σ _ _ e C d false none I2 ah ⟨_,_,g1,rfl,rfl,rfl⟩ (λp _ b hb=>nomatch hb) trivial q
end
section
variable{X:Cx}{C f:Addr}{fd:PP}{ps ns:List Str}{E:XK}{x:Str}{np cpos pos:Pos}{a:Expr}{as:List Expr}{t:TA}
theorem f8(L:Lets X E)(hh:X.A.handled=none)(M:Cz X.K C (some f))(F:uV X.prog X.w X.K X.mg X.base f fd ps (Kn X.K C ns))(hb:Binds X.K fd ps [])(hdp:X.A.depth+1<recursionLimit)(hg:Gl X x)(hm:X.mg x=some (.ref C))(ha:PA X (a::as) t)
  (hdb:(x==("__debug__":Str))=false:=by decide)(he:starEach (a::as) X.env=(false,eval a X.env)::starEach as X.env:=by rfl)(hpl:(backTo cpos (starEach as X.env)).any (·.1)=false:=by rfl):
  PS X (.Raise (some (.Call (.Name x np) (a::as) [] cpos)) none pos) (Hy C ns true E t):=by
 intro pins s σ H D I h;obtain⟨nm,q,N,bs,sn,sub,ab,col,dd,k0,k1,k2,k3,k5,mN,lk,hN,hi⟩:=M.ex;rw[arm_exec_Raise];show wpAny _ _ (do standAt pos;raiseStmt X.env (some (do let v<-eval (.Call (.Name x np) (a::as) [] cpos) X.env;standAt pos;pure v)) none) _ _ s;refine PN (Rv (Af (nm:=nm) (q:=q) (C:=C) (N:=N) (bs:=bs) (sn:=sn) (sub:=sub) (ab:=ab) (col:=col) (dd:=dd) (k0:=k0) (k1:=k1) (k2:=k2) (k3:=k3) (k5:=k5) (PN ?_)));refine Re (l7 I hg hm ?_ hdb);refine R6 (h₀:=X.base) I.ok.mod.JX M.kp (dM (ha cpos pins s σ H _ I h) λus s1⟨vs,H1,I1,r,hl,hz,hE⟩=>⟨I1.qQ,?_⟩) he hpl;refine Ig M F hb hdp I1 r hl hz λe t' dx s2 n1 n2 n3 I2=>PN (Rv (Qv ⟨e,_,_,rfl,I2.qQ _ _ lk,uP I2.cE ah,rfl,zY L hh I2 (hE e dx n1 n2 n3)⟩))
theorem yo{e0:Addr}(L:Lets X E)(hh:X.A.handled=some (.ref e0))(M:Cz X.K C (some f))(F:uV X.prog X.w X.K X.mg X.base f fd ps (Kn X.K C ns))(hb:Binds X.K fd ps [])(hdp:X.A.depth+1<recursionLimit)(hg:Gl X x)(hm:X.mg x=some (.ref C))(ha:PA X (a::as) t)
  (hdb:(x==("__debug__":Str))=false:=by decide)(he:starEach (a::as) X.env=(false,eval a X.env)::starEach as X.env:=by rfl)(hpl:(backTo cpos (starEach as X.env)).any (·.1)=false:=by rfl):
  PS X (.Raise (some (.Call (.Name x np) (a::as) [] cpos)) none pos) (λD σ H=>Hy C ns false E (λσ H Q=>t σ H λvs H1=>(∃C0 d0,H1 e0=some (XO e0 C0 d0 true))/\Q vs H1) D σ H):=by
 intro pins s σ H D I h;obtain⟨nm,q,N,bs,sn,sub,ab,col,dd,k0,k1,k2,k3,k5,mN,lk,hN,hi⟩:=M.ex;rw[arm_exec_Raise];show wpAny _ _ (do standAt pos;raiseStmt X.env (some (do let v<-eval (.Call (.Name x np) (a::as) [] cpos) X.env;standAt pos;pure v)) none) _ _ s;refine PN (Rv (Af (nm:=nm) (q:=q) (C:=C) (N:=N) (bs:=bs) (sn:=sn) (sub:=sub) (ab:=ab) (col:=col) (dd:=dd) (k0:=k0) (k1:=k1) (k2:=k2) (k3:=k3) (k5:=k5) (PN ?_)));refine Re (l7 I hg hm ?_ hdb);refine R6 (h₀:=X.base) I.ok.mod.JX M.kp (dM (ha cpos pins s σ H _ I h) λus s1⟨vs,H1,I1,r,⟨C0,d0,h0⟩,hl,hz,hE⟩=>⟨I1.qQ,?_⟩) he hpl;refine Ig M F hb hdp I1 r hl hz λe t' dx s2 n1 n2 n3 I2=>PN (Rv (Qv ⟨e,_,_,rfl,I2.qQ _ _ lk,uP I2.cE ah,rfl,F9 L hh I2 (by rw[ai (ak h0 n2)];exact h0) (ak h0 n1) (hE e dx n1 n2 n3)⟩))
theorem qh(L:Lets X E)(hh:X.A.handled=none)(M:Cz X.K C none)(hg:Gl X x)(hm:X.mg x=some (.ref C))(hdb:(x==("__debug__":Str))=false:=by decide):
  PS X (.Raise (some (.Call (.Name x np) [] [] cpos)) none pos) (JB C E):=by
 intro pins s σ H D I h;obtain⟨nm,q,N,bs,sn,sub,ab,col,dd,k0,k1,k2,k3,k5,mN,lk,hN,hi⟩:=M.ex;rw[arm_exec_Raise];show wpAny _ _ (do standAt pos;raiseStmt X.env (some (do let v<-eval (.Call (.Name x np) [] [] cpos) X.env;standAt pos;pure v)) none) _ _ s;refine PN (Rv (Af (nm:=nm) (q:=q) (C:=C) (N:=N) (bs:=bs) (sn:=sn) (sub:=sub) (ab:=ab) (col:=col) (dd:=dd) (k0:=k0) (k1:=k1) (k2:=k2) (k3:=k3) (k5:=k5) (PN ?_)));refine Re (l7 I hg hm ?_ hdb);refine PySem.W.callWith_K0 I.qQ M.kp ?_;exact Jc M I λe t' s2 n1 I2=>PN (Rv (Qv ⟨e,_,_,rfl,I2.qQ _ _ lk,uP I2.cE ah,rfl,zY L hh I2 (h e n1)⟩))
end
def OS(K:PB)(ta:TE)(f:Str):TE:=λσ H Q=>ta σ H λx H1=>∃e C dx cx fs v,x=.ref e/\H1 e=some (XO e C (some dx) cx)/\H1 dx=some (XD dx fs)/\nB K C/\aP K C f/\fs.lookup f=some v/\Q v H1
theorem IU{X:Cx}{e:Expr}{f:Str}{pos:Pos}{ta:TE}(he:PE X e ta)(hb:attributeBase e f X.env (eval e X.env)=eval e X.env):PE X (.Attribute e f pos) (OS X.K ta f):=by
 intro pins s σ H Q I h;refine Dx hb (dM (he pins s σ H _ I h) λu s1⟨x,H1,I1,rx,a,C,dx,cx,fs,v,ex,ea,ed,c,n,l,q⟩=>?_);subst ex;obtain rfl:u=Value.ref a:=rx;obtain⟨vs,g,_,_⟩:=Cc I1.cE ea;obtain⟨mA,na,ra,_,_⟩:=J_ I1.cE ed;obtain⟨u',hu,ru⟩:=qJ.some_of (v:=v) (o:=mA f) (by rw[<-l];exact ra f);exact MV c I1.qQ n g na hu (zJ ru) ⟨v,H1,I1.tok _,ru,q⟩
section
variable{X:Cx}{pins:List (Addr×Obj)}{σ:St}{H:Hp}{s:Shared}
theorem Inv.JR{M:Model}{A:Around}{E:Value->Shared->Prop}{n:Str}{pos:Pos}{Q:Unit->Shared->Prop}(I:Inv X pins σ H s)(hn:X.env.scope.names.lookup n=some .local)
  (h:∀s',Inv X pins (List.replicate X.N.length none) H s'->Heap.SameBut X.env.locals s.heap s'.heap->Q () s'):wpAny M A (do bindName X.env n .none;unbindBehindTheSuite X.env n pos) Q E s:=by
 obtain⟨m,hm,_⟩:=id I.loc;have hcls:(X.env.scope.kind== .class||(X.env.scope.kind== .module&&X.env.locals !=X.env.globals))=false:=by rw[I.ok.kind];rfl
 refine wpAny_nameGoes hn hm hcls λh' m' hn' hs=>h _ ?_ hs;obtain⟨oL,_,_,hoL,_⟩:=id hm;refine⟨I.ok,I.os,I.bare,⟨λb o e z hb hx=>?_,λb o e z hb hx=>?_,I.base.free,λb o e hx=>?_,I.base.rP,I.base.qF,I.base.rG⟩,⟨m',hn',λj y v' e1 e2 e3=>?_⟩,λy c e=>?_,I.free,I.ms,λp hp=>?_,λb ob e=>?_,by simp⟩
 ·exact(hs.2 b (QC (Qs (P9 e) I.ok.above))).trans (I.base.keep b o e z hb hx)
 ·obtain⟨sl,e1⟩:=I.base.slot b o e z hb hx
  exact⟨sl,(hs.2 b (QC (Qs (P9 e) I.ok.above))).trans e1⟩
 ·obtain⟨o',e1⟩:=I.base.there b o e hx
  exact⟨o',(hs.2 b (QC (Qs (P9 e) I.ok.above))).trans e1⟩
 ·exfalso
  rw[Q2]at e2;split at e2<;>cases e2
 ·obtain⟨w',z⟩:=I.cell y c e
  exact⟨w',z.sameBut hs (I.J8 y c e)⟩
 ·obtain⟨e,z,ne,nf,d⟩:=I.pin p hp
  exact⟨(hs.2 p.1 ne).trans e,z,ne,nf,d⟩
 ·refine(I.cE b ob e).vG (λc w' hc q=>(hs.2 c ?_).trans q) (λ_ q=>q) λ_ _ q=>q
  rintro rfl
  rcases hc with y|hc
  ·rw[<-y,I.free]at e;cases e
  ·rw[I.free]at hc;cases hc
end
structure qI(X:Cx)(pins:List (Addr×Obj))(σ:St)(H:Hp)(s:Shared)(e C:Addr)(d:Option Addr)(cx:Bool)(T:Addr)(f:Value):Prop where
 inv:Inv X pins σ H s
 he:H e=some (XO e C d cx)
 rc:Rec s.heap H X.vz.heap.objs.size e (some (T,f))
 pn:∀p∈X.pn++pins,p.1≠T
section
variable{X:Cx}{pins:List (Addr×Obj)}{σ:St}{H:Hp}{s:Shared}{e C T:Addr}{d:Option Addr}{cx:Bool}{f:Value}{tb:Option (Addr×Value)}
theorem Inv.Dg(I:Inv X pins σ H s){b:Addr}{o:Obj}{ts:Array Value}(g:s.heap.get? b=some o)(hd:o.data=Data.fields ts):b≠X.env.locals/\∀x c,X.env.cells.lookup x=some c->c≠b:=by
 refine⟨λz=>?_,λx c q z=>?_⟩
 ·obtain⟨m,⟨o',es,ep,g',hd',_⟩,_⟩:=I.loc
  rw[<-z,g]at g';cases g';rw[hd]at hd';cases hd'
 ·obtain⟨v,o',g',hd'⟩:=I.cell x c q
  rw[z,g]at g';cases g';rw[hd]at hd';cases hd'
theorem Inv.Kk{h':Heap}(I:Inv X pins σ H s)(R:Rec s.heap H X.vz.heap.objs.size e tb)(hp:∀p∈X.pn++pins,∀b∈wW tb,p.1≠b)(N:oJ X.prog X.w H X.stack (wW tb) s.heap h'):Inv X pins σ H {s with heap:=h'}:=by
 refine I.Hg (s':={s with heap:=h'}) (ch:=wW tb) rfl N.un N.ok I.bare λb hb=>?_;cases tb with
 |none=>exact nomatch hb
 |some p=>
  obtain⟨_,vs,_,_,_,_,_,hT,_,oT,ts,gT,hdT,_⟩:=R;have eb:b=p.1:=Qb.mp hb;obtain⟨n1,n2⟩:=I.Dg gT hdT;exact⟨.inr (by rw[eb];exact hT),by rw[eb];exact n1,λx c q=>by rw[eb];exact n2 x c q,λp' hp'=>hp p' hp' b hb⟩
theorem um{A:Around}{E:Value->Shared->Prop}{Q:Unit->Shared->Prop}(hst:X.stack=X.env::X.outer)(hf:X.env.frame=some X.env.locals)(hA:A.frames=X.A.frames)(I:Inv X pins σ H s)(he:H e=some (XO e C d cx))(R:Rec s.heap H X.vz.heap.objs.size e tb)
  (hp:∀p∈X.pn++pins,∀b∈wW tb,p.1≠b)(G:Goes X.env.locals tb)(h:∀s' T,qI X pins σ H s' e C d cx T (rawInt X.env.locals)->Q () s'):wpAny (model X.prog X.w) A (noteFrame (.ref e) X.env) Q E s:=by
 have hl:=I.stack;have hfr:=I.vW;rw[hst]at hl hfr;refine xj (P:=X.prog) (w:=X.w) (base:=X.base) (n:=X.vz.heap.objs.size) (by rw[hA,I.ok.frames,hst]) hl hf hfr I.cE he R G I.sz λh' T N R' k=>h _ T ⟨I.Kk R hp (by rw[hst];exact N),he,R',λp hp'=>?_⟩;exact k p.1 p.2 (I.pin p hp').1 λz=>hp p hp' p.1 z rfl
theorem qI.xX{A:Around}{E:Value->Shared->Prop}{Q:Unit->Shared->Prop}{fr:Option Addr}(c:qI X pins σ H s e C d cx T f)(h:∀s',qI X pins σ H s' e C d cx T (fr.elim Value.none λa=>rawInt a)->Q () s'):
  wpAny (model X.prog X.w) A (setFlight (.ref e) fr) Q E s:=
 wx (P:=X.prog) (w:=X.w) c.rc c.inv.cE c.he X.stack λh' N R=>h _ ⟨c.inv.Kk c.rc (λp hp b hb=>by rw[Qb.mp hb];exact c.pn p hp) N,c.he,R,c.pn⟩
theorem qI.field{A:Around}{E:Value->Shared->Prop}{Q:Value->Shared->Prop}(c:qI X pins σ H s e C d cx T f)(h:Q (.ref T) s):wpAny (model X.prog X.w) A (field (.ref e) 1) Q E s:=by
 obtain⟨oe,vs,g,hd,_,h1,_⟩:=c.rc;exact Sh g hd h1 h
theorem qI.JR{A:Around}{E:Value->Shared->Prop}{n:Str}{pos:Pos}{Q:Unit->Shared->Prop}(c:qI X pins σ H s e C d cx T f)(hn:X.env.scope.names.lookup n=some .local)
  (h:∀s',qI X pins (List.replicate X.N.length none) H s' e C d cx T f->Q () s'):wpAny (model X.prog X.w) A (do bindName X.env n .none;unbindBehindTheSuite X.env n pos) Q E s:=by
 refine c.inv.JR hn λs' I' sb=>h s' ⟨I',c.he,?_,c.pn⟩;obtain⟨oe,vs,g,hd,z,h1,hTe,hnT,fT,oT,ts,gT,hdT,h3⟩:=c.rc;exact⟨oe,vs,(sb.2 e (c.inv.Dg g hd).1).trans g,hd,z,h1,hTe,hnT,fT,oT,ts,(sb.2 T (c.inv.Dg gT hdT).1).trans gT,hdT,h3⟩
end
abbrev NZ:=Addr->Addr->Ends->Hp->Prop
def PH(X:Cx)(hs:List ExceptHandler)(th:NZ):Prop:=∀(pins:List (Addr×Obj))(σ:St)(H:Hp)(s:Shared)(e C:Addr)(d:Option Addr)(cx:Bool)(T:Addr)(D:Ends),
 qI X pins σ H s e C d cx T Value.none->th C e D H->wpAny (model X.prog X.w) X.A (handleBy (.ref e) X.env hs) (SP X pins D) X.xe s
theorem CJ{X:Cx}:PH X [] λ_ _ _ _=>False:=λ_ _ _ _ _ _ _ _ _ _ _ h=>h.elim
structure Own(X:Cx):Prop where
 st:X.stack=X.env::X.outer
 fr:X.env.frame=some X.env.locals
 kd:X.calm=true->X.A.handled=none
theorem j7{CX:Ey}{P:Qw}{w:World}{K:PB}{mg:Str->Option Value}{base:Heap}{N:List Str}{qual:Str}{scope:Scope}{f:Addr}{cd:Value}{A:Around}{outer:List Env}{s:Shared}{H:Hp}{E:XK}(h:A.handled=none):
  Own (uA CX P w K mg base N qual scope f cd A outer s H E):=⟨rfl,rfl,λ_=>h⟩
abbrev Cx.pj(X:Cx)(e:Addr)(pn:List (Addr×Obj))(xe:Value->Shared->Prop):Cx:=X.re (X.A.mark (some (.ref e))) false pn xe
section
variable{X:Cx}{E:XK}{x n:Str}{np pos:Pos}{C':Addr}{b0:Stmt}{pj:List Stmt}{rest:List ExceptHandler}{th:NZ}{ts:Addr->TS}{i:Nat}
structure GQ(K:PB)(C':Addr):Prop where
 one:∀C,nB K C->PySem.W.exmOne K (.ref C) (.ref C')=some (decide (C=C'))
theorem DJ{nm:Option Str}{pins:List (Addr×Obj)}{σ:St}{H:Hp}{s:Shared}{e C T:Addr}{d:Option Addr}{cx:Bool}{body:List Stmt}{Q:Flow->Shared->Prop}(hg:Gl X x)(hm:X.mg x=some (.ref C'))(a:GQ X.K C')(c:qI X pins σ H s e C d cx T Value.none)(xc:nB X.K C)(hdb:(x==("__debug__":Str))=false)
  (hit:C=C'->codeAny (model X.prog X.w) (X.A.mark (some (.ref e))) (.handlers (.ref e) [.ExceptHandler none nm body pos] X.env) (λr s2=>match r with
     |.ok f=>(match nm with
      |none=>Q f s2
      |some n=>wpAny (model X.prog X.w) X.A (do bindName X.env n .none;unbindBehindTheSuite X.env n pos) (λ_ s3=>Q f s3) X.xe s2)
     |.error x=>cameBackBy (model X.prog X.w) X.A X.env X.xe x s2) s)
  (miss:C≠C'->wpAny (model X.prog X.w) X.A (handleBy (.ref e) X.env rest) Q X.xe s):
  wpAny (model X.prog X.w) X.A (handleBy (.ref e) X.env (.ExceptHandler (some (.Name x np)) nm body pos::rest)) Q X.xe s:=by
 refine wpAny_handleBy_cons (codeAny_handlers_test ?_) (by intro q;cases q);have I1:Inv (X.pj e (X.pn++pins) λ_ _=>False) [] σ H s:=c.inv.re rfl (λq=>nomatch q) λp hp=>by simpa using hp
 have LT:PySem.W.Looks (model X.prog X.w) s.heap (typeOf (.ref e)) (.ref C):=by
  obtain⟨vs,g,_,_⟩:=Cc c.inv.cE c.he;exact(PySem.W.Looks.ld g).andThen .now
 refine l7 (X:=X.pj e (X.pn++pins) λ_ _=>False) I1 hg hm ?_ hdb;refine(PySem.W.exm_one c.inv.qQ LT (a.one C xc)).here ?_
 by_cases hC:C=C'
 ·rw[PJ hC]
  exact hit hC
 ·rw[Qr hC]
  exact miss hC
theorem qI.off{pins:List (Addr×Obj)}{σ:St}{H:Hp}{s:Shared}{e C T:Addr}{d:Option Addr}{cx:Bool}(o:Own X)(L:Lets X E)(c:qI X pins σ H s e C d cx T (rawInt X.env.locals))(q:E (.ref C) (some e) H):
  cameBackBy (model X.prog X.w) X.A X.env X.xe (.ref e) s:=by
 unfold cameBackBy;refine PN (c.field ?_);rw[Py (show¬((Value.ref T==Value.none)=true)from by simp)];rw[o.fr];refine c.xX (fr:=some X.env.locals) λs' c'=>?_;exact L pins σ H s' e C d cx _ c'.inv c'.he c'.rc (λp hp b hb=>by rw[Qb.mp hb];exact c'.pn p hp) (.inr rfl) q
theorem qI.again{A:Around}{pins:List (Addr×Obj)}{σ:St}{H:Hp}{s:Shared}{e C T:Addr}{d:Option Addr}{cx:Bool}{Q:Unit->Shared->Prop}{Ex:Value->Shared->Prop}(o:Own X)(hA:A.frames=X.A.frames)(c:qI X pins σ H s e C d cx T (rawInt X.env.locals))
  (h:∀s' T',qI X pins σ H s' e C d cx T' (rawInt X.env.locals)->Q () s'):wpAny (model X.prog X.w) A (noteFrame (.ref e) X.env) Q Ex s:=
 um o.st o.fr hA c.inv c.he c.rc (λp hp b hb=>by rw[Qb.mp hb];exact c.pn p hp) (.inr rfl) h
theorem BP(o:Own X)(L:Lets X E)(hg:Gl X x)(hm:X.mg x=some (.ref C'))(a:GQ X.K C')(nd:X.N.Nodup)(hi:X.N[i]? =some n)(hn:X.env.scope.names.lookup n=some .local)
  (hs:∀e pn xe,Lets (X.pj e pn xe) E->xx (X.pj e pn xe) (b0::pj) (ts e))(hr:PH X rest th)(hdb:(x==("__debug__":Str))=false:=by decide):
  PH X (.ExceptHandler (some (.Name x np)) (some n) (b0::pj) pos::rest) λC e D H=>nB X.K C/\(C=C'->ts e {nx:=λ_ _=>False,rt:=D.rt} ((List.replicate X.N.length none).set i (some (.ref e))) H)/\(C≠C'->th C e D H):=by
 intro pins σ H s e C d cx T D c ⟨xc,q1,q2⟩;refine DJ hg hm a c xc hdb (λhC=>?_) λhC=>hr pins σ H s e C d cx T D c (q2 hC);refine codeAny_handlers_suite_as (c.xX (fr:=none) λs1 c1=>?_);have I1:Inv X pins (List.replicate X.N.length none) H s1:=c1.inv.weak (by rw[Qx];exact c1.inv.len.symm) λj v z=>by
  rw[Q2]at z;split at z<;>cases z
 refine tf (v:= .ref e) I1 nd hi (.inl hn) rfl (λs2 I2=>?_) (.inr hn);have back:∀{xe:Value->Shared->Prop}{pins':List (Addr×Obj)}{σ':St}{H':Hp}{s':Shared},Inv (X.pj e (X.pn++pins) xe) pins' σ' H' s'->Inv X pins σ' H' s':=λJ=>J.back rfl o.kd λp hp=>QX _ hp;refine Rc (hs e (X.pn++pins) _ ?_ [] s2 _ H {nx:=λ_ _=>False,rt:=D.rt} (I2.re rfl (λz=>nomatch z) λp hp=>by simpa using hp) (q1 hC)) (λfl s3 h3=>?_) λy s3 h3=>h3
 ·intro pins' σ' H' s' e2 C2 d2 cx2 tb J he2 R2 hp2 G2 qE
  have J':=back J;refine um o.st o.fr rfl J' he2 R2 (λp hp=>hp2 p (QX _ hp)) G2 λs4 T4 c4=>?_;refine c4.JR hn λs5 c5=>?_;unfold PySem.passOn;refine PN (c5.field ?_);rw[Py (show¬((Value.ref T4==Value.none)=true)from by simp)];rw[o.fr];refine PN (c5.xX (fr:=some X.env.locals) λs6 c6=>wpAny_throw ?_);exact c6.again o rfl λs7 T7 c7=>c7.off o L qE
 ·cases fl with
  |next=>obtain⟨_,_,_,z⟩:=h3;exact z.elim
  |brk=>obtain⟨_,_,_,z⟩:=h3;exact z.elim
  |cont=>obtain⟨_,_,_,z⟩:=h3;exact z.elim
  |ret u=>
   obtain⟨v,σ',H',J,rv,z⟩:=h3;exact(back J).JR hn λs4 I4 _=>⟨v,_,H',I4,rv,z⟩
theorem D_(o:Own X)(hg:Gl X x)(hm:X.mg x=some (.ref C'))(a:GQ X.K C')
  (hs:∀e pn,xx (X.pj e pn λ_ _=>False) (b0::pj) (ts e))(hr:PH X rest th)(hdb:(x==("__debug__":Str))=false:=by decide):
  PH X (.ExceptHandler (some (.Name x np)) none (b0::pj) pos::rest) λC e D H=>nB X.K C/\(C=C'->ts e {nx:=λ_ _=>False,rt:=D.rt} (List.replicate X.N.length none) H)/\(C≠C'->th C e D H):=by
 intro pins σ H s e C d cx T D c ⟨xc,q1,q2⟩;refine DJ hg hm a c xc hdb (λhC=>?_) λhC=>hr pins σ H s e C d cx T D c (q2 hC);refine codeAny_handlers_suite (c.xX (fr:=none) λs1 c1=>?_);have I1:Inv X pins (List.replicate X.N.length none) H s1:=c1.inv.weak (by rw[Qx];exact c1.inv.len.symm) λj v z=>by
  rw[Q2]at z;split at z<;>cases z
 refine Rc (hs e (X.pn++pins) [] s1 _ H {nx:=λ_ _=>False,rt:=D.rt} (I1.re rfl (λz=>nomatch z) λp hp=>by simpa using hp) (q1 hC)) (λfl s3 h3=>?_) λy s3 h3=>h3.elim;cases fl with
 |next=>obtain⟨_,_,_,z⟩:=h3;exact z.elim
 |brk=>obtain⟨_,_,_,z⟩:=h3;exact z.elim
 |cont=>obtain⟨_,_,_,z⟩:=h3;exact z.elim
 |ret u=>
  obtain⟨v,σ',H',J,rv,z⟩:=h3;exact⟨v,_,H',J.back rfl o.kd λp hp=>QX _ hp,rv,z⟩
def NY(tb:TS)(E':XK)(th:NZ):TS:=λD σ H=>tb D σ H/\∀C e H',E' (.ref C) (some e) H'->th C e D H'
theorem De{body:List Stmt}{h0:ExceptHandler}{hs:List ExceptHandler}{E':XK}{tb:TS}(o:Own X)(hb:∀pn xe,Lets (X.re X.A X.calm pn xe) E'->xx (X.re X.A X.calm pn xe) body tb)(hh:PH X (h0::hs) th):
  PS X (.Try body (h0::hs) [] [] pos) (NY tb E' th):=by
 intro pins s σ H D I ⟨q,qe⟩;have back:∀{xe:Value->Shared->Prop}{pins':List (Addr×Obj)}{σ':St}{H':Hp}{s':Shared},Inv (X.re X.A X.calm (X.pn++pins) xe) pins' σ' H' s'->Inv X pins σ' H' s':=λJ=>J.back rfl o.kd λp hp=>QX _ hp;refine wpAny_Try_except (Rc (hb (X.pn++pins) (λev s1=>wpAny (model X.prog X.w) X.A (noteFrame ev X.env) (λ_ s2=>wpAny (model X.prog X.w) X.A (setFlight ev none) (λ_ s3=>wpAny (model X.prog X.w) X.A (handleBy ev X.env (h0::hs)) (SP X pins D) X.xe s3) X.xe s2) X.xe s1) ?_ [] s σ H D (I.re rfl o.kd λp hp=>by simpa using hp) q) (λfl s1 h1=>?_) λev s1 h1=>h1)
 ·intro pins' σ' H' s' e C d cx t' J he R hp G qE
  refine um o.st o.fr rfl (back J) he R (λp hp'=>hp p (QX _ hp')) G λs4 T4 c4=>?_;refine c4.xX (fr:=none) λs5 c5=>?_;exact hh pins σ' H' s5 e C d cx T4 D c5 (qe C e H' qE)
 ·cases fl with
  |next=>
   obtain⟨σ',H',J,z⟩:=h1;show wpAny _ _ (execs [] X.env) _ _ _;exact Sk ⟨σ',H',back J,z⟩
  |brk=>obtain⟨σ',H',J,z⟩:=h1;exact⟨σ',H',back J,z⟩
  |cont=>obtain⟨σ',H',J,z⟩:=h1;exact⟨σ',H',back J,z⟩
  |ret u=>obtain⟨v,σ',H',J,rv,z⟩:=h1;exact⟨v,σ',H',back J,rv,z⟩
end
def KM(x:Str):It:=⟨λi _=>i<x.cps.size,λi H v H'=>∃T c,v=.ref T/\H T=none/\H'=upd H T (.tup [.int (i:Nat),.str ⟨#[c]⟩])/\x.cps[i]? =some c,λi _=>x.cps.size=i⟩
theorem zD{P:Qw}{w:World}{A:Around}(hh:A.handled=none)(it:Addr)(x:Str)(t:Tok):
  Draws P w A it [it] x.cps.size (λi v=>∃c u,x.cps[i]? =some c/\v=.str ⟨#[c]⟩ u) (λi h=>h.IsStrIter it (strIterType x) x t i):=by
 unfold strIterType;split
 ·exact Draws.strAscii hh it x t
 ·exact Draws.strWide hh it x t
theorem CN{P:Qw}{w:World}{K:PB}{elts:List Expr}{kk:Nat}{tpos:Pos}(x:Str)(t:Tok)(e it:Addr):
  Turn P w K (.Tuple elts kk tpos) (KM x) [e,it] e (λi h=>(∃old,IsEnum h e it ((i:Nat):Int) old)/\h.IsStrIter it (strIterType x) x t i/\e≠it) where
 mem:=by simp
 obj:=λi h st b hb=>by
  obtain⟨⟨old,he⟩,⟨o,ho,hc,hd⟩,_⟩:=st;have e':b=e\/b=it:=by simpa using hb
  rcases e' with z|z
  ·rw[z];exact⟨_,he,λv q=>nomatch q⟩
  ·rw[z];exact⟨o,ho,λv q=>by rw[hd]at q;cases q⟩
 keep:=λi h h' st k=>let⟨⟨old,he⟩,⟨o,ho,r⟩,hne⟩:=st;⟨⟨old,k e (by simp) _ he⟩,⟨o,k it (by simp) o ho,r⟩,hne⟩
 item:=by
  intro X hP hw hK hc i pins s σ H E I hf st hg;subst hP hw hK;obtain⟨⟨old,he⟩,hit,hne⟩:=st;have hel:e<s.heap.objs.size:=P9 he;have hil:it<s.heap.objs.size:=by obtain⟨_,q,_⟩:=hit;exact P9 q
  have D:=zD (P:=X.prog) (w:=X.w) (A:=X.A.in1) (show X.A.in1.handled=none from I.ok.hd hc) it x t;refine wpAny_pyNext_enum_itemD D he hit hg hne (by simpa using hne) λv h' tk hv ho hit' hT hsz hk=>?_;obtain⟨c,u,hcx,rfl⟩:=hv;refine⟨_,rfl,wpAny_letOwnedTupleGo_enum (s:={s with heap:=h',toks:=tk+1}) ho λh'' he' sb=>?_⟩;have hT2:h''.get? s.heap.objs.size=some {cls:= .type "tuple",data:= .seq #[.int i tk,.str ⟨#[c]⟩ u]}:=(sb.2 _ (RN hel)).trans hT;have new:dH X.prog X.w (upd H s.heap.objs.size (.tup [.int (i:Nat),.str ⟨#[c]⟩])) h'' s.heap.objs.size (.tup [.int (i:Nat),.str ⟨#[c]⟩]):=
   ⟨by show 2<=sizeLine;decide,[.int i tk,.str ⟨#[c]⟩ u],.cons ⟨_,rfl⟩ (.cons ⟨_,rfl⟩ .nil),⟨_,hT2,rfl,_,rfl⟩⟩
  have I1:Inv X pins σ (upd H s.heap.objs.size (.tup [.int (i:Nat),.str ⟨#[c]⟩])) {s with heap:=h'',toks:=tk+1}:=
   I.ug (ch:=[e,it]) (λb ob hb q=>(sb.2 b (λz=>hb (by simp[z]))).trans (hk b ob (λz=>hb (by simp[z])) (λz=>hb (by simp[z])) q)) hf (PF _) new
  refine⟨.ref s.heap.objs.size,_,I1,rfl,⟨_,c,rfl,I.cE.fresh (PF _),rfl,hcx⟩,⟨⟨.str ⟨#[c]⟩ u,?_⟩,?_,hne⟩,λb hb=>?_⟩
  ·have e1:((i+1:Nat):Int)=(i:Int)+1:=by omega
   rw[e1];exact he'
  ·obtain⟨o,q,r⟩:=hit'
   exact⟨o,(sb.2 it (PZ hne)).trans q,r⟩
  ·have hb':b<s.heap.objs.size:=by
    have e':b=e\/b=it:=by simpa using hb
    rcases e' with z|z
    ·rw[z];exact hel
    ·rw[z];exact hil
   rw[ai (QC hb')];exact(hf b hb).1
 done:=by
  intro X hP hw hK hc i pins s σ H E I hf st hg;subst hP hw hK;obtain⟨⟨old,he⟩,hit,hne⟩:=st;obtain⟨f0,f1,f2,f3,f4,f5⟩:=hf it (by simp);have hg:x.cps.size=i:=hg;have D:=zD (P:=X.prog) (w:=X.w) (A:=X.A.in1) (show X.A.in1.handled=none from I.ok.hd hc) it x t;subst hg;exact wpAny_pyNext_enum_endD D he hit λh' eb=>⟨rfl,I.turned (t':=s.toks) (λb o hb q=>eb b o hb q) f0 f1 f3 f4 f5⟩
 self:=λA i s Q E st h=>let⟨⟨_,he⟩,_⟩:=st;wpAny_pyIter_enum he h
def Lf(ta:TA):TI:=λσ H R=>ta σ H λvs H1=>∃x,vs=[.str x]/\R (KM x) H1
theorem HZ{X:Cx}{e:Expr}{ta:TA}{p pos tpos:Pos}{elts:List Expr}{kk:Nat}(hg:Gl X "enumerate")(hm:X.mg "enumerate"=none)(ha:PA X [e] ta)(hs:starEach [e] X.env=[(false,eval e X.env)]:=by rfl):
  PI X (.Tuple elts kk tpos) (.Call (.Name "enumerate" p) [e] [] pos) (Lf ta):=by
 intro pins s σ H R I h;refine Call_ (uv I hg hm boot_enumerate (Rk (dM (ha pos pins s σ H _ I h) λus s1⟨vs,H1,I1,r1,q1⟩=>?_) hs rfl));obtain⟨x,ex,q⟩:=q1;subst ex;cases r1 with
 |cons r rr=>
  cases rr;obtain⟨t,rfl⟩:=r;refine call_enumerate_str λh' he hit hsz hk=>wpAny_pyIter_enum he ?_;have I2:Inv X pins σ H1 {s1 with heap:=h'}:=I1.kept (t':=s1.toks) hk;refine⟨s1.heap.objs.size+1,[s1.heap.objs.size+1,s1.heap.objs.size],_,_,H1,rfl,I2,CN x t (s1.heap.objs.size+1) s1.heap.objs.size,⟨⟨.none,he⟩,hit,Nat.succ_ne_self _⟩,λb hb=>?_,q⟩;have e':b=s1.heap.objs.size+1\/b=s1.heap.objs.size:=by simpa using hb
  have hle:s1.heap.objs.size<=b:=by
   rcases e' with z|z
   ·rw[z];exact RO _ _
   ·rw[z];exact PF _
  exact I1.A9 hle (I1.cE.fresh hle)
theorem sK{J:It}{n:Nat}{g:TG}{tb:TS}{D:Ends}{σ:St}{H:Hp}(Pv:Nat->St->Hp->Prop)(h0:Pv 0 σ H)(go:∀i σ H,i<n->Pv i σ H->J.go i H)(stop:∀σ H,Pv n σ H->J.stop n H)
  (hs:∀i σ H,i<n->Pv i σ H->∀x H',J.F6 i H x H'->g x σ H' λσ2 H2=>tb (D.lp (Pv (i+1))) σ2 H2)(hd:∀σ H,Pv n σ H->D.nx σ H):
  ∃W:Nat->Nat->St->Hp->Prop,(∃m,W 0 m σ H)/\∀i m σ H,W i m σ H->
   (J.stop i H/\D.nx σ H)\/(J.go i H/\∃N:St->Hp->Prop,(∀σ' H',N σ' H'->∃m',m'<m/\W (i+1) m' σ' H')/\∀x H',J.F6 i H x H'->g x σ H' λσ2 H2=>tb (D.lp N) σ2 H2):=by
 refine⟨λi m σ H=>m=n-i/\i<=n/\Pv i σ H,⟨n,by simp,QG _,h0⟩,?_⟩
 rintro i m σ H ⟨rfl,hi,p⟩
 rcases RB i n with hlt|hge
 ·exact .inr ⟨go i σ H hlt p,Pv (i+1),λσ' H' p'=>⟨n-(i+1),by omega,rfl,hlt,p'⟩,λx H' y=>hs i σ H hlt p x H' y⟩
 ·have e:i=n:=by omega
  subst e;exact .inl ⟨stop σ H p,hd σ H p⟩
def Got(H1:Hp)(D:Addr)(ys:List V)(y:V)(H4:Hp):Prop:=∃acc,H4 D=some (.lst acc)/\acc.length<sizeLine/\aD H1 (upd H4 D (.lst (acc++[y])))/\upd H4 D (.lst (acc++[y])) D=some (.lst ys)
theorem cY{H1 H:Hp}{D:Addr}{o:HO}(hD:H1 D=none)(s:aD H1 H):aD H1 (upd H D o):=λb u q=>by
 rw[ai (ak q hD)];exact s b u q
theorem Got.of{H1 H H4:Hp}{D:Addr}{as ys:List V}{y:V}(hD:H1 D=none)(s:aD H1 H)(e:H D=some (.lst as))(s4:aD H H4)(hz:as.length<=1000000)(ey:ys=as++[y]):Got H1 D ys y H4:=
 ⟨as,s4 _ _ e,by rw[PL];omega,cY hD (s.trans s4),by rw[ah,ey]⟩
theorem iU{J:It}{n:Nat}{g:TG}{tt:TT}{te:TE}{vs:List Nat}{σ:St}{H1:Hp}{D:Addr}{Qd:Hp->Prop}(A:Nat->List V)(hD:H1 D=none)(hA0:A 0=[])
  (go:∀i H,i<n->aD H1 H->J.go i H)(stop:∀H,aD H1 H->J.stop n H)
  (hs:∀i H,i<n->aD H1 H->H D=some (.lst (A i))->∀x H',J.F6 i H x H'->g x (wipe σ vs) H' λσ2 H2=>wipe σ2 vs=wipe σ vs/\tt σ2 H2 λb H3=>
   if b=true then te σ2 H3 λy H4=>Got H1 D (A (i+1)) y H4 else aD H1 H3/\H3 D=some (.lst (A (i+1))))
  (hd:∀H,aD H1 H->H D=some (.lst (A n))->Qd H):
  ∃W:Nat->Nat->Hp->Prop,(∃m,W 0 m (upd H1 D (.lst [])))/\∀i m H,W i m H->
   (J.stop i H/\Qd H)\/(J.go i H/\∃Nx:Hp->Prop,(∀H',Nx H'->∃m',m'<m/\W (i+1) m' H')/\∀x H',J.F6 i H x H'->g x (wipe σ vs) H' λσ2 H2=>wipe σ2 vs=wipe σ vs/\tt σ2 H2 λb H3=>
    if b=true then te σ2 H3 λy H4=>∃acc,H4 D=some (.lst acc)/\acc.length<sizeLine/\Nx (upd H4 D (.lst (acc++[y])))else Nx H3):=by
 refine⟨λi m H=>m=n-i/\i<=n/\aD H1 H/\H D=some (.lst (A i)),⟨n,by simp,QG _,cY hD (aD.refl _),by rw[ah,hA0]⟩,?_⟩
 rintro i m H ⟨rfl,hi,s,e⟩
 rcases RB i n with hlt|hge
 ·exact .inr ⟨go i H hlt s,λH'=>aD H1 H'/\H' D=some (.lst (A (i+1))),λH' p'=>⟨n-(i+1),by omega,rfl,hlt,p'⟩,λx H' y=>hs i H hlt s e x H' y⟩
 ·have ei:i=n:=by omega
  subst ei;exact .inl ⟨stop H s,hd H s e⟩
def JF(K:PB):R2:=λx y H Q=>∃(a p:Addr)(i j:Int)(l:List (Addr×Int×Int)),x=.ref a/\y=.ref p/\iP K H a [.int i,.int j]/\a0 K H p (l.map λq=>V.ref q.1)/\(∀q∈l,iP K H q.1 [.int q.2.1,.int q.2.2]/\q.1≠a)/\
 Q (.bl (!(l.any λq=>q.2.1==i&&q.2.2==j))) H
section
variable{X:Cx}
theorem z8:∀{l:List (Addr×Int×Int)}{us:List Value},Vals (l.map λq=>V.ref q.1) us->us=l.map λq=>Value.ref q.1
 |[],_,.nil=>rfl
 |q::l,_,.cons r t=>by
  cases r;rw[z8 t];rfl
open Classical in
theorem Fh(hu:X.A.units+64<cLine):vo X (compareOp .NotIn) (JF X.K):=by
 intro pins s σ H x y v u Q I rx ry h;obtain⟨a,p,i,j,l,rfl,rfl,ha,hp,hl,q⟩:=h;cases rx;cases ry;obtain⟨its,r,pl,hz⟩:=I.list hp;have ei:=z8 r;subst ei;obtain⟨ia,ra,pa,_⟩:=I.tuple ha;have two:∀{m k:Int}{us:List Value},Vals [.int m,.int k] us->∃t t',us=[.int m t,.int k t']:=λ{m k us} r=>by
  cases r with
  |cons r1 r2=>
   cases r2 with
   |cons r2 r3=>
    cases r3;obtain⟨t,rfl⟩:=r1;obtain⟨t',rfl⟩:=r2;exact⟨t,t',rfl⟩
 obtain⟨ta,ta',rfl⟩:=two ra
 let f:Value->Bool:=λz=>decide (∃q∈l,z=.ref q.1/\q.2.1=i/\q.2.2=j)
 have fq:∀q∈l,f (.ref q.1)=(q.2.1==i&&q.2.2==j):=λq hq=>by
  by_cases hb:q.2.1=i/\q.2.2=j
  ·have e1:f (.ref q.1)=true:=PJ ⟨q,hq,rfl,hb⟩
   rw[e1];simp[hb.1,hb.2]
  ·have e1:f (.ref q.1)=false:=Qr λ⟨q',hq',e,e1,e2⟩=>hb (by
    have ee:q.1=q'.1:=by injection e
    have t1:=(hl q hq).1;rw[ee]at t1;obtain⟨_,r1,p1,_⟩:=I.tuple t1;obtain⟨_,r2,p2,_⟩:=I.tuple (hl q' hq').1;obtain⟨_,_,rfl⟩:=two r1;obtain⟨_,_,rfl⟩:=two r2;obtain⟨o1,g1,_,n1,d1⟩:=p1;obtain⟨o2,g2,_,n2,d2⟩:=p2;rw[g1]at g2;cases g2;rw[d1]at d2;simp at d2;exact⟨d2.1.1.1.trans e1,d2.1.2.1.trans e2⟩)
   rw[e1]
   symm
   rw[Bool.and_eq_false_iff]
   by_cases h1:q.2.1=i
   ·right
    simpa usingλh2=>hb ⟨h1,h2⟩
   ·left
    simpa using h1
 refine SeqAt.notIn_listAt f pl.isList (λz hz'=>?_) ⟨.bl _,H,I,rfl,?_⟩
 ·have hm:z∈l.map λq=>Value.ref q.1:=by simpa using hz'
  obtain⟨q,hq,rfl⟩:=P_.mp hm;obtain⟨iq,rq,pq,_⟩:=I.tuple (hl q hq).1;obtain⟨tq,tq',rfl⟩:=two rq;rw[fq q hq];have e:=SeqAt.RcAt.tuples (A:=X.A.in1) (e:=λk=>if k=0 then q.2.1==i else q.2.2==j) pq pa (by show X.A.units+1<cLine;omega) λk h1 h2=>by
   match k,h1,h2 with
   |0,_,_=>exact SeqAt.EqAt.int_int _ _ _ _
   |1,_,_=>exact SeqAt.EqAt.int_int _ _ _ _
   |k+2,h1,_=>exact absurd h1 (by simp)
  refine SeqAt.EqAt.of_refs (hl q hq).2 ?_;have e2:((List.range (min (#[Value.int q.2.1 tq,Value.int q.2.2 tq']:Array Value).size (#[Value.int i ta,Value.int j ta']:Array Value).size)).all (λk=>if k=0 then q.2.1==i else q.2.2==j)&&(#[Value.int q.2.1 tq,Value.int q.2.2 tq']:Array Value).size==(#[Value.int i ta,Value.int j ta']:Array Value).size)=(q.2.1==i&&q.2.2==j):=by
   simp[List.range_succ]
  rw[<-e2];exact e
 ·have e3:((l.map λq=>Value.ref q.1).toArray.any f)=l.any λq=>q.2.1==i&&q.2.2==j:=by
   rw[List.any_toArray,Rr,QN,QR,QR];constructor
   ·rintro⟨q,hq,e⟩
    exact⟨q,hq,by rw[<-fq q hq];exact e⟩
   ·rintro⟨q,hq,e⟩
    exact⟨q,hq,(fq q hq).trans e⟩
  rw[e3];exact q
end
open AutoSeq1 (wpAny_loadPart')
theorem Bx(l:Addr)(items:Array Value)(n:Nat)(dd:Option Addr)(sl:Array (Option Value))(x:Value)(e:Value->Bool)(j:Nat)(hj:j<items.size)
  (hit:e items[j]=true)(hno:∀m(hm:m<items.size),m<j->e items[m]=false):
  Meets (Builtin.«tuple.index» ⟨[.ref l,x],[]⟩)
   (λA R s=>s.heap.get? l=some {cls:= .type "tuple",dict:=dd,data:= .seq items n,slots:=sl}/\(∀y,y∈items->SeqAt.EqAt A.in1 s y x (e y))/\R (.ok (.ret (.int j s.toks))) {s with toks:=s.toks+1}):=by
 intro prog w A R s h;obtain⟨hp,g,d,tk,os⟩:=s;obtain⟨hl,he,h⟩:=h;unfold Builtin.«tuple.index»;simp only[Std.Legacy.Range.forIn_eq_forIn_range',Std.Legacy.Range.size];have loop:∀(k i:Nat)(Q:(Option Fin×Unit)->Shared->Prop)(E:Value->Shared->Prop),i+k=items.size->i<=j->Q (some (.done (.ret (.int j tk))),()) ⟨hp,g,d,tk+1,os⟩->
   wpAny (model prog w) A.in1 (forIn (List.range' i k) ((none:Option Fin),()) λi __s=>(match items[i]? with
    |some y=>do
     let b<-eqBool y x
     if b=true then do
      let r<-retInt (i:Nat)
      pure (ForInStep.done (some r,()))
     else pure (ForInStep.yield (none,()))
    |_=>pure (ForInStep.yield (none,())):Sem (ForInStep (Option Fin×Unit)))) Q E ⟨hp,g,d,tk,os⟩:=by
  intro k
  induction k with
  |zero=>intro i Q E h1 h2 _;omega
  |succ k ih=>
   intro i Q E h1 h2 q;rw[List.range'_succ,List.forIn_cons];have hi:i<items.size:=by omega
   have ei:items[i]? =some items[i]:=Array.getElem?_eq_getElem hi;rw[ei];refine PN (PN ((he items[i] (Array.getElem_mem hi)) prog w E _ ?_))
   by_cases hij:i=j
   ·subst hij
    rw[hit,Pz rfl];refine PN ?_;unfold retInt;refine PN (wpAny_mkInt (Qv (Qv (Qv q))))
   ·rw[hno i hi (by omega),Py PM]
    exact Qv (ih (i+1) Q E (by omega) (by omega) q)
 wp_walk using wpAny_loadPart' hl
 exact loop ((min items.size items.size-0+1-1)/1) 0 _ _ (by rw[Nat.min_self];omega) (QG _) (Qv h)
section
variable{X:Cx}
def IV(K:PB):V->List V->Hp->VK->Prop:=λx xs H Q=>∃(a:Addr)(ys:List V)(y:V)(j:Nat)(z:V),x=V.ref a/\xs=[y]/\iP K H a ys/\ka y=true/\ys.all ka=true/\ys[j]? =some z/\EF z y=true/\
 (∀(m:Nat)(z':V),m<j->ys[m]? =some z'->EF z' y=false)/\Q (.int (j:Nat)) H
theorem FD:MP X "tuple.index" (IV X.K):=by
 intro pins s σ H x xs v us Q I rx rxs h;obtain⟨a,ys,y,j,z,rfl,rfl,hs,fy,fys,hz,hzj,hno,q⟩:=h;cases rx;cases rxs with
 |cons ry rt=>
  rename_i uy ut
  cases rt;obtain⟨its,rv,⟨⟨cls,dd,data,sl⟩,ho,hc,n,hd⟩,hlen⟩:=I.tuple hs;simp only at hc hd;subst hc hd;obtain⟨u,hu,ru⟩:=rv.get hz;obtain⟨hjl,hje⟩:=PQ.mp hu;have hvl:=rv.length;have hj:j<its.toArray.size:=by simpa using hjl
  refine call_meets PySem.F.slot_tuple_index ⟨_,ho,rfl⟩ PySem.F.entry_tuple_index (PySem.F.args_tuple_index_2 _ _)
   (Bx a its.toArray n dd sl uy (Iq y) j hj ?_ ?_) ⟨ho,λu' hu'=>pB ry fy rv fys u' (by simpa using hu'),?_⟩
  ·have e1:its.toArray[j]=u:=by simpa using hje
   rw[e1,tT ru (vR fys hz)];exact hzj
  ·intro m hm hmj
   have hml:m<its.length:=by simpa using hm
   have hmy:m<ys.length:=by omega
   have hy':ys[m]? =some ys[m]:=PD hmy;obtain⟨u2,hu2,ru2⟩:=rv.get hy';obtain⟨_,hme⟩:=PQ.mp hu2;have e1:its.toArray[m]=u2:=by simpa using hme
   rw[e1,tT ru2 (vR fys hy')];exact hno m _ hmj hy'
  ·exact⟨.int (j:Nat),H,I.tok _,⟨_,rfl⟩,q⟩
end
section
variable{X:Cx}{e:Expr}{f:Str}{pos:Pos}{ta:TE}
theorem sh(K:PB)(h:X.K=K):LR X (LW K):=by subst h;exact a_
theorem vQ(K:PB)(h:X.K=K):LR X (MH K):=by subst h;exact ji
theorem sC(K:PB)(h:X.K=K)(he:PE X e ta)(hb:attributeBase e f X.env (eval e X.env)=eval e X.env):PE X (.Attribute e f pos) (Mn K ta f):=by subst h;exact au he hb
theorem Hi(K:PB)(h:X.K=K):Nu X (Mw K):=by subst h;exact Ek
theorem AJ:MS X .Add (λx y H Q=>∃i j,x=.str i/\y=.str j/\i.length+j.length<=sizeLine/\Q (.str (i++j)) H):=by
 intro pins s σ H x y v u Q I rx ry h;obtain⟨i,j,rfl,rfl,hz,q⟩:=h;obtain⟨t,rfl⟩:=rx;obtain⟨t',rfl⟩:=ry;exact PyProof.Rows.iadd_str (λt' tk=>⟨.str _,H,I.tok _,⟨_,rfl⟩,q⟩) hz
end
theorem fZ.d1{k:Nat}{A:Around}(r:fZ k A):A.depth+1<recursionLimit:=by have:=r.dp;omega
theorem lA{X:Cx}{e:Expr}{f:Str}{pos:Pos}{ta:TE}(K:PB)(h:X.K=K)(he:PE X e ta)(hb:attributeBase e f X.env (eval e X.env)=eval e X.env):PE X (.Attribute e f pos) (OS K ta f):=by subst h;exact IU he hb
section
variable{X:Cx}
def Ga(K:PB):List V->Hp->VK->Prop:=λvs H Q=>∃(a:Addr)(ns:List Int),vs=[V.ref a]/\a0 K H a (ns.map V.int)/\ns.length<=sizeLine/\
 ∀(ns':List Int)(p:Addr),ns'.Perm ns->ns'.Pairwise (·<=·)->H p=none->Q (.ref p) (upd H p (.lst (ns'.map V.int)))
theorem rS:nj X (.builtin "sorted") (Ga X.K):=by
 intro pins s σ H vs us Q I r h;obtain⟨a,ns,rfl,hs,h64,q⟩:=h;obtain⟨its,rv,hl,_⟩:=I.list hs;rw[Vals.IT r];have hi:=rv.ints;refine PyProof.Rows.sorted_intsAny hl.isList hi (by rw[hi.length];exact h64) λout ns' h1 h2 h3=>?_;obtain⟨ep,he'⟩:=PyProof.Rows.sortedAll_at s.heap its out;have hlen:(ns'.map V.int).length<=sizeLine:=by rw[Px,h2.length_eq];exact h64
 exact⟨.ref _,upd H (s.heap.objs.size+1) (.lst (ns'.map V.int)),I.laid (t':=s.toks) (λ_ _=>PyProof.Rows.sortedAll_old) (Nat.le_succ _) ⟨hlen,out.toList,ep,sB h1,he'⟩,rfl,q ns' _ h2 h3 (I.cE.fresh (Nat.le_succ _))⟩
end
def OO(o:Obj):Prop:=o.cls=.type "tuple"/\o.dict=none
def LM(K:PB)(p:Addr)(H:Hp):Prop:=(∃o xs,H p=some (.xK o (.tup xs))/\OO o)\/∃o,K.lookup p=some o/\o.cls=Value.type "tuple"/\o.dict=none
def Nn(t:TA):TE:=λσ H Q=>t σ H λxs H1=>xs.length<=sizeLine/\∀p o,H1 p=none->OO o->Q (.ref p) (upd H1 p (.xK o (.tup xs)))
def OF(K:PB)(r:V->List V->Hp->VK->Prop)(to:TE)(t:TA):TE:=λσ H Q=>to σ H λx H1=>(∃p,x=.ref p/\LM K p H1)/\t σ H1 λxs H2=>r x xs H2 Q
section
variable{X:Cx}{o e:Expr}{es:List Expr}{to:TE}{t:TA}{name:Str}{apos cpos pos:Pos}{id:String}{r:V->List V->Hp->VK->Prop}
theorem or{x1}(h:PA X es t):PE X (.Tuple es x1 pos) (Nn t):=by
 intro pins s σ H Q I hq;refine wpAny_Tuple_spliced (dM (h pos pins s σ H _ I hq) λus s1⟨xs,H1,I1,r,z,q⟩=>⟨by rw[<-r.length];exact z,?_⟩);have hf:H1 s1.heap.objs.size=none:=I1.cE.fresh (PF _);refine⟨.ref s1.heap.objs.size,upd H1 s1.heap.objs.size (.xK {cls:=Value.type "tuple",data:=Data.seq us.toArray} (.tup xs)),I1.laid (t':=s1.toks) (λb u e=>Qi _ e) (PF _) ?_,rfl,?_⟩
 ·exact⟨QE _ rfl,z,us,r,⟨_,QE _ rfl,rfl,_,rfl⟩⟩
 ·exact q _ _ hf ⟨rfl,rfl⟩
theorem KC(pa:PlainAttrs "tuple")(slot:Slot "tuple" name id)(hty:typeOf (.builtin id)=pure (.type "method_descriptor"))(hm:MP X id r)(ho:PE X o to)(ha:PA X (e::es) t)
  (hbase:attributeBase o name X.env (eval o X.env)=eval o X.env:=by rfl)
  (hfew:((backTo cpos (starEach (e::es) X.env)).all (λx=> !x.1)&&(backToKw cpos (keywordEach [] X.env)).all (λx=>x.1.isSome)
   &&decide ((e::es).length+([]:List Keyword).length+(if([]:List Keyword).isEmpty then 0 else 1)<30))=true:=by rfl)
  (hline:(apos.endLine==cpos.line)=true:=by rfl)(hs:starEach (e::es) X.env=(false,eval e X.env)::starEach es X.env:=by rfl)(hplain:(backTo cpos (starEach es X.env)).any (·.1)=false:=by rfl):
  PE X (.Call (.Attribute o name apos) (e::es) [] cpos) (OF X.K r to t):=by
 intro pins s σ H Q I h;refine wpAny_Call_method_late hbase hfew hline rfl (dM (ho pins s σ H _ I h) λv s1⟨x,H1,I1,r1,⟨p,ex,ty⟩,q1⟩=>?_);subst ex;obtain rfl:v=Value.ref p:=r1;have hh:∃ob,s1.heap.get? p=some ob/\ob.cls=.type "tuple"/\ob.dict=none:=by
  rcases ty with⟨ob,xs,h1,h2,h3⟩|⟨ob,h1,h2,h3⟩
  ·obtain⟨g,_⟩:=I1.cE p _ h1
   exact⟨ob,g,h2,h3⟩
  ·exact⟨ob,I1.qQ p ob h1,h2,h3⟩
 obtain⟨ob,g,g2,g3⟩:=hh;refine⟨"tuple",id,pa,slot,hty,⟨ob,g,g2⟩,λa e=>by cases e;exact⟨ob,g,g3⟩,?_⟩;have hA:=ha cpos pins s1 σ H1 _ I1 q1;rw[hs]at hA ⊢;refine Calls.callWith_builtin (by show(false||(backTo cpos (starEach es X.env)).any (·.1))=false;rw[hplain]<;>rfl) (Calls.evalArgs_plain ?_);exact dM hA λus s2⟨vs,H2,I2,r2,q2⟩=>hm pins s2 σ H2 (.ref p) vs _ us Q I2 rfl r2 q2
end
end L2
section
section
set_option maxHeartbeats 2000000
namespace L2
open PySem PySem.Spec PyProof.Rows
open PySem.W (WData Codec OpenSpec Well WellAll ReadsW ReadsAllW)
mutual
inductive Dw(K:PB)(H:Hp):V->WData->Prop
 |eB:Dw K H .eB .none
 |bl (b:Bool):Dw K H (.bl b) (.bool b)
 |int (i:Int):Dw K H (.int i) (.int i)
 |str (x:Str):Dw K H (.str x) (.str x)
 |Br (b:Array UInt8):Dw K H (.Br b) (.bytes b.toList)
 |lst {a:Addr} {xs:List V} {ds:List WData}:a0 K H a xs->m_ K H xs ds->Dw K H (.ref a) (.list ds)
 |tup {a:Addr} {xs:List V} {ds:List WData}:iP K H a xs->m_ K H xs ds->Dw K H (.ref a) (.tuple ds)
inductive m_(K:PB)(H:Hp):List V->List WData->Prop
 |nil:m_ K H [] []
 |cons {v:V} {vs:List V} {d:WData} {ds:List WData}:Dw K H v d->m_ K H vs ds->m_ K H (v::vs) (d::ds)
end
theorem DM{K:PB}{H:Hp}:∀ns:List Int,m_ K H (ns.map V.int) (ns.map WData.int)
 |[]=>.nil
 |n::r=>.cons (.int n) (DM r)
theorem Ev{K:PB}{H:Hp}:∀(ns:List Int)(xs:List V),m_ K H xs (ns.map WData.int)->xs=ns.map V.int
 |[],xs,h=>by
  cases h;rfl
 |n::r,xs,h=>by
  cases h with
  |cons h1 h2=>
   cases h1;rw[Ev r _ h2]<;>rfl
section
variable{P:Qw}{w:World}{K:PB}{H:Hp}{h:Heap}{R:PySem.W.WRecords}{cl:Str->Option Addr}
theorem Ly{a:Addr}{xs:List V}(cE:lV P w H h)(KX:K.In h)(q:a0 K H a xs):∃(its:List Value)(o:Obj)(n:Nat),Vals xs its/\h.get? a=some o/\o.cls=.type "list"/\o.data=.seq its.toArray n:=by
 rcases q with q|⟨o,its,n,e,hc,_,hd,_,hv⟩
 ·obtain⟨_,its,n,hv,e⟩:=(show dH P w H h a (.lst xs)from q.ok cE)
  exact⟨its,_,n,hv,e,rfl,rfl⟩
 ·exact⟨its.toList,o,n,hv,KX _ _ e,hc,by simp[hd]⟩
theorem KG{a:Addr}{xs:List V}(cE:lV P w H h)(KX:K.In h)(q:iP K H a xs):∃(its:List Value)(o:Obj)(n:Nat),Vals xs its/\h.get? a=some o/\o.cls=.type "tuple"/\o.data=.seq its.toArray n:=by
 rcases q with q|⟨o,its,n,e,hc,hd,_,hv⟩
 ·obtain⟨_,its,hv,o,e,hc,n,hd⟩:=(show dH P w H h a (.tup xs)from q.ok cE)
  exact⟨its,o,n,hv,e,hc,hd⟩
 ·exact⟨its.toList,o,n,hv,KX _ _ e,hc,by simp[hd]⟩
mutual
theorem Dw.reads(cE:lV P w H h)(KX:K.In h):∀(d:WData)(v:V)(u:Value),Dw K H v d->RelV v u->∃as,ReadsW R cl h u d as
 |.none,_,_,x,r=>by
  cases x;cases r;exact⟨_,ReadsW.none⟩
 |.bool b,_,_,x,r=>by
  cases x;cases r;exact⟨_,ReadsW.bool b⟩
 |.int i,_,_,x,r=>by
  cases x;obtain⟨t,rfl⟩:=r;exact⟨_,ReadsW.int i t⟩
 |.str s,_,_,x,r=>by
  cases x;obtain⟨t,rfl⟩:=r;exact⟨_,ReadsW.str s t⟩
 |.bytes b,_,_,x,r=>by
  cases x;obtain⟨t,rfl⟩:=r;exact⟨_,ReadsW.bytes _ t⟩
 |.list ds,_,_,x,r=>by
  cases x with
  |lst hs ha=>
   cases r;obtain⟨its,o,n,rv,ho,hc,hd⟩:=Ly cE KX hs;obtain⟨as,hr⟩:=Dw.readsAll cE KX ds _ its ha rv;exact⟨_,ReadsW.list ho hc hd hr⟩
 |.tuple ds,_,_,x,r=>by
  cases x with
  |tup hs ha=>
   cases r;obtain⟨its,o,n,rv,ho,hc,hd⟩:=KG cE KX hs;obtain⟨as,hr⟩:=Dw.readsAll cE KX ds _ its ha rv;exact⟨_,ReadsW.tuple ho hc hd hr⟩
 |.float _,_,_,x,_=>by cases x
 |.dict _,_,_,x,_=>by cases x
 |.bytearray _,_,_,x,_=>by cases x
 |.set _,_,_,x,_=>by cases x
 |.frozenset _,_,_,x,_=>by cases x
 |.obj _ _,_,_,x,_=>by cases x
theorem Dw.readsAll(cE:lV P w H h)(KX:K.In h):∀(ds:List WData)(vs:List V)(us:List Value),m_ K H vs ds->Vals vs us->∃as,ReadsAllW R cl h us ds as
 |[],_,_,x,r=>by
  cases x;cases r;exact⟨_,ReadsAllW.nil⟩
 |d::ds,_,_,x,r=>by
  cases x with
  |cons h1 h2=>
   cases r with
   |cons r1 r2=>
    obtain⟨as,q1⟩:=Dw.reads cE KX d _ _ h1 r1;obtain⟨bs,q2⟩:=Dw.readsAll cE KX ds _ _ h2 r2;exact⟨_,ReadsAllW.cons q1 q2⟩
end
end
mutual
def Eb:WData->Bool
 |.none=>true
 |.bool _=>true
 |.int _=>true
 |.str _=>true
 |.bytes _=>true
 |.list xs=>vp xs
 |.tuple xs=>vp xs
 |_=>false
def vp:List WData->Bool
 |[]=>true
 |x::r=>Eb x&&vp r
end
theorem B8{α:Type}{f:α->WData}(h:∀a,Eb (f a)=true):∀l:List α,vp (l.map f)=true
 |[]=>rfl
 |x::r=>by
  show(Eb (f x)&&vp (r.map f))=true;rw[h x,B8 h r]<;>rfl
theorem pX:∀(c:Codec)(a:c.denote),Eb (c.enc a)=true
 |.unit,_=>rfl
 |.bool,_=>rfl
 |.int _ _,_=>rfl
 |.nat _ _,_=>rfl
 |.u8,_=>rfl
 |.bytes _ _,_=>rfl
 |.text _ _ _ _,_=>rfl
 |.list _ _ c,a=>B8 (λx=>pX c x) a
 |.pair c d,a=>by
  show(Eb (c.enc a.1)&&(Eb (d.enc a.2)&&true))=true;rw[pX c a.1,pX d a.2]<;>rfl
 |.triple c d e,a=>by
  show(Eb (c.enc a.1)&&(Eb (d.enc a.2.1)&&(Eb (e.enc a.2.2)&&true)))=true;rw[pX c a.1,pX d a.2.1,pX e a.2.2]<;>rfl
 |.option c,none=>rfl
 |.option c,some x=>pX c x
theorem zA:∀(cs:List Codec)(a:Codec.denoteAll cs),vp (Codec.encAll cs a)=true
 |[],_=>rfl
 |c::cs,a=>by
  show(Eb (c.enc a.1)&&vp (Codec.encAll cs a.2))=true;rw[pX c a.1,zA cs a.2]<;>rfl
theorem rR:∀{xs:List WData}{d:WData},d∈xs->d.weight<=WData.weightAll xs
 |[],d,h=>absurd h (by simp)
 |x::r,d,h=>by
  show d.weight<=x.weight+1+WData.weightAll r;rcases Qh.mp h with e|m
  ·rw[e]
   omega
  ·have z:=rR m
   omega
def toV:Value->V
 |.none=>.eB
 |.bool b=>.bl b
 |.int i _=>.int i
 |.str x _=>.str x
 |.bytes b _=>.Br b
 |.ref a=>.ref a
 |_=>.eB
def FH(A:List Addr):Value->Prop
 |.none=>True
 |.bool _=>True
 |.int _ _=>True
 |.str _ _=>True
 |.bytes _ _=>True
 |.ref a=>a∈A
 |_=>False
theorem FH.mono{A B:List Addr}(h:∀a∈A,a∈B):∀{u:Value},FH A u->FH B u:=λ{u} x=>by
 cases u with
 |ref a=>exact h a x
 |none=>trivial
 |bool b=>trivial
 |int i t=>trivial
 |str s t=>trivial
 |bytes b t=>trivial
 |_=>exact False.elim x
theorem HK{A:List Addr}{u:Value}(x:FH A u):RelV (toV u) u:=by
 cases u with
 |ref a=>rfl
 |none=>rfl
 |bool b=>rfl
 |int i t=>exact⟨t,rfl⟩
 |str s t=>exact⟨t,rfl⟩
 |bytes b t=>exact⟨t,rfl⟩
 |_=>exact False.elim x
theorem m8{A:List Addr}:∀{vs:List Value},(∀u∈vs,FH A u)->Vals (vs.map toV) vs
 |[],_=>.nil
 |u::r,h=>.cons (HK (h u (PU ..))) (m8 λx hx=>h x (PY _ hx))
def oH(h:Heap)(A:List Addr)(a:Addr):Prop:=∃vs:List Value,vs.length<=sizeLine/\(∀u∈vs,FH A u)/\
 (h.get? a=some {cls:= .type "list",data:= .seq vs.toArray}\/h.get? a=some {cls:= .type "tuple",data:= .seq vs.toArray})
theorem oH.mono{h:Heap}{A B:List Addr}{a:Addr}(k:∀a∈A,a∈B)(x:oH h A a):oH h B a:=by
 obtain⟨vs,h1,h2,h3⟩:=x;exact⟨vs,h1,λu hu=>(h2 u hu).mono k,h3⟩
theorem mq{P:Params}{h:Heap}:∀{vs:List Value}{ds:List WData},WellAll P h vs ds->vs.length=ds.length
 |_,_,.nil=>rfl
 |_,_,.cons _ b=>by
  show _+1=_+1;rw[mq b]
theorem zU{P:Params}{h:Heap}{v:Value}{ds:List WData}(x:Well P h v (.list ds)):∃(a:Addr)(vs:List Value),v=.ref a/\h.get? a=some {cls:= .type "list",data:= .seq vs.toArray}/\WellAll P h vs ds:=by
 cases x with
 |list ho hall=>exact⟨_,_,rfl,ho,hall⟩
theorem wD{P:Params}{h:Heap}{v:Value}{ds:List WData}(x:Well P h v (.tuple ds)):∃(a:Addr)(vs:List Value),v=.ref a/\h.get? a=some {cls:= .type "tuple",data:= .seq vs.toArray}/\WellAll P h vs ds:=by
 cases x with
 |tuple ho hall=>exact⟨_,_,rfl,ho,hall⟩
theorem zR{P:Params}{h:Heap}{us:List Value}{d:WData}{ds:List WData}(x:WellAll P h us (d::ds)):∃(v:Value)(vs:List Value),us=v::vs/\Well P h v d/\WellAll P h vs ds:=by
 cases x with
 |cons a b=>exact⟨_,_,rfl,a,b⟩
theorem EI{n:Nat}(h:n<=1048576):n<=sizeLine:=Qq h (by decide)
section
variable{P:Params}{h:Heap}
mutual
theorem HW:∀(d:WData)(v:Value),Well P h v d->Eb d=true->d.weight<=1048576->∃A:List Addr,FH A v/\∀a∈A,oH h A a
 |.none,_,x,_,_=>by
  cases x;exact⟨[],trivial,λa m=>absurd m (by simp)⟩
 |.bool b,_,x,_,_=>by
  cases x;exact⟨[],trivial,λa m=>absurd m (by simp)⟩
 |.int i,_,x,_,_=>by
  cases x;exact⟨[],trivial,λa m=>absurd m (by simp)⟩
 |.str s,_,x,_,_=>by
  cases x;exact⟨[],trivial,λa m=>absurd m (by simp)⟩
 |.bytes b,_,x,_,_=>by
  cases x;exact⟨[],trivial,λa m=>absurd m (by simp)⟩
 |.list ds,_,x,p,z=>by
  obtain⟨a,vs,rfl,ho,hall⟩:=zU x;have z2:WData.weightAll ds<=1048576:=z;obtain⟨A,h1,h2⟩:=sI ds _ hall p λd hd=>Qq (rR hd) z2;have k:∀b∈A,b∈a::A:=λb hb=>PY _ hb;refine⟨a::A,PU ..,λb hb=>?_⟩;rcases Qh.mp hb with e|m
  ·rw[e]
   exact⟨vs,EI (by rw[mq hall];exact Qq (PySem.W.length_le_weightAllW ds) z2),λu hu=>(h1 u hu).mono k,.inl ho⟩
  ·exact(h2 b m).mono k
 |.tuple ds,_,x,p,z=>by
  obtain⟨a,vs,rfl,ho,hall⟩:=wD x;have z2:WData.weightAll ds<=1048576:=z;obtain⟨A,h1,h2⟩:=sI ds _ hall p λd hd=>Qq (rR hd) z2;have k:∀b∈A,b∈a::A:=λb hb=>PY _ hb;refine⟨a::A,PU ..,λb hb=>?_⟩;rcases Qh.mp hb with e|m
  ·rw[e]
   exact⟨vs,EI (by rw[mq hall];exact Qq (PySem.W.length_le_weightAllW ds) z2),λu hu=>(h1 u hu).mono k,.inr ho⟩
  ·exact(h2 b m).mono k
 |.float _,_,_,p,_=>Bool.noConfusion (show false=true from p)
 |.dict _,_,_,p,_=>Bool.noConfusion (show false=true from p)
 |.bytearray _,_,_,p,_=>Bool.noConfusion (show false=true from p)
 |.set _,_,_,p,_=>Bool.noConfusion (show false=true from p)
 |.frozenset _,_,_,p,_=>Bool.noConfusion (show false=true from p)
 |.obj _ _,_,_,p,_=>Bool.noConfusion (show false=true from p)
theorem sI:∀(ds:List WData)(vs:List Value),WellAll P h vs ds->vp ds=true->(∀d∈ds,d.weight<=1048576)->∃A:List Addr,(∀u∈vs,FH A u)/\∀a∈A,oH h A a
 |[],_,x,_,_=>by
  cases x;exact⟨[],λu m=>absurd m (by simp),λa m=>absurd m (by simp)⟩
 |d::ds,_,x,p,z=>by
  obtain⟨v,vs,rfl,x1,x2⟩:=zR x;have q:Eb d=true/\vp ds=true:=Bool.and_eq_true_iff.mp p;obtain⟨A,a1,a2⟩:=HW d v x1 q.1 (z d (PU ..));obtain⟨B,b1,b2⟩:=sI ds vs x2 q.2 λe he=>z e (PY _ he);have kA:∀b∈A,b∈A++B:=λb hb=>Qc.mpr (.inl hb);have kB:∀b∈B,b∈A++B:=λb hb=>Qc.mpr (.inr hb);refine⟨A++B,λu hu=>?_,λb hb=>?_⟩
  ·rcases Qh.mp hu with e|m
   ·rw[e]
    exact a1.mono kA
   ·exact(b1 u m).mono kB
  ·rcases Qc.mp hb with m|m
   ·exact(a2 b m).mono kA
   ·exact(b2 b m).mono kB
end
end
def II(o:Obj):Option HO:=match o.data with
 |.seq vs _=>if(o.cls==Value.type "list")=true then some (.xK o (.lst (vs.toList.map toV)))else some (.xK o (.tup (vs.toList.map toV)))
 |_=>none
def nX(K:PB)(h:Heap)(A:List Addr):Hp:=λb=>if b∈A then(if(K.lookup b).isNone=true then(h.get? b).bind II else none)else none
def Bf(H:Hp):Prop:=∀b,H b=none\/∃o u,H b=some (.xK o u)
theorem BO(vs:List Value):II {cls:= .type "list",data:= .seq vs.toArray}=some (.xK {cls:= .type "list",data:= .seq vs.toArray} (.lst (vs.map toV))):=by
 show(if(Value.type "list"==Value.type "list")=true then some (HO.xK {cls:= .type "list",data:= .seq vs.toArray} (.lst (vs.toArray.toList.map toV)))else some (HO.xK {cls:= .type "list",data:= .seq vs.toArray} (.tup (vs.toArray.toList.map toV))))=_;rw[Pz (beq_self_eq_true _)]
theorem Cv(vs:List Value):II {cls:= .type "tuple",data:= .seq vs.toArray}=some (.xK {cls:= .type "tuple",data:= .seq vs.toArray} (.tup (vs.map toV))):=by
 show(if(Value.type "tuple"==Value.type "list")=true then some (HO.xK {cls:= .type "tuple",data:= .seq vs.toArray} (.lst (vs.toArray.toList.map toV)))else some (HO.xK {cls:= .type "tuple",data:= .seq vs.toArray} (.tup (vs.toArray.toList.map toV))))=_;rw[Py (by decide)]
section
variable{P:Qw}{w:World}{K:PB}{h:Heap}{A:List Addr}
theorem v6{b:Addr}{o:Obj}(hb:b∈A)(hk:K.lookup b=none)(e:h.get? b=some o):nX K h A b=II o:=by
 unfold nX;rw[Pz hb,hk,Pz (show(none:Option Obj).isNone=true from rfl),e]<;>rfl
theorem Jf{b:Addr}{u:HO}(q:nX K h A b=some u):b∈A/\K.lookup b=none:=by
 unfold nX at q
 by_cases hb:b∈A
 ·rw[Pz hb]at q
  cases hk:K.lookup b with
  |none=>exact⟨hb,rfl⟩
  |some o=>
   rw[hk,Py (by simp)]at q;cases q
 ·rw[Py hb]at q
  cases q
theorem v9(ar:∀a∈A,oH h A a){b:Addr}{u:HO}(q:nX K h A b=some u):K.lookup b=none/\∃vs:List Value,vs.length<=sizeLine/\(∀u∈vs,FH A u)/\
  ((h.get? b=some {cls:= .type "list",data:= .seq vs.toArray}/\u=.xK {cls:= .type "list",data:= .seq vs.toArray} (.lst (vs.map toV)))\/
   (h.get? b=some {cls:= .type "tuple",data:= .seq vs.toArray}/\u=.xK {cls:= .type "tuple",data:= .seq vs.toArray} (.tup (vs.map toV)))):=by
 obtain⟨hb,hk⟩:=Jf q;obtain⟨vs,h1,h2,h3⟩:=ar b hb;refine⟨hk,vs,h1,h2,?_⟩;rcases h3 with e|e
 ·rw[v6 hb hk e,BO]at q
  exact .inl ⟨e,(Qk q).symm⟩
 ·rw[v6 hb hk e,Cv]at q
  exact .inr ⟨e,(Qk q).symm⟩
theorem Fv(ar:∀a∈A,oH h A a):Bf (nX K h A):=λb=>by
 cases q:nX K h A b with
 |none=>exact .inl rfl
 |some u=>
  obtain⟨_,vs,_,_,⟨_,e⟩|⟨_,e⟩⟩:=v9 ar q
  ·exact .inr ⟨_,_,by rw[e]⟩
  ·exact .inr ⟨_,_,by rw[e]⟩
theorem JN(ar:∀a∈A,oH h A a):lV P w (nX K h A) h:=λb u q=>by
 obtain⟨_,vs,h1,h2,⟨e,rfl⟩|⟨e,rfl⟩⟩:=v9 ar q
 ·exact⟨e,by rw[Px];exact h1,vs,_,m8 h2,e⟩
 ·exact⟨e,by rw[Px];exact h1,vs,m8 h2,_,e,rfl,_,rfl⟩
theorem v7{c c':Value}{vs us:List Value}(e:(some {cls:=c,data:= .seq vs.toArray}:Option Obj)=some {cls:=c',data:= .seq us.toArray}):c=c'/\vs=us:=by
 have e1:=Qk e;have e2:c=c':=QI Obj.cls e1;have e3:Data.seq vs.toArray=Data.seq us.toArray:=QI Obj.data e1;injection e3 with e4;refine⟨e2,?_⟩;have e5:=QI Array.toList e4;simpa using e5
theorem Op(KX:K.In h)(ar:∀a∈A,oH h A a){a:Addr}{vs:List Value}(ha:a∈A)(e:h.get? a=some {cls:= .type "list",data:= .seq vs.toArray}):(∀u∈vs,FH A u)/\a0 K (nX K h A) a (vs.map toV):=by
 obtain⟨us,h1,h2,h3⟩:=ar a ha;have hu:us=vs:=by
  rcases h3 with q|q
  ·rw[e]at q
   exact(v7 q).2.symm
  ·rw[e]at q
   exact absurd (Value.type.inj (v7 q).1) (by decide)
 subst hu;refine⟨h2,?_⟩;cases hk:K.lookup a with
 |none=>exact .inl (.inr ⟨_,by rw[v6 ha hk e,BO]⟩)
 |some o=>
  have e2:=KX a o hk;rw[e]at e2;obtain rfl:=Qk e2;exact .inr ⟨_,us.toArray,_,hk,rfl,rfl,rfl,by rw[Qn];exact h1,by simpa using m8 h2⟩
theorem NU(KX:K.In h)(ar:∀a∈A,oH h A a){a:Addr}{vs:List Value}(ha:a∈A)(e:h.get? a=some {cls:= .type "tuple",data:= .seq vs.toArray}):(∀u∈vs,FH A u)/\iP K (nX K h A) a (vs.map toV):=by
 obtain⟨us,h1,h2,h3⟩:=ar a ha;have hu:us=vs:=by
  rcases h3 with q|q
  ·rw[e]at q
   exact absurd (Value.type.inj (v7 q).1) (by decide)
  ·rw[e]at q
   exact(v7 q).2.symm
 subst hu;refine⟨h2,?_⟩;cases hk:K.lookup a with
 |none=>exact .inl (.inr ⟨_,by rw[v6 ha hk e,Cv]⟩)
 |some o=>
  have e2:=KX a o hk;rw[e]at e2;obtain rfl:=Qk e2;exact .inr ⟨_,us.toArray,_,hk,rfl,rfl,by rw[Qn];exact h1,by simpa using m8 h2⟩
mutual
theorem Lb{Pm:Params}(KX:K.In h)(ar:∀a∈A,oH h A a):∀(d:WData)(v:Value),Well Pm h v d->Eb d=true->FH A v->Dw K (nX K h A) (toV v) d
 |.none,_,x,_,_=>by
  cases x;exact .eB
 |.bool b,_,x,_,_=>by
  cases x;exact .bl b
 |.int i,_,x,_,_=>by
  cases x;exact .int i
 |.str s,_,x,_,_=>by
  cases x;exact .str s
 |.bytes b,_,x,_,_=>by
  cases x;have z:=Dw.Br (K:=K) (H:=nX K h A) b.toArray;exact z
 |.list ds,_,x,p,hu=>by
  obtain⟨a,vs,rfl,ho,hall⟩:=zU x;obtain⟨h2,hs⟩:=Op KX ar hu ho;exact .lst hs (AL KX ar ds _ hall p h2)
 |.tuple ds,_,x,p,hu=>by
  obtain⟨a,vs,rfl,ho,hall⟩:=wD x;obtain⟨h2,hs⟩:=NU KX ar hu ho;exact .tup hs (AL KX ar ds _ hall p h2)
 |.float _,_,_,p,_=>Bool.noConfusion (show false=true from p)
 |.dict _,_,_,p,_=>Bool.noConfusion (show false=true from p)
 |.bytearray _,_,_,p,_=>Bool.noConfusion (show false=true from p)
 |.set _,_,_,p,_=>Bool.noConfusion (show false=true from p)
 |.frozenset _,_,_,p,_=>Bool.noConfusion (show false=true from p)
 |.obj _ _,_,_,p,_=>Bool.noConfusion (show false=true from p)
theorem AL{Pm:Params}(KX:K.In h)(ar:∀a∈A,oH h A a):∀(ds:List WData)(vs:List Value),WellAll Pm h vs ds->vp ds=true->(∀u∈vs,FH A u)->m_ K (nX K h A) (vs.map toV) ds
 |[],_,x,_,_=>by
  cases x;exact .nil
 |d::ds,_,x,p,hu=>by
  obtain⟨v,vs,rfl,x1,x2⟩:=zR x;have q:Eb d=true/\vp ds=true:=Bool.and_eq_true_iff.mp p;exact .cons (Lb KX ar d v x1 q.1 (hu _ (PU ..))) (AL KX ar ds vs x2 q.2 λu m=>hu u (PY _ m))
end
end
theorem Fd{P:Qw}{w:World}{K:PB}{mg mb:Str->Option Value}{CX:Ey}{k:Nat}{fa:Addr}{fd:PP}{ps:List Str}{sp:Sp}{s₁:Shared}{vals:List Value}{ds:List WData}{R:PySem.W.WRecords}{cl:Str->Option Addr}{d0:WData}
  (KX:K.In s₁.heap)(hns:s₁.heap.Ns mainGlobals mg)(hb:s₁.heap.Ns builtinsNs mb)(hbb:∀x:Str,x≠"__name__"->mb x=bootBuiltins x)(hlim:s₁.heap.NoLimit)(hg:s₁.gens=#[])
  (hwl:WellAll w.params s₁.heap vals ds)(hpl:vp ds=true)(hwt:∀d∈ds,d.weight<=1048576)(hr:fZ k callerA)
  (F:∀base:Heap,K.In base->base.Ns mainGlobals mg->a4 P w K mg base CX k fa fd ps sp)(hbind:∀(s:Shared)(us:List Value),us.length=ps.length->BindsTo s fd ⟨us,[]⟩ (ps.zip us))(hlen:ds.length=ps.length)
  (hsp:∀(H:Hp)(xs:List V),Bf H->m_ K H xs ds->sp xs H (λv H'=>Dw K H' v d0) λ_ _ _=>False)
  (hCX:∀H e s',CX [] H s₁ (λ_ _ _=>False) e s'->False):
  codeAny (model P w) callerA (.call (.ref fa) ⟨vals,[]⟩) (λr s'=>∃u as,r=.ok (.ret u)/\ReadsW R cl s'.heap u d0 as/\OldK s₁.heap s'.heap/\s'.os=s₁.os/\AllBare s'.gens) s₁:=by
 obtain⟨A,ho,ar⟩:=sI ds vals hwl hpl hwt;have hO:Bf (nX K s₁.heap A):=Fv ar;have cE:lV P w (nX K s₁.heap A) s₁.heap:=JN ar;have hS:=AL KX ar ds vals hwl hpl ho;have hV:=m8 ho;have hK:∀b u,nX K s₁.heap A b=some u->K.lookup b=none:=λb u q=>(v9 ar q).1;have noA:∀{b:Addr}{o:Obj}{es:Array DictEntry}{ep:Nat},s₁.heap.get? b=some o->o.data=.dict es ep->nX K s₁.heap A b=none:=λ{b o es ep} e d=>by
  cases q:nX K s₁.heap A b with
  |none=>rfl
  |some u=>
   obtain⟨_,vs,_,_,⟨e2,_⟩|⟨e2,_⟩⟩:=v9 ar q
   ·rw[e2]at e
    cases e;have d':Data.seq vs.toArray _=Data.dict es ep:=d;cases d'
   ·rw[e2]at e
    cases e;have d':Data.seq vs.toArray _=Data.dict es ep:=d;cases d'
 generalize nX K s₁.heap A=H at hO cE hS hK noA;have base_of:∀{b:Addr}{o:Obj},s₁.heap.get? b=some o->H b=none->(Ac s₁.heap H).get? b=some o:=λe n=>Ij e n;have nsK:∀{b:Addr}{m:Str->Option Value},s₁.heap.Ns b m->(Ac s₁.heap H).Ns b m:=λ{b m}⟨o,es,ep,e,d,r⟩=>⟨o,es,ep,base_of e (noA e d),d,r⟩;have nK:∀b o,K.lookup b=some o->H b=none:=λb o e=>by
  cases q:H b with
  |none=>rfl
  |some u=>
   rw[hK b u q]at e;cases e
 have hKb:K.In (Ac s₁.heap H):=λb o e=>base_of (KX b o e) (nK b o e);have hM:Mod K mg (Ac s₁.heap H):=⟨hKb,nsK hns,⟨mb,nsK hb,hbb⟩,let⟨mc,h1,h2⟩:=hlim;⟨mc,nsK h1,h2⟩⟩;have e0:B3 P w K mg (Ac s₁.heap H) callerA [] s₁ H:=⟨rfl,hM,λb o e=>JD e,Nat.le_of_eq (Fl _ _),trivial,λb hb=>absurd (show b∈([]:List Addr)from hb) (by simp),cE,.of_eq hg⟩;have hl:vals.length=ps.length:=by rw[mq hwl];exact hlen
 refine codeAny_mono ((F _ hKb (nsK hns)).run callerA [] s₁ H ⟨vals,[]⟩ vals (vals.map toV) _ _ hr e0 (hbind s₁ vals hl) hV (hsp H _ hO hS)) λr s' x=>?_;cases r with
 |error e=>exact(hCX H e s' x).elim
 |ok fl=>
  cases fl with
  |next=>exact False.elim x
  |brk=>exact False.elim x
  |cont=>exact False.elim x
  |ret u=>
   obtain⟨v,H',os,bare,un,hok',r',q⟩:=x;have kept:∀b o,s₁.heap.get? b=some o->s'.heap.get? b=some o:=λb o e=>by
    cases q2:H b with
    |none=>exact un.keep b o e q2 (by intro z;exact absurd (show b∈([]:List Addr)from z) (by simp)) (by simp)
    |some u2=>
     rcases hO b with z|⟨ob,u3,z⟩
     ·rw[q2]at z
      cases z
     ·have z2:=un.qF b ob _ z
      obtain⟨e1,_⟩:=cE b _ z;obtain⟨e2,_⟩:=hok' b _ z2;rw[e]at e1;cases e1;exact e2
   have KX':K.In s'.heap:=λb o e=>kept b o (KX b o e);obtain⟨as,hrd⟩:=Dw.reads (R:=R) (cl:=cl) hok' KX' d0 v u q r';exact⟨u,as,rfl,hrd,OldK.of_keep kept,os,bare⟩
theorem wN{ds:List WData}(h:WData.layableAll ds=true):∀d∈ds,d.weight<=1048576:=λd hd=>
 (PySem.W.layableW_iff.mp (Rg.mp h d hd)).2.2
theorem yb:∀(cs:List Codec)(a:Codec.denoteAll cs),(Codec.encAll cs a).length=cs.length
 |[],_=>rfl
 |c::cs,a=>by
  show(Codec.encAll cs a.2).length+1=cs.length+1;rw[yb cs a.2]
theorem E5{r:OpenSpec}{k:Nat}{q:Qw}{loose:List Str}{XP:(Str->Option Value)->Heap->Prop}{YP:World->Heap->Prop}{d:DefRec}{K:Params->PB}{CX:World->Ey}{ps:List Str}{sp:World->Sp}
  (hwell:r.wellSaid=true)(hdf:d.params.defaults=[])(hlen:r.args.length=ps.length)(hr:fZ k callerA)
  (hY:∀(w:World)(h:Heap),YP w h->(K w.params).In h)
  (F:∀(w:World)(mg:Str->Option Value)(fa:Addr)(h:Heap),YP w h->(K w.params).In h->h.Ns mainGlobals mg->mg d.name=some (.ref fa)->
   ∃fd:PP,(∀(s:Shared)(us:List Value),us.length=ps.length->BindsTo s fd ⟨us,[]⟩ (ps.zip us))/\
    ∀base:Heap,(K w.params).In base->base.Ns mainGlobals mg->a4 r.prog w (K w.params) mg base (CX w) k fa fd ps (sp w))
  (hsp:∀(w:World)(H:Hp)(xs:List V)(a:Codec.denoteAll r.args),Bf H->Codec.withinAll r.args a=true->Codec.app r.args r.asked a=true->m_ (K w.params) H xs (Codec.encAll r.args a)->
   sp w xs H (λv H'=>Dw (K w.params) H' v (r.ret.enc (Codec.app r.args r.f a))) λ_ _ _=>False)
  (hCX:∀(w:World)(H:Hp)(s:Shared)(e:Value)(s':Shared),CX w [] H s (λ_ _ _=>False) e s'->False):
  PySem.W.WalkOS q loose XP YP r d [] (λf vs=>PySem.call f vs):=by
 intro w vz s₁ mg mb G Y fa o pm cd doc dV kV ho hd hcd hD hmg hg args vals as hpre hlay hrd hwl hlo;obtain⟨a,e1,e2⟩:=PySem.W.os_pre_some hpre;obtain⟨e3,hwi⟩:=Codec.encAll_of_decAll r.args args a e1;subst e3;have KX:=hY w _ Y;obtain⟨fd,hb,hF⟩:=F w mg fa _ Y KX G.T.g hmg;refine PySem.W.enter_call (codeAny_mono (Fd (R:=[]) (cl:=classAt vz.heap) (d0:=r.ret.enc (Codec.app r.args r.f a)) KX G.T.g G.T.b G.T.builtins G.T.nolimit hg hwl (zA _ _) (wN hlay) hr hF hb (by rw[yb];exact hlen)
  (λH xs hO hS=>hsp w H xs a hO hwi e2 hS) λH e s'=>hCX w H s₁ e s') λr' s' hq=>?_)
 obtain⟨u,as',rfl,h1,h2,h3,h4⟩:=hq;exact⟨.inl ⟨u,_,as',rfl,λ_=>rfl,h1,(OpenSpec.post_iff hwell hwi _ _).mpr rfl,λz=>Bool.noConfusion (show false=true from z)⟩,h2,h3,h4⟩
end L2
end
end
set_option genInjectivity false
set_option genSizeOf false
namespace Kh
open PySem PySem.Spec PyProof.Rows L2
def top(i:Nat):Stmt:=PySem.Challenge.pw_kinghalldesk_s01_answers.main.body.getD i (.Pass ⟨0,0,0,0⟩)
structure Fn(K:PB)(mg:Str->Option Value)(x nm:Str)(st:Stmt)(f:Addr)(fd:PP)(ps:List Str):Prop where
 m:mg x=some (.ref f)
 F:CA K nm nm st f fd
 b:Binds K fd ps []
structure Mt(K:PB)(C:Addr)(m qual:Str)(st:Stmt)(f:Addr)(fd:PP)(ps:List Str):Prop where
 at_:Meth K C m f
 F:CA K m qual st f fd
 b:Binds K fd ps []
structure Fi(K:PB)(m qual:Str)(st:Stmt)(f:Addr)(fd:PP)(ps:List Str):Prop where
 F:CA K m qual st f fd
 b:Binds K fd ps []
structure Kl(K:PB)(mg:Str->Option Value)(x:Str)(C:Addr):Prop where
 cl:HC K C
 m:mg x=some (.ref C)
structure Xl(K:PB)(mg:Str->Option Value)(x:Str)(C:Addr):Prop where
 cl:nB K C
 ID:GQ K C
 m:mg x=some (.ref C)
structure Ad where
 iw:Addr
 vi:PP
 fY:Addr
 vn:PP
 b_:Addr
 mZ:PP
 gX:Addr
 q0:PP
 ni:Addr
 zg:PP
 jP:Addr
 uY:PP
 fD:Addr
 rg:PP
 fU:Addr
 oY:PP
 jw:Addr
 xT:PP
 li:Addr
 w9:PP
 ja:Addr
 sH:PP
 r8:Addr
 Et:PP
 kF:Addr
 zH:PP
 k_:Addr
 yr:PP
 lS:Addr
 wV:PP
 iI:Addr
 sU:PP
 eJ:Addr
 pd:PP
 jk:Addr
 wU:PP
 hJ:Addr
 yi:PP
 jt:Addr
 wj:PP
 f_:Addr
 p7:PP
 gu:Addr
 sE:PP
 jb:Addr
 sX:PP
 iZ:Addr
 sL:PP
 jx:Addr
 yy:PP
 jR:Addr
 uI:PP
 lL:Addr
 yf:PP
 dn:Addr
 kM:PP
 pb:Addr
 B1:PP
 jM:Addr
 uK:PP
 lr:Addr
 w6:PP
 im:Addr
 va:PP
 gG:Addr
 sA:PP
 fQ:Addr
 uE:PP
 gz:Addr
 sT:PP
 ff:Addr
 oA:PP
 jN:Addr
 uT:PP
 jD:Addr
 uN:PP
 io:Addr
 uS:PP
 i_:Addr
 tQ:PP
 iD:Addr
 uU:PP
 jo:Addr
 xo:PP
 gk:Addr
 qa:PP
 g6:Addr
 qX:PP
 mf:Addr
 ER:PP
 iS:Addr
 r_:PP
 d7:Addr
 mE:PP
 cq:Addr
 iJ:PP
 iG:Addr
 sV:PP
 bY:Addr
 tR:PP
 gf:Addr
 pT:PP
 gj:Addr
 pP:PP
 gW:Addr
 qR:PP
 f9:Addr
 o_:PP
 gF:Addr
 sO:PP
 gZ:Addr
 rm:PP
 gd:Addr
 pG:PP
 gR:Addr
 qY:PP
 gU:Addr
 qS:PP
 gV:Addr
 rb:PP
 dC:Addr
 kQ:PP
 kH:Addr
 qw:PP
 bK:Addr
 bZ:Addr
 j8:PP
 bo:Addr
 eK:Addr
 uB:PP
 fA:Addr
 rj:PP
 aY:Addr
 eu:Addr
 rh:PP
 dN:Addr
 ot:PP
 db:Addr
 qP:PP
 bT:Addr
 mz:PP
 aV:Addr
 mC:PP
 aH:Addr
 oy:PP
 a7:Addr
 mD:PP
 cA:Addr
 j_:PP
 bu:Addr
 dh:Addr
 nJ:PP
 ck:Addr
 iR:PP
 fi:Addr
 oF:PP
 aO:Addr
 cS:Addr
 l9:PP
 bb:Addr
 gI:Addr
 tN:PP
 dQ:Addr
 oN:PP
 eO:Addr
 iB:Addr
 u_:PP
 cH:Addr
 lu:PP
 bG:Addr
 kU:PP
 aS:Addr
 fB:Addr
 qM:PP
 eF:Addr
 m4:PP
 bL:Addr
 jT:PP
 dY:Addr
 l8:PP
 bX:Addr
 iz:Addr
 vc:PP
 gy:Addr
 fE:Addr
 fC:Addr
 fe:Addr
 dW:Addr
 tK:PP
 bU:Addr
 cJ:Addr
 nH:PP
 bJ:Addr
 cz:Addr
 kf:PP
 bD:Addr
 bg:Addr
 mh:PP
 kC:Addr
 Mi:Tok
 IY:Tok
 Hw:Tok
 Hm:Tok
 K4:Tok
 Jw:Tok
 KY:Tok
 Lw:Tok
 Kv:Tok
 qu:Addr
 yW:Tok
 wK:Tok
 Ie:Tok
 yG:Tok
 z_:Tok
 FB:Tok
 FP:Tok
 xU:Tok
 vD:Tok
 rM:Addr
 lH:Addr
 nO:Addr
structure Tx(K:PB)(mg:Str->Option Value)(a:Ad):Prop where
 iw:Fn K mg "king_cell" "king_cell" (top 12) a.iw a.vi ["pieces"]
 fY:Fn K mg "may_stand" "may_stand" (top 13) a.fY a.vn ["kind","piece"]
 b_:Fn K mg "cells_downward" "cells_downward" (top 14) a.b_ a.mZ ["wide","high"]
 gX:Fn K mg "cell_beside" "cell_beside" (top 15) a.gX a.q0 ["wide","high","cell","right","up"]
 ni:Fn K mg "ways_of" "ways_of" (top 16) a.ni a.zg ["wide","high"]
 jP:Fn K mg "goes_over" "goes_over" (top 20) a.jP a.uY ["rules","pieces","piece","cell"]
 fD:Fn K mg "stops_along" "stops_along" (top 21) a.fD a.rg ["rules","pieces","start","way"]
 fU:Fn K mg "targets_from" "targets_from" (top 22) a.fU a.oY ["rules","pieces","start"]
 jw:Fn K mg "cells_of" "cells_of" (top 23) a.jw a.xT ["rules","pieces","turn"]
 li:Fn K mg "can_move" "can_move" (top 24) a.li a.w9 ["rules","pieces","turn"]
 ja:Fn K mg "is_against" "is_against" (top 25) a.ja a.sH ["rules","pieces","cell","piece"]
 r8:Fn K mg "helps" "helps" (top 26) a.r8 a.Et ["rules","piece","side"]
 kF:Fn K mg "is_held" "is_held" (top 27) a.kF a.zH ["rules","pieces","cell","victim","side"]
 k_:Fn K mg "is_taken" "is_taken" (top 28) a.k_ a.yr ["rules","pieces","cell","way","side"]
 lS:Fn K mg "taken_by" "taken_by" (top 29) a.lS a.wV ["rules","pieces","target"]
 iI:Fn K mg "is_on_goal" "is_on_goal" (top 30) a.iI a.sU ["rules","king"]
 eJ:Fn K mg "over_by_king" "over_by_king" (top 31) a.eJ a.pd ["rules","position"]
 jk:Fn K mg "how_over" "how_over" (top 32) a.jk a.wU ["rules","position"]
 hJ:Fn K mg "steps_of" "steps_of" (top 33) a.hJ a.yi ["rules","position"]
 jt:Fn K mg "moves_of" "moves_of" (top 34) a.jt a.wj ["rules","position"]
 f_:Fn K mg "move_between" "move_between" (top 35) a.f_ a.p7 ["rules","position","start","target"]
 gu:Fn K mg "last_steps" "last_steps" (top 41) a.gu a.sE ["rules","position"]
 jb:Fn K mg "one_longer" "one_longer" (top 42) a.jb a.sX ["rules","rows","most"]
 iZ:Fn K mg "count_rows" "count_rows" (top 43) a.iZ a.sL ["rules","position","longest","most"]
 jx:Fn K mg "as_bytes" "as_bytes" (top 49) a.jx a.yy ["text"]
 jR:Fn K mg "read_many" "read_many" (top 55) a.jR a.uI ["reader","left"]
 lL:Fn K mg "read_row" "read_row" (top 56) a.lL a.yf ["reader","wide","draft"]
 dn:Fn K mg "read_draft_lines" "read_draft" (top 57) a.dn a.kM ["wide","high","reader"]
 pb:Fn K mg "settle" "settle" (top 59) a.pb a.B1 ["rules","draft"]
 jM:Fn K mg "read_line" "read_line" (top 60) a.jM a.uK ["rules","line"]
 lr:Fn K mg "row_text" "row_text" (top 61) a.lr a.w6 ["pieces"]
 im:Fn K mg "free_text" "free_text" (top 62) a.im a.va ["free"]
 gG:Fn K mg "write_line" "write_line" (top 63) a.gG a.sA ["rules","position"]
 fQ:Fn K mg "cell_name" "cell_name" (top 67) a.fQ a.uE ["cell"]
 gz:Fn K mg "write_move" "write_move" (top 68) a.gz a.sT ["move"]
 ff:Fn K mg "shared_length" "shared_length" (top 69) a.ff a.oA ["line","other"]
 jN:Fn K mg "read_move" "read_move" (top 70) a.jN a.uT ["rules","position","given"]
 jD:Fn K mg "skip_name" "skip_name" (top 79) a.jD a.uN ["reader"]
 io:Fn K mg "read_size" "read_size" (top 80) a.io a.uS ["reader"]
 i_:Fn K mg "read_limit" "read_limit" (top 81) a.i_ a.tQ ["reader"]
 iD:Fn K mg "read_rows" "read_rows" (top 82) a.iD a.uU ["reader","wide","high","signs"]
 jo:Fn K mg "laid_out" "laid_out" (top 83) a.jo a.xo ["draft","told","elsewhere"]
 gk:Fn K mg "check_ground" "check_ground" (top 84) a.gk a.qa ["draft"]
 g6:Fn K mg "check_start" "check_start" (top 85) a.g6 a.qX ["draft"]
 mf:Fn K mg "holds" "holds" (top 86) a.mf a.ER ["told","sought"]
 iS:Fn K mg "check_goal" "check_goal" (top 87) a.iS a.r_ ["draft","rules"]
 d7:Fn K mg "check_all_there" "check_all_there" (top 88) a.d7 a.mE ["draft"]
 cq:Fn K mg "read_draft_rulestext" "read_draft" (top 89) a.cq a.iJ ["text"]
 iG:Fn K mg "read_rules" "read_rules" (top 91) a.iG a.sV ["text"]
 bY:Fn K mg "with_count" "with_count" (top 99) a.bY a.tR ["numbers"]
 gf:Fn K mg "answer_rules" "answer_rules" (top 100) a.gf a.pT ["desk","call"]
 gj:Fn K mg "answer_begin" "answer_begin" (top 101) a.gj a.pP ["desk"]
 gW:Fn K mg "answer_over" "answer_over" (top 102) a.gW a.qR ["desk","call"]
 f9:Fn K mg "answer_moves" "answer_moves" (top 103) a.f9 a.o_ ["desk","call"]
 gF:Fn K mg "asked_move" "asked_move" (top 104) a.gF a.sO ["desk","call"]
 gZ:Fn K mg "answer_make" "answer_make" (top 105) a.gZ a.rm ["desk","call"]
 gd:Fn K mg "answer_write" "answer_write" (top 106) a.gd a.pG ["desk","call"]
 gR:Fn K mg "answer_read" "answer_read" (top 107) a.gR a.qY ["desk","call"]
 gU:Fn K mg "answer_deep" "answer_deep" (top 108) a.gU a.qS ["desk","call"]
 gV:Fn K mg "answer_call" "answer_call" (top 109) a.gV a.rb ["desk","call"]
 dC:Fn K mg "answer_or_refuse" "answer_or_refuse" (top 110) a.dC a.kQ ["desk","call"]
 kH:Fn K mg "answers" "answers" (top 111) a.kH a.qw ["calls"]
 bQ:Kl K mg "Position" a.bK
 bS:aP K a.bK "pieces"
 fj:aP K a.bK "turn"
 bZ:Mt K a.bK "__init__" "Position.__init__" (inClass (top 11) 0) a.bZ a.j8 ["self","pieces","turn"]
 rD:Mk K a.bK a.bZ
 bV:Kl K mg "Move" a.bo
 iH:aP K a.bo "start"
 gY:aP K a.bo "target"
 gC:aP K a.bo "taken"
 kv:aP K a.bo "after"
 fX:aP K a.bo "over"
 eK:Mt K a.bo "__init__" "Move.__init__" (inClass (top 19) 0) a.eK a.uB ["self","rules","position","step"]
 C3:Mk K a.bo a.eK
 fA:Mt K a.bo "as_row" "Move.as_row" (inClass (top 19) 1) a.fA a.rj ["self"]
 aC:Kl K mg "Reader" a.aY
 lR:aP K a.aY "given"
 bI:aP K a.aY "place"
 eu:Mt K a.aY "__init__" "Reader.__init__" (inClass (top 46) 0) a.eu a.rh ["self","given"]
 BR:Mk K a.aY a.eu
 dN:Mt K a.aY "at_end" "Reader.at_end" (inClass (top 46) 1) a.dN a.ot ["self"]
 db:Mt K a.aY "sees" "Reader.sees" (inClass (top 46) 2) a.db a.qP ["self","sign"]
 bT:Mt K a.aY "sees_any" "Reader.sees_any" (inClass (top 46) 3) a.bT a.mz ["self","signs"]
 aV:Mt K a.aY "one_sign" "Reader.one_sign" (inClass (top 46) 4) a.aV a.mC ["self","signs"]
 aH:Mt K a.aY "expect" "Reader.expect" (inClass (top 46) 5) a.aH a.oy ["self","text"]
 a7:Mt K a.aY "one_word" "Reader.one_word" (inClass (top 46) 6) a.a7 a.mD ["self","words"]
 cA:Mt K a.aY "expect_end" "Reader.expect_end" (inClass (top 46) 7) a.cA a.j_ ["self"]
 bA:Kl K mg "LineDraft" a.bu
 dw:aP K a.bu "pieces"
 eX:aP K a.bu "places"
 iN:aP K a.bu "signs"
 jy:aP K a.bu "turn"
 dh:Mt K a.bu "__init__" "LineDraft.__init__" (inClass (top 54) 0) a.dh a.nJ ["self"]
 BM:Mk K a.bu a.dh
 ck:Mt K a.bu "leave_free" "LineDraft.leave_free" (inClass (top 54) 1) a.ck a.iR ["self","many"]
 fi:Mt K a.bu "put" "LineDraft.put" (inClass (top 54) 2) a.fi a.oF ["self","reader"]
 ao:Kl K mg "RulesDraft" a.aO
 cw:aP K a.aO "wide"
 cr:aP K a.aO "high"
 bP:aP K a.aO "ground"
 b8:aP K a.aO "start"
 kZ:aP K a.aO "first"
 kh:aP K a.aO "slides"
 ly:aP K a.aO "armed"
 lW:aP K a.aO "four"
 gP:aP K a.aO "passed"
 iO:aP K a.aO "seat"
 kY:aP K a.aO "exits"
 eG:aP K a.aO "goal_place"
 i7:aP K a.aO "goal"
 kb:aP K a.aO "thrice"
 lG:aP K a.aO "limit"
 bF:aP K a.aO "end_place"
 cS:Mt K a.aO "__init__" "RulesDraft.__init__" (inClass (top 77) 0) a.cS a.l9 ["self","reader"]
 Ao:Mk K a.aO a.cS
 aU:Kl K mg "Rules" a.bb
 gD:aP K a.bb "wide"
 iT:aP K a.bb "high"
 lF:aP K a.bb "slides"
 mO:aP K a.bb "armed"
 sm:aP K a.bb "four"
 pL:aP K a.bb "passed"
 si:aP K a.bb "seat"
 qW:aP K a.bb "exits"
 su:aP K a.bb "goal"
 yC:aP K a.bb "thrice"
 yP:aP K a.bb "limit"
 qZ:aP K a.bb "cells"
 gJ:aP K a.bb "ways"
 du:aP K a.bb "ground"
 mQ:aP K a.bb "start"
 gI:Mt K a.bb "__init__" "Rules.__init__" (inClass (top 78) 0) a.gI a.tN ["self","draft"]
 Jy:Mk K a.bb a.gI
 dQ:Mt K a.bb "on_edge" "Rules.on_edge" (inClass (top 78) 1) a.dQ a.oN ["self","cell"]
 eQ:Kl K mg "Desk" a.eO
 cy:aP K a.eO "rules"
 iB:Mt K a.eO "__init__" "Desk.__init__" (inClass (top 96) 0) a.iB a.u_ ["self"]
 K5:Mk K a.eO a.iB
 cH:Mt K a.eO "known_rules" "Desk.known_rules" (inClass (top 96) 1) a.cH a.lu ["self"]
 bG:Mt K a.eO "position_of" "Desk.position_of" (inClass (top 96) 2) a.bG a.kU ["self","line"]
 cR:Kl K mg "Intake" a.aS
 iY:aP K a.aS "calls"
 dv:aP K a.aS "place"
 fB:Mt K a.aS "__init__" "Intake.__init__" (inClass (top 97) 0) a.fB a.qM ["self","calls"]
 Hs:Mk K a.aS a.fB
 eF:Mt K a.aS "is_done" "Intake.is_done" (inClass (top 97) 1) a.eF a.m4 ["self"]
 bL:Mt K a.aS "take_number" "Intake.take_number" (inClass (top 97) 2) a.bL a.jT ["self"]
 dY:Mt K a.aS "take_row" "Intake.take_row" (inClass (top 97) 3) a.dY a.l8 ["self"]
 c9:Kl K mg "Call" a.bX
 cj:aP K a.bX "number"
 fV:aP K a.bX "numbers"
 d8:aP K a.bX "texts"
 iz:Mt K a.bX "__init__" "Call.__init__" (inClass (top 98) 0) a.iz a.vc ["self","intake"]
 Lo:Mk K a.bX a.iz
 e8:Xl K mg "NoSuchMove" a.gy
 AG:Cz K a.gy none
 cQ:Xl K mg "OutOfBounds" a.fE
 y_:Cz K a.fE none
 cg:Xl K mg "TooManyRows" a.fC
 yX:Cz K a.fC none
 g7:Xl K mg "Stuck" a.fe
 mK:aP K a.fe "place"
 dW:Fi K "__init__" "Stuck.__init__" (inClass (top 45) 0) a.dW a.tK ["self","place"]
 AW:Cz K a.fe (some a.dW)
 de:Xl K mg "LineFault" a.bU
 nh:aP K a.bU "kind"
 lX:aP K a.bU "place"
 cJ:Fi K "__init__" "LineFault.__init__" (inClass (top 53) 0) a.cJ a.nH ["self","kind","place"]
 uQ:Cz K a.bU (some a.cJ)
 bW:Xl K mg "NotAMoveLine" a.bJ
 jH:aP K a.bJ "place"
 cz:Fi K "__init__" "NotAMoveLine.__init__" (inClass (top 66) 0) a.cz a.kf ["self","place"]
 yl:Cz K a.bJ (some a.cz)
 bB:Xl K mg "RulesFault" a.bD
 mr:aP K a.bD "kind"
 lP:aP K a.bD "place"
 bg:Fi K "__init__" "RulesFault.__init__" (inClass (top 76) 0) a.bg a.mh ["self","kind","place"]
 eV:Cz K a.bD (some a.bg)
 qg:Xl K mg "NoRules" a.kC
 FY:Cz K a.kC none
 zd:mg "ROW"=some (.int 13 a.Mi)
 AC:mg "CELLS"=some (.int 169 a.IY)
 iF:mg "NOBODY"=some (.int 0 a.Hw)
 B_:mg "HUNTER"=some (.int 1 a.Hm)
 j0:mg "KING"=some (.int 3 a.K4)
 Ec:mg "PLAIN"=some (.int 0 a.Jw)
 AB:mg "SEAT"=some (.int 1 a.KY)
 AT:mg "EXIT"=some (.int 2 a.Lw)
 C4:mg "WALL"=some (.int 3 a.Kv)
 vV:mg "SIDES"=some (.ref a.qu)
 vP:∀H:Hp,iP K H a.qu [.int 2,.int 0,.int 1,.int 1]
 zb:mg "LONGEST_ROW"=some (.int 6 a.yW)
 wX:mg "HIGHEST_MOST"=some (.int 2000 a.wK)
 jU:mg "DIGITS"=some (.str "0123456789" a.Ie)
 yO:mg "PIECE_SIGNS"=some (.str ".hmK" a.yG)
 sR:mg "TURN_SIGNS"=some (.str "hk" a.z_)
 FS:mg "COLUMNS"=some (.str "abcdefghijklm" a.FB)
 ua:mg "LETTERS"=some (.str "ABCDEFGHIJKLMNOPQRSTUVWXYZabcdefghijklmnopqrstuvwxyz" a.FP)
 xG:mg "LONGEST_NAME"=some (.int 16 a.xU)
 vE:mg "HIGHEST_LIMIT"=some (.int 60000 a.vD)
 xJ:mg "ENMITIES"=some (.ref a.rM)
 yg:∀H:Hp,iP K H a.rM [.str "quiet",.str "hunters",.str "men",.str "all"]
 wo:∃o,K.lookup a.rM=some o/\o.cls=Value.type "tuple"/\o.dict=none
 xt:mg "NUMBERS_WITH"=some (.ref a.lH)
 xw:∀H:Hp,iP K H a.lH [.int 0,.int 0,.int 0,.int 0,.int 2,.int 2,.int 0,.int 2]
 AS:mg "TEXTS_WITH"=some (.ref a.nO)
 Az:∀H:Hp,iP K H a.nO [.int 1,.int 0,.int 1,.int 1,.int 1,.int 1,.int 2,.int 1]
 mj:mg "len"=none
 g8:mg "range"=none
 xF:mg "sorted"=none
 Ii:mg "any"=none
 No:mg "all"=none
 uX:mg "enumerate"=none
 Kg:mg "zip"=none
 Kt:mg "max"=none
 J2:mg "min"=none
 GK:mg "sum"=none
 Gy:mg "str"=none
 Ko:mg "ord"=none
 HH:mg "list"=none
variable{P:Qw}{w:World}{K:PB}{mg:Str->Option Value}{base:Heap}{a:Ad}
local macro_rules|`(tactic|exists $e)=>`(tactic|(intro X;refine ⟨_,$e,?_⟩;try extract_lets))
local macro_rules|`(tactic|omega)=>`(tactic|lia)
section
variable{α:Type}{C:List α->Prop}(us:List α)
@[elab_as_elim] theorem Pw (hl:us.length=0) (h:C []):C us:=match us,hl with|[],_=>h
@[elab_as_elim] theorem Kr (hl:us.length=1) (h:∀a,C [a]):C us:=match us,hl with|[a],_=>h a
@[elab_as_elim] theorem ln2 (hl:us.length=2) (h:∀a b,C [a,b]):C us:=match us,hl with|[a,b],_=>h a b
@[elab_as_elim] theorem Oq (hl:us.length=3) (h:∀a b c,C [a,b,c]):C us:=match us,hl with|[a,b,c],_=>h a b c
@[elab_as_elim] theorem N7 (hl:us.length=4) (h:∀a b c d,C [a,b,c,d]):C us:=match us,hl with|[a,b,c,d],_=>h a b c d
@[elab_as_elim] theorem NT (hl:us.length=5) (h:∀a b c d e,C [a,b,c,d,e]):C us:=match us,hl with|[a,b,c,d,e],_=>h a b c d e
@[elab_as_elim] theorem NF (hl:us.length=6) (h:∀a b c d e f,C [a,b,c,d,e,f]):C us:=match us,hl with|[a,b,c,d,e,f],_=>h a b c d e f
end
section
variable{X:Cx}{CX:Ey}{k k':Nat}{f C:Addr}{fd:PP}{ps:List Str}{sp:Sp}{E:XK}{x m nm qual:Str}{st:Stmt}{p pos pos' apos:Pos}{e o:Expr}{es:List Expr}{ta te:TE}{t:TA}
theorem _root_.L2.CA.oO{P:Qw}{w:World}{K:PB}{mg:Str->Option Value}{base:Heap}{N:List Str}(F:CA K x qual st f fd)(S:az N ps (aj st))
  (hb:∀(cdv:Value)(A:Around)(outer:List Env)(s:Shared)(H:Hp)(vs:List V)(Q:VK)(E:XK),fZ k (A.deeper (envOfC qual (aj st) s.heap.objs.size f cdv))->sp vs H Q E->
   let X:=uA (cW P w) P w K mg base N qual (aj st) f cdv A outer s H E;∃t,xx X (dE st) t/\t {nx:=λ_ H'=>Q .eB H',rt:=Q} (start N vs) H)
  (len:∀vs H Q E,sp vs H Q E->vs.length=ps.length:=by intro vs H Q E h;cases h;subst_vars;rfl):a4 P w K mg base (cW P w) (k+1) f fd ps sp:=F.OR S len hb
theorem _root_.L2.CA.kP{P:Qw}{w:World}{K:PB}{mg:Str->Option Value}{base:Heap}{N:List Str}(F:CA K x qual st f fd)(S:az N ps (aj st))
  (hb:∀(cdv:Value)(A:Around)(outer:List Env)(s:Shared)(H:Hp)(vs:List V)(Q:VK)(E:XK),fZ k (A.deeper (envOfC qual (aj st) s.heap.objs.size f cdv))->sp vs H Q E->
   let X:=(uA (cW P w) P w K mg base N qual (aj st) f cdv A outer s H E).M9;∃t,xx X (dE st) t/\t {nx:=λ_ H'=>Q .eB H',rt:=Q} (start N vs) H)
  (len:∀vs H Q E,sp vs H Q E->vs.length=ps.length:=by intro vs H Q E h;cases h;subst_vars;rfl):a4 P w K mg base (cW P w) (k+1) f fd ps sp:=F.Nr S len hb
theorem aR{N P:List Str}{sc:Scope}(a:sc.kind=.function:=by rfl)(b:sc.isCoroutine=false:=by rfl)(c:sc.isGenerator=false:=by rfl)(d:N.Nodup:=by decide+kernel)(e:N.take P.length=P:=by rfl)
  (f:∀x∈P,sc.names.lookup x=some .local\/sc.names.lookup x=some .cell:=by decide+kernel)(g:∀y∈sc.names,y.2≠.free:=by decide+kernel):az N P sc:=⟨a,b,c,d,e,f,g⟩
theorem e_(i:Nat)(hN:X.N.Nodup)(he:PE X e te)(hi:X.N[i]? =some x:=by rfl)(hx:Loc X.env.scope x:=by first|exact Or.inl rfl|exact Or.inr rfl)(hs:swapsWith e (some (.Name x pos')) pos.line X.env=pure false:=by rfl)(hf:X.fn x=true\/X.env.scope.names.lookup x=some .local:=by first|exact .inl rfl|exact .inr rfl|assumption):
  PS X (.Assign [.Name x pos'] e pos) (IE te (zf i)):=Lk hN hi hx he hs hf
theorem kT(i:Nat)(hN:X.N.Nodup)(hi:X.N[i]? =some x:=by rfl)(hx:Loc X.env.scope x:=by first|exact Or.inl rfl|exact Or.inr rfl)(hf:X.fn x=true\/X.env.scope.names.lookup x=some .local:=by first|exact .inl rfl|exact .inr rfl|assumption):PG X (.Name x pos) (zf i):=JL hN hi hx hf
theorem Gx(i:Nat)(hN:X.N.Nodup){op:Operator}{ti:LS}(he:PE X e te)(ho:MS X op ti)(hi:X.N[i]? =some x:=by rfl)(hx:Loc X.env.scope x:=by first|exact Or.inl rfl|exact Or.inr rfl)(hf:X.fn x=true\/X.env.scope.names.lookup x=some .local:=by first|exact .inl rfl|exact .inr rfl|assumption):
  PS X (.AugAssign (.Name x pos') op e pos) (M_ i te ti):=LC hN hi hx he ho hf
theorem mL{n:Int}{tk:Tok}(hm:X.mg x=some (.int n tk))(hg:Gl X x:=by rfl)(hd:(x==("__debug__":Str))=false:=by decide):PE X (.Name x pos) (tC (.int n)):=ko hg hm ⟨_,rfl⟩ hd
theorem CF{n:Str}{tk:Tok}(hm:X.mg x=some (.str n tk))(hg:Gl X x:=by rfl)(hd:(x==("__debug__":Str))=false:=by decide):PE X (.Name x pos) (tC (.str n)):=ko hg hm ⟨_,rfl⟩ hd
theorem J9(hm:X.mg x=some (.ref f))(hg:Gl X x:=by rfl)(hd:(x==("__debug__":Str))=false:=by decide):PE X (.Name x pos) (tC (.ref f)):=ko hg hm rfl hd
theorem dm(F:Fn X.K X.mg x nm st f fd ps)(ok:a4 X.prog X.w X.K X.mg X.base CX k f fd ps sp)(hr:fZ k' X.A)(hx:Passes CX X E)(ha:PA X (e::es) t)(hk:k<=k':=by decide)(hg:Gl X x:=by rfl)
  (hdb:(x==("__debug__":Str))=false:=by decide)(he:starEach (e::es) X.env=(false,eval e X.env)::starEach es X.env:=by rfl)(hpl:(backTo pos (starEach es X.env)).any (·.1)=false:=by rfl):
  PE X (.Call (.Name x p) (e::es) [] pos) (J3 sp [] E t):=JM ok (hr.mono hk) hg F.m F.F.kp F.b .nil hx ha hdb he hpl
theorem je{pl:Sem Bool}(hE:PE X o ta){y:Str}(c:Kl X.K X.mg y C)(hm:Mt X.K C m qual st f fd ps)(ok:a4 X.prog X.w X.K X.mg X.base CX k f fd ps sp)(hr:fZ k' X.A)(hx:Passes CX X E)(ha:PA X (e::es) t)(hk:k<=k':=by decide)
  (hst:starEach (e::es) X.env=(false,eval e X.env)::starEach es X.env:=by rfl)(hpl:(backTo pos (starEach es X.env)).any (·.1)=false:=by rfl)
  (ht:eval (.Call (.Attribute o m apos) (e::es) [] pos) X.env=(do
   let ov<-eval o X.env
   standAt apos.atName
   let(f,first)<-holding [ov] (getMethod ov m pl)
   callWith pos f first (backTo pos (starEach (e::es) X.env)) (backToKw pos (keywordEach [] X.env))):=by rfl):
  PE X (.Call (.Attribute o m apos) (e::es) [] pos) (EA C m sp [] E ta t):=JO hE c.cl hm.at_ ok (hr.mono hk) hm.b .nil hx ha hst hpl ht
theorem E7{pl:Sem Bool}(hE:PE X o ta){y:Str}(c:Kl X.K X.mg y C)(hm:Mt X.K C m qual st f fd ps)(ok:a4 X.prog X.w X.K X.mg X.base CX k f fd ps sp)(hr:fZ k' X.A)(hx:Passes CX X E)(hk:k<=k':=by decide)
  (ht:eval (.Call (.Attribute o m apos) [] [] pos) X.env=(do
   let ov<-eval o X.env
   standAt apos.atName
   let(f,first)<-holding [ov] (getMethod ov m pl)
   callWith pos f first (backTo pos (starEach [] X.env)) (backToKw pos (keywordEach [] X.env))):=by rfl):
  PE X (.Call (.Attribute o m apos) [] [] pos) (EA C m sp [] E ta rQ):=HA hE c.cl hm.at_ ok (hr.mono hk) hm.b .nil hx ht
theorem F8(M:Mk X.K C f)(ok:a4 X.prog X.w X.K X.mg X.base CX k f fd ps sp)(hr:fZ k' X.A)(c:Kl X.K X.mg x C)(hm:Mt X.K C m qual st f fd ps)(hx:Passes CX X E)
  (ha:PA X (e::es) t)(hk:k+1<=k':=by decide)(hg:Gl X x:=by rfl)(hdb:(x==("__debug__":Str))=false:=by decide)(he:starEach (e::es) X.env=(false,eval e X.env)::starEach es X.env:=by rfl)(hpl:(backTo pos (starEach es X.env)).any (·.1)=false:=by rfl):
  PE X (.Call (.Name x p) (e::es) [] pos) (He C sp [] E t):=JQ M ok (hr.mono hk) hg c.m hm.b .nil hx ha hdb he hpl
theorem aB{st:Stmt}{rest:List Stmt}{t u:TS}(h1:PS X st t)(h2:xx X rest u):xx X (st::rest) (let b:=L7 t u;b):=sw h1 h2
theorem aF{st:Stmt}{t:TS}(h1:PS X st t):xx X [st] (let b:=t;b):=cT h1
end
section
variable{K:PB}{H:Hp}
theorem g9(i j:Int):decide (V.int i=V.int j)=decide (i=j):=by
 by_cases h:i=j
 ·rw[PJ h,PJ (by rw[h])]
 ·rw[Qr h,Qr (λq=>h (by injection q))]
theorem dG{i j:Int}{A B:Prop}(h1:i=j->A)(h2:i≠j->B):if decide (V.int i=V.int j)=true then A else B:=by
 rw[g9];exact gB (λh=>h1 (PR h)) λh=>h2 λq=>h (PJ q)
theorem M0{i j:Int}{A B:Prop}(h1:i≠j->A)(h2:i=j->B):if(!decide (V.int i=V.int j))=true then A else B:=by
 rw[g9];exact gB (λh=>h1 λq=>by rw[PJ q]at h;cases h) λh=>h2 (by
  by_cases q:i=j
  ·exact q
  ·exact absurd (by rw[Qr q];rfl) h)
theorem fO{b:Bool}{A B:Prop}(h1:b=true->A)(h2:b=false->B):if b=true then A else B:=by
 cases b with
 |true=>exact Lv (h1 rfl)
 |false=>exact Mq (h2 rfl)
end
def Al(p:Addr)(t:Int):List (Str×V):=[("pieces",.ref p),("turn",.int t)]
inductive uf(a:Ad)(vs:List V)(H:Hp)(Q:VK)(E:XK):Prop
 |mk (x dx p:Addr) (t:Int) (_:vs=[.ref x,.ref p,.int t]) (_:H x=some (.ins a.bK dx [])) (_:Q .eB (upd H x (.ins a.bK dx (Al p t)))):uf a vs H Q E
theorem Ff:az ["self","pieces","turn"] ["self","pieces","turn"] (aj (inClass (top 11) 0)):=⟨rfl,rfl,rfl,by decide+kernel,rfl,by decide+kernel,by decide+kernel⟩
theorem Di(T:Tx K mg a):a4 P w K mg base (cW P w) 1 a.bZ a.j8 ["self","pieces","turn"] (uf a):=by
 refine T.bZ.F.Nr Ff (λvs H Q E h=>?_) (λcdv A outer s H vs Q E hr h=>?_)
 ·obtain⟨_,_,_,_,rfl,_⟩:=h
  rfl
 ·obtain⟨x,dx,p,t,rfl,hx,k⟩:=h
  refine⟨_,aB (a5 (pv 0) (pv 1) rfl) (aF (a5 (pv 0) (pv 2) rfl)),?_⟩
  try extract_lets
  refine⟨_,rfl,_,rfl,x,a.bK,dx,[],rfl,hx,T.bQ.cl,T.bS,(by show 0<1000;decide),?_⟩;refine⟨_,rfl,_,rfl,x,a.bK,dx,_,rfl,ah,T.bQ.cl,T.fj,(by show 1<1000;decide),?_⟩;rw[eR];exact k
def gi(ps:List Int):Int:=if 3∈ps then(ps.findIdx (·==3):Nat)else-1
inductive Gc(K:PB)(vs:List V)(H:Hp)(Q:VK)(E:XK):Prop
 |mk (p:Addr) (ps:List Int) (_:vs=[.ref p]) (_:a0 K H p (ps.map V.int)) (_:Q (.int (gi ps)) H):Gc K vs H Q E
theorem LG:az ["pieces"] ["pieces"] (aj (top 12)):=⟨rfl,rfl,rfl,by decide+kernel,rfl,by decide+kernel,by decide+kernel⟩
theorem EB(x:Int):∀l:List Int,Le (.int x) (l.map V.int)=decide (x∈l)
 |[]=>by simp[Le]
 |y::l=>by
  have ih:=EB x l;unfold Le at ih ⊢;rw[QD,RI,ih];show((y==x)||decide (x∈l))=decide (x∈y::l);rw[QN,Rm,QQ,PV,PV,Qh];exact or_congr ⟨Eq.symm,Eq.symm⟩ Iff.rfl
theorem zV(l:List Int):(l.map V.int).all ka=true:=by
 rw[List.all_map,Rg];intro x _;rfl
theorem s_(T:Tx K mg a):a4 P w K mg base (cW P w) 1 a.iw a.vi ["pieces"] (Gc K):=by
 refine T.iw.F.Nr LG (λvs H Q E h=>?_) (λcdv A outer s H vs Q E hr h=>?_)
 ·obtain⟨_,_,rfl,_⟩:=h
  rfl
 ·obtain⟨p,ps,rfl,hp,k⟩:=h
  refine⟨_,sw (bE (aI FZ (ko (v:= .int 3) rfl T.j0 ⟨_,rfl⟩) (pv 0) rfl) (cT (aE (jg Qy PySem.F.slot_list_index PySem.F.type_list_index HX (pv 0) (aa (ko (v:= .int 3) rfl T.j0 ⟨_,rfl⟩) ae)))) aX)
   (cT (aE (oE jZ aw))),?_⟩
  refine⟨_,rfl,_,_,rfl,.inl hp,rfl,zV ps,_,rfl,?_⟩;have e:(if false=true then !Le (.int 3) (ps.map V.int)else Le (.int 3) (ps.map V.int))=decide ((3:Int)∈ps):=by rw[Py PM,EB]
  rw[e];refine gB (λh3=>?_) λh3=>?_
  ·have h3:(3:Int)∈ps:=PR h3
   have lt:ps.findIdx (·==3)<ps.length:=Q9 ⟨3,h3,rfl⟩;have at3:ps[ps.findIdx (·==3)]? =some 3:=by
    rw[PD lt];have:=List.findIdx_getElem (w:=lt);exact QI some (eq_of_beq this)
   refine⟨_,rfl,.inl ⟨rfl,_,hp⟩,p,ps.map V.int,.int 3,ps.findIdx (·==3),.int 3,rfl,rfl,hp,rfl,zV ps,by rw[Qa,at3];rfl,rfl,λm z hm hz=>?_,?_⟩
   ·rw[Qa]at hz
    cases hq:ps[m]? with
    |none=>rw[hq]at hz;cases hz
    |some y=>
     rw[hq]at hz;cases hz;have hy:¬(y==3)=true:=by
      have q:=List.not_of_lt_findIdx hm;have lm:m<ps.length:=RQ hm lt;rw[PD lm]at hq;rw[<-Qk hq];simpa using q
     show(y==3)=false;simpa using hy
   ·have ek:gi ps=((ps.findIdx (·==3):Nat):Int):=Pz h3
    rw[<-ek];exact k
  ·have h3:¬(3:Int)∈ps:=λq=>h3 (PJ q)
   refine⟨_,rfl,?_⟩;have ek:gi ps= -1:=Py h3;rw[ek]at k;exact k
def iE(k p:Int):Bool:=decide (p=0)||decide (k=0)||(decide (p=3)&& !decide (k=3))
inductive J6(vs:List V)(H:Hp)(Q:VK)(E:XK):Prop
 |mk (k p:Int) (_:vs=[.int k,.int p]) (_:Q (.bl (iE k p)) H):J6 vs H Q E
theorem ME:az ["kind","piece"] ["kind","piece"] (aj (top 13)):=⟨rfl,rfl,rfl,by decide+kernel,rfl,by decide+kernel,by decide+kernel⟩
theorem nM(T:Tx K mg a):a4 P w K mg base (cW P w) 1 a.fY a.vn ["kind","piece"] J6:=by
 refine T.fY.F.Nr ME (λvs H Q E h=>?_) (λcdv A outer s H vs Q E hr h=>?_)
 ·obtain⟨_,_,rfl,_⟩:=h
  rfl
 ·obtain⟨kd,p,rfl,k⟩:=h
  refine⟨_,sw (bE (PW.pt (z5 (aI bO (pv 1) (ko (v:= .int 0) rfl T.iF ⟨_,rfl⟩) (aJ _)) (t_ (aI bO (pv 0) (ko (v:= .int 0) rfl T.Ec ⟨_,rfl⟩) (aJ _))))) (cT (aE qT)) aX)
   (cT (aE (wm (d9 bO (pv 1) (ko (v:= .int 3) rfl T.j0 ⟨_,rfl⟩) (aJ _)) (p8 (d9 EH (pv 0) (ko (v:= .int 3) rfl T.C4 ⟨_,rfl⟩) (aJ _)))))),?_⟩
  refine⟨_,rfl,rfl,_,rfl,dG (λh1=>?_) λh1=>⟨_,rfl,rfl,_,rfl,dG (λh2=>?_) λh2=>?_⟩⟩
  ·have e:iE kd p=true:=by unfold iE;rw[PJ h1];rfl
   rw[e]at k;exact k
  ·have e:iE kd p=true:=by unfold iE;rw[PJ h2,Bool.or_true];rfl
   rw[e]at k;exact k
  ·have e:iE kd p=(decide (p=3)&& !decide (kd=3)):=by unfold iE;rw[Qr h1,Qr h2];rfl
   rw[e]at k;refine⟨_,rfl,rfl,_,rfl,dG (λh3=>⟨_,rfl,rfl,?_⟩) λh3=>?_⟩
   ·rw[PJ h3]at k
    rw[g9];exact k
   ·rw[Qr h3]at k
    exact k
theorem put2(x y:V):cf "place" y [(("kind":Str),x)]=([("kind",x),("place",y)]:List (Str×V)):=by rfl
theorem yV:az ["self","place"] ["self","place"] (aj (inClass (top 45) 0)):=aR
theorem mF(T:Tx K mg a):uV P w K mg base a.dW a.tK ["self","place"] (Kn K a.fe ["place"]):=by
 refine T.dW.F.okN yV (λvs H Q h=>?_) (λcdv A outer s H vs Q h=>?_)
 ·obtain⟨_,_,ws,rfl,hl,_⟩:=h
  exact Kr ws hl λ_=>rfl
 ·obtain⟨e,t,ws,rfl,hl,he,k⟩:=h
  revert k
  refine Kr ws hl λv k=>?_;refine⟨_,(aF (DW (pv 0) (pv 1) rfl)),?_⟩
  try extract_lets
  exact⟨_,rfl,_,rfl,e,a.fe,t,rfl,he,T.g7.cl,T.mK,λdx h1 h2=>k dx h1 h2⟩
theorem pC:az ["self","place"] ["self","place"] (aj (inClass (top 66) 0)):=aR
theorem oX(T:Tx K mg a):uV P w K mg base a.cz a.kf ["self","place"] (Kn K a.bJ ["place"]):=by
 refine T.cz.F.okN pC (λvs H Q h=>?_) (λcdv A outer s H vs Q h=>?_)
 ·obtain⟨_,_,ws,rfl,hl,_⟩:=h
  exact Kr ws hl λ_=>rfl
 ·obtain⟨e,t,ws,rfl,hl,he,k⟩:=h
  revert k
  refine Kr ws hl λv k=>?_;refine⟨_,(aF (DW (pv 0) (pv 1) rfl)),?_⟩
  try extract_lets
  exact⟨_,rfl,_,rfl,e,a.bJ,t,rfl,he,T.bW.cl,T.jH,λdx h1 h2=>k dx h1 h2⟩
theorem tL:az ["self","kind","place"] ["self","kind","place"] (aj (inClass (top 53) 0)):=aR
theorem lZ(T:Tx K mg a):uV P w K mg base a.cJ a.nH ["self","kind","place"] (Kn K a.bU ["kind","place"]):=by
 refine T.cJ.F.okN tL (λvs H Q h=>?_) (λcdv A outer s H vs Q h=>?_)
 ·obtain⟨_,_,ws,rfl,hl,_⟩:=h
  exact ln2 ws hl λ_ _=>rfl
 ·obtain⟨e,t,ws,rfl,hl,he,k⟩:=h
  revert k
  refine ln2 ws hl λv y k=>?_;refine⟨_,(aB (DW (pv 0) (pv 1) rfl) (aF (J0 (pv 0) (pv 2) rfl))),?_⟩
  try extract_lets
  refine⟨_,rfl,_,rfl,e,a.bU,t,rfl,he,T.de.cl,T.nh,λdx h1 h2=>?_⟩;refine⟨_,rfl,_,rfl,e,a.bU,t,dx,_,rfl,ah,(by rw[ai h2,ah]),T.de.cl,T.lX,(by show 1<1000;decide),?_⟩;have q:=k dx h1 h2;rw[put2,<-xg (H:=upd H dx (XD dx [("kind",v)])) h2,eR];exact q
theorem rO:az ["self","kind","place"] ["self","kind","place"] (aj (inClass (top 76) 0)):=aR
theorem b7(T:Tx K mg a):uV P w K mg base a.bg a.mh ["self","kind","place"] (Kn K a.bD ["kind","place"]):=by
 refine T.bg.F.okN rO (λvs H Q h=>?_) (λcdv A outer s H vs Q h=>?_)
 ·obtain⟨_,_,ws,rfl,hl,_⟩:=h
  exact ln2 ws hl λ_ _=>rfl
 ·obtain⟨e,t,ws,rfl,hl,he,k⟩:=h
  revert k
  refine ln2 ws hl λv y k=>?_;refine⟨_,(aB (DW (pv 0) (pv 1) rfl) (aF (J0 (pv 0) (pv 2) rfl))),?_⟩
  try extract_lets
  refine⟨_,rfl,_,rfl,e,a.bD,t,rfl,he,T.bB.cl,T.mr,λdx h1 h2=>?_⟩;refine⟨_,rfl,_,rfl,e,a.bD,t,dx,_,rfl,ah,(by rw[ai h2,ah]),T.bB.cl,T.lP,(by show 1<1000;decide),?_⟩;have q:=k dx h1 h2;rw[put2,<-xg (H:=upd H dx (XD dx [("kind",v)])) h2,eR];exact q
def vt(g:Addr)(n:Nat):List (Str×V):=[("given",.ref g),("place",.int n)]
structure fI(K:PB)(a:Ad)(H:Hp)(x dx g:Addr)(ns:List Int)(n:Nat):Prop where
 ins:H x=some (.ins a.aY dx (vt g n))
 gv:H g=some (.lst (ns.map V.int))
def Ex(x:Addr)(H H':Hp):Prop:=∀b o,H b=some o->b≠x->H' b=some o
theorem Ex.refl{x:Addr}{H:Hp}:Ex x H H:=λ_ _ h _=>h
theorem Ex.trans{x:Addr}{H H1 H2:Hp}(p:Ex x H H1)(q:Ex x H1 H2):Ex x H H2:=λb o h n=>q b o (p b o h n) n
theorem _root_.L2.aD.ex{x:Addr}{H H1:Hp}(p:aD H H1):Ex x H H1:=λb o h _=>p b o h
theorem Ex.seq{x l:Addr}{H H':Hp}{xs:List V}{C dx:Addr}{fs:List (Str×V)}(p:Ex x H H')(hx:H x=some (.ins C dx fs))(h:a0 K H l xs):a0 K H' l xs:=by
 rcases h with(h|⟨o,h⟩)|h
 ·exact .inl (.inl (p _ _ h (bf h hx λz=>nomatch z)))
 ·exact .inl (.inr ⟨o,p _ _ h (bf h hx λz=>nomatch z)⟩)
 ·exact .inr h
inductive A6(a:Ad)(vs:List V)(H:Hp)(Q:VK)(E:XK):Prop
 |mk (x dx g:Addr) (_:vs=[.ref x,.ref g]) (_:H x=some (.ins a.aY dx [])) (_:Q .eB (upd H x (.ins a.aY dx (vt g 0)))):A6 a vs H Q E
theorem xh:az ["self","given"] ["self","given"] (aj (inClass (top 46) 0)):=aR
theorem pK(T:Tx K mg a):a4 P w K mg base (cW P w) 1 a.eu a.rh ["self","given"] (A6 a):=by
 refine T.eu.F.kP xh λcdv A outer s H vs Q E hr h=>?_;obtain⟨x,dx,g,rfl,hx,k⟩:=h
 exists aB (a5 (pv 0) (pv 1) rfl) (aF (a5 (pv 0) aw rfl))
 refine⟨_,rfl,_,rfl,x,a.aY,dx,[],rfl,hx,T.aC.cl,T.lR,(by show 0<1000;decide),?_⟩;refine⟨_,rfl,x,a.aY,dx,_,rfl,ah,T.aC.cl,T.bI,(by show 1<1000;decide),?_⟩;rw[eR];exact k
inductive Kf(K:PB)(a:Ad)(vs:List V)(H:Hp)(Q:VK)(E:XK):Prop
 |mk (x dx g:Addr) (ns:List Int) (n:Nat) (_:vs=[.ref x]) (_:fI K a H x dx g ns n) (_:Q (.bl (decide (ns.length<=n))) H):Kf K a vs H Q E
theorem uk:az ["self"] ["self"] (aj (inClass (top 46) 1)):=aR
theorem nn(T:Tx K mg a):a4 P w K mg base (cW P w) 1 a.dN a.ot ["self"] (Kf K a):=by
 refine T.dN.F.kP uk λcdv A outer s H vs Q E hr h=>?_;obtain⟨x,dx,g,ns,n,rfl,R,k⟩:=h
 exists aF (aE (d9 zj (au (pv 0) rfl) (bt bN rfl T.mj (by decide+kernel) (aa (au (pv 0) rfl) ae)) (aJ _)))
 refine⟨_,rfl,x,_,_,_,_,rfl,R.ins,T.aC.cl,T.bI,rfl,_,rfl,x,_,_,_,_,rfl,R.ins,T.aC.cl,T.lR,rfl,g,_,rfl,.inl (a0.of R.gv),_,_,rfl,rfl,?_⟩;have e:decide (((ns.map V.int).length:Int)<=(n:Int))=decide (ns.length<=n):=by rw[Px];exact RR.mpr (by omega)
 rw[<-e]at k;exact k
inductive Ge(K:PB)(a:Ad)(vs:List V)(H:Hp)(Q:VK)(E:XK):Prop
 |mk (x dx g:Addr) (ns:List Int) (n c:Nat) (_:vs=[.ref x,.str ⟨#[c]⟩]) (_:fI K a H x dx g ns n) (_:Q (.bl (ns[n]? ==some (c:Int))) H):Ge K a vs H Q E
theorem ww:az ["self","sign"] ["self","sign"] (aj (inClass (top 46) 2)):=aR
theorem iK(T:Tx K mg a):a4 P w K mg base (cW P w) 2 a.db a.qP ["self","sign"] (Ge K a):=by
 refine T.db.F.kP ww λcdv A outer s H vs Q E hr h=>?_;obtain⟨x,dx,g,ns,n,c,rfl,R,k⟩:=h
 exists aF (aE (wm (GF (E7 (pv 0) T.aC T.dN (nn T) hr aK)) (p8 (d9 bO (bj a_ (au (pv 0) rfl) (au (pv 0) rfl) (λ_ _=>rfl)) (bt Bs rfl T.Ko (by decide+kernel) (aa (pv 1) ae)) (aJ _)))))
 refine⟨_,rfl,x,dx,_,rfl,R.ins,rfl,x,dx,g,ns,n,rfl,R,_,rfl,_,rfl,fO (λh1=>?_) λh1=>?_⟩
 ·have hn:n<ns.length:=by
   have q:decide (ns.length<=n)=false:=by simpa using h1
   have:=of_decide_eq_false q;omega
  have at1:ns[n]? =some ns[n]:=PD hn;refine⟨_,rfl,x,_,_,_,_,rfl,R.ins,T.aC.cl,T.lR,rfl,_,rfl,x,_,_,_,_,rfl,R.ins,T.aC.cl,T.bI,rfl,g,_,_,_,rfl,rfl,a0.of R.gv,at_of (j:=n) rfl (by rw[Qa,at1];rfl),_,rfl,_,rfl,rfl,rfl,?_⟩;rw[g9];rw[at1]at k;have e:(some ns[n]==some (c:Int))=decide (ns[n]=(c:Int)):=by
   rw[QN,QQ,PV];exact⟨λq=>by injection q,λq=>by rw[q]⟩
  rw[e]at k;exact k
 ·have hn:ns.length<=n:=by
   have q:decide (ns.length<=n)=true:=by simpa using h1
   exact PR q
  rw[R_ hn]at k;exact k
theorem fI.same{H H':Hp}{x dx g:Addr}{ns:List Int}{n:Nat}(R:fI K a H x dx g ns n)(s:aD H H'):fI K a H' x dx g ns n:=⟨s _ _ R.ins,s _ _ R.gv⟩
def cK(z:Str)(ns:List Int)(n:Nat):Option Nat:=match ns[n]? with
 |none=>none
 |some b=>z.cps.toList.findIdx? λ(c:Nat)=>decide ((c:Int)=b)
def bd(z:Str)(ns:List Int)(n:Nat):Bool:=z.cps.toList.any λ(c:Nat)=>ns[n]? ==some (c:Int)
theorem Cd{α:Type}(f:α->Bool):∀(l:List α),(l.map λc=>f c).any id=l.any f
 |[]=>rfl
 |x::l=>by rw[QD,RI,RI,Cd f l];rfl
inductive Kd(K:PB)(a:Ad)(vs:List V)(H:Hp)(Q:VK)(E:XK):Prop
 |mk (x dx g:Addr) (ns:List Int) (n:Nat) (z:Str) (_:vs=[.ref x,.str z]) (_:fI K a H x dx g ns n) (_:z.cps.size<=1000) (_:∀H',aD H H'->Q (.bl (bd z ns n)) H'):Kd K a vs H Q E
theorem hZ:az ["self","signs","sign"] ["self","signs"] (aj (inClass (top 46) 3)):=aR
theorem eU(T:Tx K mg a):a4 P w K mg base (cW P w) 3 a.bT a.mz ["self","signs"] (Kd K a):=by
 refine T.bT.F.kP hZ λcdv A outer s H vs Q E hr h=>?_;obtain⟨x,dx,g,ns,n,z,rfl,R,hz,k⟩:=h
 exists aF (aE (bt (CV rfl) rfl T.Ii (by decide+kernel) (aa (lE (own:=[("sign",2)]) rfl hZ.nd (Ds (pv 1)) (cp rfl) (λ_ _ _ _ _=>(kT 2 hZ.nd)) (λ_ _ _ _ _=>dZ) (λ_ _ _ _ _=>(je (pv 0) T.aC T.db (iK T) hr aK (aa (pv 2) ae)))) ae)))
 refine⟨_,rfl,z,rfl,λD hD=>iU (J:=Nd z) (n:=z.cps.size) (λi=>((z.cps.toList.take i).map λ(c:Nat)=>V.bl (ns[n]? ==some (c:Int)))) hD rfl (λi H h _=>h) (λH _=>PF _) (λi H' hi s1 e1 y H2 hy=>?_) λH' s1 e1=>?_⟩
 ·obtain⟨rfl,c,hc,rfl⟩:=hy
  refine⟨rfl,_,rfl,x,dx,_,rfl,s1 _ _ R.ins,rfl,_,rfl,x,dx,g,ns,n,c,rfl,R.same s1,?_⟩;refine Got.of hD s1 e1 (aD.refl _) (by rw[Px,Qt];omega) ?_;have hc':z.cps.toList[i]? =some c:=by simpa using hc
  rw[QZ,hc',Qg];rfl
 ·refine⟨D,z.cps.toList.map λ(c:Nat)=>(ns[n]? ==some (c:Int)),rfl,?_,?_⟩
  ·refine .inl (.inl ?_)
   rw[e1,QJ,Qp (by simp)];rfl
  ·have q:=k H' s1
   unfold bd at q;rw[<-Cd]at q;exact q
def fJ(a:Ad)(x:Addr)(H:Hp)(n:Nat)(E:XK):Prop:=∀(H':Hp)(e d:Addr),Ex x H H'->H' e=some (XO e a.fe (some d) true)->H' d=some (XD d [("place",.int n)])->E (.ref a.fe) (some e) H'
def B4(a:Ad)(x dx g:Addr)(H:Hp)(r:Except Nat (V×Nat))(Q:VK)(E:XK):Prop:=match r with
 |.ok p=>∀H',Ex x H H'->H' x=some (.ins a.aY dx (vt g p.2))->Q p.1 H'
 |.error m=>fJ a x H m E
theorem fJ.mono{x:Addr}{H H1:Hp}{n:Nat}{E:XK}(h:fJ a x H n E)(e:Ex x H H1):fJ a x H1 n E:=λH' c d q=>h H' c d (e.trans q)
def aW(z:Str)(ns:List Int)(n:Nat):Except Nat (V×Nat):=match cK z ns n with
 |some k=>.ok (.int (k:Nat),n+1)
 |none=>.error n
inductive J4(K:PB)(a:Ad)(vs:List V)(H:Hp)(Q:VK)(E:XK):Prop
 |mk (x dx g:Addr) (ns:List Int) (n:Nat) (z:Str) (_:vs=[.ref x,.str z]) (_:fI K a H x dx g ns n) (_:B4 a x dx g H (aW z ns n) Q E):J4 K a vs H Q E
theorem ux{a:Ad}{x:Addr}{H H1:Hp}{n:Nat}{E:XK}(h:fJ a x H n E)(s1:Ex x H H1)(e d:Addr)(n1:H1 e=none)(n2:H1 d=none)(n3:d≠e)(hx:H1 x≠none):E (.ref a.fe) (some e) (upd (upd H1 d (XD d [("place",.int n)])) e (XO e a.fe (some d) true)):=by
 refine h _ e d (λb o q nb=>?_) ah (by rw[ai n3,ah]);have q1:=s1 b o q nb;rw[ai (ak q1 n1),ai (ak q1 n2)];exact q1
theorem ib:az ["self","signs","number","sign"] ["self","signs"] (aj (inClass (top 46) 4)):=aR
theorem a8(T:Tx K mg a):a4 P w K mg base (cW P w) 3 a.aV a.mC ["self","signs"] (J4 K a):=by
 refine T.aV.F.oO ib λcdv A outer s H vs Q E hr h=>?_;obtain⟨x,dx,g,ns,n,z,rfl,R,k⟩:=h
 exists aB (dI QO rfl (HZ rfl T.uX (aa (pv 1) ae)) (tV rfl (fh (kT 2 ib.nd) (fh (kT 3 ib.nd) qB))) (aF (bE (dD (je (pv 0) T.aC T.db (iK T) hr aK (aa (pv 3) ae))) (aB (qr (pv 0) aw Ah) (aF (aE (pv 2)))) aX))) (aF (f8 ay hr.hd T.AW (mF T) T.dW.b (hr.d1) rfl T.g7.m (aa (au (pv 0) rfl) ae)))
 refine⟨_,rfl,z,rfl,sK (J:=KM z) (n:=z.cps.size) (λi σ H'=>aD H H'/\(∃u v,σ=[some (.ref x),some (.str z),u,v])/\∀j c,j<i->z.cps[j]? =some c->ns[n]?≠some (c:Int)) ⟨aD.refl _,⟨_,_,rfl⟩,λ_ _ h=>absurd h (Nat.not_lt_zero _)⟩ (λi _ _ hi _=>hi) (λ_ _ _=>rfl) (λi σ H1 hi⟨s1,⟨u,v,e⟩,hno⟩ y H2 hy=>?_) λσ H1⟨s1,⟨u,v,e⟩,hno⟩=>?_⟩
 ·subst e
  obtain⟨t,c,rfl,ht,rfl,hc⟩:=hy;have s2:aD H (upd H1 t (.tup [.int (i:Nat),.str ⟨#[c]⟩])):=λb o q=>by
   rw[ai (ak (s1 b o q) ht)];exact s1 b o q
  refine⟨t,_,rfl,iP.of ah,rfl,_,_,rfl,_,_,rfl,rfl,?_⟩;refine⟨_,rfl,x,dx,_,rfl,s2 _ _ R.ins,rfl,_,rfl,x,dx,g,ns,n,c,rfl,R.same s2,_,rfl,fO (λh1=>?_) λh1=>?_⟩
  ·have hb:ns[n]? =some (c:Int):=eq_of_beq h1
   refine⟨_,rfl,x,_,_,_,_,rfl,s2 _ _ R.ins,T.aC.cl,T.bI,rfl,_,_,rfl,rfl,dx,_,s2 _ _ R.ins,(by show 2<1000;decide),?_⟩;refine⟨_,rfl,?_⟩;have hk:cK z ns n=some i:=by
    unfold cK;rw[hb];show z.cps.toList.findIdx? _=some i;rw[List.findIdx?_eq_some_iff_getElem];have hil:i<z.cps.toList.length:=by simpa using hi
    have ec:z.cps.toList[i]=c:=by
     have:z.cps.toList[i]? =some c:=by simpa using hc
     rw[PD hil]at this;exact Qk this
    refine⟨hil,by rw[ec];simp,λj hj=>?_⟩;have hjl:j<z.cps.toList.length:=RQ hj hil;have:=hno j z.cps.toList[j] hj (by have q:z.cps.toList[j]? =some z.cps.toList[j]:=PD hjl;simpa using q);rw[hb]at this;intro q;exact this (by rw[PR q])
   unfold aW at k;rw[hk]at k;refine k _ (λb o q nb=>?_) ?_
   ·rw[ai nb]
    exact s2 b o q
   ·rw[ah]
    rfl
  ·refine⟨s2,⟨_,_,rfl⟩,λj c' hj hc'=>?_⟩
   rcases RS.mp hj with q|q
   ·exact hno j c' q hc'
   ·subst q
    rw[hc]at hc';cases hc';intro q;rw[q,beq_self_eq_true]at h1;cases h1
 ·subst e
  refine⟨_,rfl,x,_,_,_,_,rfl,s1 _ _ R.ins,T.aC.cl,T.bI,rfl,rfl,(by show 1<=1000;decide),λe d n1 n2 n3=>?_⟩;have hk:cK z ns n=none:=by
   unfold cK;cases hb:ns[n]? with
   |none=>rfl
   |some b=>
    show z.cps.toList.findIdx? _=none;rw[List.findIdx?_eq_none_iff];intro c hc;obtain⟨j,hj,ej⟩:=Ro hc;have:=hno j c (by simpa using hj) (by have q:z.cps.toList[j]? =some c:=(by rw[PD hj,ej]);simpa using q);rw[hb]at this;exact Qr λq=>this (by rw[q])
  unfold aW at k;rw[hk]at k;exact ux k s1.ex e d n1 n2 n3 (by rw[s1 _ _ R.ins];exactλq=>nomatch q)
theorem fI.ex{H H':Hp}{x dx g:Addr}{ns:List Int}{n n':Nat}(R:fI K a H x dx g ns n)(s:Ex x H H')(h:H' x=some (.ins a.aY dx (vt g n'))):fI K a H' x dx g ns n':=⟨h,s _ _ R.gv (bf R.gv R.ins λz=>nomatch z)⟩
def c_(ns:List Int):List Nat->Nat->Except Nat Nat
 |[],n=>.ok n
 |c::r,n=>if ns[n]? =some (c:Int)then c_ ns r (n+1)else .error n
theorem xf(ns:List Int):∀(l1 l2:List Nat)(n:Nat),c_ ns (l1++l2) n=(match c_ ns l1 n with|.ok m=>c_ ns l2 m|.error e=>.error e)
 |[],_,_=>rfl
 |c::r,l2,n=>by
  show(if ns[n]? =some (c:Int)then c_ ns (r++l2) (n+1)else .error n)=(match(if ns[n]? =some (c:Int)then c_ ns r (n+1)else .error n)with|.ok m=>c_ ns l2 m|.error e=>.error e)
  by_cases h:ns[n]? =some (c:Int)
  ·rw[Pz h,Pz h]
   exact xf ns r l2 (n+1)
  ·rw[Py h,Py h]
theorem GZ(c:Nat)(ns:List Int)(n:Nat):aW ⟨#[c]⟩ ns n=if ns[n]? =some (c:Int)then .ok (.int ((0:Nat):Int),n+1)else .error n:=by
 unfold aW cK;cases hb:ns[n]? with
 |none=>rfl
 |some b=>
  show(match([c].findIdx? λ(c:Nat)=>decide ((c:Int)=b))with|some k=>Except.ok (V.int (k:Nat),n+1)|none=>.error n)=_;rw[List.findIdx?_cons]
  by_cases hc:(c:Int)=b
  ·rw[PJ hc,Pz rfl,Pz (by rw[hc])]
  ·rw[Qr hc,Py PM,Py (λq=>hc (Qk q).symm)]
   rfl
def R1(r:Except Nat Nat)(v:V):Except Nat (V×Nat):=match r with
 |.ok m=>.ok (v,m)
 |.error e=>.error e
inductive GH(K:PB)(a:Ad)(vs:List V)(H:Hp)(Q:VK)(E:XK):Prop
 |mk (x dx g:Addr) (ns:List Int) (n:Nat) (z:Str) (_:vs=[.ref x,.str z]) (_:fI K a H x dx g ns n) (_:B4 a x dx g H (R1 (c_ ns z.cps.toList n) .eB) Q E):GH K a vs H Q E
theorem E9{α:Type}{l:List α}{i:Nat}{c:α}(h:l[i]? =some c):l=l.take i++c::l.drop (i+1):=by
 obtain⟨hi,e⟩:=PQ.mp h;rw[<-e,List.getElem_cons_drop,List.take_append_drop]
theorem nG:az ["self","text","sign"] ["self","text"] (aj (inClass (top 46) 5)):=aR
theorem aL(T:Tx K mg a):a4 P w K mg base (cW P w) 4 a.aH a.oy ["self","text"] (GH K a):=by
 refine T.aH.F.oO nG λcdv A outer s H vs Q E hr h=>?_;obtain⟨x,dx,g,ns,n,z,rfl,R,k⟩:=h
 exists aF (dI QO rfl (Ds (pv 1)) (kT 2 nG.nd) (aF (aZ (je (pv 0) T.aC T.aV (a8 T) hr ay.passes (aa (pv 2) ae)))))
 refine⟨_,rfl,z,rfl,sK (J:=Nd z) (n:=z.cps.size) (λi σ H'=>∃n' u,σ=[some (.ref x),some (.str z),u]/\c_ ns (z.cps.toList.take i) n=.ok n'/\Ex x H H'/\H' x=some (.ins a.aY dx (vt g n'))) ⟨n,_,rfl,rfl,Ex.refl,R.ins⟩ (λi _ _ hi _=>hi) (λ_ _ _=>PF _) (λi σ H1 hi hW y H2 hy=>?_) λσ H1 hW=>?_⟩
 ·obtain⟨n',u,rfl,hl,s1,h1⟩:=hW
  obtain⟨rfl,c,hc,rfl⟩:=hy;have hc':z.cps.toList[i]? =some c:=by simpa using hc
  refine⟨_,rfl,x,dx,_,rfl,h1,rfl,_,rfl,x,dx,g,ns,n',⟨#[c]⟩,rfl,R.ex s1 h1,?_⟩;rw[GZ]
  by_cases hb:ns[n']? =some (c:Int)
  ·rw[Pz hb]
   intro H3 s3 h3;refine⟨n'+1,_,rfl,?_,s1.trans s3,h3⟩;rw[QZ,hc',xf,hl];show(if ns[n']? =some (c:Int)then c_ ns [] (n'+1)else .error n')=_;rw[Pz hb];rfl
  ·rw[Py hb]
   have e:c_ ns z.cps.toList n=.error n':=by
    rw[E9 hc',xf,hl];show(if ns[n']? =some (c:Int)then _ else Except.error n')=_;rw[Py hb]
   rw[e]at k;exact k.mono s1
 ·obtain⟨n',u,rfl,hl,s1,h1⟩:=hW
  rw[Qp (by simp)]at hl;rw[hl]at k;exact k H1 s1 h1
inductive KF(K:PB)(a:Ad)(vs:List V)(H:Hp)(Q:VK)(E:XK):Prop
 |mk (x dx g:Addr) (ns:List Int) (n:Nat) (_:vs=[.ref x]) (_:fI K a H x dx g ns n) (_:(ns.length<=n->Q .eB H)) (_:(n<ns.length->fJ a x H n E)):KF K a vs H Q E
theorem pA:az ["self"] ["self"] (aj (inClass (top 46) 7)):=aR
theorem jI(T:Tx K mg a):a4 P w K mg base (cW P w) 2 a.cA a.j_ ["self"] (KF K a):=by
 refine T.cA.F.oO pA λcdv A outer s H vs Q E hr h=>?_;obtain⟨x,dx,g,ns,n,rfl,R,k1,k2⟩:=h
 exists aF (bE (lK (dD (E7 (pv 0) T.aC T.dN (nn T) hr aK))) (aF (f8 ay hr.hd T.AW (mF T) T.dW.b (hr.d1) rfl T.g7.m (aa (au (pv 0) rfl) ae))) aX)
 refine⟨_,rfl,x,dx,_,rfl,R.ins,rfl,x,dx,g,ns,n,rfl,R,_,rfl,fO (λh1=>?_) λh1=>?_⟩
 ·have hn:n<ns.length:=by
   have q:decide (ns.length<=n)=false:=by simpa using h1
   have:=of_decide_eq_false q;omega
  refine⟨_,rfl,x,_,_,_,_,rfl,R.ins,T.aC.cl,T.bI,rfl,rfl,(by show 1<=1000;decide),λe d n1 n2 n3=>?_⟩;exact ux (k2 hn) Ex.refl e d n1 n2 n3 (by rw[R.ins];exactλq=>nomatch q)
 ·have hn:ns.length<=n:=by
   have q:decide (ns.length<=n)=true:=by simpa using h1
   exact PR q
  exact k1 hn
inductive uu(K:PB)(a:Ad)(r:List Int->Nat->Except Nat (V×Nat))(vs:List V)(H:Hp)(Q:VK)(E:XK):Prop
 |mk (x dx g:Addr) (ns:List Int) (n:Nat) (_:vs=[.ref x]) (_:fI K a H x dx g ns n) (_:B4 a x dx g H (r ns n) Q E):uu K a r vs H Q E
def G8(m:Nat)(r:Except Nat (V×Nat)):Except Nat (V×Nat):=match r with
 |.ok (.int i,n)=>.ok (.int (m+i),n)
 |.ok (_,n)=>.error n
 |.error e=>.error e
def sW(ns:List Int)(n:Nat):Except Nat (V×Nat):=if ns[n]? =some 49 then G8 10 (aW "0123" ns (n+1))else G8 5 (aW "56789" ns n)
theorem B4.plus{x dx g:Addr}{H:Hp}{z:Str}{ns:List Int}{n m:Nat}{Q:VK}{E:XK}(h:B4 a x dx g H (G8 m (aW z ns n)) Q E):B4 a x dx g H (aW z ns n) (λv H'=>∃i,v=.int i/\Q (.int (m+i)) H') E:=by
 unfold aW at h ⊢;cases hk:cK z ns n with
 |none=>
  rw[hk]at h;exact h
 |some k=>
  rw[hk]at h;exactλH' e1 e2=>⟨_,rfl,h H' e1 e2⟩
theorem B4.after{x dx g:Addr}{H H1:Hp}{r:Except Nat (V×Nat)}{Q:VK}{E:XK}(h:B4 a x dx g H r Q E)(s:Ex x H H1):B4 a x dx g H1 r Q E:=by
 unfold B4 at h ⊢;cases r with
 |ok p=>exactλH' e1 e2=>h H' (s.trans e1) e2
 |error m=>exact h.mono s
theorem At:az ["reader"] ["reader"] (aj (top 80)):=aR
theorem tF(T:Tx K mg a):a4 P w K mg base (cW P w) 5 a.io a.uS ["reader"] (uu K a sW):=by
 refine T.io.F.oO At λcdv A outer s H vs Q E hr h=>?_;obtain⟨x,dx,g,ns,n,rfl,R,k⟩:=h
 exists aB (bE (dD (je (pv 0) T.aC T.db (iK T) hr aK (aa a9 ae))) (aB (aZ (je (pv 0) T.aC T.aH (aL T) hr ay.passes (aa a9 ae))) (aF (aE (bv gN aw (je (pv 0) T.aC T.aV (a8 T) hr ay.passes (aa a9 ae)))))) aX) (aF (aE (bv gN aw (je (pv 0) T.aC T.aV (a8 T) hr ay.passes (aa a9 ae)))))
 refine⟨_,rfl,x,dx,_,rfl,R.ins,rfl,x,dx,g,ns,n,49,rfl,R,_,rfl,fO (λh1=>?_) λh1=>?_⟩
 ·have hb:ns[n]? =some 49:=eq_of_beq h1
  unfold sW at k;rw[Pz hb]at k;refine⟨_,rfl,x,dx,_,rfl,R.ins,rfl,x,dx,g,ns,n,"1",rfl,R,?_⟩;have e:c_ ns ("1":Str).cps.toList n=.ok (n+1):=by
   show(if ns[n]? =some 49 then c_ ns [] (n+1)else .error n)=_;rw[Pz hb];rfl
  rw[e];intro H1 s1 e1;have R1':=R.ex s1 e1;refine⟨_,rfl,x,dx,_,rfl,e1,rfl,x,dx,g,ns,n+1,"0123",rfl,R1',?_⟩;have q:=(k.after s1).plus;unfold B4 at q ⊢
  revert q
  cases aW "0123" ns (n+1)with
  |ok p=>
   intro q H' e2 e3;obtain⟨i,ei,q⟩:=q H' e2 e3;exact⟨_,_,rfl,ei,q⟩
  |error m=>exactλq=>q
 ·have hb:¬ns[n]? =some 49:=λq=>by rw[q]at h1;cases h1
  unfold sW at k;rw[Py hb]at k;refine⟨_,rfl,x,dx,_,rfl,R.ins,rfl,x,dx,g,ns,n,"56789",rfl,R,?_⟩;have q:=k.plus;unfold B4 at q ⊢
  revert q
  cases aW "56789" ns n with
  |ok p=>
   intro q H' e2 e3;obtain⟨i,ei,q⟩:=q H' e2 e3;exact⟨_,_,rfl,ei,q⟩
  |error m=>exactλq=>q
def CB:Str:="ABCDEFGHIJKLMNOPQRSTUVWXYZabcdefghijklmnopqrstuvwxyz"
def fG:Str:="0123456789"
def fP(ns:List Int):Nat->Nat->Nat
 |0,n=>n
 |f+1,n=>if bd (CB++fG) ns n=true then fP ns f (n+1)else n
def Bb(ns:List Int)(n:Nat):Except Nat (V×Nat):=match aW CB ns n with
 |.error e=>.error e
 |.ok p=>.ok (.eB,fP ns 15 p.2)
theorem rH{z:Str}{ns:List Int}{n:Nat}(h:bd z ns n=true):∃k,aW z ns n=.ok (.int (k:Nat),n+1):=by
 obtain⟨c,hc,e⟩:=QR.mp h;have hb:ns[n]? =some (c:Int):=eq_of_beq e;unfold aW;cases hk:cK z ns n with
 |some k=>exact⟨k,rfl⟩
 |none=>
  unfold cK at hk;rw[hb]at hk;have q:=List.findIdx?_eq_none_iff.mp hk c hc;simp at q
theorem dR{z:Str}{ns:List Int}{n:Nat}{p:V×Nat}(h:aW z ns n=.ok p):∃k:Nat,p=(.int (k:Nat),n+1)/\cK z ns n=some k:=by
 unfold aW at h;cases hk:cK z ns n with
 |some k=>
  rw[hk]at h;cases h;exact⟨k,rfl,rfl⟩
 |none=>
  rw[hk]at h;cases h
theorem nU:az ["reader","told"] ["reader"] (aj (top 79)):=aR
theorem AA(T:Tx K mg a):a4 P w K mg base (cW P w) 4 a.jD a.uN ["reader"] (uu K a Bb):=by
 refine T.jD.F.oO nU λcdv A outer s H vs Q E hr h=>?_;obtain⟨x,dx,g,ns,n,rfl,R,k⟩:=h
 exists aB (aZ (je (pv 0) T.aC T.aV (a8 T) hr ay.passes (aa (CF T.ua) ae))) (aB (e_ 1 nU.nd aw) (aF (jE QO (PW.pt (gM (aI uL (pv 1) (mL T.xG) (aJ _)) (fc (dD (je (pv 0) T.aC T.bT (eU T) hr aK (aa (bv dB (CF T.ua) (CF T.jU)) ae)))))) (aB (aZ (je (pv 0) T.aC T.aV (a8 T) hr ay.passes (aa (bv dB (CF T.ua) (CF T.jU)) ae))) (aF (Gx 1 nU.nd aw tW))))))
 refine⟨_,rfl,x,dx,_,rfl,R.ins,rfl,x,dx,g,ns,n,CB,rfl,R,?_⟩;unfold Bb at k;cases h1:aW CB ns n with
 |error m=>
  rw[h1]at k;exact k
 |ok p=>
  rw[h1]at k;replace k:B4 a x dx g H (.ok (.eB,fP ns 15 p.2)) Q E:=k;intro H1 s1 e1;refine⟨λm σ H'=>∃n':Nat,σ=[some (.ref x),some (.int ((16-m:Nat):Int))]/\m<=15/\Ex x H H'/\H' x=some (.ins a.aY dx (vt g n'))/\fP ns 15 p.2=fP ns m n',⟨15,p.2,rfl,PF _,s1,e1,rfl⟩,?_⟩
  rintro m σ H2 ⟨n',rfl,hm,s2,e2,hs⟩
  refine⟨_,rfl,_,_,rfl,rfl,_,rfl,gB (λh2=>?_) λh2=>?_⟩
  ·have h2:((16-m:Nat):Int)<16:=PR h2
   refine⟨_,rfl,x,dx,_,rfl,e2,rfl,_,_,rfl,rfl,(by show(52:Nat)+10<=sizeLine;decide),x,dx,g,ns,n',CB++fG,rfl,R.ex s2 e2,(by decide+kernel),λH3 s3=>⟨_,rfl,fO (λh3=>?_) λh3=>?_⟩⟩
   ·obtain⟨kk,hk⟩:=rH h3
    refine⟨_,λ_ _ h=>h,_,rfl,x,dx,_,rfl,s3 _ _ e2,rfl,_,_,rfl,rfl,(by show(52:Nat)+10<=sizeLine;decide),x,dx,g,ns,n',CB++fG,rfl,(R.ex s2 e2).same s3,?_⟩;rw[hk];intro H4 s4 e4;refine⟨_,rfl,_,_,rfl,rfl,m-1,by omega,n'+1,?_,by omega,(s2.trans s3.ex).trans s4,e4,?_⟩
    ·have e:((16-m:Nat):Int)+1=((16-(m-1):Nat):Int):=by omega
     rw[<-e];rfl
    ·rw[hs]
     obtain⟨m',rfl⟩:∃m',m=m'+1:=⟨m-1,by omega⟩;show(if bd (CB++fG) ns n'=true then fP ns m' (n'+1)else n')=_;rw[Pz h3];rfl
   ·have e:fP ns m n'=n':=by
     cases m with
     |zero=>rfl
     |succ m'=>
      show(if bd (CB++fG) ns n'=true then fP ns m' (n'+1)else n')=_;rw[Py (by rw[h3];exact PM)]
    rw[hs,e]at k;exact k H3 (s2.trans s3.ex) (s3 _ _ e2)
  ·have h2:¬((16-m:Nat):Int)<16:=λq=>h2 (PJ q)
   have e0:m=0:=by omega
   subst e0;rw[hs]at k;exact k H2 s2 e2
def yY(l:Int):Int:=if(if 60000-10*l+1<10 then 60000-10*l+1 else 10)>0 then(if 60000-10*l+1<10 then 60000-10*l+1 else 10)else 0
def gA(ns:List Int):Nat->Int->Nat->Except Nat (V×Nat)
 |0,l,n=>.ok (.int l,n)
 |f+1,l,n=>if bd (gb fG none (some (yY l))) ns n=true then(match aW fG ns n with
   |.ok (.int d,m)=>gA ns f (10*l+d) m
   |.ok (_,m)=>.error m
   |.error e=>.error e)else .ok (.int l,n)
def AD(ns:List Int)(n:Nat):Except Nat (V×Nat):=match aW "123456789" ns n with
 |.ok (.int d,m)=>gA ns 6 (1+d) m
 |.ok (_,m)=>.error m
 |.error e=>.error e
theorem DV{z:Str}{t:Int}{ns:List Int}{n:Nat}(h:bd (gb z none (some t)) ns n=true):bd z ns n=true:=by
 obtain⟨c,hc,e⟩:=QR.mp h;refine QR.mpr ⟨c,?_,e⟩;unfold gb at hc;rw[RW]at hc;exact Sd (List.mem_of_mem_take hc)
theorem DG(z:Str)(lo hi:Option Int)(h:z.cps.size<=1000):(gb z lo hi).cps.size<=1000:=by
 unfold gb;simp only[Qn,Qt,Rw];have:z.cps.toList.length=z.cps.size:=by simp
 omega
theorem Gm{l:Int}(h:10000<=l):yY l=0\/l<=6000:=by
 left
 unfold yY;split<;>split<;>omega
theorem Ow(z:Str)(ns:List Int)(n:Nat):bd (gb z none (some 0)) ns n=false:=by
 have e:HT.jV z.length z.length (some 0)=0:=by
  unfold HT.jV;simp
 unfold bd gb;rw[e];simp
theorem mP:az ["reader","limit"] ["reader"] (aj (top 81)):=aR
theorem y6(T:Tx K mg a):a4 P w K mg base (cW P w) 4 a.i_ a.tQ ["reader"] (uu K a AD):=by
 refine T.i_.F.oO mP λcdv A outer s H vs Q E hr h=>?_;obtain⟨x,dx,g,ns,n,rfl,R,k⟩:=h
 exists aB (e_ 1 mP.nd (bv gN aw (je (pv 0) T.aC T.aV (a8 T) hr ay.passes (aa a9 ae)))) (aB (jE QO (dD (je (pv 0) T.aC T.bT (eU T) hr aK (aa (oS Do (CF T.jU) DQ (l_ (bt (zc rfl) rfl T.Kt (by decide+kernel) (aa aw (aa (bt (zk rfl) rfl T.J2 (by decide+kernel) (aa aw (aa (bv gN (bv nZ (mL T.vE) (bv oW aw (pv 1))) aw) ae))) ae))))) ae))) (aF (e_ 1 mP.nd (bv gN (bv oW aw (pv 1)) (je (pv 0) T.aC T.aV (a8 T) hr ay.passes (aa (CF T.jU) ae)))))) (aF (aE (pv 1))))
 refine⟨_,rfl,x,dx,_,rfl,R.ins,rfl,x,dx,g,ns,n,"123456789",rfl,R,?_⟩;unfold AD at k;cases h1:aW "123456789" ns n with
 |error m=>
  rw[h1]at k;exact k
 |ok p=>
  obtain⟨d,rfl,_⟩:=dR h1;rw[h1]at k;replace k:B4 a x dx g H (gA ns 6 (1+(d:Nat)) (n+1)) Q E:=k;intro H1 s1 e1;refine⟨_,_,rfl,rfl,λm σ H'=>∃(n':Nat)(l:Int),σ=[some (.ref x),some (.int l)]/\m<=6/\1<=l/\(m=5->10<=l)/\(m=4->100<=l)/\(m=3->1000<=l)/\(m<=2->10000<=l)/\Ex x H H'/\H' x=some (.ins a.aY dx (vt g n'))/\gA ns 6 (1+(d:Nat)) (n+1)=gA ns m l n',⟨6,n+1,1+(d:Nat),rfl,PF _,by omega,by omega,by omega,by omega,by omega,s1,e1,rfl⟩,?_⟩
  rintro m σ H2 ⟨n',l,rfl,hm,hl,b5,b4,b3,b2,s2,e2,hs⟩
  refine⟨_,rfl,x,dx,_,rfl,e2,rfl,_,rfl,_,_,rfl,rfl,.inl ⟨by decide,by decide⟩,_,_,rfl,rfl,_,_,rfl,rfl,_,_,rfl,_,_,rfl,_,rfl,_,rfl,(by show(10:Nat)<=sizeLine;decide),x,dx,g,ns,n',gb fG none (some (yY l)),rfl,R.ex s2 e2,DG _ _ _ (by decide+kernel),λH3 s3=>⟨_,rfl,fO (λh3=>?_) λh3=>?_⟩⟩
  ·obtain⟨kk,hk⟩:=rH (DV h3)
   have hm2:2<m:=by
    rcases RB 2 m with q|q
    ·exact q
    ·exfalso
     rcases Gm (b2 q)with z|z
     ·rw[z,Ow]at h3
      cases h3
     ·have:=b2 q
      omega
   refine⟨_,λ_ _ h=>h,_,rfl,_,_,rfl,rfl,.inl ⟨by decide,by decide⟩,_,rfl,x,dx,_,rfl,s3 _ _ e2,rfl,x,dx,g,ns,n',fG,rfl,(R.ex s2 e2).same s3,?_⟩;rw[hk];intro H4 s4 e4;refine⟨_,_,rfl,rfl,m-1,by omega,n'+1,10*l+(kk:Nat),rfl,by omega,by omega,λq=>by omega,λq=>?_,λq=>?_,λq=>?_,(s2.trans s3.ex).trans s4,e4,?_⟩
   ·have:=b5 (by omega);omega
   ·have:=b4 (by omega);omega
   ·have:=b3 (by omega);omega
   ·rw[hs]
    obtain⟨m',rfl⟩:∃m',m=m'+1:=⟨m-1,by omega⟩;show(if bd (gb fG none (some (yY l))) ns n'=true then(match aW fG ns n' with
     |.ok (.int d,m)=>gA ns m' (10*l+d) m
     |.ok (_,m)=>.error m
     |.error e=>.error e)else .ok (.int l,n'))=_
    rw[Pz h3,hk];rfl
  ·have e:gA ns m l n'=.ok (.int l,n'):=by
    cases m with
    |zero=>rfl
    |succ m'=>
     show(if bd (gb fG none (some (yY l))) ns n'=true then _ else Except.ok (V.int l,n'))=_;rw[Py (by rw[h3];exact PM)]
   rw[hs,e]at k;exact⟨_,rfl,k H3 (s2.trans s3.ex) (s3 _ _ e2)⟩
def manyN(left:Int)(ns:List Int)(n:Nat):Except Nat (V×Nat):=match aW (gb fG (some 1) (some (left+1))) ns n with
 |.error e=>.error e
 |.ok (.int d,m)=>if 0<=left-10*(1+d)/\bd (gb fG none (some (left-10*(1+d)+1))) ns m=true then(match aW fG ns m with
   |.error e=>.error e
   |.ok (.int d2,m2)=>.ok (.int (10*(1+d)+d2),m2)
   |.ok (_,m2)=>.error m2)else .ok (.int (1+d),m)
 |.ok (_,m)=>.error m
inductive G0(K:PB)(a:Ad)(vs:List V)(H:Hp)(Q:VK)(E:XK):Prop
 |mk (x dx g:Addr) (ns:List Int) (n:Nat) (left:Int) (_:vs=[.ref x,.int left]) (_:fI K a H x dx g ns n) (_:B4 a x dx g H (manyN left ns n) Q E):G0 K a vs H Q E
theorem ku:az ["reader","left","many","more"] ["reader","left"] (aj (top 55)):=aR
theorem Ab(T:Tx K mg a):a4 P w K mg base (cW P w) 4 a.jR a.uI ["reader","left"] (G0 K a):=by
 refine T.jR.F.oO ku λcdv A outer s H vs Q E hr h=>?_;obtain⟨x,dx,g,ns,n,left,rfl,R,k⟩:=h
 exists aB (e_ 2 ku.nd (bv gN aw (je (pv 0) T.aC T.aV (a8 T) hr ay.passes (aa (oS Do (CF T.jU) (l_ aw) (l_ (bv gN (pv 1) aw))) ae)))) (aB (e_ 3 ku.nd (bv nZ (pv 1) (bv oW aw (pv 2)))) (aB (bE (PW.pt (gM (aI zj (pv 3) aw (aJ _)) (fc (dD (je (pv 0) T.aC T.bT (eU T) hr aK (aa (oS Do (CF T.jU) DQ (l_ (bv gN (pv 3) aw))) ae)))))) (aF (e_ 2 ku.nd (bv gN (bv oW aw (pv 2)) (je (pv 0) T.aC T.aV (a8 T) hr ay.passes (aa (CF T.jU) ae))))) aX) (aF (aE (pv 2)))))
 refine⟨_,rfl,x,dx,_,rfl,R.ins,rfl,_,rfl,_,rfl,_,_,rfl,rfl,_,rfl,_,rfl,(by show(10:Nat)<=sizeLine;decide),x,dx,g,ns,n,gb fG (some 1) (some (left+1)),rfl,R,?_⟩;unfold manyN at k;cases h1:aW (gb fG (some 1) (some (left+1))) ns n with
 |error m=>
  rw[h1]at k;exact k
 |ok p=>
  obtain⟨d,rfl,_⟩:=dR h1;rw[h1]at k;replace k:B4 a x dx g H (if 0<=left-10*(1+((d:Nat):Int))/\bd (gb fG none (some (left-10*(1+((d:Nat):Int))+1))) ns (n+1)=true then(match aW fG ns (n+1)with
   |.error e=>.error e
   |.ok (.int d2,m2)=>.ok (.int (10*(1+((d:Nat):Int))+d2),m2)
   |.ok (_,m2)=>.error m2)else .ok (.int (1+((d:Nat):Int)),n+1)) Q E:=k
  intro H1 s1 e1;have R1':=R.ex s1 e1;refine⟨_,_,rfl,rfl,_,rfl,_,rfl,_,_,rfl,rfl,.inl ⟨by decide,by decide⟩,_,_,rfl,rfl,?_⟩;refine⟨_,rfl,_,_,rfl,rfl,_,rfl,gB (λh2=>?_) λh2=>?_⟩
  ·have h2:0<=left-10*(1+((d:Nat):Int)):=PR h2
   refine⟨_,rfl,x,dx,_,rfl,e1,rfl,_,rfl,_,_,rfl,rfl,_,rfl,_,rfl,(by show(10:Nat)<=sizeLine;decide),x,dx,g,ns,n+1,gb fG none (some (left-10*(1+((d:Nat):Int))+1)),rfl,R1',DG _ _ _ (by decide+kernel),λH3 s3=>⟨_,rfl,fO (λh3=>?_) λh3=>?_⟩⟩
   ·rw[Pz ⟨h2,h3⟩]at k
    obtain⟨kk,hk⟩:=rH (DV h3);refine⟨_,rfl,_,_,rfl,rfl,.inl ⟨by decide,by decide⟩,_,rfl,x,dx,_,rfl,s3 _ _ e1,rfl,x,dx,g,ns,n+1,fG,rfl,R1'.same s3,?_⟩;rw[hk]at k ⊢;intro H4 s4 e4;exact⟨_,_,rfl,rfl,_,rfl,k H4 ((s1.trans s3.ex).trans s4) e4⟩
   ·rw[Py (λq=>by rw[q.2]at h3;cases h3)]at k
    exact⟨_,rfl,k H3 (s1.trans s3.ex) (s3 _ _ e1)⟩
  ·have h2:¬0<=left-10*(1+((d:Nat):Int)):=λq=>h2 (PJ q)
   rw[Py (λq=>h2 q.1)]at k;exact⟨_,rfl,k H1 s1 e1⟩
def KB(p q:Addr)(z:Str)(t:Int):List (Str×V):=[("pieces",.ref p),("places",.ref q),("signs",.str z),("turn",.int t)]
structure iM(a:Ad)(H:Hp)(x dx p q:Addr)(ps qs:List Int)(z:Str)(t:Int):Prop where
 ins:H x=some (.ins a.bu dx (KB p q z t))
 Fy:H p=some (.lst (ps.map V.int))
 FJ:H q=some (.lst (qs.map V.int))
 ne:p≠q
inductive Cm(a:Ad)(vs:List V)(H:Hp)(Q:VK)(E:XK):Prop
 |mk (x dx:Addr) (_:vs=[.ref x]) (_:H x=some (.ins a.bu dx [])) (_:∀H' p q,Ex x H H'->H p=none->H q=none->iM a H' x dx p q [] [] "hmK" 0->Q .eB H'):Cm a vs H Q E
theorem sZ:az ["self"] ["self"] (aj (inClass (top 54) 0)):=aR
theorem tp(T:Tx K mg a):a4 P w K mg base (cW P w) 1 a.dh a.nJ ["self"] (Cm a):=by
 refine T.dh.F.kP sZ λcdv A outer s H vs Q E hr h=>?_;obtain⟨x,dx,rfl,hx,k⟩:=h
 exists aB (a5 (pv 0) (cb ae) rfl) (aB (a5 (pv 0) (cb ae) rfl) (aB (a5 (pv 0) a9 rfl) (aF (a5 (pv 0) aw rfl))))
 refine⟨QG _,λp hp=>?_⟩;have px:x≠p:=ak hx hp;refine⟨_,rfl,x,_,dx,_,rfl,(by rw[ai px];exact hx),T.bA.cl,T.dw,(by decide),?_⟩;refine⟨QG _,λq hq=>?_⟩;have qx:q≠x:=λz=>by rw[z,ah]at hq;cases hq
 rw[ai qx]at hq;have qp:q≠p:=λz=>by rw[z,ah]at hq;cases hq
 rw[ai qp]at hq;refine⟨_,rfl,x,_,dx,_,rfl,(by rw[ai (PZ qx),ah]),T.bA.cl,T.eX,(by show 1<1000;decide),?_⟩;refine⟨_,rfl,x,_,dx,_,rfl,ah,T.bA.cl,T.iN,(by show 2<1000;decide),?_⟩;refine⟨_,rfl,x,_,dx,_,rfl,ah,T.bA.cl,T.jy,(by show 3<1000;decide),?_⟩;refine k _ p q (λb o e nb=>?_) hp hq ⟨ah,?_,?_,PZ qp⟩
 ·rw[ai nb,ai nb,ai nb,ai (ak e hq),ai nb,ai (ak e hp)]
  exact e
 ·rw[ai (PZ px),ai (PZ px),ai (PZ px),ai (PZ qp),ai (PZ px),ah]
  rfl
 ·rw[ai qx,ai qx,ai qx,ah]
  rfl
def Fx(l:List Addr)(H H':Hp):Prop:=∀b o,H b=some o->b∉l->H' b=some o
theorem Fx.refl{l:List Addr}{H:Hp}:Fx l H H:=λ_ _ h _=>h
theorem Fx.trans{l:List Addr}{H H1 H2:Hp}(p:Fx l H H1)(q:Fx l H1 H2):Fx l H H2:=λb o h n=>q b o (p b o h n) n
theorem Fx.mono{l l':List Addr}{H H1:Hp}(p:Fx l H H1)(k:∀b∈l,b∈l'):Fx l' H H1:=λb o h n=>p b o h λz=>n (k b z)
theorem Ex.fx{x:Addr}{l:List Addr}{H H1:Hp}(p:Ex x H H1)(h:x∈l):Fx l H H1:=λb o q n=>p b o q λz=>n (z▸h)
theorem _root_.L2.aD.fx{l:List Addr}{H H1:Hp}(p:aD H H1):Fx l H H1:=λb o h _=>p b o h
theorem Fx.set{l:List Addr}{H:Hp}{b:Addr}{o:HO}(h:b∈l):Fx l H (upd H b o):=λc u q n=>by
 rw[ai (λz=>n (by rw[z];exact h))];exact q
def nF:HO->Nat
 |.ins _ _ fs=>fs.length
 |_=>0
def ic(a:Ad)(l:List Addr)(H:Hp)(n:Nat)(E:XK):Prop:=∀(H':Hp)(e d:Addr),Fx l H H'->H' e=some (XO e a.fe (some d) true)->H' d=some (XD d [("place",.int n)])->E (.ref a.fe) (some e) H'
theorem ic.after{l:List Addr}{H H1:Hp}{n:Nat}{E:XK}(h:ic a l H n E)(e:Fx l H H1):ic a l H1 n E:=λH' c d q=>h H' c d (e.trans q)
theorem ic.e{l:List Addr}{x:Addr}{H:Hp}{n:Nat}{E:XK}(h:ic a l H n E)(m:x∈l):fJ a x H n E:=λH' c d q=>h H' c d (q.fx m)
theorem iM.I_{H:Hp}{x dx p q:Addr}{ps qs:List Int}{z:Str}{t:Int}(L:iM a H x dx p q ps qs z t):x≠p/\x≠q:=⟨bf L.ins L.Fy (λz=>nomatch z),bf L.ins L.FJ (λz=>nomatch z)⟩
theorem iM.fx{H H':Hp}{x dx p q:Addr}{ps qs:List Int}{z:Str}{t:Int}{l:List Addr}(L:iM a H x dx p q ps qs z t)(f:Fx l H H')(h1:x∉l)(h2:p∉l)(h3:q∉l):iM a H' x dx p q ps qs z t:=⟨f _ _ L.ins h1,f _ _ L.Fy h2,f _ _ L.FJ h3,L.ne⟩
inductive HI(a:Ad)(vs:List V)(H:Hp)(Q:VK)(E:XK):Prop
 |mk (x dx p q:Addr) (ps qs:List Int) (z:Str) (t:Int) (m:Nat) (_:vs=[.ref x,.int (m:Nat)]) (_:iM a H x dx p q ps qs z t) (_:m<=1000) (_:ps.length<=1000) (_:qs.length<=1000) (_:∀H',Fx [p,q] H H'->iM a H' x dx p q (ps++List.replicate m 0) (qs++List.replicate m 0) z t->Q .eB H'):HI a vs H Q E
theorem BL(ps:List Int)(i:Nat):(ps++List.replicate i (0:Int)).map V.int++[V.int 0]=(ps++List.replicate (i+1) 0).map V.int:=by
 rw[Se,<-QH,Qg (l₁:=ps++List.replicate i 0)];rfl
theorem ii:az ["self","many","cell"] ["self","many"] (aj (inClass (top 54) 1)):=aR
theorem mW(T:Tx K mg a):a4 P w K mg base (cW P w) 1 a.ck a.iR ["self","many"] (HI a):=by
 refine T.ck.F.kP ii λcdv A outer s H vs Q E hr h=>?_;obtain⟨x,dx,p,q,ps,qs,z,t,m,rfl,L,hm,hp,hq,k⟩:=h;obtain⟨xp,xq⟩:=L.I_
 exists aF (dI QS rfl (dP rfl T.g8 (aa (pv 1) ae)) (kT 2 ii.nd) (aB (aZ (jg Qy QV QW gm (au (pv 0) rfl) (aa (mL T.iF) ae))) (aF (aZ (jg Qy QV QW gm (au (pv 0) rfl) (aa aw ae))))))
 refine⟨_,rfl,_,rfl,(by omega),(by omega),mX (n:=m) (λi σ H'=>(∃u,σ=[some (.ref x),some (.int (m:Nat)),u])/\Fx [p,q] H H'/\iM a H' x dx p q (ps++List.replicate i 0) (qs++List.replicate i 0) z t) ⟨⟨_,rfl⟩,Fx.refl,by simpa using L⟩ (λi σ H1 hi⟨⟨u,e⟩,f1,L1⟩=>?_) λσ H1⟨⟨u,e⟩,f1,L1⟩=>?_⟩
 ·subst e
  refine⟨_,rfl,x,_,_,_,_,rfl,L1.ins,T.bA.cl,T.dw,rfl,.inl ⟨rfl,_,a0.of L1.Fy⟩,p,_,_,rfl,rfl,L1.Fy,(by rw[Px,P0,Qx,PL];omega),?_⟩;have L2q:upd H1 p (.lst ((ps++List.replicate i 0).map V.int++[V.int 0])) q=some (.lst ((qs++List.replicate i 0).map V.int)):=by rw[ai (PZ L1.ne)];exact L1.FJ
  have L2x:upd H1 p (.lst ((ps++List.replicate i 0).map V.int++[V.int 0])) x=some (.ins a.bu dx (KB p q z t)):=by rw[ai xp];exact L1.ins
  refine⟨_,rfl,x,_,_,_,_,rfl,L2x,T.bA.cl,T.eX,rfl,.inl ⟨rfl,_,a0.of L2q⟩,q,_,_,rfl,rfl,L2q,(by rw[Px,P0,Qx,PL];omega),?_⟩;refine⟨⟨_,rfl⟩,(f1.trans (Fx.set (by simp))).trans (Fx.set (by simp)),?_,?_,?_,L1.ne⟩
  ·rw[ai xq,ai xp]
   exact L1.ins
  ·rw[ai L1.ne,ah,BL]
  ·rw[ah,BL]
 ·exact k H1 f1 L1
def putN(z:Str)(ns:List Int)(n:Nat):Except Nat (Int×Nat):=match cK z ns n with
 |some k=>.ok (1+(k:Nat),n+1)
 |none=>.error n
inductive GL(K:PB)(a:Ad)(vs:List V)(H:Hp)(Q:VK)(E:XK):Prop
 |mk (x dx p q:Addr) (ps qs:List Int) (z:Str) (t:Int) (r rx g:Addr) (ns:List Int) (n:Nat) (_:vs=[.ref x,.ref r]) (_:iM a H x dx p q ps qs z t) (_:fI K a H r rx g ns n) (_:g≠p) (_:g≠q) (_:ps.length<=1000) (_:qs.length<=1000) (_:(match putN z ns n with
  |.ok (v,n')=>∀H',Fx [x,p,q,r] H H'->iM a H' x dx p q (ps++[v]) (qs++[(n:Int)]) (if v=3 then"hm" else z) t->fI K a H' r rx g ns n'->Q .eB H'
  |.error m=>ic a [x,p,q,r] H m E)):GL K a vs H Q E
theorem t9:az ["self","reader"] ["self","reader"] (aj (inClass (top 54) 2)):=aR
theorem ub(T:Tx K mg a):a4 P w K mg base (cW P w) 4 a.fi a.oF ["self","reader"] (GL K a):=by
 refine T.fi.F.oO t9 λcdv A outer s H vs Q E hr h=>?_;obtain⟨x,dx,p,q,ps,qs,z,t,r,rx,g,ns,n,rfl,L,R,gp,gq,hp,hq,k⟩:=h;obtain⟨xp,xq⟩:=L.I_;have rp:r≠p:=bf R.ins L.Fy λz=>nomatch z;have rq:r≠q:=bf R.ins L.FJ λz=>nomatch z;have rx':r≠x:=bf R.ins L.ins λz=>absurd (QI nF z) (by show¬2=4;decide)
 exists aB (aZ (jg Qy QV QW gm (au (pv 0) rfl) (aa (au (pv 1) rfl) ae))) (aB (aZ (jg Qy QV QW gm (au (pv 0) rfl) (aa (bv gN aw (je (pv 1) T.aC T.aV (a8 T) hr ay.passes (aa (au (pv 0) rfl) ae))) ae))) (aF (bE (aI bO (bj a_ (au (pv 0) rfl) (oE jZ aw) (λ_ _=>rfl)) (mL T.j0) (aJ _)) (aF (a5 (pv 0) a9 rfl)) aX)))
 refine⟨_,rfl,x,_,_,_,_,rfl,L.ins,T.bA.cl,T.eX,rfl,.inl ⟨rfl,_,a0.of L.FJ⟩,_,rfl,r,_,_,_,_,rfl,R.ins,T.aC.cl,T.bI,rfl,q,_,_,rfl,rfl,L.FJ,(by rw[Px,PL];omega),?_⟩;generalize hH1:upd H q (.lst (qs.map V.int++[V.int n]))=H1;have i1:H1 x=some (.ins a.bu dx (KB p q z t)):=by rw[<-hH1,ai xq];exact L.ins
 have i2:H1 p=some (.lst (ps.map V.int)):=by rw[<-hH1,ai L.ne];exact L.Fy
 have i3:H1 q=some (.lst ((qs++[(n:Int)]).map V.int)):=by rw[<-hH1,ah,Qg];rfl
 have f1:Fx [x,p,q,r] H H1:=by rw[<-hH1];exact Fx.set (by simp)
 have R1':fI K a H1 r rx g ns n:=by
  exact⟨by rw[<-hH1,ai rq];exact R.ins,by rw[<-hH1,ai gq];exact R.gv⟩
 refine⟨_,rfl,x,_,_,_,_,rfl,i1,T.bA.cl,T.dw,rfl,.inl ⟨rfl,_,a0.of i2⟩,_,rfl,r,rx,_,rfl,R1'.ins,rfl,_,rfl,x,_,_,_,_,rfl,i1,T.bA.cl,T.iN,rfl,r,rx,g,ns,n,z,rfl,R1',?_⟩;unfold aW;unfold putN at k;cases hk:cK z ns n with
 |none=>
  rw[hk]at k;exact(ic.after k f1).e (by simp)
 |some j=>
  rw[hk]at k;replace k:∀H',Fx [x,p,q,r] H H'->iM a H' x dx p q (ps++[1+((j:Nat):Int)]) (qs++[(n:Int)]) (if 1+((j:Nat):Int)=3 then"hm" else z) t->fI K a H' r rx g ns (n+1)->Q .eB H':=k;intro H2 s2 e2;have j1:=s2 _ _ i1 (PZ rx');have j2:=s2 _ _ i2 (PZ rp);have j3:=s2 _ _ i3 (PZ rq);have R2:=R1'.ex s2 e2;refine⟨_,_,rfl,rfl,p,_,_,rfl,rfl,j2,(by rw[Px,PL];omega),?_⟩;generalize hH3:upd H2 p (.lst (ps.map V.int++[V.int (1+((j:Nat):Int))]))=H3;have k1:H3 x=some (.ins a.bu dx (KB p q z t)):=by rw[<-hH3,ai xp];exact j1
  have k2:H3 p=some (.lst ((ps++[1+((j:Nat):Int)]).map V.int)):=by rw[<-hH3,ah,Qg];rfl
  have k3:H3 q=some (.lst ((qs++[(n:Int)]).map V.int)):=by rw[<-hH3,ai (PZ L.ne)];exact j3
  have f3:Fx [x,p,q,r] H H3:=by rw[<-hH3];exact(f1.trans (s2.fx (by simp))).trans (Fx.set (by simp))
  have R3:fI K a H3 r rx g ns (n+1):=by
   exact⟨by rw[<-hH3,ai rp];exact e2,by rw[<-hH3,ai gp];exact R2.gv⟩
  have last:B7 ((ps++[1+((j:Nat):Int)]).map V.int) (-1)=some (V.int (1+((j:Nat):Int))):=by
   unfold B7 Ix;rw[Py (by decide),Pz (by rw[Px,P0,QF];omega)];have e:((-1:Int)+(((ps++[1+((j:Nat):Int)]).map V.int).length:Nat)).toNat=ps.length:=by
    rw[Px,P0,QF];omega
   rw[QT,e,Qg];simp
  refine⟨_,rfl,x,_,_,_,_,rfl,k1,T.bA.cl,T.dw,rfl,_,rfl,p,_,_,_,rfl,rfl,a0.of k2,last,rfl,_,rfl,dG (λh3=>?_) λh3=>?_⟩
  ·refine⟨_,rfl,x,_,dx,_,rfl,k1,T.bA.cl,T.iN,(by show 4<1000;decide),?_⟩
   refine k _ (f3.trans (Fx.set (by simp))) ⟨?_,?_,?_,L.ne⟩ ⟨?_,?_⟩
   ·rw[ah,Pz h3]
    rfl
   ·rw[ai (PZ xp)]
    exact k2
   ·rw[ai (PZ xq)]
    exact k3
   ·rw[ai rx']
    exact R3.ins
   ·rw[ai (bf R3.gv k1 λz=>nomatch z)]
    exact R3.gv
  ·refine k H3 f3 ⟨?_,k2,k3,L.ne⟩ R3
   rw[Py h3];exact k1
theorem iC{z:Str}{ns:List Int}{n k:Nat}(h:cK z ns n=some k):k<z.cps.toList.length/\∃c,z.cps.toList[k]? =some c/\ns[n]? =some (c:Int):=by
 unfold cK at h;cases hb:ns[n]? with
 |none=>rw[hb]at h;cases h
 |some b=>
  rw[hb]at h;obtain⟨hk,e,_⟩:=List.findIdx?_eq_some_iff_getElem.mp h;exact⟨hk,_,PD hk,by rw[PR e]⟩
theorem Ib{d c:Nat}(h:fG.cps.toList[d]? =some c):c=48+d/\d<10:=by
 have hd:d<10:=by
  have:=(PQ.mp h).1;exact this
 have all:∀d:Fin 10,fG.cps.toList[(d:Nat)]? =some (48+(d:Nat)):=by decide+kernel
 have q:=all ⟨d,hd⟩;rw[show((⟨d,hd⟩:Fin 10):Nat)=d from rfl,h]at q;exact⟨Qk q,hd⟩
theorem GV{t:Nat}{c:Nat}(h:c∈(gb fG none (some (t:Int))).cps.toList):∃d,d<t/\d<10/\c=48+d:=by
 unfold gb at h;rw[RW,HT.GP,HT.qi,List.drop_zero]at h;obtain⟨d,hd,e⟩:=Ro h;rw[Qt]at hd;rw[List.getElem_take]at e;have q:fG.cps.toList[d]? =some c:=by rw[PD (by omega),e]
 obtain⟨q1,q2⟩:=Ib q;exact⟨d,by omega,q2,q1⟩
theorem lM{left:Nat}{ns:List Int}{n n':Nat}{v:V}(h:manyN (left:Int) ns n=.ok (v,n')):∃m:Nat,v=.int (m:Nat)/\1<=m/\m<=left:=by
 unfold manyN at h;cases h1:aW (gb fG (some 1) (some ((left:Int)+1))) ns n with
 |error e=>rw[h1]at h;cases h
 |ok p=>
  obtain⟨d,rfl,hd⟩:=dR h1;rw[h1]at h;have hd1:1+d<=left:=by
   have:=(iC hd).1;unfold gb at this;rw[RW,Qt,Rw]at this;have e1:HT.jV fG.length 0 (some 1)=1:=by decide+kernel
   have e2:HT.jV fG.length fG.length (some ((left:Int)+1))<=left+1:=by
    have e:((left:Int)+1)=((left+1:Nat):Int):=by omega
    rw[e,HT.qi];omega
   omega
  replace h:(if 0<=(left:Int)-10*(1+((d:Nat):Int))/\bd (gb fG none (some ((left:Int)-10*(1+((d:Nat):Int))+1))) ns (n+1)=true then(match aW fG ns (n+1)with
    |.error e=>.error e
    |.ok (.int d2,m2)=>.ok (.int (10*(1+((d:Nat):Int))+d2),m2)
    |.ok (_,m2)=>.error m2)else .ok (.int (1+((d:Nat):Int)),n+1))=Except.ok (v,n'):=h
  by_cases hc:0<=(left:Int)-10*(1+((d:Nat):Int))/\bd (gb fG none (some ((left:Int)-10*(1+((d:Nat):Int))+1))) ns (n+1)=true
  ·rw[Pz hc]at h
   cases h2:aW fG ns (n+1)with
   |error e=>rw[h2]at h;cases h
   |ok p2=>
    obtain⟨d2,rfl,hd2⟩:=dR h2;rw[h2]at h;cases h;obtain⟨_,c,hc1,hc2⟩:=iC hd2;obtain⟨e1,e2⟩:=Ib hc1;obtain⟨c',hm,e3⟩:=QR.mp hc.2;have e3:ns[n+1]? =some (c':Int):=eq_of_beq e3;rw[hc2]at e3;have e4:(c:Int)=(c':Int):=Qk e3;have et:(left:Int)-10*(1+((d:Nat):Int))+1=((left-10*(1+d)+1:Nat):Int):=by have:=hc.1;omega
    rw[et]at hm;obtain⟨d',q1,q2,q3⟩:=GV hm;refine⟨10*(1+d)+d2,?_,by omega,?_⟩
    ·congr 1
    ·have:=hc.1
     omega
  ·rw[Py hc]at h
   cases h;exact⟨1+d,by congr 1,by omega,hd1⟩
def eI(ns:List Int):Nat->Nat->Bool->List Int->List Int->Str->Nat->Except Nat (List Int×List Int×Str×Nat)
 |0,_,_,_,_,_,n=>.error n
 |f+1,left,beh,ps,qs,z,n=>if left=0 then .ok (ps,qs,z,n)else
  if beh=false/\bd fG ns n=true then(match manyN (left:Int) ns n with
   |.error e=>.error e
   |.ok (.int m,n')=>eI ns f (left-m.toNat) true (ps++List.replicate m.toNat 0) (qs++List.replicate m.toNat 0) z n'
   |.ok (_,n')=>.error n')
  else match putN z ns n with
   |.error e=>.error e
   |.ok (v,n')=>eI ns f (left-1) false (ps++[v]) (qs++[(n:Int)]) (if v=3 then"hm" else z) n'
theorem qj(ns:List Int):∀(left f f':Nat)(beh:Bool)(ps qs:List Int)(z:Str)(n:Nat),left<f->left<f'->eI ns f left beh ps qs z n=eI ns f' left beh ps qs z n:=by
 intro left
 induction left using Nat.strongRecOn with
 |_ left ih=>
  intro f f' beh ps qs z n h1 h2;obtain⟨f,rfl⟩:∃k,f=k+1:=⟨f-1,by omega⟩;obtain⟨f',rfl⟩:∃k,f'=k+1:=⟨f'-1,by omega⟩;unfold eI
  by_cases h0:left=0
  ·rw[Pz h0,Pz h0]
  ·rw[Py h0,Py h0]
   by_cases hb:beh=false/\bd fG ns n=true
   ·rw[Pz hb,Pz hb]
    cases hm:manyN (left:Int) ns n with
    |error e=>rfl
    |ok p=>
     obtain⟨v,n'⟩:=p;obtain⟨m,rfl,m1,m2⟩:=lM hm;exact ih (left-m) (by omega) f f' _ _ _ _ _ (by omega) (by omega)
   ·rw[Py hb,Py hb]
    cases hm:putN z ns n with
    |error e=>rfl
    |ok p=>exact ih (left-1) (by omega) f f' _ _ _ _ _ (by omega) (by omega)
inductive Im(K:PB)(a:Ad)(vs:List V)(H:Hp)(Q:VK)(E:XK):Prop
 |mk (x dx p q:Addr) (ps qs:List Int) (z:Str) (t:Int) (r rx g:Addr) (ns:List Int) (n wide:Nat) (_:vs=[.ref r,.int (wide:Nat),.ref x]) (_:iM a H x dx p q ps qs z t) (_:fI K a H r rx g ns n) (_:g≠p) (_:g≠q) (_:wide<=500) (_:ps.length+wide<=500) (_:qs.length+wide<=500) (_:(match eI ns (wide+1) wide false ps qs z n with
  |.ok (ps',qs',z',n')=>∀H',Fx [x,p,q,r] H H'->iM a H' x dx p q ps' qs' z' t->fI K a H' r rx g ns n'->Q .eB H'
  |.error m=>ic a [x,p,q,r] H m E)):Im K a vs H Q E
theorem fI.fx{H H':Hp}{r rx g:Addr}{ns:List Int}{n:Nat}{l:List Addr}(R:fI K a H r rx g ns n)(f:Fx l H H')(h1:r∉l)(h2:g∉l):fI K a H' r rx g ns n:=by
 exact⟨f _ _ R.ins h1,f _ _ R.gv h2⟩
theorem GO{H:Hp}{r rx g x dx p q:Addr}{ns ps qs:List Int}{n:Nat}{z:Str}{t:Int}(R:fI K a H r rx g ns n)(L:iM a H x dx p q ps qs z t):r≠x/\r≠p/\r≠q:=⟨bf R.ins L.ins (λz=>absurd (QI nF z) (by show¬2=4;decide)),bf R.ins L.Fy (λz=>nomatch z),bf R.ins L.FJ (λz=>nomatch z)⟩
theorem eN:az ["reader","wide","draft","left","behind_number","many"] ["reader","wide","draft"] (aj (top 56)):=aR
theorem Cq(T:Tx K mg a):a4 P w K mg base (cW P w) 5 a.lL a.yf ["reader","wide","draft"] (Im K a):=by
 refine T.lL.F.oO eN λcdv A outer s H vs Q E hr h=>?_;obtain⟨x,dx,p,q,ps,qs,z,t,r,rx,g,ns,n,wide,rfl,L,R,gp,gq,hw,hp,hq,k⟩:=h
 exists aB (e_ 3 eN.nd (pv 1)) (aB (e_ 4 eN.nd qT) (aF (jE QO (aI oC (pv 3) aw (aJ _)) (aF (bE (PW.pt (gM (lK (dD (pv 4))) (fc (dD (je (pv 0) T.aC T.bT (eU T) hr aK (aa (CF T.jU) ae)))))) (aB (e_ 5 eN.nd (dm T.jR (Ab T) hr ay.passes (aa (pv 0) (aa (pv 3) ae)))) (aB (aZ (je (pv 2) T.bA T.ck (mW T) hr aK (aa (pv 5) ae))) (aB (Gx 3 eN.nd (pv 5) HE) (aF (e_ 4 eN.nd qT))))) (aB (aZ (je (pv 2) T.bA T.fi (ub T) hr ay.passes (aa (pv 0) ae))) (aB (Gx 3 eN.nd aw HE) (aF (e_ 4 eN.nd qT)))))))))
 refine⟨_,rfl,?_⟩;refine⟨λm σ H'=>∃beh ps' qs' z' n' u,σ=[some (.ref r),some (.int (wide:Nat)),some (.ref x),some (.int (m:Nat)),some (.bl beh),u]/\m<=500/\ps'.length+m<=500/\qs'.length+m<=500/\Fx [x,p,q,r] H H'/\iM a H' x dx p q ps' qs' z' t/\fI K a H' r rx g ns n'/\eI ns (wide+1) wide false ps qs z n=eI ns (m+1) m beh ps' qs' z' n',⟨wide,false,ps,qs,z,n,_,rfl,hw,hp,hq,Fx.refl,L,R,rfl⟩,?_⟩
 rintro m σ H1 ⟨beh,ps',qs',z',n',u,rfl,bm,bp,bq,f1,L1,R1',hs⟩
 obtain⟨n1,n2',n3⟩:=GO R1' L1;obtain⟨xp,xq⟩:=L1.I_;refine⟨_,rfl,_,_,rfl,rfl,_,rfl,gB (λh2=>?_) λh2=>?_⟩
 ·have hm:m≠0:=by have:=PR h2;omega
  refine⟨_,λ_ _ h=>h,?_⟩;have step:eI ns (m+1) m beh ps' qs' z' n'=(if beh=false/\bd fG ns n'=true then(match manyN (m:Int) ns n' with
    |.error e=>.error e
    |.ok (.int d,n2)=>eI ns m (m-d.toNat) true (ps'++List.replicate d.toNat 0) (qs'++List.replicate d.toNat 0) z' n2
    |.ok (_,n2)=>.error n2)
   else match putN z' ns n' with
    |.error e=>.error e
    |.ok (v,n2)=>eI ns m (m-1) false (ps'++[v]) (qs'++[(n':Int)]) (if v=3 then"hm" else z') n2):=by
   conv=>lhs;unfold eI
   rw[Py hm]
  rw[hs,step]at k;have put_ok:∀H2,aD H1 H2->¬(beh=false/\bd fG ns n'=true)->∀Q':VK,(∀H3 v n2,Fx [x,p,q,r] H H3->iM a H3 x dx p q (ps'++[v]) (qs'++[(n':Int)]) (if v=3 then"hm" else z') t->fI K a H3 r rx g ns n2->
    eI ns (wide+1) wide false ps qs z n=eI ns (m-1+1) (m-1) false (ps'++[v]) (qs'++[(n':Int)]) (if v=3 then"hm" else z') n2->Q' .eB H3)->GL K a [.ref x,.ref r] H2 Q' E:=by
   intro H2 s2 hc Q' hQ;rw[Py hc]at k step;refine⟨x,dx,p,q,ps',qs',z',t,r,rx,g,ns,n',rfl,L1.fx (l:=[]) s2.fx (by simp) (by simp) (by simp),R1'.same s2,gp,gq,by omega,by omega,?_⟩;cases hp:putN z' ns n' with
   |error e=>
    rw[hp]at k;exact ic.after k (f1.trans s2.fx)
   |ok pr=>
    obtain⟨v,n2⟩:=pr;rw[hp]at step;intro H3 f3 L3 R3;refine hQ H3 v n2 ((f1.trans s2.fx).trans f3) L3 R3 ?_;rw[hs,step];exact qj ns (m-1) m (m-1+1) _ _ _ _ _ (by omega) (by omega)
  have em1:((m:Nat):Int)-1=((m-1:Nat):Int):=by omega
  have lens:∀(l:List Int)(v:Int),l.length+m<=500->(l++[v]).length+(m-1)<=500:=λl v h=>by rw[P0,QF];omega
  refine⟨_,rfl,_,rfl,fO (λh3=>?_) λh3=>?_⟩
  ·have hb:beh=false:=by simpa using h3
   subst hb;refine⟨_,rfl,r,rx,_,rfl,R1'.ins,rfl,r,rx,g,ns,n',fG,rfl,R1',(by decide+kernel),λH2 s2=>⟨_,rfl,fO (λh4=>?_) λh4=>?_⟩⟩
   ·rw[Pz ⟨rfl,h4⟩]at k step
    refine⟨_,rfl,_,rfl,r,rx,g,ns,n',(m:Int),rfl,R1'.same s2,?_⟩;cases hmm:manyN (m:Int) ns n' with
    |error e=>
     rw[hmm]at k;exact(ic.after k (f1.trans s2.fx)).e (by simp)
    |ok pr=>
     obtain⟨v,n2⟩:=pr;obtain⟨d,rfl,d1,d2⟩:=lM hmm;rw[hmm]at step;replace step:eI ns (m+1) m false ps' qs' z' n'=eI ns m (m-d) true (ps'++List.replicate d 0) (qs'++List.replicate d 0) z' n2:=step;intro H3 s3 e3;have L2':=L1.fx (l:=[]) s2.fx (by simp) (by simp) (by simp);have L3:iM a H3 x dx p q ps' qs' z' t:=⟨s3 _ _ L2'.ins (PZ n1),s3 _ _ L2'.Fy (PZ n2'),s3 _ _ L2'.FJ (PZ n3),L1.ne⟩;have R3:=(R1'.same s2).ex s3 e3;refine⟨_,rfl,x,dx,_,rfl,L3.ins,rfl,_,rfl,x,dx,p,q,ps',qs',z',t,d,rfl,L3,by omega,by omega,by omega,λH4 f4 L4=>?_⟩;have gx:g∉[p,q]:=by simp[gp,gq]
     have rx2:r∉[p,q]:=by simp[n2',n3]
     refine⟨_,rfl,_,rfl,_,_,rfl,rfl,m-d,by omega,true,_,_,z',n2,some (V.int (d:Nat)),?_,by omega,?_,?_,((f1.trans s2.fx).trans (s3.fx (by simp))).trans (f4.mono (by simp)),L4,R3.fx f4 rx2 gx,?_⟩
     ·have em:((m:Nat):Int)-((d:Nat):Int)=((m-d:Nat):Int):=by omega
      rw[<-em];rfl
     ·rw[P0,Qx];omega
     ·rw[P0,Qx];omega
     ·rw[hs,step]
      exact qj ns (m-d) m (m-d+1) _ _ _ _ _ (by omega) (by omega)
   ·refine⟨_,rfl,x,dx,_,rfl,(L1.fx (l:=[]) s2.fx (by simp) (by simp) (by simp)).ins,rfl,_,rfl,?_⟩
    dsimp only[rQ];refine put_ok H2 s2 (λq=>by rw[q.2]at h4;cases h4) _ λH3 v n2 f3 L3 R3 e=>?_;refine⟨_,rfl,_,_,rfl,rfl,m-1,by omega,false,_,_,_,n2,u,?_,by omega,lens _ _ bp,lens _ _ bq,f3,L3,R3,e⟩;rw[<-em1];rfl
  ·have hb:beh=true:=by simpa using h3
   refine⟨_,rfl,x,dx,_,rfl,L1.ins,rfl,_,rfl,?_⟩;dsimp only[rQ];refine put_ok H1 (aD.refl _) (λq=>by rw[hb]at q;cases q.1) _ λH3 v n2 f3 L3 R3 e=>?_;refine⟨_,rfl,_,_,rfl,rfl,m-1,by omega,false,_,_,_,n2,u,?_,by omega,lens _ _ bp,lens _ _ bq,f3,L3,R3,e⟩;rw[<-em1];rfl
 ·have hm:m=0:=by
   have:¬(0:Int)<(m:Nat):=λq=>h2 (PJ q);omega
  subst hm;have e:eI ns (0+1) 0 beh ps' qs' z' n'=.ok (ps',qs',z',n'):=by
   unfold eI;rw[Pz rfl]
  rw[hs,e]at k;exact k H1 f1 L1 R1'
theorem BI(ns:List Int):∀(left f:Nat)(beh:Bool)(ps qs:List Int)(z:Str)(n:Nat)(r:List Int×List Int×Str×Nat),eI ns f left beh ps qs z n=.ok r->r.1.length=ps.length+left/\r.2.1.length=qs.length+left:=by
 intro left
 induction left using Nat.strongRecOn with
 |_ left ih=>
  intro f beh ps qs z n r h;cases f with
  |zero=>cases h
  |succ f=>
   unfold eI at h
   by_cases h0:left=0
   ·rw[Pz h0]at h
    cases h;subst h0;exact⟨rfl,rfl⟩
   ·rw[Py h0]at h
    by_cases hb:beh=false/\bd fG ns n=true
    ·rw[Pz hb]at h
     cases hm:manyN (left:Int) ns n with
     |error e=>rw[hm]at h;cases h
     |ok p=>
      obtain⟨v,n'⟩:=p;obtain⟨m,rfl,m1,m2⟩:=lM hm;rw[hm]at h;obtain⟨q1,q2⟩:=ih (left-m) (by omega) f _ _ _ _ _ r h;rw[P0,Qx]at q1 q2;have e:((m:Nat):Int).toNat=m:=by omega
      rw[e]at q1 q2;exact⟨by omega,by omega⟩
    ·rw[Py hb]at h
     cases hm:putN z ns n with
     |error e=>rw[hm]at h;cases h
     |ok p=>
      rw[hm]at h;obtain⟨q1,q2⟩:=ih (left-1) (by omega) f _ _ _ _ _ r h;rw[P0,QF]at q1 q2;exact⟨by omega,by omega⟩
def fN(ns:List Int)(wide:Nat):Nat->Bool->List Int->List Int->Str->Nat->Except Nat (List Int×List Int×Str×Nat)
 |0,_,ps,qs,z,n=>.ok (ps,qs,z,n)
 |k+1,first,ps,qs,z,n=>match(if first=true then Except.ok n else c_ ns [47] n)with
  |.error e=>.error e
  |.ok n1=>match eI ns (wide+1) wide false ps qs z n1 with
   |.error e=>.error e
   |.ok (ps',qs',z',n2)=>fN ns wide k false ps' qs' z' n2
def jp(wide high:Nat)(ns:List Int):Except Nat (List Int×List Int×Int):=match fN ns wide high true [] [] "hmK" 0 with
 |.error e=>.error e
 |.ok (ps,qs,_,n)=>match c_ ns [32] n with
  |.error e=>.error e
  |.ok n1=>match aW "hk" ns n1 with
   |.error e=>.error e
   |.ok (.int t,n2)=>if n2<ns.length then .error n2 else .ok (ps,qs,t)
   |.ok (_,n2)=>.error n2
inductive DN(K:PB)(a:Ad)(vs:List V)(H:Hp)(Q:VK)(E:XK):Prop
 |mk (r rx g:Addr) (ns:List Int) (wide high:Nat) (_:vs=[.int (wide:Nat),.int (high:Nat),.ref r]) (_:fI K a H r rx g ns 0) (_:wide<=13) (_:high<=13) (_:(match jp wide high ns with
  |.ok (ps,qs,t)=>∀H' x dx p q z,Ex r H H'->iM a H' x dx p q ps qs z t->Q (.ref x) H'
  |.error m=>fJ a r H m E)):DN K a vs H Q E
theorem gO:az ["wide","high","reader","draft","row"] ["wide","high","reader"] (aj (top 57)):=aR
theorem qL(T:Tx K mg a):a4 P w K mg base (cW P w) 6 a.dn a.kM ["wide","high","reader"] (DN K a):=by
 refine T.dn.F.oO gO λcdv A outer s H vs Q E hr h=>?_;obtain⟨r,rx,g,ns,wide,high,rfl,R,bw,bh,k⟩:=h
 exists aB (e_ 3 gO.nd (Bn T.BM (tp T) (hr.mono (by decide)) rfl T.bA.m T.dh.b .nil aK)) (aB (dI QO rfl (dP rfl T.g8 (aa (pv 1) ae)) (kT 4 gO.nd) (aB (bE (aI oC (pv 4) aw (aJ _)) (aF (aZ (je (pv 2) T.aC T.aH (aL T) hr ay.passes (aa a9 ae)))) aX) (aF (aZ (dm T.lL (Cq T) hr ay.passes (aa (pv 2) (aa (pv 0) (aa (pv 3) ae)))))))) (aB (aZ (je (pv 2) T.aC T.aH (aL T) hr ay.passes (aa a9 ae))) (aB (a5 (pv 3) (je (pv 2) T.aC T.aV (a8 T) hr ay.passes (aa (CF T.sR) ae)) rfl) (aB (aZ (E7 (pv 2) T.aC T.cA (jI T) hr ay.passes)) (aF (aE (pv 3)))))))
 intro x dx nx nd ne;refine⟨x,dx,rfl,ah,λH1 p q s1 np nq L1=>⟨rfl,?_⟩⟩;have xr:r≠x:=ak R.ins nx;have up:∀b o,H b=some o->(upd (upd H dx (.own x)) x (.ins a.bu dx [])) b=some o:=λb o q=>by rw[ai (ak q nx),ai (ak q nd)];exact q
 have fr:∀{b:Addr},(upd (upd H dx (.own x)) x (.ins a.bu dx [])) b=none->H b=none:=λ{b} q=>by
  cases e:H b with
  |none=>rfl
  |some o=>rw[up b o e]at q;cases q
 have np:=fr np;have nq:=fr nq;have S1:aD H H1:=λb o q'=>s1 b o (up b o q') (ak q' nx);have R1':=R.same S1;have back:∀{m:Nat},fJ a r H m E->ic a [x,p,q,r] H1 m E:=λ{m} h H' e d f=>h H' e d λb o q' nb=>f b o (S1 b o q') (by
  simp only[Qh,List.not_mem_nil,or_false,not_or];exact⟨ak q' nx,ak q' np,ak q' nq,nb⟩)
 have gp:g≠p:=ak R.gv np;have gq:g≠q:=ak R.gv nq;have kE:∀m,fN ns wide high true [] [] "hmK" 0=.error m->fJ a r H m E:=λm e=>by
  unfold jp at k;rw[e]at k;exact k
 have kO:∀v,fN ns wide high true [] [] "hmK" 0=.ok v->(match(match c_ ns [32] v.2.2.2 with
   |.error e=>.error e
   |.ok n1=>match aW "hk" ns n1 with
    |.error e=>.error e
    |.ok (.int t,n2)=>if n2<ns.length then .error n2 else .ok (v.1,v.2.1,t)
    |.ok (_,n2)=>.error n2:Except Nat (List Int×List Int×Int))with
   |.ok (ps,qs,t)=>∀H' x dx p q z,Ex r H H'->iM a H' x dx p q ps qs z t->Q (.ref x) H'
   |.error m=>fJ a r H m E):=λv e=>by
  unfold jp at k;rw[e]at k;exact k
 refine⟨_,rfl,_,rfl,(by omega),(by omega),mX (n:=high) (λi σ H2=>∃ps' qs' z' n' u,σ=[some (V.int (wide:Nat)),some (.int (high:Nat)),some (.ref r),some (.ref x),u]/\ps'.length=wide*i/\qs'.length=wide*i/\Fx [x,p,q,r] H1 H2/\iM a H2 x dx p q ps' qs' z' 0/\fI K a H2 r rx g ns n'/\fN ns wide high true [] [] "hmK" 0=fN ns wide (high-i) (decide (i=0)) ps' qs' z' n') ⟨[],[],"hmK",0,_,rfl,rfl,rfl,Fx.refl,L1,R1',rfl⟩ (λi σ H2 hi hW=>?_) λσ H2 hW=>?_⟩
 ·obtain⟨ps',qs',z',n',u,rfl,l1,l2,f2,L2,R2,hs⟩:=hW
  have hwi:wide*i<=13*12:=Sa bw (by omega);have step:fN ns wide (high-i) (decide (i=0)) ps' qs' z' n'=(match(if decide (i=0)=true then Except.ok n' else c_ ns [47] n')with
    |.error e=>.error e
    |.ok n1=>match eI ns (wide+1) wide false ps' qs' z' n1 with
     |.error e=>.error e
     |.ok (ps2,qs2,z2,n2)=>fN ns wide (high-(i+1)) false ps2 qs2 z2 n2):=by
   have e:high-i=(high-(i+1))+1:=by omega
   rw[e];rfl
  have row_ok:∀H3 n1 u'(Q':VK),(fN ns wide (high-i) (decide (i=0)) ps' qs' z' n'=(match eI ns (wide+1) wide false ps' qs' z' n1 with
     |.error e=>.error e
     |.ok (ps2,qs2,z2,n2)=>fN ns wide (high-(i+1)) false ps2 qs2 z2 n2))->Fx [x,p,q,r] H1 H3->iM a H3 x dx p q ps' qs' z' 0->fI K a H3 r rx g ns n1->(∀H4,(∃ps' qs' z' n' u,[some (V.int (wide:Nat)),some (.int (high:Nat)),some (.ref r),some (.ref x),u']=[some (V.int (wide:Nat)),some (.int (high:Nat)),some (.ref r),some (.ref x),u]/\ps'.length=wide*(i+1)/\qs'.length=wide*(i+1)/\Fx [x,p,q,r] H1 H4/\iM a H4 x dx p q ps' qs' z' 0/\fI K a H4 r rx g ns n'/\fN ns wide high true [] [] "hmK" 0=fN ns wide (high-(i+1)) (decide (i+1=0)) ps' qs' z' n')->Q' .eB H4)->Im K a [.ref r,.int (wide:Nat),.ref x] H3 Q' E:=by
   intro H3 n1 u' Q' hst f3 L3 R3 hQ;refine⟨x,dx,p,q,ps',qs',z',0,r,rx,g,ns,n1,wide,rfl,L3,R3,gp,gq,by omega,by omega,by omega,?_⟩;cases hr2:eI ns (wide+1) wide false ps' qs' z' n1 with
   |error e=>
    rw[hr2]at hst;exact(back (kE e (by rw[hs,hst]))).after f3
   |ok v=>
    obtain⟨ps2,qs2,z2,n2⟩:=v;obtain⟨q1,q2⟩:=BI _ _ _ _ _ _ _ _ _ hr2;rw[hr2]at hst;replace q1:ps2.length=ps'.length+wide:=q1;replace q2:qs2.length=qs'.length+wide:=q2;intro H4 f4 L4 R4;have em:wide*(i+1)=wide*i+wide:=Rs wide i;exact hQ H4 ⟨ps2,qs2,z2,n2,_,rfl,by rw[em];omega,by rw[em];omega,f3.trans f4,L4,R4,by rw[hs,hst];rfl⟩
  refine⟨_,rfl,_,_,rfl,rfl,_,rfl,gB (λh2=>?_) λh2=>?_⟩
  ·have hi0:i≠0:=by have:=PR h2;omega
   rw[Py (by rw[Qr hi0];exact PM)]at step;refine⟨_,rfl,r,rx,_,rfl,R2.ins,rfl,r,rx,g,ns,n',"/",rfl,R2,?_⟩;have e47:("/":Str).cps.toList=[47]:=by decide+kernel
   rw[e47];cases hl:c_ ns [47] n' with
   |error e=>
    rw[hl]at step;exact((back (kE e (by rw[hs,step]))).after f2).e (by simp)
   |ok n1=>
    rw[hl]at step;intro H3 s3 e3;obtain⟨n1',n2',n3'⟩:=GO R2 L2;refine⟨_,rfl,_,rfl,_,rfl,?_⟩;dsimp only[rQ];exact row_ok H3 n1 _ _ step (f2.trans (s3.fx (by simp))) ⟨s3 _ _ L2.ins (PZ n1'),s3 _ _ L2.Fy (PZ n2'),s3 _ _ L2.FJ (PZ n3'),L2.ne⟩ (R2.ex s3 e3) λH4 h=>h
  ·have hi0:i=0:=by
    have:¬(0:Int)<0+(i:Nat):=λq=>h2 (PJ q);omega
   rw[Pz (PJ hi0)]at step;refine⟨_,rfl,_,rfl,_,rfl,?_⟩;dsimp only[rQ];exact row_ok H2 n' _ _ step f2 L2 R2 λH4 h=>h
 ·obtain⟨ps',qs',z',n',u,rfl,l1,l2,f2,L2,R2,hs⟩:=hW
  rw[Nat.sub_self]at hs;have k:=kO _ hs;obtain⟨n1',n2',n3'⟩:=GO R2 L2;obtain⟨xp,xq⟩:=L2.I_;refine⟨_,rfl,r,rx,_,rfl,R2.ins,rfl,r,rx,g,ns,n'," ",rfl,R2,?_⟩;have e32:(" ":Str).cps.toList=[32]:=by decide+kernel
  rw[e32];cases hl:c_ ns [32] n' with
  |error e=>
   rw[hl]at k;exact((back k).after f2).e (by simp)
  |ok n1=>
   rw[hl]at k;dsimp only at k;intro H3 s3 e3;have L3:iM a H3 x dx p q ps' qs' z' 0:=⟨s3 _ _ L2.ins (PZ n1'),s3 _ _ L2.Fy (PZ n2'),s3 _ _ L2.FJ (PZ n3'),L2.ne⟩;have R3:=R2.ex s3 e3;have f3:=f2.trans (s3.fx (l:=[x,p,q,r]) (by simp));refine⟨_,rfl,r,rx,_,rfl,R3.ins,rfl,r,rx,g,ns,n1,"hk",rfl,R3,?_⟩;cases ho:aW "hk" ns n1 with
   |error e=>
    rw[ho]at k;exact((back k).after f3).e (by simp)
   |ok v=>
    obtain⟨d,rfl,_⟩:=dR ho;rw[ho]at k;intro H4 s4 e4;have L4:iM a H4 x dx p q ps' qs' z' 0:=⟨s4 _ _ L3.ins (PZ n1'),s4 _ _ L3.Fy (PZ n2'),s4 _ _ L3.FJ (PZ n3'),L2.ne⟩;have R4:=R3.ex s4 e4;have f4:=f3.trans (s4.fx (l:=[x,p,q,r]) (by simp));refine⟨_,rfl,x,_,_,_,rfl,L4.ins,T.bA.cl,T.jy,(by show 4<1000;decide),?_⟩;have L5:iM a (upd H4 x (.ins a.bu dx (KB p q z' (d:Nat)))) x dx p q ps' qs' z' (d:Nat):=⟨ah,by rw[ai (PZ xp)];exact L4.Fy,by rw[ai (PZ xq)];exact L4.FJ,L2.ne⟩;have R5:fI K a (upd H4 x (.ins a.bu dx (KB p q z' (d:Nat)))) r rx g ns (n1+1):=⟨by rw[ai n1'];exact R4.ins,by rw[ai (bf R4.gv L4.ins λz=>nomatch z)];exact R4.gv⟩;have f5:Fx [x,p,q,r] H1 (upd H4 x (.ins a.bu dx (KB p q z' (d:Nat)))):=f4.trans (Fx.set (by simp));refine⟨_,rfl,r,rx,_,rfl,R5.ins,rfl,r,rx,g,ns,n1+1,rfl,R5,λh6=>?_,λh6=>?_⟩
    ·replace k:(match(if n1+1<ns.length then Except.error (n1+1)else Except.ok (ps',qs',((d:Nat):Int)))with
      |.ok (ps,qs,t)=>∀H' x dx p q z,Ex r H H'->iM a H' x dx p q ps qs z t->Q (.ref x) H'
      |.error m=>fJ a r H m E):=k
     rw[Py (by omega)]at k;refine⟨_,rfl,k _ x dx p q z' (λb o q' nb=>?_) L5⟩;exact f5 b o (S1 b o q') (by
      simp only[Qh,List.not_mem_nil,or_false,not_or];exact⟨ak q' nx,ak q' np,ak q' nq,nb⟩)
    ·replace k:(match(if n1+1<ns.length then Except.error (n1+1)else Except.ok (ps',qs',((d:Nat):Int)))with
      |.ok (ps,qs,t)=>∀H' x dx p q z,Ex r H H'->iM a H' x dx p q ps qs z t->Q (.ref x) H'
      |.error m=>fJ a r H m E):=k
     rw[Pz h6]at k;exact((back k).after f5).e (by simp)
theorem jj(T:Tx K mg a):a4 P w K mg base (cW P w) 1 a.bZ a.j8 ["self","pieces","turn"] (uf a):=Di T
theorem pE{α:Type}(f:Nat->α)(i:Nat):(List.range (i+1)).map f=(List.range i).map f++[f i]:=by rw[List.range_succ,Qg];rfl
theorem oR{α β:Type}(f:α->β){l:List α}{i:Nat}{x:α}(h:l[i]? =some x):(l.take (i+1)).map f=(l.take i).map f++[f x]:=by rw[QZ,h,Qg];rfl
theorem qy{α:Type}(p:α->Bool){l:List α}{i:Nat}{x:α}(h:l[i]? =some x):(l.take (i+1)).filter p=(l.take i).filter p++(if p x=true then[x]else[]):=by
 rw[QZ,h,List.filter_append];show _++[x].filter p=_;rw[List.filter_cons];rfl
theorem aA{H:Hp}{p:Addr}{o:HO}(h:H p=none):aD H (upd H p o):=λb u q=>by
 rw[ai (ak q h)];exact q
def br(wide high:Nat):List Int:=(List.range high).flatMap λ(i:Nat)=>(List.range wide).map λ(x:Nat)=>((13*(high-1-i)+x:Nat):Int)
theorem kJ{α:Type}(f:Nat->List α)(i:Nat):(List.range (i+1)).flatMap f=(List.range i).flatMap f++f i:=by
 rw[List.range_succ,List.flatMap_append];simp
theorem jc{α:Type}(f:Nat->List α)(b:Nat)(h:∀i,(f i).length<=b):∀n,((List.range n).flatMap f).length<=n*b
 |0=>by simp
 |n+1=>by
  rw[kJ,P0];have:=jc f b h n;have:=h n;rw[Nat.succ_mul];omega
inductive Hk(vs:List V)(H:Hp)(Q:VK)(E:XK):Prop
 |mk (wide high:Nat) (_:vs=[.int (wide:Nat),.int (high:Nat)]) (_:wide<=13) (_:high<=13) (_:∀H' p,aD H H'->H p=none->H' p=some (.lst ((br wide high).map V.int))->Q (.ref p) H'):Hk vs H Q E
theorem cV:az ["wide","high","cells","row","bottom","x"] ["wide","high"] (aj (top 14)):=aR
theorem fM(T:Tx K mg a):a4 P w K mg base (cW P w) 1 a.b_ a.mZ ["wide","high"] Hk:=by
 refine T.b_.F.kP cV λcdv A outer s H vs Q E hr h=>?_;obtain⟨wide,high,rfl,bw,bh,k⟩:=h
 exists aB (e_ 2 cV.nd (cb ae)) (aB (dI QS rfl (dP rfl T.g8 (aa (pv 1) ae)) (kT 3 cV.nd) (aB (e_ 4 cV.nd (bv oW (mL T.zd) (bv nZ (bv nZ (pv 1) aw) (pv 3)))) (aF (aZ (jg Qy Rh Ri kI (pv 2) (aa (lE (own:=[("x",5)]) rfl cV.nd (dP rfl T.g8 (aa (pv 0) ae)) (cp rfl) (λ_ _ _ _ _=>(kT 5 cV.nd)) (λ_ _ _ _ _=>dZ) (λ_ _ _ _ _=>(bv gN (pv 4) (pv 5)))) ae)))))) (aF (aE (pv 2))))
 refine⟨QG _,λp hp=>?_⟩;refine⟨_,rfl,_,rfl,(by omega),(by omega),mX (n:=high) (λi σ H'=>∃u v z,σ=[some (V.int (wide:Nat)),some (.int (high:Nat)),some (.ref p),u,v,z]/\aD H H'/\H' p=some (.lst ((((List.range i).flatMap λ(i:Nat)=>(List.range wide).map λ(x:Nat)=>((13*(high-1-i)+x:Nat):Int))).map V.int))) ⟨_,_,_,rfl,aA hp,by rw[ah];rfl⟩ (λi σ H1 hi hW=>?_) λσ H1 hW=>?_⟩
 ·obtain⟨u,v,z,rfl,s1,h1⟩:=hW
  refine⟨_,rfl,_,_,rfl,rfl,_,rfl,_,_,rfl,rfl,_,_,rfl,rfl,.inl ⟨by decide,by decide⟩,?_⟩;refine⟨_,rfl,(by first|exact Or.inl ⟨rfl,_,a0.of h1⟩),_,rfl,_,rfl,(by omega),(by omega),λD hD=>iU (J:=Fm 0 wide) (n:=wide) (λj=>((List.range j).map λ(x:Nat)=>V.int ((13*(high-1-i)+x:Nat):Int))) hD rfl (λj H h _=>h) (λH _=>PF _) (λj H' hj s2 e2 y H2 hy=>?_) λH' s2 e2=>?_⟩
  ·obtain⟨rfl,rfl⟩:=hy
   refine⟨rfl,_,rfl,_,rfl,_,_,rfl,rfl,?_⟩;refine Got.of hD s2 e2 (aD.refl _) (by rw[Px,QL];omega) ?_;have ev:(13:Int)*((high:Int)-1-(0+(i:Int)))+(0+(j:Int))=((13*(high-1-i)+j:Nat):Int):=by omega
   try dsimp only
   rw[ev];exact pE _ j
  ·refine⟨p,D,_,_,rfl,rfl,s2 _ _ h1,e2,?_,?_⟩
   ·rw[Px,Px,QL,PL]
    have:=jc (λ(i:Nat)=>(List.range wide).map λ(x:Nat)=>((13*(high-1-i)+x:Nat):Int)) 13 (λi=>by rw[Px,QL];exact bw) i;omega
   ·refine⟨_,_,_,rfl,cY hp (s1.trans s2),?_⟩
    rw[ah,kJ,Qg,QJ (g:=V.int) (f:=λ(x:Nat)=>((13*(high-1-i)+x:Nat):Int))];rfl
 ·obtain⟨u,v,z,rfl,s1,h1⟩:=hW
  exact⟨_,rfl,k H1 p s1 hp h1⟩
def di(wide high c:Nat)(r u:Int):Int:=if 0<=((c%13:Nat):Int)+r/\((c%13:Nat):Int)+r<wide/\0<=((c/13:Nat):Int)+u/\((c/13:Nat):Int)+u<high then 13*(((c/13:Nat):Int)+u)+(((c%13:Nat):Int)+r)else-1
inductive Ki(vs:List V)(H:Hp)(Q:VK)(E:XK):Prop
 |mk (wide high c:Nat) (r u:Int) (_:vs=[.int (wide:Nat),.int (high:Nat),.int (c:Nat),.int r,.int u]) (_:Q (.int (di wide high c r u)) H):Ki vs H Q E
theorem lQ:az ["wide","high","cell","right","up","x","y"] ["wide","high","cell","right","up"] (aj (top 15)):=aR
theorem w8(T:Tx K mg a):a4 P w K mg base (cW P w) 1 a.gX a.q0 ["wide","high","cell","right","up"] Ki:=by
 refine T.gX.F.kP lQ λcdv A outer s H vs Q E hr h=>?_;obtain⟨wide,high,c,r,u,rfl,k⟩:=h
 exists aB (e_ 5 lQ.nd (bv gN (bv Gh (pv 2) (mL T.zd)) (pv 3))) (aB (e_ 6 lQ.nd (bv gN (bv EG (pv 2) (mL T.zd)) (pv 4))) (aB (bE (PW.pt (gM (sj wA uL aw (pv 5) (pv 0)) (fc (sj wA uL aw (pv 6) (pv 1))))) (aF (aE (bv gN (bv oW (mL T.zd) (pv 6)) (pv 5)))) aX) (aF (aE (oE jZ aw)))))
 unfold di at k;have e1:((c:Nat):Int)%13=((c%13:Nat):Int):=by omega
 have e2:((c:Nat):Int)/13=((c/13:Nat):Int):=by omega
 refine⟨_,rfl,_,_,rfl,rfl,(by show(0:Int)<13;decide),_,rfl,_,_,rfl,rfl,?_⟩;refine⟨_,rfl,_,_,rfl,rfl,⟨by decide,by decide⟩,_,rfl,_,_,rfl,rfl,?_⟩;rw[e1,e2];refine⟨_,rfl,_,_,rfl,rfl,_,rfl,gB (λh1=>⟨_,rfl,_,_,rfl,rfl,_,rfl,gB (λh2=>⟨_,rfl,_,_,rfl,rfl,_,rfl,gB (λh3=>⟨_,rfl,_,_,rfl,rfl,_,rfl,gB (λh4=>?_) λh4=>?_⟩) λh3=>?_⟩) λh2=>?_⟩) λh1=>?_⟩
 ·have h1:=PR h1
  have h2:=PR h2;have h3:=PR h3;have h4:=PR h4;rw[Pz ⟨h1,h2,h3,h4⟩]at k;exact⟨_,rfl,_,_,rfl,rfl,.inl ⟨by decide,by decide⟩,_,rfl,_,_,rfl,rfl,k⟩
 ·rw[Py (λq=>h4 (PJ q.2.2.2))]at k
  exact⟨_,rfl,k⟩
 ·rw[Py (λq=>h3 (PJ q.2.2.1))]at k
  exact⟨_,rfl,_,rfl,k⟩
 ·rw[Py (λq=>h2 (PJ q.2.1))]at k
  exact⟨_,rfl,k⟩
 ·rw[Py (λq=>h1 (PJ q.1))]at k
  exact⟨_,rfl,_,rfl,k⟩
def cB(d:Nat):Int:=if d=1 then 1 else if d=3 then-1 else 0
def cC(d:Nat):Int:=if d=0 then 1 else if d=2 then-1 else 0
def IX(wide high d:Nat):List Int:=(List.range 169).map λ(c:Nat)=>di wide high c (cB d) (cC d)
def uh(H:Hp)(wide high:Nat)(ws:List Addr):Prop:=∀d x,ws[d]? =some x->H x=some (.lst ((IX wide high d).map V.int))
theorem uh.same{H H':Hp}{wide high:Nat}{ws:List Addr}(h:uh H wide high ws)(s:aD H H'):uh H' wide high ws:=λd x e=>s _ _ (h d x e)
inductive Ht(vs:List V)(H:Hp)(Q:VK)(E:XK):Prop
 |mk (wide high:Nat) (_:vs=[.int (wide:Nat),.int (high:Nat)]) (_:∀H' p ws,aD H H'->H p=none->H' p=some (.lst (ws.map V.ref))->ws.length=4->uh H' wide high ws->(∀b∈ws,H b=none)->Q (.ref p) H'):Ht vs H Q E
theorem kX:az ["wide","high","ways","step","cell"] ["wide","high"] (aj (top 16)):=aR
theorem CD(T:Tx K mg a):a4 P w K mg base (cW P w) 2 a.ni a.zg ["wide","high"] Ht:=by
 refine T.ni.F.kP kX λcdv A outer s H vs Q E hr h=>?_;obtain⟨wide,high,rfl,k⟩:=h
 exists aB (e_ 2 kX.nd (cb ae)) (aB (dI QS rfl (KI (nV (aa (nV (aa aw (aa aw ae))) (aa (nV (aa aw (aa aw ae))) (aa (nV (aa aw (aa (oE jZ aw) ae))) (aa (nV (aa (oE jZ aw) (aa aw ae))) ae)))))) (kT 3 kX.nd) (aF (aZ (jg Qy QV QW gm (pv 2) (aa (lE (own:=[("cell",4)]) rfl kX.nd (dP rfl T.g8 (aa (mL T.AC) ae)) (cp rfl) (λ_ _ _ _ _=>(kT 4 kX.nd)) (λ_ _ _ _ _=>dZ) (λ_ _ _ _ _=>(dm T.gX (w8 T) hr aK (aa (pv 0) (aa (pv 1) (aa (pv 4) (aa (bj (vQ K rfl) (pv 3) aw (λ_ _=>rfl)) (aa (bj (vQ K rfl) (pv 3) aw (λ_ _=>rfl)) ae)))))))) ae))))) (aF (aE (pv 2))))
 refine⟨QG _,λp hp=>?_⟩;have z2:∀(x y:V),([x,y]:List V).length<=sizeLine:=λx y=>by rw[PL];show 2<=_;omega
 refine⟨z2 _ _,λt1 n1=>⟨z2 _ _,λt2 n2=>⟨_,rfl,z2 _ _,λt3 n3=>⟨_,rfl,z2 _ _,λt4 n4=>⟨(by rw[PL];show 4<=_;omega),λt nt=>?_⟩⟩⟩⟩⟩;generalize e1:upd H p (.lst [])=G1 at n1 n2 n3 n4 nt ⊢;generalize e2:upd G1 t1 (.tup [.int 0,.int 1])=G2 at n2 n3 n4 nt ⊢;generalize e3:upd G2 t2 (.tup [.int 1,.int 0])=G3 at n3 n4 nt ⊢;have q3:G3 t2=some (.tup [.int 1,.int 0]):=by rw[<-e3,ah]
 have q2:G2 t1=some (.tup [.int 0,.int 1]):=by rw[<-e2,ah]
 have s3:aD G2 G3:=by rw[<-e3];exact aA n2
 have s2:aD G1 G2:=by rw[<-e2];exact aA n1
 have s4:aD G3 (upd G3 t3 (.tup [.int 0,.int (-1)])):=aA n3;have s5:aD (upd G3 t3 (.tup [.int 0,.int (-1)])) (upd (upd G3 t3 (.tup [.int 0,.int (-1)])) t4 (.tup [.int (-1),.int 0])):=aA n4;generalize e5:upd (upd G3 t3 (.tup [.int 0,.int (-1)])) t4 (.tup [.int (-1),.int 0])=G5 at s5;have nt':G5 t=none:=by rw[<-e5];exact nt
 have s6:aD G5 (upd G5 t (.tup [.ref t1,.ref t2,.ref t3,.ref t4])):=aA nt';generalize e6:upd G5 t (.tup [.ref t1,.ref t2,.ref t3,.ref t4])=G6 at s6;have qt:G6 t=some (.tup [.ref t1,.ref t2,.ref t3,.ref t4]):=by rw[<-e6,ah]
 have S:aD G1 G6:=(s2.trans s3).trans ((s4.trans s5).trans s6);have SH:aD H G6:=(by rw[<-e1];exact aA hp:aD H G1).trans S;have qp:G6 p=some (.lst []):=S _ _ (by rw[<-e1,ah]);have tu:∀d x,([t1,t2,t3,t4]:List Addr)[d]? =some x->G6 x=some (.tup [.int (cB d),.int (cC d)]):=λd x e=>by
  match d,e with
  |0,e=>cases e;exact(s3.trans ((s4.trans s5).trans s6)) _ _ q2
  |1,e=>cases e;exact((s4.trans s5).trans s6) _ _ q3
  |2,e=>cases e;exact(s5.trans s6) _ _ (by rw[ah];rfl)
  |3,e=>cases e;exact s6 _ _ (by rw[<-e5,ah];rfl)
  |d+4,e=>simp at e
 refine⟨t,rfl,⟨_,iP.of qt⟩,?_⟩;refine IF (xs:=[t1,t2,t3,t4].map V.ref) (λi σ H'=>∃ws u v,σ=[some (V.int (wide:Nat)),some (.int (high:Nat)),some (.ref p),u,v]/\ws.length=i/\Ex p G6 H'/\H' p=some (.lst (ws.map V.ref))/\uh H' wide high ws/\p∉ws/\∀b∈ws,H b=none) ⟨[],_,_,rfl,rfl,Ex.refl,qp,λd x e=>by simp at e,by simp,λb hb=>by cases hb⟩ (λi σ H1 hi hW=>?_) (λi x σ H1 hx hW=>?_) λσ H1 hW=>?_
 ·obtain⟨ws,u,v,e,hl,x1,h1,w1,np,fw⟩:=hW
  exact iP.of (x1 _ _ qt (bf qt qp λz=>nomatch z))
 ·obtain⟨ws,u,v,rfl,hl,x1,h1,w1,np,fw⟩:=hW
  rw[Qa]at hx;cases ht:([t1,t2,t3,t4]:List Addr)[i]? with
  |none=>rw[ht]at hx;cases hx
  |some ti=>
   rw[ht]at hx;cases hx;have q1:=tu i ti ht;have q1':=x1 _ _ q1 (bf q1 qp λz=>nomatch z);have hi4:i<4:=(PQ.mp ht).1;refine⟨_,rfl,.inl ⟨rfl,_,a0.of h1⟩,_,rfl,(by omega),(by omega),λD hD=>iU (J:=Fm 0 169) (n:=169) (λj=>((List.range j).map λ(c:Nat)=>V.int (di wide high c (cB i) (cC i)))) hD rfl (λj H h _=>h) (λH _=>PF _) (λj H' hj s2 e2 y H2 hy=>?_) λH' s2 e2=>?_⟩
   ·obtain⟨rfl,rfl⟩:=hy
    have tt:=s2 _ _ q1';refine⟨rfl,_,rfl,_,rfl,_,rfl,_,rfl,ti,_,_,_,rfl,rfl,iP.of tt,at_of (j:=0) rfl rfl,_,rfl,ti,_,_,_,rfl,rfl,iP.of tt,at_of (j:=1) rfl rfl,wide,high,j,cB i,cC i,?_,?_⟩
    ·rw[show((0:Int)+(j:Nat))=((j:Nat):Int) by omega]
     rfl
    refine Got.of hD s2 e2 (aD.refl _) (by rw[Px,QL];omega) ?_;exact pE _ j
   ·refine⟨p,_,_,rfl,rfl,s2 _ _ h1,(by rw[Px,hl,PL];omega),ws++[D],_,_,rfl,(by rw[P0,hl];rfl),?_,?_,?_,?_,?_⟩
    ·intro b o q nb
     rw[ai nb];exact s2 _ _ (x1 b o q nb)
    ·rw[ah,Qg]
     rfl
    ·intro d x e
     have nx:∀y,y∈ws->y≠p:=λy hy z=>np (z▸hy);rcases RB d ws.length with hd|hd
     ·rw[RK hd]at e
      rw[ai (nx x (Ql e))];exact s2 _ _ (w1 d x e)
     ·rw[RH hd]at e
      have d0:d-ws.length=0:=by
       have:=(PQ.mp e).1;rw[QF]at this;omega
      rw[d0]at e;cases e;have ed:d=i:=by omega
      subst ed;rw[ai (λz=>by rw[z,h1]at hD;cases hD),e2];unfold IX;rw[QJ];rfl
    ·intro hm
     rcases Qc.mp hm with z|z
     ·exact np z
     ·rw[Qb]at z
      rw[<-z,h1]at hD;cases hD
    ·intro b hb
     rcases Qc.mp hb with z|z
     ·exact fw b z
     ·rw[Qb]at z
      subst z;cases eb:H b with
      |none=>rfl
      |some o=>rw[x1 b o (SH b o eb) (ak eb hp)]at hD;cases hD
 ·obtain⟨ws,u,v,rfl,hl,x1,h1,w1,np,fw⟩:=hW
  refine⟨_,rfl,k H1 p ws (λb o q=>x1 b o (SH b o q) (ak q hp)) hp h1 hl w1 fw⟩
structure R0 where
 wide:Nat
 high:Nat
 slides:Int
 armed:Int
 four:Int
 passed:Int
 seat:Int
 exits:Int
 goal:Int
 thrice:Int
 limit:Int
 ground:List Int
 start:List Int
 first:Int
structure RA where
 x:Addr
 dx:Addr
 cs:Addr
 wz:Addr
 gr:Addr
 st:Addr
 sd:Addr
 sp:Addr
 ws:List Addr
def uC(wide high:Nat):List Int:=(List.range high).flatMap λ(y:Nat)=>(List.range wide).map λ(x:Nat)=>((13*y+x:Nat):Int)
structure rZ(ps:List Int):Prop where
 len:ps.length=169
 val:∀c,0<=ps.getD c 0/\ps.getD c 0<=3
structure zT(r:R0):Prop where
 w:r.wide<=13
 h:r.high<=13
 g:r.ground.length=169
 s:rZ r.start
 f:r.first=0\/r.first=1
def Lg(A:RA)(r:R0):List (Str×V):=[("wide",.int (r.wide:Nat)),("high",.int (r.high:Nat)),("slides",.int r.slides),("armed",.int r.armed),("four",.int r.four),("passed",.int r.passed),("seat",.int r.seat),("exits",.int r.exits),("goal",.int r.goal),("thrice",.int r.thrice),("limit",.int r.limit),("cells",.ref A.cs),("ways",.ref A.wz),("ground",.ref A.gr),("start",.ref A.st)]
structure ou(a:Ad)(H:Hp)(A:RA)(r:R0):Prop where
 ins:H A.x=some (.ins a.bb A.dx (Lg A r))
 cs:H A.cs=some (.lst ((uC r.wide r.high).map V.int))
 wz:H A.wz=some (.lst (A.ws.map V.ref))
 wl:A.ws.length=4
 wy:uh H r.wide r.high A.ws
 gr:H A.gr=some (.lst (r.ground.map V.int))
 st:H A.st=some (.ins a.bK A.sd (Al A.sp r.first))
 sp:H A.sp=some (.lst (r.start.map V.int))
 ok:zT r
theorem ou.same{a:Ad}{H H':Hp}{A:RA}{r:R0}(R:ou a H A r)(s:aD H H'):ou a H' A r:=⟨s _ _ R.ins,s _ _ R.cs,s _ _ R.wz,R.wl,R.wy.same s,s _ _ R.gr,s _ _ R.st,s _ _ R.sp,R.ok⟩
theorem cO{l:List Int}{c:Nat}(h:c<l.length):(l.map V.int)[c]? =some (.int (l.getD c 0)):=by
 rw[Qa,PD h];simp[List.getD,PD h]
def sP(r:R0)(ps:List Int)(piece:Int)(c:Nat):Bool:=if r.ground.getD c 0=3\/ps.getD c 0≠0 then false else if piece=3\/r.ground.getD c 0=0 then true else decide (r.ground.getD c 0=1)&&decide (r.passed=1)
inductive GC(a:Ad)(vs:List V)(H:Hp)(Q:VK)(E:XK):Prop
 |mk (A:RA) (r:R0) (p:Addr) (ps:List Int) (piece:Int) (c:Nat) (_:vs=[.ref A.x,.ref p,.int piece,.int (c:Nat)]) (_:ou a H A r) (_:H p=some (.lst (ps.map V.int))) (_:ps.length=169) (_:c<169) (_:Q (.bl (sP r ps piece c)) H):GC a vs H Q E
theorem tj:az ["rules","pieces","piece","cell","kind"] ["rules","pieces","piece","cell"] (aj (top 20)):=aR
theorem Aj(T:Tx K mg a):a4 P w K mg base (cW P w) 1 a.jP a.uY ["rules","pieces","piece","cell"] (GC a):=by
 refine T.jP.F.kP tj λcdv A outer s H vs Q E hr h=>?_;obtain⟨A',r,p,ps,piece,c,rfl,R,hp,hl,hc,k⟩:=h
 exists aB (e_ 4 tj.nd (bj a_ (au (pv 0) rfl) (pv 3) (λ_ _=>rfl))) (aB (bE (PW.pt (z5 (aI bO (pv 4) (mL T.C4) (aJ _)) (t_ (aI EH (bj a_ (pv 1) (pv 3) (λ_ _=>rfl)) (mL T.iF) (aJ _))))) (aF (aE qT)) aX) (aB (bE (PW.pt (z5 (aI bO (pv 2) (mL T.j0) (aJ _)) (t_ (aI bO (pv 4) (mL T.Ec) (aJ _))))) (aF (aE qT)) aX) (aF (aE (wm (d9 bO (pv 4) (mL T.AB) (aJ _)) (p8 (d9 bO (au (pv 0) rfl) aw (aJ _))))))))
 have ag:=cO (l:=r.ground) (c:=c) (by rw[R.ok.g];exact hc);have ap:=cO (l:=ps) (c:=c) (by rw[hl];exact hc);unfold sP at k;refine⟨_,rfl,A'.x,_,_,_,_,rfl,R.ins,T.aU.cl,T.du,rfl,_,rfl,A'.gr,_,_,_,rfl,rfl,a0.of R.gr,at_of (j:=c) rfl ag,?_⟩;refine⟨_,rfl,rfl,_,rfl,dG (λh1=>?_) λh1=>⟨_,rfl,_,rfl,p,_,_,_,rfl,rfl,a0.of hp,at_of (j:=c) rfl ap,rfl,_,rfl,M0 (λh2=>?_) λh2=>?_⟩⟩
 ·rw[Pz (.inl h1)]at k
  exact k
 ·rw[Pz (.inr h2)]at k
  exact k
 ·rw[Py (λq=>q.elim h1 λz=>z h2)]at k
  refine⟨_,rfl,rfl,_,rfl,dG (λh3=>?_) λh3=>⟨_,rfl,rfl,_,rfl,dG (λh4=>?_) λh4=>?_⟩⟩
  ·rw[Pz (.inl h3)]at k
   exact k
  ·rw[Pz (.inr h4)]at k
   exact k
  ·rw[Py (λq=>q.elim h3 h4)]at k
   refine⟨_,rfl,rfl,_,rfl,dG (λh5=>⟨_,rfl,A'.x,_,_,_,_,rfl,R.ins,T.aU.cl,T.pL,rfl,rfl,?_⟩) λh5=>?_⟩
   ·rw[PJ h5]at k
    rw[g9];exact k
   ·rw[Qr h5]at k
    exact k
def lU(wide high d c:Nat):Nat:=if d=0 then high-c/13 else if d=1 then wide-c%13 else if d=2 then c/13+1 else c%13+1
theorem iu{wide high d c:Nat}(hd:d<4)(hc:c<169)(hw:wide<=13)(hh:high<=13):di wide high c (cB d) (cC d)= -1\/∃n:Nat,di wide high c (cB d) (cC d)=(n:Nat)/\n<169/\1<=lU wide high d n/\lU wide high d n<lU wide high d c/\lU wide high d n<=12:=by
 unfold di
 by_cases h:0<=((c%13:Nat):Int)+cB d/\((c%13:Nat):Int)+cB d<wide/\0<=((c/13:Nat):Int)+cC d/\((c/13:Nat):Int)+cC d<high
 ·rw[Pz h]
  obtain⟨h1,h2,h3,h4⟩:=h;right
  refine⟨13*(((c/13:Nat):Int)+cC d).toNat+(((c%13:Nat):Int)+cB d).toNat,by omega,by omega,?_⟩;generalize hy:(((c/13:Nat):Int)+cC d).toNat=y at*;generalize hx:(((c%13:Nat):Int)+cB d).toNat=x at*;have e1:(13*y+x)/13=y:=by omega
  have e2:(13*y+x)%13=x:=by omega
  unfold lU;rw[e1,e2]
  match d,hd with
  |0,_=>simp[cB,cC]at*;omega
  |1,_=>simp[cB,cC]at*;omega
  |2,_=>simp[cB,cC]at*;omega
  |3,_=>simp[cB,cC]at*;omega
 ·rw[Py h]
  exact .inl rfl
def bM(r:R0)(ps:List Int)(d:Nat)(piece:Int):Nat->Int->List Int
 |0,_=>[]
 |f+1,cell=>if cell<0\/sP r ps piece cell.toNat=false then[]else(if iE (r.ground.getD cell.toNat 0) piece=true then[cell]else[])++(if piece=3/\r.slides=0 then[]else bM r ps d piece f (di r.wide r.high cell.toNat (cB d) (cC d)))
def bn(r:R0)(ps:List Int)(start d:Nat):List Int:=bM r ps d (ps.getD start 0) 13 (di r.wide r.high start (cB d) (cC d))
theorem xZ(r:R0)(ps:List Int)(d:Nat)(piece:Int):∀f cell,(bM r ps d piece f cell).length<=f
 |0,_=>PF _
 |f+1,cell=>by
  unfold bM;split
  ·simp
  ·rw[P0]
   have:=xZ r ps d piece f (di r.wide r.high cell.toNat (cB d) (cC d));have e1:(if iE (r.ground.getD cell.toNat 0) piece=true then[cell]else[]).length<=1:=by split<;>simp
   have e2:(if piece=3/\r.slides=0 then[]else bM r ps d piece f (di r.wide r.high cell.toNat (cB d) (cC d))).length<=f:=by
    split
    ·simp
    ·exact this
   omega
inductive DY(a:Ad)(vs:List V)(H:Hp)(Q:VK)(E:XK):Prop
 |mk (A:RA) (r:R0) (p wa:Addr) (ps:List Int) (start d:Nat) (_:vs=[.ref A.x,.ref p,.int (start:Nat),.ref wa]) (_:ou a H A r) (_:H p=some (.lst (ps.map V.int))) (_:ps.length=169) (_:start<169) (_:A.ws[d]? =some wa) (_:∀H' q,aD H H'->H q=none->H' q=some (.lst ((bn r ps start d).map V.int))->Q (.ref q) H'):DY a vs H Q E
theorem mJ{wide high d c:Nat}(h:c<169):((IX wide high d).map V.int)[c]? =some (.int (di wide high c (cB d) (cC d))):=by
 unfold IX;rw[QJ,Qa,Sj h];rfl
theorem gh:az ["rules","pieces","start","way","piece","stops","cell"] ["rules","pieces","start","way"] (aj (top 21)):=aR
theorem o7(T:Tx K mg a):a4 P w K mg base (cW P w) 2 a.fD a.rg ["rules","pieces","start","way"] (DY a):=by
 refine T.fD.F.kP gh λcdv A outer s H vs Q E hr h=>?_;obtain⟨A',r,p,wa,ps,start,d,rfl,R,hp,hl,hs,hw,k⟩:=h
 exists aB (e_ 4 gh.nd (bj a_ (pv 1) (pv 2) (λ_ _=>rfl))) (aB (e_ 5 gh.nd (cb ae)) (aB (e_ 6 gh.nd (bj a_ (pv 3) (pv 2) (λ_ _=>rfl))) (aB (jE QS (PW.pt (gM (aI zj (pv 6) aw (aJ _)) (fc (dD (dm T.jP (Aj T) hr aK (aa (pv 0) (aa (pv 1) (aa (pv 4) (aa (pv 6) ae))))))))) (aB (bE (dD (dm T.fY (nM T) hr aK (aa (bj a_ (au (pv 0) rfl) (pv 6) (λ_ _=>rfl)) (aa (pv 4) ae)))) (aF (aZ (jg Qy QV QW gm (pv 5) (aa (pv 6) ae)))) aX) (aB (bE (PW.pt (gM (aI bO (pv 4) (mL T.j0) (aJ _)) (fc (aI bO (au (pv 0) rfl) aw (aJ _))))) (aF Bh) aX) (aF (e_ 6 gh.nd (bj a_ (pv 3) (pv 6) (λ_ _=>rfl))))))) (aF (aE (pv 5))))))
 have ap:=cO (l:=ps) (c:=start) (by rw[hl];exact hs);have wy:=R.wy d wa hw;have hd:d<4:=by rw[<-R.wl];exact(PQ.mp hw).1
 refine⟨_,rfl,_,rfl,p,_,_,_,rfl,rfl,a0.of hp,at_of (j:=start) rfl ap,?_⟩;refine⟨QG _,λq hq=>?_⟩;have S0:aD H (upd H q (.lst [])):=aA hq;refine⟨_,rfl,_,rfl,wa,_,_,_,rfl,rfl,a0.of (S0 _ _ wy),at_of (j:=start) rfl (mJ hs),?_⟩;refine⟨λm σ H'=>∃(acc:List Int)(cell:Int),σ=[some (.ref A'.x),some (.ref p),some (.int (start:Nat)),some (.ref wa),some (.int (ps.getD start 0)),some (.ref q),some (.int cell)]/\aD H H'/\H' q=some (.lst (acc.map V.int))/\acc.length+m<=13/\(cell= -1\/∃c:Nat,cell=(c:Nat)/\c<169/\1<=lU r.wide r.high d c/\lU r.wide r.high d c<=m)/\bn r ps start d=acc++bM r ps d (ps.getD start 0) m cell,⟨13,[],_,rfl,S0,by rw[ah];rfl,by simp,?_,rfl⟩,?_⟩
 ·rcases iu (c:=start) hd hs R.ok.w R.ok.h with h|⟨n,h1,h2,h3,h4,h5⟩
  ·exact .inl h
  ·exact .inr ⟨n,h1,h2,h3,by omega⟩
 rintro m σ H1 ⟨acc,cell,rfl,s1,h1,hm,hc,ht⟩
 have R1:=R.same s1;have hp1:=s1 _ _ hp;refine⟨_,rfl,_,_,rfl,rfl,_,rfl,gB (λg1=>?_) λg1=>?_⟩
 ·have g1:=PR g1
  rcases hc with hc|⟨c,rfl,c1,c2,c3⟩
  ·omega
  obtain⟨m',rfl⟩:∃m',m=m'+1:=⟨m-1,by omega⟩;have step:bM r ps d (ps.getD start 0) (m'+1) (c:Nat)=if((c:Nat):Int)<0\/sP r ps (ps.getD start 0) c=false then[]else(if iE (r.ground.getD c 0) (ps.getD start 0)=true then[((c:Nat):Int)]else[])++(if ps.getD start 0=3/\r.slides=0 then[]else bM r ps d (ps.getD start 0) m' (di r.wide r.high c (cB d) (cC d))):=rfl;have ag:=cO (l:=r.ground) (c:=c) (by rw[R.ok.g];exact c1);refine⟨_,rfl,_,rfl,_,rfl,_,rfl,A',r,p,ps,ps.getD start 0,c,rfl,R1,hp1,hl,c1,_,rfl,fO (λg2=>?_) λg2=>?_⟩
  ·rw[Py (λz=>z.elim (λz=>by omega) λz=>by rw[g2]at z;cases z)]at step
   refine⟨_,λ_ _ h=>h,?_⟩;refine⟨_,rfl,A'.x,_,_,_,_,rfl,R1.ins,T.aU.cl,T.du,rfl,_,rfl,A'.gr,_,_,_,rfl,rfl,a0.of R1.gr,at_of (j:=c) rfl ag,_,rfl,_,_,rfl,_,rfl,fO (λg3=>?_) λg3=>?_⟩
   ·rw[Pz g3]at step
    refine⟨_,rfl,.inl ⟨rfl,_,a0.of h1⟩,_,rfl,q,_,_,rfl,rfl,h1,(by rw[Px,PL];omega),?_⟩;have s2:aD H (upd H1 q (.lst (acc.map V.int++[V.int (c:Nat)]))):=cY hq s1;have R2:=R.same s2;have q2:upd H1 q (.lst (acc.map V.int++[V.int (c:Nat)])) q=some (.lst ((acc++[((c:Nat):Int)]).map V.int)):=by rw[ah,Qg];rfl
    have l2:(acc++[((c:Nat):Int)]).length+m'<=13:=by rw[P0,QF];omega
    refine⟨_,rfl,rfl,_,rfl,dG (λg4=>⟨_,rfl,A'.x,_,_,_,_,rfl,R2.ins,T.aU.cl,T.lF,rfl,rfl,_,rfl,dG (λg5=>?_) λg5=>?_⟩) λg4=>?_⟩
    ·rw[Pz ⟨g4,g5⟩,QA]at step
     refine⟨_,rfl,k _ q s2 hq ?_⟩;rw[q2,ht,step]
    ·rw[Py (λz=>g5 z.2)]at step
     refine⟨_,rfl,_,rfl,wa,_,_,_,rfl,rfl,a0.of (s2 _ _ wy),at_of (j:=c) rfl (mJ c1),m',by omega,_,_,rfl,s2,q2,l2,?_,?_⟩
     ·rcases iu (c:=c) hd c1 R.ok.w R.ok.h with h|⟨n,h1,h2,h3,h4,h5⟩
      ·exact .inl h
      ·exact .inr ⟨n,h1,h2,h3,by omega⟩
     ·rw[ht,step,QH]
    ·rw[Py (λz=>g4 z.1)]at step
     refine⟨_,rfl,_,rfl,wa,_,_,_,rfl,rfl,a0.of (s2 _ _ wy),at_of (j:=c) rfl (mJ c1),m',by omega,_,_,rfl,s2,q2,l2,?_,?_⟩
     ·rcases iu (c:=c) hd c1 R.ok.w R.ok.h with h|⟨n,h1,h2,h3,h4,h5⟩
      ·exact .inl h
      ·exact .inr ⟨n,h1,h2,h3,by omega⟩
     ·rw[ht,step,QH]
   ·rw[Py (by rw[g3];exact PM),Q0]at step
    refine⟨_,rfl,rfl,_,rfl,dG (λg4=>⟨_,rfl,A'.x,_,_,_,_,rfl,R1.ins,T.aU.cl,T.lF,rfl,rfl,_,rfl,dG (λg5=>?_) λg5=>?_⟩) λg4=>?_⟩
    ·rw[Pz ⟨g4,g5⟩]at step
     refine⟨_,rfl,k _ q s1 hq ?_⟩;rw[h1,ht,step,QA]
    ·rw[Py (λz=>g5 z.2)]at step
     refine⟨_,rfl,_,rfl,wa,_,_,_,rfl,rfl,a0.of (s1 _ _ wy),at_of (j:=c) rfl (mJ c1),m',by omega,_,_,rfl,s1,h1,by omega,?_,?_⟩
     ·rcases iu (c:=c) hd c1 R.ok.w R.ok.h with h|⟨n,h1,h2,h3,h4,h5⟩
      ·exact .inl h
      ·exact .inr ⟨n,h1,h2,h3,by omega⟩
     ·rw[ht,step]
    ·rw[Py (λz=>g4 z.1)]at step
     refine⟨_,rfl,_,rfl,wa,_,_,_,rfl,rfl,a0.of (s1 _ _ wy),at_of (j:=c) rfl (mJ c1),m',by omega,_,_,rfl,s1,h1,by omega,?_,?_⟩
     ·rcases iu (c:=c) hd c1 R.ok.w R.ok.h with h|⟨n,h1,h2,h3,h4,h5⟩
      ·exact .inl h
      ·exact .inr ⟨n,h1,h2,h3,by omega⟩
     ·rw[ht,step]
  ·rw[Pz (.inr g2)]at step
   refine⟨_,rfl,k _ q s1 hq ?_⟩;rw[h1,ht,step,QA]
 ·have g1:cell<0:=by
   have:¬(0:Int)<=cell:=λz=>g1 (PJ z);omega
  have step:bM r ps d (ps.getD start 0) m cell=[]:=by
   cases m with
   |zero=>rfl
   |succ m=>
    unfold bM;rw[Pz (.inl g1)]
  refine⟨_,rfl,k _ q s1 hq ?_⟩;rw[h1,ht,step,QA]
def Iz(l:List Int):List Int:=l.mergeSort (λa b=>decide (a<=b))
theorem Dn{l l':List Int}(h:l'.Perm l)(s:l'.Pairwise (·<=·)):l'=Iz l:=by
 have h1:(Iz l).Pairwise (λa b=>decide (a<=b)=true):=List.pairwise_mergeSort (le:=λ(a b:Int)=>decide (a<=b)) (λa b c h1 h2=>PJ (Int.le_trans (PR h1) (PR h2))) (λa b=>by rcases Int.le_total a b with h|h<;>simp[h]) l;have h2:(Iz l).Pairwise (·<=·):=h1.imp λh=>PR h;refine List.Perm.eq_of_pairwise (le:=(·<=·)) (λa b _ _ h1 h2=>Int.le_antisymm h1 h2) s h2 (h.trans (List.mergeSort_perm l _).symm)
theorem r6(l:List Int):(Iz l).length=l.length:=(List.mergeSort_perm l _).length_eq
theorem z9{l:List Int}{x:Int}:x∈Iz l↔x∈l:=(List.mergeSort_perm l _).mem_iff
theorem AM{wide high:Nat}{v:Int}(hw:wide<=13)(hh:high<=13)(h:v∈uC wide high):∃n:Nat,v=(n:Nat)/\n<169/\n%13<wide/\n/13<high:=by
 unfold uC at h;obtain⟨y,hy,hv⟩:=QU.mp h;obtain⟨x,hx,rfl⟩:=P_.mp hv;have hy:=Qe.mp hy;have hx:=Qe.mp hx;exact⟨13*y+x,rfl,by omega,by omega,by omega⟩
def da(v:Int):Int:=if v=0 then 2 else if v=1 then 0 else 1
theorem vX{v:Int}(h0:0<=v)(h3:v<=3):B7 ([.int 2,.int 0,.int 1,.int 1]:List V) v=some (.int (da v)):=by
 have:v=0\/v=1\/v=2\/v=3:=by omega
 rcases this with rfl|rfl|rfl|rfl<;>rfl
def reachOf(r:R0)(ps:List Int)(start:Nat):List Int:=(List.range 4).flatMap λ(d:Nat)=>bn r ps start d
def dq(r:R0)(ps:List Int)(start:Nat):List Int:=Iz (reachOf r ps start)
inductive zm(a:Ad)(vs:List V)(H:Hp)(Q:VK)(E:XK):Prop
 |mk (A:RA) (r:R0) (p:Addr) (ps:List Int) (start:Nat) (_:vs=[.ref A.x,.ref p,.int (start:Nat)]) (_:ou a H A r) (_:H p=some (.lst (ps.map V.int))) (_:ps.length=169) (_:start<169) (_:∀H' q,aD H H'->H q=none->H' q=some (.lst ((dq r ps start).map V.int))->Q (.ref q) H'):zm a vs H Q E
theorem rT{ws:List Addr}{i:Nat}{x:V}(h:(ws.map V.ref)[i]? =some x):∃w,ws[i]? =some w/\x=.ref w:=by
 rw[Qa]at h;cases e:ws[i]? with
 |none=>rw[e]at h;cases h
 |some w=>rw[e]at h;cases h;exact⟨w,rfl,rfl⟩
theorem mw(r:R0)(ps:List Int)(start d:Nat):(bn r ps start d).length<=13:=xZ _ _ _ _ _ _
theorem jY:az ["rules","pieces","start","targets","way"] ["rules","pieces","start"] (aj (top 22)):=aR
theorem vH(T:Tx K mg a):a4 P w K mg base (cW P w) 3 a.fU a.oY ["rules","pieces","start"] (zm a):=by
 refine T.fU.F.kP jY λcdv A outer s H vs Q E hr h=>?_;obtain⟨A',r,p,ps,start,rfl,R,hp,hl,hs,k⟩:=h
 exists aB (e_ 3 jY.nd (cb ae)) (aB (dI QS rfl (cN (au (pv 0) rfl)) (kT 4 jY.nd) (aF (aZ (jg Qy Rh Ri kI (pv 3) (aa (dm T.fD (o7 T) hr aK (aa (pv 0) (aa (pv 1) (aa (pv 2) (aa (pv 4) ae))))) ae))))) (aF (aE (bt rS rfl T.xF (by decide+kernel) (aa (pv 3) ae)))))
 refine⟨QG _,λq hq=>?_⟩;have S0:aD H (upd H q (.lst [])):=aA hq;refine⟨_,rfl,A'.x,_,_,_,_,rfl,S0 _ _ R.ins,T.aU.cl,T.gJ,rfl,A'.wz,rfl,⟨_,a0.of (S0 _ _ R.wz)⟩,?_⟩;refine fR (xs:=A'.ws.map V.ref) (λi σ H'=>∃u,σ=[some (.ref A'.x),some (.ref p),some (.int (start:Nat)),some (.ref q),u]/\aD H H'/\H' q=some (.lst (((List.range i).flatMap λ(d:Nat)=>bn r ps start d).map V.int))) ⟨_,rfl,S0,by rw[ah];rfl⟩ (λi σ H1 _⟨u,e,s1,h1⟩=>a0.of (s1 _ _ R.wz)) (λi x σ H1 hx hW=>?_) λσ H1 hW=>?_
 ·obtain⟨u,rfl,s1,h1⟩:=hW
  obtain⟨wa,hw,rfl⟩:=rT hx;have i4:i<4:=by rw[<-R.wl];exact(PQ.mp hw).1
  refine⟨_,rfl,.inl ⟨rfl,_,a0.of h1⟩,_,rfl,_,rfl,_,rfl,_,rfl,A',r,p,wa,ps,start,i,rfl,R.same s1,s1 _ _ hp,hl,hs,hw,λH2 y s2 hy h2=>?_⟩;refine⟨q,y,_,_,rfl,rfl,s2 _ _ h1,h2,?_,_,rfl,cY hq (s1.trans s2),?_⟩
  ·rw[Px,Px,PL]
   have:=jc (λ(d:Nat)=>bn r ps start d) 13 (λd=>mw r ps start d) i;have:=mw r ps start i;omega
  ·rw[ah,kJ,Qg]
 ·obtain⟨u,rfl,s1,h1⟩:=hW
  rw[Px,R.wl]at h1;refine⟨_,rfl,q,_,rfl,a0.of h1,?_,λns' y hp' hs' hy=>?_⟩
  ·have:=jc (λ(d:Nat)=>bn r ps start d) 13 (λd=>mw r ps start d) 4
   rw[PL];omega
  ·refine k _ y (s1.trans (aA hy)) (s1.free hy) ?_
   rw[ah,Dn hp' hs'];rfl
def cellsOf(r:R0)(ps:List Int)(turn:Int):List Int:=(uC r.wide r.high).filter λ(c:Int)=>decide (da (ps.getD c.toNat 0)=turn)
inductive EK(a:Ad)(vs:List V)(H:Hp)(Q:VK)(E:XK):Prop
 |mk (A:RA) (r:R0) (p:Addr) (ps:List Int) (turn:Int) (_:vs=[.ref A.x,.ref p,.int turn]) (_:ou a H A r) (_:H p=some (.lst (ps.map V.int))) (_:rZ ps) (_:∀H' q,aD H H'->H q=none->H' q=some (.lst ((cellsOf r ps turn).map V.int))->Q (.ref q) H'):EK a vs H Q E
theorem Ag(wide high:Nat)(hw:wide<=13)(hh:high<=13):(uC wide high).length<=169:=by
 have:=jc (λ(y:Nat)=>(List.range wide).map λ(x:Nat)=>((13*y+x:Nat):Int)) 13 (λi=>by rw[Px,QL];exact hw) high;unfold uC;omega
theorem o5:az ["rules","pieces","turn","cell"] ["rules","pieces","turn"] (aj (top 23)):=aR
theorem vd(T:Tx K mg a):a4 P w K mg base (cW P w) 1 a.jw a.xT ["rules","pieces","turn"] (EK a):=by
 refine T.jw.F.kP o5 λcdv A outer s H vs Q E hr h=>?_;obtain⟨A',r,p,ps,turn,rfl,R,hp,W,k⟩:=h
 exists aF (aE (lE (own:=[("cell",3)]) rfl o5.nd (cN (au (pv 0) rfl)) (cp rfl) (λ_ _ _ _ _=>(kT 3 o5.nd)) (λ_ _ _ _ _=>(EO (aI bO (bj (vQ K rfl) (J9 T.vV) (bj (sh K rfl) (pv 1) (pv 3) (λ_ _=>rfl)) (λ_ _=>rfl)) (pv 2) (aJ _)))) (λ_ _ _ _ _=>(pv 3))))
 have ul:=Ag r.wide r.high R.ok.w R.ok.h;refine⟨_,rfl,A'.x,_,_,_,_,rfl,R.ins,T.aU.cl,T.qZ,rfl,A'.cs,rfl,⟨_,a0.of R.cs⟩,λD hD=>iU (J:=C9 K A'.cs) (n:=(uC r.wide r.high).length) (λi=>((((uC r.wide r.high).take i).filter λ(c:Int)=>decide (da (ps.getD c.toNat 0)=turn)).map V.int)) hD (by simp) (λi H hi s=>⟨_,V.int ((uC r.wide r.high)[i]'hi),a0.of (s _ _ R.cs),by simp⟩) (λH s=>⟨_,a0.of (s _ _ R.cs),by rw[Px];exact PF _⟩) (λi H' hi s1 e1 y H2 hy=>?_) λH' s1 e1=>?_⟩
 ·obtain⟨rfl,hy⟩:=hy
  have hx:(uC r.wide r.high)[i]? =some ((uC r.wide r.high)[i]'hi):=PD hi;have hy':=hy _ (a0.of (s1 _ _ R.cs));rw[Qa,hx]at hy';cases hy';obtain⟨n,en,n1,n2,n3⟩:=AM R.ok.w R.ok.h (RT hi);generalize(uC r.wide r.high)[i]'hi=v at*;subst en;have en:((n:Nat):Int).toNat=n:=rfl;have ap:=cO (l:=ps) (c:=n) (by rw[W.len];exact n1);obtain⟨v0,v3⟩:=W.val n;refine⟨rfl,_,rfl,_,rfl,p,_,_,_,rfl,rfl,a0.of (s1 _ _ hp),at_of (j:=n) rfl ap,a.qu,_,_,_,rfl,rfl,T.vP _,vX v0 v3,_,rfl,rfl,_,rfl,dG (λg1=>?_) λg1=>?_⟩
  ·refine⟨_,rfl,?_⟩
   refine Got.of hD s1 e1 (aD.refl _) ?_ ?_
   ·rw[Px]
    have:=Sb (λ(c:Int)=>decide (da (ps.getD c.toNat 0)=turn)) ((uC r.wide r.high).take i);rw[Qt]at this;omega
   ·rw[qy _ hx,Qg,en,Pz (PJ g1)]
    rfl
  ·refine⟨s1,?_⟩
   rw[e1,qy _ hx,en,Py (by rw[Qr g1];exact PM),QA]
 ·refine k _ D s1 hD ?_
  rw[e1,Qp (PF _)];rfl
def BY(r:R0)(ps:List Int)(turn:Int):Bool:=(cellsOf r ps turn).any λ(c:Int)=>(List.range 4).any λ(d:Nat)=>decide (0<(bn r ps c.toNat d).length)
inductive Kj(a:Ad)(vs:List V)(H:Hp)(Q:VK)(E:XK):Prop
 |mk (A:RA) (r:R0) (p:Addr) (ps:List Int) (turn:Int) (_:vs=[.ref A.x,.ref p,.int turn]) (_:ou a H A r) (_:H p=some (.lst (ps.map V.int))) (_:rZ ps) (_:∀H',aD H H'->Q (.bl (BY r ps turn)) H'):Kj a vs H Q E
theorem any_of_none{α:Type}{l:List α}{f:α->Bool}(h:∀(i:Nat)(x:α),l[i]? =some x->f x=false):l.any f=false:=by
 rw[Rj];intro x hx;obtain⟨i,hi,e⟩:=Ro hx;rw[h i x (by rw[PD hi,e])];exact PM
theorem int_at{l:List Int}{i:Nat}{x:V}(h:(l.map V.int)[i]? =some x):∃v,l[i]? =some v/\x=.int v:=by
 rw[Qa]at h;cases e:l[i]? with
 |none=>rw[e]at h;cases h
 |some w=>rw[e]at h;cases h;exact⟨w,rfl,rfl⟩
theorem jK{r:R0}{ps:List Int}{turn v:Int}(W:zT r)(h:v∈cellsOf r ps turn):∃n:Nat,v=(n:Nat)/\n<169/\n%13<r.wide/\n/13<r.high:=AM W.w W.h (Qz.mp h).1
theorem oV:az ["rules","pieces","turn","start","way"] ["rules","pieces","turn"] (aj (top 24)):=aR
theorem Bp(T:Tx K mg a):a4 P w K mg base (cW P w) 3 a.li a.w9 ["rules","pieces","turn"] (Kj a):=by
 refine T.li.F.kP oV λcdv A outer s H vs Q E hr h=>?_;obtain⟨A',r,p,ps,turn,rfl,R,hp,W,k⟩:=h
 exists aB (dI QS rfl (cN (dm T.jw (vd T) hr aK (aa (pv 0) (aa (pv 1) (aa (pv 2) ae))))) (kT 3 oV.nd) (aF (dI QS rfl (cN (au (pv 0) rfl)) (kT 4 oV.nd) (aF (bE (aI oC (bt bN rfl T.mj (by decide+kernel) (aa (dm T.fD (o7 T) hr aK (aa (pv 0) (aa (pv 1) (aa (pv 3) (aa (pv 4) ae))))) ae)) aw (aJ _)) (aF (aE qT)) aX))))) (aF (aE qT))
 refine⟨_,rfl,_,rfl,_,rfl,A',r,p,ps,turn,rfl,R,hp,W,λH1 l s1 hl h1=>⟨l,rfl,⟨_,a0.of h1⟩,?_⟩⟩;refine fR (xs:=(cellsOf r ps turn).map V.int) (λi σ H'=>∃u v,σ=[some (.ref A'.x),some (.ref p),some (.int turn),u,v]/\aD H1 H'/\∀j x,j<i->(cellsOf r ps turn)[j]? =some x->((List.range 4).any λ(d:Nat)=>decide (0<(bn r ps x.toNat d).length))=false) ⟨_,_,rfl,aD.refl _,λj x h=>absurd h (Nat.not_lt_zero _)⟩ (λi σ H2 _⟨u,v,e,s2,h2⟩=>a0.of (s2 _ _ h1)) (λi x σ H2 hx hW=>?_) λσ H2 hW=>?_
 ·obtain⟨u,v,rfl,s2,h2⟩:=hW
  obtain⟨cv,hc,rfl⟩:=int_at hx;obtain⟨c,rfl,c1,_,_⟩:=jK R.ok (Ql hc);have R2:=R.same (s1.trans s2);refine⟨_,rfl,A'.x,_,_,_,_,rfl,R2.ins,T.aU.cl,T.gJ,rfl,A'.wz,rfl,⟨_,a0.of R2.wz⟩,?_⟩;refine fR (xs:=A'.ws.map V.ref) (λj σ H'=>∃v,σ=[some (.ref A'.x),some (.ref p),some (.int turn),some (.int (c:Nat)),v]/\aD H1 H'/\∀d,d<j->0=(bn r ps c d).length) ⟨_,rfl,s2,λd h=>absurd h (Nat.not_lt_zero _)⟩ (λi σ H2 _⟨v,e,s2,h2⟩=>a0.of ((s1.trans s2) _ _ R.wz)) (λj x σ H3 hx hW=>?_) λσ H3 hW=>?_
  ·obtain⟨v,rfl,s3,h3⟩:=hW
   obtain⟨wa,hw,rfl⟩:=rT hx;have j4:j<4:=by rw[<-R.wl];exact(PQ.mp hw).1
   have s13:=s1.trans s3;refine⟨_,rfl,_,rfl,_,rfl,_,rfl,A',r,p,wa,ps,c,j,rfl,R.same s13,s13 _ _ hp,W.len,c1,hw,λH4 y s4 hy h4=>?_⟩;refine⟨y,_,rfl,.inl (a0.of h4),_,_,rfl,rfl,_,rfl,gB (λg1=>?_) λg1=>?_⟩
   ·have g1:=PR g1
    rw[Px]at g1;have e:BY r ps turn=true:=QR.mpr ⟨_,Ql hc,QR.mpr ⟨j,Qe.mpr j4,PJ (by show 0<(bn r ps c j).length;omega)⟩⟩;rw[e]at k;exact k _ (s13.trans s4)
   ·have g1:¬(0:Int)<(((bn r ps c j).map V.int).length:Nat):=λz=>g1 (PJ z)
    rw[Px]at g1;refine⟨_,rfl,s3.trans s4,λd hd=>?_⟩;rcases RS.mp hd with q|q
    ·exact h3 d q
    ·subst q
     omega
  ·obtain⟨v,rfl,s3,h3⟩:=hW
   rw[Px,R.wl]at h3;refine⟨_,_,rfl,s3,λj x hj hx'=>?_⟩;rcases RS.mp hj with q|q
   ·exact h2 j x q hx'
   ·subst q
    rw[hc]at hx';cases hx';rw[Rj];intro d hd;have:=h3 d (Qe.mp hd);show¬decide (0<(bn r ps c d).length)=true;rw[<-this];decide
 ·obtain⟨u,v,rfl,s2,h2⟩:=hW
  rw[Px]at h2;have e:BY r ps turn=false:=any_of_none λi x hx=>h2 i x ((PQ.mp hx).1) hx;rw[e]at k;exact k _ (s1.trans s2)
def Aw(r:R0)(ps:List Int)(c:Nat):Int:=if r.ground.getD c 0=2 then r.exits else if r.ground.getD c 0=1/\ps.getD c 0=0 then r.seat else 0
def kR(piece:Int):Int:=if piece=1 then 1 else 2
def kW(r:R0)(ps:List Int)(c:Nat)(piece:Int):Bool:=decide (0<Builtin.bitAnd (Aw r ps c) (kR piece))
inductive zo(a:Ad)(vs:List V)(H:Hp)(Q:VK)(E:XK):Prop
 |mk (A:RA) (r:R0) (p:Addr) (ps:List Int) (piece:Int) (c:Nat) (_:vs=[.ref A.x,.ref p,.int (c:Nat),.int piece]) (_:ou a H A r) (_:H p=some (.lst (ps.map V.int))) (_:ps.length=169) (_:c<169) (_:Q (.bl (kW r ps c piece)) H):zo a vs H Q E
theorem gS:az ["rules","pieces","cell","piece","enmity","share"] ["rules","pieces","cell","piece"] (aj (top 25)):=aR
theorem y8(T:Tx K mg a):a4 P w K mg base (cW P w) 1 a.ja a.sH ["rules","pieces","cell","piece"] (zo a):=by
 refine T.ja.F.kP gS λcdv A outer s H vs Q E hr h=>?_;obtain⟨A',r,p,ps,piece,c,rfl,R,hp,hl,hc,k⟩:=h
 exists aB (e_ 4 gS.nd aw) (aB (bE (aI bO (bj a_ (au (pv 0) rfl) (pv 2) (λ_ _=>rfl)) (mL T.AT) (aJ _)) (aF (e_ 4 gS.nd (au (pv 0) rfl))) (aF (bE (PW.pt (gM (aI bO (bj a_ (au (pv 0) rfl) (pv 2) (λ_ _=>rfl)) (mL T.AB) (aJ _)) (fc (aI bO (bj a_ (pv 1) (pv 2) (λ_ _=>rfl)) (mL T.iF) (aJ _))))) (aF (e_ 4 gS.nd (au (pv 0) rfl))) aX))) (aB (e_ 5 gS.nd (wY (aI bO (pv 3) (mL T.B_) (aJ _)) aw aw)) (aF (aE (d9 oC (bv Lu (pv 4) (pv 5)) aw (aJ _))))))
 have ag:=cO (l:=r.ground) (c:=c) (by rw[R.ok.g];exact hc);have ap:=cO (l:=ps) (c:=c) (by rw[hl];exact hc);unfold kW at k;refine⟨_,rfl,A'.x,_,_,_,_,rfl,R.ins,T.aU.cl,T.du,rfl,_,rfl,A'.gr,_,_,_,rfl,rfl,a0.of R.gr,at_of (j:=c) rfl ag,rfl,_,rfl,dG (λh1=>?_) λh1=>⟨_,rfl,A'.x,_,_,_,_,rfl,R.ins,T.aU.cl,T.du,rfl,_,rfl,A'.gr,_,_,_,rfl,rfl,a0.of R.gr,at_of (j:=c) rfl ag,rfl,_,rfl,dG (λh2=>⟨_,rfl,_,rfl,p,_,_,_,rfl,rfl,a0.of hp,at_of (j:=c) rfl ap,rfl,_,rfl,dG (λh3=>?_) λh3=>?_⟩) λh2=>?_⟩⟩
 ·have e:Aw r ps c=r.exits:=Pz h1
  rw[e]at k;refine⟨_,rfl,A'.x,_,_,_,_,rfl,R.ins,T.aU.cl,T.qW,rfl,_,rfl,rfl,_,rfl,dG (λh4=>?_) λh4=>?_⟩
  ·rw[show kR piece=1 from Pz h4]at k
   exact⟨_,rfl,_,rfl,_,_,rfl,rfl,_,_,rfl,rfl,k⟩
  ·rw[show kR piece=2 from Py h4]at k
   exact⟨_,rfl,_,rfl,_,_,rfl,rfl,_,_,rfl,rfl,k⟩
 ·have e:Aw r ps c=r.seat:=by unfold Aw;rw[Py h1,Pz ⟨h2,h3⟩]
  rw[e]at k;refine⟨_,rfl,A'.x,_,_,_,_,rfl,R.ins,T.aU.cl,T.si,rfl,_,rfl,rfl,_,rfl,dG (λh4=>?_) λh4=>?_⟩
  ·rw[show kR piece=1 from Pz h4]at k
   exact⟨_,rfl,_,rfl,_,_,rfl,rfl,_,_,rfl,rfl,k⟩
  ·rw[show kR piece=2 from Py h4]at k
   exact⟨_,rfl,_,rfl,_,_,rfl,rfl,_,_,rfl,rfl,k⟩
 ·have e:Aw r ps c=0:=by unfold Aw;rw[Py h1,Py (λz=>h3 z.2)]
  rw[e]at k;refine⟨_,rfl,rfl,_,rfl,dG (λh4=>?_) λh4=>?_⟩
  ·rw[show kR piece=1 from Pz h4]at k
   exact⟨_,rfl,_,rfl,_,_,rfl,rfl,_,_,rfl,rfl,k⟩
  ·rw[show kR piece=2 from Py h4]at k
   exact⟨_,rfl,_,rfl,_,_,rfl,rfl,_,_,rfl,rfl,k⟩
 ·have e:Aw r ps c=0:=by unfold Aw;rw[Py h1,Py (λz=>h2 z.1)]
  rw[e]at k;refine⟨_,rfl,rfl,_,rfl,dG (λh4=>?_) λh4=>?_⟩
  ·rw[show kR piece=1 from Pz h4]at k
   exact⟨_,rfl,_,rfl,_,_,rfl,rfl,_,_,rfl,rfl,k⟩
  ·rw[show kR piece=2 from Py h4]at k
   exact⟨_,rfl,_,rfl,_,_,rfl,rfl,_,_,rfl,rfl,k⟩
def rN(r:R0)(piece side:Int):Bool:=decide (da piece=side)&&(!decide (piece=3)||decide (r.armed=1))
inductive Ei(a:Ad)(vs:List V)(H:Hp)(Q:VK)(E:XK):Prop
 |mk (A:RA) (r:R0) (piece side:Int) (_:vs=[.ref A.x,.int piece,.int side]) (_:ou a H A r) (_:0<=piece) (_:piece<=3) (_:Q (.bl (rN r piece side)) H):Ei a vs H Q E
theorem GA:az ["rules","piece","side"] ["rules","piece","side"] (aj (top 26)):=aR
theorem GM(T:Tx K mg a):a4 P w K mg base (cW P w) 1 a.r8 a.Et ["rules","piece","side"] (Ei a):=by
 refine T.r8.F.kP GA λcdv A outer s H vs Q E hr h=>?_;obtain⟨A',r,piece,side,rfl,R,v0,v3,k⟩:=h
 exists aF (aE (wm (d9 bO (bj ji (J9 T.vV) (pv 1) (λ_ _=>rfl)) (pv 2) (aJ _)) (p8 (GS (d9 EH (pv 1) (mL T.j0) (aJ _)) (p8 (d9 bO (au (pv 0) rfl) aw (aJ _)))))))
 unfold rN at k;refine⟨_,rfl,a.qu,_,_,_,rfl,rfl,T.vP _,vX v0 v3,_,rfl,rfl,_,rfl,dG (λh1=>?_) λh1=>?_⟩
 ·rw[PJ h1,Bool.true_and]at k
  refine⟨_,rfl,rfl,_,rfl,M0 (λh2=>?_) λh2=>?_⟩
  ·rw[Qr h2]at k
   exact k
  ·rw[PJ h2]at k
   refine⟨_,rfl,A'.x,_,_,_,_,rfl,R.ins,T.aU.cl,T.mO,rfl,rfl,?_⟩;rw[g9];exact k
 ·rw[Qr h1]at k
  exact k
def pZ(r:R0)(ps:List Int)(cell victim side:Int):Bool:=if cell<0 then false else rN r (ps.getD cell.toNat 0) side||kW r ps cell.toNat victim
inductive Hb(a:Ad)(vs:List V)(H:Hp)(Q:VK)(E:XK):Prop
 |mk (A:RA) (r:R0) (p:Addr) (ps:List Int) (cell victim side:Int) (_:vs=[.ref A.x,.ref p,.int cell,.int victim,.int side]) (_:ou a H A r) (_:H p=some (.lst (ps.map V.int))) (_:rZ ps) (_:(cell= -1\/∃c:Nat,cell=(c:Nat)/\c<169)) (_:Q (.bl (pZ r ps cell victim side)) H):Hb a vs H Q E
theorem Dl:az ["rules","pieces","cell","victim","side"] ["rules","pieces","cell","victim","side"] (aj (top 27)):=aR
theorem xB(T:Tx K mg a):a4 P w K mg base (cW P w) 2 a.kF a.zH ["rules","pieces","cell","victim","side"] (Hb a):=by
 refine T.kF.F.kP Dl λcdv A outer s H vs Q E hr h=>?_;obtain⟨A',r,p,ps,cell,victim,side,rfl,R,hp,W,hc,k⟩:=h
 exists aB (bE (aI uL (pv 2) aw (aJ _)) (aF (aE qT)) aX) (aF (aE (GS (dm T.r8 (GM T) hr aK (aa (pv 0) (aa (bj a_ (pv 1) (pv 2) (λ_ _=>rfl)) (aa (pv 4) ae)))) (p8 (dm T.ja (y8 T) hr aK (aa (pv 0) (aa (pv 1) (aa (pv 2) (aa (pv 3) ae)))))))))
 unfold pZ at k;refine⟨_,rfl,_,_,rfl,rfl,_,rfl,gB (λh1=>?_) λh1=>?_⟩
 ·rw[Pz (PR h1)]at k
  exact k
 ·have h1:¬cell<0:=λz=>h1 (PJ z)
  rw[Py h1]at k;rcases hc with hc|⟨c,rfl,c1⟩
  ·omega
  replace k:Q (.bl (rN r (ps.getD c 0) side||kW r ps c victim)) H:=k;have ap:=cO (l:=ps) (c:=c) (by rw[W.len];exact c1);obtain⟨v0,v3⟩:=W.val c;refine⟨_,rfl,_,rfl,_,rfl,p,_,_,_,rfl,rfl,a0.of hp,at_of (j:=c) rfl ap,_,rfl,A',r,_,_,rfl,R,v0,v3,_,rfl,fO (λh2=>?_) λh2=>?_⟩
  ·rw[h2]at k
   exact k
  ·rw[h2,Bool.false_or]at k
   exact⟨_,rfl,_,rfl,_,rfl,_,rfl,A',r,p,ps,victim,c,rfl,R,hp,W.len,c1,k⟩
def lJ(r:R0)(ps:List Int)(c d:Nat)(side:Int):Bool:=if ps.getD c 0=3/\r.four=1 then(List.range 4).all λ(e:Nat)=>pZ r ps (di r.wide r.high c (cB e) (cC e)) (ps.getD c 0) side else pZ r ps (di r.wide r.high c (cB d) (cC d)) (ps.getD c 0) side
inductive EY(a:Ad)(vs:List V)(H:Hp)(Q:VK)(E:XK):Prop
 |mk (A:RA) (r:R0) (p wa:Addr) (ps:List Int) (c d:Nat) (side:Int) (_:vs=[.ref A.x,.ref p,.int (c:Nat),.ref wa,.int side]) (_:ou a H A r) (_:H p=some (.lst (ps.map V.int))) (_:rZ ps) (_:c<169) (_:A.ws[d]? =some wa) (_:∀H',aD H H'->Q (.bl (lJ r ps c d side)) H'):EY a vs H Q E
theorem tY{wide high d c:Nat}(hd:d<4)(hc:c<169)(hw:wide<=13)(hh:high<=13):di wide high c (cB d) (cC d)= -1\/∃n:Nat,di wide high c (cB d) (cC d)=(n:Nat)/\n<169:=by
 rcases iu hd hc hw hh with h|⟨n,h1,h2,_⟩
 ·exact .inl h
 ·exact .inr ⟨n,h1,h2⟩
theorem mo:az ["rules","pieces","cell","way","side","victim","near"] ["rules","pieces","cell","way","side"] (aj (top 28)):=aR
theorem BG(T:Tx K mg a):a4 P w K mg base (cW P w) 3 a.k_ a.yr ["rules","pieces","cell","way","side"] (EY a):=by
 refine T.k_.F.kP mo λcdv A outer s H vs Q E hr h=>?_;obtain⟨A',r,p,wa,ps,c,d,side,rfl,R,hp,W,c1,hw,k⟩:=h
 exists aB (e_ 5 mo.nd (bj a_ (pv 1) (pv 2) (λ_ _=>rfl))) (aB (bE (PW.pt (gM (aI bO (pv 5) (mL T.j0) (aJ _)) (fc (aI bO (au (pv 0) rfl) aw (aJ _))))) (aF (aE (bt (K1 rfl) rfl T.No (by decide+kernel) (aa (lE (own:=[("near",6)]) rfl mo.nd (cN (au (pv 0) rfl)) (cp rfl) (λ_ _ _ _ _=>(kT 6 mo.nd)) (λ_ _ _ _ _=>dZ) (λ_ _ _ _ _=>(dm T.kF (xB T) hr aK (aa (pv 0) (aa (pv 1) (aa (bj (sh K rfl) (pv 6) (pv 2) (λ_ _=>rfl)) (aa (pv 5) (aa (pv 4) ae)))))))) ae)))) aX) (aF (aE (dm T.kF (xB T) hr aK (aa (pv 0) (aa (pv 1) (aa (bj a_ (pv 3) (pv 2) (λ_ _=>rfl)) (aa (pv 5) (aa (pv 4) ae)))))))))
 have ap:=cO (l:=ps) (c:=c) (by rw[W.len];exact c1);have wy:=R.wy d wa hw;have hd:d<4:=by rw[<-R.wl];exact(PQ.mp hw).1
 unfold lJ at k;have last:¬(ps.getD c 0=3/\r.four=1)->Q (.bl (pZ r ps (di r.wide r.high c (cB d) (cC d)) (ps.getD c 0) side)) H:=λz=>by
  have k:=k H (aD.refl _);rw[Py z]at k;exact k
 have bi:=tY (c:=c) hd c1 R.ok.w R.ok.h;refine⟨_,rfl,_,rfl,p,_,_,_,rfl,rfl,a0.of hp,at_of (j:=c) rfl ap,?_⟩;refine⟨_,rfl,rfl,_,rfl,dG (λh1=>⟨_,rfl,A'.x,_,_,_,_,rfl,R.ins,T.aU.cl,T.sm,rfl,rfl,_,rfl,dG (λh2=>?_) λh2=>?_⟩) λh1=>?_⟩
 ·rw[Pz ⟨h1,h2⟩]at k
  refine⟨_,rfl,A'.x,_,_,_,_,rfl,R.ins,T.aU.cl,T.gJ,rfl,A'.wz,rfl,⟨_,a0.of R.wz⟩,λD hD=>iU (J:=C9 K A'.wz) (n:=4) (λi=>((List.range i).map λ(e:Nat)=>V.bl (pZ r ps (di r.wide r.high c (cB e) (cC e)) (ps.getD c 0) side))) hD rfl (λi H hi s=>⟨_,_,a0.of (s _ _ R.wz),by rw[PD (by rw[Px,R.wl];exact hi)]⟩) (λH s=>⟨_,a0.of (s _ _ R.wz),by rw[Px,R.wl];exact PF _⟩) (λi H' hi s1 e1 y H2 hy=>?_) λH' s1 e1=>?_⟩
  ·obtain⟨rfl,hy⟩:=hy
   obtain⟨wb,hb,rfl⟩:=rT (hy _ (a0.of (s1 _ _ R.wz)));have wyb:=s1 _ _ (R.wy i wb hb);refine⟨rfl,_,rfl,_,rfl,_,rfl,_,rfl,wb,_,_,_,rfl,rfl,a0.of wyb,at_of (j:=c) rfl (mJ c1),_,rfl,_,rfl,A',r,p,ps,_,_,_,rfl,R.same s1,s1 _ _ hp,W,tY (c:=c) hi c1 R.ok.w R.ok.h,?_⟩;exact Got.of hD s1 e1 (aD.refl _) (by rw[Px,QL];omega) (pE _ i)
  ·refine⟨D,(List.range 4).map λ(e:Nat)=>pZ r ps (di r.wide r.high c (cB e) (cC e)) (ps.getD c 0) side,rfl,?_,?_⟩
   ·refine .inl (.inl ?_)
    rw[e1,QJ];rfl
   ·rw[List.all_map]
    exact k H' s1
 ·exact⟨_,rfl,_,rfl,_,rfl,_,rfl,wa,_,_,_,rfl,rfl,a0.of wy,at_of (j:=c) rfl (mJ c1),_,rfl,_,rfl,A',r,p,ps,_,_,_,rfl,R,hp,W,bi,last λz=>h2 z.2⟩
 ·exact⟨_,rfl,_,rfl,_,rfl,_,rfl,wa,_,_,_,rfl,rfl,a0.of wy,at_of (j:=c) rfl (mJ c1),_,rfl,_,rfl,A',r,p,ps,_,_,_,rfl,R,hp,W,bi,last λz=>h1 z.1⟩
def jq(r:R0)(ps:List Int)(t d:Nat):List Int:=if 0<=di r.wide r.high t (cB d) (cC d)/\da (ps.getD (di r.wide r.high t (cB d) (cC d)).toNat 0)=1-da (ps.getD t 0)/\lJ r ps (di r.wide r.high t (cB d) (cC d)).toNat d (da (ps.getD t 0))=true then[di r.wide r.high t (cB d) (cC d)]else[]
theorem yB(r:R0)(ps:List Int)(t d:Nat):(jq r ps t d).length<=1:=by
 unfold jq;split<;>simp
def bR(r:R0)(ps:List Int)(t:Nat):List Int:=if ps.getD t 0=3/\r.armed=0 then[]else Iz ((List.range 4).flatMap (jq r ps t))
inductive zh(a:Ad)(vs:List V)(H:Hp)(Q:VK)(E:XK):Prop
 |mk (A:RA) (r:R0) (p:Addr) (ps:List Int) (t:Nat) (_:vs=[.ref A.x,.ref p,.int (t:Nat)]) (_:ou a H A r) (_:H p=some (.lst (ps.map V.int))) (_:rZ ps) (_:t<169) (_:∀H' q,aD H H'->H q=none->H' q=some (.lst ((bR r ps t).map V.int))->Q (.ref q) H'):zh a vs H Q E
theorem fS:az ["rules","pieces","target","mover","side","foe","taken","way","cell"] ["rules","pieces","target"] (aj (top 29)):=aR
theorem B6(T:Tx K mg a):a4 P w K mg base (cW P w) 4 a.lS a.wV ["rules","pieces","target"] (zh a):=by
 refine T.lS.F.kP fS λcdv A outer s H vs Q E hr h=>?_;obtain⟨A',r,p,ps,t,rfl,R,hp,W,t1,k⟩:=h
 exists aB (e_ 3 fS.nd (bj a_ (pv 1) (pv 2) (λ_ _=>rfl))) (aB (e_ 4 fS.nd (bj ji (J9 T.vV) (pv 3) (λ_ _=>rfl))) (aB (bE (PW.pt (gM (aI bO (pv 3) (mL T.j0) (aJ _)) (fc (aI bO (au (pv 0) rfl) aw (aJ _))))) (aF (aE (cb ae))) aX) (aB (e_ 5 fS.nd (bv nZ aw (pv 4))) (aB (e_ 6 fS.nd (cb ae)) (aB (dI QS rfl (cN (au (pv 0) rfl)) (kT 7 fS.nd) (aB (e_ 8 fS.nd (bj a_ (pv 7) (pv 2) (λ_ _=>rfl))) (aF (bE (PW.pt (gM (aI zj (pv 8) aw (aJ _)) (gM (aI bO (bj ji (J9 T.vV) (bj a_ (pv 1) (pv 8) (λ_ _=>rfl)) (λ_ _=>rfl)) (pv 5) (aJ _)) (fc (dD (dm T.k_ (BG T) hr aK (aa (pv 0) (aa (pv 1) (aa (pv 8) (aa (pv 7) (aa (pv 4) ae))))))))))) (aF (aZ (jg Qy QV QW gm (pv 6) (aa (pv 8) ae)))) aX)))) (aF (aE (bt rS rfl T.xF (by decide+kernel) (aa (pv 6) ae)))))))))
 have ap:=cO (l:=ps) (c:=t) (by rw[W.len];exact t1);obtain⟨v0,v3⟩:=W.val t;have main:¬(ps.getD t 0=3/\r.armed=0)->∀H' q,aD H H'->H q=none->H' q=some (.lst ((Iz ((List.range 4).flatMap (jq r ps t))).map V.int))->Q (.ref q) H':=λz=>by
  unfold bR at k;rw[Py z]at k;exact k
 refine⟨_,rfl,_,rfl,p,_,_,_,rfl,rfl,a0.of hp,at_of (j:=t) rfl ap,?_⟩;refine⟨_,rfl,a.qu,_,_,_,rfl,rfl,T.vP _,vX v0 v3,?_⟩;refine have cont:¬(ps.getD t 0=3/\r.armed=0)->_:= ?c;⟨_,rfl,rfl,_,rfl,dG (λh1=>⟨_,rfl,A'.x,_,_,_,_,rfl,R.ins,T.aU.cl,T.mO,rfl,rfl,_,rfl,dG (λh2=>?_) λh2=>cont λz=>h2 z.2⟩) λh1=>cont λz=>h1 z.1⟩
 case c=>
  intro hn;have main:=main hn;refine⟨_,rfl,_,_,rfl,rfl,?_⟩;refine⟨QG _,λq hq=>?_⟩;have S0:aD H (upd H q (.lst [])):=aA hq;refine⟨_,rfl,A'.x,_,_,_,_,rfl,S0 _ _ R.ins,T.aU.cl,T.gJ,rfl,A'.wz,rfl,⟨_,a0.of (S0 _ _ R.wz)⟩,?_⟩;refine fR (xs:=A'.ws.map V.ref) (λi σ H'=>∃u v,σ=[some (.ref A'.x),some (.ref p),some (.int (t:Nat)),some (.int (ps.getD t 0)),some (.int (da (ps.getD t 0))),some (.int (1-da (ps.getD t 0))),some (.ref q),u,v]/\aD H H'/\H' q=some (.lst (((List.range i).flatMap (jq r ps t)).map V.int))) ⟨_,_,rfl,S0,by rw[ah];rfl⟩ (λi σ H1 _⟨u,v,e,s1,h1⟩=>a0.of (s1 _ _ R.wz)) (λi x σ H1 hx hW=>?_) λσ H1 hW=>?_
  ·obtain⟨u,v,rfl,s1,h1⟩:=hW
   obtain⟨wa,hw,rfl⟩:=rT hx;have i4:i<4:=by rw[<-R.wl];exact(PQ.mp hw).1
   have wy:=s1 _ _ (R.wy i wa hw);have nil:∀H2,aD H1 H2->jq r ps t i=[]->∃u v,[some (.ref A'.x),some (.ref p),some (.int (t:Nat)),some (.int (ps.getD t 0)),some (.int (da (ps.getD t 0))),some (.int (1-da (ps.getD t 0))),some (.ref q),some (.ref wa),some (V.int (di r.wide r.high t (cB i) (cC i)))]=[some (.ref A'.x),some (.ref p),some (.int (t:Nat)),some (.int (ps.getD t 0)),some (.int (da (ps.getD t 0))),some (.int (1-da (ps.getD t 0))),some (.ref q),u,v]/\aD H H2/\H2 q=some (.lst (((List.range (i+1)).flatMap (jq r ps t)).map V.int)):=λH2 s2 e=>⟨_,_,rfl,s1.trans s2,by rw[s2 _ _ h1,kJ,e,QA]⟩;refine⟨_,rfl,_,rfl,wa,_,_,_,rfl,rfl,a0.of wy,at_of (j:=t) rfl (mJ t1),?_⟩;have bc:=tY (c:=t) i4 t1 R.ok.w R.ok.h;have tk:jq r ps t i=if 0<=di r.wide r.high t (cB i) (cC i)/\da (ps.getD (di r.wide r.high t (cB i) (cC i)).toNat 0)=1-da (ps.getD t 0)/\lJ r ps (di r.wide r.high t (cB i) (cC i)).toNat i (da (ps.getD t 0))=true then[di r.wide r.high t (cB i) (cC i)]else[]:=rfl;generalize di r.wide r.high t (cB i) (cC i)=cell at*;refine⟨_,rfl,_,_,rfl,rfl,_,rfl,gB (λg1=>?_) λg1=>?_⟩
   ·have g1:=PR g1
    rcases bc with bc|⟨c,rfl,c1⟩
    ·omega
    have en:((c:Nat):Int).toNat=c:=rfl;rw[en]at tk;have ac:=cO (l:=ps) (c:=c) (by rw[W.len];exact c1);obtain⟨w0,w3⟩:=W.val c;refine⟨_,rfl,_,rfl,p,_,_,_,rfl,rfl,a0.of (s1 _ _ hp),at_of (j:=c) rfl ac,a.qu,_,_,_,rfl,rfl,T.vP _,vX w0 w3,_,rfl,rfl,_,rfl,dG (λg2=>?_) λg2=>?_⟩
    ·refine⟨_,rfl,_,rfl,_,rfl,_,rfl,_,rfl,A',r,p,wa,ps,c,i,_,rfl,R.same s1,s1 _ _ hp,W,c1,hw,λH2 s2=>⟨_,rfl,fO (λg3=>?_) λg3=>?_⟩⟩
     ·rw[Pz ⟨g1,g2,g3⟩]at tk
      have h2:=s2 _ _ h1;refine⟨_,rfl,.inl ⟨rfl,_,a0.of h2⟩,_,rfl,q,_,_,rfl,rfl,h2,?_,_,_,rfl,cY hq (s1.trans s2),?_⟩
      ·rw[Px,PL]
       have:=jc (jq r ps t) 1 (yB r ps t) i;omega
      ·rw[ah,kJ,tk,Qg]
       rfl
     ·rw[Py (λz=>by rw[z.2.2]at g3;cases g3)]at tk
      exact nil H2 s2 tk
    ·rw[Py (λz=>g2 z.2.1)]at tk
     exact nil H1 (aD.refl _) tk
   ·rw[Py (λz=>g1 (PJ z.1))]at tk
    exact nil H1 (aD.refl _) tk
  ·obtain⟨u,v,rfl,s1,h1⟩:=hW
   rw[Px,R.wl]at h1;refine⟨_,rfl,q,_,rfl,a0.of h1,?_,λns' y hp' hs' hy=>?_⟩
   ·have:=jc (jq r ps t) 1 (yB r ps t) 4
    rw[PL];omega
   ·refine main _ y (s1.trans (aA hy)) (s1.free hy) ?_
    rw[ah,Dn hp' hs']
 ·unfold bR at k
  rw[Pz ⟨h1,h2⟩]at k;exact⟨QG _,λq hq=>k _ q (aA hq) hq (by rw[ah];rfl)⟩
def xV(r:R0)(c:Nat):Bool:=(List.range 4).any λ(d:Nat)=>decide (di r.wide r.high c (cB d) (cC d)<0)
inductive Go(a:Ad)(vs:List V)(H:Hp)(Q:VK)(E:XK):Prop
 |mk (A:RA) (r:R0) (c:Nat) (_:vs=[.ref A.x,.int (c:Nat)]) (_:ou a H A r) (_:c<169) (_:∀H',aD H H'->Q (.bl (xV r c)) H'):Go a vs H Q E
theorem jn:az ["self","cell","way"] ["self","cell"] (aj (inClass (top 78) 1)):=aR
theorem nE(T:Tx K mg a):a4 P w K mg base (cW P w) 1 a.dQ a.oN ["self","cell"] (Go a):=by
 refine T.dQ.F.kP jn λcdv A outer s H vs Q E hr h=>?_;obtain⟨A',r,c,rfl,R,c1,k⟩:=h
 exists aF (aE (bt (CV rfl) rfl T.Ii (by decide+kernel) (aa (lE (own:=[("way",2)]) rfl jn.nd (cN (au (pv 0) rfl)) (cp rfl) (λ_ _ _ _ _=>(kT 2 jn.nd)) (λ_ _ _ _ _=>dZ) (λ_ _ _ _ _=>(d9 uL (bj (sh K rfl) (pv 2) (pv 1) (λ_ _=>rfl)) aw (aJ _)))) ae)))
 refine⟨_,rfl,A'.x,_,_,_,_,rfl,R.ins,T.aU.cl,T.gJ,rfl,A'.wz,rfl,⟨_,a0.of R.wz⟩,λD hD=>iU (J:=C9 K A'.wz) (n:=4) (λi=>((List.range i).map λ(e:Nat)=>V.bl (decide (di r.wide r.high c (cB e) (cC e)<0)))) hD rfl (λi H hi s=>⟨_,_,a0.of (s _ _ R.wz),by rw[PD (by rw[Px,R.wl];exact hi)]⟩) (λH s=>⟨_,a0.of (s _ _ R.wz),by rw[Px,R.wl];exact PF _⟩) (λi H' hi s1 e1 y H2 hy=>?_) λH' s1 e1=>?_⟩
 ·obtain⟨rfl,hy⟩:=hy
  obtain⟨wb,hb,rfl⟩:=rT (hy _ (a0.of (s1 _ _ R.wz)));have wyb:=s1 _ _ (R.wy i wb hb);refine⟨rfl,_,rfl,_,rfl,wb,_,_,_,rfl,rfl,a0.of wyb,at_of (j:=c) rfl (mJ c1),_,_,rfl,rfl,?_⟩;exact Got.of hD s1 e1 (aD.refl _) (by rw[Px,QL];omega) (pE _ i)
 ·refine⟨D,(List.range 4).map λ(e:Nat)=>decide (di r.wide r.high c (cB e) (cC e)<0),rfl,?_,?_⟩
  ·refine .inl (.inl ?_)
   rw[e1,QJ];rfl
  ·rw[Rr]
   exact k H' s1
def x9(r:R0)(c:Nat):Bool:=if r.goal=1 then decide (r.ground.getD c 0=2)else xV r c
inductive Gn(a:Ad)(vs:List V)(H:Hp)(Q:VK)(E:XK):Prop
 |mk (A:RA) (r:R0) (c:Nat) (_:vs=[.ref A.x,.int (c:Nat)]) (_:ou a H A r) (_:c<169) (_:∀H',aD H H'->Q (.bl (x9 r c)) H'):Gn a vs H Q E
theorem yQ:az ["rules","king"] ["rules","king"] (aj (top 30)):=aR
theorem y9(T:Tx K mg a):a4 P w K mg base (cW P w) 2 a.iI a.sU ["rules","king"] (Gn a):=by
 refine T.iI.F.kP yQ λcdv A outer s H vs Q E hr h=>?_;obtain⟨A',r,c,rfl,R,c1,k⟩:=h
 exists aB (bE (aI bO (au (pv 0) rfl) aw (aJ _)) (aF (aE (d9 bO (bj a_ (au (pv 0) rfl) (pv 1) (λ_ _=>rfl)) (mL T.AT) (aJ _)))) aX) (aF (aE (je (pv 0) T.aU T.dQ (nE T) hr aK (aa (pv 1) ae))))
 have ag:=cO (l:=r.ground) (c:=c) (by rw[R.ok.g];exact c1);unfold x9 at k;refine⟨_,rfl,A'.x,_,_,_,_,rfl,R.ins,T.aU.cl,T.su,rfl,rfl,_,rfl,dG (λh1=>?_) λh1=>?_⟩
 ·rw[Pz h1]at k
  refine⟨_,rfl,A'.x,_,_,_,_,rfl,R.ins,T.aU.cl,T.du,rfl,_,rfl,A'.gr,_,_,_,rfl,rfl,a0.of R.gr,at_of (j:=c) rfl ag,rfl,?_⟩;rw[g9];exact k H (aD.refl _)
 ·rw[Py h1]at k
  exact⟨_,rfl,A'.x,_,_,rfl,R.ins,rfl,_,rfl,A',r,c,rfl,R,c1,k⟩
structure vY(a:Ad)(H:Hp)(x dx p:Addr)(ps:List Int)(t:Int):Prop where
 ins:H x=some (.ins a.bK dx (Al p t))
 pc:H p=some (.lst (ps.map V.int))
 ok:rZ ps
 tn:t=0\/t=1
theorem vY.same{H H':Hp}{x dx p:Addr}{ps:List Int}{t:Int}(R:vY a H x dx p ps t)(s:aD H H'):vY a H' x dx p ps t:=⟨s _ _ R.ins,s _ _ R.pc,R.ok,R.tn⟩
theorem Eh{ps:List Int}(W:rZ ps):gi ps= -1\/∃c:Nat,gi ps=(c:Nat)/\c<169:=by
 unfold gi
 by_cases h:(3:Int)∈ps
 ·rw[Pz h]
  exact .inr ⟨_,rfl,by rw[<-W.len];exact Q9 ⟨3,h,rfl⟩⟩
 ·rw[Py h]
  exact .inl rfl
def fW(r:R0)(ps:List Int):Int:=if gi ps<0 then 1 else if x9 r (gi ps).toNat=true then 2 else 0
inductive EW(a:Ad)(vs:List V)(H:Hp)(Q:VK)(E:XK):Prop
 |mk (A:RA) (r:R0) (x dx p:Addr) (ps:List Int) (t:Int) (_:vs=[.ref A.x,.ref x]) (_:ou a H A r) (_:vY a H x dx p ps t) (_:∀H',aD H H'->Q (.int (fW r ps)) H'):EW a vs H Q E
theorem oK:az ["rules","position","king"] ["rules","position"] (aj (top 31)):=aR
theorem oz(T:Tx K mg a):a4 P w K mg base (cW P w) 3 a.eJ a.pd ["rules","position"] (EW a):=by
 refine T.eJ.F.kP oK λcdv A outer s H vs Q E hr h=>?_;obtain⟨A',r,x,dx,p,ps,t,rfl,R,Pp,k⟩:=h
 exists aB (e_ 2 oK.nd (dm T.iw (s_ T) hr aK (aa (au (pv 1) rfl) ae))) (aB (bE (aI uL (pv 2) aw (aJ _)) (aF (aE aw)) aX) (aF (aE (wY (dD (dm T.iI (y9 T) hr aK (aa (pv 0) (aa (pv 2) ae)))) aw aw))))
 unfold fW at k;have kl:=Eh Pp.ok;refine⟨_,rfl,x,_,_,_,_,rfl,Pp.ins,T.bQ.cl,T.bS,rfl,p,ps,rfl,a0.of Pp.pc,?_⟩;generalize gi ps=kc at*;refine⟨_,rfl,_,_,rfl,rfl,_,rfl,gB (λh1=>?_) λh1=>?_⟩
 ·rw[Pz (PR h1)]at k
  exact k H (aD.refl _)
 ·have h1:¬kc<0:=λz=>h1 (PJ z)
  rw[Py h1]at k;rcases kl with kl|⟨c,rfl,c1⟩
  ·omega
  refine⟨_,rfl,_,rfl,A',r,c,rfl,R,c1,λH1 s1=>⟨_,rfl,fO (λh2=>?_) λh2=>?_⟩⟩
  ·replace k:∀H',aD H H'->Q (.int (if x9 r c=true then 2 else 0)) H':=k
   rw[Pz h2]at k;exact k H1 s1
  ·replace k:∀H',aD H H'->Q (.int (if x9 r c=true then 2 else 0)) H':=k
   rw[Py (by rw[h2];exact PM)]at k;exact k H1 s1
def overOf(r:R0)(ps:List Int)(t:Int):Int:=if fW r ps=0/\BY r ps t=false then 3 else fW r ps
inductive Kc(a:Ad)(vs:List V)(H:Hp)(Q:VK)(E:XK):Prop
 |mk (A:RA) (r:R0) (x dx p:Addr) (ps:List Int) (t:Int) (_:vs=[.ref A.x,.ref x]) (_:ou a H A r) (_:vY a H x dx p ps t) (_:∀H',aD H H'->Q (.int (overOf r ps t)) H'):Kc a vs H Q E
theorem uM:az ["rules","position","over"] ["rules","position"] (aj (top 32)):=aR
theorem uD(T:Tx K mg a):a4 P w K mg base (cW P w) 4 a.jk a.wU ["rules","position"] (Kc a):=by
 refine T.jk.F.kP uM λcdv A outer s H vs Q E hr h=>?_;obtain⟨A',r,x,dx,p,ps,t,rfl,R,Pp,k⟩:=h
 exists aB (e_ 2 uM.nd (dm T.eJ (oz T) hr aK (aa (pv 0) (aa (pv 1) ae)))) (aB (bE (PW.pt (gM (aI bO (pv 2) aw (aJ _)) (fc (lK (dD (dm T.li (Bp T) hr aK (aa (pv 0) (aa (au (pv 1) rfl) (aa (au (pv 1) rfl) ae))))))))) (aF (aE aw)) aX) (aF (aE (pv 2))))
 unfold overOf at k;refine⟨_,rfl,_,rfl,A',r,x,dx,p,ps,t,rfl,R,Pp,λH1 s1=>?_⟩;refine⟨_,rfl,rfl,_,rfl,dG (λh1=>?_) λh1=>?_⟩
 ·have P1:=Pp.same s1
  refine⟨_,rfl,_,rfl,x,_,_,_,_,rfl,P1.ins,T.bQ.cl,T.bS,rfl,_,rfl,x,_,_,_,_,rfl,P1.ins,T.bQ.cl,T.fj,rfl,A',r,p,ps,t,rfl,R.same s1,P1.pc,Pp.ok,λH2 s2=>⟨_,rfl,fO (λh2=>?_) λh2=>?_⟩⟩
  ·have h2:BY r ps t=false:=by simpa using h2
   rw[Pz ⟨h1,h2⟩]at k;exact k H2 (s1.trans s2)
  ·have h2:BY r ps t=true:=by simpa using h2
   rw[Py (λz=>by rw[z.2]at h2;cases h2)]at k;exact⟨_,rfl,k H2 (s1.trans s2)⟩
 ·rw[Py (λz=>h1 z.1)]at k
  exact⟨_,rfl,k H1 s1⟩
theorem zt{n c:Nat}(h:c<n):Ix n (c:Nat)=some c:=by
 unfold Ix;rw[Pz (by omega),Pz (by omega)];rfl
theorem ln{l:List Int}{i c:Nat}{v:Int}:(l.set i v).getD c 0=if i=c/\i<l.length then v else l.getD c 0:=by
 simp only[List.getD,List.getElem?_set]
 by_cases h:i=c
 ·by_cases h2:i<l.length
  ·rw[Pz h,Pz h2,Pz ⟨h,h2⟩]
   rfl
  ·rw[Pz h,Py h2,Py (λz=>h2 z.2)]
   rw[R_ (by omega)]
 ·rw[Py h,Py (λz=>h z.1)]
theorem rZ.set{ps:List Int}(W:rZ ps)(c:Nat){v:Int}(h0:0<=v)(h3:v<=3):rZ (ps.set c v):=⟨by rw[Rl];exact W.len,λd=>by
 rw[ln];split
 ·exact⟨h0,h3⟩
 ·exact W.val d⟩
theorem Ir(ps:List Int)(c:Nat)(v:Int):(ps.map V.int).set c (.int v)=(ps.set c v).map V.int:=(List.map_set).symm
theorem Ex.new{x q:Addr}{H H':Hp}{o:HO}(h:Ex x H H')(n:H q=none):Ex x H (upd H' q o):=λb u e nb=>by
 rw[ai (ak e n)];exact h b u e nb
theorem Ex.self{x:Addr}{H H':Hp}{o:HO}(h:Ex x H H'):Ex x H (upd H' x o):=λb u e nb=>by
 rw[ai nb];exact h b u e nb
theorem Ex.same{x:Addr}{H H' H2:Hp}(h:Ex x H H')(s:aD H' H2):Ex x H H2:=λb u e nb=>s _ _ (h b u e nb)
theorem Ex.free{x q:Addr}{H H':Hp}(h:Ex x H H')(n:H' q=none)(nx:q≠x):H q=none:=by
 cases e:H q with
 |none=>rfl
 |some o=>rw[h q o e nx]at n;cases n
def ba(ps:List Int)(s t:Nat):List Int:=(ps.set t (ps.getD s 0)).set s 0
def mS(ps:List Int)(l:List Int):List Int:=l.foldl (λ(q:List Int)(c:Int)=>q.set c.toNat 0) ps
def bz(r:R0)(ps:List Int)(s t:Nat):List Int:=mS (ba ps s t) (bR r (ba ps s t) t)
theorem rZ.moved{ps:List Int}(W:rZ ps)(s t:Nat):rZ (ba ps s t):=(W.set t (W.val s).1 (W.val s).2).set s (by decide) (by decide)
theorem rZ.clear:∀(l:List Int){ps:List Int}(W:rZ ps),rZ (mS ps l)
 |[],_,W=>W
 |c::l,_,W=>rZ.clear l (W.set c.toNat (by decide) (by decide))
theorem rZ.after{ps:List Int}(W:rZ ps)(r:R0)(s t:Nat):rZ (bz r ps s t):=(W.moved s t).clear _
theorem C_(ps l:List Int)(c:Int):mS ps (l++[c])=(mS ps l).set c.toNat 0:=by
 unfold mS;rw[List.foldl_append];rfl
theorem jO{r:R0}{ps:List Int}{t:Nat}{v:Int}(W:zT r)(t1:t<169)(h:v∈bR r ps t):∃c:Nat,v=(c:Nat)/\c<169:=by
 unfold bR at h;split at h
 ·cases h
 ·obtain⟨d,hd,hv⟩:=QU.mp (z9.mp h)
  unfold jq at hv;split at hv
  ·rename_i hc
   rw[Qb]at hv;subst hv;rcases tY (c:=t) (Qe.mp hd) t1 W.w W.h with e|⟨n,e,n1⟩
   ·rw[e]at hc
    exact absurd hc.1 (by decide)
   ·exact⟨n,e,n1⟩
  ·cases hv
theorem ir(r:R0)(ps:List Int)(t:Nat):(bR r ps t).length<=4:=by
 unfold bR;split
 ·simp
 ·rw[r6]
  exact jc (jq r ps t) 1 (yB r ps t) 4
def MJ(s t:Nat)(tk af:Addr)(ov:Int):List (Str×V):=[("start",.int (s:Nat)),("target",.int (t:Nat)),("taken",.ref tk),("after",.ref af),("over",.int ov)]
def A5(a:Ad)(H0 H:Hp)(r:R0)(ps:List Int)(tn:Int)(s t:Nat)(x:Addr):Prop:=∃dx tk af ad ap,H0 tk=none/\H0 ap=none/\H x=some (.ins a.bo dx (MJ s t tk af (overOf r (bz r ps s t) (1-tn))))/\H tk=some (.lst ((bR r (ba ps s t) t).map V.int))/\vY a H af ad ap (bz r ps s t) (1-tn)
theorem A5.same{H0 H H':Hp}{r:R0}{ps:List Int}{tn:Int}{s t:Nat}{x:Addr}(h:A5 a H0 H r ps tn s t x)(S:aD H H'):A5 a H0 H' r ps tn s t x:=by
 obtain⟨dx,tk,af,ad,ap,n1,n2,h1,h2,h3⟩:=h;exact⟨dx,tk,af,ad,ap,n1,n2,S _ _ h1,S _ _ h2,h3.same S⟩
theorem A5.weak{H0 H0' H:Hp}{r:R0}{ps:List Int}{tn:Int}{s t:Nat}{x:Addr}(h:A5 a H0 H r ps tn s t x)(S:∀b,H0 b=none->H0' b=none):A5 a H0' H r ps tn s t x:=by
 obtain⟨dx,tk,af,ad,ap,n1,n2,h1⟩:=h;exact⟨dx,tk,af,ad,ap,S _ n1,S _ n2,h1⟩
theorem A5.put{H0 H:Hp}{r:R0}{ps:List Int}{tn:Int}{s t:Nat}{x D:Addr}{xs ys:List V}(h:A5 a H0 H r ps tn s t x)(hD:H D=some (.lst xs))(h0:H0 D≠none):A5 a H0 (upd H D (.lst ys)) r ps tn s t x:=by
 obtain⟨dx,tk,af,ad,ap,n1,n2,h1,h2,h3⟩:=h;have d1:tk≠D:=λz=>h0 (by rw[<-z];exact n1);have d2:ap≠D:=λz=>h0 (by rw[<-z];exact n2);exact⟨dx,tk,af,ad,ap,n1,n2,by rw[ai (bf h1 hD λz=>nomatch z)];exact h1,by rw[ai d1];exact h2,⟨by rw[ai (bf h3.ins hD λz=>nomatch z)];exact h3.ins,by rw[ai d2];exact h3.pc,h3.ok,h3.tn⟩⟩
theorem ou.ex{H H':Hp}{A:RA}{r:R0}{x C dx:Addr}{fs:List (Str×V)}(R:ou a H A r)(hx:H x=some (.ins C dx fs))(hf:fs.length≠15/\fs.length≠2)(s:Ex x H H'):ou a H' A r:=by
 have nl:∀{b:Addr}{l:List V},H b=some (.lst l)->H' b=some (.lst l):=λ{b l} h=>s _ _ h (bf h hx λz=>nomatch z);exact⟨s _ _ R.ins (bf R.ins hx λz=>hf.1 (by have:=QI nF z;exact this.symm)),nl R.cs,nl R.wz,R.wl,λd y e=>nl (R.wy d y e),nl R.gr,s _ _ R.st (bf R.st hx λz=>hf.2 (by have:=QI nF z;exact this.symm)),nl R.sp,R.ok⟩
theorem vY.ex{H H':Hp}{y dy p:Addr}{ps:List Int}{t:Int}{x C dx:Addr}{fs:List (Str×V)}(R:vY a H y dy p ps t)(hx:H x=some (.ins C dx fs))(hf:fs.length≠2)(s:Ex x H H'):vY a H' y dy p ps t:=
 ⟨s _ _ R.ins (bf R.ins hx λz=>hf (by have:=QI nF z;exact this.symm)),s _ _ R.pc (bf R.pc hx λz=>nomatch z),R.ok,R.tn⟩
theorem iP.ex{H H':Hp}{b:Addr}{l:List V}{x C dx:Addr}{fs:List (Str×V)}(h:iP K H b l)(hx:H x=some (.ins C dx fs))(s:Ex x H H'):iP K H' b l:=by
 rcases h with(h|⟨o,h⟩)|h
 ·exact .inl (.inl (s _ _ h (bf h hx λz=>nomatch z)))
 ·exact .inl (.inr ⟨o,s _ _ h (bf h hx λz=>nomatch z)⟩)
 ·exact .inr h
inductive BC(K:PB)(a:Ad)(vs:List V)(H:Hp)(Q:VK)(E:XK):Prop
 |mk (x dx:Addr) (A:RA) (r:R0) (y dy p:Addr) (ps:List Int) (tn:Int) (sa:Addr) (s t:Nat) (_:vs=[.ref x,.ref A.x,.ref y,.ref sa]) (_:H x=some (.ins a.bo dx [])) (_:ou a H A r) (_:vY a H y dy p ps tn) (_:iP K H sa [.int (s:Nat),.int (t:Nat)]) (_:s<169) (_:t<169) (_:∀H',Ex x H H'->A5 a H H' r ps tn s t x->Q .eB H'):BC K a vs H Q E
theorem oj:az ["self","rules","position","step","pieces","cell"] ["self","rules","position","step"] (aj (inClass (top 19) 0)):=aR
theorem oh(T:Tx K mg a):a4 P w K mg base (cW P w) 5 a.eK a.uB ["self","rules","position","step"] (BC K a):=by
 refine T.eK.F.kP oj λcdv A outer s H vs Q E hr h=>?_;obtain⟨x,dx,A',r,y,dy,p,ps,tn,sa,st,tg,rfl,hx,R,Pp,hs,s1,t1,k⟩:=h
 exists aB (a5 (pv 0) (bj ji (pv 3) aw (λ_ _=>rfl)) rfl) (aB (a5 (pv 0) (bj ji (pv 3) aw (λ_ _=>rfl)) rfl) (aB (e_ 4 oj.nd (ng sy rfl T.HH (by decide+kernel) (aa (au (pv 2) rfl) ae))) (aB (wF (bj a_ (pv 4) (au (pv 0) rfl) (λ_ _=>rfl)) (wB (pv 4) (au (pv 0) rfl) set_list (λ_=>rfl))) (aB (wF (mL T.iF) (wB (pv 4) (au (pv 0) rfl) set_list (λ_=>rfl))) (aB (a5 (pv 0) (dm T.lS (B6 T) hr aK (aa (pv 1) (aa (pv 4) (aa (au (pv 0) rfl) ae)))) rfl) (aB (dI QS rfl (cN (au (pv 0) rfl)) (kT 5 oj.nd) (aF (wF (mL T.iF) (wB (pv 4) (pv 5) set_list (λ_=>rfl))))) (aB (a5 (pv 0) (F8 T.rD (jj T) hr T.bQ T.bZ aK (aa (pv 4) (aa (bv nZ aw (au (pv 2) rfl)) ae))) rfl) (aF (a5 (pv 0) (dm T.jk (uD T) hr aK (aa (pv 1) (aa (au (pv 0) rfl) ae))) rfl)))))))))
 have e0:Ex x H (upd H x (.ins a.bo dx [("start",.int (st:Nat))])):=Ex.refl.self;refine⟨_,rfl,sa,_,_,_,rfl,rfl,hs,at_of (j:=0) rfl rfl,_,rfl,x,_,dx,_,rfl,hx,T.bV.cl,T.iH,(by show 0<1000;decide),?_⟩;refine⟨_,rfl,sa,_,_,_,rfl,rfl,iP.ex hs hx e0,at_of (j:=1) rfl rfl,_,rfl,x,_,dx,_,rfl,ah,T.bV.cl,T.gY,(by show 1<1000;decide),?_⟩;have e1:Ex x H (upd (upd H x (.ins a.bo dx [("start",.int (st:Nat))])) x (.ins a.bo dx [("start",.int (st:Nat)),("target",.int (tg:Nat))])):=e0.self;have x1:(upd (upd H x (.ins a.bo dx [("start",.int (st:Nat))])) x (.ins a.bo dx [("start",.int (st:Nat)),("target",.int (tg:Nat))])) x=some (.ins a.bo dx [("start",.int (st:Nat)),("target",.int (tg:Nat))]):=ah;have P1:=Pp.ex hx (by decide) e1;refine⟨_,rfl,y,_,_,_,_,rfl,P1.ins,T.bQ.cl,T.bS,rfl,p,_,rfl,.inl (a0.of P1.pc),λq hq=>?_⟩;have qx:x≠q:=ak x1 hq;have hq0:H q=none:=e1.free hq (PZ qx);have at1:=cO (l:=ps) (c:=st) (by rw[Pp.ok.len];exact s1);refine⟨_,rfl,_,rfl,x,_,_,_,_,rfl,(by rw[ai qx];exact x1),T.bV.cl,T.iH,rfl,q,_,_,_,rfl,rfl,a0.of ah,at_of (j:=st) rfl at1,_,rfl,_,rfl,x,_,_,_,_,rfl,(by rw[ai qx];exact x1),T.bV.cl,T.gY,rfl,q,_,_,tg,rfl,rfl,ah,zt (by rw[Px,Pp.ok.len];exact t1),?_⟩;refine⟨_,rfl,_,rfl,x,_,_,_,_,rfl,(by rw[ai qx,ai qx];exact x1),T.bV.cl,T.iH,rfl,q,_,_,st,rfl,rfl,ah,zt (by rw[Rl,Px,Pp.ok.len];exact s1),?_⟩;rw[Ir,Ir,eR,eR];have e2:Ex x H (upd (upd (upd H x (.ins a.bo dx [("start",.int (st:Nat))])) x (.ins a.bo dx [("start",.int (st:Nat)),("target",.int (tg:Nat))])) q (.lst ((ba ps st tg).map V.int))):=e1.new hq0;have q2:(upd (upd (upd H x (.ins a.bo dx [("start",.int (st:Nat))])) x (.ins a.bo dx [("start",.int (st:Nat)),("target",.int (tg:Nat))])) q (.lst ((ba ps st tg).map V.int))) q=some (.lst ((ba ps st tg).map V.int)):=ah;have x2:(upd (upd (upd H x (.ins a.bo dx [("start",.int (st:Nat))])) x (.ins a.bo dx [("start",.int (st:Nat)),("target",.int (tg:Nat))])) q (.lst ((ba ps st tg).map V.int))) x=some (.ins a.bo dx [("start",.int (st:Nat)),("target",.int (tg:Nat))]):=by rw[ai qx];exact x1
 refine⟨_,rfl,_,rfl,_,rfl,x,_,_,_,_,rfl,x2,T.bV.cl,T.gY,rfl,A',r,q,_,tg,rfl,R.ex hx (by decide) e2,q2,Pp.ok.moved st tg,t1,λH3 tk s3 ntk h3=>?_⟩;have e3:=e2.same s3;have x3:=s3 _ _ x2;have q3:=s3 _ _ q2;clear e2 x2 q2 e1 x1 e0 P1;refine⟨_,rfl,x,_,dx,_,rfl,x3,T.bV.cl,T.gC,(by show 2<1000;decide),?_⟩;have xk:tk≠x:=bf h3 x3 λz=>nomatch z;have qk:q≠tk:=ak (H:=upd (upd (upd H x (.ins a.bo dx [("start",.int (st:Nat))])) x (.ins a.bo dx [("start",.int (st:Nat)),("target",.int (tg:Nat))])) q (.lst ((ba ps st tg).map V.int))) ah ntk;have tk0:H tk=none:=by
  refine(Ex.refl.self.self (x:=x) (H:=H)).free (H':=upd (upd H x (.ins a.bo dx [("start",.int (st:Nat))])) x (.ins a.bo dx [("start",.int (st:Nat)),("target",.int (tg:Nat))])) ?_ xk;rw[ai (PZ qk)]at ntk;exact ntk
 generalize hf4:cf "taken" (.ref tk) _=f4;have ef4:f4=([("start",.int (st:Nat)),("target",.int (tg:Nat)),("taken",.ref tk)]:List (Str×V)):=by rw[<-hf4];rfl
 subst ef4;have e4:Ex x H (upd H3 x (.ins a.bo dx [("start",.int (st:Nat)),("target",.int (tg:Nat)),("taken",.ref tk)])):=e3.self;have x4:(upd H3 x (.ins a.bo dx [("start",.int (st:Nat)),("target",.int (tg:Nat)),("taken",.ref tk)])) x=some (.ins a.bo dx [("start",.int (st:Nat)),("target",.int (tg:Nat)),("taken",.ref tk)]):=ah;have q4:(upd H3 x (.ins a.bo dx [("start",.int (st:Nat)),("target",.int (tg:Nat)),("taken",.ref tk)])) q=some (.lst ((ba ps st tg).map V.int)):=by rw[ai (PZ qx)];exact q3
 have k4:(upd H3 x (.ins a.bo dx [("start",.int (st:Nat)),("target",.int (tg:Nat)),("taken",.ref tk)])) tk=some (.lst ((bR r (ba ps st tg) tg).map V.int)):=by rw[ai xk];exact h3
 generalize upd H3 x (.ins a.bo dx [("start",.int (st:Nat)),("target",.int (tg:Nat)),("taken",.ref tk)])=H4 at*;refine⟨_,rfl,x,_,_,_,_,rfl,x4,T.bV.cl,T.gC,rfl,tk,rfl,⟨_,a0.of k4⟩,?_⟩;refine fR (xs:=(bR r (ba ps st tg) tg).map V.int) (λi σ H'=>∃u,σ=[some (.ref x),some (.ref A'.x),some (.ref y),some (.ref sa),some (.ref q),u]/\Ex x H H'/\H' x=some (.ins a.bo dx [("start",.int (st:Nat)),("target",.int (tg:Nat)),("taken",.ref tk)])/\H' tk=some (.lst ((bR r (ba ps st tg) tg).map V.int))/\H' q=some (.lst ((mS (ba ps st tg) ((bR r (ba ps st tg) tg).take i)).map V.int))) ⟨_,rfl,e4,x4,k4,q4⟩ (λi σ H1 _⟨u,e,e5,x5,k5,q5⟩=>a0.of k5) (λi v σ H1 hv hW=>?_) λσ H1 hW=>?_
 ·obtain⟨u,rfl,e5,x5,k5,q5⟩:=hW
  obtain⟨cv,hc,rfl⟩:=int_at hv;obtain⟨c,rfl,c1⟩:=jO R.ok t1 (Ql hc);have W5:rZ (mS (ba ps st tg) ((bR r (ba ps st tg) tg).take i)):=(Pp.ok.moved st tg).clear _;refine⟨_,rfl,_,rfl,q,_,_,c,rfl,rfl,q5,zt (by rw[Px,W5.len];exact c1),_,rfl,e5.new hq0,(by rw[ai qx];exact x5),(by rw[ai (PZ qk)];exact k5),?_⟩;rw[ah,Ir,QZ,hc];show _=some (HO.lst ((mS (ba ps st tg) (_++[((c:Nat):Int)])).map V.int));rw[C_];rfl
 ·obtain⟨u,rfl,e5,x5,k5,q5⟩:=hW
  rw[Px,Qp (PF _)]at q5;have P5:=Pp.ex hx (by decide) e5;refine⟨_,rfl,_,rfl,y,_,_,_,_,rfl,P5.ins,T.bQ.cl,T.fj,rfl,_,_,rfl,rfl,λz dz nz nd nne=>⟨z,dz,q,_,rfl,ah,rfl,?_⟩⟩;have zx:x≠z:=ak x5 nz;have dzx:x≠dz:=ak x5 nd;have z0:H z=none:=e5.free nz (PZ zx);have dz0:H dz=none:=e5.free nd (PZ dzx);have qz:q≠z:=ak q5 nz;have qdz:q≠dz:=ak q5 nd;have kz:tk≠z:=ak k5 nz;have kdz:tk≠dz:=ak k5 nd;generalize hH6:upd (upd (upd H1 dz (.own z)) z (.ins a.bK dz [])) z (.ins a.bK dz (Al q (1-tn)))=H6;have e6:Ex x H H6:=by rw[<-hH6];exact((e5.new dz0).new z0).new z0
  have x6:H6 x=some (.ins a.bo dx [("start",.int (st:Nat)),("target",.int (tg:Nat)),("taken",.ref tk)]):=by rw[<-hH6,ai zx,ai zx,ai dzx];exact x5
  have k6:H6 tk=some (.lst ((bR r (ba ps st tg) tg).map V.int)):=by rw[<-hH6,ai kz,ai kz,ai kdz];exact k5
  have P6:vY a H6 z dz q (bz r ps st tg) (1-tn):=⟨by rw[<-hH6,ah],by rw[<-hH6,ai qz,ai qz,ai qdz];exact q5,Pp.ok.after r st tg,by rcases Pp.tn with h|h<;>omega⟩;refine⟨_,rfl,x,_,dx,_,rfl,x6,T.bV.cl,T.kv,(by show 3<1000;decide),?_⟩;generalize hf7:cf "after" (.ref z) _=f7;have ef7:f7=([("start",.int (st:Nat)),("target",.int (tg:Nat)),("taken",.ref tk),("after",.ref z)]:List (Str×V)):=by rw[<-hf7];rfl
  subst ef7;have e7:Ex x H (upd H6 x (.ins a.bo dx [("start",.int (st:Nat)),("target",.int (tg:Nat)),("taken",.ref tk),("after",.ref z)])):=e6.self;have x7:(upd H6 x (.ins a.bo dx [("start",.int (st:Nat)),("target",.int (tg:Nat)),("taken",.ref tk),("after",.ref z)])) x=some (.ins a.bo dx [("start",.int (st:Nat)),("target",.int (tg:Nat)),("taken",.ref tk),("after",.ref z)]):=ah;have k7:(upd H6 x (.ins a.bo dx [("start",.int (st:Nat)),("target",.int (tg:Nat)),("taken",.ref tk),("after",.ref z)])) tk=some (.lst ((bR r (ba ps st tg) tg).map V.int)):=by rw[ai xk];exact k6
  have P7:vY a (upd H6 x (.ins a.bo dx [("start",.int (st:Nat)),("target",.int (tg:Nat)),("taken",.ref tk),("after",.ref z)])) z dz q (bz r ps st tg) (1-tn):=⟨by rw[ai (PZ zx)];exact P6.ins,by rw[ai (PZ qx)];exact P6.pc,P6.ok,P6.tn⟩;generalize upd H6 x (.ins a.bo dx [("start",.int (st:Nat)),("target",.int (tg:Nat)),("taken",.ref tk),("after",.ref z)])=H7 at*;refine⟨_,rfl,_,rfl,x,_,_,_,_,rfl,x7,T.bV.cl,T.kv,rfl,A',r,z,dz,q,_,_,rfl,R.ex hx (by decide) e7,P7,λH8 s8=>?_⟩;refine⟨_,rfl,x,_,dx,_,rfl,s8 _ _ x7,T.bV.cl,T.fX,(by show 4<1000;decide),?_⟩;refine k _ (e7.same s8).self ⟨dx,tk,z,dz,q,tk0,hq0,?_,?_,?_⟩
  ·rw[ah]
   rfl
  ·rw[ai xk]
   exact s8 _ _ k7
  ·have P8:=P7.same s8
   exact⟨by rw[ai (PZ zx)];exact P8.ins,by rw[ai (PZ qx)];exact P8.pc,P8.ok,P8.tn⟩
theorem xN{J:It}{n:Nat}{g:TG}{tt:TT}{te:TE}{vs:List Nat}{σ:L2.St}{H1:Hp}{D:Addr}{Qd:Hp->Prop}(Iv:Nat->Hp->Prop)(h0:Iv 0 (upd H1 D (.lst [])))
  (go:∀i H,i<n->Iv i H->J.go i H)(stop:∀H,Iv n H->J.stop n H)
  (hs:∀i H,i<n->Iv i H->∀x H',J.F6 i H x H'->g x (wipe σ vs) H' λσ2 H2=>wipe σ2 vs=wipe σ vs/\tt σ2 H2 λb H3=>
   if b=true then te σ2 H3 λy H4=>∃acc,H4 D=some (.lst acc)/\acc.length<sizeLine/\Iv (i+1) (upd H4 D (.lst (acc++[y])))else Iv (i+1) H3)
  (hd:∀H,Iv n H->Qd H):
  ∃W:Nat->Nat->Hp->Prop,(∃m,W 0 m (upd H1 D (.lst [])))/\∀i m H,W i m H->
   (J.stop i H/\Qd H)\/(J.go i H/\∃Nx:Hp->Prop,(∀H',Nx H'->∃m',m'<m/\W (i+1) m' H')/\∀x H',J.F6 i H x H'->g x (wipe σ vs) H' λσ2 H2=>wipe σ2 vs=wipe σ vs/\tt σ2 H2 λb H3=>
    if b=true then te σ2 H3 λy H4=>∃acc,H4 D=some (.lst acc)/\acc.length<sizeLine/\Nx (upd H4 D (.lst (acc++[y])))else Nx H3):=by
 refine⟨λi m H=>m=n-i/\i<=n/\Iv i H,⟨n,by simp,QG _,h0⟩,?_⟩
 rintro i m H ⟨rfl,hi,s⟩
 rcases RB i n with hlt|hge
 ·exact .inr ⟨go i H hlt s,Iv (i+1),λH' p'=>⟨n-(i+1),by omega,rfl,hlt,p'⟩,λx H' y=>hs i H hlt s x H' y⟩
 ·have ei:i=n:=by omega
  subst ei;exact .inl ⟨stop H s,hd H s⟩
theorem wO{r:R0}{ps:List Int}{d:Nat}{piece:Int}(W:zT r)(hd:d<4):∀(f:Nat)(cell v:Int),(cell= -1\/∃c:Nat,cell=(c:Nat)/\c<169)->v∈bM r ps d piece f cell->∃c:Nat,v=(c:Nat)/\c<169
 |0,_,_,_,h=>by cases h
 |f+1,cell,v,hc,h=>by
  unfold bM at h;split at h
  ·cases h
  ·rename_i hn
   rcases hc with rfl|⟨c,rfl,c1⟩
   ·exact absurd (.inl (by decide)) hn
   rcases Qc.mp h with h|h
   ·split at h
    ·rw[Qb]at h
     exact⟨c,h,c1⟩
    ·cases h
   ·split at h
    ·cases h
    ·exact wO W hd f _ v (tY (c:=c) hd c1 W.w W.h) h
theorem uZ{r:R0}{ps:List Int}{s:Nat}{v:Int}(W:zT r)(s1:s<169)(h:v∈dq r ps s):∃c:Nat,v=(c:Nat)/\c<169:=by
 obtain⟨d,hd,hv⟩:=QU.mp (z9.mp h);have hd:=Qe.mp hd;exact wO W hd _ _ v (tY (c:=s) hd s1 W.w W.h) hv
theorem oQ(r:R0)(ps:List Int)(s:Nat):(dq r ps s).length<=52:=by
 unfold dq;rw[r6];exact jc (λ(d:Nat)=>bn r ps s d) 13 (λd=>mw r ps s d) 4
def cU(r:R0)(ps:List Int)(c:Int):List (Nat×Nat):=(dq r ps c.toNat).map λ(t:Int)=>(c.toNat,t.toNat)
def aQ(r:R0)(ps:List Int)(t:Int):List (Nat×Nat):=if 0<fW r ps then[]else(cellsOf r ps t).flatMap (cU r ps)
theorem qV(r:R0)(ps:List Int)(c:Int):(cU r ps c).length<=52:=by
 unfold cU;rw[Px];exact oQ _ _ _
theorem nk{α β:Type}(f:α->List β)(b:Nat)(h:∀x,(f x).length<=b):∀l:List α,(l.flatMap f).length<=l.length*b
 |[]=>by simp
 |x::l=>by
  rw[QM,P0,Qj,Nat.succ_mul];have:=nk f b h l;have:=h x;omega
theorem o9(r:R0)(ps:List Int)(t:Int)(W:zT r):(cellsOf r ps t).length<=169:=Qq (Sb _ _) (Ag _ _ W.w W.h)
theorem rF(r:R0)(ps:List Int)(t:Int)(W:zT r):(aQ r ps t).length<=8788:=by
 unfold aQ;split
 ·simp
 ·have h1:=nk (cU r ps) 52 (qV r ps) (cellsOf r ps t)
  have h2:=o9 r ps t W;have h3:(cellsOf r ps t).length*52<=169*52:=Q_ 52 h2;omega
theorem kK{r:R0}{ps:List Int}{t:Int}{e:Nat×Nat}(W:zT r)(h:e∈aQ r ps t):e.1<169/\e.2<169:=by
 unfold aQ at h;split at h
 ·cases h
 ·obtain⟨c,hc,he⟩:=QU.mp h
  obtain⟨v,hv,rfl⟩:=P_.mp he;obtain⟨n,rfl,n1,_⟩:=jK W hc;obtain⟨m,rfl,m1⟩:=uZ W n1 hv;exact⟨n1,m1⟩
theorem FE{α β:Type}(f:α->List β){l:List α}{i:Nat}{x:α}(h:l[i]? =some x):(l.take (i+1)).flatMap f=(l.take i).flatMap f++f x:=by
 rw[QZ,h,List.flatMap_append];simp
structure JH(H0 H:Hp)(q:Addr)(L:List (Addr×Nat×Nat)):Prop where
 l:H q=some (.lst (L.map λ(e:Addr×Nat×Nat)=>V.ref e.1))
 t:∀e∈L,H e.1=some (.tup [.int (e.2.1:Nat),.int (e.2.2:Nat)])/\H0 e.1=none
inductive DA(a:Ad)(vs:List V)(H:Hp)(Q:VK)(E:XK):Prop
 |mk (A:RA) (r:R0) (x dx p:Addr) (ps:List Int) (t:Int) (_:vs=[.ref A.x,.ref x]) (_:ou a H A r) (_:vY a H x dx p ps t) (_:∀H' q L,aD H H'->H q=none->JH H H' q L->L.map (·.2)=aQ r ps t->Q (.ref q) H'):DA a vs H Q E
theorem jG:az ["rules","position","steps","start","target"] ["rules","position"] (aj (top 33)):=aR
theorem pQ(T:Tx K mg a):a4 P w K mg base (cW P w) 4 a.hJ a.yi ["rules","position"] (DA a):=by
 refine T.hJ.F.kP jG λcdv A outer s H vs Q E hr h=>?_;obtain⟨A',r,x,dx,p,ps,t,rfl,R,Pp,k⟩:=h
 exists aB (e_ 2 jG.nd (cb ae)) (aB (bE (aI oC (dm T.eJ (oz T) hr aK (aa (pv 0) (aa (pv 1) ae))) aw (aJ _)) (aF (aE (pv 2))) aX) (aB (dI QS rfl (cN (dm T.jw (vd T) hr aK (aa (pv 0) (aa (au (pv 1) rfl) (aa (au (pv 1) rfl) ae))))) (kT 3 jG.nd) (aF (aZ (jg Qy Rh Ri kI (pv 2) (aa (lE (own:=[("target",4)]) rfl jG.nd (cN (dm T.fU (vH T) hr aK (aa (pv 0) (aa (au (pv 1) rfl) (aa (pv 3) ae))))) (cp rfl) (λ_ _ _ _ _=>(kT 4 jG.nd)) (λ_ _ _ _ _=>dZ) (λ_ _ _ _ _=>(nV (aa (pv 3) (aa (pv 4) ae))))) ae))))) (aF (aE (pv 2)))))
 refine⟨QG _,λq hq=>?_⟩;have S0:aD H (upd H q (.lst [])):=aA hq;refine⟨_,rfl,_,rfl,A',r,x,dx,p,ps,t,rfl,R.same S0,Pp.same S0,λH1 s1=>⟨_,_,rfl,rfl,_,rfl,gB (λg1=>?_) λg1=>?_⟩⟩
 ·have g1:=PR g1
  refine⟨_,rfl,k H1 q [] (S0.trans s1) hq ⟨s1 _ _ (by rw[ah];rfl),λe he=>by cases he⟩ ?_⟩;unfold aQ;rw[Pz g1];rfl
 ·have g1:¬0<fW r ps:=λz=>g1 (PJ z)
  have k:∀H' q L,aD H H'->H q=none->JH H H' q L->L.map (·.2)=(cellsOf r ps t).flatMap (cU r ps)->Q (.ref q) H':=by
   unfold aQ at k;rw[Py g1]at k;exact k
  have S1:=S0.trans s1;have P1:=Pp.same S1;have q1:H1 q=some (.lst []):=s1 _ _ ah;refine⟨_,rfl,_,rfl,x,_,_,_,_,rfl,P1.ins,T.bQ.cl,T.bS,rfl,_,rfl,x,_,_,_,_,rfl,P1.ins,T.bQ.cl,T.fj,rfl,A',r,p,ps,t,rfl,R.same S1,P1.pc,Pp.ok,λH2 l s2 hl h2=>⟨l,rfl,⟨_,a0.of h2⟩,?_⟩⟩;have ql:q≠l:=ak q1 hl;have S2:=S1.trans s2;refine fR (xs:=(cellsOf r ps t).map V.int) (λi σ H'=>∃L u v,σ=[some (.ref A'.x),some (.ref x),some (.ref q),u,v]/\aD H H'/\JH H H' q L/\H' l=some (.lst ((cellsOf r ps t).map V.int))/\L.map (·.2)=((cellsOf r ps t).take i).flatMap (cU r ps)) ⟨[],_,_,rfl,S2,⟨s2 _ _ q1,λe he=>by cases he⟩,h2,by simp⟩ (λi σ H3 _⟨L,u,v,e,s3,h3,l3,e3⟩=>a0.of l3) (λi cv σ H3 hx hW=>?_) λσ H3 hW=>?_
  ·obtain⟨L,u,v,rfl,s3,h3,l3,e3⟩:=hW
   obtain⟨cv',hc,rfl⟩:=int_at hx;obtain⟨c,rfl,c1,_,_⟩:=jK R.ok (Ql hc);have P3:=Pp.same s3;have il:i<(cellsOf r ps t).length:=(PQ.mp hc).1;have Ll:L.length<=8788:=by
    have:=QI List.length e3;rw[Px]at this;have h5:=nk (cU r ps) 52 (qV r ps) ((cellsOf r ps t).take i);have h6:((cellsOf r ps t).take i).length<=169:=by
     rw[Qt];have:=o9 r ps t R.ok;omega
    have h7:((cellsOf r ps t).take i).length*52<=169*52:=Q_ 52 h6;omega
   refine⟨_,rfl,.inl ⟨rfl,_,a0.of h3.l⟩,_,rfl,_,rfl,x,_,_,_,_,rfl,P3.ins,T.bQ.cl,T.bS,rfl,_,rfl,A',r,p,ps,c,rfl,R.same s3,P3.pc,Pp.ok.len,c1,λH4 m s4 hm h4=>⟨m,rfl,⟨_,a0.of h4⟩,λD hD=>?_⟩⟩;have md:m≠D:=ak h4 hD;refine xN (J:=C9 K m) (n:=(dq r ps c).length) (λj H'=>∃M:List (Addr×Nat×Nat),aD H4 H'/\JH H4 H' D M/\M.map (·.2)=((dq r ps c).take j).map λ(t:Int)=>(c,t.toNat)) ⟨[],aA hD,⟨by rw[ah];rfl,λe he=>by cases he⟩,by simp⟩ (λj H' hj⟨M,sM,aM,eM⟩=>⟨_,V.int ((dq r ps c)[j]'hj),a0.of (sM _ _ h4),by simp⟩) (λH'⟨M,sM,aM,eM⟩=>⟨_,a0.of (sM _ _ h4),by rw[Px];exact PF _⟩) (λj H' hj hW y H5 hy=>?_) λH' hW=>?_
   ·obtain⟨M,sM,aM,eM⟩:=hW
    obtain⟨rfl,hy⟩:=hy;obtain⟨tv,ht,rfl⟩:=int_at (hy _ (a0.of (sM _ _ h4)));obtain⟨t',rfl,t1⟩:=uZ R.ok c1 (Ql ht);refine⟨rfl,_,rfl,_,rfl,(by rw[PL];show 2<=_;omega),λtt ntt=>?_⟩;have dt:D≠tt:=ak aM.l ntt;have Ml:M.length<=52:=by
     have:=QI List.length eM;rw[Px,Px,Qt]at this;have:=oQ r ps c;omega
    refine⟨_,(by rw[ai dt];exact aM.l),(by rw[Px,PL];omega),M++[(tt,c,t')],?_,⟨?_,λe he=>?_⟩,?_⟩
    ·exact cY hD (sM.trans (aA ntt))
    ·rw[ah,Qg]
     rfl
    ·rcases Qc.mp he with z|z
     ·obtain⟨z1,z2⟩:=aM.t e z
      exact⟨by rw[ai (bf z1 aM.l λz=>nomatch z),ai (ak z1 ntt)];exact z1,z2⟩
     ·rw[Qb]at z
      subst z;exact⟨by rw[ai (PZ dt),ah],sM.free ntt⟩
    ·rw[Qg,eM,oR _ ht]
     rfl
   ·obtain⟨M,sM,aM,eM⟩:=hW
    have h5:=(s4.trans sM) _ _ h3.l;have Ml:M.length<=52:=by
     have:=QI List.length eM;rw[Px,Px,Qt]at this;have:=oQ r ps c;omega
    have s34:=s3.trans s4;refine⟨q,D,_,_,rfl,rfl,h5,aM.l,(by rw[Px,Px,PL];omega),L++M,_,_,rfl,cY hq (s34.trans sM),⟨?_,λe he=>?_⟩,?_,?_⟩
    ·rw[ah,Qg]
    ·rcases Qc.mp he with z|z
     ·obtain⟨z1,z2⟩:=h3.t e z
      exact⟨by rw[ai (bf z1 h3.l λz=>nomatch z)];exact(s4.trans sM) _ _ z1,z2⟩
     ·obtain⟨z1,z2⟩:=aM.t e z
      refine⟨by rw[ai (bf z1 h5 λz=>nomatch z)];exact z1,s34.free z2⟩
    ·rw[ai (PZ ql)]
     exact(s4.trans sM) _ _ l3
    ·rw[Qg,e3,eM,FE _ hc,Qp (PF _)]
     rfl
  ·obtain⟨L,u,v,rfl,s3,h3,l3,e3⟩:=hW
   rw[Px,Qp (PF _)]at e3;exact⟨_,rfl,k H3 q L s3 hq h3 e3⟩
structure M5(a:Ad)(H0 H:Hp)(r:R0)(ps:List Int)(tn:Int)(q:Addr)(Ms:List Addr)(ss:List (Nat×Nat)):Prop where
 l:H q=some (.lst (Ms.map V.ref))
 n:Ms.length=ss.length
 m:∀(i:Nat)(x:Addr)(e:Nat×Nat),Ms[i]? =some x->ss[i]? =some e->A5 a H0 H r ps tn e.1 e.2 x
theorem Ex.made{H H':Hp}{x dx C:Addr}(nx:H x=none)(nd:H dx=none)(e:Ex x (upd (upd H dx (.own x)) x (.ins C dx [])) H'):aD H H':=λb o q=>e b o (by rw[ai (ak q nx),ai (ak q nd)];exact q) (ak q nx)
inductive DT(a:Ad)(vs:List V)(H:Hp)(Q:VK)(E:XK):Prop
 |mk (A:RA) (r:R0) (x dx p:Addr) (ps:List Int) (t:Int) (_:vs=[.ref A.x,.ref x]) (_:ou a H A r) (_:vY a H x dx p ps t) (_:∀H' q Ms,aD H H'->H q=none->M5 a H H' r ps t q Ms (aQ r ps t)->Q (.ref q) H'):DT a vs H Q E
theorem b9{H:Hp}{x dx C:Addr}(nx:H x=none)(nd:H dx=none)(nne:dx≠x):aD H (upd (upd H dx (.own x)) x (.ins C dx [])):=(aA nd).trans (aA (by rw[ai (PZ nne)];exact nx))
theorem pR:az ["rules","position","step"] ["rules","position"] (aj (top 34)):=aR
theorem vj(T:Tx K mg a):a4 P w K mg base (cW P w) 7 a.jt a.wj ["rules","position"] (DT a):=by
 refine T.jt.F.kP pR λcdv A outer s H vs Q E hr h=>?_;obtain⟨A',r,x,dx,p,ps,t,rfl,R,Pp,k⟩:=h
 exists aF (aE (lE (own:=[("step",2)]) rfl pR.nd (cN (dm T.hJ (pQ T) hr aK (aa (pv 0) (aa (pv 1) ae)))) (cp rfl) (λ_ _ _ _ _=>(kT 2 pR.nd)) (λ_ _ _ _ _=>dZ) (λ_ _ _ _ _=>(F8 T.C3 (oh T) hr T.bV T.eK aK (aa (pv 0) (aa (pv 1) (aa (pv 2) ae)))))))
 refine⟨_,rfl,_,rfl,A',r,x,dx,p,ps,t,rfl,R,Pp,λH1 l L s1 hl h1 eL=>⟨l,rfl,⟨_,a0.of h1.l⟩,λD hD=>?_⟩⟩;have Ll:L.length=(aQ r ps t).length:=by rw[<-eL,Px]
 have bl:=rF r ps t R.ok;refine xN (J:=C9 K l) (n:=L.length) (λj H'=>∃Ms:List Addr,aD H1 H'/\M5 a (upd H1 D (.lst [])) H' r ps t D Ms ((aQ r ps t).take j)) ⟨[],aA hD,⟨by rw[ah];rfl,by simp,λi x e h=>by simp at h⟩⟩ (λj H' hj⟨Ms,sM,aM⟩=>⟨_,V.ref (L[j]'hj).1,a0.of (sM _ _ h1.l),by rw[Qa,PD hj];rfl⟩) (λH'⟨Ms,sM,aM⟩=>⟨_,a0.of (sM _ _ h1.l),by rw[Px];exact PF _⟩) (λj H' hj⟨Ms,sM,aM⟩ y H5 hy=>?_) λH'⟨Ms,sM,aM⟩=>?_
 ·obtain⟨rfl,hy⟩:=hy
  have hy:=hy _ (a0.of (sM _ _ h1.l));rw[Qa,PD hj]at hy;cases hy;have he:L[j]? =some (L[j]'hj):=PD hj;have hm:=h1.t _ (Ql he);generalize hee:L[j]'hj=e at*;obtain⟨ea,es,et⟩:=e;have hst:(aQ r ps t)[j]? =some (es,et):=by rw[<-eL,Qa,he];rfl
  obtain⟨b1,b2⟩:=kK R.ok (Ql hst);have S5:=s1.trans sM;refine⟨rfl,_,rfl,_,rfl,_,rfl,λz dz nz nd nne=>⟨z,dz,A',r,x,dx,p,ps,t,ea,es,et,rfl,ah,(R.same S5).same (b9 nz nd nne),(Pp.same S5).same (b9 nz nd nne),iP.of ((b9 nz nd nne) _ _ (sM _ _ hm.1)),b1,b2,λH6 e6 m6=>⟨rfl,?_⟩⟩⟩;have s6:aD H5 H6:=Ex.made nz nd e6;have Ml:Ms.length<=8788:=by
   rw[aM.n,Qt];omega
  have D6:=s6 _ _ aM.l;have nD:(upd H1 D (.lst [])) D≠none:=by rw[ah];exactλz=>nomatch z
  have lj:((aQ r ps t).take j).length=j:=by rw[Qt];omega
  refine⟨_,D6,(by rw[Px,PL];omega),Ms++[z],cY hD (sM.trans s6),?_,?_,λi y e' g1 g2=>?_⟩
  ·rw[ah,Qg]
   rfl
  ·rw[P0,Qt,aM.n,lj,QF]
   omega
  ·refine A5.put ?_ D6 nD
   rcases RB i Ms.length with hi|hi
   ·rw[RK hi]at g1
    refine((aM.m i y e' g1 ?_).same s6);rw[aM.n,lj]at hi;rw[List.getElem?_take,Pz hi];rw[List.getElem?_take,Pz (by omega)]at g2;exact g2
   ·rw[RH hi]at g1
    have i0:i-Ms.length=0:=by
     have:=(PQ.mp g1).1;rw[QF]at this;omega
    rw[i0]at g1;cases g1;have ij:i=j:=by have:=aM.n;omega
    subst ij;rw[List.getElem?_take,Pz (by omega),hst]at g2;cases g2;refine m6.weak λb hb=>?_;cases eb:(upd H1 D (.lst [])) b with
    |none=>rfl
    |some o=>
     exfalso
     by_cases hbD:b=D
     ·subst hbD
      have:=(b9 (C:=a.bo) nz nd nne) _ _ aM.l;rw[this]at hb;cases hb
     ·rw[ai hbD]at eb
      have:=(b9 (C:=a.bo) nz nd nne) _ _ (sM _ _ eb);rw[this]at hb;cases hb
 ·rw[Ll,Qp (PF _)]at aM
  refine k H' D Ms (s1.trans sM) (s1.free hD) ⟨aM.l,aM.n,λi y e' g1 g2=>(aM.m i y e' g1 g2).weak λb hb=>?_⟩;cases eb:H b with
  |none=>rfl
  |some o=>
   have:=s1 _ _ eb;rw[ai (λz=>by rw[z,hD]at this;cases this),this]at hb;cases hb
def dS(C:Addr)(H:Hp)(E:XK):Prop:=∀H' e,aD H H'->H' e=some (XO e C none true)->E (.ref C) (some e) H'
inductive zN(a:Ad)(vs:List V)(H:Hp)(Q:VK)(E:XK):Prop
 |mk (A:RA) (r:R0) (x dx p:Addr) (ps:List Int) (tn i j:Int) (_:vs=[.ref A.x,.ref x,.int i,.int j]) (_:ou a H A r) (_:vY a H x dx p ps tn) (_:((aQ r ps tn).any (λ(e:Nat×Nat)=>((e.1:Nat):Int)==i&&((e.2:Nat):Int)==j)=false->dS a.gy H E)) (_:(∀s t:Nat,i=(s:Nat)->j=(t:Nat)->(s,t)∈aQ r ps tn->∀H' m,aD H H'->A5 a H H' r ps tn s t m->Q (.ref m) H')):zN a vs H Q E
theorem oG:az ["rules","position","start","target","step"] ["rules","position","start","target"] (aj (top 35)):=aR
theorem vM(T:Tx K mg a):a4 P w K mg base (cW P w) 7 a.f_ a.p7 ["rules","position","start","target"] (zN a):=by
 refine T.f_.F.oO oG λcdv A outer s H vs Q E hr h=>?_;obtain⟨A',r,x,dx,p,ps,tn,i,j,rfl,R,Pp,k1,k2⟩:=h
 exists aB (e_ 4 oG.nd (nV (aa (pv 2) (aa (pv 3) ae)))) (aB (bE (aI (Fh hr.units) (pv 4) (dm T.hJ (pQ T) hr aK (aa (pv 0) (aa (pv 1) ae))) rfl) (aF (qh ay hr.hd T.AG rfl T.e8.m)) aX) (aF (aE (F8 T.C3 (oh T) hr T.bV T.eK aK (aa (pv 0) (aa (pv 1) (aa (pv 4) ae)))))))
 refine⟨_,rfl,_,rfl,(by rw[PL];show 2<=_;omega),λt ht=>?_⟩;have S0:aD H (upd H t (.tup [.int i,.int j])):=aA ht;have t0:(upd H t (.tup [.int i,.int j])) t=some (.tup [.int i,.int j]):=ah;refine⟨_,rfl,_,rfl,_,rfl,A',r,x,dx,p,ps,tn,rfl,R.same S0,Pp.same S0,λH1 l L s1 hl h1 eL=>?_⟩;refine⟨t,l,i,j,L.map λ(e:Addr×Nat×Nat)=>(e.1,((e.2.1:Nat):Int),((e.2.2:Nat):Int)),rfl,rfl,iP.of (s1 _ _ t0),?_,λe he=>?_,_,rfl,fO (λg1=>?_) λg1=>?_⟩
 ·rw[QJ]
  exact a0.of h1.l
 ·obtain⟨e',he',rfl⟩:=P_.mp he
  obtain⟨q1,q2⟩:=h1.t e' he';exact⟨iP.of q1,λz=>by rw[z,t0]at q2;cases q2⟩
 ·intro e ne
  refine k1 ?_ _ e ((S0.trans s1).trans (aA ne)) ah;rw[<-eL,Rr];rw[Rr]at g1;simpa using g1
 ·have g2:(aQ r ps tn).any (λ(e:Nat×Nat)=>((e.1:Nat):Int)==i&&((e.2:Nat):Int)==j)=true:=by
   rw[<-eL,Rr];rw[Rr]at g1;simpa using g1
  obtain⟨⟨es,et⟩,hm,he⟩:=QR.mp g2;rw[P4,QQ,QQ]at he;obtain⟨e1,e2⟩:=he;have e1:((es:Nat):Int)=i:=e1;have e2:((et:Nat):Int)=j:=e2;subst e1;subst e2;obtain⟨b1,b2⟩:=kK R.ok hm;have S1:=S0.trans s1;refine⟨_,rfl,_,rfl,_,rfl,λz dz nz nd nne=>⟨z,dz,A',r,x,dx,p,ps,tn,t,es,et,rfl,ah,(R.same S1).same (b9 nz nd nne),(Pp.same S1).same (b9 nz nd nne),iP.of ((b9 nz nd nne) _ _ (s1 _ _ t0)),b1,b2,λH6 e6 m6=>⟨rfl,?_⟩⟩⟩;exact k2 es et rfl rfl hm H6 z (S1.trans (Ex.made nz nd e6)) (m6.weak λb hb=>(S1.trans (b9 nz nd nne)).free hb)
def rowOf(r:R0)(ps:List Int)(tn:Int)(s t:Nat):List Int:=((s:Nat):Int)::((t:Nat):Int)::overOf r (bz r ps s t) (1-tn)::bR r (ba ps s t) t
inductive Er(a:Ad)(vs:List V)(H:Hp)(Q:VK)(E:XK):Prop
 |mk (H0:Hp) (r:R0) (ps:List Int) (tn:Int) (s t:Nat) (x:Addr) (_:vs=[.ref x]) (_:A5 a H0 H r ps tn s t x) (_:∀H' q,aD H H'->H q=none->H' q=some (.lst ((rowOf r ps tn s t).map V.int))->Q (.ref q) H'):Er a vs H Q E
theorem ym:az ["self"] ["self"] (aj (inClass (top 19) 1)):=aR
theorem p_(T:Tx K mg a):a4 P w K mg base (cW P w) 1 a.fA a.rj ["self"] (Er a):=by
 refine T.fA.F.kP ym λcdv A outer s H vs Q E hr h=>?_;obtain⟨H0,r,ps,tn,s',t,x,rfl,⟨dx,tk,af,ad,ap,_,_,h1,h2,h3⟩,k⟩:=h
 exists aF (aE (bv pH (cb (aa (au (pv 0) rfl) (aa (au (pv 0) rfl) (aa (au (pv 0) rfl) ae)))) (au (pv 0) rfl)))
 refine⟨_,rfl,x,_,_,_,_,rfl,h1,T.bV.cl,T.iH,rfl,_,rfl,x,_,_,_,_,rfl,h1,T.bV.cl,T.gY,rfl,_,rfl,x,_,_,_,_,rfl,h1,T.bV.cl,T.fX,rfl,(by rw[PL];show 3<=_;omega),λq hq=>?_⟩;have S0:=aA (o:= .lst [.int (s':Nat),.int (t:Nat),.int (overOf r (bz r ps s' t) (1-tn))]) hq;refine⟨_,rfl,x,_,_,_,_,rfl,S0 _ _ h1,T.bV.cl,T.gC,rfl,q,tk,_,_,rfl,rfl,ah,S0 _ _ h2,?_,λz hz=>?_⟩
 ·rw[Px,PL]
  have:=ir r (ba ps s' t) t;show 3+_<=_;omega
 ·exact k _ z (S0.trans (aA hz)) (S0.free hz) (by rw[ah];rfl)
theorem KE{α:Type}{xs:List α}{j:Nat}{v:α}(h:xs[j]? =some v):B7 xs (j:Nat)=some v:=by
 have hj:=(PQ.mp h).1;unfold B7;rw[zt hj];exact h
theorem LM.ex{H H':Hp}{b x C dx:Addr}{fs:List (Str×V)}(h:LM K b H)(hx:H x=some (.ins C dx fs))(s:Ex x H H'):LM K b H':=by
 rcases h with⟨o,xs,h,q⟩|h
 ·exact .inl ⟨o,xs,s _ _ h (bf h hx λz=>nomatch z),q⟩
 ·exact .inr h
def mI(ns:List Int)(n told:Nat)(w:Str):Bool:=ns[n]? ==some ((w.cps.toList.getD told 0:Nat):Int)
def b6(ns:List Int)(ws:List Str):Nat->Nat->List Str->Nat->Except Nat (V×Nat)
 |0,_,_,n=>.error n
 |f+1,told,left,n=>match left.filter (mI ns n told)with
  |[]=>.error n
  |w::l=>if w.length=told+1 then .ok (.int (ws.findIdx (λu=>decide (u=w)):Nat),n+1)else b6 ns ws f (told+1) (w::l) (n+1)
structure FU(ws:List Str):Prop where
 n:ws.length<=100
 p:∀w∈ws,0<w.cps.toList.length/\w.cps.toList.length<=15
 f:∀u∈ws,∀v∈ws,u.cps.toList<+:v.cps.toList->u=v
theorem str_len(z:Str):z.length=z.cps.toList.length:=by
 show z.cps.size=_;simp
theorem FK(l:List Str):(l.map V.str).all ka=true:=by
 rw[List.all_map,Rg];intro x _;rfl
inductive CS(K:PB)(a:Ad)(vs:List V)(H:Hp)(Q:VK)(E:XK):Prop
 |mk (x dx g:Addr) (ns:List Int) (n:Nat) (wt:Addr) (ws:List Str) (_:vs=[.ref x,.ref wt]) (_:fI K a H x dx g ns n) (_:iP K H wt (ws.map V.str)) (_:LM K wt H) (_:FU ws) (_:B4 a x dx g H (b6 ns ws 15 0 ws n) Q E):CS K a vs H Q E
theorem xa{told:Nat}{u v:Str}(hu:told<u.cps.toList.length)(hv:told<v.cps.toList.length)(e:u.cps.toList.take told=v.cps.toList.take told)(c:u.cps.toList.getD told 0=v.cps.toList.getD told 0):u.cps.toList.take (told+1)=v.cps.toList.take (told+1):=by
 rw[QZ,QZ,e]
 congr 1
 simp only[List.getD,PD hu,PD hv,Option.getD_some]at c;rw[PD hu,PD hv,c]
theorem cM:az ["self","words","left","told","word"] ["self","words"] (aj (inClass (top 46) 6)):=aR
theorem bH(T:Tx K mg a):a4 P w K mg base (cW P w) 3 a.a7 a.mD ["self","words"] (CS K a):=by
 refine T.a7.F.oO cM λcdv A outer s H vs Q E hr h=>?_;obtain⟨x,dx,g,ns,n,wt,ws,rfl,R,hw,hty,W,k⟩:=h
 exists aB (e_ 2 cM.nd (ng sy rfl T.HH (by decide+kernel) (aa (pv 1) ae))) (aB (e_ 3 cM.nd aw) (aF (jE QO (dD qT) (aB (tO (i:=2) (own:=[("word",4)]) rfl cM.nd rfl rfl rfl (cN (pv 2)) (cp rfl) (λ_ _ _ _ _=>(kT 4 cM.nd)) (λ_ _ _ _ _=>(EO (dD (je (pv 0) T.aC T.db (iK T) hr aK (aa (bj Ax (pv 4) (pv 3) (λ_ _=>rfl)) ae))))) (λ_ _ _ _ _=>(pv 4))) (aB (bE (aI bO (bt bN rfl T.mj (by decide+kernel) (aa (pv 2) ae)) aw (aJ _)) (aF (f8 ay hr.hd T.AW (mF T) T.dW.b (hr.d1) rfl T.g7.m (aa (au (pv 0) rfl) ae))) aX) (aB (qr (pv 0) aw Ah) (aB (Gx 3 cM.nd aw tW) (aF (bE (aI bO (bt Aa rfl T.mj (by decide+kernel) (aa (bj a_ (pv 2) aw (λ_ _=>rfl)) ae)) (pv 3) (aJ _)) (aF (aE (KC PySem.F.plainAttrs_tuple PySem.F.slot_tuple_index PySem.F.type_tuple_index FD (pv 1) (aa (bj a_ (pv 2) aw (λ_ _=>rfl)) ae)))) aX)))))))))
 refine⟨_,rfl,wt,_,rfl,.inr hw,λq hq=>?_⟩;have S0:aD H (upd H q (.lst (ws.map V.str))):=aA hq;refine⟨λm σ H'=>∃(told n':Nat)(left:List Str)(lq:Addr)(u:Option V),σ=[some (.ref x),some (.ref wt),some (.ref lq),some (.int (told:Nat)),u]/\m+told=15/\left.length<=100/\Ex x H H'/\H' x=some (.ins a.aY dx (vt g n'))/\H' lq=some (.lst (left.map V.str))/\(∀v∈left,v∈ws/\told<v.cps.toList.length)/\(∀v∈left,∀v'∈left,v.cps.toList.take told=v'.cps.toList.take told)/\b6 ns ws 15 0 ws n=b6 ns ws m told left n',⟨15,0,n,ws,q,_,rfl,rfl,W.n,S0.ex,S0 _ _ R.ins,ah,λv hv=>⟨hv,(W.p v hv).1⟩,λv _ v' _=>by simp,rfl⟩,?_⟩
 rintro m σ H1 ⟨told,n',left,lq,u,rfl,hm,ll,e1,x1,l1,lw,lt,hs⟩
 have R1:=R.ex e1 x1;refine⟨_,rfl,Lv ⟨_,λ_ _ h=>h,?_⟩⟩;refine⟨_,rfl,lq,rfl,⟨_,a0.of l1⟩,λD hD=>iU (J:=C9 K lq) (n:=left.length) (λi=>(((left.take i).filter (mI ns n' told)).map V.str)) hD (by simp) (λi H hi s=>⟨_,V.str (left[i]'hi),a0.of (s _ _ l1),by simp⟩) (λH s=>⟨_,a0.of (s _ _ l1),by rw[Px];exact PF _⟩) (λi H' hi s1 e2 y H2 hy=>?_) λH' s1 e2=>?_⟩
 ·obtain⟨rfl,hy⟩:=hy
  have hx:left[i]? =some (left[i]'hi):=PD hi;have hy':=hy _ (a0.of (s1 _ _ l1));rw[Qa,hx]at hy';cases hy';have lv:=(lw _ (RT hi)).2;generalize left[i]'hi=v at*;have at1:v.cps.toList[told]? =some (v.cps.toList.getD told 0):=by simp[List.getD,PD lv]
  refine⟨rfl,_,rfl,x,dx,_,rfl,s1 _ _ x1,rfl,_,rfl,_,rfl,v,_,_,rfl,rfl,?_,KE at1,x,dx,g,ns,n',_,rfl,R1.same s1,_,rfl,fO (λh1=>?_) λh1=>?_⟩
  ·rw[str_len,PL]
   have:=(W.p v (lw v (Ql hx)).1).2;omega
  ·refine⟨_,rfl,?_⟩
   refine Got.of hD s1 e2 (aD.refl _) ?_ ?_
   ·rw[Px]
    have:=Sb (mI ns n' told) (left.take i);rw[Qt]at this;omega
   ·rw[qy _ hx,Qg,Pz (show mI ns n' told v=true from h1)]
    rfl
  ·refine⟨s1,?_⟩
   rw[e2,qy _ hx,Py (by rw[show mI ns n' told v=false from h1];exact PM),QA]
 ·rw[Qp (PF _)]at e2
  have e3:=e1.same s1;have x3:=s1 _ _ x1;refine⟨_,rfl,D,_,rfl,.inl (a0.of e2),rfl,_,rfl,dG (λh1=>?_) λh1=>?_⟩
  ·have hl:left.filter (mI ns n' told)=[]:=by
    have:(left.filter (mI ns n' told)).length=0:=by rw[Px]at h1;omega
    exact QP.mp this
   have er:b6 ns ws 15 0 ws n=.error n':=by
    rw[hs];cases m with
    |zero=>rfl
    |succ m=>unfold b6;rw[hl]
   rw[er]at k;refine⟨_,rfl,x,_,_,_,_,rfl,x3,T.aC.cl,T.bI,rfl,rfl,(by show 1<=1000;decide),λe d n1 n2 n3=>?_⟩;exact ux k e3 e d n1 n2 n3 (by rw[x3];exactλq=>nomatch q)
  ·cases hl:left.filter (mI ns n' told)with
   |nil=>rw[hl]at h1;exact absurd rfl h1
   |cons v l=>
    rw[hl]at e2 h1;have fm:∀y∈v::l,y∈left/\mI ns n' told y=true:=λy hy=>by rw[<-hl]at hy;exact Qz.mp hy
    have vl:=lw v (fm v (PU)).1;have vb:=W.p v vl.1;obtain⟨m,rfl⟩:∃m',m=m'+1:=⟨m-1,by omega⟩;have step:b6 ns ws (m+1) told left n'=if v.length=told+1 then .ok (.int (ws.findIdx (λu=>decide (u=v)):Nat),n'+1)else b6 ns ws m (told+1) (v::l) (n'+1):=by
     conv=>lhs;unfold b6
     rw[hl]
    refine⟨_,rfl,x,_,_,_,_,rfl,x3,T.aC.cl,T.bI,rfl,_,_,rfl,rfl,dx,_,x3,(by show 2<1000;decide),?_⟩;refine⟨_,rfl,_,_,rfl,rfl,?_⟩;have xD:D≠x:=bf e2 x3 λz=>nomatch z;have e4:Ex x H (upd H' x (.ins a.aY dx (vt g (n'+1)))):=e3.self;have x4:(upd H' x (.ins a.aY dx (vt g (n'+1)))) x=some (.ins a.aY dx (vt g (n'+1))):=ah;have D4:(upd H' x (.ins a.aY dx (vt g (n'+1)))) D=some (.lst ((v::l).map V.str)):=by rw[ai xD];exact e2
    have ll2:(v::l).length<=100:=by
     rw[<-hl];exact Qq (Sb _ _) ll
    refine⟨_,rfl,D,_,_,_,rfl,rfl,a0.of D4,at_of (j:=0) rfl rfl,v,rfl,(by rw[str_len,PL];exact Qq vb.2 (by decide)),_,rfl,rfl,_,rfl,dG (λh2=>?_) λh2=>?_⟩
    ·have h2:v.length=told+1:=by
      have h2:((v.length:Nat):Int)=((told:Nat):Int)+1:=h2;omega
     rw[hs,step,Pz h2]at k;have hv:v∈ws:=vl.1;have lt1:ws.findIdx (λu=>decide (u=v))<ws.length:=Q9 ⟨v,hv,by simp⟩;have at1:ws[ws.findIdx (λu=>decide (u=v))]? =some v:=by
      rw[PD lt1];have:=List.findIdx_getElem (w:=lt1);exact QI some (PR this)
     have hw4:=iP.ex hw R.ins e4;refine⟨_,rfl,⟨wt,rfl,LM.ex hty R.ins e4⟩,_,rfl,D,_,_,_,rfl,rfl,a0.of D4,at_of (j:=0) rfl rfl,wt,ws.map V.str,.str v,ws.findIdx (λu=>decide (u=v)),.str v,rfl,rfl,hw4,rfl,FK ws,by rw[Qa,at1];rfl,by simp[EF],λj z hj hz=>?_,?_⟩
     ·rw[Qa]at hz
      have lj:j<ws.length:=RQ hj lt1;rw[PD lj]at hz;cases hz;have q:=List.not_of_lt_findIdx hj;have q:¬ws[j]=v:=by simpa using q
      simp[EF,q]
     ·exact k _ e4 x4
    ·have h2:¬v.length=told+1:=λz=>h2 (show((v.length:Nat):Int)=((told:Nat):Int)+1 by omega)
     rw[Py h2]at step;rw[str_len]at h2;refine⟨m,by omega,told+1,n'+1,v::l,D,_,rfl,by omega,ll2,e4,x4,D4,λy hy=>?_,λy hy y' hy'=>?_,hs.trans step⟩
     ·obtain⟨y1,y2⟩:=fm y hy
      obtain⟨y3,y4⟩:=lw y y1;refine⟨y3,?_⟩;rcases RB (told+1) y.cps.toList.length with z|z
      ·exact z
      ·exfalso
       have zl:y.cps.toList.length=told+1:=by omega
       have v2:=(fm v (PU)).2;have ce:y.cps.toList.getD told 0=v.cps.toList.getD told 0:=by
        have q1:ns[n']? =some _:=eq_of_beq y2;have q2:ns[n']? =some _:=eq_of_beq v2;rw[q1]at q2;have:=Qk q2;omega
       have te:=xa y4 vl.2 (lt y y1 v (fm v (PU)).1) ce;rw[Qp (by omega)]at te;have pf:y.cps.toList<+:v.cps.toList:=by rw[te];exact List.take_prefix _ _
       have:=W.f y y3 v vl.1 pf;subst this;omega
     ·obtain⟨y1,y2⟩:=fm y hy
      obtain⟨z1,z2⟩:=fm y' hy';refine xa (lw y y1).2 (lw y' z1).2 (lt y y1 y' z1) ?_;have q1:ns[n']? =some _:=eq_of_beq y2;have q2:ns[n']? =some _:=eq_of_beq z2;rw[q1]at q2;have:=Qk q2;omega
structure ft(H:Hp)(q:Addr)(L:List (Addr×Nat×Nat)):Prop where
 l:H q=some (.lst (L.map λ(e:Addr×Nat×Nat)=>V.ref e.1))
 t:∀e∈L,H e.1=some (.tup [.int (e.2.1:Nat),.int (e.2.2:Nat)])
theorem ft.same{H H':Hp}{q:Addr}{L:List (Addr×Nat×Nat)}(h:ft H q L)(s:aD H H'):ft H' q L:=⟨s _ _ h.l,λe he=>s _ _ (h.t e he)⟩
theorem ft.ex{H H':Hp}{q:Addr}{L:List (Addr×Nat×Nat)}{x C dx:Addr}{fs:List (Str×V)}(h:ft H q L)(hx:H x=some (.ins C dx fs))(s:Ex x H H'):ft H' q L:=
 ⟨s _ _ h.l (bf h.l hx λz=>nomatch z),λe he=>s _ _ (h.t e he) (bf (h.t e he) hx λz=>nomatch z)⟩
theorem ft.snoc{H:Hp}{q t:Addr}{L:List (Addr×Nat×Nat)}{i j:Nat}(h:ft H q L)(ht:H t=some (.tup [.int (i:Nat),.int (j:Nat)])):ft (upd H q (.lst (L.map (λ(e:Addr×Nat×Nat)=>V.ref e.1)++[V.ref t]))) q (L++[(t,i,j)]):=by
 refine⟨by rw[ah,Qg];rfl,λe he=>?_⟩;rcases Qc.mp he with z|z
 ·rw[ai (bf (h.t e z) h.l λz=>nomatch z)]
  exact h.t e z
 ·rw[Qb]at z
  subst z;rw[ai (bf ht h.l λz=>nomatch z)];exact ht
def hU(z:Str)(ns:List Int):Nat->List (Nat×Nat)->Nat->Except Nat (List (Nat×Nat)×Nat)
 |0,acc,n=>.ok (acc,n)
 |k+1,acc,n=>match cK z ns n with
  |none=>.error n
  |some i=>hU z ns k (acc++[(n,i)]) (n+1)
def yt(ns:List Int)(f:List (Nat×Nat)->Nat->Except Nat (List (Nat×Nat)×Nat))(r:Except Nat (List (Nat×Nat)×Nat)):Except Nat (List (Nat×Nat)×Nat):=match r with
 |.error e=>.error e
 |.ok (acc,n)=>match c_ ns [10] n with
  |.error e=>.error e
  |.ok m=>f acc m
def eA(z:Str)(ns:List Int)(wide:Nat):Nat->List (Nat×Nat)->Nat->Except Nat (List (Nat×Nat)×Nat)
 |0,acc,n=>.ok (acc,n)
 |k+1,acc,n=>yt ns (eA z ns wide k) (hU z ns wide acc n)
inductive C7(K:PB)(a:Ad)(vs:List V)(H:Hp)(Q:VK)(E:XK):Prop
 |mk (x dx g:Addr) (ns:List Int) (n wide high:Nat) (z:Str) (_:vs=[.ref x,.int (wide:Nat),.int (high:Nat),.str z]) (_:fI K a H x dx g ns n) (_:wide<=13) (_:high<=13) (_:(match eA z ns wide high [] n with
  |.ok (l,n')=>∀H' q L,Ex x H H'->H' x=some (.ins a.aY dx (vt g n'))->ft H' q L->L.map (·.2)=l->Q (.ref q) H'
  |.error m=>fJ a x H m E)):C7 K a vs H Q E
theorem jd:az ["reader","wide","high","signs","told","row","x","place"] ["reader","wide","high","signs"] (aj (top 82)):=aR
theorem tG(T:Tx K mg a):a4 P w K mg base (cW P w) 5 a.iD a.uU ["reader","wide","high","signs"] (C7 K a):=by
 refine T.iD.F.oO jd λcdv A outer s H vs Q E hr h=>?_;obtain⟨x,dx,g,ns,n,wide,high,z,rfl,R,bw,bh,k⟩:=h
 exists aB (e_ 4 jd.nd (cb ae)) (aB (dI QO rfl (dP rfl T.g8 (aa (pv 2) ae)) (kT 5 jd.nd) (aB (dI QO rfl (dP rfl T.g8 (aa (pv 1) ae)) (kT 6 jd.nd) (aB (e_ 7 jd.nd (au (pv 0) rfl)) (aF (aZ (jg Qy QV QW gm (pv 4) (aa (nV (aa (pv 7) (aa (je (pv 0) T.aC T.aV (a8 T) hr ay.passes (aa (pv 3) ae)) ae))) ae)))))) (aF (aZ (je (pv 0) T.aC T.aH (aL T) hr ay.passes (aa a9 ae)))))) (aF (aE (pv 4))))
 refine⟨QG _,λq hq=>?_⟩;have S0:aD H (upd H q (.lst [])):=aA hq;have kE:∀m,eA z ns wide high [] n=.error m->fJ a x H m E:=λm e=>by rw[e]at k;exact k
 have kO:∀l n',eA z ns wide high [] n=.ok (l,n')->∀H' q L,Ex x H H'->H' x=some (.ins a.aY dx (vt g n'))->ft H' q L->L.map (·.2)=l->Q (.ref q) H':=λl n' e=>by rw[e]at k;exact k
 clear k;refine⟨_,rfl,_,rfl,(by omega),(by omega),mX (n:=high) (λi σ H'=>∃L acc n' u v w',σ=[some (.ref x),some (V.int (wide:Nat)),some (.int (high:Nat)),some (.str z),some (.ref q),u,v,w']/\Ex x H H'/\H' x=some (.ins a.aY dx (vt g n'))/\ft H' q L/\L.map (·.2)=acc/\acc.length=wide*i/\eA z ns wide high [] n=eA z ns wide (high-i) acc n') ⟨[],[],n,_,_,_,rfl,S0.ex,S0 _ _ R.ins,⟨by rw[ah];rfl,λe he=>by cases he⟩,rfl,rfl,rfl⟩ (λi σ H1 hi hW=>?_) λσ H1 hW=>?_⟩
 ·obtain⟨L,acc,n',u,v,w',rfl,e1,x1,p1,l1,l2,hs⟩:=hW
  have hwi:wide*i<=13*13:=Sa bw (by omega);have hs:eA z ns wide high [] n=yt ns (eA z ns wide (high-(i+1))) (hU z ns (wide-0) acc n'):=by
   rw[hs];have e:high-i=(high-(i+1))+1:=by omega
   rw[e];rfl
  refine⟨_,rfl,_,rfl,(by omega),(by omega),mX (n:=wide) (λj σ H'=>∃L acc n' v w',σ=[some (.ref x),some (V.int (wide:Nat)),some (.int (high:Nat)),some (.str z),some (.ref q),some (.int (0+(i:Nat))),v,w']/\Ex x H H'/\H' x=some (.ins a.aY dx (vt g n'))/\ft H' q L/\L.map (·.2)=acc/\acc.length=wide*i+j/\eA z ns wide high [] n=yt ns (eA z ns wide (high-(i+1))) (hU z ns (wide-j) acc n')) ⟨L,acc,n',_,_,rfl,e1,x1,p1,l1,l2,hs⟩ (λj σ H2 hj hW=>?_) λσ H2 hW=>?_⟩
  ·obtain⟨L,acc,n',v,w',rfl,e1,x1,p1,l1,l2,hs⟩:=hW
   refine⟨_,rfl,x,_,_,_,_,rfl,x1,T.aC.cl,T.bI,rfl,?_⟩;refine⟨_,rfl,.inl ⟨rfl,_,a0.of p1.l⟩,_,rfl,_,rfl,x,dx,_,rfl,x1,rfl,_,rfl,x,dx,g,ns,n',z,rfl,R.ex e1 x1,?_⟩;have step:hU z ns (wide-j) acc n'=(match cK z ns n' with
     |none=>.error n'
     |some i=>hU z ns (wide-(j+1)) (acc++[(n',i)]) (n'+1)):=by
    have e:wide-j=(wide-(j+1))+1:=by omega
    rw[e];rfl
   unfold aW;cases hk:cK z ns n' with
   |none=>
    rw[hk]at step;rw[step]at hs;exact fJ.mono (kE n' hs) e1
   |some b=>
    rw[hk]at step;rw[step]at hs;intro H3 s3 x3;refine⟨(by rw[PL];show 2<=_;omega),λt ht=>?_⟩;have p3:ft H3 q L:=p1.ex x1 s3;have tx:x≠t:=ak x3 ht;have p4:=p3.same (aA (o:= .tup [.int (n':Nat),.int (b:Nat)]) ht);refine⟨q,_,_,rfl,rfl,p4.l,(by rw[Px,PL];have:=QI List.length l1;rw[Px]at this;omega),L++[(t,n',b)],acc++[(n',b)],n'+1,_,_,rfl,?_,?_,p4.snoc ah,by rw[Qg,l1];rfl,by rw[P0,l2];rfl,hs⟩
    ·exact(((e1.trans s3).same (aA ht)).new hq)
    ·have xq:x≠q:=bf x3 p3.l λz=>nomatch z
     rw[ai xq,ai tx];exact x3
  ·obtain⟨L,acc,n',v,w',rfl,e1,x1,p1,l1,l2,hs⟩:=hW
   rw[Nat.sub_self]at hs;replace hs:eA z ns wide high [] n=(match c_ ns [10] n' with
    |.error e=>.error e
    |.ok m=>eA z ns wide (high-(i+1)) acc m):=hs
   refine⟨_,rfl,x,dx,_,rfl,x1,rfl,x,dx,g,ns,n',"\n",rfl,R.ex e1 x1,?_⟩;have e10:("\n":Str).cps.toList=[10]:=by decide+kernel
   rw[e10];cases hl:c_ ns [10] n' with
   |error e=>
    rw[hl]at hs;exact fJ.mono (kE e hs) e1
   |ok m=>
    rw[hl]at hs;intro H3 s3 x3;refine⟨L,acc,m,_,_,_,rfl,e1.trans s3,x3,p1.ex x1 s3,l1,by rw[l2,Rs],hs⟩
 ·obtain⟨L,acc,n',u,v,w',rfl,e1,x1,p1,l1,l2,hs⟩:=hW
  rw[Nat.sub_self]at hs;exact⟨_,rfl,kO acc n' hs H1 q L e1 x1 p1 l1⟩
def lT{β γ:Type}(r:Except Nat (β×Nat))(f:β->Nat->Except Nat γ):Except Nat γ:=match r with
 |.error e=>.error e
 |.ok p=>f p.1 p.2
theorem CC{β γ:Type}{v:β}{n:Nat}{f:β->Nat->Except Nat γ}:lT (.ok (v,n)) f=f v n:=rfl
def jL(ns:List Int)(z:Str)(n:Nat):Except Nat (Unit×Nat):=match c_ ns z.cps.toList n with
 |.ok m=>.ok ((),m)
 |.error e=>.error e
def jv(r:Except Nat (V×Nat)):Except Nat (Int×Nat):=match r with
 |.ok (.int i,m)=>.ok (i,m)
 |.ok (_,m)=>.error m
 |.error e=>.error e
def Bg(r:Except Nat (V×Nat)):Except Nat (Unit×Nat):=match r with
 |.ok p=>.ok ((),p.2)
 |.error e=>.error e
def Ci(ns:List Int)(n:Nat):Except Nat (Unit×Nat):=if n<ns.length then .error n else .ok ((),n)
structure DR where
 wide:Nat
 high:Nat
 ground:List (Nat×Nat)
 start:List (Nat×Nat)
 first:Int
 slides:Int
 armed:Int
 four:Int
 passed:Int
 seat:Int
 exits:Int
 gn:Nat
 goal:Int
 thrice:Int
 limit:Int
 jS:Nat
def OJ(gq sq:Addr)(d:DR):List (Str×V):=[("wide",.int (d.wide:Nat)),("high",.int (d.high:Nat)),("ground",.ref gq),("start",.ref sq),("first",.int d.first),("slides",.int d.slides),("armed",.int d.armed),("four",.int d.four),("passed",.int d.passed),("seat",.int d.seat),("exits",.int d.exits),("goal_place",.int (d.gn:Nat)),("goal",.int d.goal),("thrice",.int d.thrice),("limit",.int d.limit),("end_place",.int (d.jS:Nat))]
structure Em(a:Ad)(H:Hp)(x dx gq sq:Addr)(d:DR)(L1 L2:List (Addr×Nat×Nat)):Prop where
 ins:H x=some (.ins a.aO dx (OJ gq sq d))
 g:ft H gq L1
 ge:L1.map (·.2)=d.ground
 s:ft H sq L2
 se:L2.map (·.2)=d.start
theorem Em.same{a:Ad}{H H':Hp}{x dx gq sq:Addr}{d:DR}{L1 L2:List (Addr×Nat×Nat)}(h:Em a H x dx gq sq d L1 L2)(s:aD H H'):Em a H' x dx gq sq d L1 L2:=⟨s _ _ h.ins,h.g.same s,h.ge,h.s.same s,h.se⟩
def vT:List Str:=["hunters","king"]
theorem yk:FU vT:=⟨by decide,by decide+kernel,by decide+kernel⟩
def sF:List Str:=["steps","slides"]
theorem vk:FU sF:=⟨by decide,by decide+kernel,by decide+kernel⟩
def vZ:List Str:=["bare","armed"]
theorem xQ:FU vZ:=⟨by decide,by decide+kernel,by decide+kernel⟩
def Ae:List Str:=["two","four"]
theorem zP:FU Ae:=⟨by decide,by decide+kernel,by decide+kernel⟩
def sQ:List Str:=["barred","passed"]
theorem ve:FU sQ:=⟨by decide,by decide+kernel,by decide+kernel⟩
def x_:List Str:=["quiet","hunters","men","all"]
theorem sN:FU x_:=⟨by decide,by decide+kernel,by decide+kernel⟩
def AE:List Str:=["edge","exits"]
theorem zn:FU AE:=⟨by decide,by decide+kernel,by decide+kernel⟩
def sG:List Str:=["drawn","hunters","king"]
theorem uF:FU sG:=⟨by decide,by decide+kernel,by decide+kernel⟩
section
variable(ns:List Int)(wide high:Nat)(ground start:List (Nat×Nat))(first slides armed four passed seat exits goal thrice limit:Int)(goal_place n:Nat)
def NG:Except Nat DR:=
 lT (jL ns "\n" n) λ_ n=>
 lT (Ci ns n) λ_ n=>
 .ok {wide:=wide,high:=high,ground:=ground,start:=start,first:=first,slides:=slides,armed:=armed,four:=four,passed:=passed,seat:=seat,exits:=exits,gn:=goal_place,goal:=goal,thrice:=thrice,limit:=limit,jS:=n}
def O_:Except Nat DR:=
 lT (jL ns "\nlimit " n) λ_ n=>
 lT (jv (AD ns n)) λlimit n=>
 NG ns wide high ground start first slides armed four passed seat exits goal thrice limit goal_place n
def Ph:Except Nat DR:=
 lT (jL ns "\nthrice " n) λ_ n=>
 lT (jv (b6 ns sG 15 0 sG n)) λthrice n=>
 O_ ns wide high ground start first slides armed four passed seat exits goal thrice goal_place n
def OZ:Except Nat DR:=
 lT (jL ns "\ngoal " n) λ_ n=>
 lT (.ok (n,n)) λgoal_place n=>
 lT (jv (b6 ns AE 15 0 AE n)) λgoal n=>
 Ph ns wide high ground start first slides armed four passed seat exits goal goal_place n
def Pb:Except Nat DR:=
 lT (jL ns "\nexits " n) λ_ n=>
 lT (jv (b6 ns x_ 15 0 x_ n)) λexits n=>
 OZ ns wide high ground start first slides armed four passed seat exits n
def O8:Except Nat DR:=
 lT (jL ns " " n) λ_ n=>
 lT (jv (b6 ns x_ 15 0 x_ n)) λseat n=>
 Pb ns wide high ground start first slides armed four passed seat n
def OY:Except Nat DR:=
 lT (jL ns "\nseat " n) λ_ n=>
 lT (jv (b6 ns sQ 15 0 sQ n)) λpassed n=>
 O8 ns wide high ground start first slides armed four passed n
def O2:Except Nat DR:=
 lT (jL ns " " n) λ_ n=>
 lT (jv (b6 ns Ae 15 0 Ae n)) λfour n=>
 OY ns wide high ground start first slides armed four n
def Pf:Except Nat DR:=
 lT (jL ns " " n) λ_ n=>
 lT (jv (b6 ns vZ 15 0 vZ n)) λarmed n=>
 O2 ns wide high ground start first slides armed n
def Pt:Except Nat DR:=
 lT (jL ns "\nking " n) λ_ n=>
 lT (jv (b6 ns sF 15 0 sF n)) λslides n=>
 Pf ns wide high ground start first slides n
def Pk:Except Nat DR:=
 lT (jL ns "first " n) λ_ n=>
 lT (jv (b6 ns vT 15 0 vT n)) λfirst n=>
 Pt ns wide high ground start first n
end
def iQ(ns:List Int):Except Nat DR:=
 lT (jL ns "tafl " 0) λ_ n=>
 lT (Bg (Bb ns n)) λ_ n=>
 lT (jL ns " " n) λ_ n=>
 lT (jv (sW ns n)) λwide n=>
 lT (jL ns " " n) λ_ n=>
 lT (jv (sW ns n)) λhigh n=>
 lT (jL ns "\nground\n" n) λ_ n=>
 lT (eA ".SX#" ns wide.toNat high.toNat [] n) λground n=>
 lT (jL ns "start\n" n) λ_ n=>
 lT (eA ".hmK" ns wide.toNat high.toNat [] n) λstart n=>
 Pk ns wide.toNat high.toNat ground start n
def KD(a:Ad)(x dx r:Addr)(H0:Hp)(Q:VK)(E:XK)(res:Except Nat DR):Prop:=match res with
 |.ok d=>∀H' gq sq L1 L2,Fx [x,r] H0 H'->Em a H' x dx gq sq d L1 L2->Q .eB H'
 |.error m=>ic a [x,r] H0 m E
structure vC(K:PB)(a:Ad)(H0 H:Hp)(x dx r rx g:Addr)(ns:List Int)(fs:List (Str×V))(n:Nat):Prop where
 fx:Fx [x,r] H0 H
 xi:H x=some (.ins a.aO dx fs)
 rd:fI K a H r rx g ns n
 ne:x≠r
section
variable{K:PB}{a:Ad}{H0 H H':Hp}{x dx r rx g:Addr}{ns:List Int}{fs fs':List (Str×V)}{n n':Nat}{Q Q':VK}{E:XK}
theorem vC.read(D:vC K a H0 H x dx r rx g ns fs n)(s:Ex r H H')(h:H' r=some (.ins a.aY rx (vt g n'))):vC K a H0 H' x dx r rx g ns fs n':=
 ⟨D.fx.trans (s.fx (by simp)),s _ _ D.xi D.ne,D.rd.ex s h,D.ne⟩
theorem vC.set(D:vC K a H0 H x dx r rx g ns fs n):vC K a H0 (upd H x (.ins a.aO dx fs')) x dx r rx g ns fs' n:=
 ⟨D.fx.trans (Fx.set (by simp)),ah,⟨by rw[ai (PZ D.ne)];exact D.rd.ins,by rw[ai (bf D.rd.gv D.xi λz=>nomatch z)];exact D.rd.gv⟩,D.ne⟩
theorem vC.new{p:Addr}{o:HO}(D:vC K a H0 H x dx r rx g ns fs n)(hp:H p=none):vC K a H0 (upd H p o) x dx r rx g ns fs n:=
 ⟨D.fx.trans (aA hp).fx,aA hp _ _ D.xi,D.rd.same (aA hp),D.ne⟩
theorem vC.Bw(D:vC K a H0 H x dx r rx g ns fs n):vC K a H H x dx r rx g ns fs n:=⟨Fx.refl,D.xi,D.rd,D.ne⟩
theorem KD.err{β:Type}{res:Except Nat (β×Nat)}{m:Nat}{f:β->Nat->Except Nat DR}(D:vC K a H0 H x dx r rx g ns fs n)(k:KD a x dx r H0 Q E (lT res f))(h:res=.error m):fJ a r H m E:=by
 subst h;exact(ic.after (show ic a [x,r] H0 m E from k) D.fx).e (by simp)
theorem cG{f:Str}{v:V}:∀{fs:List (Str×V)}{ns:List Str},fs.map (·.1)=ns->ns.contains f=false->cf f v fs=fs++[(f,v)]
 |[],_,_,_=>rfl
 |p::fs,ns,e,h=>by
  subst e;rw[QD,List.contains_cons,Bool.or_eq_false_iff]at h;have q:=cG (f:=f) (v:=v) (fs:=fs) rfl h.2;unfold cf;rw[Py (λz=>by rw[z]at h;simp at h),q];rfl
theorem KD.after{res:Except Nat DR}(k:KD a x dx r H0 Q E res)(f:Fx [x,r] H0 H):KD a x dx r H Q E res:=by
 unfold KD at k ⊢;cases res with
 |error m=>exact ic.after k f
 |ok d=>exactλH' gq sq L1 L2 f'=>k H' gq sq L1 L2 (f.trans f')
theorem ft.NQ{q:Addr}{L:List (Addr×Nat×Nat)}{C1 C2 d1 d2:Addr}{f1 f2:List (Str×V)}(h:ft H q L)(f:Fx [x,r] H H')(hx:H x=some (.ins C1 d1 f1))(hr:H r=some (.ins C2 d2 f2)):ft H' q L:=
 ⟨f _ _ h.l (by simp[bf h.l hx (λz=>nomatch z),bf h.l hr (λz=>nomatch z)]),λe he=>f _ _ (h.t e he) (by simp[bf (h.t e he) hx (λz=>nomatch z),bf (h.t e he) hr (λz=>nomatch z)])⟩
theorem cX{z:Str}{f:Unit->Nat->Except Nat DR}(D:vC K a H0 H x dx r rx g ns fs n)(k:KD a x dx r H0 Q E (lT (jL ns z n) f))(c:∀H' n',vC K a H0 H' x dx r rx g ns fs n'->KD a x dx r H0 Q E (f () n')->Q' .eB H'):GH K a [.ref r,.str z] H Q' E:=by
 refine⟨r,rx,g,ns,n,z,rfl,D.rd,?_⟩;cases h:c_ ns z.cps.toList n with
 |error m=>exact k.err D (by unfold jL;rw[h])
 |ok m=>
  intro H1 s1 h1;refine c H1 m (D.read s1 h1) ?_;unfold jL at k;rw[h]at k;exact k
theorem Fz{rf:List Int->Nat->Except Nat (V×Nat)}{f:Unit->Nat->Except Nat DR}(D:vC K a H0 H x dx r rx g ns fs n)(k:KD a x dx r H0 Q E (lT (Bg (rf ns n)) f))(c:∀H' n' v,vC K a H0 H' x dx r rx g ns fs n'->KD a x dx r H0 Q E (f () n')->Q' v H'):uu K a rf [.ref r] H Q' E:=by
 refine⟨r,rx,g,ns,n,rfl,D.rd,?_⟩;cases h:rf ns n with
 |error m=>exact k.err D (by unfold Bg;rw[h])
 |ok p=>
  intro H1 s1 h1;refine c H1 p.2 _ (D.read s1 h1) ?_;unfold Bg at k;rw[h]at k;exact k
theorem xu{rf:List Int->Nat->Except Nat (V×Nat)}{f:Int->Nat->Except Nat DR}(isI:∀p,rf ns n=.ok p->∃i,p.1=.int i)(D:vC K a H0 H x dx r rx g ns fs n)(k:KD a x dx r H0 Q E (lT (jv (rf ns n)) f))(c:∀H' n' i,rf ns n=.ok (.int i,n')->vC K a H0 H' x dx r rx g ns fs n'->KD a x dx r H0 Q E (f i n')->Q' (.int i) H'):uu K a rf [.ref r] H Q' E:=by
 refine⟨r,rx,g,ns,n,rfl,D.rd,?_⟩;cases h:rf ns n with
 |error m=>exact k.err D (by unfold jv;rw[h])
 |ok p=>
  obtain⟨i,e⟩:=isI p h;obtain⟨v,m⟩:=p;cases e;intro H1 s1 h1;refine c H1 m i h (D.read s1 h1) ?_;rw[h]at k;exact k
theorem zX(ws:List Str):∀(f told:Nat)(left:List Str)(n:Nat)(p:V×Nat),b6 ns ws f told left n=.ok p->∃i,p.1=.int i
 |0,_,_,_,_,h=>by cases h
 |f+1,told,left,n,p,h=>by
  unfold b6 at h;cases hl:left.filter (mI ns n told)with
  |nil=>rw[hl]at h;cases h
  |cons v l=>
   rw[hl]at h
   by_cases hv:v.length=told+1
   ·replace h:(if v.length=told+1 then Except.ok (V.int (ws.findIdx (λu=>decide (u=v)):Nat),n+1)else b6 ns ws f (told+1) (v::l) (n+1))=.ok p:=h
    rw[Pz hv]at h;cases h;exact⟨_,rfl⟩
   ·replace h:(if v.length=told+1 then Except.ok (V.int (ws.findIdx (λu=>decide (u=v)):Nat),n+1)else b6 ns ws f (told+1) (v::l) (n+1))=.ok p:=h
    rw[Py hv]at h;exact zX ws f _ _ _ _ h
theorem gK{wt:Addr}{ws:List Str}{f:Int->Nat->Except Nat DR}(W:FU ws)(hw:iP K H wt (ws.map V.str))(ht:LM K wt H)(D:vC K a H0 H x dx r rx g ns fs n)(k:KD a x dx r H0 Q E (lT (jv (b6 ns ws 15 0 ws n)) f))(c:∀H' n' i,vC K a H0 H' x dx r rx g ns fs n'->KD a x dx r H0 Q E (f i n')->Q' (.int i) H'):CS K a [.ref r,.ref wt] H Q' E:=by
 refine⟨r,rx,g,ns,n,wt,ws,rfl,D.rd,hw,ht,W,?_⟩;cases h:b6 ns ws 15 0 ws n with
 |error m=>exact k.err D (by unfold jv;rw[h])
 |ok p=>
  obtain⟨i,e⟩:=zX ws _ _ _ _ p h;obtain⟨v,m⟩:=p;cases e;intro H1 s1 h1;refine c H1 m i (D.read s1 h1) ?_;rw[h]at k;exact k
theorem ze{wide high:Nat}{z:Str}{f:List (Nat×Nat)->Nat->Except Nat DR}(bw:wide<=13)(bh:high<=13)(D:vC K a H0 H x dx r rx g ns fs n)(k:KD a x dx r H0 Q E (lT (eA z ns wide high [] n) f))(c:∀H' n' q L,vC K a H0 H' x dx r rx g ns fs n'->ft H' q L->KD a x dx r H0 Q E (f (L.map (·.2)) n')->Q' (.ref q) H'):C7 K a [.ref r,.int (wide:Nat),.int (high:Nat),.str z] H Q' E:=by
 refine⟨r,rx,g,ns,n,wide,high,z,rfl,D.rd,bw,bh,?_⟩;cases h:eA z ns wide high [] n with
 |error m=>exact k.err D h
 |ok p=>
  obtain⟨l,m⟩:=p;intro H1 q L s1 h1 p1 e1;refine c H1 m q L (D.read s1 h1) p1 ?_;rw[h]at k;rw[e1];exact k
theorem GY{f:Unit->Nat->Except Nat DR}(D:vC K a H0 H x dx r rx g ns fs n)(k:KD a x dx r H0 Q E (lT (Ci ns n) f))(c:KD a x dx r H0 Q E (f () n)->Q' .eB H):KF K a [.ref r] H Q' E:=by
 refine⟨r,rx,g,ns,n,rfl,D.rd,λh=>?_,λh=>?_⟩
 ·unfold Ci at k
  rw[Py (by omega)]at k;exact c k
 ·exact k.err D (by unfold Ci;rw[Pz h])
theorem mU{p:V×Nat}(h:sW ns n=.ok p):∃wd:Nat,p.1=.int (wd:Nat)/\wd<=13/\5<=wd:=by
 unfold sW at h;have l4:("0123":Str).cps.toList.length=4:=by decide+kernel
 have l5:("56789":Str).cps.toList.length=5:=by decide+kernel
 split at h
 ·cases h1:aW "0123" ns (n+1)with
  |error e=>rw[h1]at h;cases h
  |ok q=>
   obtain⟨d,rfl,hd⟩:=dR h1;rw[h1]at h;cases h;have:=(iC hd).1;exact⟨10+d,rfl,by omega,by omega⟩
 ·cases h1:aW "56789" ns n with
  |error e=>rw[h1]at h;cases h
  |ok q=>
   obtain⟨d,rfl,hd⟩:=dR h1;rw[h1]at h;cases h;have:=(iC hd).1;exact⟨5+d,rfl,by omega,by omega⟩
theorem u7:∀(f:Nat)(l:Int)(n:Nat)(p:V×Nat),gA ns f l n=.ok p->∃i,p.1=.int i
 |0,_,_,_,h=>by cases h;exact⟨_,rfl⟩
 |f+1,l,n,p,h=>by
  unfold gA at h;split at h
  ·split at h
   ·exact u7 f _ _ _ h
   ·cases h
   ·cases h
  ·cases h
   exact⟨_,rfl⟩
theorem Jt{p:V×Nat}(h:AD ns n=.ok p):∃i,p.1=.int i:=by
 unfold AD at h;split at h
 ·exact u7 _ _ _ _ h
 ·cases h
 ·cases h
end
inductive B9(K:PB)(a:Ad)(vs:List V)(H:Hp)(Q:VK)(E:XK):Prop
 |mk (x dx r rx g:Addr) (ns:List Int) (_:vs=[.ref x,.ref r]) (_:H x=some (.ins a.aO dx [])) (_:fI K a H r rx g ns 0) (_:x≠r) (_:KD a x dx r H Q E (iQ ns)):B9 K a vs H Q E
theorem rW:az ["self","reader"] ["self","reader"] (aj (inClass (top 77) 0)):=aR
theorem rV(T:Tx K mg a):a4 P w K mg base (cW P w) 6 a.cS a.l9 ["self","reader"] (B9 K a):=by
 refine T.cS.F.oO rW λcdv A outer s H vs Q E hr h=>?_;obtain⟨x,dx,r,rx,g,ns,rfl,hx,R,xr,k⟩:=h;have D:vC K a H H x dx r rx g ns [] 0:=⟨Fx.refl,hx,R,xr⟩;unfold iQ at k
 exists aB (aZ (je (pv 1) T.aC T.aH (aL T) hr ay.passes (aa a9 ae))) (aB (aZ (dm T.jD (AA T) hr ay.passes (aa (pv 1) ae))) (aB (aZ (je (pv 1) T.aC T.aH (aL T) hr ay.passes (aa a9 ae))) (aB (a5 (pv 0) (dm T.io (tF T) hr ay.passes (aa (pv 1) ae)) rfl) (aB (aZ (je (pv 1) T.aC T.aH (aL T) hr ay.passes (aa a9 ae))) (aB (a5 (pv 0) (dm T.io (tF T) hr ay.passes (aa (pv 1) ae)) rfl) (aB (aZ (je (pv 1) T.aC T.aH (aL T) hr ay.passes (aa a9 ae))) (aB (a5 (pv 0) (dm T.iD (tG T) hr ay.passes (aa (pv 1) (aa (au (pv 0) rfl) (aa (au (pv 0) rfl) (aa a9 ae))))) rfl) (aB (aZ (je (pv 1) T.aC T.aH (aL T) hr ay.passes (aa a9 ae))) (aB (a5 (pv 0) (dm T.iD (tG T) hr ay.passes (aa (pv 1) (aa (au (pv 0) rfl) (aa (au (pv 0) rfl) (aa a9 ae))))) rfl) (aB (aZ (je (pv 1) T.aC T.aH (aL T) hr ay.passes (aa a9 ae))) (aB (a5 (pv 0) (je (pv 1) T.aC T.a7 (bH T) hr ay.passes (aa (or (aa a9 (aa a9 ae))) ae)) rfl) (aB (aZ (je (pv 1) T.aC T.aH (aL T) hr ay.passes (aa a9 ae))) (aB (a5 (pv 0) (je (pv 1) T.aC T.a7 (bH T) hr ay.passes (aa (or (aa a9 (aa a9 ae))) ae)) rfl) (aB (aZ (je (pv 1) T.aC T.aH (aL T) hr ay.passes (aa a9 ae))) (aB (a5 (pv 0) (je (pv 1) T.aC T.a7 (bH T) hr ay.passes (aa (or (aa a9 (aa a9 ae))) ae)) rfl) (aB (aZ (je (pv 1) T.aC T.aH (aL T) hr ay.passes (aa a9 ae))) (aB (a5 (pv 0) (je (pv 1) T.aC T.a7 (bH T) hr ay.passes (aa (or (aa a9 (aa a9 ae))) ae)) rfl) (aB (aZ (je (pv 1) T.aC T.aH (aL T) hr ay.passes (aa a9 ae))) (aB (a5 (pv 0) (je (pv 1) T.aC T.a7 (bH T) hr ay.passes (aa (or (aa a9 (aa a9 ae))) ae)) rfl) (aB (aZ (je (pv 1) T.aC T.aH (aL T) hr ay.passes (aa a9 ae))) (aB (a5 (pv 0) (je (pv 1) T.aC T.a7 (bH T) hr ay.passes (aa (J9 T.xJ) ae)) rfl) (aB (aZ (je (pv 1) T.aC T.aH (aL T) hr ay.passes (aa a9 ae))) (aB (a5 (pv 0) (je (pv 1) T.aC T.a7 (bH T) hr ay.passes (aa (J9 T.xJ) ae)) rfl) (aB (aZ (je (pv 1) T.aC T.aH (aL T) hr ay.passes (aa a9 ae))) (aB (a5 (pv 0) (au (pv 1) rfl) rfl) (aB (a5 (pv 0) (je (pv 1) T.aC T.a7 (bH T) hr ay.passes (aa (or (aa a9 (aa a9 ae))) ae)) rfl) (aB (aZ (je (pv 1) T.aC T.aH (aL T) hr ay.passes (aa a9 ae))) (aB (a5 (pv 0) (je (pv 1) T.aC T.a7 (bH T) hr ay.passes (aa (or (aa a9 (aa a9 (aa a9 ae)))) ae)) rfl) (aB (aZ (je (pv 1) T.aC T.aH (aL T) hr ay.passes (aa a9 ae))) (aB (a5 (pv 0) (dm T.i_ (y6 T) hr ay.passes (aa (pv 1) ae)) rfl) (aB (aZ (je (pv 1) T.aC T.aH (aL T) hr ay.passes (aa a9 ae))) (aB (aZ (E7 (pv 1) T.aC T.cA (jI T) hr ay.passes)) (aF (a5 (pv 0) (au (pv 1) rfl) rfl))))))))))))))))))))))))))))))))))
 refine⟨_,rfl,r,rx,_,rfl,D.rd.ins,rfl,cX (z:="tafl ") D k λH1 n1 D1 k1=>?_⟩;clear D k;refine⟨_,rfl,Fz D1 k1 λH1 n2 v D2 k2=>?_⟩;clear D1 k1;refine⟨_,rfl,r,rx,_,rfl,D2.rd.ins,rfl,cX (z:=" ") D2 k2 λH1 n3 D3 k3=>?_⟩;clear D2 k2;refine⟨_,rfl,xu (λp h=>let⟨i,e,_⟩:=mU h;⟨_,e⟩) D3 k3 λH1 n4 iv h1 D4 k4=>?_⟩;clear D3 k3;obtain⟨wide,e_wide,b_wide,_⟩:=mU h1;cases e_wide;clear h1;refine⟨_,rfl,x,_,dx,_,rfl,D4.xi,T.ao.cl,T.cw,(by show 0<1000;decide),?_⟩;rw[show cf "wide" (V.int (wide:Nat)) ([]:List (Str×V))=([("wide",V.int (wide:Nat))]:List (Str×V))from cG (ns:=[]) rfl (by decide+kernel)];have D4s:=D4.set (fs':=([("wide",V.int (wide:Nat))]:List (Str×V)));clear D4;refine⟨_,rfl,r,rx,_,rfl,D4s.rd.ins,rfl,cX (z:=" ") D4s k4 λH1 n5 D5 k5=>?_⟩;clear D4s k4;refine⟨_,rfl,xu (λp h=>let⟨i,e,_⟩:=mU h;⟨_,e⟩) D5 k5 λH1 n6 iv h1 D6 k6=>?_⟩;clear D5 k5;obtain⟨high,e_high,b_high,_⟩:=mU h1;cases e_high;clear h1;refine⟨_,rfl,x,_,dx,_,rfl,D6.xi,T.ao.cl,T.cr,(by show 1<1000;decide),?_⟩;rw[show cf "high" (V.int (high:Nat)) ([("wide",V.int (wide:Nat))]:List (Str×V))=([("wide",V.int (wide:Nat)),("high",V.int (high:Nat))]:List (Str×V))from cG (ns:=["wide"]) rfl (by decide+kernel)];have D6s:=D6.set (fs':=([("wide",V.int (wide:Nat)),("high",V.int (high:Nat))]:List (Str×V)));clear D6;refine⟨_,rfl,r,rx,_,rfl,D6s.rd.ins,rfl,cX (z:="\nground\n") D6s k6 λH1 n7 D7 k7=>?_⟩;clear D6s k6;refine⟨_,rfl,_,rfl,x,_,_,_,_,rfl,D7.xi,T.ao.cl,T.cw,rfl,_,rfl,x,_,_,_,_,rfl,D7.xi,T.ao.cl,T.cr,rfl,?_⟩;dsimp only[GR,tC,rQ,RU,Q0];refine ze (wide:=wide) (high:=high) (z:=".SX#") b_wide b_high D7 k7 λH1 n8 q_ground L_ground D8 p_ground k8=>?_;clear D7 k7;have f_ground:=D8.fx;have i_ground:=D8.xi;have r_ground:=D8.rd.ins;have D8b:=D8.Bw;clear D8;have k8b:=KD.after k8 f_ground;clear k8;refine⟨_,rfl,x,_,dx,_,rfl,D8b.xi,T.ao.cl,T.bP,(by show 2<1000;decide),?_⟩;rw[show cf "ground" (V.ref q_ground) ([("wide",V.int (wide:Nat)),("high",V.int (high:Nat))]:List (Str×V))=([("wide",V.int (wide:Nat)),("high",V.int (high:Nat)),("ground",V.ref q_ground)]:List (Str×V))from cG (ns:=["wide","high"]) rfl (by decide+kernel)];have D8bs:=D8b.set (fs':=([("wide",V.int (wide:Nat)),("high",V.int (high:Nat)),("ground",V.ref q_ground)]:List (Str×V)));clear D8b;refine⟨_,rfl,r,rx,_,rfl,D8bs.rd.ins,rfl,cX (z:="start\n") D8bs k8b λH1 n9 D9 k9=>?_⟩;clear D8bs k8b;refine⟨_,rfl,_,rfl,x,_,_,_,_,rfl,D9.xi,T.ao.cl,T.cw,rfl,_,rfl,x,_,_,_,_,rfl,D9.xi,T.ao.cl,T.cr,rfl,?_⟩;dsimp only[GR,tC,rQ,RU,Q0];refine ze (wide:=wide) (high:=high) (z:=".hmK") b_wide b_high D9 k9 λH1 n10 q_start L_start D10 p_start k10=>?_;clear D9 k9;have f_start:=D10.fx;have i_start:=D10.xi;have r_start:=D10.rd.ins;have D10b:=D10.Bw;clear D10;have k10b:=KD.after k10 f_start;clear k10;refine⟨_,rfl,x,_,dx,_,rfl,D10b.xi,T.ao.cl,T.b8,(by show 3<1000;decide),?_⟩;rw[show cf "start" (V.ref q_start) ([("wide",V.int (wide:Nat)),("high",V.int (high:Nat)),("ground",V.ref q_ground)]:List (Str×V))=([("wide",V.int (wide:Nat)),("high",V.int (high:Nat)),("ground",V.ref q_ground),("start",V.ref q_start)]:List (Str×V))from cG (ns:=["wide","high","ground"]) rfl (by decide+kernel)];have D10bs:=D10b.set (fs':=([("wide",V.int (wide:Nat)),("high",V.int (high:Nat)),("ground",V.ref q_ground),("start",V.ref q_start)]:List (Str×V)));clear D10b;refine⟨_,rfl,r,rx,_,rfl,D10bs.rd.ins,rfl,cX (z:="first ") D10bs k10b λH1 n11 D11 k11=>?_⟩;clear D10bs k10b;refine⟨_,rfl,r,rx,_,rfl,D11.rd.ins,rfl,(by rw[PL];show 2<=_;omega),λwt ow nw tw=>gK (ws:=vT) yk (.inl (.inr ⟨ow,ah⟩)) (.inl ⟨ow,_,ah,tw⟩) (D11.new nw) k11 λH1 n12 iv12 D12 k12=>?_⟩;clear D11 k11;refine⟨_,rfl,x,_,dx,_,rfl,D12.xi,T.ao.cl,T.kZ,(by show 4<1000;decide),?_⟩;rw[show cf "first" (V.int iv12) ([("wide",V.int (wide:Nat)),("high",V.int (high:Nat)),("ground",V.ref q_ground),("start",V.ref q_start)]:List (Str×V))=([("wide",V.int (wide:Nat)),("high",V.int (high:Nat)),("ground",V.ref q_ground),("start",V.ref q_start),("first",V.int iv12)]:List (Str×V))from cG (ns:=["wide","high","ground","start"]) rfl (by decide+kernel)];have D12s:=D12.set (fs':=([("wide",V.int (wide:Nat)),("high",V.int (high:Nat)),("ground",V.ref q_ground),("start",V.ref q_start),("first",V.int iv12)]:List (Str×V)));clear D12;refine⟨_,rfl,r,rx,_,rfl,D12s.rd.ins,rfl,cX (z:="\nking ") D12s k12 λH1 n13 D13 k13=>?_⟩;clear D12s k12;refine⟨_,rfl,r,rx,_,rfl,D13.rd.ins,rfl,(by rw[PL];show 2<=_;omega),λwt ow nw tw=>gK (ws:=sF) vk (.inl (.inr ⟨ow,ah⟩)) (.inl ⟨ow,_,ah,tw⟩) (D13.new nw) k13 λH1 n14 iv14 D14 k14=>?_⟩;clear D13 k13;refine⟨_,rfl,x,_,dx,_,rfl,D14.xi,T.ao.cl,T.kh,(by show 5<1000;decide),?_⟩;rw[show cf "slides" (V.int iv14) ([("wide",V.int (wide:Nat)),("high",V.int (high:Nat)),("ground",V.ref q_ground),("start",V.ref q_start),("first",V.int iv12)]:List (Str×V))=([("wide",V.int (wide:Nat)),("high",V.int (high:Nat)),("ground",V.ref q_ground),("start",V.ref q_start),("first",V.int iv12),("slides",V.int iv14)]:List (Str×V))from cG (ns:=["wide","high","ground","start","first"]) rfl (by decide+kernel)];have D14s:=D14.set (fs':=([("wide",V.int (wide:Nat)),("high",V.int (high:Nat)),("ground",V.ref q_ground),("start",V.ref q_start),("first",V.int iv12),("slides",V.int iv14)]:List (Str×V)));clear D14;refine⟨_,rfl,r,rx,_,rfl,D14s.rd.ins,rfl,cX (z:=" ") D14s k14 λH1 n15 D15 k15=>?_⟩;clear D14s k14;refine⟨_,rfl,r,rx,_,rfl,D15.rd.ins,rfl,(by rw[PL];show 2<=_;omega),λwt ow nw tw=>gK (ws:=vZ) xQ (.inl (.inr ⟨ow,ah⟩)) (.inl ⟨ow,_,ah,tw⟩) (D15.new nw) k15 λH1 n16 iv16 D16 k16=>?_⟩;clear D15 k15;refine⟨_,rfl,x,_,dx,_,rfl,D16.xi,T.ao.cl,T.ly,(by show 6<1000;decide),?_⟩;rw[show cf "armed" (V.int iv16) ([("wide",V.int (wide:Nat)),("high",V.int (high:Nat)),("ground",V.ref q_ground),("start",V.ref q_start),("first",V.int iv12),("slides",V.int iv14)]:List (Str×V))=([("wide",V.int (wide:Nat)),("high",V.int (high:Nat)),("ground",V.ref q_ground),("start",V.ref q_start),("first",V.int iv12),("slides",V.int iv14),("armed",V.int iv16)]:List (Str×V))from cG (ns:=["wide","high","ground","start","first","slides"]) rfl (by decide+kernel)];have D16s:=D16.set (fs':=([("wide",V.int (wide:Nat)),("high",V.int (high:Nat)),("ground",V.ref q_ground),("start",V.ref q_start),("first",V.int iv12),("slides",V.int iv14),("armed",V.int iv16)]:List (Str×V)));clear D16;refine⟨_,rfl,r,rx,_,rfl,D16s.rd.ins,rfl,cX (z:=" ") D16s k16 λH1 n17 D17 k17=>?_⟩;clear D16s k16;refine⟨_,rfl,r,rx,_,rfl,D17.rd.ins,rfl,(by rw[PL];show 2<=_;omega),λwt ow nw tw=>gK (ws:=Ae) zP (.inl (.inr ⟨ow,ah⟩)) (.inl ⟨ow,_,ah,tw⟩) (D17.new nw) k17 λH1 n18 iv18 D18 k18=>?_⟩;clear D17 k17;refine⟨_,rfl,x,_,dx,_,rfl,D18.xi,T.ao.cl,T.lW,(by show 7<1000;decide),?_⟩;rw[show cf "four" (V.int iv18) ([("wide",V.int (wide:Nat)),("high",V.int (high:Nat)),("ground",V.ref q_ground),("start",V.ref q_start),("first",V.int iv12),("slides",V.int iv14),("armed",V.int iv16)]:List (Str×V))=([("wide",V.int (wide:Nat)),("high",V.int (high:Nat)),("ground",V.ref q_ground),("start",V.ref q_start),("first",V.int iv12),("slides",V.int iv14),("armed",V.int iv16),("four",V.int iv18)]:List (Str×V))from cG (ns:=["wide","high","ground","start","first","slides","armed"]) rfl (by decide+kernel)];have D18s:=D18.set (fs':=([("wide",V.int (wide:Nat)),("high",V.int (high:Nat)),("ground",V.ref q_ground),("start",V.ref q_start),("first",V.int iv12),("slides",V.int iv14),("armed",V.int iv16),("four",V.int iv18)]:List (Str×V)));clear D18;refine⟨_,rfl,r,rx,_,rfl,D18s.rd.ins,rfl,cX (z:="\nseat ") D18s k18 λH1 n19 D19 k19=>?_⟩;clear D18s k18;refine⟨_,rfl,r,rx,_,rfl,D19.rd.ins,rfl,(by rw[PL];show 2<=_;omega),λwt ow nw tw=>gK (ws:=sQ) ve (.inl (.inr ⟨ow,ah⟩)) (.inl ⟨ow,_,ah,tw⟩) (D19.new nw) k19 λH1 n20 iv20 D20 k20=>?_⟩;clear D19 k19;refine⟨_,rfl,x,_,dx,_,rfl,D20.xi,T.ao.cl,T.gP,(by show 8<1000;decide),?_⟩;rw[show cf "passed" (V.int iv20) ([("wide",V.int (wide:Nat)),("high",V.int (high:Nat)),("ground",V.ref q_ground),("start",V.ref q_start),("first",V.int iv12),("slides",V.int iv14),("armed",V.int iv16),("four",V.int iv18)]:List (Str×V))=([("wide",V.int (wide:Nat)),("high",V.int (high:Nat)),("ground",V.ref q_ground),("start",V.ref q_start),("first",V.int iv12),("slides",V.int iv14),("armed",V.int iv16),("four",V.int iv18),("passed",V.int iv20)]:List (Str×V))from cG (ns:=["wide","high","ground","start","first","slides","armed","four"]) rfl (by decide+kernel)];have D20s:=D20.set (fs':=([("wide",V.int (wide:Nat)),("high",V.int (high:Nat)),("ground",V.ref q_ground),("start",V.ref q_start),("first",V.int iv12),("slides",V.int iv14),("armed",V.int iv16),("four",V.int iv18),("passed",V.int iv20)]:List (Str×V)));clear D20;refine⟨_,rfl,r,rx,_,rfl,D20s.rd.ins,rfl,cX (z:=" ") D20s k20 λH1 n21 D21 k21=>?_⟩;clear D20s k20;refine⟨_,rfl,r,rx,_,rfl,D21.rd.ins,rfl,gK (ws:=x_) sN (T.yg _) (.inr T.wo) D21 k21 λH1 n22 iv22 D22 k22=>?_⟩;clear D21 k21;refine⟨_,rfl,x,_,dx,_,rfl,D22.xi,T.ao.cl,T.iO,(by show 9<1000;decide),?_⟩;rw[show cf "seat" (V.int iv22) ([("wide",V.int (wide:Nat)),("high",V.int (high:Nat)),("ground",V.ref q_ground),("start",V.ref q_start),("first",V.int iv12),("slides",V.int iv14),("armed",V.int iv16),("four",V.int iv18),("passed",V.int iv20)]:List (Str×V))=([("wide",V.int (wide:Nat)),("high",V.int (high:Nat)),("ground",V.ref q_ground),("start",V.ref q_start),("first",V.int iv12),("slides",V.int iv14),("armed",V.int iv16),("four",V.int iv18),("passed",V.int iv20),("seat",V.int iv22)]:List (Str×V))from cG (ns:=["wide","high","ground","start","first","slides","armed","four","passed"]) rfl (by decide+kernel)];have D22s:=D22.set (fs':=([("wide",V.int (wide:Nat)),("high",V.int (high:Nat)),("ground",V.ref q_ground),("start",V.ref q_start),("first",V.int iv12),("slides",V.int iv14),("armed",V.int iv16),("four",V.int iv18),("passed",V.int iv20),("seat",V.int iv22)]:List (Str×V)));clear D22;refine⟨_,rfl,r,rx,_,rfl,D22s.rd.ins,rfl,cX (z:="\nexits ") D22s k22 λH1 n23 D23 k23=>?_⟩;clear D22s k22;refine⟨_,rfl,r,rx,_,rfl,D23.rd.ins,rfl,gK (ws:=x_) sN (T.yg _) (.inr T.wo) D23 k23 λH1 n24 iv24 D24 k24=>?_⟩;clear D23 k23;refine⟨_,rfl,x,_,dx,_,rfl,D24.xi,T.ao.cl,T.kY,(by show 10<1000;decide),?_⟩;rw[show cf "exits" (V.int iv24) ([("wide",V.int (wide:Nat)),("high",V.int (high:Nat)),("ground",V.ref q_ground),("start",V.ref q_start),("first",V.int iv12),("slides",V.int iv14),("armed",V.int iv16),("four",V.int iv18),("passed",V.int iv20),("seat",V.int iv22)]:List (Str×V))=([("wide",V.int (wide:Nat)),("high",V.int (high:Nat)),("ground",V.ref q_ground),("start",V.ref q_start),("first",V.int iv12),("slides",V.int iv14),("armed",V.int iv16),("four",V.int iv18),("passed",V.int iv20),("seat",V.int iv22),("exits",V.int iv24)]:List (Str×V))from cG (ns:=["wide","high","ground","start","first","slides","armed","four","passed","seat"]) rfl (by decide+kernel)];have D24s:=D24.set (fs':=([("wide",V.int (wide:Nat)),("high",V.int (high:Nat)),("ground",V.ref q_ground),("start",V.ref q_start),("first",V.int iv12),("slides",V.int iv14),("armed",V.int iv16),("four",V.int iv18),("passed",V.int iv20),("seat",V.int iv22),("exits",V.int iv24)]:List (Str×V)));clear D24;refine⟨_,rfl,r,rx,_,rfl,D24s.rd.ins,rfl,cX (z:="\ngoal ") D24s k24 λH1 n25 D25 k25=>?_⟩;clear D24s k24;refine⟨_,rfl,r,_,_,_,_,rfl,D25.rd.ins,T.aC.cl,T.bI,rfl,_,rfl,x,_,dx,_,rfl,D25.xi,T.ao.cl,T.eG,(by show 11<1000;decide),?_⟩;rw[show cf "goal_place" (V.int (n25:Nat)) ([("wide",V.int (wide:Nat)),("high",V.int (high:Nat)),("ground",V.ref q_ground),("start",V.ref q_start),("first",V.int iv12),("slides",V.int iv14),("armed",V.int iv16),("four",V.int iv18),("passed",V.int iv20),("seat",V.int iv22),("exits",V.int iv24)]:List (Str×V))=([("wide",V.int (wide:Nat)),("high",V.int (high:Nat)),("ground",V.ref q_ground),("start",V.ref q_start),("first",V.int iv12),("slides",V.int iv14),("armed",V.int iv16),("four",V.int iv18),("passed",V.int iv20),("seat",V.int iv22),("exits",V.int iv24),("goal_place",V.int (n25:Nat))]:List (Str×V))from cG (ns:=["wide","high","ground","start","first","slides","armed","four","passed","seat","exits"]) rfl (by decide+kernel)];have D25s:=D25.set (fs':=([("wide",V.int (wide:Nat)),("high",V.int (high:Nat)),("ground",V.ref q_ground),("start",V.ref q_start),("first",V.int iv12),("slides",V.int iv14),("armed",V.int iv16),("four",V.int iv18),("passed",V.int iv20),("seat",V.int iv22),("exits",V.int iv24),("goal_place",V.int (n25:Nat))]:List (Str×V)));clear D25;rw[CC]at k25;refine⟨_,rfl,r,rx,_,rfl,D25s.rd.ins,rfl,(by rw[PL];show 2<=_;omega),λwt ow nw tw=>gK (ws:=AE) zn (.inl (.inr ⟨ow,ah⟩)) (.inl ⟨ow,_,ah,tw⟩) (D25s.new nw) k25 λH1 n26 iv26 D26 k26=>?_⟩;clear D25s k25;refine⟨_,rfl,x,_,dx,_,rfl,D26.xi,T.ao.cl,T.i7,(by show 12<1000;decide),?_⟩;rw[show cf "goal" (V.int iv26) ([("wide",V.int (wide:Nat)),("high",V.int (high:Nat)),("ground",V.ref q_ground),("start",V.ref q_start),("first",V.int iv12),("slides",V.int iv14),("armed",V.int iv16),("four",V.int iv18),("passed",V.int iv20),("seat",V.int iv22),("exits",V.int iv24),("goal_place",V.int (n25:Nat))]:List (Str×V))=([("wide",V.int (wide:Nat)),("high",V.int (high:Nat)),("ground",V.ref q_ground),("start",V.ref q_start),("first",V.int iv12),("slides",V.int iv14),("armed",V.int iv16),("four",V.int iv18),("passed",V.int iv20),("seat",V.int iv22),("exits",V.int iv24),("goal_place",V.int (n25:Nat)),("goal",V.int iv26)]:List (Str×V))from cG (ns:=["wide","high","ground","start","first","slides","armed","four","passed","seat","exits","goal_place"]) rfl (by decide+kernel)];have D26s:=D26.set (fs':=([("wide",V.int (wide:Nat)),("high",V.int (high:Nat)),("ground",V.ref q_ground),("start",V.ref q_start),("first",V.int iv12),("slides",V.int iv14),("armed",V.int iv16),("four",V.int iv18),("passed",V.int iv20),("seat",V.int iv22),("exits",V.int iv24),("goal_place",V.int (n25:Nat)),("goal",V.int iv26)]:List (Str×V)));clear D26;refine⟨_,rfl,r,rx,_,rfl,D26s.rd.ins,rfl,cX (z:="\nthrice ") D26s k26 λH1 n27 D27 k27=>?_⟩;clear D26s k26;refine⟨_,rfl,r,rx,_,rfl,D27.rd.ins,rfl,(by rw[PL];show 3<=_;omega),λwt ow nw tw=>gK (ws:=sG) uF (.inl (.inr ⟨ow,ah⟩)) (.inl ⟨ow,_,ah,tw⟩) (D27.new nw) k27 λH1 n28 iv28 D28 k28=>?_⟩;clear D27 k27;refine⟨_,rfl,x,_,dx,_,rfl,D28.xi,T.ao.cl,T.kb,(by show 13<1000;decide),?_⟩;rw[show cf "thrice" (V.int iv28) ([("wide",V.int (wide:Nat)),("high",V.int (high:Nat)),("ground",V.ref q_ground),("start",V.ref q_start),("first",V.int iv12),("slides",V.int iv14),("armed",V.int iv16),("four",V.int iv18),("passed",V.int iv20),("seat",V.int iv22),("exits",V.int iv24),("goal_place",V.int (n25:Nat)),("goal",V.int iv26)]:List (Str×V))=([("wide",V.int (wide:Nat)),("high",V.int (high:Nat)),("ground",V.ref q_ground),("start",V.ref q_start),("first",V.int iv12),("slides",V.int iv14),("armed",V.int iv16),("four",V.int iv18),("passed",V.int iv20),("seat",V.int iv22),("exits",V.int iv24),("goal_place",V.int (n25:Nat)),("goal",V.int iv26),("thrice",V.int iv28)]:List (Str×V))from cG (ns:=["wide","high","ground","start","first","slides","armed","four","passed","seat","exits","goal_place","goal"]) rfl (by decide+kernel)];have D28s:=D28.set (fs':=([("wide",V.int (wide:Nat)),("high",V.int (high:Nat)),("ground",V.ref q_ground),("start",V.ref q_start),("first",V.int iv12),("slides",V.int iv14),("armed",V.int iv16),("four",V.int iv18),("passed",V.int iv20),("seat",V.int iv22),("exits",V.int iv24),("goal_place",V.int (n25:Nat)),("goal",V.int iv26),("thrice",V.int iv28)]:List (Str×V)));clear D28;refine⟨_,rfl,r,rx,_,rfl,D28s.rd.ins,rfl,cX (z:="\nlimit ") D28s k28 λH1 n29 D29 k29=>?_⟩;clear D28s k28;refine⟨_,rfl,xu (λp h=>Jt h) D29 k29 λH1 n30 iv30 h1 D30 k30=>?_⟩;clear D29 k29 h1;refine⟨_,rfl,x,_,dx,_,rfl,D30.xi,T.ao.cl,T.lG,(by show 14<1000;decide),?_⟩;rw[show cf "limit" (V.int iv30) ([("wide",V.int (wide:Nat)),("high",V.int (high:Nat)),("ground",V.ref q_ground),("start",V.ref q_start),("first",V.int iv12),("slides",V.int iv14),("armed",V.int iv16),("four",V.int iv18),("passed",V.int iv20),("seat",V.int iv22),("exits",V.int iv24),("goal_place",V.int (n25:Nat)),("goal",V.int iv26),("thrice",V.int iv28)]:List (Str×V))=([("wide",V.int (wide:Nat)),("high",V.int (high:Nat)),("ground",V.ref q_ground),("start",V.ref q_start),("first",V.int iv12),("slides",V.int iv14),("armed",V.int iv16),("four",V.int iv18),("passed",V.int iv20),("seat",V.int iv22),("exits",V.int iv24),("goal_place",V.int (n25:Nat)),("goal",V.int iv26),("thrice",V.int iv28),("limit",V.int iv30)]:List (Str×V))from cG (ns:=["wide","high","ground","start","first","slides","armed","four","passed","seat","exits","goal_place","goal","thrice"]) rfl (by decide+kernel)];have D30s:=D30.set (fs':=([("wide",V.int (wide:Nat)),("high",V.int (high:Nat)),("ground",V.ref q_ground),("start",V.ref q_start),("first",V.int iv12),("slides",V.int iv14),("armed",V.int iv16),("four",V.int iv18),("passed",V.int iv20),("seat",V.int iv22),("exits",V.int iv24),("goal_place",V.int (n25:Nat)),("goal",V.int iv26),("thrice",V.int iv28),("limit",V.int iv30)]:List (Str×V)));clear D30;refine⟨_,rfl,r,rx,_,rfl,D30s.rd.ins,rfl,cX (z:="\n") D30s k30 λH1 n31 D31 k31=>?_⟩;clear D30s k30;refine⟨_,rfl,r,rx,_,rfl,D31.rd.ins,rfl,?_⟩;dsimp only[rQ,Q0];refine GY D31 k31 λk32=>?_;clear k31;refine⟨_,rfl,r,_,_,_,_,rfl,D31.rd.ins,T.aC.cl,T.bI,rfl,_,rfl,x,_,dx,_,rfl,D31.xi,T.ao.cl,T.bF,(by show 15<1000;decide),?_⟩;rw[show cf "end_place" (V.int (n31:Nat)) ([("wide",V.int (wide:Nat)),("high",V.int (high:Nat)),("ground",V.ref q_ground),("start",V.ref q_start),("first",V.int iv12),("slides",V.int iv14),("armed",V.int iv16),("four",V.int iv18),("passed",V.int iv20),("seat",V.int iv22),("exits",V.int iv24),("goal_place",V.int (n25:Nat)),("goal",V.int iv26),("thrice",V.int iv28),("limit",V.int iv30)]:List (Str×V))=([("wide",V.int (wide:Nat)),("high",V.int (high:Nat)),("ground",V.ref q_ground),("start",V.ref q_start),("first",V.int iv12),("slides",V.int iv14),("armed",V.int iv16),("four",V.int iv18),("passed",V.int iv20),("seat",V.int iv22),("exits",V.int iv24),("goal_place",V.int (n25:Nat)),("goal",V.int iv26),("thrice",V.int iv28),("limit",V.int iv30),("end_place",V.int (n31:Nat))]:List (Str×V))from cG (ns:=["wide","high","ground","start","first","slides","armed","four","passed","seat","exits","goal_place","goal","thrice","limit"]) rfl (by decide+kernel)];have D31s:=D31.set (fs':=([("wide",V.int (wide:Nat)),("high",V.int (high:Nat)),("ground",V.ref q_ground),("start",V.ref q_start),("first",V.int iv12),("slides",V.int iv14),("armed",V.int iv16),("four",V.int iv18),("passed",V.int iv20),("seat",V.int iv22),("exits",V.int iv24),("goal_place",V.int (n25:Nat)),("goal",V.int iv26),("thrice",V.int iv28),("limit",V.int iv30),("end_place",V.int (n31:Nat))]:List (Str×V)));clear D31;refine k32 _ q_ground q_start L_ground L_start D31s.fx ⟨D31s.xi,?_,rfl,?_,rfl⟩
 ·exact(p_ground.NQ f_start i_ground r_ground).NQ D31s.fx i_start r_start
 ·exact p_start.NQ D31s.fx i_start r_start
theorem ft.at_{H:Hp}{q:Addr}{L:List (Addr×Nat×Nat)}{i:Nat}{x:V}(h:ft H q L)(hx:(L.map λ(e:Addr×Nat×Nat)=>V.ref e.1)[i]? =some x):∃b m n,L[i]? =some (b,m,n)/\x=.ref b/\H b=some (.tup [.int (m:Nat),.int (n:Nat)]):=by
 rw[Qa]at hx;cases e:L[i]? with
 |none=>rw[e]at hx;cases hx
 |some p=>
  rw[e]at hx;cases hx;obtain⟨b,m,n⟩:=p;exact⟨b,m,n,rfl,rfl,h.t _ (Ql e)⟩
theorem An{L:List (Addr×Nat×Nat)}{l:List (Nat×Nat)}{i:Nat}{b:Addr}{m n:Nat}(e:L.map (·.2)=l)(h:L[i]? =some (b,m,n)):l[i]? =some (m,n):=by
 rw[<-e,Qa,h];rfl
def oB(wide high:Nat)(l:List (Nat×Nat))(e:Int):List Int:=((br wide high).zip l).foldl (λ(q:List Int)(p:Int×Nat×Nat)=>q.set p.1.toNat ((p.2.2:Nat):Int)) (List.replicate 169 e)
theorem Fq{wide high:Nat}{v:Int}(hw:wide<=13)(hh:high<=13)(h:v∈br wide high):∃n:Nat,v=(n:Nat)/\n<169:=by
 unfold br at h;obtain⟨y,hy,hv⟩:=QU.mp h;obtain⟨x,hx,rfl⟩:=P_.mp hv;have hy:=Qe.mp hy;have hx:=Qe.mp hx;exact⟨13*(high-1-y)+x,rfl,by omega⟩
theorem oo:∀(l:List (Int×Nat×Nat))(q:List Int),(l.foldl (λ(q:List Int)(p:Int×Nat×Nat)=>q.set p.1.toNat ((p.2.2:Nat):Int)) q).length=q.length
 |[],_=>rfl
 |p::l,q=>by
  rw[Q8,oo l,Rl]
theorem Ih{α:Type}(e:α)(i:Nat):List.replicate (i+1) e=List.replicate i e++[e]:=Se
inductive GN(a:Ad)(vs:List V)(H:Hp)(Q:VK)(E:XK):Prop
 |mk (x dx gq sq q:Addr) (d:DR) (L:List (Addr×Nat×Nat)) (e:Int) (_:vs=[.ref x,.ref q,.int e]) (_:H x=some (.ins a.aO dx (OJ gq sq d))) (_:ft H q L) (_:d.wide<=13) (_:d.high<=13) (_:∀H' p,aD H H'->H p=none->H' p=some (.lst ((oB d.wide d.high (L.map (·.2)) e).map V.int))->Q (.ref p) H'):GN a vs H Q E
theorem jQ:az ["draft","told","elsewhere","laid","cell","sign"] ["draft","told","elsewhere"] (aj (top 83)):=aR
theorem u5(T:Tx K mg a):a4 P w K mg base (cW P w) 2 a.jo a.xo ["draft","told","elsewhere"] (GN a):=by
 refine T.jo.F.kP jQ λcdv A outer s H vs Q E hr h=>?_;obtain⟨x,dx,gq,sq,q,d,L,e,rfl,hx,hq,bw,bh,k⟩:=h
 exists aB (tO (i:=3) (own:=[("cell",4)]) rfl jQ.nd rfl rfl rfl (dP rfl T.g8 (aa (mL T.AC) ae)) (cp rfl) (λ_ _ _ _ _=>(kT 4 jQ.nd)) (λ_ _ _ _ _=>dZ) (λ_ _ _ _ _=>(pv 2))) (aB (dI QS rfl (Hu rfl T.Kg (aa (dm T.b_ (fM T) hr aK (aa (au (pv 0) rfl) (aa (au (pv 0) rfl) ae))) (aa (pv 1) ae))) (tV rfl (fh (kT 4 jQ.nd) (fh (kT 5 jQ.nd) qB))) (aF (wF (bj ji (pv 5) aw (λ_ _=>rfl)) (wB (pv 3) (pv 4) set_list (λ_=>rfl))))) (aF (aE (pv 3))))
 refine⟨_,rfl,(by omega),(by omega),λD hD=>iU (J:=Fm 0 169) (n:=169) (λj=>List.replicate j (V.int e)) hD rfl (λj H h _=>h) (λH _=>PF _) (λj H' hj s2 e2 y H2 hy=>?_) λH1 s1 h1=>?_⟩
 ·obtain⟨rfl,rfl⟩:=hy
  refine⟨rfl,_,rfl,?_⟩;exact Got.of hD s2 e2 (aD.refl _) (by rw[Qx];omega) (Ih _ _)
 ·have x1:=s1 _ _ hx
  have q1:=hq.same s1;refine⟨_,rfl,x,_,_,_,_,rfl,x1,T.ao.cl,T.cw,rfl,_,rfl,x,_,_,_,_,rfl,x1,T.ao.cl,T.cr,rfl,d.wide,d.high,rfl,bw,bh,λH2 p s2 np h2=>⟨_,rfl,p,q,_,_,rfl,a0.of h2,a0.of (q1.same s2).l,?_⟩⟩;have nD:H D=none:=hD;have qD:q≠D:=ak hq.l nD;have hlen:((br d.wide d.high).zip (L.map (·.2))).length=min (br d.wide d.high).length L.length:=by rw[RF,Px]
  refine sK (J:=NC K p q) (n:=min (br d.wide d.high).length L.length) (λi σ H'=>∃u v,σ=[some (.ref x),some (.ref q),some (.int e),some (.ref D),u,v]/\aD H H'/\ft H' q L/\H' p=some (.lst ((br d.wide d.high).map V.int))/\H' D=some (.lst (((((br d.wide d.high).zip (L.map (·.2))).take i).foldl (λ(q:List Int)(p:Int×Nat×Nat)=>q.set p.1.toNat ((p.2.2:Nat):Int)) (List.replicate 169 e)).map V.int))) ⟨_,_,rfl,s1.trans s2,q1.same s2,h2,?_⟩ (λi σ H3 hi hW=>?_) (λσ H3 hW=>?_) (λi σ H3 hi hW y H4 hy=>?_) λσ H3 hW=>?_
  ·rw[s2 _ _ h1,List.take_zero,List.foldl_nil,List.map_replicate]
  ·obtain⟨u,v,es,s3,q3,p3,d3⟩:=hW
   have i1:i<(br d.wide d.high).length:=by omega
   have i2:i<L.length:=by omega
   exact⟨_,_,V.int ((br d.wide d.high)[i]'i1),V.ref (L[i]'i2).1,a0.of p3,a0.of q3.l,by simp,by rw[Qa,PD i2];rfl⟩
  ·obtain⟨u,v,es,s3,q3,p3,d3⟩:=hW
   refine⟨_,_,a0.of p3,a0.of q3.l,?_⟩;rw[Px,Px];omega
  ·obtain⟨u,v,es,s3,q3,p3,d3⟩:=hW
   subst es;obtain⟨t,vx,vy,rfl,nt,rfl,hvx,hvy⟩:=hy;obtain⟨cv,hc,rfl⟩:=int_at (hvx _ (a0.of p3));obtain⟨b,m,n,hb,rfl,tb⟩:=q3.at_ (hvy _ (a0.of q3.l));obtain⟨c,rfl,c1⟩:=Fq bw bh (Ql hc);have S4:=aA (o:= .tup [V.int (c:Nat),.ref b]) nt;have tD:D≠t:=ak d3 nt;refine⟨t,_,rfl,iP.of ah,rfl,_,_,rfl,_,_,rfl,rfl,?_⟩;have hz:((br d.wide d.high).zip (L.map (·.2)))[i]? =some (((c:Nat):Int),m,n):=by
    rw[RL];exact⟨hc,by rw[Qa,hb];rfl⟩
   refine⟨_,rfl,b,_,_,_,rfl,rfl,iP.of (S4 _ _ tb),at_of (j:=1) rfl rfl,_,rfl,_,rfl,D,_,_,c,rfl,rfl,S4 _ _ d3,zt (by rw[Px,oo,Qx];exact c1),_,_,rfl,cY nD (s3.trans S4),?_,?_,?_⟩
   ·have q4:=q3.same S4
    exact⟨by rw[ai qD];exact q4.l,λe he=>by rw[ai (bf (q4.t e he) (S4 _ _ d3) λz=>nomatch z)];exact q4.t e he⟩
   ·rw[ai (λz=>?_)]
    ·exact S4 _ _ p3
    ·rw[z]at np
     rw[h1]at np;cases np
   ·rw[ah,Ir,QZ,hz,List.foldl_append]
    rfl
  ·obtain⟨u,v,es,s3,q3,p3,d3⟩:=hW
   subst es;refine⟨_,rfl,k H3 D s3 nD ?_⟩;rw[d3,<-hlen,Qp (PF _)];rfl
def ju(l:List (Nat×Nat))(v:Int):Bool:=l.any λ(p:Nat×Nat)=>decide (((p.2:Nat):Int)=v)
inductive D0(a:Ad)(vs:List V)(H:Hp)(Q:VK)(E:XK):Prop
 |mk (q:Addr) (L:List (Addr×Nat×Nat)) (v:Int) (_:vs=[.ref q,.int v]) (_:ft H q L) (_:L.length<=1000) (_:∀H',aD H H'->Q (.bl (ju (L.map (·.2)) v)) H'):D0 a vs H Q E
theorem xW:az ["told","sought","sign"] ["told","sought"] (aj (top 86)):=aR
theorem tM(T:Tx K mg a):a4 P w K mg base (cW P w) 1 a.mf a.ER ["told","sought"] (D0 a):=by
 refine T.mf.F.kP xW λcdv A outer s H vs Q E hr h=>?_;obtain⟨q,L,v,rfl,hq,hL,k⟩:=h
 exists aF (aE (bt (CV rfl) rfl T.Ii (by decide+kernel) (aa (lE (own:=[("sign",2)]) rfl xW.nd (cN (pv 0)) (cp rfl) (λ_ _ _ _ _=>(kT 2 xW.nd)) (λ_ _ _ _ _=>dZ) (λ_ _ _ _ _=>(d9 bO (bj (vQ K rfl) (pv 2) aw (λ_ _=>rfl)) (pv 1) (aJ _)))) ae)))
 refine⟨_,rfl,q,rfl,⟨_,a0.of hq.l⟩,λD hD=>iU (J:=C9 K q) (n:=L.length) (λi=>((L.take i).map λ(e:Addr×Nat×Nat)=>V.bl (decide (((e.2.2:Nat):Int)=v)))) hD rfl (λi H hi s=>⟨_,_,a0.of (s _ _ hq.l),by rw[Qa,PD hi];rfl⟩) (λH s=>⟨_,a0.of (s _ _ hq.l),by rw[Px];exact PF _⟩) (λi H' hi s1 e1 y H2 hy=>?_) λH' s1 e1=>?_⟩
 ·obtain⟨rfl,hy⟩:=hy
  obtain⟨b,m,n,hb,rfl,tb⟩:=(hq.same s1).at_ (hy _ (a0.of (s1 _ _ hq.l)));refine⟨rfl,_,rfl,b,_,_,_,rfl,rfl,iP.of tb,at_of (j:=1) rfl rfl,_,rfl,rfl,?_⟩;rw[g9];exact Got.of hD s1 e1 (aD.refl _) (by rw[Px,Qt];omega) (oR _ hb)
 ·refine⟨D,(L.map λ(e:Addr×Nat×Nat)=>decide (((e.2.2:Nat):Int)=v)),rfl,?_,?_⟩
  ·refine .inl (.inl ?_)
   rw[e1,QJ,Qp (PF _)];rfl
  ·have e:(L.map λ(e:Addr×Nat×Nat)=>decide (((e.2.2:Nat):Int)=v)).any id=ju (L.map (·.2)) v:=by
    unfold ju;rw[Rr,Rr];rfl
   rw[e];exact k H' s1
def A4(a:Ad)(H:Hp)(kd pl:Nat)(E:XK):Prop:=∀(H':Hp)(e d:Addr)(cx:Bool),aD H H'->H' e=some (XO e a.bD (some d) cx)->H' d=some (XD d [("kind",.int (kd:Nat)),("place",.int (pl:Nat))])->E (.ref a.bD) (some e) H'
theorem A4.mono{H H1:Hp}{kd pl:Nat}{E:XK}(h:A4 a H kd pl E)(s:aD H H1):A4 a H1 kd pl E:=λH' e d cx q=>h H' e d cx (s.trans q)
theorem mM{H H1:Hp}{kd pl:Nat}{E:XK}{cx:Bool}(h:A4 a H kd pl E)(s:aD H H1)(e d:Addr)(n1:H1 e=none)(n2:H1 d=none)(n3:d≠e):E (.ref a.bD) (some e) (upd (upd H1 d (XD d [("kind",.int (kd:Nat)),("place",.int (pl:Nat))])) e (XO e a.bD (some d) cx)):=
 h _ e d cx (s.trans ((aA n2).trans (aA (by rw[ai (PZ n3)];exact n1)))) ah (by rw[ai n3,ah])
def ye:List (Nat×Nat)->Nat->Option Nat
 |[],_=>none
 |(p,kd)::l,s=>if 1<(if kd=1 then s+1 else s)then some p else ye l (if kd=1 then s+1 else s)
inductive Mr(a:Ad)(vs:List V)(H:Hp)(Q:VK)(E:XK):Prop
 |mk (x dx gq sq:Addr) (d:DR) (L1 L2:List (Addr×Nat×Nat)) (_:vs=[.ref x]) (_:Em a H x dx gq sq d L1 L2) (_:(match ye d.ground 0 with
 |none=>Q .eB H
 |some p=>A4 a H 2 p E)):Mr a vs H Q E
theorem fg:az ["draft","seats","place","kind"] ["draft"] (aj (top 84)):=aR
theorem vB(T:Tx K mg a):a4 P w K mg base (cW P w) 1 a.gk a.qa ["draft"] (Mr a):=by
 refine T.gk.F.oO fg λcdv A outer s H vs Q E hr h=>?_;obtain⟨x,dx,gq,sq,d,L1,L2,rfl,Dt,k⟩:=h
 exists aB (e_ 1 fg.nd aw) (aF (dI QO rfl (cN (au (pv 0) rfl)) (tV rfl (fh (kT 2 fg.nd) (fh (kT 3 fg.nd) qB))) (aB (bE (aI bO (pv 3) (mL T.AB) (aJ _)) (aF (Gx 1 fg.nd aw tW)) aX) (aF (bE (aI oC (pv 1) aw (aJ _)) (aF (f8 ay hr.hd T.eV (b7 T) T.bg.b (hr.d1) rfl T.bB.m (aa aw (aa (pv 2) ae)))) aX)))))
 refine⟨_,rfl,x,_,_,_,_,rfl,Dt.ins,T.ao.cl,T.bP,rfl,gq,rfl,⟨_,a0.of Dt.g.l⟩,?_⟩;refine fR (xs:=L1.map λ(e:Addr×Nat×Nat)=>V.ref e.1) (λi σ H'=>∃(s:Nat)(u v:Option V),σ=[some (.ref x),some (.int (s:Nat)),u,v]/\H'=H/\ye d.ground 0=ye (d.ground.drop i) s) ⟨0,_,_,rfl,rfl,rfl⟩ (λi σ H1 _⟨s,u,v,e,e1,_⟩=>by rw[e1];exact a0.of Dt.g.l) (λi y σ H1 hy hW=>?_) λσ H1 hW=>?_
 ·obtain⟨s,u,v,e,e1,hs⟩:=hW
  subst e e1;obtain⟨b,m,n,hb,rfl,tb⟩:=Dt.g.at_ hy;have hd:=An Dt.ge hb;obtain⟨hi,ei⟩:=PQ.mp hd;rw[QY hi,ei]at hs;refine⟨b,_,rfl,iP.of tb,rfl,_,_,rfl,_,_,rfl,rfl,?_⟩;have fin:∀s':Nat,s'=(if n=1 then s+1 else s)->∀H2,H2=H1->(ye d.ground 0=if 1<s' then some m else ye (d.ground.drop (i+1)) s'):=λs' e H2 _=>by
   rw[hs,e];rfl
  refine⟨_,rfl,rfl,_,rfl,dG (λh1=>⟨_,rfl,_,_,rfl,rfl,?_⟩) λh1=>?_⟩
  ·have f:=fin (s+1) (by rw[Pz (by omega)]) H1 rfl
   refine⟨_,rfl,_,_,rfl,rfl,_,rfl,gB (λh2=>?_) λh2=>?_⟩
   ·have h2:(((s+1):Nat):Int)>1:=PR h2
    rw[Pz (by omega)]at f;rw[f]at k;exact⟨_,rfl,rfl,(by show 2<=1000;decide),λe d n1 n2 n3=>mM k (aD.refl _) e d n1 n2 n3⟩
   ·have h2:¬(((s+1):Nat):Int)>1:=λz=>h2 (PJ z)
    rw[Py (by omega)]at f;exact⟨s+1,_,_,rfl,rfl,f⟩
  ·have f:=fin (s) (by rw[Py (by omega)]) H1 rfl
   refine⟨_,rfl,_,_,rfl,rfl,_,rfl,gB (λh2=>?_) λh2=>?_⟩
   ·have h2:(((s):Nat):Int)>1:=PR h2
    rw[Pz (by omega)]at f;rw[f]at k;exact⟨_,rfl,rfl,(by show 2<=1000;decide),λe d n1 n2 n3=>mM k (aD.refl _) e d n1 n2 n3⟩
   ·have h2:¬(((s):Nat):Int)>1:=λz=>h2 (PJ z)
    rw[Py (by omega)]at f;exact⟨s,_,_,rfl,rfl,f⟩
 ·obtain⟨s,u,v,e,e1,hs⟩:=hW
  subst e e1;have:d.ground.drop (L1.map λ(e:Addr×Nat×Nat)=>V.ref e.1).length=[]:=by
   rw[<-Dt.ge];simp
  rw[this]at hs;rw[hs]at k;exact k
structure Ke(d:DR):Prop where
 w:d.wide<=13
 h:d.high<=13
 w5:5<=d.wide
 h5:5<=d.high
 gv:∀p∈d.ground,p.2<4
 sv:∀p∈d.start,p.2<4
 gl:d.ground.length=d.wide*d.high
 sl:d.start.length=d.wide*d.high
 f:d.first=0\/d.first=1
def dF(d:DR):R0:={wide:=d.wide,high:=d.high,slides:=d.slides,armed:=d.armed,four:=d.four,passed:=d.passed,seat:=d.seat,exits:=d.exits,goal:=d.goal,thrice:=d.thrice,limit:=d.limit,ground:=oB d.wide d.high d.ground 3,start:=oB d.wide d.high d.start 0,first:=d.first}
theorem BV(wide high:Nat)(l:List (Nat×Nat))(e:Int):(oB wide high l e).length=169:=by
 unfold oB;rw[oo,Qx]
theorem r0:∀(l:List (Int×Nat×Nat))(q:List Int),(∀p∈l,p.2.2<4)->(∀c,0<=q.getD c 0/\q.getD c 0<=3)->∀c,0<=(l.foldl (λ(q:List Int)(p:Int×Nat×Nat)=>q.set p.1.toNat ((p.2.2:Nat):Int)) q).getD c 0/\(l.foldl (λ(q:List Int)(p:Int×Nat×Nat)=>q.set p.1.toNat ((p.2.2:Nat):Int)) q).getD c 0<=3
 |[],_,_,h=>h
 |p::l,q,hl,h=>by
  rw[Q8];refine r0 l _ (λp' hp=>hl p' (PY _ hp)) λc=>?_;rw[ln];have:=hl p PU;split
  ·exact⟨by omega,by omega⟩
  ·exact h c
theorem Jz{e:Int}(h0:0<=e)(h3:e<=3)(n c:Nat):0<=(List.replicate n e).getD c 0/\(List.replicate n e).getD c 0<=3:=by
 simp only[List.getD,Q2];split
 ·exact⟨h0,h3⟩
 ·exact⟨by decide,by decide⟩
theorem GD{wide high:Nat}{l:List (Nat×Nat)}{e:Int}(hl:∀p∈l,p.2<4)(h0:0<=e)(h3:e<=3):rZ (oB wide high l e):=
 ⟨BV _ _ _ _,r0 _ _ (λp hp=>hl p.2 (Q7 hp).2) (Jz h0 h3 169)⟩
theorem Ke.wf{d:DR}(O:Ke d):zT (dF d):=⟨O.w,O.h,BV _ _ _ _,GD O.sv (by decide) (by decide),O.f⟩
theorem JA(n:Nat):(List.range n).map (λi=>n-1-i)=(List.range n).reverse:=by
 rw[List.range_eq_range',List.reverse_range'];refine(Rn λi _=>?_).trans (QI _ List.range_eq_range'.symm);omega
theorem down_up(wide high:Nat):br wide high=(List.range high).reverse.flatMap λ(y:Nat)=>(List.range wide).map λ(x:Nat)=>((13*y+x:Nat):Int):=by
 rw[<-JA,Rp];rfl
theorem vU(wide high:Nat):(uC wide high).Perm (br wide high):=by
 rw[down_up];exact List.Perm.flatMap_right _ (List.reverse_perm _).symm
theorem FI{wide:Nat}(hw:wide<=13)(high:Nat):(uC wide high).Pairwise (·<=·):=by
 unfold uC;rw[List.pairwise_flatMap];refine⟨λy _=>?_,?_⟩
 ·rw[Ru]
  exact Q4.imp λh=>by omega
 ·refine Q4.imp λh u hu v hv=>?_
  obtain⟨i,hi,rfl⟩:=P_.mp hu;obtain⟨j,hj,rfl⟩:=P_.mp hv;have:=Qe.mp hi;omega
theorem BN{wide high:Nat}{l:List Int}(hw:wide<=13)(hp:l.Perm (br wide high))(hs:l.Pairwise (·<=·)):l=uC wide high:=
 List.Perm.eq_of_pairwise (le:=(·<=·)) (λa b _ _ h1 h2=>Int.le_antisymm h1 h2) hs (FI hw high) (hp.trans (vU wide high).symm)
theorem Fp{wide high:Nat}(hw:wide<=13)(hh:high<=13):(br wide high).length<=sizeLine:=by
 have:=(vU wide high).length_eq;have:=Ag wide high hw hh;rw[PL];omega
structure FN(a:Ad)(H0 H:Hp)(x dx:Addr)(fs:List (Str×V))(y dy gq sq:Addr)(d:DR)(L1 L2:List (Addr×Nat×Nat)):Prop where
 ex:Ex x H0 H
 xi:H x=some (.ins a.bb dx fs)
 dt:Em a H y dy gq sq d L1 L2
 ne:y≠x
section
variable{a:Ad}{H0 H H':Hp}{x dx:Addr}{fs:List (Str×V)}{y dy gq sq:Addr}{d:DR}{L1 L2:List (Addr×Nat×Nat)}
theorem Em.ex{C:Addr}(h:Em a H y dy gq sq d L1 L2)(hx:H x=some (.ins C dx fs))(ne:y≠x)(s:Ex x H H'):Em a H' y dy gq sq d L1 L2:=⟨s _ _ h.ins ne,h.g.ex hx s,h.ge,h.s.ex hx s,h.se⟩
theorem FN.same(S:FN a H0 H x dx fs y dy gq sq d L1 L2)(s:aD H H'):FN a H0 H' x dx fs y dy gq sq d L1 L2:=⟨S.ex.same s,s _ _ S.xi,S.dt.same s,S.ne⟩
theorem FN.new{q:Addr}{o:HO}(S:FN a H0 H x dx fs y dy gq sq d L1 L2)(n:H q=none):FN a H0 (upd H q o) x dx fs y dy gq sq d L1 L2:=S.same (aA n)
theorem FN.Bw(S:FN a H0 H x dx fs y dy gq sq d L1 L2):FN a H H x dx fs y dy gq sq d L1 L2:=⟨Ex.refl,S.xi,S.dt,S.ne⟩
theorem FN.put{f:Str}{v:V}{ns:List Str}(S:FN a H0 H x dx fs y dy gq sq d L1 L2)(e:fs.map (·.1)=ns)(h:ns.contains f=false):FN a H0 (upd H x (.ins a.bb dx (cf f v fs))) x dx (fs++[(f,v)]) y dy gq sq d L1 L2:=
 ⟨S.ex.self,by rw[ah,cG e h],S.dt.ex S.xi S.ne Ex.refl.self,S.ne⟩
end
structure JU(H:Hp)(A:RA):Prop where
 cs:H A.cs=none
 wz:H A.wz=none
 gr:H A.gr=none
 sp:H A.sp=none
 ws:∀b∈A.ws,H b=none
theorem JU.back{H H':Hp}{A:RA}(h:JU H' A)(s:aD H H'):JU H A:=⟨s.free h.cs,s.free h.wz,s.free h.gr,s.free h.sp,λb hb=>s.free (h.ws b hb)⟩
inductive Ed(a:Ad)(vs:List V)(H:Hp)(Q:VK)(E:XK):Prop
 |mk (x dx y dy gq sq:Addr) (d:DR) (L1 L2:List (Addr×Nat×Nat)) (_:vs=[.ref x,.ref y]) (_:H x=some (.ins a.bb dx [])) (_:Em a H y dy gq sq d L1 L2) (_:y≠x) (_:Ke d) (_:∀H'(A:RA),Ex x H H'->A.x=x->ou a H' A (dF d)->JU H A->Q .eB H'):Ed a vs H Q E
theorem yL:az ["self","draft"] ["self","draft"] (aj (inClass (top 78) 0)):=aR
theorem yF(T:Tx K mg a):a4 P w K mg base (cW P w) 3 a.gI a.tN ["self","draft"] (Ed a):=by
 refine T.gI.F.kP yL λcdv A outer s H vs Q E hr h=>?_;obtain⟨x,dx,y,dy,gq,sq,d,L1,L2,rfl,hx,Dt,ne,O,k⟩:=h;have S0:FN a H H x dx [] y dy gq sq d L1 L2:=⟨Ex.refl,hx,Dt,ne⟩
 exists aB (a5 (pv 0) (au (pv 1) rfl) rfl) (aB (a5 (pv 0) (au (pv 1) rfl) rfl) (aB (a5 (pv 0) (au (pv 1) rfl) rfl) (aB (a5 (pv 0) (au (pv 1) rfl) rfl) (aB (a5 (pv 0) (au (pv 1) rfl) rfl) (aB (a5 (pv 0) (au (pv 1) rfl) rfl) (aB (a5 (pv 0) (au (pv 1) rfl) rfl) (aB (a5 (pv 0) (au (pv 1) rfl) rfl) (aB (a5 (pv 0) (au (pv 1) rfl) rfl) (aB (a5 (pv 0) (au (pv 1) rfl) rfl) (aB (a5 (pv 0) (au (pv 1) rfl) rfl) (aB (a5 (pv 0) (bt rS rfl T.xF (by decide+kernel) (aa (dm T.b_ (fM T) hr aK (aa (au (pv 1) rfl) (aa (au (pv 1) rfl) ae))) ae)) rfl) (aB (a5 (pv 0) (dm T.ni (CD T) hr aK (aa (au (pv 1) rfl) (aa (au (pv 1) rfl) ae))) rfl) (aB (a5 (pv 0) (dm T.jo (u5 T) hr aK (aa (pv 1) (aa (au (pv 1) rfl) (aa (mL T.C4) ae)))) rfl) (aF (a5 (pv 0) (F8 T.rD (jj T) hr T.bQ T.bZ aK (aa (dm T.jo (u5 T) hr aK (aa (pv 1) (aa (au (pv 1) rfl) (aa (mL T.iF) ae)))) (aa (au (pv 1) rfl) ae))) rfl)))))))))))))))
 refine⟨_,rfl,y,_,_,_,_,rfl,S0.dt.ins,T.ao.cl,T.cw,rfl,_,rfl,x,_,dx,_,rfl,S0.xi,T.aU.cl,T.gD,(by show 0<1000;decide),?_⟩;have S1:=S0.put (f:="wide") (v:= .int (d.wide:Nat)) (ns:=[]) rfl (by decide+kernel);clear S0;generalize upd _ x (HO.ins a.bb dx (cf "wide" _ _))=H_wide at S1 ⊢;refine⟨_,rfl,y,_,_,_,_,rfl,S1.dt.ins,T.ao.cl,T.cr,rfl,_,rfl,x,_,dx,_,rfl,S1.xi,T.aU.cl,T.iT,(by show 1<1000;decide),?_⟩;have S2:=S1.put (f:="high") (v:= .int (d.high:Nat)) (ns:=["wide"]) rfl (by decide+kernel);clear S1;generalize upd _ x (HO.ins a.bb dx (cf "high" _ _))=H_high at S2 ⊢;refine⟨_,rfl,y,_,_,_,_,rfl,S2.dt.ins,T.ao.cl,T.kh,rfl,_,rfl,x,_,dx,_,rfl,S2.xi,T.aU.cl,T.lF,(by show 2<1000;decide),?_⟩;have S3:=S2.put (f:="slides") (v:= .int d.slides) (ns:=["wide","high"]) rfl (by decide+kernel);clear S2;generalize upd _ x (HO.ins a.bb dx (cf "slides" _ _))=H_slides at S3 ⊢;refine⟨_,rfl,y,_,_,_,_,rfl,S3.dt.ins,T.ao.cl,T.ly,rfl,_,rfl,x,_,dx,_,rfl,S3.xi,T.aU.cl,T.mO,(by show 3<1000;decide),?_⟩;have S4:=S3.put (f:="armed") (v:= .int d.armed) (ns:=["wide","high","slides"]) rfl (by decide+kernel);clear S3;generalize upd _ x (HO.ins a.bb dx (cf "armed" _ _))=H_armed at S4 ⊢;refine⟨_,rfl,y,_,_,_,_,rfl,S4.dt.ins,T.ao.cl,T.lW,rfl,_,rfl,x,_,dx,_,rfl,S4.xi,T.aU.cl,T.sm,(by show 4<1000;decide),?_⟩;have S5:=S4.put (f:="four") (v:= .int d.four) (ns:=["wide","high","slides","armed"]) rfl (by decide+kernel);clear S4;generalize upd _ x (HO.ins a.bb dx (cf "four" _ _))=H_four at S5 ⊢;refine⟨_,rfl,y,_,_,_,_,rfl,S5.dt.ins,T.ao.cl,T.gP,rfl,_,rfl,x,_,dx,_,rfl,S5.xi,T.aU.cl,T.pL,(by show 5<1000;decide),?_⟩;have S6:=S5.put (f:="passed") (v:= .int d.passed) (ns:=["wide","high","slides","armed","four"]) rfl (by decide+kernel);clear S5;generalize upd _ x (HO.ins a.bb dx (cf "passed" _ _))=H_passed at S6 ⊢;refine⟨_,rfl,y,_,_,_,_,rfl,S6.dt.ins,T.ao.cl,T.iO,rfl,_,rfl,x,_,dx,_,rfl,S6.xi,T.aU.cl,T.si,(by show 6<1000;decide),?_⟩;have S7:=S6.put (f:="seat") (v:= .int d.seat) (ns:=["wide","high","slides","armed","four","passed"]) rfl (by decide+kernel);clear S6;generalize upd _ x (HO.ins a.bb dx (cf "seat" _ _))=H_seat at S7 ⊢;refine⟨_,rfl,y,_,_,_,_,rfl,S7.dt.ins,T.ao.cl,T.kY,rfl,_,rfl,x,_,dx,_,rfl,S7.xi,T.aU.cl,T.qW,(by show 7<1000;decide),?_⟩;have S8:=S7.put (f:="exits") (v:= .int d.exits) (ns:=["wide","high","slides","armed","four","passed","seat"]) rfl (by decide+kernel);clear S7;generalize upd _ x (HO.ins a.bb dx (cf "exits" _ _))=H_exits at S8 ⊢;refine⟨_,rfl,y,_,_,_,_,rfl,S8.dt.ins,T.ao.cl,T.i7,rfl,_,rfl,x,_,dx,_,rfl,S8.xi,T.aU.cl,T.su,(by show 8<1000;decide),?_⟩;have S9:=S8.put (f:="goal") (v:= .int d.goal) (ns:=["wide","high","slides","armed","four","passed","seat","exits"]) rfl (by decide+kernel);clear S8;generalize upd _ x (HO.ins a.bb dx (cf "goal" _ _))=H_goal at S9 ⊢;refine⟨_,rfl,y,_,_,_,_,rfl,S9.dt.ins,T.ao.cl,T.kb,rfl,_,rfl,x,_,dx,_,rfl,S9.xi,T.aU.cl,T.yC,(by show 9<1000;decide),?_⟩;have S10:=S9.put (f:="thrice") (v:= .int d.thrice) (ns:=["wide","high","slides","armed","four","passed","seat","exits","goal"]) rfl (by decide+kernel);clear S9;generalize upd _ x (HO.ins a.bb dx (cf "thrice" _ _))=H_thrice at S10 ⊢;refine⟨_,rfl,y,_,_,_,_,rfl,S10.dt.ins,T.ao.cl,T.lG,rfl,_,rfl,x,_,dx,_,rfl,S10.xi,T.aU.cl,T.yP,(by show 10<1000;decide),?_⟩;have S11:=S10.put (f:="limit") (v:= .int d.limit) (ns:=["wide","high","slides","armed","four","passed","seat","exits","goal","thrice"]) rfl (by decide+kernel);clear S10;generalize upd _ x (HO.ins a.bb dx (cf "limit" _ _))=H_limit at S11 ⊢;refine⟨_,rfl,y,_,_,_,_,rfl,S11.dt.ins,T.ao.cl,T.cw,rfl,_,rfl,y,_,_,_,_,rfl,S11.dt.ins,T.ao.cl,T.cr,rfl,d.wide,d.high,rfl,O.w,O.h,λG1 p1 s1 n1 h1=>⟨p1,br d.wide d.high,rfl,a0.of h1,Fp O.w O.h,λns' cs hp hs ncs=>?_⟩⟩;have fcs:H cs=none:=(S11.same s1).ex.free ncs (λz=>by rw[z]at ncs;rw[(S11.same s1).xi]at ncs;cases ncs);rw[BN O.w hp hs];have SA:=(S11.same s1).new (o:= .lst ((uC d.wide d.high).map V.int)) ncs;have j2:(upd G1 cs (.lst ((uC d.wide d.high).map V.int))) cs=some (.lst ((uC d.wide d.high).map V.int)):=ah;clear S11;generalize upd G1 cs (.lst ((uC d.wide d.high).map V.int))=H2 at*;have e2:=SA.ex;have x2:=SA.xi;have SA:=SA.Bw;refine⟨_,rfl,x,_,dx,_,rfl,SA.xi,T.aU.cl,T.qZ,(by show 11<1000;decide),?_⟩;have S12:=SA.put (f:="cells") (v:= .ref cs) (ns:=["wide","high","slides","armed","four","passed","seat","exits","goal","thrice","limit"]) rfl (by decide+kernel);clear SA;generalize upd _ x (HO.ins a.bb dx (cf "cells" _ _))=H_cells at S12 ⊢;refine⟨_,rfl,y,_,_,_,_,rfl,S12.dt.ins,T.ao.cl,T.cw,rfl,_,rfl,y,_,_,_,_,rfl,S12.dt.ins,T.ao.cl,T.cr,rfl,d.wide,d.high,rfl,λH3 wz ws s3 n3 h3 hl hw fw=>?_⟩;have fr3:∀b,_=none->H b=none:=λb nb=>(e2.trans S12.ex).free (q:=b) nb (λz=>by rw[z]at nb;rw[S12.xi]at nb;cases nb);have SB:=S12.same s3;clear S12;have e3:=SB.ex;have x3:=SB.xi;have SB:=SB.Bw;refine⟨_,rfl,x,_,dx,_,rfl,SB.xi,T.aU.cl,T.gJ,(by show 12<1000;decide),?_⟩;have S13:=SB.put (f:="ways") (v:= .ref wz) (ns:=["wide","high","slides","armed","four","passed","seat","exits","goal","thrice","limit","cells"]) rfl (by decide+kernel);clear SB;generalize upd _ x (HO.ins a.bb dx (cf "ways" _ _))=H_ways at S13 ⊢;refine⟨_,rfl,_,rfl,y,_,_,_,_,rfl,S13.dt.ins,T.ao.cl,T.bP,rfl,y,dy,gq,sq,gq,d,L1,3,rfl,S13.dt.ins,S13.dt.g,O.w,O.h,λH4 gr s4 n4 h4=>?_⟩;have fr4:H gr=none:=(e2.trans (e3.trans S13.ex)).free n4 (λz=>by rw[z]at n4;rw[S13.xi]at n4;cases n4);have SC:=S13.same s4;clear S13;have e4:=SC.ex;have x4:=SC.xi;have SC:=SC.Bw;refine⟨_,rfl,x,_,dx,_,rfl,SC.xi,T.aU.cl,T.du,(by show 13<1000;decide),?_⟩;have S14:=SC.put (f:="ground") (v:= .ref gr) (ns:=["wide","high","slides","armed","four","passed","seat","exits","goal","thrice","limit","cells","ways"]) rfl (by decide+kernel);clear SC;generalize upd _ x (HO.ins a.bb dx (cf "ground" _ _))=H_ground at S14 ⊢;refine⟨_,rfl,_,rfl,y,_,_,_,_,rfl,S14.dt.ins,T.ao.cl,T.b8,rfl,y,dy,gq,sq,sq,d,L2,0,rfl,S14.dt.ins,S14.dt.s,O.w,O.h,λH5 sp s5 n5 h5=>?_⟩;have fr5:H sp=none:=(e2.trans (e3.trans (e4.trans S14.ex))).free n5 (λz=>by rw[z]at n5;rw[S14.xi]at n5;cases n5);have SD:=S14.same s5;clear S14;have e5:=SD.ex;have x5:=SD.xi;have SD:=SD.Bw;refine⟨_,rfl,y,_,_,_,_,rfl,SD.dt.ins,T.ao.cl,T.kZ,rfl,λst sd nst nsd nne=>⟨st,sd,sp,d.first,rfl,ah,rfl,?_⟩⟩;rw[eR];have SE:=SD.same ((aA (o:= .own st) nsd).trans (aA (o:= .ins a.bK sd (Al sp d.first)) (by rw[ai (PZ nne)];exact nst)));have j6:(upd (upd H5 sd (.own st)) st (.ins a.bK sd (Al sp d.first))) st=some (.ins a.bK sd (Al sp d.first)):=ah;clear SD;generalize upd (upd H5 sd (.own st)) st (.ins a.bK sd (Al sp d.first))=H6 at*;have e6:=SE.ex;have x6:=SE.xi;have stx:st≠x:=PZ (ak x5 nst);have SE:=SE.Bw;refine⟨_,rfl,x,_,dx,_,rfl,SE.xi,T.aU.cl,T.mQ,(by show 14<1000;decide),?_⟩;have S15:=SE.put (f:="start") (v:= .ref st) (ns:=["wide","high","slides","armed","four","passed","seat","exits","goal","thrice","limit","cells","ways","ground"]) rfl (by decide+kernel);clear SE;generalize upd _ x (HO.ins a.bb dx (cf "start" _ _))=H_start at S15 ⊢;have e7:=S15.ex;have c6:=e6.trans e7;have c5:=e5.trans c6;have c4:=e4.trans c5;have c3:=e3.trans c4;refine k _ ⟨x,dx,cs,wz,gr,st,sd,sp,ws⟩ (e2.trans c3) rfl ⟨S15.xi,c3 _ _ j2 (bf j2 x2 λz=>nomatch z),c4 _ _ h3 (bf h3 x3 λz=>nomatch z),hl,λi z e=>c4 _ _ (hw i z e) (bf (hw i z e) x3 λz=>nomatch z),?_,e7 _ _ j6 stx,?_,O.wf⟩ ⟨fcs,fr3 wz n3,fr4,fr5,λb hb=>fr3 b (fw b hb)⟩
 ·show _=some (HO.lst ((oB d.wide d.high d.ground 3).map V.int))
  rw[<-Dt.ge];exact c5 _ _ h4 (bf h4 x4 λz=>nomatch z)
 ·show _=some (HO.lst ((oB d.wide d.high d.start 0).map V.int))
  rw[<-Dt.se];exact c6 _ _ h5 (bf h5 x5 λz=>nomatch z)
def vJ:List ((Nat×Nat)×Nat×Nat)->Nat->Option (Nat×Nat)
 |[],_=>none
 |(g,p)::l,s=>if iE ((g.2:Nat):Int) ((p.2:Nat):Int)=false\/(p.2=3/\g.2=2)then some (3,p.1)else if 1<(if p.2=3 then s+1 else s)then some (4,p.1)else vJ l (if p.2=3 then s+1 else s)
inductive M7(a:Ad)(vs:List V)(H:Hp)(Q:VK)(E:XK):Prop
 |mk (x dx gq sq:Addr) (d:DR) (L1 L2:List (Addr×Nat×Nat)) (_:vs=[.ref x]) (_:Em a H x dx gq sq d L1 L2) (_:(match vJ (d.ground.zip d.start) 0 with
 |none=>∀H',aD H H'->Q .eB H'
 |some p=>A4 a H p.1 p.2 E)):M7 a vs H Q E
theorem dA:az ["draft","kings","spot","sign","kind","piece"] ["draft"] (aj (top 85)):=aR
theorem yz(T:Tx K mg a):a4 P w K mg base (cW P w) 2 a.g6 a.qX ["draft"] (M7 a):=by
 refine T.g6.F.oO dA λcdv A outer s H vs Q E hr h=>?_;obtain⟨x,dx,gq,sq,d,L1,L2,rfl,Dt,k⟩:=h
 exists aB (e_ 1 dA.nd aw) (aF (dI QO rfl (Hu rfl T.Kg (aa (au (pv 0) rfl) (aa (au (pv 0) rfl) ae))) (tV rfl (fh (kT 2 dA.nd) (fh (kT 3 dA.nd) qB))) (aB (e_ 4 dA.nd (bj ji (pv 2) aw (λ_ _=>rfl))) (aB (e_ 5 dA.nd (bj ji (pv 3) aw (λ_ _=>rfl))) (aB (bE (PW.pt (z5 (lK (dD (dm T.fY (nM T) hr aK (aa (pv 4) (aa (pv 5) ae))))) (t_ (PW.pt (gM (aI bO (pv 5) (mL T.j0) (aJ _)) (fc (aI bO (pv 4) (mL T.AT) (aJ _)))))))) (aF (f8 ay hr.hd T.eV (b7 T) T.bg.b (hr.d1) rfl T.bB.m (aa aw (aa (bj ji (pv 3) aw (λ_ _=>rfl)) ae)))) aX) (aB (bE (aI bO (pv 5) (mL T.j0) (aJ _)) (aF (Gx 1 dA.nd aw tW)) aX) (aF (bE (aI oC (pv 1) aw (aJ _)) (aF (f8 ay hr.hd T.eV (b7 T) T.bg.b (hr.d1) rfl T.bB.m (aa aw (aa (bj ji (pv 3) aw (λ_ _=>rfl)) ae)))) aX))))))))
 refine⟨_,rfl,x,_,_,_,_,rfl,Dt.ins,T.ao.cl,T.bP,rfl,_,rfl,x,_,_,_,_,rfl,Dt.ins,T.ao.cl,T.b8,rfl,gq,sq,_,_,rfl,a0.of Dt.g.l,a0.of Dt.s.l,?_⟩;refine sK (J:=NC K gq sq) (n:=min L1.length L2.length) (λi σ H'=>∃(s:Nat)(u v z y:Option V),σ=[some (.ref x),some (.int (s:Nat)),u,v,z,y]/\aD H H'/\vJ (d.ground.zip d.start) 0=vJ ((d.ground.zip d.start).drop i) s) ⟨0,_,_,_,_,rfl,aD.refl _,rfl⟩ (λi σ H3 hi hW=>?_) (λσ H3 hW=>?_) (λi σ H3 hi hW vv H4 hy=>?_) λσ H3 hW=>?_
 ·obtain⟨s,u,v,z,y,es,s3,hs⟩:=hW
  have D3:=Dt.same s3;have i1:i<L1.length:=by omega
  have i2:i<L2.length:=by omega
  exact⟨_,_,V.ref (L1[i]'i1).1,V.ref (L2[i]'i2).1,a0.of D3.g.l,a0.of D3.s.l,by rw[Qa,PD i1];rfl,by rw[Qa,PD i2];rfl⟩
 ·obtain⟨s,u,v,z,y,es,s3,hs⟩:=hW
  have D3:=Dt.same s3;refine⟨_,_,a0.of D3.g.l,a0.of D3.s.l,?_⟩;rw[Px,Px];omega
 ·obtain⟨s,u,v,z,y,es,s3,hs⟩:=hW
  subst es;have D3:=Dt.same s3;obtain⟨t,vx,vy,rfl,nt,rfl,hvx,hvy⟩:=hy;obtain⟨b1,m1,g1,hb1,rfl,tb1⟩:=D3.g.at_ (hvx _ (a0.of D3.g.l));obtain⟨b2,m2,g2,hb2,rfl,tb2⟩:=D3.s.at_ (hvy _ (a0.of D3.s.l));have S4:=aA (o:= .tup [V.ref b1,.ref b2]) nt;have s4:=s3.trans S4;have hz:(d.ground.zip d.start)[i]? =some ((m1,g1),m2,g2):=by
   rw[RL];exact⟨An Dt.ge hb1,An Dt.se hb2⟩
  obtain⟨hi',ei⟩:=PQ.mp hz;rw[QY hi',ei]at hs;replace hs:vJ (d.ground.zip d.start) 0=if iE ((g1:Nat):Int) ((g2:Nat):Int)=false\/(g2=3/\g1=2)then some (3,m2)else if 1<(if g2=3 then s+1 else s)then some (4,m2)else vJ ((d.ground.zip d.start).drop (i+1)) (if g2=3 then s+1 else s):=hs;refine⟨t,_,rfl,iP.of ah,rfl,_,_,rfl,_,_,rfl,rfl,?_⟩;have T1:=S4 _ _ tb1;have T2:=S4 _ _ tb2;generalize upd H3 t (.tup [V.ref b1,.ref b2])=H4 at*;refine⟨_,rfl,b1,_,_,_,rfl,rfl,iP.of T1,at_of (j:=1) rfl rfl,?_⟩;refine⟨_,rfl,b2,_,_,_,rfl,rfl,iP.of T2,at_of (j:=1) rfl rfl,?_⟩;have bad:iE ((g1:Nat):Int) ((g2:Nat):Int)=false\/(g2=3/\g1=2)->A4 a H 3 m2 E:=λz=>by
   rw[hs,Pz z]at k;exact k
  refine⟨_,rfl,_,rfl,_,_,rfl,_,rfl,fO (λh1=>?_) λh1=>⟨_,rfl,rfl,_,rfl,dG (λh2=>⟨_,rfl,rfl,_,rfl,dG (λh3=>?_) λh3=>?_⟩) λh2=>?_⟩⟩
  ·exact⟨_,rfl,b2,_,_,_,rfl,rfl,iP.of T2,at_of (j:=0) rfl rfl,rfl,(by show 2<=1000;decide),λe d n1 n2 n3=>mM (bad (.inl (by simpa using h1))) s4 e d n1 n2 n3⟩
  ·exact⟨_,rfl,b2,_,_,_,rfl,rfl,iP.of T2,at_of (j:=0) rfl rfl,rfl,(by show 2<=1000;decide),λe d n1 n2 n3=>mM (bad (.inr ⟨by omega,by omega⟩)) s4 e d n1 n2 n3⟩
  ·rw[Py (λz=>z.elim (λz=>by rw[z]at h1;cases h1) λz=>h3 (by omega)),Pz (show g2=3 by omega)]at hs
   refine⟨_,rfl,rfl,_,rfl,dG (λh4=>⟨_,rfl,_,_,rfl,rfl,?_⟩) λh4=>absurd h2 h4⟩;refine⟨_,rfl,_,_,rfl,rfl,_,rfl,gB (λh5=>?_) λh5=>?_⟩
   ·have h5:((s+1:Nat):Int)>1:=PR h5
    rw[Pz (by omega)]at hs;rw[hs]at k;exact⟨_,rfl,b2,_,_,_,rfl,rfl,iP.of T2,at_of (j:=0) rfl rfl,rfl,(by show 2<=1000;decide),λe d n1 n2 n3=>mM k s4 e d n1 n2 n3⟩
   ·have h5:¬((s+1:Nat):Int)>1:=λz=>h5 (PJ z)
    rw[Py (by omega)]at hs;exact⟨s+1,_,_,_,_,rfl,s4,hs⟩
  ·rw[Py (λz=>z.elim (λz=>by rw[z]at h1;cases h1) λz=>h2 (by omega)),Py (show¬g2=3 by omega)]at hs
   refine⟨_,rfl,rfl,_,rfl,dG (λh4=>absurd h4 h2) λh4=>?_⟩;refine⟨_,rfl,_,_,rfl,rfl,_,rfl,gB (λh5=>?_) λh5=>?_⟩
   ·have h5:((s:Nat):Int)>1:=PR h5
    rw[Pz (by omega)]at hs;rw[hs]at k;exact⟨_,rfl,b2,_,_,_,rfl,rfl,iP.of T2,at_of (j:=0) rfl rfl,rfl,(by show 2<=1000;decide),λe d n1 n2 n3=>mM k s4 e d n1 n2 n3⟩
   ·have h5:¬((s:Nat):Int)>1:=λz=>h5 (PJ z)
    rw[Py (by omega)]at hs;exact⟨s,_,_,_,_,rfl,s4,hs⟩
 ·obtain⟨s,u,v,z,y,es,s3,hs⟩:=hW
  subst es;have:(d.ground.zip d.start).drop (min L1.length L2.length)=[]:=by
   rw[<-Dt.ge,<-Dt.se];simp
  rw[this]at hs;rw[hs]at k;exact k H3 s3
def mH(d:DR)(r:R0):Bool:=if d.goal=1 then !ju d.ground 2 else decide (0<=gi r.start)&&xV r (gi r.start).toNat
inductive Km(a:Ad)(vs:List V)(H:Hp)(Q:VK)(E:XK):Prop
 |mk (x dx gq sq:Addr) (d:DR) (L1 L2:List (Addr×Nat×Nat)) (A:RA) (r:R0) (_:vs=[.ref x,.ref A.x]) (_:Em a H x dx gq sq d L1 L2) (_:L1.length<=1000) (_:ou a H A r) (_:(mH d r=false->∀H',aD H H'->Q .eB H')) (_:(mH d r=true->A4 a H 5 d.gn E)):Km a vs H Q E
theorem jA:az ["draft","rules","wrong","king"] ["draft","rules"] (aj (top 87)):=aR
theorem yS(T:Tx K mg a):a4 P w K mg base (cW P w) 2 a.iS a.r_ ["draft","rules"] (Km a):=by
 refine T.iS.F.oO jA λcdv A outer s H vs Q E hr h=>?_;obtain⟨x,dx,gq,sq,d,L1,L2,A',r,rfl,Dt,hL,R,k1,k2⟩:=h
 exists aB (bE (aI bO (au (pv 0) rfl) aw (aJ _)) (aF (e_ 2 jA.nd (GF (dm T.mf (tM T) hr aK (aa (au (pv 0) rfl) (aa (mL T.AT) ae)))))) (aB (e_ 3 jA.nd (dm T.iw (s_ T) hr aK (aa (au (au (pv 1) rfl) rfl) ae))) (aF (e_ 2 jA.nd (wm (d9 zj (pv 3) aw (aJ _)) (p8 (je (pv 1) T.aU T.dQ (nE T) hr aK (aa (pv 3) ae)))))))) (aF (bE (dD (pv 2)) (aF (f8 ay hr.hd T.eV (b7 T) T.bg.b (hr.d1) rfl T.bB.m (aa aw (aa (au (pv 0) rfl) ae)))) aX))
 refine⟨_,rfl,x,_,_,_,_,rfl,Dt.ins,T.ao.cl,T.i7,rfl,rfl,_,rfl,dG (λh1=>?_) λh1=>?_⟩
 ·refine⟨_,rfl,x,_,_,_,_,rfl,Dt.ins,T.ao.cl,T.bP,rfl,gq,L1,2,rfl,Dt.g,hL,λH1 s1=>⟨_,rfl,?_⟩⟩
  have wg:mH d r= !ju (L1.map (·.2)) 2:=by rw[Dt.ge];exact Pz h1
  refine⟨_,rfl,_,rfl,fO (λh9=>?_) λh9=>?_⟩
  ·exact⟨_,rfl,x,_,_,_,_,rfl,(Dt.same s1).ins,T.ao.cl,T.eG,rfl,rfl,(by show 2<=1000;decide),λe d n1 n2 n3=>mM (k2 (wg.trans h9)) s1 e d n1 n2 n3⟩
  ·exact k1 (wg.trans h9) _ s1
 ·refine⟨_,rfl,A'.x,_,_,_,_,rfl,R.ins,T.aU.cl,T.mQ,rfl,A'.st,_,_,_,_,rfl,R.st,T.bQ.cl,T.bS,rfl,A'.sp,r.start,rfl,a0.of R.sp,?_⟩
  have wg:mH d r=(decide (0<=gi r.start)&&xV r (gi r.start).toNat):=Py h1;have kl:=Eh R.ok.s;generalize gi r.start=kc at*;refine⟨_,rfl,_,_,rfl,rfl,_,rfl,gB (λh2=>?_) λh2=>?_⟩
  ·have h2:kc≥0:=PR h2
   rcases kl with kl|⟨c,rfl,c1⟩
   ·omega
   rw[PJ h2,Bool.true_and]at wg;refine⟨_,rfl,A'.x,_,_,rfl,R.ins,rfl,_,rfl,A',r,c,rfl,R,c1,λH1 s1=>?_⟩;replace wg:mH d r=xV r c:=wg;refine⟨_,rfl,_,rfl,fO (λh9=>?_) λh9=>?_⟩
   ·exact⟨_,rfl,x,_,_,_,_,rfl,(Dt.same s1).ins,T.ao.cl,T.eG,rfl,rfl,(by show 2<=1000;decide),λe d n1 n2 n3=>mM (k2 (wg.trans h9)) s1 e d n1 n2 n3⟩
   ·exact k1 (wg.trans h9) _ s1
  ·have h2:¬kc≥0:=λz=>h2 (PJ z)
   rw[Qr h2,Bool.false_and]at wg;refine⟨_,rfl,_,rfl,fO (λh9=>by cases h9) λh9=>?_⟩;exact k1 wg _ (aD.refl _)
def jF(d:DR):Bool:=(!ju d.start 3|| !ju d.start 1)||((decide (d.passed=0)|| !decide (d.seat=0))&& !ju d.ground 1)
inductive MZ(a:Ad)(vs:List V)(H:Hp)(Q:VK)(E:XK):Prop
 |mk (x dx gq sq:Addr) (d:DR) (L1 L2:List (Addr×Nat×Nat)) (_:vs=[.ref x]) (_:Em a H x dx gq sq d L1 L2) (_:L1.length<=1000) (_:L2.length<=1000) (_:(jF d=false->∀H',aD H H'->Q .eB H')) (_:(jF d=true->A4 a H 6 d.jS E)):MZ a vs H Q E
theorem lg:az ["draft","needs_seat"] ["draft"] (aj (top 88)):=aR
theorem rX(T:Tx K mg a):a4 P w K mg base (cW P w) 2 a.d7 a.mE ["draft"] (MZ a):=by
 refine T.d7.F.oO lg λcdv A outer s H vs Q E hr h=>?_;obtain⟨x,dx,gq,sq,d,L1,L2,rfl,Dt,hL1,hL2,k1,k2⟩:=h
 exists aB (e_ 1 lg.nd (GS (d9 bO (au (pv 0) rfl) aw (aJ _)) (p8 (d9 EH (au (pv 0) rfl) aw (aJ _))))) (aB (bE (PW.pt (z5 (lK (dD (dm T.mf (tM T) hr aK (aa (au (pv 0) rfl) (aa (mL T.j0) ae))))) (t_ (lK (dD (dm T.mf (tM T) hr aK (aa (au (pv 0) rfl) (aa (mL T.B_) ae)))))))) (aF (f8 ay hr.hd T.eV (b7 T) T.bg.b (hr.d1) rfl T.bB.m (aa aw (aa (au (pv 0) rfl) ae)))) aX) (aF (bE (PW.pt (gM (dD (pv 1)) (fc (lK (dD (dm T.mf (tM T) hr aK (aa (au (pv 0) rfl) (aa (mL T.AB) ae)))))))) (aF (f8 ay hr.hd T.eV (b7 T) T.bg.b (hr.d1) rfl T.bB.m (aa aw (aa (au (pv 0) rfl) ae)))) aX)))
 have bad:∀H1,aD H H1->jF d=true->∀e d',H1 e=none->H1 d'=none->d'≠e->E (.ref a.bD) (some e) (upd (upd H1 d' (XD d' [("kind",.int 6),("place",.int (d.jS:Nat))])) e (XO e a.bD (some d') true)):=λH1 s1 h e d' n1 n2 n3=>mM (k2 h) s1 e d' n1 n2 n3;refine⟨_,rfl,x,_,_,_,_,rfl,Dt.ins,T.ao.cl,T.gP,rfl,rfl,_,rfl,dG (λh1=>?_) λh1=>⟨_,rfl,x,_,_,_,_,rfl,Dt.ins,T.ao.cl,T.iO,rfl,rfl,?_⟩⟩
 ·have nd:(decide (d.passed=0)|| !decide (d.seat=0))=true:=by rw[PJ h1];rfl
  refine⟨_,rfl,x,_,_,_,_,rfl,Dt.ins,T.ao.cl,T.b8,rfl,sq,L2,3,rfl,Dt.s,hL2,λH1 s1=>⟨_,rfl,fO (λg1=>?_) λg1=>⟨_,rfl,x,_,_,_,_,rfl,(Dt.same s1).ins,T.ao.cl,T.b8,rfl,sq,L2,1,rfl,Dt.s.same s1,hL2,λH2 s2=>⟨_,rfl,fO (λg2=>?_) λg2=>?_⟩⟩⟩⟩
  ·exact⟨_,rfl,x,_,_,_,_,rfl,(Dt.same s1).ins,T.ao.cl,T.bF,rfl,rfl,(by show 2<=1000;decide),bad _ s1 (by unfold jF;rw[<-Dt.se,g1];rfl)⟩
  ·exact⟨_,rfl,x,_,_,_,_,rfl,(Dt.same (s1.trans s2)).ins,T.ao.cl,T.bF,rfl,rfl,(by show 2<=1000;decide),bad _ (s1.trans s2) (by unfold jF;rw[<-Dt.se,g1,g2];rfl)⟩
  ·have s12:=s1.trans s2
   refine⟨_,rfl,_,rfl,fO (λg3=>⟨_,rfl,x,_,_,_,_,rfl,(Dt.same s12).ins,T.ao.cl,T.bP,rfl,gq,L1,1,rfl,Dt.g.same s12,hL1,λH3 s3=>⟨_,rfl,fO (λg4=>?_) λg4=>?_⟩⟩) λg3=>?_⟩
   ·exact⟨_,rfl,x,_,_,_,_,rfl,(Dt.same (s12.trans s3)).ins,T.ao.cl,T.bF,rfl,rfl,(by show 2<=1000;decide),bad _ (s12.trans s3) (by unfold jF;rw[<-Dt.se,<-Dt.ge,g1,g2,g4,nd];rfl)⟩
   ·exact k1 (by unfold jF;rw[<-Dt.se,<-Dt.ge,g1,g2,g4,Bool.and_false];rfl) _ (s12.trans s3)
   ·cases g3
 ·have nd:(decide (d.passed=0)|| !decide (d.seat=0))= !decide (d.seat=0):=by rw[Qr h1];rfl
  rw[g9];refine⟨_,rfl,x,_,_,_,_,rfl,Dt.ins,T.ao.cl,T.b8,rfl,sq,L2,3,rfl,Dt.s,hL2,λH1 s1=>⟨_,rfl,fO (λg1=>?_) λg1=>⟨_,rfl,x,_,_,_,_,rfl,(Dt.same s1).ins,T.ao.cl,T.b8,rfl,sq,L2,1,rfl,Dt.s.same s1,hL2,λH2 s2=>⟨_,rfl,fO (λg2=>?_) λg2=>?_⟩⟩⟩⟩
  ·exact⟨_,rfl,x,_,_,_,_,rfl,(Dt.same s1).ins,T.ao.cl,T.bF,rfl,rfl,(by show 2<=1000;decide),bad _ s1 (by unfold jF;rw[<-Dt.se,g1];rfl)⟩
  ·exact⟨_,rfl,x,_,_,_,_,rfl,(Dt.same (s1.trans s2)).ins,T.ao.cl,T.bF,rfl,rfl,(by show 2<=1000;decide),bad _ (s1.trans s2) (by unfold jF;rw[<-Dt.se,g1,g2];rfl)⟩
  ·have s12:=s1.trans s2
   refine⟨_,rfl,_,rfl,fO (λg3=>⟨_,rfl,x,_,_,_,_,rfl,(Dt.same s12).ins,T.ao.cl,T.bP,rfl,gq,L1,1,rfl,Dt.g.same s12,hL1,λH3 s3=>⟨_,rfl,fO (λg4=>?_) λg4=>?_⟩⟩) λg3=>?_⟩
   ·exact⟨_,rfl,x,_,_,_,_,rfl,(Dt.same (s12.trans s3)).ins,T.ao.cl,T.bF,rfl,rfl,(by show 2<=1000;decide),bad _ (s12.trans s3) (by unfold jF;rw[<-Dt.se,<-Dt.ge,g1,g2,g4,nd,g3];rfl)⟩
   ·exact k1 (by unfold jF;rw[<-Dt.se,<-Dt.ge,g1,g2,g4,Bool.and_false];rfl) _ (s12.trans s3)
   ·exact k1 (by unfold jF;rw[<-Dt.se,g1,g2,nd,g3];rfl) _ s12
inductive MQ{β γ:Type}(r:Except Nat (β×Nat))(f:β->Nat->Except Nat γ)(d:γ):Prop
 |mk (v:β) (n:Nat) (_:r=.ok (v,n)) (_:f v n=.ok d):MQ r f d
theorem aG{β γ:Type}{r:Except Nat (β×Nat)}{f:β->Nat->Except Nat γ}{d:γ}(h:lT r f=.ok d):MQ r f d:=by
 cases r with
 |error e=>cases h
 |ok p=>exact⟨p.1,p.2,rfl,h⟩
theorem nL{r:Except Nat (V×Nat)}{i:Int}{n:Nat}(h:jv r=.ok (i,n)):r=.ok (.int i,n):=by
 unfold jv at h;split at h
 ·cases h;rfl
 ·cases h
 ·cases h
theorem w_{ns:List Int}(ws:List Str):∀(f told:Nat)(left:List Str)(n:Nat)(p:V×Nat),(∀v∈left,v∈ws)->b6 ns ws f told left n=.ok p->∃k:Nat,p.1=.int (k:Nat)/\k<ws.length
 |0,_,_,_,_,_,h=>by cases h
 |f+1,told,left,n,p,hl0,h=>by
  unfold b6 at h;cases hl:left.filter (mI ns n told)with
  |nil=>rw[hl]at h;cases h
  |cons v l=>
   rw[hl]at h;have sub:∀u∈v::l,u∈ws:=λu hu=>hl0 u (Qz.mp (by rw[hl];exact hu)).1;replace h:(if v.length=told+1 then Except.ok (V.int (ws.findIdx (λu=>decide (u=v)):Nat),n+1)else b6 ns ws f (told+1) (v::l) (n+1))=.ok p:=h
   by_cases hv:v.length=told+1
   ·rw[Pz hv]at h
    cases h;exact⟨_,rfl,Q9 ⟨v,sub v PU,by simp⟩⟩
   ·rw[Py hv]at h
    exact w_ ws f _ _ _ _ sub h
theorem z6{z:Str}{ns:List Int}(hz:z.cps.toList.length=4):∀(k:Nat)(acc:List (Nat×Nat))(n:Nat)(p:List (Nat×Nat)×Nat),hU z ns k acc n=.ok p->(∀q∈acc,q.2<4)->p.1.length=acc.length+k/\∀q∈p.1,q.2<4
 |0,acc,n,p,h,ha=>by cases h;exact⟨rfl,ha⟩
 |k+1,acc,n,p,h,ha=>by
  unfold hU at h;cases hk:cK z ns n with
  |none=>rw[hk]at h;cases h
  |some i=>
   rw[hk]at h;have hi:=(iC hk).1;obtain⟨h1,h2⟩:=z6 hz k _ _ p h (λq hq=>by
    rcases Qc.mp hq with z|z
    ·exact ha q z
    ·rw[Qb]at z
     subst z;show i<4;omega)
   rw[P0,QF]at h1;exact⟨by omega,h2⟩
theorem xR{z:Str}{ns:List Int}{wide:Nat}(hz:z.cps.toList.length=4):∀(k:Nat)(acc:List (Nat×Nat))(n:Nat)(p:List (Nat×Nat)×Nat),eA z ns wide k acc n=.ok p->(∀q∈acc,q.2<4)->p.1.length=acc.length+wide*k/\∀q∈p.1,q.2<4
 |0,acc,n,p,h,ha=>by cases h;exact⟨rfl,ha⟩
 |k+1,acc,n,p,h,ha=>by
  unfold eA yt at h;cases hc:hU z ns wide acc n with
  |error e=>rw[hc]at h;cases h
  |ok q=>
   obtain⟨h1,h2⟩:=z6 hz wide acc n q hc ha;rw[hc]at h;obtain⟨q1,q2⟩:=q;replace h:(match c_ ns [10] q2 with|.error e=>Except.error e|.ok m=>eA z ns wide k q1 m)=.ok p:=h;cases hl:c_ ns [10] q2 with
   |error e=>rw[hl]at h;cases h
   |ok m=>
    rw[hl]at h;obtain⟨h3,h4⟩:=xR hz k q1 m p h h2;exact⟨by rw[h3,h1,Rs];omega,h4⟩
theorem BB{ns:List Int}{d:DR}(h:iQ ns=.ok d):Ke d:=by
 unfold iQ at h;obtain⟨_,_,_,h⟩:=aG h;obtain⟨_,_,_,h⟩:=aG h;obtain⟨_,_,_,h⟩:=aG h;obtain⟨vw,_,ew,h⟩:=aG h;obtain⟨_,_,_,h⟩:=aG h;obtain⟨vh,_,eh,h⟩:=aG h;obtain⟨_,_,_,h⟩:=aG h;obtain⟨vg,_,eg,h⟩:=aG h;obtain⟨_,_,_,h⟩:=aG h;obtain⟨vs,_,es,h⟩:=aG h;obtain⟨_,_,_,h⟩:=aG h;obtain⟨vf,_,ef,h⟩:=aG h;obtain⟨_,_,_,h⟩:=aG h;obtain⟨_,_,_,h⟩:=aG h;obtain⟨_,_,_,h⟩:=aG h;obtain⟨_,_,_,h⟩:=aG h;obtain⟨_,_,_,h⟩:=aG h;obtain⟨_,_,_,h⟩:=aG h;obtain⟨_,_,_,h⟩:=aG h;obtain⟨_,_,_,h⟩:=aG h;obtain⟨_,_,_,h⟩:=aG h;obtain⟨_,_,_,h⟩:=aG h;obtain⟨_,_,_,h⟩:=aG h;obtain⟨_,_,_,h⟩:=aG h;obtain⟨_,_,_,h⟩:=aG h;obtain⟨_,_,_,h⟩:=aG h;obtain⟨_,_,_,h⟩:=aG h;obtain⟨_,_,_,h⟩:=aG h;obtain⟨_,_,_,h⟩:=aG h;obtain⟨_,_,_,h⟩:=aG h;obtain⟨_,_,_,h⟩:=aG h;obtain⟨_,_,_,h⟩:=aG h;obtain⟨_,_,_,h⟩:=aG h;cases h;obtain⟨wd,e1,b1,b2⟩:=mU (nL ew);obtain⟨hg,e2,b3,b4⟩:=mU (nL eh);cases e1;cases e2;obtain⟨g1,g2⟩:=xR (by decide+kernel) _ _ _ _ eg (λq hq=>by cases hq);obtain⟨s1,s2⟩:=xR (by decide+kernel) _ _ _ _ es (λq hq=>by cases hq);obtain⟨k,e3,hk⟩:=w_ _ _ _ _ _ _ (λv hv=>hv) (nL ef);cases e3;have hk:k<2:=hk;exact⟨b1,b3,b2,b4,g2,s2,by rw[g1];simp,by rw[s1];simp,by show((k:Nat):Int)=0\/((k:Nat):Int)=1;omega⟩
def Od(a:Ad)(H:Hp)(ns:List Int):XK:=λc eo H'=>c=.ref a.fe/\∃e d m,eo=some e/\aD H H'/\H' e=some (XO e a.fe (some d) true)/\H' d=some (XD d [("place",.int ((m:Nat):Int))])/\iQ ns=.error m
inductive L8(a:Ad)(vs:List V)(H:Hp)(Q:VK)(E:XK):Prop
 |mk (g:Addr) (ns:List Int) (_:vs=[.ref g]) (_:H g=some (.lst (ns.map V.int))) (_:(match iQ ns with
 |.ok d=>∀H' y dy gq sq L1 L2,aD H H'->Em a H' y dy gq sq d L1 L2->Q (.ref y) H'
 |.error m=>A4 a H 1 m E)):L8 a vs H Q E
theorem iy:az ["text","stuck"] ["text"] (aj (top 89)):=aR
theorem mV(T:Tx K mg a):a4 P w K mg base (cW P w) 8 a.cq a.iJ ["text"] (L8 a):=by
 refine T.cq.F.oO iy λcdv A outer s H vs Q E hr h=>?_;obtain⟨g,ns,rfl,hg,k⟩:=h;intro X;refine⟨_,(cT (De (E':=(Od a H ns)) (j7 hr.hd) (λpn xe LL=>(cT (aE (F8 T.Ao (rV T) hr T.ao T.cS LL.passes (aa (F8 T.BR (pK T) hr T.aC T.eu aK (aa (pv 0) ae)) ae))))) (BP (i:=1) (j7 hr.hd) ay rfl T.g7.m T.g7.ID iy.nd rfl rfl (λe0 pn xe L2L=>(cT (yo L2L rfl T.eV (b7 T) T.bg.b (hr.d1) rfl T.bB.m (aa aw (aa (lA K rfl (pv 1) rfl) ae))))) CJ))),?_,λC e H' hx=>?_⟩
 ·refine⟨_,rfl,λr rx nr nrx nne=>⟨r,rx,g,rfl,ah,rfl,?_⟩⟩
  rw[eR];have S1:aD H (upd (upd H rx (.own r)) r (.ins a.aY rx (vt g 0))):=(aA nrx).trans (aA (by rw[ai (PZ nne)];exact nr));have r1:(upd (upd H rx (.own r)) r (.ins a.aY rx (vt g 0))) r=some (.ins a.aY rx (vt g 0)):=ah;generalize upd (upd H rx (.own r)) r (.ins a.aY rx (vt g 0))=H1 at*;intro x dx nx ndx nne2;have S2:=b9 (C:=a.aO) nx ndx nne2;have x2:(upd (upd H1 dx (.own x)) x (.ins a.aO dx [])) x=some (.ins a.aO dx []):=ah;have xr:x≠r:=PZ (ak r1 nx);generalize upd (upd H1 dx (.own x)) x (.ins a.aO dx [])=H2 at*;have S:=S1.trans S2;have R2:fI K a H2 r rx g ns 0:=⟨S2 _ _ r1,S _ _ hg⟩;have hx0:H x=none:=S1.free nx;refine⟨x,dx,r,rx,g,ns,rfl,x2,R2,xr,?_⟩;have fs:∀{H3:Hp},Fx [x,r] H2 H3->aD H H3:=λ{H3} f b o q=>f b o (S b o q) (by simp[ak q hx0,ak q nr]);unfold KD;cases hd:iQ ns with
  |error m=>exactλH3 e d f h1 h2=>⟨rfl,e,d,m,rfl,fs f,h1,h2,hd⟩
  |ok d=>
   rw[hd]at k;exactλH3 gq sq L1 L2 f D=>⟨rfl,k H3 x dx gq sq L1 L2 (fs f) D⟩
 ·obtain⟨hC,e',d,m,he',s1,h1,h2,hd⟩:=hx
  cases hC;cases he';rw[hd]at k;refine⟨T.g7.cl,λ_=>?_,λz=>absurd rfl z⟩;refine⟨_,rfl,e,_,d,_,_,_,rfl,h1,h2,T.g7.cl,T.mK,rfl,⟨_,_,h1⟩,rfl,(by show 2<=1000;decide),λe3 d3 n1 n2 n3=>mM k s1 e3 d3 n1 n2 n3⟩
def kS(ns:List Int):Except (Nat×Nat) R0:=match iQ ns with
 |.error p=>.error (1,p)
 |.ok d=>match ye d.ground 0 with
  |some p=>.error (2,p)
  |none=>match vJ (d.ground.zip d.start) 0 with
   |some p=>.error p
   |none=>if mH d (dF d)=true then .error (5,d.gn)else if jF d=true then .error (6,d.jS)else .ok (dF d)
inductive Ni(a:Ad)(vs:List V)(H:Hp)(Q:VK)(E:XK):Prop
 |mk (g:Addr) (ns:List Int) (_:vs=[.ref g]) (_:H g=some (.lst (ns.map V.int))) (_:(match kS ns with
 |.ok r=>∀H' A,aD H H'->ou a H' A r->JU H A->Q (.ref A.x) H'
 |.error p=>A4 a H p.1 p.2 E)):Ni a vs H Q E
theorem mT:az ["text","draft","rules"] ["text"] (aj (top 91)):=aR
theorem yH(T:Tx K mg a):a4 P w K mg base (cW P w) 9 a.iG a.sV ["text"] (Ni a):=by
 refine T.iG.F.oO mT λcdv A outer s H vs Q E hr h=>?_;obtain⟨g,ns,rfl,hg,k⟩:=h
 exists aB (e_ 1 mT.nd (dm T.cq (mV T) hr ay.passes (aa (pv 0) ae))) (aB (e_ 2 mT.nd (F8 T.Jy (yF T) hr T.aU T.gI aK (aa (pv 1) ae))) (aB (aZ (dm T.gk (vB T) hr ay.passes (aa (pv 1) ae))) (aB (aZ (dm T.g6 (yz T) hr ay.passes (aa (pv 1) ae))) (aB (aZ (dm T.iS (yS T) hr ay.passes (aa (pv 1) (aa (pv 2) ae)))) (aB (aZ (dm T.d7 (rX T) hr ay.passes (aa (pv 1) ae))) (aF (aE (pv 2))))))))
 refine⟨_,rfl,g,ns,rfl,hg,?_⟩;unfold kS at k;cases hd:iQ ns with
 |error m=>
  rw[hd]at k;exact k
 |ok d=>
  rw[hd]at k;dsimp only at k;have O:=BB hd;intro H1 y dy gq sq L1 L2 s1 D1;have l1:L1.length<=1000:=by
   have:=QI List.length D1.ge;have h2:d.wide*d.high<=13*13:=Sa O.w O.h;rw[Px,O.gl]at this;omega
  have l2:L2.length<=1000:=by
   have:=QI List.length D1.se;have h2:d.wide*d.high<=13*13:=Sa O.w O.h;rw[Px,O.sl]at this;omega
  refine⟨_,rfl,λx dx nx ndx nne=>?_⟩;have S2:=b9 (C:=a.bb) nx ndx nne;refine⟨x,dx,y,dy,gq,sq,d,L1,L2,rfl,ah,D1.same S2,ak D1.ins nx,O,λH3 A3 e3 ax R3 F3=>⟨rfl,?_⟩⟩;have F4:JU H A3:=F3.back (s1.trans S2);have s3:aD H1 H3:=Ex.made nx ndx e3;have D3:=D1.same s3;have S3:=s1.trans s3;subst ax;clear S2 e3 s3;refine⟨_,rfl,y,dy,gq,sq,d,L1,L2,rfl,D3,?_⟩;cases hcg:ye d.ground 0 with
  |some p=>
   rw[hcg]at k;exact A4.mono k S3
  |none=>
   rw[hcg]at k;dsimp only at k;refine⟨_,rfl,y,dy,gq,sq,d,L1,L2,rfl,D3,?_⟩;cases hcs:vJ (d.ground.zip d.start) 0 with
   |some p=>
    rw[hcs]at k;exact A4.mono k S3
   |none=>
    rw[hcs]at k;dsimp only at k;intro H4 s4;refine⟨_,rfl,_,rfl,y,dy,gq,sq,d,L1,L2,A3,dF d,rfl,D3.same s4,l1,R3.same s4,λhw=>?_,λhw=>?_⟩
    ·rw[Py (by rw[hw];exact PM)]at k
     intro H5 s5;have s45:=s4.trans s5;refine⟨_,rfl,y,dy,gq,sq,d,L1,L2,rfl,D3.same s45,l1,l2,λhm=>?_,λhm=>?_⟩
     ·rw[Py (by rw[hm];exact PM)]at k
      intro H6 s6;exact⟨_,rfl,k H6 A3 ((S3.trans s45).trans s6) (R3.same (s45.trans s6)) F4⟩
     ·rw[Pz hm]at k
      exact A4.mono k (S3.trans s45)
    ·rw[Pz hw]at k
     exact A4.mono k (S3.trans s4)
def codes(z:Str):List Int:=z.cps.toList.map λ(c:Nat)=>(c:Int)
inductive DF(vs:List V)(H:Hp)(Q:VK)(E:XK):Prop
 |mk (z:Str) (_:vs=[.str z]) (_:z.cps.size<=100000) (_:∀H' q,aD H H'->H q=none->H' q=some (.lst ((codes z).map V.int))->Q (.ref q) H'):DF vs H Q E
theorem o8:az ["text","sign"] ["text"] (aj (top 49)):=aR
theorem uJ(T:Tx K mg a):a4 P w K mg base (cW P w) 1 a.jx a.yy ["text"] DF:=by
 refine T.jx.F.kP o8 λcdv A outer s H vs Q E hr h=>?_;obtain⟨z,rfl,hz,k⟩:=h
 exists aF (aE (lE (own:=[("sign",1)]) rfl o8.nd (Ds (pv 0)) (cp rfl) (λ_ _ _ _ _=>(kT 1 o8.nd)) (λ_ _ _ _ _=>dZ) (λ_ _ _ _ _=>(bt Bs rfl T.Ko (by decide+kernel) (aa (pv 1) ae)))))
 refine⟨_,rfl,z,rfl,λD hD=>iU (J:=Nd z) (n:=z.cps.size) (λi=>((z.cps.toList.take i).map λ(c:Nat)=>V.int (c:Int))) hD rfl (λi H h _=>h) (λH _=>PF _) (λi H' hi s1 e1 y H2 hy=>?_) λH' s1 e1=>?_⟩
 ·obtain⟨rfl,c,hc,rfl⟩:=hy
  refine⟨rfl,_,rfl,_,rfl,rfl,?_⟩;refine Got.of hD s1 e1 (aD.refl _) (by rw[Px,Qt];omega) ?_;have hc':z.cps.toList[i]? =some c:=by simpa using hc
  rw[QZ,hc',Qg];rfl
 ·refine k H' D s1 hD ?_
  rw[e1,Qp (by simp)];unfold codes;rw[QJ];rfl
def lD(n:Nat):Str:=if 0<n then(toString ((n:Nat):Int):String)else""
theorem qo{n:Nat}(h:n<=13):(lD n).length<=2:=by
 have all:∀m:Fin 14,(lD (m:Nat)).length<=2:=by decide+kernel
 exact all ⟨n,by omega⟩
inductive ET(vs:List V)(H:Hp)(Q:VK)(E:XK):Prop
 |mk (n:Nat) (_:vs=[.int (n:Nat)]) (_:n<=13) (_:Q (.str (lD n)) H):ET vs H Q E
theorem qf{i:Int}(h:i.natAbs<=1000):i.natAbs.log2<1920:=Nat.lt_of_le_of_lt (Nat.log2_le_self _) (by omega)
theorem Ap:az ["free"] ["free"] (aj (top 62)):=aR
theorem tH(T:Tx K mg a):a4 P w K mg base (cW P w) 1 a.im a.va ["free"] ET:=by
 refine T.im.F.kP Ap λcdv A outer s H vs Q E hr h=>?_;obtain⟨n,rfl,hn,k⟩:=h
 exists aF (aE (wY (aI oC (pv 0) aw (aJ _)) (ng om rfl T.Gy (by decide+kernel) (aa (pv 0) ae)) a9))
 unfold lD at k;refine⟨_,rfl,_,_,rfl,rfl,_,rfl,gB (λh1=>?_) λh1=>?_⟩
 ·have h1:((n:Nat):Int)>0:=PR h1
  rw[Pz (by omega)]at k;exact⟨_,rfl,_,rfl,qf (by omega),k⟩
 ·have h1:¬((n:Nat):Int)>0:=λz=>h1 (PJ z)
  rw[Py (by omega)]at k;exact k
def Eu(v:Int):Str:=⟨#[(".hmK":Str).cps.toList.getD v.toNat 0]⟩
def cF(p:Str×Nat)(v:Int):Str×Nat:=if v=0 then(p.1,p.2+1)else(p.1++(lD p.2++Eu v),0)
def fH(ps:List Int):Str:=let p:=ps.foldl cF ("",0);p.1++lD p.2
theorem sk:∀(ps:List Int)(p:Str×Nat),p.2+ps.length<=13->(ps.foldl cF p).1.length<=p.1.length+3*ps.length/\(ps.foldl cF p).2<=p.2+ps.length
 |[],p,_=>⟨PF _,PF _⟩
 |v::ps,p,h=>by
  rw[Qj]at h ⊢;rw[Q8];have f:=qo (n:=p.2) (by omega);have e:(cF p v).1.length<=p.1.length+3/\(cF p v).2<=p.2+1:=by
   unfold cF;split
   ·exact⟨by simp,PF _⟩
   ·rw[QB,QB]
    have:(Eu v).length=1:=rfl;exact⟨by omega,QG _⟩
  have:=sk ps (cF p v) (by omega);omega
inductive Gr(K:PB)(vs:List V)(H:Hp)(Q:VK)(E:XK):Prop
 |mk (p:Addr) (ps:List Int) (_:vs=[.ref p]) (_:a0 K H p (ps.map V.int)) (_:ps.length<=13) (_:(∀v∈ps,0<=v/\v<=3)) (_:Q (.str (fH ps)) H):Gr K vs H Q E
theorem Ja{l:List Int}{i:Nat}{x:V}(h:(l.map V.int)[i]? =some x):∃v,l[i]? =some v/\x=.int v:=by
 rw[Qa]at h;cases e:l[i]? with
 |none=>rw[e]at h;cases h
 |some w=>rw[e]at h;cases h;exact⟨w,rfl,rfl⟩
theorem gc:az ["pieces","text","free","piece"] ["pieces"] (aj (top 61)):=aR
theorem BK(T:Tx K mg a):a4 P w K mg base (cW P w) 2 a.lr a.w6 ["pieces"] (Gr K):=by
 refine T.lr.F.kP gc λcdv A outer s H vs Q E hr h=>?_;obtain⟨p,ps,rfl,hp,hl,hv,k⟩:=h
 exists aB (e_ 1 gc.nd a9) (aB (e_ 2 gc.nd aw) (aB (dI QS rfl (cN (pv 0)) (kT 3 gc.nd) (aF (bE (aI bO (pv 3) (mL T.iF) (aJ _)) (aF (Gx 2 gc.nd aw tW)) (aB (Gx 1 gc.nd (bv dB (dm T.im (tH T) hr aK (aa (pv 2) ae)) (bj Ax (CF T.yO) (pv 3) (λ_ _=>rfl))) AJ) (aF (e_ 2 gc.nd aw)))))) (aF (aE (bv dB (pv 1) (dm T.im (tH T) hr aK (aa (pv 2) ae)))))))
 refine⟨_,rfl,p,rfl,⟨_,hp⟩,?_⟩;refine fR (xs:=ps.map V.int) (λi σ H'=>∃u,σ=[some (.ref p),some (.str ((ps.take i).foldl cF ("",0)).1),some (.int (((ps.take i).foldl cF ("",0)).2:Nat)),u]/\H'=H) ⟨_,rfl,rfl⟩ (λi σ H1 _⟨u,e,e1⟩=>by rw[e1];exact hp) (λi x σ H1 hx hW=>?_) λσ H1 hW=>?_
 ·obtain⟨u,e,e1⟩:=hW
  subst e e1;obtain⟨v,hx',rfl⟩:=Ja hx;have il:i<ps.length:=(PQ.mp hx').1;obtain⟨v0,v3⟩:=hv v (Ql hx');have st:(ps.take (i+1)).foldl cF ("",0)=cF ((ps.take i).foldl cF ("",0)) v:=by
   rw[QZ,hx',List.foldl_append];rfl
  obtain⟨b1,b2⟩:=sk (ps.take i) ("",0) (by rw[Qt];show 0+_<=_;omega);rw[Qt]at b1 b2;have b0:("":Str).length=0:=by decide+kernel
  rw[st];generalize(ps.take i).foldl cF ("",0)=pr at*;obtain⟨tx,fr⟩:=pr;have b1:tx.length<=("":Str).length+3*min i ps.length:=b1;have b2:fr<=0+min i ps.length:=b2;refine⟨_,rfl,rfl,_,rfl,dG (λh1=>?_) λh1=>?_⟩
  ·refine⟨_,rfl,_,_,rfl,rfl,some (V.int v),?_,rfl⟩
   unfold cF;rw[Pz h1];rfl
  ·have at1:B7 (".hmK":Str).cps.toList v=some ((".hmK":Str).cps.toList.getD v.toNat 0):=by
    have:v=1\/v=2\/v=3:=by omega
    rcases this with rfl|rfl|rfl<;>decide+kernel
   have fl:=qo (n:=fr) (by omega);refine⟨_,rfl,_,rfl,fr,rfl,(by omega),_,rfl,_,_,_,rfl,rfl,(by decide+kernel),at1,_,_,rfl,rfl,?_,_,_,rfl,rfl,?_,?_⟩
   ·rw[PL]
    show(lD fr).length+1<=_;omega
   ·rw[PL,QB]
    show tx.length+((lD fr).length+1)<=_;omega
   ·refine⟨some (V.int v),?_,rfl⟩
    unfold cF;rw[Py h1];rfl
 ·obtain⟨u,e,e1⟩:=hW
  subst e e1;rw[Px,Qp (PF _)];obtain⟨b1,b2⟩:=sk ps ("",0) (by show 0+_<=_;omega);have b0:("":Str).length=0:=by decide+kernel
  unfold fH at k;generalize ps.foldl cF ("",0)=pr at*;obtain⟨tx,fr⟩:=pr;have b1:tx.length<=("":Str).length+3*ps.length:=b1;have b2:fr<=0+ps.length:=b2;have fl:=qo (n:=fr) (by omega);exact⟨_,rfl,_,rfl,fr,rfl,(by omega),_,_,rfl,rfl,(by rw[PL];show tx.length+(lD fr).length<=_;omega),k⟩
def jf(c:Nat):Str:=⟨#[97+c%13]⟩++((toString (((c/13+1:Nat)):Int):String):Str)
inductive Hl(vs:List V)(H:Hp)(Q:VK)(E:XK):Prop
 |mk (c:Nat) (_:vs=[.int (c:Nat)]) (_:c<169) (_:Q (.str (jf c)) H):Hl vs H Q E
theorem kL{c:Nat}(h:c<169):(jf c).length<=3:=by
 have all:∀m:Fin 13,((toString (((m.val+1:Nat)):Int):String):Str).length<=2:=by decide+kernel
 have:=show((toString (((c/13+1:Nat)):Int):String):Str).length<=2 from all ⟨c/13,by omega⟩
 unfold jf;rw[QB];show 1+_<=3;omega
theorem AQ:az ["cell"] ["cell"] (aj (top 67)):=aR
theorem oq(T:Tx K mg a):a4 P w K mg base (cW P w) 1 a.fQ a.uE ["cell"] Hl:=by
 refine T.fQ.F.kP AQ λcdv A outer s H vs Q E hr h=>?_;obtain⟨c,rfl,hc,k⟩:=h
 exists aF (aE (bv dB (bj Ax (CF T.FS) (bv Gh (pv 0) (mL T.zd)) (λ_ _=>rfl)) (ng om rfl T.Gy (by decide+kernel) (aa (bv gN (bv EG (pv 0) (mL T.zd)) aw) ae))))
 have e1:((c:Nat):Int)%13=((c%13:Nat):Int):=by omega
 have e2:((c:Nat):Int)/13+1=((c/13+1:Nat):Int):=by omega
 have at1:B7 ("abcdefghijklm":Str).cps.toList (((c:Nat):Int)%13)=some (97+c%13):=by
  rw[e1];have all:∀m:Fin 13,B7 ("abcdefghijklm":Str).cps.toList ((m.val:Nat):Int)=some (97+m.val):=by decide+kernel
  exact all ⟨c%13,by omega⟩
 have nl:=kL hc;unfold jf at k nl;rw[QB]at nl;refine⟨_,rfl,_,_,rfl,rfl,(by show(0:Int)<13;decide),_,_,_,rfl,rfl,(by decide+kernel),at1,_,rfl,_,_,rfl,rfl,⟨by decide,by decide⟩,_,_,rfl,rfl,_,rfl,qf (by omega),?_⟩;rw[e2];refine⟨_,_,rfl,rfl,?_,k⟩;rw[PL];omega
theorem u4{α:Type}(f:Nat->List α)(b:Nat)(h:∀i,(f i).length=b):∀n,((List.range n).flatMap f).length=b*n
 |0=>rfl
 |n+1=>by rw[kJ,P0,u4 f b h n,h n,Rs]
theorem ls(wide high:Nat):(br wide high).length=wide*high:=u4 _ _ (λi=>by rw[Px,QL]) _
theorem yD{wide high:Nat}{v:Int}(hw:wide<=13)(hh:high<=13)(h:v∈br wide high):∃n:Nat,v=(n:Nat)/\n<169:=by
 unfold br at h;obtain⟨y,hy,hv⟩:=QU.mp h;obtain⟨x,hx,rfl⟩:=P_.mp hv;have hy:=Qe.mp hy;have hx:=Qe.mp hx;exact⟨13*(high-1-y)+x,rfl,by omega⟩
theorem G9(ns:List Int):∀(left f:Nat)(beh:Bool)(ps qs:List Int)(z:Str)(n:Nat)(r:List Int×List Int×Str×Nat),eI ns f left beh ps qs z n=.ok r->z.cps.toList.length<=3->(∀v∈ps,0<=v/\v<=3)->(∀v∈r.1,0<=v/\v<=3)/\r.2.2.1.cps.toList.length<=3:=by
 intro left
 induction left using Nat.strongRecOn with
 |_ left ih=>
  intro f beh ps qs z n r h hz hv;cases f with
  |zero=>cases h
  |succ f=>
   unfold eI at h
   by_cases h0:left=0
   ·rw[Pz h0]at h
    cases h;exact⟨hv,hz⟩
   ·rw[Py h0]at h
    by_cases hb:beh=false/\bd fG ns n=true
    ·rw[Pz hb]at h
     cases hm:manyN (left:Int) ns n with
     |error e=>rw[hm]at h;cases h
     |ok p=>
      obtain⟨v,n'⟩:=p;obtain⟨m,rfl,m1,m2⟩:=lM hm;rw[hm]at h;refine ih (left-m) (by omega) f _ _ _ _ _ r h hz λv hv'=>?_;rcases Qc.mp hv' with z|z
      ·exact hv v z
      ·rw[(List.mem_replicate.mp z).2]
       exact⟨by decide,by decide⟩
    ·rw[Py hb]at h
     cases hm:putN z ns n with
     |error e=>rw[hm]at h;cases h
     |ok p=>
      rw[hm]at h;unfold putN at hm;cases hk:cK z ns n with
      |none=>rw[hk]at hm;cases hm
      |some k=>
       rw[hk]at hm;cases hm;have:=(iC hk).1;refine ih (left-1) (by omega) f _ _ _ _ _ r h ?_ λv hv'=>?_
       ·split
        ·decide+kernel
        ·exact hz
       ·rcases Qc.mp hv' with z|z
        ·exact hv v z
        ·rw[Qb]at z
         subst z;exact⟨by omega,by omega⟩
theorem BX(ns:List Int)(wide:Nat):∀(k:Nat)(first:Bool)(ps qs:List Int)(z:Str)(n:Nat)(r:List Int×List Int×Str×Nat),fN ns wide k first ps qs z n=.ok r->z.cps.toList.length<=3->(∀v∈ps,0<=v/\v<=3)->(∀v∈r.1,0<=v/\v<=3)/\r.1.length=ps.length+wide*k/\r.2.1.length=qs.length+wide*k
 |0,_,_,_,_,_,_,h,_,hv=>by cases h;exact⟨hv,rfl,rfl⟩
 |k+1,first,ps,qs,z,n,r,h,hz,hv=>by
  unfold fN at h;cases h1:(if first=true then Except.ok n else c_ ns [47] n)with
  |error e=>rw[h1]at h;cases h
  |ok n1=>
   rw[h1]at h;dsimp only at h;cases h2:eI ns (wide+1) wide false ps qs z n1 with
   |error e=>rw[h2]at h;cases h
   |ok p=>
    obtain⟨ps',qs',z',n2⟩:=p;rw[h2]at h;obtain⟨v1,z1⟩:=G9 _ _ _ _ _ _ _ _ _ h2 hz hv;obtain⟨q1,q2⟩:=BI _ _ _ _ _ _ _ _ _ h2;obtain⟨v2,l1,l2⟩:=BX ns wide k false ps' qs' z' n2 r h z1 v1;replace q1:ps'.length=ps.length+wide:=q1;replace q2:qs'.length=qs.length+wide:=q2;exact⟨v2,by rw[l1,q1,Rs];omega,by rw[l2,q2,Rs];omega⟩
theorem zM{wide high:Nat}{ns ps qs:List Int}{t:Int}(h:jp wide high ns=.ok (ps,qs,t)):(∀v∈ps,0<=v/\v<=3)/\ps.length=wide*high/\qs.length=wide*high/\(t=0\/t=1):=by
 unfold jp at h;cases h1:fN ns wide high true [] [] "hmK" 0 with
 |error e=>rw[h1]at h;cases h
 |ok r=>
  obtain⟨v1,l1,l2⟩:=BX ns wide high true [] [] "hmK" 0 r h1 (by decide+kernel) (λv hv=>by cases hv);obtain⟨ps',qs',z',n⟩:=r;rw[h1]at h;dsimp only at h;cases h2:c_ ns [32] n with
  |error e=>rw[h2]at h;cases h
  |ok n1=>
   rw[h2]at h;dsimp only at h;cases h3:aW "hk" ns n1 with
   |error e=>rw[h3]at h;cases h
   |ok p=>
    obtain⟨d,rfl,hd⟩:=dR h3;have hd:=(iC hd).1;have l2':("hk":Str).cps.toList.length=2:=by decide+kernel
    rw[h3]at h;replace h:(if n1+1<ns.length then Except.error (n1+1)else Except.ok (ps',qs',((d:Nat):Int)))=Except.ok (ps,qs,t):=h;split at h
    ·cases h
    ·cases h
     exact⟨v1,by simpa using l1,by simpa using l2,by omega⟩
def xn(r:R0):List (Int×Int×Int)->List Int->Except Int (List Int)
 |[],acc=>.ok acc
 |p::l,acc=>if iE (r.ground.getD p.1.toNat 0) p.2.1=true then xn r l (acc.set p.1.toNat p.2.1)else .error p.2.2
def JP(a:Ad)(H:Hp)(kd pl:Int)(E:XK):Prop:=∀(H':Hp)(e d:Addr)(cx:Bool),aD H H'->H' e=some (XO e a.bU (some d) cx)->H' d=some (XD d [("kind",.int kd),("place",.int pl)])->E (.ref a.bU) (some e) H'
theorem JP.mono{H H1:Hp}{kd pl:Int}{E:XK}(h:JP a H kd pl E)(s:aD H H1):JP a H1 kd pl E:=λH' e d cx q=>h H' e d cx (s.trans q)
theorem Iu{H H1:Hp}{kd pl:Int}{E:XK}{cx:Bool}(h:JP a H kd pl E)(s:aD H H1)(e d:Addr)(n1:H1 e=none)(n2:H1 d=none)(n3:d≠e):E (.ref a.bU) (some e) (upd (upd H1 d (XD d [("kind",.int kd),("place",.int pl)])) e (XO e a.bU (some d) cx)):=
 h _ e d cx (s.trans ((aA n2).trans (aA (by rw[ai (PZ n3)];exact n1)))) ah (by rw[ai n3,ah])
inductive Cb(a:Ad)(vs:List V)(H:Hp)(Q:VK)(E:XK):Prop
 |mk (A:RA) (r:R0) (x dx p q:Addr) (ps qs:List Int) (z:Str) (t:Int) (_:vs=[.ref A.x,.ref x]) (_:ou a H A r) (_:iM a H x dx p q ps qs z t) (_:(∀v∈ps,0<=v/\v<=3)) (_:ps.length=r.wide*r.high) (_:qs.length=r.wide*r.high) (_:(t=0\/t=1)) (_:(match xn r ((br r.wide r.high).zip (ps.zip qs)) (List.replicate 169 0)with
  |.ok l=>∀H' y dy pp,aD H H'->vY a H' y dy pp l t->Q (.ref y) H'
  |.error pl=>JP a H 2 pl E)):Cb a vs H Q E
theorem nu:az ["rules","draft","pieces","told","cell"] ["rules","draft"] (aj (top 59)):=aR
theorem FA(T:Tx K mg a):a4 P w K mg base (cW P w) 3 a.pb a.B1 ["rules","draft"] (Cb a):=by
 refine T.pb.F.oO nu λcdv A outer s H vs Q E hr h=>?_;obtain⟨A',r,x,dx,p,q,ps,qs,z,t,rfl,R,Ld,hv,lp,lq,ht,k⟩:=h
 exists aB (tO (i:=2) (own:=[("cell",4)]) rfl nu.nd rfl rfl rfl (dP rfl T.g8 (aa (mL T.AC) ae)) (cp rfl) (λ_ _ _ _ _=>(kT 4 nu.nd)) (λ_ _ _ _ _=>dZ) (λ_ _ _ _ _=>(mL T.iF))) (aB (dI QO rfl (Js rfl T.uX (aa (dm T.b_ (fM T) hr aK (aa (au (pv 0) rfl) (aa (au (pv 0) rfl) ae))) ae)) (tV rfl (fh (kT 3 nu.nd) (fh (kT 4 nu.nd) qB))) (aB (wF (bj a_ (au (pv 1) rfl) (pv 3) (λ_ _=>rfl)) (wB (pv 2) (pv 4) set_list (λ_=>rfl))) (aF (bE (lK (dD (dm T.fY (nM T) hr aK (aa (bj a_ (au (pv 0) rfl) (pv 4) (λ_ _=>rfl)) (aa (bj a_ (pv 2) (pv 4) (λ_ _=>rfl)) ae))))) (aF (f8 ay hr.hd T.uQ (lZ T) T.cJ.b (hr.d1) rfl T.de.m (aa aw (aa (bj a_ (au (pv 1) rfl) (pv 3) (λ_ _=>rfl)) ae)))) aX)))) (aF (aE (F8 T.rD (jj T) hr T.bQ T.bZ aK (aa (pv 2) (aa (au (pv 1) rfl) ae))))))
 have bw:=R.ok.w;have bh:=R.ok.h;refine⟨_,rfl,(by omega),(by omega),λD hD=>iU (J:=Fm 0 169) (n:=169) (λj=>List.replicate j (V.int 0)) hD rfl (λj H h _=>h) (λH _=>PF _) (λj H' hj s2 e2 y H2 hy=>?_) λH1 s1 h1=>?_⟩
 ·obtain⟨rfl,rfl⟩:=hy
  refine⟨rfl,?_⟩;exact Got.of hD s2 e2 (aD.refl _) (by rw[Qx];omega) Se
 ·have R1:=R.same s1
  refine⟨_,rfl,A'.x,_,_,_,_,rfl,R1.ins,T.aU.cl,T.gD,rfl,_,rfl,A'.x,_,_,_,_,rfl,R1.ins,T.aU.cl,T.iT,rfl,r.wide,r.high,rfl,bw,bh,λH2 c s2 nc h2=>⟨c,_,rfl,a0.of h2,?_⟩⟩;have S2:=s1.trans s2;have nc0:H c=none:=s1.free nc;have cD:c≠D:=PZ (ak h1 nc);generalize hl:(br r.wide r.high).zip (ps.zip qs)=l at*;refine sK (J:=Oy K c) (n:=(br r.wide r.high).length) (λi σ H'=>∃(u v:Option V)(acc:List Int),σ=[some (.ref A'.x),some (.ref x),some (.ref D),u,v]/\aD H H'/\H' c=some (.lst ((br r.wide r.high).map V.int))/\H' D=some (.lst (acc.map V.int))/\rZ acc/\xn r l (List.replicate 169 0)=xn r (l.drop i) acc) ⟨_,_,List.replicate 169 0,rfl,S2,h2,by rw[List.map_replicate];exact s2 _ _ h1,⟨Qx,λc=>by simp only[List.getD,Q2];split<;>exact⟨by decide,by decide⟩⟩,rfl⟩ (λi σ H3 hi⟨u,v,acc,es,s3,c3,d3,w3,hs⟩=>?_) (λσ H3⟨u,v,acc,es,s3,c3,d3,w3,hs⟩=>?_) (λi σ H3 hi⟨u,v,acc,es,s3,c3,d3,w3,hs⟩ y H4 hy=>?_) λσ H3⟨u,v,acc,es,s3,c3,d3,w3,hs⟩=>?_
  ·exact⟨_,V.int ((br r.wide r.high)[i]'hi),a0.of c3,by simp⟩
  ·exact⟨_,a0.of c3,by rw[Px];exact PF _⟩
  ·subst es
   obtain⟨t',vx,rfl,nt,rfl,hvx⟩:=hy;obtain⟨cv,hc,rfl⟩:=int_at (hvx _ (a0.of c3));obtain⟨n,rfl,n1⟩:=yD bw bh (Ql hc);have S4:=aA (o:= .tup [V.int (i:Nat),.int (n:Nat)]) nt;have s4:=s3.trans S4;have ip:i<ps.length:=by rw[lp,<-ls];exact hi
   have iq:i<qs.length:=by rw[lq,<-ls];exact hi
   have ap:=cO ip;have aq:=cO iq;obtain⟨v0,v3⟩:=hv (ps.getD i 0) (by rw[show ps.getD i 0=ps[i] by simp[List.getD,PD ip]];exact RT ip);have hz:l[i]? =some (((n:Nat):Int),ps.getD i 0,qs.getD i 0):=by
    rw[<-hl,RL];refine⟨hc,?_⟩;show(ps.zip qs)[i]? =some (ps.getD i 0,qs.getD i 0);rw[RL];simp[List.getD,PD ip,PD iq]
   obtain⟨hi',ei⟩:=PQ.mp hz;rw[QY hi',ei]at hs;replace hs:xn r l (List.replicate 169 0)=if iE (r.ground.getD n 0) (ps.getD i 0)=true then xn r (l.drop (i+1)) (acc.set n (ps.getD i 0))else .error (qs.getD i 0):=hs;have Dt:D≠t':=ak d3 nt;have L4:=Ld.fx (l:=[]) s4.fx (by simp) (by simp) (by simp);have R4:=R.same s4;have d4:=S4 _ _ d3;have c4:=S4 _ _ c3;refine⟨t',_,rfl,iP.of ah,rfl,_,_,rfl,_,_,rfl,rfl,?_⟩;generalize upd H3 t' (.tup [V.int (i:Nat),.int (n:Nat)])=H4 at*;refine⟨_,rfl,x,_,_,_,_,rfl,L4.ins,T.bA.cl,T.dw,rfl,_,rfl,p,_,_,_,rfl,rfl,a0.of L4.Fy,at_of (j:=i) rfl ap,_,rfl,_,rfl,D,_,_,n,rfl,rfl,d4,zt (by rw[Px,w3.len];exact n1),?_⟩;rw[Ir];have w5:=w3.set n v0 v3;have s5:aD H (upd H4 D (.lst ((acc.set n (ps.getD i 0)).map V.int))):=cY hD s4;have d5:(upd H4 D (.lst ((acc.set n (ps.getD i 0)).map V.int))) D=some (.lst ((acc.set n (ps.getD i 0)).map V.int)):=ah;have c5:(upd H4 D (.lst ((acc.set n (ps.getD i 0)).map V.int))) c=some (.lst ((br r.wide r.high).map V.int)):=by rw[ai cD];exact c4
   generalize upd H4 D (.lst ((acc.set n (ps.getD i 0)).map V.int))=H5 at*;have R5:=R.same s5;have L5:=Ld.fx (l:=[]) s5.fx (by simp) (by simp) (by simp);have ag:=cO (l:=r.ground) (c:=n) (by rw[R.ok.g];exact n1);have ad:=cO (l:=acc.set n (ps.getD i 0)) (c:=n) (by rw[w5.len];exact n1);have eg:(acc.set n (ps.getD i 0)).getD n 0=ps.getD i 0:=by rw[ln,Pz ⟨rfl,by rw[w3.len];exact n1⟩]
   rw[eg]at ad;refine⟨_,rfl,A'.x,_,_,_,_,rfl,R5.ins,T.aU.cl,T.du,rfl,_,rfl,A'.gr,_,_,_,rfl,rfl,a0.of R5.gr,at_of (j:=n) rfl ag,_,rfl,_,rfl,D,_,_,_,rfl,rfl,a0.of d5,at_of (j:=n) rfl ad,_,_,rfl,_,rfl,fO (λg1=>?_) λg1=>?_⟩
   ·rw[Py (λz=>by rw[z]at g1;cases g1)]at hs
    rw[hs]at k;exact⟨_,rfl,x,_,_,_,_,rfl,L5.ins,T.bA.cl,T.eX,rfl,_,rfl,q,_,_,_,rfl,rfl,a0.of L5.FJ,at_of (j:=i) rfl aq,rfl,(by show 2<=1000;decide),λe d n1 n2 n3=>Iu k s5 e d n1 n2 n3⟩
   ·rw[Pz (by simpa using g1)]at hs
    exact⟨_,_,_,rfl,s5,c5,d5,w5,hs⟩
  ·subst es
   have ll:l.length=(br r.wide r.high).length:=by
    rw[<-hl,RF,RF,lp,lq,ls];simp
   rw[Q5 (by omega)]at hs;replace hs:xn r l (List.replicate 169 0)=.ok acc:=hs;rw[hs]at k;have L3:=Ld.fx (l:=[]) s3.fx (by simp) (by simp) (by simp);refine⟨_,rfl,_,rfl,x,_,_,_,_,rfl,L3.ins,T.bA.cl,T.jy,rfl,λy dy ny ndy nne=>⟨y,dy,D,t,rfl,ah,rfl,?_⟩⟩;rw[eR];have S6:aD H3 (upd (upd H3 dy (.own y)) y (.ins a.bK dy (Al D t))):=(aA ndy).trans (aA (by rw[ai (PZ nne)];exact ny));exact k _ y dy D (s3.trans S6) ⟨ah,S6 _ _ d3,w3,ht⟩
def uH(r:R0)(ns:List Int):Except (Int×Int) (List Int×Int):=match jp r.wide r.high ns with
 |.error m=>.error (1,(m:Nat))
 |.ok (ps,qs,t)=>match xn r ((br r.wide r.high).zip (ps.zip qs)) (List.replicate 169 0)with
  |.error q=>.error (2,q)
  |.ok l=>.ok (l,t)
def On(a:Ad)(H:Hp)(r:R0)(ns:List Int):XK:=λc eo H'=>c=.ref a.fe/\∃e d m,eo=some e/\aD H H'/\H' e=some (XO e a.fe (some d) true)/\H' d=some (XD d [("place",.int ((m:Nat):Int))])/\jp r.wide r.high ns=.error m
inductive Md(a:Ad)(vs:List V)(H:Hp)(Q:VK)(E:XK):Prop
 |mk (A:RA) (r:R0) (g:Addr) (ns:List Int) (_:vs=[.ref A.x,.ref g]) (_:ou a H A r) (_:H g=some (.lst (ns.map V.int))) (_:(match uH r ns with
 |.ok (l,t)=>∀H' y dy pp,aD H H'->vY a H' y dy pp l t->Q (.ref y) H'
 |.error p=>JP a H p.1 p.2 E)):Md a vs H Q E
theorem nN:az ["rules","line","draft","stuck"] ["rules","line"] (aj (top 60)):=aR
theorem Ar(T:Tx K mg a):a4 P w K mg base (cW P w) 7 a.jM a.uK ["rules","line"] (Md a):=by
 refine T.jM.F.oO nN λcdv A outer s H vs Q E hr h=>?_;obtain⟨A',r,g,ns,rfl,R,hg,k⟩:=h;unfold uH at k;intro X;refine⟨_,(sw (De (E':=(On a H r ns)) (j7 hr.hd) (λpn xe LL=>(cT (e_ 2 nN.nd (dm T.dn (qL T) hr LL.passes (aa (sC K rfl (pv 0) rfl) (aa (sC K rfl (pv 0) rfl) (aa (F8 T.BR (pK T) hr T.aC T.eu aK (aa (pv 1) ae)) ae))))))) (BP (i:=3) (j7 hr.hd) ay rfl T.g7.m T.g7.ID nN.nd rfl rfl (λe0 pn xe L2L=>(cT (yo L2L rfl T.uQ (lZ T) T.cJ.b (hr.d1) rfl T.de.m (aa aw (aa (lA K rfl (pv 3) rfl) ae))))) CJ)) (cT (aE (dm T.pb (FA T) hr ay.passes (aa (pv 0) (aa (pv 2) ae)))))),?_,λC e H' hx=>?_⟩
 ·refine⟨_,rfl,A'.x,_,_,_,_,rfl,R.ins,T.aU.cl,T.gD,rfl,_,rfl,A'.x,_,_,_,_,rfl,R.ins,T.aU.cl,T.iT,rfl,_,rfl,λx rx nr nrx nne=>⟨x,rx,g,rfl,ah,rfl,?_⟩⟩
  rw[eR];have S1:aD H (upd (upd H rx (.own x)) x (.ins a.aY rx (vt g 0))):=(aA nrx).trans (aA (by rw[ai (PZ nne)];exact nr));have r1:(upd (upd H rx (.own x)) x (.ins a.aY rx (vt g 0))) x=some (.ins a.aY rx (vt g 0)):=ah;generalize upd (upd H rx (.own x)) x (.ins a.aY rx (vt g 0))=H1 at*;have es:∀{H3:Hp},Ex x H1 H3->aD H H3:=λ{H3} f b o q=>f b o (S1 b o q) (ak q nr);refine⟨x,rx,g,ns,r.wide,r.high,rfl,⟨r1,S1 _ _ hg⟩,R.ok.w,R.ok.h,?_⟩;cases hd:jp r.wide r.high ns with
  |error m=>exactλH3 e d f h1 h2=>⟨rfl,e,d,m,rfl,es f,h1,h2,hd⟩
  |ok v=>
   obtain⟨ps,qs,t⟩:=v;rw[hd]at k;dsimp only at k;obtain⟨v1,v2,v3,v4⟩:=zM hd;intro H3 y dy p q z e3 L3;have s3:=es e3;refine⟨_,rfl,_,rfl,A',r,y,dy,p,q,ps,qs,z,t,rfl,R.same s3,L3,v1,v2,v3,v4,?_⟩;cases hs:xn r ((br r.wide r.high).zip (ps.zip qs)) (List.replicate 169 0)with
   |error m=>
    rw[hs]at k;exact JP.mono k s3
   |ok l=>
    rw[hs]at k;exactλH4 y dy pp s4=>k H4 y dy pp (s3.trans s4)
 ·obtain⟨hC,e',d,m,he',s1,h1,h2,hd⟩:=hx
  cases hC;cases he';rw[hd]at k;refine⟨T.g7.cl,λ_=>?_,λz=>absurd rfl z⟩;exact⟨_,rfl,e,_,d,_,_,_,rfl,h1,h2,T.g7.cl,T.mK,rfl,⟨_,_,h1⟩,rfl,(by show 2<=1000;decide),λe3 d3 n1 n2 n3=>Iu k s1 e3 d3 n1 n2 n3⟩
theorem zS(z:Str):(codes z).length=z.length:=by
 unfold codes;rw[Px];show _=z.cps.size;simp
theorem wH{ps:List Int}(h:ps.length<=13):(fH ps).length<=41:=by
 obtain⟨b1,b2⟩:=sk ps ("",0) (by show 0+_<=_;omega);have b0:("":Str).length=0:=by decide+kernel
 unfold fH;generalize ps.foldl cF ("",0)=pr at*;obtain⟨tx,fr⟩:=pr;have b1:tx.length<=("":Str).length+3*ps.length:=b1;have b2:fr<=0+ps.length:=b2;have fl:=qo (n:=fr) (by omega);show(tx++lD fr).length<=41;rw[QB];omega
theorem CP(l:List Nat)(b:Nat)(h:∀x∈l,x<=b):l.sum<=l.length*b:=by
 induction l with
 |nil=>simp
 |cons x l ih=>
  rw[RZ,Qj,Nat.succ_mul];have:=h x PU;have:=ih λy hy=>h y (PY _ hy);omega
def uO(r:R0)(ps:List Int):List Int:=(br r.wide r.high).map λ(c:Int)=>ps.getD c.toNat 0
def rowAt(r:R0)(ps:List Int)(i:Nat):List Int:=((uO r ps).drop (r.wide*i)).take r.wide
def fL(r:R0)(ps:List Int)(t:Int):Str:=Txt.join "/" ((List.range r.high).map λ(i:Nat)=>fH (rowAt r ps i))++" "++⟨#[("hk":Str).cps.toList.getD t.toNat 0]⟩
theorem Jr{l:List Int}{w i:Nat}(h:w*(i+1)<=l.length):Ay (l.map V.int) (some (((w*i:Nat)):Int)) (some (((w*(i+1):Nat)):Int))=((l.drop (w*i)).take w).map V.int:=by
 unfold Ay;have e:w*(i+1)=w*i+w:=Rs w i;rw[HT.qi,HT.qi,Px,Nat.min_eq_left h,Nat.min_eq_left (by omega),e,Nat.add_sub_cancel_left,<-List.map_drop,<-List.map_take]
theorem GX(r:R0)(ps:List Int):(uO r ps).length=r.wide*r.high:=by
 unfold uO;rw[Px,ls]
theorem tZ(r:R0)(ps:List Int)(i:Nat):(rowAt r ps i).length<=r.wide:=by
 unfold rowAt;rw[Qt];omega
theorem E_{r:R0}{ps:List Int}(W:rZ ps){i:Nat}{v:Int}(h:v∈rowAt r ps i):0<=v/\v<=3:=by
 have h:=Sd (List.mem_of_mem_take h);unfold uO at h;obtain⟨c,_,rfl⟩:=P_.mp h;exact W.val _
inductive LZ(a:Ad)(vs:List V)(H:Hp)(Q:VK)(E:XK):Prop
 |mk (A:RA) (r:R0) (x dx p:Addr) (ps:List Int) (t:Int) (_:vs=[.ref A.x,.ref x]) (_:ou a H A r) (_:vY a H x dx p ps t) (_:∀H' q,aD H H'->H q=none->H' q=some (.lst ((codes (fL r ps t)).map V.int))->Q (.ref q) H'):LZ a vs H Q E
theorem fv:az ["rules","position","told","cell","rows","row"] ["rules","position"] (aj (top 63)):=aR
theorem qO(T:Tx K mg a):a4 P w K mg base (cW P w) 3 a.gG a.sA ["rules","position"] (LZ a):=by
 refine T.gG.F.kP fv λcdv A outer s H vs Q E hr h=>?_;obtain⟨A',r,x,dx,p,ps,t,rfl,R,Pp,k⟩:=h
 exists aB (e_ 2 fv.nd (lE (own:=[("cell",3)]) rfl fv.nd (cN (dm T.b_ (fM T) hr aK (aa (au (pv 0) rfl) (aa (au (pv 0) rfl) ae)))) (cp rfl) (λ_ _ _ _ _=>(kT 3 fv.nd)) (λ_ _ _ _ _=>dZ) (λ_ _ _ _ _=>(bj (sh K rfl) (sC K rfl (pv 1) rfl) (pv 3) (λ_ _=>rfl))))) (aB (tO (i:=4) (own:=[("row",5)]) rfl fv.nd rfl rfl rfl (dP rfl T.g8 (aa (au (pv 0) rfl) ae)) (cp rfl) (λ_ _ _ _ _=>(kT 5 fv.nd)) (λ_ _ _ _ _=>dZ) (λ_ _ _ _ _=>(dm T.lr (BK T) hr aK (aa (oS (Hi K rfl) (pv 2) (l_ (bv oW (sC K rfl (pv 0) rfl) (pv 5))) (l_ (bv oW (sC K rfl (pv 0) rfl) (bv gN (pv 5) aw)))) ae)))) (aF (aE (dm T.jx (uJ T) hr aK (aa (bv dB (bv dB (jg PySem.F.plainAttrs_str PySem.F.slot_str_join PySem.F.type_str_join DH a9 (aa (pv 4) ae)) a9) (bj Ax (CF T.sR) (au (pv 1) rfl) (λ_ _=>rfl))) ae)))))
 have bw:=R.ok.w;have bh:=R.ok.h;refine⟨_,rfl,A'.x,_,_,_,_,rfl,R.ins,T.aU.cl,T.gD,rfl,_,rfl,A'.x,_,_,_,_,rfl,R.ins,T.aU.cl,T.iT,rfl,r.wide,r.high,rfl,bw,bh,λH1 c s1 nc h1=>⟨c,rfl,⟨_,a0.of h1⟩,λD hD=>iU (J:=C9 K c) (n:=(br r.wide r.high).length) (λi=>((((br r.wide r.high).take i).map λ(c:Int)=>V.int (ps.getD c.toNat 0)))) hD (by simp) (λi H hi s=>⟨_,V.int ((br r.wide r.high)[i]'hi),a0.of (s _ _ h1),by simp⟩) (λH s=>⟨_,a0.of (s _ _ h1),by rw[Px];exact PF _⟩) (λi H' hi s2 e2 y H2 hy=>?_) λH2 s2 e2=>?_⟩⟩
 ·obtain⟨rfl,hy⟩:=hy
  obtain⟨cv,hc,rfl⟩:=int_at (hy _ (a0.of (s2 _ _ h1)));obtain⟨n,rfl,n1⟩:=yD bw bh (Ql hc);have P2:=Pp.same (s1.trans s2);have ap:=cO (l:=ps) (c:=n) (by rw[Pp.ok.len];exact n1);refine⟨rfl,_,rfl,x,_,_,_,_,rfl,P2.ins,T.bQ.cl,T.bS,rfl,_,rfl,p,_,_,_,rfl,rfl,a0.of P2.pc,at_of (j:=n) rfl ap,?_⟩;refine Got.of hD s2 e2 (aD.refl _) ?_ (oR (λ(c:Int)=>V.int (ps.getD c.toNat 0)) hc);rw[Px,Qt];have:=ls r.wide r.high;have:r.wide*r.high<=13*13:=Sa bw bh;omega
 ·have e2:H2 D=some (.lst ((uO r ps).map V.int)):=by
   rw[e2,Qp (PF _)];unfold uO;rw[QJ];rfl
  have S2:=s1.trans s2;have R2:=R.same S2;refine⟨_,rfl,A'.x,_,_,_,_,rfl,R2.ins,T.aU.cl,T.iT,rfl,_,rfl,(by omega),(by omega),λD2 hD2=>iU (J:=Fm 0 r.high) (n:=r.high) (λj=>((List.range j).map λ(i:Nat)=>V.str (fH (rowAt r ps i)))) hD2 rfl (λj H h _=>h) (λH _=>PF _) (λj H' hj s3 e3 y H3 hy=>?_) λH3 s3 e3=>?_⟩
  ·obtain⟨rfl,rfl⟩:=hy
   have R3:=R2.same s3;have D3:=s3 _ _ e2;have em1:((r.wide:Nat):Int)*(0+((j:Nat):Int))=((r.wide*j:Nat):Int):=by rw[Int.zero_add];rfl
   have em2:((r.wide:Nat):Int)*(0+((j:Nat):Int)+1)=((r.wide*(j+1):Nat):Int):=by rw[Int.zero_add];rfl
   refine⟨rfl,_,rfl,_,rfl,A'.x,_,_,_,_,rfl,R3.ins,T.aU.cl,T.gD,rfl,_,rfl,_,_,rfl,rfl,.inl ⟨by omega,by omega⟩,_,rfl,_,rfl,A'.x,_,_,_,_,rfl,R3.ins,T.aU.cl,T.gD,rfl,_,rfl,_,_,rfl,rfl,_,_,rfl,rfl,.inl ⟨by omega,by omega⟩,_,rfl,D,_,rfl,a0.of D3,λp5 np5=>?_⟩;rw[em1,em2,Jr (by rw[GX];exact Nat.mul_le_mul_left _ hj)];have S5:=aA (o:= .lst ((((uO r ps).drop (r.wide*j)).take r.wide).map V.int)) np5;refine⟨p5,rowAt r ps j,rfl,a0.of ah,Qq (tZ r ps j) bw,λv hv=>E_ Pp.ok hv,?_⟩;exact Got.of hD2 s3 e3 S5 (by rw[Px,QL];omega) (pE (λ(i:Nat)=>V.str (fH (rowAt r ps i))) j)
  ·have S3:=S2.trans s3
   have P3:=Pp.same S3;have e3:H3 D2=some (.lst (((List.range r.high).map λ(i:Nat)=>fH (rowAt r ps i)).map V.str)):=by
    rw[e3,QJ];rfl
   have hsum:(((List.range r.high).map λ(i:Nat)=>fH (rowAt r ps i)).map (·.length)).sum<=13*41:=by
    refine Qq (CP _ 41 λy hy=>?_) ?_
    ·obtain⟨z,hz,rfl⟩:=P_.mp hy
     obtain⟨i,_,rfl⟩:=P_.mp hz;exact wH (Qq (tZ r ps i) bw)
    ·rw[Px,Px,QL]
     exact Q_ _ bh
   have hl1:("/":Str).length=1:=by decide+kernel
   have hl2:(" ":Str).length=1:=by decide+kernel
   have hlen:((List.range r.high).map λ(i:Nat)=>fH (rowAt r ps i)).length<=13:=by rw[Px,QL];exact bh
   have hj:(Txt.join "/" ((List.range r.high).map λ(i:Nat)=>fH (rowAt r ps i))).length<=13*41+13:=by
    rw[TL.join_eq];refine Qq (StrLaws.join_length_le _ _) ?_;rw[hl1];omega
   have at1:B7 ("hk":Str).cps.toList t=some (("hk":Str).cps.toList.getD t.toNat 0):=by
    rcases Pp.tn with rfl|rfl<;>decide+kernel
   refine⟨rfl,_,rfl,"/",D2,_,rfl,rfl,.inl (a0.of e3),?_,_,_,rfl,rfl,?_,_,rfl,x,_,_,_,_,rfl,P3.ins,T.bQ.cl,T.fj,rfl,_,_,_,rfl,rfl,(by decide+kernel),at1,_,_,rfl,rfl,?_,_,rfl,?_,λH4 q s4 nq h4=>?_⟩
   ·rw[hl1]
    omega
   ·rw[PL,hl2]
    omega
   ·rw[PL,QB,hl2]
    show _+1<=_;omega
   ·show(Txt.join "/" ((List.range r.high).map λ(i:Nat)=>fH (rowAt r ps i))++" "++(⟨#[("hk":Str).cps.toList.getD t.toNat 0]⟩:Str)).length<=100000
    rw[QB,QB,hl2];show _+1<=_;omega
   ·exact k H4 q (S3.trans s4) (S3.free nq) h4
theorem BD(r:R0)(ps:List Int):0<=fW r ps/\fW r ps<=3:=by
 unfold fW;split
 ·exact⟨by decide,by decide⟩
 ·split<;>exact⟨by decide,by decide⟩
theorem AU(r:R0)(ps:List Int)(t:Int):0<=overOf r ps t/\overOf r ps t<=3:=by
 unfold overOf;split
 ·exact⟨by decide,by decide⟩
 ·exact BD r ps
def oa(l:List Int):Str:=Txt.join "," (l.map λ(c:Int)=>jf c.toNat)
def jW(s t:Nat):Str:=jf s++"-"++jf t
def js(s t:Nat)(l:List Int):Str:=if 0<l.length then jW s t++("x"++oa l)else jW s t
def pO(s t:Nat)(l:List Int)(o:Int):Str:=if 0<o then js s t l++("#"++((toString o:String):Str))else js s t l
def sD(r:R0)(ps:List Int)(tn:Int)(s t:Nat):Str:=pO s t (bR r (ba ps s t) t) (overOf r (bz r ps s t) (1-tn))
theorem ES{s t:Nat}(hs:s<169)(ht:t<169):(jW s t).length<=7:=by
 unfold jW;rw[QB,QB];have:=kL hs;have:=kL ht;have:("-":Str).length=1:=by decide+kernel
 omega
theorem yh{l:List Int}(h4:l.length<=4)(hl:∀v∈l,v.toNat<169):((l.map λ(c:Int)=>jf c.toNat).map (·.length)).sum<=12/\(oa l).length<=16:=by
 have e1:((l.map λ(c:Int)=>jf c.toNat).map (·.length)).sum<=12:=by
  refine Qq (CP _ 3 λy hy=>?_) ?_
  ·obtain⟨z,hz,rfl⟩:=P_.mp hy
   obtain⟨c,hc,rfl⟩:=P_.mp hz;exact kL (hl c hc)
  ·rw[Px,Px]
   omega
 refine⟨e1,?_⟩;unfold oa;rw[TL.join_eq];refine Qq (StrLaws.join_length_le _ _) ?_;have:(",":Str).length=1:=by decide+kernel
 rw[this,Px];omega
theorem E3{s t:Nat}{l:List Int}(hs:s<169)(ht:t<169)(h4:l.length<=4)(hl:∀v∈l,v.toNat<169):(js s t l).length<=24:=by
 unfold js;have:=ES hs ht;split
 ·rw[QB,QB]
  have:=(yh h4 hl).2;have:("x":Str).length=1:=by decide+kernel
  omega
 ·omega
theorem uc{o:Int}(h0:0<=o)(h3:o<=3):((toString o:String):Str).length<=1:=by
 have:o=0\/o=1\/o=2\/o=3:=by omega
 rcases this with rfl|rfl|rfl|rfl<;>decide+kernel
theorem Ee{s t:Nat}{l:List Int}{o:Int}(hs:s<169)(ht:t<169)(h4:l.length<=4)(hl:∀v∈l,v.toNat<169)(h0:0<=o)(h3:o<=3):(pO s t l o).length<=26:=by
 unfold pO;have:=E3 hs ht h4 hl;split
 ·rw[QB,QB]
  have:=uc h0 h3;have:("#":Str).length=1:=by decide+kernel
  omega
 ·omega
inductive Mc(a:Ad)(vs:List V)(H:Hp)(Q:VK)(E:XK):Prop
 |mk (H0:Hp) (r:R0) (ps:List Int) (tn:Int) (s t:Nat) (x:Addr) (_:vs=[.ref x]) (_:A5 a H0 H r ps tn s t x) (_:zT r) (_:s<169) (_:t<169) (_:∀H' q,aD H H'->H q=none->H' q=some (.lst ((codes (sD r ps tn s t)).map V.int))->Q (.ref q) H'):Mc a vs H Q E
theorem fF:az ["move","text","cell"] ["move"] (aj (top 68)):=aR
theorem rA(T:Tx K mg a):a4 P w K mg base (cW P w) 2 a.gz a.sT ["move"] (Mc a):=by
 refine T.gz.F.kP fF λcdv A outer s H vs Q E hr h=>?_;obtain⟨H0,r,ps,tn,s',t,x,rfl,⟨dx,tk,af,ad,ap,_,_,h1,h2,h3⟩,Wr,hs,ht,k⟩:=h
 exists aB (e_ 1 fF.nd (bv dB (bv dB (dm T.fQ (oq T) hr aK (aa (au (pv 0) rfl) ae)) a9) (dm T.fQ (oq T) hr aK (aa (au (pv 0) rfl) ae)))) (aB (bE (aI oC (bt bN rfl T.mj (by decide+kernel) (aa (au (pv 0) rfl) ae)) aw (aJ _)) (aF (Gx 1 fF.nd (bv dB a9 (jg PySem.F.plainAttrs_str PySem.F.slot_str_join PySem.F.type_str_join DH a9 (aa (lE (own:=[("cell",2)]) rfl fF.nd (cN (au (pv 0) rfl)) (cp rfl) (λ_ _ _ _ _=>(kT 2 fF.nd)) (λ_ _ _ _ _=>dZ) (λ_ _ _ _ _=>(dm T.fQ (oq T) hr aK (aa (pv 2) ae)))) ae))) AJ)) aX) (aB (bE (aI oC (au (pv 0) rfl) aw (aJ _)) (aF (Gx 1 fF.nd (bv dB a9 (ng om rfl T.Gy (by decide+kernel) (aa (au (pv 0) rfl) ae))) AJ)) aX) (aF (aE (dm T.jx (uJ T) hr aK (aa (pv 1) ae))))))
 have l1:("-":Str).length=1:=by decide+kernel
 have lx:("x":Str).length=1:=by decide+kernel
 have lc:(",":Str).length=1:=by decide+kernel
 have lh:("#":Str).length=1:=by decide+kernel
 have n1:=kL hs;have n2:=kL ht;have tv:∀v∈bR r (ba ps s' t) t,v.toNat<169:=λv hv=>by
  obtain⟨c,rfl,c1⟩:=jO Wr ht hv;exact c1
 have t4:=ir r (ba ps s' t) t;obtain⟨o0,o3⟩:=AU r (bz r ps s' t) (1-tn);unfold sD at k;have mt:∀v∈bR r (ba ps s' t) t,∃c:Nat,v=(c:Nat)/\c<169:=λv hv=>jO Wr ht hv;generalize bR r (ba ps s' t) t=tl at*;generalize overOf r (bz r ps s' t) (1-tn)=ov at*;have b1:=ES hs ht;have b2:=E3 hs ht t4 tv;have b3:=Ee hs ht t4 tv o0 o3;obtain⟨tt1,tt2⟩:=yh t4 tv;refine⟨_,rfl,x,_,_,_,_,rfl,h1,T.bV.cl,T.iH,rfl,s',rfl,hs,_,_,rfl,rfl,(by rw[PL];omega),_,rfl,x,_,_,_,_,rfl,h1,T.bV.cl,T.gY,rfl,t,rfl,ht,_,_,rfl,rfl,(by rw[PL,QB];omega),?_⟩;refine⟨_,rfl,x,_,_,_,_,rfl,h1,T.bV.cl,T.gC,rfl,tk,_,rfl,.inl (a0.of h2),_,_,rfl,rfl,_,rfl,gB (λg1=>?_) λg1=>?_⟩
 ·have g1:(((tl.map V.int).length:Nat):Int)>0:=PR g1
  rw[Px]at g1;have e2:js s' t tl=jW s' t++("x"++oa tl):=Pz (by omega);refine⟨_,rfl,rfl,_,rfl,x,_,_,_,_,rfl,h1,T.bV.cl,T.gC,rfl,tk,rfl,⟨_,a0.of h2⟩,λD hD=>iU (J:=C9 K tk) (n:=tl.length) (λi=>(((tl.take i).map λ(c:Int)=>V.str (jf c.toNat)))) hD (by simp) (λi H hi s=>⟨_,V.int (tl[i]'hi),a0.of (s _ _ h2),by simp⟩) (λH s=>⟨_,a0.of (s _ _ h2),by rw[Px];exact PF _⟩) (λi H' hi s2 e2 y H2 hy=>?_) λH2 s2 e3=>?_⟩
  ·obtain⟨rfl,hy⟩:=hy
   obtain⟨cv,hc,rfl⟩:=int_at (hy _ (a0.of (s2 _ _ h2)));obtain⟨c,rfl,c1⟩:=mt _ (Ql hc);have tm:=oR (λ(c:Int)=>V.str (jf c.toNat)) hc;rw[show(((c:Nat):Int)).toNat=c from Qm c]at tm;refine⟨rfl,_,rfl,c,rfl,c1,?_⟩;exact Got.of hD s2 e2 (aD.refl _) (by rw[Px,Qt];omega) tm
  ·rw[Qp (PF _)]at e3
   have e3:H2 D=some (.lst ((tl.map λ(c:Int)=>jf c.toNat).map V.str)):=by
    rw[e3,QJ];rfl
   refine⟨",",D,_,rfl,rfl,.inl (a0.of e3),(by rw[lc,Px];omega),_,_,rfl,rfl,(by rw[PL,lx];show 1+(oa tl).length<=_;omega),_,_,rfl,rfl,?_,?_⟩
   ·rw[PL]
    show(jW s' t).length+("x"++oa tl).length<=_;rw[QB,lx];omega
   ·have e2:js s' t tl=jW s' t++("x"++oa tl):=Pz (by omega)
    refine⟨_,rfl,x,_,_,_,_,rfl,s2 _ _ h1,T.bV.cl,T.fX,rfl,_,_,rfl,rfl,_,rfl,gB (λg2=>?_) λg2=>?_⟩
    ·have g2:ov>0:=PR g2
     have e3:pO s' t tl ov=js s' t tl++("#"++((toString ov:String):Str)):=Pz g2;rw[e3]at b3 k;rw[e2]at b3 k b2;have b4:=uc o0 o3;have k':=λH4 q s4 nq h4=>k H4 q (s2.trans s4) (s2.free nq) h4;refine⟨_,rfl,_,rfl,x,_,_,_,_,rfl,s2 _ _ h1,T.bV.cl,T.fX,rfl,_,rfl,qf (by omega),_,_,rfl,rfl,(by rw[PL,lh];omega),_,_,rfl,rfl,?_,_,rfl,_,rfl,?_,k'⟩
     ·rw[PL]
      show(jW s' t++("x"++oa tl)).length+(("#":Str)++((toString ov:String):Str)).length<=_;rw[QB (b:=((toString ov:String):Str)),lh];omega
     ·exact Qq b3 (by decide)
    ·have g2:¬ov>0:=λz=>g2 (PJ z)
     have e3:pO s' t tl ov=js s' t tl:=Py g2;rw[e3]at b3 k;rw[e2]at b3 k;have k':=λH4 q s4 nq h4=>k H4 q (s2.trans s4) (s2.free nq) h4;exact⟨_,rfl,_,rfl,Qq b3 (by decide),k'⟩
 ·have g1:¬(((tl.map V.int).length:Nat):Int)>0:=λz=>g1 (PJ z)
  rw[Px]at g1;have e2:js s' t tl=jW s' t:=Py (by omega);have s2:=aD.refl H;refine⟨_,rfl,x,_,_,_,_,rfl,s2 _ _ h1,T.bV.cl,T.fX,rfl,_,_,rfl,rfl,_,rfl,gB (λg2=>?_) λg2=>?_⟩
  ·have g2:ov>0:=PR g2
   have e3:pO s' t tl ov=js s' t tl++("#"++((toString ov:String):Str)):=Pz g2;rw[e3]at b3 k;rw[e2]at b3 k b2;have b4:=uc o0 o3;have k':=λH4 q s4 nq h4=>k H4 q (s2.trans s4) (s2.free nq) h4;refine⟨_,rfl,_,rfl,x,_,_,_,_,rfl,s2 _ _ h1,T.bV.cl,T.fX,rfl,_,rfl,qf (by omega),_,_,rfl,rfl,(by rw[PL,lh];omega),_,_,rfl,rfl,?_,_,rfl,_,rfl,?_,k'⟩
   ·rw[PL]
    show(jW s' t).length+(("#":Str)++((toString ov:String):Str)).length<=_;rw[QB (b:=((toString ov:String):Str)),lh];omega
   ·exact Qq b3 (by decide)
  ·have g2:¬ov>0:=λz=>g2 (PJ z)
   have e3:pO s' t tl ov=js s' t tl:=Py g2;rw[e3]at b3 k;rw[e2]at b3 k;have k':=λH4 q s4 nq h4=>k H4 q (s2.trans s4) (s2.free nq) h4;exact⟨_,rfl,_,rfl,Qq b3 (by decide),k'⟩
def d_:List Int->List Int->Nat
 |x::l,y::m=>if x=y then d_ l m+1 else 0
 |_,_=>0
theorem Ba(l:List Int):d_ l []=0:=by cases l<;>rfl
inductive Ck(vs:List V)(H:Hp)(Q:VK)(E:XK):Prop
 |mk (p q:Addr) (l m:List Int) (_:vs=[.ref p,.ref q]) (_:H p=some (.lst (l.map V.int))) (_:H q=some (.lst (m.map V.int))) (_:Q (.int (d_ l m:Nat)) H):Ck vs H Q E
theorem jr:az ["line","other","many"] ["line","other"] (aj (top 69)):=aR
theorem uj(T:Tx K mg a):a4 P w K mg base (cW P w) 1 a.ff a.oA ["line","other"] Ck:=by
 refine T.ff.F.kP jr λcdv A outer s H vs Q E hr h=>?_;obtain⟨p,q,l,m,rfl,hp,hq,k⟩:=h
 exists aB (e_ 2 jr.nd aw) (aB (jE QS (PW.pt (gM (aI uL (pv 2) (bt (zk rfl) rfl T.J2 (by decide+kernel) (aa (bt bN rfl T.mj (by decide+kernel) (aa (pv 0) ae)) (aa (bt bN rfl T.mj (by decide+kernel) (aa (pv 1) ae)) ae))) (aJ _)) (fc (aI bO (bj a_ (pv 0) (pv 2) (λ_ _=>rfl)) (bj a_ (pv 1) (pv 2) (λ_ _=>rfl)) (aJ _))))) (aF (Gx 2 jr.nd aw tW))) (aF (aE (pv 2))))
 refine⟨λb σ H'=>∃i:Nat,σ=[some (.ref p),some (.ref q),some (.int (i:Nat))]/\H'=H/\i+b=min l.length m.length/\d_ l m=i+d_ (l.drop i) (m.drop i),⟨min l.length m.length,0,rfl,rfl,by omega,by simp⟩,?_⟩
 rintro b σ H1 ⟨i,rfl,rfl,hi,hc⟩
 refine⟨_,rfl,_,rfl,p,_,rfl,.inl (a0.of hp),_,rfl,q,_,rfl,.inl (a0.of hq),_,_,rfl,_,_,rfl,rfl,_,rfl,gB (λg1=>?_) λg1=>?_⟩
 ·have g1:=PR g1
  rw[Px,Px]at g1;have il:i<l.length/\i<m.length:=by
   by_cases hlm:((m.length:Nat):Int)<((l.length:Nat):Int)
   ·rw[Pz hlm]at g1
    omega
   ·rw[Py hlm]at g1
    omega
  have al:=cO il.1;have am:=cO il.2;have el:l.drop i=l.getD i 0::l.drop (i+1):=by rw[QY il.1];simp[List.getD,PD il.1]
  have em:m.drop i=m.getD i 0::m.drop (i+1):=by rw[QY il.2];simp[List.getD,PD il.2]
  rw[el,em]at hc;replace hc:d_ l m=i+if l.getD i 0=m.getD i 0 then d_ (l.drop (i+1)) (m.drop (i+1))+1 else 0:=hc;refine⟨_,rfl,_,rfl,p,_,_,_,rfl,rfl,a0.of hp,at_of (j:=i) rfl al,_,rfl,_,rfl,q,_,_,_,rfl,rfl,a0.of hq,at_of (j:=i) rfl am,rfl,_,rfl,dG (λg2=>?_) λg2=>?_⟩
  ·rw[Pz g2]at hc
   exact⟨_,λ_ _ h=>h,_,rfl,_,_,rfl,rfl,b-1,by omega,i+1,rfl,rfl,by omega,by omega⟩
  ·rw[Py g2]at hc
   rw[show d_ l m=i by omega]at k;exact⟨_,rfl,k⟩
 ·have g1:¬_:=λz=>g1 (PJ z)
  rw[Px,Px]at g1;have il:l.length<=i\/m.length<=i:=by
   by_cases hlm:((m.length:Nat):Int)<((l.length:Nat):Int)
   ·rw[Pz hlm]at g1
    omega
   ·rw[Py hlm]at g1
    omega
  have e0:d_ (l.drop i) (m.drop i)=0:=by
   rcases il with z|z
   ·rw[Q5 z]
    rfl
   ·rw[Q5 z]
    exact Ba _
  rw[e0]at hc;rw[show d_ l m=i by omega]at k;exact⟨_,rfl,k⟩
theorem AR{H:Hp}:∀(l:List Int),yq K H (l.map V.int) (l.map PyData.int)
 |[]=>.nil
 |x::l=>.cons (.int x) (AR l)
theorem lay_ints:∀(l:List Int),PyData.canLayAll0 (l.map PyData.int)=true
 |[]=>rfl
 |x::l=>by
  show(PyData.canLay0 (.int x)&&PyData.canLayAll0 (l.map PyData.int))=true;rw[lay_ints l];rfl
theorem wu:∀(l:List Int),PyData.depthAll (l.map PyData.int)=0
 |[]=>rfl
 |x::l=>by
  show max (PyData.depth (.int x)) (PyData.depthAll (l.map PyData.int))=0;rw[wu l];rfl
theorem shaped_ints(l:List Int):SeqAt.shaped (.list (l.map PyData.int))=true:=by
 unfold SeqAt.shaped;have e1:PyData.canLay0 (.list (l.map PyData.int))=PyData.canLayAll0 (l.map PyData.int):=rfl;have e2:PyData.depth (.list (l.map PyData.int))=PyData.depthAll (l.map PyData.int)+1:=rfl;rw[e1,e2,lay_ints,wu];rfl
theorem A8:∀(l m:List Int),PyData.eqvAll (l.map PyData.int) (m.map PyData.int)=(l==m)
 |[],[]=>rfl
 |[],_::_=>rfl
 |_::_,[]=>rfl
 |x::l,y::m=>by
  show(PyData.eqv (.int x) (.int y)&&PyData.eqvAll (l.map PyData.int) (m.map PyData.int))=_;rw[A8 l m];rfl
def eZ(r:R0)(ps:List Int)(t:Int)(e:Nat×Nat):List Int:=codes (sD r ps t e.1 e.2)
def KR(a:Ad)(H:Hp)(pl:Nat)(E:XK):Prop:=∀(H':Hp)(e d:Addr)(cx:Bool),aD H H'->H' e=some (XO e a.bJ (some d) cx)->H' d=some (XD d [("place",.int (pl:Nat))])->E (.ref a.bJ) (some e) H'
theorem Li{H H1:Hp}{pl:Nat}{E:XK}{cx:Bool}(h:KR a H pl E)(s:aD H H1)(e d:Addr)(n1:H1 e=none)(n2:H1 d=none)(n3:d≠e):E (.ref a.bJ) (some e) (upd (upd H1 d (XD d [("place",.int (pl:Nat))])) e (XO e a.bJ (some d) cx)):=
 h _ e d cx (s.trans ((aA n2).trans (aA (by rw[ai (PZ n3)];exact n1)))) ah (by rw[ai n3,ah])
def yp(r:R0)(ps:List Int)(t:Int)(ns:List Int)(l:List (Nat×Nat)):Nat:=l.foldl (λ(b:Nat)(e:Nat×Nat)=>max b (d_ (eZ r ps t e) ns)) 0
inductive Nc(a:Ad)(vs:List V)(H:Hp)(Q:VK)(E:XK):Prop
 |mk (A:RA) (r:R0) (x dx p:Addr) (ps:List Int) (t:Int) (g:Addr) (ns:List Int) (_:vs=[.ref A.x,.ref x,.ref g]) (_:ou a H A r) (_:vY a H x dx p ps t) (_:H g=some (.lst (ns.map V.int))) (_:(match(aQ r ps t).find? λ(e:Nat×Nat)=>eZ r ps t e==ns with
 |some e=>∀H' m,aD H H'->A5 a H H' r ps t e.1 e.2 m->Q (.ref m) H'
 |none=>KR a H (yp r ps t ns (aQ r ps t)) E)):Nc a vs H Q E
theorem i9:az ["rules","position","given","furthest","move","line"] ["rules","position","given"] (aj (top 70)):=aR
theorem AK(T:Tx K mg a):a4 P w K mg base (cW P w) 8 a.jN a.uT ["rules","position","given"] (Nc a):=by
 refine T.jN.F.oO i9 λcdv A outer s H vs Q E hr h=>?_;obtain⟨A',r,x,dx,p,ps,t,g,ns,rfl,R,Pp,hg,k⟩:=h
 exists aB (e_ 3 i9.nd aw) (aB (dI QO rfl (cN (dm T.jt (vj T) hr aK (aa (pv 0) (aa (pv 1) ae)))) (kT 4 i9.nd) (aB (e_ 5 i9.nd (dm T.gz (rA T) hr aK (aa (pv 4) ae))) (aB (bE (aI (K8 hr.units) (pv 5) (pv 2) (aJ _)) (aF (aE (pv 4))) aX) (aF (e_ 3 i9.nd (bt (zc rfl) rfl T.Kt (by decide+kernel) (aa (pv 3) (aa (dm T.ff (uj T) hr aK (aa (pv 5) (aa (pv 2) ae))) ae)))))))) (aF (f8 ay hr.hd T.yl (oX T) T.cz.b (hr.d1) rfl T.bW.m (aa (pv 3) ae))))
 refine⟨_,rfl,_,rfl,A',r,x,dx,p,ps,t,rfl,R,Pp,λH1 q Ms s1 nq M1=>⟨q,rfl,⟨_,a0.of M1.l⟩,?_⟩⟩;refine fR (xs:=Ms.map V.ref) (λi σ H'=>∃u v,σ=[some (.ref A'.x),some (.ref x),some (.ref g),some (.int (yp r ps t ns ((aQ r ps t).take i):Nat)),u,v]/\aD H1 H'/\∀j e,j<i->(aQ r ps t)[j]? =some e->(eZ r ps t e==ns)=false) ⟨_,_,rfl,aD.refl _,λj e h=>absurd h (Nat.not_lt_zero _)⟩ (λi σ H2 _⟨u,v,e,s2,h2⟩=>a0.of (s2 _ _ M1.l)) (λi y σ H2 hy hW=>?_) λσ H2 hW=>?_
 ·obtain⟨u,v,rfl,s2,h2⟩:=hW
  obtain⟨b,hb,rfl⟩:=rT hy;have il:i<(aQ r ps t).length:=by rw[<-M1.n];exact(PQ.mp hb).1
  obtain⟨e,he⟩:∃e,(aQ r ps t)[i]? =some e:=⟨_,PD il⟩;have mm:=(M1.m i b e hb he).same s2;obtain⟨b1,b2⟩:=kK R.ok (Ql he);refine⟨_,rfl,H,r,ps,t,e.1,e.2,b,rfl,mm,R.ok,b1,b2,λH3 c s3 nc h3=>?_⟩;have S3:=(s1.trans s2).trans s3;have g3:=S3 _ _ hg;refine⟨_,rfl,_,rfl,.list ((eZ r ps t e).map PyData.int),.list (ns.map PyData.int),.lst (a0.of h3) (AR _),.lst (a0.of g3) (AR _),shaped_ints _,shaped_ints _,_,rfl,?_⟩;have eb:PyData.eqv (.list ((eZ r ps t e).map PyData.int)) (.list (ns.map PyData.int))=(eZ r ps t e==ns):=A8 _ _;rw[eb];refine fO (λg1=>?_) λg1=>?_
  ·have ef:(aQ r ps t).find? (λ(e:Nat×Nat)=>eZ r ps t e==ns)=some e:=by
    rw[List.find?_eq_some_iff_getElem];refine⟨g1,i,il,?_,λj hj=>?_⟩
    ·rw[PD il]at he
     exact Qk he
    ·have hjl:j<(aQ r ps t).length:=by omega
     rw[h2 j _ hj (PD hjl)];rfl
   rw[ef]at k;exact⟨_,rfl,k H3 b S3 (mm.same s3)⟩
  ·refine⟨_,rfl,_,rfl,_,rfl,c,g,eZ r ps t e,ns,rfl,h3,g3,_,_,rfl,some (.ref b),some (.ref c),?_,s2.trans s3,λj e' hj he'=>?_⟩
   ·have ef:yp r ps t ns ((aQ r ps t).take (i+1))=max (yp r ps t ns ((aQ r ps t).take i)) (d_ (eZ r ps t e) ns):=by
     unfold yp;rw[QZ,he,List.foldl_append];rfl
    rw[ef];have em:(if((d_ (eZ r ps t e) ns:Nat):Int)>((yp r ps t ns ((aQ r ps t).take i):Nat):Int)then((d_ (eZ r ps t e) ns:Nat):Int)else((yp r ps t ns ((aQ r ps t).take i):Nat):Int))=((max (yp r ps t ns ((aQ r ps t).take i)) (d_ (eZ r ps t e) ns):Nat):Int):=by
     split<;>omega
    rw[em];rfl
   ·rcases RS.mp hj with z|z
    ·exact h2 j e' z he'
    ·subst z
     rw[he]at he';cases he';exact g1
 ·obtain⟨u,v,rfl,s2,h2⟩:=hW
  rw[Px,M1.n,Qp (PF _)];rw[Px,M1.n]at h2;have ef:(aQ r ps t).find? (λ(e:Nat×Nat)=>eZ r ps t e==ns)=none:=by
   rw[List.find?_eq_none];intro e he;obtain⟨j,hj,ej⟩:=Ro he;rw[h2 j e hj (by rw[PD hj,ej])];exact PM
  rw[ef]at k;exact⟨_,rfl,rfl,(by show 1<=1000;decide),λe d n1 n2 n3=>Li k (s1.trans s2) e d n1 n2 n3⟩
abbrev RE:=List Int×Int×Nat×Nat
def jh(r:R0)(ps:List Int)(t:Int):List RE:=(aQ r ps t).map λ(e:Nat×Nat)=>(ps,t,e.1,e.2)
def eC(r:R0)(most:Nat):List RE->List RE->List RE
 |[],acc=>acc
 |e::l,acc=>if most<acc.length then acc else eC r most l (acc++jh r (bz r e.1 e.2.2.1 e.2.2.2) (1-e.2.1))
structure rY where
 tu:Addr
 x:Addr
 dx:Addr
 p:Addr
 st:Addr
 ps:List Int
 t:Int
 s:Nat
 d:Nat
def rY.re(e:rY):RE:=(e.ps,e.t,e.s,e.d)
structure B2(a:Ad)(H:Hp)(e:rY):Prop where
 tu:H e.tu=some (.tup [.ref e.x,.ref e.st])
 st:H e.st=some (.tup [.int (e.s:Nat),.int (e.d:Nat)])
 pa:vY a H e.x e.dx e.p e.ps e.t
 s1:e.s<169
 d1:e.d<169
structure AZ(a:Ad)(H:Hp)(q:Addr)(L:List rY):Prop where
 l:H q=some (.lst (L.map λ(e:rY)=>V.ref e.tu))
 e:∀e∈L,B2 a H e
theorem B2.same{a:Ad}{H H':Hp}{e:rY}(h:B2 a H e)(s:aD H H'):B2 a H' e:=⟨s _ _ h.tu,s _ _ h.st,h.pa.same s,h.s1,h.d1⟩
theorem AZ.same{a:Ad}{H H':Hp}{q:Addr}{L:List rY}(h:AZ a H q L)(s:aD H H'):AZ a H' q L:=⟨s _ _ h.l,λe he=>(h.e e he).same s⟩
theorem B2.put{a:Ad}{H:Hp}{e:rY}{q:Addr}{xs ys:List V}(h:B2 a H e)(hq:H q=some (.lst xs))(np:e.p≠q):B2 a (upd H q (.lst ys)) e:=
 ⟨by rw[ai (bf h.tu hq λz=>nomatch z)];exact h.tu,by rw[ai (bf h.st hq λz=>nomatch z)];exact h.st,⟨by rw[ai (bf h.pa.ins hq λz=>nomatch z)];exact h.pa.ins,by rw[ai np];exact h.pa.pc,h.pa.ok,h.pa.tn⟩,h.s1,h.d1⟩
inductive HY(a:Ad)(vs:List V)(H:Hp)(Q:VK)(E:XK):Prop
 |mk (A:RA) (r:R0) (x dx p:Addr) (ps:List Int) (t:Int) (_:vs=[.ref A.x,.ref x]) (_:ou a H A r) (_:vY a H x dx p ps t) (_:∀H' q L,aD H H'->H q=none->AZ a H' q L->L.map rY.re=jh r ps t->(∀e∈L,e.p=p)->Q (.ref q) H'):HY a vs H Q E
theorem mG:az ["rules","position","step"] ["rules","position"] (aj (top 41)):=aR
theorem qN(T:Tx K mg a):a4 P w K mg base (cW P w) 5 a.gu a.sE ["rules","position"] (HY a):=by
 refine T.gu.F.kP mG λcdv A outer s H vs Q E hr h=>?_;obtain⟨A',r,x,dx,p,ps,t,rfl,R,Pp,k⟩:=h
 exists aF (aE (lE (own:=[("step",2)]) rfl mG.nd (cN (dm T.hJ (pQ T) hr aK (aa (pv 0) (aa (pv 1) ae)))) (cp rfl) (λ_ _ _ _ _=>(kT 2 mG.nd)) (λ_ _ _ _ _=>dZ) (λ_ _ _ _ _=>(nV (aa (pv 1) (aa (pv 2) ae))))))
 refine⟨_,rfl,_,rfl,A',r,x,dx,p,ps,t,rfl,R,Pp,λH1 l L s1 hl h1 eL=>⟨l,rfl,⟨_,a0.of h1.l⟩,λD hD=>?_⟩⟩;have Ll:L.length=(aQ r ps t).length:=by rw[<-eL,Px]
 have bl:=rF r ps t R.ok;have pD:p≠D:=ak (s1 _ _ Pp.pc) hD;refine xN (J:=C9 K l) (n:=L.length) (λj H'=>∃M:List rY,aD H1 H'/\AZ a H' D M/\M.map rY.re=((aQ r ps t).take j).map (λ(e:Nat×Nat)=>(ps,t,e.1,e.2))/\∀e∈M,e.p=p) ⟨[],aA hD,⟨by rw[ah];rfl,λe he=>by cases he⟩,by simp,λe he=>by cases he⟩ (λj H' hj⟨M,sM,aM,eM,pM⟩=>⟨_,V.ref (L[j]'hj).1,a0.of (sM _ _ h1.l),by rw[Qa,PD hj];rfl⟩) (λH'⟨M,sM,aM,eM,pM⟩=>⟨_,a0.of (sM _ _ h1.l),by rw[Px];exact PF _⟩) (λj H' hj⟨M,sM,aM,eM,pM⟩ y H5 hy=>?_) λH'⟨M,sM,aM,eM,pM⟩=>?_
 ·obtain⟨rfl,hy⟩:=hy
  have hy:=hy _ (a0.of (sM _ _ h1.l));rw[Qa,PD hj]at hy;cases hy;have he:L[j]? =some (L[j]'hj):=PD hj;have hm:=h1.t _ (Ql he);generalize L[j]'hj=e at*;obtain⟨ea,es,et⟩:=e;have hst:(aQ r ps t)[j]? =some (es,et):=by rw[<-eL,Qa,he];rfl
  obtain⟨b1,b2⟩:=kK R.ok (Ql hst);have Ml:M.length<=8788:=by
   have:=QI List.length eM;rw[Px,Px,Qt]at this;omega
  refine⟨rfl,_,rfl,_,rfl,(by rw[PL];show 2<=_;omega),λtt ntt=>?_⟩;have dt:D≠tt:=ak aM.l ntt;have S6:=aA (o:= .tup [.ref x,.ref ea]) ntt;have t6:(upd H5 tt (.tup [.ref x,.ref ea])) tt=some (.tup [.ref x,.ref ea]):=ah;have a6:=aM.same S6;have P6:=Pp.same ((s1.trans sM).trans S6);have m6:=(sM.trans S6) _ _ hm.1;generalize upd H5 tt (.tup [.ref x,.ref ea])=H6 at*;have new:B2 a H6 ⟨tt,x,dx,p,ea,ps,t,es,et⟩:=⟨t6,m6,P6,b1,b2⟩;refine⟨_,a6.l,(by rw[Px,PL];omega),M++[⟨tt,x,dx,p,ea,ps,t,es,et⟩],?_,⟨?_,λe he=>?_⟩,?_,λe he=>?_⟩
  ·exact cY hD (sM.trans S6)
  ·rw[ah,Qg]
   rfl
  ·rcases Qc.mp he with z|z
   ·exact(a6.e e z).put a6.l (by rw[pM e z];exact pD)
   ·rw[Qb]at z
    subst z;exact new.put a6.l pD
  ·rw[Qg,eM,oR _ hst]
   rfl
  ·rcases Qc.mp he with z|z
   ·exact pM e z
   ·rw[Qb]at z
    subst z;rfl
 ·rw[Ll,Qp (PF _)]at eM
  exact k H' D M (s1.trans sM) (s1.free hD) aM eM pM
inductive Bi(a:Ad)(vs:List V)(H:Hp)(Q:VK)(E:XK):Prop
 |mk (A:RA) (r:R0) (rq:Addr) (L:List rY) (most:Nat) (_:vs=[.ref A.x,.ref rq,.int (most:Nat)]) (_:ou a H A r) (_:AZ a H rq L) (_:most<=2000) (_:∀H' q L',aD H H'->H q=none->AZ a H' q L'->L'.map rY.re=eC r most (L.map rY.re) []->L'.length<=10788->(∀e∈L',H e.p=none)->Q (.ref q) H'):Bi a vs H Q E
theorem LV{L:List rY}{i:Nat}{x:V}(h:(L.map λ(e:rY)=>V.ref e.tu)[i]? =some x):∃e,L[i]? =some e/\x=.ref e.tu:=by
 rw[Qa]at h;cases e:L[i]? with
 |none=>rw[e]at h;cases h
 |some w=>rw[e]at h;cases h;exact⟨w,rfl,rfl⟩
theorem jz:az ["rules","rows","most","longer","position","step"] ["rules","rows","most"] (aj (top 42)):=aR
theorem yE(T:Tx K mg a):a4 P w K mg base (cW P w) 7 a.jb a.sX ["rules","rows","most"] (Bi a):=by
 refine T.jb.F.kP jz λcdv A outer s H vs Q E hr h=>?_;obtain⟨A',r,rq,L,most,rfl,R,W,hm,k⟩:=h
 exists aB (e_ 3 jz.nd (cb ae)) (aB (dI QS rfl (cN (pv 1)) (tV rfl (fh (kT 4 jz.nd) (fh (kT 5 jz.nd) qB))) (aB (bE (aI oC (bt bN rfl T.mj (by decide+kernel) (aa (pv 3) ae)) (pv 2) (aJ _)) (aF Bh) aX) (aF (aZ (jg Qy Rh Ri kI (pv 3) (aa (dm T.gu (qN T) hr aK (aa (pv 0) (aa (au (F8 T.C3 (oh T) hr T.bV T.eK aK (aa (pv 0) (aa (pv 4) (aa (pv 5) ae)))) rfl) ae))) ae)))))) (aF (aE (pv 3))))
 refine⟨QG _,λq hq=>?_⟩;have S0:aD H (upd H q (.lst [])):=aA hq;refine⟨_,rfl,rq,rfl,⟨_,a0.of (S0 _ _ W.l)⟩,?_⟩;refine fR (xs:=L.map λ(e:rY)=>V.ref e.tu) (λi σ H'=>∃(M:List rY)(u v:Option V),σ=[some (.ref A'.x),some (.ref rq),some (.int (most:Nat)),some (.ref q),u,v]/\aD H H'/\AZ a H' q M/\(∀e∈M,e.p≠q/\H e.p=none)/\M.length<=10788/\eC r most (L.map rY.re) []=eC r most ((L.map rY.re).drop i) (M.map rY.re)) ⟨[],_,_,rfl,S0,⟨by rw[ah];rfl,λe he=>by cases he⟩,λe he=>(by cases he),by simp,rfl⟩ (λi σ H1 _⟨M,u,v,e,s1,m1,p1,l1,hs⟩=>a0.of (s1 _ _ W.l)) (λi y σ H1 hy hW=>?_) λσ H1 hW=>?_
 ·obtain⟨M,u,v,rfl,s1,m1,p1,l1,hs⟩:=hW
  obtain⟨e,he,rfl⟩:=LV hy;have oe:=(W.e e (Ql he)).same s1;have hr1:(L.map rY.re)[i]? =some e.re:=by rw[Qa,he];rfl
  obtain⟨hi,ei⟩:=PQ.mp hr1;rw[QY hi,ei]at hs;replace hs:eC r most (L.map rY.re) []=if most<(M.map rY.re).length then M.map rY.re else eC r most ((L.map rY.re).drop (i+1)) (M.map rY.re++jh r (bz r e.ps e.s e.d) (1-e.t)):=hs;refine⟨e.tu,_,rfl,iP.of oe.tu,rfl,_,_,rfl,_,_,rfl,rfl,?_⟩;refine⟨_,rfl,q,_,rfl,.inl (a0.of m1.l),_,rfl,_,_,rfl,rfl,_,rfl,gB (λg1=>?_) λg1=>?_⟩
  ·have g1:=PR g1
   rw[Px]at g1;rw[Pz (by rw[Px];omega)]at hs;exact⟨_,rfl,k H1 q M s1 hq m1 hs.symm l1 λe he=>(p1 e he).2⟩
  ·have g1:¬_:=λz=>g1 (PJ z)
   rw[Px]at g1;rw[Py (by rw[Px];omega)]at hs;have R1:=R.same s1;refine⟨_,rfl,.inl ⟨rfl,_,a0.of m1.l⟩,_,rfl,_,rfl,_,rfl,_,rfl,λz dz nz nd nne=>⟨z,dz,A',r,e.x,e.dx,e.p,e.ps,e.t,e.st,e.s,e.d,rfl,ah,R1.same (b9 nz nd nne),oe.pa.same (b9 nz nd nne),iP.of ((b9 nz nd nne) _ _ oe.st),oe.s1,oe.d1,λH2 e2 m2=>⟨rfl,?_⟩⟩⟩;have s2:aD H1 H2:=Ex.made nz nd e2;obtain⟨mx,tk,af,ad,ap,_,nap,i2,tk2,P2⟩:=m2;have apq:ap≠q:=λzz=>by
    have:=(b9 (C:=a.bo) nz nd nne) _ _ m1.l;rw[<-zz,nap]at this;cases this
   refine⟨z,_,_,_,_,rfl,i2,T.bV.cl,T.kv,rfl,A',r,af,ad,ap,_,_,rfl,R1.same s2,P2,λH3 q3 L3 s3 n3 w3 e3 p3=>?_⟩;have s23:=s2.trans s3;have m3:=m1.same s23;have ll3:L3.length<=8788:=by
    have:=QI List.length e3;unfold jh at this;rw[Px,Px]at this;have:=rF r (bz r e.ps e.s e.d) (1-e.t) R.ok;omega
   refine⟨q,q3,_,_,rfl,rfl,m3.l,w3.l,(by rw[Px,Px,PL];omega),M++L3,_,_,rfl,cY hq (s1.trans s23),⟨?_,λe' he'=>?_⟩,λe' he'=>?_,?_,?_⟩
   ·rw[ah,Qg]
   ·rcases Qc.mp he' with zz|zz
    ·exact(m3.e e' zz).put m3.l (p1 e' zz).1
    ·exact(w3.e e' zz).put m3.l (by rw[p3 e' zz];exact apq)
   ·rcases Qc.mp he' with zz|zz
    ·exact p1 e' zz
    ·rw[p3 e' zz]
     exact⟨apq,(s1.trans (b9 (C:=a.bo) nz nd nne)).free nap⟩
   ·rw[P0]
    omega
   ·rw[Qg,e3]
    exact hs
 ·obtain⟨M,u,v,rfl,s1,m1,p1,l1,hs⟩:=hW
  rw[Q5 (by rw[Px,Px];exact PF _)]at hs;exact⟨_,rfl,k H1 q M s1 hq m1 hs.symm l1 λe he=>(p1 e he).2⟩
def jX(r:R0)(most:Nat):Nat->List RE->List Int->List Int
 |0,_,cs=>cs
 |f+1,rows,cs=>if cs.sum<=(most:Int)then jX r most f (eC r (most-cs.sum.toNat) rows []) (cs++[((eC r (most-cs.sum.toNat) rows []).length:Int)])else cs
def countOf(r:R0)(ps:List Int)(t:Int)(n most:Nat):List Int:=jX r most (n-1) (jh r ps t) [((jh r ps t).length:Int)]
def Mf(n most:Nat):Prop:=(1<=n/\n<=6)/\1<=most/\most<=2000
inductive ED(a:Ad)(vs:List V)(H:Hp)(Q:VK)(E:XK):Prop
 |mk (A:RA) (r:R0) (x dx p:Addr) (ps:List Int) (t:Int) (n most:Nat) (_:vs=[.ref A.x,.ref x,.int (n:Nat),.int (most:Nat)]) (_:ou a H A r) (_:vY a H x dx p ps t) (_:(¬Mf n most->dS a.fE H E)) (_:(Mf n most->(((most:Nat):Int)<(countOf r ps t n most).sum->dS a.fC H E)/\
  ((countOf r ps t n most).sum<=((most:Nat):Int)->∀H' q,aD H H'->H q=none->H' q=some (.lst ((countOf r ps t n most).map V.int))->Q (.ref q) H'))):ED a vs H Q E
theorem hR{C:Addr}{H H1:Hp}{E:XK}(h:dS C H E)(s:aD H H1)(e:Addr)(n1:H1 e=none):E (.ref C) (some e) (upd H1 e (XO e C none true)):=h _ e (s.trans (aA n1)) ah
theorem jC:az ["rules","position","longest","most","rows","counts"] ["rules","position","longest","most"] (aj (top 43)):=aR
theorem yI(T:Tx K mg a):a4 P w K mg base (cW P w) 8 a.iZ a.sL ["rules","position","longest","most"] (ED a):=by
 refine T.iZ.F.oO jC λcdv A outer s H vs Q E hr h=>?_;obtain⟨A',r,x,dx,p,ps,t,n,most,rfl,R,Pp,k1,k2⟩:=h
 exists aB (bE (PW.pt (z5 (lK (sj wA wA aw (pv 2) (mL T.zb))) (t_ (lK (sj wA wA aw (pv 3) (mL T.wX)))))) (aF (qh ay hr.hd T.y_ rfl T.cQ.m)) aX) (aB (e_ 4 jC.nd (dm T.gu (qN T) hr aK (aa (pv 0) (aa (pv 1) ae)))) (aB (e_ 5 jC.nd (cb (aa (bt bN rfl T.mj (by decide+kernel) (aa (pv 4) ae)) ae))) (aB (jE QO (PW.pt (gM (aI uL (bt bN rfl T.mj (by decide+kernel) (aa (pv 5) ae)) (pv 2) (aJ _)) (fc (aI wA (bt (Dj rfl) rfl T.GK (by decide+kernel) (aa (pv 5) ae)) (pv 3) (aJ _))))) (aB (e_ 4 jC.nd (dm T.jb (yE T) hr aK (aa (pv 0) (aa (pv 4) (aa (bv nZ (pv 3) (bt (Dj rfl) rfl T.GK (by decide+kernel) (aa (pv 5) ae))) ae))))) (aF (aZ (jg Qy QV QW gm (pv 5) (aa (bt bN rfl T.mj (by decide+kernel) (aa (pv 4) ae)) ae)))))) (aB (bE (aI oC (bt (Dj rfl) rfl T.GK (by decide+kernel) (aa (pv 5) ae)) (pv 3) (aJ _)) (aF (qh ay hr.hd T.yX rfl T.cg.m)) aX) (aF (aE (pv 5)))))))
 refine⟨_,rfl,_,_,rfl,rfl,_,rfl,gB (λh1=>⟨_,_,rfl,rfl,_,rfl,fO (λh2=>?_) λh2=>⟨_,rfl,_,_,rfl,rfl,_,rfl,gB (λh3=>⟨_,_,rfl,rfl,_,rfl,fO (λh4=>?_) λh4=>?_⟩) λh3=>⟨_,rfl,fO (λ_=>?_) λz=>by cases z⟩⟩⟩) λh1=>⟨_,rfl,fO (λ_=>?_) λz=>by cases z⟩⟩
 ·have h2:¬((n:Nat):Int)<=6:=by simpa using h2
  exactλe ne=>hR (k1 λz=>h2 (by have:=z.1.2;omega)) (aD.refl _) e ne
 ·have h4:¬((most:Nat):Int)<=2000:=by simpa using h4
  exactλe ne=>hR (k1 λz=>h4 (by have:=z.2.2;omega)) (aD.refl _) e ne
 ·have h1:(1:Int)<=((n:Nat):Int):=PR h1
  have h2:((n:Nat):Int)<=6:=by simpa using h2
  have h3:(1:Int)<=((most:Nat):Int):=PR h3;have h4:((most:Nat):Int)<=2000:=by simpa using h4
  obtain⟨k3,k4⟩:=k2 ⟨⟨by omega,by omega⟩,by omega,by omega⟩;clear k1 k2;refine⟨_,rfl,_,rfl,A',r,x,dx,p,ps,t,rfl,R,Pp,λH1 q1 L1 s1 n1 w1 e1 _=>?_⟩;have ll1:L1.length=(jh r ps t).length:=by rw[<-e1,Px]
  refine⟨_,rfl,q1,_,rfl,.inl (a0.of w1.l),(by rw[PL];show 1<=_;omega),λc nc=>?_⟩;have nc0:H c=none:=s1.free nc;have S1:=s1.trans (aA (o:= .lst [V.int (((L1.map λ(e:rY)=>V.ref e.tu).length:Nat))]) nc);refine⟨λb σ H'=>∃(L:List rY)(q:Addr)(cs:List Int),σ=[some (.ref A'.x),some (.ref x),some (.int (n:Nat)),some (.int (most:Nat)),some (.ref q),some (.ref c)]/\aD H H'/\AZ a H' q L/\(∀e∈L,e.p≠c)/\q≠c/\H' c=some (.lst (cs.map V.int))/\cs.length+b=n/\0<=cs.sum/\countOf r ps t n most=jX r most b (L.map rY.re) cs,⟨n-1,L1,q1,[((jh r ps t).length:Int)],rfl,S1,w1.same (aA nc),λe he z=>?_,ak w1.l nc,?_,?_,?_,?_⟩,?_⟩
  ·have:=(w1.e e he).pa.pc
   rw[z,nc]at this;cases this
  ·rw[ah,Px,ll1]
   rfl
  ·show 1+(n-1)=n
   omega
  ·simp only[RZ,List.sum_nil]
   omega
  ·rw[e1]
   rfl
  rintro b σ H2 ⟨L,q,cs,rfl,s2,w2,p2,qc,c2,hb,c0,hs⟩
  refine⟨_,rfl,c,_,rfl,.inl (a0.of c2),_,rfl,_,_,rfl,rfl,_,rfl,gB (λg1=>⟨_,rfl,c,cs,rfl,a0.of c2,_,rfl,_,_,rfl,rfl,_,rfl,gB (λg2=>?_) λg2=>?_⟩) λg1=>?_⟩
  ·have g1:=PR g1
   rw[Px]at g1;have g2:cs.sum<=((most:Nat):Int):=PR g2;obtain⟨b,rfl⟩:∃b',b=b'+1:=⟨b-1,by omega⟩;have em:((most:Nat):Int)-cs.sum=((most-cs.sum.toNat:Nat):Int):=by omega
   have R2:=R.same s2;unfold jX at hs;rw[Pz g2]at hs;refine⟨_,λ_ _ h=>h,_,rfl,_,rfl,_,rfl,_,rfl,c,cs,rfl,a0.of c2,_,_,rfl,rfl,A',r,q,L,most-cs.sum.toNat,(by show[V.ref A'.x,V.ref q,V.int (((most:Nat):Int)-cs.sum)]=_;rw[em]),R2,w2,by omega,λH3 q3 L3 s3 n3 w3 e3 l3 p3=>?_⟩;have c3:=s3 _ _ c2;have q3c:q3≠c:=PZ (ak c2 n3);refine⟨_,rfl,.inl ⟨rfl,_,a0.of c3⟩,_,rfl,q3,_,rfl,.inl (a0.of w3.l),c,_,_,rfl,rfl,c3,(by rw[Px,PL];omega),b,by omega,L3,q3,cs++[((L3.length:Nat):Int)],rfl,cY nc0 (s2.trans s3),⟨by rw[ai q3c];exact w3.l,λe he=>?_⟩,λe he=>?_,q3c,?_,?_,?_,?_⟩
   ·exact(w3.e e he).put c3 (PZ (ak c2 (p3 e he)))
   ·exact PZ (ak c2 (p3 e he))
   ·rw[ah,Qg,Px]
    rfl
   ·rw[P0,QF]
    omega
   ·rw[List.sum_append]
    simp only[RZ,List.sum_nil];omega
   ·rw[hs,<-e3,Px]
  ·have g2:¬cs.sum<=((most:Nat):Int):=λz=>g2 (PJ z)
   have ec:countOf r ps t n most=cs:=by
    rw[hs];cases b with
    |zero=>rfl
    |succ b=>unfold jX;rw[Py g2]
   rw[ec]at k3 k4;refine⟨_,rfl,c,cs,rfl,a0.of c2,_,rfl,_,_,rfl,rfl,_,rfl,gB (λg3=>?_) λg3=>?_⟩
   ·exactλe ne=>hR (k3 (by omega)) s2 e ne
   ·exact absurd (PJ (show cs.sum>((most:Nat):Int) by omega)) g3
  ·have g1:¬_:=λz=>g1 (PJ z)
   rw[Px]at g1;have b0:b=0:=by omega
   subst b0;have ec:countOf r ps t n most=cs:=hs;rw[ec]at k3 k4;refine⟨_,rfl,c,cs,rfl,a0.of c2,_,rfl,_,_,rfl,rfl,_,rfl,gB (λg3=>?_) λg3=>?_⟩
   ·have g3:cs.sum>((most:Nat):Int):=PR g3
    exactλe ne=>hR (k3 (by omega)) s2 e ne
   ·have g3:¬cs.sum>((most:Nat):Int):=λz=>g3 (PJ z)
    exact⟨_,rfl,k4 (by omega) H2 c s2 nc0 c2⟩
 ·have h3:¬(1:Int)<=((most:Nat):Int):=λz=>h3 (PJ z)
  exactλe ne=>hR (k1 λz=>h3 (by have:=z.2.1;omega)) (aD.refl _) e ne
 ·have h1:¬(1:Int)<=((n:Nat):Int):=λz=>h1 (PJ z)
  exactλe ne=>hR (k1 λz=>h1 (by have:=z.1.1;omega)) (aD.refl _) e ne
def wc(l:List Int):List Int:=((l.length:Nat):Int)::l
inductive Mh(vs:List V)(H:Hp)(Q:VK)(E:XK):Prop
 |mk (p:Addr) (l:List Int) (_:vs=[.ref p]) (_:H p=some (.lst (l.map V.int))) (_:l.length<=1000000) (_:∀H' q,aD H H'->H q=none->H' q=some (.lst ((wc l).map V.int))->Q (.ref q) H'):Mh vs H Q E
theorem yR:az ["numbers"] ["numbers"] (aj (top 99)):=aR
theorem df(T:Tx K mg a):a4 P w K mg base (cW P w) 1 a.bY a.tR ["numbers"] Mh:=by
 refine T.bY.F.kP yR λcdv A outer s H vs Q E hr h=>?_;obtain⟨p,l,rfl,hp,hl,k⟩:=h
 exists aF (aE (bv pH (cb (aa (bt bN rfl T.mj (by decide+kernel) (aa (pv 0) ae)) ae)) (pv 0)))
 refine⟨_,rfl,p,_,rfl,.inl (a0.of hp),(by rw[PL];show 1<=_;omega),λq hq=>?_⟩;have S0:=aA (o:= .lst [V.int (((l.map V.int).length:Nat))]) hq;refine⟨_,rfl,q,p,_,_,rfl,rfl,ah,S0 _ _ hp,(by rw[Px,PL];show 1+_<=_;omega),λz hz=>k _ z (S0.trans (aA hz)) (S0.free hz) ?_⟩;rw[ah,Px];rfl
def Fo:Option (RA×R0)->List (Str×V)
 |none=>[("rules",.eB)]
 |some p=>[("rules",.ref p.1.x)]
structure kr(a:Ad)(H:Hp)(x dx:Addr)(s:Option (RA×R0)):Prop where
 ins:H x=some (.ins a.eO dx (Fo s))
 ra:∀A r,s=some (A,r)->ou a H A r
theorem kr.same{H H':Hp}{x dx:Addr}{s:Option (RA×R0)}(D:kr a H x dx s)(S:aD H H'):kr a H' x dx s:=⟨S _ _ D.ins,λA r e=>(D.ra A r e).same S⟩
inductive Bv(a:Ad)(vs:List V)(H:Hp)(Q:VK)(E:XK):Prop
 |mk (x dx:Addr) (_:vs=[.ref x]) (_:H x=some (.ins a.eO dx [])) (_:Q .eB (upd H x (.ins a.eO dx (Fo none)))):Bv a vs H Q E
theorem A0:az ["self"] ["self"] (aj (inClass (top 96) 0)):=aR
theorem AV(T:Tx K mg a):a4 P w K mg base (cW P w) 1 a.iB a.u_ ["self"] (Bv a):=by
 refine T.iB.F.kP A0 λcdv A outer s H vs Q E hr h=>?_;obtain⟨x,dx,rfl,hx,k⟩:=h
 exists aF (a5 (pv 0) Lp rfl)
 exact⟨_,rfl,x,a.eO,dx,[],rfl,hx,T.eQ.cl,T.cy,(by show 0<1000;decide),k⟩
inductive EM(a:Ad)(vs:List V)(H:Hp)(Q:VK)(E:XK):Prop
 |mk (x dx:Addr) (s:Option (RA×R0)) (_:vs=[.ref x]) (_:kr a H x dx s) (_:(s=none->dS a.kC H E)) (_:(∀A r,s=some (A,r)->Q (.ref A.x) H)):EM a vs H Q E
theorem qG:az ["self"] ["self"] (aj (inClass (top 96) 1)):=aR
theorem kj(T:Tx K mg a):a4 P w K mg base (cW P w) 1 a.cH a.lu ["self"] (EM a):=by
 refine T.cH.F.oO qG λcdv A outer s H vs Q E hr h=>?_;obtain⟨x,dx,sv,rfl,D,k1,k2⟩:=h
 exists aB (bE (KH (KO (au (pv 0) rfl))) (aF (qh ay hr.hd T.FY rfl T.qg.m)) aX) (aF (aE (au (pv 0) rfl)))
 cases sv with
 |none=>exact⟨_,rfl,x,_,_,_,_,rfl,D.ins,T.eQ.cl,T.cy,rfl,_,rfl,Lv λe ne=>hR (k1 rfl) (aD.refl _) e ne⟩
 |some p=>
  obtain⟨A',r⟩:=p;exact⟨_,rfl,x,_,_,_,_,rfl,D.ins,T.eQ.cl,T.cy,rfl,_,rfl,Mq ⟨_,rfl,x,_,_,_,_,rfl,D.ins,T.eQ.cl,T.cy,rfl,k2 A' r rfl⟩⟩
inductive Rf where
 |kt|line(k p:Int)|rules(k p:Nat)|noMove|noLine(p:Nat)|out|many
def Gp(a:Ad)(H:Hp)(E:XK):Rf->Prop
 |.kt=>dS a.kC H E
 |.line k p=>JP a H k p E
 |.rules k p=>A4 a H k p E
 |.noMove=>dS a.gy H E
 |.noLine p=>KR a H p E
 |.out=>dS a.fE H E
 |.many=>dS a.fC H E
theorem dS.mono{C:Addr}{H H1:Hp}{E:XK}(h:dS C H E)(s:aD H H1):dS C H1 E:=λH' e q=>h H' e (s.trans q)
theorem KR.mono{H H1:Hp}{pl:Nat}{E:XK}(h:KR a H pl E)(s:aD H H1):KR a H1 pl E:=λH' e d cx q=>h H' e d cx (s.trans q)
theorem Gp.mono{H H1:Hp}{E:XK}{f:Rf}(h:Gp a H E f)(s:aD H H1):Gp a H1 E f:=by
 cases f with
 |kt=>exact dS.mono h s
 |line k p=>exact JP.mono h s
 |rules k p=>exact A4.mono h s
 |noMove=>exact dS.mono h s
 |noLine p=>exact KR.mono h s
 |out=>exact dS.mono h s
 |many=>exact dS.mono h s
def nR(s:Option R0)(ns:List Int):Except Rf (R0×List Int×Int):=match s with
 |none=>.error .kt
 |some r=>match uH r ns with
  |.error p=>.error (.line p.1 p.2)
  |.ok p=>.ok (r,p.1,p.2)
inductive Gq(a:Ad)(vs:List V)(H:Hp)(Q:VK)(E:XK):Prop
 |mk (x dx:Addr) (s:Option (RA×R0)) (g:Addr) (ns:List Int) (_:vs=[.ref x,.ref g]) (_:kr a H x dx s) (_:H g=some (.lst (ns.map V.int))) (_:(match nR (s.map (·.2)) ns with
 |.ok p=>∀A,s=some (A,p.1)->∀H' y dy pp,aD H H'->vY a H' y dy pp p.2.1 p.2.2->Q (.ref y) H'
 |.error f=>Gp a H E f)):Gq a vs H Q E
theorem qH:az ["self","line"] ["self","line"] (aj (inClass (top 96) 2)):=aR
theorem cZ(T:Tx K mg a):a4 P w K mg base (cW P w) 8 a.bG a.kU ["self","line"] (Gq a):=by
 refine T.bG.F.oO qH λcdv A outer s H vs Q E hr h=>?_;obtain⟨x,dx,sv,g,ns,rfl,D,hg,k⟩:=h
 exists aF (aE (dm T.jM (Ar T) hr ay.passes (aa (E7 (pv 0) T.eQ T.cH (kj T) hr ay.passes) (aa (pv 1) ae))))
 refine⟨_,rfl,x,dx,_,rfl,D.ins,(by cases sv<;>rfl),x,dx,sv,rfl,D,λe=>?_,λA' r e=>?_⟩
 ·subst e
  exact k
 ·subst e
  refine⟨_,rfl,A',r,g,ns,rfl,D.ra A' r rfl,hg,?_⟩;unfold nR at k;dsimp only[Option.map]at k;cases hl:uH r ns with
  |error p=>
   rw[hl]at k;exact k
  |ok p=>
   rw[hl]at k;obtain⟨l,t⟩:=p;exactλH' y dy pp S Pp=>k A' rfl H' y dy pp S Pp
def rB(g:Addr)(n:Nat):List (Str×V):=[("calls",.ref g),("place",.int (n:Nat))]
structure Aq(K:PB)(a:Ad)(H:Hp)(x dx g:Addr)(ns:List Int)(n:Nat):Prop where
 ins:H x=some (.ins a.aS dx (rB g n))
 gv:a0 K H g (ns.map V.int)
theorem Aq.ex{H H':Hp}{x dx g:Addr}{ns:List Int}{n n':Nat}(R:Aq K a H x dx g ns n)(s:Ex x H H')(h:H' x=some (.ins a.aS dx (rB g n'))):Aq K a H' x dx g ns n':=⟨h,s.seq R.ins R.gv⟩
inductive BE(a:Ad)(vs:List V)(H:Hp)(Q:VK)(E:XK):Prop
 |mk (x dx g:Addr) (_:vs=[.ref x,.ref g]) (_:H x=some (.ins a.aS dx [])) (_:Q .eB (upd H x (.ins a.aS dx (rB g 0)))):BE a vs H Q E
theorem wZ:az ["self","calls"] ["self","calls"] (aj (inClass (top 97) 0)):=aR
theorem wI(T:Tx K mg a):a4 P w K mg base (cW P w) 1 a.fB a.qM ["self","calls"] (BE a):=by
 refine T.fB.F.kP wZ λcdv A outer s H vs Q E hr h=>?_;obtain⟨x,dx,g,rfl,hx,k⟩:=h
 exists aB (a5 (pv 0) (pv 1) rfl) (aF (a5 (pv 0) aw rfl))
 refine⟨_,rfl,_,rfl,x,a.aS,dx,[],rfl,hx,T.cR.cl,T.iY,(by show 0<1000;decide),?_⟩;refine⟨_,rfl,x,a.aS,dx,_,rfl,ah,T.cR.cl,T.dv,(by show 1<1000;decide),?_⟩;rw[eR];exact k
inductive GG(K:PB)(a:Ad)(vs:List V)(H:Hp)(Q:VK)(E:XK):Prop
 |mk (x dx g:Addr) (ns:List Int) (n:Nat) (_:vs=[.ref x]) (_:Aq K a H x dx g ns n) (_:Q (.bl (decide (ns.length<=n))) H):GG K a vs H Q E
theorem so:az ["self"] ["self"] (aj (inClass (top 97) 1)):=aR
theorem sY(T:Tx K mg a):a4 P w K mg base (cW P w) 1 a.eF a.m4 ["self"] (GG K a):=by
 refine T.eF.F.kP so λcdv A outer s H vs Q E hr h=>?_;obtain⟨x,dx,g,ns,n,rfl,R,k⟩:=h
 exists aF (aE (d9 zj (au (pv 0) rfl) (bt bN rfl T.mj (by decide+kernel) (aa (au (pv 0) rfl) ae)) (aJ _)))
 refine⟨_,rfl,x,_,_,_,_,rfl,R.ins,T.cR.cl,T.dv,rfl,_,rfl,x,_,_,_,_,rfl,R.ins,T.cR.cl,T.iY,rfl,g,_,rfl,.inl R.gv,_,_,rfl,rfl,?_⟩;have e:decide (((ns.map V.int).length:Int)<=(n:Int))=decide (ns.length<=n):=by rw[Px];exact RR.mpr (by omega)
 rw[<-e]at k;exact k
inductive Hc(K:PB)(a:Ad)(vs:List V)(H:Hp)(Q:VK)(E:XK):Prop
 |mk (x dx g:Addr) (ns:List Int) (n:Nat) (_:vs=[.ref x]) (_:Aq K a H x dx g ns n) (_:n<ns.length) (_:Q (.int (ns.getD n 0)) (upd H x (.ins a.aS dx (rB g (n+1))))):Hc K a vs H Q E
theorem oP:az ["self"] ["self"] (aj (inClass (top 97) 2)):=aR
theorem fK(T:Tx K mg a):a4 P w K mg base (cW P w) 1 a.bL a.jT ["self"] (Hc K a):=by
 refine T.bL.F.kP oP λcdv A outer s H vs Q E hr h=>?_;obtain⟨x,dx,g,ns,n,rfl,R,hn,k⟩:=h
 exists aB (qr (pv 0) aw Ah) (aF (aE (bj a_ (au (pv 0) rfl) (bv nZ (au (pv 0) rfl) aw) (λ_ _=>rfl))))
 refine⟨_,rfl,x,_,_,_,_,rfl,R.ins,T.cR.cl,T.dv,rfl,_,_,rfl,rfl,dx,_,R.ins,(by show 2<1000;decide),?_⟩;have ie:upd H x (.ins a.aS dx (cf "place" (V.int (((n:Nat):Int)+1)) (rB g n)))=upd H x (.ins a.aS dx (rB g (n+1))):=rfl;have i1:(upd H x (.ins a.aS dx (rB g (n+1)))) x=some (.ins a.aS dx (rB g (n+1))):=ah;have g1:=(Ex.refl.self:Ex x H (upd H x (.ins a.aS dx (rB g (n+1))))).seq R.ins R.gv;refine⟨_,rfl,x,_,_,_,_,rfl,i1,T.cR.cl,T.iY,rfl,_,rfl,x,_,_,_,_,rfl,i1,T.cR.cl,T.dv,rfl,_,_,rfl,rfl,g,_,_,_,rfl,rfl,g1,at_of (j:=n) ?_ (cO hn),k⟩;show((n+1:Nat):Int)-1=_;omega
inductive HD(K:PB)(a:Ad)(vs:List V)(H:Hp)(Q:VK)(E:XK):Prop
 |mk (x dx g:Addr) (ns:List Int) (n m:Nat) (_:vs=[.ref x]) (_:Aq K a H x dx g ns n) (_:ns[n]? =some (m:Nat)) (_:n+1+m<=ns.length) (_:∀H' q,Ex x H H'->H' x=some (.ins a.aS dx (rB g (n+1+m)))->H q=none->H' q=some (.lst (((ns.drop (n+1)).take m).map V.int))->Q (.ref q) H'):HD K a vs H Q E
theorem JS{l:List Int}{i m:Nat}(h:i+m<=l.length):Ay (l.map V.int) (some ((i:Nat):Int)) (some (((i+m:Nat)):Int))=((l.drop i).take m).map V.int:=by
 unfold Ay;rw[HT.qi,HT.qi,Px,Nat.min_eq_left h,Nat.min_eq_left (by omega),Nat.add_sub_cancel_left,<-List.map_drop,<-List.map_take]
theorem lB:az ["self","many"] ["self"] (aj (inClass (top 97) 3)):=aR
theorem rJ(T:Tx K mg a):a4 P w K mg base (cW P w) 2 a.dY a.l8 ["self"] (HD K a):=by
 refine T.dY.F.kP lB λcdv A outer s H vs Q E hr h=>?_;obtain⟨x,dx,g,ns,n,m,rfl,R,hm,hn,k⟩:=h
 exists aB (e_ 1 lB.nd (E7 (pv 0) T.cR T.bL (fK T) hr aK)) (aB (qr (pv 0) (pv 1) Ah) (aF (aE (oS Ek (au (pv 0) rfl) (l_ (bv nZ (au (pv 0) rfl) (pv 1))) (l_ (au (pv 0) rfl))))))
 have em:ns.getD n 0=((m:Nat):Int):=by simp[List.getD,hm]
 refine⟨_,rfl,x,dx,_,rfl,R.ins,rfl,x,dx,g,ns,n,rfl,R,by omega,?_⟩;rw[em];have e1:Ex x H (upd H x (.ins a.aS dx (rB g (n+1)))):=Ex.refl.self;have i1:(upd H x (.ins a.aS dx (rB g (n+1)))) x=some (.ins a.aS dx (rB g (n+1))):=ah;generalize upd H x (.ins a.aS dx (rB g (n+1)))=H1 at*;have R1:=R.ex e1 i1;refine⟨_,rfl,x,_,_,_,_,rfl,i1,T.cR.cl,T.dv,rfl,_,rfl,_,_,rfl,rfl,dx,_,i1,(by show 2<1000;decide),?_⟩;have e2:Ex x H (upd H1 x (.ins a.aS dx (rB g (n+1+m)))):=e1.self;have i2:(upd H1 x (.ins a.aS dx (rB g (n+1+m)))) x=some (.ins a.aS dx (rB g (n+1+m))):=ah;have g2:=R.ex e2 i2;refine⟨_,rfl,x,_,_,_,_,rfl,i2,T.cR.cl,T.iY,rfl,_,rfl,x,_,_,_,_,rfl,i2,T.cR.cl,T.dv,rfl,_,rfl,_,_,rfl,rfl,_,rfl,_,rfl,x,_,_,_,_,rfl,i2,T.cR.cl,T.dv,rfl,_,rfl,g,_,rfl,g2.gv,λq nq=>?_⟩;have ec:Ay (ns.map V.int) (some (((n+1+m:Nat):Int)-((m:Nat):Int))) (some (((n+1+m:Nat)):Int))=((ns.drop (n+1)).take m).map V.int:=by
  rw[show((n+1+m:Nat):Int)-((m:Nat):Int)=((n+1:Nat):Int) by omega,JS (by omega)]
 have nq:(upd H1 x (.ins a.aS dx (rB g (n+1+m)))) q=none:=nq;have qx:q≠x:=λz=>by rw[z,i2]at nq;cases nq
 refine k _ q (e2.same (aA nq)) (by rw[ai (PZ qx)];exact i2) (e2.free nq qx) ?_;rw[ah];exact QI (λz=>some (HO.lst z)) ec
theorem Fx.new{l:List Addr}{H H':Hp}{q:Addr}{o:HO}(h:Fx l H H')(n:H q=none):Fx l H (upd H' q o):=λb u e nb=>by
 rw[ai (ak e n)];exact h b u e nb
theorem MA{K:PB}{H H':Hp}{c ik g C1 d1 C2 d2:Addr}{f1 f2:List (Str×V)}{xs:List V}(h:a0 K H g xs)(hc:H c=some (.ins C1 d1 f1))(hi:H ik=some (.ins C2 d2 f2))(f:Fx [c,ik] H H'):a0 K H' g xs:=by
 rcases h with(h|⟨o,h⟩)|h
 ·exact .inl (.inl (f _ _ h (by simp[bf h hc (λz=>nomatch z),bf h hi (λz=>nomatch z)])))
 ·exact .inl (.inr ⟨o,f _ _ h (by simp[bf h hc (λz=>nomatch z),bf h hi (λz=>nomatch z)])⟩)
 ·exact .inr h
def NW:List Nat:=[0,0,0,0,2,2,0,2]
def TW:List Nat:=[1,0,1,1,1,1,2,1]
def Be(ns:List Int):Nat->List (List Int)->Nat->Prop
 |m,[],n'=>n'=m
 |m,t::ts,n'=>ns[m]? =some ((t.length:Nat):Int)/\t=(ns.drop (m+1)).take t.length/\m+1+t.length<=ns.length/\Be ns (m+1+t.length) ts n'
structure KA(ns:List Int)(n kd:Nat)(xs:List Int)(ts:List (List Int))(n':Nat):Prop where
 k:ns[n]? =some ((kd:Nat):Int)
 kl:kd<8
 xl:NW.getD kd 0=xs.length
 xv:xs=(ns.drop (n+1)).take xs.length
 xb:n+1+xs.length<=ns.length
 tl:TW.getD kd 0=ts.length
 tv:Be ns (n+1+xs.length) ts n'
def Oo(kd:Nat)(nq tq:Addr):List (Str×V):=[("number",.int (kd:Nat)),("numbers",.ref nq),("texts",.ref tq)]
structure qC(a:Ad)(H:Hp)(c dc nq tq:Addr)(ta:List Addr)(kd:Nat)(xs:List Int)(ts:List (List Int)):Prop where
 ins:H c=some (.ins a.bX dc (Oo kd nq tq))
 nm:H nq=some (.lst (xs.map V.int))
 tx:H tq=some (.lst (ta.map V.ref))
 n:ta.length=ts.length
 t:∀(i:Nat)(b:Addr)(l:List Int),ta[i]? =some b->ts[i]? =some l->H b=some (.lst (l.map V.int))
theorem qC.same{a:Ad}{H H':Hp}{c dc nq tq:Addr}{ta:List Addr}{kd:Nat}{xs:List Int}{ts:List (List Int)}(C:qC a H c dc nq tq ta kd xs ts)(s:aD H H'):qC a H' c dc nq tq ta kd xs ts:=⟨s _ _ C.ins,s _ _ C.nm,s _ _ C.tx,C.n,λi b l h1 h2=>s _ _ (C.t i b l h1 h2)⟩
theorem Gd{l:List Nat}{kd:Nat}(h:kd<l.length):(l.map λ(n:Nat)=>V.int ((n:Nat):Int))[kd]? =some (.int ((l.getD kd 0:Nat):Int)):=by
 rw[Qa,PD h];simp[List.getD,PD h]
inductive Gu(K:PB)(a:Ad)(vs:List V)(H:Hp)(Q:VK)(E:XK):Prop
 |mk (c dc ik dk g:Addr) (ns:List Int) (n kd:Nat) (xs:List Int) (ts:List (List Int)) (n':Nat) (_:vs=[.ref c,.ref ik]) (_:H c=some (.ins a.bX dc [])) (_:c≠ik) (_:Aq K a H ik dk g ns n) (_:KA ns n kd xs ts n') (_:∀H' nq tq ta,Fx [c,ik] H H'->qC a H' c dc nq tq ta kd xs ts->Aq K a H' ik dk g ns n'->Q .eB H'):Gu K a vs H Q E
theorem iX:az ["self","intake","told"] ["self","intake"] (aj (inClass (top 98) 0)):=aR
theorem AI(T:Tx K mg a):a4 P w K mg base (cW P w) 3 a.iz a.vc ["self","intake"] (Gu K a):=by
 refine T.iz.F.kP iX λcdv A outer s H vs Q E hr h=>?_;obtain⟨c,dc,ik,dk,g,ns,n,kd,xs,ts,n',rfl,hc,ci,R,Pc,k⟩:=h
 exists aB (a5 (pv 0) (E7 (pv 1) T.cR T.bL (fK T) hr aK) rfl) (aB (a5 (pv 0) (lE (own:=[("told",2)]) rfl iX.nd (dP rfl T.g8 (aa (bj ji (J9 T.xt) (au (pv 0) rfl) (λ_ _=>rfl)) ae)) (cp rfl) (λ_ _ _ _ _=>(kT 2 iX.nd)) (λ_ _ _ _ _=>dZ) (λ_ _ _ _ _=>(E7 (pv 1) T.cR T.bL (fK T) hr aK))) rfl) (aF (a5 (pv 0) (lE (own:=[("told",2)]) rfl iX.nd (dP rfl T.g8 (aa (bj ji (J9 T.AS) (au (pv 0) rfl) (λ_ _=>rfl)) ae)) (cp rfl) (λ_ _ _ _ _=>(kT 2 iX.nd)) (λ_ _ _ _ _=>dZ) (λ_ _ _ _ _=>(E7 (pv 1) T.cR T.dY (rJ T) hr aK))) rfl)))
 have k8:=Pc.kl;have n1:n<ns.length:=(PQ.mp Pc.k).1;have ek:ns.getD n 0=((kd:Nat):Int):=by simp[List.getD,Pc.k]
 refine⟨_,rfl,ik,dk,_,rfl,R.ins,rfl,ik,dk,g,ns,n,rfl,R,n1,?_⟩;rw[ek];have f1:Fx [c,ik] H (upd H ik (.ins a.aS dk (rB g (n+1)))):=Fx.set (by simp);have i1:(upd H ik (.ins a.aS dk (rB g (n+1)))) ik=some (.ins a.aS dk (rB g (n+1))):=ah;have R1:=R.ex (Ex.refl.self:Ex ik H _) i1;have c1:(upd H ik (.ins a.aS dk (rB g (n+1)))) c=some (.ins a.bX dc []):=by rw[ai ci];exact hc
 generalize upd H ik (.ins a.aS dk (rB g (n+1)))=H1 at*;refine⟨_,rfl,c,_,dc,_,rfl,c1,T.c9.cl,T.cj,(by show 0<1000;decide),?_⟩;have f2:Fx [c,ik] H (upd H1 c (.ins a.bX dc [("number",.int (kd:Nat))])):=f1.trans (Fx.set (by simp));have c2:(upd H1 c (.ins a.bX dc [("number",.int (kd:Nat))])) c=some (.ins a.bX dc [("number",.int (kd:Nat))]):=ah;have R2:Aq K a (upd H1 c (.ins a.bX dc [("number",.int (kd:Nat))])) ik dk g ns (n+1):=⟨by rw[ai (PZ ci)];exact R1.ins,(Ex.refl.self:Ex c H1 _).seq c1 R1.gv⟩;have gen:upd H1 c (.ins a.bX dc (cf "number" (V.int (kd:Nat)) []))=upd H1 c (.ins a.bX dc [("number",.int (kd:Nat))]):=rfl;rw[gen];clear gen;generalize upd H1 c (.ins a.bX dc [("number",.int (kd:Nat))])=H2 at*;have xl:xs.length<=2:=by
  have all:∀m:Fin 8,NW.getD m.val 0<=2:=by decide
  rw[<-Pc.xl];exact all ⟨kd,k8⟩
 have tl:ts.length<=2:=by
  have all:∀m:Fin 8,TW.getD m.val 0<=2:=by decide
  rw[<-Pc.tl];exact all ⟨kd,k8⟩
 have aN:([.int 0,.int 0,.int 0,.int 0,.int 2,.int 2,.int 0,.int 2]:List V)[kd]? =some (.int ((xs.length:Nat):Int)):=by
  rw[<-Pc.xl];exact Gd (l:=NW) k8
 have aT:([.int 1,.int 0,.int 1,.int 1,.int 1,.int 1,.int 2,.int 1]:List V)[kd]? =some (.int ((ts.length:Nat):Int)):=by
  rw[<-Pc.tl];exact Gd (l:=TW) k8
 have gv:∀{H':Hp},Fx [c,ik] H H'->a0 K H' g (ns.map V.int):=λ{H'} f=>MA R.gv hc R.ins f;have fresh:∀{H':Hp}{D:Addr},Fx [c,ik] H H'->H' D=none->D≠c->D≠ik->H D=none:=λ{H' D} f n1 n2 n3=>by
  cases e:H D with
  |none=>rfl
  |some o=>rw[f D o e (by simp[n2,n3])]at n1;cases n1
 refine⟨_,rfl,c,_,_,_,_,rfl,c2,T.c9.cl,T.cj,rfl,a.lH,_,_,_,rfl,rfl,T.xw _,at_of (j:=kd) rfl aN,_,rfl,(by omega),(by omega),λD hD=>?_⟩;have Dc:D≠c:=PZ (ak c2 hD);have Dk:D≠ik:=PZ (ak R2.ins hD);have nD:=fresh f2 hD Dc Dk;refine xN (J:=Fm 0 xs.length) (n:=xs.length) (λj H'=>Fx [c,ik] H H'/\H' c=some (.ins a.bX dc [("number",.int (kd:Nat))])/\H' ik=some (.ins a.aS dk (rB g (n+1+j)))/\H' D=some (.lst (((ns.drop (n+1)).take j).map V.int))) ⟨f2.new nD,by rw[ai (PZ Dc)];exact c2,by rw[ai (PZ Dk)];exact R2.ins,by rw[ah];rfl⟩ (λj H h _=>h) (λH _=>PF _) (λj H' hj hW y H3 hy=>?_) λH3 hW=>?_
 ·obtain⟨f3,c3,i3,d3⟩:=hW
  obtain⟨rfl,rfl⟩:=hy;have jl:n+1+j<ns.length:=by have:=Pc.xb;omega
  refine⟨rfl,_,rfl,ik,dk,_,rfl,i3,rfl,ik,dk,g,ns,n+1+j,rfl,⟨i3,gv f3⟩,jl,?_⟩;refine⟨_,by rw[ai Dk];exact d3,(by rw[Px,Qt,PL];omega),(f3.trans (Fx.set (by simp))).new nD,?_,?_,?_⟩
  ·rw[ai (PZ Dc),ai ci]
   exact c3
  ·rw[ai (PZ Dk),ah]
   rfl
  ·rw[ah,QZ,Qg,List.getElem?_drop,PD jl]
   have eg:ns.getD (n+1+j) 0=ns[n+1+j]:=by simp[List.getD,PD jl]
   rw[eg];rfl
 ·obtain⟨f3,c3,i3,d3⟩:=hW
  rw[<-Pc.xv]at d3;refine⟨_,rfl,c,_,dc,_,rfl,c3,T.c9.cl,T.fV,(by show 1<1000;decide),?_⟩;have gen:upd H3 c (.ins a.bX dc (cf "numbers" (V.ref D) [("number",.int (kd:Nat))]))=upd H3 c (.ins a.bX dc [("number",.int (kd:Nat)),("numbers",.ref D)]):=rfl;rw[gen];clear gen;have f4:Fx [c,ik] H (upd H3 c (.ins a.bX dc [("number",.int (kd:Nat)),("numbers",.ref D)])):=f3.trans (Fx.set (by simp));have c4:(upd H3 c (.ins a.bX dc [("number",.int (kd:Nat)),("numbers",.ref D)])) c=some (.ins a.bX dc [("number",.int (kd:Nat)),("numbers",.ref D)]):=ah;have i4:(upd H3 c (.ins a.bX dc [("number",.int (kd:Nat)),("numbers",.ref D)])) ik=some (.ins a.aS dk (rB g (n+1+xs.length))):=by rw[ai (PZ ci)];exact i3
  have d4:(upd H3 c (.ins a.bX dc [("number",.int (kd:Nat)),("numbers",.ref D)])) D=some (.lst (xs.map V.int)):=by rw[ai Dc];exact d3
  generalize upd H3 c (.ins a.bX dc [("number",.int (kd:Nat)),("numbers",.ref D)])=H4 at*;refine⟨_,rfl,c,_,_,_,_,rfl,c4,T.c9.cl,T.cj,rfl,a.nO,_,_,_,rfl,rfl,T.Az _,at_of (j:=kd) rfl aT,_,rfl,(by omega),(by omega),λD2 hD2=>?_⟩;have D2c:D2≠c:=PZ (ak c4 hD2);have D2k:D2≠ik:=PZ (ak i4 hD2);have D2D:D≠D2:=ak d4 hD2;have nD2:=fresh f4 hD2 D2c D2k;refine xN (J:=Fm 0 ts.length) (n:=ts.length) (λj H'=>∃(ta:List Addr)(m:Nat),Fx [c,ik] H H'/\H' c=some (.ins a.bX dc [("number",.int (kd:Nat)),("numbers",.ref D)])/\H' ik=some (.ins a.aS dk (rB g m))/\H' D=some (.lst (xs.map V.int))/\H' D2=some (.lst (ta.map V.ref))/\ta.length=j/\(∀b∈ta,b≠D2)/\(∀(i:Nat)(b:Addr)(l:List Int),ta[i]? =some b->ts[i]? =some l->H' b=some (.lst (l.map V.int)))/\Be ns m (ts.drop j) n') ⟨[],n+1+xs.length,f4.new nD2,by rw[ai (PZ D2c)];exact c4,by rw[ai (PZ D2k)];exact i4,by rw[ai D2D];exact d4,by rw[ah];rfl,rfl,λb hb=>(by cases hb),λi b l h=>by simp at h,Pc.tv⟩ (λj H h _=>h) (λH _=>PF _) (λj H' hj hW y H5 hy=>?_) λH5 hW=>?_
  ·obtain⟨ta,m,f5,c5,i5,d5,t5,l5,n5,v5,w5⟩:=hW
   obtain⟨rfl,rfl⟩:=hy;rw[QY hj]at w5;obtain⟨w1,w2,w3,w4⟩:=w5;refine⟨rfl,_,rfl,ik,dk,_,rfl,i5,rfl,ik,dk,g,ns,m,(ts[j]).length,rfl,⟨i5,gv f5⟩,w1,w3,λH6 q e6 i6 nq h6=>?_⟩;rw[<-w2]at h6;have c6:=e6 _ _ c5 ci;have d6:=e6 _ _ d5 Dk;have t6:=e6 _ _ t5 D2k;have qD2:q≠D2:=PZ (ak t5 nq);have bk:∀b(l:List V),H5 b=some (.lst l)->b≠ik:=λb l h=>bf h i5 λz=>nomatch z;refine⟨_,t6,(by rw[Px,PL];omega),ta++[q],m+1+(ts[j]).length,((f5.trans (e6.fx (by simp))).new nD2),?_,?_,?_,?_,by rw[P0,l5];rfl,λb hb=>?_,λi b l h1 h2=>?_,w4⟩
   ·rw[ai (PZ D2c)]
    exact c6
   ·rw[ai (PZ D2k)]
    exact i6
   ·rw[ai D2D]
    exact d6
   ·rw[ah,Qg]
    rfl
   ·rcases Qc.mp hb with z|z
    ·exact n5 b z
    ·rw[Qb]at z
     rw[z];exact qD2
   ·rcases RB i ta.length with hi|hi
    ·rw[RK hi]at h1
     rw[ai (n5 b (Ql h1))];have:=v5 i b l h1 h2;exact e6 _ _ this (bk _ _ this)
    ·rw[RH hi]at h1
     have i0:i-ta.length=0:=by
      have:=(PQ.mp h1).1;rw[QF]at this;omega
     rw[i0]at h1;cases h1;have ij:i=j:=by omega
     subst ij;rw[PD hj]at h2;cases h2;rw[ai qD2];exact h6
  ·obtain⟨ta,m,f5,c5,i5,d5,t5,l5,n5,v5,w5⟩:=hW
   refine⟨_,rfl,c,_,dc,_,rfl,c5,T.c9.cl,T.d8,(by show 2<1000;decide),?_⟩;have lc:∀b(l:List V),H5 b=some (.lst l)->b≠c:=λb l h=>bf h c5 λz=>nomatch z;rw[Q5 (PF _)]at w5;have w5:n'=m:=w5;subst w5;have f6:Fx [c,ik] H (upd H5 c (.ins a.bX dc (Oo kd D D2))):=f5.trans (Fx.set (by simp));refine k (upd H5 c (.ins a.bX dc (Oo kd D D2))) D D2 ta f6 ⟨ah,by rw[ai (lc _ _ d5)];exact d5,by rw[ai (lc _ _ t5)];exact t5,l5,λi b l h1 h2=>?_⟩ ⟨by rw[ai (PZ ci)];exact i5,gv f6⟩;have:=v5 i b l h1 h2;rw[ai (lc _ _ this)];exact this
theorem lO(r:R0)(ps:List Int)(d:Nat)(piece:Int)(f:Nat):bM r ps d piece f (-1)=[]:=by
 cases f with
 |zero=>rfl
 |succ f=>
  unfold bM;rw[Pz (.inl (by decide))]
theorem u9{r:R0}(W:zT r)(ps:List Int){d:Nat}(hd:d<4)(piece:Int):∀(f c:Nat),c<169->1<=lU r.wide r.high d c->(bM r ps d piece f (c:Nat)).length<=lU r.wide r.high d c
 |0,_,_,_=>QG _
 |f+1,c,hc,h1=>by
  unfold bM;split
  ·exact QG _
  ·rw[P0]
   have e1:(if iE (r.ground.getD ((c:Nat):Int).toNat 0) piece=true then[((c:Nat):Int)]else[]).length<=1:=by split<;>simp
   have en:((c:Nat):Int).toNat=c:=Qm c;rw[en]at e1 ⊢;have e2:(if piece=3/\r.slides=0 then[]else bM r ps d piece f (di r.wide r.high c (cB d) (cC d))).length<=lU r.wide r.high d c-1:=by
    split
    ·exact QG _
    ·rcases iu (c:=c) hd hc W.w W.h with h|⟨n,h2,h3,h4,h5,h6⟩
     ·rw[h,lO]
      exact QG _
     ·rw[h2]
      have:=u9 W ps hd piece f n h3 h4;omega
   omega
theorem km{r:R0}(W:zT r)(ps:List Int){d c:Nat}(hd:d<4)(hc:c<169):(bn r ps c d).length<=lU r.wide r.high d c-1:=by
 unfold bn;rcases iu (c:=c) hd hc W.w W.h with h|⟨n,h2,h3,h4,h5,h6⟩
 ·rw[h,lO]
  exact QG _
 ·rw[h2]
  have:=u9 W ps hd (ps.getD c 0) 13 n h3 h4;omega
theorem CW{r:R0}(W:zT r)(ps:List Int){c:Nat}(hc:c<169)(h1:c%13<r.wide)(h2:c/13<r.high):(dq r ps c).length<=24:=by
 unfold dq;rw[r6];have e:reachOf r ps c=bn r ps c 0++(bn r ps c 1++(bn r ps c 2++(bn r ps c 3++[]))):=rfl;rw[e];simp only[P0,List.length_nil];have d0:=km W ps (d:=0) (by decide) hc;have d1:=km W ps (d:=1) (by decide) hc;have d2:=km W ps (d:=2) (by decide) hc;have d3:=km W ps (d:=3) (by decide) hc;have e0:lU r.wide r.high 0 c=r.high-c/13:=rfl;have e1:lU r.wide r.high 1 c=r.wide-c%13:=rfl;have e2:lU r.wide r.high 2 c=c/13+1:=rfl;have e3:lU r.wide r.high 3 c=c%13+1:=rfl;have:=W.w;have:=W.h;omega
theorem zi{α β:Type}(f:α->List β)(b:Nat):∀l:List α,(∀x∈l,(f x).length<=b)->(l.flatMap f).length<=l.length*b
 |[],_=>by simp
 |x::l,h=>by
  rw[QM,P0,Qj,Nat.succ_mul];have:=zi f b l λy hy=>h y (PY _ hy);have:=h x PU;omega
theorem xO(r:R0)(ps:List Int)(t:Int)(W:zT r):(aQ r ps t).length<=4056:=by
 unfold aQ;split
 ·simp
 ·have h1:=zi (cU r ps) 24 (cellsOf r ps t) λc hc=>by
   obtain⟨n,rfl,n1,n2,n3⟩:=jK W hc;unfold cU;rw[Px];exact CW W ps n1 n2 n3
  have h2:=o9 r ps t W;have h3:(cellsOf r ps t).length*24<=169*24:=Q_ 24 h2;omega
theorem kG(r:R0)(ps:List Int)(tn:Int)(s t:Nat):(rowOf r ps tn s t).length<=7:=by
 unfold rowOf;simp only[Qj];have:=ir r (ba ps s t) t;omega
theorem o6{r:R0}(W:zT r)(ps:List Int)(t:Int):(codes (fL r ps t)).length<=600:=by
 rw[zS];unfold fL;have hl1:("/":Str).length=1:=by decide+kernel
 have hl2:(" ":Str).length=1:=by decide+kernel
 rw[QB,QB,hl2,TL.join_eq];have hj:=StrLaws.join_length_le "/" ((List.range r.high).map λ(i:Nat)=>fH (rowAt r ps i));have hsum:(((List.range r.high).map λ(i:Nat)=>fH (rowAt r ps i)).map (·.length)).sum<=13*41:=by
  refine Qq (CP _ 41 λy hy=>?_) ?_
  ·obtain⟨z,hz,rfl⟩:=P_.mp hy
   obtain⟨i,_,rfl⟩:=P_.mp hz;exact wH (Qq (tZ r ps i) W.w)
  ·rw[Px,Px,QL]
   exact Q_ _ W.h
 rw[hl1,Px,QL]at hj;have:=W.h;show _+1+1<=_;omega
theorem gQ(l:List Int):(wc l).length=l.length+1:=rfl
def mR{α β:Type}(r:Except Rf α)(f:α->Except Rf β):Except Rf β:=match r with
 |.error e=>.error e
 |.ok x=>f x
def nQ(a:Ad)(H:Hp)(Q:VK)(E:XK)(res:Except Rf (List Int)):Prop:=match res with
 |.ok l=>∀H' q,aD H H'->H q=none->H' q=some (.lst (l.map V.int))->Q (.ref q) H'
 |.error f=>Gp a H E f
def xH(s:Option R0):Except Rf (List Int):=match s with
 |none=>.error .kt
 |some r=>.ok (0::wc (codes (fL r r.start r.first)))
def El(s:Option R0)(t0:List Int):Except Rf (List Int):=mR (nR s t0) λp=>.ok [overOf p.1 p.2.1 p.2.2]
def Au(s:Option R0)(t0:List Int):Except Rf (List Int):=mR (nR s t0) λp=>.ok (0::(((aQ p.1 p.2.1 p.2.2).length:Nat):Int)::(aQ p.1 p.2.1 p.2.2).flatMap λ(e:Nat×Nat)=>wc (rowOf p.1 p.2.1 p.2.2 e.1 e.2))
def tX(p:R0×List Int×Int)(i j:Int):Bool:=(aQ p.1 p.2.1 p.2.2).any λ(e:Nat×Nat)=>((e.1:Nat):Int)==i&&((e.2:Nat):Int)==j
def Es(s:Option R0)(t0:List Int)(i j:Nat):Except Rf (List Int):=mR (nR s t0) λp=>if tX p i j=true then .ok (overOf p.1 (bz p.1 p.2.1 i j) (1-p.2.2)::(wc (codes (fL p.1 (bz p.1 p.2.1 i j) (1-p.2.2)))++wc (bR p.1 (ba p.2.1 i j) j)))else .error .noMove
def yn(s:Option R0)(t0:List Int)(i j:Nat):Except Rf (List Int):=mR (nR s t0) λp=>if tX p i j=true then .ok (0::wc (codes (sD p.1 p.2.1 p.2.2 i j)))else .error .noMove
def DK(s:Option R0)(t0 t1:List Int):Except Rf (List Int):=mR (nR s t0) λp=>match(aQ p.1 p.2.1 p.2.2).find? λ(e:Nat×Nat)=>eZ p.1 p.2.1 p.2.2 e==t1 with
 |some e=>.ok (0::wc (rowOf p.1 p.2.1 p.2.2 e.1 e.2))
 |none=>.error (.noLine (yp p.1 p.2.1 p.2.2 t1 (aQ p.1 p.2.1 p.2.2)))
def DS(s:Option R0)(t0:List Int)(n most:Nat):Except Rf (List Int):=mR (nR s t0) λp=>if(1<=n/\n<=6)/\1<=most/\most<=2000 then(if(countOf p.1 p.2.1 p.2.2 n most).sum<=((most:Nat):Int)then .ok (0::wc (countOf p.1 p.2.1 p.2.2 n most))else .error .many)else .error .out
theorem nQ.err{a:Ad}{H H1:Hp}{Q:VK}{E:XK}{f:Rf}(k:nQ a H Q E (.error f))(s:aD H H1):Gp a H1 E f:=Gp.mono k s
theorem qC.text{a:Ad}{H:Hp}{c dc nq tq:Addr}{ta:List Addr}{kd:Nat}{xs:List Int}{ts:List (List Int)}(C:qC a H c dc nq tq ta kd xs ts){i:Nat}{l:List Int}(h:ts[i]? =some l):∃b,(ta.map V.ref)[i]? =some (.ref b)/\H b=some (.lst (l.map V.int)):=by
 have hi:i<ta.length:=by rw[C.n];exact(PQ.mp h).1
 have hb:ta[i]? =some ta[i]:=PD hi;exact⟨ta[i],by rw[Qa,hb];rfl,C.t i _ l hb h⟩
theorem tI{x dx g:Addr}{sv:Option (RA×R0)}{H:Hp}{ns:List Int}{Q Q':VK}{E:XK}{f:R0×List Int×Int->Except Rf (List Int)}(D:kr a H x dx sv)(hg:H g=some (.lst (ns.map V.int)))(k:nQ a H Q E (mR (nR (sv.map (·.2)) ns) f))
  (c:∀A r l t,sv=some (A,r)->∀H' y dy pp,aD H H'->vY a H' y dy pp l t->nQ a H Q E (f (r,l,t))->Q' (.ref y) H'):Gq a [.ref x,.ref g] H Q' E:=by
 refine⟨x,dx,sv,g,ns,rfl,D,hg,?_⟩;cases hp:nR (sv.map (·.2)) ns with
 |error e=>
  rw[hp]at k;exact k
 |ok p=>
  rw[hp]at k;exactλA e H' y dy pp s Pp=>c A p.1 p.2.1 p.2.2 e H' y dy pp s Pp k
inductive DL(a:Ad)(vs:List V)(H:Hp)(Q:VK)(E:XK):Prop
 |mk (x dx:Addr) (sv:Option (RA×R0)) (_:vs=[.ref x]) (_:kr a H x dx sv) (_:nQ a H Q E (xH (sv.map (·.2)))):DL a vs H Q E
theorem oM:az ["desk","rules"] ["desk"] (aj (top 101)):=aR
theorem vq(T:Tx K mg a):a4 P w K mg base (cW P w) 4 a.gj a.pP ["desk"] (DL a):=by
 refine T.gj.F.oO oM λcdv A outer s H vs Q E hr h=>?_;obtain⟨x,dx,sv,rfl,D,k⟩:=h
 exists aB (e_ 1 oM.nd (E7 (pv 0) T.eQ T.cH (kj T) hr ay.passes)) (aF (aE (bv pH (cb (aa aw ae)) (dm T.bY (df T) hr aK (aa (dm T.gG (qO T) hr aK (aa (pv 1) (aa (au (pv 1) rfl) ae))) ae)))))
 refine⟨_,rfl,x,dx,_,rfl,D.ins,(by cases sv<;>rfl),x,dx,sv,rfl,D,λe=>?_,λA' r e=>?_⟩
 ·subst e
  exact k
 ·subst e
  have R:=D.ra A' r rfl;replace k:∀H' q,aD H H'->H q=none->H' q=some (.lst ((0::wc (codes (fL r r.start r.first))).map V.int))->Q (.ref q) H':=k;refine⟨(by rw[PL];show 1<=_;omega),λz nz=>?_⟩;have S1:=aA (o:= .lst [V.int 0]) nz;have R1:=R.same S1;refine⟨_,rfl,_,rfl,A'.x,_,_,_,_,rfl,R1.ins,T.aU.cl,T.mQ,rfl,A',r,A'.st,A'.sd,A'.sp,r.start,r.first,rfl,R1,⟨R1.st,R1.sp,R.ok.s,R.ok.f⟩,λH2 q2 s2 n2 h2=>⟨q2,_,rfl,h2,?_,λH3 q3 s3 n3 h3=>⟨z,q3,_,_,rfl,rfl,(s2.trans s3) _ _ ah,h3,?_,λy ny=>?_⟩⟩⟩
  ·have:=o6 R.ok r.start r.first
   omega
  ·have:=o6 R.ok r.start r.first
   rw[Px,PL,gQ];show 1+_<=_;omega
  ·have S3:=S1.trans (s2.trans s3)
   exact k _ y (S3.trans (aA ny)) (S3.free ny) (by rw[ah];rfl)
inductive DE(a:Ad)(vs:List V)(H:Hp)(Q:VK)(E:XK):Prop
 |mk (x dx:Addr) (sv:Option (RA×R0)) (c dc nq tq:Addr) (ta:List Addr) (kd:Nat) (xs t0:List Int) (_:vs=[.ref x,.ref c]) (_:kr a H x dx sv) (_:qC a H c dc nq tq ta kd xs [t0]) (_:nQ a H Q E (El (sv.map (·.2)) t0)):DE a vs H Q E
theorem oZ:az ["desk","call","position"] ["desk","call"] (aj (top 102)):=aR
theorem xE(T:Tx K mg a):a4 P w K mg base (cW P w) 9 a.gW a.qR ["desk","call"] (DE a):=by
 refine T.gW.F.oO oZ λcdv A outer s H vs Q E hr h=>?_;obtain⟨x,dx,sv,c,dc,nq,tq,ta,kd,xs,t0,rfl,D,C,k⟩:=h
 exists aB (e_ 2 oZ.nd (je (pv 0) T.eQ T.bG (cZ T) hr ay.passes (aa (bj a_ (au (pv 1) rfl) aw (λ_ _=>rfl)) ae))) (aF (aE (cb (aa (dm T.jk (uD T) hr aK (aa (au (pv 0) rfl) (aa (pv 2) ae))) ae))))
 obtain⟨b0,hb,h0⟩:=C.text (i:=0) rfl;refine⟨_,rfl,x,dx,_,rfl,D.ins,(by cases sv<;>rfl),_,rfl,c,_,_,_,_,rfl,C.ins,T.c9.cl,T.d8,rfl,tq,_,_,_,rfl,rfl,a0.of C.tx,at_of (j:=0) rfl hb,?_⟩;dsimp only[rQ,RU,Q0];refine tI D h0 k λA' r l t e H1 y dy pp s1 P1 kk=>?_;clear k;subst e;have D1:=D.same s1;refine⟨_,rfl,x,_,_,_,_,rfl,D1.ins,T.eQ.cl,T.cy,rfl,_,rfl,A',r,y,dy,pp,l,t,rfl,D1.ra A' r rfl,P1,λH2 s2=>⟨(by rw[PL];show 1<=_;omega),λz nz=>?_⟩⟩;have S2:=s1.trans s2;exact kk _ z (S2.trans (aA nz)) (S2.free nz) (by rw[ah];rfl)
inductive BS(a:Ad)(vs:List V)(H:Hp)(Q:VK)(E:XK):Prop
 |mk (x dx:Addr) (sv:Option (RA×R0)) (c dc nq tq:Addr) (ta:List Addr) (kd:Nat) (xs t0:List Int) (_:vs=[.ref x,.ref c]) (_:kr a H x dx sv) (_:qC a H c dc nq tq ta kd xs [t0]) (_:nQ a H Q E (Au (sv.map (·.2)) t0)):BS a vs H Q E
theorem fu:az ["desk","call","position","moves","told","move"] ["desk","call"] (aj (top 103)):=aR
theorem vF(T:Tx K mg a):a4 P w K mg base (cW P w) 9 a.f9 a.o_ ["desk","call"] (BS a):=by
 refine T.f9.F.oO fu λcdv A outer s H vs Q E hr h=>?_;obtain⟨x,dx,sv,c,dc,nq,tq,ta,kd,xs,t0,rfl,D,C,k⟩:=h
 exists aB (e_ 2 fu.nd (je (pv 0) T.eQ T.bG (cZ T) hr ay.passes (aa (bj a_ (au (pv 1) rfl) aw (λ_ _=>rfl)) ae))) (aB (e_ 3 fu.nd (dm T.jt (vj T) hr aK (aa (au (pv 0) rfl) (aa (pv 2) ae)))) (aB (e_ 4 fu.nd (cb (aa aw (aa (bt bN rfl T.mj (by decide+kernel) (aa (pv 3) ae)) ae)))) (aB (dI QO rfl (cN (pv 3)) (kT 5 fu.nd) (aF (aZ (jg Qy Rh Ri kI (pv 4) (aa (dm T.bY (df T) hr aK (aa (E7 (pv 5) T.bV T.fA (p_ T) hr aK) ae)) ae))))) (aF (aE (pv 4))))))
 obtain⟨b0,hb,h0⟩:=C.text (i:=0) rfl;refine⟨_,rfl,x,dx,_,rfl,D.ins,(by cases sv<;>rfl),_,rfl,c,_,_,_,_,rfl,C.ins,T.c9.cl,T.d8,rfl,tq,_,_,_,rfl,rfl,a0.of C.tx,at_of (j:=0) rfl hb,?_⟩;dsimp only[rQ,RU,Q0];refine tI D h0 k λA' r l t e H1 y dy pp s1 P1 kk=>?_;clear k;subst e;have D1:=D.same s1;have R1:=D1.ra A' r rfl;have sl:=xO r l t R1.ok;refine⟨_,rfl,x,_,_,_,_,rfl,D1.ins,T.eQ.cl,T.cy,rfl,_,rfl,A',r,y,dy,pp,l,t,rfl,R1,P1,λH2 q Ms s2 nq2 M2=>?_⟩;refine⟨_,rfl,q,_,rfl,.inl (a0.of M2.l),(by rw[PL];show 2<=_;omega),λz nz=>?_⟩;have S2:=s1.trans s2;have nz0:H z=none:=S2.free nz;have S3:=aA (o:= .lst [V.int 0,.int (((Ms.map V.ref).length:Nat))]) nz;refine⟨_,rfl,q,rfl,⟨_,a0.of (S3 _ _ M2.l)⟩,?_⟩;have k:∀H' q,aD H H'->H q=none->H' q=some (.lst ((0::(((aQ r l t).length:Nat):Int)::(aQ r l t).flatMap λ(e:Nat×Nat)=>wc (rowOf r l t e.1 e.2)).map V.int))->Q (.ref q) H':=kk;have rl:∀e:Nat×Nat,(wc (rowOf r l t e.1 e.2)).length<=8:=λe=>by
  unfold wc;rw[Qj];have:=kG r l t e.1 e.2;omega
 refine fR (xs:=Ms.map V.ref) (λi σ H'=>∃u,σ=[some (.ref x),some (.ref c),some (.ref y),some (.ref q),some (.ref z),u]/\aD H2 H'/\H' z=some (.lst ((0::(((aQ r l t).length:Nat):Int)::((aQ r l t).take i).flatMap λ(e:Nat×Nat)=>wc (rowOf r l t e.1 e.2)).map V.int))) ⟨_,rfl,S3,by rw[ah,Px,M2.n];rfl⟩ (λi σ H4 _⟨u,e,s4,h4⟩=>a0.of (s4 _ _ M2.l)) (λi v σ H4 hv hW=>?_) λσ H4 hW=>?_
 ·obtain⟨u,rfl,s4,h4⟩:=hW
  obtain⟨b,hb',rfl⟩:=rT hv;have il:i<(aQ r l t).length:=by rw[<-M2.n];exact(PQ.mp hb').1
  obtain⟨e,he⟩:∃e,(aQ r l t)[i]? =some e:=⟨_,PD il⟩;have mm:=(M2.m i b e hb' he).same s4;obtain⟨mdx,mtk,maf,mad,map',mn1,mn2,mi,mt,mp⟩:=id mm;refine⟨_,rfl,.inl ⟨rfl,_,a0.of h4⟩,_,rfl,b,mdx,_,rfl,mi,rfl,H1,r,l,t,e.1,e.2,b,rfl,mm,λH5 q5 s5 n5 h5=>⟨q5,rowOf r l t e.1 e.2,rfl,h5,?_,λH6 q6 s6 n6 h6=>?_⟩⟩
  ·have:=kG r l t e.1 e.2
   omega
  ·have s56:=s5.trans s6
   have fl:=nk (λ(e:Nat×Nat)=>wc (rowOf r l t e.1 e.2)) 8 rl ((aQ r l t).take i);have tl:((aQ r l t).take i).length<=4056:=by rw[Qt];omega
   have r1:=rl e;refine⟨z,q6,_,_,rfl,rfl,s56 _ _ h4,h6,?_,_,rfl,cY nz (s4.trans s56),?_⟩
   ·rw[Px,Px,PL,Qj,Qj]
    omega
   ·rw[ah,<-Qg,QZ,he,List.flatMap_append]
    simp
 ·obtain⟨u,rfl,s4,h4⟩:=hW
  rw[Px,M2.n,Qp (PF _)]at h4;exact⟨_,rfl,k H4 z (S2.trans s4) nz0 h4⟩
theorem kN{p:R0×List Int×Int}{i j:Nat}:tX p (i:Nat) (j:Nat)=true↔(i,j)∈aQ p.1 p.2.1 p.2.2:=by
 unfold tX;rw[QR];constructor
 ·rintro⟨⟨s,t⟩,h,e⟩
  rw[P4,QQ,QQ]at e;have e1:s=i:=by have:=e.1;omega
  have e2:t=j:=by have:=e.2;omega
  subst e1 e2;exact h
 ·intro h
  exact⟨(i,j),h,by simp⟩
def LX(a:Ad)(H:Hp)(sv:Option (RA×R0))(t0:List Int)(i j:Nat)(Q:VK)(E:XK):Prop:=match nR (sv.map (·.2)) t0 with
 |.error f=>Gp a H E f
 |.ok p=>if tX p i j=true then∀A,sv=some (A,p.1)->∀H' H0 m,aD H H'->aD H H0->rZ p.2.1->(p.2.2=0\/p.2.2=1)->A5 a H0 H' p.1 p.2.1 p.2.2 i j m->Q (.ref m) H' else Gp a H E .noMove
inductive EE(a:Ad)(vs:List V)(H:Hp)(Q:VK)(E:XK):Prop
 |mk (x dx:Addr) (sv:Option (RA×R0)) (c dc nq tq:Addr) (ta:List Addr) (kd:Nat) (i j:Nat) (t0:List Int) (_:vs=[.ref x,.ref c]) (_:kr a H x dx sv) (_:qC a H c dc nq tq ta kd [(i:Nat),(j:Nat)] [t0]) (_:LX a H sv t0 i j Q E):EE a vs H Q E
theorem q_:az ["desk","call","position"] ["desk","call"] (aj (top 104)):=aR
theorem rk(T:Tx K mg a):a4 P w K mg base (cW P w) 9 a.gF a.sO ["desk","call"] (EE a):=by
 refine T.gF.F.oO q_ λcdv A outer s H vs Q E hr h=>?_;obtain⟨x,dx,sv,c,dc,nq,tq,ta,kd,i,j,t0,rfl,D,C,k⟩:=h
 exists aB (e_ 2 q_.nd (je (pv 0) T.eQ T.bG (cZ T) hr ay.passes (aa (bj a_ (au (pv 1) rfl) aw (λ_ _=>rfl)) ae))) (aF (aE (dm T.f_ (vM T) hr ay.passes (aa (au (pv 0) rfl) (aa (pv 2) (aa (bj a_ (au (pv 1) rfl) aw (λ_ _=>rfl)) (aa (bj a_ (au (pv 1) rfl) aw (λ_ _=>rfl)) ae)))))))
 obtain⟨b0,hb,h0⟩:=C.text (i:=0) rfl;refine⟨_,rfl,x,dx,_,rfl,D.ins,(by cases sv<;>rfl),_,rfl,c,_,_,_,_,rfl,C.ins,T.c9.cl,T.d8,rfl,tq,_,_,_,rfl,rfl,a0.of C.tx,at_of (j:=0) rfl hb,x,dx,sv,b0,t0,rfl,D,h0,?_⟩;unfold LX at k;cases hp:nR (sv.map (·.2)) t0 with
 |error f=>
  rw[hp]at k;exact k
 |ok p=>
  rw[hp]at k;dsimp only at k;intro A' e H1 y dy pp s1 P1;subst e;have D1:=D.same s1;have C1:=C.same s1;have R1:=D1.ra A' p.1 rfl;refine⟨_,rfl,x,_,_,_,_,rfl,D1.ins,T.eQ.cl,T.cy,rfl,_,rfl,_,rfl,c,_,_,_,_,rfl,C1.ins,T.c9.cl,T.fV,rfl,nq,_,_,_,rfl,rfl,a0.of C1.nm,at_of (j:=0) rfl rfl,_,rfl,c,_,_,_,_,rfl,C1.ins,T.c9.cl,T.fV,rfl,nq,_,_,_,rfl,rfl,a0.of C1.nm,at_of (j:=1) rfl rfl,A',p.1,y,dy,pp,p.2.1,p.2.2,(i:Nat),(j:Nat),rfl,R1,P1,λhno=>?_,λs' t' es et hm H2 m s2 M2=>?_⟩
  ·rw[Py (by rw[show tX p (i:Nat) (j:Nat)=false from hno];exact PM)]at k
   exact dS.mono k s1
  ·have es:i=s':=by omega
   have et:j=t':=by omega
   subst es et;rw[Pz (kN.mpr hm)]at k;exact k A' rfl H2 H1 m (s1.trans s2) s1 P1.ok P1.tn M2
inductive Ea(a:Ad)(vs:List V)(H:Hp)(Q:VK)(E:XK):Prop
 |mk (x dx:Addr) (sv:Option (RA×R0)) (c dc nq tq:Addr) (ta:List Addr) (kd:Nat) (i j:Nat) (t0:List Int) (_:vs=[.ref x,.ref c]) (_:kr a H x dx sv) (_:qC a H c dc nq tq ta kd [(i:Nat),(j:Nat)] [t0]) (_:nQ a H Q E (Es (sv.map (·.2)) t0 i j)):Ea a vs H Q E
theorem Dq{x dx:Addr}{sv:Option (RA×R0)}{H:Hp}{t0:List Int}{i j:Nat}{Q Q':VK}{E:XK}{f:R0×List Int×Int->List Int}(k:nQ a H Q E (mR (nR (sv.map (·.2)) t0) λp=>if tX p i j=true then .ok (f p)else .error .noMove))
  (c:∀A r l t,sv=some (A,r)->(i,j)∈aQ r l t->∀H' H0 m,aD H H'->rZ l->(t=0\/t=1)->A5 a H0 H' r l t i j m->(∀H' q,aD H H'->H q=none->H' q=some (.lst ((f (r,l,t)).map V.int))->Q (.ref q) H')->Q' (.ref m) H'):LX a H sv t0 i j Q' E:=by
 unfold LX;cases hp:nR (sv.map (·.2)) t0 with
 |error e=>
  rw[hp]at k;exact k
 |ok p=>
  rw[hp]at k;dsimp only;replace k:nQ a H Q E (if tX p i j=true then .ok (f p)else .error .noMove):=k
  by_cases hm:tX p i j=true
  ·rw[Pz hm]at k ⊢
   exactλA e H' H0 m s _ W ht M=>c A p.1 p.2.1 p.2.2 e (kN.mp hm) H' H0 m s W ht M k
  ·rw[Py hm]at k ⊢
   exact k
theorem ph:az ["desk","call","move"] ["desk","call"] (aj (top 105)):=aR
theorem wE(T:Tx K mg a):a4 P w K mg base (cW P w) 10 a.gZ a.rm ["desk","call"] (Ea a):=by
 refine T.gZ.F.oO ph λcdv A outer s H vs Q E hr h=>?_;obtain⟨x,dx,sv,c,dc,nq,tq,ta,kd,i,j,t0,rfl,D,C,k⟩:=h
 exists aB (e_ 2 ph.nd (dm T.gF (rk T) hr ay.passes (aa (pv 0) (aa (pv 1) ae)))) (aF (aE (bv pH (bv pH (cb (aa (au (pv 2) rfl) ae)) (dm T.bY (df T) hr aK (aa (dm T.gG (qO T) hr aK (aa (au (pv 0) rfl) (aa (au (pv 2) rfl) ae))) ae))) (dm T.bY (df T) hr aK (aa (au (pv 2) rfl) ae)))))
 refine⟨_,rfl,_,rfl,x,dx,sv,c,dc,nq,tq,ta,kd,i,j,t0,rfl,D,C,Dq (x:=x) (dx:=dx) k λA' r l t e hm H1 H0 m s1 W ht M1 kk=>?_⟩;clear k;subst e;have D1:=D.same s1;have R1:=D1.ra A' r rfl;obtain⟨mdx,mtk,maf,mad,map',mn1,mn2,mi,mt,mp⟩:=M1;have t4:=ir r (ba l i j) j;have ll:=o6 R1.ok (bz r l i j) (1-t);refine⟨_,rfl,m,_,_,_,_,rfl,mi,T.bV.cl,T.fX,rfl,(by rw[PL];show 1<=_;omega),λz nz=>?_⟩;have S2:=aA (o:= .lst [V.int (overOf r (bz r l i j) (1-t))]) nz;have z2:(upd H1 z (.lst [V.int (overOf r (bz r l i j) (1-t))])) z=some (.lst [V.int (overOf r (bz r l i j) (1-t))]):=ah;generalize upd H1 z (.lst [V.int (overOf r (bz r l i j) (1-t))])=H2 at*;have D2:=D1.same S2;refine⟨_,rfl,x,_,_,_,_,rfl,D2.ins,T.eQ.cl,T.cy,rfl,_,rfl,m,_,_,_,_,rfl,S2 _ _ mi,T.bV.cl,T.kv,rfl,A',r,maf,mad,map',_,_,rfl,R1.same S2,mp.same S2,λH3 q3 s3 n3 h3=>⟨q3,_,rfl,h3,by omega,λH4 q4 s4 n4 h4=>?_⟩⟩;have s34:=s3.trans s4;have s24:=S2.trans s34;refine⟨z,q4,_,_,rfl,rfl,s34 _ _ z2,h4,(by rw[Px,PL,gQ];show 1+_<=_;omega),λy ny=>?_⟩;have S5:=aA (o:= .lst ([V.int (overOf r (bz r l i j) (1-t))]++(wc (codes (fL r (bz r l i j) (1-t)))).map V.int)) ny;have y5:(upd H4 y (.lst ([V.int (overOf r (bz r l i j) (1-t))]++(wc (codes (fL r (bz r l i j) (1-t)))).map V.int))) y=some (.lst ([V.int (overOf r (bz r l i j) (1-t))]++(wc (codes (fL r (bz r l i j) (1-t)))).map V.int)):=ah;generalize upd H4 y (.lst ([V.int (overOf r (bz r l i j) (1-t))]++(wc (codes (fL r (bz r l i j) (1-t)))).map V.int))=H5 at*;have s25:=s24.trans S5;refine⟨_,rfl,m,_,_,_,_,rfl,s25 _ _ mi,T.bV.cl,T.gC,rfl,mtk,_,rfl,s25 _ _ mt,by omega,λH6 q6 s6 n6 h6=>⟨y,q6,_,_,rfl,rfl,s6 _ _ y5,h6,?_,λv nv=>?_⟩⟩
 ·rw[P0,Px,Px,PL,gQ,gQ]
  show 1+_+_<=_;omega
 ·have S6:=(s1.trans s25).trans s6
  refine kk _ v (S6.trans (aA nv)) (S6.free nv) ?_;rw[ah];show _=some (HO.lst (V.int (overOf r (bz r l i j) (1-t))::(wc (codes (fL r (bz r l i j) (1-t)))++wc (bR r (ba l i j) j)).map V.int));rw[Qg];rfl
inductive By(a:Ad)(vs:List V)(H:Hp)(Q:VK)(E:XK):Prop
 |mk (x dx:Addr) (sv:Option (RA×R0)) (c dc nq tq:Addr) (ta:List Addr) (kd:Nat) (i j:Nat) (t0:List Int) (_:vs=[.ref x,.ref c]) (_:kr a H x dx sv) (_:qC a H c dc nq tq ta kd [(i:Nat),(j:Nat)] [t0]) (_:nQ a H Q E (yn (sv.map (·.2)) t0 i j)):By a vs H Q E
theorem zC{r:R0}{ps:List Int}{tn:Int}{s t:Nat}(W:zT r)(hs:s<169)(ht:t<169):(codes (sD r ps tn s t)).length<=26:=by
 rw[zS];obtain⟨o0,o3⟩:=AU r (bz r ps s t) (1-tn);exact Ee hs ht (ir _ _ _) (λv hv=>by obtain⟨c,rfl,c1⟩:=jO W ht hv;exact c1) o0 o3
theorem vA:az ["desk","call"] ["desk","call"] (aj (top 106)):=aR
theorem vN(T:Tx K mg a):a4 P w K mg base (cW P w) 10 a.gd a.pG ["desk","call"] (By a):=by
 refine T.gd.F.oO vA λcdv A outer s H vs Q E hr h=>?_;obtain⟨x,dx,sv,c,dc,nq,tq,ta,kd,i,j,t0,rfl,D,C,k⟩:=h
 exists aF (aE (bv pH (cb (aa aw ae)) (dm T.bY (df T) hr aK (aa (dm T.gz (rA T) hr aK (aa (dm T.gF (rk T) hr ay.passes (aa (pv 0) (aa (pv 1) ae))) ae)) ae))))
 refine⟨(by rw[PL];show 1<=_;omega),λz nz=>?_⟩;have S1:=aA (o:= .lst [V.int 0]) nz;have z1:(upd H z (.lst [V.int 0])) z=some (.lst [V.int 0]):=ah;generalize upd H z (.lst [V.int 0])=H1 at*;have D1:=D.same S1;have C1:=C.same S1;refine⟨_,rfl,_,rfl,x,dx,sv,c,dc,nq,tq,ta,kd,i,j,t0,rfl,D1,C1,?_⟩;unfold LX;unfold yn mR at k;cases hp:nR (sv.map (·.2)) t0 with
 |error e=>
  rw[hp]at k;exact nQ.err k S1
 |ok p=>
  rw[hp]at k;dsimp only at k ⊢
  by_cases hm:tX p i j=true
  ·rw[Pz hm]at k ⊢
   intro A' e H2 H0 m s2 _ W ht M2;subst e;obtain⟨b1,b2⟩:=kK (D.ra A' p.1 rfl).ok (kN.mp hm);have Wr:=(D.ra A' p.1 rfl).ok;have ml:(codes (sD p.1 p.2.1 p.2.2 i j)).length<=26:=zC (ps:=p.2.1) (tn:=p.2.2) Wr b1 b2;refine⟨H0,p.1,p.2.1,p.2.2,i,j,m,rfl,M2,Wr,b1,b2,λH3 q3 s3 n3 h3=>⟨q3,_,rfl,h3,Qq ml (by decide),λH4 q4 s4 n4 h4=>⟨z,q4,_,_,rfl,rfl,(s2.trans (s3.trans s4)) _ _ z1,h4,(by rw[Px,PL,gQ];show 1+_<=_;omega),λv nv=>?_⟩⟩⟩;have S4:=S1.trans (s2.trans (s3.trans s4));exact k _ v (S4.trans (aA nv)) (S4.free nv) (by rw[ah];rfl)
  ·rw[Py hm]at k ⊢
   exact nQ.err k S1
inductive EQ(a:Ad)(vs:List V)(H:Hp)(Q:VK)(E:XK):Prop
 |mk (x dx:Addr) (sv:Option (RA×R0)) (c dc nq tq:Addr) (ta:List Addr) (kd:Nat) (xs t0 t1:List Int) (_:vs=[.ref x,.ref c]) (_:kr a H x dx sv) (_:qC a H c dc nq tq ta kd xs [t0,t1]) (_:nQ a H Q E (DK (sv.map (·.2)) t0 t1)):EQ a vs H Q E
theorem pJ:az ["desk","call","position"] ["desk","call"] (aj (top 107)):=aR
theorem wQ(T:Tx K mg a):a4 P w K mg base (cW P w) 9 a.gR a.qY ["desk","call"] (EQ a):=by
 refine T.gR.F.oO pJ λcdv A outer s H vs Q E hr h=>?_;obtain⟨x,dx,sv,c,dc,nq,tq,ta,kd,xs,t0,t1,rfl,D,C,k⟩:=h
 exists aB (e_ 2 pJ.nd (je (pv 0) T.eQ T.bG (cZ T) hr ay.passes (aa (bj a_ (au (pv 1) rfl) aw (λ_ _=>rfl)) ae))) (aF (aE (bv pH (cb (aa aw ae)) (dm T.bY (df T) hr aK (aa (E7 (dm T.jN (AK T) hr ay.passes (aa (au (pv 0) rfl) (aa (pv 2) (aa (bj a_ (au (pv 1) rfl) aw (λ_ _=>rfl)) ae)))) T.bV T.fA (p_ T) hr aK) ae)))))
 obtain⟨b0,hb,h0⟩:=C.text (i:=0) rfl;obtain⟨b1,hb1,h1⟩:=C.text (i:=1) rfl;refine⟨_,rfl,x,dx,_,rfl,D.ins,(by cases sv<;>rfl),_,rfl,c,_,_,_,_,rfl,C.ins,T.c9.cl,T.d8,rfl,tq,_,_,_,rfl,rfl,a0.of C.tx,at_of (j:=0) rfl hb,?_⟩;dsimp only[rQ,RU,Q0];refine tI D h0 k λA' r l t e H1 y dy pp s1 P1 kk=>?_;clear k;subst e;refine⟨(by rw[PL];show 1<=_;omega),λz nz=>?_⟩;have S2:=aA (o:= .lst [V.int 0]) nz;have z2:(upd H1 z (.lst [V.int 0])) z=some (.lst [V.int 0]):=ah;generalize upd H1 z (.lst [V.int 0])=H2 at*;have S:=s1.trans S2;have D2:=D.same S;have C2:=C.same S;have R2:=D2.ra A' r rfl;refine⟨_,rfl,x,_,_,_,_,rfl,D2.ins,T.eQ.cl,T.cy,rfl,_,rfl,_,rfl,c,_,_,_,_,rfl,C2.ins,T.c9.cl,T.d8,rfl,tq,_,_,_,rfl,rfl,a0.of C2.tx,at_of (j:=1) rfl hb1,A',r,y,dy,pp,l,t,b1,t1,rfl,R2,P1.same S2,S _ _ h1,?_⟩;dsimp only at kk;cases hf:(aQ r l t).find? λ(e:Nat×Nat)=>eZ r l t e==t1 with
 |none=>
  rw[hf]at kk;exact nQ.err kk S
 |some e=>
  rw[hf]at kk;intro H3 m s3 M3;obtain⟨mdx,mtk,maf,mad,map',mn1,mn2,mi,mt,mp⟩:=id M3;refine⟨m,mdx,_,rfl,mi,rfl,H2,r,l,t,e.1,e.2,m,rfl,M3,λH4 q4 s4 n4 h4=>⟨q4,_,rfl,h4,Qq (kG _ _ _ _ _) (by decide),λH5 q5 s5 n5 h5=>⟨z,q5,_,_,rfl,rfl,(s3.trans (s4.trans s5)) _ _ z2,h5,?_,λv nv=>?_⟩⟩⟩
  ·have:=kG r l t e.1 e.2
   rw[Px,PL,gQ];show 1+_<=_;omega
  ·have S5:=S.trans (s3.trans (s4.trans s5))
   exact kk _ v (S5.trans (aA nv)) (S5.free nv) (by rw[ah];rfl)
theorem wq(r:R0)(most:Nat):∀(f:Nat)(rows:List RE)(cs:List Int),(jX r most f rows cs).length<=cs.length+f
 |0,_,_=>PF _
 |f+1,rows,cs=>by
  unfold jX;split
  ·have:=wq r most f (eC r (most-cs.sum.toNat) rows []) (cs++[((eC r (most-cs.sum.toNat) rows []).length:Int)])
   rw[P0,QF]at this;omega
  ·omega
theorem uG(r:R0)(ps:List Int)(t:Int)(n most:Nat):(countOf r ps t n most).length<=n+1:=by
 unfold countOf;have:=wq r most (n-1) (jh r ps t) [((jh r ps t).length:Int)];rw[QF]at this;omega
inductive DI(a:Ad)(vs:List V)(H:Hp)(Q:VK)(E:XK):Prop
 |mk (x dx:Addr) (sv:Option (RA×R0)) (c dc nq tq:Addr) (ta:List Addr) (kd:Nat) (n most:Nat) (t0:List Int) (_:vs=[.ref x,.ref c]) (_:kr a H x dx sv) (_:qC a H c dc nq tq ta kd [(n:Nat),(most:Nat)] [t0]) (_:nQ a H Q E (DS (sv.map (·.2)) t0 n most)):DI a vs H Q E
theorem p9:az ["desk","call","position"] ["desk","call"] (aj (top 108)):=aR
theorem xS(T:Tx K mg a):a4 P w K mg base (cW P w) 9 a.gU a.qS ["desk","call"] (DI a):=by
 refine T.gU.F.oO p9 λcdv A outer s H vs Q E hr h=>?_;obtain⟨x,dx,sv,c,dc,nq,tq,ta,kd,n,most,t0,rfl,D,C,k⟩:=h
 exists aB (e_ 2 p9.nd (je (pv 0) T.eQ T.bG (cZ T) hr ay.passes (aa (bj a_ (au (pv 1) rfl) aw (λ_ _=>rfl)) ae))) (aF (aE (bv pH (cb (aa aw ae)) (dm T.bY (df T) hr aK (aa (dm T.iZ (yI T) hr ay.passes (aa (au (pv 0) rfl) (aa (pv 2) (aa (bj a_ (au (pv 1) rfl) aw (λ_ _=>rfl)) (aa (bj a_ (au (pv 1) rfl) aw (λ_ _=>rfl)) ae))))) ae)))))
 obtain⟨b0,hb,h0⟩:=C.text (i:=0) rfl;refine⟨_,rfl,x,dx,_,rfl,D.ins,(by cases sv<;>rfl),_,rfl,c,_,_,_,_,rfl,C.ins,T.c9.cl,T.d8,rfl,tq,_,_,_,rfl,rfl,a0.of C.tx,at_of (j:=0) rfl hb,?_⟩;dsimp only[rQ,RU,Q0];refine tI D h0 k λA' r l t e H1 y dy pp s1 P1 kk=>?_;clear k;subst e;refine⟨(by rw[PL];show 1<=_;omega),λz nz=>?_⟩;have S2:=aA (o:= .lst [V.int 0]) nz;have z2:(upd H1 z (.lst [V.int 0])) z=some (.lst [V.int 0]):=ah;generalize upd H1 z (.lst [V.int 0])=H2 at*;have S:=s1.trans S2;have D2:=D.same S;have C2:=C.same S;have R2:=D2.ra A' r rfl;dsimp only at kk;refine⟨_,rfl,x,_,_,_,_,rfl,D2.ins,T.eQ.cl,T.cy,rfl,_,rfl,_,rfl,c,_,_,_,_,rfl,C2.ins,T.c9.cl,T.fV,rfl,nq,_,_,_,rfl,rfl,a0.of C2.nm,at_of (j:=0) rfl rfl,_,rfl,c,_,_,_,_,rfl,C2.ins,T.c9.cl,T.fV,rfl,nq,_,_,_,rfl,rfl,a0.of C2.nm,at_of (j:=1) rfl rfl,A',r,y,dy,pp,l,t,n,most,rfl,R2,P1.same S2,λhb=>?_,λhb=>⟨λhs=>?_,λhs H3 q3 s3 n3 h3=>?_⟩⟩
 ·unfold Mf at hb
  rw[Py hb]at kk;exact nQ.err kk S
 ·unfold Mf at hb
  rw[Pz hb,Py (by omega)]at kk;exact nQ.err kk S
 ·unfold Mf at hb
  rw[Pz hb,Pz hs]at kk;have cl:=uG r l t n most;have n6:=hb.1.2;refine⟨q3,_,rfl,h3,by omega,λH5 q5 s5 n5 h5=>⟨z,q5,_,_,rfl,rfl,(s3.trans s5) _ _ z2,h5,?_,λv nv=>?_⟩⟩
  ·rw[Px,PL,gQ]
   show 1+_<=_;omega
  ·have S5:=S.trans (s3.trans s5)
   exact kk _ v (S5.trans (aA nv)) (S5.free nv) (by rw[ah];rfl)
inductive BA(a:Ad)(vs:List V)(H:Hp)(Q:VK)(E:XK):Prop
 |mk (x dx:Addr) (sv:Option (RA×R0)) (c dc nq tq:Addr) (ta:List Addr) (kd:Nat) (xs t0:List Int) (_:vs=[.ref x,.ref c]) (_:kr a H x dx sv) (_:qC a H c dc nq tq ta kd xs [t0]) (_:(match kS t0 with
 |.ok r=>∀H' q A,Ex x H H'->kr a H' x dx (some (A,r))->JU H A->H q=none->H' q=some (.lst [.int 0])->Q (.ref q) H'
 |.error p=>A4 a H p.1 p.2 E)):BA a vs H Q E
theorem vK:az ["desk","call"] ["desk","call"] (aj (top 100)):=aR
theorem vL(T:Tx K mg a):a4 P w K mg base (cW P w) 10 a.gf a.pT ["desk","call"] (BA a):=by
 refine T.gf.F.oO vK λcdv A outer s H vs Q E hr h=>?_;obtain⟨x,dx,sv,c,dc,nq,tq,ta,kd,xs,t0,rfl,D,C,k⟩:=h
 exists aB (a5 (pv 0) (dm T.iG (yH T) hr ay.passes (aa (bj a_ (au (pv 1) rfl) aw (λ_ _=>rfl)) ae)) rfl) (aF (aE (cb (aa aw ae))))
 obtain⟨b0,hb,h0⟩:=C.text (i:=0) rfl;refine⟨_,rfl,c,_,_,_,_,rfl,C.ins,T.c9.cl,T.d8,rfl,tq,_,_,_,rfl,rfl,a0.of C.tx,at_of (j:=0) rfl hb,b0,t0,rfl,h0,?_⟩;cases hr':kS t0 with
 |error p=>
  rw[hr']at k;exact k
 |ok r=>
  rw[hr']at k;dsimp only at k;intro H1 A1 s1 R1 F1;have x1:=s1 _ _ D.ins;refine⟨_,rfl,x,_,dx,_,rfl,x1,T.eQ.cl,T.cy,(by cases sv<;>(show 1<1000;decide)),?_⟩;have ep:cf "rules" (V.ref A1.x) (Fo sv)=Fo (some (A1,r)):=by cases sv<;>rfl
  rw[ep];have e2:Ex x H1 (upd H1 x (.ins a.eO dx (Fo (some (A1,r))))):=Ex.refl.self;have x2:(upd H1 x (.ins a.eO dx (Fo (some (A1,r))))) x=some (.ins a.eO dx (Fo (some (A1,r)))):=ah;have R2:=R1.ex x1 (by cases sv<;>(show 1≠15/\1≠2;decide)) e2;have eH:Ex x H (upd H1 x (.ins a.eO dx (Fo (some (A1,r))))):=s1.ex.trans e2;generalize upd H1 x (.ins a.eO dx (Fo (some (A1,r))))=H2 at*;refine⟨(by rw[PL];show 1<=_;omega),λz nz=>?_⟩;have zx:z≠x:=λe=>by rw[e,x2]at nz;cases nz
  have S3:=aA (o:= .lst [V.int 0]) nz;exact k _ z A1 (eH.same S3) ⟨S3 _ _ x2,λA r' e=>by cases e;exact R2.same S3⟩ F1 (eH.free nz zx) ah
def sf(s:Option R0)(kd:Nat)(xs:List Int)(ts:List (List Int)):Except Rf (Option R0×List Int):=match kd,xs,ts with
 |0,_,[t]=>(match kS t with
  |.ok r=>.ok (some r,[0])
  |.error p=>.error (.rules p.1 p.2))
 |1,_,_=>mR (xH s) λl=>.ok (s,l)
 |2,_,[t]=>mR (El s t) λl=>.ok (s,l)
 |3,_,[t]=>mR (Au s t) λl=>.ok (s,l)
 |4,[i,j],[t]=>mR (Es s t i.toNat j.toNat) λl=>.ok (s,l)
 |5,[i,j],[t]=>mR (yn s t i.toNat j.toNat) λl=>.ok (s,l)
 |6,_,[t,u]=>mR (DK s t u) λl=>.ok (s,l)
 |7,[i,j],[t]=>mR (DS s t i.toNat j.toNat) λl=>.ok (s,l)
 |_,_,_=>.error .kt
def yw(a:Ad)(H:Hp)(x dx:Addr)(sv:Option (RA×R0))(Q:VK)(E:XK)(res:Except Rf (Option R0×List Int)):Prop:=match res with
 |.ok p=>∀H' q(S':Option (RA×R0)),Ex x H H'->kr a H' x dx S'->(S'=sv\/∀A r,S'=some (A,r)->JU H A)->S'.map (·.2)=p.1->H q=none->H' q=some (.lst (p.2.map V.int))->Q (.ref q) H'
 |.error f=>Gp a H E f
theorem yw.p{H:Hp}{x dx:Addr}{sv:Option (RA×R0)}{Q:VK}{E:XK}{res:Except Rf (List Int)}(D:kr a H x dx sv)(k:yw a H x dx sv Q E (mR res λl=>.ok (sv.map (·.2),l))):nQ a H Q E res:=by
 cases res with
 |error f=>exact k
 |ok l=>exactλH' q s n h=>k H' q sv s.ex (D.same s) (.inl rfl) rfl n h
structure M6(kd:Nat)(xs:List Int)(ts:List (List Int)):Prop where
 k:kd<8
 x:NW.getD kd 0=xs.length
 v:∀v∈xs,0<=v
 t:TW.getD kd 0=ts.length
inductive EJ(a:Ad)(vs:List V)(H:Hp)(Q:VK)(E:XK):Prop
 |mk (x dx:Addr) (sv:Option (RA×R0)) (c dc nq tq:Addr) (ta:List Addr) (kd:Nat) (xs:List Int) (ts:List (List Int)) (_:vs=[.ref x,.ref c]) (_:kr a H x dx sv) (_:qC a H c dc nq tq ta kd xs ts) (_:M6 kd xs ts) (_:yw a H x dx sv Q E (sf (sv.map (·.2)) kd xs ts)):EJ a vs H Q E
theorem CH{xs:List Int}(h:2=xs.length)(v:∀v∈xs,0<=v):∃i j:Nat,xs=[((i:Nat):Int),((j:Nat):Int)]:=by
 match xs,h with
 |[i,j],_=>
  have h1:=v i (by simp);have h2:=v j (by simp);exact⟨i.toNat,j.toNat,by rw[Int.toNat_of_nonneg h1,Int.toNat_of_nonneg h2]⟩
theorem jm{ts:List (List Int)}(h:1=ts.length):∃t,ts=[t]:=by
 match ts,h with
 |[t],_=>exact⟨t,rfl⟩
theorem Kq{ts:List (List Int)}(h:2=ts.length):∃t u,ts=[t,u]:=by
 match ts,h with
 |[t,u],_=>exact⟨t,u,rfl⟩
theorem xA:az ["desk","call"] ["desk","call"] (aj (top 109)):=aR
theorem yA(T:Tx K mg a):a4 P w K mg base (cW P w) 11 a.gV a.rb ["desk","call"] (EJ a):=by
 refine T.gV.F.oO xA λcdv A outer s H vs Q E hr h=>?_;obtain⟨x,dx,sv,c,dc,nq,tq,ta,kd,xs,ts,rfl,D,C,S,k⟩:=h
 exists aB (bE (aI bO (au (pv 1) rfl) aw (aJ _)) (aF (aE (dm T.gf (vL T) hr ay.passes (aa (pv 0) (aa (pv 1) ae))))) aX) (aB (bE (aI bO (au (pv 1) rfl) aw (aJ _)) (aF (aE (dm T.gj (vq T) hr ay.passes (aa (pv 0) ae)))) aX) (aB (bE (aI bO (au (pv 1) rfl) aw (aJ _)) (aF (aE (dm T.gW (xE T) hr ay.passes (aa (pv 0) (aa (pv 1) ae))))) aX) (aB (bE (aI bO (au (pv 1) rfl) aw (aJ _)) (aF (aE (dm T.f9 (vF T) hr ay.passes (aa (pv 0) (aa (pv 1) ae))))) aX) (aB (bE (aI bO (au (pv 1) rfl) aw (aJ _)) (aF (aE (dm T.gZ (wE T) hr ay.passes (aa (pv 0) (aa (pv 1) ae))))) aX) (aB (bE (aI bO (au (pv 1) rfl) aw (aJ _)) (aF (aE (dm T.gd (vN T) hr ay.passes (aa (pv 0) (aa (pv 1) ae))))) aX) (aB (bE (aI bO (au (pv 1) rfl) aw (aJ _)) (aF (aE (dm T.gR (wQ T) hr ay.passes (aa (pv 0) (aa (pv 1) ae))))) aX) (aF (aE (dm T.gU (xS T) hr ay.passes (aa (pv 0) (aa (pv 1) ae)))))))))))
 have k8:=S.k;refine⟨_,rfl,c,_,_,_,_,rfl,C.ins,T.c9.cl,T.cj,rfl,rfl,_,rfl,dG (λh0=>?_) λh0=>?_⟩
 ·have e:kd=0:=by omega
  subst e;obtain⟨t,rfl⟩:=jm S.t;refine⟨_,rfl,_,rfl,x,dx,sv,c,dc,nq,tq,ta,0,xs,t,rfl,D,C,?_⟩;replace k:yw a H x dx sv Q E (match kS t with|.ok r=>.ok (some r,[0])|.error p=>.error (.rules p.1 p.2)):=k;cases hr':kS t with
  |error p=>
   rw[hr']at k;exact k
  |ok r=>
   rw[hr']at k;exactλH' q A e D' F n h=>k H' q (some (A,r)) e D' (.inr λA' r' z=>by cases z;exact F) rfl n h
 refine⟨_,rfl,c,_,_,_,_,rfl,C.ins,T.c9.cl,T.cj,rfl,rfl,_,rfl,dG (λh1=>?_) λh1=>?_⟩
 ·have e:kd=1:=by omega
  subst e;exact⟨_,rfl,x,dx,sv,rfl,D,yw.p D k⟩
 refine⟨_,rfl,c,_,_,_,_,rfl,C.ins,T.c9.cl,T.cj,rfl,rfl,_,rfl,dG (λh2=>?_) λh2=>?_⟩
 ·have e:kd=2:=by omega
  subst e;obtain⟨t,rfl⟩:=jm S.t;exact⟨_,rfl,_,rfl,x,dx,sv,c,dc,nq,tq,ta,2,xs,t,rfl,D,C,yw.p D k⟩
 refine⟨_,rfl,c,_,_,_,_,rfl,C.ins,T.c9.cl,T.cj,rfl,rfl,_,rfl,dG (λh3=>?_) λh3=>?_⟩
 ·have e:kd=3:=by omega
  subst e;obtain⟨t,rfl⟩:=jm S.t;exact⟨_,rfl,_,rfl,x,dx,sv,c,dc,nq,tq,ta,3,xs,t,rfl,D,C,yw.p D k⟩
 refine⟨_,rfl,c,_,_,_,_,rfl,C.ins,T.c9.cl,T.cj,rfl,rfl,_,rfl,dG (λh4=>?_) λh4=>?_⟩
 ·have e:kd=4:=by omega
  subst e;obtain⟨t,rfl⟩:=jm S.t;obtain⟨i,j,rfl⟩:=CH S.x S.v;exact⟨_,rfl,_,rfl,x,dx,sv,c,dc,nq,tq,ta,4,i,j,t,rfl,D,C,yw.p D k⟩
 refine⟨_,rfl,c,_,_,_,_,rfl,C.ins,T.c9.cl,T.cj,rfl,rfl,_,rfl,dG (λh5=>?_) λh5=>?_⟩
 ·have e:kd=5:=by omega
  subst e;obtain⟨t,rfl⟩:=jm S.t;obtain⟨i,j,rfl⟩:=CH S.x S.v;exact⟨_,rfl,_,rfl,x,dx,sv,c,dc,nq,tq,ta,5,i,j,t,rfl,D,C,yw.p D k⟩
 refine⟨_,rfl,c,_,_,_,_,rfl,C.ins,T.c9.cl,T.cj,rfl,rfl,_,rfl,dG (λh6=>?_) λh6=>?_⟩
 ·have e:kd=6:=by omega
  subst e;obtain⟨t,u,rfl⟩:=Kq S.t;exact⟨_,rfl,_,rfl,x,dx,sv,c,dc,nq,tq,ta,6,xs,t,u,rfl,D,C,yw.p D k⟩
 ·have e:kd=7:=by omega
  subst e;obtain⟨t,rfl⟩:=jm S.t;obtain⟨i,j,rfl⟩:=CH S.x S.v;exact⟨_,rfl,_,rfl,x,dx,sv,c,dc,nq,tq,ta,7,i,j,t,rfl,D,C,yw.p D k⟩
def Hh(K:PB)(C:Addr)(x:Str):Prop:=∃o cd,K.lookup C=some o/\o.data=Data.cls cd/\cd.name=x
theorem Hh.ne{K:PB}{C D:Addr}{x y:Str}(h1:Hh K C x)(h2:Hh K D y)(h:x≠y):C≠D:=λe=>by
 subst e;obtain⟨o,cd,l,d,n⟩:=h1;obtain⟨o',cd',l',d',n'⟩:=h2;rw[l]at l';cases l';rw[d]at d';cases d';exact h (n.symm.trans n')
structure Ox(K:PB)(a:Ad):Prop where
 nr:Hh K a.kC "NoRules"
 lf:Hh K a.bU "LineFault"
 rf:Hh K a.bD "RulesFault"
 nm:Hh K a.gy "NoSuchMove"
 nl:Hh K a.bJ "NotAMoveLine"
 ob:Hh K a.fE "OutOfBounds"
 tm:Hh K a.fC "TooManyRows"
def numsOf:Rf->List Int
 |.kt=>[-3]
 |.line k p=>[-5,k,p]
 |.rules k p=>[-6,(k:Nat),(p:Nat)]
 |.noMove=>[-2]
 |.noLine p=>[-4,(p:Nat)]
 |.out=>[-1]
 |.many=>[-9]
def doneA(s:Option R0)(kd:Nat)(xs:List Int)(ts:List (List Int)):Option R0×List Int:=match sf s kd xs ts with
 |.ok p=>p
 |.error f=>(s,numsOf f)
def O6(a:Ad)(H:Hp)(c:Value)(e:Addr):Rf->Prop
 |.kt=>c=.ref a.kC
 |.line k p=>c=.ref a.bU/\∃d cx,H e=some (XO e a.bU (some d) cx)/\H d=some (XD d [("kind",.int k),("place",.int p)])
 |.rules k p=>c=.ref a.bD/\∃d cx,H e=some (XO e a.bD (some d) cx)/\H d=some (XD d [("kind",.int (k:Nat)),("place",.int (p:Nat))])
 |.noMove=>c=.ref a.gy
 |.noLine p=>c=.ref a.bJ/\∃d cx,H e=some (XO e a.bJ (some d) cx)/\H d=some (XD d [("place",.int (p:Nat))])
 |.out=>c=.ref a.fE
 |.many=>c=.ref a.fC
def Nm(a:Ad)(H:Hp)(res:Except Rf (Option R0×List Int)):XK:=λc eo H'=>∃f e,res=.error f/\eo=some e/\aD H H'/\O6 a H' c e f
theorem KT{H:Hp}{res:Except Rf (Option R0×List Int)}{f:Rf}(h:res=.error f):Gp a H (Nm a H res) f:=by
 cases f with
 |kt=>exactλH' e s he=>⟨_,e,h,rfl,s,rfl⟩
 |line k p=>exactλH' e d cx s he hd=>⟨_,e,h,rfl,s,rfl,d,cx,he,hd⟩
 |rules k p=>exactλH' e d cx s he hd=>⟨_,e,h,rfl,s,rfl,d,cx,he,hd⟩
 |noMove=>exactλH' e s he=>⟨_,e,h,rfl,s,rfl⟩
 |noLine p=>exactλH' e d cx s he hd=>⟨_,e,h,rfl,s,rfl,d,cx,he,hd⟩
 |out=>exactλH' e s he=>⟨_,e,h,rfl,s,rfl⟩
 |many=>exactλH' e s he=>⟨_,e,h,rfl,s,rfl⟩
inductive MB(a:Ad)(vs:List V)(H:Hp)(Q:VK)(E:XK):Prop
 |mk (x dx:Addr) (sv:Option (RA×R0)) (c dc nq tq:Addr) (ta:List Addr) (kd:Nat) (xs:List Int) (ts:List (List Int)) (_:vs=[.ref x,.ref c]) (_:kr a H x dx sv) (_:qC a H c dc nq tq ta kd xs ts) (_:M6 kd xs ts) (_:∀H' q(S':Option (RA×R0)),Ex x H H'->kr a H' x dx S'->(S'=sv\/∀A r,S'=some (A,r)->JU H A)->S'.map (·.2)=(doneA (sv.map (·.2)) kd xs ts).1->H q=none->H' q=some (.lst ((doneA (sv.map (·.2)) kd xs ts).2.map V.int))->Q (.ref q) H'):MB a vs H Q E
theorem eD:az ["desk","call","fault"] ["desk","call"] (aj (top 110)):=aR
theorem qK(T:Tx K mg a)(Y:Ox K a):a4 P w K mg base (cW P w) 12 a.dC a.kQ ["desk","call"] (MB a):=by
 refine T.dC.F.oO eD λcdv A outer s H vs Q E hr h=>?_;obtain⟨x,dx,sv,c,dc,nq,tq,ta,kd,xs,ts,rfl,D,C,S,k⟩:=h;unfold doneA at k;intro X;refine⟨_,(cT (De (E':=(Nm a H (sf (sv.map (·.2)) kd xs ts))) (j7 hr.hd) (λpn xe LL=>(cT (aE (dm T.gV (yA T) hr LL.passes (aa (pv 0) (aa (pv 1) ae)))))) (D_ (j7 hr.hd) rfl T.qg.m T.qg.ID (λe0 pn=>(cT (aE (cb (aa (oE jZ aw) ae))))) (BP (i:=2) (j7 hr.hd) ay rfl T.de.m T.de.ID eD.nd rfl rfl (λe0 pn xe L2L=>(cT (aE (cb (aa (oE jZ aw) (aa (lA K rfl (pv 2) rfl) (aa (lA K rfl (pv 2) rfl) ae))))))) (BP (i:=2) (j7 hr.hd) ay rfl T.bB.m T.bB.ID eD.nd rfl rfl (λe0 pn xe L2L=>(cT (aE (cb (aa (oE jZ aw) (aa (lA K rfl (pv 2) rfl) (aa (lA K rfl (pv 2) rfl) ae))))))) (D_ (j7 hr.hd) rfl T.e8.m T.e8.ID (λe0 pn=>(cT (aE (cb (aa (oE jZ aw) ae))))) (BP (i:=2) (j7 hr.hd) ay rfl T.bW.m T.bW.ID eD.nd rfl rfl (λe0 pn xe L2L=>(cT (aE (cb (aa (oE jZ aw) (aa (lA K rfl (pv 2) rfl) ae)))))) (D_ (j7 hr.hd) rfl T.cQ.m T.cQ.ID (λe0 pn=>(cT (aE (cb (aa (oE jZ aw) ae))))) (D_ (j7 hr.hd) rfl T.cg.m T.cg.ID (λe0 pn=>(cT (aE (cb (aa (oE jZ aw) ae))))) CJ))))))))),?_,λC' e H' hx=>?_⟩
 ·refine⟨_,rfl,_,rfl,x,dx,sv,c,dc,nq,tq,ta,kd,xs,ts,rfl,D,C,S,?_⟩
  cases hc:sf (sv.map (·.2)) kd xs ts with
  |error f=>exact KT rfl
  |ok p=>
   rw[hc]at k;exactλH' q S' e D' F m n h=>k H' q S' e D' F m n h
 ·obtain⟨f,e',hf,he',s1,hX⟩:=hx
  cases he';rw[hf]at k;dsimp only at k;have D1:=D.same s1;have fin:∀q,H' q=none->Q (.ref q) (upd H' q (.lst ((numsOf f).map V.int))):=λq nq=>k _ q sv (s1.trans (aA nq)).ex (D1.same (aA nq)) (.inl rfl) rfl (s1.free nq) ah;clear k;cases f with
  |kt=>
   cases hX;exact⟨T.qg.cl,λ_=>⟨_,rfl,(by rw[PL];show 1<=_;omega),fin⟩,λz=>absurd rfl z⟩
  |line kk p=>
   obtain⟨hC,d,cx,he,hd⟩:=hX;cases hC;refine⟨T.de.cl,λz=>absurd z (Y.lf.ne Y.nr (by decide+kernel)),λ_=>⟨T.de.cl,λ_=>?_,λz=>absurd rfl z⟩⟩;exact⟨_,rfl,_,rfl,e,_,d,_,_,_,rfl,he,hd,T.de.cl,T.nh,rfl,_,rfl,e,_,d,_,_,_,rfl,he,hd,T.de.cl,T.lX,rfl,(by rw[PL];show 3<=_;omega),fin⟩
  |rules kk p=>
   obtain⟨hC,d,cx,he,hd⟩:=hX;cases hC;refine⟨T.bB.cl,λz=>absurd z (Y.rf.ne Y.nr (by decide+kernel)),λ_=>⟨T.bB.cl,λz=>absurd z (Y.rf.ne Y.lf (by decide+kernel)),λ_=>⟨T.bB.cl,λ_=>?_,λz=>absurd rfl z⟩⟩⟩;exact⟨_,rfl,_,rfl,e,_,d,_,_,_,rfl,he,hd,T.bB.cl,T.mr,rfl,_,rfl,e,_,d,_,_,_,rfl,he,hd,T.bB.cl,T.lP,rfl,(by rw[PL];show 3<=_;omega),fin⟩
  |noMove=>
   cases hX;exact⟨T.e8.cl,λz=>absurd z (Y.nm.ne Y.nr (by decide+kernel)),λ_=>⟨T.e8.cl,λz=>absurd z (Y.nm.ne Y.lf (by decide+kernel)),λ_=>⟨T.e8.cl,λz=>absurd z (Y.nm.ne Y.rf (by decide+kernel)),λ_=>⟨T.e8.cl,λ_=>⟨_,rfl,(by rw[PL];show 1<=_;omega),fin⟩,λz=>absurd rfl z⟩⟩⟩⟩
  |noLine p=>
   obtain⟨hC,d,cx,he,hd⟩:=hX;cases hC;refine⟨T.bW.cl,λz=>absurd z (Y.nl.ne Y.nr (by decide+kernel)),λ_=>⟨T.bW.cl,λz=>absurd z (Y.nl.ne Y.lf (by decide+kernel)),λ_=>⟨T.bW.cl,λz=>absurd z (Y.nl.ne Y.rf (by decide+kernel)),λ_=>⟨T.bW.cl,λz=>absurd z (Y.nl.ne Y.nm (by decide+kernel)),λ_=>⟨T.bW.cl,λ_=>?_,λz=>absurd rfl z⟩⟩⟩⟩⟩;exact⟨_,rfl,_,rfl,e,_,d,_,_,_,rfl,he,hd,T.bW.cl,T.jH,rfl,(by rw[PL];show 2<=_;omega),fin⟩
  |out=>
   cases hX;exact⟨T.cQ.cl,λz=>absurd z (Y.ob.ne Y.nr (by decide+kernel)),λ_=>⟨T.cQ.cl,λz=>absurd z (Y.ob.ne Y.lf (by decide+kernel)),λ_=>⟨T.cQ.cl,λz=>absurd z (Y.ob.ne Y.rf (by decide+kernel)),λ_=>⟨T.cQ.cl,λz=>absurd z (Y.ob.ne Y.nm (by decide+kernel)),λ_=>⟨T.cQ.cl,λz=>absurd z (Y.ob.ne Y.nl (by decide+kernel)),λ_=>⟨T.cQ.cl,λ_=>⟨_,rfl,(by rw[PL];show 1<=_;omega),fin⟩,λz=>absurd rfl z⟩⟩⟩⟩⟩⟩
  |many=>
   cases hX;exact⟨T.cg.cl,λz=>absurd z (Y.tm.ne Y.nr (by decide+kernel)),λ_=>⟨T.cg.cl,λz=>absurd z (Y.tm.ne Y.lf (by decide+kernel)),λ_=>⟨T.cg.cl,λz=>absurd z (Y.tm.ne Y.rf (by decide+kernel)),λ_=>⟨T.cg.cl,λz=>absurd z (Y.tm.ne Y.nm (by decide+kernel)),λ_=>⟨T.cg.cl,λz=>absurd z (Y.tm.ne Y.nl (by decide+kernel)),λ_=>⟨T.cg.cl,λz=>absurd z (Y.tm.ne Y.ob (by decide+kernel)),λ_=>⟨T.cg.cl,λ_=>⟨_,rfl,(by rw[PL];show 1<=_;omega),fin⟩,λz=>absurd rfl z⟩⟩⟩⟩⟩⟩⟩
abbrev Cl:=Nat×List Int×List (List Int)
def Ng(ns:List Int):Nat->List Cl->Prop
 |n,[]=>ns.length<=n
 |n,c::l=>∃n',KA ns n c.1 c.2.1 c.2.2 n'/\(∀v∈c.2.1,0<=v)/\Ng ns n' l
def wM:Option R0->List Cl->List Int
 |_,[]=>[]
 |s,c::l=>wc (doneA s c.1 c.2.1 c.2.2).2++wM (doneA s c.1 c.2.1 c.2.2).1 l
theorem gE{α β:Type}{r:Except Rf α}{f:α->Except Rf β}{b:β}(h:mR r f=.ok b):∃x,r=.ok x/\f x=.ok b:=by
 cases r with
 |error e=>cases h
 |ok x=>exact⟨x,rfl,h⟩
theorem v_{s:Option R0}{ns:List Int}{p:R0×List Int×Int}(h:nR s ns=.ok p):s=some p.1:=by
 unfold nR at h;cases s with
 |none=>cases h
 |some r=>
  dsimp only at h;cases hl:uH r ns with
  |error e=>rw[hl]at h;cases h
  |ok q=>rw[hl]at h;cases h;rfl
theorem JJ{s:Option R0}(W:∀r,s=some r->zT r){kd:Nat}{xs:List Int}{ts:List (List Int)}{p:Option R0×List Int}(h:sf s kd xs ts=.ok p):p.2.length<=40000:=by
 unfold sf at h;split at h
 ·split at h
  ·cases h
   exact Qq (by decide:[(0:Int)].length<=1) (by decide)
  ·cases h
 ·obtain⟨l,h1,h2⟩:=gE h
  cases h2;unfold xH at h1;cases s with
  |none=>cases h1
  |some r=>
   cases h1;have:=o6 (W r rfl) r.start r.first;show(0::wc _).length<=_;rw[Qj,gQ];omega
 ·obtain⟨l,h1,h2⟩:=gE h
  cases h2;obtain⟨q,h3,h4⟩:=gE h1;cases h4;exact Qq (PF 1) (by decide)
 ·obtain⟨l,h1,h2⟩:=gE h
  cases h2;obtain⟨q,h3,h4⟩:=gE h1;cases h4;have:=xO q.1 q.2.1 q.2.2 (W _ (v_ h3));have fl:=nk (λ(e:Nat×Nat)=>wc (rowOf q.1 q.2.1 q.2.2 e.1 e.2)) 8 (λe=>by rw[gQ];have:=kG q.1 q.2.1 q.2.2 e.1 e.2;omega) (aQ q.1 q.2.1 q.2.2);show(0::_::_).length<=_;rw[Qj,Qj];omega
 ·obtain⟨l,h1,h2⟩:=gE h
  cases h2;obtain⟨q,h3,h4⟩:=gE h1;split at h4
  ·cases h4
   rename_i i j t _
   have:=o6 (W _ (v_ h3)) (bz q.1 q.2.1 i.toNat j.toNat) (1-q.2.2);have:=ir q.1 (ba q.2.1 i.toNat j.toNat) j.toNat;show(_::(_++_)).length<=_;rw[Qj,P0,gQ,gQ];omega
  ·cases h4
 ·obtain⟨l,h1,h2⟩:=gE h
  cases h2;obtain⟨q,h3,h4⟩:=gE h1;split at h4
  ·cases h4
   rename_i i j t hm
   obtain⟨b1,b2⟩:=kK (W _ (v_ h3)) (kN.mp hm);have b3:(codes (sD q.1 q.2.1 q.2.2 i.toNat j.toNat)).length<=26:=zC (ps:=q.2.1) (tn:=q.2.2) (W _ (v_ h3)) b1 b2;show(0::wc _).length<=_;rw[Qj,gQ];omega
  ·cases h4
 ·obtain⟨l,h1,h2⟩:=gE h
  cases h2;obtain⟨q,h3,h4⟩:=gE h1;split at h4
  ·cases h4
   rename_i e _
   have:=kG q.1 q.2.1 q.2.2 e.1 e.2;show(0::wc _).length<=_;rw[Qj,gQ];omega
  ·cases h4
 ·obtain⟨l,h1,h2⟩:=gE h
  cases h2;obtain⟨q,h3,h4⟩:=gE h1;split at h4
  ·split at h4
   ·cases h4
    rename_i i j t hb _
    have:=uG q.1 q.2.1 q.2.2 i.toNat j.toNat;show(0::wc _).length<=_;rw[Qj,gQ];omega
   ·cases h4
  ·cases h4
 ·cases h
theorem GI{s:Option R0}(W:∀r,s=some r->zT r)(kd:Nat)(xs:List Int)(ts:List (List Int)):(doneA s kd xs ts).2.length<=40000:=by
 unfold doneA;cases h:sf s kd xs ts with
 |ok p=>exact JJ W h
 |error f=>cases f<;>exact Qq (Nat.le_of_lt_succ (by simp[numsOf]:_<4)) (by decide)
def Pn:HO->List Str
 |.ins _ _ fs=>fs.map (·.1)
 |_=>[]
structure NP(td:Addr)(A:RA):Prop where
 cs:A.cs≠td
 wz:A.wz≠td
 gr:A.gr≠td
 sp:A.sp≠td
 ws:∀b∈A.ws,b≠td
theorem ou.put{a:Ad}{H:Hp}{A:RA}{r:R0}{td:Addr}{xs ys:List V}(R:ou a H A r)(ht:H td=some (.lst xs))(N:NP td A):ou a (upd H td (.lst ys)) A r:=
 ⟨by rw[ai (bf R.ins ht λz=>nomatch z)];exact R.ins,by rw[ai N.cs];exact R.cs,by rw[ai N.wz];exact R.wz,R.wl,λd y e=>by rw[ai (N.ws y (Ql e))];exact R.wy d y e,by rw[ai N.gr];exact R.gr,by rw[ai (bf R.st ht λz=>nomatch z)];exact R.st,by rw[ai N.sp];exact R.sp,R.ok⟩
inductive B0(K:PB)(vs:List V)(H:Hp)(Q:VK)(E:XK):Prop
 |mk (g:Addr) (ns:List Int) (l:List Cl) (_:vs=[.ref g]) (_:a0 K H g (ns.map V.int)) (_:Ng ns 0 l) (_:l.length<=300) (_:∀H' q,aD H H'->H' q=some (.lst ((wM none l).map V.int))->Q (.ref q) H'):B0 K vs H Q E
theorem IG{H H':Hp}{g:Addr}{xs:List V}(h:a0 K H g xs)(s:aD H H'):a0 K H' g xs:=by
 rcases h with(h|⟨o,h⟩)|h
 ·exact .inl (.inl (s _ _ h))
 ·exact .inl (.inr ⟨o,s _ _ h⟩)
 ·exact .inr h
theorem nY:az ["calls","desk","intake","told"] ["calls"] (aj (top 111)):=aR
theorem Du(T:Tx K mg a)(Y:Ox K a):a4 P w K mg base (cW P w) 13 a.kH a.qw ["calls"] (B0 K):=by
 refine T.kH.F.kP nY λcdv A outer s H vs Q E hr h=>?_;obtain⟨g,ns,l,rfl,hg,hp,hl,k⟩:=h
 exists aB (e_ 1 nY.nd (Bn T.K5 (AV T) (hr.mono (by decide)) rfl T.eQ.m T.iB.b .nil aK)) (aB (e_ 2 nY.nd (F8 T.Hs (wI T) hr T.cR T.fB aK (aa (pv 0) ae))) (aB (e_ 3 nY.nd (cb ae)) (aB (jE QS (lK (dD (E7 (pv 2) T.cR T.eF (sY T) hr aK))) (aF (aZ (jg Qy Rh Ri kI (pv 3) (aa (dm T.bY (df T) hr aK (aa (dm T.dC (qK T Y) hr aK (aa (pv 1) (aa (F8 T.Lo (AI T) hr T.c9 T.iz aK (aa (pv 2) ae)) ae))) ae)) ae))))) (aF (aE (pv 3))))))
 intro x dx nx ndx nne;refine⟨x,dx,rfl,ah,rfl,?_⟩;rw[eR];have S1:aD H (upd (upd H dx (.own x)) x (.ins a.eO dx (Fo none))):=(aA ndx).trans (aA (by rw[ai (PZ nne)];exact nx));have x1:(upd (upd H dx (.own x)) x (.ins a.eO dx (Fo none))) x=some (.ins a.eO dx (Fo none)):=ah;generalize upd (upd H dx (.own x)) x (.ins a.eO dx (Fo none))=H1 at*;refine⟨_,rfl,λik dk nik ndk nne2=>⟨ik,dk,g,rfl,ah,rfl,?_⟩⟩;rw[eR];have S2:aD H1 (upd (upd H1 dk (.own ik)) ik (.ins a.aS dk (rB g 0))):=(aA ndk).trans (aA (by rw[ai (PZ nne2)];exact nik));have i2:(upd (upd H1 dk (.own ik)) ik (.ins a.aS dk (rB g 0))) ik=some (.ins a.aS dk (rB g 0)):=ah;have xik:x≠ik:=ak x1 nik;generalize upd (upd H1 dk (.own ik)) ik (.ins a.aS dk (rB g 0))=H2 at*;refine⟨QG _,λtd ntd=>?_⟩;have S3:=aA (o:= .lst []) ntd;have nx0:H x=none:=nx;have nik0:H ik=none:=S1.free nik;have ntd0:H td=none:=(S1.trans S2).free ntd;have D3:kr a (upd H2 td (.lst [])) x dx none:=⟨(S2.trans S3) _ _ x1,λA r e=>nomatch e⟩;have hns:∀{H':Hp},aD H H'->a0 K H' g (ns.map V.int):=λ{H'} s=>IG hg s;refine⟨λm σ H'=>∃(n:Nat)(lc:List Cl)(sv:Option (RA×R0))(acc:List Int),σ=[some (.ref g),some (.ref x),some (.ref ik),some (.ref td)]/\aD H H'/\kr a H' x dx sv/\H' ik=some (.ins a.aS dk (rB g n))/\H' td=some (.lst (acc.map V.int))/\Ng ns n lc/\lc.length=m/\m<=300/\acc.length<=(300-m)*40001/\(∀A r,sv=some (A,r)->NP td A)/\wM none l=acc++wM (sv.map (·.2)) lc,⟨l.length,0,l,none,[],rfl,(S1.trans S2).trans S3,D3,S3 _ _ i2,by rw[ah];rfl,hp,rfl,hl,by simp,λA r e=>(nomatch e),rfl⟩,?_⟩
 rintro m σ H4 ⟨n,lc,sv,acc,rfl,s4,D4,i4,t4,p4,rfl,hm,ha,N4,hs⟩
 refine⟨_,rfl,ik,dk,_,rfl,i4,rfl,ik,dk,g,ns,n,rfl,⟨i4,hns s4⟩,_,rfl,fO (λg1=>?_) λg1=>?_⟩
 ·have g1:n<ns.length:=by
   have q:decide (ns.length<=n)=false:=by simpa using g1
   have:=of_decide_eq_false q;omega
  cases lc with
  |nil=>exact absurd g1 (Nat.not_lt.mpr p4)
  |cons c lc=>
   obtain⟨n',pc,pv',p5⟩:=p4;obtain⟨kd,xs,ts⟩:=c;rw[Qj]at hm ha;refine⟨_,λ_ _ h=>h,?_⟩;refine⟨_,rfl,.inl ⟨rfl,_,a0.of t4⟩,_,rfl,_,rfl,λcc dc nc ndc nne3=>?_⟩;have S5:=b9 (C:=a.bX) nc ndc nne3;have c5:(upd (upd H4 dc (.own cc)) cc (.ins a.bX dc [])) cc=some (.ins a.bX dc []):=ah;have ncik:cc≠ik:=PZ (ak i4 nc);have ncx:x≠cc:=ak D4.ins nc;generalize upd (upd H4 dc (.own cc)) cc (.ins a.bX dc [])=H5 at*;have s5:=s4.trans S5;have D5:=D4.same S5;refine⟨cc,dc,ik,dk,g,ns,n,kd,xs,ts,n',rfl,c5,ncik,⟨S5 _ _ i4,hns s5⟩,pc,λH6 nq tq ta f6 C6 I6=>⟨rfl,?_⟩⟩;have ncc0:H cc=none:=s4.free nc;have s6:aD H H6:=λb o q=>f6 b o (s5 b o q) (by simp[ak q ncc0,ak q nik0]);have kl:∀b(v:List V),H5 b=some (.lst v)->H6 b=some (.lst v):=λb v h=>f6 b _ h (by simp[bf h c5 (λz=>nomatch z),bf h (S5 _ _ i4) (λz=>nomatch z)]);have D6:kr a H6 x dx sv:=by
    refine⟨f6 _ _ D5.ins (by simp[ncx,xik]),λA' r e=>?_⟩;have R5:=D5.ra A' r e;exact⟨f6 _ _ R5.ins (by simp[bf R5.ins c5 (λz=>absurd (QI nF z) (by show¬15=0;decide)),bf R5.ins (S5 _ _ i4) (λz=>absurd (QI nF z) (by show¬15=2;decide))]),kl _ _ R5.cs,kl _ _ R5.wz,R5.wl,λd y e=>kl _ _ (R5.wy d y e),kl _ _ R5.gr,f6 _ _ R5.st (by
     have q1:A'.st≠cc:=bf R5.st c5 (λz=>absurd (QI nF z) (by show¬2=0;decide));have q2:A'.st≠ik:=bf R5.st (S5 _ _ i4) (λz=>absurd (QI Pn z) (by show¬((["pieces","turn"]:List Str)=(["calls","place"]:List Str));decide+kernel));simp[q1,q2]),kl _ _ R5.sp,R5.ok⟩
   have t6:=kl _ _ (S5 _ _ t4);have W6:∀r,sv.map (·.2)=some r->zT r:=λr e=>by
    cases sv with
    |none=>cases e
    |some p=>
     cases e;exact(D4.ra p.1 p.2 rfl).ok
   have dl:=GI W6 kd xs ts;refine⟨x,dx,sv,cc,dc,nq,tq,ta,kd,xs,ts,rfl,D6,C6,⟨pc.kl,pc.xl,pv',pc.tl⟩,λH7 q S' e7 D7 F7 m7 n7 h7=>⟨q,_,rfl,h7,by omega,λH8 q8 s8 n8 h8=>?_⟩⟩;have tx:td≠x:=bf t6 D6.ins λz=>nomatch z;have t8:=s8 _ _ (e7 _ _ t6 tx);have i8:=s8 _ _ (e7 _ _ I6.ins (PZ xik));have D8:=D7.same s8;have sH8:aD H H8:=λb o q=>s8 _ _ (e7 b o (s6 b o q) (ak q nx0));have N8:∀A r,S'=some (A,r)->NP td A:=λA r e=>by
    rcases F7 with z|z
    ·exact N4 A r (z▸e)
    ·have F:=z A r e
     exact⟨PZ (ak t6 F.cs),PZ (ak t6 F.wz),PZ (ak t6 F.gr),PZ (ak t6 F.sp),λb hb=>PZ (ak t6 (F.ws b hb))⟩
   have e300:300-lc.length=(300-(lc.length+1))+1:=by omega
   have hmul:(300-lc.length)*40001=(300-(lc.length+1))*40001+40001:=by rw[e300,Nat.succ_mul]
   have hb:(300-(lc.length+1))*40001<=299*40001:=Q_ _ (by omega);refine⟨td,q8,_,_,rfl,rfl,t8,h8,(by rw[Px,Px,PL,gQ];omega),lc.length,by rw[Qj];omega,n',lc,S',acc++wc (doneA (sv.map (·.2)) kd xs ts).2,rfl,cY ntd0 sH8,⟨by rw[ai (PZ tx)];exact D8.ins,λA r e=>(D8.ra A r e).put t8 (N8 A r e)⟩,by rw[ai (bf i8 t8 λz=>nomatch z)];exact i8,by rw[ah,Qg],p5,rfl,by omega,?_,N8,?_⟩
   ·rw[P0,gQ,hmul]
    omega
   ·rw[hs,m7,QH]
    rfl
 ·have g1:ns.length<=n:=by
   have q:decide (ns.length<=n)=true:=by simpa using g1
   exact PR q
  cases lc with
  |cons c lc=>
   obtain⟨n',pc,_⟩:=p4;have:=(PQ.mp pc.k).1;omega
  |nil=>
   refine⟨_,rfl,k H4 td s4 ?_⟩;rw[t4,hs];show _=some (HO.lst ((acc++[]).map V.int));rw[QA]
def bC(b:PX):List Int:=b.map λ(c:UInt8)=>((c.toNat:Nat):Int)
def Bq:Tafl.Kind->Int
 |.plain=>0
 |.seat=>1
 |.exit=>2
 |.wall=>3
def dJ:Qo->Int
 |.none=>0
 |.hunter=>1
 |.man=>2
 |.king=>3
def b2i(b:Bool):Int:=if b=true then 1 else 0
theorem Fa{x y:Tafl.Kind}(h:Bq x=Bq y):x=y:=by cases x<;>cases y<;>first|rfl|cases h
theorem eP{x y:Qo}(h:dJ x=dJ y):x=y:=by cases x<;>cases y<;>first|rfl|cases h
structure c8(r:R0)(R:PK):Prop where
 w:r.wide=R.wide
 h:r.high=R.high
 tS:R.wide<=13
 vm:R.high<=13
 w5:5<=R.wide
 h5:5<=R.high
 sl:r.slides=b2i R.slides
 ar:r.armed=b2i R.armed
 fo:r.four=b2i R.four
 pa:r.passed=b2i R.passed
 se:r.seat=(R.seat:Nat)
 O9:R.seat<=3
 ex:r.exits=(R.exits:Nat)
 Pu:R.exits<=3
 go:r.goal=(R.goal:Nat)
 wf:zT r
 gr:∀c,c<169->r.ground.getD c 0=Bq (R.kindAt c)
structure dL(R:PK)(p:Qu)(ps:List Int)(t:Int):Prop where
 wf:rZ ps
 sd:t=((p.side:Nat):Int)
 JT:p.side=0\/p.side=1
 h:∀c,p.hunters.testBit c=true↔c<169/\ps.getD c 0=1
 m:∀c,p.men.testBit c=true↔c<169/\ps.getD c 0=2
 k:(p.king=255/\∀c,c<169->ps.getD c 0≠3)\/(p.king<169/\ps.getD p.king 0=3/\∀c,c<169->ps.getD c 0=3->c=p.king)
 g:∀c,c<169->ps.getD c 0≠0->c%13<R.wide/\c/13<R.high
theorem Cr{n c:Nat}{P:Prop}(h:n.testBit c=true↔P)(hn:¬P):n.testBit c=false:=by
 cases e:n.testBit c with
 |false=>rfl
 |true=>exact absurd (h.mp e) hn
theorem dL.on{R:PK}{p:Qu}{ps:List Int}{t:Int}(P:dL R p ps t){c:Nat}(hc:c<169):dJ (p.on c)=ps.getD c 0:=by
 unfold Tafl.Pos.on;obtain⟨v0,v3⟩:=P.wf.val c;have cs:ps.getD c 0=0\/ps.getD c 0=1\/ps.getD c 0=2\/ps.getD c 0=3:=by omega
 have hk:p.king=c↔ps.getD c 0=3:=by
  rcases P.k with⟨h1,h2⟩|⟨h1,h2,h3⟩
  ·exact⟨λe=>by omega,λe=>absurd e (h2 c hc)⟩
  ·exact⟨λe=>by rw[<-e];exact h2,λe=>(h3 c hc e).symm⟩
 rcases cs with e|e|e|e
 ·rw[Py (λz=>by have:=hk.mp z;omega),Py (by rw[Cr (P.h c) (λz=>by omega)];exact PM),Py (by rw[Cr (P.m c) (λz=>by omega)];exact PM),e]
  rfl
 ·rw[Py (λz=>by have:=hk.mp z;omega),Pz ((P.h c).mpr ⟨hc,e⟩),e]
  rfl
 ·rw[Py (λz=>by have:=hk.mp z;omega),Py (by rw[Cr (P.h c) (λz=>by omega)];exact PM),Pz ((P.m c).mpr ⟨hc,e⟩),e]
  rfl
 ·rw[Pz (hk.mpr e),e]
  rfl
theorem dL.is{R:PK}{p:Qu}{ps:List Int}{t:Int}(P:dL R p ps t){c:Nat}(hc:c<169)(x:Qo):(p.on c==x)=decide (ps.getD c 0=dJ x):=by
 rw[<-P.on hc,QN,QQ,PV];exact⟨λe=>by rw[e],λe=>eP e⟩
theorem c8.kind{r:R0}{R:PK}(Q:c8 r R){c:Nat}(hc:c<169)(x:Tafl.Kind):(R.kindAt c==x)=decide (r.ground.getD c 0=Bq x):=by
 rw[Q.gr c hc,QN,QQ,PV];exact⟨λe=>by rw[e],λe=>Fa e⟩
theorem Jh{l:List Nat}{N:Nat}(s:l.Pairwise (·<·))(b:∀x∈l,x<N)(p:Nat->Bool)(hp:∀x,x<N->(p x=true↔x∈l)):l=(List.range N).filter p:=by
 have n1:l.Nodup:=s.imp λh=>QC h;have s2:((List.range N).filter p).Pairwise (·<·):=Q4.filter _;have n2:((List.range N).filter p).Nodup:=s2.imp λh=>QC h;refine List.Perm.eq_of_pairwise (le:=(·<·)) (λa b _ _ h1 h2=>absurd (RQ h1 h2) (Q3 _)) s s2 ((List.perm_ext_iff_of_nodup n1 n2).mpr λx=>?_);rw[Qz,Qe];exact⟨λh=>⟨b x h,(hp x (b x h)).mpr h⟩,λh=>(hp x h.1).mp h.2⟩
theorem Bt{l:List Int}{N:Nat}(n:l.Nodup)(b:∀v∈l,∃x:Nat,v=(x:Nat)/\x<N)(p:Nat->Bool)(hp:∀x,x<N->(p x=true↔((x:Nat):Int)∈l)):Iz l=((List.range N).filter p).map λ(x:Nat)=>((x:Nat):Int):=by
 have s2:((List.range N).filter p).Pairwise (·<·):=Q4.filter _;have s3:(((List.range N).filter p).map λ(x:Nat)=>((x:Nat):Int)).Pairwise (·<=·):=by
  rw[Ru];exact s2.imp λh=>by omega
 have n3:(((List.range N).filter p).map λ(x:Nat)=>((x:Nat):Int)).Nodup:=by
  unfold List.Nodup;rw[Ru];exact s2.imp λh=>by omega
 refine(Dn ((List.perm_ext_iff_of_nodup n3 n).mpr λv=>?_) s3).symm;constructor
 ·intro h
  obtain⟨x,hx,rfl⟩:=P_.mp h;obtain⟨h1,h2⟩:=Qz.mp hx;exact(hp x (Qe.mp h1)).mp h2
 ·intro h
  obtain⟨x,rfl,hx⟩:=b v h;exact P_.mpr ⟨x,Qz.mpr ⟨Qe.mpr hx,(hp x hx).mpr h⟩,rfl⟩
theorem up_eq{wide high:Nat}(hw:wide<=13)(hh:high<=13):uC wide high=((List.range 192).filter λ(c:Nat)=>decide (c%13<wide)&&decide (c/13<high)).map λ(x:Nat)=>((x:Nat):Int):=by
 have e:uC wide high=((List.range high).flatMap λ(y:Nat)=>(List.range wide).map λ(x:Nat)=>13*y+x).map λ(x:Nat)=>((x:Nat):Int):=by
  unfold uC;rw[Ry];simp only[QJ];rfl
 rw[e]
 congr 1
 refine Jh ?_ (λv hv=>?_) _ λv hv=>?_
 ·rw[List.pairwise_flatMap]
  refine⟨λy _=>?_,?_⟩
  ·rw[Ru]
   exact Q4.imp λh=>by omega
  ·refine Q4.imp λh u hu v hv=>?_
   obtain⟨i,hi,rfl⟩:=P_.mp hu;obtain⟨j,hj,rfl⟩:=P_.mp hv;have:=Qe.mp hi;omega
 ·obtain⟨y,hy,hv⟩:=QU.mp hv
  obtain⟨x,hx,rfl⟩:=P_.mp hv;have hy:=Qe.mp hy;have hx:=Qe.mp hx;omega
 ·rw[P4,PV,PV]
  constructor
  ·rintro⟨h1,h2⟩
   exact QU.mpr ⟨v/13,Qe.mpr h2,P_.mpr ⟨v%13,Qe.mpr h1,by omega⟩⟩
  ·intro h
   obtain⟨y,hy,h⟩:=QU.mp h;obtain⟨x,hx,rfl⟩:=P_.mp h;have hy:=Qe.mp hy;have hx:=Qe.mp hx;exact⟨by omega,by omega⟩
def En:Option Nat->Int
 |none=> -1
 |some n=>((n:Nat):Int)
theorem ma{r:R0}{R:PK}(Q:c8 r R){c d:Nat}(hd:d<4)(h1:c%13<R.wide)(h2:c/13<R.high):di r.wide r.high c (cB d) (cC d)=En (R.next d c):=by
 rw[Q.w,Q.h];unfold di Tafl.Rules.next Tafl.cellOf Tafl.STRIDE
 match d,hd with
 |0,_=>
  simp only[cB,cC]
  by_cases h:c/13+1<R.high
  ·simp[h,En]
   intro hx;have:=hx (by omega) (by omega) (by omega);omega
  ·simp[h,En]
   omega
 |1,_=>
  simp only[cB,cC]
  by_cases h:c%13+1<R.wide
  ·simp[h,En]
   intro hx;have:=hx (by omega) (by omega) (by omega);omega
  ·simp[h,En]
   omega
 |2,_=>
  simp only[cB,cC]
  by_cases h:0<c/13
  ·simp[h,En]
   rw[Pz (by omega)];omega
  ·simp[h,En]
   omega
 |3,_=>
  simp only[cB,cC]
  by_cases h:0<c%13
  ·simp[h,En]
   rw[Pz (by omega)];omega
  ·simp[h,En]
   omega
theorem jB{R:PK}{c d n:Nat}(hd:d<4)(hw:R.wide<=13)(hh:R.high<=13)(h1:c%13<R.wide)(h2:c/13<R.high)(e:R.next d c=some n):n<169/\n%13<R.wide/\n/13<R.high:=by
 unfold Tafl.Rules.next Tafl.cellOf Tafl.STRIDE at e
 match d,hd with
 |0,_=>simp at e;omega
 |1,_=>simp at e;omega
 |2,_=>simp at e;omega
 |3,_=>simp at e;omega
def iL(l:List Nat):List Int:=l.map λ(x:Nat)=>((x:Nat):Int)
theorem free_eq{r:R0}{R:PK}{p:Qu}{ps:List Int}{t:Int}(Q:c8 r R)(P:dL R p ps t){c:Nat}(hc:c<169):R.free p c=(!decide (r.ground.getD c 0=3)&&decide (ps.getD c 0=0)):=by
 unfold Tafl.Rules.free;rw[P.is hc];have e:(R.kindAt c != .wall)= !decide (r.ground.getD c 0=3):=by
  unfold bne;rw[Q.kind hc];rfl
 rw[e];rfl
theorem nP{r:R0}{R:PK}(Q:c8 r R){c:Nat}(hc:c<169):(R.kindAt c=.plain/\r.ground.getD c 0=0)\/(R.kindAt c=.seat/\r.ground.getD c 0=1)\/(R.kindAt c=.exit/\r.ground.getD c 0=2)\/(R.kindAt c=.wall/\r.ground.getD c 0=3):=by
 have g:=Q.gr c hc;cases h:R.kindAt c with
 |plain=>rw[h]at g;exact .inl ⟨rfl,g⟩
 |seat=>rw[h]at g;exact .inr (.inl ⟨rfl,g⟩)
 |exit=>rw[h]at g;exact .inr (.inr (.inl ⟨rfl,g⟩))
 |wall=>rw[h]at g;exact .inr (.inr (.inr ⟨rfl,g⟩))
theorem Ce{r:R0}{R:PK}{p:Qu}{ps:List Int}{t:Int}(Q:c8 r R)(P:dL R p ps t){d:Nat}(hd:d<4):∀(f c:Nat),c<169->c%13<R.wide->c/13<R.high->bM r ps d 3 f (di r.wide r.high c (cB d) (cC d))=iL (R.kingWay p d f c)
 |0,_,_,_,_=>rfl
 |f+1,c,hc,h1,h2=>by
  rw[ma Q hd h1 h2];unfold Tafl.Rules.kingWay;cases hn:R.next d c with
  |none=>exact lO _ _ _ _ _
  |some n=>
   obtain⟨n1,n2,n3⟩:=jB hd Q.tS Q.vm h1 h2 hn;have ih:=Ce Q P hd f n n1 n2 n3;show bM r ps d 3 (f+1) ((n:Nat):Int)=_;unfold bM;dsimp only;rw[Qm,free_eq Q P n1];unfold sP iE;have hn0:¬((n:Nat):Int)<0:=by omega
   rw[ih,Q.sl];rcases nP Q n1 with⟨_,e⟩|⟨_,e⟩|⟨_,e⟩|⟨_,e⟩<;>rw[e]
   all_goals generalize ps.getD n 0=v
   all_goals by_cases hz:v=0
   all_goals cases R.slides
   all_goals simp[hz,hn0,b2i,iL]
theorem Dz{r:R0}{R:PK}{p:Qu}{ps:List Int}{t:Int}(Q:c8 r R)(P:dL R p ps t){d:Nat}(hd:d<4){pc:Int}(hp:pc=1\/pc=2):∀(f c:Nat),c<169->c%13<R.wide->c/13<R.high->bM r ps d pc f (di r.wide r.high c (cB d) (cC d))=iL (R.manWay p d f c)
 |0,_,_,_,_=>rfl
 |f+1,c,hc,h1,h2=>by
  rw[ma Q hd h1 h2];unfold Tafl.Rules.manWay;cases hn:R.next d c with
  |none=>exact lO _ _ _ _ _
  |some n=>
   obtain⟨n1,n2,n3⟩:=jB hd Q.tS Q.vm h1 h2 hn;have ih:=Dz Q P hd hp f n n1 n2 n3;have p3:¬pc=3:=by omega
   have p0:¬pc=0:=by omega
   show bM r ps d pc (f+1) ((n:Nat):Int)=_;unfold bM;dsimp only;rw[Qm,free_eq Q P n1];unfold sP iE;have hn0:¬((n:Nat):Int)<0:=by omega
   rw[ih,Q.pa];rcases nP Q n1 with⟨k,e⟩|⟨k,e⟩|⟨k,e⟩|⟨k,e⟩<;>rw[e,k]
   all_goals generalize ps.getD n 0=v
   all_goals by_cases hz:v=0
   all_goals cases R.passed
   all_goals simp[hz,hn0,p3,p0,b2i,iL]
def Iw(d c n:Nat):Prop:=(d=0/\n%13=c%13/\c/13<n/13)\/(d=1/\n/13=c/13/\c%13<n%13)\/(d=2/\n%13=c%13/\n/13<c/13)\/(d=3/\n/13=c/13/\n%13<c%13)
theorem FW{d c n m:Nat}(h1:Iw d c n)(h2:Iw d n m):Iw d c m:=by
 rcases h1 with⟨rfl,a,b⟩|⟨rfl,a,b⟩|⟨rfl,a,b⟩|⟨rfl,a,b⟩<;>rcases h2 with⟨e,p,q⟩|⟨e,p,q⟩|⟨e,p,q⟩|⟨e,p,q⟩<;>first
  |exact absurd e (by decide)
  |exact .inl ⟨rfl,p.trans a,RQ b q⟩
  |exact .inr (.inl ⟨rfl,p.trans a,RQ b q⟩)
  |exact .inr (.inr (.inl ⟨rfl,p.trans a,RQ q b⟩))
  |exact .inr (.inr (.inr ⟨rfl,p.trans a,RQ q b⟩))
theorem KQ{d c n:Nat}(h:Iw d c n):n≠c:=by
 unfold Iw at h
 rintro rfl
 omega
theorem DB{d d' c n:Nat}(h1:Iw d c n)(h2:Iw d' c n):d=d':=by
 rcases h1 with⟨rfl,a,b⟩|⟨rfl,a,b⟩|⟨rfl,a,b⟩|⟨rfl,a,b⟩<;>rcases h2 with⟨rfl,p,q⟩|⟨rfl,p,q⟩|⟨rfl,p,q⟩|⟨rfl,p,q⟩<;>first
  |rfl
  |exact absurd q (Nat.lt_asymm b)
  |exact absurd p (RN b)
  |exact absurd p (QC b)
theorem yc{R:PK}{c d n:Nat}(hd:d<4)(hw:R.wide<=13)(hh:R.high<=13)(h1:c%13<R.wide)(h2:c/13<R.high)(e:R.next d c=some n):Iw d c n:=by
 unfold Tafl.Rules.next Tafl.cellOf Tafl.STRIDE at e;unfold Iw
 match d,hd with
 |0,_=>simp at e;refine .inl ⟨rfl,?_,?_⟩<;>omega
 |1,_=>simp at e;refine .inr (.inl ⟨rfl,?_,?_⟩)<;>omega
 |2,_=>simp at e;refine .inr (.inr (.inl ⟨rfl,?_,?_⟩))<;>omega
 |3,_=>simp at e;refine .inr (.inr (.inr ⟨rfl,?_,?_⟩))<;>omega
structure Nq(R:PK)(d c:Nat)(v:Int)(n:Nat):Prop where
 e:v=((n:Nat):Int)
 b:n<169
 w:n%13<R.wide
 h:n/13<R.high
 r:Iw d c n
theorem zO{r:R0}{R:PK}(Q:c8 r R)(ps:List Int){d:Nat}(hd:d<4)(pc:Int):∀(f c:Nat),c%13<R.wide->c/13<R.high->(∀v∈bM r ps d pc f (di r.wide r.high c (cB d) (cC d)),∃n,Nq R d c v n)/\(bM r ps d pc f (di r.wide r.high c (cB d) (cC d))).Nodup
 |0,_,_,_=>⟨λv hv=>(by cases hv),List.nodup_nil⟩
 |f+1,c,h1,h2=>by
  rw[ma Q hd h1 h2];cases hn:R.next d c with
  |none=>
   show(∀v∈bM r ps d pc (f+1) (-1),_)/\(bM r ps d pc (f+1) (-1)).Nodup;rw[lO];exact⟨λv hv=>(by cases hv),List.nodup_nil⟩
  |some n=>
   obtain⟨n1,n2,n3⟩:=jB hd Q.tS Q.vm h1 h2 hn;have rn:=yc hd Q.tS Q.vm h1 h2 hn;obtain⟨i1,i2⟩:=zO Q ps hd pc f n n2 n3;show(∀v∈bM r ps d pc (f+1) ((n:Nat):Int),_)/\(bM r ps d pc (f+1) ((n:Nat):Int)).Nodup;unfold bM;rw[Qm];split
   ·exact⟨λv hv=>(by cases hv),List.nodup_nil⟩
   ·have tl:(∀v∈(if pc=3/\r.slides=0 then[]else bM r ps d pc f (di r.wide r.high n (cB d) (cC d))),∃m,Nq R d n v m)/\(if pc=3/\r.slides=0 then[]else bM r ps d pc f (di r.wide r.high n (cB d) (cC d))).Nodup:=by
     split
     ·exact⟨λv hv=>(by cases hv),List.nodup_nil⟩
     ·exact⟨i1,i2⟩
    generalize(if pc=3/\r.slides=0 then[]else bM r ps d pc f (di r.wide r.high n (cB d) (cC d)))=T at*;obtain⟨t1,t2⟩:=tl;have up:∀v∈T,∃m,Nq R d c v m:=λv hv=>by
     obtain⟨m,M⟩:=t1 v hv;exact⟨m,M.e,M.b,M.w,M.h,FW rn M.r⟩
    split
    ·refine⟨λv hv=>?_,?_⟩
     ·rcases Qh.mp hv with z|z
      ·exact⟨n,z,n1,n2,n3,rn⟩
      ·exact up v z
     ·refine R7.mpr ⟨λhm=>?_,t2⟩
      obtain⟨m,M⟩:=t1 _ hm;exact KQ M.r (by have:=M.e;omega)
    ·exact⟨up,t2⟩
theorem uW{r:R0}{R:PK}(Q:c8 r R)(ps:List Int){c:Nat}(h1:c%13<R.wide)(h2:c/13<R.high):(reachOf r ps c).Nodup/\∀v∈reachOf r ps c,∃n:Nat,v=((n:Nat):Int)/\n<169/\n%13<R.wide/\n/13<R.high:=by
 have st:∀d,d<4->(∀v∈bn r ps c d,∃n,Nq R d c v n)/\(bn r ps c d).Nodup:=λd hd=>zO Q ps hd (ps.getD c 0) 13 c h1 h2;have dj:∀d d',d<4->d'<4->d≠d'->∀v∈bn r ps c d,∀u∈bn r ps c d',v≠u:=λd d' hd hd' ne v hv u hu e=>by
  obtain⟨n,N⟩:=(st d hd).1 v hv;obtain⟨m,M⟩:=(st d' hd').1 u hu;have:n=m:=by have:=N.e;have:=M.e;omega
  subst this;exact ne (DB N.r M.r)
 have e:reachOf r ps c=bn r ps c 0++(bn r ps c 1++(bn r ps c 2++(bn r ps c 3++[]))):=rfl;rw[e];refine⟨?_,λv hv=>?_⟩
 ·rw[QA]
  refine RJ.mpr ⟨(st 0 (by decide)).2,RJ.mpr ⟨(st 1 (by decide)).2,RJ.mpr ⟨(st 2 (by decide)).2,(st 3 (by decide)).2,dj 2 3 (by decide) (by decide) (by decide)⟩,λv hv u hu=>?_⟩,λv hv u hu=>?_⟩
  ·rcases Qc.mp hu with z|z
   ·exact dj 1 2 (by decide) (by decide) (by decide) v hv u z
   ·exact dj 1 3 (by decide) (by decide) (by decide) v hv u z
  ·rcases Qc.mp hu with z|z
   ·exact dj 0 1 (by decide) (by decide) (by decide) v hv u z
   ·rcases Qc.mp z with z|z
    ·exact dj 0 2 (by decide) (by decide) (by decide) v hv u z
    ·exact dj 0 3 (by decide) (by decide) (by decide) v hv u z
 ·have:∃d,d<4/\v∈bn r ps c d:=by
   simp only[Qc,List.not_mem_nil,or_false]at hv;rcases hv with z|z|z|z
   ·exact⟨0,by decide,z⟩
   ·exact⟨1,by decide,z⟩
   ·exact⟨2,by decide,z⟩
   ·exact⟨3,by decide,z⟩
  obtain⟨d,hd,hv⟩:=this;obtain⟨n,N⟩:=(st d hd).1 v hv;exact⟨n,N.e,N.b,N.w,N.h⟩
theorem HQ{r:R0}{R:PK}{p:Qu}{ps:List Int}{t:Int}(Q:c8 r R)(P:dL R p ps t){c:Nat}(hc:c<169)(h1:c%13<R.wide)(h2:c/13<R.high)(hz:ps.getD c 0≠0):reachOf r ps c=iL (R.reach p c):=by
 have hk:p.king=c↔ps.getD c 0=3:=by
  rcases P.k with⟨k1,k2⟩|⟨k1,k2,k3⟩
  ·exact⟨λe=>by omega,λe=>absurd e (k2 c hc)⟩
  ·exact⟨λe=>by rw[<-e];exact k2,λe=>(k3 c hc e).symm⟩
 have st:∀d,d<4->bn r ps c d=iL (if p.king=c then R.kingWay p d 13 c else R.manWay p d 13 c):=λd hd=>by
  unfold bn
  by_cases e:ps.getD c 0=3
  ·rw[e,Pz (hk.mpr e)]
   exact Ce Q P hd 13 c hc h1 h2
  ·rw[Py (λz=>e (hk.mp z))]
   obtain⟨v0,v3⟩:=P.wf.val c;exact Dz Q P hd (by omega) 13 c hc h1 h2
 have e:reachOf r ps c=bn r ps c 0++(bn r ps c 1++(bn r ps c 2++(bn r ps c 3++[]))):=rfl;rw[e,st 0 (by decide),st 1 (by decide),st 2 (by decide),st 3 (by decide)];unfold Tafl.Rules.reach Tafl.WAYS iL;simp only[QM,List.flatMap_nil,Qg,List.map_nil];rfl
theorem CK{r:R0}{R:PK}{p:Qu}{ps:List Int}{t:Int}(Q:c8 r R)(P:dL R p ps t){c:Nat}(hc:c<169)(h1:c%13<R.wide)(h2:c/13<R.high)(hz:ps.getD c 0≠0):dq r ps c=iL ((List.range 192).filter λ(x:Nat)=>(R.reach p c).contains x):=by
 obtain⟨n1,n2⟩:=uW Q ps h1 h2;unfold dq;refine Bt n1 (λv hv=>?_) _ λx hx=>?_
 ·obtain⟨n,e,b,_⟩:=n2 v hv
  exact⟨n,e,by omega⟩
 ·rw[HQ Q P hc h1 h2 hz,RG]
  unfold iL;constructor
  ·exactλh=>P_.mpr ⟨x,h,rfl⟩
  ·intro h
   obtain⟨y,hy,e⟩:=P_.mp h;have:y=x:=by omega
   rw[<-this];exact hy
theorem Bd{ps:List Int}(W:rZ ps){c:Nat}(h:169<=c):ps.getD c 0=0:=by
 simp only[List.getD];rw[R_ (by rw[W.len];exact h)];rfl
theorem Dh{r:R0}{R:PK}{p:Qu}{ps:List Int}{t:Int}(Q:c8 r R)(P:dL R p ps t):cellsOf r ps t=iL p.own:=by
 unfold cellsOf;rw[Q.w,Q.h,up_eq Q.tS Q.vm,List.filter_map];show iL (((List.range 192).filter _).filter _)=_;rw[List.filter_filter];unfold Tafl.Pos.own Tafl.cellsIn Tafl.GONE;have key:∀c,c<192->(da (ps.getD c 0)=t↔if p.side=0 then p.hunters.testBit c=true else(p.men.testBit c=true\/c=p.king)):=λc hc=>by
  rw[P.sd]
  by_cases hb:c<169
  ·obtain⟨v0,v3⟩:=P.wf.val c
   have hk:c=p.king↔ps.getD c 0=3:=by
    rcases P.k with⟨k1,k2⟩|⟨k1,k2,k3⟩
    ·exact⟨λe=>by omega,λe=>absurd e (k2 c hb)⟩
    ·exact⟨λe=>by rw[e];exact k2,λe=>k3 c hb e⟩
   have hh:=P.h c;have hm:=P.m c;rcases P.JT with s|s
   ·rw[Pz s,s,hh]
    unfold da;split
    ·constructor
     ·intro z;cases z
     ·omega
    ·split
     ·constructor
      ·intro _;exact⟨hb,by assumption⟩
      ·intro _;rfl
     ·constructor
      ·intro z;cases z
      ·omega
   ·rw[Py (by omega),s,hm,hk]
    unfold da;split
    ·constructor
     ·intro z;cases z
     ·omega
    ·split
     ·constructor
      ·intro z;cases z
      ·omega
     ·constructor
      ·intro _;omega
      ·intro _;rfl
  ·rw[Bd P.wf (by omega)]
   have hh:=Cr (P.h c) (λz=>hb z.1);have hm:=Cr (P.m c) (λz=>hb z.1);have hk:c≠p.king:=by
    rcases P.k with⟨k1,_⟩|⟨k1,_⟩<;>omega
   rcases P.JT with s|s
   ·rw[Pz s,s,hh]
    decide
   ·rw[Py (by omega),s,hm]
    unfold da;simp[hk]
 have grd:∀c,c<192->da (ps.getD c 0)=t->c%13<R.wide/\c/13<R.high:=λc hc e=>by
  by_cases hb:c<169
  ·refine P.g c hb λz=>?_
   rw[z,P.sd]at e;rcases P.JT with s|s<;>rw[s]at e<;>cases e
  ·rw[Bd P.wf (by omega),P.sd]at e
   rcases P.JT with s|s<;>rw[s]at e<;>cases e
 congr 1
 by_cases s:p.side=0
 ·rw[Pz s]
  refine List.filter_congr λc hc=>?_;have hc:=Qe.mp hc;have k:=key c hc;rw[Pz s]at k;rw[QN];simp only[Function.comp,P4,PV,Qm];exact⟨λh=>k.mp h.1,λh=>⟨k.mpr h,grd c hc (k.mpr h)⟩⟩
 ·rw[Py s]
  refine List.filter_congr λc hc=>?_;have hc:=Qe.mp hc;have k:=key c hc;rw[Py s]at k;rw[QN];simp only[Function.comp,P4,PV,Qm,Rm,QQ];exact⟨λh=>k.mp h.1,λh=>⟨k.mpr h,grd c hc (k.mpr h)⟩⟩
theorem AO{R:PK}{p:Qu}{ps:List Int}{t:Int}(P:dL R p ps t):(p.king=255/\gi ps= -1)\/(p.king<169/\gi ps=((p.king:Nat):Int)):=by
 unfold gi;rcases P.k with⟨k1,k2⟩|⟨k1,k2,k3⟩
 ·left
  refine⟨k1,Py λhm=>?_⟩;obtain⟨i,hi,e⟩:=Ro hm;rw[P.wf.len]at hi;exact k2 i hi (by simp[List.getD,PD (show i<ps.length by rw[P.wf.len];exact hi),e])
 ·right
  have hm:(3:Int)∈ps:=by
   have hl:p.king<ps.length:=by rw[P.wf.len];exact k1
   have:ps.getD p.king 0=ps[p.king]:=by simp[List.getD,PD hl]
   rw[<-k2,this];exact RT hl
  refine⟨k1,?_⟩;rw[Pz hm];have lt:ps.findIdx (·==3)<ps.length:=Q9 ⟨3,hm,rfl⟩;have e3:=List.findIdx_getElem (w:=lt);have e3:ps[ps.findIdx (·==3)]=3:=eq_of_beq e3;have:=k3 (ps.findIdx (·==3)) (by rw[<-P.wf.len];exact lt) (by simp[List.getD,PD lt,e3]);rw[this]
theorem Ft{R:PK}{c:Nat}(d:Nat):R.next d c=none↔(if d=0 then R.high<=c/13+1 else if d=1 then R.wide<=c%13+1 else if d=2 then c/13=0 else c%13=0):=by
 unfold Tafl.Rules.next Tafl.STRIDE;dsimp only;split
 ·split<;>simp<;>omega
 ·split
  ·split<;>simp<;>omega
  ·split
   ·split<;>simp<;>omega
   ·split<;>simp<;>omega
theorem JV{o:Option Nat}:En o<0↔o=none:=by
 cases o with
 |none=>simp[En]
 |some n=>simp[En]
theorem AN{r:R0}{R:PK}(Q:c8 r R){c:Nat}(h1:c%13<R.wide)(h2:c/13<R.high):xV r c=R.onEdge (c%13,c/13):=by
 unfold xV Tafl.Rules.onEdge;have st:∀d,d<4->decide (di r.wide r.high c (cB d) (cC d)<0)=decide (R.next d c=none):=λd hd=>by
  rw[ma Q hd h1 h2,RR];exact JV
 have e:(List.range 4).any (λ(d:Nat)=>decide (di r.wide r.high c (cB d) (cC d)<0))=(decide (R.next 0 c=none)||(decide (R.next 1 c=none)||(decide (R.next 2 c=none)||(decide (R.next 3 c=none)||false)))):=by
  rw[<-st 0 (by decide),<-st 1 (by decide),<-st 2 (by decide),<-st 3 (by decide)];rfl
 rw[e,QN];simp only[Rm,PV,Ft,QQ,Bool.false_eq_true,or_false];simp;omega
theorem JI{r:R0}{R:PK}(Q:c8 r R){c:Nat}(hc:c<169)(h1:c%13<R.wide)(h2:c/13<R.high):x9 r c=R.onGoal c:=by
 unfold x9 Tafl.Rules.onGoal Tafl.STRIDE;rw[Q.go,Q.kind hc,AN Q h1 h2]
 by_cases h:R.goal=1
 ·rw[Pz (by omega),Pz h]
  rfl
 ·rw[Py (by omega),Py h]
theorem wG{r:R0}{R:PK}{p:Qu}{ps:List Int}{t:Int}(Q:c8 r R)(P:dL R p ps t):fW r ps=((R.ended p:Nat):Int):=by
 unfold fW Tafl.Rules.ended Tafl.TAKEN;rcases AO P with⟨k,e⟩|⟨k,e⟩
 ·rw[e,k]
  rfl
 ·rw[e,Py (show¬((p.king:Nat):Int)<0 by omega),Qm,Py (show¬p.king=255 by omega)]
  have hz:ps.getD p.king 0=3:=by
   rcases P.k with⟨k1,_⟩|⟨_,k2,_⟩
   ·omega
   ·exact k2
  obtain⟨g1,g2⟩:=P.g p.king k (by omega);rw[JI Q k g1 g2];cases R.onGoal p.king<;>rfl
theorem F_{r:R0}{R:PK}{p:Qu}{ps:List Int}{t:Int}(Q:c8 r R)(P:dL R p ps t){c:Nat}(h:c∈p.own):c<169/\ps.getD c 0≠0/\c%13<R.wide/\c/13<R.high/\da (ps.getD c 0)=t:=by
 have hm:((c:Nat):Int)∈cellsOf r ps t:=by
  rw[Dh Q P];exact P_.mpr ⟨c,h,rfl⟩
 obtain⟨n,e,n1,n2,n3⟩:=jK Q.wf hm;have e:n=c:=by omega
 subst e;have hs:=PR (Qz.mp hm).2;rw[Qm]at hs;have hz:ps.getD n 0≠0:=λz=>by
  rw[z,P.sd]at hs;rcases P.JT with s|s<;>rw[s]at hs<;>cases hs
 obtain⟨g1,g2⟩:=P.g n n1 hz;exact⟨n1,hz,g1,g2,hs⟩
theorem Jk{α:Type}(l:List Nat)(f:Int->List α)(g:Nat->List α)(h:∀c∈l,f ((c:Nat):Int)=g c):(iL l).flatMap f=l.flatMap g:=by
 unfold iL;rw[Rp]
 induction l with
 |nil=>rfl
 |cons c l ih=>
  rw[QM,QM,h c PU,ih λx hx=>h x (PY _ hx)]
theorem IK{r:R0}{R:PK}{p:Qu}{ps:List Int}{t:Int}(Q:c8 r R)(P:dL R p ps t){c:Nat}(h:c∈p.own):cU r ps ((c:Nat):Int)=((List.range 192).filter λ(x:Nat)=>(R.reach p c).contains x).map λ(x:Nat)=>(c,x):=by
 obtain⟨c1,c2,c3,c4,_⟩:=F_ Q P h;unfold cU;rw[Qm,CK Q P c1 c3 c4 c2];unfold iL;rw[QJ];rfl
theorem mY{r:R0}{R:PK}{p:Qu}{ps:List Int}{t:Int}(Q:c8 r R)(P:dL R p ps t):aQ r ps t=R.moves p:=by
 unfold aQ Tafl.Rules.moves Tafl.GONE;rw[wG Q P]
 by_cases h:R.ended p=0
 ·rw[Py (by omega),Py (by omega),Dh Q P]
  exact Jk _ _ _ λc hc=>IK Q P hc
 ·rw[Pz (by omega),Pz h]
theorem Gw{r:R0}{R:PK}{p:Qu}{ps:List Int}{t:Int}(Q:c8 r R)(P:dL R p ps t)(he:R.ended p=0):BY r ps t=false↔R.moves p=[]:=by
 rw[<-mY Q P];unfold aQ;rw[wG Q P,Py (by omega)];unfold BY;rw[List.flatMap_eq_nil_iff,Rj];constructor
 ·intro h c hc
  have q:=h c hc;unfold cU dq;have e:reachOf r ps c.toNat=[]:=by
   unfold reachOf;rw[List.flatMap_eq_nil_iff];intro d hd;rw[Bool.not_eq_true,Rj]at q;have:=q d hd;have z:¬0<(bn r ps c.toNat d).length:=λz=>this (PJ z);exact QP.mp (by omega)
  rw[e];have e0:Iz []=[]:=QP.mp (by rw[r6];rfl);rw[e0];rfl
 ·intro h c hc
  have q:=h c hc;rw[Bool.not_eq_true,Rj];intro d hd z;have z:0<(bn r ps c.toNat d).length:=PR z;unfold cU at q;have e:dq r ps c.toNat=[]:=List.map_eq_nil_iff.mp q;have l0:(reachOf r ps c.toNat).length=0:=by
   rw[<-r6];unfold dq at e;rw[e];rfl
  have e2:reachOf r ps c.toNat=[]:=QP.mp l0;unfold reachOf at e2;rw[List.flatMap_eq_nil_iff]at e2;have:=e2 d hd;rw[this]at z;exact absurd z (by decide)
theorem tE{r:R0}{R:PK}{p:Qu}{ps:List Int}{t:Int}(Q:c8 r R)(P:dL R p ps t):overOf r ps t=((R.over p:Nat):Int):=by
 unfold overOf Tafl.Rules.over;rw[wG Q P]
 by_cases h:R.ended p=0
 ·rw[Py (show¬R.ended p≠0 by omega)]
  by_cases hm:R.moves p=[]
  ·rw[Pz ⟨by omega,(Gw Q P h).mpr hm⟩,Pz hm]
   rfl
  ·rw[Py (λz=>hm ((Gw Q P h).mp z.2)),Py hm,h]
 ·rw[Pz h,Py (λz=>h (by have:=z.1;omega))]
theorem B5(c:Nat):∀(l:List Nat)(n0:Nat),(l.foldl (λ(n c:Nat)=>n|||2^c) n0).testBit c=true↔n0.testBit c=true\/c∈l
 |[],n0=>by simp
 |x::l,n0=>by
  rw[Q8,B5 c l,Nat.testBit_or,Nat.testBit_two_pow,Qh,Rm,PV];constructor
  ·rintro((h|h)|h)
   ·exact .inl h
   ·exact .inr (.inl h.symm)
   ·exact .inr (.inr h)
  ·rintro(h|h|h)
   ·exact .inl (.inl h)
   ·exact .inl (.inr h.symm)
   ·exact .inr h
theorem qv(c:Nat)(l:List Nat):(Tafl.setFrom l).testBit c=true↔c∈l:=by
 unfold Tafl.setFrom;rw[B5];simp
theorem lY{n c:Nat}:c∈Tafl.cellsIn n↔c<192/\n.testBit c=true:=by
 unfold Tafl.cellsIn Tafl.GONE;rw[Qz,Qe]
theorem yj{r:R0}{ps:List Int}{d:Nat}{pc:Int}:∀(f:Nat)(cell v:Int),v∈bM r ps d pc f cell->sP r ps pc v.toNat=true
 |0,_,_,h=>by cases h
 |f+1,cell,v,h=>by
  unfold bM at h;split at h
  ·cases h
  ·rename_i hc
   rcases Qc.mp h with z|z
   ·split at z
    ·rw[Qb]at z
     subst z;cases e:sP r ps pc v.toNat with
     |true=>rfl
     |false=>exact absurd (.inr e) hc
    ·cases z
   ·split at z
    ·cases z
    ·exact yj f _ _ z
structure Df(R:PK)(ps:List Int)(tn:Int)(s t:Nat):Prop where
 s1:s<169
 t1:t<169
 ne:s≠t
 sv:ps.getD s 0≠0
 sd:da (ps.getD s 0)=tn
 tv:ps.getD t 0=0
 w:t%13<R.wide
 h:t/13<R.high
theorem zI{r:R0}{R:PK}{p:Qu}{ps:List Int}{tn:Int}(Q:c8 r R)(P:dL R p ps tn){s t:Nat}(h:(s,t)∈aQ r ps tn):Df R ps tn s t:=by
 have h0:True:=trivial;unfold aQ at h;split at h
 ·cases h
 ·obtain⟨c,hc,hv⟩:=QU.mp h
  rw[Dh Q P]at hc;obtain⟨c',hc',rfl⟩:=P_.mp hc;obtain⟨c1,c2,c3,c4,c5⟩:=F_ Q P hc';unfold cU at hv;obtain⟨v,hv2,e⟩:=P_.mp hv;clear hv h h0;rw[Qm]at hv2 e;have e1:c'=s:=(Prod.mk.inj e).1;have e2:v.toNat=t:=(Prod.mk.inj e).2;subst e1;have hv:=z9.mp hv2;obtain⟨n,en,n1,n2,n3⟩:=(uW Q ps c3 c4).2 v hv;have e3:n=t:=by omega
  subst e3;unfold reachOf at hv;obtain⟨d,hd,hv⟩:=QU.mp hv;have ov:=yj _ _ _ hv;rw[e2]at ov;unfold sP at ov;split at ov
  ·cases ov
  ·rename_i hn
   have tv:ps.getD n 0=0:=by
    by_cases z:ps.getD n 0=0
    ·exact z
    ·exact absurd (.inr z) hn
   exact⟨c1,n1,λz=>c2 (by rw[z];exact tv),c2,c5,tv,n2,n3⟩
theorem A7{ps:List Int}(W:rZ ps){s t:Nat}(hs:s<169)(ht:t<169)(c:Nat):(ba ps s t).getD c 0=if c=s then 0 else if c=t then ps.getD s 0 else ps.getD c 0:=by
 unfold ba;rw[ln,ln,Rl,W.len]
 by_cases h1:s=c
 ·rw[Pz (show s=c/\s<169 from⟨h1,hs⟩),Pz (show c=s from h1.symm)]
 ·rw[Py (show¬(s=c/\s<169)fromλz=>h1 z.1),Py (show¬c=s fromλz=>h1 z.symm)]
  by_cases h2:t=c
  ·rw[Pz (show t=c/\t<169 from⟨h2,ht⟩),Pz (show c=t from h2.symm)]
  ·rw[Py (show¬(t=c/\t<169)fromλz=>h2 z.1),Py (show¬c=t fromλz=>h2 z.symm)]
theorem shift_pos{r:R0}{R:PK}{p:Qu}{ps:List Int}{tn:Int}(Q:c8 r R)(P:dL R p ps tn){s t:Nat}(M:Df R ps tn s t):dL R (p.shifted (s,t)) (ba ps s t) (1-tn):=by
 have at_:=A7 P.wf M.s1 M.t1;have W:=P.wf.moved s t;have hs0:=M.sv;have ht0:=M.tv;have ne:=M.ne;have gr:∀c,c<169->(ba ps s t).getD c 0≠0->c%13<R.wide/\c/13<R.high:=λc hc hz=>by
  rw[at_]at hz
  by_cases h1:c=s
  ·rw[Pz h1]at hz
   exact absurd rfl hz
  ·rw[Py h1]at hz
   by_cases h2:c=t
   ·subst h2
    exact⟨M.w,M.h⟩
   ·rw[Py h2]at hz
    exact P.g c hc hz
 obtain⟨v0,v3⟩:=P.wf.val s;have sd:=M.sd;rw[P.sd]at sd;have ks:p.king=s↔ps.getD s 0=3:=by
  rcases P.k with⟨k1,k2⟩|⟨k1,k2,k3⟩
  ·exact⟨λe=>by have:=M.s1;omega,λe=>absurd e (k2 s M.s1)⟩
  ·exact⟨λe=>by rw[<-e];exact k2,λe=>(k3 s M.s1 e).symm⟩
 unfold Tafl.Pos.shifted
 by_cases hk:p.king=s
 ·have e3:=ks.mp hk
  rw[Pz hk];have s1:p.side=1:=by
   rw[e3]at sd;have:((p.side:Nat):Int)=1:=sd.symm;omega
  refine⟨W,by rw[P.sd,s1];rfl,by show 1-p.side=0\/_;omega,λc=>?_,λc=>?_,.inr ⟨M.t1,?_,λc hc e=>?_⟩,gr⟩
  ·show p.hunters.testBit c=true↔_
   rw[P.h c,at_]
   by_cases h1:c=s
   ·rw[Pz h1,h1,e3]
    constructor<;>(intro z;omega)
   ·rw[Py h1]
    by_cases h2:c=t
    ·rw[Pz h2,h2,e3,ht0]
     constructor<;>(intro z;omega)
    ·rw[Py h2]
  ·show p.men.testBit c=true↔_
   rw[P.m c,at_]
   by_cases h1:c=s
   ·rw[Pz h1,h1,e3]
    constructor<;>(intro z;omega)
   ·rw[Py h1]
    by_cases h2:c=t
    ·rw[Pz h2,h2,e3,ht0]
     constructor<;>(intro z;omega)
    ·rw[Py h2]
  ·show(ba ps s t).getD t 0=3
   rw[at_,Py (PZ ne),Pz rfl];exact e3
  ·show c=t
   rw[at_]at e
   by_cases h1:c=s
   ·rw[Pz h1]at e
    cases e
   ·rw[Py h1]at e
    by_cases h2:c=t
    ·exact h2
    ·rw[Py h2]at e
     rcases P.k with⟨k1,k2⟩|⟨k1,k2,k3⟩
     ·exact absurd e (k2 c hc)
     ·exact absurd ((k3 c hc e).trans hk) h1
 ·rw[Py hk]
  have n3:ps.getD s 0≠3:=λz=>hk (ks.mpr z);have kk:(p.king=255/\∀c,c<169->(ba ps s t).getD c 0≠3)\/(p.king<169/\(ba ps s t).getD p.king 0=3/\∀c,c<169->(ba ps s t).getD c 0=3->c=p.king):=by
   have sub:∀c,c<169->(ba ps s t).getD c 0=3->ps.getD c 0=3:=λc hc e=>by
    rw[at_]at e
    by_cases h1:c=s
    ·rw[Pz h1]at e
     cases e
    ·rw[Py h1]at e
     by_cases h2:c=t
     ·rw[Pz h2]at e
      exact absurd e n3
     ·rw[Py h2]at e
      exact e
   rcases P.k with⟨k1,k2⟩|⟨k1,k2,k3⟩
   ·exact .inl ⟨k1,λc hc e=>k2 c hc (sub c hc e)⟩
   ·refine .inr ⟨k1,?_,λc hc e=>k3 c hc (sub c hc e)⟩
    rw[at_,Py (λz=>hk z),Py (λz=>by rw[z,ht0]at k2;cases k2)];exact k2
  rcases P.JT with s0|s1
  ·have e1:ps.getD s 0=1:=by
    rw[s0]at sd;unfold da at sd;split at sd
    ·cases sd
    ·split at sd
     ·assumption
     ·cases sd
   rw[Pz s0];refine⟨W,by rw[P.sd,s0];rfl,.inr rfl,λc=>?_,λc=>?_,kk,gr⟩
   ·show(Tafl.setFrom (t::(Tafl.cellsIn p.hunters).filter λ(c:Nat)=>c !=s)).testBit c=true↔_
    rw[qv,Qh,Qz,lY,P.h c,at_,bne_iff_ne]
    by_cases h1:c=s
    ·rw[Pz h1,h1]
     constructor
     ·rintro(z|z)
      ·exact absurd z ne
      ·exact absurd rfl z.2
     ·intro z;omega
    ·rw[Py h1]
     by_cases h2:c=t
     ·rw[Pz h2,h2,e1]
      exact⟨λ_=>⟨M.t1,rfl⟩,λ_=>.inl rfl⟩
     ·rw[Py h2]
      constructor
      ·rintro(z|z)
       ·exact absurd z h2
       ·exact z.1.2
      ·intro z
       exact .inr ⟨⟨by omega,z⟩,h1⟩
   ·show p.men.testBit c=true↔_
    rw[P.m c,at_]
    by_cases h1:c=s
    ·rw[Pz h1,h1,e1]
     constructor<;>(intro z;omega)
    ·rw[Py h1]
     by_cases h2:c=t
     ·rw[Pz h2,h2,e1,ht0]
      constructor<;>(intro z;omega)
     ·rw[Py h2]
  ·have e2:ps.getD s 0=2:=by
    rw[s1]at sd;unfold da at sd;split at sd
    ·cases sd
    ·split at sd
     ·cases sd
     ·omega
   rw[Py (show¬p.side=0 by omega)];refine⟨W,by rw[P.sd,s1];rfl,.inl rfl,λc=>?_,λc=>?_,kk,gr⟩
   ·show p.hunters.testBit c=true↔_
    rw[P.h c,at_]
    by_cases h1:c=s
    ·rw[Pz h1,h1,e2]
     constructor<;>(intro z;omega)
    ·rw[Py h1]
     by_cases h2:c=t
     ·rw[Pz h2,h2,e2,ht0]
      constructor<;>(intro z;omega)
     ·rw[Py h2]
   ·show(Tafl.setFrom (t::(Tafl.cellsIn p.men).filter λ(c:Nat)=>c !=s)).testBit c=true↔_
    rw[qv,Qh,Qz,lY,P.m c,at_,bne_iff_ne]
    by_cases h1:c=s
    ·rw[Pz h1,h1]
     constructor
     ·rintro(z|z)
      ·exact absurd z ne
      ·exact absurd rfl z.2
     ·intro z;omega
    ·rw[Py h1]
     by_cases h2:c=t
     ·rw[Pz h2,h2,e2]
      exact⟨λ_=>⟨M.t1,rfl⟩,λ_=>.inl rfl⟩
     ·rw[Py h2]
      constructor
      ·rintro(z|z)
       ·exact absurd z h2
       ·exact z.1.2
      ·intro z
       exact .inr ⟨⟨by omega,z⟩,h1⟩
theorem Cp{e:Nat}(h:e<=3)(m:Bool):decide (0<Builtin.bitAnd ((e:Nat):Int) (if m=true then 2 else 1))=Tafl.hates e m:=by
 have:e=0\/e=1\/e=2\/e=3:=by omega
 rcases this with rfl|rfl|rfl|rfl<;>cases m<;>decide+kernel
theorem Dv{r:R0}{R:PK}{q:Qu}{ps:List Int}{tn:Int}(Q:c8 r R)(P:dL R q ps tn){b:Nat}(hb:b<169){pc:Int}{m:Bool}(hm:kR pc=if m=true then 2 else 1):kW r ps b pc=R.against q m b:=by
 unfold kW Tafl.Rules.against Aw;rw[hm,P.is hb];have z0:decide (0<Builtin.bitAnd (0:Int) (if m=true then 2 else 1))=false:=by cases m<;>decide+kernel
 rcases nP Q hb with⟨k,e⟩|⟨k,e⟩|⟨k,e⟩|⟨k,e⟩<;>rw[k,e]
 ·rw[Py (by decide),Py (λz=>by have:=z.1;omega)]
  exact z0
 ·rw[Py (by decide)]
  show _=(decide (ps.getD b 0=0)&&Tafl.hates R.seat m)
  by_cases h0:ps.getD b 0=0
  ·rw[Pz ⟨rfl,h0⟩,PJ h0,Bool.true_and,Q.se]
   exact Cp Q.O9 m
  ·rw[Py (λz=>h0 z.2),Qr h0,Bool.false_and]
   exact z0
 ·rw[Pz rfl,Q.ex]
  exact Cp Q.Pu m
 ·rw[Py (by decide),Py (λz=>by have:=z.1;omega)]
  exact z0
theorem A2{R:PK}{t d n:Nat}:(d,n)∈R.neighbours t↔d<4/\R.next d t=some n:=by
 unfold Tafl.Rules.neighbours Tafl.WAYS;rw[Rq];constructor
 ·rintro⟨e,he,h⟩
  rw[R8]at h;obtain⟨m,h1,h2⟩:=h;cases h2;simp at he;exact⟨by omega,h1⟩
 ·rintro⟨h1,h2⟩
  exact⟨d,by simp;omega,by rw[h2];rfl⟩
def l6(R:PK)(q:Qu)(hunters:Bool)(o:Option Nat):Bool:=match o with
 |some b=>R.helps hunters (q.on b)||R.against q hunters b
 |none=>false
theorem HL{R:PK}{q:Qu}{ps:List Int}{t:Int}(P:dL R q ps t){c:Nat}(hc:c<169):(q.on c=.none/\ps.getD c 0=0)\/(q.on c=.hunter/\ps.getD c 0=1)\/(q.on c=.man/\ps.getD c 0=2)\/(q.on c=.king/\ps.getD c 0=3):=by
 have g:=P.on hc;cases h:q.on c with
 |none=>rw[h]at g;exact .inl ⟨rfl,g.symm⟩
 |hunter=>rw[h]at g;exact .inr (.inl ⟨rfl,g.symm⟩)
 |man=>rw[h]at g;exact .inr (.inr (.inl ⟨rfl,g.symm⟩))
 |king=>rw[h]at g;exact .inr (.inr (.inr ⟨rfl,g.symm⟩))
theorem Gs{r:R0}{R:PK}{q:Qu}{ps:List Int}{t:Int}(Q:c8 r R)(P:dL R q ps t){c:Nat}(hc:c<169)(hu:Bool):rN r (ps.getD c 0) (if hu=true then 0 else 1)=R.helps hu (q.on c):=by
 unfold rN Tafl.Rules.helps;rw[Q.ar];rcases HL P hc with⟨k,e⟩|⟨k,e⟩|⟨k,e⟩|⟨k,e⟩<;>rw[k,e]<;>cases hu<;>cases R.armed<;>decide
theorem held_eq{r:R0}{R:PK}{q:Qu}{ps:List Int}{t:Int}(Q:c8 r R)(P:dL R q ps t){x d:Nat}(hd:d<4)(h1:x%13<R.wide)(h2:x/13<R.high){pc:Int}{hu:Bool}(hm:kR pc=if hu=true then 2 else 1):pZ r ps (di r.wide r.high x (cB d) (cC d)) pc (if hu=true then 0 else 1)=l6 R q hu (R.next d x):=by
 rw[ma Q hd h1 h2];unfold pZ l6;cases hn:R.next d x with
 |none=>rfl
 |some b=>
  obtain⟨b1,b2,b3⟩:=jB hd Q.tS Q.vm h1 h2 hn;show(if((b:Nat):Int)<0 then false else rN r (ps.getD ((b:Nat):Int).toNat 0) _||kW r ps ((b:Nat):Int).toNat pc)=_;rw[Py (by omega),Qm,Gs Q P b1,Dv Q P b1 hm]
theorem IS{R:PK}{q:Qu}{hu:Bool}{t x:Nat}(hg:¬(hu=false/\q.king=t/\R.armed=false)):x∈R.menTaken q hu t↔∃d,d<4/\R.next d t=some x/\q.on x=(if hu=true then Tafl.Piece.man else .hunter)/\l6 R q hu (R.next d x)=true:=by
 unfold Tafl.Rules.menTaken;rw[Py hg,Rq];constructor
 ·rintro⟨⟨d,n⟩,hn,h⟩
  obtain⟨d1,d2⟩:=A2.mp hn;dsimp only at h
  by_cases ho:(q.on n==(if hu=true then Tafl.Piece.man else .hunter))=true
  ·rw[Pz ho]at h
   have ho:=eq_of_beq ho;cases hb:R.next d n with
   |none=>rw[hb]at h;cases h
   |some b=>
    rw[hb]at h;dsimp only at h;split at h
    ·rename_i hh
     cases h;refine⟨d,d1,d2,ho,?_⟩;rw[hb];show(R.helps hu (q.on b)||R.against q hu b)=true;rw[Rm];exact hh
    ·cases h
  ·rw[Py ho]at h
   cases h
 ·rintro⟨d,d1,d2,ho,hh⟩
  refine⟨(d,x),A2.mpr ⟨d1,d2⟩,?_⟩;dsimp only;rw[Pz (by rw[ho];simp)];cases hb:R.next d x with
  |none=>rw[hb]at hh;cases hh
  |some b=>
   rw[hb]at hh;dsimp only;rw[Pz (by rw[<-Rm];exact hh)]
theorem EU{R:PK}{q:Qu}{c:Nat}:((R.neighbours c).length==4&&(R.neighbours c).all λ(m:Nat×Nat)=>q.on m.2== .hunter||R.against q true m.2)=(List.range 4).all λ(e:Nat)=>l6 R q true (R.next e c):=by
 have e4:(List.range 4).all (λ(e:Nat)=>l6 R q true (R.next e c))=(l6 R q true (R.next 0 c)&&(l6 R q true (R.next 1 c)&&(l6 R q true (R.next 2 c)&&(l6 R q true (R.next 3 c)&&true)))):=rfl;rw[e4];unfold Tafl.Rules.neighbours Tafl.WAYS;cases h0:R.next 0 c<;>cases h1:R.next 1 c<;>cases h2:R.next 2 c<;>cases h3:R.next 3 c<;>simp[h0,h1,h2,h3,l6,Tafl.Rules.helps]
theorem Jd{R:PK}{q:Qu}{t:Nat}:R.kingTaken q t=true↔∃d,d<4/\R.next d t=some q.king/\(if R.four=true then(List.range 4).all λ(e:Nat)=>l6 R q true (R.next e q.king)else l6 R q true (R.next d q.king))=true:=by
 unfold Tafl.Rules.kingTaken;rw[QR];constructor
 ·rintro⟨⟨d,n⟩,hn,h⟩
  obtain⟨d1,d2⟩:=A2.mp hn;rw[P4,QQ]at h;obtain⟨hk,h⟩:=h;have hk:n=q.king:=hk;subst hk;refine⟨d,d1,d2,?_⟩
  by_cases hf:R.four=true
  ·rw[Pz hf]at h ⊢
   rw[<-EU];exact h
  ·rw[Py hf]at h ⊢
   dsimp only at h;cases hb:R.next d q.king with
   |none=>rw[hb]at h;exact h
   |some b=>rw[hb]at h;exact h
 ·rintro⟨d,d1,d2,h⟩
  refine⟨(d,q.king),A2.mpr ⟨d1,d2⟩,?_⟩;rw[P4,QQ];refine⟨rfl,?_⟩
  by_cases hf:R.four=true
  ·rw[Pz hf]at h ⊢
   rw[<-EU]at h;exact h
  ·rw[Py hf]at h ⊢
   dsimp only;cases hb:R.next d q.king with
   |none=>rw[hb]at h;exact h
   |some b=>rw[hb]at h;exact h
theorem Ic{r:R0}{R:PK}(Q:c8 r R)(mv:List Int){t:Nat}(h1:t%13<R.wide)(h2:t/13<R.high)(v:Int):v∈(List.range 4).flatMap (jq r mv t)↔∃d x:Nat,d<4/\R.next d t=some x/\v=((x:Nat):Int)/\da (mv.getD x 0)=1-da (mv.getD t 0)/\lJ r mv x d (da (mv.getD t 0))=true:=by
 rw[QU];constructor
 ·rintro⟨d,hd,h⟩
  have hd:=Qe.mp hd;unfold jq at h;split at h
  ·rename_i hc
   rw[Qb]at h;rw[ma Q hd h1 h2]at hc h;cases hn:R.next d t with
   |none=>
    rw[hn]at hc;exact absurd hc.1 (by decide)
   |some x=>
    rw[hn]at hc h;have ex:(En (some x)).toNat=x:=Qm x;rw[ex]at hc;exact⟨d,x,hd,hn,h,hc.2.1,hc.2.2⟩
  ·cases h
 ·rintro⟨d,x,hd,hn,rfl,e1,e2⟩
  refine⟨d,Qe.mpr hd,?_⟩;unfold jq;rw[ma Q hd h1 h2,hn];have ex:(En (some x)).toNat=x:=Qm x;rw[ex,Pz ⟨by show(0:Int)<=((x:Nat):Int);omega,e1,e2⟩];exact Qb.mpr rfl
theorem Ha{r:R0}{R:PK}(Q:c8 r R)(mv:List Int){t:Nat}(h1:t%13<R.wide)(h2:t/13<R.high):((List.range 4).flatMap (jq r mv t)).Nodup:=by
 have el:∀d v,d<4->v∈jq r mv t d->∃x,R.next d t=some x/\v=((x:Nat):Int):=λd v hd h=>by
  unfold jq at h;split at h
  ·rename_i hc
   rw[Qb]at h;rw[ma Q hd h1 h2]at hc h;cases hn:R.next d t with
   |none=>
    rw[hn]at hc;exact absurd hc.1 (by decide)
   |some x=>
    rw[hn]at h;exact⟨x,rfl,h⟩
  ·cases h
 have nd:∀d,(jq r mv t d).Nodup:=λd=>by
  unfold jq;split
  ·simp
  ·simp
 have dj:∀d d',d<4->d'<4->d≠d'->∀v∈jq r mv t d,∀u∈jq r mv t d',v≠u:=λd d' hd hd' ne v hv u hu e=>by
  obtain⟨x,n1,e1⟩:=el d v hd hv;obtain⟨y,n2,e2⟩:=el d' u hd' hu;have:x=y:=by omega
  subst this;exact ne (DB (yc hd Q.tS Q.vm h1 h2 n1) (yc hd' Q.tS Q.vm h1 h2 n2))
 have e:(List.range 4).flatMap (jq r mv t)=jq r mv t 0++(jq r mv t 1++(jq r mv t 2++(jq r mv t 3++[]))):=rfl;rw[e,QA];refine RJ.mpr ⟨nd 0,RJ.mpr ⟨nd 1,RJ.mpr ⟨nd 2,nd 3,dj 2 3 (by decide) (by decide) (by decide)⟩,λv hv u hu=>?_⟩,λv hv u hu=>?_⟩
 ·rcases Qc.mp hu with z|z
  ·exact dj 1 2 (by decide) (by decide) (by decide) v hv u z
  ·exact dj 1 3 (by decide) (by decide) (by decide) v hv u z
 ·rcases Qc.mp hu with z|z
  ·exact dj 0 1 (by decide) (by decide) (by decide) v hv u z
  ·rcases Qc.mp z with z|z
   ·exact dj 0 2 (by decide) (by decide) (by decide) v hv u z
   ·exact dj 0 3 (by decide) (by decide) (by decide) v hv u z
theorem pU{r:R0}{R:PK}{p:Qu}{ps:List Int}{tn:Int}(Q:c8 r R)(P:dL R p ps tn){s t:Nat}(M:Df R ps tn s t):bR r (ba ps s t) t=iL (R.takes p (s,t)):=by
 have Pq:=shift_pos Q P M;have mt:(ba ps s t).getD t 0=ps.getD s 0:=by rw[A7 P.wf M.s1 M.t1,Py (PZ M.ne),Pz rfl]
 have kq:∀x,x<169->((p.shifted (s,t)).king=x↔(ba ps s t).getD x 0=3):=λx hx=>by
  rcases Pq.k with⟨k1,k2⟩|⟨k1,k2,k3⟩
  ·exact⟨λe=>by omega,λe=>absurd e (k2 x hx)⟩
  ·exact⟨λe=>by rw[<-e];exact k2,λe=>(k3 x hx e).symm⟩
 have sd:da ((ba ps s t).getD t 0)=tn:=by rw[mt];exact M.sd
 unfold bR Tafl.Rules.takes Tafl.GONE;dsimp only;rw[Q.ar];generalize hq:p.shifted (s,t)=q at*;generalize hmv:ba ps s t=mv at*
 by_cases hgd:mv.getD t 0=3/\b2i R.armed=0
 ·rw[Pz hgd]
  have ha:R.armed=false:=by
   cases h:R.armed with
   |false=>rfl
   |true=>have:=hgd.2;rw[h]at this;cases this
  have s1:p.side=1:=by
   rw[hgd.1,P.sd]at sd;have:((p.side:Nat):Int)=1:=sd.symm;omega
  have hs:(p.side==0)=false:=by rw[s1];rfl
  have em:R.menTaken q false t=[]:=by
   unfold Tafl.Rules.menTaken;rw[Pz ⟨rfl,(kq t M.t1).mpr hgd.1,ha⟩]
  rw[hs,em];simp[iL]
 ·rw[Py hgd]
  refine Bt (Ha Q mv M.w M.h) (λv hv=>?_) _ λx hx=>?_
  ·obtain⟨d,x,hd,hn,e,_⟩:=(Ic Q mv M.w M.h v).mp hv
   have:=jB hd Q.tS Q.vm M.w M.h hn;exact⟨x,e,by omega⟩
  ·rw[Ic Q mv M.w M.h,Rm,RG,P4,QQ,sd]
   have hg:¬((p.side==0)=false/\q.king=t/\R.armed=false):=λz=>hgd ⟨(kq t M.t1).mp z.2.1,by rw[z.2.2];rfl⟩;rw[IS hg];rcases P.JT with s0|s1
   ·have hs:(p.side==0)=true:=by rw[s0];rfl
    have tn0:tn=0:=by rw[P.sd,s0];rfl
    rw[hs,tn0,P4,Jd];constructor
    ·rintro(⟨d,d1,d2,ho,hh⟩|⟨⟨_,d,d1,d2,hh⟩,rfl⟩)
     ·obtain⟨x1,x2,x3⟩:=jB d1 Q.tS Q.vm M.w M.h d2
      have e2:mv.getD x 0=2:=by rw[<-Pq.on x1,ho];rfl
      refine⟨d,x,d1,d2,rfl,by rw[e2];rfl,?_⟩;unfold lJ;rw[e2,Py (λz=>by cases z.1)];exact(held_eq Q Pq d1 x2 x3 (pc:=2) (hu:=true) rfl).trans hh
     ·obtain⟨x1,x2,x3⟩:=jB d1 Q.tS Q.vm M.w M.h d2
      have e3:mv.getD q.king 0=3:=(kq _ x1).mp rfl;refine⟨d,q.king,d1,d2,rfl,by rw[e3];rfl,?_⟩;unfold lJ;rw[e3,Q.fo];have he:∀e,e<4->pZ r mv (di r.wide r.high q.king (cB e) (cC e)) 3 0=l6 R q true (R.next e q.king):=λe he=>held_eq Q Pq he x2 x3 (pc:=3) (hu:=true) rfl;cases hf:R.four with
      |true=>
       rw[hf,Pz rfl]at hh;rw[Pz ⟨rfl,rfl⟩];rw[Rg]at hh ⊢;exactλe hm=>by rw[he e (Qe.mp hm)];exact hh e hm
      |false=>
       rw[hf,Py PM]at hh;rw[Py (λz=>by cases z.2),he d d1];exact hh
    ·rintro⟨d,y,d1,d2,e,hs2,hk⟩
     have e:y=x:=by omega
     subst e;obtain⟨x1,x2,x3⟩:=jB d1 Q.tS Q.vm M.w M.h d2;obtain⟨v0,v3⟩:=Pq.wf.val y;have cs:mv.getD y 0=2\/mv.getD y 0=3:=by
      unfold da at hs2;split at hs2
      ·cases hs2
      ·split at hs2
       ·cases hs2
       ·omega
     rcases cs with e2|e3
     ·left
      refine⟨d,d1,d2,?_,?_⟩
      ·rw[Pz rfl]
       exact eP ((Pq.on x1).trans e2)
      ·unfold lJ at hk
       rw[e2,Py (λz=>by cases z.1)]at hk;exact(held_eq Q Pq d1 x2 x3 (pc:=2) (hu:=true) rfl).symm.trans hk
     ·right
      have ky:=(kq y x1).mpr e3;subst ky;refine⟨⟨rfl,d,d1,d2,?_⟩,rfl⟩;unfold lJ at hk;rw[e3,Q.fo]at hk;have he:∀e,e<4->pZ r mv (di r.wide r.high q.king (cB e) (cC e)) 3 0=l6 R q true (R.next e q.king):=λe he=>held_eq Q Pq he x2 x3 (pc:=3) (hu:=true) rfl;cases hf:R.four with
      |true=>
       rw[Pz rfl];rw[hf,Pz ⟨rfl,rfl⟩]at hk;rw[Rg]at hk ⊢;exactλe hm=>by rw[<-he e (Qe.mp hm)];exact hk e hm
      |false=>
       rw[Py PM,<-he d d1];rw[hf,Py (λz=>by cases z.2)]at hk;exact hk
   ·have hs:(p.side==0)=false:=by rw[s1];rfl
    have tn1:tn=1:=by rw[P.sd,s1];rfl
    rw[hs,tn1];constructor
    ·rintro(⟨d,d1,d2,ho,hh⟩|⟨z,_⟩)
     ·obtain⟨x1,x2,x3⟩:=jB d1 Q.tS Q.vm M.w M.h d2
      have e1:mv.getD x 0=1:=by rw[<-Pq.on x1,ho];rfl
      refine⟨d,x,d1,d2,rfl,by rw[e1];rfl,?_⟩;unfold lJ;rw[e1,Py (λz=>by cases z.1)];exact(held_eq Q Pq d1 x2 x3 (pc:=1) (hu:=false) rfl).trans hh
     ·cases z
    ·rintro⟨d,y,d1,d2,e,hs2,hk⟩
     have e:y=x:=by omega
     subst e;obtain⟨x1,x2,x3⟩:=jB d1 Q.tS Q.vm M.w M.h d2;have e1:mv.getD y 0=1:=by
      unfold da at hs2;split at hs2
      ·cases hs2
      ·split at hs2
       ·assumption
       ·cases hs2
     left
     refine⟨d,d1,d2,?_,?_⟩
     ·exact eP ((Pq.on x1).trans e1)
     ·unfold lJ at hk
      rw[e1,Py (λz=>by cases z.1)]at hk;exact(held_eq Q Pq d1 x2 x3 (pc:=1) (hu:=false) rfl).symm.trans hk
theorem Bl:∀(l:List Nat)(mv:List Int)(c:Nat),(∀x∈l,x<mv.length)->(mS mv (iL l)).getD c 0=if c∈l then 0 else mv.getD c 0
 |[],_,_,_=>rfl
 |x::l,mv,c,h=>by
  have hx:=h x PU;show(mS (mv.set ((x:Nat):Int).toNat 0) (iL l)).getD c 0=_;rw[Bl l _ c (λy hy=>by rw[Rl];exact h y (PY _ hy)),Qm,ln]
  by_cases h1:c∈l
  ·rw[Pz h1,Pz (PY _ h1)]
  ·rw[Py h1]
   by_cases h2:x=c
   ·rw[Pz (show x=c/\x<mv.length from⟨h2,hx⟩),Pz (by rw[h2];exact PU)]
   ·rw[Py (show¬(x=c/\x<mv.length)fromλz=>h2 z.1),Py (λz=>by
     rcases Qh.mp z with z|z
     ·exact h2 z.symm
     ·exact h1 z)]
theorem BH{r:R0}{R:PK}{p:Qu}{ps:List Int}{tn:Int}(Q:c8 r R)(P:dL R p ps tn){s t:Nat}(M:Df R ps tn s t){x:Nat}(h:x∈R.takes p (s,t)):x<169:=by
 have hm:((x:Nat):Int)∈bR r (ba ps s t) t:=by
  rw[pU Q P M];exact P_.mpr ⟨x,h,rfl⟩
 obtain⟨c,e,c1⟩:=jO Q.wf M.t1 hm;omega
theorem kD{r:R0}{R:PK}{p:Qu}{ps:List Int}{tn:Int}(Q:c8 r R)(P:dL R p ps tn){s t:Nat}(M:Df R ps tn s t):dL R (R.comes p (s,t)) (bz r ps s t) (1-tn):=by
 have Pq:=shift_pos Q P M;have tl:=λ{x}=>BH Q P M (x:=x);have W:=P.wf.after r s t;have at_:∀c,(bz r ps s t).getD c 0=if c∈R.takes p (s,t)then 0 else(ba ps s t).getD c 0:=λc=>by
  unfold bz;rw[pU Q P M];exact Bl _ _ c λx hx=>by rw[Pq.wf.len];exact tl hx
 unfold Tafl.Rules.comes;dsimp only;generalize hq:p.shifted (s,t)=q at*;generalize ba ps s t=mv at*;generalize R.takes p (s,t)=l at*;have cn:∀c,(!l.contains c)=true↔c∉l:=λc=>by simp
 refine⟨W,Pq.sd,Pq.JT,λc=>?_,λc=>?_,?_,λc hc hz=>?_⟩
 ·show(Tafl.setFrom ((Tafl.cellsIn q.hunters).filter λ(c:Nat)=> !l.contains c)).testBit c=true↔_
  rw[qv,Qz,lY,Pq.h c,cn,at_]
  by_cases h:c∈l
  ·rw[Pz h]
   exact⟨λz=>absurd h z.2,λz=>by cases z.2⟩
  ·rw[Py h]
   exact⟨λz=>z.1.2,λz=>⟨⟨by omega,z⟩,h⟩⟩
 ·show(Tafl.setFrom ((Tafl.cellsIn q.men).filter λ(c:Nat)=> !l.contains c)).testBit c=true↔_
  rw[qv,Qz,lY,Pq.m c,cn,at_]
  by_cases h:c∈l
  ·rw[Pz h]
   exact⟨λz=>absurd h z.2,λz=>by cases z.2⟩
  ·rw[Py h]
   exact⟨λz=>z.1.2,λz=>⟨⟨by omega,z⟩,h⟩⟩
 ·show((if l.contains q.king=true then Tafl.TAKEN else q.king)=255/\_)\/((if l.contains q.king=true then Tafl.TAKEN else q.king)<169/\_)
  have sub:∀c,c<169->(bz r ps s t).getD c 0=3->c∉l/\mv.getD c 0=3:=λc hc e=>by
   rw[at_]at e
   by_cases h:c∈l
   ·rw[Pz h]at e
    cases e
   ·rw[Py h]at e
    exact⟨h,e⟩
  by_cases hk:q.king∈l
  ·rw[Pz (RG.mpr hk)]
   refine .inl ⟨rfl,λc hc e=>?_⟩;obtain⟨n1,n2⟩:=sub c hc e;rcases Pq.k with⟨k1,k2⟩|⟨k1,k2,k3⟩
   ·exact k2 c hc n2
   ·exact n1 (by rw[k3 c hc n2];exact hk)
  ·rw[Py (λz=>hk (RG.mp z))]
   rcases Pq.k with⟨k1,k2⟩|⟨k1,k2,k3⟩
   ·exact .inl ⟨k1,λc hc e=>k2 c hc (sub c hc e).2⟩
   ·exact .inr ⟨k1,by rw[at_,Py hk];exact k2,λc hc e=>k3 c hc (sub c hc e).2⟩
 ·rw[at_]at hz
  by_cases h:c∈l
  ·rw[Pz h]at hz
   exact absurd rfl hz
  ·rw[Py h]at hz
   exact Pq.g c hc hz
theorem Ia{r:R0}{R:PK}{p:Qu}{ps:List Int}{tn:Int}(Q:c8 r R)(P:dL R p ps tn){s t:Nat}(M:Df R ps tn s t):rowOf r ps tn s t=Tafl.asInts (TaflMoves.toldMove R p (s,t)):=by
 unfold rowOf TaflMoves.toldMove Tafl.asInts;rw[tE Q (kD Q P M),pU Q P M];rfl
inductive RP(r:R0)(R:PK):List RE->List Qu->Prop
 |nil:RP r R [] []
 |cons {e:RE} {q:Qu} {l:List RE} {m:List Qu}:dL R q (bz r e.1 e.2.2.1 e.2.2.2) (1-e.2.1)->RP r R l m->RP r R (e::l) (q::m)
theorem RP.append{r:R0}{R:PK}{l l':List RE}{m m':List Qu}(h:RP r R l m)(h':RP r R l' m'):RP r R (l++l') (m++m'):=by
 induction h with
 |nil=>exact h'
 |cons a _ ih=>exact .cons a ih
theorem RP.ofMap{r:R0}{R:PK}{p:Qu}{ps:List Int}{t:Int}:∀(l:List (Nat×Nat)),(∀e∈l,dL R (R.comes p e) (bz r ps e.1 e.2) (1-t))->RP r R (l.map λ(e:Nat×Nat)=>(ps,t,e.1,e.2)) (l.map λ(e:Nat×Nat)=>R.comes p e)
 |[],_=>.nil
 |e::l,h=>.cons (h e PU) (RP.ofMap l λx hx=>h x (PY _ hx))
theorem Ef{r:R0}{R:PK}{p:Qu}{ps:List Int}{t:Int}(Q:c8 r R)(P:dL R p ps t):RP r R (jh r ps t) ((R.moves p).map λ(m:Nat×Nat)=>R.comes p m):=by
 unfold jh;rw[<-mY Q P];exact RP.ofMap _ λe he=>kD Q P (zI Q P (s:=e.1) (t:=e.2) he)
theorem BZ{r:R0}{R:PK}{p:Qu}{ps:List Int}{t:Int}(Q:c8 r R)(P:dL R p ps t):(jh r ps t).length=(R.moves p).length:=by
 unfold jh;rw[Px,mY Q P]
def iW(r:R0)(rows:List RE):List RE:=rows.flatMap λ(e:RE)=>jh r (bz r e.1 e.2.2.1 e.2.2.2) (1-e.2.1)
theorem Jm{r:R0}{R:PK}(Q:c8 r R){rows:List RE}{Ps:List Qu}(h:RP r R rows Ps):RP r R (iW r rows) (Ps.flatMap λ(p:Qu)=>(R.moves p).map λ(m:Nat×Nat)=>R.comes p m):=by
 induction h with
 |nil=>exact .nil
 |cons a _ ih=>
  unfold iW at ih ⊢;rw[QM,QM];exact(Ef Q a).append ih
theorem foldl_add(l:List Nat):∀a,l.foldl (λ(a b:Nat)=>a+b) a=a+l.sum:=by
 induction l with
 |nil=>simp
 |cons x l ih=>
  intro a;rw[Q8,ih,RZ];omega
theorem Ho{r:R0}{R:PK}(Q:c8 r R){rows:List RE}{Ps:List Qu}(h:RP r R rows Ps):(iW r rows).length=(Ps.map λ(p:Qu)=>(R.moves p).length).foldl (λ(a b:Nat)=>a+b) 0:=by
 rw[foldl_add,Nat.zero_add]
 induction h with
 |nil=>rfl
 |cons a _ ih=>
  unfold iW at ih ⊢;rw[QM,P0,QD,RZ,ih,BZ Q a]
theorem uR(r:R0)(m:Nat):∀(rows acc:List RE),(acc.length+(iW r rows).length<=m->eC r m rows acc=acc++iW r rows)/\(m<acc.length+(iW r rows).length->m<(eC r m rows acc).length)
 |[],acc=>⟨λ_=>by simp[eC,iW],λh=>by simpa[eC,iW]using h⟩
 |e::rows,acc=>by
  obtain⟨i1,i2⟩:=uR r m rows (acc++jh r (bz r e.1 e.2.2.1 e.2.2.2) (1-e.2.1));have ef:iW r (e::rows)=jh r (bz r e.1 e.2.2.1 e.2.2.2) (1-e.2.1)++iW r rows:=by
   unfold iW;rw[QM]
  rw[P0]at i1 i2;rw[ef,P0];unfold eC
  by_cases h:m<acc.length
  ·rw[Pz h]
   exact⟨λz=>by omega,λ_=>h⟩
  ·rw[Py h]
   refine⟨λz=>?_,λz=>i2 (by omega)⟩;rw[i1 (by omega),QH]
theorem wR{r:R0}{R:PK}(Q:c8 r R)(most:Nat):∀(f:Nat)(rows:List RE)(Ps:List Qu)(cs:List Int),RP r R rows Ps->0<=cs.sum->cs.sum<=((most:Nat):Int)->
  (∀l,TaflMoves.counts R f (most-cs.sum.toNat) Ps=some l->jX r most f rows cs=cs++iL l/\(cs++iL l).sum<=((most:Nat):Int))/\(TaflMoves.counts R f (most-cs.sum.toNat) Ps=none->((most:Nat):Int)<(jX r most f rows cs).sum)
 |0,rows,Ps,cs,h,h0,h1=>by
  refine⟨λl e=>?_,λe=>by cases e⟩;cases e;exact⟨(QA cs).symm,by show(cs++[]).sum<=_;rw[QA];exact h1⟩
 |f+1,rows,Ps,cs,h,h0,h1=>by
  obtain⟨g1,g2⟩:=uR r (most-cs.sum.toNat) rows [];rw[List.length_nil,Nat.zero_add]at g1 g2;have fl:=Ho Q h;unfold TaflMoves.counts;dsimp only;rw[<-fl];unfold jX;rw[Pz h1]
  by_cases hc:most-cs.sum.toNat<(iW r rows).length
  ·rw[Pz hc]
   refine⟨λl e=>(by cases e),λ_=>?_⟩;have g2:=g2 hc;generalize eC r (most-cs.sum.toNat) rows []=L at*;have es:((most:Nat):Int)<(cs++[((L.length:Nat):Int)]).sum:=by
    rw[List.sum_append,RZ,List.sum_nil];omega
   cases f with
   |zero=>exact es
   |succ f=>
    unfold jX;rw[Py (by omega)];exact es
  ·rw[Py hc,g1 (by omega),Q0]
   have es:(cs++[(((iW r rows).length:Nat):Int)]).sum=cs.sum+(((iW r rows).length:Nat):Int):=by
    rw[List.sum_append,RZ,List.sum_nil];omega
   obtain⟨i1,i2⟩:=wR Q most f (iW r rows) _ (cs++[(((iW r rows).length:Nat):Int)]) (Jm Q h) (by omega) (by omega);have er:most-cs.sum.toNat-(iW r rows).length=most-(cs++[(((iW r rows).length:Nat):Int)]).sum.toNat:=by omega
   rw[er];refine⟨λl e=>?_,λe=>?_⟩
   ·rw[R8]at e
    obtain⟨l',e1,rfl⟩:=e;obtain⟨j1,j2⟩:=i1 l' e1;rw[QH]at j1 j2;exact⟨j1,j2⟩
   ·rw[Option.map_eq_none_iff]at e
    exact i2 e
theorem count_eq{r:R0}{R:PK}{p:Qu}{ps:List Int}{t:Int}(Q:c8 r R)(P:dL R p ps t){n most:Nat}(hn:1<=n):(∀l,TaflMoves.counts R n most [p]=some l->countOf r ps t n most=iL l/\(countOf r ps t n most).sum<=((most:Nat):Int))/\(TaflMoves.counts R n most [p]=none->((most:Nat):Int)<(countOf r ps t n most).sum):=by
 obtain⟨n,rfl⟩:∃m,n=m+1:=⟨n-1,by omega⟩;unfold countOf;rw[Nat.add_sub_cancel,BZ Q P];unfold TaflMoves.counts;have ec:(([p]:List Qu).map λ(p:Qu)=>(R.moves p).length).foldl (λ(a b:Nat)=>a+b) 0=(R.moves p).length:=by simp
 have ef:([p]:List Qu).flatMap (λ(p:Qu)=>(R.moves p).map λ(m:Nat×Nat)=>R.comes p m)=(R.moves p).map λ(m:Nat×Nat)=>R.comes p m:=by simp
 dsimp only;rw[ec,ef];have es:([(((R.moves p).length:Nat):Int)]:List Int).sum=(((R.moves p).length:Nat):Int):=by simp
 by_cases hc:most<(R.moves p).length
 ·rw[Pz hc]
  refine⟨λl e=>(by cases e),λ_=>?_⟩;cases n with
  |zero=>
   show _<([(((R.moves p).length:Nat):Int)]:List Int).sum;omega
  |succ n=>
   unfold jX;rw[Py (by omega),es];omega
 ·rw[Py hc]
  obtain⟨i1,i2⟩:=wR Q most n (jh r ps t) _ [(((R.moves p).length:Nat):Int)] (Ef Q P) (by omega) (by omega);have er:most-(R.moves p).length=most-([(((R.moves p).length:Nat):Int)]:List Int).sum.toNat:=by omega
  rw[er];refine⟨λl e=>?_,λe=>?_⟩
  ·rw[R8]at e
   obtain⟨l',e1,rfl⟩:=e;obtain⟨j1,j2⟩:=i1 l' e1;rw[j1];exact⟨rfl,j2⟩
  ·rw[Option.map_eq_none_iff]at e
   exact i2 e
theorem lC{α β:Type}{l:List α}{f g:α->List β}(h:∀x∈l,f x=g x):l.flatMap f=l.flatMap g:=by
 induction l with
 |nil=>rfl
 |cons x l ih=>rw[QM,QM,h x PU,ih λy hy=>h y (PY _ hy)]
theorem dO(x y:Str):codes (x++y)=codes x++codes y:=by
 unfold codes;have:=TL.ue x y;unfold TL.tl at this;rw[this,Qg]
theorem v8(x y:PX):bC (x++y)=bC x++bC y:=by
 unfold bC;rw[Qg]
theorem IW{x y:PX}(h:bC x=bC y):x=y:=by
 unfold bC at h
 induction x generalizing y with
 |nil=>cases y with
  |nil=>rfl
  |cons _ _=>cases h
 |cons a x ih=>cases y with
  |nil=>cases h
  |cons b y=>
   injection h with h1 h2;have h1:((a.toNat:Nat):Int)=((b.toNat:Nat):Int):=h1;have hab:a=b:=Rt.mp (by omega);rw[ih h2,hab]
theorem Hd{n:Nat}(h1:0<n)(h:n<=13):codes ((toString ((n:Nat):Int):String):Str)=bC (Tafl.digitsOf n):=by
 have all:∀m:Fin 14,0<m.val->codes ((toString ((m.val:Nat):Int):String):Str)=bC (Tafl.digitsOf m.val):=by decide+kernel
 exact all ⟨n,by omega⟩ h1
theorem z7:codes ""=[]:=by decide+kernel
theorem wJ{n:Nat}(h:n<=13):codes (lD n)=bC (if n=0 then[]else Tafl.digitsOf n):=by
 unfold lD
 by_cases h0:n=0
 ·rw[Py (by omega),Pz h0]
  exact z7
 ·rw[Pz (by omega),Py h0]
  exact Hd (by omega) h
theorem CY(x:Qo):codes (Eu (dJ x))=[((Tafl.pieceByte x).toNat:Int)]:=by cases x<;>decide+kernel
theorem wv:∀(L:List Qo)(tx:Str)(n:Nat),n+L.length<=13->codes (((L.map dJ).foldl cF (tx,n)).1++lD ((L.map dJ).foldl cF (tx,n)).2)=codes tx++bC (Tafl.rowLine n L)
 |[],tx,n,h=>by
  show codes (tx++lD n)=_;rw[dO,wJ (by simpa using h)];rfl
 |x::L,tx,n,h=>by
  rw[Qj]at h;rw[QD,Q8];unfold Tafl.rowLine
  by_cases hx:x=.none
  ·subst hx
   have e:cF (tx,n) (dJ .none)=(tx,n+1):=rfl;rw[e,wv L tx (n+1) (by omega),Pz rfl]
  ·have e:cF (tx,n) (dJ x)=(tx++(lD n++Eu (dJ x)),0):=by
    unfold cF;rw[Py (show¬dJ x=0 fromλz=>hx (eP (y:= .none) z))]
   rw[e,wv L _ 0 (by omega),Py hx,dO,dO,wJ (by omega),CY,v8,QH,QH];rfl
theorem Fb{L:List Qo}(h:L.length<=13):codes (fH (L.map dJ))=bC (Tafl.rowLine 0 L):=by
 have:=wv L "" 0 (by omega);unfold fH;rw[z7,Q0]at this;exact this
theorem yd{α β:Type}(f:α->List β){w:Nat}(hf:∀y,(f y).length=w):∀(L:List α)(i:Nat)(x:α),L[i]? =some x->((L.flatMap f).drop (w*i)).take w=f x
 |[],_,_,h=>by simp at h
 |y::L,0,x,h=>by
  cases h;rw[Nat.mul_zero,List.drop_zero,QM,List.take_append_of_le_length (by rw[hf];exact PF _),Qp (by rw[hf];exact PF _)]
 |y::L,i+1,x,h=>by
  have e:w*(i+1)=(f y).length+w*i:=by rw[hf,Rs,Nat.add_comm]
  rw[QM,e,List.drop_length_add_append];exact yd f hf L i x (by simpa using h)
theorem FC{r:R0}{R:PK}{p:Qu}{ps:List Int}{t:Int}(Q:c8 r R)(P:dL R p ps t){i:Nat}(hi:i<R.high):rowAt r ps i=(R.rowOf p (R.high-1-i)).map dJ:=by
 unfold rowAt uO br;rw[Q.w,Q.h,Ry];rw[yd (λ(j:Nat)=>((List.range R.wide).map λ(x:Nat)=>((13*(R.high-1-j)+x:Nat):Int)).map λ(c:Int)=>ps.getD c.toNat 0) (w:=R.wide) (λj=>by rw[Px,Px,QL]) (List.range R.high) i i (Sj hi)];unfold Tafl.Rules.rowOf;rw[QJ,QJ];refine Rn λx hx=>?_;have hx:=Qe.mp hx;have:=Q.tS;have:=Q.vm;show ps.getD ((13*(R.high-1-i)+x:Nat):Int).toNat 0=dJ (p.on (Tafl.cellOf x (R.high-1-i)));rw[Qm];exact(P.on (c:=13*(R.high-1-i)+x) (by omega)).symm
theorem xY(S:List Nat)(x:List Nat):∀l,TL.zZ S (x::l)=x++l.flatMap λ(y:List Nat)=>S++y
 |[]=>by simp[TL.zZ]
 |y::l=>by
  show x++(S++TL.zZ S (y::l))=_;rw[xY S y l,QM,QH]
theorem xP(S:Str)(x:Str)(l:List Str):codes (Txt.join S (x::l))=codes x++l.flatMap λ(y:Str)=>codes S++codes y:=by
 rw[TL.join_eq];unfold codes;have:=TL.Eg S (x::l);unfold TL.tl at this;rw[this,QD,xY,Qg,Ry,Rp];simp only[Qg]
theorem EV{r:R0}{R:PK}{p:Qu}{ps:List Int}{t:Int}(Q:c8 r R)(P:dL R p ps t):codes (fL r ps t)=bC (R.line p):=by
 unfold fL Tafl.Rules.line;rw[dO,dO,v8,Q.h,QH]
 congr 1
 ·have h5:=Q.h5
  obtain⟨n,hn⟩:∃n,R.high=n+1:=⟨R.high-1,by omega⟩;have rw1:∀i,i<R.high->codes (fH (rowAt r ps i))=bC (Tafl.rowLine 0 (R.rowOf p (R.high-1-i))):=λi hi=>by
   rw[FC Q P hi];exact Fb (by unfold Tafl.Rules.rowOf;rw[Px,QL];exact Q.tS)
  have es:List.range R.high=0::(List.range n).map (·+1):=by rw[hn,Rz]
  rw[es,QD,xP,QM,v8,Pz rfl,Q0,rw1 0 (by omega),QJ,Rp,Rp]
  congr 1
  unfold bC;rw[Ry];refine lC λi hi=>?_;have hi:=Qe.mp hi;have e47:codes "/"=[47]:=by decide+kernel
  show codes "/"++codes (fH (rowAt r ps (i+1)))=_;rw[rw1 (i+1) (by omega),e47,Py (by omega),Qg];rfl
 ·rcases P.JT with s|s
  ·rw[P.sd,s]
   decide+kernel
  ·rw[P.sd,s]
   decide+kernel
theorem vS{c:Nat}(h:c<169):codes (jf c)=bC (Tafl.cellName c):=by
 unfold jf Tafl.cellName Tafl.STRIDE;rw[dO,Hd (by omega) (by omega)];unfold bC;rw[QD];have e:(UInt8.ofNat (97+c%13)).toNat=97+c%13:=by
  rw[UInt8.toNat_ofNat'];omega
 rw[e];rfl
theorem ya(f:Nat->PX):∀(l:List Nat)(b:PX),l.foldl (λ(b:PX)(c:Nat)=>b++f c) b=b++l.flatMap f
 |[],b=>by simp
 |c::l,b=>by rw[Q8,ya f l,QM,QH]
theorem J5{r:R0}{R:PK}{p:Qu}{ps:List Int}{tn:Int}(Q:c8 r R)(P:dL R p ps tn){s t:Nat}(M:Df R ps tn s t):codes (sD r ps tn s t)=bC (R.moveLine p (s,t)):=by
 unfold sD Tafl.Rules.moveLine;rw[pU Q P M,tE Q (kD Q P M)];have tl:=λ{x}=>BH Q P M (x:=x);have ob:=AU r (bz r ps s t) (1-tn);rw[tE Q (kD Q P M)]at ob;dsimp only;generalize R.takes p (s,t)=l at*;generalize R.over (R.comes p (s,t))=o at*;have e1:codes (jW s t)=bC (Tafl.cellName s++(45::Tafl.cellName t)):=by
  unfold jW;have e:codes "-"=[45]:=by decide+kernel
  rw[dO,dO,vS M.s1,vS M.t1,e,v8,QH];rfl
 have e2:codes (js s t (iL l))=bC (Tafl.cellName s++(45::(Tafl.cellName t++(if l=[]then[]else 120::((l.drop 1).foldl (λ(b:PX)(c:Nat)=>b++(44::Tafl.cellName c)) (Tafl.cellName (l.headD 0))))))):=by
  unfold js;cases l with
  |nil=>
   rw[Py (by decide),Pz rfl,e1,QA]
  |cons x l=>
   rw[Pz (by show 0<(iL (x::l)).length;unfold iL;simp),Py (by simp)];have ex:codes "x"=[120]:=by decide+kernel
   have ek:codes ","=[44]:=by decide+kernel
   rw[dO,dO,e1,ex];unfold oa iL;rw[QJ,QD,xP,ek];show bC _++([120]++(codes (jf ((x:Nat):Int).toNat)++_))=_;rw[Qm,vS (tl PU),Rp];show _=bC (Tafl.cellName s++(45::(Tafl.cellName t++(120::(l.foldl (λ(b:PX)(c:Nat)=>b++(44::Tafl.cellName c)) (Tafl.cellName x))))));rw[ya (λc=>44::Tafl.cellName c)];have ef:l.flatMap (λ(c:Nat)=>[(44:Int)]++codes (jf ((c:Nat):Int).toNat))=bC (l.flatMap λ(c:Nat)=>(44:UInt8)::Tafl.cellName c):=by
    unfold bC;rw[Ry];refine lC λc hc=>?_;rw[Qm,vS (tl (PY _ hc))];rfl
   have ef2:(l.flatMap (λa=>[(44:Int)]++codes (((λ(c:Int)=>jf c.toNat)∘λ(x:Nat)=>((x:Nat):Int)) a)))=l.flatMap (λ(c:Nat)=>[(44:Int)]++codes (jf ((c:Nat):Int).toNat)):=rfl;rw[ef2,ef];unfold bC;simp
 unfold pO
 by_cases h0:o=0
 ·rw[Py (by omega),e2,Pz h0,QA]
 ·rw[Pz (by omega),dO,dO,e2,Py h0]
  have eh:codes "#"=[35]:=by decide+kernel
  have eo:codes ((toString ((o:Nat):Int):String):Str)=[((48+o:Nat):Int)]/\(UInt8.ofNat (48+o)).toNat=48+o:=by
   have:o=1\/o=2\/o=3:=by omega
   rcases this with rfl|rfl|rfl<;>exact⟨by decide+kernel,by decide⟩
  rw[eh,eo.1];unfold bC;simp;omega
theorem zL:∀(x y:PX),d_ (bC x) (bC y)=Tafl.common y x
 |[],[]=>rfl
 |[],_::_=>rfl
 |_::_,[]=>rfl
 |a::x,b::y=>by
  show(if((a.toNat:Nat):Int)=((b.toNat:Nat):Int)then d_ (bC x) (bC y)+1 else 0)=if b=a then Tafl.common y x+1 else 0;rw[zL x y]
  by_cases h:b=a
  ·rw[Pz (by rw[h]),Pz h]
  ·rw[Py (λz=>h (Rt.mp (by omega))),Py h]
theorem Gf{α:Type}(f:α->Nat):∀(l:List α)(b:Nat),l.foldl (λ(b:Nat)(e:α)=>max b (f e)) b=max b ((l.map f).foldr (λ(a b:Nat)=>max a b) 0)
 |[],b=>by simp
 |e::l,b=>by
  rw[Q8,Gf f l,QD,List.foldr_cons];omega
theorem wC{α:Type}{l:List α}{p q:α->Bool}(h:∀x∈l,p x=q x):l.find? p=l.find? q:=by
 induction l with
 |nil=>rfl
 |cons x l ih=>
  rw[List.find?_cons,List.find?_cons,h x PU,ih λy hy=>h y (PY _ hy)]
theorem IP{r:R0}{R:PK}{p:Qu}{ps:List Int}{tn:Int}(Q:c8 r R)(P:dL R p ps tn)(b:PX):(match(aQ r ps tn).find? λ(e:Nat×Nat)=>eZ r ps tn e==bC b with
  |some e=>Except.ok e
  |none=>Except.error (yp r ps tn (bC b) (aQ r ps tn)))=R.readMove p b:=by
 have lo:∀e∈aQ r ps tn,eZ r ps tn e=bC (R.moveLine p e):=λe he=>J5 Q P (zI Q P (s:=e.1) (t:=e.2) he);unfold Tafl.Rules.readMove;rw[<-mY Q P];have ef:(aQ r ps tn).find? (λ(e:Nat×Nat)=>eZ r ps tn e==bC b)=(aQ r ps tn).find? (λ(m:Nat×Nat)=>R.moveLine p m==b):=wC λe he=>by
  rw[lo e he,QN,QQ,QQ];exact⟨IW,λz=>by rw[z]⟩
 rw[ef];cases(aQ r ps tn).find? (λ(m:Nat×Nat)=>R.moveLine p m==b)with
 |some e=>rfl
 |none=>
  dsimp only
  congr 1
  unfold yp;rw[Gf,Nat.zero_max]
  congr 1
  refine Rn λe he=>?_;rw[lo e he,zL]
def cu(b:PX)(n:Nat):Tafl.Cur:=⟨b.drop n,n⟩
theorem g_(b:PX)(n:Nat):(cu b n).next=b[n]? :=by
 unfold cu Tafl.Cur.next;rw[List.head?_drop]
theorem pV(b:PX)(n:Nat):(cu b n).on=cu b (n+1):=by
 unfold cu Tafl.Cur.on;rw[List.drop_drop]
theorem ur(b:PX)(n:Nat):(bC b)[n]? =(b[n]?).map λ(c:UInt8)=>((c.toNat:Nat):Int):=by
 unfold bC;rw[Qa]
def sx(z:Str)(x:Int):Option Nat:=z.cps.toList.findIdx? λ(c:Nat)=>decide ((c:Int)=x)
theorem iV(z:Str)(b:PX)(n:Nat):cK z (bC b) n=(b[n]?).bind λ(c:UInt8)=>sx z ((c.toNat:Nat):Int):=by
 unfold cK;rw[ur];cases b[n]? <;>rfl
theorem xC(z:Str)(b:PX)(n:Nat):bd z (bC b) n=((b[n]?).bind λ(c:UInt8)=>sx z ((c.toNat:Nat):Int)).isSome:=by
 unfold bd;rw[ur];cases h:b[n]? with
 |none=>
  show(z.cps.toList.any λ(c:Nat)=>(none:Option Int)==some (c:Int))=false;rw[Rj];intro c _;exact PM
 |some x=>
  show(z.cps.toList.any λ(c:Nat)=>some ((x.toNat:Nat):Int)==some (c:Int))=(sx z ((x.toNat:Nat):Int)).isSome;unfold sx;rw[List.findIdx?_isSome]
  congr 1
  funext c
  rw[QN,QQ,PV];exact⟨λe=>by injection e with e;exact e.symm,λe=>by rw[e]⟩
theorem wT(b:PX):∀(l:PX)(n:Nat),(match c_ (bC b) (l.map λ(c:UInt8)=>c.toNat) n with|.ok m=>Except.ok (cu b m)|.error e=>Except.error e)=Tafl.lit l (cu b n)
 |[],n=>rfl
 |x::l,n=>by
  unfold Tafl.lit;have el:c_ (bC b) ((x::l).map λ(c:UInt8)=>c.toNat) n=if(bC b)[n]? =some ((x.toNat:Nat):Int)then c_ (bC b) (l.map λ(c:UInt8)=>c.toNat) (n+1)else .error n:=rfl;rw[g_,pV,<-wT b l (n+1),el,ur];cases h:b[n]? with
  |none=>
   rw[Py (λz=>nomatch z),Py (λz=>nomatch z)];rfl
  |some y=>
   by_cases hy:y=x
   ·subst hy
    rw[Pz (show Option.map (λ(c:UInt8)=>((c.toNat:Nat):Int)) (some y)=some ((y.toNat:Nat):Int)from rfl),Pz rfl]
   ·have ne:¬Option.map (λ(c:UInt8)=>((c.toNat:Nat):Int)) (some y)=some ((x.toNat:Nat):Int):=λz=>by
     have:((y.toNat:Nat):Int)=((x.toNat:Nat):Int):=Qk z;exact hy (Rt.mp (by omega))
    rw[Py ne,Py (λz=>hy (Qk z))];rfl
theorem eE{P:Nat->Prop}(h:∀m:Fin 256,P m.val)(x:UInt8):P x.toNat:=h ⟨x.toNat,x.toNat_lt⟩
theorem Lq(x:UInt8):(sx fG ((x.toNat:Nat):Int)).isSome=Tafl.isDigit x:=by
 have all:∀m:Fin 256,(sx fG ((m.val:Nat):Int)).isSome=(decide (48<=m.val)&&decide (m.val<=57)):=by decide+kernel
 exact eE (P:=λm=>(sx fG ((m:Nat):Int)).isSome=(decide (48<=m)&&decide (m<=57))) all x
theorem E1(x:UInt8)(h:48<=x.toNat/\x.toNat<=57):sx fG ((x.toNat:Nat):Int)=some (x.toNat-48):=by
 have all:∀m:Fin 256,(48<=m.val/\m.val<=57)->sx fG ((m.val:Nat):Int)=some (m.val-48):=by decide+kernel
 exact eE (P:=λm=>(48<=m/\m<=57)->sx fG ((m:Nat):Int)=some (m-48)) all x h
theorem Lm(x:UInt8):sx "hmK" ((x.toNat:Nat):Int)=if x.toNat=104 then some 0 else if x.toNat=109 then some 1 else if x.toNat=75 then some 2 else none:=by
 have all:∀m:Fin 256,sx "hmK" ((m.val:Nat):Int)=if m.val=104 then some 0 else if m.val=109 then some 1 else if m.val=75 then some 2 else none:=by decide+kernel
 exact eE (P:=λm=>sx "hmK" ((m:Nat):Int)=if m=104 then some 0 else if m=109 then some 1 else if m=75 then some 2 else none) all x
theorem MG(x:UInt8):sx "hm" ((x.toNat:Nat):Int)=if x.toNat=104 then some 0 else if x.toNat=109 then some 1 else none:=by
 have all:∀m:Fin 256,sx "hm" ((m.val:Nat):Int)=if m.val=104 then some 0 else if m.val=109 then some 1 else none:=by decide+kernel
 exact eE (P:=λm=>sx "hm" ((m:Nat):Int)=if m=104 then some 0 else if m=109 then some 1 else none) all x
theorem Mx(x:UInt8):sx "hk" ((x.toNat:Nat):Int)=if x.toNat=104 then some 0 else if x.toNat=107 then some 1 else none:=by
 have all:∀m:Fin 256,sx "hk" ((m.val:Nat):Int)=if m.val=104 then some 0 else if m.val=107 then some 1 else none:=by decide+kernel
 exact eE (P:=λm=>sx "hk" ((m:Nat):Int)=if m=104 then some 0 else if m=107 then some 1 else none) all x
theorem Jg{left:Nat}(hl:left<=13)(x:UInt8):sx (gb fG (some 1) (some (((left:Nat):Int)+1))) ((x.toNat:Nat):Int)=if 49<=x.toNat/\x.toNat<=57/\x.toNat-48<=left then some (x.toNat-49)else none:=by
 have all:∀(k:Fin 14)(m:Fin 256),sx (gb fG (some 1) (some (((k.val:Nat):Int)+1))) ((m.val:Nat):Int)=if 49<=m.val/\m.val<=57/\m.val-48<=k.val then some (m.val-49)else none:=by decide+kernel
 exact all ⟨left,by omega⟩ ⟨x.toNat,x.toNat_lt⟩
theorem IA{k:Nat}(hk:k<=3)(x:UInt8):(sx (gb fG none (some (((k:Nat):Int)+1))) ((x.toNat:Nat):Int)).isSome=(decide (48<=x.toNat)&&decide (x.toNat<=48+k)):=by
 have all:∀(k:Fin 4)(m:Fin 256),(sx (gb fG none (some (((k.val:Nat):Int)+1))) ((m.val:Nat):Int)).isSome=(decide (48<=m.val)&&decide (m.val<=48+k.val)):=by decide+kernel
 exact all ⟨k,by omega⟩ ⟨x.toNat,x.toNat_lt⟩
theorem JG{left:Nat}(h1:1<=left)(hl:left<=13)(b:PX)(n:Nat):(match manyN ((left:Nat):Int) (bC b) n with|.ok (v,m)=>Except.ok (v,cu b m)|.error e=>Except.error e)=(match Tafl.runIn left (cu b n)with|.ok (m,c)=>Except.ok (V.int ((m:Nat):Int),c)|.error e=>.error e):=by
 unfold manyN Tafl.runIn aW;rw[g_,iV];cases hb:b[n]? with
 |none=>rfl
 |some x=>
  show(match(match(match sx (gb fG (some 1) (some (((left:Nat):Int)+1))) ((x.toNat:Nat):Int)with|some k=>Except.ok (V.int ((k:Nat):Int),n+1)|none=>Except.error n)with
   |Except.error e=>Except.error e
   |Except.ok (V.int d,m)=>if 0<=((left:Nat):Int)-10*(1+d)/\bd (gb fG none (some (((left:Nat):Int)-10*(1+d)+1))) (bC b) m=true then(match(match cK fG (bC b) m with|some k=>Except.ok (V.int ((k:Nat):Int),m+1)|none=>Except.error m)with
     |Except.error e=>Except.error e
     |Except.ok (V.int d2,m2)=>Except.ok (V.int (10*(1+d)+d2),m2)
     |Except.ok (_,m2)=>Except.error m2)else Except.ok (V.int (1+d),m)
   |Except.ok (_,m)=>Except.error m)with|.ok (v,m)=>Except.ok (v,cu b m)|.error e=>Except.error e)=_
  rw[Jg hl];dsimp only;have dg:Tafl.isDigit x=(decide (48<=x.toNat)&&decide (x.toNat<=57)):=rfl
  by_cases hx:49<=x.toNat/\x.toNat<=57/\x.toNat-48<=left
  ·rw[Pz hx,Pz (show Tafl.isDigit x=true/\1<=x.toNat-48/\x.toNat-48<=left from⟨by rw[dg,PJ (by omega),PJ (by omega)];rfl,by omega,hx.2.2⟩)]
   dsimp only;rw[pV,g_,iV,xC];have e1:(1:Int)+(((x.toNat-49:Nat)):Int)=((x.toNat-48:Nat):Int):=by omega
   rw[e1];cases hc:b[n+1]? with
   |none=>
    rw[Py (λz=>by cases z.2)]
   |some y=>
    have dy:Tafl.isDigit y=(decide (48<=y.toNat)&&decide (y.toNat<=57)):=rfl
    by_cases h10:x.toNat=49/\10<=left
    ·have ek:((left:Nat):Int)-10*((x.toNat-48:Nat):Int)+1=(((left-10:Nat)):Int)+1:=by omega
     rw[ek,QT,QT,IA (by omega)]
     by_cases hy:48<=y.toNat/\y.toNat<=48+(left-10)
     ·rw[Pz ⟨by omega,by rw[PJ hy.1,PJ hy.2];rfl⟩]
      rw[E1 y (by omega)];dsimp only;rw[Pz (show Tafl.isDigit y=true/\x.toNat-48=1/\10+(y.toNat-48)<=left from⟨by rw[dy,PJ hy.1,PJ (by omega)];rfl,by omega,by omega⟩),pV];have:10*((x.toNat-48:Nat):Int)+((y.toNat-48:Nat):Int)=((10+(y.toNat-48):Nat):Int):=by omega
      rw[this]
     ·rw[Py (λz=>hy (by have:=z.2;rw[P4,PV,PV]at this;exact this))]
      dsimp only;rw[Py (λz=>hy (by have:=z.1;rw[dy,P4,PV,PV]at this;omega))]
    ·rw[Py (λz=>h10 (by have:=z.1;omega))]
     dsimp only;rw[Py (λz=>h10 (by have:=z.2;omega))]
  ·rw[Py hx,Py (λz=>hx (by have:=z.1;rw[dg,P4,PV,PV]at this;omega))]
   rfl
def pieceOf(v:Int):Qo:=if v=1 then .hunter else if v=2 then .man else if v=3 then .king else .none
def nW(e:Int×Int×Int):Option (Qo×Nat×Nat):=if e.2.1=0 then none else some (pieceOf e.2.1,e.1.toNat,e.2.2.toNat)
def Cy(wide high:Nat)(ps qs:List Int):List (Qo×Nat×Nat):=((br wide high).zip (ps.zip qs)).filterMap nW
theorem Bo{α β:Type}:∀(l:List α)(m:List β)(x:α)(y:β),l[m.length]? =some x->l.zip (m++[y])=l.zip m++[(x,y)]
 |[],_,_,_,h=>by simp at h
 |a::l,[],x,y,h=>by
  have e:a=x:=by simpa using h
  subst e;cases l<;>rfl
 |a::l,b::m,x,y,h=>by
  show(a,b)::l.zip (m++[y])=(a,b)::(l.zip m++[(x,y)]);rw[Bo l m x y (by simpa using h)]
theorem A_{wide high:Nat}{ps qs:List Int}{c v q:Int}(hl:ps.length=qs.length)(hc:(br wide high)[ps.length]? =some c):Cy wide high (ps++[v]) (qs++[q])=Cy wide high ps qs++(if v=0 then[]else[(pieceOf v,c.toNat,q.toNat)]):=by
 unfold Cy;have e1:(ps++[v]).zip (qs++[q])=ps.zip qs++[(v,q)]:=by
  rw[List.zip_append hl];rfl
 rw[e1,Bo _ _ c (v,q) (by rw[RF,<-hl,Nat.min_self];exact hc),List.filterMap_append]
 congr 1
 show[(c,v,q)].filterMap nW=_
 by_cases h:v=0
 ·rw[Pz h]
  simp[nW,h]
 ·rw[Py h]
  simp[nW,h]
theorem DZ{wide high:Nat}{ps qs:List Int}(hl:ps.length=qs.length):∀m,ps.length+m<=wide*high->Cy wide high (ps++List.replicate m 0) (qs++List.replicate m 0)=Cy wide high ps qs
 |0,_=>by simp
 |m+1,h=>by
  have hi:ps.length+m<(br wide high).length:=by rw[ls];omega
  rw[Se,<-QH,<-QH,A_ (c:=(br wide high)[ps.length+m]) (by simp[hl]) (by rw[P0,Qx];exact PD hi),Pz rfl,QA];exact DZ hl m (by omega)
theorem Jv{wide high i x:Nat}(hx:x<wide)(hi:i<high):(br wide high)[wide*i+x]? =some (((13*(high-1-i)+x:Nat)):Int):=by
 have hb:=yd (λ(j:Nat)=>(List.range wide).map λ(x:Nat)=>((13*(high-1-j)+x:Nat):Int)) (w:=wide) (λj=>by rw[Px,QL]) (List.range high) i i (Sj hi);have h2:_[x]? =_[x]? :=QI (λ(l:List Int)=>l[x]?) hb;rw[List.getElem?_take,Pz hx,List.getElem?_drop,Qa,Sj hx]at h2;exact h2
def GB(king:Bool):Str:=if king=true then"hm" else"hmK"
def E2(ns:List Int)(ps qs:List Int)(n:Nat):Except Nat (List Int×List Int×Int×Nat):=match c_ ns [32] n with
 |.error e=>.error e
 |.ok n1=>match aW "hk" ns n1 with
  |.error e=>.error e
  |.ok (.int t,n2)=>.ok (ps,qs,t,n2)
  |.ok (_,n2)=>.error n2
def nI(ns:List Int)(wide rows left:Nat)(was:Bool)(ps qs:List Int)(z:Str)(n:Nat):Except Nat (List Int×List Int×Int×Nat):=match eI ns (left+1) left was ps qs z n with
 |.error e=>.error e
 |.ok (ps',qs',z',n')=>match fN ns wide rows false ps' qs' z' n' with
  |.error e=>.error e
  |.ok (ps2,qs2,_,n2)=>E2 ns ps2 qs2 n2
theorem wr(wide high:Nat)(ns:List Int)(h:1<=high):jp wide high ns=(match nI ns wide (high-1) wide false [] [] "hmK" 0 with
  |.error e=>.error e
  |.ok (ps,qs,t,n)=>if n<ns.length then .error n else .ok (ps,qs,t)):=by
 obtain⟨k,rfl⟩:∃k,high=k+1:=⟨high-1,by omega⟩;unfold jp nI;rw[Nat.add_sub_cancel];have e:fN ns wide (k+1) true [] [] "hmK" 0=(match eI ns (wide+1) wide false [] [] "hmK" 0 with
   |.error e=>.error e
   |.ok (ps',qs',z',n2)=>fN ns wide k false ps' qs' z' n2):=rfl
 rw[e];cases eI ns (wide+1) wide false [] [] "hmK" 0 with
 |error e=>rfl
 |ok p=>
  obtain⟨ps',qs',z',n'⟩:=p;dsimp only;cases fN ns wide k false ps' qs' z' n' with
  |error e=>rfl
  |ok p2=>
   obtain⟨ps2,qs2,z2,n2⟩:=p2;dsimp only;unfold E2;cases c_ ns [32] n2 with
   |error e=>rfl
   |ok n3=>
    dsimp only;cases ho:aW "hk" ns n3 with
    |error e=>rfl
    |ok q=>
     obtain⟨d,rfl,_⟩:=dR ho;rfl
def MR(wide high:Nat)(b:PX)(r:Except Nat (List Int×List Int×Int×Nat)):Except Nat (List (Qo×Nat×Nat)×Nat×Tafl.Cur):=match r with
 |.error e=>.error e
 |.ok (ps,qs,t,n)=>.ok (Cy wide high ps qs,t.toNat,cu b n)
theorem Fs(ns:List Int)(wide rows:Nat)(was:Bool)(ps qs:List Int)(z:Str)(n:Nat):nI ns wide rows 0 was ps qs z n=(match rows with
  |0=>E2 ns ps qs n
  |k+1=>match c_ ns [47] n with
   |.error e=>.error e
   |.ok m=>nI ns wide k wide false ps qs z m):=by
 unfold nI;have e:eI ns (0+1) 0 was ps qs z n=.ok (ps,qs,z,n):=by
  unfold eI;rw[Pz rfl]
 rw[e];cases rows with
 |zero=>rfl
 |succ k=>
  dsimp only;have e2:fN ns wide (k+1) false ps qs z n=(match c_ ns [47] n with
    |.error e=>.error e
    |.ok n1=>match eI ns (wide+1) wide false ps qs z n1 with
     |.error e=>.error e
     |.ok (ps',qs',z',n2)=>fN ns wide k false ps' qs' z' n2):=rfl
  rw[e2];cases c_ ns [47] n with
  |error e=>rfl
  |ok m=>
   dsimp only;cases eI ns (wide+1) wide false ps qs z m with
   |error e=>rfl
   |ok p=>rfl
theorem FO(ns:List Int)(wide rows left:Nat)(was:Bool)(ps qs:List Int)(z:Str)(n:Nat)(h:left≠0):nI ns wide rows left was ps qs z n=(if was=false/\bd fG ns n=true then(match manyN (left:Int) ns n with
   |.error e=>.error e
   |.ok (.int d,n2)=>nI ns wide rows (left-d.toNat) true (ps++List.replicate d.toNat 0) (qs++List.replicate d.toNat 0) z n2
   |.ok (_,n2)=>.error n2)
  else match putN z ns n with
   |.error e=>.error e
   |.ok (v,n2)=>nI ns wide rows (left-1) false (ps++[v]) (qs++[(n:Int)]) (if v=3 then"hm" else z) n2):=by
 have e:eI ns (left+1) left was ps qs z n=(if was=false/\bd fG ns n=true then(match manyN (left:Int) ns n with
   |.error e=>.error e
   |.ok (.int d,n2)=>eI ns left (left-d.toNat) true (ps++List.replicate d.toNat 0) (qs++List.replicate d.toNat 0) z n2
   |.ok (_,n2)=>.error n2)
  else match putN z ns n with
   |.error e=>.error e
   |.ok (v,n2)=>eI ns left (left-1) false (ps++[v]) (qs++[(n:Int)]) (if v=3 then"hm" else z) n2):=by
  conv=>lhs;unfold eI
  rw[Py h]<;>rfl
 unfold nI;rw[e]
 by_cases hc:was=false/\bd fG ns n=true
 ·rw[Pz hc,Pz hc]
  cases hm:manyN (left:Int) ns n with
  |error e=>rfl
  |ok p=>
   obtain⟨v,n2⟩:=p;obtain⟨m,rfl,m1,m2⟩:=lM hm;dsimp only;rw[Qm,qj ns (left-m) left (left-m+1) _ _ _ _ _ (by omega) (by omega)]
 ·rw[Py hc,Py hc]
  cases hp:putN z ns n with
  |error e=>rfl
  |ok p=>
   obtain⟨v,n2⟩:=p;dsimp only;rw[qj ns (left-1) left (left-1+1) _ _ _ _ _ (by omega) (by omega)]
theorem we(b:PX){wide high:Nat}(w1:1<=wide)(tS:wide<=13):∀(M fuel rows left:Nat)(was king:Bool)(ps qs:List Int)(n:Nat),left+rows*(wide+1)+1<=M->M<=fuel->left<=wide->rows<high->ps.length=qs.length->ps.length+left=wide*(high-rows)->
  MR wide high b (nI (bC b) wide rows left was ps qs (GB king) n)=Tafl.readRows wide fuel left rows was king (Cy wide high ps qs) (cu b n)
 |0,_,_,_,_,_,_,_,_,h,_,_,_,_,_=>absurd h (by omega)
 |M+1,0,_,_,_,_,_,_,_,_,h,_,_,_,_=>absurd h (by omega)
 |M+1,fuel+1,rows,left,was,king,ps,qs,n,hM,hF,hl,hr,hlen,hpos=>by
  unfold Tafl.readRows
  by_cases h0:left=0
  ·subst h0
   rw[Pz rfl,Fs];cases rows with
   |zero=>
    rw[Pz rfl];dsimp only;unfold E2;have hl:=wT b [32] n;have e32:([32]:List UInt8).map (λ(c:UInt8)=>c.toNat)=[32]:=rfl;rw[e32]at hl;rw[<-hl];cases c_ (bC b) [32] n with
    |error e=>rfl
    |ok n1=>
     dsimp only;show _=(if(cu b n1).next=some 104 then(pure _:Except Nat _)else if(cu b n1).next=some 107 then pure _ else Except.error (cu b n1).at_);unfold aW;rw[iV,g_];cases hb:b[n1]? with
     |none=>
      rw[Py (λz=>nomatch z),Py (λz=>nomatch z)];rfl
     |some x=>
      rw[QT,Mx]
      by_cases h1:x=104
      ·subst h1
       rw[Pz (show(104:UInt8).toNat=104 from rfl),Pz rfl,pV];rfl
      ·have n1':¬x.toNat=104:=λz=>h1 (Rt.mp z)
       rw[Py n1',Py (λz=>h1 (Qk z))]
       by_cases h2:x=107
       ·subst h2
        rw[Pz (show(107:UInt8).toNat=107 from rfl),Pz rfl,pV];rfl
       ·have n2':¬x.toNat=107:=λz=>h2 (Rt.mp z)
        rw[Py n2',Py (λz=>h2 (Qk z))];rfl
   |succ k=>
    rw[Py (by omega)];dsimp only;have hl:=wT b [47] n;have e47:([47]:List UInt8).map (λ(c:UInt8)=>c.toNat)=[47]:=rfl;rw[e47]at hl;rw[<-hl];cases c_ (bC b) [47] n with
    |error e=>rfl
    |ok n1=>
     dsimp only;have e1:(k+1)*(wide+1)=k*(wide+1)+(wide+1):=Nat.succ_mul k (wide+1);have e2:wide*(high-k)=wide*(high-(k+1))+wide:=by
      have:high-k=(high-(k+1))+1:=by omega
      rw[this,Rs]
     exact we b w1 tS M fuel k wide false king ps qs n1 (by omega) (by omega) (PF _) (by omega) hlen (by omega)
  ·rw[Py h0,FO _ _ _ _ _ _ _ _ _ h0,g_]
   have hcell:(br wide high)[ps.length]? =some (((13*rows+(wide-left):Nat)):Int):=by
    have e:ps.length=wide*(high-1-rows)+(wide-left):=by
     have:high-rows=(high-1-rows)+1:=by omega
     rw[this,Rs]at hpos;omega
    rw[e,Jv (by omega) (by omega)]
    congr 2
    omega
   cases hb:b[n]? with
   |none=>
    have s1:bd fG (bC b) n=false:=by rw[xC,hb];rfl
    rw[Py (λz=>by rw[s1]at z;cases z.2)];unfold putN;rw[iV,hb];rfl
   |some x=>
    dsimp only;have pz:putN (GB king) (bC b) n=(match sx (GB king) ((x.toNat:Nat):Int)with|some k=>.ok (1+((k:Nat):Int),n+1)|none=>.error n):=by
     unfold putN;rw[iV,hb];rfl
    have sd:bd fG (bC b) n=Tafl.isDigit x:=by rw[xC,hb];exact Lq x
    have dg:Tafl.isDigit x=(decide (48<=x.toNat)&&decide (x.toNat<=57)):=rfl;have put:∀(v:Nat)(king':Bool)(pc:Qo),(v=1\/v=2\/v=3)->pieceOf ((v:Nat):Int)=pc->(if((v:Nat):Int)=3 then("hm":Str)else GB king)=GB king'->MR wide high b (nI (bC b) wide rows (left-1) false (ps++[((v:Nat):Int)]) (qs++[(n:Int)]) (if((v:Nat):Int)=3 then("hm":Str)else GB king) (n+1))=Tafl.readRows wide fuel (left-1) rows false king' (Cy wide high ps qs++[(pc,Tafl.cellOf (wide-left) rows,(cu b n).at_)]) (cu b n).on:=λv king' pc hv hp hz=>by
     rw[hz,pV];have:=we b w1 tS M fuel rows (left-1) false king' (ps++[((v:Nat):Int)]) (qs++[(n:Int)]) (n+1) (by omega) (by omega) (by omega) hr (by simp[hlen]) (by rw[P0,QF];omega);rw[this,A_ hlen hcell,Py (by omega),hp];rfl
    have c104:Tafl.isDigit 104=false:=rfl;have c109:Tafl.isDigit 109=false:=rfl;have c75:Tafl.isDigit 75=false:=rfl
    by_cases h1:x=104
    ·subst h1
     rw[Pz (show(104:UInt8)=104 from rfl),Py (show¬(was=false/\bd fG (bC b) n=true)fromλz=>by rw[sd,c104]at z;cases z.2),pz];have es:sx (GB king) (((104:UInt8).toNat:Nat):Int)=some 0:=by cases king<;>decide+kernel
     rw[es];exact put 1 king .hunter (by omega) rfl (by rw[Py (by decide)])
    ·rw[Py h1]
     have n1':¬x.toNat=104:=λz=>h1 (Rt.mp z)
     by_cases h2:x=109
     ·subst h2
      rw[Pz (show(109:UInt8)=109 from rfl),Py (show¬(was=false/\bd fG (bC b) n=true)fromλz=>by rw[sd,c109]at z;cases z.2),pz];have es:sx (GB king) (((109:UInt8).toNat:Nat):Int)=some 1:=by cases king<;>decide+kernel
      rw[es];exact put 2 king .man (by omega) rfl (by rw[Py (by decide)])
     ·rw[Py h2]
      have n2':¬x.toNat=109:=λz=>h2 (Rt.mp z)
      by_cases h3:x=75/\king=false
      ·obtain⟨rfl,rfl⟩:=h3
       rw[Pz (show(75:UInt8)=75/\false=false from⟨rfl,rfl⟩),Py (show¬(was=false/\bd fG (bC b) n=true)fromλz=>by rw[sd,c75]at z;cases z.2),pz];have es:sx (GB false) (((75:UInt8).toNat:Nat):Int)=some 2:=by decide+kernel
       rw[es];exact put 3 true .king (by omega) rfl rfl
      ·rw[Py h3]
       have none_:sx (GB king) ((x.toNat:Nat):Int)=none:=by
        cases king with
        |true=>
         show sx "hm" _=none;rw[MG,Py n1',Py n2']
        |false=>
         show sx "hmK" _=none;rw[Lm,Py n1',Py n2',Py (show¬x.toNat=75 fromλz=>h3 ⟨Rt.mp z,rfl⟩)]
       cases was with
       |true=>
        rw[Pz (show true=true from rfl),Py (show¬(true=false/\bd fG (bC b) n=true)fromλz=>by cases z.1),pz,none_];rfl
       |false=>
        rw[Py (show¬false=true from PM)];have me:=JG (left:=left) (by omega) (by omega) b n
        by_cases hd:Tafl.isDigit x=true
        ·rw[Pz (show false=false/\bd fG (bC b) n=true from⟨rfl,by rw[sd];exact hd⟩)]
         cases hm:manyN ((left:Nat):Int) (bC b) n with
         |error e=>
          rw[hm]at me;cases hr':Tafl.runIn left (cu b n)with
          |error e'=>rw[hr']at me;cases me;rfl
          |ok p=>rw[hr']at me;cases me
         |ok p=>
          obtain⟨v,n2⟩:=p;obtain⟨m,rfl,m1,m2⟩:=lM hm;rw[hm]at me;cases hr':Tafl.runIn left (cu b n)with
          |error e'=>rw[hr']at me;cases me
          |ok p=>
           obtain⟨m',c'⟩:=p;rw[hr']at me;injection me with me;injection me with me1 me2;injection me1 with me1;have em:m'=m:=by omega
           subst em;dsimp only;rw[Qm,<-me2];have hmul:wide*(high-rows)<=wide*high:=Nat.mul_le_mul_left _ (by omega);have:=we b w1 tS M fuel rows (left-m') true king (ps++List.replicate m' 0) (qs++List.replicate m' 0) n2 (by omega) (by omega) (by omega) hr (by simp[hlen]) (by rw[P0,Qx];omega);rw[this,DZ hlen m' (by omega)]
        ·rw[Py (show¬(false=false/\bd fG (bC b) n=true)fromλz=>hd (by rw[<-sd];exact z.2)),pz,none_]
         have er:Tafl.runIn left (cu b n)=.error n:=by
          unfold Tafl.runIn;rw[g_,hb];dsimp only;rw[Py (λz=>hd z.1)];rfl
         rw[er];rfl
structure yM(ps qs:List Int)(z:Str):Prop where
 q:∀v∈qs,0<=v
 o:ps.Pairwise λa b=>¬(a=3/\b=3)
 z:(z="hmK"/\(3:Int)∉ps)\/z="hm"
theorem yM.rep{ps qs:List Int}{z:Str}(I:yM ps qs z)(m:Nat):yM (ps++List.replicate m 0) (qs++List.replicate m 0) z:=by
 refine⟨λv hv=>?_,?_,?_⟩
 ·rcases Qc.mp hv with h|h
  ·exact I.q v h
  ·rw[(List.mem_replicate.mp h).2]
   decide
 ·rw[List.pairwise_append]
  refine⟨I.o,?_,λa _ b hb=>?_⟩
  ·rw[List.pairwise_replicate]
   exact .inr (by decide)
  ·rw[(List.mem_replicate.mp hb).2]
   rintro⟨_,h⟩
   cases h
 ·rcases I.z with⟨h1,h2⟩|h
  ·refine .inl ⟨h1,λhm=>?_⟩
   rcases Qc.mp hm with h|h
   ·exact h2 h
   ·have:=(List.mem_replicate.mp h).2
    cases this
  ·exact .inr h
theorem yM.put{ps qs:List Int}{z:Str}(I:yM ps qs z){ns:List Int}{n:Nat}{v:Int}{n':Nat}(h:putN z ns n=.ok (v,n')):yM (ps++[v]) (qs++[(n:Int)]) (if v=3 then"hm" else z):=by
 have hv:v=3->z="hmK"/\(3:Int)∉ps:=λe=>by
  rcases I.z with h'|h'
  ·exact h'
  ·subst h'
   unfold putN at h;cases hk:cK "hm" ns n with
   |none=>rw[hk]at h;cases h
   |some k=>
    rw[hk]at h;cases h;have:=(iC hk).1;have l2:("hm":Str).cps.toList.length=2:=by decide+kernel
    omega
 refine⟨λw hw=>?_,?_,?_⟩
 ·rcases Qc.mp hw with h|h
  ·exact I.q w h
  ·rw[Qb]at h
   omega
 ·rw[List.pairwise_append]
  refine⟨I.o,List.pairwise_singleton _ _,λa ha b hb=>?_⟩;rw[Qb]at hb
  rintro⟨h1,h2⟩
  subst h1;exact(hv (by rw[<-hb];exact h2)).2 ha
 ·by_cases h3:v=3
  ·rw[Pz h3]
   exact .inr rfl
  ·rw[Py h3]
   rcases I.z with⟨h1,h2⟩|h'
   ·refine .inl ⟨h1,λhm=>?_⟩
    rcases Qc.mp hm with h|h
    ·exact h2 h
    ·rw[Qb]at h
     exact h3 h.symm
   ·exact .inr h'
theorem Hz(ns:List Int):∀(left f:Nat)(beh:Bool)(ps qs:List Int)(z:Str)(n:Nat)(r:List Int×List Int×Str×Nat),eI ns f left beh ps qs z n=.ok r->yM ps qs z->yM r.1 r.2.1 r.2.2.1:=by
 intro left
 induction left using Nat.strongRecOn with
 |_ left ih=>
  intro f beh ps qs z n r h I;cases f with
  |zero=>cases h
  |succ f=>
   unfold eI at h
   by_cases h0:left=0
   ·rw[Pz h0]at h
    cases h;exact I
   ·rw[Py h0]at h
    by_cases hb:beh=false/\bd fG ns n=true
    ·rw[Pz hb]at h
     cases hm:manyN (left:Int) ns n with
     |error e=>rw[hm]at h;cases h
     |ok p=>
      obtain⟨v,n'⟩:=p;obtain⟨m,rfl,m1,m2⟩:=lM hm;rw[hm]at h;exact ih (left-m) (by omega) f _ _ _ _ _ r h (I.rep _)
    ·rw[Py hb]at h
     cases hm:putN z ns n with
     |error e=>rw[hm]at h;cases h
     |ok p=>
      obtain⟨v,n'⟩:=p;rw[hm]at h;exact ih (left-1) (by omega) f _ _ _ _ _ r h (I.put hm)
theorem zG(ns:List Int)(wide:Nat):∀(k:Nat)(first:Bool)(ps qs:List Int)(z:Str)(n:Nat)(r:List Int×List Int×Str×Nat),fN ns wide k first ps qs z n=.ok r->yM ps qs z->yM r.1 r.2.1 r.2.2.1
 |0,_,_,_,_,_,_,h,I=>by cases h;exact I
 |k+1,first,ps,qs,z,n,r,h,I=>by
  unfold fN at h;cases h1:(if first=true then Except.ok n else c_ ns [47] n)with
  |error e=>rw[h1]at h;cases h
  |ok n1=>
   rw[h1]at h;dsimp only at h;cases h2:eI ns (wide+1) wide false ps qs z n1 with
   |error e=>rw[h2]at h;cases h
   |ok p=>
    obtain⟨ps',qs',z',n2⟩:=p;rw[h2]at h;exact zG ns wide k false ps' qs' z' n2 r h (Hz _ _ _ _ _ _ _ _ _ h2 I)
theorem FT{wide high:Nat}{ns ps qs:List Int}{t:Int}(h:jp wide high ns=.ok (ps,qs,t)):(∀v∈qs,0<=v)/\ps.Pairwise λa b=>¬(a=3/\b=3):=by
 unfold jp at h;cases h1:fN ns wide high true [] [] "hmK" 0 with
 |error e=>rw[h1]at h;cases h
 |ok r=>
  have I:=zG ns wide high true [] [] "hmK" 0 r h1 ⟨λv hv=>(by cases hv),List.Pairwise.nil,.inl ⟨rfl,λh=>by cases h⟩⟩;obtain⟨ps',qs',z',n⟩:=r;rw[h1]at h;dsimp only at h;cases h2:c_ ns [32] n with
  |error e=>rw[h2]at h;cases h
  |ok n1=>
   rw[h2]at h;dsimp only at h;cases h3:aW "hk" ns n1 with
   |error e=>rw[h3]at h;cases h
   |ok p=>
    obtain⟨d,rfl,hd⟩:=dR h3;rw[h3]at h;replace h:(if n1+1<ns.length then Except.error (n1+1)else Except.ok (ps',qs',((d:Nat):Int)))=Except.ok (ps,qs,t):=h;split at h
    ·cases h
    ·cases h
     exact⟨I.q,I.o⟩
def ui(acc:List Int)(e:Int×Int×Int):List Int:=acc.set e.1.toNat e.2.1
theorem zp(r:R0):∀(T:List (Int×Int×Int))(acc:List Int),xn r T acc=(match T.find? λ(e:Int×Int×Int)=> !iE (r.ground.getD e.1.toNat 0) e.2.1 with
  |some e=>.error e.2.2
  |none=>.ok (T.foldl ui acc))
 |[],acc=>rfl
 |e::T,acc=>by
  unfold xn;rw[List.find?_cons];cases h:iE (r.ground.getD e.1.toNat 0) e.2.1 with
  |true=>
   rw[Pz rfl,zp r T];rfl
  |false=>
   rw[Py PM];rfl
theorem Lr{r:R0}{R:PK}(Q:c8 r R){c:Nat}(hc:c<169){v:Int}(h:v=1\/v=2\/v=3):iE (r.ground.getD c 0) v=Tafl.mayStand (pieceOf v) (R.kindAt c):=by
 rcases nP Q hc with⟨k,e⟩|⟨k,e⟩|⟨k,e⟩|⟨k,e⟩<;>rw[k,e]<;>rcases h with rfl|rfl|rfl<;>decide
theorem IJ(T:List (Int×Int×Int))(acc:List Int):(T.foldl ui acc).length=acc.length:=by
 induction T generalizing acc with
 |nil=>rfl
 |cons e T ih=>
  rw[Q8,ih];unfold ui;rw[Rl]
theorem CL:∀(T:List (Int×Int×Int))(acc:List Int),(T.map (·.1)).Nodup->(∀e∈T,∃c:Nat,e.1=((c:Nat):Int)/\c<acc.length)->∀c:Nat,((∀e∈T,e.1≠((c:Nat):Int))->(T.foldl ui acc).getD c 0=acc.getD c 0)/\∀e∈T,e.1=((c:Nat):Int)->(T.foldl ui acc).getD c 0=e.2.1
 |[],acc,_,_,c=>⟨λ_=>rfl,λe he=>by cases he⟩
 |x::T,acc,nd,hb,c=>by
  rw[QD,R7]at nd;obtain⟨cx,ex,bx⟩:=hb x PU;obtain⟨i1,i2⟩:=CL T (ui acc x) nd.2 (λe he=>by
   obtain⟨ce,ee,be⟩:=hb e (PY _ he);exact⟨ce,ee,by unfold ui;rw[Rl];exact be⟩) c
  rw[Q8];have sa:(ui acc x).getD c 0=if cx=c then x.2.1 else acc.getD c 0:=by
   unfold ui;rw[ln,ex,Qm]
   by_cases h:cx=c
   ·rw[Pz ⟨h,bx⟩,Pz h]
   ·rw[Py (λz=>h z.1),Py h]
  refine⟨λh=>?_,λe he hc=>?_⟩
  ·rw[i1 λe he=>h e (PY _ he),sa,Py (λz=>h x PU (by rw[ex,z]))]
  ·rcases Qh.mp he with z|z
   ·subst z
    rw[i1 λe' he' z=>nd.1 (P_.mpr ⟨e',he',by rw[z,hc]⟩),sa,Pz (by omega)]
   ·exact i2 e z hc
theorem Fu(v:Int)(h0:0<=v)(h3:v<=3):dJ (pieceOf v)=v:=by
 have:v=0\/v=1\/v=2\/v=3:=by omega
 rcases this with rfl|rfl|rfl|rfl<;>rfl
theorem yu(wide high:Nat)(hw:wide<=13):(br wide high).Nodup:=by
 have s:(uC wide high).Nodup:=by
  unfold List.Nodup uC;rw[List.pairwise_flatMap];refine⟨λy _=>?_,?_⟩
  ·rw[Ru]
   exact Q4.imp λh=>by omega
  ·refine Q4.imp λh u hu v hv=>?_
   obtain⟨i,hi,rfl⟩:=P_.mp hu;obtain⟨j,hj,rfl⟩:=P_.mp hv;have:=Qe.mp hi;omega
 exact(vU wide high).nodup_iff.mp s
theorem xm{wide high:Nat}(hw:wide<=13)(hh:high<=13){v:Int}(h:v∈br wide high):∃n:Nat,v=((n:Nat):Int)/\n<169/\n%13<wide/\n/13<high:=AM hw hh ((vU wide high).mem_iff.mpr h)
theorem JE{α β:Type}{l:List α}{m:List β}(h:l.length<=m.length):(l.zip m).map (·.1)=l:=by
 rw[List.map_fst_zip h]
theorem Cs{r:R0}{R:PK}(Q:c8 r R){ps qs:List Int}{t:Nat}(hv:∀v∈ps,0<=v/\v<=3)(hl:ps.length=R.wide*R.high)(hq:qs.length=R.wide*R.high)(ho:ps.Pairwise λa b=>¬(a=3/\b=3))(ht:t=0\/t=1):
  dL R ⟨Tafl.setFrom ((Cy R.wide R.high ps qs).filterMap λ(x:Qo×Nat×Nat)=>if x.1=.hunter then some x.2.1 else none),Tafl.setFrom ((Cy R.wide R.high ps qs).filterMap λ(x:Qo×Nat×Nat)=>if x.1=.man then some x.2.1 else none),(((Cy R.wide R.high ps qs).find? λ(x:Qo×Nat×Nat)=>x.1== .king).map λ(x:Qo×Nat×Nat)=>x.2.1).getD Tafl.TAKEN,t⟩
   (((br R.wide R.high).zip (ps.zip qs)).foldl ui (List.replicate 169 0)) ((t:Nat):Int):=by
 have hT:((br R.wide R.high).zip (ps.zip qs)).map (·.1)=br R.wide R.high:=JE (by rw[ls,RF,hl,hq];omega);have eT:∀e∈(br R.wide R.high).zip (ps.zip qs),e.1∈br R.wide R.high/\e.2.1∈ps:=λe he=>by
  have:=Q7 he;exact⟨this.1,(Q7 this.2).1⟩
 have uniq:∀e∈(br R.wide R.high).zip (ps.zip qs),∀e'∈(br R.wide R.high).zip (ps.zip qs),e.2.1=3->e'.2.1=3->e=e':=λe he e' he' h1 h2=>by
  obtain⟨i,hi,ei⟩:=Ro he;obtain⟨j,hj,ej⟩:=Ro he';have pi:∀(k:Nat)(hk:k<((br R.wide R.high).zip (ps.zip qs)).length),∃hk':k<ps.length,(((br R.wide R.high).zip (ps.zip qs))[k]).2.1=ps[k]:=λk hk=>by
   have hk2:k<ps.length:=by
    rw[RF,RF]at hk;omega
   exact⟨hk2,by rw[List.getElem_zip,List.getElem_zip]⟩
  have ij:i=j:=by
   obtain⟨hi2,pi1⟩:=pi i hi;obtain⟨hj2,pj1⟩:=pi j hj;rw[ei,h1]at pi1;rw[ej,h2]at pj1;rw[List.pairwise_iff_getElem]at ho;rcases Nat.lt_trichotomy i j with z|z|z
   ·exact absurd ⟨pi1.symm,pj1.symm⟩ (ho i j hi2 hj2 z)
   ·exact z
   ·exact absurd ⟨pj1.symm,pi1.symm⟩ (ho j i hj2 hi2 z)
  subst ij;rw[<-ei,<-ej]
 have sat:=CL ((br R.wide R.high).zip (ps.zip qs)) (List.replicate 169 0) (by rw[hT];exact yu _ _ Q.tS) (λe he=>by
  obtain⟨n,e1,n1,_⟩:=xm Q.tS Q.vm (eT e he).1;exact⟨n,e1,by rw[Qx];exact n1⟩)
 have lz:(((br R.wide R.high).zip (ps.zip qs)).foldl ui (List.replicate 169 0)).length=169:=by rw[IJ,Qx]
 have z0:∀c,(List.replicate 169 (0:Int)).getD c 0=0:=λc=>by
  simp only[List.getD,Q2];split<;>rfl
 unfold Cy;generalize hTT:(br R.wide R.high).zip (ps.zip qs)=T at*;generalize hL:T.foldl ui (List.replicate 169 0)=L at*;have cell:∀e∈T,∃n:Nat,e.1=((n:Nat):Int)/\n<169/\n%13<R.wide/\n/13<R.high:=λe he=>xm Q.tS Q.vm (eT e he).1;have at_:∀c:Nat,L.getD c 0=0\/∃e∈T,e.1=((c:Nat):Int)/\L.getD c 0=e.2.1:=λc=>by
  by_cases h:∃e∈T,e.1=((c:Nat):Int)
  ·obtain⟨e,he,hc⟩:=h
   exact .inr ⟨e,he,hc,(sat c).2 e he hc⟩
  ·refine .inl ?_
   rw[(sat c).1 λe he z=>h ⟨e,he,z⟩,z0]
 have at2:∀e∈T,∀c:Nat,e.1=((c:Nat):Int)->L.getD c 0=e.2.1:=λe he c hc=>(sat c).2 e he hc;have vals:∀c,0<=L.getD c 0/\L.getD c 0<=3:=λc=>by
  rcases at_ c with h|⟨e,he,_,h⟩
  ·rw[h]
   exact⟨by decide,by decide⟩
  ·rw[h]
   exact hv _ (eT e he).2
 have memL:∀(pc:Qo)(c q:Nat),pc≠.none->((pc,c,q)∈T.filterMap nW↔∃e∈T,e.2.1=dJ pc/\e.1.toNat=c/\e.2.2.toNat=q):=λpc c q hp=>by
  rw[Rq];constructor
  ·rintro⟨e,he,h⟩
   unfold nW at h;split at h
   ·cases h
   ·injection h with h
    injection h with h1 h2;injection h2 with h2 h3;refine⟨e,he,?_,h2,h3⟩;obtain⟨v0,v3⟩:=hv _ (eT e he).2;rw[<-h1,Fu _ v0 v3]
  ·rintro⟨e,he,h1,h2,h3⟩
   refine⟨e,he,?_⟩;unfold nW;rw[Py (by rw[h1];exactλz=>hp (eP (y:= .none) z)),h1,h2,h3];have:pieceOf (dJ pc)=pc:=by cases pc<;>rfl
   rw[this]
 have bit:∀(pc:Qo),pc≠.none->∀c,(Tafl.setFrom ((T.filterMap nW).filterMap λ(x:Qo×Nat×Nat)=>if x.1=pc then some x.2.1 else none)).testBit c=true↔c<169/\L.getD c 0=dJ pc:=λpc hp c=>by
  rw[qv,Rq];constructor
  ·rintro⟨⟨pc',c',q⟩,hm,h⟩
   dsimp only at h;split at h
   ·rename_i hpc
    subst hpc;cases h;obtain⟨e,he,h1,h2,_⟩:=(memL pc' c q hp).mp hm;obtain⟨n,en,n1,_⟩:=cell e he;have ec:e.1=((c:Nat):Int):=by omega
    exact⟨by omega,(at2 e he c ec).trans h1⟩
   ·cases h
  ·rintro⟨h1,h2⟩
   rcases at_ c with h|⟨e,he,hc,h⟩
   ·exact absurd (eP (y:= .none) (h2.symm.trans h)) hp
   ·exact⟨(pc,c,e.2.2.toNat),(memL pc c _ hp).mpr ⟨e,he,h.symm.trans h2,by omega,rfl⟩,by simp⟩
 refine⟨⟨lz,vals⟩,rfl,ht,λc=>bit .hunter (by decide) c,λc=>bit .man (by decide) c,?_,λc hc hz=>?_⟩
 ·show((((T.filterMap nW).find? λ(x:Qo×Nat×Nat)=>x.1== .king).map λ(x:Qo×Nat×Nat)=>x.2.1).getD Tafl.TAKEN=255/\_)\/((((T.filterMap nW).find? λ(x:Qo×Nat×Nat)=>x.1== .king).map λ(x:Qo×Nat×Nat)=>x.2.1).getD Tafl.TAKEN<169/\L.getD ((((T.filterMap nW).find? λ(x:Qo×Nat×Nat)=>x.1== .king).map λ(x:Qo×Nat×Nat)=>x.2.1).getD Tafl.TAKEN) 0=3/\∀c,c<169->L.getD c 0=3->c=(((T.filterMap nW).find? λ(x:Qo×Nat×Nat)=>x.1== .king).map λ(x:Qo×Nat×Nat)=>x.2.1).getD Tafl.TAKEN)
  cases hf:(T.filterMap nW).find? λ(x:Qo×Nat×Nat)=>x.1== .king with
  |none=>
   refine .inl ⟨rfl,λc hc e3=>?_⟩;rcases at_ c with h|⟨e,he,hce,h⟩
   ·rw[h]at e3
    cases e3
   ·have hm:=(memL .king c e.2.2.toNat (by decide)).mpr ⟨e,he,h.symm.trans e3,by omega,rfl⟩
    exact absurd (by rfl) (List.find?_eq_none.mp hf _ hm)
  |some x=>
   obtain⟨pc,c,q⟩:=x;have hk:=List.find?_some hf;have hk:pc=.king:=eq_of_beq (show(pc==Tafl.Piece.king)=true from hk);subst hk;obtain⟨e,he,h1,h2,_⟩:=(memL .king c q (by decide)).mp (RM hf);obtain⟨n,en,n1,_⟩:=cell e he;have ec:e.1=((c:Nat):Int):=by omega
   refine .inr ⟨by show c<169;omega,(at2 e he c ec).trans h1,λc' hc' e3=>?_⟩;show c'=c;rcases at_ c' with h|⟨e',he',hce',h⟩
   ·rw[h]at e3
    cases e3
   ·have:=uniq e he e' he' h1 (h.symm.trans e3)
    subst this;omega
 ·rcases at_ c with h|⟨e,he,hce,h⟩
  ·exact absurd h hz
  ·obtain⟨n,en,n1,n2,n3⟩:=cell e he
   have:n=c:=by omega
   subst this;exact⟨n2,n3⟩
def Ot(R:PK)(x:Except (Int×Int) (List Int×Int))(y:Except (Nat×Nat) Qu):Prop:=match x,y with
 |.error p,.error q=>p.1=((q.1:Nat):Int)/\p.2=((q.2:Nat):Int)
 |.ok p,.ok q=>dL R q p.1 p.2
 |_,_=>False
theorem FR{r:R0}{R:PK}(Q:c8 r R)(b:PX):Ot R (uH r (bC b)) (R.readLine b):=by
 unfold uH Tafl.Rules.readLine;have w5:=Q.w5;have h5:=Q.h5;have hh:=Q.vm;have hw:=Q.tS;have hmul:(R.high-1)*(R.wide+1)<=12*14:=Sa (by omega) (by omega);have re:=we b (wide:=R.wide) (high:=R.high) (by omega) Q.tS 1024 (2*Tafl.LINE) (R.high-1) R.wide false false [] [] 0 (by omega) (PF _) (PF _) (by omega) rfl (by
  show 0+R.wide=R.wide*(R.high-(R.high-1));have:R.high-(R.high-1)=1:=by omega
  rw[this];omega)
 have el:Cy R.wide R.high [] []=[]:=by unfold Cy;simp
 have ez:GB false="hmK":=rfl;rw[el,ez]at re;have ec:(⟨b,0⟩:Tafl.Cur)=cu b 0:=rfl;rw[ec,<-re,Q.w,Q.h];cases hd:jp R.wide R.high (bC b)with
 |error m=>
  rw[wr _ _ _ (by omega)]at hd;cases hr:nI (bC b) R.wide (R.high-1) R.wide false [] [] "hmK" 0 with
  |error e=>
   rw[hr]at hd;cases hd;exact⟨rfl,rfl⟩
  |ok p=>
   obtain⟨ps,qs,t,n⟩:=p;rw[hr]at hd;replace hd:(if n<(bC b).length then Except.error n else Except.ok (ps,qs,t))=Except.error m:=hd;have lb:(bC b).length=b.length:=by unfold bC;rw[Px]
   split at hd
   ·have hm:n=m:=Except.error.inj hd
    subst hm
    rename_i hn
    show Ot R _ (if(cu b n).rest≠[]then .error (1,(cu b n).at_)else _);rw[Pz (by show b.drop n≠[];intro z;have:=Sf.mp z;omega)];exact⟨rfl,rfl⟩
   ·cases hd
 |ok p=>
  obtain⟨ps,qs,t⟩:=p;obtain⟨v1,v2,v3,v4⟩:=zM hd;obtain⟨i1,i2⟩:=FT hd;rw[wr _ _ _ (by omega)]at hd;cases hr:nI (bC b) R.wide (R.high-1) R.wide false [] [] "hmK" 0 with
  |error e=>rw[hr]at hd;cases hd
  |ok p=>
   obtain⟨ps',qs',t',n⟩:=p;rw[hr]at hd;replace hd:(if n<(bC b).length then Except.error n else Except.ok (ps',qs',t'))=Except.ok (ps,qs,t):=hd;have lb:(bC b).length=b.length:=by unfold bC;rw[Px]
   split at hd
   ·cases hd
   ·cases hd
    rename_i hn
    show Ot R _ (if(cu b n).rest≠[]then .error (1,(cu b n).at_)else _);rw[Py (by show¬b.drop n≠[];intro z;exact z (Q5 (by omega)))];dsimp only;rw[zp];have hq:∀e∈(br R.wide R.high).zip (ps.zip qs),(Option.any (λ(x:Qo×Nat×Nat)=> !Tafl.mayStand x.1 (R.kindAt x.2.1)) (nW e))= !iE (r.ground.getD e.1.toNat 0) e.2.1:=λe he=>by
     obtain⟨ec,ev,eq'⟩:=e;have h1:=Q7 he;have h2:=Q7 h1.2;obtain⟨n,en,n1,_⟩:=xm Q.tS Q.vm h1.1;obtain⟨w0,w3⟩:=v1 _ h2.1;unfold nW;dsimp only
     by_cases z:ev=0
     ·rw[Pz z,z]
      have:iE (r.ground.getD ec.toNat 0) 0=true:=rfl;rw[this];rfl
     ·rw[Py z]
      show(!Tafl.mayStand (pieceOf ev) (R.kindAt ec.toNat))=_;rw[en,Qm,Lr Q n1 (by omega)]
    have ef:((br R.wide R.high).zip (ps.zip qs)).find? (λ(e:Int×Int×Int)=>Option.any (λ(x:Qo×Nat×Nat)=> !Tafl.mayStand x.1 (R.kindAt x.2.1)) (nW e))=((br R.wide R.high).zip (ps.zip qs)).find? (λ(e:Int×Int×Int)=> !iE (r.ground.getD e.1.toNat 0) e.2.1):=wC hq;have ll:(Cy R.wide R.high ps qs).find? (λ(x:Qo×Nat×Nat)=> !Tafl.mayStand x.1 (R.kindAt x.2.1))=(((br R.wide R.high).zip (ps.zip qs)).find? λ(e:Int×Int×Int)=> !iE (r.ground.getD e.1.toNat 0) e.2.1).bind nW:=by
     unfold Cy;rw[List.find?_filterMap,<-ef]
    rw[ll];cases hf:((br R.wide R.high).zip (ps.zip qs)).find? λ(e:Int×Int×Int)=> !iE (r.ground.getD e.1.toNat 0) e.2.1 with
    |none=>
     dsimp only[Option.bind];obtain⟨tt,et⟩:∃tt:Nat,t=((tt:Nat):Int):=⟨t.toNat,by omega⟩;subst et;rw[Qm];exact Cs Q v1 v2 v3 i2 (by omega)
    |some e=>
     obtain⟨ec,ev,eq'⟩:=e;have he:=RM hf;have hp:=List.find?_some hf;have h1:=Q7 he;have h2:=Q7 h1.2;have z:ev≠0:=λz=>by
      rw[z]at hp;cases hp
     have et:nW (ec,ev,eq')=some (pieceOf ev,ec.toNat,eq'.toNat):=by unfold nW;rw[Py z]
     dsimp only[Option.bind];rw[et];have:=i1 _ h2.2;exact⟨rfl,by show eq'=((eq'.toNat:Nat):Int);omega⟩
def J7{α β:Type}(b:PX)(rel:β->α->Prop)(m:Except Nat (β×Nat))(s:Except Nat (α×Tafl.Cur)):Prop:=match m,s with
 |.error e,.error e'=>e=e'
 |.ok p,.ok q=>rel p.1 q.1/\q.2=cu b p.2
 |_,_=>False
def OQ(b:PX)(m:Except Nat (Unit×Nat))(s:Except Nat Tafl.Cur):Prop:=match m,s with
 |.error e,.error e'=>e=e'
 |.ok p,.ok q=>q=cu b p.2
 |_,_=>False
theorem gL(b:PX){z:Str}{l:PX}(h:z.cps.toList=l.map λ(c:UInt8)=>c.toNat)(n:Nat):OQ b (jL (bC b) z n) (Tafl.lit l (cu b n)):=by
 have:=wT b l n;unfold jL;rw[h,<-this];cases c_ (bC b) (l.map λ(c:UInt8)=>c.toNat) n<;>rfl
theorem LH(x:UInt8):(sx CB ((x.toNat:Nat):Int)).isSome=Tafl.isLetter x:=by
 have all:∀m:Fin 256,(sx CB ((m.val:Nat):Int)).isSome=((decide (65<=m.val)&&decide (m.val<=90))||(decide (97<=m.val)&&decide (m.val<=122))):=by decide+kernel
 exact eE (P:=λm=>(sx CB ((m:Nat):Int)).isSome=((decide (65<=m)&&decide (m<=90))||(decide (97<=m)&&decide (m<=122)))) all x
theorem L9(x:UInt8):(sx (CB++fG) ((x.toNat:Nat):Int)).isSome=(Tafl.isLetter x||Tafl.isDigit x):=by
 have all:∀m:Fin 256,(sx (CB++fG) ((m.val:Nat):Int)).isSome=(((decide (65<=m.val)&&decide (m.val<=90))||(decide (97<=m.val)&&decide (m.val<=122)))||(decide (48<=m.val)&&decide (m.val<=57))):=by decide+kernel
 exact eE (P:=λm=>(sx (CB++fG) ((m:Nat):Int)).isSome=(((decide (65<=m)&&decide (m<=90))||(decide (97<=m)&&decide (m<=122)))||(decide (48<=m)&&decide (m<=57)))) all x
theorem Dy(b:PX):∀(k n:Nat),(Tafl.some_ (λ(y:UInt8)=>Tafl.isLetter y||Tafl.isDigit y) k (cu b n)).2=cu b (fP (bC b) k n)
 |0,n=>rfl
 |k+1,n=>by
  have es:fP (bC b) (k+1) n=if bd (CB++fG) (bC b) n=true then fP (bC b) k (n+1)else n:=rfl;unfold Tafl.some_;rw[g_,es,xC];cases hb:b[n]? with
  |none=>rfl
  |some x=>
   rw[QT,L9];dsimp only
   by_cases h:(Tafl.isLetter x||Tafl.isDigit x)=true
   ·rw[Pz h,Pz h,pV]
    exact Dy b k (n+1)
   ·rw[Py h,Py h]
theorem IB(b:PX)(n:Nat):J7 b (λ(_:Unit)(_:PX)=>True) (Bg (Bb (bC b) n)) (Tafl.nameIn (cu b n)):=by
 unfold Bb Tafl.nameIn aW;rw[iV,g_];cases hb:b[n]? with
 |none=>rfl
 |some x=>
  rw[QT];dsimp only;have hl:=LH x;cases hs:sx CB ((x.toNat:Nat):Int)with
  |none=>
   rw[hs]at hl;rw[Py (by rw[<-hl];exact PM)];rfl
  |some k=>
   rw[hs]at hl;rw[Pz (by rw[<-hl];rfl)];refine⟨trivial,?_⟩;have e:Tafl.some_ (λ(y:UInt8)=>Tafl.isLetter y||Tafl.isDigit y) 16 (cu b n)=(x::(Tafl.some_ (λ(y:UInt8)=>Tafl.isLetter y||Tafl.isDigit y) 15 (cu b n).on).1,(Tafl.some_ (λ(y:UInt8)=>Tafl.isLetter y||Tafl.isDigit y) 15 (cu b n).on).2):=by
    conv=>lhs;unfold Tafl.some_
    rw[g_,hb];dsimp only;rw[Pz (by rw[<-hl];rfl)]
   rw[e,pV];exact Dy b 15 (n+1)
def eS(lo hi d x:Nat):Bool:=(decide (48<=x)&&decide (x<=57))&&(decide (0<10*d+(x-48))&&Tafl.begins lo hi (10*d+(x-48)))
theorem Bc(lo hi f d:Nat)(b:PX)(n:Nat):Tafl.numberFrom lo hi (f+1) d (cu b n)=(match b[n]? with
  |some x=>if eS lo hi d x.toNat=true then Tafl.numberFrom lo hi f (10*d+(x.toNat-48)) (cu b (n+1))else if lo<=d/\d<=hi then .ok (d,cu b n)else .error n
  |none=>if lo<=d/\d<=hi then .ok (d,cu b n)else .error n):=by
 conv=>lhs;unfold Tafl.numberFrom
 rw[g_];cases b[n]? with
 |none=>rfl
 |some x=>
  dsimp only;have e:(Tafl.isDigit x=true/\0<10*d+(x.toNat-48)/\Tafl.begins lo hi (10*d+(x.toNat-48))=true)↔eS lo hi d x.toNat=true:=by
   unfold eS Tafl.isDigit;simp only[P4,PV]
  by_cases h:eS lo hi d x.toNat=true
  ·rw[Pz (e.mpr h),Pz h,pV]
  ·rw[Py (λz=>h (e.mp z)),Py h]
   rfl
theorem O3(x:UInt8):eS 5 13 0 x.toNat=(decide (x.toNat=49)||(decide (53<=x.toNat)&&decide (x.toNat<=57))):=by
 have all:∀m:Fin 256,eS 5 13 0 m.val=(decide (m.val=49)||(decide (53<=m.val)&&decide (m.val<=57))):=by decide+kernel
 exact eE (P:=λm=>eS 5 13 0 m=(decide (m=49)||(decide (53<=m)&&decide (m<=57)))) all x
theorem Pj(x:UInt8):eS 5 13 1 x.toNat=(decide (48<=x.toNat)&&decide (x.toNat<=51)):=by
 have all:∀m:Fin 256,eS 5 13 1 m.val=(decide (48<=m.val)&&decide (m.val<=51)):=by decide+kernel
 exact eE (P:=λm=>eS 5 13 1 m=(decide (48<=m)&&decide (m<=51))) all x
theorem go2{d:Nat}(h5:5<=d)(vm:d<=13)(x:UInt8):eS 5 13 d x.toNat=false:=by
 have all:∀(k:Fin 14)(m:Fin 256),5<=k.val->eS 5 13 k.val m.val=false:=by decide+kernel
 exact all ⟨d,by omega⟩ ⟨x.toNat,x.toNat_lt⟩ h5
theorem Gg{f d:Nat}(h5:5<=d)(vm:d<=13)(b:PX)(n:Nat):Tafl.numberFrom 5 13 (f+1) d (cu b n)=.ok (d,cu b n):=by
 rw[Bc];cases b[n]? with
 |none=>
  dsimp only;rw[Pz ⟨h5,vm⟩]
 |some x=>
  dsimp only;rw[go2 h5 vm,Py PM,Pz ⟨h5,vm⟩]
theorem Jp(x:UInt8):sx "0123" ((x.toNat:Nat):Int)=if 48<=x.toNat/\x.toNat<=51 then some (x.toNat-48)else none:=by
 have all:∀m:Fin 256,sx "0123" ((m.val:Nat):Int)=if 48<=m.val/\m.val<=51 then some (m.val-48)else none:=by decide+kernel
 exact eE (P:=λm=>sx "0123" ((m:Nat):Int)=if 48<=m/\m<=51 then some (m-48)else none) all x
theorem G7(x:UInt8):sx "56789" ((x.toNat:Nat):Int)=if 53<=x.toNat/\x.toNat<=57 then some (x.toNat-53)else none:=by
 have all:∀m:Fin 256,sx "56789" ((m.val:Nat):Int)=if 53<=m.val/\m.val<=57 then some (m.val-53)else none:=by decide+kernel
 exact eE (P:=λm=>sx "56789" ((m:Nat):Int)=if 53<=m/\m<=57 then some (m-53)else none) all x
theorem Ez(b:PX)(n:Nat):J7 b (λ(i:Int)(w:Nat)=>i=((w:Nat):Int)) (jv (sW (bC b) n)) (Tafl.number 5 13 (cu b n)):=by
 unfold Tafl.number sW aW;rw[Bc,iV,iV,ur];cases hb:b[n]? with
 |none=>
  rw[Py (λz=>nomatch z)];dsimp only;rw[Py (by decide)];rfl
 |some x=>
  dsimp only;rw[O3]
  by_cases h1:x.toNat=49
  ·rw[Pz (show Option.map (λ(c:UInt8)=>((c.toNat:Nat):Int)) (some x)=some 49 from by show some ((x.toNat:Nat):Int)=some 49;rw[h1];rfl),PJ h1,Bool.true_or,Pz rfl,h1,Bc]
   cases hc:b[n+1]? with
   |none=>
    dsimp only;rw[Py (by decide)];rfl
   |some y=>
    dsimp only;rw[QT,Jp,show 10*0+(49-48)=1 from rfl,Pj]
    by_cases hy:48<=y.toNat/\y.toNat<=51
    ·rw[Pz hy,Pz (by rw[PJ hy.1,PJ hy.2];rfl),Gg (by omega) (by omega)]
     exact⟨by show(10:Int)+((y.toNat-48:Nat):Int)=((10*1+(y.toNat-48):Nat):Int);omega,rfl⟩
    ·rw[Py hy,Py (λz=>hy (by rw[P4,PV,PV]at z;exact z)),Py (by decide)]
     rfl
  ·rw[Py (show¬Option.map (λ(c:UInt8)=>((c.toNat:Nat):Int)) (some x)=some 49 fromλz=>h1 (by have:((x.toNat:Nat):Int)=49:=Qk z;omega)),Qr h1,Bool.false_or,QT,G7]
   by_cases hx:53<=x.toNat/\x.toNat<=57
   ·rw[Pz hx,Pz (by rw[PJ hx.1,PJ hx.2];rfl),Gg (by omega) (by omega)]
    exact⟨by show(5:Int)+((x.toNat-53:Nat):Int)=((10*0+(x.toNat-48):Nat):Int);omega,rfl⟩
   ·rw[Py hx,Py (λz=>hx (by rw[P4,PV,PV]at z;exact z)),Py (by decide)]
    rfl
theorem wP{v:Nat}(h:0<v):Tafl.begins 1 60000 v=decide (v<=60000):=by
 unfold Tafl.begins;rw[QN,QR,PV];constructor
 ·rintro⟨k,hk,e⟩
  rw[P4,PV,PV]at e;have:1<=10^k:=Nat.pow_pos (by decide);have:v*1<=v*10^k:=Nat.mul_le_mul_left _ this;omega
 ·intro h2
  exact⟨0,by decide,by rw[P4,PV,PV];simp;omega⟩
theorem KP{k:Nat}(hk:k<=10)(x:UInt8):(sx (gb fG none (some ((k:Nat):Int))) ((x.toNat:Nat):Int)).isSome=(decide (48<=x.toNat)&&decide (x.toNat<48+k)):=by
 have all:∀(k:Fin 11)(m:Fin 256),(sx (gb fG none (some ((k.val:Nat):Int))) ((m.val:Nat):Int)).isSome=(decide (48<=m.val)&&decide (m.val<48+k.val)):=by decide+kernel
 exact all ⟨k,by omega⟩ ⟨x.toNat,x.toNat_lt⟩
theorem Jn{d:Nat}:yY ((d:Nat):Int)=((min 10 (60001-10*d):Nat):Int):=by
 unfold yY;split<;>split<;>omega
theorem K0{d:Nat}(hd:1<=d)(x:UInt8):eS 1 60000 d x.toNat=(sx (gb fG none (some (yY ((d:Nat):Int)))) ((x.toNat:Nat):Int)).isSome:=by
 rw[Jn,KP (by omega)];unfold eS
 by_cases h:48<=x.toNat/\x.toNat<=57
 ·rw[PJ h.1,PJ h.2,wP (by omega),PJ (show 0<10*d+(x.toNat-48) by omega)]
  simp only[Bool.true_and];rw[RR];omega
 ·have e1:(decide (48<=x.toNat)&&decide (x.toNat<=57))=false:=by
   rw[Bool.and_eq_false_iff,RY,RY];omega
  rw[e1,Bool.false_and]
  symm
  rw[Bool.and_eq_false_iff,RY,RY];omega
theorem BJ(b:PX):∀(f f' d n:Nat),1<=d->d<=60000->60000<d*10^f->60000<d*10^f'->J7 b (λ(i:Int)(w:Nat)=>i=((w:Nat):Int)) (jv (gA (bC b) f' ((d:Nat):Int) n)) (Tafl.numberFrom 1 60000 f d (cu b n))
 |0,_,d,_,_,h2,h3,_=>absurd h3 (by simp;omega)
 |f+1,0,d,_,_,h2,_,h4=>absurd h4 (by simp;omega)
 |f+1,f'+1,d,n,h1,h2,h3,h4=>by
  rw[Bc];unfold gA;rw[xC];cases hb:b[n]? with
  |none=>
   dsimp only;rw[Py (show¬((none:Option UInt8).bind λ(c:UInt8)=>sx (gb fG none (some (yY ((d:Nat):Int)))) ((c.toNat:Nat):Int)).isSome=true from PM),Pz ⟨h1,h2⟩];exact⟨rfl,rfl⟩
  |some x=>
   dsimp only;rw[QT,<-K0 h1]
   by_cases h:eS 1 60000 d x.toNat=true
   ·rw[Pz h,Pz h]
    have hg:=h;unfold eS at hg;rw[P4,P4,P4,PV,PV,PV]at hg;rw[wP (by omega),PV]at hg;have eo:aW fG (bC b) n=.ok (V.int ((x.toNat-48:Nat):Int),n+1):=by
     unfold aW;rw[iV,hb,QT,E1 x hg.1]
    rw[eo];dsimp only;have e:10*((d:Nat):Int)+((x.toNat-48:Nat):Int)=((10*d+(x.toNat-48):Nat):Int):=by omega
    rw[e];have m1:d*10^(f+1)<=(10*d+(x.toNat-48))*10^f:=by
     rw[Nat.pow_succ,Nat.mul_comm (10^f) 10,<-Nat.mul_assoc];exact Q_ _ (by omega)
    have m2:d*10^(f'+1)<=(10*d+(x.toNat-48))*10^f':=by
     rw[Nat.pow_succ,Nat.mul_comm (10^f') 10,<-Nat.mul_assoc];exact Q_ _ (by omega)
    exact BJ b f f' _ (n+1) (by omega) (by omega) (by omega) (by omega)
   ·rw[Py h,Py h,Pz ⟨h1,h2⟩]
    exact⟨rfl,rfl⟩
theorem MO(x:UInt8):eS 1 60000 0 x.toNat=(decide (49<=x.toNat)&&decide (x.toNat<=57)):=by
 have all:∀m:Fin 256,eS 1 60000 0 m.val=(decide (49<=m.val)&&decide (m.val<=57)):=by decide+kernel
 exact eE (P:=λm=>eS 1 60000 0 m=(decide (49<=m)&&decide (m<=57))) all x
theorem L_(x:UInt8):sx "123456789" ((x.toNat:Nat):Int)=if 49<=x.toNat/\x.toNat<=57 then some (x.toNat-49)else none:=by
 have all:∀m:Fin 256,sx "123456789" ((m.val:Nat):Int)=if 49<=m.val/\m.val<=57 then some (m.val-49)else none:=by decide+kernel
 exact eE (P:=λm=>sx "123456789" ((m:Nat):Int)=if 49<=m/\m<=57 then some (m-49)else none) all x
theorem KU(b:PX)(n:Nat):J7 b (λ(i:Int)(w:Nat)=>i=((w:Nat):Int)) (jv (AD (bC b) n)) (Tafl.number 1 60000 (cu b n)):=by
 unfold Tafl.number AD aW;rw[Bc,iV];cases hb:b[n]? with
 |none=>
  dsimp only;rw[Py (by decide)];rfl
 |some x=>
  dsimp only;rw[MO,QT,L_]
  by_cases hx:49<=x.toNat/\x.toNat<=57
  ·rw[Pz hx,Pz (by rw[PJ hx.1,PJ hx.2];rfl)]
   dsimp only;have e:(1:Int)+((x.toNat-49:Nat):Int)=((10*0+(x.toNat-48):Nat):Int):=by omega
   rw[e];exact BJ b 5 6 _ (n+1) (by omega) (by omega) (by omega) (by omega)
  ·rw[Py hx,Py (λz=>hx (by rw[P4,PV,PV]at z;exact z)),Py (by decide)]
   rfl
def bytesOf(w:Str):PX:=w.cps.toList.map UInt8.ofNat
structure Pe(ws:List Str)(told:Nat)(left:List Str):Prop where
 ne:left≠[]
 s:∀v∈left,v∈ws/\told<v.cps.toList.length
 t:∀v∈left,∀v'∈left,v.cps.toList.take told=v'.cps.toList.take told
theorem FV{w:Str}{told:Nat}(h:told<w.cps.toList.length)(hb:∀c∈w.cps.toList,c<256):((bytesOf w).drop told).head? =some (UInt8.ofNat (w.cps.toList.getD told 0))/\w.cps.toList.getD told 0<256:=by
 have e:w.cps.toList.getD told 0=w.cps.toList[told]:=by simp[List.getD,PD h]
 refine⟨?_,by rw[e];exact hb _ (RT h)⟩;unfold bytesOf;rw[List.head?_drop,Qa,PD h,e];rfl
theorem zE(b:PX){ws:List Str}(W:FU ws)(hb:∀w∈ws,∀c∈w.cps.toList,c<256)(ix:Str->Nat)(hix:∀w∈ws,ws.findIdx (λu=>decide (u=w))=ix w):∀(m told:Nat)(left:List Str)(n:Nat),m+told=15->Pe ws told left->J7 b (λ(i:Int)(w:Nat)=>i=((w:Nat):Int)) (jv (b6 (bC b) ws m told left n)) (Tafl.oneOf (m+1) (left.map λ(w:Str)=>(ix w,(bytesOf w).drop told)) (cu b n))
 |0,told,left,n,hm,S=>by
  obtain⟨v,hv⟩:=List.exists_mem_of_ne_nil _ S.ne;obtain⟨h1,h2⟩:=S.s v hv;have:=(W.p v h1).2;omega
 |m+1,told,left,n,hm,S=>by
  have lenB:∀w:Str,(bytesOf w).length=w.cps.toList.length:=λw=>by unfold bytesOf;rw[Px]
  have e0:(left.map λ(w:Str)=>(ix w,(bytesOf w).drop told)).find? (λ(w:Nat×PX)=>w.2.isEmpty)=none:=by
   rw[List.find?_eq_none];intro x hx;obtain⟨w,hw,rfl⟩:=P_.mp hx;have:=(S.s w hw).2;intro z;have z:(bytesOf w).drop told=[]:=by simpa using z
   have:=QI List.length z;rw[Rw,lenB,List.length_nil]at this;omega
  have eo:Tafl.oneOf (m+1+1) (left.map λ(w:Str)=>(ix w,(bytesOf w).drop told)) (cu b n)=(match(cu b n).next with
    |none=>.error (cu b n).at_
    |some x=>if((left.map λ(w:Str)=>(ix w,(bytesOf w).drop told)).filterMap λ(w:Nat×PX)=>if w.2.head? =some x then some (w.1,w.2.drop 1)else none).isEmpty=true then .error (cu b n).at_ else Tafl.oneOf (m+1) ((left.map λ(w:Str)=>(ix w,(bytesOf w).drop told)).filterMap λ(w:Nat×PX)=>if w.2.head? =some x then some (w.1,w.2.drop 1)else none) (cu b n).on):=by
   conv=>lhs;unfold Tafl.oneOf
   rw[e0];rfl
  rw[eo,g_];have hit:∀w∈left,∀x:UInt8,b[n]? =some x->(mI (bC b) n told w=true↔((bytesOf w).drop told).head? =some x):=λw hw x hx=>by
   obtain⟨h1,h2⟩:=S.s w hw;obtain⟨d1,d2⟩:=FV h2 (hb w h1);unfold mI;rw[d1,ur,hx,QQ];constructor
   ·intro e
    have e:((x.toNat:Nat):Int)=((w.cps.toList.getD told 0:Nat):Int):=Qk e;have e:w.cps.toList.getD told 0=x.toNat:=by omega
    rw[e,UInt8.ofNat_toNat]
   ·intro e
    have e:UInt8.ofNat (w.cps.toList.getD told 0)=x:=Qk e;rw[<-e,Option.map_some,UInt8.toNat_ofNat',Nat.mod_eq_of_lt d2]
  cases hx:b[n]? with
  |none=>
   have ef:left.filter (mI (bC b) n told)=[]:=by
    rw[List.filter_eq_nil_iff];intro w _;unfold mI;rw[ur,hx];exact PM
   have ew:b6 (bC b) ws (m+1) told left n=.error n:=by unfold b6;rw[ef]
   rw[ew];rfl
  |some x=>
   dsimp only;have ef:(left.map λ(w:Str)=>(ix w,(bytesOf w).drop told)).filterMap (λ(w:Nat×PX)=>if w.2.head? =some x then some (w.1,w.2.drop 1)else none)=(left.filter (mI (bC b) n told)).map λ(w:Str)=>(ix w,(bytesOf w).drop (told+1)):=by
    rw[List.filterMap_map];have:∀l:List Str,(∀w∈l,w∈left)->l.filterMap ((λ(w:Nat×PX)=>if w.2.head? =some x then some (w.1,w.2.drop 1)else none)∘λ(w:Str)=>(ix w,(bytesOf w).drop told))=(l.filter (mI (bC b) n told)).map λ(w:Str)=>(ix w,(bytesOf w).drop (told+1)):=λl=>by
     induction l with
     |nil=>intro _;rfl
     |cons w l ih=>
      intro hl;have hw:=hit w (hl w PU) x hx;rw[List.filter_cons]
      by_cases h:mI (bC b) n told w=true
      ·have hf:((λ(w:Nat×PX)=>if w.2.head? =some x then some (w.1,w.2.drop 1)else none)∘λ(w:Str)=>(ix w,(bytesOf w).drop told)) w=some (ix w,(bytesOf w).drop (told+1)):=by
        show(if((bytesOf w).drop told).head? =some x then some (ix w,((bytesOf w).drop told).drop 1)else none)=_;rw[Pz (hw.mp h),List.drop_drop]
       rw[Pz h,QD,List.filterMap_cons_some hf,ih λu hu=>hl u (PY _ hu)]
      ·have hf:((λ(w:Nat×PX)=>if w.2.head? =some x then some (w.1,w.2.drop 1)else none)∘λ(w:Str)=>(ix w,(bytesOf w).drop told)) w=none:=by
        show(if((bytesOf w).drop told).head? =some x then some (ix w,((bytesOf w).drop told).drop 1)else none)=_;rw[Py (λz=>h (hw.mpr z))]
       rw[Py h,List.filterMap_cons_none hf];exact ih λu hu=>hl u (PY _ hu)
    exact this left λw hw=>hw
   rw[ef,pV];cases hl:left.filter (mI (bC b) n told)with
   |nil=>
    have ew:b6 (bC b) ws (m+1) told left n=.error n:=by unfold b6;rw[hl]
    rw[ew];rfl
   |cons v l=>
    have fm:∀y∈v::l,y∈left/\mI (bC b) n told y=true:=λy hy=>by rw[<-hl]at hy;exact Qz.mp hy
    have vl:=S.s v (fm v PU).1;have pre:∀y∈v::l,∀y'∈v::l,y.cps.toList.take (told+1)=y'.cps.toList.take (told+1):=λy hy y' hy'=>by
     obtain⟨y1,y2⟩:=fm y hy;obtain⟨z1,z2⟩:=fm y' hy';refine xa (S.s y y1).2 (S.s y' z1).2 (S.t y y1 y' z1) ?_;have q1:(bC b)[n]? =some _:=eq_of_beq y2;have q2:(bC b)[n]? =some _:=eq_of_beq z2;rw[q1]at q2;have:=Qk q2;omega
    have short:∀y∈v::l,∀y'∈v::l,y.cps.toList.length=told+1->y'=y:=λy hy y' hy' hlen=>by
     have te:=pre y hy y' hy';rw[Qp (by omega)]at te;have pf:y.cps.toList<+:y'.cps.toList:=by rw[te];exact List.take_prefix _ _
     exact(W.f y (S.s y (fm y hy).1).1 y' (S.s y' (fm y' hy').1).1 pf).symm
    have step:b6 (bC b) ws (m+1) told left n=if v.length=told+1 then .ok (.int (ws.findIdx (λu=>decide (u=v)):Nat),n+1)else b6 (bC b) ws m (told+1) (v::l) (n+1):=by
     conv=>lhs;unfold b6
     rw[hl]
    rw[step,Py (show¬(List.map (λ(w:Str)=>(ix w,(bytesOf w).drop (told+1))) (v::l)).isEmpty=true from by simp)]
    by_cases hv:v.length=told+1
    ·rw[Pz hv]
     rw[str_len]at hv;have e1:((v::l).map λ(w:Str)=>(ix w,(bytesOf w).drop (told+1))).find? (λ(w:Nat×PX)=>w.2.isEmpty)=some (ix v,[]):=by
      have ed:(bytesOf v).drop (told+1)=[]:=Q5 (by rw[lenB];omega);rw[QD,List.find?_cons,ed];rfl
     have eo2:Tafl.oneOf (m+1) ((v::l).map λ(w:Str)=>(ix w,(bytesOf w).drop (told+1))) (cu b (n+1))=.ok (ix v,cu b (n+1)):=by
      unfold Tafl.oneOf;rw[e1]
     rw[eo2];exact⟨by show((ws.findIdx (λu=>decide (u=v)):Nat):Int)=_;rw[hix v vl.1],rfl⟩
    ·rw[Py hv]
     rw[str_len]at hv;refine zE b W hb ix hix m (told+1) (v::l) (n+1) (by omega) ⟨by simp,λy hy=>⟨(S.s y (fm y hy).1).1,?_⟩,pre⟩;have h2:=(S.s y (fm y hy).1).2;rcases RB (told+1) y.cps.toList.length with z|z
     ·exact z
     ·exfalso
      have hy2:y.cps.toList.length=told+1:=by omega
      have:=short y hy v PU hy2;rw[this]at hv;exact hv hy2
theorem JC(b:PX){ws:List Str}{l:List String}(W:FU ws)(hb:∀w∈ws,∀c∈w.cps.toList,c<256)(h0:ws≠[])(hl:(List.range l.length).map (λ(i:Nat)=>(i,Tafl.ascii (l.getD i "")))=ws.map λ(w:Str)=>(ws.findIdx (λu=>decide (u=w)),bytesOf w))(n:Nat):J7 b (λ(i:Int)(w:Nat)=>i=((w:Nat):Int)) (jv (b6 (bC b) ws 15 0 ws n)) (Tafl.word l (cu b n)):=by
 unfold Tafl.word;rw[hl];exact zE b W hb (λw=>ws.findIdx (λu=>decide (u=w))) (λw _=>rfl) 15 0 ws n rfl ⟨h0,λv hv=>⟨hv,(W.p v hv).1⟩,λv _ v' _=>by simp⟩
def LO{α:Type}(code:α->Nat):Nat->List α->List (Nat×Nat)
 |_,[]=>[]
 |n,k::l=>(n,code k)::LO code (n+1) l
def tJ{α:Type}(code:α->Nat)(rows:List (List α))(at_:List Nat):List (Nat×Nat):=(rows.zip at_).flatMap λ(p:List α×Nat)=>LO code p.2 p.1
def h_:Tafl.Kind->Nat
 |.plain=>0
 |.seat=>1
 |.exit=>2
 |.wall=>3
def eW:Qo->Nat
 |.none=>0
 |.hunter=>1
 |.man=>2
 |.king=>3
theorem IM(x:UInt8):sx ".SX#" ((x.toNat:Nat):Int)=(Tafl.kindSign x).map h_:=by
 have all:∀m:Fin 256,sx ".SX#" ((m.val:Nat):Int)=(Tafl.kindSign (UInt8.ofNat m.val)).map h_:=by decide+kernel
 have:=all ⟨x.toNat,x.toNat_lt⟩;rw[show UInt8.ofNat (⟨x.toNat,x.toNat_lt⟩:Fin 256).val=x from UInt8.ofNat_toNat]at this;exact this
theorem HP(x:UInt8):sx ".hmK" ((x.toNat:Nat):Int)=(Tafl.pieceSign x).map eW:=by
 have all:∀m:Fin 256,sx ".hmK" ((m.val:Nat):Int)=(Tafl.pieceSign (UInt8.ofNat m.val)).map eW:=by decide+kernel
 have:=all ⟨x.toNat,x.toNat_lt⟩;rw[show UInt8.ofNat (⟨x.toNat,x.toNat_lt⟩:Fin 256).val=x from UInt8.ofNat_toNat]at this;exact this
def n_(z:Str)(ns:List Int)(k:Nat)(acc:List (Nat×Nat))(n:Nat):Except Nat (List (Nat×Nat)×Nat):=yt ns (λacc m=>.ok (acc,m)) (hU z ns k acc n)
theorem H_{α:Type}(b:PX){z:Str}{sign:UInt8->Option α}{code:α->Nat}(hs:∀x:UInt8,sx z ((x.toNat:Nat):Int)=(sign x).map code):∀(k:Nat)(acc:List (Nat×Nat))(n:Nat),(∀e,n_ z (bC b) k acc n=.error e->Tafl.rowIn sign k (cu b n)=.error e)/\(∀acc' m,n_ z (bC b) k acc n=.ok (acc',m)->∃row,Tafl.rowIn sign k (cu b n)=.ok (row,cu b m)/\acc'=acc++LO code n row/\row.length=k)
 |0,acc,n=>by
  have hl:=wT b [Tafl.LF] n;have e10:([Tafl.LF]:List UInt8).map (λ(c:UInt8)=>c.toNat)=[10]:=rfl;rw[e10]at hl;have er:Tafl.rowIn sign 0 (cu b n)=(Tafl.lit [Tafl.LF] (cu b n)).map λ(d:Tafl.Cur)=>([],d):=rfl;have ec:n_ z (bC b) 0 acc n=(match c_ (bC b) [10] n with|.error e=>.error e|.ok m=>.ok (acc,m)):=rfl;rw[er,ec,<-hl];cases c_ (bC b) [10] n with
  |error e=>exact⟨λe' h=>by cases h;rfl,λacc' m h=>by cases h⟩
  |ok m'=>
   refine⟨λe' h=>(by cases h),λacc' m h=>?_⟩;cases h;exact⟨[],rfl,by simp[LO],rfl⟩
 |k+1,acc,n=>by
  have ec:n_ z (bC b) (k+1) acc n=(match cK z (bC b) n with|none=>.error n|some i=>n_ z (bC b) k (acc++[(n,i)]) (n+1)):=by
   unfold n_
   conv=>lhs;unfold hU
   cases cK z (bC b) n<;>rfl
  rw[ec,iV];unfold Tafl.rowIn;rw[g_];cases hb:b[n]? with
  |none=>exact⟨λe' h=>by cases h;rfl,λacc' m h=>by cases h⟩
  |some x=>
   rw[QT,QT,hs];cases hx:sign x with
   |none=>exact⟨λe' h=>by cases h;rfl,λacc' m h=>by cases h⟩
   |some kd=>
    rw[Option.map_some];dsimp only;obtain⟨i1,i2⟩:=H_ b hs k (acc++[(n,code kd)]) (n+1);rw[pV];refine⟨λe h=>by rw[i1 e h];rfl,λacc' m h=>?_⟩;obtain⟨row,r1,r2,r3⟩:=i2 acc' m h;refine⟨kd::row,by rw[r1];rfl,?_,by rw[Qj,r3]⟩;rw[r2,QH];rfl
def Ny{α:Type}(b:PX)(rel:List (Nat×Nat)->List (List α)->List Nat->Prop)(m:Except Nat (List (Nat×Nat)×Nat))(s:Except Nat (List (List α)×List Nat×Tafl.Cur)):Prop:=match m,s with
 |.error e,.error e'=>e=e'
 |.ok p,.ok q=>rel p.1 q.1 q.2.1/\q.2.2=cu b p.2
 |_,_=>False
theorem BF{α:Type}(b:PX){z:Str}{sign:UInt8->Option α}{code:α->Nat}(hs:∀x:UInt8,sx z ((x.toNat:Nat):Int)=(sign x).map code)(wide:Nat):∀(h:Nat)(acc:List (Nat×Nat))(n:Nat),Ny b (λl rows at_=>l=acc++tJ code rows at_/\rows.length=h/\(∀row∈rows,row.length=wide)/\at_.length=h) (eA z (bC b) wide h acc n) (Tafl.rowsIn sign wide h (cu b n))
 |0,acc,n=>⟨⟨by simp[tJ],rfl,λrow hr=>(by cases hr),rfl⟩,rfl⟩
 |h+1,acc,n=>by
  have ec:eA z (bC b) wide (h+1) acc n=(match n_ z (bC b) wide acc n with|.error e=>.error e|.ok p=>eA z (bC b) wide h p.1 p.2):=by
   conv=>lhs;unfold eA
   unfold n_ yt;cases hU z (bC b) wide acc n with
   |error e=>rfl
   |ok p=>
    obtain⟨q1,q2⟩:=p;dsimp only;cases c_ (bC b) [10] q2<;>rfl
  obtain⟨i1,i2⟩:=H_ b hs wide acc n;rw[ec];unfold Tafl.rowsIn;cases hc:n_ z (bC b) wide acc n with
  |error e=>
   rw[i1 e hc];rfl
  |ok p=>
   obtain⟨acc',m⟩:=p;obtain⟨row,r1,r2,r3⟩:=i2 acc' m hc;rw[r1];dsimp only;have ih:=BF b hs wide h acc' m;show Ny b _ _ ((Tafl.rowsIn sign wide h (cu b m))>>=λ(x:List (List α)×List Nat×Tafl.Cur)=>_);cases hr:eA z (bC b) wide h acc' m with
   |error e=>
    rw[hr]at ih;cases hr2:Tafl.rowsIn sign wide h (cu b m)with
    |error e'=>rw[hr2]at ih;exact ih
    |ok q=>rw[hr2]at ih;exact ih.elim
   |ok q=>
    rw[hr]at ih;cases hr2:Tafl.rowsIn sign wide h (cu b m)with
    |error e'=>rw[hr2]at ih;exact ih.elim
    |ok q'=>
     rw[hr2]at ih;obtain⟨⟨j1,j2,j3,j4⟩,j5⟩:=ih;obtain⟨rows,at_,c⟩:=q';refine⟨⟨?_,by show rows.length+1=_;rw[show rows.length=h from j2],λr' hr'=>?_,by show at_.length+1=_;rw[show at_.length=h from j4]⟩,j5⟩
     ·show q.1=acc++tJ code (row::rows) (n::at_)
      rw[show q.1=acc'++tJ code rows at_ from j1,r2,QH];rfl
     ·rcases Qh.mp hr' with e|e
      ·rw[e]
       exact r3
      ·exact j3 r' e
theorem Ej{α:Type}(b:PX){z:Str}{sign:UInt8->Option α}{code:α->Nat}(hs:∀x:UInt8,sx z ((x.toNat:Nat):Int)=(sign x).map code)(wide h n:Nat):Ny b (λl rows at_=>l=tJ code rows at_/\rows.length=h/\(∀row∈rows,row.length=wide)/\at_.length=h) (eA z (bC b) wide h [] n) (Tafl.rowsIn sign wide h (cu b n)):=by
 have:=BF b hs wide h [] n;simpa using this
structure Hf(b:PX)(d:DR)(R:PK):Prop where
 w:d.wide=R.wide
 h:d.high=R.high
 g:d.ground=tJ h_ R.ground R.groundAt
 gl:R.ground.length=R.high
 gr:∀row∈R.ground,row.length=R.wide
 ga:R.groundAt.length=R.high
 s:d.start=tJ eW R.start R.startAt
 sl:R.start.length=R.high
 sr:∀row∈R.start,row.length=R.wide
 sa:R.startAt.length=R.high
 f:d.first=((R.first:Nat):Int)
 f2:R.first<2
 sd:d.slides=b2i R.slides
 ar:d.armed=b2i R.armed
 fo:d.four=b2i R.four
 pa:d.passed=b2i R.passed
 se:d.seat=((R.seat:Nat):Int)
 O5:R.seat<4
 ex:d.exits=((R.exits:Nat):Int)
 OW:R.exits<4
 go:d.goal=((R.goal:Nat):Int)
 go2:R.goal<2
 gp:d.gn=R.goalAt
 en:d.jS=b.length
def yZ(b:PX)(m:Except Nat DR)(s:Except Nat PK):Prop:=match m,s with
 |.error e,.error e'=>e=e'
 |.ok d,.ok R=>Hf b d R
 |_,_=>False
theorem eY{b:PX}{m:Except Nat (Unit×Nat)}{s:Except Nat Tafl.Cur}{f:Unit->Nat->Except Nat DR}{g:Tafl.Cur->Except Nat PK}(h:OQ b m s)(k:∀n,yZ b (f () n) (g (cu b n))):yZ b (lT m f) (s>>=g):=by
 cases m with
 |error e=>cases s with
  |error e'=>exact h
  |ok c=>exact h.elim
 |ok p=>cases s with
  |error e'=>exact h.elim
  |ok c=>
   have h:c=cu b p.2:=h;subst h;exact k p.2
theorem gw{α β:Type}{b:PX}{rel:β->α->Prop}{m:Except Nat (β×Nat)}{s:Except Nat (α×Tafl.Cur)}{f:β->Nat->Except Nat DR}{g:α×Tafl.Cur->Except Nat PK}(h:J7 b rel m s)(k:∀v w n,rel v w->yZ b (f v n) (g (w,cu b n))):yZ b (lT m f) (s>>=g):=by
 cases m with
 |error e=>cases s with
  |error e'=>exact h
  |ok c=>exact h.elim
 |ok p=>cases s with
  |error e'=>exact h.elim
  |ok c=>
   obtain⟨w,c⟩:=c;obtain⟨h1,h2⟩:=h;have h2:c=cu b p.2:=h2;subst h2;exact k p.1 w p.2 h1
theorem Ca{α:Type}{b:PX}{rel:List (Nat×Nat)->List (List α)->List Nat->Prop}{m:Except Nat (List (Nat×Nat)×Nat)}{s:Except Nat (List (List α)×List Nat×Tafl.Cur)}{f:List (Nat×Nat)->Nat->Except Nat DR}{g:List (List α)×List Nat×Tafl.Cur->Except Nat PK}(h:Ny b rel m s)(k:∀l rows at_ n,rel l rows at_->yZ b (f l n) (g (rows,at_,cu b n))):yZ b (lT m f) (s>>=g):=by
 cases m with
 |error e=>cases s with
  |error e'=>exact h
  |ok c=>exact h.elim
 |ok p=>cases s with
  |error e'=>exact h.elim
  |ok c=>
   obtain⟨rows,at_,c⟩:=c;obtain⟨h1,h2⟩:=h;have h2:c=cu b p.2:=h2;subst h2;exact k p.1 rows at_ p.2 h1
theorem Ip(b:PX){n0:Nat}{f:Unit->Nat->Except Nat DR}{g:Tafl.Cur->Except Nat PK}(k:∀n,n<=b.length->yZ b (f () n) (g (cu b n))):yZ b (lT (jL (bC b) "\n" n0) f) (Tafl.lit [Tafl.LF] (cu b n0)>>=g):=by
 have h:=gL b (z:="\n") (l:=[Tafl.LF]) (by decide+kernel) n0;have e:jL (bC b) "\n" n0=if(bC b)[n0]? =some 10 then .ok ((),n0+1)else .error n0:=by
  unfold jL;have e10:("\n":Str).cps.toList=[10]:=by decide+kernel
  rw[e10];show(match(if(bC b)[n0]? =some (10:Int)then c_ (bC b) [] (n0+1)else .error n0)with|.ok m=>Except.ok ((),m)|.error e=>Except.error e)=_
  by_cases h:(bC b)[n0]? =some 10
  ·rw[Pz h,Pz h]
   rfl
  ·rw[Py h,Py h]
 by_cases hc:(bC b)[n0]? =some 10
 ·rw[e,Pz hc]at h ⊢
  have lt:=(PQ.mp hc).1;have hl:(bC b).length=b.length:=by unfold bC;rw[Px]
  cases hs:Tafl.lit [Tafl.LF] (cu b n0)with
  |error e'=>rw[hs]at h;exact h.elim
  |ok c=>
   rw[hs]at h;have h:c=cu b (n0+1):=h;subst h;exact k (n0+1) (by omega)
 ·rw[e,Py hc]at h ⊢
  cases hs:Tafl.lit [Tafl.LF] (cu b n0)with
  |error e'=>rw[hs]at h;exact h
  |ok c=>rw[hs]at h;exact h.elim
theorem kx(b:PX){ws:List Str}{l:List String}(W:FU ws)(hb:∀w∈ws,∀c∈w.cps.toList,c<256)(h0:ws≠[])(hl:(List.range l.length).map (λ(i:Nat)=>(i,Tafl.ascii (l.getD i "")))=ws.map λ(w:Str)=>(ws.findIdx (λu=>decide (u=w)),bytesOf w))(n:Nat):J7 b (λ(i:Int)(w:Nat)=>i=((w:Nat):Int)/\w<ws.length) (jv (b6 (bC b) ws 15 0 ws n)) (Tafl.word l (cu b n)):=by
 have h:=JC b W hb h0 hl n;cases hm:jv (b6 (bC b) ws 15 0 ws n)with
 |error e=>
  rw[hm]at h;cases hs:Tafl.word l (cu b n)with
  |error e'=>rw[hs]at h;exact h
  |ok q=>rw[hs]at h;exact h.elim
 |ok p=>
  obtain⟨i,m⟩:=p;rw[hm]at h;obtain⟨k,e,hk⟩:=w_ ws 15 0 ws n _ (λv hv=>hv) (nL hm);have e:V.int i=V.int ((k:Nat):Int):=e;injection e with e;cases hs:Tafl.word l (cu b n)with
  |error e=>rw[hs]at h;exact h.elim
  |ok q=>
   rw[hs]at h;obtain⟨h1,h2⟩:=h;have h1:i=((q.1:Nat):Int):=h1;exact⟨⟨h1,by show q.1<ws.length;omega⟩,h2⟩
theorem NA{i:Int}{w:Nat}(h:i=((w:Nat):Int)/\w<2):i=b2i (w==1):=by
 obtain⟨rfl,h⟩:=h;have:w=0\/w=1:=by omega
 rcases this with rfl|rfl<;>rfl
theorem CZ(b:PX):yZ b (iQ (bC b)) (Tafl.grammar b):=by
 unfold iQ Tafl.grammar;have ec:(⟨b,0⟩:Tafl.Cur)=cu b 0:=rfl;rw[ec];refine eY (gL b (by decide+kernel) _) λn=>?_;refine gw (IB b _) λ_ nm n _=>?_;dsimp only;refine eY (gL b (by decide+kernel) _) λn=>?_;refine gw (Ez b _) λi_wide wide n e_wide=>?_;dsimp only;subst e_wide;rw[Qm];have e_wide:wide=wide:=rfl;refine eY (gL b (by decide+kernel) _) λn=>?_;refine gw (Ez b _) λi_high high n e_high=>?_;dsimp only;subst e_high;rw[Qm];have e_high:high=high:=rfl;refine eY (gL b (by decide+kernel) _) λn=>?_;refine Ca (Ej b IM _ _ _) λl_ground g_r g_p n g_e=>?_;dsimp only;refine eY (gL b (by decide+kernel) _) λn=>?_;refine Ca (Ej b HP _ _ _) λl_start s_r s_p n s_e=>?_;dsimp only;refine eY (gL b (by decide+kernel) _) λn=>?_;refine gw (kx b yk (by decide+kernel) (by decide) (by decide+kernel) _) λi_first w_first n e_first=>?_;dsimp only;refine eY (gL b (by decide+kernel) _) λn=>?_;refine gw (kx b vk (by decide+kernel) (by decide) (by decide+kernel) _) λi_slides w_slides n e_slides=>?_;dsimp only;refine eY (gL b (by decide+kernel) _) λn=>?_;refine gw (kx b xQ (by decide+kernel) (by decide) (by decide+kernel) _) λi_armed w_armed n e_armed=>?_;dsimp only;refine eY (gL b (by decide+kernel) _) λn=>?_;refine gw (kx b zP (by decide+kernel) (by decide) (by decide+kernel) _) λi_four w_four n e_four=>?_;dsimp only;refine eY (gL b (by decide+kernel) _) λn=>?_;refine gw (kx b ve (by decide+kernel) (by decide) (by decide+kernel) _) λi_passed w_passed n e_passed=>?_;dsimp only;refine eY (gL b (by decide+kernel) _) λn=>?_;refine gw (kx b sN (by decide+kernel) (by decide) (by decide+kernel) _) λi_seat w_seat n e_seat=>?_;dsimp only;refine eY (gL b (by decide+kernel) _) λn=>?_;refine gw (kx b sN (by decide+kernel) (by decide) (by decide+kernel) _) λi_exits w_exits n e_exits=>?_;dsimp only;refine eY (gL b (by decide+kernel) _) λn=>?_;rw[CC];refine gw (kx b zn (by decide+kernel) (by decide) (by decide+kernel) _) λi_goal w_goal n e_goal=>?_;dsimp only;refine eY (gL b (by decide+kernel) _) λn=>?_;refine gw (kx b uF (by decide+kernel) (by decide) (by decide+kernel) _) λi_thrice w_thrice n e_thrice=>?_;dsimp only;refine eY (gL b (by decide+kernel) _) λn=>?_;refine gw (KU b _) λi_limit w_limit n e_limit=>?_;dsimp only;refine Ip b λn hn=>?_;have hl:(bC b).length=b.length:=by unfold bC;rw[Px]
 show yZ b (lT (Ci (bC b) n) _) (if b.drop n=[]then _ else _);unfold Ci
 by_cases he:n<(bC b).length
 ·rw[Pz he,Py (λz=>by have:=Sf.mp z;omega)]
  rfl
 ·rw[Py he,Pz (Q5 (by omega)),CC]
  have en:n=b.length:=by omega
  exact⟨e_wide,e_high,g_e.1,g_e.2.1,g_e.2.2.1,g_e.2.2.2,s_e.1,s_e.2.1,s_e.2.2.1,s_e.2.2.2,e_first.1,e_first.2,NA e_slides,NA e_armed,NA e_four,NA e_passed,e_seat.1,e_seat.2,e_exits.1,e_exits.2,e_goal.1,e_goal.2,rfl,en⟩
theorem EL{α:Type}(code:α->Nat)(dflt:α):∀(row:List α)(n:Nat),LO code n row=(List.range row.length).map λ(x:Nat)=>(n+x,code (row.getD x dflt))
 |[],_=>rfl
 |k::row,n=>by
  rw[Qj,Rz,QD,QJ];show(n,code k)::LO code (n+1) row=_;rw[EL code dflt row (n+1)]
  congr 1
  refine Rn λx _=>?_;show(n+1+x,code (row.getD x dflt))=(n+(x+1),code ((k::row).getD (x+1) dflt))
  congr 1
  omega
theorem zK{α:Type}(dflt:α):∀(rows:List α)(at_:List Nat),rows.length=at_.length->rows.zip at_=(List.range rows.length).map λ(i:Nat)=>(rows.getD i dflt,at_.getD i 0)
 |[],[],_=>rfl
 |r::rows,a::at_,h=>by
  rw[Qj,Rz,QD,QJ];show(r,a)::rows.zip at_=_;rw[zK dflt rows at_ (by simpa using h)];rfl
 |[],_::_,h=>by cases h
 |_::_,[],h=>by cases h
theorem tP{α:Type}(code:α->Nat)(dflt:α){R:PK}{rows:List (List α)}{at_:List Nat}(h1:rows.length=R.high)(h2:∀row∈rows,row.length=R.wide)(h3:at_.length=R.high):tJ code rows at_=R.asWritten.map λ(p:Nat×Nat)=>(at_.getD (R.high-1-p.2) 0+p.1,code (Tafl.at_ dflt rows R.high p.1 p.2)):=by
 unfold tJ Tafl.Rules.asWritten;rw[zK [] rows at_ (by omega),Rp,Ry,h1];refine lC λi hi=>?_;have hi:=Qe.mp hi;have hlen:(rows.getD i []).length=R.wide:=by
  have hr:i<rows.length:=by omega
  have:rows.getD i []=rows[i]:=by simp[List.getD,PD hr]
  rw[this];exact h2 _ (RT hr)
 dsimp only;rw[EL code dflt,hlen,QJ];refine Rn λx _=>?_;have e:R.high-1-(R.high-1-i)=i:=by omega
 show(at_.getD i 0+x,code ((rows.getD i []).getD x dflt))=(at_.getD (R.high-1-(R.high-1-i)) 0+x,code (Tafl.at_ dflt rows R.high x (R.high-1-i)));unfold Tafl.at_;rw[e]
theorem Hf.ground{b:PX}{d:DR}{R:PK}(G:Hf b d R):d.ground=R.asWritten.map λ(p:Nat×Nat)=>(R.groundPlace p,h_ (R.kind p.1 p.2)):=by
 rw[G.g];exact tP h_ .wall G.gl G.gr G.ga
theorem Hf.start{b:PX}{d:DR}{R:PK}(G:Hf b d R):d.start=R.asWritten.map λ(p:Nat×Nat)=>(R.startPlace p,eW (R.piece p.1 p.2)):=by
 rw[G.s];exact tP eW .none G.sl G.sr G.sa
theorem sS(R:PK):br R.wide R.high=R.asWritten.map λ(p:Nat×Nat)=>((Tafl.cellOf p.1 p.2:Nat):Int):=by
 unfold br Tafl.Rules.asWritten;rw[Ry];refine lC λi _=>?_;rw[QJ];rfl
theorem dU{R:PK}{p:Nat×Nat}:p∈R.asWritten↔p.1<R.wide/\p.2<R.high:=by
 unfold Tafl.Rules.asWritten;rw[QU];constructor
 ·rintro⟨i,hi,h⟩
  obtain⟨x,hx,rfl⟩:=P_.mp h;have:=Qe.mp hi;have:=Qe.mp hx;exact⟨by assumption,by show R.high-1-i<R.high;omega⟩
 ·rintro⟨h1,h2⟩
  exact⟨R.high-1-p.2,Qe.mpr (by omega),P_.mpr ⟨p.1,Qe.mpr h1,by show(p.1,R.high-1-(R.high-1-p.2))=p;have:R.high-1-(R.high-1-p.2)=p.2:=(by omega);rw[this]⟩⟩
theorem Cn{α β γ:Type}(l:List α)(f:α->β)(g:α->γ):(l.map f).zip (l.map g)=l.map λx=>(f x,g x):=by
 induction l with
 |nil=>rfl
 |cons x l ih=>rw[QD,QD,List.zip_cons_cons,ih,QD]
theorem Fk(A:List (Nat×Nat))(pl ix:Nat×Nat->Nat)(acc:List Int):(A.map λ(p:Nat×Nat)=>(((Tafl.cellOf p.1 p.2:Nat):Int),pl p,ix p)).foldl (λ(q:List Int)(p:Int×Nat×Nat)=>q.set p.1.toNat ((p.2.2:Nat):Int)) acc=(A.map λ(p:Nat×Nat)=>(((Tafl.cellOf p.1 p.2:Nat):Int),((ix p:Nat):Int),(0:Int))).foldl ui acc:=by
 rw[List.foldl_map,List.foldl_map];rfl
theorem Eo{R:PK}(hw:R.wide<=13)(hh:R.high<=13)(pl ix:Nat×Nat->Nat)(e:Int){c:Nat}(hc:c<169):(oB R.wide R.high (R.asWritten.map λ(p:Nat×Nat)=>(pl p,ix p)) e).getD c 0=if c%13<R.wide/\c/13<R.high then((ix (c%13,c/13):Nat):Int)else e:=by
 unfold oB;rw[sS,Cn,Fk];have nd:((R.asWritten.map λ(p:Nat×Nat)=>(((Tafl.cellOf p.1 p.2:Nat):Int),((ix p:Nat):Int),(0:Int))).map (·.1)).Nodup:=by
  rw[QJ];show(R.asWritten.map λ(p:Nat×Nat)=>((Tafl.cellOf p.1 p.2:Nat):Int)).Nodup;rw[<-sS];exact yu _ _ hw
 obtain⟨s1,s2⟩:=CL (R.asWritten.map λ(p:Nat×Nat)=>(((Tafl.cellOf p.1 p.2:Nat):Int),((ix p:Nat):Int),(0:Int))) (List.replicate 169 e) nd (λx hx=>by
  obtain⟨p,hp,rfl⟩:=P_.mp hx;obtain⟨h1,h2⟩:=dU.mp hp;refine⟨Tafl.cellOf p.1 p.2,rfl,?_⟩;rw[Qx];unfold Tafl.cellOf Tafl.STRIDE;omega) c
 by_cases h:c%13<R.wide/\c/13<R.high
 ·rw[Pz h]
  refine s2 (((Tafl.cellOf (c%13) (c/13):Nat):Int),((ix (c%13,c/13):Nat):Int),0) (P_.mpr ⟨(c%13,c/13),dU.mpr h,rfl⟩) ?_;show((Tafl.cellOf (c%13) (c/13):Nat):Int)=_;unfold Tafl.cellOf Tafl.STRIDE;omega
 ·rw[Py h,s1 λx hx z=>h ?_]
  ·simp only[List.getD,Q2]
   rw[Pz hc];rfl
  ·obtain⟨p,hp,rfl⟩:=P_.mp hx
   obtain⟨h1,h2⟩:=dU.mp hp;have z:((Tafl.cellOf p.1 p.2:Nat):Int)=((c:Nat):Int):=z;unfold Tafl.cellOf Tafl.STRIDE at z;have z:13*p.2+p.1=c:=by omega
   exact⟨by omega,by omega⟩
theorem HU(k:Tafl.Kind):((h_ k:Nat):Int)=Bq k:=by cases k<;>rfl
theorem F2(k:Qo):((eW k:Nat):Int)=dJ k:=by cases k<;>rfl
theorem HG{b:PX}{d:DR}{R:PK}(G:Hf b d R)(O:Ke d):c8 (dF d) R:=by
 have hw:R.wide<=13:=by rw[<-G.w];exact O.w
 have hh:R.high<=13:=by rw[<-G.h];exact O.h
 refine⟨G.w,G.h,hw,hh,by rw[<-G.w];exact O.w5,by rw[<-G.h];exact O.h5,G.sd,G.ar,G.fo,G.pa,G.se,by have:=G.O5;omega,G.ex,by have:=G.OW;omega,G.go,O.wf,λc hc=>?_⟩;show(oB d.wide d.high d.ground 3).getD c 0=_;rw[G.w,G.h,G.ground,Eo hw hh R.groundPlace (λp=>h_ (R.kind p.1 p.2)) 3 hc];unfold Tafl.Rules.kindAt Tafl.Rules.isCell Tafl.STRIDE
 by_cases h:c%13<R.wide/\c/13<R.high
 ·rw[Pz h,Pz (by rw[PJ h.1,PJ h.2];rfl),HU]
 ·rw[Py h,Py (λz=>h (by rw[P4,PV,PV]at z;exact z))]
  rfl
theorem Cw{b:PX}{d:DR}{R:PK}(G:Hf b d R)(O:Ke d){c:Nat}(hc:c<169):(dF d).start.getD c 0=if c%13<R.wide/\c/13<R.high then dJ (R.piece (c%13) (c/13))else 0:=by
 have hw:R.wide<=13:=by rw[<-G.w];exact O.w
 have hh:R.high<=13:=by rw[<-G.h];exact O.h
 show(oB d.wide d.high d.start 0).getD c 0=_;rw[G.w,G.h,G.start,Eo hw hh R.startPlace (λp=>eW (R.piece p.1 p.2)) 0 hc,F2]
theorem qd{R:PK}{p:Nat×Nat}:p∈R.cells↔p.1<R.wide/\p.2<R.high:=by
 unfold Tafl.Rules.cells Tafl.cellsOf;rw[QU];constructor
 ·rintro⟨y,hy,h⟩
  obtain⟨x,hx,rfl⟩:=P_.mp h;exact⟨Qe.mp hx,Qe.mp hy⟩
 ·rintro⟨h1,h2⟩
  exact⟨p.2,Qe.mpr h2,P_.mpr ⟨p.1,Qe.mpr h1,rfl⟩⟩
theorem xy{b:PX}{d:DR}{R:PK}(G:Hf b d R)(O:Ke d)(hk:∀p∈R.asWritten,∀q∈R.asWritten,R.piece p.1 p.2=.king->R.piece q.1 q.2=.king->p=q):dL R R.begins (dF d).start (dF d).first:=by
 have hw:R.wide<=13:=by rw[<-G.w];exact O.w
 have hh:R.high<=13:=by rw[<-G.h];exact O.h
 have sa:=λ{c}(hc:c<169)=>Cw G O hc;have val:∀(pc:Qo),pc≠.none->∀c,c<169->((dF d).start.getD c 0=dJ pc↔(c%13<R.wide/\c/13<R.high)/\R.piece (c%13) (c/13)=pc):=λpc hp c hc=>by
  rw[sa hc]
  by_cases h:c%13<R.wide/\c/13<R.high
  ·rw[Pz h]
   exact⟨λe=>⟨h,eP e⟩,λe=>by rw[e.2]⟩
  ·rw[Py h]
   exact⟨λe=>absurd (eP (x:= .none) e) (PZ hp),λe=>absurd e.1 h⟩
 have memL:∀(pc:Qo)(c:Nat),(pc,c)∈(R.cells.map λ(q:Nat×Nat)=>(R.piece q.1 q.2,Tafl.cellOf q.1 q.2))↔c<169/\(c%13<R.wide/\c/13<R.high)/\R.piece (c%13) (c/13)=pc:=λpc c=>by
  rw[P_];constructor
  ·rintro⟨p,hp,e⟩
   obtain⟨h1,h2⟩:=qd.mp hp;injection e with e1 e2;unfold Tafl.cellOf Tafl.STRIDE at e2;have x1:c%13=p.1:=by omega
   have x2:c/13=p.2:=by omega
   rw[x1,x2];exact⟨by omega,⟨h1,h2⟩,e1⟩
  ·rintro⟨h0,h1,h2⟩
   refine⟨(c%13,c/13),qd.mpr h1,?_⟩;show(R.piece (c%13) (c/13),Tafl.cellOf (c%13) (c/13))=_;rw[h2]
   congr 1
   unfold Tafl.cellOf Tafl.STRIDE;omega
 have bit:∀(pc:Qo),pc≠.none->∀c,(Tafl.setFrom ((R.cells.map λ(q:Nat×Nat)=>(R.piece q.1 q.2,Tafl.cellOf q.1 q.2)).filterMap λ(x:Qo×Nat)=>if x.1=pc then some x.2 else none)).testBit c=true↔c<169/\(dF d).start.getD c 0=dJ pc:=λpc hp c=>by
  rw[qv,Rq];constructor
  ·rintro⟨⟨pc',c'⟩,hm,h⟩
   dsimp only at h;split at h
   ·rename_i e
    subst e;cases h;obtain⟨h0,h1⟩:=(memL pc' c).mp hm;exact⟨h0,(val pc' hp c h0).mpr h1⟩
   ·cases h
  ·rintro⟨h0,h1⟩
   exact⟨(pc,c),(memL pc c).mpr ⟨h0,(val pc hp c h0).mp h1⟩,by simp⟩
 unfold Tafl.Rules.begins;dsimp only;refine⟨O.wf.s,G.f,by have:=G.f2;show R.first=0\/R.first=1;omega,λc=>bit .hunter (by decide) c,λc=>bit .man (by decide) c,?_,λc hc hz=>?_⟩
 ·show((((R.cells.map λ(q:Nat×Nat)=>(R.piece q.1 q.2,Tafl.cellOf q.1 q.2)).find? λ(x:Qo×Nat)=>x.1== .king).map λ(x:Qo×Nat)=>x.2).getD Tafl.TAKEN=255/\_)\/((((R.cells.map λ(q:Nat×Nat)=>(R.piece q.1 q.2,Tafl.cellOf q.1 q.2)).find? λ(x:Qo×Nat)=>x.1== .king).map λ(x:Qo×Nat)=>x.2).getD Tafl.TAKEN<169/\(dF d).start.getD ((((R.cells.map λ(q:Nat×Nat)=>(R.piece q.1 q.2,Tafl.cellOf q.1 q.2)).find? λ(x:Qo×Nat)=>x.1== .king).map λ(x:Qo×Nat)=>x.2).getD Tafl.TAKEN) 0=3/\∀c,c<169->(dF d).start.getD c 0=3->c=(((R.cells.map λ(q:Nat×Nat)=>(R.piece q.1 q.2,Tafl.cellOf q.1 q.2)).find? λ(x:Qo×Nat)=>x.1== .king).map λ(x:Qo×Nat)=>x.2).getD Tafl.TAKEN)
  cases hf:(R.cells.map λ(q:Nat×Nat)=>(R.piece q.1 q.2,Tafl.cellOf q.1 q.2)).find? λ(x:Qo×Nat)=>x.1== .king with
  |none=>
   refine .inl ⟨rfl,λc hc e3=>?_⟩;have hm:=(memL .king c).mpr ⟨hc,(val .king (by decide) c hc).mp e3⟩;exact absurd (by rfl) (List.find?_eq_none.mp hf _ hm)
  |some x=>
   obtain⟨pc,c⟩:=x;have hp:=List.find?_some hf;have hp:pc=.king:=eq_of_beq (show(pc==Tafl.Piece.king)=true from hp);subst hp;obtain⟨h0,h1,h2⟩:=(memL .king c).mp (RM hf);refine .inr ⟨h0,(val .king (by decide) c h0).mpr ⟨h1,h2⟩,λc' hc' e3=>?_⟩;show c'=c;obtain⟨g1,g2⟩:=(val .king (by decide) c' hc').mp e3;have:=hk (c%13,c/13) (dU.mpr h1) (c'%13,c'/13) (dU.mpr g1) h2 g2;injection this with e1 e2;omega
 ·rw[sa hc]at hz
  by_cases h:c%13<R.wide/\c/13<R.high
  ·exact h
  ·rw[Py h]at hz
   exact absurd rfl hz
theorem Am{ns:List Int}:∀(l:List Nat)(n m:Nat),c_ ns l n=.ok m->n<=m
 |[],n,m,h=>by cases h;exact PF _
 |c::r,n,m,h=>by
  unfold c_ at h;split at h
  ·have:=Am r (n+1) m h
   omega
  ·cases h
theorem j9{ns:List Int}{z:Str}{n m:Nat}{v:Unit}(h:jL ns z n=.ok (v,m)):n<=m:=by
 unfold jL at h;split at h
 ·rename_i e
  cases h;exact Am _ _ _ e
 ·cases h
theorem Bu{ns:List Int}(ws:List Str):∀(f told:Nat)(left:List Str)(n:Nat)(p:V×Nat),b6 ns ws f told left n=.ok p->n<=p.2
 |0,_,_,_,_,h=>by cases h
 |f+1,told,left,n,p,h=>by
  unfold b6 at h;cases hl:left.filter (mI ns n told)with
  |nil=>rw[hl]at h;cases h
  |cons v l=>
   rw[hl]at h;replace h:(if v.length=told+1 then Except.ok (V.int (ws.findIdx (λu=>decide (u=v)):Nat),n+1)else b6 ns ws f (told+1) (v::l) (n+1))=.ok p:=h;split at h
   ·cases h
    exact Nat.le_succ _
   ·have:=Bu ws f _ _ _ _ h
    omega
theorem kn{ns:List Int}{ws:List Str}{f t:Nat}{l:List Str}{n m:Nat}{v:Int}(h:jv (b6 ns ws f t l n)=.ok (v,m)):n<=m:=Bu ws _ _ _ _ _ (nL h)
theorem wp{ns:List Int}:∀(f:Nat)(l:Int)(n:Nat)(p:V×Nat),gA ns f l n=.ok p->n<=p.2
 |0,_,_,_,h=>by cases h;exact PF _
 |f+1,l,n,p,h=>by
  unfold gA at h;split at h
  ·cases ho:aW fG ns n with
   |error e=>rw[ho]at h;cases h
   |ok q=>
    obtain⟨k,rfl,_⟩:=dR ho;rw[ho]at h;have:=wp f _ _ _ h;omega
  ·cases h
   exact PF _
theorem KZ{ns:List Int}{n m:Nat}{v:Int}(h:jv (AD ns n)=.ok (v,m)):n<=m:=by
 have h:=nL h;unfold AD at h;cases ho:aW "123456789" ns n with
 |error e=>rw[ho]at h;cases h
 |ok q=>
  obtain⟨k,rfl,_⟩:=dR ho;rw[ho]at h;have:=wp _ _ _ _ h;exact R9 this
theorem Ls{ns:List Int}{n m:Nat}{v:Unit}(h:Ci ns n=.ok (v,m)):n<=m:=by
 unfold Ci at h;split at h
 ·cases h
 ·cases h
  exact PF _
structure Ord(acc:List (Nat×Nat))(n:Nat)(l:List (Nat×Nat))(m:Nat):Prop where
 pw:l.Pairwise λ(p q:Nat×Nat)=>p.1<q.1
 lt:∀q∈l,q.1<m
 le:n<=m
 ge:∀q∈l,q∈acc\/n<=q.1
theorem wn{z:Str}{ns:List Int}:∀(k:Nat)(acc:List (Nat×Nat))(n:Nat)(p:List (Nat×Nat)×Nat),hU z ns k acc n=.ok p->(acc.Pairwise λ(p q:Nat×Nat)=>p.1<q.1)->(∀q∈acc,q.1<n)->Ord acc n p.1 p.2
 |0,acc,n,p,h,h1,h2=>by cases h;exact⟨h1,h2,PF _,λq hq=>.inl hq⟩
 |k+1,acc,n,p,h,h1,h2=>by
  unfold hU at h;cases hs:cK z ns n with
  |none=>rw[hs]at h;cases h
  |some i=>
   rw[hs]at h;have o:=wn k (acc++[(n,i)]) (n+1) p h (by
    rw[List.pairwise_append];refine⟨h1,List.pairwise_singleton _ _,λx hx y hy=>?_⟩;rw[Qb]at hy;subst hy;exact h2 x hx) (λq hq=>by
    rcases Qc.mp hq with hq|hq
    ·have:=h2 q hq
     omega
    ·rw[Qb]at hq
     subst hq;exact Nat.lt_succ_self _)
   have:=o.le;refine⟨o.pw,o.lt,by omega,λq hq=>?_⟩;rcases o.ge q hq with hq|hq
   ·rcases Qc.mp hq with hq|hq
    ·exact .inl hq
    ·rw[Qb]at hq
     subst hq;exact .inr (PF _)
   ·exact .inr (by omega)
theorem ud{z:Str}{ns:List Int}{wide:Nat}:∀(k:Nat)(acc:List (Nat×Nat))(n:Nat)(p:List (Nat×Nat)×Nat),eA z ns wide k acc n=.ok p->(acc.Pairwise λ(p q:Nat×Nat)=>p.1<q.1)->(∀q∈acc,q.1<n)->Ord acc n p.1 p.2
 |0,acc,n,p,h,h1,h2=>by cases h;exact⟨h1,h2,PF _,λq hq=>.inl hq⟩
 |k+1,acc,n,p,h,h1,h2=>by
  unfold eA yt at h;cases hc:hU z ns wide acc n with
  |error e=>rw[hc]at h;cases h
  |ok q=>
   have o:=wn wide acc n q hc h1 h2;rw[hc]at h;obtain⟨q1,q2⟩:=q;replace h:(match c_ ns [10] q2 with|.error e=>Except.error e|.ok m=>eA z ns wide k q1 m)=.ok p:=h;cases hl:c_ ns [10] q2 with
   |error e=>rw[hl]at h;cases h
   |ok m=>
    rw[hl]at h;have hm:=Am _ _ _ hl;have o2:=ud k q1 m p h o.pw (λx hx=>Qs (o.lt x hx) hm);have a1:=o.le;have a2:=o2.le;dsimp only at a1;refine⟨o2.pw,o2.lt,by omega,λx hx=>?_⟩;rcases o2.ge x hx with hx|hx
    ·exact o.ge x hx
    ·exact .inr (by omega)
structure N6(d:DR):Prop where
 g:d.ground.Pairwise λ(p q:Nat×Nat)=>p.1<q.1
 s:d.start.Pairwise λ(p q:Nat×Nat)=>p.1<q.1
 gs:∀p∈d.ground,∀q∈d.start,p.1<=q.1
 sg:∀q∈d.start,q.1<=d.gn
 gg:∀q∈d.ground,q.1<=d.gn
 ge:d.gn<=d.jS
theorem Fe{ns:List Int}{d:DR}(h:iQ ns=.ok d):N6 d:=by
 unfold iQ at h;obtain⟨_,n1,e1,h⟩:=aG h;obtain⟨_,n2,e2,h⟩:=aG h;obtain⟨_,n3,e3,h⟩:=aG h;obtain⟨_,n4,e4,h⟩:=aG h;obtain⟨_,n5,e5,h⟩:=aG h;obtain⟨_,n6,e6,h⟩:=aG h;obtain⟨_,n7,e7,h⟩:=aG h;obtain⟨vg,n8,eg,h⟩:=aG h;obtain⟨_,n9,e9,h⟩:=aG h;obtain⟨vs,n10,es,h⟩:=aG h;obtain⟨_,n11,e11,h⟩:=aG h;obtain⟨_,n12,e12,h⟩:=aG h;obtain⟨_,n13,e13,h⟩:=aG h;obtain⟨_,n14,e14,h⟩:=aG h;obtain⟨_,n15,e15,h⟩:=aG h;obtain⟨_,n16,e16,h⟩:=aG h;obtain⟨_,n17,e17,h⟩:=aG h;obtain⟨_,n18,e18,h⟩:=aG h;obtain⟨_,n19,e19,h⟩:=aG h;obtain⟨_,n20,e20,h⟩:=aG h;obtain⟨_,n21,e21,h⟩:=aG h;obtain⟨_,n22,e22,h⟩:=aG h;obtain⟨_,n23,e23,h⟩:=aG h;obtain⟨_,n24,e24,h⟩:=aG h;obtain⟨_,n25,e25,h⟩:=aG h;obtain⟨gp,n26,e26,h⟩:=aG h;obtain⟨_,n27,e27,h⟩:=aG h;obtain⟨_,n28,e28,h⟩:=aG h;obtain⟨_,n29,e29,h⟩:=aG h;obtain⟨_,n30,e30,h⟩:=aG h;obtain⟨_,n31,e31,h⟩:=aG h;obtain⟨_,n32,e32,h⟩:=aG h;obtain⟨_,n33,e33,h⟩:=aG h;cases h;have og:=ud _ _ _ _ eg List.Pairwise.nil (λq hq=>by cases hq);have os:=ud _ _ _ _ es List.Pairwise.nil (λq hq=>by cases hq);have ol:=os.le;dsimp only at ol;have m9:=j9 e9;have m11:=j9 e11;have m12:=kn e12;have m13:=j9 e13;have m14:=kn e14;have m15:=j9 e15;have m16:=kn e16;have m17:=j9 e17;have m18:=kn e18;have m19:=j9 e19;have m20:=kn e20;have m21:=j9 e21;have m22:=kn e22;have m23:=j9 e23;have m24:=kn e24;have m25:=j9 e25;cases e26;have m27:=kn e27;have m28:=j9 e28;have m29:=kn e29;have m30:=j9 e30;have m31:=KZ e31;have m32:=j9 e32;have m33:=Ls e33;refine⟨og.pw,os.pw,λp hp q hq=>?_,λq hq=>?_,λq hq=>?_,?_⟩
 ·have a1:=og.lt p hp
  dsimp only at a1;rcases os.ge q hq with hq|hq
  ·cases hq
  ·omega
 ·have a1:=os.lt q hq
  dsimp only at a1;show q.1<=n25;omega
 ·have a1:=og.lt q hq
  dsimp only at a1;show q.1<=n25;omega
 ·show n25<=n33
  omega
theorem fb(x y:Nat×Nat):Tafl.sooner x y=true↔x.2<y.2\/(x.2=y.2/\x.1<=y.1):=by
 unfold Tafl.sooner;rw[Rm,P4,PV,PV,QQ]
def Av(m:Option (Nat×Nat))(x:Nat×Nat):Option (Nat×Nat):=match m with
 |some y=>if Tafl.sooner y x=true then some y else some x
 |none=>some x
theorem pY:∀(l:List (Nat×Nat))(y:Nat×Nat),∃z,l.foldl Av (some y)=some z/\z∈y::l/\∀q∈y::l,Tafl.sooner z q=true
 |[],y=>⟨y,rfl,PU,λq hq=>by
   rw[Qb]at hq;subst hq;rw[fb];omega⟩
 |x::l,y=>by
  rw[Q8];unfold Av;dsimp only
  by_cases h:Tafl.sooner y x=true
  ·rw[Pz h]
   obtain⟨z,h1,h2,h3⟩:=pY l y;refine⟨z,h1,?_,λq hq=>?_⟩
   ·rcases Qh.mp h2 with h2|h2
    ·exact Qh.mpr (.inl h2)
    ·exact PY _ (PY _ h2)
   ·rcases Qh.mp hq with hq|hq
    ·exact h3 q (Qh.mpr (.inl hq))
    ·rcases Qh.mp hq with hq|hq
     ·have:=h3 y PU
      subst hq;rw[fb]at this h ⊢;omega
     ·exact h3 q (PY _ hq)
  ·rw[Py h]
   obtain⟨z,h1,h2,h3⟩:=pY l x;refine⟨z,h1,PY _ h2,λq hq=>?_⟩;rcases Qh.mp hq with hq|hq
   ·have:=h3 x PU
    subst hq;rw[fb]at this h ⊢;omega
   ·exact h3 q hq
theorem first_is{l:List (Nat×Nat)}{x:Nat×Nat}(h:x∈l)(h2:∀y∈l,Tafl.sooner x y=true):Tafl.firstOf l=some x:=by
 show l.foldl Av none=some x;cases l with
 |nil=>cases h
 |cons y l=>
  obtain⟨z,e,h3,h4⟩:=pY l y;show l.foldl Av (some y)=some x;rw[e];have a1:=h2 z h3;have a2:=h4 x h;rw[fb]at a1 a2
  congr 1
  exact Prod.ext (by omega) (by omega)
theorem Ak(f:Nat×Nat->Bool)(pl ix:Nat×Nat->Nat)(hf:∀p,ix p=1↔f p=true):∀(l:List (Nat×Nat))(s:Nat),s<=1->ye (l.map λ(p:Nat×Nat)=>(pl p,ix p)) s=((l.filter f).drop (1-s)).head?.map pl
 |[],s,_=>by
  rw[List.filter_nil,List.drop_nil];rfl
 |p::l,s,hs=>by
  show(if 1<(if ix p=1 then s+1 else s)then some (pl p)else ye (l.map λ(p:Nat×Nat)=>(pl p,ix p)) (if ix p=1 then s+1 else s))=_
  by_cases h:ix p=1
  ·rw[Pz h,List.filter_cons_of_pos ((hf p).mp h)]
   by_cases h1:s=1
   ·subst h1
    rw[Pz (by decide)];rfl
   ·have h1:s=0:=by omega
    subst h1;rw[Py (by decide),Ak f pl ix hf l 1 (by decide)];rfl
  ·rw[Py h,List.filter_cons_of_neg (λz=>h ((hf p).mpr z)),Py (by omega),Ak f pl ix hf l s hs]
def wS(mis kg:Nat×Nat->Bool)(pl:Nat×Nat->Nat)(l:List (Nat×Nat))(s:Nat):List (Nat×Nat):=(l.filter mis).map (λ(p:Nat×Nat)=>(3,pl p))++((l.filter kg).drop (1-s)).map (λ(p:Nat×Nat)=>(4,pl p))
theorem Hq{mis kg:Nat×Nat->Bool}{pl:Nat×Nat->Nat}{l:List (Nat×Nat)}{s:Nat}{x:Nat×Nat}(h:x∈wS mis kg pl l s):∃p∈l,x.2=pl p/\(x.1=3\/x.1=4):=by
 rcases Qc.mp h with h|h
 ·obtain⟨p,hp,rfl⟩:=P_.mp h
  exact⟨p,(Qz.mp hp).1,rfl,.inl rfl⟩
 ·obtain⟨p,hp,rfl⟩:=P_.mp h
  exact⟨p,(Qz.mp (Sd hp)).1,rfl,.inr rfl⟩
def KS(w:List (Nat×Nat))(r:Option (Nat×Nat)):Prop:=match r with
 |none=>w=[]
 |some x=>x∈w/\∀y∈w,Tafl.sooner x y=true
theorem AX(mis kg:Nat×Nat->Bool)(pg ig pl ix:Nat×Nat->Nat)(hm:∀p,(iE ((ig p:Nat):Int) ((ix p:Nat):Int)=false\/(ix p=3/\ig p=2))↔mis p=true)(hk:∀p,ix p=3↔kg p=true):∀(l:List (Nat×Nat))(s:Nat),s<=1->(l.Pairwise λ(p q:Nat×Nat)=>pl p<pl q)->KS (wS mis kg pl l s) (vJ (l.map λ(p:Nat×Nat)=>((pg p,ig p),(pl p,ix p))) s)
 |[],s,_,_=>by
  show wS mis kg pl [] s=[];unfold wS;rw[List.filter_nil,List.filter_nil,List.drop_nil];rfl
 |p::l,s,hs,pw=>by
  obtain⟨p1,p2⟩:=List.pairwise_cons.mp pw;show KS _ (if iE ((ig p:Nat):Int) ((ix p:Nat):Int)=false\/(ix p=3/\ig p=2)then some (3,pl p)else if 1<(if ix p=3 then s+1 else s)then some (4,pl p)else vJ (l.map λ(p:Nat×Nat)=>((pg p,ig p),(pl p,ix p))) (if ix p=3 then s+1 else s))
  by_cases h:iE ((ig p:Nat):Int) ((ix p:Nat):Int)=false\/(ix p=3/\ig p=2)
  ·rw[Pz h]
   refine⟨?_,λy hy=>?_⟩
   ·unfold wS
    rw[List.filter_cons_of_pos ((hm p).mp h)];exact QX _ PU
   ·obtain⟨q,hq,e,e2⟩:=Hq hy
    rw[fb];dsimp only;rcases Qh.mp hq with hq|hq
    ·subst hq
     omega
    ·have:=p1 q hq
     omega
  ·rw[Py h]
   have fm:(p::l).filter mis=l.filter mis:=List.filter_cons_of_neg (λz=>h ((hm p).mpr z))
   by_cases h3:ix p=3
   ·rw[Pz h3]
    have fk:(p::l).filter kg=p::l.filter kg:=List.filter_cons_of_pos ((hk p).mp h3)
    by_cases h1:s=1
    ·subst h1
     rw[Pz (by decide)];unfold wS;rw[fm,fk];refine⟨Q1 _ PU,λy hy=>?_⟩;rw[fb];dsimp only;rcases Qc.mp hy with hy|hy
     ·obtain⟨q,hq,rfl⟩:=P_.mp hy
      have:=p1 q (Qz.mp hq).1;dsimp only;omega
     ·obtain⟨q,hq,rfl⟩:=P_.mp hy
      dsimp only;rcases Qh.mp hq with hq|hq
      ·subst hq
       omega
      ·have:=p1 q (Qz.mp hq).1
       omega
    ·have h1:s=0:=by omega
     subst h1;rw[Py (by decide)];have ih:=AX mis kg pg ig pl ix hm hk l 1 (by decide) p2;unfold wS at ih ⊢;rw[fm,fk];exact ih
   ·rw[Py h3,Py (by omega)]
    have ih:=AX mis kg pg ig pl ix hm hk l s hs p2;unfold wS at ih ⊢;rw[fm,List.filter_cons_of_neg (λz=>h3 ((hk p).mpr z))];exact ih
theorem IC(k:Tafl.Kind)(c:Qo):(iE ((h_ k:Nat):Int) ((eW c:Nat):Int)=false\/(eW c=3/\h_ k=2))↔(match c,k with
 |.none,_=>false
 |_,.wall=>true
 |.king,.exit=>true
 |.king,_=>false
 |_,.seat=>true
 |_,.exit=>true
 |_,.plain=>false)=true:=by
 cases k<;>cases c<;>decide
theorem rC(k:Tafl.Kind):(h_ k=1↔(k==Tafl.Kind.seat)=true)/\(h_ k=2↔(k==Tafl.Kind.exit)=true):=by cases k<;>decide
theorem pF(k:Qo):(eW k=3↔(k==Tafl.Piece.king)=true)/\(eW k=1↔(k==Tafl.Piece.hunter)=true):=by cases k<;>decide
theorem zQ(R:PK)(f:Nat×Nat->Bool):R.cells.any f=R.asWritten.any f:=by
 rw[QN,QR,QR];exact⟨λ⟨p,h1,h2⟩=>⟨p,dU.mpr (qd.mp h1),h2⟩,λ⟨p,h1,h2⟩=>⟨p,qd.mpr (dU.mp h1),h2⟩⟩
theorem qm(l:List (Nat×Nat))(pl ix:Nat×Nat->Nat)(f:Nat×Nat->Bool)(v:Nat)(hf:∀p,ix p=v↔f p=true):ju (l.map λ(p:Nat×Nat)=>(pl p,ix p)) ((v:Nat):Int)=l.any f:=by
 unfold ju;rw[Rr]
 congr 1
 funext p
 show decide (((ix p:Nat):Int)=((v:Nat):Int))=f p;rw[QN,PV,<-hf p];omega
theorem pS{α:Type}(l:List α)(f:α->Bool):l.any f=false↔l.filter f=[]:=by
 rw[List.filter_eq_nil_iff,Rj]
theorem Cg{R:PK}(h:R.kings.drop 1=[]):∀p∈R.asWritten,∀q∈R.asWritten,R.piece p.1 p.2=.king->R.piece q.1 q.2=.king->p=q:=λp hp q hq e1 e2=>by
 have m1:p∈R.kings:=Qz.mpr ⟨hp,by rw[e1];rfl⟩;have m2:q∈R.kings:=Qz.mpr ⟨hq,by rw[e2];rfl⟩;cases hk:R.kings with
 |nil=>rw[hk]at m1;cases m1
 |cons k l=>
  rw[hk]at h m1 m2;have h:l=[]:=h;subst h;rw[Qb]at m1 m2;rw[m1,m2]
theorem xL{b:PX}{d:DR}{R:PK}(G:Hf b d R)(O:Ke d)(hk:R.kings.drop 1=[]):mH d (dF d)=true↔(R.goal=1/\(R.cells.any λ(p:Nat×Nat)=>R.kind p.1 p.2== .exit)=false)\/(R.goal=0/\(R.kings.take 1).any R.onEdge=true):=by
 unfold mH;have g2:=G.go2;have go:=G.go
 by_cases h1:d.goal=1
 ·rw[Pz h1]
  have e1:R.goal=1:=by omega
  rw[G.ground,zQ,show(2:Int)=((2:Nat):Int)from rfl,qm _ _ _ (λ(p:Nat×Nat)=>R.kind p.1 p.2== .exit) 2 (λp=>(rC _).2)];constructor
  ·intro h
   refine .inl ⟨e1,?_⟩;cases e:(R.asWritten.any λ(p:Nat×Nat)=>R.kind p.1 p.2== .exit)with
   |false=>rfl
   |true=>rw[e]at h;cases h
  ·rintro(⟨_,h⟩|⟨h,_⟩)
   ·rw[h];rfl
   ·omega
 ·rw[Py h1]
  have e0:R.goal=0:=by omega
  have P:=xy G O (Cg hk);have Q:=HG G O;have sa:=λ{c}(hc:c<169)=>Cw G O hc;have tS:=Q.tS;have vm:=Q.vm;constructor
  ·intro h
   refine .inr ⟨e0,?_⟩;rw[P4,PV]at h;obtain⟨h2,h3⟩:=h;rcases AO P with⟨_,e⟩|⟨k1,e⟩
   ·rw[e]at h2
    omega
   ·rw[e,Qm]at h3
    rcases P.k with⟨k2,_⟩|⟨_,k2,_⟩
    ·omega
    ·rw[sa k1]at k2
     split at k2
     ·rename_i hin
      rw[AN Q hin.1 hin.2]at h3;have pk:R.piece (R.begins.king%13) (R.begins.king/13)=.king:=eP (y:= .king) k2;have m:(R.begins.king%13,R.begins.king/13)∈R.kings:=Qz.mpr ⟨dU.mpr hin,by show(R.piece (R.begins.king%13) (R.begins.king/13)==Tafl.Piece.king)=true;rw[pk];rfl⟩;cases hkk:R.kings with
      |nil=>rw[hkk]at m;cases m
      |cons k l=>
       rw[hkk]at hk m;have hk:l=[]:=hk;subst hk;rw[Qb]at m;show(List.any [k] R.onEdge)=true;rw[RI,<-m,h3];rfl
     ·cases k2
  ·rintro(⟨h,_⟩|⟨_,h⟩)
   ·omega
   ·obtain⟨p,hp,he⟩:=QR.mp h
    have hp:=Qz.mp (List.mem_of_mem_take hp);obtain⟨p1,p2⟩:=dU.mp hp.1;have pk:R.piece p.1 p.2=.king:=eq_of_beq (show(R.piece p.1 p.2==Tafl.Piece.king)=true from hp.2);have hc:13*p.2+p.1<169:=by omega
    have x1:(13*p.2+p.1)%13=p.1:=by omega
    have x2:(13*p.2+p.1)/13=p.2:=by omega
    have e3:(dF d).start.getD (13*p.2+p.1) 0=3:=by
     rw[sa hc,x1,x2,Pz ⟨p1,p2⟩,pk];rfl
    rcases P.k with⟨_,k2⟩|⟨k1,_,k3⟩
    ·exact absurd e3 (k2 _ hc)
    ·have ek:=k3 _ hc e3
     rcases AO P with⟨e,_⟩|⟨_,e⟩
     ·omega
     ·rw[e,Qm,<-ek,AN Q (by rw[x1];exact p1) (by rw[x2];exact p2),x1,x2,he,Bool.and_true]
      exact PJ (by omega)
theorem zw{b:PX}{d:DR}{R:PK}(G:Hf b d R):jF d=true↔R.kings=[]\/(R.cells.any λ(p:Nat×Nat)=>R.piece p.1 p.2== .hunter)=false\/(R.seats=[]/\¬(R.passed=true/\R.seat=0)):=by
 unfold jF;have a1:ju d.start 3=R.asWritten.any λ(p:Nat×Nat)=>R.piece p.1 p.2== .king:=by
  rw[G.start,show(3:Int)=((3:Nat):Int)from rfl,qm _ _ _ (λ(p:Nat×Nat)=>R.piece p.1 p.2== .king) 3 (λp=>(pF _).1)]
 have a2:ju d.start 1=R.asWritten.any λ(p:Nat×Nat)=>R.piece p.1 p.2== .hunter:=by
  rw[G.start,show(1:Int)=((1:Nat):Int)from rfl,qm _ _ _ (λ(p:Nat×Nat)=>R.piece p.1 p.2== .hunter) 1 (λp=>(pF _).2)]
 have a3:ju d.ground 1=R.asWritten.any λ(p:Nat×Nat)=>R.kind p.1 p.2== .seat:=by
  rw[G.ground,show(1:Int)=((1:Nat):Int)from rfl,qm _ _ _ (λ(p:Nat×Nat)=>R.kind p.1 p.2== .seat) 1 (λp=>(rC _).1)]
 rw[a1,a2,a3,zQ];have b1:R.kings=[]↔(R.asWritten.any λ(p:Nat×Nat)=>R.piece p.1 p.2== .king)=false:=(pS _ _).symm;have b3:R.seats=[]↔(R.asWritten.any λ(p:Nat×Nat)=>R.kind p.1 p.2== .seat)=false:=(pS _ _).symm;rw[b1,b3];have c1:d.passed=0↔¬R.passed=true:=by
  rw[G.pa];cases R.passed<;>decide
 have c2:d.seat=0↔R.seat=0:=by
  rw[G.se];omega
 generalize(R.asWritten.any λ(p:Nat×Nat)=>R.piece p.1 p.2== .king)=x1;generalize(R.asWritten.any λ(p:Nat×Nat)=>R.piece p.1 p.2== .hunter)=x2;generalize(R.asWritten.any λ(p:Nat×Nat)=>R.kind p.1 p.2== .seat)=x3;rw[show decide (d.passed=0)=decide (¬R.passed=true)from RR.mpr c1,show decide (d.seat=0)=decide (R.seat=0)from RR.mpr c2]
 by_cases s0:R.seat=0
 ·rw[PJ s0]
  cases x1<;>cases x2<;>cases x3<;>cases R.passed<;>simp[s0]
 ·rw[Qr s0]
  cases x1<;>cases x2<;>cases x3<;>cases R.passed<;>simp[s0]
def OI(m:Except (Nat×Nat) R0)(s:Except (Nat×Nat) PK):Prop:=match m,s with
 |.error e,.error e'=>e=e'
 |.ok r,.ok R=>c8 r R/\dL R R.begins r.start r.first
 |_,_=>False
theorem Gz(b:PX):OI (kS (bC b)) (Tafl.judge b):=by
 unfold kS Tafl.judge;have g:=CZ b;cases hd:iQ (bC b)with
 |error e=>
  rw[hd]at g;cases hg:Tafl.grammar b with
  |error e'=>
   rw[hg]at g;have g:e=e':=g;show(1,e)=(1,e');rw[g]
  |ok R=>rw[hg]at g;exact g.elim
 |ok d=>
  rw[hd]at g;cases hg:Tafl.grammar b with
  |error e'=>rw[hg]at g;exact g.elim
  |ok R=>
   rw[hg]at g;have G:Hf b d R:=g;have O:=BB hd;have D:=Fe hd;have eg:ye d.ground 0=(R.seats.drop 1).head?.map R.groundPlace:=by
    rw[G.ground];exact Ak (λ(p:Nat×Nat)=>R.kind p.1 p.2== .seat) _ _ (λp=>(rC _).1) R.asWritten 0 (by decide)
   have zs:d.ground.zip d.start=R.asWritten.map λ(p:Nat×Nat)=>((R.groundPlace p,h_ (R.kind p.1 p.2)),(R.startPlace p,eW (R.piece p.1 p.2))):=by
    rw[G.ground,G.start,Cn]
   have pwS:R.asWritten.Pairwise λ(p q:Nat×Nat)=>R.startPlace p<R.startPlace q:=by
    have:=D.s;rw[G.start,Ru]at this;exact this
   have pwG:R.asWritten.Pairwise λ(p q:Nat×Nat)=>R.groundPlace p<R.groundPlace q:=by
    have:=D.g;rw[G.ground,Ru]at this;exact this
   have gs:∀p∈R.asWritten,∀q∈R.asWritten,R.groundPlace p<=R.startPlace q:=λp hp q hq=>D.gs (R.groundPlace p,h_ (R.kind p.1 p.2)) (by rw[G.ground];exact P_.mpr ⟨p,hp,rfl⟩) (R.startPlace q,eW (R.piece q.1 q.2)) (by rw[G.start];exact P_.mpr ⟨q,hq,rfl⟩);have sg:∀q∈R.asWritten,R.startPlace q<=R.goalAt:=λq hq=>by
    rw[<-G.gp];exact D.sg (R.startPlace q,eW (R.piece q.1 q.2)) (by rw[G.start];exact P_.mpr ⟨q,hq,rfl⟩)
   have gg:∀q∈R.asWritten,R.groundPlace q<=R.goalAt:=λq hq=>by
    rw[<-G.gp];exact D.gg (R.groundPlace q,h_ (R.kind q.1 q.2)) (by rw[G.ground];exact P_.mpr ⟨q,hq,rfl⟩)
   have ge:R.goalAt<=b.length:=by rw[<-G.gp,<-G.en];exact D.ge
   have ks:=AX R.misplaced (λ(p:Nat×Nat)=>R.piece p.1 p.2== .king) R.groundPlace (λ(p:Nat×Nat)=>h_ (R.kind p.1 p.2)) R.startPlace (λ(p:Nat×Nat)=>eW (R.piece p.1 p.2)) (λp=>IC _ _) (λp=>(pF _).1) R.asWritten 0 (by decide) pwS;rw[<-zs]at ks;have ew:Tafl.wrongs b.length R=(R.seats.drop 1).map (λ(p:Nat×Nat)=>(2,R.groundPlace p))++(wS R.misplaced (λ(p:Nat×Nat)=>R.piece p.1 p.2== .king) R.startPlace R.asWritten 0++
     ((if(R.goal=1/\(R.cells.any λ(p:Nat×Nat)=>R.kind p.1 p.2== .exit)=false)\/(R.goal=0/\(R.kings.take 1).any R.onEdge=true)then[(5,R.goalAt)]else[])++
     (if R.kings=[]\/(R.cells.any λ(p:Nat×Nat)=>R.piece p.1 p.2== .hunter)=false\/(R.seats=[]/\¬(R.passed=true/\R.seat=0))then[(6,b.length)]else[]))):=by
    unfold Tafl.wrongs wS;rw[QH];rfl
   have tl:∀y∈((if(R.goal=1/\(R.cells.any λ(p:Nat×Nat)=>R.kind p.1 p.2== .exit)=false)\/(R.goal=0/\(R.kings.take 1).any R.onEdge=true)then[(5,R.goalAt)]else[])++
     (if R.kings=[]\/(R.cells.any λ(p:Nat×Nat)=>R.piece p.1 p.2== .hunter)=false\/(R.seats=[]/\¬(R.passed=true/\R.seat=0))then[(6,b.length)]else[]):List (Nat×Nat)),5<=y.1/\R.goalAt<=y.2:=λy hy=>by
    rcases Qc.mp hy with hy|hy
    ·split at hy
     ·rw[Qb]at hy
      subst hy;exact⟨PF _,PF _⟩
     ·cases hy
    ·split at hy
     ·rw[Qb]at hy
      subst hy;exact⟨by show 5<=6;decide,ge⟩
     ·cases hy
   dsimp only;rw[eg];cases hG:R.seats.drop 1 with
   |cons p l=>
    have pm:∀q∈p::l,q∈R.asWritten:=λq hq=>(Qz.mp (Sd (by rw[<-hG]at hq;exact hq))).1;have f:Tafl.firstOf (Tafl.wrongs b.length R)=some (2,R.groundPlace p):=by
     rw[ew,hG];refine first_is (QX _ PU) λy hy=>?_;rw[fb];dsimp only;rcases Qc.mp hy with hy|hy
     ·obtain⟨q,hq,rfl⟩:=P_.mp hy
      dsimp only;have pw2:(p::l).Pairwise λ(p q:Nat×Nat)=>R.groundPlace p<R.groundPlace q:=by
       rw[<-hG];exact(List.Pairwise.filter _ pwG).sublist (List.drop_sublist _ _)
      rcases Qh.mp hq with hq|hq
      ·subst hq
       omega
      ·have:=(List.pairwise_cons.mp pw2).1 q hq
       omega
     ·rcases Qc.mp hy with hy|hy
      ·obtain⟨q,hq,e,e2⟩:=Hq hy
       have:=gs p (pm p PU) q hq;omega
      ·have a1:=tl y hy
       have a2:=gg p (pm p PU);omega
    rw[f];rfl
   |nil=>
    rw[hG,List.map_nil,Q0]at ew;show OI (match vJ (d.ground.zip d.start) 0 with
     |some p=>.error p
     |none=>if mH d (dF d)=true then .error (5,d.gn)else if jF d=true then .error (6,d.jS)else .ok (dF d)) _
    cases hS:vJ (d.ground.zip d.start) 0 with
    |some x=>
     rw[hS]at ks;obtain⟨k1,k2⟩:=ks;have f:Tafl.firstOf (Tafl.wrongs b.length R)=some x:=by
      rw[ew];refine first_is (QX _ k1) λy hy=>?_;rcases Qc.mp hy with hy|hy
      ·exact k2 y hy
      ·obtain⟨q,hq,e,e2⟩:=Hq k1
       have a1:=tl y hy;have a2:=sg q hq;rw[fb];omega
     rw[f];rfl
    |none=>
     rw[hS]at ks;have ks:wS R.misplaced (λ(p:Nat×Nat)=>R.piece p.1 p.2== .king) R.startPlace R.asWritten 0=[]:=ks;rw[ks,Q0]at ew;have hk:R.kings.drop 1=[]:=by
      unfold wS at ks;exact List.map_eq_nil_iff.mp (List.append_eq_nil_iff.mp ks).2
     dsimp only;rw[ew]
     by_cases hw:mH d (dF d)=true
     ·rw[Pz hw,Pz ((xL G O hk).mp hw),G.gp]
      by_cases hm:R.kings=[]\/(R.cells.any λ(p:Nat×Nat)=>R.piece p.1 p.2== .hunter)=false\/(R.seats=[]/\¬(R.passed=true/\R.seat=0))
      ·rw[Pz hm]
       have f:Tafl.firstOf ([(5,R.goalAt)]++[(6,b.length)])=some (5,R.goalAt):=first_is PU λy hy=>by
        rw[fb];dsimp only;rcases Qh.mp hy with hy|hy
        ·subst hy
         omega
        ·have hy:y∈[((6:Nat),b.length)]:=hy
         rw[Qb]at hy;subst hy;dsimp only;omega
       rw[f];rfl
      ·rw[Py hm]
       rfl
     ·rw[Py hw,Py (λz=>hw ((xL G O hk).mpr z))]
      by_cases hm:jF d=true
      ·rw[Pz hm,Pz ((zw G).mp hm),G.en]
       rfl
      ·rw[Py hm,Py (λz=>hm ((zw G).mpr z))]
       exact⟨HG G O,xy G O (Cg hk)⟩
def SR(s:Option R0)(S:Option PK):Prop:=match s,S with
 |none,none=>True
 |some r,some R=>c8 r R/\dL R R.begins r.start r.first
 |_,_=>False
def x8(m:Except Rf (List Int)):List Int:=match m with
 |.ok l=>l
 |.error f=>numsOf f
theorem pos_eq{s:Option R0}{S:Option PK}(h:SR s S)(b:PX){f:R0×List Int×Int->Except Rf (List Int)}{g:PK->Qu->Tafl.Answer}(k:∀r R p ps t,c8 r R->dL R p ps t->x8 (f (r,ps,t))=(g R p).nums):x8 (mR (nR s (bC b)) f)=(TaflMoves.ofRules S λ(R:PK)=>TaflMoves.ofLine R b (g R)).2.nums:=by
 cases s with
 |none=>cases S with
  |none=>rfl
  |some R=>exact h.elim
 |some r=>cases S with
  |none=>exact h.elim
  |some R=>
   have Q:c8 r R:=h.1;have l:=FR Q b;unfold nR TaflMoves.ofRules TaflMoves.ofLine;dsimp only;cases hl:uH r (bC b)with
   |error e=>
    rw[hl]at l;cases hr:R.readLine b with
    |error q=>
     rw[hr]at l;obtain⟨l1,l2⟩:=l;obtain⟨q1,q2⟩:=q;show[-5,e.1,e.2]=[-5,((q1:Nat):Int),((q2:Nat):Int)];rw[l1,l2]
    |ok q=>rw[hr]at l;exact l.elim
   |ok e=>
    rw[hl]at l;cases hr:R.readLine b with
    |error q=>rw[hr]at l;exact l.elim
    |ok q=>
     rw[hr]at l;exact k r R q e.1 e.2 Q l
theorem HS{s:Option R0}{S:Option PK}(h:SR s S):x8 (xH s)=(TaflMoves.step S .begin_).2.nums:=by
 cases s with
 |none=>cases S with
  |none=>rfl
  |some R=>exact h.elim
 |some r=>cases S with
  |none=>exact h.elim
  |some R=>
   show 0::wc (codes (fL r r.start r.first))=0::((((R.line R.begins).length:Nat):Int)::bC (R.line R.begins)++[]);rw[EV h.1 h.2,QA];unfold wc
   congr 2
   unfold bC;rw[Px]
theorem DC(b:PX):(bC b).length=b.length:=Px _
theorem F0{s:Option R0}{S:Option PK}(h:SR s S)(b:PX):x8 (El s (bC b))=(TaflMoves.step S (.over b)).2.nums:=
 pos_eq h b (g:=λR p=>Tafl.says (R.over p:Nat)) λr R p ps t Q P=>by
  show[overOf r ps t]=[((R.over p:Nat):Int)];rw[tE Q P]
theorem CG{s:Option R0}{S:Option PK}(h:SR s S)(b:PX):x8 (Au s (bC b))=(TaflMoves.step S (.moves b)).2.nums:=
 pos_eq h b (g:=λR p=>Tafl.tells 0 [.rows ((R.moves p).map (TaflMoves.toldMove R p))]) λr R p ps t Q P=>by
  show 0::(((aQ r ps t).length:Nat):Int)::((aQ r ps t).flatMap λ(e:Nat×Nat)=>wc (rowOf r ps t e.1 e.2))=0::(((((((R.moves p).map (TaflMoves.toldMove R p)).length:Nat):Int))::(((R.moves p).map (TaflMoves.toldMove R p)).flatMap λ(q:List Nat)=>((q.length:Nat):Int)::Tafl.asInts q))++[]);rw[QA,Px,Rp,<-mY Q P];have key:∀e∈aQ r ps t,wc (rowOf r ps t e.1 e.2)=(((TaflMoves.toldMove R p e).length:Nat):Int)::Tafl.asInts (TaflMoves.toldMove R p e):=λe he=>by
   rw[Ia Q P (zI Q P (s:=e.1) (t:=e.2) he)];unfold wc
   congr 2
   unfold Tafl.asInts;rw[Px]
  rw[lC key]
theorem vO{r:R0}{R:PK}{p:Qu}{ps:List Int}{t:Int}(Q:c8 r R)(P:dL R p ps t)(i j:Nat):tX (r,ps,t) ((i:Nat):Int) ((j:Nat):Int)=true↔(R.moves p).contains (i,j)=true:=by
 rw[kN,RG,<-mY Q P]
theorem HV(l:List Nat):(iL l).length=l.length:=Px _
theorem E6(z:Int)(b:PX)(l:List Nat):(Tafl.tells z [.text b,.list l]).nums=z::(wc (bC b)++wc (iL l)):=by
 unfold wc;rw[DC,HV];show z::((((b.length:Nat):Int)::bC b)++((((l.length:Nat):Int)::iL l)++[]))=_;rw[QA]
theorem Fw(z:Int)(b:PX):(Tafl.tells z [.text b]).nums=z::wc (bC b):=by
 unfold wc;rw[DC];show z::((((b.length:Nat):Int)::bC b)++[])=_;rw[QA]
theorem FM{s:Option R0}{S:Option PK}(h:SR s S)(b:PX)(i j:Nat):x8 (Es s (bC b) i j)=(TaflMoves.step S (.make b i j)).2.nums:=
 pos_eq h b (g:=λR p=>if(R.moves p).contains (i,j)=true then Tafl.tells (R.over (R.comes p (i,j)):Nat) [.text (R.line (R.comes p (i,j))),.list (R.takes p (i,j))]else Tafl.says (-2)) λr R p ps t Q P=>by
  dsimp only;rcases Classical.em (tX (r,ps,t) ((i:Nat):Int) ((j:Nat):Int)=true)with hm|hm
  ·have M:=zI Q P ((kN (p:=(r,ps,t))).mp hm)
   rw[Pz hm,Pz ((vO Q P i j).mp hm),tE Q (kD Q P M),EV Q (kD Q P M),pU Q P M];rw[E6];rfl
  ·rw[Py hm,Py (λz=>hm ((vO Q P i j).mpr z))]
   rfl
theorem CT{s:Option R0}{S:Option PK}(h:SR s S)(b:PX)(i j:Nat):x8 (yn s (bC b) i j)=(TaflMoves.step S (.write b i j)).2.nums:=
 pos_eq h b (g:=λR p=>if(R.moves p).contains (i,j)=true then Tafl.tells 0 [.text (R.moveLine p (i,j))]else Tafl.says (-2)) λr R p ps t Q P=>by
  dsimp only;rcases Classical.em (tX (r,ps,t) ((i:Nat):Int) ((j:Nat):Int)=true)with hm|hm
  ·have M:=zI Q P ((kN (p:=(r,ps,t))).mp hm)
   rw[Pz hm,Pz ((vO Q P i j).mp hm),J5 Q P M];rw[Fw];rfl
  ·rw[Py hm,Py (λz=>hm ((vO Q P i j).mpr z))]
   rfl
theorem E4{s:Option R0}{S:Option PK}(h:SR s S)(b u:PX):x8 (DK s (bC b) (bC u))=(TaflMoves.step S (.read b u)).2.nums:=
 pos_eq h b (g:=λR p=>match R.readMove p u with
  |.ok m=>Tafl.tells 0 [.list (TaflMoves.toldMove R p m)]
  |.error k=>Tafl.tells (-4) [.num k]) λr R p ps t Q P=>by
  dsimp only;rw[<-IP Q P u];cases hf:(aQ r ps t).find? λ(e:Nat×Nat)=>eZ r ps t e==bC u with
  |none=>rfl
  |some e=>
   have M:=zI Q P (s:=e.1) (t:=e.2) (RM hf);show 0::wc (rowOf r ps t e.1 e.2)=0::((((((TaflMoves.toldMove R p e).length:Nat)):Int)::Tafl.asInts (TaflMoves.toldMove R p e))++[]);rw[Ia Q P M,QA];unfold wc
   congr 2
   unfold Tafl.asInts;rw[Px]
theorem FF{s:Option R0}{S:Option PK}(h:SR s S)(b:PX)(n most:Nat):x8 (DS s (bC b) n most)=(TaflMoves.step S (.deep b n most)).2.nums:=
 pos_eq h b (g:=λR p=>if n=0\/TaflMoves.DEEP<n\/most=0\/TaflMoves.MOST<most then Tafl.says (-1)else match TaflMoves.counts R n most [p]with
  |some l=>Tafl.tells 0 [.list l]
  |none=>Tafl.says (-9)) λr R p ps t Q P=>by
  dsimp only
  by_cases hb:(1<=n/\n<=6)/\1<=most/\most<=2000
  ·rw[Pz hb,Py (show¬(n=0\/TaflMoves.DEEP<n\/most=0\/TaflMoves.MOST<most) by unfold TaflMoves.DEEP TaflMoves.MOST;omega)]
   obtain⟨c1,c2⟩:=count_eq Q P (n:=n) (most:=most) hb.1.1;cases hc:TaflMoves.counts R n most [p]with
   |none=>
    have:=c2 hc;rw[Py (by omega)];rfl
   |some l=>
    obtain⟨e1,e2⟩:=c1 l hc;rw[Pz e2,e1];show 0::wc (iL l)=0::((((l.length:Nat):Int)::iL l)++[]);unfold wc;rw[QA,HV]
  ·rw[Py hb,Pz (show n=0\/TaflMoves.DEEP<n\/most=0\/TaflMoves.MOST<most by unfold TaflMoves.DEEP TaflMoves.MOST;omega)]
   rfl
theorem mn{t:List Int}(h:(t.all λ(z:Int)=>decide (0<=z)&&decide (z<=255))=true):∃b,Tafl.text? t=some b/\bC b=t:=by
 refine⟨t.map λ(n:Int)=>UInt8.ofNat n.toNat,?_,?_⟩
 ·unfold Tafl.text? NeutralIO.bytes
  rw[Pz h]
 ·unfold bC
  rw[QJ];rw[Rg]at h;have key:∀z∈t,(((UInt8.ofNat z.toNat).toNat:Nat):Int)=z:=λz hz=>by
   have:=h z hz;rw[P4,PV,PV]at this;rw[UInt8.toNat_ofNat'];omega
  clear h
  induction t with
  |nil=>rfl
  |cons z t ih=>
   rw[QD,ih λy hy=>key y (PY _ hy)]
   congr 1
   exact key z PU
theorem t7{z:Int}(h:decide (0<=z)=true):Tafl.nat? z=some z.toNat:=Pz (PR h)
theorem Jl{s:Option R0}{kd:Nat}{xs:List Int}{ts:List (List Int)}{m:Except Rf (List Int)}(h:sf s kd xs ts=mR m λl=>.ok (s,l)):doneA s kd xs ts=(s,x8 m):=by
 unfold doneA;rw[h];cases m<;>rfl
theorem DP{S:Option PK}{c:TaflMovesNeutral.Call}{x:TaflMoves.Call}(h:TaflMovesNeutral.callOf c=some x):TaflMovesNeutral.step S c=((TaflMoves.step S x).1,(TaflMoves.step S x).2.nums):=by
 unfold TaflMovesNeutral.step;rw[h]
def OH(p:Option R0×List Int)(q:Option PK×List Int):Prop:=SR p.1 q.1/\p.2=q.2
theorem rL{s:Option R0}{S:Option PK}{kd:Nat}{xs:List Int}{ts:List (List Int)}{m:Except Rf (List Int)}{c:TaflMovesNeutral.Call}{x:TaflMoves.Call}(h:SR s S)(h1:sf s kd xs ts=mR m λl=>.ok (s,l))(h2:TaflMovesNeutral.callOf c=some x)(h3:(TaflMoves.step S x).1=S)(h4:x8 m=(TaflMoves.step S x).2.nums):OH (doneA s kd xs ts) (TaflMovesNeutral.step S c):=by
 rw[Jl h1,DP h2];refine⟨?_,h4⟩;show SR s (TaflMoves.step S x).1;rw[h3];exact h
theorem Jq{s:Option R0}{S:Option PK}(h:SR s S){kd:Nat}{xs:List Int}{ts:List (List Int)}(kl:kd<8)(xl:NW.getD kd 0=xs.length)(tl:TW.getD kd 0=ts.length)(ha:TaflMovesNeutral.asked1 ((((kd:Nat):Int)::xs)::ts)=true):OH (doneA s kd xs ts) (TaflMovesNeutral.step S ((((kd:Nat):Int)::xs)::ts)):=by
 match kd,kl with
 |0,_=>
  have:xs=[]:=QP.mp xl.symm;subst this;obtain⟨t,rfl⟩:=jm tl;obtain⟨b,e1,e2⟩:=mn ha;subst e2;have hc:TaflMovesNeutral.callOf [[((0:Nat):Int)],bC b]=some (.rules b):=by
   show(Tafl.text? (bC b)).map TaflMoves.Call.rules=_;rw[e1];rfl
  rw[DP hc];have j:=Gz b;have ed:doneA s 0 [] [bC b]=match(match kS (bC b)with
   |.ok r=>Except.ok (some r,[(0:Int)])
   |.error p=>Except.error (Rf.rules p.1 p.2))with
   |.ok p=>p
   |.error f=>(s,numsOf f):=rfl
  have es:TaflMoves.step S (.rules b)=match Tafl.judge b with
   |.error (k,p)=>(S,Tafl.fault (-6) k p)
   |.ok r=>(some r,Tafl.says 0):=rfl
  rw[ed,es];cases hr:kS (bC b)with
  |error p=>
   rw[hr]at j;cases hj:Tafl.judge b with
   |error q=>
    rw[hj]at j;have j:p=q:=j;subst j;exact⟨h,rfl⟩
   |ok R=>rw[hj]at j;exact j.elim
  |ok r=>
   rw[hr]at j;cases hj:Tafl.judge b with
   |error q=>rw[hj]at j;exact j.elim
   |ok R=>
    rw[hj]at j;exact⟨j,rfl⟩
 |1,_=>
  have:xs=[]:=QP.mp xl.symm;subst this;have:ts=[]:=QP.mp tl.symm;subst this;exact rL h (m:=xH s) rfl (x:= .begin_) rfl rfl (HS h)
 |2,_=>
  have:xs=[]:=QP.mp xl.symm;subst this;obtain⟨t,rfl⟩:=jm tl;obtain⟨b,e1,e2⟩:=mn ha;subst e2;exact rL h (m:=El s (bC b)) rfl (x:= .over b) (by
   show(Tafl.text? (bC b)).map TaflMoves.Call.over=_;rw[e1];rfl) rfl (F0 h b)
 |3,_=>
  have:xs=[]:=QP.mp xl.symm;subst this;obtain⟨t,rfl⟩:=jm tl;obtain⟨b,e1,e2⟩:=mn ha;subst e2;exact rL h (m:=Au s (bC b)) rfl (x:= .moves b) (by
   show(Tafl.text? (bC b)).map TaflMoves.Call.moves=_;rw[e1];rfl) rfl (CG h b)
 |4,_=>
  obtain⟨t,rfl⟩:=jm tl
  match xs,xl with
  |[x,y],_=>
   have ha:(decide (0<=x)&&(decide (0<=y)&&t.all (λ(z:Int)=>decide (0<=z)&&decide (z<=255))))=true:=ha;rw[P4,P4]at ha;obtain⟨h1,h2,h3⟩:=ha;obtain⟨b,e1,e2⟩:=mn h3;subst e2;exact rL h (m:=Es s (bC b) x.toNat y.toNat) rfl (x:= .make b x.toNat y.toNat) (by
    show(do return TaflMoves.Call.make (<-Tafl.text? (bC b)) (<-Tafl.nat? x) (<-Tafl.nat? y))=_;rw[e1,t7 h1,t7 h2];rfl) rfl (FM h b x.toNat y.toNat)
 |5,_=>
  obtain⟨t,rfl⟩:=jm tl
  match xs,xl with
  |[x,y],_=>
   have ha:(decide (0<=x)&&(decide (0<=y)&&t.all (λ(z:Int)=>decide (0<=z)&&decide (z<=255))))=true:=ha;rw[P4,P4]at ha;obtain⟨h1,h2,h3⟩:=ha;obtain⟨b,e1,e2⟩:=mn h3;subst e2;exact rL h (m:=yn s (bC b) x.toNat y.toNat) rfl (x:= .write b x.toNat y.toNat) (by
    show(do return TaflMoves.Call.write (<-Tafl.text? (bC b)) (<-Tafl.nat? x) (<-Tafl.nat? y))=_;rw[e1,t7 h1,t7 h2];rfl) rfl (CT h b x.toNat y.toNat)
 |6,_=>
  have:xs=[]:=QP.mp xl.symm;subst this;obtain⟨t,u,rfl⟩:=Kq tl;have ha:(t.all (λ(z:Int)=>decide (0<=z)&&decide (z<=255))&&u.all (λ(z:Int)=>decide (0<=z)&&decide (z<=255)))=true:=ha;rw[P4]at ha;obtain⟨b,e1,e2⟩:=mn ha.1;obtain⟨c,e3,e4⟩:=mn ha.2;subst e2;subst e4;exact rL h (m:=DK s (bC b) (bC c)) rfl (x:= .read b c) (by
   show(do return TaflMoves.Call.read (<-Tafl.text? (bC b)) (<-Tafl.text? (bC c)))=_;rw[e1,e3];rfl) rfl (E4 h b c)
 |7,_=>
  obtain⟨t,rfl⟩:=jm tl
  match xs,xl with
  |[x,y],_=>
   have ha:(decide (0<=x)&&(decide (0<=y)&&t.all (λ(z:Int)=>decide (0<=z)&&decide (z<=255))))=true:=ha;rw[P4,P4]at ha;obtain⟨h1,h2,h3⟩:=ha;obtain⟨b,e1,e2⟩:=mn h3;subst e2;exact rL h (m:=DS s (bC b) x.toNat y.toNat) rfl (x:= .deep b x.toNat y.toNat) (by
    show(do return TaflMoves.Call.deep (<-Tafl.text? (bC b)) (<-Tafl.nat? x) (<-Tafl.nat? y))=_;rw[e1,t7 h1,t7 h2];rfl) rfl (FF h b x.toNat y.toNat)
theorem drop_cons{ns r:List Int}{m:Nat}{z:Int}(h:ns.drop m=z::r):ns[m]? =some z/\r=ns.drop (m+1)/\m<ns.length:=by
 have hl:m<ns.length:=by
  by_cases e:m<ns.length
  ·exact e
  ·rw[List.drop_eq_nil_of_le (by omega)]at h
   cases h
 rw[QY hl]at h;injection h with h1 h2;exact⟨by rw[PD hl,h1],h2.symm,hl⟩
theorem Ep{ns:List Int}:∀(k m:Nat)(xs:List (List Int))(t:List Int),PyFlat.rows k (ns.drop m)=some (xs,t)->xs.length=k/\∃n',t=ns.drop n'/\Be ns m xs n'
 |0,m,xs,t,h=>by
  cases h;exact⟨rfl,m,rfl,rfl⟩
 |k+1,m,xs,t,h=>by
  unfold PyFlat.rows at h;cases hr:PyFlat.row (ns.drop m)with
  |none=>rw[hr]at h;cases h
  |some q=>
   obtain⟨x,s⟩:=q;rw[hr]at h;replace h:(match PyFlat.rows k s with|none=>none|some (xs,t)=>some (x::xs,t))=some (xs,t):=h;cases hd:ns.drop m with
   |nil=>rw[hd]at hr;cases hr
   |cons z r=>
    rw[hd]at hr;obtain⟨h1,h2,h3⟩:=drop_cons hd;replace hr:(if 0<=z/\z.toNat<=r.length then some (r.take z.toNat,r.drop z.toNat)else none)=some (x,s):=hr
    by_cases hz:0<=z/\z.toNat<=r.length
    ·rw[Pz hz]at hr
     injection hr with hr;injection hr with hx hs;subst hx;subst hs;subst h2;rw[List.drop_drop]at h;have len:((ns.drop (m+1)).take z.toNat).length=z.toNat:=by
      rw[Qt];omega
     have rl:(ns.drop (m+1)).length=ns.length-(m+1):=Rw;cases hrs:PyFlat.rows k (ns.drop (m+1+z.toNat))with
     |none=>rw[hrs]at h;cases h
     |some q=>
      obtain⟨ys,u⟩:=q;rw[hrs]at h;injection h with h;injection h with e1 e2;subst e1;subst e2;obtain⟨l1,n',l2,l3⟩:=Ep k (m+1+z.toNat) ys u hrs;refine⟨by rw[Qj,l1],n',l2,?_,?_,?_,?_⟩
      ·rw[len,h1]
       congr 1
       omega
      ·rw[len]
      ·rw[len]
       omega
      ·rw[len]
       exact l3
    ·rw[Py hz]at hr
     cases hr
theorem G_{p:Int}{n k:Nat}(h:PyWqacda.shape p=some (n,k)):∃kd:Nat,kd<8/\p=((kd:Nat):Int)/\NW.getD kd 0=n/\TW.getD kd 0=k:=by
 unfold PyWqacda.shape at h
 by_cases h0:p=0
 ·rw[Pz h0]at h;cases h;exact⟨0,by decide,h0,rfl,rfl⟩
 rw[Py h0]at h
 by_cases h1:p=1
 ·rw[Pz h1]at h;cases h;exact⟨1,by decide,h1,rfl,rfl⟩
 rw[Py h1]at h
 by_cases h2:p=2
 ·rw[Pz h2]at h;cases h;exact⟨2,by decide,h2,rfl,rfl⟩
 rw[Py h2]at h
 by_cases h3:p=3
 ·rw[Pz h3]at h;cases h;exact⟨3,by decide,h3,rfl,rfl⟩
 rw[Py h3]at h
 by_cases h4:p=4
 ·rw[Pz h4]at h;cases h;exact⟨4,by decide,h4,rfl,rfl⟩
 rw[Py h4]at h
 by_cases h5:p=5
 ·rw[Pz h5]at h;cases h;exact⟨5,by decide,h5,rfl,rfl⟩
 rw[Py h5]at h
 by_cases h6:p=6
 ·rw[Pz h6]at h;cases h;exact⟨6,by decide,h6,rfl,rfl⟩
 rw[Py h6]at h
 by_cases h7:p=7
 ·rw[Pz h7]at h;cases h;exact⟨7,by decide,h7,rfl,rfl⟩
 rw[Py h7]at h;cases h
def Na(c:Cl):List (List Int):=(((c.1:Nat):Int)::c.2.1)::c.2.2
theorem IH{ns:List Int}{m:Nat}{c:List (List Int)}{t:List Int}(h:PyFlat.call PyWqacda.shape (ns.drop m)=some (c,t)):∃(q:Cl)(n':Nat),c=Na q/\t=ns.drop n'/\KA ns m q.1 q.2.1 q.2.2 n':=by
 cases hd:ns.drop m with
 |nil=>rw[hd]at h;cases h
 |cons p r=>
  rw[hd]at h;obtain⟨h1,h2,h3⟩:=drop_cons hd;unfold PyFlat.call at h;dsimp only at h;cases hs:PyWqacda.shape p with
  |none=>rw[hs]at h;cases h
  |some q=>
   obtain⟨n,k⟩:=q;rw[hs]at h;obtain⟨kd,k1,k2,k3,k4⟩:=G_ hs;dsimp only at h
   by_cases hn:r.length<n
   ·rw[Pz hn]at h;cases h
   ·rw[Py hn,h2,List.drop_drop]at h
    have rl:r.length=ns.length-(m+1):=by rw[h2];exact Rw
    cases hr:PyFlat.rows k (ns.drop (m+1+n))with
    |none=>rw[hr]at h;cases h
    |some q=>
     obtain⟨ys,u⟩:=q;rw[hr]at h;injection h with h;injection h with e1 e2;subst e2;obtain⟨l1,n',l2,l3⟩:=Ep k (m+1+n) ys u hr;have len:((ns.drop (m+1)).take n).length=n:=by
      rw[Qt,<-h2];omega
     refine⟨(kd,(ns.drop (m+1)).take n,ys),n',?_,l2,?_⟩
     ·rw[<-e1,k2]
      rfl
     ·exact⟨by rw[h1,k2],k1,by rw[k3];exact len.symm,by show _=_;rw[len],by show m+1+((ns.drop (m+1)).take n).length<=_;rw[len];omega,by rw[k4];exact l1.symm,by show Be ns (m+1+((ns.drop (m+1)).take n).length) _ _;rw[len];exact l3⟩
theorem Hn{q:Cl}(kl:q.1<8)(xl:NW.getD q.1 0=q.2.1.length)(tl:TW.getD q.1 0=q.2.2.length)(ha:TaflMovesNeutral.asked1 (Na q)=true):∀v∈q.2.1,0<=v:=by
 obtain⟨kd,xs,ts⟩:=q;dsimp only at kl xl tl ⊢;have two:∀(k:Int)(x y:Int)(t:List Int),(TaflMovesNeutral.asked1 [[k,x,y],t]=(decide (0<=x)&&(decide (0<=y)&&t.all (λ(z:Int)=>decide (0<=z)&&decide (z<=255)))))->TaflMovesNeutral.asked1 [[k,x,y],t]=true->∀v∈[x,y],0<=v:=λk x y t e h v hv=>by
  rw[e,P4,P4]at h;have h1:=PR h.1;have h2:=PR h.2.1;rcases Qh.mp hv with rfl|hv
  ·exact h1
  ·rw[Qb]at hv
   subst hv;exact h2
 match kd,kl with
 |0,_|1,_|2,_|3,_|6,_=>
  have:xs=[]:=QP.mp xl.symm;subst this;exactλv hv=>by cases hv
 |4,_|5,_|7,_=>
  obtain⟨t,rfl⟩:=jm tl
  match xs,xl with
  |[x,y],_=>exact two _ x y t rfl ha
theorem GW{ns:List Int}:∀(f m:Nat)(cs:List (List (List Int))),PyFlat.calls PyWqacda.shape f (ns.drop m)=some cs->cs.all TaflMovesNeutral.asked1=true->∃l:List Cl,l.length=cs.length/\Ng ns m l/\∀s S,SR s S->wM s l=PyFlat.told (PyFlat.played TaflMovesNeutral.step S cs):=by
 intro f
 induction f with
 |zero=>
  intro m cs h ha;cases hd:ns.drop m with
  |nil=>
   rw[hd]at h;cases h;exact⟨[],rfl,Sf.mp hd,λs S _=>rfl⟩
  |cons p r=>rw[hd]at h;cases h
 |succ f ih=>
  intro m cs h ha;cases hd:ns.drop m with
  |nil=>
   rw[hd]at h;cases h;exact⟨[],rfl,Sf.mp hd,λs S _=>rfl⟩
  |cons p r=>
   rw[hd]at h;replace h:(match PyFlat.call PyWqacda.shape (p::r)with
    |none=>none
    |some (c,t)=>match PyFlat.calls PyWqacda.shape f t with
     |none=>none
     |some cs=>some (c::cs))=some cs:=h
   rw[<-hd]at h;cases hc:PyFlat.call PyWqacda.shape (ns.drop m)with
   |none=>rw[hc]at h;cases h
   |some q=>
    obtain⟨c,t⟩:=q;rw[hc]at h;obtain⟨q,n',rfl,rfl,Pq⟩:=IH hc;dsimp only at h;cases hcs:PyFlat.calls PyWqacda.shape f (ns.drop n')with
    |none=>rw[hcs]at h;cases h
    |some ds=>
     rw[hcs]at h;injection h with h;subst h;rw[List.all_cons,P4]at ha;obtain⟨l,l1,l2,l3⟩:=ih n' ds hcs ha.2;refine⟨q::l,by rw[Qj,Qj,l1],⟨n',Pq,Hn Pq.kl Pq.xl Pq.tl ha.1,l2⟩,λs S h=>?_⟩;obtain⟨d1,d2⟩:=Jq h Pq.kl Pq.xl Pq.tl ha.1;show wc (doneA s q.1 q.2.1 q.2.2).2++wM (doneA s q.1 q.2.1 q.2.2).1 l=((((TaflMovesNeutral.step S (Na q)).2.length:Nat):Int)::(TaflMovesNeutral.step S (Na q)).2)++PyFlat.told (PyFlat.played TaflMovesNeutral.step (TaflMovesNeutral.step S (Na q)).1 ds);rw[l3 _ _ d1,d2];rfl
theorem GJ(c:List (List Int)):PyWqacda.whole c=c:=by
 rcases c with _|⟨u,l⟩<;>try rfl
 rcases u with _|⟨i,u⟩<;>try rfl
 rcases i with n|n<;>try rfl
 rcases n with _|_|_|_|_|_|_|_|n<;>try rfl
 all_goals rcases u with _|⟨x,u⟩<;>try rfl
 all_goals rcases l with _|⟨b,l⟩<;>try rfl
 all_goals try(rcases u with _|⟨y,u⟩<;>try rfl)
 all_goals try(rcases u with _|⟨z,u⟩<;>try rfl)
 all_goals rcases l with _|⟨d,l⟩<;>try rfl
 all_goals rcases l with _|⟨e,l⟩<;>rfl
theorem CU{ns:List Int}(h:PyWqacda.answers_asked ns=true):∃l:List Cl,Ng ns 0 l/\l.length<=300/\wM none l=PyWqacda.answers ns:=by
 unfold PyWqacda.answers_asked at h;unfold PyWqacda.answers;cases hc:PyWqacda.calls ns with
 |none=>rw[hc]at h;cases h
 |some cs=>
  rw[hc]at h;dsimp only at h ⊢;rw[P4]at h;obtain⟨h1,h2⟩:=h;unfold PyWqacda.calls at hc;cases hp:PyFlat.calls PyWqacda.shape ns.length ns with
  |none=>rw[hp]at hc;cases hc
  |some ds=>
   rw[hp]at hc;injection hc with hc;have e:ds.map PyWqacda.whole=ds:=by
    conv=>rhs;rw[<-List.map_id ds]
    exact Rn λc _=>GJ c
   rw[e]at hc;subst hc;unfold TaflMovesNeutral.asked at h2;rw[P4]at h2;obtain⟨l,l1,l2,l3⟩:=GW (ns:=ns) ns.length 0 ds (by rw[List.drop_zero];exact hp) h2.2;refine⟨l,l2,?_,l3 none none trivial⟩;rw[l1];exact PR h1
theorem FG{K:PB}{mg:Str->Option Value}{a:Ad}(T:Tx K mg a):∀(s:Shared)(us:List Value),us.length=(["calls"]:List Str).length->BindsTo s a.qw ⟨us,[]⟩ ((["calls"]:List Str).zip us):=by
 obtain⟨oc,od,kV,doc,pm,an,cdv,ct,osl,e,_,_⟩:=T.kH.F.ex;rw[e];intro s us hu;exact Kr us hu λ_=>.of_eq rfl
theorem Lx{P:Qw}{w:World}{K:PB}{mg:Str->Option Value}{a:Ad}{fa:Addr}(T:Tx K mg a)(Y:Ox K a)(hmg:mg "answers"=some (.ref fa)):
  ∃fd:PP,(∀(s:Shared)(us:List Value),us.length=(["calls"]:List Str).length->BindsTo s fd ⟨us,[]⟩ ((["calls"]:List Str).zip us))/\∀base:Heap,K.In base->base.Ns mainGlobals mg->a4 P w K mg base (cW P w) 13 fa fd ["calls"] (B0 K):=by
 have e:=hmg.symm.trans T.kH.m;cases e;exact⟨a.qw,FG T,λbase _ _=>Du T Y⟩
theorem Ky{K:PB}{H:Hp}{xs:List V}{ns:List Int}(ha:PyWqacda.answers_asked ns=true)(hx:m_ K H xs [.list (ns.map PySem.W.WData.int)]):B0 K xs H (λv H'=>Dw K H' v (.list ((PyWqacda.answers ns).map PySem.W.WData.int))) λ_ _ _=>False:=by
 cases hx with
 |cons h1 h2=>
  cases h2;cases h1 with
  |lst hs hd=>
   have e:=Ev ns _ hd;subst e;obtain⟨l,l1,l2,l3⟩:=CU ha;refine⟨_,ns,l,rfl,hs,l1,l2,λH' q _ hq=>?_⟩;rw[l3]at hq;exact .lst (a0.of hq) (DM _)
theorem LI{P:Qw}{w:World}{H:Hp}{s:Shared}{e:Value}{s':Shared}:cW P w [] H s (λ_ _ _=>False) e s'->False:=λ⟨_,_,_,_,_,_,_,_,_,_,_,_,_,h⟩=>h
theorem Gb{r:PySem.W.OpenSpec}{k:Nat}{q:Qw}{loose:List Str}{XP:(Str->Option Value)->Heap->Prop}{YP:World->Heap->Prop}{d:PySem.DefRec}{K:Params->PB}{CX:World->Ey}{ps:List Str}{sp:PB->Sp}
  (hwell:r.wellSaid=true)(hdf:d.params.defaults=[])(hlen:r.args.length=ps.length)(hr:fZ k callerA)
  (hY:∀(w:World)(h:Heap),YP w h->(K w.params).In h)
  (F:∀(w:World)(mg:Str->Option Value)(fa:Addr)(h:Heap),YP w h->(K w.params).In h->h.Ns mainGlobals mg->mg d.name=some (.ref fa)->
   ∃fd:PP,(∀(s:Shared)(us:List Value),us.length=ps.length->BindsTo s fd ⟨us,[]⟩ (ps.zip us))/\
    ∀base:Heap,(K w.params).In base->base.Ns mainGlobals mg->a4 r.prog w (K w.params) mg base (CX w) k fa fd ps (sp (K w.params)))
  (hsp:∀(K:PB)(H:Hp)(xs:List V)(a:PySem.W.Codec.denoteAll r.args),Bf H->PySem.W.Codec.withinAll r.args a=true->PySem.W.Codec.app r.args r.asked a=true->m_ K H xs (PySem.W.Codec.encAll r.args a)->
   sp K xs H (λv H'=>Dw K H' v (r.ret.enc (PySem.W.Codec.app r.args r.f a))) λ_ _ _=>False)
  (hCX:∀(w:World)(H:Hp)(s:Shared)(e:Value)(s':Shared),CX w [] H s (λ_ _ _=>False) e s'->False):
  PySem.W.WalkOS q loose XP YP r d [] (λf vs=>PySem.call f vs):=
 E5 (K:=K) (CX:=CX) (sp:=λw=>sp (K w.params)) hwell hdf hlen hr hY F (λw H xs a h1 h2 h3 h4=>hsp (K w.params) H xs a h1 h2 h3 h4) hCX
section
variable{K:PB}{mg:Str->Option Value}{h:Heap}{st:Stmt}{x m qual:Str}{C N f:Addr}{ps:List Str}{oc kV doc pm cdv ct:Value}{od an:Option Addr}{osl:Array (Option Value)}{q:Str}{bs:List Value}{sn:List Str}{sub:List Value}{ab:Bool}{col:Option Bool}{dd:Option Addr}{k0 k1 k2 k3 k5:Option Value}
theorem Gi(l:K.lookup f=some ⟨oc,od,.func (PySem.W.fnOf m qual (gH st) (dE st) (aj st) .none kV doc pm an cdv ct),osl⟩)(c:PySem.W.codeIn K cdv qual=true)(k:PySem.W.keepIn K (.ref f)=true)(hb:∀(kV doc pm:Value)(an:Option Addr)(cdv ct:Value)(us:List Value),us.length=ps.length->bindArgs (PySem.W.fnOf m qual (gH st) (dE st) (aj st) .none kV doc pm an cdv ct) ⟨us,[]⟩=pure (ps.zip us):=by intro _ _ _ _ _ _ us hl;first|exact Kh.Kr us hl λ_=>rfl|exact Kh.ln2 us hl λ_ _=>rfl|exact Kh.Oq us hl λ_ _ _=>rfl|exact Kh.N7 us hl λ_ _ _ _=>rfl|exact Kh.NT us hl λ_ _ _ _ _=>rfl|exact Kh.NF us hl λ_ _ _ _ _ _=>rfl):Fi K m qual st f (PySem.W.fnOf m qual (gH st) (dE st) (aj st) .none kV doc pm an cdv ct) ps:=
 have F:=Ku (st:=st) l c k
 ⟨F,F.binds hb⟩
theorem Mj(X:K.In h)(G:h.Ns mainGlobals mg)(ha:PySem.W.nsIn K mainGlobals x=some (some (.ref f)))
  (l:K.lookup f=some ⟨oc,od,.func (PySem.W.fnOf qual qual (gH st) (dE st) (aj st) .none kV doc pm an cdv ct),osl⟩)(c:PySem.W.codeIn K cdv qual=true)(k:PySem.W.keepIn K (.ref f)=true)(hb:∀(kV doc pm:Value)(an:Option Addr)(cdv ct:Value)(us:List Value),us.length=ps.length->bindArgs (PySem.W.fnOf qual qual (gH st) (dE st) (aj st) .none kV doc pm an cdv ct) ⟨us,[]⟩=pure (ps.zip us):=by intro _ _ _ _ _ _ us hl;first|exact Kh.Kr us hl λ_=>rfl|exact Kh.ln2 us hl λ_ _=>rfl|exact Kh.Oq us hl λ_ _ _=>rfl|exact Kh.N7 us hl λ_ _ _ _=>rfl|exact Kh.NT us hl λ_ _ _ _ _=>rfl|exact Kh.NF us hl λ_ _ _ _ _ _=>rfl):Fn K mg x qual st f (PySem.W.fnOf qual qual (gH st) (dE st) (aj st) .none kV doc pm an cdv ct) ps:=
 have F:=Gi l c k hb
 ⟨PySem.W.mg_of X G ha,F.F,F.b⟩
theorem M4(ha:PySem.W.findIn K (.ref C) m=some (some (.ref f)))(i:PySem.W.isFn K (.ref f)=true)
  (l:K.lookup f=some ⟨oc,od,.func (PySem.W.fnOf m qual (gH st) (dE st) (aj st) .none kV doc pm an cdv ct),osl⟩)(c:PySem.W.codeIn K cdv qual=true)(k:PySem.W.keepIn K (.ref f)=true)(hb:∀(kV doc pm:Value)(an:Option Addr)(cdv ct:Value)(us:List Value),us.length=ps.length->bindArgs (PySem.W.fnOf m qual (gH st) (dE st) (aj st) .none kV doc pm an cdv ct) ⟨us,[]⟩=pure (ps.zip us):=by intro _ _ _ _ _ _ us hl;first|exact Kh.Kr us hl λ_=>rfl|exact Kh.ln2 us hl λ_ _=>rfl|exact Kh.Oq us hl λ_ _ _=>rfl|exact Kh.N7 us hl λ_ _ _ _=>rfl|exact Kh.NT us hl λ_ _ _ _ _=>rfl|exact Kh.NF us hl λ_ _ _ _ _ _=>rfl):Mt K C m qual st f (PySem.W.fnOf m qual (gH st) (dE st) (aj st) .none kV doc pm an cdv ct) ps:=
 have F:=Gi l c k hb
 ⟨⟨ha,i,k⟩,F.F,F.b⟩
theorem LY(X:K.In h)(G:h.Ns mainGlobals mg)(ha:PySem.W.nsIn K mainGlobals x=some (some (.ref C)))(pg:PySem.W.plainGet K C Str.empty=true)(hd:PySem.W.hasDictIn K C=true)(po:PySem.W.plainOver K C=true)
  (sa:PySem.W.findIn K (.ref C) "__setattr__"=some (some (.builtin "object.__setattr__"))):Kl K mg x C:=⟨⟨pg,hd,po,sa⟩,PySem.W.mg_of X G ha⟩
theorem MK(e:PySem.W.findIn K (.ref C) x=some none):aP K C x:=e
theorem DO{b:Addr}{its:List Value}{vs:List V}{n:Nat}(l:K.lookup b=some {cls:= .type "tuple",data:= .seq its.toArray n})(r:Vals vs its)(hz:vs.length<=100)(H:Hp):iP K H b vs:=by
 refine .inr ⟨_,its.toArray,n,l,rfl,rfl,?_,r⟩;rw[Qn,<-r.length,PL];omega
theorem Mb{b:Addr}{its:Array Value}{n:Nat}(l:K.lookup b=some {cls:= .type "tuple",data:= .seq its n}):∃o,K.lookup b=some o/\o.cls=Value.type "tuple"/\o.dict=none:=⟨_,l,rfl,rfl⟩
theorem iA{i:Int}{t:Tok}:RelV (.int i) (.int i t):=⟨_,rfl⟩
theorem DU{i:Str}{t:Tok}:RelV (.str i) (.str i t):=⟨_,rfl⟩
theorem Me(l:K.lookup C=some (excClassObj x q C N bs Iy true sn sub ab col dd k0 k1 k2 k3 k5 "ValueError.__new__")):Hh K C x:=⟨_,_,l,rfl,rfl⟩
theorem Je(c:nB K C)(t:PySem.W.typeIn K (.ref C)=some (.type "type")):GQ K C:=⟨λD d=>by
 have z:PySem.W.subIn K (.ref C) (.type "BaseException")=some true:=c.exc;unfold PySem.W.exmOne;rw[z,Pz (by decide)];show(if((PySem.W.clsIn K C).isSome&&PySem.W.typeIn K (.ref C)==some (.type "type"))=true then PySem.W.subIn K (.ref D) (.ref C)else none)=_;obtain⟨cd,h1,_,_⟩:=c.mro;rw[h1,t];simp only[Option.isSome_some,beq_self_eq_true,Bool.and_self,if_true];refine d.has ?_
 by_cases hD:D=C
 ·rw[PJ hD,hD]
  simp
 ·rw[Qr hD]
  simp[PZ hD]⟩
theorem L6{x nm q:Str}{C N:Addr}{bs:List Value}{sn:List Str}{sub:List Value}{ab:Bool}{col:Option Bool}{dd:Option Addr}{k0 k1 k2 k3 k5:Option Value}(X:K.In h)(G:h.Ns mainGlobals mg)
  (ha:PySem.W.nsIn K mainGlobals x=some (some (.ref C)))(l:K.lookup C=some (excClassObj nm q C N bs Iy true sn sub ab col dd k0 k1 k2 k3 k5 "ValueError.__new__"))
  (sa:PySem.W.findIn K (.ref C) "__setattr__"=some (some (.builtin "object.__setattr__")))(ga:PySem.W.findIn K (.ref C) "__getattribute__"=some (some (.builtin "BaseException.__getattribute__")))
  (gt:PySem.W.findIn K (.ref C) "__getattr__"=some none):Xl K mg x C:=by
 have c:nB K C:=⟨⟨_,by unfold PySem.W.clsIn;rw[l],rfl,rfl⟩,sa,ga,gt⟩;exact⟨c,Je c (by show(K.lookup C).map (·.cls)=_;rw[l];rfl),PySem.W.mg_of X G ha⟩
theorem HB{nm q:Str}{C N:Addr}{ini:Option Addr}{bs:List Value}{sn:List Str}{sub:List Value}{ab:Bool}{col:Option Bool}{dd:Option Addr}{k0 k1 k2 k3 k5:Option Value}{oc:Value}{od:Option Addr}{es:Array DictEntry}{ep:Nat}{sl:Array (Option Value)}
  (l:K.lookup C=some (excClassObj nm q C N bs Iy true sn sub ab col dd k0 k1 k2 k3 k5 "ValueError.__new__"))(lN:K.lookup N=some ⟨oc,od,.dict es ep,sl⟩)(hk:(es.toList.all λe=>match e.key with|.str _ _=>true|_=>false)=true)
  (hi:PySem.W.nsIn K N "__init__"=some (ini.map Value.ref))(fn:∀f,ini=some f->PySem.W.isFn K (.ref f)=true)(kp:PySem.W.keepIn K (.ref C)=true):Cz K C ini:=by
 have hs:StrKeys es:=λe he=>by
  have z:=Rg.mp hk e (Array.mem_toList_iff.mpr he);cases hq:e.key with
  |str x t=>exact⟨x,t,rfl⟩
  |_=>rw[hq]at z;cases z
 refine⟨⟨nm,q,N,bs,sn,sub,ab,col,dd,k0,k1,k2,k3,k5,nsFind es,l,λh X=>⟨_,es,ep,X _ _ lN,rfl,hs,λ_=>rfl⟩,?_⟩,λf e=>?_,kp⟩
 ·unfold PySem.W.nsIn at hi
  rw[lN]at hi;dsimp only at hi;unfold nsFind findBy;rw[<-Array.find?_toList];split at hi
  ·rename_i y hy
   rw[hy];exact Qk hi
  ·rename_i hy
   rw[hy];split at hi
   ·cases hi
   ·exact Qk hi
 ·have z:=fn f e
  have z:((K.lookup f).map (·.cls)==some (.type "function"))=true:=z;cases hq:K.lookup f with
  |none=>rw[hq]at z;simp at z
  |some o=>
   rw[hq]at z;exact⟨o,rfl,by simpa using z⟩
theorem LD{es:Array DictEntry}{ep:Nat}{sl:Array (Option Value)}(l:K.lookup C=some (excClassObj x q C N bs Iy true sn sub ab col dd k0 k1 k2 k3 k5 "ValueError.__new__"))(lN:K.lookup N=some ⟨oc,od,.dict es ep,sl⟩)(hk:(es.toList.all λe=>match e.key with|.str _ _=>true|_=>false)=true)
  (hi:PySem.W.nsIn K N "__init__"=some (some (.ref f)))(i:PySem.W.isFn K (.ref f)=true)(kp:PySem.W.keepIn K (.ref C)=true):Cz K C (some f):=HB l lN hk (ini:=some f) hi (λ_ e=>by cases e;exact i) kp
theorem LB{es:Array DictEntry}{ep:Nat}{sl:Array (Option Value)}(l:K.lookup C=some (excClassObj x q C N bs Iy true sn sub ab col dd k0 k1 k2 k3 k5 "ValueError.__new__"))(lN:K.lookup N=some ⟨oc,od,.dict es ep,sl⟩)(hk:(es.toList.all λe=>match e.key with|.str _ _=>true|_=>false)=true)
  (hi:PySem.W.nsIn K N "__init__"=some none)(kp:PySem.W.keepIn K (.ref C)=true):Cz K C none:=HB l lN hk (ini:=none) hi (λ_ e=>nomatch e) kp
end
end Kh
structure PySem.W.Fast:Prop where(tw13733249721818718593 tw766678690488692891 tw2335292305873691343 tw11159554686248807341 tw3709641960099637059 tw6451578021539655546 tw14538250927202445721 tw6988168079519917731 tw11394144949643468359 tw11691565010166075286 tw16798870817530976745 tw17959993164308980367 tw1360605764658536481 tw7401656617178574977 tw2232215848630108824 tw6131747106506445168 tw10256909151600663417 tw5302484553676341567 tw3071956920665027577 tw5922580297551371010 tw17514647191851243278 tw12468782385166029043 tw2233129051213808755 tw5460701251467438729 tw10186147321375315864 tw3989006875802715636 tw12783885706120431130 tw8216806058759690511 tw4262149340767961183 tw14171826803906128784 tw7151236549879082889 tw15719442457921302525 tw18401625314209281596 tw10450775205091999429 tw7335332382953760878 tw15082947842254116467 tw2545419907889524350 tw6342724143397118238 tw10420677517707368564 tw2685267964153465051 tw15364215049361051772 tw13635756676016000807 tw1718625026742755073 tw12668171883342856018 tw7084304446902180059 tw5046559367075744674 tw15243706568266112391 tw16357294137587856458 tw16767009764654908601 tw7995607882637112970 tw4873544301101487397 tw16991033867611150391 tw1540657580795208373 tw11184886485655171787 tw3588012532355250035 tw12860938793101138925 tw10676340404055974358 tw15122928013214156708 tw15274233889801330338 tw17201696794342605380 tw13817828874618952157 tw410390316513013641 tw1456068097808874935 tw7858942621683996736 tw13474292836002541552 tw10456921790512532273 tw13157648795841110398 tw5263526148188553311 tw3726789512114837317 tw6971440124316454329 tw2595149782162566827 tw11175432073278314451 tw4848837652861028379 tw18033156375551017460 tw6363743722444636841 tw16149160998632974593 tw13046132477998451348 tw15799558045125211878 tw18430875284397681165 tw11282862622534691740 tw12289821911922350555 tw2681474473210856093 tw9648087322658824748 tw4327116612637017889 tw14984316570222329198 tw10910790705562493045 tw5619947161418860152 tw16262195735937952709 tw15377269787552829909 tw16485402415026458610 tw8399897849619076081 tw12667584219478085293 tw14846223787465433097 tw147533473024403554 tw2606743650363747277 tw2409392271987917481 tw8804283089936913728 tw8766992412858229188 tw10618026170044520677 tw2993725150772383020 tw8114551379606675915 tw12780293190984854802 tw14061037623335156615 tw2718580710796408444 tw3420122474618500229 tw18122672922345563496 tw4056856893523448298 tw9011669627279782921 tw12963740962139949165 tw2683217930528103772 tw4385922759663594571 tw5804286871118289179 tw850392518481344442 tw6698811871762843812 tw11366658724643905505 tw3480590085508385877 tw16271215454482128096 tw1342000381014083744 tw4079002204431840847 tw16577207758788889369 tw14674997190339745956 tw13911198600380019054 tw10775109372311381855 tw1264371573827412373 tw10001842116574894199 tw2043258308652419814 tw13519609818020717297 tw18242955476831115801 tw16129665124085886947 tw2870541110397050152 tw15231762821963974877 tw638477900645015931 tw7426352596209790785 tw4912430160670592094 tw4998169113685343907 tw1178239979513655871 tw14098444772689972214 tw4351637749951212761 tw17875742053477530489 tw9707520573467281310 tw451649301369108993 tw13487683157433803177 tw9306943591958609136 tw2334337263541565478 tw16057248992707845407 tw11472575975556594287 tw4144350816707757477 tw2529978777264568330 tw10039847450681863526 tw14983997288202343563 tw5311501086307592380 tw8436730007179251583 tw2306921357310259819 tw10320422862950288346 tw2921149241982134547 tw14559289253818771741 tw8375966340408331132 tw761067696199981808 tw5102005805060817690 tw5705521887175221041 tw5084655905921250093 tw17933244495183940097 tw5333941183455632896 tw1290423177195416135 tw769754449883376647 tw15182330506283512442 tw5065652926638566889 tw14516357300007416406 tw7953975958999104131 tw1944094245922942700 tw18405101562925995862 tw13887047469829672865 tw7646520782457320970 tw9779862507811833633 tw210762377992690244 tw11911632647233084686 tw17436623724917505453 tw10325747021238047530 tw10165042136425874870 tw17780918930298435448 tw12874613858215932503 tw8106314362320304042 tw7002865101750955165 tw13831892476962890803 tw2694608317315302333 tw7410475311181402763 tw4775233788404390094 tw8001239936454842242 tw6839860255596135764 tw5465550882206990239 tw17598619997060333172 tw15509712447934964583 tw4049329664410750259 tw3487820995225611101 tw6009779499294511542 tw13958301443041726610 tw5291515588441040997 tw3291888834220268631 tw3377308832460998639 tw10520592822803710884 tw9445158521658240727 tw2168693775944427997 tw311926033420126929 tw7704791074470858505 tw13199625603673072824 tw8884883924175265251 tw4103863585183507568 tw2568185420167087753 tw12541623204743784872 tw7324284985696631360 tw7012855552570682544 tw17723625995316584914 tw9214978218273700170 tw321191452181608686 tw14986872698681918156 tw6027387841173242097 tw12893834703416819778 tw16194254067537136544 tw14566955014467068155 tw7057863968143235095 tw5790692438389112495 tw3841975301427470009 tw11589086701070618481 tw13425227133378361820 tw17931594562243645746 tw2412231950970790093 tw6541610314782743843 tw694405919488523793 tw11271749241570401001 tw17994878252840938253 tw16086648185799796888 tw13841538937592673526 tw14283725115182232641 tw4146048844117548828 tw11462886171362439007:True)
open PySem PySem.W PyProof.Rows
set_option maxRecDepth 100000 in
set_option maxHeartbeats 0 in
theorem PySem.Challenge.cw_kinghalldesk_s01_answers_holds : PySem.Challenge.rw_kinghalldesk_s01_answers.Holds := by
 w_on;k_headS;(case hw=>exact⟨[.list [.int 1]],by decide+kernel,by decide+kernel⟩)
 k_fillS
 refine Kh.Gb (r:=PySem.Challenge.rw_kinghalldesk_s01_answers) (k:=13) (CX:=λw=>L2.cW PySem.Challenge.rw_kinghalldesk_s01_answers.prog w) (ps:=["calls"]) (sp:=Kh.B0) (by decide+kernel) rfl rfl ⟨rfl,by decide,by decide⟩ (λw h Y=>PySem.W.kIn_of Y) ?F (λK H xs a hO hwi hask hx=>Kh.Ky (ns:=a.1) hask hx) (λw H s e s'=>Kh.LI);intro w mg fa h Y KX G hmg;apply Kh.Lx (a:=⟨_,_,_,_,_,_,_,_,_,_,_,_,_,_,_,_,_,_,_,_,_,_,_,_,_,_,_,_,_,_,_,_,_,_,_,_,_,_,_,_,_,_,_,_,_,_,_,_,_,_,_,_,_,_,_,_,_,_,_,_,_,_,_,_,_,_,_,_,_,_,_,_,_,_,_,_,_,_,_,_,_,_,_,_,_,_,_,_,_,_,_,_,_,_,_,_,_,_,_,_,_,_,_,_,_,_,_,_,_,_,_,_,_,_,_,_,_,_,_,_,_,_,_,_,_,_,_,_,_,_,_,_,_,_,_,_,_,_,_,_,_,_,_,_,_,_,_,_,_,_,_,_,_,_,_,_,_,_,_,_,_,_,_,_,_,_,_,_,_,_,_,_,_,_,_,_,_,_,_,_,_,_,_,_,_,_,_,_,_,_,_,_,_,_,_,_,_,_,_,_,_,_,_,_,_,_,_,_,_,_,_,_,_,_,_,_,_,_,_,_,_⟩) ⟨?_,?_,?_,?_,?_,?_,?_,?_,?_,?_,?_,?_,?_,?_,?_,?_,?_,?_,?_,?_,?_,?_,?_,?_,?_,?_,?_,?_,?_,?_,?_,?_,?_,?_,?_,?_,?_,?_,?_,?_,?_,?_,?_,?_,?_,?_,?_,?_,?_,?_,?_,?_,?_,?_,?_,?_,?_,?_,?_,?_,?_,?_,?_,?_,?_,?_,?_,?_,?_,?_,?_,?_,?_,?_,?_,?_,?_,?_,?_,?_,?_,?_,?_,?_,?_,?_,?_,?_,?_,?_,?_,?_,?_,?_,?_,?_,?_,?_,?_,?_,?_,?_,?_,?_,?_,?_,?_,?_,?_,?_,?_,?_,?_,?_,?_,?_,?_,?_,?_,?_,?_,?_,?_,?_,?_,?_,?_,?_,?_,?_,?_,?_,?_,?_,?_,?_,?_,?_,?_,?_,?_,?_,?_,?_,?_,?_,?_,?_,?_,?_,?_,?_,?_,?_,?_,?_,?_,?_,?_,?_,?_,?_,?_,?_,?_,?_,?_,?_,?_,?_,?_,?_,?_,?_,?_,?_,?_,?_,?_,?_,?_,?_,?_,?_,?_,?_,?_,?_,?_,?_,?_,Kh.DO (its:=[.int _ _,.int _ _,.int _ _,.int _ _]) ?_ (.cons Kh.iA (.cons Kh.iA (.cons Kh.iA (.cons Kh.iA .nil)))) (by decide),?_,?_,?_,?_,?_,?_,?_,?_,?_,?_,Kh.DO (its:=[.str _ _,.str _ _,.str _ _,.str _ _]) ?_ (.cons Kh.DU (.cons Kh.DU (.cons Kh.DU (.cons Kh.DU .nil)))) (by decide),?_,?_,Kh.DO (its:=[.int _ _,.int _ _,.int _ _,.int _ _,.int _ _,.int _ _,.int _ _,.int _ _]) ?_ (.cons Kh.iA (.cons Kh.iA (.cons Kh.iA (.cons Kh.iA (.cons Kh.iA (.cons Kh.iA (.cons Kh.iA (.cons Kh.iA .nil)))))))) (by decide),?_,Kh.DO (its:=[.int _ _,.int _ _,.int _ _,.int _ _,.int _ _,.int _ _,.int _ _,.int _ _]) ?_ (.cons Kh.iA (.cons Kh.iA (.cons Kh.iA (.cons Kh.iA (.cons Kh.iA (.cons Kh.iA (.cons Kh.iA (.cons Kh.iA .nil)))))))) (by decide),?_,?_,?_,?_,?_,?_,?_,?_,?_,?_,?_,?_,?_⟩ ⟨?_,?_,?_,?_,?_,?_,?_⟩ hmg
 all_goals try first|apply Kh.Mj KX G ?_ ?_ ?_ ?_|apply Kh.LY KX G ?_ ?_ ?_ ?_ ?_|apply Kh.MK ?_|apply Kh.M4 ?_ ?_ ?_ ?_ ?_|apply Kh.L6 KX G ?_ ?_ ?_ ?_ ?_|apply Kh.Gi ?_ ?_ ?_|apply Kh.LB ?_ ?_ ?_ ?_ ?_|apply Kh.LD ?_ ?_ ?_ ?_ ?_ ?_|apply Kh.Me ?_|apply mg_none_of KX G ?_|apply mg_of KX G ?_|apply Kh.Mb ?_|refine⟨?_,?_,?_,?_⟩
 all_goals try first|k_is|(dsimp only;k_is)
 all_goals try first|k_is|(dsimp only;k_is)
 all_goals rfl
