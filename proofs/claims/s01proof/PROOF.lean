import PyProof.Rows.All
import Wide.All
import OpenK.AllK
import Wide.FinOn
import PyProof.EqAt
import PyProof.EqKinds
import PyProof.TupleCall
import KE.BitLaws
import Open.SpecLaws
import KE.OsHead
import KE.OsGo
import KE.KDictLaws
import PySem.Challenge.RW_axisprograms_s01_answers
set_option Elab.async false
set_option linter.all false
set_option maxRecDepth 100000
set_option maxHeartbeats 8000000
def ab:=@of_decide_eq_true
def af:=@if_neg
def ah:=@List.mem_cons_of_mem
def ai:=@if_pos
def ao:=@decide_eq_true
def aq:=@List.length_append
def aw:=@List.append_assoc
def ay:=@List.length_cons
def az:=@List.getElem?_eq_some_iff
def aA:=@List.mem_cons_self
def aD:=@Nat.le_refl
def aE:=@Bool.false_ne_true
def aH:=@List.mem_of_getElem?
def aK:=@List.append_nil
def aL:=@List.sublist_append_right
def aM:=@List.length_drop
def aN:=@List.getElem?_eq_getElem
def aP:=@List.length_map
def aT:=@List.mem_cons
def aU:=@List.mem_append_right
def aW:=@List.sublist_cons_self
def aX:=@List.length_singleton
def aY:=@decide_eq_false
def a8:=@List.map_cons
def a9:=@List.getElem?_map
def bc:=@Nat.le_succ
def bf:=@List.size_toArray
def bh:=@List.perm_middle
def bj:=@PySem.F.plainAttrs_list
def bt:=@List.Sublist.refl
def bx:=@Nat.add_sub_cancel
def bz:=@List.flatMap_cons
def bC:=@List.map_append
def bD:=@Nat.lt_of_lt_of_le
def bE:=@List.Sublist.append
def bG:=@Option.some.inj
def bH:=@List.set_cons_zero
def bI:=@List.mem_singleton
def bL:=@List.eq_nil_of_length_eq_zero
def bN:=@PySem.F.type_list_append
def bO:=@PySem.F.slot_list_append
def bP:=@List.getD_eq_getElem?_getD
def bS:=@Option.map_eq_some_iff
def bU:=@List.mem_append
def b5:=@Bool.not_eq_true
def b9:=@List.append_eq_nil_iff
def cb:=@PySem.mem_of_lookup
def ck:=@Nat.le_trans
def cq:=@List.flatMap_append
def cz:=@List.Perm.append_left
def cE:=@Nat.zero_le
def cF:=@List.contains_eq_any_beq
def cG:=@Bool.and_eq_true
def cJ:=@List.length_take
def cM:=@List.mem_append_left
def cR:=@Nat.le_of_ble_eq_true
def cS:=@List.takeWhile_cons
def cU:=@Nat.ne_of_lt
def cW:=@List.drop_of_length_le
def dg:=@List.perm_append_comm_assoc
def dj:=@List.getElem?_append_right
def dt:=@List.take_length
def dG:=@List.find?_cons
def dR:=@List.getElem?_eq_none_iff
def dU:=@List.contains_iff_mem
def dY:=@Option.isSome_iff_exists
def ee:=@List.any_cons
def eJ:=@Nat.min_eq_left
def eK:=@List.foldl_cons
def eQ:=@Nat.lt_irrefl
def eX:=@List.take_append_drop
def fj:=@Option.or_assoc
def fk:=@List.dropLast_concat
def fB:=@UInt8.ofNat_toNat
def fH:=@Nat.add_sub_cancel_left
def fL:=@List.lookup_cons
def fM:=@List.flatMap_nil
def fN:=@List.all_eq_true
def gc:=@List.set_cons_succ
def gu:=@PySem.F.slot_dict_get
def gF:=@Option.isSome_map
def gI:=@List.mem_of_find?_eq_some
def gN:=@List.findIdx?_eq_some_iff_getElem
def gO:=@Int.le_refl
def gW:=@List.nil_sublist
def gX:=@List.mem_flatMap
def hC:=@List.replicate_succ
def hU:=@List.mem_map_of_mem
def ib:=@List.nodup_cons
def ic:=@List.mem_filter
def iq:=@List.getElem_cons_drop
def ir:=@List.getElem?_set_self
def iu:=@List.dropWhile_sublist
def iG:=@List.drop_zero
def iT:=@PyProof.Rows.callWith_type1
def iW:=@List.getElem?_set_ne
def ji:=@List.map_drop
def jn:=@Ne.symm
def jq:=@List.filterMap_cons
def jr:=@List.dropWhile_cons
def jv:=@UInt8.toNat.inj
def jw:=@List.getElem?_append_left
def jy:=@Classical.byContradiction
def jz:=@Bool.or_eq_true
def jA:=@Bool.eq_iff_iff
def jI:=@PySem.F.type_list_extend
def jJ:=@PySem.F.slot_tuple_index
def jK:=@PySem.F.slot_list_extend
def jL:=@List.mem_map
def jM:=@List.map_map
def kh:=@UInt8.toNat_lt
def kE:=@PySem.F.plainAttrs_dict
def kH:=@Nat.le_of_succ_le
def kI:=@List.flatten_cons
def kR:=@PySem.F.entry_dict_get
def kS:=@List.drop_eq_nil_of_le
def k9:=@List.sum_cons
def ly:=@Nat.lt_succ_self
def lz:=@List.filter_cons
def lA:=@List.any_eq_true
def lY:=@PySem.F.type_list_pop
def lZ:=@PySem.F.slot_list_pop
def l4:=@List.getElem?_eq_none
def mq:=@Option.map_some
def mv:=@Nat.zero_add
def mw:=@Nat.succ_pos
def mx:=@Nat.sub_self
def my:=@Nat.not_le
def mz:=@Nat.le_of_lt
def mB:=@List.pairwise_append
def mC:=@List.map_nil
def mD:=@List.length_set
def mE:=@List.length_nil
def mF:=@List.any_append
def nu:=@List.length_reverse
def ny:=@Array.length_toList
def nB:=@List.tail_cons
def oy:=@Sum.inl.inj
namespace L2
open PySem PySem.Spec PyProof.Rows
abbrev Key:=Sum Int Str
def rB:Key->Value->Bool
 | .inl k,v=>Value.isInt k v
 | .inr x,v=>Value.isStrOf x v
def G7(w:World):Key->Int
 | .inl k=>hashInt k
 | .inr x=>hashStr w x
theorem fY:∀{k:Key}{v:Value},rB k v=true->(∃i t,k=Sum.inl i/\v=Value.int i t)\/(∃x t,k=Sum.inr x/\v=Value.str x t)
 | .inl i,v,h=>by
  obtain⟨t,e⟩:=Value.isInt_shape (k:=i) (v:=v) h;exact .inl ⟨i,t,rfl,e⟩
 | .inr x,v,h=>by
  obtain⟨t,e⟩:=Value.isStrOf_shape (x:=x) (v:=v) h;exact .inr ⟨x,t,rfl,e⟩
theorem D4(i:Int)(t:Tok):rB (.inl i) (.int i t)=true:=by simp[rB,Value.isInt]
theorem D3(x:Str)(t:Tok):rB (.inr x) (.str x t)=true:=by simp[rB,Value.isStrOf]
theorem Sg(a b:Int):decide ((Sum.inl a:Key)=Sum.inl b)=(a==b):=by
 by_cases e:a=b
 ·subst e;simp
 ·have h:¬(Sum.inl a:Key)=Sum.inl b:=fun q=>e (oy q);rw[aY h];exact(beq_eq_false_iff_ne.mpr e).symm
theorem Sd(a b:Str):decide ((Sum.inr a:Key)=Sum.inr b)=decide (a=b):=by
 by_cases e:a=b
 ·subst e;simp
 ·have h:¬(Sum.inr a:Key)=Sum.inr b:=fun q=>e (Sum.inr.inj q);rw[aY h,aY e]
theorem Sf(a:Int)(b:Str):decide ((Sum.inl a:Key)=Sum.inr b)=false:=aY (fun q=>nomatch q)
theorem Se(a:Str)(b:Int):decide ((Sum.inr a:Key)=Sum.inl b)=false:=aY (fun q=>nomatch q)
def dk(prog:Program)(w:World):PySem.KeyKind prog w Key where
 is:=rB
 hash:=G7 w
 inj:=fun v a b ha hb=>by
  rcases fY ha with⟨i,t,rfl,rfl⟩|⟨x,t,rfl,rfl⟩
  ·rcases fY hb with⟨j,u,rfl,e⟩|⟨y,u,rfl,e⟩
   ·injection e with e1 _;rw[e1]
   ·exact nomatch e
  ·rcases fY hb with⟨j,u,rfl,e⟩|⟨y,u,rfl,e⟩
   ·exact nomatch e
   ·injection e with e1 _;rw[e1]
 byValue:=fun k v h=>by
  rcases fY h with⟨i,t,rfl,rfl⟩|⟨x,t,rfl,rfl⟩<;>rfl
 pyHash:=fun hv h=>by
  rcases fY hv with⟨i,t,rfl,rfl⟩|⟨x,t,rfl,rfl⟩
  ·exact wpAny_pyHash_int h
  ·exact wpAny_pyHash_str h
 eqBool:=fun hu hv h=>by
  rcases fY hu with⟨i,t,rfl,rfl⟩|⟨x,t,rfl,rfl⟩
  ·rcases fY hv with⟨j,u,rfl,rfl⟩|⟨y,u,rfl,rfl⟩
   ·rw[Sg]at h;exact wpAny_eqBool_int h
   ·rw[Sf]at h;exact SeqAt.EqAt.int_str i t y u _ _ _ _ h
  ·rcases fY hv with⟨j,u,rfl,rfl⟩|⟨y,u,rfl,rfl⟩
   ·rw[Se]at h;exact SeqAt.EqAt.str_int x t j u _ _ _ _ h
   ·rw[Sd]at h;exact wpAny_eqBool_str h
 «strs» :=fun k x t v h=>by
  rcases fY h with⟨i,u,rfl,e⟩|⟨y,u,rfl,e⟩
  ·exact nomatch e
  ·injection e with e1 _
   subst e1;cases v<;>rfl
theorem yW(prog:Program)(w:World)(i:Int)(t:Tok):(dk prog w).is (.inl i) (.int i t)=true:=D4 i t
theorem IY(prog:Program)(w:World)(x:Str)(t:Tok):(dk prog w).is (.inr x) (.str x t)=true:=D3 x t
end L2
namespace L2
open PySem PySem.Spec PyProof.Rows
inductive V where
 |bA|bl (b:Bool)|int (i:Int)|str (x:Str)|nj (b:Array UInt8)|Nn (b:UInt64)|ref (a:Addr)|ty (n:String)
 deriving DecidableEq
def RelV:V->Value->Prop
 | .bA,u=>u=Value.none
 | .bl b,u=>u=Value.bool b
 | .int i,u=>∃t,u=Value.int i t
 | .str x,u=>∃t,u=Value.str x t
 | .nj b,u=>∃t,u=Value.bytes b t
 | .Nn b,u=>∃t,u=Value.float b t
 | .ref a,u=>u=Value.ref a
 | .ty n,u=>u=Value.type n
abbrev Vals:List V->List Value->Prop:=Paired RelV
theorem Vals.length{xs:List V}{us:List Value}(r:Vals xs us):xs.length=us.length:=Paired.length r
theorem Vals.get:∀{xs:List V}{us:List Value}{i:Nat}{x:V},Vals xs us->xs[i]? =some x->∃u,us[i]? =some u/\RelV x u
 |_,_,_,_,.nil,e=>by simp at e
 |_,_,0,_,.cons r _,e=>by simp at e;subst e;exact⟨_,rfl,r⟩
 |_,_,i+1,x,.cons _ t,e=>by
  obtain⟨u,h1,h2⟩:=Vals.get (i:=i) (x:=x) t (by simpa using e);exact⟨u,by simpa using h1,h2⟩
theorem Vals.set{x:V}{u:Value}(r:RelV x u):∀{xs:List V}{us:List Value}(i:Nat),Vals xs us->Vals (xs.set i x) (us.set i u)
 |_,_,_,.nil=>.nil
 |_,_,0,.cons _ t=>.cons r t
 |_,_,i+1,.cons q t=>.cons q (Vals.set r i t)
theorem Vals.append:∀{xs ys:List V}{us ws:List Value},Vals xs us->Vals ys ws->Vals (xs++ys) (us++ws)
 |_,_,_,_,.nil,s=>s
 |_,_,_,_,.cons r t,s=>.cons r (Vals.append t s)
theorem Vals.take:∀{xs:List V}{us:List Value}(n:Nat),Vals xs us->Vals (xs.take n) (us.take n)
 |_,_,0,_=>.nil
 |_,_,_+1,.nil=>.nil
 |_,_,n+1,.cons r t=>.cons r (Vals.take n t)
theorem Vals.drop:∀{xs:List V}{us:List Value}(n:Nat),Vals xs us->Vals (xs.drop n) (us.drop n)
 |_,_,0,r=>r
 |_,_,_+1,.nil=>.nil
 |_,_,n+1,.cons _ t=>Vals.drop n t
def ju:Option V->Option Value->Prop
 |some v,some u=>RelV v u
 |none,none=>True
 |_,_=>False
def KV{κ:Type}:List (κ×V)->List (κ×Value)->Prop:=Paired fun(p:κ×V)(q:κ×Value)=>p.1=q.1/\RelV p.2 q.2
def kV:Key->V
 | .inl i=>.int i
 | .inr x=>.str x
inductive HO where
 |lst (xs:List V)
 |tup (xs:List V)
 |dK (kvs:List (Key×V))|dT (kvs:List (List Key×V))
 |set (S:Int->Bool) (n:Nat)
 |ins (C dx:Addr) (fs:List (Str×V))
 |own (x:Addr)
 |xd (fs:List (Str×V))
 |met (f x:Addr)
 |RN (lo hi:Int)
 |m7 (o:Obj) (u:HO)
 |FZ (ps:Array Value)
 |ext (φ:Heap->Prop)
abbrev Hp:=Addr->Option HO
def upd(H:Hp)(a:Addr)(o:HO):Hp:=fun b=>if b=a then some o else H b
theorem lC{H:Hp}{a:Addr}{o:HO}:upd H a o a=some o:=by unfold upd;rw[ai rfl]
theorem dq{H:Hp}{a b:Addr}{o:HO}(h:b≠a):upd H a o b=H b:=by unfold upd;rw[af h]
theorem Tv{H:Hp}{a b:Addr}{o u:HO}(h:H a=some o)(h':H b=some u)(d:o≠u):a≠b:=by
 intro e;subst e;rw[h]at h';exact d (bG h')
theorem fX{H:Hp}{a b:Addr}{o:HO}(h:H a=some o)(h':H b=none):a≠b:=by
 intro e;subst e;rw[h]at h';cases h'
section
variable(P:Program)(w:World)
def eS(H:Hp)(h:Heap)(a:Addr):HO->Prop
 | .lst xs=>xs.length<=sizeLine/\∃(its:List Value)(n:Nat),Vals xs its/\h.get? a=some {cls:=.type "list",data:=.seq its.toArray n}
 | .tup xs=>xs.length<=sizeLine/\∃its:List Value,Vals xs its/\IsTup h a its.toArray
 | .dK kvs=>kvs.length<=sizeLine/\(a==sysModules)=false/\∃vs,KV kvs vs/\h.DictOf (dk P w) a vs
 | .dT kvs=>kvs.length<=sizeLine/\(a==sysModules)=false/\∃xs:List (List Key×Addr×Value),
   Paired (fun(p:List Key×V)(q:List Key×Addr×Value)=>p.1=q.1/\H q.2.1=some (.tup (p.1.map kV))/\RelV p.2 q.2.2) kvs xs/\
   ∃o es ep,h.get? a=some o/\o.ExactDict/\o.data=.dict es ep/\es.toList=xs.map (entryOfKey (tupleKind (dk P w)))/\(xs.map (·.1)).Nodup
 | .set S n=>h.SetOf (intKind P w) a S n
 | .ins C dx fs=>H dx=some (.own a)/\fs.length<=1000/\dx≠a/\h.get? a=some (PySem.W.instObj C dx)/\
   ∃mA,h.Ns1 dx mA/\(∀f,ju (fs.lookup f) (mA f))/\PySem.Within mA (fs.map (·.1))
 | .own _=>∃o,h.get? a=some o
 | .xd fs=>∃mA,h.Ns1 a mA/\∀f,ju (fs.lookup f) (mA f)
 | .RN lo hi=>∃t u v,h.get? a=some {cls:=.type "range",data:=.fields #[.int lo t,.int hi u,.int 1 v]}
 | .m7 o u=>h.get? a=some o/\eS H h a u
 | .FZ ps=>h.get? a=some {cls:=.none,data:=.fields ps}
 | .met f x=>h.get? a=some (PySem.W.methodObj (.ref f) (.ref x))
 | .ext φ=>φ h/\(∃o,h.get? a=some o)/\∀h1 h2:Heap,φ h1->(∀o,h1.get? a=some o->h2.get? a=some o)->φ h2
def gm(H:Hp)(h:Heap):Prop:=∀a o,H a=some o->eS P w H h a o
end
section
variable{P:Program}{w:World}{H H':Hp}{h h':Heap}{a:Addr}{o:HO}
theorem eS.lt(x:eS P w H h a o):a<h.objs.size:=by
 cases o with
 |lst xs=>obtain⟨_,_,_,_,e⟩:=x;exact Heap.lt_size e
 |tup xs=>obtain⟨_,_,_,p⟩:=x;exact p.lt
 |dK kvs=>obtain⟨_,_,_,_,o,_,_,e,_⟩:=x;exact Heap.lt_size e
 |dT kvs=>obtain⟨_,_,_,_,o,_,_,e,_⟩:=x;exact Heap.lt_size e
 |set S n=>obtain⟨o,_,_,_,e,_⟩:=x;exact Heap.lt_size e
 |ins C dx fs=>obtain⟨_,_,_,e,_⟩:=x;exact Heap.lt_size e
 |own y=>obtain⟨_,e⟩:=x;exact Heap.lt_size e
 |xd fs=>obtain⟨_,⟨_,_,_,e,_⟩,_⟩:=x;exact Heap.lt_size e
 |RN lo hi=>obtain⟨_,_,_,e⟩:=x;exact Heap.lt_size e
 |m7 ob u=>obtain⟨e,_⟩:=x;exact Heap.lt_size e
 |FZ ps=>exact Heap.lt_size (show h.get? a=some _ from x)
 |met f y=>exact Heap.lt_size (show h.get? a=some _ from x)
 |ext φ=>obtain⟨_,⟨_,e⟩,_⟩:=x;exact Heap.lt_size e
theorem Paired.OS{α β:Type}{F G:α->β->Prop}:∀{l₁:List α}{l₂:List β},Paired F l₁ l₂->(∀a b,F a b->G a b)->Paired G l₁ l₂
 |_,_,.nil,_=>.nil
 |_,_,.cons r t,f=>.cons (f _ _ r) (Paired.OS t f)
theorem eS.Cd(x:eS P w H h a o)(k:∀b u,(b=a\/H b=some (.own a))->h.get? b=some u->h'.get? b=some u)
  (ho:∀b,H b=some (.own a)->H' b=some (.own a)) (ht:∀b xs,H b=some (.tup xs)->H' b=some (.tup xs)):eS P w H' h' a o:=by
 induction o with
 |lst xs=>obtain⟨z,its,n,r,e⟩:=x;exact⟨z,its,n,r,k _ _ (.inl rfl) e⟩
 |tup xs=>obtain⟨z,its,r,ob,e,c⟩:=x;exact⟨z,its,r,ob,k _ _ (.inl rfl) e,c⟩
 |dK kvs=>obtain⟨z,y,vs,r,ob,es,ep,e,c⟩:=x;exact⟨z,y,vs,r,ob,es,ep,k _ _ (.inl rfl) e,c⟩
 |dT kvs=>
  obtain⟨z,y,xs,r,ob,es,ep,e,c⟩:=x;exact⟨z,y,xs,Paired.OS r fun p q z=>⟨z.1,ht _ _ z.2.1,z.2.2⟩,ob,es,ep,k _ _ (.inl rfl) e,c⟩
 |set S n=>obtain⟨ob,es,ep,t,e,c⟩:=x;exact⟨ob,es,ep,t,k _ _ (.inl rfl) e,c⟩
 |ins C dx fs=>
  obtain⟨d,z,ne,e,mA,⟨od,es,ep,e2,c⟩,r⟩:=x;exact⟨ho _ d,z,ne,k _ _ (.inl rfl) e,mA,⟨od,es,ep,k _ _ (.inr d) e2,c⟩,r⟩
 |own y=>obtain⟨ob,e⟩:=x;exact⟨ob,k _ _ (.inl rfl) e⟩
 |xd fs=>obtain⟨mA,⟨od,es,ep,e,c⟩,r⟩:=x;exact⟨mA,⟨od,es,ep,k _ _ (.inl rfl) e,c⟩,r⟩
 |RN lo hi=>obtain⟨t,u,v,e⟩:=x;exact⟨t,u,v,k _ _ (.inl rfl) e⟩
 |m7 ob u ih=>obtain⟨e,q⟩:=x;exact⟨k _ _ (.inl rfl) e,ih q⟩
 |FZ ps=>
  have e:h.get? a=some {cls:=.none,data:=.fields ps}:=x;show h'.get? a=some {cls:=.none,data:=.fields ps};exact k a _ (.inl rfl) e
 |met f y=>
  have e:h.get? a=some (PySem.W.methodObj (.ref f) (.ref y)):=x;show h'.get? a=some (PySem.W.methodObj (.ref f) (.ref y));exact k a _ (.inl rfl) e
 |ext φ=>obtain⟨p,⟨o,e⟩,st⟩:=x;exact⟨st _ _ p fun o q=>k _ _ (.inl rfl) q,⟨o,k _ _ (.inl rfl) e⟩,st⟩
theorem gm.lt(x:gm P w H h)(e:H a=some o):a<h.objs.size:=(x a o e).lt
theorem gm.fresh(x:gm P w H h)(e:h.objs.size<=a):H a=none:=by
 cases q:H a with
 |none=>rfl
 |some u=>exact absurd (bD (x.lt q) e) (eQ _)
theorem gm.kept(x:gm P w H h)(k:∀b u,h.get? b=some u->h'.get? b=some u):gm P w H h':=fun a o e=>
 (x a o e).Cd (fun b u _ q=>k b u q) (fun _ q=>q) fun _ _ q=>q
theorem gm.laid(x:gm P w H h)(k:∀b u,h.get? b=some u->h'.get? b=some u)(hp:h.objs.size<=a)(new:eS P w (upd H a o) h' a o):gm P w (upd H a o) h':=fun b u e=>by
 have hn:=x.fresh hp;by_cases hb:b=a
 ·subst hb;rw[lC]at e;cases e;exact new
 ·rw[dq hb]at e;exact(x b u e).Cd (fun c v _ q=>k c v q) (fun c q=>by rw[dq (fX q hn)];exact q) fun c xs q=>by rw[dq (fX q hn)];exact q
end
def Rd(H:Hp)(a:Addr)(u:HO):Prop:=H a=some u\/∃o,H a=some (.m7 o u)
theorem Rd.ok{P:Program}{w:World}{H:Hp}{h:Heap}{a:Addr}{u:HO}(r:Rd H a u)(x:gm P w H h):eS P w H h a u:=by
 rcases r with r|⟨o,r⟩
 ·exact x a u r
 ·obtain⟨_,q⟩:=x a _ r;exact q
def N1:Option HO->Prop
 |some (.lst _)=>True
 |some (.dK _)=>True
 |some (.dT _)=>True
 |some (.set _ _)=>True
 |some (.ins _ _ _)=>True
 |some (.ext _)=>True
 |_=>False
section
variable{P:Program}{w:World}{H:Hp}{h h':Heap}{x e:Addr}{o':HO}
theorem gm.write(ok:gm P w H h)(mu:N1 (H x))(he:e=x\/H e=some (.own x))(k:∀b u,b≠e->h.get? b=some u->h'.get? b=some u)(heo:∃u,h'.get? e=some u)
  (new:eS P w (upd H x o') h' x o'):gm P w (upd H x o') h':=fun b u q=>by
 have nown:∀c y,H c=some (.own y)->c≠x:=fun c y r z=>by subst z;rw[r]at mu;exact mu
 have ntup:∀c xs,H c=some (.tup xs)->c≠x:=fun c xs r z=>by subst z;rw[r]at mu;exact mu
 by_cases hb:b=x
 ·subst hb;rw[lC]at q;cases q;exact new
 ·rw[dq hb]at q;by_cases hbe:b=e
  ·have q':H b=some (.own x):=by
    rcases he with z|z
    ·exact absurd (hbe.trans z) hb
    ·rw[hbe];exact z
   rw[q]at q';cases q';obtain⟨v,hv⟩:=heo;exact⟨v,by rw[hbe];exact hv⟩
  ·refine(ok b u q).Cd (fun c v hc r=>k c v ?_ r) (fun c r=>by rw[dq (nown c b r)];exact r) fun c xs r=>by rw[dq (ntup c xs r)];exact r
   rcases hc with rfl|hc
   ·exact hbe
   ·rintro rfl
    rcases he with z|z
    ·exact nown c b hc z
    ·rw[hc]at z;cases z;exact hb rfl
end
structure Un(fs ex:List Addr)(H H':Hp)(h h':Heap):Prop where
 keep:∀b o,h.get? b=some o->H b=none->b∉fs->b∉ex->h'.get? b=some o
 slot:∀b o,h.get? b=some o->H b=none->b∈fs->b∉ex->∃sl,h'.get? b=some {o with slots:=sl}
 free:∀b o,h.get? b=some o->H b=none->b∉ex->H' b=none
 there:∀b o,h.get? b=some o->b∉ex->∃o',h'.get? b=some o'
 vR:∀b xs,H b=some (.tup xs)->H' b=some (.tup xs)
 uH:∀b o u,H b=some (.m7 o u)->H' b=some (.m7 o u)
 vT:∀b ps,H b=some (.FZ ps)->∃more,H' b=some (.FZ (ps++more))
section
variable{fs fs' ex ex':List Addr}{H H1 H2:Hp}{h h1 h2 h':Heap}{a x e:Addr}{o:HO}
theorem Un.any(u:Un fs ex H H1 h h1){b:Addr}{ob:Obj}(q:h.get? b=some ob)(n:H b=none)(hx:b∉ex):∃sl,h1.get? b=some {ob with slots:=sl}:=by
 by_cases hb:b∈fs
 ·exact u.slot b ob q n hb hx
 ·exact⟨ob.slots,u.keep b ob q n hb hx⟩
theorem Un.kept(k:∀b u,h.get? b=some u->h'.get? b=some u):Un fs ex H H h h':=
 ⟨fun b ob q _ _ _=>k b ob q,fun b ob q _ _ _=>⟨ob.slots,k b ob q⟩,fun _ _ _ n _=>n,fun b ob q _=>⟨ob,k b ob q⟩,fun _ _ q=>q,fun _ _ _ q=>q,fun _ ps q=>⟨#[],by rw[q];simp⟩⟩
theorem Un.refl:Un fs ex H H h h:=Un.kept fun _ _ q=>q
theorem Un.laid(k:∀b u,h.get? b=some u->h'.get? b=some u)(hp:h.objs.size<=a)(hn:H a=none):Un fs ex H (upd H a o) h h' where
 keep:=fun b u q _ _ _=>k b u q
 slot:=fun b u q _ _ _=>⟨u.slots,k b u q⟩
 free:=fun b u q n _=>by rw[dq (cU (bD (Heap.lt_size q) hp))];exact n
 there:=fun b u q _=>⟨u,k b u q⟩
 vR:=fun b xs q=>by rw[dq (fX q hn)];exact q
 uH:=fun b u xs q=>by rw[dq (fX q hn)];exact q
 vT:=fun b ps q=>⟨#[],by rw[dq (fX q hn),q];simp⟩
theorem Un.write(mu:N1 (H x))(he:e=x\/H e=some (.own x))(k:∀b u,b≠e->h.get? b=some u->h'.get? b=some u)(heo:∃u,h'.get? e=some u):Un fs ex H (upd H x o) h h':=by
 have hx:∀b,H b=none->b≠x:=fun b n z=>by subst z;rw[n]at mu;exact mu
 have hb:∀b,H b=none->b≠e:=fun b n z=>by
  subst z
  rcases he with r|r
  ·exact hx b n r
  ·rw[n]at r;cases r
 have hm:∀b u,H b=some u->¬N1 (some u)->b≠x:=fun b u q nm z=>by subst z;rw[q]at mu;exact nm mu
 refine⟨fun b u q n _ _=>k b u (hb b n) q,fun b u q n _ _=>⟨u.slots,k b u (hb b n) q⟩,fun b u q n _=>by rw[dq (hx b n)];exact n,fun b u q _=>?_,
  fun b xs q=>by rw[dq (hm b _ q fun z=>z)];exact q,fun b u xs q=>by rw[dq (hm b _ q fun z=>z)];exact q,fun b ps q=>⟨#[],by rw[dq (hm b _ q fun z=>z),q];simp⟩⟩
 by_cases hbe:b=e
 ·subst hbe;exact heo
 ·exact⟨u,k b u hbe q⟩
end
def PK(h:Heap)(H:Hp):List Addr:=(List.range h.objs.size).filter fun a=>(H a).isSome
def uF(h:Heap)(H:Hp):Heap:=PySem.W.hideAll h (PK h H)
theorem Ng(h:Heap)(H:Hp):(uF h H).objs.size=h.objs.size:=PySem.W.hideAll_size _ _
theorem O5{h:Heap}{H:Hp}{b:Addr}{o:Obj}(e:h.get? b=some o)(n:H b=none):(uF h H).get? b=some o:=
 PySem.W.hideAll_get _ e fun hm=>by
  have q:(H b).isSome=true:=(ic.mp hm).2;rw[n]at q;simp at q
theorem QF{h:Heap}{H:Hp}{b:Addr}{o:Obj}(e:(uF h H).get? b=some o):h.get? b=some o/\H b=none:=by
 have e':h.get? b=some o:=PySem.W.of_hideAll (PK h H) e;refine⟨e',?_⟩;cases q:H b with
 |none=>rfl
 |some x=>
  have hm:b∈PK h H:=ic.mpr ⟨List.mem_range.mpr (Heap.lt_size e'),by simp[q]⟩;have z:(uF h H).get? b=none:=PySem.W.hideAll_none (PK h H) hm;rw[z]at e;cases e
end L2
namespace L2
open PySem PySem.Spec PyProof.Rows
structure Mod(K:PySem.W.Frag)(mg:Str->Option Value)(base:Heap):Prop where
 M8:K.In base
 glob:base.Ns mainGlobals mg
 blt:∃mb,base.Ns builtinsNs mb/\∀x:Str,x≠"__name__"->mb x=bootBuiltins x
 nolimit:base.NoLimit
structure Cx where
 prog:Program
 w:World
 K:PySem.W.Frag
 mg:Str->Option Value
 base:Heap
 A:Around
 N:List Str
 l6:Shared
 N6:Hp
 env:Env
 outer:List Env
 stack:List Env
 ex:List Addr
 fn:Str->Bool
 calm:Bool
 pn:List (Addr×Obj)
 xe:Value->Shared->Prop
def bK(l:List Env):List Addr:=l.filterMap (·.frame)
abbrev Cx.fs(X:Cx):List Addr:=bK X.outer
def Kf(sc:Scope)(x:Str):Prop:=sc.names.lookup x=some .local\/sc.names.lookup x=some .cell\/sc.names.lookup x=some .free
def Loc(sc:Scope)(x:Str):Prop:=sc.names.lookup x=some .local\/sc.names.lookup x=some .cell
def Look(env:Env)(h:Heap)(m:Str->Option Value)(x:Str)(u:Value):Prop:=
 (env.kindOf x=some .local/\m x=some u)\/((env.kindOf x=some .cell\/env.kindOf x=some .free)/\∃c,env.cells.lookup x=some c/\h.IsCell c (some u))
structure Cx.Ok(X:Cx):Prop where
 mod:Mod X.K X.mg X.base
 kind:X.env.scope.kind=.function
 glob:X.env.globals=mainGlobals
 blt:X.env.builtins=builtinsNs
 above:X.l6.heap.objs.size<=X.env.locals
 inj:∀x y c,X.env.cells.lookup x=some c->X.env.cells.lookup y=some c->x=y
 has:∀x,(X.env.kindOf x=some .cell\/X.env.kindOf x=some .free)->∃c,X.env.cells.lookup x=some c
 NH:∀x c,X.fn x=true->X.env.cells.lookup x=some c->X.l6.heap.objs.size<=c
 hd:X.calm=true->X.A.handled=none
 frames:X.A.frames=some X.stack
 PM:X.stack=X.outer\/(X.stack=X.env::X.outer/\X.env.frame=some X.env.locals)
 PY:∀b∈X.ex,b≠X.env.locals/\∀x c,X.env.cells.lookup x=some c->c≠b
 bs:∀b o,X.base.get? b=some o->X.l6.heap.get? b=some o/\X.N6 b=none
 BR:X.base.objs.size<=X.l6.heap.objs.size
 GO:∀b o,X.base.get? b=some o->b∉X.ex
 Hq:∀b∈X.ex,b∉X.fs
 pC:X.l6.heap.FunFrames X.base X.outer
 Hh:∀b∈X.fs,X.N6 b=none
structure Inv(X:Cx)(pins:List (Addr×Obj))(σ:List (Option V))(H:Hp)(s:Shared):Prop where
 ok:X.Ok
 os:s.os=X.l6.os
 bare:AllBare s.gens
 base:Un X.fs X.ex X.N6 H X.l6.heap s.heap
 loc:∃m,s.heap.Ns X.env.locals m/\∀(i:Nat)(x:Str)(v:V),X.N[i]? =some x->σ[i]? =some (some v)->Kf X.env.scope x->∃u,RelV v u/\Look X.env s.heap m x u
 cell:∀x c,X.env.cells.lookup x=some c->∃v,s.heap.IsCell c v
 free:H X.env.locals=none
 m8:∀x c,X.env.cells.lookup x=some c->H c=none
 pin:∀p∈X.pn++pins,s.heap.get? p.1=some p.2/\H p.1=none/\p.1≠X.env.locals/\p.1∉X.fs/\∀v,p.2.data≠.cell v
 bT:gm X.prog X.w H s.heap
 len:σ.length=X.N.length
section
variable{X:Cx}{pins:List (Addr×Obj)}{σ:List (Option V)}{H H':Hp}{s:Shared}{h':Heap}
theorem Cx.Ok.UD(ok:X.Ok){b:Addr}{o:Obj}(e:X.base.get? b=some o):b∉X.fs:=fun hb=>by
 have:=(ok.pC.mem hb).1;rw[e]at this;cases this
theorem Inv.bs(I:Inv X pins σ H s):∀b o,X.base.get? b=some o->s.heap.get? b=some o/\H b=none:=fun b o e=>
 ⟨I.base.keep b o (I.ok.bs b o e).1 (I.ok.bs b o e).2 (I.ok.UD e) (I.ok.GO b o e),I.base.free b o (I.ok.bs b o e).1 (I.ok.bs b o e).2 (I.ok.GO b o e)⟩
theorem Inv.bk(I:Inv X pins σ H s):∀b o,X.base.get? b=some o->s.heap.get? b=some o:=fun b o e=>(I.bs b o e).1
theorem Inv.mod(I:Inv X pins σ H s):Mod X.K X.mg X.base:=I.ok.mod
theorem Inv.jV(I:Inv X pins σ H s):X.K.In s.heap:=I.ok.mod.M8.keeps I.bk
theorem Inv.lt(I:Inv X pins σ H s):X.env.locals<s.heap.objs.size:=let ⟨_,hn,_⟩:=I.loc;hn.lt
theorem Inv.sz(I:Inv X pins σ H s):X.l6.heap.objs.size<=s.heap.objs.size:=ck I.ok.above (mz I.lt)
theorem Inv.UC(I:Inv X pins σ H s){a:Addr}(h:s.heap.objs.size<=a):a∉X.fs:=fun hb=>by
 obtain⟨_,o,ho,_⟩:=I.ok.pC.mem hb;exact absurd (bD (Heap.lt_size ho) (ck I.sz h)) (eQ _)
theorem Inv.Hz(I:Inv X pins σ H s):∀x c,X.env.cells.lookup x=some c->c≠X.env.locals:=fun x c e z=>by
 obtain⟨v,o,ho,hd⟩:=I.cell x c e;obtain⟨m,⟨o',es,ep,ho',hd',_⟩,_⟩:=I.loc;rw[z,ho']at ho;cases ho;rw[hd']at hd;cases hd
theorem Inv.pC(I:Inv X pins σ H s):s.heap.FunFrames X.base X.outer:=by
 have all:∀(l:List Env),(∀b∈bK l,b∈X.fs)->X.l6.heap.FunFrames X.base l->s.heap.FunFrames X.base l:=by
  intro l
  induction l with
  |nil=>intro _ _;trivial
  |cons env r ih=>
   intro hs hl;obtain⟨hk,⟨L,o,hf,hn,ho,hd⟩,hr⟩:=hl;have hL:L∈X.fs:=hs L (by unfold bK;rw[jq,hf];exact aA);obtain⟨sl,e⟩:=I.base.slot L o ho (I.ok.Hh L hL) hL fun z=>I.ok.Hq L z hL;exact⟨hk,⟨L,_,hf,hn,e,hd⟩,ih (fun b hb=>hs b (by unfold bK;rw[jq,hf];exact ah _ hb)) hr⟩
 exact all X.outer (fun _ hb=>hb) I.ok.pC
theorem Inv.stack(I:Inv X pins σ H s):s.heap.FunFrames X.base X.stack:=by
 rcases I.ok.PM with e|⟨e,hf⟩
 ·rw[e];exact I.pC
 ·rw[e];obtain⟨m,hn,_⟩:=I.loc;refine .cons (by rw[I.ok.kind];decide) hf hn ?_ I.pC;exact Heap.get?_none_of_le (ck I.ok.BR I.ok.above)
theorem Inv.F1(I:Inv X pins σ H s):∀b∈bK X.stack,b∈X.env.locals::X.fs:=fun b hb=>by
 rcases I.ok.PM with e|⟨e,hf⟩
 ·rw[e]at hb;exact ah _ hb
 ·rw[e]at hb;unfold bK at hb;rw[jq,hf]at hb;exact hb
theorem Inv.Jx(I:Inv X pins σ H s):∀b∈bK X.stack,H b=none:=fun b hb=>by
 rcases aT.mp (I.F1 b hb)with e|hb
 ·rw[e];exact I.free
 ·obtain⟨_,o,ho,_⟩:=I.ok.pC.mem hb;exact I.base.free b o ho (I.ok.Hh b hb) fun z=>I.ok.Hq b z hb
theorem Inv.step{g':Array GenState}{t':Nat}{d':Drawn}{ch:List Addr}(I:Inv X pins σ H s)
  (hch:∀b∈ch,(b∈X.ex\/X.l6.heap.objs.size<=b)/\b≠X.env.locals/\(∀x c,X.env.cells.lookup x=some c->c≠b)/\∀p∈X.pn++pins,p.1≠b)
  (keep:∀b o,b≠X.env.locals->b∉X.fs->b∉ch->s.heap.get? b=some o->H b=none->h'.get? b=some o)
  (slot:∀b o,b≠X.env.locals->b∈X.fs->b∉ch->s.heap.get? b=some o->H b=none->∃sl,h'.get? b=some {o with slots:=sl}) (free:∀b o,b∉ch->s.heap.get? b=some o->H b=none->H' b=none)
  (there:∀b o,b∉ch->s.heap.get? b=some o->∃o',h'.get? b=some o')
  (vR:∀b xs,H b=some (.tup xs)->H' b=some (.tup xs)) (uH:∀b o u,H b=some (.m7 o u)->H' b=some (.m7 o u)) (vT:∀b ps,H b=some (.FZ ps)->∃more,H' b=some (.FZ (ps++more)))
  (ns:∀m,s.heap.Ns X.env.locals m->h'.Ns X.env.locals m) (bT:gm X.prog X.w H' h') (hg:AllBare g'):
  Inv X pins σ H' {s with heap:=h',gens:=g',drawn:=d',toks:=t'}:=by
 have neL:∀b o,X.l6.heap.get? b=some o->b≠X.env.locals:=fun b o e=>cU (bD (Heap.lt_size e) I.ok.above);have neC:∀b o,X.l6.heap.get? b=some o->b∉X.ex->b∉ch:=fun b o e hx hb=>by
  rcases(hch b hb).1 with z|z
  ·exact hx z
  ·exact absurd (bD (Heap.lt_size e) z) (eQ _)
 have cellK:∀x c,X.env.cells.lookup x=some c->∀v,s.heap.IsCell c v->h'.IsCell c v:=fun x c e v ⟨o,ho,hd⟩=>by
  have nch:c∉ch:=fun z=>(hch c z).2.2.1 x c e rfl;by_cases hc:c∈X.fs
  ·obtain⟨sl,q⟩:=slot c o (I.Hz x c e) hc nch ho (I.m8 x c e);exact⟨_,q,hd⟩
  ·exact⟨o,keep c o (I.Hz x c e) hc nch ho (I.m8 x c e),hd⟩
 refine⟨I.ok,I.os,hg,⟨fun b o e n hb hx=>?_,fun b o e n hb hx=>?_,fun b o e n hx=>?_,fun b o e hx=>?_,fun b xs e=>vR b xs (I.base.vR b xs e),fun b o xs e=>uH b o xs (I.base.uH b o xs e),fun b ps e=>?_⟩,?_,fun x c e=>?_,?_,fun x c e=>?_,fun p hp=>?_,bT,I.len⟩
 ·exact keep b o (neL b o e) hb (neC b o e hx) (I.base.keep b o e n hb hx) (I.base.free b o e n hx)
 ·obtain⟨sl,e1⟩:=I.base.slot b o e n hb hx;obtain⟨sl',e2⟩:=slot b _ (neL b o e) hb (neC b o e hx) e1 (I.base.free b o e n hx);exact⟨sl',e2⟩
 ·obtain⟨o',e1⟩:=I.base.there b o e hx;exact free b o' (neC b o e hx) e1 (I.base.free b o e n hx)
 ·obtain⟨o',e1⟩:=I.base.there b o e hx;exact there b o' (neC b o e hx) e1
 ·obtain⟨m1,e1⟩:=I.base.vT b ps e;obtain⟨m2,e2⟩:=vT b _ e1;exact⟨m1++m2,by rw[e2,Array.append_assoc]⟩
 ·obtain⟨m,hn,hl⟩:=I.loc;refine⟨m,ns m hn,fun i x v e1 e2 e3=>?_⟩;obtain⟨u,r,l⟩:=hl i x v e1 e2 e3;refine⟨u,r,?_⟩
  rcases l with l|⟨k,c,e,z⟩
  ·exact .inl l
  ·exact .inr ⟨k,c,e,cellK x c e _ z⟩
 ·obtain⟨v,z⟩:=I.cell x c e;exact⟨v,cellK x c e v z⟩
 ·obtain⟨m,⟨o,_,_,ho,_⟩,_⟩:=I.loc;exact free _ o (fun z=>(hch _ z).2.1 rfl) ho I.free
 ·obtain⟨v,o,ho,hd⟩:=I.cell x c e;exact free c o (fun z=>(hch c z).2.2.1 x c e rfl) ho (I.m8 x c e)
 ·obtain⟨e,n,ne,nf,d⟩:=I.pin p hp;have nch:p.1∉ch:=fun z=>(hch p.1 z).2.2.2 p hp rfl;exact⟨keep p.1 p.2 ne nf nch e n,free p.1 p.2 nch e n,ne,nf,d⟩
theorem Inv.un{t':Nat}(I:Inv X pins σ H s)(u:Un X.fs [] H H' s.heap h')(bT:gm X.prog X.w H' h'):Inv X pins σ H' {s with heap:=h',toks:=t'}:=by
 obtain⟨m,⟨o,es,ep,ho,r⟩,_⟩:=id I.loc;obtain⟨sl,hL⟩:=u.any ho I.free (by simp);exact I.step (g':=s.gens) (d':=s.drawn) (ch:=[]) (fun _ z=>nomatch z) (fun b o _ hb _ e n=>u.keep b o e n hb (by simp)) (fun b o _ hb _ e n=>u.slot b o e n hb (by simp)) (fun b o _ e n=>u.free b o e n (by simp)) (fun b o _ e=>u.there b o e (by simp)) u.vR u.uH u.vT (fun m' hm=>by
  obtain⟨o',es',ep',ho',r'⟩:=hm;rw[ho]at ho';cases ho';exact⟨_,es',ep',hL,r'⟩) bT I.bare
theorem Inv.call{g':Array GenState}{t':Nat}{d':Drawn}{ch:List Addr}(I:Inv X pins σ H s)(u:Un (bK X.stack) ch H H' s.heap h')(bT:gm X.prog X.w H' h')(hg:AllBare g')
  (hch:∀b∈ch,(b∈X.ex\/X.l6.heap.objs.size<=b)/\b≠X.env.locals/\(∀x c,X.env.cells.lookup x=some c->c≠b)/\∀p∈X.pn++pins,p.1≠b):
  Inv X pins σ H' {s with heap:=h',gens:=g',drawn:=d',toks:=t'}:=by
 obtain⟨m,⟨o,es,ep,ho,r⟩,_⟩:=id I.loc;obtain⟨sl,hL⟩:=u.any ho I.free fun z=>(hch _ z).2.1 rfl;exact I.step (ch:=ch) hch (fun b o hL hb hc e n=>u.keep b o e n (fun z=>(aT.mp (I.F1 b z)).elim hL hb) hc) (fun b o _ _ hc e n=>u.any e n hc) (fun b o hc e n=>u.free b o e n hc) (fun b o hc e=>u.there b o e hc) u.vR u.uH u.vT (fun m' hm=>by
  obtain⟨o',es',ep',ho',r'⟩:=hm;rw[ho]at ho';cases ho';exact⟨_,es',ep',hL,r'⟩) bT hg
theorem Inv.turned{t':Nat}{it:Addr}(I:Inv X pins σ H s)(k:∀b o,b≠it->s.heap.get? b=some o->h'.get? b=some o)(hn:H it=none)(hL:it≠X.env.locals)
  (h1:it∈X.ex\/X.l6.heap.objs.size<=it) (h2:∀x c,X.env.cells.lookup x=some c->c≠it) (h3:∀p∈X.pn++pins,p.1≠it):Inv X pins σ H {s with heap:=h',toks:=t'}:=by
 have nit:∀b u,H b=some u->b≠it:=fun b u e z=>by rw[z,hn]at e;cases e
 refine I.step (g':=s.gens) (d':=s.drawn) (ch:=[it]) (fun b hb=>?_) (fun b o _ _ hc e _=>k b o (fun z=>hc (by simp[z])) e) (fun b o _ _ hc e _=>⟨o.slots,k b o (fun z=>hc (by simp[z])) e⟩) (fun _ _ _ _ n=>n)
  (fun b o hc e=>⟨o,k b o (fun z=>hc (by simp[z])) e⟩) (fun _ _ e=>e) (fun _ _ _ e=>e) (fun b ps e=>⟨#[],by rw[e];simp⟩) (fun m hm=>?_) (fun b u e=>?_) I.bare
 ·have e:b=it:=by simpa using hb
  subst e;exact⟨h1,hL,h2,h3⟩
 ·obtain⟨o,es,ep,ho,r⟩:=hm;exact⟨o,es,ep,k _ o (jn hL) ho,r⟩
 ·refine(I.bT b u e).Cd (fun c v hc q=>k c v ?_ q) (fun _ q=>q) fun _ _ q=>q
  rcases hc with z|z
  ·rw[z];exact nit b u e
  ·exact nit c _ z
theorem Inv.tok(I:Inv X pins σ H s)(t:Nat):Inv X pins σ H {s with toks:=t}:=I.un (h':=s.heap) (t':=t) Un.refl I.bT
theorem Inv.kept{t':Nat}(I:Inv X pins σ H s)(k:∀b u,s.heap.get? b=some u->h'.get? b=some u):Inv X pins σ H {s with heap:=h',toks:=t'}:=I.un (Un.kept k) (I.bT.kept k)
theorem Inv.laid{a:Addr}{o:HO}{t':Nat}(I:Inv X pins σ H s)(k:∀b u,s.heap.get? b=some u->h'.get? b=some u)(hp:s.heap.objs.size<=a)(new:eS X.prog X.w (upd H a o) h' a o):
  Inv X pins σ (upd H a o) {s with heap:=h',toks:=t'}:=I.un (Un.laid k hp (I.bT.fresh hp)) (I.bT.laid k hp new)
theorem Inv.write{x e:Addr}{o:HO}{t':Nat}(I:Inv X pins σ H s)(mu:N1 (H x))(he:e=x\/H e=some (.own x))(k:∀b u,b≠e->s.heap.get? b=some u->h'.get? b=some u)(heo:∃u,h'.get? e=some u)
  (new:eS X.prog X.w (upd H x o) h' x o):Inv X pins σ (upd H x o) {s with heap:=h',toks:=t'}:=I.un (Un.write mu he k heo) (I.bT.write mu he k heo new)
theorem Inv.weak{σ':List (Option V)}(I:Inv X pins σ H s)(hl:σ'.length=σ.length)(w:∀(i:Nat) v,σ'[i]? =some (some v)->σ[i]? =some (some v)):Inv X pins σ' H s:=
 ⟨I.ok,I.os,I.bare,I.base,let ⟨m,hn,hl'⟩:=I.loc;⟨m,hn,fun i x v e1 e2 e3=>hl' i x v e1 (w i v e2) e3⟩,I.cell,I.free,I.m8,I.pin,I.bT,hl.trans I.len⟩
theorem Inv.JE{pins':List (Addr×Obj)}(I:Inv X pins σ H s)(h:∀p∈pins',s.heap.get? p.1=some p.2/\H p.1=none/\p.1≠X.env.locals/\p.1∉X.fs/\∀v,p.2.data≠.cell v):Inv X pins' σ H s:=
 ⟨I.ok,I.os,I.bare,I.base,I.loc,I.cell,I.free,I.m8,fun p hp=>(bU.mp hp).elim (fun z=>I.pin p (cM _ z)) (h p),I.bT,I.len⟩
theorem zO{N:List Str}(hN:N.Nodup){i j:Nat}{x:Str}(a:N[i]? =some x)(b:N[j]? =some x):i=j:=by
 obtain⟨h1,e1⟩:=az.mp a;obtain⟨h2,e2⟩:=az.mp b;exact(List.getElem_inj hN).mp (e1.trans e2.symm)
theorem Mm{M:Model}{A:Around}{E:Value->Shared->Prop}{i:Nat}{x:Str}{v:V}{u:Value}{Q:Unit->Shared->Prop}(I:Inv X pins σ H s)(hN:X.N.Nodup)(hi:X.N[i]? =some x)(hx:Loc X.env.scope x)(r:RelV v u)
  (h:∀s',Inv X pins (σ.set i (some v)) H s'->(∃a,Heap.SameBut a s.heap s'.heap/\(a=X.env.locals\/X.env.cells.lookup x=some a))->Q () s') (hf:X.fn x=true\/X.env.scope.names.lookup x=some .local:=by first|exact .inl rfl|exact .inr rfl|assumption):wpAny M A (storeName X.env x u) Q E s:=by
 obtain⟨m,hn,hl⟩:=id I.loc;have hcls:(X.env.scope.kind==.class||(X.env.scope.kind==.module&&X.env.locals !=X.env.globals))=false:=by rw[I.ok.kind];rfl
 have hiσ:i<σ.length:=by rw[I.len];exact(az.mp hi).1
 have Hz:=I.Hz;have tracked:∀{a:Addr}{h':Heap},(∃o,s.heap.get? a=some o/\H a=none)->Heap.SameBut a s.heap h'->gm X.prog X.w H h':=fun{a h'} ha hs b ob e=>by
  obtain⟨_,_,hfree⟩:=ha;refine(I.bT b ob e).Cd (fun c w' hc q=>(hs.2 c ?_).trans q) (fun _ q=>q) fun _ _ q=>q;rintro rfl
  rcases hc with rfl|hc
  ·rw[hfree]at e;cases e
  ·rw[hfree]at hc;cases hc
 rcases hx with hk|hk
 ·refine wpAny_storeName_local hk hn (fun h' hn' hs=>?_) hcls;obtain⟨oL,_,_,hoL,_⟩:=id hn;refine h _ ⟨I.ok,I.os,I.bare,⟨fun b o e n hb hx=>?_,fun b o e n hb hx=>?_,I.base.free,fun b o e hx=>?_,I.base.vR,I.base.uH,I.base.vT⟩,⟨_,hn',fun j y v' e1 e2 e3=>?_⟩,fun y c e=>?_,I.free,I.m8,fun p hp=>?_,tracked ⟨oL,hoL,I.free⟩ hs,by simpa using I.len⟩ ⟨_,hs,.inl rfl⟩
  ·exact(hs.2 b (cU (bD (Heap.lt_size e) I.ok.above))).trans (I.base.keep b o e n hb hx)
  ·obtain⟨sl,e1⟩:=I.base.slot b o e n hb hx;exact⟨sl,(hs.2 b (cU (bD (Heap.lt_size e) I.ok.above))).trans e1⟩
  ·obtain⟨o',e1⟩:=I.base.there b o e hx;exact⟨o',(hs.2 b (cU (bD (Heap.lt_size e) I.ok.above))).trans e1⟩
  ·by_cases hj:j=i
   ·subst hj;rw[hi]at e1;cases e1;rw[ir hiσ]at e2;cases e2;exact⟨u,r,.inl ⟨hk,by simp⟩⟩
   ·rw[iW (jn hj)]at e2;obtain⟨u',r',q⟩:=hl j y v' e1 e2 e3;refine⟨u',r',?_⟩
    rcases q with⟨k,e⟩|⟨k,c,e,z⟩
    ·refine .inl ⟨k,?_⟩;have:y≠x:=fun e=>hj (zO hN e1 (e▸hi));simp[this,e]
    ·exact .inr ⟨k,c,e,z.sameBut hs (Hz y c e)⟩
  ·obtain⟨w',z⟩:=I.cell y c e;exact⟨w',z.sameBut hs (Hz y c e)⟩
  ·obtain⟨e,n,ne,nf,d⟩:=I.pin p hp;exact⟨(hs.2 p.1 ne).trans e,n,ne,nf,d⟩
 ·have hfn:X.fn x=true:=by
   rcases hf with z|z
   ·exact z
   ·rw[z]at hk;cases hk
  obtain⟨c,hc⟩:=I.ok.has x (.inl hk);obtain⟨w',z⟩:=I.cell x c hc;refine wpAny_storeName_cell I.ok.kind hk hc z (fun h' hc' hs=>?_);obtain⟨oc,hoc,hocd⟩:=id z;refine h {s with heap:=h'} ⟨I.ok,I.os,I.bare,⟨fun b o e n hb hx=>?_,fun b o e n hb hx=>?_,I.base.free,fun b o e hx=>?_,I.base.vR,I.base.uH,I.base.vT⟩,⟨m,hn.sameBut hs (jn (Hz x c hc)),fun j y v' e1 e2 e3=>?_⟩,fun y c' e=>?_,I.free,I.m8,fun p hp=>?_,tracked ⟨oc,hoc,I.m8 x c hc⟩ hs,by simpa using I.len⟩ ⟨c,hs,.inr hc⟩
  ·exact(hs.2 b (cU (bD (Heap.lt_size e) (I.ok.NH x c hfn hc)))).trans (I.base.keep b o e n hb hx)
  ·obtain⟨sl,e1⟩:=I.base.slot b o e n hb hx;exact⟨sl,(hs.2 b (cU (bD (Heap.lt_size e) (I.ok.NH x c hfn hc)))).trans e1⟩
  ·obtain⟨o',e1⟩:=I.base.there b o e hx;exact⟨o',(hs.2 b (cU (bD (Heap.lt_size e) (I.ok.NH x c hfn hc)))).trans e1⟩
  ·by_cases hj:j=i
   ·subst hj;rw[hi]at e1;cases e1;rw[ir hiσ]at e2;cases e2;exact⟨u,r,.inr ⟨.inl hk,c,hc,hc'⟩⟩
   ·rw[iW (jn hj)]at e2;obtain⟨u',r',q⟩:=hl j y v' e1 e2 e3;refine⟨u',r',?_⟩
    rcases q with q|⟨k,c',e,z'⟩
    ·exact .inl q
    ·refine .inr ⟨k,c',e,z'.sameBut hs ?_⟩;rintro rfl;exact hj (zO hN e1 (I.ok.inj _ _ _ e hc▸hi))
  ·by_cases hcc:c'=c
   ·subst hcc;exact⟨_,hc'⟩
   ·obtain⟨w2,z2⟩:=I.cell y c' e;exact⟨w2,z2.sameBut hs hcc⟩
  ·obtain⟨e,n,ne,nf,d⟩:=I.pin p hp;refine⟨(hs.2 p.1 ?_).trans e,n,ne,nf,d⟩;intro q;rw[q,hoc]at e;have q':oc=p.2:=bG e;exact d w' (by rw[<-q'];exact hocd)
theorem zi{M:Model}{A:Around}{E:Value->Shared->Prop}{i:Nat}{x:Str}{v:V}{u:Value}{Q:Unit->Shared->Prop}(I:Inv X pins σ H s)(hN:X.N.Nodup)(hi:X.N[i]? =some x)(hx:Loc X.env.scope x)(r:RelV v u)
  (h:∀s',Inv X pins (σ.set i (some v)) H s'->Q () s') (hf:X.fn x=true\/X.env.scope.names.lookup x=some .local:=by first|exact .inl rfl|exact .inr rfl|assumption):wpAny M A (storeName X.env x u) Q E s:=
 Mm I hN hi hx r (fun s' I' _=>h s' I') hf
theorem Inv.TU{s':Shared}{ch:List Addr}(I:Inv X pins σ H s)(ho:s'.os=s.os)(u:Un (bK X.stack) ch H H' s.heap s'.heap)(bT:gm X.prog X.w H' s'.heap)(hg:AllBare s'.gens)
  (hch:∀b∈ch,(b∈X.ex\/X.l6.heap.objs.size<=b)/\b≠X.env.locals/\(∀x c,X.env.cells.lookup x=some c->c≠b)/\∀p∈X.pn++pins,p.1≠b):Inv X pins σ H' s':=by
 obtain⟨h',g',d',t',o'⟩:=s';have e:o'=s.os:=ho;subst e;exact I.call (g':=g') (t':=t') (d':=d') u bT hg hch
end
abbrev XK:=Value->Option Addr->Hp->Prop
abbrev St:=List (Option V)
abbrev VK:=V->Hp->Prop
abbrev TE:=St->Hp->VK->Prop
abbrev TT:=St->Hp->(Bool->Hp->Prop)->Prop
abbrev TA:=St->Hp->(List V->Hp->Prop)->Prop
structure Ends where
 nx:St->Hp->Prop
 rt:VK
 bk:St->Hp->Prop:=fun _ _=>False
 ct:St->Hp->Prop:=fun _ _=>False
abbrev TS:=Ends->St->Hp->Prop
def EP(X:Cx)(pins:List (Addr×Obj))(σ:St)(Q:VK)(u:Value)(s':Shared):Prop:=∃v H',Inv X pins σ H' s'/\RelV v u/\Q v H'
def TP(X:Cx)(pins:List (Addr×Obj))(σ:St)(Q:Bool->Hp->Prop)(b:Bool)(s':Shared):Prop:=∃H',Inv X pins σ H' s'/\Q b H'
def AP(X:Cx)(pins:List (Addr×Obj))(σ:St)(Q:List V->Hp->Prop)(us:List Value)(s':Shared):Prop:=∃vs H',Inv X pins σ H' s'/\Vals vs us/\Q vs H'
def SP(X:Cx)(pins:List (Addr×Obj))(D:Ends)(f:Flow)(s':Shared):Prop:=
 match f with
 | .next=>∃σ' H',Inv X pins σ' H' s'/\D.nx σ' H'
 | .brk=>∃σ' H',Inv X pins σ' H' s'/\D.bk σ' H'
 | .cont=>∃σ' H',Inv X pins σ' H' s'/\D.ct σ' H'
 | .ret u=>∃v σ' H',Inv X pins σ' H' s'/\RelV v u/\D.rt v H'
def PE(X:Cx)(e:Expr)(t:TE):Prop:=
 ∀(pins:List (Addr×Obj))(s:Shared)(σ:St)(H:Hp)(Q:VK),Inv X pins σ H s->t σ H Q->wpAny (model X.prog X.w) X.A (eval e X.env) (EP X pins σ Q) X.xe s
def PT(X:Cx)(e:Expr)(t:TT):Prop:=
 ∀(pins:List (Addr×Obj))(s:Shared)(σ:St)(H:Hp)(Q:Bool->Hp->Prop),Inv X pins σ H s->t σ H Q->wpAny (model X.prog X.w) X.A (isTrue e X.env (eval e X.env)) (TP X pins σ Q) X.xe s
def PW(X:Cx)(e:Expr)(t:TT):Prop:=
 ∀(whole:Sem Value)(pins:List (Addr×Obj))(s:Shared)(σ:St)(H:Hp)(Q:Bool->Hp->Prop),Inv X pins σ H s->t σ H Q->wpAny (model X.prog X.w) X.A (isTrue e X.env whole) (TP X pins σ Q) X.xe s
theorem PW.pt{X:Cx}{e:Expr}{t:TT}(h:PW X e t):PT X e t:=h _
def PA(X:Cx)(es:List Expr)(t:TA):Prop:=
 ∀(pos:Pos)(pins:List (Addr×Obj))(s:Shared)(σ:St)(H:Hp)(Q:List V->Hp->Prop),Inv X pins σ H s->t σ H Q->wpAny (model X.prog X.w) X.A (spliced (backTo pos (starEach es X.env))) (AP X pins σ Q) X.xe s
def PS(X:Cx)(st:Stmt)(t:TS):Prop:=
 ∀(pins:List (Addr×Obj))(s:Shared)(σ:St)(H:Hp)(D:Ends),Inv X pins σ H s->t D σ H->wpAny (model X.prog X.w) X.A (exec st X.env) (SP X pins D) X.xe s
def qU(X:Cx)(st:List Stmt)(t:TS):Prop:=
 ∀(pins:List (Addr×Obj))(s:Shared)(σ:St)(H:Hp)(D:Ends),Inv X pins σ H s->t D σ H->wpAny (model X.prog X.w) X.A (execs st X.env) (SP X pins D) X.xe s
theorem bR{α:Type}{t:Sem α}{Q Q':α->Shared->Prop}{M:Model}{A:Around}{E:Value->Shared->Prop}{s:Shared}(h:wpAny M A t Q E s)(hQ:∀a s,Q a s->Q' a s):wpAny M A t Q' E s:=wpAny_mono h hQ fun _ _ x=>x
end L2
namespace L2
open PySem PySem.Spec PyProof.Rows
section
variable{X:Cx}
def qe(i:Nat):TE:=fun σ H Q=>∃v,σ[i]? =some (some v)/\Q v H
def tC(v:V):TE:=fun _ H Q=>Q v H
theorem RU{i:Nat}{x:Str}{pos:Pos}(hN:X.N[i]? =some x)(hv:Kf X.env.scope x)(hd:(x==("__debug__":Str))=false:=by decide)(hcd:(x==("__classdict__":Str))=false:=by decide):PE X (.Name x pos) (qe i):=by
 intro pins s σ H Q I h;obtain⟨v,e,h⟩:=h;obtain⟨m,hn,hl⟩:=I.loc;obtain⟨u,r,l⟩:=hl i x v hN e hv;have fin:EP X pins σ Q u s:=⟨v,H,I,r,h⟩
 rcases l with⟨hk,hm⟩|⟨hk,c,hc,hcell⟩
 ·exact wpAny_Name (wpAny_loadName_local I.ok.kind hk hn hm fin) hd
 ·rcases hk with hk|hk
  ·exact wpAny_Name (wpAny_loadName_cell I.ok.kind hk hc hcell fin) hd
  ·exact wpAny_Name (wpAny_loadName_free I.ok.kind hk hc hcell fin hcd) hd
theorem aV{i j pos}:PE X (.Constant (.int i) j pos) (tC (.int i)):=fun _ _ _ H _ I h=>wpAny_Constant_int ⟨.int i,H,I.tok _,⟨_,rfl⟩,h⟩
theorem jD{b j pos}:PE X (.Constant (.bool b) j pos) (tC (.bl b)):=fun _ _ _ H _ I h=>Constant_bool ⟨.bl b,H,I,rfl,h⟩
theorem dO{j pos}:PE X (.Constant .none j pos) (tC .bA):=fun _ _ _ H _ I h=>Constant_none ⟨.bA,H,I,rfl,h⟩
theorem bF{x j pos}:PE X (.Constant (.str x) j pos) (tC (.str x)):=fun _ _ _ H _ I h=>Calls.Constant_str ⟨.str x,H,I.tok _,⟨_,rfl⟩,h⟩
def Gl(X:Cx)(x:Str):Prop:=X.env.kindOf x=some .globalImplicit
theorem x6{E:Value->Shared->Prop}{pins:List (Addr×Obj)}{s:Shared}{σ:St}{H:Hp}{x:Str}{u:Value}{pos:Pos}{Q:Value->Shared->Prop}(I:Inv X pins σ H s)(hg:Gl X x)(hm:X.mg x=some u)(h:Q u s)
  (hd:(x==("__debug__":Str))=false:=by decide):wpAny (model X.prog X.w) X.A (eval (.Name x pos) X.env) Q E s:=
 Calls.Name_function_global I.ok.kind hg (Calls.loadGlobal_global (by rw[I.ok.glob];exact I.mod.glob.keeps I.bk) hm h) hd
theorem Bg{E:Value->Shared->Prop}{pins:List (Addr×Obj)}{s:Shared}{σ:St}{H:Hp}{x:Str}{u:Value}{pos:Pos}{Q:Value->Shared->Prop}(I:Inv X pins σ H s)(hg:Gl X x)(hm:X.mg x=none)(hv:bootBuiltins x=some u)(h:Q u s)
  (hn:x≠"__name__":=by decide) (hd:(x==("__debug__":Str))=false:=by decide):wpAny (model X.prog X.w) X.A (eval (.Name x pos) X.env) Q E s:=by
 obtain⟨mb,h1,h2⟩:=I.mod.blt;exact Calls.Name_function_global I.ok.kind hg (Calls.loadGlobal_builtin (by rw[I.ok.glob];exact I.mod.glob.keeps I.bk) hm (by rw[I.ok.blt];exact h1.keeps I.bk) ((h2 x hn).trans hv) h) hd
theorem CJ{x:Str}{v:V}{u:Value}{pos:Pos}(hg:Gl X x)(hm:X.mg x=some u)(r:RelV v u)(hd:(x==("__debug__":Str))=false:=by decide):PE X (.Name x pos) (tC v):=
 fun _ _ _ H _ I h=>x6 I hg hm ⟨v,H,I,r,h⟩ hd
variable{a b:Expr}{ta tb:TE}{pos:Pos}
def PC(X:Cx)(op:CmpOp)(a b:Expr)(t:TE):Prop:=
 ∀(pins:List (Addr×Obj))(s:Shared)(σ:St)(H:Hp)(Q:VK),Inv X pins σ H s->t σ H Q->
  wpAny (model X.prog X.w) X.A (eval a X.env) (fun v s₁=>wpAny (model X.prog X.w) X.A (eval b X.env) (fun u s₂=>wpAny (model X.prog X.w) X.A (compareOp op v u) (EP X pins σ Q) X.xe s₂) X.xe s₁) X.xe s
theorem GP(b:Expr){op:CmpOp}(h:op≠.In)(h2:op≠.NotIn):behindInMarks op b=false:=by
 have e1:(op==CmpOp.In)=false:=by cases op<;>first|rfl|exact absurd rfl h
 have e2:(op==CmpOp.NotIn)=false:=by cases op<;>first|rfl|exact absurd rfl h2
 cases b<;>simp[behindInMarks,e1,e2]
def Uk(ta:TE):TE:=fun σ H Q=>ta σ H fun x H1=>Q (.bl (decide (x=.bA))) H1
def Te(ta:TE):TE:=fun σ H Q=>ta σ H fun x H1=>Q (.bl (!decide (x=.bA))) H1
theorem RelV.GN{x:V}{v:Value}(r:RelV x v):(v==Value.none)=decide (x=.bA):=by
 cases x with
 |bA=>cases r;rfl
 |bl _=>cases r;rfl
 |int _=>obtain⟨t,rfl⟩:=r;rfl
 |str _=>obtain⟨t,rfl⟩:=r;rfl
 |nj _=>obtain⟨t,rfl⟩:=r;rfl
 |Nn _=>obtain⟨t,rfl⟩:=r;rfl
 |ref _=>cases r;rfl
 |ty _=>cases r;rfl
theorem AR{j pos'}(ha:PE X a ta):PC X .Is a (.Constant .none j pos') (Uk ta):=by
 intro pins s σ H Q I h;refine bR (ha pins s σ H _ I h) fun v s1 ⟨x,H1,I1,r1,q1⟩=>?_;exact Constant_none (is_none_gen ⟨.bl _,H1,I1,by rw[r1.GN];rfl,q1⟩)
theorem nX{j pos'}(ha:PE X a ta):PC X .IsNot a (.Constant .none j pos') (Te ta):=by
 intro pins s σ H Q I h;refine bR (ha pins s σ H _ I h) fun v s1 ⟨x,H1,I1,r1,q1⟩=>?_;exact Constant_none (isnot_none_gen ⟨.bl _,H1,I1,by rw[r1.GN];rfl,q1⟩)
def tB(t:TE):TT:=fun σ H Q=>t σ H fun x H1=>∃c,x=.bl c/\Q c H1
theorem MK{op:CmpOp}{t:TE}(h:PC X op a b t)(h1:behindInMarks op b=false:=by first|exact GP _ (by decide) (by decide)|rfl):PE X (.Compare a [op] [b] pos) t:=fun pins s σ H Q I hw=>wpAny_Compare1 (h pins s σ H Q I hw) h1
theorem fJ{op:CmpOp}{t:TE}(h:PC X op a b t)(h1:behindInMarks op b=false:=by first|exact GP _ (by decide) (by decide)|rfl):PT X (.Compare a [op] [b] pos) (tB t):=by
 intro pins s σ H Q I hw;refine wpAny_isTrue_Compare1 (bR (h pins s σ H _ I hw) fun v s1 h1=>bR h1 fun u s2 h2=>bR h2 fun c s3 ⟨x,H1,I1,r1,q1⟩=>?_) h1;obtain⟨d,rfl,q⟩:=q1;cases r1;exact wpAny_truthy_bool ⟨H1,I1,q⟩
theorem gh{e:Expr}{t:TE}(h:PE X e t)(he:∀whole,isTrue e X.env whole=(do let v<-whole;standAt e.pos;holding [v] (truthy v)):=by intro _;rfl):PT X e (tB t):=by
 intro pins s σ H Q I hw;refine isTrue_plain (bR (h pins s σ H _ I hw) fun v s1 ⟨x,H1,I1,r1,q1⟩=>?_) (he _);obtain⟨d,rfl,q⟩:=q1;cases r1;exact wpAny_truthy_bool ⟨H1,I1,q⟩
variable{tA tB':TT}{rest:List Expr}
def RE(t u:TT):TT:=fun σ H Q=>t σ H fun c H1=>if c=true then u σ H1 Q else Q false H1
def U0(t u:TT):TT:=fun σ H Q=>t σ H fun c H1=>if c=true then Q true H1 else u σ H1 Q
def Uh(t:TT):TT:=fun σ H Q=>t σ H fun c H1=>Q (!c) H1
theorem iJ(ha:PT X a tA):PW X (.BoolOp .And [a] pos) tA:=by
 intro wh pins s σ H Q I h;refine isTrue_and (bR (ha pins s σ H Q I h) fun c s1 e=>?_);cases c with
 |true=>exact isTrue_and_nil e
 |false=>exact e
theorem wF(ha:PT X a tA):PW X (.BoolOp .Or [a] pos) tA:=by
 intro wh pins s σ H Q I h;refine isTrue_or (bR (ha pins s σ H Q I h) fun c s1 e=>?_);cases c with
 |false=>exact isTrue_or_nil e
 |true=>exact e
theorem jP(ha:PT X a tA)(hb:PW X (.BoolOp .And (b::rest) pos) tB'):PW X (.BoolOp .And (a::b::rest) pos) (RE tA tB'):=by
 intro wh pins s σ H Q I h;refine isTrue_and (bR (ha pins s σ H _ I h) fun c s1 ⟨H1,I1,q1⟩=>?_);cases c with
 |true=>exact hb wh pins s1 σ H1 Q I1 q1
 |false=>exact⟨H1,I1,q1⟩
theorem AF(ha:PT X a tA)(hb:PW X (.BoolOp .Or (b::rest) pos) tB'):PW X (.BoolOp .Or (a::b::rest) pos) (U0 tA tB'):=by
 intro wh pins s σ H Q I h;refine isTrue_or (bR (ha pins s σ H _ I h) fun c s1 ⟨H1,I1,q1⟩=>?_);cases c with
 |true=>exact⟨H1,I1,q1⟩
 |false=>exact hb wh pins s1 σ H1 Q I1 q1
theorem wK(ha:PT X a tA):PT X (.UnaryOp .Not a pos) (Uh tA):=by
 intro pins s σ H Q I h;exact isTrue_not (ha pins s σ H (fun c H1=>Q (!c) H1) I h)
def Tj(ta tb:TE):TE:=fun σ H Q=>ta σ H fun x H1=>∃c,x=.bl c/\if c=true then tb σ H1 Q else Q (.bl false) H1
def Ug(ta tb:TE):TE:=fun σ H Q=>ta σ H fun x H1=>∃c,x=.bl c/\if c=true then Q (.bl true) H1 else tb σ H1 Q
def Td(ta:TE):TE:=fun σ H Q=>ta σ H fun x H1=>∃c,x=.bl c/\Q (.bl (!c)) H1
theorem Gx{op}{t:TE}(h:PE X a t):PE X (.BoolOp op [a] pos) t:=fun pins s σ H Q I hw=>BoolOp_one (h pins s σ H Q I hw)
theorem RW(ha:PE X a ta)(hb:PE X (.BoolOp .And (b::rest) pos) tb):PE X (.BoolOp .And (a::b::rest) pos) (Tj ta tb):=by
 intro pins s σ H Q I h;refine BoolOp_and (bR (ha pins s σ H _ I h) fun v s1 ⟨x,H1,I1,r1,q1⟩=>?_);obtain⟨c,rfl,q1⟩:=q1;cases r1;refine wpAny_truthy_bool ?_;cases c with
 |true=>exact hb pins s1 σ H1 Q I1 q1
 |false=>exact⟨.bl false,H1,I1,rfl,q1⟩
theorem AO(ha:PE X a ta)(hb:PE X (.BoolOp .Or (b::rest) pos) tb):PE X (.BoolOp .Or (a::b::rest) pos) (Ug ta tb):=by
 intro pins s σ H Q I h;refine BoolOp_or (bR (ha pins s σ H _ I h) fun v s1 ⟨x,H1,I1,r1,q1⟩=>?_);obtain⟨c,rfl,q1⟩:=q1;cases r1;refine wpAny_truthy_bool ?_;cases c with
 |false=>exact hb pins s1 σ H1 Q I1 q1
 |true=>exact⟨.bl true,H1,I1,rfl,q1⟩
theorem RV(ha:PE X a ta):PE X (.UnaryOp .Not a pos) (Td ta):=by
 intro pins s σ H Q I h;refine UnaryOp_ (bR (ha pins s σ H _ I h) fun v s1 ⟨x,H1,I1,r1,q1⟩=>?_);obtain⟨c,rfl,q1⟩:=q1;cases r1;exact not_of (wpAny_truthy_bool ⟨.bl (!c),H1,I1,rfl,q1⟩)
def U1(t:TT)(ta tb:TE):TE:=fun σ H Q=>t σ H fun c H1=>if c=true then ta σ H1 Q else tb σ H1 Q
theorem eV{c:Expr}(hc:PT X c tA)(ha:PE X a ta)(hb:PE X b tb):PE X (.IfExp c a b pos) (U1 tA ta tb):=by
 intro pins s σ H Q I h;refine wpAny_IfExp (bR (hc pins s σ H _ I h) fun d s1 ⟨H1,I1,q1⟩=>?_);cases d with
 |true=>exact ha pins s1 σ H1 Q I1 q1
 |false=>exact hb pins s1 σ H1 Q I1 q1
end
end L2
namespace L2
open PySem PySem.Spec PyProof.Rows
def bY(K:PySem.W.Frag)(H:Hp)(a:Addr)(xs:List V):Prop:=
 Rd H a (.lst xs)\/
  ∃(o:Obj)(its:Array Value)(n:Nat),K.lookup a=some o/\o.cls=.type "list"/\o.dict=none/\o.data=.seq its n/\its.size<=sizeLine/\Vals xs its.toList
def iR(K:PySem.W.Frag)(H:Hp)(a:Addr)(xs:List V):Prop:=
 Rd H a (.tup xs)\/
  ∃(o:Obj)(its:Array Value)(n:Nat),K.lookup a=some o/\o.cls=.type "tuple"/\o.data=.seq its n/\its.size<=sizeLine/\Vals xs its.toList
def US:Value->Option V
 | .none=>some .bA
 | .bool b=>some (.bl b)
 | .int i _=>some (.int i)
 | .str x _=>some (.str x)
 | .bytes b _=>some (.nj b)
 | .float b _=>some (.Nn b)
 | .ref a=>some (.ref a)
 | .type n=>some (.ty n)
 |_=>none
theorem RelV.abs{x:V}{u:Value}(r:RelV x u):US u=some x:=by
 cases x with
 |bA=>cases r;rfl
 |bl _=>cases r;rfl
 |int _=>obtain⟨t,rfl⟩:=r;rfl
 |str _=>obtain⟨t,rfl⟩:=r;rfl
 |nj _=>obtain⟨t,rfl⟩:=r;rfl
 |Nn _=>obtain⟨t,rfl⟩:=r;rfl
 |ref _=>cases r;rfl
 |ty _=>cases r;rfl
theorem RelV.inj{x y:V}{u:Value}(r:RelV x u)(q:RelV y u):x=y:=bG (r.abs.symm.trans q.abs)
theorem Vals.inj:∀{xs ys:List V}{us:List Value},Vals xs us->Vals ys us->xs=ys
 |_,_,_,.nil,.nil=>rfl
 |_,_,_,.cons r t,.cons r' t'=>by rw[r.inj r',Vals.inj t t']
section
variable{X:Cx}{pins:List (Addr×Obj)}{σ:St}{H:Hp}{s:Shared}{a:Addr}{xs ys:List V}
theorem bY.of{K:PySem.W.Frag}(h:H a=some (.lst xs)):bY K H a xs:=.inl (.inl h)
theorem iR.of{K:PySem.W.Frag}(h:H a=some (.tup xs)):iR K H a xs:=.inl (.inl h)
theorem Inv.list(I:Inv X pins σ H s)(h:bY X.K H a xs):∃its:List Value,Vals xs its/\PlainL s.heap a its.toArray/\xs.length<=sizeLine:=by
 rcases h with h|⟨o,its,n,hk,hc,hd,hs,hz,r⟩
 ·obtain⟨z,its,n,r,e⟩:=h.ok I.bT;exact⟨its,r,⟨_,n,e,rfl,rfl,rfl⟩,z⟩
 ·refine⟨its.toList,r,⟨o,n,I.jV a o hk,hc,hd,by simpa using hs⟩,?_⟩;have e:=r.length;simp only[ny]at e;omega
theorem Inv.tuple(I:Inv X pins σ H s)(h:iR X.K H a xs):∃its:List Value,Vals xs its/\IsTup s.heap a its.toArray/\xs.length<=sizeLine:=by
 rcases h with h|⟨o,its,n,hk,hc,hs,hz,r⟩
 ·obtain⟨z,its,r,p⟩:=h.ok I.bT;exact⟨its,r,p,z⟩
 ·refine⟨its.toList,r,⟨o,I.jV a o hk,hc,n,by simpa using hs⟩,?_⟩;have e:=r.length;simp only[ny]at e;omega
theorem Inv.G4(I:Inv X pins σ H s)(h:bY X.K H a xs)(h':bY X.K H a ys):xs=ys:=by
 obtain⟨its,r,⟨o,n,e,_,_,d⟩,_⟩:=I.list h;obtain⟨its',r',⟨o',n',e',_,_,d'⟩,_⟩:=I.list h';rw[e]at e';cases e';rw[d]at d';injection d' with d1 _
 have:its=its':=by simpa using congrArg Array.toList d1
 subst this;exact r.inj r'
end
abbrev Cx.r8(X:Cx)(E:Value->Shared->Prop):Cx:={X with xe:=E}
abbrev Cx.GK(X:Cx):Cx:=X.r8 fun _ _=>False
theorem Cx.Ok.r8{X:Cx}(ok:X.Ok)(E:Value->Shared->Prop):(X.r8 E).Ok:=
 ⟨ok.mod,ok.kind,ok.glob,ok.blt,ok.above,ok.inj,ok.has,ok.NH,ok.hd,ok.frames,ok.PM,ok.PY,ok.bs,ok.BR,ok.GO,ok.Hq,ok.pC,ok.Hh⟩
theorem Cx.Ok.oO{X:Cx}{E:Value->Shared->Prop}(ok:(X.r8 E).Ok):X.Ok:=
 ⟨ok.mod,ok.kind,ok.glob,ok.blt,ok.above,ok.inj,ok.has,ok.NH,ok.hd,ok.frames,ok.PM,ok.PY,ok.bs,ok.BR,ok.GO,ok.Hq,ok.pC,ok.Hh⟩
section
variable{X:Cx}{pins:List (Addr×Obj)}{σ:St}{H:Hp}{s:Shared}{E:Value->Shared->Prop}
theorem Inv.r8(I:Inv X pins σ H s)(E:Value->Shared->Prop):Inv (X.r8 E) pins σ H s:=⟨I.ok.r8 E,I.os,I.bare,I.base,I.loc,I.cell,I.free,I.m8,I.pin,I.bT,I.len⟩
theorem Inv.oO(I:Inv (X.r8 E) pins σ H s):Inv X pins σ H s:=⟨I.ok.oO,I.os,I.bare,I.base,I.loc,I.cell,I.free,I.m8,I.pin,I.bT,I.len⟩
theorem SP.oO{D:Ends}{f:Flow}{s':Shared}(h:SP (X.r8 E) pins D f s'):SP X pins D f s':=by
 cases f with
 |next=>obtain⟨σ',H',I,q⟩:=h;exact⟨σ',H',I.oO,q⟩
 |brk=>obtain⟨σ',H',I,q⟩:=h;exact⟨σ',H',I.oO,q⟩
 |cont=>obtain⟨σ',H',I,q⟩:=h;exact⟨σ',H',I.oO,q⟩
 |ret u=>obtain⟨v,σ',H',I,r,q⟩:=h;exact⟨v,σ',H',I.oO,r,q⟩
theorem qU.GK{st:List Stmt}{t:TS}(h:qU X.GK st t):qU X st t:=fun pins s σ H D I hw=>
 wpAny_mono (h pins s σ H D (I.r8 _) hw) (fun _ _ q=>q.oO) fun _ _ z=>False.elim z
end
section
variable{X:Cx}{st:Stmt}{rest:List Stmt}{t u:TS}{e:Expr}{te:TE}{pos:Pos}
def PL:TS:=fun D σ H=>D.nx σ H
def Rv(t u:TS):TS:=fun D σ H=>t {D with nx:=u D} σ H
theorem aQ:qU X [] PL:=fun _ _ σ H _ I h=>wpAny_execs_nil ⟨σ,H,I,h⟩
theorem ae(h1:PS X st t)(h2:qU X rest u):qU X (st::rest) (Rv t u):=by
 intro pins s σ H D I h;refine wpAny_execs_cons (bR (h1 pins s σ H {D with nx:=u D} I h) fun f s1 q=>?_);cases f with
 |next=>
  obtain⟨σ',H',I',q⟩:=q;exact h2 pins s1 σ' H' D I' q
 |ret v=>exact q
 |brk=>exact q
 |cont=>exact q
theorem ak(h1:PS X st t):qU X [st] t:=by
 intro pins s σ H D I h;refine wpAny_execs_cons (bR (h1 pins s σ H D I h) fun f s1 q=>?_);cases f with
 |next=>exact wpAny_execs_nil q
 |ret v=>exact q
 |brk=>exact q
 |cont=>exact q
def Ti:TS:=fun D σ H=>D.ct σ H
theorem IA:PS X (.Continue pos) Ti:=fun _ _ σ H _ I h=>wpAny_Continue ⟨σ,H,I,h⟩
theorem Inv.quiet{pins:List (Addr×Obj)}{σ:St}{H:Hp}{s:Shared}(I:Inv X pins σ H s):interactive X.env=false:=by simp[interactive,I.ok.kind]
def Tg(te:TE):TS:=fun D σ H=>te σ H fun _ H1=>D.nx σ H1
theorem cN(he:PE X e te)(hs:swapsWith e none pos.line X.env=pure false:=by rfl):PS X (.Expr e pos) (Tg te):=by
 intro pins s σ H D I h;exact wpAny_Expr_any (bR (he pins s σ H _ I h) fun v s1 ⟨x,H1,I1,r1,q1⟩=>⟨σ,H1,I1,q1⟩) I.quiet hs
def Kr(te:TE):TS:=fun D σ H=>te σ H D.rt
theorem aF(he:PE X e te):PS X (.Return (some e) pos) (Kr te):=by
 intro pins s σ H D I h;exact wpAny_Return_some (bR (he pins s σ H _ I h) fun v s1 ⟨x,H1,I1,r1,q1⟩=>⟨x,σ,H1,I1,r1,q1⟩)
def Ry(c:TT)(t u:TS):TS:=fun D σ H=>c σ H fun b H1=>if b=true then t D σ H1 else u D σ H1
theorem bg{c:Expr}{a b:List Stmt}{tc:TT}(hc:PT X c tc)(ha:qU X a t)(hb:qU X b u):PS X (.If c a b pos) (Ry tc t u):=by
 intro pins s σ H D I h;refine wpAny_If (bR (hc pins s σ H _ I h) fun d s1 ⟨H1,I1,q1⟩=>?_);cases d with
 |true=>exact ha pins s1 σ H1 D I1 q1
 |false=>exact hb pins s1 σ H1 D I1 q1
def Rw:TS:=fun _ _ _=>False
theorem OC:PS X st Rw:=fun _ _ _ _ _ _ h=>h.elim
end
abbrev TG:=V->St->Hp->(St->Hp->Prop)->Prop
abbrev HP:=List V->St->Hp->(St->Hp->Prop)->Prop
def PG(X:Cx)(target:Expr)(t:TG):Prop:=
 ∀(pins:List (Addr×Obj))(s:Shared)(σ:St)(H:Hp)(v:V)(u:Value)(Q:St->Hp->Prop),Inv X pins σ H s->RelV v u->t v σ H Q->
  wpAny (model X.prog X.w) X.A (assign target X.env u) (fun _ s'=>∃σ' H',Inv X pins σ' H' s'/\Q σ' H') X.xe s
def P4(X:Cx)(ts:List Expr)(t:HP):Prop:=
 ∀(pins:List (Addr×Obj))(s:Shared)(σ:St)(H:Hp)(vs:List V)(us:List Value)(Q:St->Hp->Prop),Inv X pins σ H s->Vals vs us->t vs σ H Q->
  wpAny (model X.prog X.w) X.A (assignInOrder ((assignEach ts X.env).map (·.2)) us) (fun _ s'=>∃σ' H',Inv X pins σ' H' s'/\Q σ' H') X.xe s
abbrev Pz:=V->V->V->Hp->(Hp->Prop)->Prop
def SY(X:Cx)(t:Pz):Prop:=
 ∀(pins:List (Addr×Obj))(s:Shared)(σ:St)(H:Hp)(o i v:V)(ov iv u:Value)(Q:Hp->Prop),Inv X pins σ H s->RelV o ov->RelV i iv->RelV v u->t o i v H Q->
  wpAny (model X.prog X.w) X.A (setItem ov iv u) (fun _ s'=>∃H',Inv X pins σ H' s'/\Q H') X.xe s
abbrev P2:=V->V->Hp->VK->Prop
def Ua(X:Cx)(op:Operator)(t:P2):Prop:=
 ∀(pins:List (Addr×Obj))(s:Shared)(σ:St)(H:Hp)(x y:V)(v u:Value)(Q:VK),Inv X pins σ H s->RelV x v->RelV y u->t x y H Q->
  wpAny (model X.prog X.w) X.A (inplaceOp op v u) (EP X pins σ Q) X.xe s
section
variable{X:Cx}{pos:Pos}
def FI(i:Nat):TG:=fun v σ H Q=>Q (σ.set i (some v)) H
theorem dX{i:Nat}{x:Str}(hN:X.N.Nodup)(hi:X.N[i]? =some x)(hx:Loc X.env.scope x)(hf:X.fn x=true\/X.env.scope.names.lookup x=some .local:=by first|exact .inl rfl|exact .inr rfl|assumption):PG X (.Name x pos) (FI i):=by
 intro pins s σ H v u Q I r h;exact wpAny_assign_Name (zi I hN hi hx r (fun s' I'=>⟨_,H,I',h⟩) hf)
def Sx:HP:=fun vs σ H Q=>vs=[]/\Q σ H
def Ly(t:TG)(u:HP):HP:=fun vs σ H Q=>∃v r,vs=v::r/\t v σ H fun σ' H'=>u r σ' H' Q
theorem sY:P4 X [] Sx:=by
 intro pins s σ H vs us Q I r h;obtain⟨e,h⟩:=h;subst e;cases r;exact assignInOrder_nil ⟨σ,H,I,h⟩
theorem iA{e:Expr}{es:List Expr}{t:TG}{u:HP}(h1:PG X e t)(h2:P4 X es u)
  (hs:(assignEach (e::es) X.env).map (·.2)=assign e X.env::(assignEach es X.env).map (·.2):=by rfl):P4 X (e::es) (Ly t u):=by
 intro pins s σ H vs us Q I r h;obtain⟨v,vr,e1,h⟩:=h;subst e1;cases r with
 |cons r rr=>
  rw[hs];refine assignInOrder_cons (bR (h1 pins s σ H _ _ _ I r h) fun _ s1 ⟨σ1,H1,I1,q1⟩=>?_);exact h2 pins s1 σ1 H1 _ _ Q I1 rr q1
def Sw(K:PySem.W.Frag)(n:Nat)(t:HP):TG:=fun v σ H Q=>∃a xs,v=.ref a/\iR K H a xs/\xs.length=n/\t xs σ H Q
theorem wN{es:List Expr}{k:Nat}{t:HP}{n:Nat}(hc:X.calm=true)(h:P4 X es t)
  (hn:(assignEach es X.env).length=n:=by rfl) (hst:(assignEach es X.env).findIdx? (·.1)=none:=by rfl):PG X (.Tuple es k pos) (Sw X.K n t):=by
 intro pins s σ H v u Q I r hw;obtain⟨a,xs,e1,hq,hl,hw⟩:=hw;subst e1;cases r;obtain⟨its,rv,ht,hz⟩:=I.tuple hq;refine assign_Tuple_tuple (I.ok.hd hc) ht (by simp[hn,<-hl,rv.length]) hst fun h' hx=>?_;have I1:Inv X pins σ H {s with heap:=h'}:=I.kept (t':=s.toks) fun b o e=>hx b o (cU (Heap.lt_size e)) e;exact h pins _ σ H xs _ Q I1 (by simpa using rv) hw
def UI(to ti:TE)(t:Pz):TG:=fun v σ H Q=>to σ H fun o H1=>ti σ H1 fun i H2=>t o i v H2 fun H3=>Q σ H3
theorem MJ{o i:Expr}{to ti:TE}{t:Pz}(ho:PE X o to)(hi:PE X i ti)(hs:SY X t)
  (ha:∀v,assign (.Subscript o i pos) X.env v=(do
   let ov<-holding [v] (eval o X.env)
   let iv<-holding [v,ov] (eval i X.env)
   standAt pos
   holding [v,ov,iv] (setItem ov iv v)
   release [v,ov,iv] []):=by intro _;rfl):PG X (.Subscript o i pos) (UI to ti t):=by
 intro pins s σ H v u Q I r h;rw[ha];refine wpAny_bind (wpAny_holding (bR (ho pins s σ H _ I h) fun ov s1 ⟨x,H1,I1,r1,q1⟩=>?_));refine wpAny_bind (wpAny_holding (bR (hi pins s1 σ H1 _ I1 q1) fun iv s2 ⟨y,H2,I2,r2,q2⟩=>?_));refine wpAny_bind (wpAny_standAt (wpAny_bind (wpAny_holding (bR (hs pins s2 σ H2 x y v ov iv u _ I2 r1 r2 r q2) fun _ s3 ⟨H3,I3,q3⟩=>?_))));exact wpAny_release ⟨σ,H3,I3,q3⟩
def RD(te:TE)(g:TG):TS:=fun D σ H=>te σ H fun x H1=>g x σ H1 D.nx
theorem MG{tg e:Expr}{te:TE}{g:TG}(he:PE X e te)(hg:PG X tg g)(hs:swapsWithSole [tg] e pos.line X.env=pure false:=by rfl)(hw:swappedStores [tg] e X.env=pure none:=by rfl)
  (h1:(assignEach [tg] X.env).map (·.2)=[assign tg X.env]:=by rfl):PS X (.Assign [tg] e pos) (RD te g):=by
 intro pins s σ H D I h;refine wpAny_Assign_stores (bR (he pins s σ H _ I h) fun v s1 ⟨x,H1,I1,r1,q1⟩=>?_) hs hw;rw[h1];exact bR (hg pins s1 σ H1 x v _ I1 r1 q1) fun _ s2 q=>q
theorem bp{i:Nat}{x:Str}{e:Expr}{te:TE}{pos':Pos}(hN:X.N.Nodup)(hi:X.N[i]? =some x)(hx:Loc X.env.scope x)(he:PE X e te)(hs:swapsWith e (some (.Name x pos')) pos.line X.env=pure false:=by rfl)(hf:X.fn x=true\/X.env.scope.names.lookup x=some .local:=by first|exact .inl rfl|exact .inr rfl|assumption):
  PS X (.Assign [.Name x pos'] e pos) (RD te (FI i)):=by
 intro pins s σ H D I h;refine wpAny_Assign_Name (bR (he pins s σ H _ I h) fun v s1 ⟨y,H1,I1,r1,q1⟩=>?_) hs;exact zi I1 hN hi hx r1 (fun s2 I2=>⟨_,H1,I2,q1⟩) hf
def Uq(i:Nat)(te:TE)(ti:P2):TS:=fun D σ H=>∃x,σ[i]? =some (some x)/\te σ H fun y H1=>ti x y H1 fun z H2=>D.nx (σ.set i (some z)) H2
theorem wL{i:Nat}{x:Str}{e:Expr}{te:TE}{op:Operator}{ti:P2}{pos':Pos}(hN:X.N.Nodup)(hi:X.N[i]? =some x)(hx:Loc X.env.scope x)(he:PE X e te)(ho:Ua X op ti)(hf:X.fn x=true\/X.env.scope.names.lookup x=some .local:=by first|exact .inl rfl|exact .inr rfl|assumption):
  PS X (.AugAssign (.Name x pos') op e pos) (Uq i te ti):=by
 intro pins s σ H D I h;obtain⟨v,e1,h⟩:=h;obtain⟨m,hn,hl⟩:=I.loc;have vis:Kf X.env.scope x:=by rcases hx with k|k;exact .inl k;exact .inr (.inl k)
 obtain⟨u,r,l⟩:=hl i x v hi e1 vis;refine wpAny_AugAssign_Name ?_;have go:wpAny (model X.prog X.w) X.A (eval e X.env) (fun w s₂=>wpAny (model X.prog X.w) X.A (inplaceOp op u w) (fun r s₃=>wpAny (model X.prog X.w) X.A (storeName X.env x r) (fun _=>SP X pins D .next) X.xe s₃) X.xe s₂) X.xe s:=by
  refine bR (he pins s σ H _ I h) fun w s1 ⟨y,H1,I1,r1,q1⟩=>?_;refine bR (ho pins s1 σ H1 v y u w _ I1 r r1 q1) fun z s2 ⟨zv,H2,I2,r2,q2⟩=>?_;exact zi I2 hN hi hx r2 (fun s3 I3=>⟨_,H2,I3,q2⟩) hf
 rcases l with⟨hk,hm⟩|⟨hk,c,hc,hcell⟩
 ·exact wpAny_loadName_local I.ok.kind hk hn hm go
 ·rcases hk with hk|hk
  ·exact wpAny_loadName_cell I.ok.kind hk hc hcell go
  ·rcases hx with k|k
   ·have:X.env.scope.names.lookup x=some .free:=hk;rw[k]at this;cases this
   ·have:X.env.scope.names.lookup x=some .free:=hk;rw[k]at this;cases this
def U5(f:Int->Int->Int):P2:=fun x y H Q=>∃i j,x=.int i/\y=.int j/\Q (.int (f i j)) H
theorem wZ:Ua X .Add (U5 fun i j=>i+j):=by
 intro pins s σ H x y v u Q I r1 r2 h;obtain⟨i,j,e1,e2,q⟩:=h;subst e1;subst e2;obtain⟨t,rfl⟩:=r1;obtain⟨t',rfl⟩:=r2;exact iadd_int ⟨.int _,H,I.tok _,⟨_,rfl⟩,q⟩
end
section
variable{X:Cx}{pos:Pos}
def Ru(c:TT)(tb:TS):TS:=fun D σ H=>∃W:Nat->St->Hp->Prop,(∃m,W m σ H)/\∀m σ H,W m σ H->
 c σ H fun b H1=>if b=true then ∃N:St->Hp->Prop,(∀σ' H',N σ' H'->∃m',m'<m/\W m' σ' H')/\tb {D with nx:=N,ct:=N,bk:=D.nx} σ H1 else D.nx σ H1
theorem nS{c:Expr}{body:List Stmt}{tc:TT}{tb:TS}(hp:PassesOwn (model X.prog X.w) X.A X.env X.xe)(hc:PT X c tc)(hb:qU X body tb):PS X (.While c body [] pos) (Ru tc tb):=by
 intro pins s σ H D I h;obtain⟨W,⟨m0,w0⟩,turn⟩:=h;refine wpAny_While (codeAny_whileLoop (fun n s'=>∃σ' H',Inv X pins σ' H' s'/\W n σ' H') ?_ m0 ⟨σ,H,I,w0⟩);rintro n s1 ⟨σ1,H1,I1,w1⟩;refine wpAny_passesOwn hp (bR (hc pins s1 σ1 H1 _ I1 (turn n σ1 H1 w1)) fun b s2 ⟨H2,I2,q2⟩=>?_);cases b with
 |true=>
  obtain⟨N,hN,q2⟩:=q2;rw[ai rfl];refine wpAny_passesOwn hp (bR (hb pins s2 σ1 H2 _ I2 q2) fun f s3 q3=>?_);cases f with
  |next=>
   obtain⟨σ3,H3,I3,n3⟩:=q3;obtain⟨m',hm,w3⟩:=hN σ3 H3 n3;exact⟨m',hm,σ3,H3,I3,w3⟩
  |cont=>
   obtain⟨σ3,H3,I3,n3⟩:=q3;obtain⟨m',hm,w3⟩:=hN σ3 H3 n3;exact⟨m',hm,σ3,H3,I3,w3⟩
  |brk=>exact q3
  |ret v=>exact q3
 |false=>
  rw[af aE];exact wpAny_execs_nil ⟨σ1,H2,I2,q2⟩
end
structure It where
 go:Nat->Hp->Prop
 FR:Nat->Hp->V->Hp->Prop
 stop:Nat->Hp->Prop
def qW(X:Cx)(pins:List (Addr×Obj))(H:Hp)(b:Addr):Prop:=
 H b=none/\b≠X.env.locals/\b∉X.fs/\(b∈X.ex\/X.l6.heap.objs.size<=b)/\(∀x c,X.env.cells.lookup x=some c->c≠b)/\∀p∈X.pn++pins,p.1≠b
theorem Inv.Hi{X:Cx}{pins:List (Addr×Obj)}{σ:St}{H H':Hp}{s:Shared}{b:Addr}(I:Inv X pins σ H s)(hb:s.heap.objs.size<=b)(hn:H' b=none):qW X pins H' b:=by
 refine⟨hn,Nat.ne_of_gt (bD I.lt hb),I.UC hb,.inr (ck I.sz hb),fun x c e z=>?_,fun p hp z=>?_⟩
 ·obtain⟨v,q⟩:=I.cell x c e;exact absurd (bD q.lt (by rw[z];exact hb)) (eQ _)
 ·exact absurd (bD (Heap.lt_size (I.pin p hp).1) (by rw[z];exact hb)) (eQ _)
structure Turn(P:Program)(w:World)(K:PySem.W.Frag)(tg:Expr)(J:It)(fp:List Addr)(it:Addr)(tn:Nat->Heap->Prop):Prop where
 mem:it∈fp
 obj:∀i h,tn i h->∀b∈fp,∃o,h.get? b=some o/\∀v,o.data≠.cell v
 keep:∀i h h',tn i h->(∀b∈fp,∀o,h.get? b=some o->h'.get? b=some o)->tn i h'
 item:∀(X:Cx),X.prog=P->X.w=w->X.K=K->X.calm=true->∀(i:Nat)(pins:List (Addr×Obj))(s:Shared)(σ:St)(H:Hp)(E:Value->Shared->Prop),Inv X pins σ H s->(∀b∈fp,qW X pins H b)->tn i s.heap->J.go i H->
  wpAny (model P w) X.A (pyNext (.ref it)) (fun r s1=>∃u,r=some u/\
   wpAny (model P w) X.A (letOwnedTupleGo tg (.ref it) u) (fun _ s2=>∃x H',Inv X pins σ H' s2/\RelV x u/\J.FR i H x H'/\tn (i+1) s2.heap/\∀b∈fp,H' b=none) E s1) E s
 done:∀(X:Cx),X.prog=P->X.w=w->X.K=K->X.calm=true->∀(i:Nat)(pins:List (Addr×Obj))(s:Shared)(σ:St)(H:Hp)(E:Value->Shared->Prop),Inv X pins σ H s->(∀b∈fp,qW X pins H b)->tn i s.heap->J.stop i H->
  wpAny (model P w) X.A (pyNext (.ref it)) (fun r s1=>r=none/\Inv X pins σ H s1) E s
 self:∀(A:Around)(i:Nat)(s:Shared)(Q:Value->Shared->Prop)(E:Value->Shared->Prop),tn i s.heap->Q (.ref it) s->wpAny (model P w) A (pyIter (.ref it)) Q E s
abbrev TI:=St->Hp->(It->Hp->Prop)->Prop
def S0(X:Cx)(pins:List (Addr×Obj))(σ:St)(tg:Expr)(R:It->Hp->Prop)(itv:Value)(s2:Shared):Prop:=
 ∃(it:Addr)(fp:List Addr)(tn:Nat->Heap->Prop)(J:It)(H':Hp),itv=.ref it/\Inv X pins σ H' s2/\Turn X.prog X.w X.K tg J fp it tn/\tn 0 s2.heap/\(∀b∈fp,qW X pins H' b)/\R J H'
def PI(X:Cx)(tg iter:Expr)(wi:TI):Prop:=
 ∀(pins:List (Addr×Obj))(s:Shared)(σ:St)(H:Hp)(R:It->Hp->Prop),Inv X pins σ H s->wi σ H R->
  wpAny (model X.prog X.w) X.A (eval iter X.env) (fun v s1=>wpAny (model X.prog X.w) X.A (pyIter v) (S0 X pins σ tg R) X.xe s1) X.xe s
theorem Lq {M : Model} {A : Around} {E : Value → Shared → Prop} {s : Shared} {tg : Expr} {it : Addr} {u : Value} {o : Obj} {n : String} {vs : Array Value} {Q : Unit → Shared → Prop} (ho : s.heap.get? it = some o) (hc : o.cls = .type n) (hd : o.data = .fields vs)
    (hn : ["enumerate", "zip", "dict_itemiterator", "dict_reverseitemiterator", "odict_iterator", "itertools.zip_longest", "itertools.pairwise"].contains n = false) (hQ : Q () s) : wpAny M A (letOwnedTupleGo tg (.ref it) u) Q E s := by
  unfold letOwnedTupleGo
  cases tg <;> first
    | exact wpAny_pure hQ
    | (cases u <;> first
        | exact wpAny_pure hQ
        | (refine wpAny_bind (wpAny_load ho ?_)
           rw [hc, hd]
           show wpAny M A (if (["enumerate", "zip", "dict_itemiterator", "dict_reverseitemiterator", "odict_iterator", "itertools.zip_longest", "itertools.pairwise"].contains n && vs[0]? == some (rawInt _)) = true then _ else _) Q E s
           rw [af (by intro h; rw [hn, Bool.false_and] at h; cases h)]
           exact wpAny_pure hQ))
def ED(K:PySem.W.Frag)(a:Addr):It:=
 ⟨fun i H=>∃xs x,bY K H a xs/\xs[i]? =some x,fun i H x H'=>H'=H/\∀xs,bY K H a xs->xs[i]? =some x,fun i H=>∃xs,bY K H a xs/\xs.length<=i⟩
def Kh(lo:Int)(n:Nat):It:=⟨fun i _=>i<n,fun i H x H'=>H'=H/\x=.int (lo+i),fun i _=>n<=i⟩
theorem Mc{P:Program}{w:World}{K:PySem.W.Frag}{tg:Expr}(a it:Addr):Turn P w K tg (ED K a) [it] it (fun i h=>h.IsListIter it a i) where
 mem:=by simp
 obj:=fun i h st b hb=>by
  have e:b=it:=by simpa using hb
  subst e;obtain⟨o,e,c,d⟩:=st;exact⟨o,e,fun v z=>by rw[d]at z;cases z⟩
 keep:=fun i h h' st k=>st.at fun o e=>k it (by simp) o e
 item:=by
  intro X hP hw hK hc i pins s σ H E I hf st hg;subst hP hw hK;obtain⟨xs,x,hq,hx⟩:=hg;obtain⟨its,rv,p,hz⟩:=I.list hq;obtain⟨u,hu,ru⟩:=rv.get hx;obtain⟨f0,f1,f2,f3,f4,f5⟩:=hf it (by simp);refine wpAny_pyNext_list_item st p.isList (x:=u) (by simpa using hu) fun h' st' sb=>?_;have I1:Inv X pins σ H {s with heap:=h'}:=I.turned (t':=s.toks) (fun b o hb e=>(sb.2 b hb).trans e) f0 f1 f3 f4 f5;obtain⟨o,e,c,d⟩:=id st';exact⟨u,rfl,Lq (s:={s with heap:=h'}) e c d (by decide) ⟨x,H,I1,ru,⟨rfl,fun ys hy=>by rw[I.G4 hy hq];exact hx⟩,st',fun b hb=>(hf b hb).1⟩⟩
 done:=by
  intro X hP hw hK hc i pins s σ H E I hf st hg;subst hP hw hK;obtain⟨xs,hq,hx⟩:=hg;obtain⟨its,rv,p,hz⟩:=I.list hq;obtain⟨f0,f1,f2,f3,f4,f5⟩:=hf it (by simp);have hl:=rv.length;exact wpAny_pyNext_list_end (I.ok.hd hc) st p.isList (by simp;omega) fun h' eb=>⟨rfl,I.turned (t':=s.toks) (fun b o hb e=>eb b o hb e) f0 f1 f3 f4 f5⟩
 self:=fun _ _ _ _ _ st h=>wpAny_pyIter_listiter st h
theorem Km{P:Program}{w:World}{K:PySem.W.Frag}{tg:Expr}(it:Addr)(lo:Int)(n:Nat):Turn P w K tg (Kh lo n) [it] it (fun i h=>IsRangeIter h it (lo+(i:Nat)*1) ((n:Int) - (i:Nat)) 1) where
 mem:=by simp
 obj:=fun i h st b hb=>by
  have e:b=it:=by simpa using hb
  subst e;exact⟨_,st,fun v z=>by
   have z':Data.fields _=Data.cell v:=z;cases z'⟩
 keep:=fun i h h' st k=>k it (by simp) _ st
 item:=by
  intro X hP hw hK hc i pins s σ H E I hf st hg;subst hP hw hK;obtain⟨f0,f1,f2,f3,f4,f5⟩:=hf it (by simp);have W:=Walks.range (prog:=X.prog) (w:=X.w) (I.ok.hd hc) it lo 1 n;refine W.item i s _ _ hg st fun v h' tk hv st' kk=>?_;obtain⟨t,rfl⟩:=hv;have I1:Inv X pins σ H {s with heap:=h',toks:=tk}:=I.turned (fun b o hb e=>kk b o (by simpa using hb) e) f0 f1 f3 f4 f5;refine⟨_,rfl,Lq (s:={s with heap:=h',toks:=tk}) (n:="range_iterator") st' rfl rfl (by decide) ⟨.int (lo+i),H,I1,⟨t,?_⟩,⟨rfl,rfl⟩,st',fun b hb=>(hf b hb).1⟩⟩;rw[Int.mul_one]
 done:=by
  intro X hP hw hK hc i pins s σ H E I hf st hg;subst hP hw hK;obtain⟨f0,f1,f2,f3,f4,f5⟩:=hf it (by simp);exact wpAny_pyNext_range_end (I.ok.hd hc) st (by have:n<=i:=hg;omega) fun h' eb=>⟨rfl,I.turned (t':=s.toks) (fun b o hb e=>eb b o hb e) f0 f1 f3 f4 f5⟩
 self:=fun _ _ _ _ _ st h=>wpAny_pyIter_rangeiter st h
end L2
namespace L2
open PySem PySem.Spec PyProof.Rows
section
variable{X:Cx}{tg:Expr}
def TK(K:PySem.W.Frag)(tl:TE):TI:=fun σ H R=>tl σ H fun x H1=>∃a,x=.ref a/\(∃xs,bY K H1 a xs)/\R (ED K a) H1
theorem l9{l:Expr}{tl:TE}(hl:PE X l tl):PI X tg l (TK X.K tl):=by
 intro pins s σ H R I h;refine bR (hl pins s σ H _ I h) fun v s1 ⟨x,H1,I1,r1,q1⟩=>?_;obtain⟨a,e,⟨xs,hq⟩,q⟩:=q1;subst e;cases r1;obtain⟨its,rv,p,hz⟩:=I1.list hq;refine wpAny_pyIter_list p.isList ?_;refine⟨s1.heap.objs.size,[s1.heap.objs.size],_,_,H1,rfl,I1.kept (t':=s1.toks) fun b o e=>Heap.get?_push_of_some _ e,Mc a _,⟨_,Heap.get?_push_size _ rfl,rfl,rfl⟩,fun b hb=>?_,q⟩;have e:b=s1.heap.objs.size:=by simpa using hb
 subst e;exact I1.Hi (aD _) (I1.bT.fresh (aD _))
theorem OA{pins:List (Addr×Obj)}{σ:St}{H:Hp}{s:Shared}{R:It->Hp->Prop}{E:Value->Shared->Prop}{lo hi:Int}{t u v:Tok}{tk:Nat}(I:Inv X pins σ H s)(h1: -(2^62)<=lo)(h2:lo<2^62)(h3: -(2^62)<=hi)(h4:hi<2^62)
  (q:R (Kh lo (hi - lo).toNat) H):wpAny (model X.prog X.w) X.A (pyIter (.ref s.heap.objs.size)) (S0 X pins σ tg R) E {s with heap:=s.heap.push {cls:=.type "range",data:=.fields #[.int lo t,.int hi u,.int 1 v]},toks:=tk}:=by
 refine wpAny_pyIter_range (IsRange.new ..) (small_one h1 h2 h3 h4) ?_;have I1:Inv X pins σ H {s with heap:=s.heap.push {cls:=.type "range",data:=.fields #[.int lo t,.int hi u,.int 1 v]},toks:=tk}:=I.kept fun b o e=>Heap.get?_push_of_some _ e;refine⟨(s.heap.push {cls:=.type "range",data:=.fields #[.int lo t,.int hi u,.int 1 v]}).objs.size,[(s.heap.push {cls:=.type "range",data:=.fields #[.int lo t,.int hi u,.int 1 v]}).objs.size],_,_,H,rfl,
  I1.kept (t':=tk) fun b o e=>Heap.get?_push_of_some _ e,Km _ lo (hi - lo).toNat,?_,fun b hb=>?_,q⟩
 ·have e1:lo+((0:Nat):Int)*1=lo:=by simp
  have e2:(((hi - lo).toNat:Nat):Int) - ((0:Nat):Int)=Builtin.Range.rangeSize lo hi 1:=by rw[rangeSize_one];split<;>omega
  show IsRangeIter _ _ (lo+((0:Nat):Int)*1) ((((hi - lo).toNat:Nat):Int) - ((0:Nat):Int)) 1;rw[e1,e2];exact Heap.get?_push_size _ rfl
 ·have e:b=(s.heap.push {cls:=.type "range",data:=.fields #[.int lo t,.int hi u,.int 1 v]}).objs.size:=by simpa using hb
  subst e;exact I1.Hi (aD _) (I1.bT.fresh (aD _))
def TJ(ta:TA):TI:=fun σ H R=>ta σ H fun vs H1=>∃i j:Int,vs=[.int i,.int j]/\(-(2^62)<=i/\i<2^62∧-(2^62)<=j/\j<2^62)/\R (Kh i (j - i).toNat) H1
theorem MH{a b:Expr}{ta:TA}{p pos:Pos}(hg:Gl X "range")(hm:X.mg "range"=none)(ha:PA X [a,b] ta)(hs:starEach [a,b] X.env=[(false,eval a X.env),(false,eval b X.env)]:=by rfl)(hs2:starEach [b] X.env=[(false,eval b X.env)]:=by rfl):
  PI X tg (.Call (.Name "range" p) [a,b] [] pos) (TJ ta):=by
 intro pins s σ H R I h;refine Call_ (Bg I hg hm boot_range (iT (bR (ha pos pins s σ H _ I h) fun us s1 ⟨vs,H1,I1,r1,q1⟩=>?_) (by rw[hs,hs2]) (by rw[hs2];rfl)));obtain⟨i,j,e,⟨q1,q2,q3,q4⟩,q⟩:=q1;subst e;cases r1 with
 |cons r rr=>
  cases rr with
  |cons r' rr=>
   cases rr;obtain⟨t,rfl⟩:=r;obtain⟨t',rfl⟩:=r';exact call_range_2 (OA I1 q1 q2 q3 q4 q)
def Ul(wi:TI)(g:TG)(tb:TS):TS:=fun D σ H=>wi σ H fun J H1=>∃W:Nat->Nat->St->Hp->Prop,(∃m,W 0 m σ H1)/\∀i m σ H,W i m σ H->
 (J.stop i H/\D.nx σ H)\/(J.go i H/\∃N:St->Hp->Prop,(∀σ' H',N σ' H'->∃m',m'<m/\W (i+1) m' σ' H')/\∀x H',J.FR i H x H'->g x σ H' fun σ2 H2=>tb {D with nx:=N,ct:=N,bk:=D.nx} σ2 H2)
def wM(fp:List Addr)(h:Heap):List (Addr×Obj):=fp.filterMap fun b=>(h.get? b).map fun o=>(b,o)
theorem uC{fp:List Addr}{h:Heap}{b:Addr}{o:Obj}(hb:b∈fp)(e:h.get? b=some o):(b,o)∈wM fp h:=List.mem_filterMap.mpr ⟨b,hb,by rw[e];rfl⟩
theorem MT{fp:List Addr}{h:Heap}{p:Addr×Obj}(hp:p∈wM fp h):p.1∈fp/\h.get? p.1=some p.2:=by
 obtain⟨b,hb,e⟩:=List.mem_filterMap.mp hp;cases q:h.get? b with
 |none=>rw[q]at e;cases e
 |some o=>
  rw[q]at e;have e':(b,o)=p:=bG e;subst e';exact⟨hb,q⟩
theorem Inv.pinned{pins:List (Addr×Obj)}{σ:St}{H:Hp}{s:Shared}{fp:List Addr}(I:Inv X pins σ H s)(hf:∀b∈fp,qW X pins H b)(ho:∀b∈fp,∃o,s.heap.get? b=some o/\∀v,o.data≠.cell v):Inv X (pins++wM fp s.heap) σ H s:=
 I.JE fun p hp=>(bU.mp hp).elim (fun z=>I.pin p (aU _ z)) fun z=>by
  obtain⟨hb,e⟩:=MT z;obtain⟨f0,f1,f2,_⟩:=hf p.1 hb;obtain⟨o,e',d⟩:=ho p.1 hb;rw[e]at e';cases e';exact⟨e,f0,f1,f2,d⟩
theorem Inv.t9{pins pl:List (Addr×Obj)}{σ:St}{H:Hp}{s:Shared}(I:Inv X (pins++pl) σ H s):Inv X pins σ H s:=I.JE fun p hp=>I.pin p (aU _ (cM _ hp))
theorem jj{iter:Expr}{body:List Stmt}{wi:TI}{g:TG}{tb:TS}{pos:Pos}(hp:PassesOwn (model X.prog X.w) X.A X.env X.xe)(hc:X.calm=true)(hi:PI X tg iter wi)(hg:PG X tg g)(hb:qU X body tb)
  (hs:∀x,foldedSetIterable iter X.env x=pure x:=by intro _;rfl):PS X (.For tg iter body [] pos) (Ul wi g tb):=by
 intro pins s σ H D I h;refine wpAny_For (bR (hi pins s σ H _ I h) fun v s1 h1=>bR h1 fun itv s2 h2=>?_) hs;obtain⟨it,fp,tn,J,H2,e,I2,T,st2,f2,W,⟨m0,w0⟩,turn⟩:=h2;subst e;have stat:∀{H':Hp},(∀b∈fp,H' b=none)->∀b∈fp,qW X pins H' b:=fun hn b hb=>⟨hn b hb,(f2 b hb).2⟩;refine codeAny_forLoop_any (fun n s'=>∃i σ' H',Inv X pins σ' H' s'/\tn i s'.heap/\(∀b∈fp,H' b=none)/\W i n σ' H') ?_ m0 ⟨0,σ,H2,I2,st2,fun b hb=>(f2 b hb).1,w0⟩;rintro n s3 ⟨i,σ3,H3,I3,st3,fr3,w3⟩
 rcases turn i n σ3 H3 w3 with⟨stop,qn⟩|⟨go,N,hN,step⟩
 ·refine wpAny_passesOwn hp (bR (T.done X rfl rfl rfl hc i pins s3 σ3 H3 X.xe I3 (stat fr3) st3 stop) fun r s4 ⟨hr,I4⟩=>?_);subst hr;exact wpAny_execs_nil ⟨σ3,H3,I4,qn⟩
 ·refine wpAny_passesOwn hp (bR (T.item X rfl rfl rfl hc i pins s3 σ3 H3 X.xe I3 (stat fr3) st3 go) fun r s4 ⟨u,hr,h4⟩=>?_);subst hr;refine wpAny_passesOwn hp (bR h4 fun _ s5 ⟨x,H5,I5,r5,y5,st5,fr5⟩=>?_);have I5':=I5.pinned (stat fr5) (T.obj _ _ st5);refine wpAny_passesOwn hp (bR (hg _ s5 σ3 H5 x u _ I5' r5 (step x H5 y5)) fun _ s6 ⟨σ6,H6,I6,q6⟩=>?_);refine wpAny_passesOwn hp (bR (hb _ s6 σ6 H6 _ I6 q6) fun f s7 q7=>?_);have again:∀{σ7:St}{H7:Hp},Inv X (pins++wM fp s5.heap) σ7 H7 s7->N σ7 H7->∃m,m<n/\∃i σ' H',Inv X pins σ' H' s7/\tn i s7.heap/\(∀b∈fp,H' b=none)/\W i m σ' H':=fun{σ7 H7} I7 n7=>by
   obtain⟨m',hm,w7⟩:=hN σ7 H7 n7;refine⟨m',hm,i+1,σ7,H7,I7.t9,T.keep _ _ _ st5 fun b hb o e=>(I7.pin (b,o) (aU _ (aU _ (uC hb e)))).1,fun b hb=>?_,w7⟩;obtain⟨o,e,d⟩:=T.obj _ _ st5 b hb;exact(I7.pin (b,o) (aU _ (aU _ (uC hb e)))).2.1
  cases f with
  |next=>obtain⟨σ7,H7,I7,n7⟩:=q7;exact again I7 n7
  |cont=>obtain⟨σ7,H7,I7,n7⟩:=q7;exact again I7 n7
  |brk=>obtain⟨σ7,H7,I7,q7⟩:=q7;exact⟨σ7,H7,I7.t9,q7⟩
  |ret v=>obtain⟨x7,σ7,H7,I7,r7,q7⟩:=q7;exact⟨x7,σ7,H7,I7.t9,r7,q7⟩
end
theorem oj{K:PySem.W.Frag}{a:Addr}{xs:List V}{g:TG}{tb:TS}{D:Ends}{σ:St}{H:Hp}(Pv:Nat->St->Hp->Prop)(h0:Pv 0 σ H)(hl:∀i σ H,i<=xs.length->Pv i σ H->bY K H a xs)
  (hs:∀i x σ H,xs[i]? =some x->Pv i σ H->g x σ H fun σ2 H2=>tb {D with nx:=Pv (i+1),ct:=Pv (i+1),bk:=D.nx} σ2 H2) (hd:∀σ H,Pv xs.length σ H->D.nx σ H):
  ∃W:Nat->Nat->St->Hp->Prop,(∃m,W 0 m σ H)/\∀i m σ H,W i m σ H->
   ((ED K a).stop i H/\D.nx σ H)\/((ED K a).go i H/\∃N:St->Hp->Prop,(∀σ' H',N σ' H'->∃m',m'<m/\W (i+1) m' σ' H')/\∀x H',(ED K a).FR i H x H'->g x σ H' fun σ2 H2=>tb {D with nx:=N,ct:=N,bk:=D.nx} σ2 H2):=by
 refine⟨fun i m σ H=>m=xs.length - i/\i<=xs.length/\Pv i σ H,⟨xs.length,by simp,cE _,h0⟩,?_⟩;rintro i m σ H ⟨rfl,hi,p⟩;have q:=hl i σ H hi p;by_cases hlt:i<xs.length
 ·refine .inr ⟨⟨xs,xs[i],q,by simp[hlt]⟩,Pv (i+1),fun σ' H' p'=>⟨xs.length - (i+1),by omega,rfl,hlt,p'⟩,fun x H' y=>?_⟩;obtain⟨e,y⟩:=y;subst e;exact hs i x σ _ (y xs q) p
 ·have e:i=xs.length:=by omega
  subst e;exact .inl ⟨⟨xs,q,aD _⟩,hd σ H p⟩
theorem Nm{lo:Int}{n:Nat}{g:TG}{tb:TS}{D:Ends}{σ:St}{H:Hp}(Pv:Nat->St->Hp->Prop)(h0:Pv 0 σ H)
  (hs:∀i σ H,i<n->Pv i σ H->g (.int (lo+i)) σ H fun σ2 H2=>tb {D with nx:=Pv (i+1),ct:=Pv (i+1),bk:=D.nx} σ2 H2) (hd:∀σ H,Pv n σ H->D.nx σ H):
  ∃W:Nat->Nat->St->Hp->Prop,(∃m,W 0 m σ H)/\∀i m σ H,W i m σ H->
   ((Kh lo n).stop i H/\D.nx σ H)\/((Kh lo n).go i H/\∃N:St->Hp->Prop,(∀σ' H',N σ' H'->∃m',m'<m/\W (i+1) m' σ' H')/\∀x H',(Kh lo n).FR i H x H'->g x σ H' fun σ2 H2=>tb {D with nx:=N,ct:=N,bk:=D.nx} σ2 H2):=by
 refine⟨fun i m σ H=>m=n - i/\i<=n/\Pv i σ H,⟨n,by simp,cE _,h0⟩,?_⟩;rintro i m σ H ⟨rfl,hi,p⟩;by_cases hlt:i<n
 ·refine .inr ⟨hlt,Pv (i+1),fun σ' H' p'=>⟨n - (i+1),by omega,rfl,hlt,p'⟩,fun x H' y=>?_⟩;obtain⟨e,y⟩:=y;subst e y;exact hs i σ _ hlt p
 ·have e:i=n:=by omega
  subst e;exact .inl ⟨aD _,hd σ H p⟩
end L2
namespace L2
open PySem PySem.Spec PyProof.Rows
abbrev R2:=V->V->Hp->VK->Prop
def kG(X:Cx)(f:Value->Value->Sem Value)(r:R2):Prop:=
 ∀(pins:List (Addr×Obj))(s:Shared)(σ:St)(H:Hp)(x y:V)(v u:Value)(Q:VK),Inv X pins σ H s->RelV x v->RelV y u->r x y H Q->
  wpAny (model X.prog X.w) X.A (f v u) (EP X pins σ Q) X.xe s
def SV(X:Cx)(f:Value->Sem Value)(r:V->Hp->VK->Prop):Prop:=
 ∀(pins:List (Addr×Obj))(s:Shared)(σ:St)(H:Hp)(x:V)(v:Value)(Q:VK),Inv X pins σ H s->RelV x v->r x H Q->
  wpAny (model X.prog X.w) X.A (f v) (EP X pins σ Q) X.xe s
def pU(X:Cx)(f:Value)(r:List V->Hp->VK->Prop):Prop:=
 ∀(pins:List (Addr×Obj))(s:Shared)(σ:St)(H:Hp)(xs:List V)(us:List Value)(Q:VK),Inv X pins σ H s->Vals xs us->r xs H Q->
  wpAny (model X.prog X.w) X.A (call f us) (EP X pins σ Q) X.xe s
def UU(X:Cx)(r:V->Hp->(Bool->Hp->Prop)->Prop):Prop:=
 ∀(pins:List (Addr×Obj))(s:Shared)(σ:St)(H:Hp)(x:V)(v:Value)(Q:Bool->Hp->Prop),Inv X pins σ H s->RelV x v->r x H Q->
  wpAny (model X.prog X.w) X.A (truthy v) (TP X pins σ Q) X.xe s
def Ju(r:R2)(ta tb:TE):TE:=fun σ H Q=>ta σ H fun x H1=>tb σ H1 fun y H2=>r x y H2 Q
def UY(r:V->Hp->VK->Prop)(ta:TE):TE:=fun σ H Q=>ta σ H fun x H1=>r x H1 Q
def rI(C:Int->Int->Prop)(g:Int->Int->V):R2:=fun x y H Q=>∃i j,x=.int i/\y=.int j/\C i j/\Q (g i j) H
def AE(g:Int->Int->V):R2:=fun x y H Q=>∃i j,x=.int i/\y=.int j/\Q (g i j) H
def rU(g:Int->V):V->Hp->VK->Prop:=fun x H Q=>∃i,x=.int i/\Q (g i) H
section
variable{X:Cx}{a b c:Expr}{ta tb tc:TE}{pos:Pos}
theorem Pl(ha:PE X a ta)(hb:PE X b tb){pins:List (Addr×Obj)}{s:Shared}{σ:St}{H:Hp}{R:V->V->Hp->Prop}(I:Inv X pins σ H s)
  (h:ta σ H fun x H1=>tb σ H1 fun y H2=>R x y H2) {Q:Value->Shared->Prop} {f:Value->Value->Sem Value}
  (hf:∀v u s2 x y H2,Inv X pins σ H2 s2->RelV x v->RelV y u->R x y H2->wpAny (model X.prog X.w) X.A (f v u) Q X.xe s2):
  wpAny (model X.prog X.w) X.A (eval a X.env) (fun v s₁=>wpAny (model X.prog X.w) X.A (eval b X.env) (fun u s₂=>wpAny (model X.prog X.w) X.A (f v u) Q X.xe s₂) X.xe s₁) X.xe s:=by
 refine bR (ha pins s σ H _ I h) fun v s1 ⟨x,H1,I1,r1,q1⟩=>?_;refine bR (hb pins s1 σ H1 _ I1 q1) fun u s2 ⟨y,H2,I2,r2,q2⟩=>?_;exact hf v u s2 x y H2 I2 r1 r2 q2
theorem fg{op:Operator}{r:R2}(ho:kG X (binaryOp op) r)(ha:PE X a ta)(hb:PE X b tb):PE X (.BinOp a op b pos) (Ju r ta tb):=by
 intro pins s σ H Q I h;exact wpAny_BinOp (Pl ha hb I h fun v u s2 x y H2 I2 rx ry q=>ho pins s2 σ H2 x y v u Q I2 rx ry q)
theorem pT{op:UnaryOp}{r:V->Hp->VK->Prop}(ho:SV X (unaryOp op) r)(ha:PE X a ta):PE X (.UnaryOp op a pos) (UY r ta):=by
 intro pins s σ H Q I h;exact UnaryOp_ (bR (ha pins s σ H _ I h) fun v s1 ⟨x,H1,I1,r1,q1⟩=>ho pins s1 σ H1 x v Q I1 r1 q1)
theorem U4{f:Value->Value->Sem Value}{C:Int->Int->Prop}{g:Int->Int->Int}
  (rule:∀(i j:Int)(t u:Tok)(s:Shared)(Q:Value->Shared->Prop)(E:Value->Shared->Prop),C i j->Q (.int (g i j) s.toks) {s with toks:=s.toks+1}->wpAny (model X.prog X.w) X.A (f (.int i t) (.int j u)) Q E s):
  kG X f (rI C fun i j=>.int (g i j)):=by
 intro pins s σ H x y v u Q I rx ry h;obtain⟨i,j,rfl,rfl,hc,q⟩:=h;obtain⟨t,rfl⟩:=rx;obtain⟨t',rfl⟩:=ry;exact rule i j t t' s _ _ hc ⟨.int (g i j),H,I.tok _,⟨_,rfl⟩,q⟩
theorem RZ{f:Value->Value->Sem Value}{g:Int->Int->Int}
  (rule:∀(i j:Int)(t u:Tok)(s:Shared)(Q:Value->Shared->Prop)(E:Value->Shared->Prop),Q (.int (g i j) s.toks) {s with toks:=s.toks+1}->wpAny (model X.prog X.w) X.A (f (.int i t) (.int j u)) Q E s):
  kG X f (AE fun i j=>.int (g i j)):=by
 intro pins s σ H x y v u Q I rx ry h;obtain⟨i,j,rfl,rfl,q⟩:=h;obtain⟨t,rfl⟩:=rx;obtain⟨t',rfl⟩:=ry;exact rule i j t t' s _ _ ⟨.int (g i j),H,I.tok _,⟨_,rfl⟩,q⟩
theorem K1{f:Value->Value->Sem Value}{g:Int->Int->Bool}
  (rule:∀(i j:Int)(t u:Tok)(s:Shared)(Q:Value->Shared->Prop)(E:Value->Shared->Prop),Q (.bool (g i j)) s->wpAny (model X.prog X.w) X.A (f (.int i t) (.int j u)) Q E s):
  kG X f (AE fun i j=>.bl (g i j)):=by
 intro pins s σ H x y v u Q I rx ry h;obtain⟨i,j,rfl,rfl,q⟩:=h;obtain⟨t,rfl⟩:=rx;obtain⟨t',rfl⟩:=ry;exact rule i j t t' s _ _ ⟨.bl (g i j),H,I,rfl,q⟩
def PF(i j:Int):Prop:=(-(2^64)<i/\i<2^64)\/(-(2^64)<j/\j<2^64)
theorem PF.ok{i j:Int}(h:PF i j):IntMulOk i j:=by
 rcases h with⟨h1,h2⟩|⟨h1,h2⟩
 ·exact .of_left (intBits_le_64 h1 h2)
 ·exact .of_right (intBits_le_64 h1 h2)
theorem kT:kG X (binaryOp .Add) (AE fun i j=>.int (i+j)):=RZ fun _ _ _ _ _ _ _ q=>add_int q
theorem oU:kG X (binaryOp .Sub) (AE fun i j=>.int (i - j)):=RZ fun _ _ _ _ _ _ _ q=>sub_int q
theorem RX:kG X (binaryOp .Mult) (rI PF fun i j=>.int (i*j)):=U4 fun _ _ _ _ _ _ _ hc q=>mul_int q hc.ok
theorem UX{f:Value->Sem Value}{g:Int->Int}
  (rule:∀(i:Int)(t:Tok)(s:Shared)(Q:Value->Shared->Prop)(E:Value->Shared->Prop),Q (.int (g i) s.toks) {s with toks:=s.toks+1}->wpAny (model X.prog X.w) X.A (f (.int i t)) Q E s):
  SV X f (rU fun i=>.int (g i)):=by
 intro pins s σ H x v Q I rx h;obtain⟨i,rfl,q⟩:=h;obtain⟨t,rfl⟩:=rx;exact rule i t s _ _ ⟨.int (g i),H,I.tok _,⟨_,rfl⟩,q⟩
theorem mG:SV X (unaryOp .USub) (rU fun i=>.int (-i)):=UX fun _ _ _ _ _ q=>neg_int q
end
def RK:V->V->Bool
 | .bA,.bA=>true| .bA,.int _=>true| .int _,.bA=>true| .bA,.bl _=>true| .bl _,.bA=>true| .bA,.str _=>true| .str _,.bA=>true
 | .int _,.int _=>true| .bl _,.bl _=>true| .str _,.str _=>true| .nj _,.nj _=>true
 | .int _,.str _=>true| .str _,.int _=>true| .bl _,.str _=>true| .str _,.bl _=>true
 |_,_=>false
def T6:R2:=fun x y H Q=>RK x y=true/\Q (.bl (decide (x=y))) H
def U3:R2:=fun x y H Q=>RK x y=true/\Q (.bl (!decide (x=y))) H
theorem J7{i j:Int}:decide (V.int i=V.int j)=(i==j):=by
 rw[jA];simp
theorem Ny{i j:Bool}:decide (V.bl i=V.bl j)=(i==j):=by
 rw[jA];simp
theorem J6{i j:Str}:decide (V.str i=V.str j)=(i==j):=by
 rw[jA];simp
theorem J8{i j:Array UInt8}:decide (V.nj i=V.nj j)=(i.toList==j.toList):=by
 rw[jA];cases i;cases j;simp
section
variable{X:Cx}{a b c:Expr}{ta tb tc:TE}{pos:Pos}
theorem dh{pins:List (Addr×Obj)}{σ:St}{H:Hp}{s:Shared}{Q:VK}{k k':Bool}(I:Inv X pins σ H s)(q:Q (.bl k) H)(e:k=k'):EP X pins σ Q (.bool k') s:=by
 subst e;exact⟨.bl k,H,I,rfl,q⟩
theorem cH:kG X (compareOp .Eq) T6:=by
 intro pins s σ H x y v u Q I rx ry h;obtain⟨hs,q⟩:=h;cases x with
 |bA=>
  cases rx;cases y with
  |bA=>cases ry;exact PySem.EqNone.eq_none_none (dh I q (by simp))
  |bl j=>cases ry;exact PySem.EqNone.eq_none_bool (dh I q (by simp))
  |int j=>obtain⟨t',rfl⟩:=ry;exact PySem.EqNone.eq_none_int (dh I q (by simp))
  |str j=>obtain⟨t',rfl⟩:=ry;exact PySem.EqNone.eq_none_str (dh I q (by simp))
  |_=>exact absurd (show false=true from hs) aE
 |bl i=>
  cases rx;cases y with
  |bA=>cases ry;exact PySem.EqNone.eq_bool_none (dh I q (by simp))
  |bl j=>cases ry;exact eq_bool (dh I q Ny)
  |str j=>obtain⟨t',rfl⟩:=ry;exact PySem.EqMixed.eq_bool_str (dh I q (by simp))
  |_=>exact absurd (show false=true from hs) aE
 |int i=>
  obtain⟨t,rfl⟩:=rx;cases y with
  |bA=>cases ry;exact PySem.EqNone.eq_int_none (dh I q (by simp))
  |int j=>obtain⟨t',rfl⟩:=ry;exact eq_int (dh I q J7)
  |str j=>obtain⟨t',rfl⟩:=ry;exact PySem.EqMixed.eq_int_str (dh I q (by simp))
  |_=>exact absurd (show false=true from hs) aE
 |str i=>
  obtain⟨t,rfl⟩:=rx;cases y with
  |bA=>cases ry;exact PySem.EqNone.eq_str_none (dh I q (by simp))
  |bl j=>cases ry;exact PySem.EqMixed.eq_str_bool (dh I q (by simp))
  |int j=>obtain⟨t',rfl⟩:=ry;exact PySem.EqMixed.eq_str_int (dh I q (by simp))
  |str j=>obtain⟨t',rfl⟩:=ry;exact eq_str (dh I q J6)
  |_=>exact absurd (show false=true from hs) aE
 |nj i=>
  obtain⟨t,rfl⟩:=rx;cases y with
  |nj j=>obtain⟨t',rfl⟩:=ry;exact PySem.W.eq_bytes (dh I q J8)
  |_=>exact absurd (show false=true from hs) aE
 |_=>cases y<;>exact absurd (show false=true from hs) aE
theorem ku:kG X (compareOp .NotEq) U3:=by
 intro pins s σ H x y v u Q I rx ry h;obtain⟨hs,q⟩:=h;cases x with
 |bA=>
  cases rx;cases y with
  |bA=>cases ry;exact PySem.EqNone.ne_none_none (dh I q (by simp))
  |bl j=>cases ry;exact PySem.EqNone.ne_none_bool (dh I q (by simp))
  |int j=>obtain⟨t',rfl⟩:=ry;exact PySem.EqNone.ne_none_int (dh I q (by simp))
  |str j=>obtain⟨t',rfl⟩:=ry;exact PySem.EqNone.ne_none_str (dh I q (by simp))
  |_=>exact absurd (show false=true from hs) aE
 |bl i=>
  cases rx;cases y with
  |bA=>cases ry;exact PySem.EqNone.ne_bool_none (dh I q (by simp))
  |bl j=>cases ry;exact ne_bool (dh I q (congrArg not Ny))
  |str j=>obtain⟨t',rfl⟩:=ry;exact PySem.EqMixed.ne_bool_str (dh I q (by simp))
  |_=>exact absurd (show false=true from hs) aE
 |int i=>
  obtain⟨t,rfl⟩:=rx;cases y with
  |bA=>cases ry;exact PySem.EqNone.ne_int_none (dh I q (by simp))
  |int j=>obtain⟨t',rfl⟩:=ry;exact ne_int (dh I q (congrArg not J7))
  |str j=>obtain⟨t',rfl⟩:=ry;exact PySem.EqMixed.ne_int_str (dh I q (by simp))
  |_=>exact absurd (show false=true from hs) aE
 |str i=>
  obtain⟨t,rfl⟩:=rx;cases y with
  |bA=>cases ry;exact PySem.EqNone.ne_str_none (dh I q (by simp))
  |bl j=>cases ry;exact PySem.EqMixed.ne_str_bool (dh I q (by simp))
  |int j=>obtain⟨t',rfl⟩:=ry;exact PySem.EqMixed.ne_str_int (dh I q (by simp))
  |str j=>obtain⟨t',rfl⟩:=ry;exact ne_str (dh I q (congrArg not J6))
  |_=>exact absurd (show false=true from hs) aE
 |nj i=>
  obtain⟨t,rfl⟩:=rx;cases y with
  |nj j=>obtain⟨t',rfl⟩:=ry;exact PySem.W.ne_bytes (dh I q (congrArg not J8))
  |_=>exact absurd (show false=true from hs) aE
 |_=>cases y<;>exact absurd (show false=true from hs) aE
theorem rn:kG X (compareOp .Lt) (AE fun i j=>.bl (decide (i<j))):=K1 fun _ _ _ _ _ _ _ q=>lt_int q
theorem ux:kG X (compareOp .LtE) (AE fun i j=>.bl (decide (i<=j))):=K1 fun _ _ _ _ _ _ _ q=>le_int q
theorem xY:kG X (compareOp .Gt) (AE fun i j=>.bl (decide (j<i))):=K1 fun _ _ _ _ _ _ _ q=>gt_int q
theorem AU:kG X (compareOp .GtE) (AE fun i j=>.bl (decide (j<=i))):=K1 fun _ _ _ _ _ _ _ q=>ge_int q
theorem bb(b:Expr){op:CmpOp}(h:op≠.In:=by decide)(h2:op≠.NotIn:=by decide):behindInMarks op b=false:=by
 have e1:(op==CmpOp.In)=false:=by cases op<;>first|rfl|exact absurd rfl h
 have e2:(op==CmpOp.NotIn)=false:=by cases op<;>first|rfl|exact absurd rfl h2
 cases b<;>simp[behindInMarks,e1,e2]
theorem nW{op:CmpOp}{r:R2}(ho:kG X (compareOp op) r)(ha:PE X a ta)(hb:PE X b tb)(hm:behindInMarks op b=false):PE X (.Compare a [op] [b] pos) (Ju r ta tb):=by
 intro pins s σ H Q I h;exact wpAny_Compare1 (Pl ha hb I h fun v u s2 x y H2 I2 rx ry q=>ho pins s2 σ H2 x y v u Q I2 rx ry q) hm
def Kq(t:TE):TT:=fun σ H Q=>t σ H fun x H'=>∃k,x=.bl k/\Q k H'
theorem aO{op:CmpOp}{r:R2}(ho:kG X (compareOp op) r)(ha:PE X a ta)(hb:PE X b tb)(hm:behindInMarks op b=false):PT X (.Compare a [op] [b] pos) (Kq (Ju r ta tb)):=by
 intro pins s σ H Q I h;refine wpAny_isTrue_Compare1 (bR (ha pins s σ H _ I h) fun v s1 ⟨x,H1,I1,r1,q1⟩=>bR (hb pins s1 σ H1 _ I1 q1) fun u s2 ⟨y,H2,I2,r2,q2⟩=>
  bR (ho pins s2 σ H2 x y v u _ I2 r1 r2 q2) fun c s3 ⟨z,H3,I3,r3,k,e,q3⟩=>?_) hm
 subst e;cases r3;exact wpAny_truthy_bool ⟨H3,I3,q3⟩
def RB(r r':R2)(ta tb tc:TE):TE:=fun σ H Q=>ta σ H fun x H1=>tb σ H1 fun y H2=>r x y H2 fun z H3=>∃k,z=.bl k/\
 (if k=true then tc σ H3 fun w' H4=>r' y w' H4 Q else Q (.bl false) H3)
theorem zH{op op':CmpOp}{r r':R2}(ho:kG X (compareOp op) r)(ho':kG X (compareOp op') r')(ha:PE X a ta)(hb:PE X b tb)(hc:PE X c tc)
  (hm:lastMarks [op,op'] [b,c]=false:=by with_unfolding_all rfl):PE X (.Compare a [op,op'] [b,c] pos) (RB r r' ta tb tc):=by
 intro pins s σ H Q I h;refine Compare_chain (bR (ha pins s σ H _ I h) fun v s1 ⟨x,H1,I1,r1,q1⟩=>chain_link (bR (hb pins s1 σ H1 _ I1 q1) fun u s2 ⟨y,H2,I2,r2,q2⟩=>
  bR (ho pins s2 σ H2 x y v u _ I2 r1 r2 q2) fun d s3 ⟨z,H3,I3,r3,k,e,q3⟩=>?_)) hm
 subst e;cases r3;refine wpAny_truthy_bool ?_;cases k with
 |false=>exact ite_ff ⟨.bl false,H3,I3,rfl,q3⟩
 |true=>exact ite_tt (chain_last (bR (hc pins s3 σ H3 _ I3 q3) fun w' s4 ⟨z',H4,I4,r4,q4⟩=>ho' pins s4 σ H4 y z' u w' Q I4 r2 r4 q4))
def SW(K:PySem.W.Frag)(x:V)(H:Hp)(k:Bool):Prop:=
 match x with
 | .bA=>k=false
 | .bl b=>k=b
 | .int i=>k=(i !=0)
 | .str y=>y.length<=sizeLine/\k=((y.length:Int)!=0)
 | .nj y=>y.size<=sizeLine/\k=((y.size:Int)!=0)
 | .ref p=>(∃xs,bY K H p xs/\k=!xs.isEmpty)\/(∃xs,iR K H p xs/\k=!xs.isEmpty)\/∃kvs,H p=some (.dK kvs)/\k=!kvs.isEmpty
 |_=>False
theorem Ln{κ:Type}{kvs:List (κ×V)}{vs:List (κ×Value)}(r:KV kvs vs):(!vs.isEmpty)=!kvs.isEmpty:=by
 cases r<;>rfl
theorem Bj{xs:List V}{its:List Value}(r:Vals xs its):(!its.toArray.isEmpty)=!xs.isEmpty:=by
 cases r<;>simp
theorem qF:(sizeLine:Nat)<2^63:=by rw[sizeLine_eq];decide
theorem Rq:UU X (fun x H Q=>∃k,SW X.K x H k/\Q k H):=by
 intro pins s σ H x v Q I rx h;obtain⟨k,e,q⟩:=h;have hl:=qF;have hs:sizeLine=16777216:=sizeLine_eq;cases x with
 |bA=>
  cases rx;have e':k=false:=e;subst e';exact truthy_none ⟨H,I,q⟩
 |bl b=>
  cases rx;have e':k=b:=e;subst e';exact wpAny_truthy_bool ⟨H,I,q⟩
 |int i=>
  obtain⟨t,rfl⟩:=rx;have e':k=(i !=0):=e;subst e';exact PySem.P.truthy_int ⟨H,I,q⟩
 |str y=>
  obtain⟨t,rfl⟩:=rx;obtain⟨hy,e'⟩:y.length<=sizeLine/\k=((y.length:Int)!=0):=e;subst e';exact PySem.P.truthy_str (by omega) ⟨H,I.tok _,q⟩
 |nj y=>
  obtain⟨t,rfl⟩:=rx;obtain⟨hy,e'⟩:y.size<=sizeLine/\k=((y.size:Int)!=0):=e;subst e';exact PySem.W.truthy_bytes (by omega) ⟨H,I.tok _,q⟩
 |ref p=>
  cases rx;have e':(∃xs,bY X.K H p xs/\k=!xs.isEmpty)\/(∃xs,iR X.K H p xs/\k=!xs.isEmpty)\/∃kvs,H p=some (.dK kvs)/\k=!kvs.isEmpty:=e
  rcases e' with⟨xs,hx,e'⟩|⟨xs,hx,e'⟩|⟨kvs,hx,e'⟩
  ·subst e';obtain⟨its,r,pl,hz⟩:=I.list hx;have hlen:=r.length;exact wpAny_truthy_list pl.isList (by simp only[bf];omega) ⟨H,I.tok _,by rw[Bj r];exact q⟩
  ·subst e';obtain⟨its,r,pl,hz⟩:=I.tuple hx;have hlen:=r.length;exact truthy_tuple pl (by simp only[bf];omega) ⟨H,I.tok _,by rw[Bj r];exact q⟩
  ·subst e';obtain⟨hz,hS,vs,r,m⟩:kvs.length<=sizeLine/\(p==sysModules)=false/\∃vs,KV kvs vs/\s.heap.DictOf (dk X.prog X.w) p vs:=I.bT p _ hx;have hlen:kvs.length=vs.length:=Paired.length r;exact wpAny_truthy_dict hS m (by omega) ⟨H,I.tok _,by rw[Ln r];exact q⟩
 |_=>exact(show False from e).elim
theorem zF(ha:PE X a ta)(he:∀whole,isTrue a X.env whole=(do let v<-whole;standAt a.pos;holding [v] (truthy v))):
  PT X a (fun σ H Q=>ta σ H fun x H'=>∃k,SW X.K x H' k/\Q k H'):=by
 intro pins s σ H Q I h;exact isTrue_plain (bR (ha pins s σ H _ I h) fun v s1 ⟨x,H1,I1,r1,q1⟩=>Rq pins s1 σ H1 x v Q I1 r1 q1) (he _)
theorem vals1{x:V}{us:List Value}(r:Vals [x] us):∃u,us=[u]/\RelV x u:=by
 cases r with
 |cons r1 r2=>cases r2;exact⟨_,rfl,r1⟩
theorem vals2{x y:V}{us:List Value}(r:Vals [x,y] us):∃u w',us=[u,w']/\RelV x u/\RelV y w':=by
 cases r with
 |cons r1 r2=>
  cases r2 with
  |cons r3 r4=>cases r4;exact⟨_,_,rfl,r1,r3⟩
theorem Ep(hc:X.calm=true):pU X (.builtin "max") (fun xs H Q=>∃i j,xs=[.int i,.int j]/\Q (.int (if j>i then j else i)) H):=by
 intro pins s σ H xs us Q I r h;obtain⟨i,j,rfl,q⟩:=h;obtain⟨u,w',rfl,⟨t,rfl⟩,⟨t',rfl⟩⟩:=vals2 r;refine max_two_ints (I.ok.hd hc) fun h' tk k=>⟨_,H,I.kept k,?_,q⟩;by_cases hj:j>i
 ·rw[ai hj,ai hj];exact⟨_,rfl⟩
 ·rw[af hj,af hj];exact⟨_,rfl⟩
theorem Eo(hc:X.calm=true):pU X (.builtin "min") (fun xs H Q=>∃i j,xs=[.int i,.int j]/\Q (.int (if j<i then j else i)) H):=by
 intro pins s σ H xs us Q I r h;obtain⟨i,j,rfl,q⟩:=h;obtain⟨u,w',rfl,⟨t,rfl⟩,⟨t',rfl⟩⟩:=vals2 r;refine min_two_ints (I.ok.hd hc) fun h' tk k=>⟨_,H,I.kept k,?_,q⟩;by_cases hj:j<i
 ·rw[ai hj,ai hj];exact⟨_,rfl⟩
 ·rw[af hj,af hj];exact⟨_,rfl⟩
theorem Pd:pU X (.builtin "ord") (fun xs H Q=>∃x,xs=[.str x]/\x.length=1/\Q (.int (x.cps.getD 0 0:Nat)) H):=by
 intro pins s σ H xs us Q I r h;obtain⟨x,rfl,hz,q⟩:=h;obtain⟨u,rfl,t,rfl⟩:=vals1 r;exact ord_of_one hz ⟨.int _,H,I.tok _,⟨_,rfl⟩,q⟩
end
end L2
namespace L2
open PySem PySem.Spec PyProof.Rows
structure Du(h:Heap)(x dx C:Addr)(mA:Str->Option Value):Prop where
 obj:h.get? x=some (PySem.W.instObj C dx)
 ns:h.Ns1 dx mA
 ne:dx≠x
theorem M4{h:Heap}{dx:Addr}{mA:Str->Option Value}(n:h.Ns1 dx mA):∃od,h.get? dx=some od/\∀name,PySem.W.lookIn name od=some (mA name):=by
 obtain⟨o,es,ep,ho,hd,hk,_,hm⟩:=n;refine⟨o,ho,fun name=>?_⟩;have e:=hm name;unfold nsFind findBy at e;rw[<-Array.find?_toList]at e;unfold PySem.W.lookIn;rw[hd];dsimp only;split
 ·rename_i y q;rw[q]at e;exact congrArg some e
 ·rename_i q;rw[q]at e;have a:es.toList.any (·.refKey)=false:=by
   rw[List.any_eq_false];intro y hy;obtain⟨z,t,hkey⟩:=hk y (Array.mem_toList_iff.mp hy);simp[DictEntry.refKey,hkey]
  have a':¬es.toList.any (·.refKey)=true:=by rw[a];exact aE
  rw[af a'];exact congrArg some e
theorem Du.look{h:Heap}{x dx C:Addr}{mA:Str->Option Value}(I:Du h x dx C mA):∃od,PySem.W.InstAt h x (PySem.W.instObj C dx) C (some od)/\∀name,PySem.W.lookIn name od=some (mA name):=
 let ⟨od,ho,hl⟩:=M4 I.ns
 ⟨od,⟨I.obj,rfl,rfl,ho⟩,hl⟩
section
variable{prog:Program}{w:World}{A:Around}{E:Value->Shared->Prop}{s:Shared}{K:PySem.W.Frag}{x dx C f:Addr}{mA:Str->Option Value}{name:Str}{v:Value}
theorem get_map{expr:Bool}{Q:Value->Shared->Prop}(X:K.In s.heap)(I:Du s.heap x dx C mA)(hg:PySem.W.plainGet K C name=true)(hh:PySem.W.hasDictIn K C=true)
  (ha:PySem.W.findIn K (.ref C) name=some none) (hv:mA name=some v) (hv':PySem.W.handedIn v=true) (h:Q v {s with toks:=s.toks+1}):
  wpAny (model prog w) A (getAttr (.ref x) name expr) Q E s:=by
 obtain⟨od,J,hl⟩:=I.look;exact PySem.W.get_value X J (PySem.W.plainGet_of hg).1 (PySem.W.findObj_own hh ha rfl (by rw[hl,hv])) hv' h
theorem Qp{ns:List Str}{Q:Unit->Shared->Prop}(X:K.In s.heap)(I:Du s.heap x dx C mA)
  (hs:PySem.W.findIn K (.ref C) "__setattr__"=some (some (.builtin "object.__setattr__"))) (hp:PySem.W.plainOver K C=true) (ht:PySem.W.takerIn K C name=some none) (hh:PySem.W.hasDictIn K C=true)
  (hw:PySem.Within mA ns) (hsz:ns.length<=sizeLine)
  (h:∀h',Du h' x dx C (fun y=>if y=name then some v else mA y)->Heap.SameBut dx s.heap h'->Q () {s with heap:=h',toks:=s.toks+2}):
  wpAny (model prog w) A (setAttr (.ref x) name v) Q E s:=by
 obtain⟨od,J,hl⟩:=I.look;refine PySem.W.set_plain X J hs (PySem.W.osa_open (s:={s with toks:=s.toks+1}) (r:=none) X J hp ht fun b=>?_);obtain⟨cd,hc,hd'⟩:=PySem.W.any_some hh;have hx:s.heap.get? x=some ⟨.ref C,some dx,.plain,#[]⟩:=I.obj;refine wpAny_bind (wpAny_pure (wpAny_bind (wpAny_bind (wpAny_loadPart hx (wpAny_bind (PySem.W.Looks.here (s:={s with toks:=s.toks+1}) (PySem.W.looks_clsIn X hc) ?_))))));rw[hd'];refine wpAny_pure (a:=some dx) (wpAny_bind (wpAny_pure (wpAny_bind ?_)));refine wpAny_nsSet1 (s:={s with toks:=s.toks+1}) I.ns fun h' hn2 hs2=>?_;obtain⟨oD,esD,epD,hoD,hdD,hcD⟩:=hn2.count (PySem.Within.cons name v hw);refine wpAny_bind (wpAny_lookBehind hoD (by rw[hdD];exact pastItsLine_dict (ck hcD (by rw[ay];omega))) ?_);exact wpAny_pure (h _ ⟨(hs2.2 _ (jn I.ne)).trans I.obj,hn2,I.ne⟩ hs2)
theorem OT{R:Result->Shared->Prop}{vs:List Value}{kw:List (Str×Value)}(X:K.In s.heap)(hm:PySem.W.makesIn K C=true)
  (hi:PySem.W.findIn K (.ref C) "__init__"=some (some (.ref f))) (hf:PySem.W.typeIn K (.ref f)=some (.type "function"))
  (h:codeAny (model prog w) (A.under (.builtin "type.__call__" ⟨.ref C::vs,kw⟩)) (.call (.ref f) ⟨.ref (s.heap.objs.size+1)::vs,kw⟩) (PySem.W.InitBack (s.heap.objs.size+1) R)
   {s with heap:=(s.heap.push PySem.W.emptyDict).push (PySem.W.instObj C s.heap.objs.size)}):
  codeAny (model prog w) A (.call (.ref C) ⟨vs,kw⟩) R s:=by
 obtain⟨hh,g,d,t,os⟩:=s;exact PySem.W.make_core (PySem.W.makes_of X hm) (PySem.W.looks_findIn X hi) (fun self=>PySem.W.bind_fn X self hf) (.inl rfl) h
end
def cD(f:Str)(v:V):List (Str×V)->List (Str×V)
 |[]=>[(f,v)]
 |(g,x)::r=>if g=f then(g,v)::r else(g,x)::cD f v r
theorem yX(f g:Str)(v:V):∀fs:List (Str×V),(cD f v fs).lookup g=if g=f then some v else fs.lookup g
 |[]=>by
  show List.lookup g [(f,v)]=_;by_cases h:g=f
  ·have hb:(g==f)=true:=beq_iff_eq.mpr h;simp only[List.lookup,hb,ai h]
  ·have hb:(g==f)=false:=beq_eq_false_iff_ne.mpr h;simp only[List.lookup,hb,af h]
 |(k,x)::r=>by
  have ih:=yX f g v r;rw[show cD f v ((k,x)::r)=(if k=f then(k,v)::r else(k,x)::cD f v r)from rfl];by_cases hk:k=f
  ·rw[ai hk];by_cases h:g=k
   ·have hb:(g==k)=true:=beq_iff_eq.mpr h;simp only[List.lookup,hb,ai (h.trans hk)]
   ·have hb:(g==k)=false:=beq_eq_false_iff_ne.mpr h;simp only[List.lookup,hb,af (fun e:g=f=>h (e.trans hk.symm))]
  ·rw[af hk];by_cases h:g=k
   ·have hb:(g==k)=true:=beq_iff_eq.mpr h;simp only[List.lookup,hb,af (fun e:g=f=>hk (h.symm.trans e))]
   ·have hb:(g==k)=false:=beq_eq_false_iff_ne.mpr h;simp only[List.lookup,hb];exact ih
theorem wY(f:Str)(v:V):∀fs:List (Str×V),f∈(cD f v fs).map (·.1)/\∀g,g∈fs.map (·.1)->g∈(cD f v fs).map (·.1)
 |[]=>⟨by simp[cD],fun g h=>by simp at h⟩
 |(k,x)::r=>by
  obtain⟨i1,i2⟩:=wY f v r;rw[show cD f v ((k,x)::r)=(if k=f then(k,v)::r else(k,x)::cD f v r)from rfl];by_cases hk:k=f
  ·rw[ai hk];subst hk;exact⟨by simp,fun g h=>by simpa using h⟩
  ·rw[af hk];refine⟨?_,fun g h=>?_⟩
   ·rw[a8];exact ah _ i1
   ·rw[a8]at h⊢
    rcases aT.mp h with e|e
    ·exact aT.mpr (.inl e)
    ·exact ah _ (i2 g e)
theorem y0(f:Str)(v:V):∀fs:List (Str×V),(cD f v fs).length<=fs.length+1
 |[]=>by simp[cD]
 |(k,x)::r=>by
  have ih:=y0 f v r;rw[show cD f v ((k,x)::r)=(if k=f then(k,v)::r else(k,x)::cD f v r)from rfl];by_cases hk:k=f
  ·rw[ai hk,ay,ay];omega
  ·rw[af hk,ay,ay];omega
theorem ju.some_of{v:V}{o:Option Value}(r:ju (some v) o):∃u,o=some u/\RelV v u:=by
 cases o with
 |none=>exact(show False from r).elim
 |some u=>exact⟨u,rfl,r⟩
theorem Nh{v:V}{u:Value}(r:RelV v u):PySem.W.handedIn u=true:=by
 cases v with
 |bA=>cases(show u=Value.none from r);rfl
 |bl b=>cases(show u=Value.bool b from r);rfl
 |int i=>obtain⟨t,e⟩:=(show ∃t,u=Value.int i t from r);cases e;rfl
 |str x=>obtain⟨t,e⟩:=(show ∃t,u=Value.str x t from r);cases e;rfl
 |nj b=>obtain⟨t,e⟩:=(show ∃t,u=Value.bytes b t from r);cases e;rfl
 |Nn b=>obtain⟨t,e⟩:=(show ∃t,u=Value.float b t from r);cases e;rfl
 |ref a=>cases(show u=Value.ref a from r);rfl
 |ty n=>cases(show u=Value.type n from r);rfl
section
variable{P:Program}{w:World}{H H':Hp}{h h':Heap}{a C dx:Addr}{fs fs':List (Str×V)}
theorem JP(bT:gm P w H h)(e:H a=some (.ins C dx fs)):∃mA,Du h a dx C mA/\(∀f,ju (fs.lookup f) (mA f))/\PySem.Within mA (fs.map (·.1))/\fs.length<=1000/\H dx=some (.own a):=by
 obtain⟨d,z,ne,ob,mA,n,r,q⟩:=(show eS P w H h a (.ins C dx fs)from bT a _ e);exact⟨mA,⟨ob,n,ne⟩,r,q,z,d⟩
end
structure nA(K:PySem.W.Frag)(C:Addr):Prop where
 pg:PySem.W.plainGet K C Str.empty=true
 hd:PySem.W.hasDictIn K C=true
 po:PySem.W.plainOver K C=true
 sa:PySem.W.findIn K (.ref C) "__setattr__"=some (some (.builtin "object.__setattr__"))
theorem nA.get{K:PySem.W.Frag}{C:Addr}(c:nA K C)(f:Str):PySem.W.plainGet K C f=true:=c.pg
def bW(K:PySem.W.Frag)(C:Addr)(f:Str):Prop:=PySem.W.findIn K (.ref C) f=some none
theorem bW.Ta{K:PySem.W.Frag}{C:Addr}{f:Str}(n:bW K C f):PySem.W.takerIn K C f=some none:=by
 unfold PySem.W.takerIn;rw[show PySem.W.findIn K (.ref C) f=some none from n];rfl
section
variable{X:Cx}{pins:List (Addr×Obj)}{σ:St}{H:Hp}{s:Shared}{a C dx:Addr}{fs:List (Str×V)}{f:Str}{v:V}{A:Around}{E:Value->Shared->Prop}
theorem Bn{b:Bool}{Q:Value->Shared->Prop}(I:Inv X pins σ H s)(e:H a=some (.ins C dx fs))(c:nA X.K C)(n:bW X.K C f)(l:fs.lookup f=some v)
  (h:∀u s',Inv X pins σ H s'->RelV v u->Q u s'):wpAny (model X.prog X.w) A (getAttr (.ref a) f b) Q E s:=by
 obtain⟨mA,O,r,_,_,_⟩:=JP I.bT e;obtain⟨u,hu,ru⟩:=ju.some_of (v:=v) (o:=mA f) (by rw[<-l];exact r f);exact get_map I.jV O (c.get f) c.hd n hu (Nh ru) (h u _ (I.tok _) ru)
theorem Av{y:V}{u:Value}{Q:Unit->Shared->Prop}(I:Inv X pins σ H s)(e:H a=some (.ins C dx fs))(c:nA X.K C)(n:bW X.K C f)(hl:fs.length<1000)(ry:RelV y u)
  (h:∀s',Inv X pins σ (upd H a (.ins C dx (cD f y fs))) s'->Q () s'):wpAny (model X.prog X.w) A (setAttr (.ref a) f u) Q E s:=by
 obtain⟨mA,O,r,wi,_,ho⟩:=JP I.bT e;have hz:(fs.map (·.1)).length<=sizeLine:=by rw[aP,sizeLine_eq];omega
 refine Qp I.jV O c.sa c.po n.Ta c.hd wi hz fun h' O' sb=>h _ ?_;have hd:∃o,h'.get? dx=some o:=let ⟨o,_,_,e',_⟩:=O'.ns;⟨o,e'⟩;refine I.write (x:=a) (e:=dx) (by rw[e];exact True.intro) (.inr ho) (fun b q hb z=>(sb.2 b hb).trans z) hd ?_;refine⟨by rw[dq O.ne];exact ho,?_,O.ne,O'.obj,_,O'.ns,fun g=>?_,fun g hg=>?_⟩
 ·have:=y0 f y fs;omega
 ·show ju ((cD f y fs).lookup g) (if g=f then some u else mA g);rw[yX];by_cases q:g=f
  ·rw[ai q,ai q];exact ry
  ·rw[af q,af q];exact r g
 ·by_cases q:g=f
  ·rw[q];exact(wY f y fs).1
  ·refine(wY f y fs).2 g (wi g fun z=>hg ?_);show(if g=f then some u else mA g)=none;rw[af q];exact z
theorem Inv.made(I:Inv X pins σ H s):Inv X pins σ (upd (upd H s.heap.objs.size (.own (s.heap.objs.size+1))) (s.heap.objs.size+1) (.ins C s.heap.objs.size []))
  {s with heap:=(s.heap.push PySem.W.emptyDict).push (PySem.W.instObj C s.heap.objs.size)}:=by
 have e1:(s.heap.push PySem.W.emptyDict).get? s.heap.objs.size=some PySem.W.emptyDict:=Heap.get?_push_size s.heap rfl;have e2:((s.heap.push PySem.W.emptyDict).push (PySem.W.instObj C s.heap.objs.size)).get? (s.heap.objs.size+1)=some (PySem.W.instObj C s.heap.objs.size):=by
  have:=Heap.get?_push_size (s.heap.push PySem.W.emptyDict) (o:=PySem.W.instObj C s.heap.objs.size) rfl
  rwa [Heap.size_push]at this
 have e3:(s.heap.push PySem.W.emptyDict).Ns s.heap.objs.size (fun _=>none):=⟨PySem.W.emptyDict,#[],_,e1,rfl,(fun e he=>absurd he (by simp)),fun _=>rfl⟩;have I1:=I.laid (a:=s.heap.objs.size) (o:=.own (s.heap.objs.size+1)) (h':=s.heap.push PySem.W.emptyDict) (t':=s.toks) (fun b u q=>Heap.get?_push_of_some _ q) (aD _) ⟨_,e1⟩;refine I1.laid (a:=s.heap.objs.size+1) (o:=.ins C s.heap.objs.size []) (t':=s.toks) (fun b u q=>Heap.get?_push_of_some _ q) (Nat.le_of_eq (Heap.size_push _ _)) ?_;have ne:s.heap.objs.size≠s.heap.objs.size+1:=cU (ly _);refine⟨by rw[dq ne,lC],cE _,ne,e2,fun _=>none,(Heap.Ns1.of_empty e3).at fun o q=>Heap.get?_push_of_some _ q,fun _=>True.intro,fun y hy=>absurd rfl hy⟩
theorem Rf{prog:Program}{w:World}{env:Env}{e:Expr}{f:Str}{pos:Pos}{s:Shared}{Q:Value->Shared->Prop}(hb:attributeBase e f env (eval e env)=eval e env)
  (h:wpAny (model prog w) A (eval e env) (fun o s₁=>wpAny (model prog w) A (getAttr o f true) Q E s₁) E s):wpAny (model prog w) A (eval (.Attribute e f pos) env) Q E s:=
 Attribute_any_ h (by rw[arm_eval_Attribute,hb])
end
def zh(K:PySem.W.Frag)(ta:TE)(f:Str):TE:=fun σ H Q=>ta σ H fun x H1=>∃a C dx fs v,x=.ref a/\H1 a=some (.ins C dx fs)/\nA K C/\bW K C f/\fs.lookup f=some v/\Q v H1
def RM(K:PySem.W.Frag)(ta tv:TE)(f:Str):TS:=fun D σ H=>tv σ H fun y H1=>ta σ H1 fun x H2=>∃a C dx fs,x=.ref a/\H2 a=some (.ins C dx fs)/\nA K C/\bW K C f/\fs.length<1000/\
 D.nx σ (upd H2 a (.ins C dx (cD f y fs)))
def PD(X:Cx)(op:Operator)(rd:V->V->Hp->VK->Prop):Prop:=
 ∀(pins:List (Addr×Obj))(s:Shared)(σ:St)(H:Hp)(x y:V)(u v:Value)(Q:VK),Inv X pins σ H s->RelV x u->RelV y v->rd x y H Q->wpAny (model X.prog X.w) X.A (inplaceOp op u v) (EP X pins σ Q) X.xe s
def Qr(K:PySem.W.Frag)(ta tv:TE)(rd:V->V->Hp->VK->Prop)(f:Str):TS:=fun D σ H=>ta σ H fun x H1=>∃a C dx fs v,x=.ref a/\H1 a=some (.ins C dx fs)/\nA K C/\bW K C f/\fs.lookup f=some v/\
 tv σ H1 fun y H2=>rd v y H2 fun z H3=>∃dx' fs',H3 a=some (.ins C dx' fs')/\fs'.length<1000/\D.nx σ (upd H3 a (.ins C dx' (cD f z fs')))
section
variable{X:Cx}{o e value:Expr}{f:Str}{pos pos' tpos:Pos}{ta tv:TE}
theorem aC(he:PE X e ta)(hb:attributeBase e f X.env (eval e X.env)=eval e X.env):PE X (.Attribute e f pos) (zh X.K ta f):=by
 intro pins s σ H Q I h;refine Rf hb (bR (he pins s σ H _ I h) fun u s1 ⟨x,H1,I1,rx,a,C,dx,fs,v,ex,ea,c,n,l,q⟩=>?_);subst ex;obtain rfl:u=Value.ref a:=rx;exact Bn I1 ea c n l fun u' s2 I2 ru=>⟨v,H1,I2,ru,q⟩
theorem bu(ha:PE X o ta)(hv:PE X value tv)(hs:swapsWith value (some (.Attribute o f pos')) pos.line X.env=pure false):PS X (.Assign [.Attribute o f pos'] value pos) (RM X.K ta tv f):=by
 intro pins s σ H D I h;refine plainObj_wpAny_Assign_Attribute (bR (hv pins s σ H _ I h) fun u s1 ⟨y,H1,I1,ry,q⟩=>bR (ha pins s1 σ H1 _ I1 q) fun ov s2 ⟨x,H2,I2,rx,a,C,dx,fs,ex,ea,c,n,l,q2⟩=>?_) hs;subst ex;obtain rfl:ov=Value.ref a:=rx;exact Av I2 ea c n l ry fun s3 I3=>⟨σ,_,I3,q2⟩
theorem ij{op:Operator}{rd:V->V->Hp->VK->Prop}(ha:PE X o ta)(hv:PE X value tv)(hop:PD X op rd):PS X (.AugAssign (.Attribute o f tpos) op value pos) (Qr X.K ta tv rd f):=by
 intro pins s σ H D I h;refine wpAny_AugAssign_AttributeAny (bR (ha pins s σ H _ I h) fun ov s1 ⟨x,H1,I1,rx,a,C,dx,fs,v,ex,ea,c,n,l,q⟩=>?_);subst ex;obtain rfl:ov=Value.ref a:=rx;refine Bn I1 ea c n l fun u s2 I2 ru=>bR (hv pins s2 σ H1 _ I2 q) fun w3 s3 ⟨y,H2,I3,ry,q3⟩=>bR (hop pins s3 σ H2 v y u w3 _ I3 ru ry q3) fun w4 s4 ⟨z,H3,I4,rz,dx',fs',ea',l',q4⟩=>?_;exact Av I4 ea' c n l' rz fun s5 I5=>⟨σ,_,I5,q4⟩
def UB:V->V->Hp->VK->Prop:=fun x y H Q=>∃i j,x=.int i/\y=.int j/\Q (.int (i+j)) H
def Uu:V->V->Hp->VK->Prop:=fun x y H Q=>∃i j,x=.int i/\y=.int j/\Q (.int (i - j)) H
theorem qI:PD X .Add UB:=by
 rintro pins s σ H x y u v Q I rx ry ⟨i,j,rfl,rfl,q⟩;obtain⟨t,rfl⟩:=(show ∃t,u=Value.int i t from rx);obtain⟨t',rfl⟩:=(show ∃t',v=Value.int j t' from ry);exact PyProof.Rows.iadd_int ⟨.int (i+j),H,I.tok _,⟨_,rfl⟩,q⟩
theorem gH:PD X .Sub Uu:=by
 rintro pins s σ H x y u v Q I rx ry ⟨i,j,rfl,rfl,q⟩;obtain⟨t,rfl⟩:=(show ∃t,u=Value.int i t from rx);obtain⟨t',rfl⟩:=(show ∃t',v=Value.int j t' from ry);exact PyProof.Rows.isub_int ⟨.int (i - j),H,I.tok _,⟨_,rfl⟩,q⟩
end
section
variable{X:Cx}{pins:List (Addr×Obj)}{σ:St}{H:Hp}{s:Shared}{A:Around}{E:Value->Shared->Prop}{Q:Value->Shared->Prop}{c:Value}{b:Bool}
end
end L2
namespace L2
open PySem PySem.Spec PyProof.Rows
structure eO(k:Nat)(A:Around):Prop where
 hd:A.handled=none
 dp:A.depth+3*k+5<recursionLimit
 un:A.units+16*k+200<cLine
theorem eO.mono{j k:Nat}{A:Around}(r:eO k A)(h:j<=k):eO j A:=⟨r.hd,by have:=r.dp;omega,by have:=r.un;omega⟩
theorem eO.deeper{k:Nat}{A:Around}(r:eO (k+1) A)(env:Env):eO k (A.deeper env):=
 ⟨r.hd,by have:=r.dp;show A.depth+1+3*k+5<_;omega,by have:=r.un;show A.units+3+16*k+200<_;omega⟩
theorem Lf{A:Around}{C:Addr}{us:List Value}{kw:List (Str×Value)}:(A.under (.builtin "type.__call__" ⟨.ref C::us,kw⟩)).depth=A.depth+1:=by
 first|rfl|simp[Around.under,Code.weight,Code.isCreation,Code.isGuard,Code.isCaller,Code.frames,Code.isFrame,guardIds]
theorem Le{A:Around}{C:Addr}{us:List Value}{kw:List (Str×Value)}:(A.under (.builtin "type.__call__" ⟨.ref C::us,kw⟩)).units=A.units+1:=by
 first|rfl|simp[Around.under,Code.cUnits,Code.frames,Code.isFrame]
theorem eO.make{k:Nat}{A:Around}(r:eO (k+1) A)(C:Addr)(us:List Value)(kw:List (Str×Value)):eO k (A.under (.builtin "type.__call__" ⟨.ref C::us,kw⟩)):=
 ⟨r.hd,by have:=r.dp;rw[Lf];omega,by have:=r.un;rw[Le];omega⟩
theorem eO.depth{k:Nat}{A:Around}(r:eO k A):A.depth<recursionLimit:=by have:=r.dp;omega
theorem eO.units{k:Nat}{A:Around}(r:eO k A):A.units+64<cLine:=by have:=r.un;omega
def qf:TA:=fun _ H Q=>Q [] H
def FE(ta:TE)(tr:TA):TA:=fun σ H Q=>ta σ H fun x H1=>tr σ H1 fun xs H2=>Q (x::xs) H2
section
variable{X:Cx}{e:Expr}{es:List Expr}{te:TE}{t:TA}{pos:Pos}
theorem au:PA X [] qf:=fun _ _ _ _ H Q I h=>Calls.spliced_nil ⟨[],H,I,.nil,h⟩
theorem aa(ha:PE X e te)(hr:PA X es t)(hs:starEach (e::es) X.env=(false,eval e X.env)::starEach es X.env:=by rfl):PA X (e::es) (FE te t):=by
 intro pos pins s σ H Q I h;rw[hs];show wpAny _ _ (spliced ((false,eval e X.env)::backTo pos (starEach es X.env))) _ _ s;refine Calls.spliced_cons (bR (ha pins s σ H _ I h) fun u s1 ⟨x,H1,I1,r1,q1⟩=>?_);exact bR (hr pos pins s1 σ H1 _ I1 q1) fun us s2 ⟨xs,H2,I2,r2,q2⟩=>⟨x::xs,H2,I2,.cons r1 r2,q2⟩
def Ue(t:TA):TE:=fun σ H Q=>t σ H fun xs H1=>xs.length<=sizeLine/\∀p,H1 p=none->Q (.ref p) (upd H1 p (.tup xs))
def Ui(t:TA):TE:=fun σ H Q=>t σ H fun xs H1=>xs.length<=sizeLine/\∀p,H1 p=none->Q (.ref p) (upd H1 p (.lst xs))
theorem qA{x1}(h:PA X es t):PE X (.Tuple es x1 pos) (Ue t):=by
 intro pins s σ H Q I hq;refine wpAny_Tuple_spliced (bR (h pos pins s σ H _ I hq) fun us s1 ⟨xs,H1,I1,r,z,q⟩=>⟨by rw[<-r.length];exact z,?_⟩);have hf:H1 s1.heap.objs.size=none:=I1.bT.fresh (aD _);refine⟨.ref s1.heap.objs.size,upd H1 s1.heap.objs.size (.tup xs),I1.laid (t':=s1.toks) (fun b u e=>Heap.get?_push_of_some _ e) (aD _) ?_,rfl,q _ hf⟩;exact⟨z,us,r,⟨_,Heap.get?_push_size _ rfl,rfl,_,rfl⟩⟩
theorem cX(h:PA X es t):PE X (.List es pos) (Ui t):=by
 intro pins s σ H Q I hq;refine wpAny_List_spliced (bR (h pos pins s σ H _ I hq) fun us s1 ⟨xs,H1,I1,r,z,q⟩=>⟨by rw[<-r.length];exact z,?_⟩);have hf:H1 s1.heap.objs.size=none:=I1.bT.fresh (aD _);refine⟨.ref s1.heap.objs.size,upd H1 s1.heap.objs.size (.lst xs),I1.laid (t':=s1.toks) (fun b u e=>Heap.get?_push_of_some _ e) (aD _) ?_,rfl,q _ hf⟩;exact⟨z,us,0,r,Heap.get?_push_size _ rfl⟩
end
abbrev Sp:=List V->Hp->VK->XK->Prop
abbrev rZ:=List Env->Hp->Shared->XK->Value->Shared->Prop
structure Ah(P:Program)(w:World)(K:PySem.W.Frag)(mg:Str->Option Value)(base:Heap)(A:Around)(outer:List Env)(s:Shared)(H:Hp):Prop where
 frames:A.frames=some outer
 mod:Mod K mg base
 bs:∀b o,base.get? b=some o->s.heap.get? b=some o/\H b=none
 BR:base.objs.size<=s.heap.objs.size
 pC:s.heap.FunFrames base outer
 Hh:∀b∈bK outer,H b=none
 bT:gm P w H s.heap
 bare:AllBare s.gens
def CE(outer:List Env)(P:Program)(w:World)(H:Hp)(s:Shared)(Q:VK)(u:Value)(s':Shared):Prop:=
 ∃v H',s'.os=s.os/\AllBare s'.gens/\Un (bK outer) [] H H' s.heap s'.heap/\gm P w H' s'.heap/\RelV v u/\Q v H'
def CR(CX:rZ)(outer:List Env)(P:Program)(w:World)(H:Hp)(s:Shared)(Q:VK)(E:XK)(r:Result)(s':Shared):Prop:=
 match r with
 | .ok (.ret u)=>CE outer P w H s Q u s'
 | .ok _=>False
 | .error e=>CX outer H s E e s'
structure iF(P:Program)(w:World)(K:PySem.W.Frag)(mg:Str->Option Value)(base:Heap)(CX:rZ)(k:Nat)(f:Addr)(fd:FuncData)(ps:List Str)(sp:Sp):Prop where
 len:∀vs H Q E,sp vs H Q E->vs.length=ps.length
 run:∀(A:Around)(outer:List Env)(s:Shared)(H:Hp)(args:Args)(us:List Value)(vs:List V)(Q:VK)(E:XK),eO k A->Ah P w K mg base A outer s H->BindsTo s fd args (ps.zip us)->Vals vs us->sp vs H Q E->
  codeAny (model P w) A (.call (.ref f) args) (CR CX outer P w H s Q E) s
theorem iF.mono{P:Program}{w:World}{K:PySem.W.Frag}{mg:Str->Option Value}{base:Heap}{CX:rZ}{j k:Nat}{f:Addr}{fd:FuncData}{ps:List Str}{sp:Sp}(F:iF P w K mg base CX j f fd ps sp)(h:j<=k):
  iF P w K mg base CX k f fd ps sp:=⟨F.len,fun A outer s H args us vs Q E hr=>F.run A outer s H args us vs Q E (hr.mono h)⟩
theorem iF.imp{P:Program}{w:World}{K:PySem.W.Frag}{mg:Str->Option Value}{base:Heap}{CX:rZ}{k:Nat}{f:Addr}{fd:FuncData}{ps:List Str}{sp sp':Sp}(F:iF P w K mg base CX k f fd ps sp)
  (h:∀vs H Q E,sp' vs H Q E->sp vs H Q E):iF P w K mg base CX k f fd ps sp':=
 ⟨fun vs H Q E q=>F.len vs H Q E (h _ _ _ _ q),fun A outer s H args us vs Q E hr he hb hv hs=>F.run A outer s H args us vs Q E hr he hb hv (h _ _ _ _ hs)⟩
theorem Ah.make{P:Program}{w:World}{K:PySem.W.Frag}{mg:Str->Option Value}{base:Heap}{A:Around}{outer:List Env}{s:Shared}{H:Hp}(e:Ah P w K mg base A outer s H)(C:Addr)(us:List Value)(kw:List (Str×Value)):
  Ah P w K mg base (A.under (.builtin "type.__call__" ⟨.ref C::us,kw⟩)) outer s H:=⟨by first|exact e.frames|(simpa[Around.under,Code.envs,Code.isFrame,pushEnvs]using e.frames),e.mod,e.bs,e.BR,e.pC,e.Hh,e.bT,e.bare⟩
section
variable{X:Cx}{pins:List (Addr×Obj)}{σ:St}{H:Hp}{s s':Shared}
theorem Inv.SE(I:Inv X pins σ H s):Ah X.prog X.w X.K X.mg X.base X.A X.stack s H:=
 ⟨I.ok.frames,I.ok.mod,I.bs,ck I.ok.BR I.sz,I.stack,I.Jx,I.bT,I.bare⟩
theorem Inv.after{Q:VK}{u:Value}(I:Inv X pins σ H s)(h:CE X.stack X.prog X.w H s Q u s'):EP X pins σ Q u s':=by
 obtain⟨v,H',os,bare,un,bT,r,q⟩:=h;obtain⟨hh,g,d,t,os'⟩:=s';obtain rfl:os'=s.os:=os;exact⟨v,H',I.call (h':=hh) (g':=g) (d':=d) (t':=t) (ch:=[]) un bT bare (fun b z=>absurd z (by simp)),r,q⟩
end
def FF(sp:Sp)(dvs:List V)(E:XK)(t:TA):TE:=fun σ H Q=>t σ H fun vs H1=>sp (vs++dvs) H1 Q E
def FD(C:Addr)(sp:Sp)(dvs:List V)(E:XK)(t:TA):TE:=fun σ H Q=>t σ H fun vs H1=>∀x dx,H1 x=none->H1 dx=none->dx≠x->
 sp (.ref x::(vs++dvs)) (upd (upd H1 dx (.own x)) x (.ins C dx [])) (fun v H2=>v=.bA/\Q (.ref x) H2) E
def Binds(K:PySem.W.Frag)(fd:FuncData)(ps:List Str)(ds:List Value):Prop:=
 ∀(s:Shared)(us:List Value),K.In s.heap->(us++ds).length=ps.length->BindsTo s fd ⟨us,[]⟩ (ps.zip (us++ds))
theorem Binds.all{K:PySem.W.Frag}{fd:FuncData}{ps:List Str}(h:∀us:List Value,us.length=ps.length->bindArgs fd ⟨us,[]⟩=pure (ps.zip us)):Binds K fd ps []:=fun s us _ hl=>by
 rw[aK]at hl⊢;exact .of_eq (h us hl)
def Passes(CX:rZ)(X:Cx)(E:XK):Prop:=∀(pins:List (Addr×Obj))(σ:St)(H:Hp)(s:Shared)(e:Value)(s':Shared),Inv X pins σ H s->CX X.stack H s E e s'->X.xe e s'
section
variable{X:Cx}{CX:rZ}{k:Nat}{f C:Addr}{fd:FuncData}{ps:List Str}{sp:Sp}{dvs:List V}{ds:List Value}{E:XK}{x m:Str}{p pos apos:Pos}{e o:Expr}{es:List Expr}{ta:TE}{t:TA}
theorem My{pins:List (Addr×Obj)}{σ:St}{H:Hp}{s:Shared}{Q:VK}{us:List Value}{vs:List V}(F:iF X.prog X.w X.K X.mg X.base CX k f fd ps sp)(hr:eO k X.A)(hb:Binds X.K fd ps ds)(hd:Vals dvs ds)(hx:Passes CX X E)
  (I:Inv X pins σ H s) (r:Vals vs us) (h:sp (vs++dvs) H Q E):wpAny (model X.prog X.w) X.A (call (.ref f) us) (EP X pins σ Q) X.xe s:=by
 have r2:Vals (vs++dvs) (us++ds):=r.append hd;have hl:(us++ds).length=ps.length:=by rw[<-r2.length];exact F.len _ _ _ _ h
 refine wpAny_call (codeAny_mono (F.run X.A X.stack s H ⟨us,[]⟩ (us++ds) (vs++dvs) Q E hr I.SE (hb s us I.jV hl) r2 h) fun r s' hq=>?_);cases r with
 |error e=>exact hx pins σ H s e s' I hq
 |ok fl=>
  cases fl with
  |ret u=>exact I.after hq
  |next=>exact False.elim hq
  |brk=>exact False.elim hq
  |cont=>exact False.elim hq
theorem QA(F:iF X.prog X.w X.K X.mg X.base CX k f fd ps sp)(hr:eO k X.A)(hg:Gl X x)(hm:X.mg x=some (.ref f))(hk:PySem.W.keepIn X.K (.ref f)=true)(hb:Binds X.K fd ps ds)(hd:Vals dvs ds)(hx:Passes CX X E)
  (ha:PA X (e::es) t) (hdb:(x==("__debug__":Str))=false:=by decide) (he:starEach (e::es) X.env=(false,eval e X.env)::starEach es X.env:=by rfl) (hpl:(backTo pos (starEach es X.env)).any (·.1)=false:=by rfl):
  PE X (.Call (.Name x p) (e::es) [] pos) (FF sp dvs E t):=by
 intro pins s σ H Q I h;refine wpAny_Call_Name_kw (x6 I hg hm ?_ hdb);refine PySem.W.callWith_K (h₀:=X.base) I.ok.mod.M8 hk (bR (ha pos pins s σ H _ I h) fun us s1 ⟨vs,H1,I1,r,q⟩=>⟨I1.jV,?_⟩) he hpl;exact My F hr hb hd hx I1 r q
structure Mk(K:PySem.W.Frag)(C f:Addr):Prop where
 makes:PySem.W.makesIn K C=true
 init:PySem.W.findIn K (.ref C) "__init__"=some (some (.ref f))
 fn:PySem.W.isFn K (.ref f)=true
 kp:PySem.W.keepIn K (.ref C)=true
theorem Gj{pins:List (Addr×Obj)}{σ:St}{H:Hp}{s:Shared}{Q:VK}{us:List Value}{vs:List V}(M:Mk X.K C f)(F:iF X.prog X.w X.K X.mg X.base CX k f fd ps sp)(hr:eO (k+1) X.A)(hb:Binds X.K fd ps ds)(hd:Vals dvs ds)
  (hx:Passes CX X E) (I:Inv X pins σ H s) (r:Vals vs us)
  (h:∀x dx,H x=none->H dx=none->dx≠x->sp (.ref x::(vs++dvs)) (upd (upd H dx (.own x)) x (.ins C dx [])) (fun v H2=>v=.bA/\Q (.ref x) H2) E):
  wpAny (model X.prog X.w) X.A (call (.ref C) us) (EP X pins σ Q) X.xe s:=by
 have hq:=h (s.heap.objs.size+1) s.heap.objs.size (I.bT.fresh (bc _)) (I.bT.fresh (aD _)) (cU (ly _));have I2:=Inv.made (C:=C) I;have r2:Vals (V.ref (s.heap.objs.size+1)::(vs++dvs)) (Value.ref (s.heap.objs.size+1)::(us++ds)):=.cons rfl (r.append hd);have hl:(Value.ref (s.heap.objs.size+1)::us++ds).length=ps.length:=by
  have e:=r2.length;rw[F.len _ _ _ _ hq]at e;exact e.symm
 refine wpAny_call (OT (f:=f) I.jV M.makes M.init (beq_iff_eq.mp M.fn) (codeAny_mono (F.run _ X.stack _ _ ⟨Value.ref (s.heap.objs.size+1)::us,[]⟩ (Value.ref (s.heap.objs.size+1)::(us++ds)) _ _ E (hr.make C us [])
  (I2.SE.make C us []) (hb _ (Value.ref (s.heap.objs.size+1)::us) I2.jV hl) r2 hq) fun r s' hq'=>?_))
 cases r with
 |error e=>exact hx pins σ _ _ e s' I2 hq'
 |ok fl=>
  cases fl with
  |ret u=>
   obtain⟨v,H',I3,rv,ev,q3⟩:=I2.after hq';subst ev;exact⟨rv,⟨V.ref (s.heap.objs.size+1),H',I3,rfl,q3⟩⟩
  |next=>exact False.elim hq'
  |brk=>exact False.elim hq'
  |cont=>exact False.elim hq'
theorem Qx(M:Mk X.K C f)(F:iF X.prog X.w X.K X.mg X.base CX k f fd ps sp)(hr:eO (k+1) X.A)(hg:Gl X x)(hm:X.mg x=some (.ref C))(hb:Binds X.K fd ps ds)(hd:Vals dvs ds)(hx:Passes CX X E)
  (ha:PA X (e::es) t) (hdb:(x==("__debug__":Str))=false:=by decide) (he:starEach (e::es) X.env=(false,eval e X.env)::starEach es X.env:=by rfl) (hpl:(backTo pos (starEach es X.env)).any (·.1)=false:=by rfl):
  PE X (.Call (.Name x p) (e::es) [] pos) (FD C sp dvs E t):=by
 intro pins s σ H Q I h;refine wpAny_Call_Name_kw (x6 I hg hm ?_ hdb);refine PySem.W.callWith_K (h₀:=X.base) I.ok.mod.M8 M.kp (bR (ha pos pins s σ H _ I h) fun us s1 ⟨vs,H1,I1,r,q⟩=>⟨I1.jV,?_⟩) he hpl;exact Gj M F hr hb hd hx I1 r q
theorem OF(M:Mk X.K C f)(F:iF X.prog X.w X.K X.mg X.base CX k f fd ps sp)(hr:eO (k+1) X.A)(hg:Gl X x)(hm:X.mg x=some (.ref C))(hb:Binds X.K fd ps ds)(hd:Vals dvs ds)(hx:Passes CX X E)
  (hdb:(x==("__debug__":Str))=false:=by decide):PE X (.Call (.Name x p) [] [] pos) (FD C sp dvs E qf):=by
 intro pins s σ H Q I h;refine wpAny_Call_Name_kw (x6 I hg hm ?_ hdb);exact PySem.W.callWith_K0 I.jV M.kp (Gj (us:=[]) M F hr hb hd hx I .nil h)
end
section
variable{X:Cx}{CX:rZ}{k:Nat}{f C:Addr}{fd:FuncData}{ps ks:List Str}{sp:Sp}{E:XK}{x m:Str}{p pos apos kpos:Pos}{e o:Expr}{es:List Expr}{kws:List Keyword}{te ta:TE}{t tk:TA}{nm:Option Str}
variable{g:List Value->List Value->List Value}{gV:List V->List V->List V}
end
structure aR(N P:List Str)(sc:Scope):Prop where
 kind:sc.kind=.function
 co:sc.isCoroutine=false
 gen:sc.isGenerator=false
 nd:N.Nodup
 pre:N.take P.length=P
 par:∀x∈P,sc.names.lookup x=some .local\/sc.names.lookup x=some .cell
 R1:∀y∈sc.names,y.2≠.free
theorem Et{kindOf:Str->Option NameKind}{x:Str}:∀{binds:List (Str×Value)}{m:Str->Option Value},(∀v,(x,v)∉binds)->bindL kindOf binds m x=m x
 |[],_,_=>rfl
 |(n,v)::r,m,h=>by
  unfold bindL;rw[Et fun w hw=>h w (ah _ hw)];split
  ·have:x≠n:=by rintro rfl;exact h v aA
   simp[this]
  ·rfl
theorem Ew{kindOf:Str->Option NameKind}{x:Str}:∀{binds:List (Str×Value)}{m:Str->Option Value},(∀v,(x,v)∉binds)->bindC kindOf binds m x=m x
 |[],_,_=>rfl
 |(n,v)::r,m,h=>by
  unfold bindC;rw[Ew fun w hw=>h w (ah _ hw)];split
  ·rfl
  ·have:x≠n:=by rintro rfl;exact h v aA
   simp[this]
theorem Eu{kindOf:Str->Option NameKind}{x:Str}{v:Value}:∀{P:List Str}{vs:List Value}{i:Nat}{m:Str->Option Value},P.Nodup->P[i]? =some x->vs[i]? =some v->kindOf x=some .local->
  bindL kindOf (P.zip vs) m x=some v
 |[],_,_,_,_,h,_,_=>by simp at h
 |_::_,[],_,_,_,_,h,_=>by simp at h
 |p::P,w::vs,0,m,nd,h1,h2,hk=>by
  simp at h1 h2;subst h1;subst h2;show bindL kindOf ((p,w)::P.zip vs) m p=_;unfold bindL;rw[Et fun v hv=>(ib.mp nd).1 (List.of_mem_zip hv).1,ai hk];simp
 |p::P,w::vs,i+1,m,nd,h1,h2,hk=>by
  show bindL kindOf ((p,w)::P.zip vs) m x=_;unfold bindL;exact Eu (i:=i) (ib.mp nd).2 (by simpa using h1) (by simpa using h2) hk
theorem Ex{kindOf:Str->Option NameKind}{x:Str}{v:Value}:∀{P:List Str}{vs:List Value}{i:Nat}{m:Str->Option Value},P.Nodup->P[i]? =some x->vs[i]? =some v->kindOf x≠some .local->
  bindC kindOf (P.zip vs) m x=some v
 |[],_,_,_,_,h,_,_=>by simp at h
 |_::_,[],_,_,_,_,h,_=>by simp at h
 |p::P,w::vs,0,m,nd,h1,h2,hk=>by
  simp at h1 h2;subst h1;subst h2;show bindC kindOf ((p,w)::P.zip vs) m p=_;unfold bindC;rw[Ew fun v hv=>(ib.mp nd).1 (List.of_mem_zip hv).1,af hk];simp
 |p::P,w::vs,i+1,m,nd,h1,h2,hk=>by
  show bindC kindOf ((p,w)::P.zip vs) m x=_;unfold bindC;exact Ex (i:=i) (ib.mp nd).2 (by simpa using h1) (by simpa using h2) hk
def start(N:List Str)(vs:List V):St:=vs.map some++List.replicate (N.length - vs.length) none
def xF(CX:rZ)(P:Program)(w:World)(K:PySem.W.Frag)(mg:Str->Option Value)(base:Heap)(N:List Str)(qual:Str)(scope:Scope)(f:Addr)(cd:Value)(A:Around)(outer:List Env)(s:Shared)(H:Hp)(E:XK):Cx where
 prog:=P
 w:=w
 K:=K
 mg:=mg
 base:=base
 A:=A.deeper (envOfC qual scope s.heap.objs.size f cd)
 N:=N
 l6:=s
 N6:=H
 env:=envOfC qual scope s.heap.objs.size f cd
 outer:=outer
 stack:=envOfC qual scope s.heap.objs.size f cd::outer
 ex:=[]
 calm:=true
 fn:=fun _=>true
 pn:=[]
 xe:=fun e s'=>wpAny (model P w) (A.deeper (envOfC qual scope s.heap.objs.size f cd)) (leaving (envOfC qual scope s.heap.objs.size f cd) e) (fun _ s''=>CX outer H s E e s'') (fun e' s''=>CX outer H s E e' s'') s'
theorem HC{sc:Scope}{n:Nat}{x:Str}(h:sc.names.lookup x=some .cell):∃c,(cellsFrom n sc.names []).lookup x=some c:=by
 have q:=PySem.W.cellsFrom_some sc.names n [] (.inl h);exact dY.mp q
theorem Nf{CX:rZ}{P:Program}{w:World}{K:PySem.W.Frag}{mg:Str->Option Value}{base:Heap}{N ps:List Str}{qual:Str}{scope:Scope}{f:Addr}{cd:Value}{A:Around}{outer:List Env}{s s1:Shared}{H:Hp}{E:XK}{us:List Value}{vs:List V}
  (S:aR N ps scope) (hd:A.handled=none) (e0:Ah P w K mg base A outer s H) (hl:vs.length=ps.length) (r:Vals vs us)
  (x:InCallC s s.heap.objs.size (bindL (envOfC qual scope s.heap.objs.size f cd).kindOf (ps.zip us) fun _=>none) (cellsFrom (s.heap.objs.size+1) scope.names []) (bindC (envOfC qual scope s.heap.objs.size f cd).kindOf (ps.zip us) fun _=>none) s1):
  Inv (xF CX P w K mg base N qual scope f cd A outer s H E) [] (start N vs) H s1:=by
 have hpl:ps.length<=N.length:=by have:=congrArg List.length S.pre;rw[cJ]at this;omega
 obtain⟨h1,tk,rfl,hk⟩:=x.done;have noA:∀b:Addr,b∉(xF CX P w K mg base N qual scope f cd A outer s H E).ex:=fun b z=>absurd (show b∈([]:List Addr)from z) (by simp);refine⟨⟨e0.mod,S.kind,rfl,rfl,aD _,fun y z c h1 h2=>?_,fun y hy=>?_,fun y c _ h=>?_,fun _=>hd,Around.frames_deeper e0.frames,.inr ⟨rfl,rfl⟩,fun b z=>absurd z (noA b),e0.bs,e0.BR,fun b _ _=>noA b,fun b z=>absurd z (noA b),e0.pC,e0.Hh⟩,
  rfl,e0.bare,Un.kept hk,⟨_,x.toInCall.ns,fun i y v h1 h2 h3=>?_⟩,fun y c h=>⟨_,x.cell y c h⟩,e0.bT.fresh (aD _),fun y c h=>?_,fun p hp=>absurd (show p∈([]:List (Addr×Obj))from hp) (by simp),e0.bT.kept hk,?_⟩
 ·exact name_of_addr x.apart (cb h1) (cb h2)
 ·have hy:scope.names.lookup y=some .cell\/scope.names.lookup y=some .free:=hy
  rcases hy with hy|hy
  ·exact HC hy
  ·exact absurd rfl (S.R1 _ (cb hy))
 ·exact mz (x.above y c (cb h))
 ·have hi:i<vs.length:=by
   unfold start at h2;by_cases hi:i<vs.length
   ·exact hi
   ·rw[dj (by simpa using hi)]at h2;rw[List.getElem?_replicate]at h2;split at h2<;>cases h2
  have ha:vs[i]? =some v:=by
   unfold start at h2;rw[jw (by simpa using hi),a9]at h2;cases e:vs[i]? with
   |none=>rw[e]at h2;cases h2
   |some a=>rw[e]at h2;cases h2;rfl
  obtain⟨u,hu,rv⟩:=r.get ha;have hp:ps[i]? =some y:=by
   rw[<-S.pre,List.getElem?_take_of_lt (by omega)];exact h1
  have ndP:ps.Nodup:=by rw[<-S.pre];exact S.nd.sublist (List.take_sublist _ _)
  refine⟨u,rv,?_⟩
  rcases S.par y (aH hp)with k|k
  ·exact .inl ⟨k,Eu ndP hp hu k⟩
  ·obtain⟨c,e⟩:=HC (n:=s.heap.objs.size+1) k;refine .inr ⟨.inl k,c,e,?_⟩;have q:=x.cell y c e;rw[Ex ndP hp hu (by show scope.names.lookup y≠_;rw[k];decide)]at q;exact q
 ·exact e0.bT.fresh (mz (x.above y c (cb h)))
 ·unfold start;show _=N.length;rw[aq,aP,List.length_replicate];omega
theorem PX{CX:rZ}{P:Program}{w:World}{K:PySem.W.Frag}{mg:Str->Option Value}{base:Heap}{k:Nat}{f:Addr}{name qual:Str}{params:Arguments}{body:List Stmt}{scope:Scope}{dV kV doc pm cdv ct oc:Value}{an od:Option Addr}
  {osl:Array (Option Value)} {N ps:List Str} {sp:Sp} (lk:K.lookup f=some ⟨oc,od,.func (PySem.W.fnOf name qual params body scope dV kV doc pm an cdv ct),osl⟩) (hcd:PySem.W.codeIn K cdv qual=true) (S:aR N ps scope)
  (len:∀vs H Q E,sp vs H Q E->vs.length=ps.length)
  (hbody:∀(A:Around)(outer:List Env)(s:Shared)(H:Hp)(vs:List V)(Q:VK)(E:XK),eO k (A.deeper (envOfC qual scope s.heap.objs.size f cdv))->sp vs H Q E->
   ∃t,qU (xF CX P w K mg base N qual scope f cdv A outer s H E) body t/\t {nx:=fun _ H'=>Q .bA H',rt:=Q} (start N vs) H):
  iF P w K mg base CX (k+1) f (PySem.W.fnOf name qual params body scope dV kV doc pm an cdv ct) ps sp:=by
 refine⟨len,fun A outer s H args us vs Q E hr e0 hb r hsp=>?_⟩;have hl:=len _ _ _ _ hsp;have KX:K.In s.heap:=e0.mod.M8.keeps fun b o e=>(e0.bs b o e).1;have lim:s.heap.NoLimit:=e0.mod.nolimit.keeps fun b o e=>(e0.bs b o e).1;have hkind:∀y∈ps.zip us,scope.names.lookup y.1=some .local\/(scope.names.lookup y.1=some .cell/\((cellsFrom (s.heap.objs.size+1) scope.names []).lookup y.1).isSome=true):=fun⟨n,v⟩ hy=>by
  rcases S.par n (List.of_mem_zip hy).1 with q|q
  ·exact .inl q
  ·exact .inr ⟨q,PySem.W.cellsFrom_some _ _ _ (.inl q)⟩
 refine codeAny_call_function hr.depth (KX _ _ lk) rfl S.co S.gen rfl (PySem.W.codeRec_of KX hcd) (hb _ _ _ _ ?_);refine wpAny_newFunctionEnv_cells S.kind hkind fun env he s1 x=>?_;subst he;refine⟨lim.keeps x.toInCall.keep,codeAny_func ?_⟩;obtain⟨t,ht,hq⟩:=hbody A outer s H vs Q E (hr.deeper _) hsp;have I:Inv (xF CX P w K mg base N qual scope f cdv A outer s H E) [] (start N vs) H s1:=Nf S hr.hd e0 hl r x;refine wpAny_mono (ht [] s1 (start N vs) H _ I hq) (fun fl s' hs=>?_) fun e s' hs=>hs;have fin:∀{σ':St}{H':Hp}{v:V}{u:Value},Inv (xF CX P w K mg base N qual scope f cdv A outer s H E) [] σ' H' s'->RelV v u->Q v H'->CE outer P w H s Q u s':=
  fun{σ' H' v u} J rv q=>⟨v,H',J.os,J.bare,J.base,J.bT,rv,q⟩
 cases fl with
 |ret u=>
  obtain⟨v,σ',H',J,rv,q⟩:=hs;exact fin J rv q
 |next=>
  obtain⟨σ',H',J,q⟩:=hs;exact fin (v:=V.bA) (u:=Value.none) J rfl q
 |brk=>
  obtain⟨_,_,_,q⟩:=hs;exact False.elim q
 |cont=>
  obtain⟨_,_,_,q⟩:=hs;exact False.elim q
end L2
namespace L2
open PySem PySem.Spec PyProof.Rows
section
variable{X:Cx}{x:Str}{p pos:Pos}{e:Expr}{es:List Expr}{t:TA}{id T:String}{r:List V->Hp->VK->Prop}
def T5(r:List V->Hp->VK->Prop)(t:TA):TE:=fun σ H Q=>t σ H fun vs H1=>r vs H1 Q
theorem dc(hc:pU X (.builtin id) r)(hg:Gl X x)(hm:X.mg x=none)(hv:bootBuiltins x=some (.builtin id))(ha:PA X (e::es) t)(hn:x≠"__name__":=by decide)(hdb:(x==("__debug__":Str))=false:=by decide)
  (he:starEach (e::es) X.env=(false,eval e X.env)::starEach es X.env:=by rfl) (hpl:(backTo pos (starEach es X.env)).any (·.1)=false:=by rfl):PE X (.Call (.Name x p) (e::es) [] pos) (T5 r t):=by
 intro pins s σ H Q I h;refine wpAny_Call_Name_kw (Bg I hg hm hv ?_ hn hdb);exact PyProof.Rows.callWith_builtin1 (bR (ha pos pins s σ H _ I h) fun us s1 ⟨vs,H1,I1,r1,q1⟩=>hc pins s1 σ H1 vs us Q I1 r1 q1) he hpl
theorem DS(hc:pU X (.type T) r)(hg:Gl X x)(hm:X.mg x=none)(hv:bootBuiltins x=some (.type T))(ha:PA X (e::es) t)(hn:x≠"__name__":=by decide)(hdb:(x==("__debug__":Str))=false:=by decide)
  (he:starEach (e::es) X.env=(false,eval e X.env)::starEach es X.env:=by rfl) (hpl:(backTo pos (starEach es X.env)).any (·.1)=false:=by rfl):PE X (.Call (.Name x p) (e::es) [] pos) (T5 r t):=by
 intro pins s σ H Q I h;refine wpAny_Call_Name_kw (Bg I hg hm hv ?_ hn hdb);exact iT (bR (ha pos pins s σ H _ I h) fun us s1 ⟨vs,H1,I1,r1,q1⟩=>hc pins s1 σ H1 vs us Q I1 r1 q1) he hpl
end
end L2
namespace HT
open PySem PyProof.Rows
section
open PySem.SeqAt
open PySem.AutoSeq1 (wpAny_loadPart')
open PySem.MeetsSeq PySem.MeetsSeq2 PySem.MeetsSeq3
end
section
variable{prog:Program}{w:World}{A:Around}{E:Value->Shared->Prop}{s:Shared}
def nz(n d:Nat):Option Int->Nat
 |none=>d
 |some v=>if v<0 then(v+(n:Int)).toNat else min v.toNat n
theorem zw(n d:Nat):nz n d none=d:=rfl
theorem kl(n d k:Nat):nz n d (some (k:Int))=min k n:=by
 show(if(k:Int)<0 then((k:Int)+(n:Int)).toNat else min (k:Int).toNat n)=min k n;rw[af (by omega),Int.toNat_natCast]
end
end HT
namespace L2
open PySem PySem.Spec PyProof.Rows
abbrev TO:=St->Hp->(Option Int->Hp->Prop)->Prop
def PO(X:Cx)(e:Option Expr)(t:TO):Prop:=
 ∀(pins:List (Addr×Obj))(s:Shared)(σ:St)(H:Hp)(Q:Option Int->Hp->Prop),Inv X pins σ H s->t σ H Q->
  wpAny (model X.prog X.w) X.A (evalPart e X.env) (fun u s'=>∃o H',Inv X pins σ H' s'/\IsPart u o/\Q o H') X.xe s
def Qb:TO:=fun _ H Q=>Q none H
def Tc(t:TE):TO:=fun σ H Q=>t σ H fun x H1=>∃i,x=.int i/\Q (some i) H1
section
variable{X:Cx}{e:Expr}{te:TE}{lo hi:Option Expr}{tl th:TO}{pos p2:Pos}
theorem CI:PO X none Qb:=by
 intro pins s σ H Q I h;rw[evalPart_none];exact wpAny_pure ⟨none,H,I,.none,h⟩
theorem km(h:PE X e te):PO X (some e) (Tc te):=by
 intro pins s σ H Q I hw;rw[evalPart_some];refine bR (h pins s σ H _ I hw) fun u s1 ⟨x,H1,I1,r1,q1⟩=>?_;obtain⟨i,rfl,q⟩:=q1;obtain⟨t,rfl⟩:=r1;exact⟨some i,H1,I1,.int i t,q⟩
def T9(X:Cx)(r:V->Option Int->Option Int->Hp->VK->Prop):Prop:=
 ∀(pins:List (Addr×Obj))(s:Shared)(σ:St)(H:Hp)(x:V)(v vl vu:Value)(lo hi:Option Int)(sl:Addr)(Q:VK),Inv X pins σ H s->RelV x v->s.heap.IsSliceOf sl vl vu .none->IsPart vl lo->IsPart vu hi->r x lo hi H Q->
  ∃T id,typeLookup (.type T) "__getitem__"=pure (some (.builtin id))/\s.TypeIs v T/\wpAny (model X.prog X.w) X.A (getItem v (.ref sl)) (EP X pins σ Q) X.xe s
def UZ(r:V->Option Int->Option Int->Hp->VK->Prop)(te:TE)(tl th:TO):TE:=fun σ H Q=>te σ H fun x H1=>tl σ H1 fun l H2=>th σ H2 fun u H3=>r x l u H3 Q
theorem nV{r:V->Option Int->Option Int->Hp->VK->Prop}(hr:T9 X r)(he:PE X e te)(hl:PO X lo tl)(hu:PO X hi th):PE X (.Subscript e (.Slice lo hi none p2) pos) (UZ r te tl th):=by
 intro pins s σ H Q I h;refine Subscript_ (bR (he pins s σ H _ I h) fun v s1 ⟨x,H1,I1,r1,q1⟩=>?_);refine wpAny_Slice (bR (hl pins s1 σ H1 _ I1 q1) fun vl s2 ⟨l,H2,I2,pl,q2⟩=>bR (hu pins s2 σ H2 _ I2 q2) fun vu s3 ⟨u,H3,I3,pu,q3⟩=>?_);rw[evalPart_none];refine wpAny_pure ?_;have I4:Inv X pins σ H3 {s3 with heap:=s3.heap.push {cls:=.type "slice",data:=.fields #[vl,vu,.none]}}:=I3.kept (t':=s3.toks) fun b ob q=>Heap.get?_push_of_some _ q;obtain⟨T,id,hT,ht,hg⟩:=hr pins {s3 with heap:=s3.heap.push {cls:=.type "slice",data:=.fields #[vl,vu,.none]}} σ H3 x v vl vu l u s3.heap.objs.size Q I4 r1 (Heap.IsSliceOf.new ..) pl pu q3;show wpAny (model X.prog X.w) X.A (subscriptTail e (.Slice lo hi none p2) v (.ref s3.heap.objs.size)) (EP X pins σ Q) X.xe {s3 with heap:=s3.heap.push {cls:=.type "slice",data:=.fields #[vl,vu,.none]}};exact tail_any (ops:=[.ref s3.heap.objs.size,v]) ht hT hg (by with_unfolding_all rfl)
def j0(xs:List V)(lo hi:Option Int):List V:=(xs.drop (HT.nz xs.length 0 lo)).take (HT.nz xs.length xs.length hi - HT.nz xs.length 0 lo)
theorem Jf(xs:List V)(lo hi:Option Int):(j0 xs lo hi).length<=xs.length:=by
 unfold j0;rw[cJ,aM];omega
end
end L2
namespace L2
open PySem PySem.Spec PyProof.Rows
def vd(n:Nat)(i:Int):Option Nat:=if 0<=i then(if i<n then some i.toNat else none)else if -(n:Int)<=i then some (i+n).toNat else none
def nk{α:Type}(xs:List α)(i:Int):Option α:=(vd xs.length i).bind fun j=>xs[j]?
theorem JM{n:Nat}{i:Int}{j:Nat}(h:vd n i=some j):seqIndex? i n=some j/\j<n∧-(n:Int)<=i/\i<n:=by
 unfold vd at h;by_cases h0:0<=i
 ·rw[ai h0]at h;by_cases h1:i<n
  ·rw[ai h1]at h;have e:i.toNat=j:=bG h;exact⟨by rw[seqIndex_of h0 h1,e],by omega,by omega,h1⟩
  ·rw[af h1]at h;cases h
 ·rw[af h0]at h;by_cases h1: -(n:Int)<=i
  ·rw[ai h1]at h;have e:(i+n).toNat=j:=bG h;exact⟨by rw[seqIndex_neg (by omega) h1,e],by omega,h1,by omega⟩
  ·rw[af h1]at h;cases h
theorem Dt{α:Type}{xs:List α}{i:Int}{v:α}(h:nk xs i=some v):∃j,seqIndex? i xs.length=some j/\xs[j]? =some v/\j<xs.length∧-(xs.length:Int)<=i/\i<xs.length:=by
 unfold nk at h;cases e:vd xs.length i with
 |none=>rw[e]at h;cases h
 |some j=>
  rw[e]at h;obtain⟨h1,h2,h3,h4⟩:=JM e;exact⟨j,h1,h,h2,h3,h4⟩
theorem mh{α:Type}{xs:List α}{j:Nat}{v:α}(h:xs[j]? =some v):nk xs (j:Int)=some v:=by
 have hj:j<xs.length:=(az.mp h).1;have e:vd xs.length (j:Int)=some j:=by
  unfold vd;rw[ai (by omega),ai (by omega)];simp
 unfold nk;rw[e];exact h
theorem kd{α:Type}(xs:List α)(v:α):nk (xs++[v]) (-1)=some v:=by
 have hl:(xs++[v]).length=xs.length+1:=by simp
 have e:vd (xs++[v]).length (-1)=some xs.length:=by
  unfold vd;rw[hl,af (by decide),ai (by omega)];congr 1;omega
 unfold nk;rw[e];show(xs++[v])[xs.length]? =some v;simp
def Rm(b:Expr):Prop:=∀o i,subscripted b false o i=operate [o,i] (getItem o i)
def P5(X:Cx)(r:R2):Prop:=
 ∀(value slice:Expr)(pins:List (Addr×Obj))(s:Shared)(σ:St)(H:Hp)(x y:V)(v u:Value)(Q:VK),Inv X pins σ H s->RelV x v->RelV y u->r x y H Q->
  subscripted slice false v u=operate [v,u] (getItem v u)->wpAny (model X.prog X.w) X.A (subscriptTail value slice v u) (EP X pins σ Q) X.xe s
def N2(X:Cx)(id:String)(r:V->List V->Hp->VK->Prop):Prop:=
 ∀(pins:List (Addr×Obj))(s:Shared)(σ:St)(H:Hp)(x:V)(xs:List V)(v:Value)(us:List Value)(Q:VK),Inv X pins σ H s->RelV x v->Vals xs us->r x xs H Q->
  wpAny (model X.prog X.w) X.A (call (.builtin id) (v::us)) (EP X pins σ Q) X.xe s
section
variable{X:Cx}{a b:Expr}{ta tb:TE}{pos:Pos}
theorem de{r:R2}(hr:P5 X r)(ha:PE X a ta)(hb:PE X b tb)(hs:Rm b):PE X (.Subscript a b pos) (Ju r ta tb):=by
 intro pins s σ H Q I h;exact Subscript_ (Pl ha hb I h fun v u s2 x y H2 I2 rx ry q=>hr a b pins s2 σ H2 x y v u Q I2 rx ry q (hs _ _))
def Uy(K:PySem.W.Frag):R2:=fun x y H Q=>∃p xs i v,x=.ref p/\y=.int i/\bY K H p xs/\nk xs i=some v/\Q v H
def Uw(K:PySem.W.Frag):R2:=fun x y H Q=>∃p xs i v,x=.ref p/\y=.int i/\iR K H p xs/\nk xs i=some v/\Q v H
def Ux:R2:=fun x y H Q=>∃z i c,x=.str z/\y=.int i/\z.length<=sizeLine/\nk z.cps.toList i=some c/\Q (.str ⟨#[c]⟩) H
theorem cO:P5 X (Uy X.K):=by
 intro value slice pins s σ H x y v u Q I rx ry h hs;obtain⟨p,xs,i,z,rfl,rfl,hq,he,q⟩:=h;cases rx;obtain⟨t,rfl⟩:=ry;obtain⟨its,r,pl,hz⟩:=I.list hq;obtain⟨j,h1,h2,h3,h4,h5⟩:=Dt he;obtain⟨w,ew,rw'⟩:=r.get h2;have hl:=r.length;have hn:=qF;have fin:EP X pins σ Q w s:=⟨z,H,I,rw',q⟩;by_cases h0:0<=i
 ·have hj:i.toNat=j:=by
   rw[seqIndex_of h0 h5]at h1;exact bG h1
  exact item_listR pl.isList h0 (by omega) (by rw[hj];simpa using ew) fin hs
 ·have hj:(i+(its.toArray.size:Int)).toNat=j:=by
   rw[seqIndex_neg (by omega) h4]at h1;rw[bf,<-hl];exact bG h1
  exact subscriptTail_builtinR (x:=w) pl.isList.typeIs slot_list_getitem.lookup
   (wpAny_getItem_list_neg (Q:=fun r s'=>r=w/\EP X pins σ Q r s') pl.isList (by omega) (by rw[bf]<;>omega) (by omega) (by rw[hj];simpa using ew) ⟨rfl,fin⟩) hs
theorem tu:P5 X (Uw X.K):=by
 intro value slice pins s σ H x y v u Q I rx ry h hs;obtain⟨p,xs,i,z,rfl,rfl,hq,he,q⟩:=h;cases rx;obtain⟨t,rfl⟩:=ry;obtain⟨its,r,pl,hz⟩:=I.tuple hq;obtain⟨j,h1,h2,h3,h4,h5⟩:=Dt he;obtain⟨w,ew,rw'⟩:=r.get h2;have hl:=r.length;have hn:=qF;have fin:EP X pins σ Q w s:=⟨z,H,I,rw',q⟩;exact subscriptTail_builtinR (x:=w) pl.typeIs slot_tuple_getitem.lookup
  (getItem_tuple (j:=j) (Q:=fun r s'=>r=w/\EP X pins σ Q r s') pl (by omega) (by omega) (by rw[bf,<-hl];exact h1) (by simpa using ew) ⟨rfl,fin⟩) hs
theorem Si:P5 X Ux:=by
 intro value slice pins s σ H x y v u Q I rx ry h hs;obtain⟨z,i,c,rfl,rfl,hz,he,q⟩:=h;obtain⟨t,rfl⟩:=rx;obtain⟨t',rfl⟩:=ry;obtain⟨j,h1,h2,h3,h4,h5⟩:=Dt he;have hl:z.cps.toList.length=z.length:=by simp[Str.length]
 rw[hl]at h1 h4 h5;have hn:=qF;exact tail_any (typeIs_str s z t) slot_str_getitem.lookup (getItem_str (c:=c) (by
  have e1:decide (i< -(2^63:Int))=false:=aY (by omega);have e2:decide (i>=2^63)=false:=aY (by omega);rw[e1,e2,Bool.or_false]) (by rw[h1];simpa using h2) ⟨.str ⟨#[c]⟩,H,I.tok _,⟨_,rfl⟩,q⟩) hs
theorem Ld(its:List Value)(n j:Nat)(u:Value):Obj.mapSeq (·.setIfInBounds j u) {cls:=.type "list",data:=.seq its.toArray n}={cls:=.type "list",data:=.seq (its.set j u).toArray n}:=by
 simp[Obj.mapSeq]
theorem Inv.lst{pins:List (Addr×Obj)}{σ:St}{H:Hp}{s:Shared}{p:Addr}{xs:List V}(I:Inv X pins σ H s)(h:H p=some (.lst xs)):
  ∃(its:List Value)(n:Nat),Vals xs its/\s.heap.get? p=some {cls:=.type "list",data:=.seq its.toArray n}/\xs.length<=sizeLine:=by
 obtain⟨z,its,n,r,e⟩:=I.bT p _ h;exact⟨its,n,r,e,z⟩
theorem Inv.R9{pins:List (Addr×Obj)}{σ:St}{H:Hp}{s:Shared}{p:Addr}{xs ys:List V}{its its':List Value}{n n':Nat}{f:Obj->Obj}(I:Inv X pins σ H s)(h:H p=some (.lst xs))
  (ho:s.heap.get? p=some {cls:=.type "list",data:=.seq its.toArray n}) (hf:f {cls:=.type "list",data:=.seq its.toArray n}={cls:=.type "list",data:=.seq its'.toArray n'}) (r:Vals ys its') (hz:ys.length<=sizeLine) (t:Nat):
  Inv X pins σ (upd H p (.lst ys)) {s with heap:=s.heap.update p f,toks:=t}:=by
 have e:(s.heap.update p f).get? p=some {cls:=.type "list",data:=.seq its'.toArray n'}:=by
  rw[Heap.get?_update_self f ho (by rw[hf]<;>rfl),hf]
 refine I.write (x:=p) (e:=p) (by rw[h];trivial) (.inl rfl) (fun b u hb q=>(Heap.get?_update_other _ _ (jn hb)).trans q) ⟨_,e⟩ ?_;exact⟨hz,its',n',r,e⟩
def PU:V->V->V->Hp->(Hp->Prop)->Prop:=fun o i v H Q=>∃p xs k j,o=.ref p/\i=.int k/\H p=some (.lst xs)/\vd xs.length k=some j/\Q (upd H p (.lst (xs.set j v)))
theorem set_list:SY X PU:=by
 intro pins s σ H o i v ov iv u Q I ro ri rv h;obtain⟨p,xs,k,j,rfl,rfl,hp,hj,q⟩:=h;cases ro;obtain⟨t,rfl⟩:=ri;obtain⟨its,n,r,ho,hz⟩:=I.lst hp;obtain⟨h1,h2,h3,h4⟩:=JM hj;have hl:=r.length;have hn:=qF;have I':Inv X pins σ (upd H p (.lst (xs.set j v))) {s with heap:=s.heap.update p (Obj.mapSeq (·.setIfInBounds j u))}:=
  I.R9 hp ho (Ld its n j u) (r.set rv j) (by rw[mD];exact hz) s.toks
 by_cases h0:0<=k
 ·have hk:k.toNat=j:=by
   rw[seqIndex_of h0 h4]at h1;exact bG h1
  exact PySem.W.ki_setAt ho h0 (by omega) (by rw[bf,<-hl];exact h4) (by rw[hk];exact⟨_,I',q⟩)
 ·have hk:(k+(its.toArray.size:Int)).toNat=j:=by
   rw[seqIndex_neg (by omega) h3]at h1;rw[bf,<-hl];exact bG h1
  exact PySem.W.ki_setBack ho (by omega) (by rw[bf,<-hl];exact h3) (by omega) (by rw[hk];exact⟨_,I',q⟩)
theorem F9(lo hi:Option Int)(n:Nat):(sliceBounds lo hi none n).1=((HT.nz n 0 lo:Nat):Int)/\(sliceBounds lo hi none n).2.1=((HT.nz n n hi:Nat):Int)/\(sliceBounds lo hi none n).2.2=1:=by
 refine⟨?_,?_,rfl⟩
 ·cases lo with
  |none=>simp[sliceBounds,HT.nz]
  |some i=>
   simp only[sliceBounds,HT.nz,Option.getD_none,show(1:Int)>0 by decide,if_true];by_cases h:i<0
   ·simp only[h,if_true]<;>omega
   ·simp only[h,if_false]<;>omega
 ·cases hi with
  |none=>simp[sliceBounds,HT.nz]
  |some i=>
   simp only[sliceBounds,HT.nz,Option.getD_none,show(1:Int)>0 by decide,if_true];by_cases h:i<0
   ·simp only[h,if_true]<;>omega
   ·simp only[h,if_false]<;>omega
theorem ES(its:List Value)(lo hi:Option Int):slicePick its.toArray lo hi none=((its.drop (HT.nz its.length 0 lo)).take (HT.nz its.length its.length hi - HT.nz its.length 0 lo)).toArray:=by
 obtain⟨h1,h2,h3⟩:=F9 lo hi its.toArray.size;unfold slicePick;rw[h1,h2,h3];simp only[sliceRange_one,pick_run,bf]<;>rfl
def RO(K:PySem.W.Frag):V->Option Int->Option Int->Hp->VK->Prop:=fun x lo hi H Q=>∃a xs,x=.ref a/\bY K H a xs/\∀p,H p=none->Q (.ref p) (upd H p (.lst (j0 xs lo hi)))
theorem pV:T9 X (RO X.K):=by
 intro pins s σ H x v vl vu lo hi sl Q I rx hs pl pu h;obtain⟨a,xs,rfl,hx,q⟩:=h;cases rx;obtain⟨its,r,ht,hz⟩:=I.list hx;have hlen:=r.length;refine⟨"list",_,slot_list_getitem.lookup,ht.isList.typeIs,?_⟩;refine wpAny_getItem_list_slice ht.isList hs pl pu .none (by simp) ?_ (by rw[bf]<;>omega);rw[ES,<-hlen];refine⟨.ref s.heap.objs.size,_,I.laid (t':=s.toks) (o:=.lst (j0 xs lo hi)) (fun b ob q=>Heap.get?_push_of_some _ q) (aD _) ?_,rfl,q _ (I.bT.fresh (aD _))⟩;exact⟨ck (Jf xs lo hi) hz,_,0,(r.drop (HT.nz xs.length 0 lo)).take (HT.nz xs.length xs.length hi - HT.nz xs.length 0 lo),Heap.get?_push_size _ rfl⟩
def jF:V->Bool
 | .bA=>true
 | .bl _=>true
 | .int _=>true
 | .str _=>true
 |_=>false
def vv:V->V->Bool
 | .bA,.bA=>true
 | .bl a,.bl b=>a==b
 | .bl a,.int b=>(if a then 1 else 0)==b
 | .int a,.bl b=>a==(if b then 1 else 0)
 | .int a,.int b=>a==b
 | .str a,.str b=>a==b
 |_,_=>false
theorem SD{A:Around}{s:Shared}{y x:V}{u v:Value}(ry:RelV y u)(rx:RelV x v)(fy:jF y=true)(fx:jF x=true):SeqAt.EqAt A s u v (vv y x):=by
 cases y with
 |bA=>
  cases ry;cases x with
  |bA=>cases rx;exact SeqAt.EqAt.same _
  |bl b=>cases rx;exact SeqAt.EqAt.none_bool b
  |int b=>obtain⟨t,rfl⟩:=rx;exact SeqAt.EqAt.none_int b t
  |str b=>obtain⟨t,rfl⟩:=rx;exact SeqAt.EqAt.none_str b t
  |_=>exact absurd (show false=true from fx) aE
 |bl a=>
  cases ry;cases x with
  |bA=>cases rx;exact SeqAt.EqAt.bool_none a
  |bl b=>cases rx;exact SeqAt.EqAt.bool_bool a b
  |int b=>obtain⟨t,rfl⟩:=rx;exact SeqAt.EqAt.bool_int a b t
  |str b=>obtain⟨t,rfl⟩:=rx;exact SeqAt.EqAt.bool_str a b t
  |_=>exact absurd (show false=true from fx) aE
 |int a=>
  obtain⟨t',rfl⟩:=ry;cases x with
  |bA=>cases rx;exact SeqAt.EqAt.int_none a t'
  |bl b=>cases rx;exact SeqAt.EqAt.int_bool a t' b
  |int b=>obtain⟨t,rfl⟩:=rx;exact SeqAt.EqAt.int_int a t' b t
  |str b=>obtain⟨t,rfl⟩:=rx;exact SeqAt.EqAt.int_str a t' b t
  |_=>exact absurd (show false=true from fx) aE
 |str a=>
  obtain⟨t',rfl⟩:=ry;cases x with
  |bA=>cases rx;exact SeqAt.EqAt.str_none a t'
  |bl b=>cases rx;exact SeqAt.EqAt.str_bool a t' b
  |int b=>obtain⟨t,rfl⟩:=rx;exact SeqAt.EqAt.str_int a t' b t
  |str b=>obtain⟨t,rfl⟩:=rx;exact SeqAt.EqAt.str_str a t' b t
  |_=>exact absurd (show false=true from fx) aE
 |_=>exact absurd (show false=true from fy) aE
def pK(x:V)(u:Value):Bool:=match u with
 | .none=>vv .bA x
 | .bool b=>vv (.bl b) x
 | .int i _=>vv (.int i) x
 | .str z _=>vv (.str z) x
 |_=>false
theorem Bz{x y:V}{u:Value}(r:RelV y u)(f:jF y=true):pK x u=vv y x:=by
 cases y with
 |bA=>cases r;rfl
 |bl b=>cases r;rfl
 |int i=>obtain⟨t,rfl⟩:=r;rfl
 |str z=>obtain⟨t,rfl⟩:=r;rfl
 |_=>exact absurd (show false=true from f) aE
theorem tS{x:V}:∀{xs:List V}{us:List Value},Vals xs us->xs.all jF=true->us.any (pK x)=xs.any fun y=>vv y x
 |_,_,.nil,_=>rfl
 |y::xs,u::us,.cons r t,f=>by
  rw[List.all_cons,cG]at f;rw[ee,ee,Bz r f.1,tS t f.2]
theorem oe{A:Around}{s:Shared}{x:V}{v:Value}(rx:RelV x v)(fx:jF x=true):∀{xs:List V}{us:List Value},Vals xs us->xs.all jF=true->∀u∈us,SeqAt.EqAt A s u v (pK x u)
 |_,_,.nil,_=>fun u hu=>by cases hu
 |y::xs,u::us,.cons r t,f=>fun u' hu=>by
  rw[List.all_cons,cG]at f
  rcases aT.mp hu with rfl|hu
  ·rw[Bz r f.1];exact SD r rx f.1 fx
  ·exact oe rx fx t f.2 u' hu
def eF(x:V)(xs:List V):Bool:=xs.any fun y=>vv y x
def RQ(K:PySem.W.Frag)(neg:Bool):R2:=fun x y H Q=>∃p xs,y=.ref p/\(bY K H p xs\/iR K H p xs)/\jF x=true/\xs.all jF=true/\Q (.bl (if neg then !eF x xs else eF x xs)) H
theorem fE:kG X (compareOp .In) (RQ X.K false):=by
 intro pins s σ H x y v u Q I rx ry h;obtain⟨p,xs,rfl,hq,fx,fs,q⟩:=h;cases ry
 rcases hq with hq|hq
 ·obtain⟨its,r,pl,hz⟩:=I.list hq;refine SeqAt.in_listAt (pK x) pl.isList (fun w hw=>oe rx fx r fs w (by simpa using hw)) ⟨.bl _,H,I,rfl,?_⟩;rw[show its.toArray.any (pK x)=its.any (pK x) by simp,tS r fs];exact q
 ·obtain⟨its,r,pl,hz⟩:=I.tuple hq;refine SeqAt.in_tupleAt (pK x) pl (fun w hw=>oe rx fx r fs w (by simpa using hw)) ⟨.bl _,H,I,rfl,?_⟩;rw[show its.toArray.any (pK x)=its.any (pK x) by simp,tS r fs];exact q
theorem qB:kG X (compareOp .NotIn) (RQ X.K true):=by
 intro pins s σ H x y v u Q I rx ry h;obtain⟨p,xs,rfl,hq,fx,fs,q⟩:=h;cases ry
 rcases hq with hq|hq
 ·obtain⟨its,r,pl,hz⟩:=I.list hq;refine SeqAt.notIn_listAt (pK x) pl.isList (fun w hw=>oe rx fx r fs w (by simpa using hw)) ⟨.bl _,H,I,rfl,?_⟩;rw[show its.toArray.any (pK x)=its.any (pK x) by simp,tS r fs];exact q
 ·obtain⟨its,r,pl,hz⟩:=I.tuple hq;refine SeqAt.notIn_tupleAt (pK x) pl (fun w hw=>oe rx fx r fs w (by simpa using hw)) ⟨.bl _,H,I,rfl,?_⟩;rw[show its.toArray.any (pK x)=its.any (pK x) by simp,tS r fs];exact q
theorem cV:pU X (.builtin "len") (fun xs H Q=>∃p ys,xs=[.ref p]/\(bY X.K H p ys\/iR X.K H p ys)/\Q (.int ys.length) H):=by
 intro pins s σ H xs us Q I r h;obtain⟨p,ys,rfl,hq,q⟩:=h;obtain⟨u,rfl,rx⟩:=vals1 r;cases rx;have hn:=qF
 rcases hq with hq|hq
 ·obtain⟨its,r',pl,hz⟩:=I.list hq;have hlen:=r'.length;exact Calls.call_len_list pl.isList (by simp only[bf]<;>omega) ⟨.int ys.length,H,I.tok _,⟨s.toks+1,by rw[bf,hlen]⟩,q⟩
 ·obtain⟨its,r',pl,hz⟩:=I.tuple hq;have hlen:=r'.length;exact len_tuple pl (by simp only[bf]<;>omega) ⟨.int ys.length,H,I.tok _,⟨s.toks+1,by rw[bf,hlen]⟩,q⟩
theorem HD:pU X (.builtin "len") (fun xs H Q=>∃z,xs=[.str z]/\z.length<=sizeLine/\Q (.int z.length) H):=by
 intro pins s σ H xs us Q I r h;obtain⟨z,rfl,hz,q⟩:=h;obtain⟨u,rfl,t,rfl⟩:=vals1 r;have hn:=qF;exact len_str (by omega) ⟨.int z.length,H,I.tok _,⟨_,rfl⟩,q⟩
theorem vD:pU X (.type "tuple") (fun xs H Q=>∃p ys,xs=[.ref p]/\((bY X.K H p ys/\∀l,H l=none->Q (.ref l) (upd H l (.tup ys)))\/(iR X.K H p ys/\Q (.ref p) H))):=by
 intro pins s σ H xs us Q I r h;obtain⟨p,ys,rfl,h⟩:=h;obtain⟨u,rfl,rx⟩:=vals1 r;cases rx
 rcases h with⟨hq,q⟩|⟨hq,q⟩
 ·obtain⟨its,r',pl,hz⟩:=I.list hq;have hlen:=r'.length;refine call_tuple_list pl.isList (fun h' kp=>?_) (by simp only[bf]<;>omega);have I1:Inv X pins σ H {s with heap:=h'}:=I.kept (t':=s.toks) kp;have I2:Inv X pins σ (upd H h'.objs.size (.tup ys)) {s with heap:=h'.push {cls:=.type "tuple",data:=.seq its.toArray}}:=
   I1.laid (t':=s.toks) (fun b o e=>Heap.get?_push_of_some _ e) (aD _) (show eS X.prog X.w _ _ _ (.tup ys)from⟨hz,its,r',IsTup.new _ _⟩)
  exact⟨.ref h'.objs.size,_,I2,rfl,q _ (I1.bT.fresh (aD _))⟩
 ·obtain⟨its,r',pl,hz⟩:=I.tuple hq;exact call_tuple_same pl ⟨.ref p,H,I,rfl,q⟩
def PJ(K:PySem.W.Frag)(T:String)(x:V)(H:Hp):Prop:=match x with
 | .str _=>T="str"
 | .int _=>T="int"
 | .ref p=>(T="list"/\∃xs,bY K H p xs)\/(T="tuple"/\∃o,K.lookup p=some o/\o.cls=.type "tuple"/\o.dict=none)\/
   (T="dict"/\((∃kvs,H p=some (.dK kvs))\/∃kvs,H p=some (.dT kvs)))\/(T="set"/\∃S n,H p=some (.set S n))
 |_=>False
theorem Ma{pins:List (Addr×Obj)}{σ:St}{H:Hp}{s:Shared}{T:String}{x:V}{v:Value}(I:Inv X pins σ H s)(r:RelV x v)(ty:PJ X.K T x H):
  s.TypeIs v T/\∀a,v=.ref a->∃ob,s.heap.get? a=some ob/\ob.dict=none:=by
 cases x with
 |str z=>
  obtain⟨t,rfl⟩:=r;cases(show T="str" from ty);exact⟨typeIs_str s z t,fun _ e=>nomatch e⟩
 |int i=>
  obtain⟨t,rfl⟩:=r;cases(show T="int" from ty);exact⟨typeIs_int s i t,fun _ e=>nomatch e⟩
 |ref p=>
  cases r
  rcases ty with⟨rfl,xs,hq⟩|⟨rfl,o,hk,hc,hd⟩|⟨rfl,hk⟩|⟨rfl,S,n,hk⟩
  ·obtain⟨its,_,pl,_⟩:=I.list hq;refine⟨pl.isList.typeIs,fun a e=>?_⟩;cases e;obtain⟨o,n,e,c,hd,_⟩:=pl;exact⟨o,e,hd⟩
  ·refine⟨⟨o,I.jV p o hk,hc⟩,fun a e=>?_⟩;cases e;exact⟨o,I.jV _ o hk,hd⟩
  ·have z:∃o,s.heap.get? p=some o/\o.ExactDict:=by
    rcases hk with⟨kvs,hk⟩|⟨kvs,hk⟩
    ·obtain⟨_,_,_,_,o,_,_,e,ex,_⟩:=I.bT p _ hk;exact⟨o,e,ex⟩
    ·obtain⟨_,_,_,_,o,_,_,e,ex,_⟩:=I.bT p _ hk;exact⟨o,e,ex⟩
   obtain⟨o,e,ex⟩:=z;refine⟨⟨o,e,ex.1⟩,fun a e2=>?_⟩;cases e2;exact⟨o,e,ex.2.1⟩
  ·obtain⟨o,_,_,_,e,ex,_⟩:=I.bT p _ hk;refine⟨⟨o,e,ex.1⟩,fun a e2=>?_⟩;cases e2;exact⟨o,e,ex.2.1⟩
 |_=>exact False.elim ty
def Uo(K:PySem.W.Frag)(T:String)(r:V->List V->Hp->VK->Prop)(to:TE):TE:=fun σ H Q=>to σ H fun x H1=>PJ K T x H1/\r x [] H1 Q
def U2(K:PySem.W.Frag)(T:String)(r:V->List V->Hp->VK->Prop)(to:TE)(t:TA):TE:=fun σ H Q=>to σ H fun x H1=>PJ K T x H1/\t σ H1 fun xs H2=>r x xs H2 Q
variable{o e:Expr}{es:List Expr}{to:TE}{t:TA}{name:Str}{apos cpos:Pos}{T id:String}{r:V->List V->Hp->VK->Prop}
theorem Gy(pa:PlainAttrs T)(slot:Slot T name id)(hty:typeOf (.builtin id)=pure (.type "method_descriptor"))(hm:N2 X id r)(ho:PE X o to)
  (hbase:attributeBase o name X.env (eval o X.env)=eval o X.env:=by rfl) (hline:(apos.endLine==cpos.line)=true:=by rfl):PE X (.Call (.Attribute o name apos) [] [] cpos) (Uo X.K T r to):=by
 intro pins s σ H Q I h;refine wpAny_Call_method0_late hbase hline (bR (ho pins s σ H _ I h) fun v s1 ⟨x,H1,I1,r1,ty,q1⟩=>?_);obtain⟨h1,h2⟩:=Ma I1 r1 ty;exact⟨T,id,pa,slot,hty,h1,h2,Calls.callWith_builtin rfl (PySem.evalArgs_none (hm pins s1 σ H1 x [] v [] Q I1 r1 .nil q1))⟩
theorem hZ(pa:PlainAttrs T)(slot:Slot T name id)(hty:typeOf (.builtin id)=pure (.type "method_descriptor"))(hm:N2 X id r)(ho:PE X o to)(ha:PA X (e::es) t)
  (hbase:attributeBase o name X.env (eval o X.env)=eval o X.env:=by rfl)
  (hfew:((backTo cpos (starEach (e::es) X.env)).all (fun x=>!x.1)&&(backToKw cpos (keywordEach [] X.env)).all (fun x=>x.1.isSome)
   &&decide ((e::es).length+([]:List Keyword).length+(if([]:List Keyword).isEmpty then 0 else 1)<30))=true:=by rfl)
  (hline:(apos.endLine==cpos.line)=true:=by rfl) (hs:starEach (e::es) X.env=(false,eval e X.env)::starEach es X.env:=by rfl) (hplain:(backTo cpos (starEach es X.env)).any (·.1)=false:=by rfl):
  PE X (.Call (.Attribute o name apos) (e::es) [] cpos) (U2 X.K T r to t):=by
 intro pins s σ H Q I h;refine wpAny_Call_method_late hbase hfew hline rfl (bR (ho pins s σ H _ I h) fun v s1 ⟨x,H1,I1,r1,ty,q1⟩=>?_);obtain⟨h1,h2⟩:=Ma I1 r1 ty;refine⟨T,id,pa,slot,hty,h1,h2,?_⟩;have hA:=ha cpos pins s1 σ H1 _ I1 q1;rw[hs]at hA⊢;refine Calls.callWith_builtin (by show(false||(backTo cpos (starEach es X.env)).any (·.1))=false;rw[hplain]<;>rfl) (Calls.evalArgs_plain ?_);exact bR hA fun us s2 ⟨vs,H2,I2,r2,q2⟩=>hm pins s2 σ H2 x vs v us Q I2 r1 r2 q2
end
end L2
namespace L2
open PySem PySem.Spec PyProof.Rows
def S2(X:Cx)(id:String)(r:V->List V->Hp->VK->Prop):Prop:=
 ∀(pins:List (Addr×Obj))(s:Shared)(σ:St)(H:Hp)(x:V)(xs:List V)(v:Value)(us:List Value)(Q:VK),Inv X pins σ H s->RelV x v->Vals xs us->r x xs H Q->
  wpAny (model X.prog X.w) X.A (call (.builtin id) (v::us)) (EP X pins σ Q) X.xe s
theorem Vals.one:∀{x:V}{us:List Value},Vals [x] us->∃u,us=[u]/\RelV x u
 |_,_,.cons r .nil=>⟨_,rfl,r⟩
theorem Vals.zero:∀{us:List Value},Vals [] us->us=[]
 |_,.nil=>rfl
theorem Vals.dropLast{xs:List V}{us:List Value}(h:Vals xs us):Vals xs.dropLast us.dropLast:=by
 induction h with
 |nil=>exact .nil
 |cons r t ih=>
  cases t with
  |nil=>exact .nil
  |cons q t'=>exact .cons r ih
theorem Vals.rep{xs:List V}{us:List Value}(h:Vals xs us):∀k:Nat,Vals (List.replicate k xs).flatten (List.replicate k us).flatten
 |0=>.nil
 |k+1=>by
  rw[hC,hC,kI,kI];exact Vals.append h (Vals.rep h k)
theorem LB{α:Type}(l:List α):l.eraseIdx (l.length - 1)=l.dropLast:=by
 induction l with
 |nil=>rfl
 |cons a r ih=>
  cases r with
  |nil=>rfl
  |cons b r=>
   have e:(a::b::r).length - 1=((b::r).length - 1)+1:=by
    have h1:(a::b::r).length=r.length+2:=rfl;have h2:(b::r).length=r.length+1:=rfl;omega
   rw[e,List.eraseIdx_cons_succ,ih]
   all_goals rfl
theorem foldl_rep(its:List Value):∀(k:Nat)(acc:List Value),
  List.foldl (fun x1 x2=>x1++x2) acc.toArray (List.replicate k its.toArray)=(acc++(List.replicate k its).flatten).toArray
 |0,acc=>by simp
 |k+1,acc=>by
  have e:acc.toArray++its.toArray=(acc++its).toArray:=by simp
  have e2:(acc++its)++(List.replicate k its).flatten=acc++(List.replicate (k+1) its).flatten:=by
   rw[hC,kI,aw]
  rw[<-e2,<-foldl_rep its k (acc++its),<-e,hC,eK]
section
variable{X:Cx}{pins:List (Addr×Obj)}{σ:St}{H:Hp}{s:Shared}{l b:Addr}{xs ys zs:List V}
theorem Inv.OV{its its':List Value}{n:Nat}{f:Array Value->Array Value}{t':Nat}(I:Inv X pins σ H s)(hH:H l=some (.lst xs))
  (e:s.heap.get? l=some {cls:=.type "list",data:=.seq its.toArray n}) (hf:f its.toArray=its'.toArray) (hv:Vals ys its') (hz:ys.length<=sizeLine):
  Inv X pins σ (upd H l (.lst ys)) {s with heap:=s.heap.update l (Obj.mapSeq f),toks:=t'}:=by
 have q:=PySem.IsL.update e f;rw[hf]at q;refine I.write (x:=l) (e:=l) (by rw[hH];exact trivial) (.inl rfl) (fun b' u hb hu=>(Heap.get?_update_other s.heap (Obj.mapSeq f) (jn hb)).trans hu) ⟨_,q⟩ ?_;exact⟨hz,its',_,hv,q⟩
theorem Inv.Sa{its:List Value}{t':Nat}(I:Inv X pins σ H s)(hv:Vals ys its)(hz:ys.length<=sizeLine):
  Inv X pins σ (upd H s.heap.objs.size (.lst ys)) {s with heap:=s.heap.push {cls:=.type "list",data:=.seq its.toArray},toks:=t'}:=
 I.laid (fun _ _ q=>Heap.get?_push_of_some _ q) (aD _) ⟨hz,its,0,hv,Heap.get?_push_size _ rfl⟩
theorem Inv.fresh(I:Inv X pins σ H s):H s.heap.objs.size=none:=I.bT.fresh (aD _)
theorem Inv.zT(I:Inv X pins σ H s)(hH:H l=some (.lst xs)):xs.length<=sizeLine/\∃(its:List Value)(n:Nat),Vals xs its/\xs.length=its.length/\s.heap.get? l=some {cls:=.type "list",data:=.seq its.toArray n}:=by
 obtain⟨z,its,n,r,e⟩:=I.bT l _ hH;exact⟨z,its,n,r,r.length,e⟩
theorem GL{n:Nat}(h:n<=sizeLine):Builtin.List.listTooLong n=false:=by
 unfold Builtin.List.listTooLong;exact aY (by omega)
end
section
variable{X:Cx}
def JC:V->List V->Hp->VK->Prop:=fun x vs H Q=>∃l xs y,x=.ref l/\vs=[y]/\H l=some (.lst xs)/\xs.length<sizeLine/\Q .bA (upd H l (.lst (xs++[y])))
theorem e7:S2 X "list.append" JC:=by
 intro pins s σ H x vs v us Q I rx rv h;obtain⟨l,xs,y,rfl,rfl,hH,hz,q⟩:=h;cases rx;obtain⟨u,rfl,ru⟩:=rv.one;obtain⟨z,its,n,r,hl,e⟩:=I.zT hH;refine call_meets F.slot_list_append ⟨_,e,rfl⟩ F.entry_list_append (F.args_list_append_2 _ _) (PySem.list_append l its.toArray n u (by rw[bf];omega)) ⟨e,?_⟩;refine⟨.bA,_,I.OV (its':=its++[u]) hH e (by simp) (r.append (.cons ru .nil)) ?_,rfl,q⟩;rw[aq,aX];omega
def JB:V->List V->Hp->VK->Prop:=fun x vs H Q=>∃l b xs zs,x=.ref l/\vs=[.ref b]/\H l=some (.lst xs)/\H b=some (.lst zs)/\xs.length+zs.length<=sizeLine/\Q .bA (upd H l (.lst (xs++zs)))
theorem wW:S2 X "list.extend" JB:=by
 intro pins s σ H x vs v us Q I rx rv h;obtain⟨l,b,xs,zs,rfl,rfl,hH,hB,hz,q⟩:=h;cases rx;obtain⟨u,rfl,ru⟩:=rv.one;cases ru;obtain⟨z,its,n,r,hl,e⟩:=I.zT hH;obtain⟨z2,its2,n2,r2,hl2,e2⟩:=I.zT hB;have hsz:its.toArray.size+its2.toArray.size<=sizeLine:=by rw[bf,bf];omega
 have hlong:¬(!its.toArray.isEmpty&&Builtin.List.listTooLong (its.toArray.size+its2.toArray.size))=true:=by
  rw[GL hsz,Bool.and_false];exact aE
 refine call_meets F.slot_list_extend ⟨_,e,rfl⟩ F.entry_list_extend (F.args_list_extend_2 _ _)
  (AutoSeq1.list_extend_list_list_0 l its.toArray n b its2.toArray n2 hlong (by rw[bf];omega) (by omega)) ⟨e,e2,?_⟩
 refine⟨.bA,_,I.OV (its':=its++its2) hH e (by simp) (r.append r2) ?_,rfl,q⟩;rw[aq];omega
def RP:V->List V->Hp->VK->Prop:=fun x vs H Q=>∃l xs y,x=.ref l/\vs=[]/\H l=some (.lst xs)/\xs[xs.length - 1]? =some y/\Q y (upd H l (.lst xs.dropLast))
theorem GZ:S2 X "list.pop" RP:=by
 intro pins s σ H x vs v us Q I rx rv h;obtain⟨l,xs,y,rfl,rfl,hH,hy,q⟩:=h;cases rx;have hus:=rv.zero;subst hus;obtain⟨z,its,n,r,hl,e⟩:=I.zT hH;obtain⟨u,hu,ru⟩:=r.get hy;have hy':its.toArray[its.toArray.size - 1]? =some u:=by
  show its.toArray[its.length - 1]? =some u;rw[<-Array.getElem?_toList,<-hl];exact hu
 refine call_meets F.slot_list_pop ⟨_,e,rfl⟩ F.entry_list_pop (F.args_list_pop_1 _) (MeetsSeq.list_pop_last l its.toArray n u hy' (by rw[bf];omega)) ⟨e,?_⟩;refine⟨y,_,I.OV (its':=its.dropLast) hH e ?_ r.dropLast ?_,ru,q⟩
 ·show its.toArray.eraseIdxIfInBounds (its.toArray.size - 1)=its.dropLast.toArray;rw[bf,List.eraseIdxIfInBounds_toArray,LB]
 ·rw[List.length_dropLast];omega
def UA:R2:=fun x y H Q=>∃l b xs zs,x=.ref l/\y=.ref b/\H l=some (.lst xs)/\H b=some (.lst zs)/\xs.length+zs.length<=sizeLine/\∀p,H p=none->Q (.ref p) (upd H p (.lst (xs++zs)))
theorem GB:kG X (binaryOp .Add) UA:=by
 intro pins s σ H x y v u Q I rx ry h;obtain⟨l,b,xs,zs,rfl,rfl,hH,hB,hz,q⟩:=h;cases rx;cases ry;obtain⟨z,its,n,r,hl,e⟩:=I.zT hH;obtain⟨z2,its2,n2,r2,hl2,e2⟩:=I.zT hB;refine PySem.P.add_list e e2 ?_ (by rw[bf,bf];omega);have ea:its.toArray++its2.toArray=(its++its2).toArray:=by simp
 rw[ea];exact⟨.ref _,_,I.Sa (t':=s.toks) (r.append r2) (by rw[aq];omega),rfl,q _ I.fresh⟩
def Uv:R2:=fun x y H Q=>∃l k xs,x=.ref l/\y=.int k/\H l=some (.lst xs)∧-(2^63)<=k/\k<2^63/\xs.length*k.toNat<=sizeLine/\
 ∀p,H p=none->Q (.ref p) (upd H p (.lst (List.replicate k.toNat xs).flatten))
theorem len_rep{α:Type}(xs:List α)(k:Nat):(List.replicate k xs).flatten.length=k*xs.length:=by
 induction k with
 |zero=>simp
 |succ k ih=>rw[hC,kI,aq,ih,Nat.succ_mul,Nat.add_comm]
theorem MO:kG X (binaryOp .Mult) Uv:=by
 intro pins s σ H x y v u Q I rx ry h;obtain⟨l,k,xs,rfl,rfl,hH,h1,h2,hz,q⟩:=h;cases rx;obtain⟨t,rfl⟩:=ry;obtain⟨z,its,n,r,hl,e⟩:=I.zT hH;have hlen:its.toArray.size*k.toNat<=sizeLine:=by rw[bf,<-hl];exact hz
 have hcap:¬its.toArray.size*k.toNat>(2^63 - 1) / 8:=by
  have:(sizeLine:Nat)<=(2^63 - 1) / 8:=by decide
  omega
 have hfit:¬(!Builtin.List.listFitsIndex k)=true:=by
  rw[fitsIndex_both h1 h2];exact aE
 have hlong:¬Builtin.List.listTooLong (its.toArray.size*k.toNat)=true:=by
  rw[GL hlen];exact aE
 have hnew:List.foldl (fun x1 x2=>x1++x2) #[] (List.replicate (if its.toArray.isEmpty=true then 0 else k.toNat) its.toArray)=(List.replicate k.toNat its).flatten.toArray:=by
  have f0:∀m:Nat,List.foldl (fun x1 x2=>x1++x2) #[] (List.replicate m its.toArray)=(List.replicate m its).flatten.toArray:=fun m=>by
   have:=foldl_rep its m [];rw[List.nil_append]at this;exact this
  rw[f0];cases its with
  |nil=>simp
  |cons a r'=>rw[af (by simp)]
 refine wpAny_binaryOp_repeat_ref (T:="list") (U:="int") (by decide) ⟨_,e,rfl⟩ (fun s'=>typeIs_int s' k t) noFill_list_mul F.fills_int_mul F.slot_int_rmul repeat_list F.slot_int_index.lookup
  (call_meets F.slot_int_rmul (typeIs_int s k t) F.entry_int_rmul (F.args_int_rmul_2 _ _) (int___rmul___int_list k t l its.toArray n)
   ⟨e,rfl,⟨_,e,rfl⟩,call_meets F.slot_list_mul ⟨_,e,rfl⟩ F.entry_list_mul (F.args_list_mul_2 _ _) (AutoListH.list___mul___list_int_3 l its.toArray n k t hfit hcap hlong) ⟨e,?_⟩⟩)
 rw[hnew];exact⟨.ref _,_,I.Sa (t':=s.toks) (r.rep k.toNat) (by rw[len_rep,Nat.mul_comm];exact hz),rfl,q _ I.fresh⟩
end
section
variable{prog:Program}{w:World}{A:Around}{E:Value->Shared->Prop}{s:Shared}
end
section
variable{X:Cx}
end
end L2
namespace L2
open PySem PySem.Spec PyProof.Rows
theorem Vals.Ut{a:Addr}{us:List Value}(r:Vals [V.ref a] us):us=[Value.ref a]:=by
 cases r with
 |cons r t=>
  cases t;cases r;rfl
section
variable{prog:Program}{w:World}{A:Around}{E:Value->Shared->Prop}{s:Shared}{l:Addr}{its:List Value}{ns:List Int}{Q:Value->Shared->Prop}
end
section
variable{X:Cx}
end
section
variable{X:Cx}
theorem JW{ys:List V}(f:ys.all jF=true){j:Nat}{z:V}(h:ys[j]? =some z):jF z=true:=fN.mp f z (aH h)
end
section
variable{X:Cx}
end
theorem O0{prog:Program}{w:World}{A:Around}{E:Value->Shared->Prop}{s:Shared}{l:Addr}{items:Array Value}{Q:Value->Shared->Prop}(hl:s.heap.IsList l items)
  (h:∀s₂:Shared,s₂={s with heap:=s.heap.push {cls:=.type "list_iterator",data:=.fields #[.ref l,.int 0 0]}}->
   (s₂.heap.IsListIter s.heap.objs.size l 0/\s₂.heap.IsList l items)->l≠s.heap.objs.size->Q (.ref s.heap.objs.size) s₂):wpAny (model prog w) A (pyIter (.ref l)) Q E s:=by
 have hlt:l<s.heap.objs.size:=by obtain⟨_,e,_⟩:=hl;exact Heap.lt_size e
 exact wpAny_pyIter_list hl (h _ rfl ⟨⟨_,Heap.get?_push_size _ rfl,rfl,rfl⟩,hl.push _⟩ (cU hlt))
section
variable{X:Cx}
end
mutual
inductive Dp(K:PySem.W.Frag)(H:Hp):V->PyData->Prop
 |bA:Dp K H .bA .none
 |bl (b:Bool):Dp K H (.bl b) (.bool b)
 |int (i:Int):Dp K H (.int i) (.int i)
 |str (x:Str):Dp K H (.str x) (.str x)
 |lst {a:Addr} {xs:List V} {ds:List PyData}:bY K H a xs->uX K H xs ds->Dp K H (.ref a) (.list ds)
 |tup {a:Addr} {xs:List V} {ds:List PyData}:iR K H a xs->uX K H xs ds->Dp K H (.ref a) (.tuple ds)
inductive uX(K:PySem.W.Frag)(H:Hp):List V->List PyData->Prop
 |nil:uX K H [] []
 |cons {v:V} {vs:List V} {d:PyData} {ds:List PyData}:Dp K H v d->uX K H vs ds->uX K H (v::vs) (d::ds)
end
section
variable{X:Cx}{pins:List (Addr×Obj)}{σ:St}{H:Hp}{s:Shared}
mutual
theorem Dp.reads(I:Inv X pins σ H s):∀(d:PyData)(v:V)(u:Value),Dp X.K H v d->RelV v u->∃as,Reads s.heap u d as
 | .none,_,_,h,r=>by
  cases h;cases r;exact⟨_,Reads.none⟩
 | .bool b,_,_,h,r=>by
  cases h;cases r;exact⟨_,Reads.bool b⟩
 | .int i,_,_,h,r=>by
  cases h;obtain⟨t,rfl⟩:=r;exact⟨_,Reads.int i t⟩
 | .str x,_,_,h,r=>by
  cases h;obtain⟨t,rfl⟩:=r;exact⟨_,Reads.str x t⟩
 | .list ds,_,_,h,r=>by
  cases h with
  |lst hs ha=>
   cases r;obtain⟨its,rv,⟨o,n,ho,hc,_,hd⟩,_⟩:=I.list hs;obtain⟨as,hr⟩:=Dp.readsAll I ds _ its ha rv;exact⟨_,Reads.list ho hc hd hr⟩
 | .tuple ds,_,_,h,r=>by
  cases h with
  |tup hs ha=>
   cases r;obtain⟨its,rv,⟨o,ho,hc,n,hd⟩,_⟩:=I.tuple hs;obtain⟨as,hr⟩:=Dp.readsAll I ds _ its ha rv;exact⟨_,Reads.tuple ho hc hd hr⟩
 | .dict _,_,_,h,_=>by cases h
theorem Dp.readsAll(I:Inv X pins σ H s):∀(ds:List PyData)(vs:List V)(us:List Value),uX X.K H vs ds->Vals vs us->∃as,ReadsAll s.heap us ds as
 |[],_,_,h,r=>by
  cases h;cases r;exact⟨_,ReadsAll.nil⟩
 |d::ds,_,_,h,r=>by
  cases h with
  |cons h1 h2=>
   cases r with
   |cons r1 r2=>
    obtain⟨as,q1⟩:=Dp.reads I d _ _ h1 r1;obtain⟨bs,q2⟩:=Dp.readsAll I ds _ _ h2 r2;exact⟨_,ReadsAll.cons q1 q2⟩
end
end
section
variable{X:Cx}
def Uz(K:PySem.W.Frag):R2:=fun x y H Q=>∃d e,Dp K H x d/\Dp K H y e/\SeqAt.shaped d=true/\SeqAt.shaped e=true/\Q (.bl (PyData.eqv d e)) H
theorem RY(hu:X.A.units+64<cLine):kG X (compareOp .Eq) (Uz X.K):=by
 intro pins s σ H x y v u Q I rx ry h;obtain⟨d,e,hd,he,sd,se,q⟩:=h;obtain⟨as,r1⟩:=Dp.reads I d x v hd rx;obtain⟨bs,r2⟩:=Dp.reads I e y u he ry;exact SeqAt.compareEq_shaped r1 r2 sd se hu ⟨.bl _,H,I,rfl,q⟩
end
end L2
namespace L2
open PySem PySem.Spec PyProof.Rows
abbrev N7(h:Heap)(c:Addr)(v:Option Value):Prop:=h.IsCell c v
def Us(scope sc:Scope):Scope:=
 {scope with names:=scope.names.map fun(n,k)=>if(k==.free&&sc.kind==.function&&sc.names.lookup n==some .cell)then(n,.cell)else(n,k)}
def dQ(cells:List (Str×Addr)):List (Str×NameKind)->List (Str×Addr)->List (Str×Addr)
 |[],acc=>acc
 |(n,k)::r,acc=>if k==.free then dQ cells r ((n,(cells.lookup n).getD 0)::acc)else dQ cells r acc
theorem xG(env:Env)(f:Str×NameKind->List (Str×Addr)->Sem (ForInStep (List (Str×Addr))))
  (hf:∀n k c,f (n,k) c=if k==.free then(do let a<-cellOf env n;pure (.yield ((n,a)::c)))else pure (.yield c)):
  ∀(names:List (Str×NameKind))(acc:List (Str×Addr)),(∀y∈names,y.2=.free->∃c,env.cells.lookup y.1=some c)->forIn names acc f=pure (dQ env.cells names acc)
 |[],acc,_=>by rw[List.forIn_nil];rfl
 |(n,k)::r,acc,h=>by
  rw[List.forIn_cons,hf];have ih:=fun acc=>xG env f hf r acc fun y hy=>h y (ah _ hy);unfold dQ;by_cases hk:(k==NameKind.free)=true
  ·rw[ai hk,ai hk];obtain⟨c,hc⟩:=h (n,k) aA (by simpa using hk);have e:cellOf env n=pure c:=by unfold cellOf;rw[hc]
   rw[e];have e2:(env.cells.lookup n).getD 0=c:=by rw[hc];rfl
   rw[e2];exact ih _
  ·rw[af hk,af hk];exact ih _
theorem LI{scope:Scope}{env:Env}(h:∀y∈scope.names,y.2=.free->∃c,env.cells.lookup y.1=some c):closureFor scope env=pure (dQ env.cells scope.names []):=by
 simp only[closureFor];rw[xG env _ (fun n k c=>rfl) scope.names [] h];rfl
theorem mem_lookup{α:Type}:∀{l:List (Str×α)}{n:Str}{c:α},(n,c)∈l->∃c',l.lookup n=some c'
 |(k,v)::r,n,c,h=>by
  rw[fL];cases hb:n==k with
  |true=>exact⟨_,rfl⟩
  |false=>
   rcases aT.mp h with e|h
   ·cases e;simp at hb
   ·exact mem_lookup h
theorem oI{cells:List (Str×Addr)}:∀{names:List (Str×NameKind)}{acc:List (Str×Addr)}{n:Str}{c:Addr},(n,c)∈dQ cells names acc->(n,c)∈acc\/((n,.free)∈names/\c=(cells.lookup n).getD 0)
 |[],_,_,_,h=>.inl h
 |(m,k)::r,acc,n,c,h=>by
  unfold dQ at h;split at h
  ·rename_i hk;have hk:k=.free:=by simpa using hk
   rcases oI h with h|⟨h1,h2⟩
   ·rcases aT.mp h with e|h
    ·cases e;exact .inr ⟨hk▸aA,rfl⟩
    ·exact .inl h
   ·exact .inr ⟨ah _ h1,h2⟩
  ·rcases oI h with h|⟨h1,h2⟩
   ·exact .inl h
   ·exact .inr ⟨ah _ h1,h2⟩
theorem sL{cells:List (Str×Addr)}:∀{names:List (Str×NameKind)}{acc:List (Str×Addr)}{p:Str×Addr},p∈acc->p∈dQ cells names acc
 |[],_,_,h=>h
 |(m,k)::r,acc,p,h=>by
  unfold dQ;split
  ·exact sL (ah _ h)
  ·exact sL h
theorem sJ{cells:List (Str×Addr)}:∀{names:List (Str×NameKind)}{acc:List (Str×Addr)}{n:Str},(n,.free)∈names->(n,(cells.lookup n).getD 0)∈dQ cells names acc
 |(m,k)::r,acc,n,h=>by
  unfold dQ
  rcases aT.mp h with e|h
  ·cases e;exact sL aA
  ·split
   ·exact sJ h
   ·exact sJ h
theorem o1:∀{names:List (Str×NameKind)}{h:Heap}{acc:List (Str×Addr)}{x:Str}{c:Addr},(x,c)∈cellsFrom h.objs.size names acc->
  (x,c)∈acc\/((x,.cell)∈names/\h.objs.size<=c/\N7 (pushCells h names) c none)
 |[],_,_,_,_,h=>.inl h
 |(n,k)::r,h,acc,x,c,hm=>by
  unfold cellsFrom at hm;unfold pushCells;split at hm
  ·rename_i hk;rw[ai hk];have hk:k=.cell:=by simpa using hk
   rw[<-Heap.size_push h {cls:=.type "cell",data:=.cell none}]at hm
   rcases o1 hm with hm|⟨h1,h2,h3⟩
   ·rcases aT.mp hm with e|hm
    ·cases e;exact .inr ⟨hk▸aA,aD _,_,pushCells_keeps r _ _ _ (Heap.get?_push_size _ rfl),rfl⟩
    ·exact .inl hm
   ·rw[Heap.size_push]at h2;exact .inr ⟨ah _ h1,kH h2,h3⟩
  ·rename_i hk;rw[af hk]
   rcases o1 hm with hm|⟨h1,h2,h3⟩
   ·exact .inl hm
   ·exact .inr ⟨ah _ h1,h2,h3⟩
theorem rR:∀{names:List (Str×NameKind)}{n:Nat}{acc:List (Str×Addr)}{p:Str×Addr},p∈acc->p∈cellsFrom n names acc
 |[],_,_,_,h=>h
 |(m,k)::r,n,acc,p,h=>by
  unfold cellsFrom;split
  ·exact rR (ah _ h)
  ·exact rR h
theorem xI:∀{names:List (Str×NameKind)}{n:Nat}{acc:List (Str×Addr)}{x:Str},(x,.cell)∈names->∃c,(x,c)∈cellsFrom n names acc
 |(m,k)::r,n,acc,x,h=>by
  unfold cellsFrom
  rcases aT.mp h with e|h
  ·cases e;exact⟨n,rR aA⟩
  ·split
   ·exact xI h
   ·exact xI h
theorem xH:∀{names:List (Str×NameKind)}{h:Heap}{acc:List (Str×Addr)}{x y:Str}{c:Addr},(∀p∈acc,p.2<h.objs.size)->(∀x y c,(x,c)∈acc->(y,c)∈acc->x=y)->
  (x,c)∈cellsFrom h.objs.size names acc->(y,c)∈cellsFrom h.objs.size names acc->x=y
 |[],_,_,_,_,_,_,hi,h1,h2=>hi _ _ _ h1 h2
 |(n,k)::r,h,acc,x,y,c,hl,hi,h1,h2=>by
  unfold cellsFrom at h1 h2;split at h1
  ·rename_i hk;rw[ai hk]at h2;rw[<-Heap.size_push h {cls:=.type "cell",data:=.cell none}]at h1 h2;refine xH (h:=h.push _) (fun p hp=>?_) (fun x y c a b=>?_) h1 h2
   ·rw[Heap.size_push]
    rcases aT.mp hp with rfl|hp
    ·exact ly _
    ·exact Nat.lt_succ_of_lt (hl p hp)
   ·rcases aT.mp a with e|a<;>rcases aT.mp b with e'|b
    ·cases e;cases e';rfl
    ·cases e;exact absurd (hl _ b) (eQ _)
    ·cases e';exact absurd (hl _ a) (eQ _)
    ·exact hi _ _ _ a b
  ·rename_i hk;rw[af hk]at h2;exact xH hl hi h1 h2
theorem IJ{M:Model}{A:Around}{E:Value->Shared->Prop}{s:Shared}{scope:Scope}{globals:Addr}{closure:List (Str×Addr)}{qual:Str}{func:Option Addr}{code:Value}{around:Env}{builtins:Addr}{Q:Env->Shared->Prop}
  (h:Q (newEnv scope s.heap.objs.size globals (cellsFrom (s.heap.objs.size+1) scope.names closure) qual func code (some around) builtins)
   {s with heap:=pushCells (s.heap.push {cls:=.type "dict",data:=.dict #[]}) scope.names}):
  wpAny M A (newFunctionEnv scope globals closure [] qual func code (some around) builtins) Q E s:=by
 simp only[newFunctionEnv,Option.isSome_some,if_true];refine wpAny_bind (wpAny_alloc ?_);refine wpAny_bind (wpAny_layCells _ (fun n k c=>rfl) scope.names closure _ _ ?_);rw[show({s with heap:=s.heap.push {cls:=.type "dict",data:=.dict #[]}}:Shared).heap.objs.size=s.heap.objs.size+1 from Heap.size_push ..];rw[List.forIn_nil];exact wpAny_bind (wpAny_pure (wpAny_pure h))
theorem sD{sc:Scope}:∀{names:List (Str×NameKind)}{x:Str}{k:NameKind},
  (names.map fun(n,k)=>if(k==NameKind.free&&sc.kind==.function&&sc.names.lookup n==some .cell)then(n,NameKind.cell)else(n,k)).lookup x=some k->
  ∃k',names.lookup x=some k'/\(k=k'\/(k'=.free/\k=.cell))
 |[],_,_,h=>by simp at h
 |(n,k₀)::r,x,k,h=>by
  have ih:= @sD sc r x k;have h':List.lookup x ((if(k₀==NameKind.free&&sc.kind==.function&&sc.names.lookup n==some .cell)=true then(n,NameKind.cell)else(n,k₀))::(r.map _))=some k:=h;cases hx:x==n with
  |true=>
   simp only[fL,hx];by_cases hc:(k₀==NameKind.free&&sc.kind==.function&&sc.names.lookup n==some .cell)=true
   ·rw[ai hc]at h';simp only[fL,hx]at h';cases h';simp only[cG,beq_iff_eq]at hc;exact⟨k₀,rfl,.inr ⟨hc.1.1,rfl⟩⟩
   ·rw[af hc]at h';simp only[fL,hx]at h';cases h';exact⟨_,rfl,.inl rfl⟩
  |false=>
   simp only[fL,hx];by_cases hc:(k₀==NameKind.free&&sc.kind==.function&&sc.names.lookup n==some .cell)=true
   ·rw[ai hc]at h';simp only[fL,hx]at h';exact ih h'
   ·rw[af hc]at h';simp only[fL,hx]at h';exact ih h'
structure FP(N:List Str)(sc scope:Scope)(own:List (Str×Nat)):Prop where
 kind:scope.kind=.function
 uniq:∀y∈scope.names,scope.names.lookup y.1=some y.2
 ix:∀p∈own,N[p.2]? =some p.1
 free:∀y∈scope.names,y.2=.free->sc.names.lookup y.1=some .cell\/sc.names.lookup y.1=some .free
 own:∀y∈scope.names,y.2=.local\/y.2=.cell->y.1∈own.map (·.1)\/y.1∉N
def wipe(σ:St):List Nat->St
 |[]=>σ
 |v::vs=>(wipe σ vs).set v none
theorem sf(σ:St):∀vs:List Nat,(wipe σ vs).length=σ.length
 |[]=>rfl
 |v::vs=>by unfold wipe;rw[mD,sf σ vs]
theorem vO{σ:St}{i:Nat}{x:V}:∀{vs:List Nat},(wipe σ vs)[i]? =some (some x)->σ[i]? =some (some x)/\i∉vs
 |[],h=>⟨h,by simp⟩
 |v::vs,h=>by
  unfold wipe at h;by_cases hi:v=i
  ·subst hi;by_cases hv:v<(wipe σ vs).length
   ·rw[ir hv]at h;cases h
   ·rw[l4 (by simpa using hv)]at h;cases h
  ·rw[iW hi]at h;obtain⟨h1,h2⟩:=vO h;exact⟨h1,by simp only[aT,not_or];exact⟨fun e=>hi e.symm,h2⟩⟩
abbrev Cx.pN(X:Cx)(s:Shared)(H:Hp)(scope:Scope)(cenv:Env)(fp:List Addr):Cx:={X with l6:=s,N6:=H,env:=cenv,outer:=X.stack,ex:=fp,fn:=fun x=>scope.names.lookup x==some .cell,pn:=[],xe:=fun _ _=>False}
section
variable{X:Cx}{pins:List (Addr×Obj)}{σ:St}{H:Hp}{s:Shared}
theorem Jj{scope:Scope}{own:List (Str×Nat)}{fp:List Addr}(I:Inv X pins σ H s)(ok:FP X.N X.env.scope scope own)(hN:X.N.Nodup)(hfp:∀b∈fp,qW X pins H b/\b<s.heap.objs.size):
  Inv (X.pN s H scope (compEnvC scope (cellsFrom (s.heap.objs.size+1) scope.names (dQ X.env.cells scope.names [])) s.heap.objs.size X.env) fp) [] (wipe σ (own.map (·.2))) H {s with heap:=pushCells (s.heap.push {cls:=.type "dict",data:=.dict #[]}) scope.names}:=by
 have hfree:∀y∈scope.names,y.2=.free->∃c,X.env.cells.lookup y.1=some c:=fun y hy e=>by
  rcases ok.free y hy e with k|k
  ·exact I.ok.has _ (.inl k)
  ·exact I.ok.has _ (.inr k)
 generalize hcenv:compEnvC scope (cellsFrom (s.heap.objs.size+1) scope.names (dQ X.env.cells scope.names [])) s.heap.objs.size X.env=cenv;have kp:∀b o,s.heap.get? b=some o->(pushCells (s.heap.push {cls:=.type "dict",data:=.dict #[]}) scope.names).get? b=some o:=fun b o e=>pushCells_keeps _ _ _ _ (Heap.get?_push_of_some _ e);have hL:cenv.locals=s.heap.objs.size:=by rw[<-hcenv];rfl
 have hcl:cenv.cells=cellsFrom (s.heap.objs.size+1) scope.names (dQ X.env.cells scope.names []):=by rw[<-hcenv];rfl
 have hsc:cenv.scope=Us scope X.env.scope:=by rw[<-hcenv];rfl
 rw[<-Heap.size_push s.heap {cls:=.type "dict",data:=.dict #[]}]at hcl;have cm:∀{y c},(y,c)∈dQ X.env.cells scope.names []->X.env.cells.lookup y=some c/\c<s.heap.objs.size:=fun{y c} hm=>by
  rcases oI hm with hm|⟨h1,rfl⟩
  ·cases hm
  ·obtain⟨c,hc⟩:=hfree _ h1 rfl;rw[hc];obtain⟨w,z⟩:=I.cell _ _ hc;exact⟨rfl,z.lt⟩
 have mem:∀{y c},cenv.cells.lookup y=some c->(X.env.cells.lookup y=some c/\c<s.heap.objs.size)\/(s.heap.objs.size+1<=c/\N7 (pushCells (s.heap.push {cls:=.type "dict",data:=.dict #[]}) scope.names) c none):=fun{y c} e=>by
  rw[hcl]at e
  rcases o1 (cb e)with hm|⟨_,h2,h3⟩
  ·exact .inl (cm hm)
  ·rw[Heap.size_push]at h2;exact .inr ⟨h2,h3⟩
 have look:∀{y},scope.names.lookup y=some .free->∃c,cenv.cells.lookup y=some c/\X.env.cells.lookup y=some c:=fun{y} hl=>by
  have hy:(y,NameKind.free)∈scope.names:=cb hl;obtain⟨c',e'⟩:=mem_lookup (rR (names:=scope.names) (n:=(s.heap.push {cls:=.type "dict",data:=.dict #[]}).objs.size) (sJ (cells:=X.env.cells) (acc:=[]) hy));rw[<-hcl]at e';refine⟨c',e',?_⟩;rw[hcl]at e'
  rcases o1 (cb e')with hm|⟨h1,_,_⟩
  ·exact(cm hm).1
  ·have:=ok.uniq _ h1;rw[hl]at this;cases this
 have okB:(X.pN s H scope cenv fp).Ok:=by
  refine⟨I.ok.mod,by show cenv.scope.kind=_;rw[hsc];exact ok.kind,by show cenv.globals=_;rw[<-hcenv];exact I.ok.glob,by show cenv.builtins=_;rw[<-hcenv];exact I.ok.blt,by show s.heap.objs.size<=cenv.locals;rw[hL];exact aD _,
   fun y z c e1 e2=>?_,fun y hy=>?_,fun y c z e=>?_,I.ok.hd,I.ok.frames,.inl rfl,fun b hb=>⟨?_,fun y c e z=>?_⟩,I.bs,ck I.ok.BR I.sz,fun b o e hb=>?_,fun b hb z=>?_,I.stack,I.Jx⟩
  ·have e1:cenv.cells.lookup y=some c:=e1;have e2:cenv.cells.lookup z=some c:=e2;rw[hcl]at e1 e2;refine xH (fun p hp=>?_) (fun y z c a b=>I.ok.inj y z c (cm a).1 (cm b).1) (cb e1) (cb e2);rw[Heap.size_push];exact Nat.lt_succ_of_lt (cm (y:=p.1) (c:=p.2) hp).2
  ·show ∃c,cenv.cells.lookup y=some c;have key:∀k,cenv.kindOf y=some k->(k=.cell\/k=.free)->∃c,cenv.cells.lookup y=some c:=fun k hk hk'=>by
    unfold Env.kindOf at hk;rw[hsc]at hk;obtain⟨k',e,r⟩:=sD hk;have:k'=.cell\/k'=.free:=by
     rcases r with rfl|⟨rfl,_⟩
     ·exact hk'
     ·exact .inr rfl
    rcases this with rfl|rfl
    ·obtain⟨c,hm⟩:=xI (n:=(s.heap.push {cls:=.type "dict",data:=.dict #[]}).objs.size) (acc:=dQ X.env.cells scope.names []) (cb e);obtain⟨c',e'⟩:=mem_lookup hm;exact⟨c',by rw[hcl];exact e'⟩
    ·obtain⟨c,h1,_⟩:=look e;exact⟨c,h1⟩
   rcases hy with hy|hy
   ·exact key _ hy (.inl rfl)
   ·exact key _ hy (.inr rfl)
  ·have z:(scope.names.lookup y==some NameKind.cell)=true:=z;have z:scope.names.lookup y=some .cell:=by simpa using z
   have e:cenv.cells.lookup y=some c:=e;rw[hcl]at e
   rcases o1 (cb e)with hm|⟨_,h2,_⟩
   ·rcases oI hm with hm|⟨h1,_⟩
    ·cases hm
    ·have q:=ok.uniq _ h1;rw[z]at q;cases q
   ·rw[Heap.size_push]at h2;exact kH h2
  ·show b≠cenv.locals;rw[hL];exact cU (hfp b hb).2
  ·have e:cenv.cells.lookup y=some c:=e
   rcases mem e with⟨h1,_⟩|⟨h1,_⟩
   ·exact(hfp b hb).1.2.2.2.2.1 y c h1 z
   ·have h2:s.heap.objs.size+1<=b:=by rw[<-z];exact h1
    exact absurd (bD (hfp b hb).2 (kH h2)) (eQ _)
  ·rcases(hfp b hb).1.2.2.2.1 with z|z
   ·exact I.ok.GO b o e z
   ·exact absurd (bD (Heap.lt_size e) (ck I.ok.BR z)) (eQ _)
  ·rcases aT.mp (I.F1 b z)with z|z
   ·exact(hfp b hb).1.2.1 z
   ·exact(hfp b hb).1.2.2.1 z
 refine⟨okB,rfl,I.bare,Un.kept kp,⟨fun _=>none,?_,fun i y av e1 e2 e3=>?_⟩,fun y c e=>?_,?_,fun y c e=>?_,fun p hp=>?_,I.bT.kept kp,by rw[sf];exact I.len⟩
 ·show Heap.Ns _ cenv.locals _;rw[hL];exact Heap.Ns.keeps (Heap.Ns.new ..) fun b o e=>pushCells_keeps _ _ _ _ e
 ·obtain⟨e2,hne⟩:=vO e2;have hfr:scope.names.lookup y=some .free/\(cenv.kindOf y=some .cell\/cenv.kindOf y=some .free):=by
   have key:∀k,cenv.scope.names.lookup y=some k->k=.local\/k=.cell\/k=.free->scope.names.lookup y=some .free/\(cenv.kindOf y=some .cell\/cenv.kindOf y=some .free):=fun k hk hk'=>by
    have hk0:=hk;rw[hsc]at hk;obtain⟨k',e,r⟩:=sD hk;have no:¬(k'=.local\/k'=.cell):=fun hh=>by
     rcases ok.own _ (cb e) hh with e'|e'
     ·obtain⟨p,hp,hpy⟩:=jL.mp e';have e3:=ok.ix p hp;have:p.1=y:=hpy;rw[this]at e3;exact hne (jL.mpr ⟨p,hp,zO hN e3 e1⟩)
     ·exact e' (aH e1)
    rcases r with rfl|⟨rfl,rfl⟩
    ·rcases hk' with rfl|rfl|rfl
     ·exact absurd (.inl rfl) no
     ·exact absurd (.inr rfl) no
     ·exact⟨e,.inr hk0⟩
    ·exact⟨e,.inl hk0⟩
   have e3:Kf cenv.scope y:=e3
   rcases e3 with e3|e3|e3
   ·exact key _ e3 (.inl rfl)
   ·exact key _ e3 (.inr (.inl rfl))
   ·exact key _ e3 (.inr (.inr rfl))
  obtain⟨m,hn,hl⟩:=I.loc;have hvis:Kf X.env.scope y:=(ok.free _ (cb hfr.1) rfl).elim (fun k=>.inr (.inl k)) (fun k=>.inr (.inr k));obtain⟨w,r,q⟩:=hl i y av e1 e2 hvis;refine⟨w,r,.inr ⟨hfr.2,?_⟩⟩;obtain⟨c,h1,h2⟩:=look hfr.1
  rcases q with⟨k,_⟩|⟨_,c',e',z⟩
  ·have k:X.env.scope.names.lookup y=some .local:=k
   rcases ok.free _ (cb hfr.1) rfl with k'|k'<;>rw[show X.env.scope.names.lookup y=_ from k']at k<;>cases k
  ·rw[h2]at e';cases e';exact⟨c,h1,z.keeps kp⟩
 ·have e:cenv.cells.lookup y=some c:=e
  rcases mem e with⟨h1,_⟩|⟨_,z⟩
  ·obtain⟨w,z⟩:=I.cell y c h1;exact⟨w,z.keeps kp⟩
  ·exact⟨_,z⟩
 ·show H cenv.locals=none;rw[hL];exact I.bT.fresh (aD _)
 ·have e:cenv.cells.lookup y=some c:=e
  rcases mem e with⟨h1,_⟩|⟨h1,_⟩
  ·exact I.m8 y c h1
  ·exact I.bT.fresh (kH h1)
 ·exact absurd (show p∈([]:List (Addr×Obj))++[]from hp) (by simp)
theorem SS{E:Value->Shared->Prop}{D:Addr}{xs:List V}{y:V}{v:Value}{Q:Value->Shared->Prop}(I:Inv X pins σ H s)(hD:H D=some (.lst xs))(hz:xs.length<sizeLine)(r:RelV y v)
  (h:∀s',Inv X pins σ (upd H D (.lst (xs++[y]))) s'->Q .none s'):wpAny (model X.prog X.w) X.A (call (.builtin "list.append") [.ref D,v]) Q E s:=by
 obtain⟨hz',its,n,ri,e⟩:=I.bT D _ hD;have hl:=ri.length;refine append_at (hsz:=by rw[bf];omega) e fun h' sb ho'=>?_;refine h {s with heap:=h'} (I.write (t':=s.toks) (by rw[hD];trivial) (.inl rfl) (fun b u hb q=>(sb.2 b hb).trans q) ⟨_,ho'⟩ ⟨by rw[aq];exact hz,its++[v],n+1,ri.append (.cons r .nil),?_⟩);rw[ho'];simp
def SX(X:Cx)(ifs:List Expr)(t:TT):Prop:=
 ∀(pins:List (Addr×Obj))(s:Shared)(σ:St)(H:Hp)(Q:Bool->Hp->Prop),Inv X pins σ H s->t σ H Q->
  wpAny (model X.prog X.w) X.A (forIn ifs true fun c r=>if r=true then do let ok<-isTrue c X.env (eval c X.env);pure (ForInStep.yield ok)else pure (ForInStep.yield r)) (TP X pins σ Q) X.xe s
def Ud:TT:=fun _ H Q=>Q true H
theorem CH:SX X [] Ud:=fun _ _ _ H _ I h=>wpAny_tests_nil ⟨H,I,h⟩
end
theorem Cb{α:Type}{t:Sem α}{Q Q':α->Shared->Prop}{M:Model}{A:Around}{E:Value->Shared->Prop}{s:Shared}(h:wpAny M A t Q (fun _ _=>False) s)(hQ:∀a s,Q a s->Q' a s):wpAny M A t Q' E s:=wpAny_mono h hQ fun _ _ z=>False.elim z
theorem Hw{prog:Program}{w:World}{A:Around}{R:Result->Shared->Prop}{s:Shared}{elt target iter:Expr}{ifs:List Expr}{scope:Scope}{pos:Pos}{it acc:Value}{env:Env}(I:Nat->Shared->Prop)
  (turn:∀n s,I n s->wpAny (model prog w) A (pyNext it) (fun r s₁=>match r with
   |none=>R (.ok .next) s₁
   |some v=>wpAny (model prog w) A (letOwnedTupleGo target it v) (fun _ s₁'=>wpAny (model prog w) A (assign target env v) (fun _ s₂=>
     wpAny (model prog w) A (forIn ifs true fun c r=>if r=true then do let ok<-isTrue c env (eval c env);pure (ForInStep.yield ok)else pure (ForInStep.yield r)) (fun ok s₃=>
      if ok=true then wpAny (model prog w) A (eval elt env) (fun x s₄=>
       wpAny (model prog w) A (call (.builtin "list.append") [acc,x]) (fun _ s₅=>∃m,m<n/\I m s₅) (notedBy (model prog w) A env fun e s'=>R (.error e) s') s₄) (notedBy (model prog w) A env fun e s'=>R (.error e) s') s₃
      else ∃m,m<n/\I m s₃) (notedBy (model prog w) A env fun e s'=>R (.error e) s') s₂) (notedBy (model prog w) A env fun e s'=>R (.error e) s') s₁') (notedBy (model prog w) A env fun e s'=>R (.error e) s') s₁) (notedBy (model prog w) A env fun e s'=>R (.error e) s') s)
  (n:Nat) (h:I n s):
  codeAny (model prog w) A (.compLoop (.ListComp elt [⟨target,iter,ifs,0⟩] scope pos) 0 it acc env) R s:=by
 refine codeAny_loop rfl I (fun n s hI=>?_) n h;show wpAny _ A ((compTurn (.ListComp elt [⟨target,iter,ifs,0⟩] scope pos) 0 it acc env).onRaise (fun x=>do noteFrame x env;theTreesLotGoes x)) _ _ s;refine wpAny_noted ?_;rw[compTurn_list];refine wpAny_bind (wpAny_standAt (wpAny_bind (wpAny_mono (turn n s hI) (fun r s₁ h₁=>?_) fun _ _ h'=>h')));cases r with
 |none=>exact wpAny_pure h₁
 |some v=>
  refine wpAny_bind (wpAny_mono h₁ (fun _ s₁' h₁'=>?_) fun _ _ h'=>h');refine wpAny_bind (wpAny_mono h₁' (fun _ s₂ h₂=>wpAny_bind (wpAny_mono h₂ (fun ok s₃ h₃=>?_) fun _ _ h'=>h')) fun _ _ h'=>h');cases ok with
  |false=>exact wpAny_pure ⟨rfl,h₃⟩
  |true=>
   exact wpAny_bind (wpAny_bind (wpAny_mono h₃ (fun x s₄ h₄=>wpAny_bind (wpAny_mono h₄ (fun _ s₅ h₅=>wpAny_pure (wpAny_pure ⟨rfl,h₅⟩)) fun _ _ h'=>h')) fun _ _ h'=>h'))
section
variable{X:Cx}
def T4(wi:TI)(g:TG)(tt:TT)(te:TE)(vs:List Nat):TE:=fun σ H Q=>wi σ H fun J H1=>∀D,H1 D=none->∃W:Nat->Nat->Hp->Prop,(∃m,W 0 m (upd H1 D (.lst [])))/\∀i m H,W i m H->
 (J.stop i H/\Q (.ref D) H)\/(J.go i H/\∃Nx:Hp->Prop,(∀H',Nx H'->∃m',m'<m/\W (i+1) m' H')/\∀x H',J.FR i H x H'->g x (wipe σ vs) H' fun σ2 H2=>wipe σ2 vs=wipe σ vs/\tt σ2 H2 fun b H3=>
  if b=true then te σ2 H3 fun y H4=>∃acc,H4 D=some (.lst acc)/\acc.length<sizeLine/\Nx (upd H4 D (.lst (acc++[y])))else Nx H3)
theorem QO{pins:List (Addr×Obj)}{s:Shared}{σ:St}{H:Hp}{Q:VK}{elt tg iter:Expr}{ifs:List Expr}{scope:Scope}{own:List (Str×Nat)}{pos pos':Pos}{wi:TI}{g:TG}{tt:TT}{te:TE}{use:Option (Value->Sem Unit)}{Qf:Value->Shared->Prop}
  (hc:X.calm=true) (hN:X.N.Nodup) (I:Inv X pins σ H s) (hi:PI X tg iter wi) (ok:FP X.N X.env.scope scope own)
  (hg:∀(s:Shared)(H:Hp)(C:Addr)(cl:List (Str×Addr))(fp:List Addr),PG (X.pN s H scope (compEnvC scope cl C X.env) fp) tg g) (ht:∀(s:Shared)(H:Hp)(C:Addr)(cl:List (Str×Addr))(fp:List Addr),SX (X.pN s H scope (compEnvC scope cl C X.env) fp) ifs tt)
  (he:∀(s:Shared)(H:Hp)(C:Addr)(cl:List (Str×Addr))(fp:List Addr),PE (X.pN s H scope (compEnvC scope cl C X.env) fp) elt te) (hs:∀x,foldedSetIterable iter X.env x=pure x)
  (h:T4 wi g tt te (own.map (·.2)) σ H Q)
  (hRR:∀D C s' m H',Inv X pins σ H' s'->Q (.ref D) H'->s'.heap.Ns C m->qW X pins H' C->compPost (model X.prog X.w) X.A X.xe use Qf (.ref D) C (.ok .next) s'):
  wpAny (model X.prog X.w) X.A (comprehension (.ListComp elt [⟨tg,iter,ifs,0⟩] scope pos) scope X.env pos' (newList []) false (eval iter X.env) use) Qf X.xe s:=by
 have hfree:∀y∈scope.names,y.2=.free->∃c,X.env.cells.lookup y.1=some c:=fun y hy e=>by
  rcases ok.free y hy e with k|k
  ·exact I.ok.has _ (.inl k)
  ·exact I.ok.has _ (.inr k)
 refine wpAny_comprehension_free (use:=use) rfl hs (LI hfree) ok.kind (fun y hy e=>by rw[ok.uniq y hy,e])
  (bR (hi pins s σ H _ I h) fun xv s1 hx=>bR hx fun itv s2 h2=>?_)
 obtain⟨it,fp,tn,J,H2,e,I2,T,st2,f2,q⟩:=h2;subst e;refine wpAny_newObj_type (IJ ?_) (by show 0<=sizeLine;decide);generalize hD:s2.heap.objs.size=D;have hDn:H2 D=none:=I2.bT.fresh (Nat.le_of_eq hD);obtain⟨W,⟨m0,w0⟩,turn⟩:=q D hDn;generalize hs3:({s2 with heap:=s2.heap.push {cls:=.type "list",data:=.seq ([]:List Value).toArray}}:Shared)=s3;have I3:Inv X pins σ (upd H2 D (.lst [])) s3:=by
  rw[<-hs3];refine I2.laid (t':=s2.toks) (fun b o e=>Heap.get?_push_of_some _ e) (Nat.le_of_eq hD) ⟨cE _,[],0,.nil,?_⟩;rw[<-hD];exact Heap.get?_push_size _ rfl
 have h3:s3.heap=s2.heap.push {cls:=.type "list",data:=.seq ([]:List Value).toArray}:=by rw[<-hs3]
 have sz:∀b∈fp,b<s2.heap.objs.size:=fun b hb=>by
  obtain⟨o,e,_⟩:=T.obj _ _ st2 b hb;exact Heap.lt_size e
 have f3:∀b∈fp,qW X pins (upd H2 D (.lst [])) b/\b<s3.heap.objs.size:=fun b hb=>by
  have hlt:=sz b hb;refine⟨⟨?_,(f2 b hb).2⟩,by rw[h3,Heap.size_push];exact Nat.lt_succ_of_lt hlt⟩;rw[dq (by rw[<-hD];exact cU hlt)];exact(f2 b hb).1
 have st3:tn 0 s3.heap:=T.keep _ _ _ st2 fun b _ o e=>by rw[h3];exact Heap.get?_push_of_some _ e
 have I4:=Jj I3 ok hN f3;have pg:=hg s3 (upd H2 D (.lst [])) s3.heap.objs.size (cellsFrom (s3.heap.objs.size+1) scope.names (dQ X.env.cells scope.names [])) fp;have pt:=ht s3 (upd H2 D (.lst [])) s3.heap.objs.size (cellsFrom (s3.heap.objs.size+1) scope.names (dQ X.env.cells scope.names [])) fp;have pe:=he s3 (upd H2 D (.lst [])) s3.heap.objs.size (cellsFrom (s3.heap.objs.size+1) scope.names (dQ X.env.cells scope.names [])) fp;show codeAny _ _ (.compStart (.ListComp elt [⟨tg,iter,ifs,0⟩] scope pos) 0 (.ref it) (.ref D) (compEnvC scope (cellsFrom (s3.heap.objs.size+1) scope.names (dQ X.env.cells scope.names [])) s3.heap.objs.size X.env)) (compPost (model X.prog X.w) X.A X.xe use Qf (.ref D) s3.heap.objs.size) {s3 with heap:=pushCells (s3.heap.push {cls:=.type "dict",data:=.dict #[]}) scope.names};have nfp:∀b∈fp,(upd H2 D (.lst [])) b=none:=fun b hb=>(f3 b hb).1.1;generalize hce:compEnvC scope (cellsFrom (s3.heap.objs.size+1) scope.names (dQ X.env.cells scope.names [])) s3.heap.objs.size X.env=ce at I4 pg pt pe⊢;have cL:ce.locals=s3.heap.objs.size:=by subst hce;rfl
 generalize hH3:upd H2 D (.lst [])=H3 at I3 I4 pg pt pe w0 nfp f3;generalize hs4:({s3 with heap:=pushCells (s3.heap.push {cls:=.type "dict",data:=.dict #[]}) scope.names}:Shared)=s4 at I4⊢;have st4:tn 0 s4.heap:=T.keep _ _ _ st3 fun b _ o e=>by rw[<-hs4];exact pushCells_keeps _ _ _ _ (Heap.get?_push_of_some _ e)
 have stat:∀{σ':St}{H':Hp}{s':Shared},Inv (X.pN s3 H3 scope ce fp) [] σ' H' s'->(∀b∈fp,H' b=none)->∀b∈fp,qW (X.pN s3 H3 scope ce fp) [] H' b:=fun{σ' H' s'} I' hn b hb=>
  ⟨hn b hb,(I'.ok.PY b hb).1,I'.ok.Hq b hb,.inl hb,fun x c e=>(I'.ok.PY b hb).2 x c e,fun p hp=>absurd (show p∈([]:List (Addr×Obj))++[]from hp) (by simp)⟩
 have loop:codeAny (model X.prog X.w) X.A (.compLoop (.ListComp elt [⟨tg,iter,ifs,0⟩] scope pos) 0 (.ref it) (.ref D) ce) (compPost (model X.prog X.w) X.A X.xe use Qf (.ref D) s3.heap.objs.size) s4:=by
  refine Hw (fun n s'=>∃i H',Inv (X.pN s3 H3 scope ce fp) [] (wipe σ (own.map (·.2))) H' s'/\tn i s'.heap/\(∀b∈fp,H' b=none)/\W i n H') ?_ m0 ⟨0,H3,I4,st4,nfp,w0⟩;rintro n s5 ⟨i,H5,I5,st5,n5,w5⟩
  rcases turn i n H5 w5 with⟨stop,qq⟩|⟨go,Nx,hNx,step⟩
  ·have td:=T.done (X.pN s3 H3 scope ce fp) rfl rfl rfl hc i [] s5 _ H5 (fun _ _=>False) I5 (stat I5 n5) st5 stop;refine Cb td fun r s6 ⟨hr,I6⟩=>?_;subst hr;have I7:Inv X pins σ H5 s6:=I3.TU (ch:=fp) I6.os I6.base I6.bT I6.bare fun b hb=>⟨(f3 b hb).1.2.2.2.1,(f3 b hb).1.2.1,(f3 b hb).1.2.2.2.2.1,(f3 b hb).1.2.2.2.2.2⟩;have nC:H5 s3.heap.objs.size=none:=by
    have z:H5 ce.locals=none:=I6.free;rw[cL]at z;exact z
   obtain⟨m,hn,_⟩:=I6.loc;have hn:s6.heap.Ns ce.locals m:=hn;rw[cL]at hn;exact hRR D s3.heap.objs.size s6 m H5 I7 qq hn (I3.Hi (aD _) nC)
  ·have ti:=T.item (X.pN s3 H3 scope ce fp) rfl rfl rfl hc i [] s5 _ H5 (fun _ _=>False) I5 (stat I5 n5) st5 go;refine Cb ti fun r s6 ⟨u,hr,h6⟩=>?_;subst hr;refine Cb h6 fun _ s7 ⟨x,H7,I7,r7,y7,st7,n7⟩=>?_;have I7':=I7.pinned (stat I7 n7) (T.obj _ _ st7);refine Cb (pg _ s7 _ H7 x u _ I7' r7 (step x H7 y7)) fun _ s8 ⟨σ8,H8,I8,hw8,q8⟩=>?_;refine Cb (pt _ s8 σ8 H8 _ I8 q8) fun b s9 ⟨H9,I9,q9⟩=>?_;have fin:∀{s':Shared}{H':Hp},Inv (X.pN s3 H3 scope ce fp) ([]++wM fp s7.heap) σ8 H' s'->Nx H'->∃m,m<n/\∃i H',Inv (X.pN s3 H3 scope ce fp) [] (wipe σ (own.map (·.2))) H' s'/\tn i s'.heap/\(∀b∈fp,H' b=none)/\W i m H':=fun{s' H'} I' nx=>by
    obtain⟨m',hm,w'⟩:=hNx H' nx;have pin':∀b∈fp,∀o,s7.heap.get? b=some o->s'.heap.get? b=some o/\H' b=none:=fun b hb o e=>
     let z:=I'.pin (b,o) (aU _ (aU _ (uC hb e)))
     ⟨z.1,z.2.1⟩
    have hl:(wipe σ (own.map (·.2))).length=σ8.length:=by rw[<-hw8,sf]
    refine⟨m',hm,i+1,H',(I'.t9 (pins:=[])).weak hl (fun j v e=>?_),T.keep _ _ _ st7 fun b hb o e=>(pin' b hb o e).1,fun b hb=>?_,w'⟩
    ·rw[<-hw8]at e;exact(vO e).1
    ·obtain⟨o,e,_⟩:=T.obj _ _ st7 b hb;exact(pin' b hb o e).2
   cases b with
   |false=>
    simp only[Bool.false_eq_true,if_false]at q9⊢;exact fin I9 q9
   |true=>
    simp only[if_true]at q9⊢;refine Cb (pe _ s9 σ8 H9 _ I9 q9) fun z s10 ⟨yv,H10,I10,r10,acc,hD10,hz10,nx⟩=>?_;exact SS (X:=X.pN s3 H3 scope ce fp) I10 hD10 hz10 r10 fun s11 I11=>fin I11 nx
 exact codeAny_compStart_list loop (T.self X.A 0 _ _ _ st4 loop)
theorem KZ{elt tg iter:Expr}{ifs:List Expr}{scope:Scope}{own:List (Str×Nat)}{pos:Pos}{wi:TI}{g:TG}{tt:TT}{te:TE}(hc:X.calm=true)(hN:X.N.Nodup)(hi:PI X tg iter wi)(ok:FP X.N X.env.scope scope own)
  (hg:∀(s:Shared)(H:Hp)(C:Addr)(cl:List (Str×Addr))(fp:List Addr),PG (X.pN s H scope (compEnvC scope cl C X.env) fp) tg g) (ht:∀(s:Shared)(H:Hp)(C:Addr)(cl:List (Str×Addr))(fp:List Addr),SX (X.pN s H scope (compEnvC scope cl C X.env) fp) ifs tt)
  (he:∀(s:Shared)(H:Hp)(C:Addr)(cl:List (Str×Addr))(fp:List Addr),PE (X.pN s H scope (compEnvC scope cl C X.env) fp) elt te) (hs:∀x,foldedSetIterable iter X.env x=pure x:=by intro _;rfl):
  PE X (.ListComp elt [⟨tg,iter,ifs,0⟩] scope pos) (T4 wi g tt te (own.map (·.2))):=by
 intro pins s σ H Q I h;rw[eval_ListComp];refine QO hc hN I hi ok hg ht he hs h fun D C s' m H' I' q hn f=>⟨m,hn,fun h'' sb=>?_⟩;obtain⟨f0,f1,f2,f3,f4,f5⟩:=f;exact⟨.ref D,H',I'.turned (t':=s'.toks) (fun b o hb e=>(sb.2 b hb).trans e) f0 f1 f3 f4 f5,rfl,q⟩
end
theorem QN{K:PySem.W.Frag}{a:Addr}{xs:List V}{g:TG}{tt:TT}{te:TE}{vs:List Nat}{σ:St}{H1:Hp}{D:Addr}{Qd:Hp->Prop}(Pv:Nat->Hp->Prop)(h0:Pv 0 (upd H1 D (.lst [])))(hl:∀i H,i<=xs.length->Pv i H->bY K H a xs)
  (hs:∀i x H,xs[i]? =some x->Pv i H->g x (wipe σ vs) H fun σ2 H2=>wipe σ2 vs=wipe σ vs/\tt σ2 H2 fun b H3=>
   if b=true then te σ2 H3 fun y H4=>∃acc,H4 D=some (.lst acc)/\acc.length<sizeLine/\Pv (i+1) (upd H4 D (.lst (acc++[y])))else Pv (i+1) H3) (hd:∀H,Pv xs.length H->Qd H):
  ∃W:Nat->Nat->Hp->Prop,(∃m,W 0 m (upd H1 D (.lst [])))/\∀i m H,W i m H->
   ((ED K a).stop i H/\Qd H)\/((ED K a).go i H/\∃Nx:Hp->Prop,(∀H',Nx H'->∃m',m'<m/\W (i+1) m' H')/\∀x H',(ED K a).FR i H x H'->g x (wipe σ vs) H' fun σ2 H2=>wipe σ2 vs=wipe σ vs/\tt σ2 H2 fun b H3=>
    if b=true then te σ2 H3 fun y H4=>∃acc,H4 D=some (.lst acc)/\acc.length<sizeLine/\Nx (upd H4 D (.lst (acc++[y])))else Nx H3):=by
 refine⟨fun i m H=>m=xs.length - i/\i<=xs.length/\Pv i H,⟨xs.length,by simp,cE _,h0⟩,?_⟩;rintro i m H ⟨rfl,hi,p⟩;have q:=hl i H hi p;by_cases hlt:i<xs.length
 ·refine .inr ⟨⟨xs,xs[i],q,by simp[hlt]⟩,Pv (i+1),fun H' p'=>⟨xs.length - (i+1),by omega,rfl,hlt,p'⟩,fun x H' y=>?_⟩;obtain⟨e,y⟩:=y;subst e;exact hs i x _ (y xs q) p
 ·have e:i=xs.length:=by omega
  subst e;exact .inl ⟨⟨xs,q,aD _⟩,hd H p⟩
def SN(N:List Str)(sc scope:Scope)(own:List (Str×Nat)):Bool:=
 (match scope.kind with| .function=>true|_=>false)&&(scope.names.all fun y=>decide (scope.names.lookup y.1=some y.2))&&(own.all fun p=>decide (N[p.2]? =some p.1))&&
  (scope.names.all fun y=>match y.2 with
   | .free=>(match sc.names.lookup y.1 with|some .cell=>true|some .free=>true|_=>false)
   | .local=>decide (y.1∈own.map (·.1))||decide (y.1∉N)
   | .cell=>decide (y.1∈own.map (·.1))||decide (y.1∉N)
   |_=>true)
theorem z9{N:List Str}{sc scope:Scope}{own:List (Str×Nat)}(h:SN N sc scope own=true):FP N sc scope own:=by
 unfold SN at h;simp only[cG,fN,decide_eq_true_eq]at h;obtain⟨⟨⟨h1,h2⟩,h3⟩,h4⟩:=h;refine⟨?_,h2,h3,fun y hy e=>?_,fun y hy e=>?_⟩
 ·split at h1
  ·assumption
  ·cases h1
 ·have q:=h4 y hy;simp only[e]at q;split at q<;>first|exact .inl (by assumption)|exact .inr (by assumption)|cases q
 ·have q:=h4 y hy
  rcases e with e|e<;>(simp only[e,jz,decide_eq_true_eq]at q;exact q)
end L2
namespace L2
open PySem PySem.Spec PyProof.Rows
section
variable{prog:Program}{w:World}{A:Around}{R:Result->Shared->Prop}{s:Shared}{elt t0 i0 t1 i1:Expr}{ifs0 ifs1:List Expr}{scope:Scope}{pos:Pos}{it acc:Value}{env:Env}
end
section
variable{X:Cx}
end
end L2
namespace L2
open PySem PySem.Spec PyProof.Rows
section
variable{κ:Type}[DecidableEq κ]
def cv(kvs:List (κ×V))(k:κ):Option V:=(kvs.find? fun kv=>decide (kv.1=k)).map (·.2)
def putK(kvs:List (κ×V))(k:κ)(v:V):List (κ×V):=
 if(kvs.any fun kv=>decide (kv.1=k))=true then kvs.map (fun kv=>if kv.1=k then(kv.1,v)else kv)else kvs++[(k,v)]
theorem gB{p:κ×V}{r:List (κ×V)}{k:κ}(e:p.1=k):cv (p::r) k=some p.2:=by simp[cv,dG,e]
theorem gC{p:κ×V}{r:List (κ×V)}{k:κ}(e:¬p.1=k):cv (p::r) k=cv r k:=by simp[cv,dG,e]
theorem t8(k:κ):∀kvs:List (κ×V),(kvs.any fun kv=>decide (kv.1=k))=(cv kvs k).isSome
 |[]=>rfl
 |p::r=>by
  rw[ee];by_cases e:p.1=k
  ·simp only[gB e,ao e,Bool.true_or,Option.isSome_some]
  ·rw[gC e,aY e,Bool.false_or];exact t8 k r
theorem FV(k j:κ)(y:V):∀kvs:List (κ×V),cv (kvs.map fun kv=>if kv.1=k then(kv.1,y)else kv) j=(cv kvs j).map fun x=>if j=k then y else x
 |[]=>rfl
 |p::r=>by
  have ih:=FV k j y r;rw[a8];by_cases h:p.1=k
  ·rw[ai h];by_cases e:p.1=j
   ·rw[gB (p:=(p.1,y)) e,gB e,mq,ai (e.symm.trans h)]
   ·rw[gC (p:=(p.1,y)) e,gC e,ih]
  ·rw[af h];by_cases e:p.1=j
   ·rw[gB (p:=p) e,gB e,mq,af (fun z=>h (e.trans z))]
   ·rw[gC (p:=p) e,gC e,ih]
theorem DD(k j:κ)(y:V):∀kvs:List (κ×V),cv kvs k=none->cv (kvs++[(k,y)]) j=if j=k then some y else cv kvs j
 |[],_=>by
  by_cases e:k=j
  ·rw[ai e.symm];exact gB (p:=(k,y)) e
  ·rw[af (fun z=>e z.symm)];exact gC (p:=(k,y)) e
 |p::r,hn=>by
  rw[List.cons_append];have hk:¬p.1=k:=fun z=>by rw[gB z]at hn;cases hn
  rw[gC hk]at hn;have ih:=DD k j y r hn;by_cases e:p.1=j
  ·rw[gB e,gB e,af (fun z=>hk (e.trans z))]
  ·rw[gC e,gC e,ih]
theorem lB(kvs:List (κ×V))(k j:κ)(y:V):cv (putK kvs k y) j=if j=k then some y else cv kvs j:=by
 unfold putK;by_cases a:(kvs.any fun kv=>decide (kv.1=k))=true
 ·rw[ai a,FV];rw[t8]at a;by_cases e:j=k
  ·obtain⟨x,hx⟩:=dY.mp a;rw[ai e,e,hx,mq,ai rfl]
  ·rw[af e];cases cv kvs j with
   |none=>rfl
   |some x=>rw[mq,af e]
 ·rw[af a];refine DD k j y kvs ?_;rw[t8]at a;cases q:cv kvs k with
  |none=>rfl
  |some x=>rw[q]at a;exact(a rfl).elim
theorem yZ(kvs:List (κ×V))(k:κ)(v:V):(putK kvs k v).length<=kvs.length+1:=by
 unfold putK;split
 ·rw[aP];omega
 ·rw[aq,ay,mE];omega
theorem ju.ik{o:Option V}{u:Option Value}(r:ju o u):o.isSome=u.isSome:=by
 cases o with
 |none=>cases u with
  |none=>rfl
  |some _=>exact(show False from r).elim
 |some _=>cases u with
  |none=>exact(show False from r).elim
  |some _=>rfl
theorem ju.getD{o:Option V}{u:Option Value}{d:V}{d':Value}(r:ju o u)(rd:RelV d d'):RelV (o.getD d) (u.getD d'):=by
 cases o with
 |none=>cases u with
  |none=>exact rd
  |some _=>exact(show False from r).elim
 |some _=>cases u with
  |none=>exact(show False from r).elim
  |some _=>exact r
theorem KV.val{kvs:List (κ×V)}{vs:List (κ×Value)}(r:KV kvs vs)(k:κ):ju (cv kvs k) (valueAt vs k):=by
 unfold KV at r
 induction r with
 |nil=>exact True.intro
 | @cons p q ps qs h t ih=>
  obtain⟨h1,h2⟩:=h;by_cases e:p.1=k
  ·have e':q.1=k:=h1.symm.trans e;have b:valueAt (q::qs) k=some q.2:=by simp[valueAt,dG,e']
   rw[gB e,b];exact h2
  ·have e':¬q.1=k:=fun z=>e (h1.trans z);have b:valueAt (q::qs) k=valueAt qs k:=by simp[valueAt,dG,e']
   rw[gC e,b];exact ih
theorem KV.any{kvs:List (κ×V)}{vs:List (κ×Value)}(r:KV kvs vs)(k:κ):(kvs.any fun kv=>decide (kv.1=k))=vs.any fun kv=>decide (kv.1=k):=by
 unfold KV at r
 induction r with
 |nil=>rfl
 |cons h t ih=>rw[ee,ee,ih,h.1]
theorem KV.Ox{kvs:List (κ×V)}{vs:List (κ×Value)}(r:KV kvs vs)(k:κ){y:V}{u:Value}(ry:RelV y u):
  KV (kvs.map fun kv=>if kv.1=k then(kv.1,y)else kv) (vs.map fun kv=>if kv.1=k then(kv.1,u)else kv):=by
 unfold KV at r⊢
 induction r with
 |nil=>exact .nil
 | @cons p q ps qs h t ih=>
  rw[a8,a8];refine .cons ?_ ih;obtain⟨h1,h2⟩:=h;by_cases e:p.1=k
  ·rw[ai e,ai (h1.symm.trans e)];exact⟨h1,ry⟩
  ·rw[af e,af (fun z=>e (h1.trans z))];exact⟨h1,h2⟩
theorem KV.put{kvs:List (κ×V)}{vs:List (κ×Value)}(r:KV kvs vs)(k:κ){y:V}{u:Value}(ry:RelV y u):KV (putK kvs k y) (stored vs k u):=by
 unfold putK stored;rw[r.any k];by_cases e:(vs.any fun kv=>decide (kv.1=k))=true
 ·rw[ai e,ai e];exact r.Ox k ry
 ·rw[af e,af e];exact Paired.snoc r ⟨rfl,ry⟩
theorem KV.length{kvs:List (κ×V)}{vs:List (κ×Value)}(r:KV kvs vs):kvs.length=vs.length:=Paired.length r
end
theorem m5{P:Program}{w:World}{k:Key}{u:Value}(r:RelV (kV k) u):(dk P w).is k u=true:=by
 cases k with
 |inl i=>obtain⟨t,e⟩:=(show ∃t,u=Value.int i t from r);subst e;exact yW P w i t
 |inr x=>obtain⟨t,e⟩:=(show ∃t,u=Value.str x t from r);subst e;exact IY P w x t
theorem rD{P:Program}{w:World}:∀{ks:List Key}{us:List Value},Vals (ks.map kV) us->ItemsAre (dk P w) ks us
 |[],_,r=>by rw[mC]at r;cases r;exact .nil
 |k::ks,_,r=>by
  rw[a8]at r;cases r with
  |cons h t=>exact .cons (m5 h) (rD t)
abbrev KT(H:Hp):List (List Key×V)->List (List Key×Addr×Value)->Prop:=Paired fun p q=>p.1=q.1/\H q.2.1=some (.tup (p.1.map kV))/\RelV p.2 q.2.2
theorem KT.val{H:Hp}{kvs:List (List Key×V)}{xs:List (List Key×Addr×Value)}(r:KT H kvs xs)(k:List Key):ju (cv kvs k) ((atKey xs k).map (·.2)):=by
 induction r with
 |nil=>exact True.intro
 | @cons p q ps qs h t ih=>
  obtain⟨h1,_,h2⟩:=h;by_cases e:p.1=k
  ·have e':q.1=k:=h1.symm.trans e;have b:atKey (q::qs) k=some q.2:=by simp[atKey,dG,e']
   rw[gB e,b];exact h2
  ·have e':¬q.1=k:=fun z=>e (h1.trans z);have b:atKey (q::qs) k=atKey qs k:=by simp[atKey,dG,e']
   rw[gC e,b];exact ih
theorem KT.Ox{H:Hp}{kvs:List (List Key×V)}{xs:List (List Key×Addr×Value)}(r:KT H kvs xs)(k:List Key){y:V}{u:Value}(ry:RelV y u):
  KT H (kvs.map fun kv=>if kv.1=k then(kv.1,y)else kv) (xs.map (putAt k u)):=by
 induction r with
 |nil=>exact .nil
 | @cons p q ps qs h t ih=>
  rw[a8,a8];refine .cons ?_ ih;obtain⟨h1,h2,h3⟩:=h;unfold putAt;by_cases e:p.1=k
  ·rw[ai e,ai (h1.symm.trans e)];exact⟨h1,h2,ry⟩
  ·rw[af e,af (fun z=>e (h1.trans z))];exact⟨h1,h2,h3⟩
theorem KT.put{H:Hp}{kvs:List (List Key×V)}{xs:List (List Key×Addr×Value)}(r:KT H kvs xs)(k:List Key){b:Addr}{y:V}{u:Value}(hb:H b=some (.tup (k.map kV)))(ry:RelV y u):
  KT H (putK kvs k y) (storedH xs k b u):=by
 have e:(kvs.any fun kv=>decide (kv.1=k))=(atKey xs k).isSome:=by
  rw[t8,(r.val k).ik,gF]
 unfold putK storedH;rw[e];by_cases q:(atKey xs k).isSome=true
 ·rw[ai q,ai q];exact r.Ox k ry
 ·rw[af q,af q];exact Paired.snoc r ⟨rfl,hb,ry⟩
theorem KT.keeps{H H':Hp}{kvs:List (List Key×V)}{xs:List (List Key×Addr×Value)}(r:KT H kvs xs)(ht:∀b ys,H b=some (.tup ys)->H' b=some (.tup ys)):KT H' kvs xs:=
 Paired.OS r fun _ _ z=>⟨z.1,ht _ _ z.2.1,z.2.2⟩
section
variable{P:Program}{w:World}{H:Hp}{h:Heap}{a:Addr}
theorem PR{u:HO}(ok:gm P w H h)(e:Rd H a u):eS P w H h a u:=e.ok ok
theorem uN{kvs:List (Key×V)}(ok:gm P w H h)(e:Rd H a (.dK kvs)):kvs.length<=sizeLine/\(a==sysModules)=false/\∃vs,KV kvs vs/\h.DictOf (dk P w) a vs:=
 show eS P w H h a (.dK kvs)from PR ok e
theorem PZ{kvs:List (Key×V)}(ok:gm P w H h)(e:H a=some (.dK kvs)):kvs.length<=sizeLine/\(a==sysModules)=false/\∃vs,KV kvs vs/\h.DictOf (dk P w) a vs:=uN ok (.inl e)
theorem m3{ks:List Key}(ok:gm P w H h)(e:H a=some (.tup (ks.map kV))):(tupleKind (dk P w)).is h ks a:=by
 obtain⟨_,its,r,o,h1,h2,n,h3⟩:=(show eS P w H h a (.tup (ks.map kV))from ok a _ e);exact⟨o,its.toArray,n,h1,h2,h3,by simpa using rD r⟩
theorem uM{kvs:List (List Key×V)}(ok:gm P w H h)(e:Rd H a (.dT kvs)):kvs.length<=sizeLine/\(a==sysModules)=false/\
  ∃xs,KT H kvs xs/\h.DictOfH (tupleKind (dk P w)) a xs:=by
 obtain⟨z,y,xs,r,o,es,ep,h1,h2,h3,h4,h5⟩:=(show eS P w H h a (.dT kvs)from PR ok e);refine⟨z,y,xs,r,o,es,ep,h1,h2,h3,h4,fun x hx=>?_,h5⟩;have all:∀{l:List (List Key×V)}{m:List (List Key×Addr×Value)},KT H l m->∀x∈m,(tupleKind (dk P w)).is h x.1 x.2.1:=by
  intro l m q
  induction q with
  |nil=>intro x hx;exact nomatch hx
  | @cons p q ps qs hq t ih=>
   intro x hx
   rcases aT.mp hx with e|hx
   ·subst e;exact m3 ok (by rw[<-hq.1];exact hq.2.1)
   ·exact ih x hx
 exact all r x hx
theorem TQ{kvs:List (List Key×V)}(ok:gm P w H h)(e:H a=some (.dT kvs)):kvs.length<=sizeLine/\(a==sysModules)=false/\
  ∃xs,KT H kvs xs/\h.DictOfH (tupleKind (dk P w)) a xs:=uM ok (.inl e)
end
def uY(H:Hp)(a:Addr)(y:V)(r:Option V):Prop:=
 (∃kvs k,Rd H a (.dK kvs)/\y=kV k/\r=cv kvs k)\/∃kvs k b,Rd H a (.dT kvs)/\y=.ref b/\H b=some (.tup (k.map kV))/\r=cv kvs k
def Dv(H:Hp)(a:Addr)(y v:V)(H':Hp):Prop:=
 (∃kvs k,H a=some (.dK kvs)/\y=kV k/\kvs.length<sizeLine/\H'=upd H a (.dK (putK kvs k v)))\/
 ∃kvs k b,H a=some (.dT kvs)/\y=.ref b/\H b=some (.tup (k.map kV))/\kvs.length<sizeLine/\H'=upd H a (.dT (putK kvs k v))
theorem Dv.k{H:Hp}{a:Addr}{kvs:List (Key×V)}{k:Key}{v:V}(e:H a=some (.dK kvs))(hl:kvs.length<sizeLine):Dv H a (kV k) v (upd H a (.dK (putK kvs k v))):=.inl ⟨kvs,k,e,rfl,hl,rfl⟩
section
variable{X:Cx}{pins:List (Addr×Obj)}{σ:St}{H:Hp}{s:Shared}{a:Addr}{y v:V}{u r:Value}{o:Option V}{A:Around}{E:Value->Shared->Prop}
theorem Inv.big(I:Inv X pins σ H s):sysModules<s.heap.objs.size:=by
 have h:mainGlobals<s.heap.objs.size:=(I.mod.glob.keeps I.bk).lt;exact Nat.lt_trans (by decide) h
theorem NA{Q:Value->Shared->Prop}(hu:A.units+1<cLine)(I:Inv X pins σ H s)(g:uY H a y (some v))(ry:RelV y u)(h:∀w' s',Inv X pins σ H s'->RelV v w'->Q w' s'):
  wpAny (model X.prog X.w) A (getItem (.ref a) u) Q E s:=by
 rcases g with⟨kvs,k,e,ey,l⟩|⟨kvs,k,b,e,ey,eb,l⟩
 ·subst ey;obtain⟨z,hd,vs,rel,dd⟩:=uN I.bT e;obtain⟨w',hw,rw'⟩:=ju.some_of (v:=v) (o:=valueAt vs k) (by rw[l];exact rel.val k);exact wpAny_getItem_of (m5 ry) dd.mapOf hw (h w' _ (I.tok _) rw')
 ·subst ey;cases(show u=Value.ref b from ry);obtain⟨z,hd,xs,rel,dd⟩:=uM I.bT e;obtain⟨w',hw,rw'⟩:=ju.some_of (v:=v) (o:=(atKey xs k).map (·.2)) (by rw[l];exact rel.val k);obtain⟨p,hp,hp2⟩:=bS.mp hw;refine wpAny_getItem_heap (tupleKind_room_in1 hu) (m3 I.bT eb) dd hp ?_;rw[hp2];exact h w' _ (I.tok _) rw'
theorem UO{Q:Value->Shared->Prop}(hu:A.units+1<cLine)(I:Inv X pins σ H s)(g:uY H a y o)(ry:RelV y u)(h:∀s',Inv X pins σ H s'->Q (.bool o.isSome) s'):
  wpAny (model X.prog X.w) A (compareOp .In u (.ref a)) Q E s:=by
 rcases g with⟨kvs,k,e,ey,l⟩|⟨kvs,k,b,e,ey,eb,l⟩
 ·subst ey;obtain⟨z,hd,vs,rel,dd⟩:=uN I.bT e;refine wpAny_in_of (m5 ry) hd dd.mapOf ?_;rw[<-(rel.val k).ik,<-l];exact h _ (I.tok _)
 ·subst ey;cases(show u=Value.ref b from ry);obtain⟨z,hd,xs,rel,dd⟩:=uM I.bT e;refine wpAny_in_heap (tupleKind_room_in1 hu) (m3 I.bT eb) hd dd ?_;have q:=(rel.val k).ik;rw[gF]at q;rw[<-q,<-l];exact h _ (I.tok _)
theorem Q5{Q:Value->Shared->Prop}(hu:A.units+1<cLine)(I:Inv X pins σ H s)(g:uY H a y o)(ry:RelV y u)(h:∀s',Inv X pins σ H s'->Q (.bool (!o.isSome)) s'):
  wpAny (model X.prog X.w) A (compareOp .NotIn u (.ref a)) Q E s:=by
 rcases g with⟨kvs,k,e,ey,l⟩|⟨kvs,k,b,e,ey,eb,l⟩
 ·subst ey;obtain⟨z,hd,vs,rel,dd⟩:=uN I.bT e;refine wpAny_notIn_of (m5 ry) hd dd.mapOf ?_;rw[<-(rel.val k).ik,<-l];exact h _ (I.tok _)
 ·subst ey;cases(show u=Value.ref b from ry);obtain⟨z,hd,xs,rel,dd⟩:=uM I.bT e;refine wpAny_notIn_heap (tupleKind_room_in1 hu) (m3 I.bT eb) hd dd ?_;have q:=(rel.val k).ik;rw[gF]at q;rw[<-q,<-l];exact h _ (I.tok _)
theorem J9{h':Heap}{t':Nat}{ob:HO}(I:Inv X pins σ H s)(mu:N1 (H a))(hs:Heap.SameBut a s.heap h')(he:∃q,h'.get? a=some q)(new:eS X.prog X.w (upd H a ob) h' a ob):
  Inv X pins σ (upd H a ob) {s with heap:=h',toks:=t'}:=
 I.write (x:=a) (e:=a) mu (.inl rfl) (fun b q hb z=>(hs.2 b hb).trans z) he new
theorem SG{P:Program}{w:World}{H':Hp}{h':Heap}{kvs:List (Key×V)}{vs:List (Key×Value)}(z:kvs.length<=sizeLine)(hd:(a==sysModules)=false)(rel:KV kvs vs)(dd:h'.DictOf (dk P w) a vs):
  eS P w H' h' a (.dK kvs):=⟨z,hd,vs,rel,dd⟩
theorem Nz{H':Hp}{Q:Unit->Shared->Prop}(hu:A.units+1<cLine)(I:Inv X pins σ H s)(g:Dv H a y v H')(ry:RelV y u)(rv:RelV v r)(h:∀s',Inv X pins σ H' s'->Q () s'):
  wpAny (model X.prog X.w) A (setItem (.ref a) u r) Q E s:=by
 rcases g with⟨kvs,k,e,ey,l,eH⟩|⟨kvs,k,b,e,ey,eb,l,eH⟩
 ·subst ey eH;obtain⟨z,hd,vs,rel,dd⟩:=PZ I.bT e;have hz:vs.length<=sizeLine:=by rw[<-rel.length];exact z
  have hl:(putK kvs k v).length<=sizeLine:=by have:=yZ kvs k v;omega
  refine wpAny_setItem_pairs (hsz:=hz) (m5 ry) dd fun h' dd' hs=>h _ ?_;have he:∃q,h'.get? a=some q:=let ⟨q,_,_,hq,_⟩:=dd';⟨q,hq⟩;exact J9 I (by rw[e];exact True.intro) hs he (SG hl hd (rel.put k rv) dd')
 ·subst ey eH;cases(show u=Value.ref b from ry);obtain⟨z,hd,xs,rel,dd⟩:=TQ I.bT e;have hz:xs.length<=sizeLine:=by rw[<-Paired.length rel];exact z
  have hl:(putK kvs k v).length<=sizeLine:=by have:=yZ kvs k v;omega
  refine wpAny_setItem_heap (hsz:=hz) (tupleKind_room_in1 hu) (m3 I.bT eb) dd fun h' dd' hs=>h _ ?_;obtain⟨q,es,ep,hq,h2,h3,h4,_,h5⟩:=dd';refine J9 I (by rw[e];exact True.intro) hs ⟨q,hq⟩ ⟨hl,hd,_,(rel.put k eb rv).keeps fun c ys ec=>?_,q,es,ep,hq,h2,h3,h4,h5⟩;rw[dq (Tv ec e (fun z=>nomatch z))];exact ec
end
section
variable{X:Cx}{pins:List (Addr×Obj)}{σ:St}{H:Hp}{s:Shared}{a:Addr}{kvs:List (Key×V)}{k:Key}{u:Value}{A:Around}{E:Value->Shared->Prop}
end
def PB(i:Expr):Prop:=∀ov iv,subscripted i false ov iv=operate [ov,iv] (getItem ov iv)
theorem Jw{prog:Program}{w:World}{A:Around}{E:Value->Shared->Prop}{s:Shared}{env:Env}{value slice:Expr}{pos:Pos}{T id:String}{Q:Value->Shared->Prop}
  (hl:typeLookup (.type T) "__getitem__"=pure (some (.builtin id))) (hs:PB slice)
  (h:wpAny (model prog w) A (eval value env) (fun o s₁=>wpAny (model prog w) A (eval slice env) (fun i s₂=>s₂.TypeIs o T/\wpAny (model prog w) A (getItem o i) Q E s₂) E s₁) E s):
  wpAny (model prog w) A (eval (.Subscript value slice pos) env) Q E s:=by
 refine Subscript_ (wpAny_mono h (fun o s₁ h₁=>wpAny_mono h₁ (fun i s₂ h₂=>?_) fun _ _ x=>x) fun _ _ x=>x);obtain⟨hT,h₂⟩:=h₂;unfold subscriptTail;refine wpAny_bind ?_;rw[getitemInPython_of_ne hT.not_modules];refine wpAny_bind (wpAny_specialOf hT hl ?_);have fin:wpAny (model prog w) A (subscripted slice false o i) (fun r s₃=>wpAny (model prog w) A (letTemporaryGo value o r >>= fun _=>pure r) Q E s₃) E s₂:=by
  rw[hs o i];exact wpAny_operating (wpAny_mono h₂ (fun r s₃ h₃=>wpAny_bind (wpAny_letTemporaryGo (wpAny_pure h₃))) fun _ _ x=>x)
 first
  |exact wpAny_pure (wpAny_bind fin)
  |exact wpAny_bind (wpAny_pure (wpAny_bind fin))
  |exact wpAny_bind fin
theorem Jd{X:Cx}{pins:List (Addr×Obj)}{σ:St}{H:Hp}{s:Shared}{a:Addr}{y:V}{o:Option V}(I:Inv X pins σ H s)(g:uY H a y o):s.TypeIs (.ref a) "dict":=by
 rcases g with⟨kvs,k,e,_,_⟩|⟨kvs,k,b,e,_,_,_⟩
 ·obtain⟨_,_,vs,_,dd⟩:=uN I.bT e;exact dd.typeIs
 ·obtain⟨_,_,xs,_,dd⟩:=uM I.bT e;exact dd.typeIs
def Th(td ty:TE):TE:=fun σ H Q=>td σ H fun x H1=>ty σ H1 fun y H2=>∃a v,x=.ref a/\uY H2 a y (some v)/\Q v H2
def Um(ty td:TE):TE:=fun σ H Q=>ty σ H fun y H1=>td σ H1 fun x H2=>∃a o,x=.ref a/\uY H2 a y o/\Q (.bl o.isSome) H2
def Qe(ty td:TE):TE:=fun σ H Q=>ty σ H fun y H1=>td σ H1 fun x H2=>∃a o,x=.ref a/\uY H2 a y o/\Q (.bl (!o.isSome)) H2
def Tp(td ty tv:TE):TS:=fun D σ H=>tv σ H fun v H1=>td σ H1 fun x H2=>ty σ H2 fun y H3=>∃a H4,x=.ref a/\Dv H3 a y v H4/\D.nx σ H4
section
variable{X:Cx}{o i e value:Expr}{pos pos' tpos:Pos}{td ty tv:TE}
theorem Qz(hu:X.A.units+1<cLine)(ho:PE X o td)(hi:PE X i ty)(hs:PB i):PE X (.Subscript o i pos) (Th td ty):=by
 intro pins s σ H Q I h;refine Jw PySem.F.slot_dict_getitem.lookup hs (bR (ho pins s σ H _ I h) fun u s1 ⟨x,H1,I1,rx,q1⟩=>bR (hi pins s1 σ H1 _ I1 q1) fun iv s2 ⟨y,H2,I2,ry,a,v,ex,g,q2⟩=>?_);subst ex;obtain rfl:u=Value.ref a:=rx;exact⟨Jd I2 g,NA hu I2 g ry fun w' s3 I3 rw'=>⟨v,H2,I3,rw',q2⟩⟩
theorem MM(hu:X.A.units+1<cLine)(hi:PE X i ty)(ho:PE X o td):PC X .In i o (Um ty td):=by
 intro pins s σ H Q I h;refine bR (hi pins s σ H _ I h) fun iv s1 ⟨y,H1,I1,ry,q1⟩=>bR (ho pins s1 σ H1 _ I1 q1) fun u s2 ⟨x,H2,I2,rx,a,ov,ex,g,q2⟩=>?_;subst ex;obtain rfl:u=Value.ref a:=rx;exact UO hu I2 g ry fun s3 I3=>⟨.bl ov.isSome,H2,I3,rfl,q2⟩
theorem DT(hu:X.A.units+1<cLine)(hi:PE X i ty)(ho:PE X o td):PC X .NotIn i o (Qe ty td):=by
 intro pins s σ H Q I h;refine bR (hi pins s σ H _ I h) fun iv s1 ⟨y,H1,I1,ry,q1⟩=>bR (ho pins s1 σ H1 _ I1 q1) fun u s2 ⟨x,H2,I2,rx,a,ov,ex,g,q2⟩=>?_;subst ex;obtain rfl:u=Value.ref a:=rx;exact Q5 hu I2 g ry fun s3 I3=>⟨.bl (!ov.isSome),H2,I3,rfl,q2⟩
theorem xX(hu:X.A.units+1<cLine)(ho:PE X o td)(hi:PE X i ty)(hv:PE X value tv)(hs:swapsWith value (some (.Subscript o i pos')) pos.line X.env=pure false):
  PS X (.Assign [.Subscript o i pos'] value pos) (Tp td ty tv):=by
 intro pins s σ H D I h;refine wpAny_Assign_Subscript (bR (hv pins s σ H _ I h) fun r s1 ⟨v,H1,I1,rv,q1⟩=>bR (ho pins s1 σ H1 _ I1 q1) fun u s2 ⟨x,H2,I2,rx,q2⟩=>bR (hi pins s2 σ H2 _ I2 q2) fun iv s3 ⟨y,H3,I3,ry,a,H4,ex,g,q3⟩=>?_) hs;subst ex;obtain rfl:u=Value.ref a:=rx;exact Nz hu I3 g ry rv fun s4 I4=>⟨σ,H4,I4,q3⟩
end
theorem Pb{P:Program}{w:World}{H:Hp}(h:Heap)(hb:sysModules<h.objs.size):eS P w H (h.push {cls:=.type "dict",data:=.dict #[]}) h.objs.size (.dK []):=
 ⟨cE _,beq_eq_false_iff_ne.mpr (jn (cU hb)),[],.nil,Heap.DictOf.new h⟩
def Rz:TE:=fun _ H Q=>∀p,H p=none->Q (.ref p) (upd H p (.dK []))
section
variable{X:Cx}{pos:Pos}
theorem uv:PE X (.Dict [] [] pos) Rz:=fun pins s σ H Q I h=>
 wpAny_Dict_empty ⟨.ref s.heap.objs.size,_,I.laid (a:=s.heap.objs.size) (o:=.dK []) (t':=s.toks) (fun _ _ q=>Heap.get?_push_of_some _ q) (aD _) (Pb s.heap I.big),rfl,h _ (I.bT.fresh (aD _))⟩
end
structure M1(X:Cx)(o:Expr)(m:Str)(apos:Pos)(e:Expr)(cpos:Pos):Prop where
 base:attributeBase o m X.env (eval o X.env)=eval o X.env
 rF:((backTo cpos (starEach [e] X.env)).all (fun x=>!x.1)&&(backToKw cpos (keywordEach [] X.env)).all (fun x=>x.1.isSome)
  &&decide (([e]:List Expr).length+([]:List Keyword).length+(if([]:List Keyword).isEmpty then 0 else 1)<30))=true
 line:(apos.endLine==cpos.line)=true
 trees:backTo cpos (starEach [e] X.env)=[(false,eval e X.env)]
structure M2(X:Cx)(o:Expr)(m:Str)(apos:Pos)(e f:Expr)(cpos:Pos):Prop where
 base:attributeBase o m X.env (eval o X.env)=eval o X.env
 rF:((backTo cpos (starEach [e,f] X.env)).all (fun x=>!x.1)&&(backToKw cpos (keywordEach [] X.env)).all (fun x=>x.1.isSome)
  &&decide (([e,f]:List Expr).length+([]:List Keyword).length+(if([]:List Keyword).isEmpty then 0 else 1)<30))=true
 line:(apos.endLine==cpos.line)=true
 trees:backTo cpos (starEach [e,f] X.env)=[(false,eval e X.env),(false,eval f X.env)]
def S4(H:Hp)(a:Addr):Prop:=(∃kvs,Rd H a (.dK kvs))\/∃kvs,Rd H a (.dT kvs)
theorem Nd{X:Cx}{pins:List (Addr×Obj)}{σ:St}{H:Hp}{s:Shared}{a:Addr}(I:Inv X pins σ H s)(d:S4 H a):
  s.TypeIs (.ref a) "dict"/\(∀b,Value.ref a=.ref b->∃ob,s.heap.get? b=some ob/\ob.dict=none)/\(a==sysModules)=false:=by
 rcases d with⟨kvs,e⟩|⟨kvs,e⟩
 ·obtain⟨_,hd,vs,_,dd⟩:=uN I.bT e;refine⟨dd.typeIs,fun b q=>?_,hd⟩;cases q;obtain⟨ob,_,_,h1,h2,_⟩:=dd;exact⟨ob,h1,h2.2.1⟩
 ·obtain⟨_,hd,xs,_,dd⟩:=uM I.bT e;refine⟨dd.typeIs,fun b q=>?_,hd⟩;cases q;obtain⟨ob,_,_,h1,h2,_⟩:=dd;exact⟨ob,h1,h2.2.1⟩
section
variable{X:Cx}{pins:List (Addr×Obj)}{σ:St}{H:Hp}{s:Shared}{a:Addr}{y d:V}{u r:Value}{o:Option V}{A:Around}{E:Value->Shared->Prop}
theorem SI{Q:Value->Shared->Prop}(hu:A.units+1<cLine)(I:Inv X pins σ H s)(g:uY H a y o)(ry:RelV y u)(h:∀w' s',Inv X pins σ H s'->RelV (o.getD .bA) w'->Q w' s'):
  wpAny (model X.prog X.w) A (call (.builtin "dict.get") [.ref a,u]) Q E s:=by
 rcases g with⟨kvs,k,e,ey,l⟩|⟨kvs,k,b,e,ey,eb,l⟩
 ·subst ey;obtain⟨z,hd,vs,rel,dd⟩:=uN I.bT e;refine call_meetsIn gu dd.typeIs kR (PySem.F.args_dict_get_2 _ _) (meets_dict_get (dk X.prog X.w) a (m5 ry) hd) ⟨_,dd.mapOf,h _ _ (I.tok _) ?_⟩;rw[l];exact(rel.val k).getD rfl
 ·subst ey;cases(show u=Value.ref b from ry);obtain⟨z,hd,xs,rel,dd⟩:=uM I.bT e;refine call_meetsIn gu dd.typeIs kR (PySem.F.args_dict_get_2 _ _) (meetsH_dict_get (tupleKind (dk X.prog X.w)) a b hd) ⟨tupleKind_room_in1 hu,k,xs,m3 I.bT eb,dd,h _ _ (I.tok _) ?_⟩;rw[l];exact(rel.val k).getD rfl
end
def RA(td ty:TE):TE:=fun σ H Q=>td σ H fun x H1=>∃a,x=.ref a/\S4 H1 a/\ty σ H1 fun y H2=>∃o,uY H2 a y o/\Q (o.getD .bA) H2
section
variable{X:Cx}{o e f:Expr}{apos cpos:Pos}{td ty tx:TE}
theorem OH(hu:X.A.units+1<cLine)(ho:PE X o td)(he:PE X e ty)(m:M1 X o "get" apos e cpos):PE X (.Call (.Attribute o "get" apos) [e] [] cpos) (RA td ty):=by
 intro pins s σ H Q I h;refine wpAny_Call_method m.base m.rF m.line kE gu PySem.F.type_dict_get (bR (ho pins s σ H _ I h) fun u s1 ⟨x,H1,I1,rx,a,ex,d,q1⟩=>?_);subst ex;obtain rfl:u=Value.ref a:=rx;obtain⟨t1,t2,_⟩:=Nd I1 d;refine⟨t1,t2,?_⟩;rw[m.trees];refine Calls.callWith_builtin rfl (Calls.evalArgs_plain (Calls.spliced_cons (bR (he pins s1 σ H1 _ I1 q1) fun iv s2 ⟨y,H2,I2,ry,ov,g,q2⟩=>Calls.spliced_nil ?_)));exact SI hu I2 g ry fun w' s3 I3 rw'=>⟨_,H2,I3,rw',q2⟩
end
section
variable{X:Cx}{pins:List (Addr×Obj)}{σ:St}{H:Hp}{s:Shared}{a:Addr}{kvs:List (Key×V)}{A:Around}{E:Value->Shared->Prop}
end
section
variable{X:Cx}{pins:List (Addr×Obj)}{σ:St}{H:Hp}{s:Shared}{a:Addr}{y:V}{u:Value}{A:Around}{E:Value->Shared->Prop}
end
end L2
namespace L2
open PySem PySem.Spec PyProof.Rows
section
variable{prog:Program}{w:World}{A:Around}{E:Value->Shared->Prop}
end
section
variable{X:Cx}
end
end L2
namespace L2
open PySem PySem.Spec PyProof.Rows
section
variable{X:Cx}{pins:List (Addr×Obj)}{σ:St}{H:Hp}{s:Shared}{h':Heap}
theorem Inv.Mb{t':Nat}{ch:List Addr}{T:Addr}{ob:HO}(I:Inv X pins σ H s)(k:∀b o,b∉ch->s.heap.get? b=some o->h'.get? b=some o)(hf:∀b∈ch,qW X pins H b)(hT:s.heap.objs.size<=T)
  (new:eS X.prog X.w (upd H T ob) h' T ob):Inv X pins σ (upd H T ob) {s with heap:=h',toks:=t'}:=by
 have hn:H T=none:=I.bT.fresh hT;have nit:∀b u,H b=some u->b∉ch:=fun b u e z=>by
  have q:=(hf b z).1;rw[q]at e;cases e
 refine I.step (g':=s.gens) (d':=s.drawn) (ch:=ch) (fun b hb=>⟨(hf b hb).2.2.2.1,(hf b hb).2.1,(hf b hb).2.2.2.2.1,(hf b hb).2.2.2.2.2⟩) (fun b o _ _ hc e _=>k b o hc e) (fun b o _ _ hc e _=>⟨o.slots,k b o hc e⟩)
  (fun b o _ e n=>?_) (fun b o hc e=>⟨o,k b o hc e⟩) (fun b xs e=>?_) (fun b o u e=>?_) (fun b ps e=>⟨#[],?_⟩) (fun m hm=>?_) (fun b u e=>?_) I.bare
 ·rw[dq (cU (bD (Heap.lt_size e) hT))];exact n
 ·rw[dq (fX e hn)];exact e
 ·rw[dq (fX e hn)];exact e
 ·rw[dq (fX e hn),e];simp
 ·obtain⟨o,es,ep,ho,r⟩:=hm;exact⟨o,es,ep,k _ o (fun z=>(hf _ z).2.1 rfl) ho,r⟩
 ·by_cases hb:b=T
  ·subst hb;rw[lC]at e;cases e;exact new
  ·rw[dq hb]at e;refine(I.bT b u e).Cd (fun c v hc q=>k c v ?_ q) (fun c q=>by rw[dq (fX q hn)];exact q) fun c xs q=>by rw[dq (fX q hn)];exact q
   rcases hc with z|z
   ·rw[z];exact nit b u e
   ·exact nit c _ z
end
section
variable{X:Cx}
theorem MI{tg:Expr}{pins:List (Addr×Obj)}{σ:St}{H:Hp}{s:Shared}{R:It->Hp->Prop}{J:It}{tn:Nat->Heap->Prop}{tk:Nat}(I:Inv X pins σ H s)(o:Obj)
  (T:Turn X.prog X.w X.K tg J [s.heap.objs.size] s.heap.objs.size tn) (st:tn 0 (s.heap.push o)) (q:R J H):S0 X pins σ tg R (.ref s.heap.objs.size) {s with heap:=s.heap.push o,toks:=tk}:=by
 refine⟨s.heap.objs.size,[s.heap.objs.size],tn,J,H,rfl,I.kept fun b ob e=>Heap.get?_push_of_some _ e,T,st,fun b hb=>?_,q⟩;have e:b=s.heap.objs.size:=by simpa using hb
 subst e;exact I.Hi (aD _) (I.bT.fresh (aD _))
end
section
variable{X:Cx}{tg:Expr}
end
section
variable{X:Cx}{tg:Expr}
end
def Ub(x:Str):It:=⟨fun i _=>i<x.cps.size,fun i H v H'=>H'=H/\∃c,x.cps[i]? =some c/\v=.str ⟨#[c]⟩,fun i _=>x.cps.size<=i⟩
theorem FW{P:Program}{w:World}{K:PySem.W.Frag}{tg:Expr}(it:Addr)(x:Str)(t:Tok)(ty:String)(hty:ty="str_ascii_iterator"\/ty="str_iterator"):
  Turn P w K tg (Ub x) [it] it (fun i h=>h.IsStrIter it ty x t i) where
 mem:=by simp
 obj:=fun i h st b hb=>by
  have e:b=it:=by simpa using hb
  subst e;obtain⟨o,e,c,d⟩:=st;exact⟨o,e,fun v z=>by rw[d]at z;cases z⟩
 keep:=fun i h h' st k=>let ⟨o,ho,r⟩:=st;⟨o,k it (by simp) o ho,r⟩
 item:=by
  intro X hP hw hK hc i pins s σ H E I hf st hg;subst hP hw hK;obtain⟨f0,f1,f2,f3,f4,f5⟩:=hf it (by simp);have W:Walks X.prog X.w X.A it [it] [it] x.cps.size (SignAt x) (fun i h=>h.IsStrIter it ty x t i):=by
   rcases hty with e|e
   ·rw[e];exact Walks.strAscii (I.ok.hd hc) it x t
   ·rw[e];exact Walks.strWide (I.ok.hd hc) it x t
  have hno:["enumerate","zip","dict_itemiterator","dict_reverseitemiterator","odict_iterator","itertools.zip_longest","itertools.pairwise"].contains ty=false:=by
   rcases hty with e|e
   ·rw[e];decide
   ·rw[e];decide
  refine W.item i s _ _ hg st fun v h' tk hv st' kk=>?_;obtain⟨c,u,hcx,rfl⟩:=hv;have I1:Inv X pins σ H {s with heap:=h',toks:=tk}:=I.turned (fun b o hb e=>kk b o (by simpa using hb) e) f0 f1 f3 f4 f5;obtain⟨oi,e,cc,dd⟩:=id st';exact⟨_,rfl,Lq (s:={s with heap:=h',toks:=tk}) e cc dd hno ⟨.str ⟨#[c]⟩,H,I1,⟨u,rfl⟩,⟨rfl,c,hcx,rfl⟩,st',fun b hb=>(hf b hb).1⟩⟩
 done:=by
  intro X hP hw hK hc i pins s σ H E I hf st hg;subst hP hw hK;obtain⟨f0,f1,f2,f3,f4,f5⟩:=hf it (by simp);have hx:x.cps[i]? =none:=Array.getElem?_eq_none hg
  rcases hty with e|e
  ·rw[e]at st;exact wpAny_pyNext_ascii_end (I.ok.hd hc) st hx fun h' eb=>⟨rfl,I.turned (t':=s.toks) (fun b o hb e=>eb b o hb e) f0 f1 f3 f4 f5⟩
  ·rw[e]at st;exact wpAny_pyNext_wide_end (I.ok.hd hc) st hx fun h' eb=>⟨rfl,I.turned (t':=s.toks) (fun b o hb e=>eb b o hb e) f0 f1 f3 f4 f5⟩
 self:=fun A i s Q E st h=>by
  rcases hty with e|e
  ·rw[e]at st;exact wpAny_pyIter_striter_ascii st h
  ·rw[e]at st;exact wpAny_pyIter_striter_wide st h
def UH(te:TE):TI:=fun σ H R=>te σ H fun v H1=>∃x,v=.str x/\R (Ub x) H1
theorem RT{X:Cx}{tg e:Expr}{te:TE}(he:PE X e te):PI X tg e (UH te):=by
 intro pins s σ H R I h;refine bR (he pins s σ H _ I h) fun v s1 ⟨y,H1,I1,r1,x,ex,q⟩=>?_;subst ex;obtain⟨t,rfl⟩:=r1;cases ha:x.cps.all (· <128)
 ·exact wpAny_pyIter_wide ha (MI (tk:=s1.toks) I1 _ (FW _ x t "str_iterator" (.inr rfl)) ⟨_,Heap.get?_push_size _ rfl,rfl,rfl⟩ q)
 ·exact wpAny_pyIter_ascii ha (MI (tk:=s1.toks) I1 _ (FW _ x t "str_ascii_iterator" (.inl rfl)) ⟨_,Heap.get?_push_size _ rfl,rfl,rfl⟩ q)
section
variable{prog:Program}{w:World}{A:Around}{E:Value->Shared->Prop}{s:Shared}
end
section
variable{X:Cx}{pins:List (Addr×Obj)}{σ:St}{H:Hp}{s:Shared}{d:Addr}{o:Obj}
end
section
variable{P:Program}{w:World}{K:PySem.W.Frag}{tg:Expr}{d:Addr}{o:Obj}{es:Array DictEntry}{ep:Nat}
end
section
variable{X:Cx}{tg e:Expr}{td:TE}{apos cpos:Pos}
end
def N5(K:PySem.W.Frag)(a:Addr):It:=
 ⟨fun i H=>∃(xs:List V)(x:V),bY K H a xs/\xs[i]? =some x,fun i H v H'=>∃T x,v=.ref T/\H T=none/\H'=upd H T (.tup [.int (i:Nat),x])/\∀xs,bY K H a xs->xs[i]? =some x,fun i H=>∃xs:List V,bY K H a xs/\xs.length<=i⟩
theorem Md{P:Program}{w:World}{K:PySem.W.Frag}{elts:List Expr}{kk:Nat}{tpos:Pos}(a e it:Addr):
  Turn P w K (.Tuple elts kk tpos) (N5 K a) [e,it] e (fun i h=>(∃old,IsEnum h e it ((i:Nat):Int) old)/\h.IsListIter it a i/\e≠it) where
 mem:=by simp
 obj:=fun i h st b hb=>by
  obtain⟨⟨old,he⟩,⟨o,ho,hc,hd⟩,_⟩:=st;have e':b=e\/b=it:=by simpa using hb
  rcases e' with z|z
  ·rw[z];exact⟨_,he,fun v q=>nomatch q⟩
  ·rw[z];exact⟨o,ho,fun v q=>by rw[hd]at q;cases q⟩
 keep:=fun i h h' st k=>let ⟨⟨old,he⟩,hi,hne⟩:=st;⟨⟨old,k e (by simp) _ he⟩,hi.at fun o q=>k it (by simp) o q,hne⟩
 item:=by
  intro X hP hw hK hc i pins s σ H E I hf st hg;subst hP hw hK;obtain⟨⟨old,he⟩,hit,hne⟩:=st;obtain⟨xs,x,hq,hx⟩:=hg;obtain⟨its,rv,p,hz⟩:=I.list hq;obtain⟨u,hu,ru⟩:=rv.get hx;have hel:e<s.heap.objs.size:=Heap.lt_size he;have hil:it<s.heap.objs.size:=by obtain⟨_,q,_⟩:=hit;exact Heap.lt_size q
  refine wpAny_pyNext_enum_item he hit p.isList (x:=u) (by simpa using hu) hne fun h' ho hit' hT hsz hk=>?_;refine⟨_,rfl,wpAny_letOwnedTupleGo_enum (s:={s with heap:=h',toks:=s.toks+1}) ho fun h'' he' sb=>?_⟩;have hT2:h''.get? s.heap.objs.size=some {cls:=.type "tuple",data:=.seq #[.int i s.toks,u]}:=(sb.2 _ (Nat.ne_of_gt hel)).trans hT;have new:eS X.prog X.w (upd H s.heap.objs.size (.tup [.int (i:Nat),x])) h'' s.heap.objs.size (.tup [.int (i:Nat),x]):=
   ⟨by show 2<=sizeLine;decide,[.int i s.toks,u],.cons ⟨_,rfl⟩ (.cons ru .nil),⟨_,hT2,rfl,_,rfl⟩⟩
  have I1:Inv X pins σ (upd H s.heap.objs.size (.tup [.int (i:Nat),x])) {s with heap:=h'',toks:=s.toks+1}:=
   I.Mb (ch:=[e,it]) (fun b ob hb q=>(sb.2 b (fun z=>hb (by simp[z]))).trans (hk b ob (fun z=>hb (by simp[z])) (fun z=>hb (by simp[z])) q)) hf (aD _) new
  refine⟨.ref s.heap.objs.size,_,I1,rfl,⟨_,x,rfl,I.bT.fresh (aD _),rfl,fun ys hy=>by rw[I.G4 hy hq];exact hx⟩,⟨⟨u,?_⟩,hit'.at fun o q=>(sb.2 it (jn hne)).trans q,hne⟩,fun b hb=>?_⟩
  ·have e1:((i+1:Nat):Int)=(i:Int)+1:=by omega
   rw[e1];exact he'
  ·have hb':b<s.heap.objs.size:=by
    have e':b=e\/b=it:=by simpa using hb
    rcases e' with z|z
    ·rw[z];exact hel
    ·rw[z];exact hil
   rw[dq (cU hb')];exact(hf b hb).1
 done:=by
  intro X hP hw hK hc i pins s σ H E I hf st hg;subst hP hw hK;obtain⟨⟨old,he⟩,hit,hne⟩:=st;obtain⟨xs,hq,hx⟩:=hg;obtain⟨its,rv,p,hz⟩:=I.list hq;obtain⟨f0,f1,f2,f3,f4,f5⟩:=hf it (by simp);have hl:=rv.length;exact wpAny_pyNext_enum_end (I.ok.hd hc) he hit p.isList (by simp;omega) fun h' eb=>⟨rfl,I.turned (t':=s.toks) (fun b o hb q=>eb b o hb q) f0 f1 f3 f4 f5⟩
 self:=fun A i s Q E st h=>let ⟨⟨_,he⟩,_⟩:=st;wpAny_pyIter_enum he h
def TM(K:PySem.W.Frag)(ta:TA):TI:=fun σ H R=>ta σ H fun vs H1=>∃a xs,vs=[.ref a]/\bY K H1 a xs/\R (N5 K a) H1
theorem sX{X:Cx}{e:Expr}{ta:TA}{p pos tpos:Pos}{elts:List Expr}{kk:Nat}(hg:Gl X "enumerate")(hm:X.mg "enumerate"=none)(ha:PA X [e] ta)(hs:starEach [e] X.env=[(false,eval e X.env)]:=by rfl):
  PI X (.Tuple elts kk tpos) (.Call (.Name "enumerate" p) [e] [] pos) (TM X.K ta):=by
 intro pins s σ H R I h;refine Call_ (Bg I hg hm boot_enumerate (iT (bR (ha pos pins s σ H _ I h) fun us s1 ⟨vs,H1,I1,r1,q1⟩=>?_) hs rfl));obtain⟨a,xs,ex,hq,q⟩:=q1;subst ex;cases r1 with
 |cons r rr=>
  cases rr;cases r;obtain⟨its,rv,p',hz⟩:=I1.list hq;refine call_enumerate_list p'.isList fun h' he hit hsz hk=>wpAny_pyIter_enum he ?_;have I2:Inv X pins σ H1 {s1 with heap:=h'}:=I1.kept (t':=s1.toks) hk;refine⟨s1.heap.objs.size+1,[s1.heap.objs.size+1,s1.heap.objs.size],_,_,H1,rfl,I2,Md a (s1.heap.objs.size+1) s1.heap.objs.size,⟨⟨.none,he⟩,hit,Nat.succ_ne_self _⟩,fun b hb=>?_,q⟩;have e':b=s1.heap.objs.size+1\/b=s1.heap.objs.size:=by simpa using hb
  have hle:s1.heap.objs.size<=b:=by
   rcases e' with z|z
   ·rw[z];exact Nat.le_add_right _ _
   ·rw[z];exact aD _
  exact I1.Hi hle (I1.bT.fresh hle)
end L2
section
namespace UW
open PySem PyProof.Rows
end UW
end
section
namespace TL
open PySem PySem.Builtin PySem.Builtin.Str PySem.StrLaws
end TL
end
namespace L2
open PySem PySem.Spec PyProof.Rows
theorem qg:∀{ys:List Str}{us:List Value},Vals (ys.map V.str) us->StrsAre us ys
 |[],_,.nil=>.nil
 |y::ys,_,.cons r t=>by
  obtain⟨k,rfl⟩:=r;exact .cons y k (qg t)
section
variable{X:Cx}{pins:List (Addr×Obj)}{σ:St}{H:Hp}{s:Shared}{Q:VK}
end
section
variable{X:Cx}
theorem QI:N2 X "str.join" (fun x xs H Q=>∃a p,∃ys:List Str,x=.str a/\xs=[.ref p]/\(bY X.K H p (ys.map V.str)\/iR X.K H p (ys.map V.str))/\
  (ys.map (·.length)).sum+ys.length*a.length<=16777216/\Q (.str (Txt.join a ys)) H):=by
 intro pins s σ H x xs v us Q I rx rs h;obtain⟨a,p,ys,rfl,rfl,hp,hz,h⟩:=h;obtain⟨t,rfl⟩:=rx;cases rs with
 |cons r1 rs=>
  cases rs;cases r1
  rcases hp with hp|hp
  ·obtain⟨its,r,⟨o,n,ho,hc,_,hd⟩,_⟩:=I.list hp;exact PyProof.Rows.join_list (items:=its.toArray) ⟨o,ho,hc,n,hd⟩ (by rw[List.toList_toArray];exact qg r) hz fun t' k=>⟨.str _,H,I.tok k,⟨t',rfl⟩,h⟩
  ·obtain⟨its,r,ht,_⟩:=I.tuple hp;exact PyProof.Rows.join_tuple (items:=its.toArray) ht (by rw[List.toList_toArray];exact qg r) hz fun t' k=>⟨.str _,H,I.tok k,⟨t',rfl⟩,h⟩
end
section
variable{X:Cx}{o e:Expr}{to te:TE}
def T3(r:V->List V->Hp->VK->Prop)(to te:TE):TE:=fun σ H Q=>to σ H fun x H1=>(∃a,x=.str a)/\te σ H1 fun y H2=>r x [y] H2 Q
theorem Tr{id:String}{name:Str}{apos pos:Pos}{r:V->List V->Hp->VK->Prop}(slot:Slot "str" name id)(ty:typeOf (.builtin id)=pure (.type "method_descriptor"))(rule:N2 X id r)(ho:PE X o to)(he:PE X e te)
  (hs:starEach [e] X.env=[(false,eval e X.env)]:=by rfl) (hbase:attributeBase o name X.env (eval o X.env)=eval o X.env:=by rfl) (hline:(apos.endLine==pos.line)=true:=by rfl):
  PE X (.Call (.Attribute o name apos) [e] [] pos) (T3 r to te):=by
 intro pins s σ H Q I h;refine PySem.Call_method1 hbase hs hline (bR (ho pins s σ H _ I h) fun v s1 ⟨x,H1,I1,r1,q1⟩=>?_);obtain⟨⟨a,rfl⟩,q1⟩:=q1;obtain⟨t,rfl⟩:=_root_.id r1;refine⟨"str",_,F.plainAttrs_str,slot,ty,typeIs_str _ _ _,(fun _ e=>nomatch e),Calls.callWith_builtin rfl (Calls.evalArgs_plain (Calls.spliced_cons ?_))⟩;exact bR (he pins s1 σ H1 _ I1 q1) fun u s2 ⟨y,H2,I2,r2,q2⟩=>Calls.spliced_nil (rule pins s2 σ H2 _ [y] _ [u] Q I2 r1 (.cons r2 .nil) q2)
theorem Qy{apos pos:Pos}(ho:PE X o to)(he:PE X e te)(hs:starEach [e] X.env=[(false,eval e X.env)]:=by rfl)(hbase:attributeBase o "join" X.env (eval o X.env)=eval o X.env:=by rfl)(hline:(apos.endLine==pos.line)=true:=by rfl):
  PE X (.Call (.Attribute o "join" apos) [e] [] pos) (T3 (fun x xs H Q=>∃a p,∃ys:List Str,x=.str a/\xs=[.ref p]/\(bY X.K H p (ys.map V.str)\/iR X.K H p (ys.map V.str))/\
   (ys.map (·.length)).sum+ys.length*a.length<=16777216/\Q (.str (Txt.join a ys)) H) to te):=
 Tr F.slot_str_join F.type_str_join QI ho he hs hbase hline
end
end L2
namespace L2
open PySem PySem.Spec PyProof.Rows
section
variable{X:Cx}
end
end L2
namespace U8
open PySem PySem.W PySem.Calls PyProof.Rows
section
variable{prog:Program}{w:World}{A:Around}{E:Value->Shared->Prop}{s:Shared}{K:Frag}
end
end U8
namespace L2
open PySem PySem.Spec PyProof.Rows
end L2
namespace L2
open PySem PySem.Spec PyProof.Rows
end L2
namespace L2
open PySem PySem.Spec PyProof.Rows
def inClass(s:Stmt)(j:Nat):Stmt:=match s with
 | .ClassDef _ _ _ body _ _ _ _ _ _ _=>body.getD j (.Pass ⟨0,0,0,0⟩)
 |_=>.Pass ⟨0,0,0,0⟩
def iM(s:Stmt):Arguments:=match s with
 | .FunctionDef _ a _ _ _ _ _ _ _ _=>a
 |_=>{posonlyargs:=[],args:=[],vararg:=none,kwonlyargs:=[],kw_defaults:=[],kwarg:=none,defaults:=[]}
def gz(s:Stmt):List Stmt:=match s with
 | .FunctionDef _ _ b _ _ _ _ _ _ _=>b
 |_=>[]
def aG(s:Stmt):Scope:=match s with
 | .FunctionDef _ _ _ _ _ _ sc _ _ _=>sc
 |_=>{kind:=.function,names:=[],isGenerator:=false,isCoroutine:=false}
abbrev xU:rZ:=fun _ _ _ _ _ _=>False
abbrev E0:XK:=fun _ _ _=>False
theorem FG{X:Cx}:Passes xU X E0:=fun _ _ _ _ _ _ _ h=>h.elim
structure EE(K:PySem.W.Frag)(x qual:Str)(st:Stmt)(f:Addr)(fd:FuncData):Prop where
 ex:∃(oc:Value)(od:Option Addr)(kV doc pm:Value)(an:Option Addr)(cdv ct:Value)(osl:Array (Option Value)),
  fd=PySem.W.fnOf x qual (iM st) (gz st) (aG st) .none kV doc pm an cdv ct/\K.lookup f=some ⟨oc,od,.func fd,osl⟩/\PySem.W.codeIn K cdv qual=true
 kp:PySem.W.keepIn K (.ref f)=true
section
variable{P:Program}{w:World}{K:PySem.W.Frag}{mg:Str->Option Value}{base:Heap}
theorem EE.ok{x qual:Str}{st:Stmt}{f:Addr}{fd:FuncData}{N ps:List Str}{k:Nat}{sp:Sp}(F:EE K x qual st f fd)(S:aR N ps (aG st))(len:∀vs H Q E,sp vs H Q E->vs.length=ps.length)
  (hbody:∀(cdv:Value)(A:Around)(outer:List Env)(s:Shared)(H:Hp)(vs:List V)(Q:VK)(E:XK),eO k (A.deeper (envOfC qual (aG st) s.heap.objs.size f cdv))->sp vs H Q E->
   ∃t,qU (xF xU P w K mg base N qual (aG st) f cdv A outer s H E).GK (gz st) t/\t {nx:=fun _ H'=>Q .bA H',rt:=Q} (start N vs) H):iF P w K mg base xU (k+1) f fd ps sp:=by
 obtain⟨oc,od,kV,doc,pm,an,cdv,ct,osl,rfl,lk,hcd⟩:=F.ex;refine PX lk hcd S len fun A outer s H vs Q E hr hsp=>?_;obtain⟨t,h,q⟩:=hbody cdv A outer s H vs Q E hr hsp;exact⟨t,h.GK,q⟩
theorem EE.binds{x qual:Str}{st:Stmt}{f:Addr}{fd:FuncData}{ps:List Str}(F:EE K x qual st f fd)
  (h:∀(kV doc pm:Value)(an:Option Addr)(cdv ct:Value)(us:List Value),us.length=ps.length->bindArgs (PySem.W.fnOf x qual (iM st) (gz st) (aG st) .none kV doc pm an cdv ct) ⟨us,[]⟩=pure (ps.zip us)):Binds K fd ps []:=by
 obtain⟨oc,od,kV,doc,pm,an,cdv,ct,osl,rfl,lk,hcd⟩:=F.ex;exact .all (h kV doc pm an cdv ct)
theorem Nl{x qual:Str}{st:Stmt}{f:Addr}{oc:Value}{od an:Option Addr}{osl:Array (Option Value)}{kV doc pm cdv ct:Value}(l:K.lookup f=some ⟨oc,od,.func (PySem.W.fnOf x qual (iM st) (gz st) (aG st) .none kV doc pm an cdv ct),osl⟩)
  (c:PySem.W.codeIn K cdv qual=true) (k:PySem.W.keepIn K (.ref f)=true):EE K x qual st f (PySem.W.fnOf x qual (iM st) (gz st) (aG st) .none kV doc pm an cdv ct):=⟨⟨oc,od,kV,doc,pm,an,cdv,ct,osl,rfl,l,c⟩,k⟩
end
theorem gx{A:Around}{k:Nat}(hr:eO k A):A.units+1<cLine:=Nat.lt_of_le_of_lt (Nat.add_le_add_left (by decide:1<=64) _) hr.units
section
variable{X:Cx}
theorem pv(i:Nat){x:Str}{pos:Pos}(hN:X.N[i]? =some x:=by rfl)(hv:Kf X.env.scope x:=by first|exact Or.inl rfl|exact Or.inr (Or.inl rfl)|exact Or.inr (Or.inr rfl))(hd:(x==("__debug__":Str))=false:=by decide)
  (hcd:(x==("__classdict__":Str))=false:=by decide):PE X (.Name x pos) (qe i):=RU hN hv hd hcd
end
theorem Ll{A B:Prop}(h:B):if false=true then A else B:=by
 rw[af aE];exact h
theorem UG{A B:Prop}(h:A):if true=true then A else B:=by
 rw[ai rfl];exact h
theorem js{c A B:Prop}[Decidable c](h1:c->A)(h2:¬c->B):if c then A else B:=by
 by_cases h:c
 ·rw[ai h];exact h1 h
 ·rw[af h];exact h2 h
section
variable{κ:Type}[DecidableEq κ]
end
theorem Tw{α:Type}{l:List α}(hN:l.Nodup){i j:Nat}{x:α}(a:l[i]? =some x)(b:l[j]? =some x):i=j:=by
 obtain⟨h1,e1⟩:=az.mp a;obtain⟨h2,e2⟩:=az.mp b;exact(List.getElem_inj hN).mp (e1.trans e2.symm)
end L2
section
namespace L2
open PySem PySem.Spec PyProof.Rows
open PySem.W (WData Codec OpenSpec Well WellAll ReadsW ReadsAllW)
mutual
inductive Dw(K:PySem.W.Frag)(H:Hp):V->WData->Prop
 |bA:Dw K H .bA .none
 |bl (b:Bool):Dw K H (.bl b) (.bool b)
 |int (i:Int):Dw K H (.int i) (.int i)
 |str (x:Str):Dw K H (.str x) (.str x)
 |nj (b:Array UInt8):Dw K H (.nj b) (.bytes b.toList)
 |lst {a:Addr} {xs:List V} {ds:List WData}:bY K H a xs->lr K H xs ds->Dw K H (.ref a) (.list ds)
 |tup {a:Addr} {xs:List V} {ds:List WData}:iR K H a xs->lr K H xs ds->Dw K H (.ref a) (.tuple ds)
inductive lr(K:PySem.W.Frag)(H:Hp):List V->List WData->Prop
 |nil:lr K H [] []
 |cons {v:V} {vs:List V} {d:WData} {ds:List WData}:Dw K H v d->lr K H vs ds->lr K H (v::vs) (d::ds)
end
theorem J5{K:PySem.W.Frag}{H:Hp}:∀ns:List Int,lr K H (ns.map V.int) (ns.map WData.int)
 |[]=>.nil
 |n::r=>.cons (.int n) (J5 r)
theorem JO{K:PySem.W.Frag}{H:Hp}:∀(ns:List Int)(xs:List V),lr K H xs (ns.map WData.int)->xs=ns.map V.int
 |[],xs,h=>by
  cases h;rfl
 |n::r,xs,h=>by
  cases h with
  |cons h1 h2=>
   cases h1;rw[JO r _ h2]<;>rfl
section
variable{P:Program}{w:World}{K:PySem.W.Frag}{H:Hp}{h:Heap}{R:PySem.W.WRecords}{cl:Str->Option Addr}
theorem RG{a:Addr}{xs:List V}(bT:gm P w H h)(KX:K.In h)(q:bY K H a xs):∃(its:List Value)(o:Obj)(n:Nat),Vals xs its/\h.get? a=some o/\o.cls=.type "list"/\o.data=.seq its.toArray n:=by
 rcases q with q|⟨o,its,n,e,hc,_,hd,_,hv⟩
 ·obtain⟨_,its,n,hv,e⟩:=(show eS P w H h a (.lst xs)from q.ok bT);exact⟨its,_,n,hv,e,rfl,rfl⟩
 ·exact⟨its.toList,o,n,hv,KX _ _ e,hc,by simp[hd]⟩
theorem RF{a:Addr}{xs:List V}(bT:gm P w H h)(KX:K.In h)(q:iR K H a xs):∃(its:List Value)(o:Obj)(n:Nat),Vals xs its/\h.get? a=some o/\o.cls=.type "tuple"/\o.data=.seq its.toArray n:=by
 rcases q with q|⟨o,its,n,e,hc,hd,_,hv⟩
 ·obtain⟨_,its,hv,o,e,hc,n,hd⟩:=(show eS P w H h a (.tup xs)from q.ok bT);exact⟨its,o,n,hv,e,hc,hd⟩
 ·exact⟨its.toList,o,n,hv,KX _ _ e,hc,by simp[hd]⟩
mutual
theorem Dw.reads(bT:gm P w H h)(KX:K.In h):∀(d:WData)(v:V)(u:Value),Dw K H v d->RelV v u->∃as,ReadsW R cl h u d as
 | .none,_,_,x,r=>by
  cases x;cases r;exact⟨_,ReadsW.none⟩
 | .bool b,_,_,x,r=>by
  cases x;cases r;exact⟨_,ReadsW.bool b⟩
 | .int i,_,_,x,r=>by
  cases x;obtain⟨t,rfl⟩:=r;exact⟨_,ReadsW.int i t⟩
 | .str s,_,_,x,r=>by
  cases x;obtain⟨t,rfl⟩:=r;exact⟨_,ReadsW.str s t⟩
 | .bytes b,_,_,x,r=>by
  cases x;obtain⟨t,rfl⟩:=r;exact⟨_,ReadsW.bytes _ t⟩
 | .list ds,_,_,x,r=>by
  cases x with
  |lst hs ha=>
   cases r;obtain⟨its,o,n,rv,ho,hc,hd⟩:=RG bT KX hs;obtain⟨as,hr⟩:=Dw.readsAll bT KX ds _ its ha rv;exact⟨_,ReadsW.list ho hc hd hr⟩
 | .tuple ds,_,_,x,r=>by
  cases x with
  |tup hs ha=>
   cases r;obtain⟨its,o,n,rv,ho,hc,hd⟩:=RF bT KX hs;obtain⟨as,hr⟩:=Dw.readsAll bT KX ds _ its ha rv;exact⟨_,ReadsW.tuple ho hc hd hr⟩
 | .float _,_,_,x,_=>by cases x
 | .dict _,_,_,x,_=>by cases x
 | .bytearray _,_,_,x,_=>by cases x
 | .set _,_,_,x,_=>by cases x
 | .frozenset _,_,_,x,_=>by cases x
 | .obj _ _,_,_,x,_=>by cases x
theorem Dw.readsAll(bT:gm P w H h)(KX:K.In h):∀(ds:List WData)(vs:List V)(us:List Value),lr K H vs ds->Vals vs us->∃as,ReadsAllW R cl h us ds as
 |[],_,_,x,r=>by
  cases x;cases r;exact⟨_,ReadsAllW.nil⟩
 |d::ds,_,_,x,r=>by
  cases x with
  |cons h1 h2=>
   cases r with
   |cons r1 r2=>
    obtain⟨as,q1⟩:=Dw.reads bT KX d _ _ h1 r1;obtain⟨bs,q2⟩:=Dw.readsAll bT KX ds _ _ h2 r2;exact⟨_,ReadsAllW.cons q1 q2⟩
end
end
mutual
def rj:WData->Bool
 | .none=>true
 | .bool _=>true
 | .int _=>true
 | .str _=>true
 | .bytes _=>true
 | .list xs=>px xs
 | .tuple xs=>px xs
 |_=>false
def px:List WData->Bool
 |[]=>true
 |x::r=>rj x&&px r
end
theorem Gu{α:Type}{f:α->WData}(h:∀a,rj (f a)=true):∀l:List α,px (l.map f)=true
 |[]=>rfl
 |x::r=>by
  show(rj (f x)&&px (r.map f))=true;rw[h x,Gu h r]<;>rfl
theorem oT:∀(c:Codec)(a:c.denote),rj (c.enc a)=true
 | .unit,_=>rfl
 | .bool,_=>rfl
 | .int _ _,_=>rfl
 | .nat _ _,_=>rfl
 | .u8,_=>rfl
 | .bytes _ _,_=>rfl
 | .text _ _ _ _,_=>rfl
 | .list _ _ c,a=>Gu (fun x=>oT c x) a
 | .pair c d,a=>by
  show(rj (c.enc a.1)&&(rj (d.enc a.2)&&true))=true;rw[oT c a.1,oT d a.2]<;>rfl
 | .triple c d e,a=>by
  show(rj (c.enc a.1)&&(rj (d.enc a.2.1)&&(rj (e.enc a.2.2)&&true)))=true;rw[oT c a.1,oT d a.2.1,oT e a.2.2]<;>rfl
 | .option c,none=>rfl
 | .option c,some x=>oT c x
theorem DQ:∀(cs:List Codec)(a:Codec.denoteAll cs),px (Codec.encAll cs a)=true
 |[],_=>rfl
 |c::cs,a=>by
  show(rj (c.enc a.1)&&px (Codec.encAll cs a.2))=true;rw[oT c a.1,DQ cs a.2]<;>rfl
theorem t5:∀{xs:List WData}{d:WData},d∈xs->d.weight<=WData.weightAll xs
 |[],d,h=>absurd h (by simp)
 |x::r,d,h=>by
  show d.weight<=x.weight+1+WData.weightAll r
  rcases aT.mp h with e|m
  ·rw[e];omega
  ·have z:=t5 m;omega
def toV:Value->V
 | .none=>.bA
 | .bool b=>.bl b
 | .int i _=>.int i
 | .str x _=>.str x
 | .bytes b _=>.nj b
 | .ref a=>.ref a
 |_=>.bA
def tU(A:List Addr):Value->Prop
 | .none=>True
 | .bool _=>True
 | .int _ _=>True
 | .str _ _=>True
 | .bytes _ _=>True
 | .ref a=>a∈A
 |_=>False
theorem tU.mono{A B:List Addr}(h:∀a∈A,a∈B):∀{u:Value},tU A u->tU B u:=fun{u} x=>by
 cases u with
 |ref a=>exact h a x
 |none=>trivial
 |bool b=>trivial
 |int i t=>trivial
 |str s t=>trivial
 |bytes b t=>trivial
 |_=>exact False.elim x
theorem Oy{A:List Addr}{u:Value}(x:tU A u):RelV (toV u) u:=by
 cases u with
 |ref a=>rfl
 |none=>rfl
 |bool b=>rfl
 |int i t=>exact⟨t,rfl⟩
 |str s t=>exact⟨t,rfl⟩
 |bytes b t=>exact⟨t,rfl⟩
 |_=>exact False.elim x
theorem nE{A:List Addr}:∀{vs:List Value},(∀u∈vs,tU A u)->Vals (vs.map toV) vs
 |[],_=>.nil
 |u::r,h=>.cons (Oy (h u (aA ..))) (nE fun x hx=>h x (ah _ hx))
def lu(h:Heap)(A:List Addr)(a:Addr):Prop:=∃vs:List Value,vs.length<=sizeLine/\(∀u∈vs,tU A u)/\
 (h.get? a=some {cls:=.type "list",data:=.seq vs.toArray}\/h.get? a=some {cls:=.type "tuple",data:=.seq vs.toArray})
theorem lu.mono{h:Heap}{A B:List Addr}{a:Addr}(k:∀a∈A,a∈B)(x:lu h A a):lu h B a:=by
 obtain⟨vs,h1,h2,h3⟩:=x;exact⟨vs,h1,fun u hu=>(h2 u hu).mono k,h3⟩
theorem oz{P:Params}{h:Heap}:∀{vs:List Value}{ds:List WData},WellAll P h vs ds->vs.length=ds.length
 |_,_,.nil=>rfl
 |_,_,.cons _ b=>by
  show _+1=_+1;rw[oz b]
theorem DA{P:Params}{h:Heap}{v:Value}{ds:List WData}(x:Well P h v (.list ds)):∃(a:Addr)(vs:List Value),v=.ref a/\h.get? a=some {cls:=.type "list",data:=.seq vs.toArray}/\WellAll P h vs ds:=by
 cases x with
 |list ho hall=>exact⟨_,_,rfl,ho,hall⟩
theorem Aj{P:Params}{h:Heap}{v:Value}{ds:List WData}(x:Well P h v (.tuple ds)):∃(a:Addr)(vs:List Value),v=.ref a/\h.get? a=some {cls:=.type "tuple",data:=.seq vs.toArray}/\WellAll P h vs ds:=by
 cases x with
 |tuple ho hall=>exact⟨_,_,rfl,ho,hall⟩
theorem DB{P:Params}{h:Heap}{us:List Value}{d:WData}{ds:List WData}(x:WellAll P h us (d::ds)):∃(v:Value)(vs:List Value),us=v::vs/\Well P h v d/\WellAll P h vs ds:=by
 cases x with
 |cons a b=>exact⟨_,_,rfl,a,b⟩
theorem JH{n:Nat}(h:n<=1048576):n<=sizeLine:=ck h (by decide)
section
variable{P:Params}{h:Heap}
mutual
theorem Px:∀(d:WData)(v:Value),Well P h v d->rj d=true->d.weight<=1048576->∃A:List Addr,tU A v/\∀a∈A,lu h A a
 | .none,_,x,_,_=>by
  cases x;exact⟨[],trivial,fun a m=>absurd m (by simp)⟩
 | .bool b,_,x,_,_=>by
  cases x;exact⟨[],trivial,fun a m=>absurd m (by simp)⟩
 | .int i,_,x,_,_=>by
  cases x;exact⟨[],trivial,fun a m=>absurd m (by simp)⟩
 | .str s,_,x,_,_=>by
  cases x;exact⟨[],trivial,fun a m=>absurd m (by simp)⟩
 | .bytes b,_,x,_,_=>by
  cases x;exact⟨[],trivial,fun a m=>absurd m (by simp)⟩
 | .list ds,_,x,p,z=>by
  obtain⟨a,vs,rfl,ho,hall⟩:=DA x;have z2:WData.weightAll ds<=1048576:=z;obtain⟨A,h1,h2⟩:=uU ds _ hall p fun d hd=>ck (t5 hd) z2;have k:∀b∈A,b∈a::A:=fun b hb=>ah _ hb;refine⟨a::A,aA ..,fun b hb=>?_⟩
  rcases aT.mp hb with e|m
  ·rw[e];exact⟨vs,JH (by rw[oz hall];exact ck (PySem.W.length_le_weightAllW ds) z2),fun u hu=>(h1 u hu).mono k,.inl ho⟩
  ·exact(h2 b m).mono k
 | .tuple ds,_,x,p,z=>by
  obtain⟨a,vs,rfl,ho,hall⟩:=Aj x;have z2:WData.weightAll ds<=1048576:=z;obtain⟨A,h1,h2⟩:=uU ds _ hall p fun d hd=>ck (t5 hd) z2;have k:∀b∈A,b∈a::A:=fun b hb=>ah _ hb;refine⟨a::A,aA ..,fun b hb=>?_⟩
  rcases aT.mp hb with e|m
  ·rw[e];exact⟨vs,JH (by rw[oz hall];exact ck (PySem.W.length_le_weightAllW ds) z2),fun u hu=>(h1 u hu).mono k,.inr ho⟩
  ·exact(h2 b m).mono k
 | .float _,_,_,p,_=>Bool.noConfusion (show false=true from p)
 | .dict _,_,_,p,_=>Bool.noConfusion (show false=true from p)
 | .bytearray _,_,_,p,_=>Bool.noConfusion (show false=true from p)
 | .set _,_,_,p,_=>Bool.noConfusion (show false=true from p)
 | .frozenset _,_,_,p,_=>Bool.noConfusion (show false=true from p)
 | .obj _ _,_,_,p,_=>Bool.noConfusion (show false=true from p)
theorem uU:∀(ds:List WData)(vs:List Value),WellAll P h vs ds->px ds=true->(∀d∈ds,d.weight<=1048576)->∃A:List Addr,(∀u∈vs,tU A u)/\∀a∈A,lu h A a
 |[],_,x,_,_=>by
  cases x;exact⟨[],fun u m=>absurd m (by simp),fun a m=>absurd m (by simp)⟩
 |d::ds,_,x,p,z=>by
  obtain⟨v,vs,rfl,x1,x2⟩:=DB x;have q:rj d=true/\px ds=true:=Bool.and_eq_true_iff.mp p;obtain⟨A,a1,a2⟩:=Px d v x1 q.1 (z d (aA ..));obtain⟨B,b1,b2⟩:=uU ds vs x2 q.2 fun e he=>z e (ah _ he);have kA:∀b∈A,b∈A++B:=fun b hb=>bU.mpr (.inl hb);have kB:∀b∈B,b∈A++B:=fun b hb=>bU.mpr (.inr hb);refine⟨A++B,fun u hu=>?_,fun b hb=>?_⟩
  ·rcases aT.mp hu with e|m
   ·rw[e];exact a1.mono kA
   ·exact(b1 u m).mono kB
  ·rcases bU.mp hb with m|m
   ·exact(a2 b m).mono kA
   ·exact(b2 b m).mono kB
end
end
def Lo(o:Obj):Option HO:=match o.data with
 | .seq vs _=>if(o.cls==Value.type "list")=true then some (.m7 o (.lst (vs.toList.map toV)))else some (.m7 o (.tup (vs.toList.map toV)))
 |_=>none
def jh(K:PySem.W.Frag)(h:Heap)(A:List Addr):Hp:=fun b=>if b∈A then(if(K.lookup b).isNone=true then(h.get? b).bind Lo else none)else none
def B5(H:Hp):Prop:=∀b,H b=none\/∃o u,H b=some (.m7 o u)
theorem Ha(vs:List Value):Lo {cls:=.type "list",data:=.seq vs.toArray}=some (.m7 {cls:=.type "list",data:=.seq vs.toArray} (.lst (vs.map toV))):=by
 show(if(Value.type "list"==Value.type "list")=true then some (HO.m7 {cls:=.type "list",data:=.seq vs.toArray} (.lst (vs.toArray.toList.map toV)))else some (HO.m7 {cls:=.type "list",data:=.seq vs.toArray} (.tup (vs.toArray.toList.map toV))))=_;rw[ai (beq_self_eq_true _)]
theorem G9(vs:List Value):Lo {cls:=.type "tuple",data:=.seq vs.toArray}=some (.m7 {cls:=.type "tuple",data:=.seq vs.toArray} (.tup (vs.map toV))):=by
 show(if(Value.type "tuple"==Value.type "list")=true then some (HO.m7 {cls:=.type "tuple",data:=.seq vs.toArray} (.lst (vs.toArray.toList.map toV)))else some (HO.m7 {cls:=.type "tuple",data:=.seq vs.toArray} (.tup (vs.toArray.toList.map toV))))=_;rw[af (by decide)]
section
variable{P:Program}{w:World}{K:PySem.W.Frag}{h:Heap}{A:List Addr}
theorem yd{b:Addr}{o:Obj}(hb:b∈A)(hk:K.lookup b=none)(e:h.get? b=some o):jh K h A b=Lo o:=by
 unfold jh;rw[ai hb,hk,ai (show(none:Option Obj).isNone=true from rfl),e]<;>rfl
theorem QG{b:Addr}{u:HO}(q:jh K h A b=some u):b∈A/\K.lookup b=none:=by
 unfold jh at q;by_cases hb:b∈A
 ·rw[ai hb]at q;cases hk:K.lookup b with
  |none=>exact⟨hb,rfl⟩
  |some o=>
   rw[hk,af (by simp)]at q;cases q
 ·rw[af hb]at q;cases q
theorem yc(ar:∀a∈A,lu h A a){b:Addr}{u:HO}(q:jh K h A b=some u):K.lookup b=none/\∃vs:List Value,vs.length<=sizeLine/\(∀u∈vs,tU A u)/\
    ((h.get? b=some {cls:=.type "list",data:=.seq vs.toArray}/\u=.m7 {cls:=.type "list",data:=.seq vs.toArray} (.lst (vs.map toV)))\/
     (h.get? b=some {cls:=.type "tuple",data:=.seq vs.toArray}/\u=.m7 {cls:=.type "tuple",data:=.seq vs.toArray} (.tup (vs.map toV)))):=by
  obtain⟨hb,hk⟩:=QG q
  obtain⟨vs,h1,h2,h3⟩:=ar b hb
  refine⟨hk,vs,h1,h2,?_⟩
  rcases h3 with e|e
  · rw[yd hb hk e,Ha]at q
    exact .inl ⟨e,(bG q).symm⟩
  · rw[yd hb hk e,G9]at q
    exact .inr ⟨e,(bG q).symm⟩
theorem NZ(ar:∀a∈A,lu h A a):B5 (jh K h A):=fun b=>by
 cases q:jh K h A b with
 |none=>exact .inl rfl
 |some u=>
  obtain⟨_,vs,_,_,⟨_,e⟩|⟨_,e⟩⟩:=yc ar q
  ·exact .inr ⟨_,_,by rw[e]⟩
  ·exact .inr ⟨_,_,by rw[e]⟩
theorem Rh(ar:∀a∈A,lu h A a):gm P w (jh K h A) h:=fun b u q=>by
 obtain⟨_,vs,h1,h2,⟨e,rfl⟩|⟨e,rfl⟩⟩:=yc ar q
 ·exact⟨e,by rw[aP];exact h1,vs,_,nE h2,e⟩
 ·exact⟨e,by rw[aP];exact h1,vs,nE h2,_,e,rfl,_,rfl⟩
theorem xV{c c':Value}{vs us:List Value}(e:(some {cls:=c,data:=.seq vs.toArray}:Option Obj)=some {cls:=c',data:=.seq us.toArray}):c=c'/\vs=us:=by
 have e1:=bG e;have e2:c=c':=congrArg Obj.cls e1;have e3:Data.seq vs.toArray=Data.seq us.toArray:=congrArg Obj.data e1;injection e3 with e4
 refine⟨e2,?_⟩;have e5:=congrArg Array.toList e4;simpa using e5
theorem UR(KX:K.In h)(ar:∀a∈A,lu h A a){a:Addr}{vs:List Value}(ha:a∈A)(e:h.get? a=some {cls:=.type "list",data:=.seq vs.toArray}):(∀u∈vs,tU A u)/\bY K (jh K h A) a (vs.map toV):=by
 obtain⟨us,h1,h2,h3⟩:=ar a ha;have hu:us=vs:=by
  rcases h3 with q|q
  ·rw[e]at q;exact(xV q).2.symm
  ·rw[e]at q;exact absurd (Value.type.inj (xV q).1) (by decide)
 subst hu;refine⟨h2,?_⟩;cases hk:K.lookup a with
 |none=>exact .inl (.inr ⟨_,by rw[yd ha hk e,Ha]⟩)
 |some o=>
  have e2:=KX a o hk;rw[e]at e2;obtain rfl:=bG e2;exact .inr ⟨_,us.toArray,_,hk,rfl,rfl,rfl,by rw[bf];exact h1,by simpa using nE h2⟩
theorem UQ(KX:K.In h)(ar:∀a∈A,lu h A a){a:Addr}{vs:List Value}(ha:a∈A)(e:h.get? a=some {cls:=.type "tuple",data:=.seq vs.toArray}):(∀u∈vs,tU A u)/\iR K (jh K h A) a (vs.map toV):=by
 obtain⟨us,h1,h2,h3⟩:=ar a ha;have hu:us=vs:=by
  rcases h3 with q|q
  ·rw[e]at q;exact absurd (Value.type.inj (xV q).1) (by decide)
  ·rw[e]at q;exact(xV q).2.symm
 subst hu;refine⟨h2,?_⟩;cases hk:K.lookup a with
 |none=>exact .inl (.inr ⟨_,by rw[yd ha hk e,G9]⟩)
 |some o=>
  have e2:=KX a o hk;rw[e]at e2;obtain rfl:=bG e2;exact .inr ⟨_,us.toArray,_,hk,rfl,rfl,by rw[bf];exact h1,by simpa using nE h2⟩
mutual
theorem SF{Pm:Params}(KX:K.In h)(ar:∀a∈A,lu h A a):∀(d:WData)(v:Value),Well Pm h v d->rj d=true->tU A v->Dw K (jh K h A) (toV v) d
 | .none,_,x,_,_=>by
  cases x;exact .bA
 | .bool b,_,x,_,_=>by
  cases x;exact .bl b
 | .int i,_,x,_,_=>by
  cases x;exact .int i
 | .str s,_,x,_,_=>by
  cases x;exact .str s
 | .bytes b,_,x,_,_=>by
  cases x;have z:=Dw.nj (K:=K) (H:=jh K h A) b.toArray;exact z
 | .list ds,_,x,p,hu=>by
  obtain⟨a,vs,rfl,ho,hall⟩:=DA x;obtain⟨h2,hs⟩:=UR KX ar hu ho;exact .lst hs (BF KX ar ds _ hall p h2)
 | .tuple ds,_,x,p,hu=>by
  obtain⟨a,vs,rfl,ho,hall⟩:=Aj x;obtain⟨h2,hs⟩:=UQ KX ar hu ho;exact .tup hs (BF KX ar ds _ hall p h2)
 | .float _,_,_,p,_=>Bool.noConfusion (show false=true from p)
 | .dict _,_,_,p,_=>Bool.noConfusion (show false=true from p)
 | .bytearray _,_,_,p,_=>Bool.noConfusion (show false=true from p)
 | .set _,_,_,p,_=>Bool.noConfusion (show false=true from p)
 | .frozenset _,_,_,p,_=>Bool.noConfusion (show false=true from p)
 | .obj _ _,_,_,p,_=>Bool.noConfusion (show false=true from p)
theorem BF{Pm:Params}(KX:K.In h)(ar:∀a∈A,lu h A a):∀(ds:List WData)(vs:List Value),WellAll Pm h vs ds->px ds=true->(∀u∈vs,tU A u)->lr K (jh K h A) (vs.map toV) ds
 |[],_,x,_,_=>by
  cases x;exact .nil
 |d::ds,_,x,p,hu=>by
  obtain⟨v,vs,rfl,x1,x2⟩:=DB x;have q:rj d=true/\px ds=true:=Bool.and_eq_true_iff.mp p;exact .cons (SF KX ar d v x1 q.1 (hu _ (aA ..))) (BF KX ar ds vs x2 q.2 fun u m=>hu u (ah _ m))
end
end
theorem Mo{P:Program}{w:World}{K:PySem.W.Frag}{mg mb:Str->Option Value}{CX:rZ}{k:Nat}{fa:Addr}{fd:FuncData}{ps:List Str}{sp:Sp}{s₁:Shared}{vals:List Value}{ds:List WData}{R:PySem.W.WRecords}{cl:Str->Option Addr}{d0:WData}
  (KX:K.In s₁.heap) (hns:s₁.heap.Ns mainGlobals mg) (hb:s₁.heap.Ns builtinsNs mb) (hbb:∀x:Str,x≠"__name__"->mb x=bootBuiltins x) (hlim:s₁.heap.NoLimit) (hg:s₁.gens= #[])
  (hwl:WellAll w.params s₁.heap vals ds) (hpl:px ds=true) (hwt:∀d∈ds,d.weight<=1048576) (hr:eO k callerA)
  (F:∀base:Heap,K.In base->base.Ns mainGlobals mg->iF P w K mg base CX k fa fd ps sp) (hbind:∀(s:Shared)(us:List Value),us.length=ps.length->BindsTo s fd ⟨us,[]⟩ (ps.zip us)) (hlen:ds.length=ps.length)
  (hsp:∀(H:Hp)(xs:List V),B5 H->lr K H xs ds->sp xs H (fun v H'=>Dw K H' v d0) fun _ _ _=>False)
  (hCX:∀H e s',CX [] H s₁ (fun _ _ _=>False) e s'->False):
  codeAny (model P w) callerA (.call (.ref fa) ⟨vals,[]⟩) (fun r s'=>∃u as,r=.ok (.ret u)/\ReadsW R cl s'.heap u d0 as/\OldK s₁.heap s'.heap/\s'.os=s₁.os/\AllBare s'.gens) s₁:=by
 obtain⟨A,ho,ar⟩:=uU ds vals hwl hpl hwt;have hO:B5 (jh K s₁.heap A):=NZ ar;have bT:gm P w (jh K s₁.heap A) s₁.heap:=Rh ar;have hS:=BF KX ar ds vals hwl hpl ho;have hV:=nE ho;have hK:∀b u,jh K s₁.heap A b=some u->K.lookup b=none:=fun b u q=>(yc ar q).1;have noA:∀{b:Addr}{o:Obj}{es:Array DictEntry}{ep:Nat},s₁.heap.get? b=some o->o.data=.dict es ep->jh K s₁.heap A b=none:=fun{b o es ep} e d=>by
  cases q:jh K s₁.heap A b with
  |none=>rfl
  |some u=>
   obtain⟨_,vs,_,_,⟨e2,_⟩|⟨e2,_⟩⟩:=yc ar q
   ·rw[e2]at e;cases e;have d':Data.seq vs.toArray _=Data.dict es ep:=d;cases d'
   ·rw[e2]at e;cases e;have d':Data.seq vs.toArray _=Data.dict es ep:=d;cases d'
 generalize jh K s₁.heap A=H at hO bT hS hK noA;have base_of:∀{b:Addr}{o:Obj},s₁.heap.get? b=some o->H b=none->(uF s₁.heap H).get? b=some o:=fun e n=>O5 e n;have nsK:∀{b:Addr}{m:Str->Option Value},s₁.heap.Ns b m->(uF s₁.heap H).Ns b m:=fun{b m} ⟨o,es,ep,e,d,r⟩=>⟨o,es,ep,base_of e (noA e d),d,r⟩;have nK:∀b o,K.lookup b=some o->H b=none:=fun b o e=>by
  cases q:H b with
  |none=>rfl
  |some u=>
   rw[hK b u q]at e;cases e
 have hKb:K.In (uF s₁.heap H):=fun b o e=>base_of (KX b o e) (nK b o e);have hM:Mod K mg (uF s₁.heap H):=⟨hKb,nsK hns,⟨mb,nsK hb,hbb⟩,let ⟨mc,h1,h2⟩:=hlim;⟨mc,nsK h1,h2⟩⟩;have e0:Ah P w K mg (uF s₁.heap H) callerA [] s₁ H:=⟨rfl,hM,fun b o e=>QF e,Nat.le_of_eq (Ng _ _),trivial,fun b hb=>absurd (show b∈([]:List Addr)from hb) (by simp),bT,.of_eq hg⟩;have hl:vals.length=ps.length:=by rw[oz hwl];exact hlen
 refine codeAny_mono ((F _ hKb (nsK hns)).run callerA [] s₁ H ⟨vals,[]⟩ vals (vals.map toV) _ _ hr e0 (hbind s₁ vals hl) hV (hsp H _ hO hS)) fun r s' x=>?_;cases r with
 |error e=>exact(hCX H e s' x).elim
 |ok fl=>
  cases fl with
  |next=>exact False.elim x
  |brk=>exact False.elim x
  |cont=>exact False.elim x
  |ret u=>
   obtain⟨v,H',os,bare,un,hok',r',q⟩:=x;have kept:∀b o,s₁.heap.get? b=some o->s'.heap.get? b=some o:=fun b o e=>by
    cases q2:H b with
    |none=>exact un.keep b o e q2 (by intro z;exact absurd (show b∈([]:List Addr)from z) (by simp)) (by simp)
    |some u2=>
     rcases hO b with z|⟨ob,u3,z⟩
     ·rw[q2]at z;cases z
     ·have z2:=un.uH b ob _ z;obtain⟨e1,_⟩:=bT b _ z;obtain⟨e2,_⟩:=hok' b _ z2;rw[e]at e1;cases e1;exact e2
   have KX':K.In s'.heap:=fun b o e=>kept b o (KX b o e);obtain⟨as,hrd⟩:=Dw.reads (R:=R) (cl:=cl) hok' KX' d0 v u q r';exact⟨u,as,rfl,hrd,OldK.of_keep kept,os,bare⟩
theorem C7{ds:List WData}(h:WData.layableAll ds=true):∀d∈ds,d.weight<=1048576:=fun d hd=>
 (PySem.W.layableW_iff.mp (fN.mp h d hd)).2.2
theorem BA:∀(cs:List Codec)(a:Codec.denoteAll cs),(Codec.encAll cs a).length=cs.length
 |[],_=>rfl
 |c::cs,a=>by
  show(Codec.encAll cs a.2).length+1=cs.length+1;rw[BA cs a.2]
theorem L7{r:OpenSpec}{k:Nat}{q:Program}{loose:List Str}{XP:(Str->Option Value)->Heap->Prop}{YP:World->Heap->Prop}{d:DefRec}{K:Params->PySem.W.Frag}{CX:World->rZ}{ps:List Str}{sp:World->Sp}
  (hwell:r.wellSaid=true) (hdf:d.params.defaults=[]) (hlen:r.args.length=ps.length) (hr:eO k callerA)
  (hY:∀(w:World)(h:Heap),YP w h->(K w.params).In h)
  (F:∀(w:World)(mg:Str->Option Value)(fa:Addr)(h:Heap),YP w h->(K w.params).In h->h.Ns mainGlobals mg->mg d.name=some (.ref fa)->
   ∃fd:FuncData,(∀(s:Shared)(us:List Value),us.length=ps.length->BindsTo s fd ⟨us,[]⟩ (ps.zip us))/\
    ∀base:Heap,(K w.params).In base->base.Ns mainGlobals mg->iF r.prog w (K w.params) mg base (CX w) k fa fd ps (sp w))
  (hsp:∀(w:World)(H:Hp)(xs:List V)(a:Codec.denoteAll r.args),B5 H->Codec.withinAll r.args a=true->Codec.app r.args r.asked a=true->lr (K w.params) H xs (Codec.encAll r.args a)->
   sp w xs H (fun v H'=>Dw (K w.params) H' v (r.ret.enc (Codec.app r.args r.f a))) fun _ _ _=>False)
  (hCX:∀(w:World)(H:Hp)(s:Shared)(e:Value)(s':Shared),CX w [] H s (fun _ _ _=>False) e s'->False):
  PySem.W.WalkOS q loose XP YP r d [] (fun f vs=>PySem.call f vs):=by
 intro w l6 s₁ mg mb G Y fa o pm cd doc dV kV ho hd hcd hD hmg hg args vals as hpre hlay hrd hwl hlo;obtain⟨a,e1,e2⟩:=PySem.W.os_pre_some hpre;obtain⟨e3,hwi⟩:=Codec.encAll_of_decAll r.args args a e1;subst e3;have KX:=hY w _ Y;obtain⟨fd,hb,hF⟩:=F w mg fa _ Y KX G.T.g hmg;refine PySem.W.enter_call (codeAny_mono (Mo (R:=[]) (cl:=classAt l6.heap) (d0:=r.ret.enc (Codec.app r.args r.f a)) KX G.T.g G.T.b G.T.builtins G.T.nolimit hg hwl (DQ _ _) (C7 hlay) hr hF hb (by rw[BA];exact hlen)
  (fun H xs hO hS=>hsp w H xs a hO hwi e2 hS) fun H e s'=>hCX w H s₁ e s') fun r' s' hq=>?_)
 obtain⟨u,as',rfl,h1,h2,h3,h4⟩:=hq;exact⟨.inl ⟨u,_,as',rfl,fun _=>rfl,h1,(OpenSpec.post_iff hwell hwi _ _).mpr rfl,fun z=>Bool.noConfusion (show false=true from z)⟩,h2,h3,h4⟩
theorem Kl{r:OpenSpec}{k:Nat}{q:Program}{loose:List Str}{XP:(Str->Option Value)->Heap->Prop}{YP:World->Heap->Prop}{d:DefRec}{K:Params->PySem.W.Frag}{CX:rZ}{ps:List Str}{sp:PySem.W.Frag->Sp}
  (hwell:r.wellSaid=true) (hdf:d.params.defaults=[]) (hlen:r.args.length=ps.length) (hr:eO k callerA)
  (hY:∀(w:World)(h:Heap),YP w h->(K w.params).In h)
  (F:∀(w:World)(mg:Str->Option Value)(fa:Addr)(h:Heap),YP w h->(K w.params).In h->h.Ns mainGlobals mg->mg d.name=some (.ref fa)->
   ∃fd:FuncData,(∀(s:Shared)(us:List Value),us.length=ps.length->BindsTo s fd ⟨us,[]⟩ (ps.zip us))/\
    ∀base:Heap,(K w.params).In base->base.Ns mainGlobals mg->iF r.prog w (K w.params) mg base CX k fa fd ps (sp (K w.params)))
  (hsp:∀(K:PySem.W.Frag)(H:Hp)(xs:List V)(a:Codec.denoteAll r.args),B5 H->Codec.withinAll r.args a=true->Codec.app r.args r.asked a=true->lr K H xs (Codec.encAll r.args a)->
   sp K xs H (fun v H'=>Dw K H' v (r.ret.enc (Codec.app r.args r.f a))) fun _ _ _=>False)
  (hCX:∀(H:Hp)(s:Shared)(e:Value)(s':Shared),CX [] H s (fun _ _ _=>False) e s'->False):
  PySem.W.WalkOS q loose XP YP r d [] (fun f vs=>PySem.call f vs):=
 L7 (K:=K) (CX:=fun _=>CX) (sp:=fun w=>sp (K w.params)) hwell hdf hlen hr hY F (fun w H xs a h1 h2 h3 h4=>hsp (K w.params) H xs a h1 h2 h3 h4) fun _ H s e s'=>hCX H s e s'
end L2
end
namespace L2
open PySem PySem.Spec PyProof.Rows
structure rX(P:Program)(w:World)(K:PySem.W.Frag)(a:Addr)(kvs:List (Key×V)):Prop where
 sys:(a==sysModules)=false
 at_:∃vs,KV kvs vs/\∀h:Heap,K.In h->h.DictOf (dk P w) a vs
structure HS(P:Program)(w:World)(K:PySem.W.Frag)(a:Addr)(kvs:List (List Key×V)):Prop where
 sys:(a==sysModules)=false
 at_:∃xs:List (List Key×Addr×Value),Paired (fun(p:List Key×V)(q:List Key×Addr×Value)=>p.1=q.1/\RelV p.2 q.2.2) kvs xs/\∀h:Heap,K.In h->h.DictOfH (tupleKind (dk P w)) a xs
theorem S3.val{kvs:List (List Key×V)}{xs:List (List Key×Addr×Value)}(r:Paired (fun(p:List Key×V)(q:List Key×Addr×Value)=>p.1=q.1/\RelV p.2 q.2.2) kvs xs)(k:List Key):ju (cv kvs k) ((atKey xs k).map (·.2)):=by
 induction r with
 |nil=>exact True.intro
 | @cons p q ps qs h t ih=>
  obtain⟨h1,h2⟩:=h;by_cases e:p.1=k
  ·have e':q.1=k:=h1.symm.trans e;have b:atKey (q::qs) k=some q.2:=by simp[atKey,dG,e']
   rw[gB e,b];exact h2
  ·have e':¬q.1=k:=fun z=>e (h1.trans z);have b:atKey (q::qs) k=atKey qs k:=by simp[atKey,dG,e']
   rw[gC e,b];exact ih
def KGet(P:Program)(w:World)(K:PySem.W.Frag)(H:Hp)(a:Addr)(y:V)(r:Option V):Prop:=
 (∃kvs k,rX P w K a kvs/\y=kV k/\r=cv kvs k)\/∃kvs k b,HS P w K a kvs/\y=.ref b/\H b=some (.tup (k.map kV))/\r=cv kvs k
section
variable{X:Cx}{pins:List (Addr×Obj)}{σ:St}{H:Hp}{s:Shared}{a:Addr}{y v d:V}{u r:Value}{o:Option V}{A:Around}{E:Value->Shared->Prop}
theorem Na{Q:Value->Shared->Prop}(hu:A.units+1<cLine)(I:Inv X pins σ H s)(g:KGet X.prog X.w X.K H a y (some v))(ry:RelV y u)(h:∀w' s',Inv X pins σ H s'->RelV v w'->Q w' s'):
  wpAny (model X.prog X.w) A (getItem (.ref a) u) Q E s:=by
 rcases g with⟨kvs,k,⟨hd,vs,rel,dd⟩,ey,l⟩|⟨kvs,k,b,⟨hd,xs,rel,dd⟩,ey,eb,l⟩
 ·subst ey;obtain⟨w',hw,rw'⟩:=ju.some_of (v:=v) (o:=valueAt vs k) (by rw[l];exact rel.val k);exact wpAny_getItem_of (m5 ry) (dd _ I.jV).mapOf hw (h w' _ (I.tok _) rw')
 ·subst ey;cases(show u=Value.ref b from ry);obtain⟨w',hw,rw'⟩:=ju.some_of (v:=v) (o:=(atKey xs k).map (·.2)) (by rw[l];exact S3.val rel k);obtain⟨p,hp,hp2⟩:=bS.mp hw;refine wpAny_getItem_heap (tupleKind_room_in1 hu) (m3 I.bT eb) (dd _ I.jV) hp ?_;rw[hp2];exact h w' _ (I.tok _) rw'
theorem UE{Q:Value->Shared->Prop}(hu:A.units+1<cLine)(I:Inv X pins σ H s)(g:KGet X.prog X.w X.K H a y o)(ry:RelV y u)(h:∀s',Inv X pins σ H s'->Q (.bool o.isSome) s'):
  wpAny (model X.prog X.w) A (compareOp .In u (.ref a)) Q E s:=by
 rcases g with⟨kvs,k,⟨hd,vs,rel,dd⟩,ey,l⟩|⟨kvs,k,b,⟨hd,xs,rel,dd⟩,ey,eb,l⟩
 ·subst ey;refine wpAny_in_of (m5 ry) hd (dd _ I.jV).mapOf ?_;rw[<-(rel.val k).ik,<-l];exact h _ (I.tok _)
 ·subst ey;cases(show u=Value.ref b from ry);refine wpAny_in_heap (tupleKind_room_in1 hu) (m3 I.bT eb) hd (dd _ I.jV) ?_;have q:=(S3.val rel k).ik;rw[gF]at q;rw[<-q,<-l];exact h _ (I.tok _)
theorem QQ{Q:Value->Shared->Prop}(hu:A.units+1<cLine)(I:Inv X pins σ H s)(g:KGet X.prog X.w X.K H a y o)(ry:RelV y u)(h:∀s',Inv X pins σ H s'->Q (.bool (!o.isSome)) s'):
  wpAny (model X.prog X.w) A (compareOp .NotIn u (.ref a)) Q E s:=by
 rcases g with⟨kvs,k,⟨hd,vs,rel,dd⟩,ey,l⟩|⟨kvs,k,b,⟨hd,xs,rel,dd⟩,ey,eb,l⟩
 ·subst ey;refine wpAny_notIn_of (m5 ry) hd (dd _ I.jV).mapOf ?_;rw[<-(rel.val k).ik,<-l];exact h _ (I.tok _)
 ·subst ey;cases(show u=Value.ref b from ry);refine wpAny_notIn_heap (tupleKind_room_in1 hu) (m3 I.bT eb) hd (dd _ I.jV) ?_;have q:=(S3.val rel k).ik;rw[gF]at q;rw[<-q,<-l];exact h _ (I.tok _)
theorem Sh{Q:Value->Shared->Prop}{kvs:List (Key×V)}{k:Key}(I:Inv X pins σ H s)(g:rX X.prog X.w X.K a kvs)(ry:RelV (kV k) u)(rd:RelV d r)(h:∀w' s',Inv X pins σ H s'->RelV ((cv kvs k).getD d) w'->Q w' s'):
  wpAny (model X.prog X.w) A (call (.builtin "dict.get") [.ref a,u,r]) Q E s:=by
 obtain⟨hd,vs,rel,dd⟩:=g;have dd:=dd _ I.jV;exact call_meetsIn gu dd.typeIs kR (PySem.F.args_dict_get_3 _ _ _) (meets_dict_get_default (dk X.prog X.w) a (m5 ry) hd r) ⟨_,dd.mapOf,h _ _ (I.tok _) ((rel.val k).getD rd)⟩
end
def Tf(P:Program)(w:World)(K:PySem.W.Frag)(td ty:TE):TE:=fun σ H Q=>td σ H fun x H1=>ty σ H1 fun y H2=>∃a v,x=.ref a/\KGet P w K H2 a y (some v)/\Q v H2
def Uj(P:Program)(w:World)(K:PySem.W.Frag)(ty td:TE):TE:=fun σ H Q=>ty σ H fun y H1=>td σ H1 fun x H2=>∃a o,x=.ref a/\KGet P w K H2 a y o/\Q (.bl o.isSome) H2
def Qc(P:Program)(w:World)(K:PySem.W.Frag)(ty td:TE):TE:=fun σ H Q=>ty σ H fun y H1=>td σ H1 fun x H2=>∃a o,x=.ref a/\KGet P w K H2 a y o/\Q (.bl (!o.isSome)) H2
def Rx(P:Program)(w:World)(K:PySem.W.Frag)(td ty tx:TE):TE:=fun σ H Q=>td σ H fun x H1=>∃a kvs,x=.ref a/\rX P w K a kvs/\ty σ H1 fun y H2=>tx σ H2 fun z H3=>∃k,y=kV k/\Q ((cv kvs k).getD z) H3
section
variable{X:Cx}{o i e f:Expr}{pos apos cpos:Pos}{td ty tx:TE}
theorem KGet.typeIs{pins:List (Addr×Obj)}{σ:St}{H:Hp}{s:Shared}{a:Addr}{y:V}{o:Option V}(I:Inv X pins σ H s)(g:KGet X.prog X.w X.K H a y o):s.TypeIs (.ref a) "dict":=by
 rcases g with⟨kvs,k,⟨hd,vs,rel,dd⟩,ey,l⟩|⟨kvs,k,b,⟨hd,xs,rel,dd⟩,ey,eb,l⟩
 ·exact(dd _ I.jV).typeIs
 ·exact(dd _ I.jV).typeIs
theorem sZ(hu:X.A.units+1<cLine)(ho:PE X o td)(hi:PE X i ty)(hs:PB i):PE X (.Subscript o i pos) (Tf X.prog X.w X.K td ty):=by
 intro pins s σ H Q I h;refine Jw PySem.F.slot_dict_getitem.lookup hs (bR (ho pins s σ H _ I h) fun u s1 ⟨x,H1,I1,rx,q1⟩=>bR (hi pins s1 σ H1 _ I1 q1) fun iv s2 ⟨y,H2,I2,ry,a,v,ex,g,q2⟩=>?_);subst ex;obtain rfl:u=Value.ref a:=rx;exact⟨KGet.typeIs I2 g,Na hu I2 g ry fun w' s3 I3 rw'=>⟨v,H2,I3,rw',q2⟩⟩
theorem AQ(hu:X.A.units+1<cLine)(hi:PE X i ty)(ho:PE X o td):PC X .In i o (Uj X.prog X.w X.K ty td):=by
 intro pins s σ H Q I h;refine bR (hi pins s σ H _ I h) fun iv s1 ⟨y,H1,I1,ry,q1⟩=>bR (ho pins s1 σ H1 _ I1 q1) fun u s2 ⟨x,H2,I2,rx,a,ov,ex,g,q2⟩=>?_;subst ex;obtain rfl:u=Value.ref a:=rx;exact UE hu I2 g ry fun s3 I3=>⟨.bl ov.isSome,H2,I3,rfl,q2⟩
theorem ML(hu:X.A.units+1<cLine)(hi:PE X i ty)(ho:PE X o td):PC X .NotIn i o (Qc X.prog X.w X.K ty td):=by
 intro pins s σ H Q I h;refine bR (hi pins s σ H _ I h) fun iv s1 ⟨y,H1,I1,ry,q1⟩=>bR (ho pins s1 σ H1 _ I1 q1) fun u s2 ⟨x,H2,I2,rx,a,ov,ex,g,q2⟩=>?_;subst ex;obtain rfl:u=Value.ref a:=rx;exact QQ hu I2 g ry fun s3 I3=>⟨.bl (!ov.isSome),H2,I3,rfl,q2⟩
theorem OG(ho:PE X o td)(he:PE X e ty)(hf:PE X f tx)(m:M2 X o "get" apos e f cpos):PE X (.Call (.Attribute o "get" apos) [e,f] [] cpos) (Rx X.prog X.w X.K td ty tx):=by
 intro pins s σ H Q I h;refine wpAny_Call_method m.base m.rF m.line kE gu PySem.F.type_dict_get (bR (ho pins s σ H _ I h) fun u s1 ⟨x,H1,I1,rx,a,kvs,ex,d,q1⟩=>?_);subst ex;obtain rfl:u=Value.ref a:=rx;obtain⟨hd,vs,rel,dd⟩:=id d;have dd:=dd _ I1.jV;refine⟨dd.typeIs,fun b q=>?_,?_⟩
 ·cases q;obtain⟨ob,_,_,h1,h2,_⟩:=dd;exact⟨ob,h1,h2.2.1⟩
 rw[m.trees];refine Calls.callWith_builtin rfl (Calls.evalArgs_plain (Calls.spliced_cons (bR (he pins s1 σ H1 _ I1 q1) fun iv s2 ⟨y,H2,I2,ry,q2⟩=>
  Calls.spliced_cons (bR (hf pins s2 σ H2 _ I2 q2) fun fv s3 ⟨z,H3,I3,rz,k,ey,q3⟩=>Calls.spliced_nil ?_))))
 subst ey;exact Sh I3 d ry rz fun w' s4 I4 rw'=>⟨_,H3,I4,rw',q3⟩
end
def Tb(td ty tx:TE):TE:=fun σ H Q=>td σ H fun x H1=>∃a,x=.ref a/\S4 H1 a/\ty σ H1 fun y H2=>tx σ H2 fun z H3=>∃kvs k,H3 a=some (.dK kvs)/\y=kV k/\kvs.length<sizeLine/\
 (∀v,cv kvs k=some v->Q v H3)/\(cv kvs k=none->Q z (upd H3 a (.dK (putK kvs k z))))
section
variable{X:Cx}{o e f:Expr}{apos cpos:Pos}{td ty tx:TE}
theorem Qw(ho:PE X o td)(he:PE X e ty)(hf:PE X f tx)(m:M2 X o "setdefault" apos e f cpos):PE X (.Call (.Attribute o "setdefault" apos) [e,f] [] cpos) (Tb td ty tx):=by
 intro pins s σ H Q I h;refine wpAny_Call_method m.base m.rF m.line kE PySem.F.slot_dict_setdefault PySem.F.type_dict_setdefault (bR (ho pins s σ H _ I h) fun u s1 ⟨x,H1,I1,rx,a,ex,d,q1⟩=>?_);subst ex;obtain rfl:u=Value.ref a:=rx;obtain⟨t1,t2,_⟩:=Nd I1 d;refine⟨t1,t2,?_⟩;rw[m.trees];refine Calls.callWith_builtin rfl (Calls.evalArgs_plain (Calls.spliced_cons (bR (he pins s1 σ H1 _ I1 q1) fun iv s2 ⟨y,H2,I2,ry,q2⟩=>
  Calls.spliced_cons (bR (hf pins s2 σ H2 _ I2 q2) fun fv s3 ⟨z,H3,I3,rz,kvs,k,hH,ey,hz,c1,c2⟩=>Calls.spliced_nil ?_))))
 subst ey;obtain⟨z0,hd,vs,rel,dd⟩:=PZ I3.bT hH;refine call_meetsIn PySem.F.slot_dict_setdefault dd.typeIs PySem.F.entry_dict_setdefault (PySem.F.args_dict_setdefault_3 _ _ _) (kt_meets_setdefault (dk X.prog X.w) a (m5 ry) hd fv) ⟨vs,dd,by rw[<-rel.length];exact z0,fun v hv=>?_,fun hn h' dd' sb=>?_⟩
 ·have q:=rel.val k;rw[hv]at q;cases e:cv kvs k with
  |none=>rw[e]at q;exact(show False from q).elim
  |some v'=>
   rw[e]at q;exact⟨v',H3,I3.tok _,q,c1 v' e⟩
 ·have q:=rel.val k;rw[hn]at q;have e:cv kvs k=none:=by
   cases e:cv kvs k with
   |none=>rfl
   |some v'=>rw[e]at q;exact(show False from q).elim
  obtain⟨ob,_,_,hob,_⟩:=id dd';refine⟨z,_,I3.write (x:=a) (e:=a) (o:=.dK (putK kvs k z)) (by rw[hH];exact trivial) (.inl rfl) (fun b u hb hu=>(sb.2 b hb).trans hu) ⟨ob,hob⟩ ?_,rz,c2 e⟩;refine⟨?_,hd,_,rel.put k rz,dd'⟩;unfold putK;split
  ·rw[aP];exact z0
  ·rw[aq,aX];omega
end
theorem Kn{prog:Program}{w:World}{A:Around}{bs:List Int}{its:List Value}(r:Vals (bs.map V.int) its):
  TruthOf prog w A (fun i v=>its.toArray[i]? =some v) (fun i=>bs.getD i 0 !=0):=fun i v s Q E hv hq=>by
 have hv':its[i]? =some v:=by simpa using hv
 have hl:=r.length;rw[aP]at hl;have hi:i<bs.length:=by have:=(az.mp hv').1;omega
 have hb:bs[i]? =some bs[i]:=aN hi;obtain⟨u,hu,ru⟩:=r.get (i:=i) (x:=V.int bs[i]) (by rw[a9,hb];rfl);rw[hv']at hu;cases hu;obtain⟨t,rfl⟩:=ru;have hg:bs.getD i 0=bs[i]:=by rw[bP,hb];rfl
 have hq':Q (bs.getD i 0 !=0) s:=hq;rw[hg]at hq';exact PyProof.Rows.truthy_int hq'
theorem B2:∀bs:List Int,(List.range bs.length).any (fun i=>bs.getD i 0 !=0)=bs.any (· !=0)
 |[]=>rfl
 |b::bs=>by
  rw[ay,List.range_succ_eq_map,ee,List.any_map,ee,<-B2 bs]
  all_goals rfl
def Tq(K:PySem.W.Frag):List V->Hp->VK->Prop:=fun vs H Q=>∃(a:Addr)(bs:List Int),vs=[V.ref a]/\bY K H a (bs.map V.int)/\Q (.bl (bs.any (· !=0))) H
theorem Q6{X:Cx}(hc:X.calm=true):pU X (.builtin "any") (Tq X.K):=by
 intro pins s σ H vs us Q I r h;obtain⟨a,bs,rfl,hs,q⟩:=h;obtain⟨its,rv,hl,_⟩:=I.list hs;rw[Vals.Ut r];refine call_any_walk (O0 hl.isList fun s₂ e2 st hne=>?_);subst e2;refine⟨_,_,_,_,_,_,_,rfl,Walks.list (A:=X.A.in1) (I.ok.hd hc) _ a hne its.toArray,st,Kn rv,fun h' tk hk=>?_⟩;refine⟨.bl _,H,I.kept fun b o eo=>hk b o (fun hmem=>?_) (Heap.get?_push_of_some _ eo),?_,q⟩
 ·rcases aT.mp hmem with e1|hmem
  ·exact absurd (e1▸Heap.lt_size eo) (eQ _)
  ·cases hmem
 ·show Value.bool _=Value.bool _;have hv:=rv.length;rw[aP]at hv;rw[<-B2,bf,hv]
theorem EG(l:Addr)(items:Array Value)(n:Nat)(dd:Option Addr)(sl:Array (Option Value))(x:Value)(e:Value->Bool)(j:Nat)(hj:j<items.size)
  (hit:e items[j]=true) (hno:∀m(hm:m<items.size),m<j->e items[m]=false):
  Meets (Builtin.«tuple.index» ⟨[.ref l,x],[]⟩)
   (fun A R s=>s.heap.get? l=some {cls:=.type "tuple",dict:=dd,data:=.seq items n,slots:=sl}/\(∀y,y∈items->SeqAt.EqAt A.in1 s y x (e y))/\R (.ok (.ret (.int j s.toks))) {s with toks:=s.toks+1}):=
 .of_wp fun prog w A R s h=>by
  obtain⟨hp,g,d,tk,os⟩:=s;obtain⟨hl,he,h⟩:=h
  wp_walk using wpAny_loadPart' hl
  show wpAny _ _ (forIn [:min items.size items.size] ((none:Option PySem.Fin),()) fun(i:Nat)(_:Option PySem.Fin×Unit)=>(match items[i]? with
      |some y=>do
       let b<-eqBool y x
       if b=true then do
         let v<-retInt (i:Int)
         pure (ForInStep.done (some v,()))
        else pure (ForInStep.yield (none,()))
      |_=>pure (ForInStep.yield (none,())):Sem (ForInStep (Option PySem.Fin×Unit)))) _ _ _
  rw[Std.Legacy.Range.forIn_eq_forIn_range'];simp only[Std.Legacy.Range.size,Nat.sub_zero,bx,Nat.div_one,Nat.min_self];refine wpAny_forIn_list _ (fun rest b s'=>b.1=none/\s'=⟨hp,g,d,tk,os⟩/\∃i,i<=j/\rest=List.range' i (items.size - i)) _ ?_ ?_ _ _ ⟨rfl,rfl,0,cE _,by simp⟩
  ·rintro y rest b s' ⟨hb,rfl,i,hi,hr⟩;have hlt:i<items.size:=by omega
   obtain⟨rfl,hrest⟩:y=i/\rest=List.range' (i+1) (items.size - (i+1)):=by
    have e:items.size - i=(items.size - (i+1))+1:=by omega
    rw[e,List.range'_succ]at hr;injection hr with h1 h2
    exact⟨h1,h2⟩
   rw[Array.getElem?_eq_getElem hlt];refine wpAny_bind (he _ (Array.getElem_mem hlt) prog w _ _ ?_);by_cases hyj:y=j
   ·subst hyj;rw[hit]
    wp_walk
    exact⟨_,rfl,h⟩
   ·rw[hno y hlt (by omega)]
    wp_walk
    exact⟨rfl,rfl,y+1,by omega,hrest⟩
  ·rintro b s' ⟨hb,rfl,i,hi,hr⟩;exfalso;have:(List.range' i (items.size - i)).length=0:=by rw[<-hr];rfl
   rw[List.length_range']at this;omega
section
variable{X:Cx}
def Qu(K:PySem.W.Frag):V->List V->Hp->VK->Prop:=fun x xs H Q=>∃(a:Addr)(ys:List V)(y:V)(j:Nat)(z:V),x=V.ref a/\xs=[y]/\iR K H a ys/\jF y=true/\ys.all jF=true/\ys[j]? =some z/\vv z y=true/\
 (∀(m:Nat)(z':V),m<j->ys[m]? =some z'->vv z' y=false)/\Q (.int (j:Nat)) H
theorem DY:N2 X "tuple.index" (Qu X.K):=by
 intro pins s σ H x xs v us Q I rx rxs h;obtain⟨a,ys,y,j,z,rfl,rfl,hs,fy,fys,hz,hzj,hno,q⟩:=h;cases rx;cases rxs with
 |cons ry rt=>
  rename_i uy ut;cases rt;obtain⟨its,rv,⟨⟨cls,dd,data,sl⟩,ho,hc,n,hd⟩,hlen⟩:=I.tuple hs;simp only at hc hd;subst hc hd;obtain⟨u,hu,ru⟩:=rv.get hz;obtain⟨hjl,hje⟩:=az.mp hu;have hvl:=rv.length;have hj:j<its.toArray.size:=by simpa using hjl
  refine call_meets jJ ⟨_,ho,rfl⟩ PySem.F.entry_tuple_index (PySem.F.args_tuple_index_2 _ _)
   (EG a its.toArray n dd sl uy (pK y) j hj ?_ ?_) ⟨ho,fun u' hu'=>oe ry fy rv fys u' (by simpa using hu'),?_⟩
  ·have e1:its.toArray[j]=u:=by simpa using hje
   rw[e1,Bz ru (JW fys hz)];exact hzj
  ·intro m hm hmj;have hml:m<its.length:=by simpa using hm
   have hmy:m<ys.length:=by omega
   have hy':ys[m]? =some ys[m]:=aN hmy;obtain⟨u2,hu2,ru2⟩:=rv.get hy';obtain⟨_,hme⟩:=az.mp hu2;have e1:its.toArray[m]=u2:=by simpa using hme
   rw[e1,Bz ru2 (JW fys hy')];exact hno m _ hmj hy'
  ·exact⟨.int (j:Nat),H,I.tok _,⟨_,rfl⟩,q⟩
end
def Ok(P:Program)(w:World)(K:PySem.W.Frag)(mg:Str->Option Value)(base:Heap)(k:Nat)(f:Addr)(ps:List Str)(sp:Sp):Prop:=
 ∃fd,iF P w K mg base xU k f fd ps sp/\Binds K fd ps []/\PySem.W.keepIn K (.ref f)=true
section
variable{X:Cx}{k:Nat}{f C:Addr}{ps:List Str}{sp:Sp}{x:Str}{p pos:Pos}{e:Expr}{es:List Expr}{t:TA}
theorem aI(O:Ok X.prog X.w X.K X.mg X.base k f ps sp)(hr:eO k X.A)(hg:Gl X x)(hm:X.mg x=some (.ref f))(ha:PA X (e::es) t)
  (hdb:(x==("__debug__":Str))=false:=by decide) (he:starEach (e::es) X.env=(false,eval e X.env)::starEach es X.env:=by rfl) (hpl:(backTo pos (starEach es X.env)).any (·.1)=false:=by rfl):
  PE X (.Call (.Name x p) (e::es) [] pos) (FF sp [] E0 t):=by
 obtain⟨fd,F,b,kp⟩:=O;exact QA F hr hg hm kp b .nil FG ha hdb he hpl
def RC(P:Program)(w:World)(K:PySem.W.Frag)(mg:Str->Option Value)(base:Heap)(k:Nat)(i:Nat)(t:TA):TE:=fun σ H Q=>∃f,σ[i]? =some (some (.ref f))/\
 ∃ps sp,Ok P w K mg base k f ps sp/\t σ H fun vs H1=>sp vs H1 Q E0
theorem OI{i:Nat}(hr:eO k X.A)(hv:PE X (.Name x p) (qe i))(ha:PA X (e::es) t)
  (he:starEach (e::es) X.env=(false,eval e X.env)::starEach es X.env:=by rfl) (hpl:(backTo pos (starEach es X.env)).any (·.1)=false:=by rfl):
  PE X (.Call (.Name x p) (e::es) [] pos) (RC X.prog X.w X.K X.mg X.base k i t):=by
 intro pins s σ H Q I h;obtain⟨f,hf,ps,sp,⟨fd,F,b,kp⟩,h⟩:=h;refine wpAny_Call_Name_kw (bR (hv pins s σ H (fun v H'=>v=.ref f/\H'=H) I ⟨_,hf,rfl,rfl⟩) fun u s0 ⟨v,H0,I0,r0,e1,e2⟩=>?_);subst e1 e2;cases r0;refine PySem.W.callWith_K (h₀:=X.base) I.ok.mod.M8 kp (bR (ha pos pins s0 σ _ _ I0 h) fun us s1 ⟨vs,H1,I1,r,q⟩=>⟨I1.jV,?_⟩) he hpl;exact My (E:=E0) F hr b .nil FG I1 r (by rw[aK];exact q)
def lX(P:Program)(w:World)(K:PySem.W.Frag)(mg:Str->Option Value)(base:Heap)(k:Nat)(C:Addr)(dvs:List V)(sp:Sp):Prop:=
 ∃f fd ps ds,Mk K C f/\iF P w K mg base xU k f fd ps sp/\Binds K fd ps ds/\Vals dvs ds
theorem d5{dvs:List V}(O:lX X.prog X.w X.K X.mg X.base k C dvs sp)(hr:eO (k+1) X.A)(hg:Gl X x)(hm:X.mg x=some (.ref C))(ha:PA X (e::es) t)
  (hdb:(x==("__debug__":Str))=false:=by decide) (he:starEach (e::es) X.env=(false,eval e X.env)::starEach es X.env:=by rfl) (hpl:(backTo pos (starEach es X.env)).any (·.1)=false:=by rfl):
  PE X (.Call (.Name x p) (e::es) [] pos) (FD C sp dvs E0 t):=by
 obtain⟨f,fd,ps,ds,M,F,b,v⟩:=O;exact Qx M F hr hg hm b v FG ha hdb he hpl
theorem DR{dvs:List V}(O:lX X.prog X.w X.K X.mg X.base k C dvs sp)(hr:eO (k+1) X.A)(hg:Gl X x)(hm:X.mg x=some (.ref C))
  (hdb:(x==("__debug__":Str))=false:=by decide):PE X (.Call (.Name x p) [] [] pos) (FD C sp dvs E0 qf):=by
 obtain⟨f,fd,ps,ds,M,F,b,v⟩:=O;exact OF M F hr hg hm b v FG hdb
def vG(mg:Str->Option Value)(x:Str)(z:Str):Prop:=∃t,mg x=some (.str z t)
def gA(mg:Str->Option Value)(x:Str)(z:Int):Prop:=∃t,mg x=some (.int z t)
theorem el{z:Str}(hg:Gl X x)(h:vG X.mg x z)(hd:(x==("__debug__":Str))=false:=by decide):PE X (.Name x pos) (tC (.str z)):=by
 obtain⟨t,h⟩:=h;exact CJ hg h ⟨t,rfl⟩ hd
theorem bZ{z:Int}(hg:Gl X x)(h:gA X.mg x z)(hd:(x==("__debug__":Str))=false:=by decide):PE X (.Name x pos) (tC (.int z)):=by
 obtain⟨t,h⟩:=h;exact CJ hg h ⟨t,rfl⟩ hd
theorem dH{a:Addr}(hg:Gl X x)(h:X.mg x=some (.ref a))(hd:(x==("__debug__":Str))=false:=by decide):PE X (.Name x pos) (tC (.ref a)):=CJ hg h rfl hd
end
abbrev Cell:=Addr×HO
structure Holds(H:Hp)(L:List Cell):Prop where
 nd:(L.map (·.1)).Nodup
 at_:∀c∈L,H c.1=some c.2
section
variable{H:Hp}{L M:List Cell}{a:Addr}{o o':HO}
theorem Holds.get(h:Holds H L)(i:Nat)(e:L[i]? =some (a,o)):H a=some o:=h.at_ (a,o) (aH e)
theorem Holds.mem(h:Holds H L)(e:(a,o)∈L):H a=some o:=h.at_ (a,o) e
theorem Holds.set(h:Holds H L)(i:Nat)(e:L[i]? =some (a,o)):Holds (upd H a o') (L.set i (a,o')):=by
 obtain⟨hi,he⟩:=az.mp e;refine⟨?_,fun c hc=>?_⟩
 ·have:(L.set i (a,o')).map (·.1)=L.map (·.1):=by
   rw[List.map_set];have e2:(L.map (·.1))[i]? =some a:=by rw[a9,e];rfl
   obtain⟨h1,h2⟩:=az.mp e2;show(L.map (·.1)).set i a=_;rw[<-h2];exact List.set_getElem_self h1
  rw[this];exact h.nd
 ·obtain⟨j,hj⟩:=List.mem_iff_getElem?.mp hc;by_cases hji:j=i
  ·subst hji;rw[ir hi]at hj;cases hj;exact lC
  ·rw[iW (jn hji)]at hj;have hne:c.1≠a:=fun q=>hji (Tw h.nd (x:=a) (by rw[a9,hj,<-q];rfl) (by rw[a9,e];rfl));rw[dq hne];exact h.at_ c (aH hj)
theorem Holds.new(h:Holds H L)(n:H a=none):Holds (upd H a o) ((a,o)::L):=by
 have ne:∀c∈L,c.1≠a:=fun c hc q=>by
  have:=h.at_ c hc
  rw[q,n]at this;cases this
 refine⟨ib.mpr ⟨fun hm=>?_,h.nd⟩,fun c hc=>?_⟩
 ·obtain⟨c,hc,q⟩:=jL.mp hm;exact ne c hc q
 ·rcases aT.mp hc with rfl|hc
  ·exact lC
  ·rw[dq (ne c hc)];exact h.at_ c hc
theorem Holds.perm(h:Holds H L)(p:L.Perm M):Holds H M:=⟨(p.map _).nodup_iff.mp h.nd,fun c hc=>h.at_ c (p.mem_iff.mpr hc)⟩
theorem Holds.sub(h:Holds H L)(p:M.Sublist L):Holds H M:=⟨h.nd.sublist (p.map _),fun c hc=>h.at_ c (p.subset hc)⟩
theorem Holds.tl{c:Cell}(h:Holds H (c::L)):Holds H L:=h.sub (aW _ _)
theorem Holds.nil:Holds H []:=⟨List.nodup_nil,fun _ h=>nomatch h⟩
theorem Holds.made{x dx C:Addr}(h:Holds H L)(nx:H x=none)(nd:H dx=none)(ne:dx≠x):Holds (upd (upd H dx (.own x)) x (.ins C dx [])) ((x,.ins C dx [])::L):=by
 have h1:=Holds.new (o:=.own x) h nd;have h2:=Holds.new (a:=x) (o:=.ins C dx []) h1 (by rw[dq (jn ne)];exact nx);exact h2.sub (List.Sublist.cons_cons _ (aW _ _))
end
end L2
namespace aJ
open PySem PySem.Spec PyProof.Rows L2
def top(i:Nat):Stmt:=PySem.Challenge.pw_axisprograms_s01_answers.main.body.getD i (.Pass ⟨0,0,0,0⟩)
abbrev mS:Stmt:=inClass (top 9) 0
abbrev jO:Stmt:=inClass (top 10) 0
abbrev lM:Stmt:=inClass (top 25) 0
abbrev su:Stmt:=top 26
abbrev sv:Stmt:=top 27
abbrev qu:Stmt:=top 28
abbrev uc:Stmt:=top 29
abbrev uf:Stmt:=top 30
abbrev nP:Stmt:=top 31
abbrev ud:Stmt:=top 32
abbrev o8:Stmt:=top 33
abbrev mO:Stmt:=top 34
abbrev qm:Stmt:=top 35
abbrev wk:Stmt:=top 36
abbrev lN:Stmt:=inClass (top 47) 0
abbrev kN:Stmt:=inClass (top 48) 0
abbrev qo:Stmt:=top 49
abbrev zq:Stmt:=top 50
abbrev wu:Stmt:=top 51
abbrev nQ:Stmt:=top 52
abbrev zu:Stmt:=top 53
abbrev wA:Stmt:=top 54
abbrev mR:Stmt:=top 55
abbrev wz:Stmt:=top 56
abbrev wx:Stmt:=top 57
abbrev uo:Stmt:=top 58
abbrev lK:Stmt:=top 59
abbrev qt:Stmt:=top 60
abbrev uj:Stmt:=top 61
abbrev um:Stmt:=top 62
abbrev wy:Stmt:=top 63
abbrev sA:Stmt:=top 64
abbrev lI:Stmt:=top 65
abbrev uk:Stmt:=top 66
abbrev zr:Stmt:=top 67
abbrev Cw:Stmt:=top 68
abbrev lH:Stmt:=top 69
abbrev lJ:Stmt:=top 70
abbrev kM:Stmt:=top 71
abbrev ui:Stmt:=top 72
abbrev wo:Stmt:=top 73
abbrev Gi:Stmt:=top 74
abbrev Cy:Stmt:=top 75
abbrev pk:Stmt:=top 76
abbrev pj:Stmt:=top 77
abbrev wq:Stmt:=top 78
abbrev sy:Stmt:=top 79
abbrev kL:Stmt:=top 80
abbrev nJ:Stmt:=top 81
abbrev ql:Stmt:=top 91
abbrev ja:Stmt:=top 92
abbrev mN:Stmt:=top 93
abbrev uh:Stmt:=top 94
abbrev pq:Stmt:=top 95
abbrev wm:Stmt:=top 97
abbrev kO:Stmt:=inClass (top 106) 0
abbrev nL:Stmt:=top 107
abbrev iz:Stmt:=top 108
abbrev zt:Stmt:=top 109
abbrev nO:Stmt:=top 110
abbrev qr:Stmt:=top 111
abbrev pd:Stmt:=top 112
abbrev ue:Stmt:=top 113
abbrev mP:Stmt:=top 114
abbrev mQ:Stmt:=top 115
abbrev mT:Stmt:=inClass (top 130) 0
abbrev nR:Stmt:=inClass (top 131) 0
abbrev oS:Stmt:=top 132
abbrev lL:Stmt:=top 133
abbrev o9:Stmt:=top 134
abbrev sx:Stmt:=top 135
abbrev o7:Stmt:=top 136
abbrev pb:Stmt:=top 137
abbrev ph:Stmt:=top 138
abbrev o6:Stmt:=top 139
abbrev nM:Stmt:=top 140
abbrev so:Stmt:=top 141
abbrev nN:Stmt:=top 142
abbrev ug:Stmt:=top 143
abbrev qp:Stmt:=top 144
theorem zo:aR ["self","role"] ["self","role"] (aG mS):=⟨rfl,rfl,rfl,by decide +kernel,rfl,by decide +kernel,by decide +kernel⟩
theorem vH:aR ["self","purpose","name","place","count"] ["self","purpose","name","place","count"] (aG jO):=⟨rfl,rfl,rfl,by decide +kernel,rfl,by decide +kernel,by decide +kernel⟩
theorem yi:aR ["self","form","place","printed","word"] ["self","form","place","printed","word"] (aG lM):=⟨rfl,rfl,rfl,by decide +kernel,rfl,by decide +kernel,by decide +kernel⟩
theorem iH:aR ["text","tokens","place","end"] ["text"] (aG su):=⟨rfl,rfl,rfl,by decide +kernel,rfl,by decide +kernel,by decide +kernel⟩
theorem Gf:aR ["text","place"] ["text","place"] (aG sv):=⟨rfl,rfl,rfl,by decide +kernel,rfl,by decide +kernel,by decide +kernel⟩
theorem o5:aR ["text","place","end"] ["text","place"] (aG qu):=⟨rfl,rfl,rfl,by decide +kernel,rfl,by decide +kernel,by decide +kernel⟩
theorem sk:aR ["text","place","end"] ["text","place"] (aG uc):=⟨rfl,rfl,rfl,by decide +kernel,rfl,by decide +kernel,by decide +kernel⟩
theorem Ip:aR ["byte"] ["byte"] (aG uf):=⟨rfl,rfl,rfl,by decide +kernel,rfl,by decide +kernel,by decide +kernel⟩
theorem Az:aR ["byte"] ["byte"] (aG nP):=⟨rfl,rfl,rfl,by decide +kernel,rfl,by decide +kernel,by decide +kernel⟩
theorem Io:aR ["piece","place"] ["piece","place"] (aG ud):=⟨rfl,rfl,rfl,by decide +kernel,rfl,by decide +kernel,by decide +kernel⟩
theorem kj:aR ["digits","value","digit"] ["digits"] (aG o8):=⟨rfl,rfl,rfl,by decide +kernel,rfl,by decide +kernel,by decide +kernel⟩
theorem lG:aR ["digits","begin"] ["digits"] (aG mO):=⟨rfl,rfl,rfl,by decide +kernel,rfl,by decide +kernel,by decide +kernel⟩
theorem u4:aR ["piece","place","word"] ["piece","place"] (aG qm):=⟨rfl,rfl,rfl,by decide +kernel,rfl,by decide +kernel,by decide +kernel⟩
theorem ub:aR ["word_bytes","byte"] ["word_bytes"] (aG wk):=⟨rfl,rfl,rfl,by decide +kernel,rfl,by decide +kernel,by decide +kernel⟩
theorem yj:aR ["self","closer","fewest","most"] ["self","closer","fewest","most"] (aG lN):=⟨rfl,rfl,rfl,by decide +kernel,rfl,by decide +kernel,by decide +kernel⟩
theorem wg:aR ["self"] ["self"] (aG kN):=⟨rfl,rfl,rfl,by decide +kernel,rfl,by decide +kernel,by decide +kernel⟩
theorem o3:aR ["tokens","length","reader","token"] ["tokens","length"] (aG qo):=⟨rfl,rfl,rfl,by decide +kernel,rfl,by decide +kernel,by decide +kernel⟩
theorem wc:aR ["reader","token","step","state"] ["reader","token"] (aG zq):=⟨rfl,rfl,rfl,by decide +kernel,rfl,by decide +kernel,by decide +kernel⟩
theorem KP:aR ["reader","token"] ["reader","token"] (aG wu):=⟨rfl,rfl,rfl,by decide +kernel,rfl,by decide +kernel,by decide +kernel⟩
theorem rb:aR ["reader","token","line"] ["reader","token"] (aG nQ):=⟨rfl,rfl,rfl,by decide +kernel,rfl,by decide +kernel,by decide +kernel⟩
theorem Mv:aR ["reader","token"] ["reader","token"] (aG zu):=⟨rfl,rfl,rfl,by decide +kernel,rfl,by decide +kernel,by decide +kernel⟩
theorem KS:aR ["reader","token"] ["reader","token"] (aG wA):=⟨rfl,rfl,rfl,by decide +kernel,rfl,by decide +kernel,by decide +kernel⟩
theorem zm:aR ["reader","token"] ["reader","token"] (aG mR):=⟨rfl,rfl,rfl,by decide +kernel,rfl,by decide +kernel,by decide +kernel⟩
theorem KR:aR ["reader","token"] ["reader","token"] (aG wz):=⟨rfl,rfl,rfl,by decide +kernel,rfl,by decide +kernel,by decide +kernel⟩
theorem KQ:aR ["reader","token"] ["reader","token"] (aG wx):=⟨rfl,rfl,rfl,by decide +kernel,rfl,by decide +kernel,by decide +kernel⟩
theorem Iy:aR ["reader","token"] ["reader","token"] (aG uo):=⟨rfl,rfl,rfl,by decide +kernel,rfl,by decide +kernel,by decide +kernel⟩
theorem yh:aR ["reader","token"] ["reader","token"] (aG lK):=⟨rfl,rfl,rfl,by decide +kernel,rfl,by decide +kernel,by decide +kernel⟩
theorem EU:aR ["frame","ranges"] ["frame","ranges"] (aG qt):=⟨rfl,rfl,rfl,by decide +kernel,rfl,by decide +kernel,by decide +kernel⟩
theorem Iu:aR ["line","rank"] ["line","rank"] (aG uj):=⟨rfl,rfl,rfl,by decide +kernel,rfl,by decide +kernel,by decide +kernel⟩
theorem Iw:aR ["reader","token"] ["reader","token"] (aG um):=⟨rfl,rfl,rfl,by decide +kernel,rfl,by decide +kernel,by decide +kernel⟩
theorem AA:aR ["reader","token","line"] ["reader","token"] (aG wy):=⟨rfl,rfl,rfl,by decide +kernel,rfl,by decide +kernel,by decide +kernel⟩
theorem we:aR ["reader","token","equation"] ["reader","token"] (aG sA):=⟨rfl,rfl,rfl,by decide +kernel,rfl,by decide +kernel,by decide +kernel⟩
theorem pI:aR ["reader","token","bracket"] ["reader","token"] (aG lI):=⟨rfl,rfl,rfl,by decide +kernel,rfl,by decide +kernel,by decide +kernel⟩
theorem Iv:aR ["reader","token"] ["reader","token"] (aG uk):=⟨rfl,rfl,rfl,by decide +kernel,rfl,by decide +kernel,by decide +kernel⟩
theorem DN:aR ["reader","frame"] ["reader"] (aG zr):=⟨rfl,rfl,rfl,by decide +kernel,rfl,by decide +kernel,by decide +kernel⟩
theorem Gg:aR ["reader","frame"] ["reader"] (aG Cw):=⟨rfl,rfl,rfl,by decide +kernel,rfl,by decide +kernel,by decide +kernel⟩
theorem pH:aR ["reader","token","wanted"] ["reader","token"] (aG lH):=⟨rfl,rfl,rfl,by decide +kernel,rfl,by decide +kernel,by decide +kernel⟩
theorem kJ:aR ["reader","token","array","frame"] ["reader","token"] (aG lJ):=⟨rfl,rfl,rfl,by decide +kernel,rfl,by decide +kernel,by decide +kernel⟩
theorem oR:aR ["reader","token","frame"] ["reader","token"] (aG kM):=⟨rfl,rfl,rfl,by decide +kernel,rfl,by decide +kernel,by decide +kernel⟩
theorem Ir:aR ["reader"] ["reader"] (aG ui):=⟨rfl,rfl,rfl,by decide +kernel,rfl,by decide +kernel,by decide +kernel⟩
theorem KN:aR ["reader","purpose","token"] ["reader","purpose","token"] (aG wo):=⟨rfl,rfl,rfl,by decide +kernel,rfl,by decide +kernel,by decide +kernel⟩
theorem Qq:aR ["reader","frame"] ["reader","frame"] (aG Gi):=⟨rfl,rfl,rfl,by decide +kernel,rfl,by decide +kernel,by decide +kernel⟩
theorem zl:aR ["reader","frame","array"] ["reader"] (aG Cy):=⟨rfl,rfl,rfl,by decide +kernel,rfl,by decide +kernel,by decide +kernel⟩
theorem Cu:aR ["frame"] ["frame"] (aG pk):=⟨rfl,rfl,rfl,by decide +kernel,rfl,by decide +kernel,by decide +kernel⟩
theorem sS:aR ["reader","row","frame"] ["reader","row"] (aG pj):=⟨rfl,rfl,rfl,by decide +kernel,rfl,by decide +kernel,by decide +kernel⟩
theorem KO:aR ["frame"] ["frame"] (aG wq):=⟨rfl,rfl,rfl,by decide +kernel,rfl,by decide +kernel,by decide +kernel⟩
theorem qk:aR ["frame","level","operands","tighter"] ["frame","level"] (aG sy):=⟨rfl,rfl,rfl,by decide +kernel,rfl,by decide +kernel,by decide +kernel⟩
theorem oQ:aR ["frame","level","begins_row"] ["frame","level"] (aG kL):=⟨rfl,rfl,rfl,by decide +kernel,rfl,by decide +kernel,by decide +kernel⟩
theorem mK:aR ["frame","level","operands"] ["frame"] (aG nJ):=⟨rfl,rfl,rfl,by decide +kernel,rfl,by decide +kernel,by decide +kernel⟩
theorem fD:aR ["lines","first_lines","earlier","sizes","number","line","wrong"] ["lines"] (aG ql):=⟨rfl,rfl,rfl,by decide +kernel,rfl,by decide +kernel,by decide +kernel⟩
theorem iI:aR ["lines","first_lines","line"] ["lines"] (aG ja):=⟨rfl,rfl,rfl,by decide +kernel,rfl,by decide +kernel,by decide +kernel⟩
theorem gZ:aR ["line","first_lines","in_force","mention","fault"] ["line","first_lines"] (aG mN):=⟨rfl,rfl,rfl,by decide +kernel,rfl,by decide +kernel,by decide +kernel⟩
theorem Iq:aR ["mention","in_force","named"] ["mention","in_force","named"] (aG uh):=⟨rfl,rfl,rfl,by decide +kernel,rfl,by decide +kernel,by decide +kernel⟩
theorem Cv:aR ["mention","named"] ["mention","named"] (aG pq):=⟨rfl,rfl,rfl,by decide +kernel,rfl,by decide +kernel,by decide +kernel⟩
theorem iZ:aR ["lines","needing","needed","by_name","met","waiting","line","mention","goal"] ["lines","needing","needed"] (aG wm):=⟨rfl,rfl,rfl,by decide +kernel,rfl,by decide +kernel,by decide +kernel⟩
theorem wj:aR ["self","number"] ["self","number"] (aG kO):=⟨rfl,rfl,rfl,by decide +kernel,rfl,by decide +kernel,by decide +kernel⟩
theorem ie:aR ["tokens","needless","printed","number","token"] ["tokens"] (aG nL):=⟨rfl,rfl,rfl,by decide +kernel,rfl,by decide +kernel,by decide +kernel⟩
theorem dM:aR ["tokens","needless","opened","number","token","closed"] ["tokens"] (aG iz):=⟨rfl,rfl,rfl,by decide +kernel,rfl,by decide +kernel,by decide +kernel⟩
theorem Mu:aR ["around","level"] ["around","level"] (aG zt):=⟨rfl,rfl,rfl,by decide +kernel,rfl,by decide +kernel,by decide +kernel⟩
theorem q0:aR ["tokens","number","form"] ["tokens","number"] (aG nO):=⟨rfl,rfl,rfl,by decide +kernel,rfl,by decide +kernel,by decide +kernel⟩
theorem ET:aR ["token"] ["token"] (aG qr):=⟨rfl,rfl,rfl,by decide +kernel,rfl,by decide +kernel,by decide +kernel⟩
theorem Ct:aR ["tokens","closed","end"] ["tokens","closed","end"] (aG pd):=⟨rfl,rfl,rfl,by decide +kernel,rfl,by decide +kernel,by decide +kernel⟩
theorem yI:aR ["tokens","number","word"] ["tokens","number"] (aG ue):=⟨rfl,rfl,rfl,by decide +kernel,rfl,by decide +kernel,by decide +kernel⟩
theorem qh:aR ["tokens","number","level"] ["tokens","number"] (aG mP):=⟨rfl,rfl,rfl,by decide +kernel,rfl,by decide +kernel,by decide +kernel⟩
theorem qi:aR ["tokens","number","level"] ["tokens","number"] (aG mQ):=⟨rfl,rfl,rfl,by decide +kernel,rfl,by decide +kernel,by decide +kernel⟩
theorem zp:aR ["self"] ["self"] (aG mT):=⟨rfl,rfl,rfl,by decide +kernel,rfl,by decide +kernel,by decide +kernel⟩
theorem AB:aR ["self","numbers"] ["self","numbers"] (aG nR):=⟨rfl,rfl,rfl,by decide +kernel,rfl,by decide +kernel,by decide +kernel⟩
theorem mM:aR ["calls","book","row","given","answer"] ["calls"] (aG oS):=⟨rfl,rfl,rfl,by decide +kernel,rfl,by decide +kernel,by decide +kernel⟩
theorem kK:aR ["book","row","call","needing"] ["book","row"] (aG lL):=⟨rfl,rfl,rfl,by decide +kernel,rfl,by decide +kernel,by decide +kernel⟩
theorem sR:aR ["row","number"] ["row"] (aG o9):=⟨rfl,rfl,rfl,by decide +kernel,rfl,by decide +kernel,by decide +kernel⟩
theorem qj:aR ["row","length","begin"] ["row"] (aG sx):=⟨rfl,rfl,rfl,by decide +kernel,rfl,by decide +kernel,by decide +kernel⟩
theorem fO:aR ["book","text","reading","fault","lines","wrong","line"] ["book","text"] (aG o7):=⟨rfl,rfl,rfl,by decide +kernel,rfl,by decide +kernel,by decide +kernel⟩
theorem nH:aR ["book","number","line","name"] ["book","number"] (aG pb):=⟨rfl,rfl,rfl,by decide +kernel,rfl,by decide +kernel,by decide +kernel⟩
theorem nI:aR ["book","name","number","line"] ["book","name"] (aG ph):=⟨rfl,rfl,rfl,by decide +kernel,rfl,by decide +kernel,by decide +kernel⟩
theorem Cs:aR ["book","number"] ["book","number"] (aG o6):=⟨rfl,rfl,rfl,by decide +kernel,rfl,by decide +kernel,by decide +kernel⟩
theorem mL:aR ["book","whole","printed"] ["book"] (aG nM):=⟨rfl,rfl,rfl,by decide +kernel,rfl,by decide +kernel,by decide +kernel⟩
theorem Ge:aR ["text"] ["text"] (aG so):=⟨rfl,rfl,rfl,by decide +kernel,rfl,by decide +kernel,by decide +kernel⟩
theorem Ay:aR ["book","needing","needed"] ["book","needing","needed"] (aG nN):=⟨rfl,rfl,rfl,by decide +kernel,rfl,by decide +kernel,by decide +kernel⟩
theorem yJ:aR ["book","number","line"] ["book","number"] (aG ug):=⟨rfl,rfl,rfl,by decide +kernel,rfl,by decide +kernel,by decide +kernel⟩
theorem o4:aR ["line","sign"] ["line"] (aG qp):=⟨rfl,rfl,rfl,by decide +kernel,rfl,by decide +kernel,by decide +kernel⟩
structure Def(K:PySem.W.Frag)(mg:Str->Option Value)(x:Str)(st:Stmt)(f:Addr)(ps:List Str):Prop where
 fn:∃fd,EE K x x st f fd/\Binds K fd ps []
 at_:mg x=some (.ref f)
theorem Def.ok{P:Program}{w:World}{K:PySem.W.Frag}{mg:Str->Option Value}{base:Heap}{x:Str}{st:Stmt}{f:Addr}{N ps:List Str}{k:Nat}{sp:Sp}(D:Def K mg x st f ps)(S:aR N ps (aG st))(len:∀vs H Q E,sp vs H Q E->vs.length=ps.length)
  (hbody:∀(cdv:Value)(A:Around)(outer:List Env)(s:Shared)(H:Hp)(vs:List V)(Q:VK)(E:XK),eO k (A.deeper (envOfC x (aG st) s.heap.objs.size f cdv))->sp vs H Q E->
   ∃t,qU (xF xU P w K mg base N x (aG st) f cdv A outer s H E).GK (gz st) t/\t {nx:=fun _ H'=>Q .bA H',rt:=Q} (start N vs) H):Ok P w K mg base (k+1) f ps sp:=by
 obtain⟨fd,F,b⟩:=D.fn;exact⟨fd,F.ok S len hbody,b,F.kp⟩
structure vF(K:PySem.W.Frag)(C:Addr)(qual:Str)(st:Stmt)(ps:List Str)(outs:List (List V)):Prop where
 ex:∃f fd,Mk K C f/\(∃(oc:Value)(od:Option Addr)(dV kV doc pm:Value)(an:Option Addr)(cdv ct:Value)(osl:Array (Option Value)),
  fd=PySem.W.fnOf "__init__" qual (iM st) (gz st) (aG st) dV kV doc pm an cdv ct/\K.lookup f=some ⟨oc,od,.func fd,osl⟩/\PySem.W.codeIn K cdv qual=true)/\∀dvs∈outs,∃ds,Vals dvs ds/\Binds K fd ps ds
theorem vF.ok{P:Program}{w:World}{K:PySem.W.Frag}{mg:Str->Option Value}{base:Heap}{C:Addr}{qual:Str}{st:Stmt}{N ps:List Str}{outs:List (List V)}{k:Nat}{sp:Sp}(D:vF K C qual st ps outs)(S:aR N ps (aG st))(len:∀vs H Q E,sp vs H Q E->vs.length=ps.length)
  (hbody:∀(f:Addr)(cdv:Value)(A:Around)(outer:List Env)(s:Shared)(H:Hp)(vs:List V)(Q:VK)(E:XK),eO k (A.deeper (envOfC qual (aG st) s.heap.objs.size f cdv))->sp vs H Q E->
   ∃t,qU (xF xU P w K mg base N qual (aG st) f cdv A outer s H E).GK (gz st) t/\t {nx:=fun _ H'=>Q .bA H',rt:=Q} (start N vs) H):
  ∀dvs∈outs,lX P w K mg base (k+1) C dvs sp:=by
 obtain⟨f,fd,M,⟨oc,od,dV,kV,doc,pm,an,cdv,ct,osl,rfl,lk,hcd⟩,hb⟩:=D.ex;intro dvs hd;obtain⟨ds,hv,b⟩:=hb dvs hd;refine⟨f,_,ps,ds,M,PX lk hcd S len fun A outer s H vs Q E hr hsp=>?_,b,hv⟩;obtain⟨t,h,q⟩:=hbody f cdv A outer s H vs Q E hr hsp;exact⟨t,h.GK,q⟩
structure qT(K:PySem.W.Frag)(a:Addr)(ys:List V):Prop where
 sq:∀H:Hp,iR K H a ys
 ty:∃o,K.lookup a=some o/\o.cls=.type "tuple"/\o.dict=none
structure Ad where
 y6:Addr
 y8:Addr
 xo:Addr
 Br:Addr
 Bu:Addr
 tM:Addr
 Bs:Addr
 vj:Addr
 rH:Addr
 xj:Addr
 Eb:Addr
 xk:Addr
 Hm:Addr
 xp:Addr
 om:Addr
 zX:Addr
 xu:Addr
 ng:Addr
 xt:Addr
 xq:Addr
 uL:Addr
 lV:Addr
 xn:Addr
 By:Addr
 uK:Addr
 xr:Addr
 sG:Addr
 lT:Addr
 uJ:Addr
 Hn:Addr
 J0:Addr
 lS:Addr
 lU:Addr
 kP:Addr
 Bx:Addr
 Ed:Addr
 Nr:Addr
 J2:Addr
 vq:Addr
 vp:Addr
 Ee:Addr
 za:Addr
 pJ:Addr
 tG:Addr
 xi:Addr
 nc:Addr
 rG:Addr
 Bw:Addr
 vt:Addr
 Ec:Addr
 tH:Addr
 kZ:Addr
 Ho:Addr
 tL:Addr
 xm:Addr
 vn:Addr
 Bt:Addr
 rJ:Addr
 rK:Addr
 oZ:Addr
 qM:Addr
 vk:Addr
 y9:Addr
 vi:Addr
 vm:Addr
 vo:Addr
 vh:Addr
 tI:Addr
 y4:Addr
 tJ:Addr
 Bv:Addr
 xl:Addr
 gn:Addr
 d9:Addr
 eD:Addr
 fe:Addr
 fU:Addr
 fV:Addr
 iS:Addr
 rY:Addr
 nq:Addr
 yf:Addr
 pF:Addr
 Ag:Addr
 Ke:Addr
 EB:Addr
 lq:Addr
 iQ:Addr
 cu:Addr
 iE:Addr
 kf:Addr
 ye:Addr
 xR:Addr
 rV:Addr
 uV:Addr
def eg:List V:=[.str "size",.str "in",.str "let",.str "out"]
def lE:List V:=[.str "u8",.str "i8",.str "u16",.str "i16",.str "u32",.str "i32",.str "u64",.str "i64",.str "i128"]
def ki:List V:=[.str "size",.str "in",.str "let",.str "out",.str "if",.str "sum",.str "product",.str "least",.str "greatest",.str "min",.str "max",.str "abs",.str "quo",.str "rem",.str "high",.str "rotl",.str "ones",.str "lead",.str "trail"]
def oP:List V:=[.int 9,.int 10,.int 13,.int 32]
def jc:List (List Key×V):=[([Sum.inl 61,Sum.inl 61],.str "=="),([Sum.inl 60,Sum.inl 61],.str "<="),([Sum.inl 60,Sum.inl 60],.str "<<"),([Sum.inl 62,Sum.inl 62],.str ">>")]
def mZ:List (Key×V):=[(Sum.inl 37,.str "percent"),(Sum.inl 38,.str "&"),(Sum.inl 40,.str "("),(Sum.inl 41,.str ")"),(Sum.inl 42,.str "*"),(Sum.inl 43,.str "+"),(Sum.inl 44,.str ","),(Sum.inl 45,.str "-"),(Sum.inl 47,.str "/"),(Sum.inl 58,.str ":"),(Sum.inl 59,.str ";"),(Sum.inl 60,.str "<"),(Sum.inl 61,.str "="),(Sum.inl 91,.str "["),(Sum.inl 93,.str "]"),(Sum.inl 94,.str "^"),(Sum.inl 124,.str "|"),(Sum.inl 126,.str "~")]
def ei:List V:=[.str "<",.str "<=",.str "=="]
def dP:List (Key×V):=[(Sum.inr "|",.int 0),(Sum.inr "^",.int 1),(Sum.inr "&",.int 2),(Sum.inr "<<",.int 3),(Sum.inr ">>",.int 3),(Sum.inr "+",.int 4),(Sum.inr "-",.int 4),(Sum.inr "*",.int 5),(Sum.inr "/",.int 5),(Sum.inr "percent",.int 5)]
def Me:List V:=[.int (-1),.int 1]
def dF:List (Key×V):=[(Sum.inr "abs",.int 1),(Sum.inr "ones",.int 1),(Sum.inr "lead",.int 1),(Sum.inr "trail",.int 1),(Sum.inr "min",.int 2),(Sum.inr "max",.int 2),(Sum.inr "quo",.int 2),(Sum.inr "rem",.int 2),(Sum.inr "high",.int 2),(Sum.inr "rotl",.int 2),(Sum.inr "if",.int 3)]
def dD:List V:=[.str "sum",.str "product",.str "least",.str "greatest"]
def qG(A:Ad):List (Key×V):=[(Sum.inr "line",.ref A.xp),(Sum.inr "line name",.ref A.om),(Sum.inr "end",.ref A.zX),(Sum.inr "axes",.ref A.xu),(Sum.inr "first axis",.ref A.ng),(Sum.inr "axis",.ref A.xt),(Sum.inr "less",.ref A.xq),(Sum.inr "bound",.ref A.uL),(Sum.inr "behind axis",.ref A.lV),(Sum.inr "colon",.ref A.uK),(Sum.inr "kind",.ref A.xr),(Sum.inr "equals",.ref A.sG),(Sum.inr "first value",.ref A.lT),(Sum.inr "value",.ref A.uJ),(Sum.inr "parenthesis",.ref A.lS),(Sum.inr "behind name",.ref A.lU),(Sum.inr "behind value",.ref A.kP)]
def iX:List V:=[.str "(",.str "["]
def gJ:List V:=[.str ")",.str "]"]
def iy:List V:=[.str "-",.str "~"]
structure Txt(P:Program)(w:World)(K:PySem.W.Frag)(mg:Str->Option Value)(A:Ad):Prop where
 zb:Def K mg "tokens_of" su A.y6 ["text"]
 zc:Def K mg "token_end" sv A.y8 ["text","place"]
 xE:Def K mg "digits_end" qu A.xo ["text","place"]
 BG:Def K mg "word_end" uc A.Br ["text","place"]
 ni:Def K mg "is_digit" uf A.Bu ["byte"]
 kD:Def K mg "is_word_byte" nP A.tM ["byte"]
 BH:Def K mg "token_of" ud A.Bs ["piece","place"]
 vy:Def K mg "number_form" o8 A.vj ["digits"]
 rN:Def K mg "without_zeros" mO A.rH ["digits"]
 xy:Def K mg "word_token" qm A.xj ["piece","place"]
 Ei:Def K mg "spelled" wk A.Eb ["word_bytes"]
 xA:Def K mg "read_lines" qo A.xk ["tokens","length"]
 Hu:Def K mg "stands" zq A.Hm ["reader","token"]
 NB:Def K mg "at_line" wu A.xp ["reader","token"]
 Di:Def K mg "at_line_name" nQ A.om ["reader","token"]
 Pc:Def K mg "at_end" zu A.zX ["reader","token"]
 NF:Def K mg "at_axes" wA A.xu ["reader","token"]
 BM:Def K mg "at_first_axis" mR A.ng ["reader","token"]
 El:Def K mg "at_axis" wz A.xt ["reader","token"]
 NC:Def K mg "at_less" wx A.xq ["reader","token"]
 BN:Def K mg "at_bound" uo A.uL ["reader","token"]
 z4:Def K mg "at_behind_axis" lK A.lV ["reader","token"]
 xD:Def K mg "end_ranges" qt A.xn ["frame","ranges"]
 BK:Def K mg "end_axes" uj A.By ["line","rank"]
 LC:Def K mg "at_colon" um A.uK ["reader","token"]
 ND:Def K mg "at_kind" wy A.xr ["reader","token"]
 Je:Def K mg "at_equals" sA A.sG ["reader","token"]
 z1:Def K mg "at_first_value" lI A.lT ["reader","token"]
 BL:Def K mg "at_value" uk A.uJ ["reader","token"]
 Hv:Def K mg "prefix" zr A.Hn ["reader"]
 Ka:Def K mg "group" Cw A.J0 ["reader"]
 zZ:Def K mg "at_parenthesis" lH A.lS ["reader","token"]
 z3:Def K mg "at_behind_name" lJ A.lU ["reader","token"]
 pM:Def K mg "at_behind_value" kM A.kP ["reader","token"]
 uQ:Def K mg "end_line" ui A.Bx ["reader"]
 rQ:Def K mg "mention" wo A.Ed ["reader","purpose","token"]
 xB:Def K mg "nest" Gi A.Nr ["reader","frame"]
 Dh:Def K mg "close" Cy A.J2 ["reader"]
 ll:Def K mg "begin_value" pk A.vq ["frame"]
 lj:Def K mg "end_operand" pj A.vp ["reader","row"]
 Ek:Def K mg "compare" wq A.Ee ["frame"]
 zd:Def K mg "go_on_row" sy A.za ["frame","level"]
 pL:Def K mg "operands_so_far" kL A.pJ ["frame","level"]
 tO:Def K mg "row_of_value" nJ A.tG ["frame"]
 xx:Def K mg "wrong_name" ql A.xi ["lines"]
 jd:Def K mg "first_of_each_name" ja A.nc ["lines"]
 rM:Def K mg "wrong_mention" mN A.rG ["line","first_lines"]
 BJ:Def K mg "fault_of" uh A.Bw ["mention","in_force","named"]
 vC:Def K mg "array_fault" pq A.vt ["mention","named"]
 Ej:Def K mg "reaches" wm A.Ec ["lines","needing","needed"]
 tP:Def K mg "printed_line" nL A.tH ["tokens"]
 k6:Def K mg "needless_parentheses" iz A.kZ ["tokens"]
 zY:Def K mg "loosen" zt A.Ho ["around","level"]
 kC:Def K mg "joined_level" nO A.tL ["tokens","number"]
 xC:Def K mg "ends_value" qr A.xm ["token"]
 vA:Def K mg "is_needless" pd A.vn ["tokens","closed","end"]
 BI:Def K mg "is_group" ue A.Bt ["tokens","number"]
 rO:Def K mg "wanted_behind" mP A.rJ ["tokens","number"]
 rP:Def K mg "wanted_before" mQ A.rK ["tokens","number"]
 Em:Def K mg "answers" oS A.oZ ["calls"]
 qO:Def K mg "answer_to_next" lL A.qM ["book","row"]
 gE:Def K mg "next_number" o9 A.vk ["row"]
 sI:Def K mg "next_list" sx A.y9 ["row"]
 vx:Def K mg "read_answer" o7 A.vi ["book","text"]
 vz:Def K mg "line_answer" pb A.vm ["book","number"]
 vB:Def K mg "find_answer" ph A.vo ["book","name"]
 vw:Def K mg "text_answer" o6 A.vh ["book","number"]
 tQ:Def K mg "print_answer" nM A.tI ["book"]
 sH:Def K mg "told_text" so A.y4 ["text"]
 tR:Def K mg "needs_answer" nN A.tJ ["book","needing","needed"]
 uP:Def K mg "is_array" ug A.Bv ["book","number"]
 qN:Def K mg "name_bytes" qp A.xl ["line"]
 R7:mg "Line"=some (.ref A.gn)
 SK:nA K A.gn
 Sl:vF K A.gn "Line.__init__" mS ["self","role"] [[]]
 IT:bW K A.gn "role"
 IV:bW K A.gn "name"
 GW:bW K A.gn "place"
 IW:bW K A.gn "kind"
 IU:bW K A.gn "rank"
 Fg:bW K A.gn "tokens"
 A8:bW K A.gn "mentions"
 D1:mg "Mention"=some (.ref A.d9)
 NK:nA K A.d9
 D5:vF K A.d9 "Mention.__init__" jO ["self","purpose","name","place","count"] [[],[.int 0]]
 yA:bW K A.d9 "purpose"
 CY:bW K A.d9 "name"
 A6:bW K A.d9 "place"
 A7:bW K A.d9 "count"
 pW:mg "Token"=some (.ref A.eD)
 Q7:nA K A.eD
 JR:vF K A.eD "Token.__init__" lM ["self","form","place","printed","word"] [[],[.str ""]]
 GV:bW K A.eD "form"
 Fb:bW K A.eD "place"
 A2:bW K A.eD "printed"
 GU:bW K A.eD "word"
 tq:mg "Frame"=some (.ref A.fe)
 Q8:nA K A.fe
 QU:vF K A.fe "Frame.__init__" lN ["self","closer","fewest","most"] [[]]
 C1:bW K A.fe "closer"
 C0:bW K A.fe "fewest"
 GY:bW K A.fe "most"
 Fh:bW K A.fe "begun"
 zR:bW K A.fe "grouping"
 Fi:bW K A.fe "array"
 CZ:bW K A.fe "ranges"
 zS:bW K A.fe "compared"
 GX:bW K A.fe "rows"
 A9:bW K A.fe "operand"
 zQ:bW K A.fe "prefixes"
 OU:mg "Reader"=some (.ref A.fU)
 Pf:nA K A.fU
 O3:vF K A.fU "Reader.__init__" kN ["self"] [[]]
 CV:bW K A.fU "state"
 Fe:bW K A.fU "done"
 zP:bW K A.fU "current"
 A4:bW K A.fU "frames"
 A3:bW K A.fU "nested"
 Ff:bW K A.fU "axes"
 yz:bW K A.fU "function"
 G3:mg "Opened"=some (.ref A.fV)
 Pg:nA K A.fV
 O4:vF K A.fV "Opened.__init__" kO ["self","number"] [[]]
 A5:bW K A.fV "number"
 CW:bW K A.fV "level"
 R8:mg "Book"=some (.ref A.iS)
 SM:nA K A.iS
 Sm:vF K A.iS "Book.__init__" mT ["self"] [[]]
 C2:bW K A.iS "program"
 C3:bW K A.iS "printed"
 Tz:mg "Row"=some (.ref A.rY)
 TX:nA K A.rY
 TH:vF K A.rY "Row.__init__" nR ["self","numbers"] [[]]
 Fd:bW K A.rY "numbers"
 Fc:bW K A.rY "reached"
 xc:mg "LINE_WORDS"=some (.ref A.nq)
 qd:qT K A.nq eg
 xb:gA mg "SIZE" 0
 Su:gA mg "IN" 1
 JV:vG mg "BOUND" "bound"
 C9:vG mg "RANGE" "range"
 QV:vG mg "VALUE" "value"
 Df:vG mg "ARRAY" "array"
 PV:vG mg "END" "end"
 uG:vG mg "NUMBER" "number"
 tF:vG mg "NAME" "name"
 Nk:vG mg "KIND" "kind"
 Lw:vG mg "BAD" "bad"
 JU:mg "KINDS"=some (.ref A.yf)
 Cc:qT K A.yf lE
 Fl:mg "FIXED_WORDS"=some (.ref A.pF)
 EH:qT K A.pF ki
 O9:mg "BLANKS"=some (.ref A.Ag)
 Of:qT K A.Ag oP
 JT:mg "PAIRS"=some (.ref A.Ke)
 JL:HS P w K A.Ke jc
 Ni:mg "SINGLES"=some (.ref A.EB)
 Nb:rX P w K A.EB mZ
 tE:gA mg "NUMBER_LIMIT" 170141183460469231731687303715884105728
 Dd:gA mg "LONGEST_NAME" 15
 yB:vG mg "SIGNS_FROM_ZERO" "0123456789:;<=>?@ABCDEFGHIJKLMNOPQRSTUVWXYZ[\\]^_`abcdefghijklmnopqrstuvwxyz"
 oh:gA mg "BYTE_OF_ZERO" 48
 y2:gA mg "MOST_AXES" 4
 Bo:gA mg "MOST_OPERANDS" 16
 vf:gA mg "MOST_NESTED" 20
 vg:mg "COMPARISONS"=some (.ref A.lq)
 uZ:qT K A.lq ei
 m6:mg "ROW_LEVELS"=some (.ref A.iQ)
 m4:rX P w K A.iQ dP
 zW:gA mg "LEVELS" 6
 og:mg "NO_ROW"=some (.ref A.cu)
 Oe:qT K A.cu Me
 sE:mg "FUNCTIONS"=some (.ref A.iE)
 kX:rX P w K A.iE dF
 qJ:mg "REDUCTIONS"=some (.ref A.kf)
 qc:qT K A.kf dD
 QW:mg "STEPS"=some (.ref A.ye)
 JK:rX P w K A.ye (qG A)
 Hf:gA mg "MOST_SIZES" 8
 Fj:gA mg "MOST_ARRAYS" 16
 xf:gA mg "FINE" 0
 JS:gA mg "TAKEN" 2
 xa:gA mg "UNKNOWN" 3
 Hc:gA mg "WRONG_RANK" 4
 Lr:gA mg "TOO_MANY" 5
 Q0:gA mg "BLANK" 32
 pB:gA mg "VALUE_LEVEL" (-1)
 De:gA mg "EITHER_LEVEL" 0
 tD:gA mg "SIGNED_LEVEL" 6
 Nj:mg "OPENERS"=some (.ref A.xR)
 Mj:qT K A.xR iX
 D8:mg "CLOSERS"=some (.ref A.rV)
 DH:qT K A.rV gJ
 Lv:mg "PREFIXES"=some (.ref A.uV)
 Kp:qT K A.uV iy
 Sr:gA mg "READ" 0
 QZ:gA mg "LINES" 1
 Ss:gA mg "LINE" 2
 Sv:gA mg "FIND" 3
 Sq:gA mg "TEXT" 4
 QX:gA mg "PRINT" 5
 QY:gA mg "NEEDS" 6
 Dc:gA mg "LONGEST_TEXT" 1024
 Jc:gA mg "LINE_FEED" 10
 Lu:gA mg "TOO_LONG" (-6)
 He:gA mg "NO_PROGRAM" (-1)
 rE:gA mg "NO_LINE" (-1)
 R4:mg "any"=none
 jT:mg "enumerate"=none
 gi:mg "len"=none
 MV:mg "max"=none
 MU:mg "min"=none
 R3:mg "ord"=none
 ON:mg "range"=none
 GQ:mg "tuple"=none
end aJ
namespace aJ
open PySem PySem.Spec PyProof.Rows L2
section
variable{P:Program}{w:World}{K:PySem.W.Frag}{h:Heap}{mg:Str->Option Value}
def Bd(x qual:Str)(st:Stmt)(ps:List Str):Prop:=∀(kV doc pm:Value)(an:Option Addr)(cdv ct:Value)(us:List Value),us.length=ps.length->bindArgs (PySem.W.fnOf x qual (iM st) (gz st) (aG st) .none kV doc pm an cdv ct) ⟨us,[]⟩=pure (ps.zip us)
def S6(D:Addr)(u:Value)(qual:Str)(st:Stmt)(ps:List Str):Prop:=(∀(kV doc pm:Value)(an:Option Addr)(cdv ct:Value)(us:List Value),us.length=ps.length->∃k,bindArgs (PySem.W.fnOf "__init__" qual (iM st) (gz st) (aG st) (.ref D) kV doc pm an cdv ct) ⟨us,[]⟩=seqItems? (.ref D) >>= k/\k (some #[u])=pure (ps.zip us))/\
 ∀(kV doc pm:Value)(an:Option Addr)(cdv ct:Value)(us:List Value),us.length=ps.tail.length->∃k,bindArgs (PySem.W.fnOf "__init__" qual (iM st) (gz st) (aG st) (.ref D) kV doc pm an cdv ct) ⟨us,[]⟩=seqItems? (.ref D) >>= k/\k (some #[u])=pure (ps.zip (us++[u]))
theorem SH{x:Str}{st:Stmt}{f:Addr}{ps:List Str}{oc:Value}{od an:Option Addr}{osl:Array (Option Value)}{kV doc pm cdv ct:Value}(X:K.In h)(G:h.Ns mainGlobals mg)
  (b:Bd x x st ps)
  (a:PySem.W.nsIn K mainGlobals x=some (some (.ref f))) (l:K.lookup f=some ⟨oc,od,.func (PySem.W.fnOf x x (iM st) (gz st) (aG st) .none kV doc pm an cdv ct),osl⟩)
  (c:PySem.W.codeIn K cdv x=true) (k:PySem.W.keepIn K (.ref f)=true):Def K mg x st f ps:=⟨⟨_,Nl l c k,(Nl l c k).binds b⟩,PySem.W.mg_of X G a⟩
theorem tw{qual:Str}{st:Stmt}{C f:Addr}{ps:List Str}{oc:Value}{od an:Option Addr}{osl:Array (Option Value)}{kV doc pm cdv ct:Value}
  (b:Bd "__init__" qual st ps)
  (mk:PySem.W.makesIn K C=true) (a:PySem.W.findIn K (.ref C) "__init__"=some (some (.ref f))) (i:PySem.W.isFn K (.ref f)=true) (kc:PySem.W.keepIn K (.ref C)=true)
  (l:K.lookup f=some ⟨oc,od,.func (PySem.W.fnOf "__init__" qual (iM st) (gz st) (aG st) .none kV doc pm an cdv ct),osl⟩) (c:PySem.W.codeIn K cdv qual=true):vF K C qual st ps [[]]:=
 ⟨f,_,⟨mk,a,i,kc⟩,⟨oc,od,.none,kV,doc,pm,an,cdv,ct,osl,rfl,l,c⟩,fun dvs hd=>by
  cases bI.mp hd;exact⟨[],.nil,.all (b kV doc pm an cdv ct)⟩⟩
theorem JQ{qual:Str}{st:Stmt}{C f D:Addr}{ps:List Str}{v:V}{u:Value}{oc oc2:Value}{od od2 an:Option Addr}{osl osl2:Array (Option Value)}{kV doc pm cdv ct:Value}{n:Nat}
  (b:S6 D u qual st ps)
  (mk:PySem.W.makesIn K C=true) (a:PySem.W.findIn K (.ref C) "__init__"=some (some (.ref f))) (i:PySem.W.isFn K (.ref f)=true) (kc:PySem.W.keepIn K (.ref C)=true)
  (l:K.lookup f=some ⟨oc,od,.func (PySem.W.fnOf "__init__" qual (iM st) (gz st) (aG st) (.ref D) kV doc pm an cdv ct),osl⟩) (c:PySem.W.codeIn K cdv qual=true)
  (lD:K.lookup D=some ⟨oc2,od2,.seq #[u] n,osl2⟩) (r:RelV v u):vF K C qual st ps [[],[v]]:=
 ⟨f,_,⟨mk,a,i,kc⟩,⟨oc,od,.ref D,kV,doc,pm,an,cdv,ct,osl,rfl,l,c⟩,fun dvs hd=>by
  rcases aT.mp hd with rfl|hd
  ·refine⟨[],.nil,fun s us X hl=>?_⟩;rw[aK]at hl⊢;obtain⟨k,h1,h2⟩:=b.1 kV doc pm an cdv ct us hl;exact PySem.W.binds_K X rfl lD rfl h1 h2
  ·cases bI.mp hd;refine⟨[u],.cons r .nil,fun s us X hl=>?_⟩;obtain⟨k,h1,h2⟩:=b.2 kV doc pm an cdv ct us (by rw[aq,aX]at hl;rw[List.length_tail];omega);exact PySem.W.binds_K X rfl lD rfl h1 h2⟩
theorem Rp{a:Addr}{ys:List V}{its:Array Value}{n:Nat}{sl:Array (Option Value)}(l:K.lookup a=some ⟨.type "tuple",none,.seq its n,sl⟩)(v:Vals ys its.toList)(z:decide (ys.length<=100)=true):qT K a ys:=by
 have e:=Vals.length v;have z':=ab z;refine⟨fun H=>.inr ⟨_,its,n,l,rfl,rfl,?_,v⟩,_,l,rfl,rfl⟩;have e2:its.toList.length=its.size:=ny;rw[<-e2,<-e];exact ck z' (by decide)
def uW(w:World):List DictEntry->List (Key×V)->Prop
 |[],[]=>True
 |e::es,kv::kvs=>rB kv.1 e.key=true/\e.hash=G7 w kv.1/\RelV kv.2 e.val/\uW w es kvs
 |_,_=>False
theorem O6(w:World)(x:Str):PyData.keyHash w.params x=G7 w (.inr x):=rfl
theorem O7(w:World){z y:Int}(e:decide (y=hashInt z)=true):y=G7 w (.inl z):=ab e
theorem rL{x:Str}{t:Tok}{v:V}{u:Value}{es:List DictEntry}{kvs:List (Key×V)}(r:RelV v u)(q:uW w es kvs):uW w (⟨PyData.keyHash w.params x,.str x t,u⟩::es) ((.inr x,v)::kvs):=⟨D3 _ _,O6 w x,r,q⟩
theorem FN{z y:Int}{t:Tok}{v:V}{u:Value}{es:List DictEntry}{kvs:List (Key×V)}(e:decide (y=hashInt z)=true)(r:RelV v u)(q:uW w es kvs):uW w (⟨y,.int z t,u⟩::es) ((.inl z,v)::kvs):=⟨D4 _ _,O7 w e,r,q⟩
theorem Nt:∀{es:List DictEntry}{kvs:List (Key×V)},uW w es kvs->∃vs:List (Key×Value),KV kvs vs/\Pairs (dk P w) es vs/\vs.map (·.1)=kvs.map (·.1)/\∀e∈es,∃k,rB k e.key=true/\e.hash=G7 w k
 |[],[],_=>⟨[],.nil,.nil,rfl,fun _ h=>(nomatch h)⟩
 |e::es,kv::kvs,h=>by
  obtain⟨h1,h2,h3,h4⟩:=h;obtain⟨vs,a,b,c,d⟩:=Nt h4;refine⟨(kv.1,e.val)::vs,.cons ⟨rfl,h3⟩ a,.cons h1 rfl b,by rw[a8,a8,c],fun e' he=>?_⟩
  rcases aT.mp he with rfl|he
  ·exact⟨kv.1,h1,h2⟩
  ·exact d e' he
 |[],_::_,h=>h.elim
 |_::_,[],h=>h.elim
theorem uE{a:Addr}{kvs:List (Key×V)}{es:Array DictEntry}{n:Nat}(s:(a==sysModules)=false)(l:K.lookup a=some ⟨.type "dict",none,.dict es n,#[]⟩)(e:uW w es.toList kvs)(d:(kvs.map (·.1)).Nodup):rX P w K a kvs:=by
 obtain⟨vs,h1,h2,h3,h4⟩:=Nt (P:=P) e;exact⟨s,vs,h1,fun h X=>⟨_,es,n,X _ _ l,⟨rfl,rfl,rfl⟩,rfl,fun e he=>h4 e (Array.mem_toList_iff.mpr he),h2,by rw[h3];exact d⟩⟩
def HV(K:PySem.W.Frag):List DictEntry->List (List Key×V)->Prop
 |[],[]=>True
 |e::es,kv::kvs=>(∃(is:List Int)(b:Addr)(its:Array Value)(n:Nat)(sl:Array (Option Value)),kv.1=is.map Sum.inl/\e.key=.ref b/\K.lookup b=some ⟨.type "tuple",none,.seq its n,sl⟩/\Vals (is.map V.int) its.toList/\e.hash=reduceHash (Builtin.Tuple.tupleHashOf (is.map hashInt)))/\RelV kv.2 e.val/\HV K es kvs
 |_,_=>False
theorem FL(is:List Int){y:Int}{b:Addr}{its:Array Value}{n:Nat}{sl:Array (Option Value)}{v:V}{u:Value}{es:List DictEntry}{kvs:List (List Key×V)}(l:K.lookup b=some ⟨.type "tuple",none,.seq its n,sl⟩)(vs:Vals (is.map V.int) its.toList)(e:decide (y=reduceHash (Builtin.Tuple.tupleHashOf (is.map hashInt)))=true)(r:RelV v u)(q:HV K es kvs):HV K (⟨y,.ref b,u⟩::es) ((is.map Sum.inl,v)::kvs):=⟨⟨is,b,its,n,sl,rfl,rfl,l,vs,ab e⟩,r,q⟩
theorem rD{is:List Int}{us:List Value}(v:Vals (is.map V.int) us):ItemsAre (dk P w) (is.map Sum.inl) us:=by
 induction is generalizing us with
 |nil=>cases v;exact .nil
 |cons i is ih=>
  cases v with
  |cons r t=>
   obtain⟨t',rfl⟩:=r;exact .cons (yW P w i t') (ih t)
theorem J4:∀{es:List DictEntry}{kvs:List (List Key×V)},HV K es kvs->∃xs:List (List Key×Addr×Value),Paired (fun(p:List Key×V)(q:List Key×Addr×Value)=>p.1=q.1/\RelV p.2 q.2.2) kvs xs/\es=xs.map (entryOfKey (tupleKind (dk P w)))/\xs.map (·.1)=kvs.map (·.1)/\∀h:Heap,K.In h->∀x∈xs,(tupleKind (dk P w)).is h x.1 x.2.1
 |[],[],_=>⟨[],.nil,rfl,rfl,fun _ _ _ h=>(nomatch h)⟩
 |⟨hs,ky,vl⟩::es,(ks,v)::kvs,h=>by
  obtain⟨⟨is,b,its,n,sl,h1,h2,h3,h4,h5⟩,h6,h7⟩:=h;obtain⟨xs,a,b',c,d⟩:=J4 h7;dsimp only at h1 h2 h5 h6;subst h1 h2 h5;refine⟨(is.map Sum.inl,b,vl)::xs,.cons ⟨rfl,h6⟩ a,?_,by rw[a8,a8,c],fun h X x hx=>?_⟩
  ·rw[a8,<-b'];congr 1;show _=(⟨tupleKeyHash (dk P w) (is.map Sum.inl),.ref b,vl⟩:DictEntry);unfold tupleKeyHash;rw[jM];rfl
  ·rcases aT.mp hx with rfl|hx
   ·exact⟨_,its,n,X _ _ h3,rfl,rfl,rD h4⟩
   ·exact d h X x hx
 |[],_::_,h=>h.elim
 |_::_,[],h=>h.elim
theorem M9{a:Addr}{kvs:List (List Key×V)}{es:Array DictEntry}{n:Nat}(s:(a==sysModules)=false)(l:K.lookup a=some ⟨.type "dict",none,.dict es n,#[]⟩)(e:HV K es.toList kvs)(d:(kvs.map (·.1)).Nodup):HS P w K a kvs:=by
 obtain⟨xs,h1,h2,h3,h4⟩:=J4 (P:=P) (w:=w) e;exact⟨s,xs,h1,fun h X=>⟨_,es,n,X _ _ l,⟨rfl,rfl,rfl⟩,rfl,h2,fun x hx=>h4 h X x hx,by rw[h3];exact d⟩⟩
theorem So{x:Str}{z:Int}{t:Tok}(X:K.In h)(G:h.Ns mainGlobals mg)(a:PySem.W.nsIn K mainGlobals x=some (some (.int z t))):gA mg x z:=⟨t,PySem.W.mg_of X G a⟩
theorem Sn{x:Str}{z:Str}{t:Tok}(X:K.In h)(G:h.Ns mainGlobals mg)(a:PySem.W.nsIn K mainGlobals x=some (some (.str z t))):vG mg x z:=⟨t,PySem.W.mg_of X G a⟩
theorem SJ{C:Addr}(pg:PySem.W.plainGet K C Str.empty=true)(hd:PySem.W.hasDictIn K C=true)(po:PySem.W.plainOver K C=true)(sa:PySem.W.findIn K (.ref C) "__setattr__"=some (some (.builtin "object.__setattr__"))):nA K C:=⟨pg,hd,po,sa⟩
theorem Tx{C:Addr}{f:Str}(e:PySem.W.findIn K (.ref C) f=some none):bW K C f:=e
end
end aJ
namespace aJ
open PySem PySem.Spec PyProof.Rows L2
theorem Jl:Bd "tokens_of" "tokens_of" su ["text"]:=fun _ _ _ _ _ _ us hl=>match us,hl with|[_],_=>rfl
theorem Jm:Bd "token_end" "token_end" sv ["text","place"]:=fun _ _ _ _ _ _ us hl=>match us,hl with|[_,_],_=>rfl
theorem HM:Bd "digits_end" "digits_end" qu ["text","place"]:=fun _ _ _ _ _ _ us hl=>match us,hl with|[_,_],_=>rfl
theorem LJ:Bd "word_end" "word_end" uc ["text","place"]:=fun _ _ _ _ _ _ us hl=>match us,hl with|[_,_],_=>rfl
theorem LM:Bd "is_digit" "is_digit" uf ["byte"]:=fun _ _ _ _ _ _ us hl=>match us,hl with|[_],_=>rfl
theorem Dr:Bd "is_word_byte" "is_word_byte" nP ["byte"]:=fun _ _ _ _ _ _ us hl=>match us,hl with|[_],_=>rfl
theorem LK:Bd "token_of" "token_of" ud ["piece","place"]:=fun _ _ _ _ _ _ us hl=>match us,hl with|[_,_],_=>rfl
theorem Fs:Bd "number_form" "number_form" o8 ["digits"]:=fun _ _ _ _ _ _ us hl=>match us,hl with|[_],_=>rfl
theorem BV:Bd "without_zeros" "without_zeros" mO ["digits"]:=fun _ _ _ _ _ _ us hl=>match us,hl with|[_],_=>rfl
theorem HH:Bd "word_token" "word_token" qm ["piece","place"]:=fun _ _ _ _ _ _ us hl=>match us,hl with|[_,_],_=>rfl
theorem NM:Bd "spelled" "spelled" wk ["word_bytes"]:=fun _ _ _ _ _ _ us hl=>match us,hl with|[_],_=>rfl
theorem HI:Bd "read_lines" "read_lines" qo ["tokens","length"]:=fun _ _ _ _ _ _ us hl=>match us,hl with|[_,_],_=>rfl
theorem Pn:Bd "stands" "stands" zq ["reader","token"]:=fun _ _ _ _ _ _ us hl=>match us,hl with|[_,_],_=>rfl
theorem NS:Bd "at_line" "at_line" wu ["reader","token"]:=fun _ _ _ _ _ _ us hl=>match us,hl with|[_,_],_=>rfl
theorem Ds:Bd "at_line_name" "at_line_name" nQ ["reader","token"]:=fun _ _ _ _ _ _ us hl=>match us,hl with|[_,_],_=>rfl
theorem Pu:Bd "at_end" "at_end" zu ["reader","token"]:=fun _ _ _ _ _ _ us hl=>match us,hl with|[_,_],_=>rfl
theorem NW:Bd "at_axes" "at_axes" wA ["reader","token"]:=fun _ _ _ _ _ _ us hl=>match us,hl with|[_,_],_=>rfl
theorem BY:Bd "at_first_axis" "at_first_axis" mR ["reader","token"]:=fun _ _ _ _ _ _ us hl=>match us,hl with|[_,_],_=>rfl
theorem NV:Bd "at_axis" "at_axis" wz ["reader","token"]:=fun _ _ _ _ _ _ us hl=>match us,hl with|[_,_],_=>rfl
theorem NT:Bd "at_less" "at_less" wx ["reader","token"]:=fun _ _ _ _ _ _ us hl=>match us,hl with|[_,_],_=>rfl
theorem LW:Bd "at_bound" "at_bound" uo ["reader","token"]:=fun _ _ _ _ _ _ us hl=>match us,hl with|[_,_],_=>rfl
theorem Ae:Bd "at_behind_axis" "at_behind_axis" lK ["reader","token"]:=fun _ _ _ _ _ _ us hl=>match us,hl with|[_,_],_=>rfl
theorem HL:Bd "end_ranges" "end_ranges" qt ["frame","ranges"]:=fun _ _ _ _ _ _ us hl=>match us,hl with|[_,_],_=>rfl
theorem LS:Bd "end_axes" "end_axes" uj ["line","rank"]:=fun _ _ _ _ _ _ us hl=>match us,hl with|[_,_],_=>rfl
theorem LV:Bd "at_colon" "at_colon" um ["reader","token"]:=fun _ _ _ _ _ _ us hl=>match us,hl with|[_,_],_=>rfl
theorem NU:Bd "at_kind" "at_kind" wy ["reader","token"]:=fun _ _ _ _ _ _ us hl=>match us,hl with|[_,_],_=>rfl
theorem Jq:Bd "at_equals" "at_equals" sA ["reader","token"]:=fun _ _ _ _ _ _ us hl=>match us,hl with|[_,_],_=>rfl
theorem Ab:Bd "at_first_value" "at_first_value" lI ["reader","token"]:=fun _ _ _ _ _ _ us hl=>match us,hl with|[_,_],_=>rfl
theorem LU:Bd "at_value" "at_value" uk ["reader","token"]:=fun _ _ _ _ _ _ us hl=>match us,hl with|[_,_],_=>rfl
theorem Po:Bd "prefix" "prefix" zr ["reader"]:=fun _ _ _ _ _ _ us hl=>match us,hl with|[_],_=>rfl
theorem Rb:Bd "group" "group" Cw ["reader"]:=fun _ _ _ _ _ _ us hl=>match us,hl with|[_],_=>rfl
theorem Aa:Bd "at_parenthesis" "at_parenthesis" lH ["reader","token"]:=fun _ _ _ _ _ _ us hl=>match us,hl with|[_,_],_=>rfl
theorem Ac:Bd "at_behind_name" "at_behind_name" lJ ["reader","token"]:=fun _ _ _ _ _ _ us hl=>match us,hl with|[_,_],_=>rfl
theorem yD:Bd "at_behind_value" "at_behind_value" kM ["reader","token"]:=fun _ _ _ _ _ _ us hl=>match us,hl with|[_,_],_=>rfl
theorem LR:Bd "end_line" "end_line" ui ["reader"]:=fun _ _ _ _ _ _ us hl=>match us,hl with|[_],_=>rfl
theorem NO:Bd "mention" "mention" wo ["reader","purpose","token"]:=fun _ _ _ _ _ _ us hl=>match us,hl with|[_,_,_],_=>rfl
theorem SO:Bd "nest" "nest" Gi ["reader","frame"]:=fun _ _ _ _ _ _ us hl=>match us,hl with|[_,_],_=>rfl
theorem Rc:Bd "close" "close" Cy ["reader"]:=fun _ _ _ _ _ _ us hl=>match us,hl with|[_],_=>rfl
theorem Fy:Bd "begin_value" "begin_value" pk ["frame"]:=fun _ _ _ _ _ _ us hl=>match us,hl with|[_],_=>rfl
theorem Fx:Bd "end_operand" "end_operand" pj ["reader","row"]:=fun _ _ _ _ _ _ us hl=>match us,hl with|[_,_],_=>rfl
theorem NR:Bd "compare" "compare" wq ["frame"]:=fun _ _ _ _ _ _ us hl=>match us,hl with|[_],_=>rfl
theorem Jp:Bd "go_on_row" "go_on_row" sy ["frame","level"]:=fun _ _ _ _ _ _ us hl=>match us,hl with|[_,_],_=>rfl
theorem yC:Bd "operands_so_far" "operands_so_far" kL ["frame","level"]:=fun _ _ _ _ _ _ us hl=>match us,hl with|[_,_],_=>rfl
theorem Dk:Bd "row_of_value" "row_of_value" nJ ["frame"]:=fun _ _ _ _ _ _ us hl=>match us,hl with|[_],_=>rfl
theorem HG:Bd "wrong_name" "wrong_name" ql ["lines"]:=fun _ _ _ _ _ _ us hl=>match us,hl with|[_],_=>rfl
theorem uS:Bd "first_of_each_name" "first_of_each_name" ja ["lines"]:=fun _ _ _ _ _ _ us hl=>match us,hl with|[_],_=>rfl
theorem BU:Bd "wrong_mention" "wrong_mention" mN ["line","first_lines"]:=fun _ _ _ _ _ _ us hl=>match us,hl with|[_,_],_=>rfl
theorem LQ:Bd "fault_of" "fault_of" uh ["mention","in_force","named"]:=fun _ _ _ _ _ _ us hl=>match us,hl with|[_,_,_],_=>rfl
theorem Fz:Bd "array_fault" "array_fault" pq ["mention","named"]:=fun _ _ _ _ _ _ us hl=>match us,hl with|[_,_],_=>rfl
theorem NN:Bd "reaches" "reaches" wm ["lines","needing","needed"]:=fun _ _ _ _ _ _ us hl=>match us,hl with|[_,_,_],_=>rfl
theorem Dl:Bd "printed_line" "printed_line" nL ["tokens"]:=fun _ _ _ _ _ _ us hl=>match us,hl with|[_],_=>rfl
theorem sM:Bd "needless_parentheses" "needless_parentheses" iz ["tokens"]:=fun _ _ _ _ _ _ us hl=>match us,hl with|[_],_=>rfl
theorem Pp:Bd "loosen" "loosen" zt ["around","level"]:=fun _ _ _ _ _ _ us hl=>match us,hl with|[_,_],_=>rfl
theorem Dq:Bd "joined_level" "joined_level" nO ["tokens","number"]:=fun _ _ _ _ _ _ us hl=>match us,hl with|[_,_],_=>rfl
theorem HK:Bd "ends_value" "ends_value" qr ["token"]:=fun _ _ _ _ _ _ us hl=>match us,hl with|[_],_=>rfl
theorem Fv:Bd "is_needless" "is_needless" pd ["tokens","closed","end"]:=fun _ _ _ _ _ _ us hl=>match us,hl with|[_,_,_],_=>rfl
theorem LL:Bd "is_group" "is_group" ue ["tokens","number"]:=fun _ _ _ _ _ _ us hl=>match us,hl with|[_,_],_=>rfl
theorem BW:Bd "wanted_behind" "wanted_behind" mP ["tokens","number"]:=fun _ _ _ _ _ _ us hl=>match us,hl with|[_,_],_=>rfl
theorem BX:Bd "wanted_before" "wanted_before" mQ ["tokens","number"]:=fun _ _ _ _ _ _ us hl=>match us,hl with|[_,_],_=>rfl
theorem Ey:Bd "answers" "answers" oS ["calls"]:=fun _ _ _ _ _ _ us hl=>match us,hl with|[_],_=>rfl
theorem Af:Bd "answer_to_next" "answer_to_next" lL ["book","row"]:=fun _ _ _ _ _ _ us hl=>match us,hl with|[_,_],_=>rfl
theorem Ft:Bd "next_number" "next_number" o9 ["row"]:=fun _ _ _ _ _ _ us hl=>match us,hl with|[_],_=>rfl
theorem Jn:Bd "next_list" "next_list" sx ["row"]:=fun _ _ _ _ _ _ us hl=>match us,hl with|[_],_=>rfl
theorem Fq:Bd "read_answer" "read_answer" o7 ["book","text"]:=fun _ _ _ _ _ _ us hl=>match us,hl with|[_,_],_=>rfl
theorem Fu:Bd "line_answer" "line_answer" pb ["book","number"]:=fun _ _ _ _ _ _ us hl=>match us,hl with|[_,_],_=>rfl
theorem Fw:Bd "find_answer" "find_answer" ph ["book","name"]:=fun _ _ _ _ _ _ us hl=>match us,hl with|[_,_],_=>rfl
theorem Fp:Bd "text_answer" "text_answer" o6 ["book","number"]:=fun _ _ _ _ _ _ us hl=>match us,hl with|[_,_],_=>rfl
theorem Dm:Bd "print_answer" "print_answer" nM ["book"]:=fun _ _ _ _ _ _ us hl=>match us,hl with|[_],_=>rfl
theorem Jk:Bd "told_text" "told_text" so ["text"]:=fun _ _ _ _ _ _ us hl=>match us,hl with|[_],_=>rfl
theorem Dn:Bd "needs_answer" "needs_answer" nN ["book","needing","needed"]:=fun _ _ _ _ _ _ us hl=>match us,hl with|[_,_,_],_=>rfl
theorem LN:Bd "is_array" "is_array" ug ["book","number"]:=fun _ _ _ _ _ _ us hl=>match us,hl with|[_,_],_=>rfl
theorem HJ:Bd "name_bytes" "name_bytes" qp ["line"]:=fun _ _ _ _ _ _ us hl=>match us,hl with|[_],_=>rfl
theorem Pq:Bd "__init__" "Line.__init__" mS ["self","role"]:=fun _ _ _ _ _ _ us hl=>match us,hl with|[_,_],_=>rfl
theorem Jo{D:Addr}{u:Value}:S6 D u "Mention.__init__" jO ["self","purpose","name","place","count"]:=⟨fun _ _ _ _ _ _ us hl=>match us,hl with|[_,_,_,_,_],_=>⟨_,rfl,rfl⟩,fun _ _ _ _ _ _ us hl=>match us,hl with|[_,_,_,_],_=>⟨_,rfl,rfl⟩⟩
theorem NP{D:Addr}{u:Value}:S6 D u "Token.__init__" lM ["self","form","place","printed","word"]:=⟨fun _ _ _ _ _ _ us hl=>match us,hl with|[_,_,_,_,_],_=>⟨_,rfl,rfl⟩,fun _ _ _ _ _ _ us hl=>match us,hl with|[_,_,_,_],_=>⟨_,rfl,rfl⟩⟩
theorem NQ:Bd "__init__" "Frame.__init__" lN ["self","closer","fewest","most"]:=fun _ _ _ _ _ _ us hl=>match us,hl with|[_,_,_,_],_=>rfl
theorem LO:Bd "__init__" "Reader.__init__" kN ["self"]:=fun _ _ _ _ _ _ us hl=>match us,hl with|[_],_=>rfl
theorem LP:Bd "__init__" "Opened.__init__" kO ["self","number"]:=fun _ _ _ _ _ _ us hl=>match us,hl with|[_,_],_=>rfl
theorem Pt:Bd "__init__" "Book.__init__" mT ["self"]:=fun _ _ _ _ _ _ us hl=>match us,hl with|[_],_=>rfl
theorem Ra:Bd "__init__" "Row.__init__" nR ["self","numbers"]:=fun _ _ _ _ _ _ us hl=>match us,hl with|[_,_],_=>rfl
theorem OP:(jc.map (·.1)).Nodup:=by
 show([[Sum.inl 61,Sum.inl 61],[Sum.inl 60,Sum.inl 61],[Sum.inl 60,Sum.inl 60],[Sum.inl 62,Sum.inl 62]]:List (List Key)).Nodup;decide +kernel
theorem La:(mZ.map (·.1)).Nodup:=by
 show([Sum.inl 37,Sum.inl 38,Sum.inl 40,Sum.inl 41,Sum.inl 42,Sum.inl 43,Sum.inl 44,Sum.inl 45,Sum.inl 47,Sum.inl 58,Sum.inl 59,Sum.inl 60,Sum.inl 61,Sum.inl 91,Sum.inl 93,Sum.inl 94,Sum.inl 124,Sum.inl 126]:List (Key)).Nodup;decide +kernel
theorem E6:(dP.map (·.1)).Nodup:=by
 show([Sum.inr "|",Sum.inr "^",Sum.inr "&",Sum.inr "<<",Sum.inr ">>",Sum.inr "+",Sum.inr "-",Sum.inr "*",Sum.inr "/",Sum.inr "percent"]:List (Key)).Nodup;decide +kernel
theorem GS:(dF.map (·.1)).Nodup:=by
 show([Sum.inr "abs",Sum.inr "ones",Sum.inr "lead",Sum.inr "trail",Sum.inr "min",Sum.inr "max",Sum.inr "quo",Sum.inr "rem",Sum.inr "high",Sum.inr "rotl",Sum.inr "if"]:List (Key)).Nodup;decide +kernel
theorem OO(A:Ad):((qG A).map (·.1)).Nodup:=by
 show([Sum.inr "line",Sum.inr "line name",Sum.inr "end",Sum.inr "axes",Sum.inr "first axis",Sum.inr "axis",Sum.inr "less",Sum.inr "bound",Sum.inr "behind axis",Sum.inr "colon",Sum.inr "kind",Sum.inr "equals",Sum.inr "first value",Sum.inr "value",Sum.inr "parenthesis",Sum.inr "behind name",Sum.inr "behind value"]:List (Key)).Nodup;decide +kernel
end aJ
namespace aJ
open PySem PySem.Spec PyProof.Rows L2
def Am(K:PySem.W.Frag):Sp:=fun vs H Q _=>∃(na:Addr)(l:List Int),vs=[.ref na]/\bY K H na (l.map V.int)/\PyWqacdq.answers_asked l=true/\∀(H':Hp)(p:Addr),bY K H' p ((PyWqacdq.answers l).map V.int)->Q (.ref p) H'
structure GoodTop:Prop where
 ok:∀(P:Program)(w:World)(K:PySem.W.Frag)(mg:Str->Option Value)(A:Ad)(base:Heap)(fd:FuncData),Txt P w K mg A->EE K "answers" "answers" oS A.oZ fd->iF P w K mg base xU 11 A.oZ fd ["calls"] (Am K)
theorem TN{P:Program}{w:World}{K:PySem.W.Frag}{mg:Str->Option Value}{fa:Addr}(g:GoodTop)(hmg:mg "answers"=some (.ref fa))(T:∃A,Txt P w K mg A):
  ∃fd:FuncData,(∀(s:Shared)(us:List Value),us.length=(["calls"]:List Str).length->BindsTo s fd ⟨us,[]⟩ ((["calls"]:List Str).zip us))/\∀base:Heap,K.In base->base.Ns mainGlobals mg->iF P w K mg base xU 11 fa fd ["calls"] (Am K):=by
 obtain⟨A,T⟩:=T;have e:=hmg.symm.trans T.Em.at_
 cases e;obtain⟨fd,F,b⟩:=T.Em.fn;refine⟨fd,fun s us hu=>?_,fun base _ _=>g.ok _ _ _ _ _ base _ T F⟩;obtain⟨oc,od,kV,doc,pm,an,cdv,ct,osl,rfl,lk,hcd⟩:=F.ex;exact .of_eq (Ey kV doc pm an cdv ct us hu)
end aJ
def sayG{G:Prop}(g:G)(S:PySem.World->PySem.Heap->Prop):PySem.World->PySem.Heap->Prop:=S
section
open PySem PySem.W PyProof.Rows
local macro_rules | `(tactic| refine $t:term) => do
  let s := t.raw
  unless s.isOfKind `Lean.Parser.Term.app do Lean.Macro.throwUnsupported
  unless s[0].getId.eraseMacroScopes == `PySem.W.holds_os do Lean.Macro.throwUnsupported
  let mut out := #[]
  let mut hit := false
  for a in s[1].getArgs do
    if a.isOfKind `Lean.Parser.Term.namedArgument && a[1].getId.eraseMacroScopes == `YP && !(a[3].isOfKind `Lean.Parser.Term.app && a[3][0].getId.eraseMacroScopes == `sayG) then
      let v : Lean.TSyntax `term := ⟨a[3]⟩
      let g := Lean.mkIdent `g
      let w ← `(sayG $g ($v))
      out := out.push (a.setArg 3 w)
      hit := true
    else
      out := out.push a
  unless hit do Lean.Macro.throwUnsupported
  let u : Lean.TSyntax `term := ⟨s.setArg 1 (Lean.mkNullNode out)⟩
  `(tactic| refine $u)
set_option maxRecDepth 100000 in
set_option maxHeartbeats 0 in
theorem aJ.pre (g : aJ.GoodTop) : PySem.Challenge.rw_axisprograms_s01_answers.Holds := by
  w_on; k_headS; (case hw => exact ⟨[.list [.int 1]], by decide +kernel, by decide +kernel⟩)
  k_fillS
  refine L2.Kl (r := PySem.Challenge.rw_axisprograms_s01_answers) (k := 11) (CX := L2.xU) (ps := ["calls"]) (sp := aJ.Am) (by decide +kernel) rfl rfl ⟨rfl, by decide, by decide⟩ (fun w h Y => PySem.W.kIn_of Y) ?F ?S (fun _ _ _ _ z => z)
  case F =>
    intro w mg fa h Y KX G hmg
    refine' aJ.TN g hmg ?T
    refine ⟨⟨97, 104, 111, 118, 125, 132, 139, 146, 153, 160, 165, 219, 226, 233, 240, 247, 254, 261, 268, 275, 282, 289, 296, 303, 310, 317, 324, 331, 338, 345, 352, 359, 366, 373, 380, 387, 394, 401, 408, 415, 422, 429, 436, 443, 451, 458, 465, 472, 479, 486, 517, 524, 531, 538, 545, 552, 559, 566, 573, 635, 642, 649, 656, 661, 668, 675, 682, 689, 696, 703, 710, 715, 32, 54, 86, 187, 208, 506, 603, 624, 15, 59, 60, 61, 62, 67, 166, 167, 168, 169, 170, 444, 487, 488, 489⟩, ?_⟩
    constructor
    (case D5 => ((with_reducible refine' aJ.JQ aJ.Jo ?a ?b ?c ?d ?e ?f ?g ?r); (case a => k_is); (case b => k_is); (case c => k_is); (case d => k_is); (case e => k_is); (case f => k_is); (case g => k_is); (case r => exact ⟨_, rfl⟩)))
    (case JR => ((with_reducible refine' aJ.JQ aJ.NP ?a ?b ?c ?d ?e ?f ?g ?r); (case a => k_is); (case b => k_is); (case c => k_is); (case d => k_is); (case e => k_is); (case f => k_is); (case g => k_is); (case r => exact ⟨_, rfl⟩)))
    all_goals try dsimp only
    all_goals first
      | ((with_reducible refine' aJ.SH KX G ?b ?a ?l ?c ?k); (case a => k_is); (case l => k_is); (case c => k_is); (case k => k_is); (case b => with_reducible first | exact aJ.Jl | exact aJ.Jm | exact aJ.HM | exact aJ.LJ | exact aJ.LM | exact aJ.Dr | exact aJ.LK | exact aJ.Fs | exact aJ.BV | exact aJ.HH | exact aJ.NM | exact aJ.HI | exact aJ.Pn | exact aJ.NS | exact aJ.Ds | exact aJ.Pu | exact aJ.NW | exact aJ.BY | exact aJ.NV | exact aJ.NT | exact aJ.LW | exact aJ.Ae | exact aJ.HL | exact aJ.LS | exact aJ.LV | exact aJ.NU | exact aJ.Jq | exact aJ.Ab | exact aJ.LU | exact aJ.Po | exact aJ.Rb | exact aJ.Aa | exact aJ.Ac | exact aJ.yD | exact aJ.LR | exact aJ.NO | exact aJ.SO | exact aJ.Rc | exact aJ.Fy | exact aJ.Fx | exact aJ.NR | exact aJ.Jp | exact aJ.yC | exact aJ.Dk | exact aJ.HG | exact aJ.uS | exact aJ.BU | exact aJ.LQ | exact aJ.Fz | exact aJ.NN | exact aJ.Dl | exact aJ.sM | exact aJ.Pp | exact aJ.Dq | exact aJ.HK | exact aJ.Fv | exact aJ.LL | exact aJ.BW | exact aJ.BX | exact aJ.Ey | exact aJ.Af | exact aJ.Ft | exact aJ.Jn | exact aJ.Fq | exact aJ.Fu | exact aJ.Fw | exact aJ.Fp | exact aJ.Dm | exact aJ.Jk | exact aJ.Dn | exact aJ.LN | exact aJ.HJ))
      | ((with_reducible refine' aJ.So KX G ?a); (case a => k_is))
      | ((with_reducible refine' aJ.Sn KX G ?a); (case a => k_is))
      | ((with_reducible refine' PySem.W.mg_of KX G ?a); (case a => k_is))
      | ((with_reducible refine' PySem.W.mg_none_of KX G ?a); (case a => k_is))
      | ((with_reducible refine' aJ.SJ ?a ?b ?c ?d); (case a => k_is); (case b => k_is); (case c => k_is); (case d => k_is); skip)
      | ((with_reducible refine' aJ.Tx ?a); (case a => k_is))
      | ((with_reducible refine' aJ.tw aJ.Pq ?a ?b ?c ?d ?e ?f); (case a => k_is); (case b => k_is); (case c => k_is); (case d => k_is); (case e => k_is); (case f => k_is); skip)
      | ((with_reducible refine' aJ.tw aJ.NQ ?a ?b ?c ?d ?e ?f); (case a => k_is); (case b => k_is); (case c => k_is); (case d => k_is); (case e => k_is); (case f => k_is); skip)
      | ((with_reducible refine' aJ.tw aJ.LO ?a ?b ?c ?d ?e ?f); (case a => k_is); (case b => k_is); (case c => k_is); (case d => k_is); (case e => k_is); (case f => k_is); skip)
      | ((with_reducible refine' aJ.tw aJ.LP ?a ?b ?c ?d ?e ?f); (case a => k_is); (case b => k_is); (case c => k_is); (case d => k_is); (case e => k_is); (case f => k_is); skip)
      | ((with_reducible refine' aJ.tw aJ.Pt ?a ?b ?c ?d ?e ?f); (case a => k_is); (case b => k_is); (case c => k_is); (case d => k_is); (case e => k_is); (case f => k_is); skip)
      | ((with_reducible refine' aJ.tw aJ.Ra ?a ?b ?c ?d ?e ?f); (case a => k_is); (case b => k_is); (case c => k_is); (case d => k_is); (case e => k_is); (case f => k_is); skip)
      | ((with_reducible refine' aJ.Rp ?l ?v ?z); (case z => rfl); (case l => k_is); (case v => repeat (first | exact .nil | refine .cons ⟨_, rfl⟩ ?_ | refine .cons rfl ?_)))
      | (refine' aJ.M9 rfl ?l ?e aJ.OP; (case l => k_is); (case e => refine' (aJ.FL [61, 61] ?l0 ?v0 ?h0 ?r0 (aJ.FL [60, 61] ?l1 ?v1 ?h1 ?r1 (aJ.FL [60, 60] ?l2 ?v2 ?h2 ?r2 (aJ.FL [62, 62] ?l3 ?v3 ?h3 ?r3 trivial)))); (case l0 => k_is); (case v0 => exact .cons ⟨_, rfl⟩ (.cons ⟨_, rfl⟩ .nil)); (case h0 => decide +kernel); (case r0 => exact ⟨_, rfl⟩); (case l1 => k_is); (case v1 => exact .cons ⟨_, rfl⟩ (.cons ⟨_, rfl⟩ .nil)); (case h1 => decide +kernel); (case r1 => exact ⟨_, rfl⟩); (case l2 => k_is); (case v2 => exact .cons ⟨_, rfl⟩ (.cons ⟨_, rfl⟩ .nil)); (case h2 => decide +kernel); (case r2 => exact ⟨_, rfl⟩); (case l3 => k_is); (case v3 => exact .cons ⟨_, rfl⟩ (.cons ⟨_, rfl⟩ .nil)); (case h3 => decide +kernel); (case r3 => exact ⟨_, rfl⟩); skip))
      | ((with_reducible refine' aJ.uE ?s ?l ?e aJ.La); (case s => rfl); (case l => k_is); (case e => repeat (first | exact trivial | refine aJ.rL ⟨_, rfl⟩ ?_ | refine aJ.rL rfl ?_ | refine aJ.FN (by decide +kernel) ⟨_, rfl⟩ ?_)))
      | ((with_reducible refine' aJ.uE ?s ?l ?e aJ.E6); (case s => rfl); (case l => k_is); (case e => repeat (first | exact trivial | refine aJ.rL ⟨_, rfl⟩ ?_ | refine aJ.rL rfl ?_ | refine aJ.FN (by decide +kernel) ⟨_, rfl⟩ ?_)))
      | ((with_reducible refine' aJ.uE ?s ?l ?e aJ.GS); (case s => rfl); (case l => k_is); (case e => repeat (first | exact trivial | refine aJ.rL ⟨_, rfl⟩ ?_ | refine aJ.rL rfl ?_ | refine aJ.FN (by decide +kernel) ⟨_, rfl⟩ ?_)))
      | ((with_reducible refine' aJ.uE ?s ?l ?e (aJ.OO _)); (case s => rfl); (case l => k_is); (case e => repeat (first | exact trivial | refine aJ.rL ⟨_, rfl⟩ ?_ | refine aJ.rL rfl ?_ | refine aJ.FN (by decide +kernel) ⟨_, rfl⟩ ?_)))
  case S =>
    intro K H xs a hO hwi hask hx
    cases hx with
    | cons h1 h2 =>
      cases h2
      cases h1 with
      | lst hs ha =>
        have e := L2.JO a.1 _ ha
        subst e
        exact ⟨_, a.1, rfl, hs, hask, fun H' p hp => .lst hp (L2.J5 _)⟩
end
namespace ag
open Ax
theorem aS{α β:Type}{x:Got α}{f:α->List Placed->Got β}{y:β×List Placed}(h:andThen x f=.ok y):
  ∃a r,x=.ok (a,r)/\f a r=.ok y:=by
 cases x with
 |error e=>exact nomatch h
 |ok z=>exact⟨z.1,z.2,rfl,h⟩
theorem aj{α β:Type}{x x':Got α}{f g:α->List Placed->Got β}(h:x=x')(k:∀a r,x=.ok (a,r)->f a r=g a r):
  andThen x f=andThen x' g:=by
 subst h;cases x with
 |error e=>rfl
 |ok z=>exact k z.1 z.2 rfl
theorem aB{α β γ:Type}(x:Got α)(f:α->List Placed->Got β)(g:β->List Placed->Got γ):
  andThen (andThen x f) g=andThen x fun a r=>andThen (f a r) g:=by
 cases x with
 |error e=>rfl
 |ok z=>rfl
theorem dA{α β:Type}(a:α)(r:List Placed)(f:α->List Placed->Got β):andThen (.ok (a,r)) f=f a r:=rfl
theorem gb{α β:Type}(c:Prop)[Decidable c](x y:Got α)(f:α->List Placed->Got β):andThen (if c then x else y) f=if c then andThen x f else andThen y f:=by
 split<;>rfl
theorem cw{ok:Tok->Bool}{l:List Placed}{u:Unit}{r:List Placed}(h:want ok l=.ok (u,r)):r.length+1=l.length:=by
 unfold want at h;split at h
 ·split at h
  ·injection h with h;injection h with _ h;subst h;rfl
  ·exact nomatch h
 ·exact nomatch h
theorem rW{l:List Placed}{x:Nat×Bytes}{r:List Placed}(h:aName l=.ok (x,r)):r.length+1=l.length:=by
 unfold aName at h;split at h
 ·injection h with h;injection h with _ h;subst h;rfl
 ·exact nomatch h
theorem B4{l:List Placed}{x:Bound}{r:List Placed}(h:aBound l=.ok (x,r)):r.length+1=l.length:=by
 unfold aBound at h;split at h
 ·injection h with h;injection h with _ h;subst h;rfl
 ·injection h with h;injection h with _ h;subst h;rfl
 ·exact nomatch h
theorem LX{n:Bool}{l:List Placed}{x:Range}{r:List Placed}(h:aRange n l=.ok (x,r)):r.length<l.length:=by
 unfold aRange at h;split at h
 ·obtain⟨a,r1,h1,h⟩:=aS h;obtain⟨b,r2,h2,h⟩:=aS h;obtain⟨c,r3,h3,h⟩:=aS h;injection h with h;injection h with _ h;subst h
  have:=rW h1;have:=cw h2;have:=B4 h3;omega
 ·obtain⟨c,r3,h3,h⟩:=aS h;injection h with h;injection h with _ h;subst h
  have:=B4 h3;omega
theorem mU{n:Bool}:∀{k:Nat}{l:List Placed}{x:List Range}{r:List Placed},ranges n k l=.ok (x,r)->r.length<l.length
 |0,l,x,r,h=>nomatch h
 |k+1,l,x,r,h=>by
  unfold ranges at h;obtain⟨a,r1,h1,h⟩:=aS h;have q:=LX h1;split at h
  ·obtain⟨b,r2,h2,h⟩:=aS h;injection h with h;injection h with _ h;subst h
   have:=mU h2;rw[aM]at this;omega
  ·injection h with h;injection h with _ h;subst h;exact q
theorem du{d:Nat}{l:List Placed}{u:Unit}{r:List Placed}(h:opening d l=.ok (u,r)):r.length+1=l.length:=by
 unfold opening at h;split at h
 ·exact nomatch h
 ·exact cw h
def Qo:Mode->Nat->Nat->Prop
 | .level _,n,m=>m<n
 | .more _ _,n,m=>m<=n
theorem Jb{ok:Tok->Bool}{l:List Placed}(h:next ok l=true):0<l.length:=by
 cases l with
 |nil=>exact nomatch h
 |cons a b=>exact mw _
theorem zI{lev:Nat}{l:List Placed}{o:Bin}(h:opAt lev l=some o):0<l.length:=by
 cases l with
 |nil=>exact nomatch h
 |cons a b=>exact mw _
set_option maxHeartbeats 2000000 in
theorem bJ:∀(f d:Nat)(m:Mode)(l:List Placed)(e:Expr)(r:List Placed),value f d m l=.ok (e,r)->Qo m l.length r.length
 |0,d,m,l,e,r,h=>nomatch h
 |f+1,d,.more lev a,l,e,r,h=>by
  unfold value at h;split at h
  ·injection h with h;injection h with _ h;subst h;exact aD _
  ·rename_i o ho;have q:=zI ho;split at h
   ·exact nomatch h
   ·obtain⟨b,r1,h1,h⟩:=aS h;have q1:r1.length<(l.drop 1).length:=bJ f d _ _ _ _ h1;rw[aM]at q1;split at h
    ·injection h with h;injection h with _ h;subst h
     show r1.length<=l.length;omega
    ·have q2:r.length<=r1.length:=bJ f d _ _ _ _ h;show r.length<=l.length;omega
 |f+1,d,.level lev,l,e,r,h=>by
  show r.length<l.length;unfold value at h;split at h
  ·obtain⟨b,r1,h1,h⟩:=aS h;have q1:r1.length<l.length:=bJ f d _ _ _ _ h1;have q2:r.length<=r1.length:=bJ f d _ _ _ _ h;omega
  ·split at h
   ·split at h
    ·exact nomatch h
    ·obtain⟨b,r1,h1,h⟩:=aS h;have q1:r1.length<_:=bJ f _ _ _ _ _ h1;injection h with h;injection h with _ h;subst h
     simp only[ay];omega
   ·split at h
    ·exact nomatch h
    ·obtain⟨b,r1,h1,h⟩:=aS h;have q1:r1.length<_:=bJ f _ _ _ _ _ h1;injection h with h;injection h with _ h;subst h
     simp only[ay];omega
   ·injection h with h;injection h with _ h;subst h
    simp only[ay];omega
   ·rename_i p w r0;simp only[ay];split at h
    ·injection h with h;injection h with _ h;subst h;omega
    ·rename_i hb;have hb':=Jb (eq_true_of_ne_false hb);split at h
     ·exact nomatch h
     ·split at h
      ·injection h with h;injection h with _ h;subst h
       rw[aM];omega
      ·obtain⟨b1,r1,h1,h⟩:=aS h;have q1:r1.length<_:=bJ f _ _ _ _ _ h1;rw[aM]at q1;split at h
       ·obtain⟨_,r2,h2,h⟩:=aS h;have:=cw h2;injection h with h;injection h with _ h;subst h;omega
       ·obtain⟨b2,r2,h2,h⟩:=aS h;have q2:r2.length<_:=bJ f _ _ _ _ _ h2;rw[aM]at q2;split at h
        ·obtain⟨_,r3,h3,h⟩:=aS h;have:=cw h3;injection h with h;injection h with _ h;subst h;omega
        ·obtain⟨b3,r3,h3,h⟩:=aS h;have q3:r3.length<_:=bJ f _ _ _ _ _ h3;rw[aM]at q3;split at h
         ·obtain⟨_,r4,h4,h⟩:=aS h;have:=cw h4;injection h with h;injection h with _ h;subst h;omega
         ·obtain⟨b4,r4,h4,h⟩:=aS h;have q4:r4.length<_:=bJ f _ _ _ _ _ h4;rw[aM]at q4;obtain⟨_,r5,h5,h⟩:=aS h;have:=cw h5;injection h with h;injection h with _ h;subst h;omega
   ·split at h
    ·exact nomatch h
    ·obtain⟨_,r1,h1,h⟩:=aS h;obtain⟨_,r2,h2,h⟩:=aS h;obtain⟨_,r3,h3,h⟩:=aS h;have q1:=du h1;have q2:r2.length<_:=bJ f _ _ _ _ _ h2;have q3:=cw h3;injection h with h;injection h with _ h;subst h
     simp only[ay];omega
   ·split at h
    ·exact nomatch h
    ·obtain⟨_,r1,h1,h⟩:=aS h;obtain⟨_,r2,h2,h⟩:=aS h;obtain⟨_,r3,h3,h⟩:=aS h;obtain⟨_,r4,h4,h⟩:=aS h;obtain⟨_,r5,h5,h⟩:=aS h;have q1:=du h1;have q2:r2.length<_:=bJ f _ _ _ _ _ h2;have q3:=cw h3;have q4:r4.length<_:=bJ f _ _ _ _ _ h4;have q5:=cw h5;injection h with h;injection h with _ h;subst h
     simp only[ay];omega
   ·split at h
    ·exact nomatch h
    ·obtain⟨_,r1,h1,h⟩:=aS h;obtain⟨_,r2,h2,h⟩:=aS h;obtain⟨_,r3,h3,h⟩:=aS h;obtain⟨_,r4,h4,h⟩:=aS h;obtain⟨_,r5,h5,h⟩:=aS h;obtain⟨_,r6,h6,h⟩:=aS h;obtain⟨_,r7,h7,h⟩:=aS h;have q1:=du h1;have q2:r2.length<_:=bJ f _ _ _ _ _ h2;have q3:=cw h3;have q4:r4.length<_:=bJ f _ _ _ _ _ h4;have q5:=cw h5;have q6:r6.length<_:=bJ f _ _ _ _ _ h6;have q7:=cw h7;injection h with h;injection h with _ h;subst h
     simp only[ay];omega
   ·split at h
    ·exact nomatch h
    ·obtain⟨_,r1,h1,h⟩:=aS h;obtain⟨_,r2,h2,h⟩:=aS h;obtain⟨_,r3,h3,h⟩:=aS h;obtain⟨_,r4,h4,h⟩:=aS h;obtain⟨_,r5,h5,h⟩:=aS h;have q1:=du h1;have q2:=mU h2;have q3:=cw h3;have q4:r4.length<_:=bJ f _ _ _ _ _ h4;have q5:=cw h5;injection h with h;injection h with _ h;subst h
     simp only[ay];omega
   ·obtain⟨_,r1,h1,h⟩:=aS h;obtain⟨_,r2,h2,h⟩:=aS h;obtain⟨_,r3,h3,h⟩:=aS h;have q1:=du h1;have q2:r2.length<_:=bJ f _ _ _ _ _ h2;have q3:=cw h3;injection h with h;injection h with _ h;subst h
    simp only[ay]at q1⊢;omega
   ·exact nomatch h
def need:Mode->Nat->Nat
 | .level lev,n=>16*n+lev+1
 | .more _ _,n=>16*n+1
def Lh:Mode->Nat
 | .level lev=>lev
 | .more lev _=>lev
set_option maxHeartbeats 4000000 in
theorem fuel:∀(f g d:Nat)(m:Mode)(l:List Placed),Lh m<=8->need m l.length<=f->need m l.length<=g->value f d m l=value g d m l
 |0,g,d,.level lev,l,_,h,_=>absurd h (by show ¬(_<=0);simp only[need];omega)
 |0,g,d,.more lev a,l,_,h,_=>absurd h (by show ¬(_<=0);simp only[need];omega)
 |f+1,0,d,.level lev,l,_,_,h=>absurd h (by show ¬(_<=0);simp only[need];omega)
 |f+1,0,d,.more lev a,l,_,_,h=>absurd h (by show ¬(_<=0);simp only[need];omega)
 |f+1,g+1,d,.more lev a,l,hl,h,h'=>by
  have hl:lev<=8:=hl;have h:16*l.length+1<=f+1:=h;have h':16*l.length+1<=g+1:=h';unfold value;cases ho:opAt lev l with
  |none=>rfl
  |some o=>
   have q:=zI ho;dsimp only;split
   ·rfl
   ·refine aj (fuel f g d _ _ (by show lev - 1<=8;omega) (by simp only[need,aM];omega) (by simp only[need,aM];omega)) ?_;intro b r e;have q1:r.length<(l.drop 1).length:=bJ f d _ _ _ _ e;rw[aM]at q1;split
    ·rfl
    ·exact fuel f g d _ _ hl (by simp only[need];omega) (by simp only[need];omega)
 |f+1,g+1,d,.level lev,l,hl,h,h'=>by
  have hl:lev<=8:=hl;have h:16*l.length+lev+1<=f+1:=h;have h':16*l.length+lev+1<=g+1:=h';unfold value;split
  ·refine aj (fuel f g d _ _ (by show lev - 1<=8;omega) (by simp only[need];omega) (by simp only[need];omega)) ?_;intro b r e;have q1:r.length<l.length:=bJ f d _ _ _ _ e;exact fuel f g d _ _ hl (by simp only[need];omega) (by simp only[need];omega)
  ·have sub:∀(d:Nat)(k:Nat)(r:List Placed),k<=8->r.length<l.length->value f d (.level k) r=value g d (.level k) r:=fun d k r hk hr=>
    fuel f g d _ _ hk (by simp only[need];omega) (by simp only[need];omega)
   split
   ·rename_i p r;split
    ·rfl
    ·exact aj (sub _ _ _ (by omega) (by simp only[ay];omega)) fun _ _ _=>rfl
   ·rename_i p r;split
    ·rfl
    ·exact aj (sub _ _ _ (by omega) (by simp only[ay];omega)) fun _ _ _=>rfl
   ·rfl
   ·rename_i p w r0;simp only[ay]at sub;split
    ·rfl
    ·split
     ·rfl
     ·split
      ·rfl
      ·refine aj (sub _ _ _ (by omega) (by rw[aM];omega)) fun _ r1 e1=>?_;have q1:r1.length<_:=bJ f _ _ _ _ _ e1;rw[aM]at q1;split
       ·rfl
       ·refine aj (sub _ _ _ (by omega) (by rw[aM];omega)) fun _ r2 e2=>?_;have q2:r2.length<_:=bJ f _ _ _ _ _ e2;rw[aM]at q2;split
        ·rfl
        ·refine aj (sub _ _ _ (by omega) (by rw[aM];omega)) fun _ r3 e3=>?_;have q3:r3.length<_:=bJ f _ _ _ _ _ e3;rw[aM]at q3;split
         ·rfl
         ·exact aj (sub _ _ _ (by omega) (by rw[aM];omega)) fun _ r4 e4=>rfl
   ·simp only[ay]at sub;split
    ·rfl
    ·refine aj rfl fun _ r1 e1=>?_;have q1:=du e1;exact aj (sub _ _ _ (by omega) (by omega)) fun _ _ _=>rfl
   ·simp only[ay]at sub;split
    ·rfl
    ·refine aj rfl fun _ r1 e1=>?_;have q1:=du e1;refine aj (sub _ _ _ (by omega) (by omega)) fun _ r2 e2=>?_;have q2:r2.length<_:=bJ f _ _ _ _ _ e2;refine aj rfl fun _ r3 e3=>?_;have q3:=cw e3;exact aj (sub _ _ _ (by omega) (by omega)) fun _ _ _=>rfl
   ·simp only[ay]at sub;split
    ·rfl
    ·refine aj rfl fun _ r1 e1=>?_;have q1:=du e1;refine aj (sub _ _ _ (by omega) (by omega)) fun _ r2 e2=>?_;have q2:r2.length<_:=bJ f _ _ _ _ _ e2;refine aj rfl fun _ r3 e3=>?_;have q3:=cw e3;refine aj (sub _ _ _ (by omega) (by omega)) fun _ r4 e4=>?_;have q4:r4.length<_:=bJ f _ _ _ _ _ e4;refine aj rfl fun _ r5 e5=>?_;have q5:=cw e5;exact aj (sub _ _ _ (by omega) (by omega)) fun _ _ _=>rfl
   ·simp only[ay]at sub;split
    ·rfl
    ·refine aj rfl fun _ r1 e1=>?_;have q1:=du e1;refine aj rfl fun _ r2 e2=>?_;have q2:=mU e2;refine aj rfl fun _ r3 e3=>?_;have q3:=cw e3;exact aj (sub _ _ _ (by omega) (by omega)) fun _ _ _=>rfl
   ·simp only[ay]at sub;refine aj rfl fun _ r1 e1=>?_;have q1:=du e1;simp only[ay]at q1;exact aj (sub _ _ _ (by omega) (by omega)) fun _ _ _=>rfl
   ·rfl
def V(d:Nat)(m:Mode)(l:List Placed):Got Expr:=value (16*l.length+16) d m l
theorem lW{f d:Nat}{m:Mode}{l:List Placed}(hl:Lh m<=8)(h:need m l.length<=f):value f d m l=V d m l:=
 fuel f _ d m l hl h (by cases m<;>simp only[need,Lh]at* <;>omega)
end ag
namespace ag
open Ax
theorem qS{d lev:Nat}{a:Expr}{l:List Placed}(h:lev<=8):V d (.more lev a) l=match opAt lev l with
  |none=>.ok (a,l)
  |some o=>if lev<8/\ROW<=operands lev a then .error l else andThen (V d (.level (lev - 1)) (l.drop 1)) fun b r=>if lev=8 then .ok (.bin o a b,r)else V d (.more lev (.bin o a b)) r:=by
 show value (16*l.length+15+1) d (.more lev a) l=_;unfold value;cases ho:opAt lev l with
 |none=>rfl
 |some o=>
  have q:=zI ho;dsimp only;split
  ·rfl
  ·refine aj (lW (by show lev - 1<=8;omega) (by simp only[need,aM];omega)) fun b r e=>?_;have q1:r.length<(l.drop 1).length:=bJ _ _ _ _ _ _ e;rw[aM]at q1;split
   ·rfl
   ·exact lW h (by simp only[need];omega)
theorem Kg{d lev:Nat}{l:List Placed}(h2:2<=lev)(h:lev<=8):V d (.level lev) l=andThen (V d (.level (lev - 1)) l) fun a r=>V d (.more lev a) r:=by
 show value (16*l.length+15+1) d (.level lev) l=_;unfold value;rw[ai h2];refine aj (lW (by show lev - 1<=8;omega) (by simp only[need];omega)) fun b r e=>?_;have q1:r.length<l.length:=bJ _ _ _ _ _ _ e;exact lW h (by simp only[need];omega)
theorem Rl{d p:Nat}{r:List Placed}:V d (.level 1) ((p,.minus)::r)=if DEEP<=d then .error ((p,.minus)::r)else andThen (V (d+1) (.level 1) r) fun a r1=>.ok (.un .neg a,r1):=by
 show value (16*(r.length+1)+15+1) d (.level 1) ((p,.minus)::r)=_;unfold value;rw[af (by omega)];dsimp only;split
 ·rfl
 ·exact aj (lW (by show 1<=8;omega) (by simp only[need];omega)) fun _ _ _=>rfl
theorem Rj{d p:Nat}{r:List Placed}:V d (.level 1) ((p,.tilde)::r)=if DEEP<=d then .error ((p,.tilde)::r)else andThen (V (d+1) (.level 1) r) fun a r1=>.ok (.un .not a,r1):=by
 show value (16*(r.length+1)+15+1) d (.level 1) ((p,.tilde)::r)=_;unfold value;rw[af (by omega)];dsimp only;split
 ·rfl
 ·exact aj (lW (by show 1<=8;omega) (by simp only[need];omega)) fun _ _ _=>rfl
theorem SU{d p:Nat}{w:Bytes}{r:List Placed}:V d (.level 1) ((p,.name w)::r)=if next isOpenB r=false then .ok (.name p w,r)else if DEEP<=d then .error r
    else if next isCloseB (r.drop 1)=true then .ok (.elem p w 0 nil nil nil nil,r.drop 2)
    else andThen (V (d+1) (.level 8) (r.drop 1)) fun(a:Expr)(r1:List Placed)=>if next isComma r1=false then andThen (want isCloseB r1) fun(_:Unit)(r9:List Placed)=>.ok (.elem p w 1 a nil nil nil,r9)
    else andThen (V (d+1) (.level 8) (r1.drop 1)) fun(b:Expr)(r2:List Placed)=>if next isComma r2=false then andThen (want isCloseB r2) fun(_:Unit)(r9:List Placed)=>.ok (.elem p w 2 a b nil nil,r9)
    else andThen (V (d+1) (.level 8) (r2.drop 1)) fun(c:Expr)(r3:List Placed)=>if next isComma r3=false then andThen (want isCloseB r3) fun(_:Unit)(r9:List Placed)=>.ok (.elem p w 3 a b c nil,r9)
    else andThen (V (d+1) (.level 8) (r3.drop 1)) fun(e:Expr)(r4:List Placed)=>andThen (want isCloseB r4) fun(_:Unit)(r9:List Placed)=>.ok (.elem p w 4 a b c e,r9):=by
 show value (16*(r.length+1)+15+1) d (.level 1) ((p,.name w)::r)=_;unfold value;rw[af (by omega)];dsimp only;have sub:∀(d:Nat)(k:Nat)(s:List Placed),k<=8->s.length<r.length+1->value (16*(r.length+1)+15) d (.level k) s=V d (.level k) s:=fun d k s hk hr=>
  lW hk (by simp only[need];omega)
 split
 ·rfl
 ·split
  ·rfl
  ·split
   ·rfl
   ·refine aj (sub _ _ _ (by omega) (by rw[aM];omega)) fun _ r1 e1=>?_;have q1:r1.length<_:=bJ _ _ _ _ _ _ e1;rw[aM]at q1;split
    ·rfl
    ·refine aj (sub _ _ _ (by omega) (by rw[aM];omega)) fun _ r2 e2=>?_;have q2:r2.length<_:=bJ _ _ _ _ _ _ e2;rw[aM]at q2;split
     ·rfl
     ·refine aj (sub _ _ _ (by omega) (by rw[aM];omega)) fun _ r3 e3=>?_;have q3:r3.length<_:=bJ _ _ _ _ _ _ e3;rw[aM]at q3;split
      ·rfl
      ·exact aj (sub _ _ _ (by omega) (by rw[aM];omega)) fun _ r4 e4=>rfl
theorem T1{d p:Nat}{o:Un}{r:List Placed}:V d (.level 1) ((p,.fn1 o)::r)=if DEEP<=d then .error ((p,.fn1 o)::r)else andThen (opening d r) fun(_:Unit)(r1:List Placed)=>andThen (V (d+1) (.level 8) r1) fun(a:Expr)(r2:List Placed)=>andThen (want isCloseP r2) fun(_:Unit)(r9:List Placed)=>.ok (.un o a,r9):=by
 show value (16*(r.length+1)+15+1) d (.level 1) ((p,.fn1 o)::r)=_;unfold value;rw[af (by omega)];dsimp only;split
 ·rfl
 ·refine aj rfl fun _ r1 e1=>?_;have q1:=du e1;exact aj (lW (by show 8<=8;omega) (by simp only[need];omega)) fun _ _ _=>rfl
theorem TZ{d p:Nat}{o:Bin}{r:List Placed}:V d (.level 1) ((p,.fn2 o)::r)=if DEEP<=d then .error ((p,.fn2 o)::r)else andThen (opening d r) fun(_:Unit)(r1:List Placed)=>andThen (V (d+1) (.level 8) r1) fun(a:Expr)(r2:List Placed)=>andThen (want isComma r2) fun(_:Unit)(r3:List Placed)=>andThen (V (d+1) (.level 8) r3) fun(b:Expr)(r4:List Placed)=>andThen (want isCloseP r4) fun(_:Unit)(r9:List Placed)=>.ok (.bin o a b,r9):=by
 show value (16*(r.length+1)+15+1) d (.level 1) ((p,.fn2 o)::r)=_;unfold value;rw[af (by omega)];dsimp only;split
 ·rfl
 ·refine aj rfl fun _ r1 e1=>?_;have q1:=du e1;refine aj (lW (by show 8<=8;omega) (by simp only[need];omega)) fun _ r2 e2=>?_;have q2:r2.length<_:=bJ _ _ _ _ _ _ e2;refine aj rfl fun _ r3 e3=>?_;have q3:=cw e3;exact aj (lW (by show 8<=8;omega) (by simp only[need];omega)) fun _ _ _=>rfl
theorem UT{d p:Nat}{r:List Placed}:V d (.level 1) ((p,.if_)::r)=if DEEP<=d then .error ((p,.if_)::r)else andThen (opening d r) fun(_:Unit)(r1:List Placed)=>andThen (V (d+1) (.level 8) r1) fun(a:Expr)(r2:List Placed)=>andThen (want isComma r2) fun(_:Unit)(r3:List Placed)=>andThen (V (d+1) (.level 8) r3) fun(b:Expr)(r4:List Placed)=>andThen (want isComma r4) fun(_:Unit)(r5:List Placed)=>andThen (V (d+1) (.level 8) r5) fun(c:Expr)(r6:List Placed)=>andThen (want isCloseP r6) fun(_:Unit)(r9:List Placed)=>.ok (.cond a b c,r9):=by
 show value (16*(r.length+1)+15+1) d (.level 1) ((p,.if_)::r)=_;unfold value;rw[af (by omega)];dsimp only;split
 ·rfl
 ·refine aj rfl fun _ r1 e1=>?_;have q1:=du e1;refine aj (lW (by show 8<=8;omega) (by simp only[need];omega)) fun _ r2 e2=>?_;have q2:r2.length<_:=bJ _ _ _ _ _ _ e2;refine aj rfl fun _ r3 e3=>?_;have q3:=cw e3;refine aj (lW (by show 8<=8;omega) (by simp only[need];omega)) fun _ r4 e4=>?_;have q4:r4.length<_:=bJ _ _ _ _ _ _ e4;refine aj rfl fun _ r5 e5=>?_;have q5:=cw e5;exact aj (lW (by show 8<=8;omega) (by simp only[need];omega)) fun _ _ _=>rfl
theorem TY{d p:Nat}{g:Red}{r:List Placed}:V d (.level 1) ((p,.red g)::r)=if DEEP<=d then .error ((p,.red g)::r)else andThen (opening d r) fun(_:Unit)(r1:List Placed)=>andThen (ranges true 4 r1) fun(rs:List Range)(r2:List Placed)=>andThen (want isColon r2) fun(_:Unit)(r3:List Placed)=>andThen (V (d+1) (.level 8) r3) fun(a:Expr)(r4:List Placed)=>andThen (want isCloseP r4) fun(_:Unit)(r9:List Placed)=>.ok (.red g rs a,r9):=by
 show value (16*(r.length+1)+15+1) d (.level 1) ((p,.red g)::r)=_;unfold value;rw[af (by omega)];dsimp only;split
 ·rfl
 ·refine aj rfl fun _ r1 e1=>?_;have q1:=du e1;refine aj rfl fun _ r2 e2=>?_;have q2:=mU e2;refine aj rfl fun _ r3 e3=>?_;have q3:=cw e3;exact aj (lW (by show 8<=8;omega) (by simp only[need];omega)) fun _ _ _=>rfl
theorem Rk{d p:Nat}{r:List Placed}:V d (.level 1) ((p,.openP)::r)=andThen (opening d ((p,.openP)::r)) fun(_:Unit)(r1:List Placed)=>andThen (V (d+1) (.level 8) r1) fun(a:Expr)(r2:List Placed)=>andThen (want isCloseP r2) fun(_:Unit)(r9:List Placed)=>.ok (a,r9):=by
 show value (16*(r.length+1)+15+1) d (.level 1) ((p,.openP)::r)=_;unfold value;rw[af (by omega)];dsimp only;refine aj rfl fun _ r1 e1=>?_;have q1:=du e1;simp only[ay]at q1;exact aj (lW (by show 8<=8;omega) (by simp only[need];omega)) fun _ _ _=>rfl
theorem B0{n:Bool}{l:List Placed}{x:List Range}{r:List Placed}(h:axesIn n l=.ok (x,r)):r.length<l.length:=by
 unfold axesIn at h;obtain⟨_,r1,h1,h⟩:=aS h;have q1:=cw h1;split at h
 ·injection h with h;injection h with _ h;subst h
  rw[aM];omega
 ·obtain⟨_,r2,h2,h⟩:=aS h;obtain⟨_,r3,h3,h⟩:=aS h;have q2:=mU h2;have q3:=cw h3;injection h with h;injection h with _ h;subst h
  omega
theorem EC{l:List Placed}{x:Nat}{r:List Placed}(h:aKind l=.ok (x,r)):r.length+1=l.length:=by
 unfold aKind at h;split at h
 ·injection h with h;injection h with _ h;subst h;rfl
 ·exact nomatch h
theorem uD{l:List Placed}{x:Line}{r:List Placed}(h:lineIn l=.ok (x,r)):r.length<l.length:=by
 unfold lineIn at h;split at h
 ·obtain⟨_,r1,h1,h⟩:=aS h;obtain⟨_,r2,h2,h⟩:=aS h;have q1:=rW h1;have q2:=cw h2;injection h with h;injection h with _ h;subst h
  simp only[ay];omega
 ·obtain⟨_,r1,h1,h⟩:=aS h;obtain⟨_,r2,h2,h⟩:=aS h;obtain⟨_,r3,h3,h⟩:=aS h;obtain⟨_,r4,h4,h⟩:=aS h;obtain⟨_,r5,h5,h⟩:=aS h;have q1:=rW h1;have q2:=B0 h2;have q3:=cw h3;have q4:=EC h4;have q5:=cw h5;injection h with h;injection h with _ h;subst h
  simp only[ay];omega
 ·obtain⟨_,r1,h1,h⟩:=aS h;obtain⟨_,r2,h2,h⟩:=aS h;obtain⟨_,r3,h3,h⟩:=aS h;obtain⟨_,r4,h4,h⟩:=aS h;obtain⟨_,r5,h5,h⟩:=aS h;obtain⟨_,r6,h6,h⟩:=aS h;obtain⟨_,r7,h7,h⟩:=aS h;have q1:=rW h1;have q2:=B0 h2;have q3:=cw h3;have q4:=EC h4;have q5:=cw h5;have q6:r6.length<_:=bJ _ _ _ _ _ _ h6;have q7:=cw h7;injection h with h;injection h with _ h;subst h
  simp only[ay];omega
 ·exact nomatch h
theorem Bf:∀(f g:Nat)(l:List Placed),l.length<=f->l.length<=g->linesIn f l=linesIn g l
 |f,g,[],_,_=>by cases f<;>cases g<;>rfl
 |0,_,_::_,h,_=>absurd h (by simp)
 |_+1,0,_::_,_,h=>absurd h (by simp)
 |f+1,g+1,t::l,h,h'=>by
  simp only[ay]at h h';unfold linesIn;refine aj rfl fun x r e=>?_;have q:=uD e;simp only[ay]at q;exact aj (Bf f g r (by omega) (by omega)) fun _ _ _=>rfl
def L(done:List Line)(l:List Placed):Got (List Line):=andThen (linesIn (l.length+1) l) fun xs r=>.ok (done++xs,r)
theorem LY(done:List Line):L done []=.ok (done,[]):=by
 show Except.ok (done++[],[])=_;rw[aK]
theorem B6(done:List Line)(t:Placed)(r:List Placed):L done (t::r)=andThen (lineIn (t::r)) fun x r1=>L (done++[x]) r1:=by
 show andThen (andThen (lineIn (t::r)) fun x r1=>andThen (linesIn (r.length+1) r1) fun xs r2=>.ok (x::xs,r2)) _=_;rw[aB];refine aj rfl fun x r1 e=>?_;have q:=uD e;simp only[ay]at q;rw[aB];refine aj (Bf _ _ _ (by omega) (by omega)) fun xs r2 _=>?_;show Except.ok (done++x::xs,r2)=Except.ok (done++[x]++xs,r2);rw[aw];rfl
end ag
namespace ag
open Ax
abbrev Rows:=Nat->Option (Bin×Expr)
def d7:Rows:=fun _=>none
inductive Ctx where
 |top
 |group
 |fn1 (o:Un)
 |fn2 (o:Bin)
 |cond
 |elem (p:Nat) (w:Bytes)
 |red (g:Red) (rs:List Range)
structure Fr where
 ctx:Ctx
 args:List Expr
 cmp:Option (Bin×Expr)
 rows:Rows
 pre:List Un
def cy(c:Ctx):Fr:=⟨c,[],none,d7,[]⟩
structure Hd where
 x:What
 p:Nat
 w:Bytes
 rs:List Range
 k:Nat
inductive Wd where
 |fn1 (o:Un)
 |fn2 (o:Bin)
 |cond
 |red (g:Red)
inductive Ow where
 |line (x:What) (p:Nat) (w:Bytes)
 |red (H:Hd) (f:Fr) (fs:List Fr) (g:Red)
inductive St where
 |line
 |name (x:What)
 |semi (l:Line)
 |axes (x:What) (p:Nat) (w:Bytes)
 |first(x:What) (p:Nat) (w:Bytes)
 |iC (o:Ow) (rs:List Range)
 |less (o:Ow) (rs:List Range) (p:Nat) (w:Bytes)
 |bound (o:Ow) (rs:List Range) (p:Nat) (w:Bytes)
 |behind (o:Ow) (rs:List Range)
 |colon (x:What) (p:Nat) (w:Bytes) (rs:List Range)
 |kind (x:What) (p:Nat) (w:Bytes) (rs:List Range)
 |equals (x:What) (p:Nat) (w:Bytes) (rs:List Range) (k:Nat)
 |want (first:Bool) (H:Hd) (f:Fr) (fs:List Fr)
 |word (k:Wd) (H:Hd) (f:Fr) (fs:List Fr)
 |named (p:Nat) (w:Bytes) (H:Hd) (f:Fr) (fs:List Fr)
 |il (e:Expr) (H:Hd) (f:Fr) (fs:List Fr)
def mix(q:Option (Bin×Expr))(e:Expr):Expr:=match q with
 |none=>e
 |some x=>.bin x.1 x.2 e
def reduce(rows:Rows):Nat->Expr->Expr
 |0,e=>e
 |k+1,e=>mix (rows (k+2)) (reduce rows k e)
def cC(rows:Rows)(lev:Nat)(x:Bin×Expr):Rows:=fun i=>if i=lev then some x else if i<lev then none else rows i
def fT(pre:List Un)(e:Expr):Expr:=pre.foldl (fun a u=>.un u a) e
def base:List Fr->Nat
 |[]=>0
 |f::fs=>base fs+f.pre.length+1
def depth(f:Fr)(fs:List Fr):Nat:=base fs+f.pre.length
def dw:Tok->Option Bin
 | .op o=>some o
 | .minus=>some .sub
 | .lt=>some .less
 |_=>none
def e8(p:Nat)(w:Bytes)(args:List Expr)(v:Expr):Expr:=match args with
 |[]=>.elem p w 1 v nil nil nil
 |[a]=>.elem p w 2 a v nil nil
 |[a,b]=>.elem p w 3 a b v nil
 |a::b::c::_=>.elem p w 4 a b c v
def prim(H:Hd)(e:Expr)(f:Fr)(fs:List Fr):St:=.il (fT f.pre e) H {f with pre:=[]} fs
def iK(H:Hd)(e:Expr):List Fr->Option St
 |[]=>none
 |f::fs=>some (prim H e f fs)
def gU(H:Hd)(f:Fr)(fs:List Fr)(v:Expr):St:=.want false H {cy f.ctx with args:=f.args++[v]} fs
def tm(H:Hd)(f:Fr)(fs:List Fr)(v:Expr):Option St:=match f.ctx,f.args with
 | .fn2 _,[]=>some (gU H f fs v)
 | .cond,[]=>some (gU H f fs v)
 | .cond,[_]=>some (gU H f fs v)
 | .elem _ _,[]=>some (gU H f fs v)
 | .elem _ _,[_]=>some (gU H f fs v)
 | .elem _ _,[_,_]=>some (gU H f fs v)
 |_,_=>none
def iB(H:Hd)(f:Fr)(fs:List Fr)(v:Expr):Option St:=match f.ctx,f.args with
 | .group,_=>iK H v fs
 | .fn1 o,_=>iK H (.un o v) fs
 | .fn2 o,a::_=>iK H (.bin o a v) fs
 | .cond,a::b::_=>iK H (.cond a b v) fs
 | .red g rs,_=>iK H (.red g rs v) fs
 |_,_=>none
def nZ(H:Hd)(f:Fr)(fs:List Fr)(v:Expr):Option St:=match f.ctx with
 | .elem p w=>iK H (e8 p w f.args v) fs
 |_=>none
def cP(c:Option (Bin×Expr))(e:Expr):Expr:=mix c e
def b6(done:List Line)(e:Expr)(H:Hd)(f:Fr)(fs:List Fr)(t:Tok):Option (List Line×St):=match dw t with
 |some o=>
  if level o=8 then
   if f.cmp.isSome=true then none else some (done,.want false H {f with cmp:=some (o,reduce f.rows 6 e),rows:=d7} fs)
  else if 2<=level o then
   if ROW<=operands (level o) (reduce f.rows (level o - 1) e)then none
   else some (done,.want false H {f with rows:=cC f.rows (level o) (o,reduce f.rows (level o - 1) e)} fs)
  else none
 |none=>match t with
  | .comma=>(tm H f fs (cP f.cmp (reduce f.rows 6 e))).map fun s=>(done,s)
  | .closeP=>(iB H f fs (cP f.cmp (reduce f.rows 6 e))).map fun s=>(done,s)
  | .closeB=>(nZ H f fs (cP f.cmp (reduce f.rows 6 e))).map fun s=>(done,s)
  | .semi=>match f.ctx with
   | .top=>some (done++[⟨H.x,H.p,H.w,H.rs,H.k,cP f.cmp (reduce f.rows 6 e)⟩],.line)
   |_=>none
  |_=>none
def gY(o:Ow)(rs:List Range)(p:Nat)(t:Tok):Option St:=match o with
 | .line .in_ _ _=>match t with
  | .num n=>some (.behind o (rs++[⟨0,[],.num n⟩]))
  | .name w=>some (.behind o (rs++[⟨0,[],.size p w⟩]))
  |_=>none
 |_=>match t with
  | .name w=>some (.less o rs p w)
  |_=>none
def fo(first:Bool)(H:Hd)(f:Fr)(fs:List Fr)(p:Nat)(t:Tok):Option St:=match t with
 | .closeB=>match first,f.ctx with
  |true,.elem q w=>iK H (.elem q w 0 nil nil nil nil) fs
  |_,_=>none
 | .num n=>some (prim H (.num n) f fs)
 | .name w=>some (.named p w H f fs)
 | .minus=>if DEEP<=depth f fs then none else some (.want false H {f with pre:=.neg::f.pre} fs)
 | .tilde=>if DEEP<=depth f fs then none else some (.want false H {f with pre:=.not::f.pre} fs)
 | .openP=>if DEEP<=depth f fs then none else some (.want false H (cy .group) (f::fs))
 | .fn1 o=>if DEEP<=depth f fs then none else some (.word (.fn1 o) H f fs)
 | .fn2 o=>if DEEP<=depth f fs then none else some (.word (.fn2 o) H f fs)
 | .if_=>if DEEP<=depth f fs then none else some (.word .cond H f fs)
 | .red g=>if DEEP<=depth f fs then none else some (.word (.red g) H f fs)
 |_=>none
def step(done:List Line)(s:St)(p:Nat)(t:Tok):Option (List Line×St):=match s with
 | .line=>match t with
  | .line x=>some (done,.name x)
  |_=>none
 | .name x=>match t with
  | .name w=>some (done,match x with
   | .size=>.semi ⟨.size,p,w,[],0,nil⟩
   |_=>.axes x p w)
  |_=>none
 | .semi l=>match t with
  | .semi=>some (done++[l],.line)
  |_=>none
 | .axes x q w=>match t with
  | .openB=>some (done,.first x q w)
  |_=>none
 | .first x q w=>match t with
  | .closeB=>some (done,.colon x q w [])
  |_=>(gY (.line x q w) [] p t).map fun s=>(done,s)
 | .iC o rs=>(gY o rs p t).map fun s=>(done,s)
 | .less o rs q w=>match t with
  | .lt=>some (done,.bound o rs q w)
  |_=>none
 | .bound o rs q w=>match t with
  | .num n=>some (done,.behind o (rs++[⟨q,w,.num n⟩]))
  | .name v=>some (done,.behind o (rs++[⟨q,w,.size p v⟩]))
  |_=>none
 | .behind o rs=>match t with
  | .comma=>if rs.length<4 then some (done,.iC o rs)else none
  | .closeB=>match o with
   | .line x q w=>some (done,.colon x q w rs)
   |_=>none
  | .colon=>match o with
   | .red H f fs g=>some (done,.want false H (cy (.red g rs)) (f::fs))
   |_=>none
  |_=>none
 | .colon x q w rs=>match t with
  | .colon=>some (done,.kind x q w rs)
  |_=>none
 | .kind x q w rs=>match t with
  | .kind k=>some (done,match x with
   | .in_=>.semi ⟨.in_,q,w,rs,k,nil⟩
   |_=>.equals x q w rs k)
  |_=>none
 | .equals x q w rs k=>match t with
  | .is=>some (done,.want false ⟨x,q,w,rs,k⟩ (cy .top) [])
  |_=>none
 | .want first H f fs=>(fo first H f fs p t).map fun s=>(done,s)
 | .word k H f fs=>match t with
  | .openP=>match k with
   | .fn1 o=>some (done,.want false H (cy (.fn1 o)) (f::fs))
   | .fn2 o=>some (done,.want false H (cy (.fn2 o)) (f::fs))
   | .cond=>some (done,.want false H (cy .cond) (f::fs))
   | .red g=>some (done,.iC (.red H f fs g) [])
  |_=>none
 | .named q w H f fs=>match t with
  | .openB=>if DEEP<=depth f fs then none else some (done,.want true H (cy (.elem q w)) (f::fs))
  |_=>b6 done (fT f.pre (.name q w)) H {f with pre:=[]} fs t
 | .il e H f fs=>b6 done e H f fs t
def run(done:List Line)(s:St):List Placed->Got (List Line)
 |[]=>match s with
  | .line=>.ok (done,[])
  |_=>.error []
 |(p,t)::r=>match step done s p t with
  |none=>.error ((p,t)::r)
  |some x=>run x.1 x.2 r
def fA(d:Nat)(rows:Rows):Nat->Expr->List Placed->Got Expr
 |0,e,l=>.ok (e,l)
 |k+1,e,l=>andThen (fA d rows k e l) fun x r=>V d (.more (k+2) (mix (rows (k+2)) x)) r
def LH(d:Nat)(c:Option (Bin×Expr))(x:Expr)(r:List Placed):Got Expr:=match c with
 |none=>V d (.more 8 x) r
 |some y=>.ok (.bin y.1 y.2 x,r)
def whole(d:Nat)(f:Fr)(e:Expr)(l:List Placed):Got Expr:=andThen (fA d f.rows 6 e l) fun x r=>LH d f.cmp x r
abbrev K:=Expr->List Placed->Got (List Line)
def BB(k:K)(p:Nat)(w:Bytes)(a b c:Expr):K:=fun e r4=>andThen (want isCloseB r4) fun _ r9=>k (.elem p w 4 a b c e) r9
def BC(k:K)(d p:Nat)(w:Bytes)(a b:Expr):K:=fun c r3=>if next isComma r3=false then andThen (want isCloseB r3) fun _ r9=>k (.elem p w 3 a b c nil) r9
 else andThen (V d (.level 8) (r3.drop 1)) (BB k p w a b c)
def BD(k:K)(d p:Nat)(w:Bytes)(a:Expr):K:=fun b r2=>if next isComma r2=false then andThen (want isCloseB r2) fun _ r9=>k (.elem p w 2 a b nil nil) r9
 else andThen (V d (.level 8) (r2.drop 1)) (BC k d p w a b)
def BE(k:K)(d p:Nat)(w:Bytes):K:=fun a r1=>if next isComma r1=false then andThen (want isCloseB r1) fun _ r9=>k (.elem p w 1 a nil nil nil) r9
 else andThen (V d (.level 8) (r1.drop 1)) (BD k d p w a)
def g6(k top:K)(d:Nat):Ctx->List Expr->K
 | .top,_=>top
 | .group,_=>fun v r=>andThen (want isCloseP r) fun _ r9=>k v r9
 | .fn1 o,_=>fun v r=>andThen (want isCloseP r) fun _ r9=>k (.un o v) r9
 | .fn2 o,[]=>fun v r=>andThen (want isComma r) fun _ r3=>andThen (V d (.level 8) r3) fun b r4=>andThen (want isCloseP r4) fun _ r9=>k (.bin o v b) r9
 | .fn2 o,a::_=>fun v r=>andThen (want isCloseP r) fun _ r9=>k (.bin o a v) r9
 | .cond,[]=>fun v r=>andThen (want isComma r) fun _ r3=>andThen (V d (.level 8) r3) fun b r4=>andThen (want isComma r4) fun _ r5=>andThen (V d (.level 8) r5) fun c r6=>andThen (want isCloseP r6) fun _ r9=>k (.cond v b c) r9
 | .cond,[a]=>fun v r=>andThen (want isComma r) fun _ r5=>andThen (V d (.level 8) r5) fun c r6=>andThen (want isCloseP r6) fun _ r9=>k (.cond a v c) r9
 | .cond,a::b::_=>fun v r=>andThen (want isCloseP r) fun _ r9=>k (.cond a b v) r9
 | .elem p w,[]=>BE k d p w
 | .elem p w,[a]=>BD k d p w a
 | .elem p w,[a,b]=>BC k d p w a b
 | .elem p w,a::b::c::_=>BB k p w a b c
 | .red g rs,_=>fun v r=>andThen (want isCloseP r) fun _ r9=>k (.red g rs v) r9
def nF(done:List Line)(H:Hd):K:=fun v r=>andThen (want isSemi r) fun _ r7=>L (done++[⟨H.x,H.p,H.w,H.rs,H.k,v⟩]) r7
def hX(done:List Line)(H:Hd):List Fr->K
 |[]=>fun _ l=>.error l
 |f::fs=>fun e l=>andThen (whole (base fs) f (fT f.pre e) l) (g6 (hX done H fs) (nF done H) (base fs) f.ctx f.args)
def ff(done:List Line)(H:Hd)(f:Fr)(fs:List Fr)(l:List Placed):Got (List Line):=andThen (V (depth f fs) (.level 1) l) (hX done H (f::fs))
end ag
namespace ag
open Ax
def nm:Ow->Bool
 | .line .in_ _ _=>false
 |_=>true
def KJ(done:List Line)(x:Line)(l:List Placed):Got (List Line):=andThen (want isSemi l) fun _ r=>L (done++[x]) r
def J3(done:List Line)(H:Hd)(l:List Placed):Got (List Line):=andThen (want isIs l) fun _ r=>ff done H (cy .top) [] r
def Bh(done:List Line)(x:What)(p:Nat)(w:Bytes)(rs:List Range)(l:List Placed):Got (List Line):=andThen (aKind l) fun k r=>match x with
 | .in_=>KJ done ⟨.in_,p,w,rs,k,nil⟩ r
 |_=>J3 done ⟨x,p,w,rs,k⟩ r
def qP(done:List Line)(x:What)(p:Nat)(w:Bytes)(rs:List Range)(l:List Placed):Got (List Line):=andThen (want isColon l) fun _ r=>Bh done x p w rs r
def T7(done:List Line):Ow->List Range->List Placed->Got (List Line)
 | .line x p w=>fun rs l=>andThen (want isCloseB l) fun _ r=>qP done x p w rs r
 | .red H f fs g=>fun rs l=>andThen (want isColon l) fun _ r=>ff done H (cy (.red g rs)) (f::fs) r
def jf(done:List Line)(o:Ow)(rs:List Range)(l:List Placed):Got (List Line):=andThen (ranges (nm o) (4 - rs.length) l) fun xs r=>T7 done o (rs++xs) r
def mf(done:List Line)(o:Ow)(rs:List Range)(l:List Placed):Got (List Line):=if next isComma l=true/\rs.length<4 then jf done o rs (l.drop 1)else T7 done o rs l
def xN(done:List Line)(o:Ow)(rs:List Range)(p:Nat)(w:Bytes)(l:List Placed):Got (List Line):=andThen (aBound l) fun b r=>mf done o (rs++[⟨p,w,b⟩]) r
def Li(done:List Line)(o:Ow)(rs:List Range)(p:Nat)(w:Bytes)(l:List Placed):Got (List Line):=andThen (want isLt l) fun _ r=>xN done o rs p w r
def xg(done:List Line)(x:What)(p:Nat)(w:Bytes)(l:List Placed):Got (List Line):=if next isCloseB l=true then qP done x p w [] (l.drop 1)else jf done (.line x p w) [] l
def uT(done:List Line)(x:What)(p:Nat)(w:Bytes)(l:List Placed):Got (List Line):=andThen (want isOpenB l) fun _ r=>xg done x p w r
def iV(done:List Line)(H:Hd)(f:Fr)(fs:List Fr)(l:List Placed):Got (List Line):=match f.ctx with
 | .elem p w=>if next isCloseB l=true then hX done H fs (.elem p w 0 nil nil nil nil) (l.drop 1)else ff done H f fs l
 |_=>ff done H f fs l
def S7(done:List Line)(H:Hd)(f:Fr)(fs:List Fr):Wd->List Placed->Got (List Line)
 | .fn1 o=>ff done H (cy (.fn1 o)) (f::fs)
 | .fn2 o=>ff done H (cy (.fn2 o)) (f::fs)
 | .cond=>ff done H (cy .cond) (f::fs)
 | .red g=>jf done (.red H f fs g) []
def Bl(done:List Line)(H:Hd)(f:Fr)(fs:List Fr)(e:Expr)(l:List Placed):Got (List Line):=andThen (whole (base fs) f e l) (g6 (hX done H fs) (nF done H) (base fs) f.ctx f.args)
def rest(done:List Line):St->List Placed->Got (List Line)
 | .line=>L done
 | .name x=>fun l=>andThen (aName l) fun y r=>match x with
  | .size=>KJ done ⟨.size,y.1,y.2,[],0,nil⟩ r
  |_=>uT done x y.1 y.2 r
 | .semi x=>KJ done x
 | .axes x p w=>uT done x p w
 | .first x p w=>xg done x p w
 | .iC o rs=>jf done o rs
 | .less o rs p w=>Li done o rs p w
 | .bound o rs p w=>xN done o rs p w
 | .behind o rs=>mf done o rs
 | .colon x p w rs=>qP done x p w rs
 | .kind x p w rs=>Bh done x p w rs
 | .equals x p w rs k=>J3 done ⟨x,p,w,rs,k⟩
 | .want first H f fs=>if first=true then iV done H f fs else ff done H f fs
 | .word k H f fs=>fun l=>andThen (opening (depth f fs) l) fun _ r=>S7 done H f fs k r
 | .named p w H f fs=>fun l=>if next isOpenB l=false then hX done H (f::fs) (.name p w) l else if DEEP<=depth f fs then .error l else iV done H (cy (.elem p w)) (f::fs) (l.drop 1)
 | .il e H f fs=>Bl done H f fs e
def cY:List Fr->Prop
 |[]=>False
 |f::fs=>match f.ctx with
  | .top=>fs=[]
  |_=>cY fs
def B7:Ow->Prop
 | .line _ _ _=>True
 | .red _ f fs _=>cY (f::fs)
def Good:St->Prop
 | .iC o rs=>rs.length<4/\B7 o
 | .less o rs _ _=>rs.length<4/\B7 o
 | .bound o rs _ _=>rs.length<4/\B7 o
 | .behind o rs=>rs.length<=4/\B7 o
 | .want _ _ f fs=>cY (f::fs)
 | .word _ _ f fs=>cY (f::fs)/\depth f fs<DEEP
 | .named _ _ _ f fs=>cY (f::fs)
 | .il _ _ f fs=>cY (f::fs)/\f.pre=[]
 |_=>True
theorem gP(lev p:Nat)(t:Tok)(r:List Placed):opAt lev ((p,t)::r)=match dw t with
  |some o=>if level o=lev then some o else none
  |none=>none:=by
 cases t<;>first|rfl|skip
 ·show(if lev=3 then some Bin.sub else none)=if 3=lev then some Bin.sub else none
  by_cases h:lev=3
  ·rw[ai h,ai h.symm]
  ·rw[af h,af fun q=>h q.symm]
 ·show(if lev=8 then some Bin.less else none)=if 8=lev then some Bin.less else none
  by_cases h:lev=8
  ·rw[ai h,ai h.symm]
  ·rw[af h,af fun q=>h q.symm]
theorem je{d:Nat}{rows:Rows}{e:Expr}{l:List Placed}:∀{k:Nat},k<=6->(∀lev,2<=lev->lev<=k+1->opAt lev l=none)->fA d rows k e l=.ok (reduce rows k e,l)
 |0,_,_=>rfl
 |k+1,hk,h=>by
  unfold fA;rw[je (k:=k) (by omega) fun lev h1 h2=>h lev h1 (by omega),dA,qS (by omega),h (k+2) (by omega) (by omega)];rfl
theorem BO{d:Nat}{rows rows':Rows}{e:Expr}:∀{k:Nat}{l:List Placed},(∀lev,2<=lev->lev<=k+1->rows lev=rows' lev)->fA d rows k e l=fA d rows' k e l
 |0,_,_=>rfl
 |k+1,l,h=>by
  unfold fA;rw[BO (k:=k) fun lev h1 h2=>h lev h1 (by omega),h (k+2) (by omega) (by omega)]
theorem oH{d:Nat}{l:List Placed}:∀{k:Nat},k<=6->V d (.level (k+1)) l=andThen (V d (.level 1) l) (fA d d7 k)
 |0,_=>by
  cases h:V d (.level (0+1)) l with
  |error e=>rfl
  |ok x=>rfl
 |k+1,hk=>by
  rw[Kg (by omega) (by omega)];show andThen (V d (.level (k+1)) l) _=_;rw[oH (k:=k) (by omega),aB];rfl
theorem HA{d:Nat}{rows:Rows}{e:Expr}{p:Nat}{t:Tok}{r:List Placed}{o:Bin}(ho:dw t=some o)(h2:2<=level o)
  (hr:¬ROW<=operands (level o) (reduce rows (level o - 1) e)):∀{k:Nat},k<=6->level o<=k+1->
  fA d rows k e ((p,t)::r)=andThen (V d (.level 1) r) (fA d (cC rows (level o) (o,reduce rows (level o - 1) e)) k)
 |0,_,h=>absurd h (by omega)
 |k+1,hk,h=>by
  by_cases q:level o=k+2
  ·have hp:fA d rows k e ((p,t)::r)=.ok (reduce rows k e,(p,t)::r):=je (by omega) fun lev h1 h3=>by
    rw[gP,ho];exact af (by omega)
   show andThen (fA d rows k e ((p,t)::r)) (fun x r=>V d (.more (k+2) (mix (rows (k+2)) x)) r)=andThen (V d (.level 1) r) fun e' l=>andThen (fA d _ k e' l) fun x r=>V d (.more (k+2) (mix ((cC rows (level o) (o,reduce rows (level o - 1) e)) (k+2)) x)) r;rw[hp,dA,qS (by omega),gP,ho];dsimp only;rw[ai q];dsimp only;have e1:reduce rows (level o - 1) e=mix (rows (k+2)) (reduce rows k e):=by rw[q];rfl
   rw[e1,q]at hr;rw[af (fun z=>hr z.2),List.drop_one,nB];have e2:cC rows (level o) (o,reduce rows (level o - 1) e) (k+2)=some (o,reduce rows (level o - 1) e):=by
    unfold cC;rw[ai q.symm]
   rw[e2];have e3:∀(e':Expr)(l:List Placed),fA d (cC rows (level o) (o,reduce rows (level o - 1) e)) k e' l=fA d d7 k e' l:=fun e' l=>BO fun lev h1 h3=>by
    unfold cC d7;rw[af (by omega),ai (by omega)]
   have e4:k+2 - 1=k+1:=by omega
   rw[e4,oH (k:=k) (by omega),aB];refine aj rfl fun e' l _=>?_;rw[e3];refine aj rfl fun b r' _=>?_;rw[af (by omega),e1];rfl
  ·show andThen (fA d rows k e ((p,t)::r)) (fun x r=>V d (.more (k+2) (mix (rows (k+2)) x)) r)=andThen (V d (.level 1) r) fun e' l=>andThen (fA d _ k e' l) fun x r=>V d (.more (k+2) (mix ((cC rows (level o) (o,reduce rows (level o - 1) e)) (k+2)) x)) r;rw[HA ho h2 hr (k:=k) (by omega) (by omega),aB];refine aj rfl fun e' l _=>?_;refine aj rfl fun b r' _=>?_;have e2:cC rows (level o) (o,reduce rows (level o - 1) e) (k+2)=rows (k+2):=by
    unfold cC;rw[af (by omega),af (by omega)]
   rw[e2]
theorem BP{d:Nat}{rows:Rows}{e:Expr}{p:Nat}{t:Tok}{r:List Placed}{o:Bin}(ho:dw t=some o)(h2:2<=level o)
  (hr:ROW<=operands (level o) (reduce rows (level o - 1) e)):∀{k:Nat},k<=6->level o<=k+1->
  fA d rows k e ((p,t)::r)=.error ((p,t)::r)
 |0,_,h=>absurd h (by omega)
 |k+1,hk,h=>by
  unfold fA;by_cases q:level o=k+2
  ·have hp:fA d rows k e ((p,t)::r)=.ok (reduce rows k e,(p,t)::r):=je (by omega) fun lev h1 h3=>by
    rw[gP,ho];exact af (by omega)
   rw[hp,dA,qS (by omega),gP,ho];dsimp only;rw[ai q];dsimp only;have e1:reduce rows (level o - 1) e=mix (rows (k+2)) (reduce rows k e):=by rw[q];rfl
   rw[e1,q]at hr;rw[ai ⟨by omega,hr⟩]
  ·rw[BP ho h2 hr (k:=k) (by omega) (by omega)];rfl
theorem Sb{d:Nat}{l:List Placed}{f:Fr}(h1:f.rows=d7)(h2:f.cmp=none):V d (.level 8) l=andThen (V d (.level 1) l) (whole d f):=by
 rw[Kg (by omega) (by omega)];show andThen (V d (.level (6+1)) l) _=_;rw[oH (by omega),aB];refine aj rfl fun e r _=>?_;unfold whole;rw[h1,h2];rfl
theorem sh{done:List Line}{H:Hd}{f:Fr}{fs:List Fr}{l:List Placed}(h1:f.rows=d7)(h2:f.cmp=none)(h3:f.pre=[]):
  ff done H f fs l=andThen (V (base fs) (.level 8) l) (g6 (hX done H fs) (nF done H) (base fs) f.ctx f.args):=by
 rw[Sb h1 h2,aB];unfold ff depth;rw[h3];refine aj rfl fun e r _=>?_;show andThen (whole (base fs) f (fT f.pre e) r) _=_;rw[h3];rfl
theorem Kk{d:Nat}{f:Fr}{e:Expr}{p:Nat}{t:Tok}{r:List Placed}(h:dw t=none):whole d f e ((p,t)::r)=.ok (cP f.cmp (reduce f.rows 6 e),(p,t)::r):=by
 unfold whole;rw[je (by omega) fun lev _ _=>by rw[gP,h],dA];unfold LH cP mix;cases hc:f.cmp with
 |none=>
  dsimp only;rw[qS (by omega),gP,h]
 |some y=>rfl
theorem L5{d:Nat}{f:Fr}{e:Expr}{p:Nat}{t:Tok}{r:List Placed}{o:Bin}(h:dw t=some o)(hl:level o<2):whole d f e ((p,t)::r)=.ok (cP f.cmp (reduce f.rows 6 e),(p,t)::r):=by
 unfold whole;rw[je (by omega) fun lev _ _=>by rw[gP,h];exact af (by omega),dA];unfold LH cP mix;cases hc:f.cmp with
 |none=>
  dsimp only;rw[qS (by omega),gP,h];dsimp only;rw[af (by omega)]
 |some y=>rfl
theorem L3{d:Nat}{f:Fr}{e:Expr}:whole d f e []=.ok (cP f.cmp (reduce f.rows 6 e),[]):=by
 unfold whole;rw[je (by omega) fun lev _ _=>rfl,dA];unfold LH cP mix;cases hc:f.cmp with
 |none=>
  dsimp only;rw[qS (by omega)];rfl
 |some y=>rfl
end ag
namespace ag
open Ax
def After(done:List Line)(x:Option (List Line×St))(p:Nat)(t:Tok)(r:List Placed):Got (List Line):=match x with
 |none=>.error ((p,t)::r)
 |some y=>rest y.1 y.2 r
theorem nD{ok:Tok->Bool}{p:Nat}{t:Tok}{r:List Placed}(h:ok t=false):want ok ((p,t)::r)=.error ((p,t)::r):=by
 unfold want;dsimp only;rw[h];rfl
theorem Od{ok:Tok->Bool}{p:Nat}{t:Tok}{r:List Placed}(h:ok t=true):want ok ((p,t)::r)=.ok ((),r):=by
 unfold want;dsimp only;rw[h];rfl
theorem z7{k top:K}{d:Nat}{c:Ctx}{args:List Expr}{v:Expr}{p:Nat}{t:Tok}{r:List Placed}(htop:top v ((p,t)::r)=.error ((p,t)::r))
  (h1:isComma t=false) (h2:isCloseP t=false) (h3:isCloseB t=false):g6 k top d c args v ((p,t)::r)=.error ((p,t)::r):=by
 have n:next isComma ((p,t)::r)=false:=h1
 unfold g6;split<;>first
  |exact htop
  |(rw[nD h2];rfl)
  |(rw[nD h1];rfl)
  |(unfold BE;rw[ai n,nD h3];rfl)
  |(unfold BD;rw[ai n,nD h3];rfl)
  |(unfold BC;rw[ai n,nD h3];rfl)
  |(unfold BB;rw[nD h3];rfl)
theorem fi{done:List Line}{H:Hd}{e:Expr}{fs:List Fr}{p:Nat}{t:Tok}{r:List Placed}(g:cY fs):
  hX done H fs e r=After done ((iK H e fs).map fun s=>(done,s)) p t r:=by
 cases fs with
 |nil=>exact g.elim
 |cons f fs=>rfl
theorem oC{H:Hd}{e:Expr}{fs:List Fr}{s:St}(g:cY fs)(h:iK H e fs=some s):Good s:=by
 cases fs with
 |nil=>exact g.elim
 |cons f fs=>
  injection h with h
  subst h;exact⟨g,rfl⟩
theorem GR{done:List Line}{H:Hd}{f:Fr}{fs:List Fr}{v:Expr}{r:List Placed}:
  rest done (gU H f fs v) r=andThen (V (base fs) (.level 8) r) (g6 (hX done H fs) (nF done H) (base fs) f.ctx (f.args++[v])):=
 sh rfl rfl rfl
theorem fZ{f:Fr}{fs:List Fr}{g:Fr}(h:cY (f::fs))(e:g.ctx=f.ctx):cY (g::fs):=by
 unfold cY at h⊢;rw[e];exact h
theorem dJ{f:Fr}{fs:List Fr}(h:cY (f::fs))(e:f.ctx≠.top):cY fs:=by
 unfold cY at h;split at h
 ·rename_i q;exact absurd q e
 ·exact h
theorem LF{done:List Line}{H:Hd}{f:Fr}{fs:List Fr}{v:Expr}{p:Nat}{r:List Placed}(g:cY (f::fs)):
  g6 (hX done H fs) (nF done H) (base fs) f.ctx f.args v ((p,.comma)::r)=After done ((tm H f fs v).map fun s=>(done,s)) p .comma r:=by
 obtain⟨c,args,cmp,rows,pre⟩:=f;have key:∀x,andThen (V (base fs) (.level 8) r) (g6 (hX done H fs) (nF done H) (base fs) c (args++[v]))=x->x=rest done (gU H ⟨c,args,cmp,rows,pre⟩ fs v) r:=fun x h=>by
  rw[GR,<-h]
 cases c with
 |top=>rfl
 |group=>rfl
 |fn1 o=>rfl
 |red g rs=>rfl
 |fn2 o=>match args with
  |[]=>exact key _ rfl
  |_::_=>rfl
 |cond=>match args with
  |[]=>exact key _ rfl
  |[_]=>exact key _ rfl
  |_::_::_=>rfl
 |elem q w=>match args with
  |[]=>exact key _ rfl
  |[_]=>exact key _ rfl
  |[_,_]=>exact key _ rfl
  |_::_::_::_=>rfl
theorem Jh{done:List Line}{H:Hd}{f:Fr}{fs:List Fr}{v:Expr}{p:Nat}{r:List Placed}(g:cY (f::fs)):
  g6 (hX done H fs) (nF done H) (base fs) f.ctx f.args v ((p,.closeP)::r)=After done ((iB H f fs v).map fun s=>(done,s)) p .closeP r:=by
 obtain⟨c,args,cmp,rows,pre⟩:=f;cases c with
 |top=>rfl
 |group=>exact fi (dJ g fun z=>nomatch z)
 |fn1 o=>exact fi (dJ g fun z=>nomatch z)
 |red g' rs=>exact fi (dJ g fun z=>nomatch z)
 |fn2 o=>match args with
  |[]=>rfl
  |_::_=>exact fi (dJ g fun z=>nomatch z)
 |cond=>match args with
  |[]=>rfl
  |[_]=>rfl
  |_::_::_=>exact fi (dJ g fun z=>nomatch z)
 |elem q w=>match args with
  |[]=>rfl
  |[_]=>rfl
  |[_,_]=>rfl
  |_::_::_::_=>rfl
theorem Ji{done:List Line}{H:Hd}{f:Fr}{fs:List Fr}{v:Expr}{p:Nat}{r:List Placed}(g:cY (f::fs)):
  g6 (hX done H fs) (nF done H) (base fs) f.ctx f.args v ((p,.closeB)::r)=After done ((nZ H f fs v).map fun s=>(done,s)) p .closeB r:=by
 obtain⟨c,args,cmp,rows,pre⟩:=f;cases c with
 |top=>rfl
 |group=>rfl
 |fn1 o=>rfl
 |red g' rs=>rfl
 |fn2 o=>match args with
  |[]=>rfl
  |_::_=>rfl
 |cond=>match args with
  |[]=>rfl
  |[_]=>rfl
  |_::_::_=>rfl
 |elem q w=>match args with
  |[]=>exact fi (dJ g fun z=>nomatch z)
  |[_]=>exact fi (dJ g fun z=>nomatch z)
  |[_,_]=>exact fi (dJ g fun z=>nomatch z)
  |_::_::_::_=>exact fi (dJ g fun z=>nomatch z)
theorem Mt{done:List Line}{H:Hd}{f:Fr}{fs:List Fr}{v:Expr}{p:Nat}{r:List Placed}:
  g6 (hX done H fs) (nF done H) (base fs) f.ctx f.args v ((p,.semi)::r)=After done (match f.ctx with
   | .top=>some (done++[⟨H.x,H.p,H.w,H.rs,H.k,v⟩],.line)
   |_=>none) p .semi r:=by
 obtain⟨c,args,cmp,rows,pre⟩:=f;cases c with
 |top=>rfl
 |group=>rfl
 |fn1 o=>rfl
 |red g' rs=>rfl
 |fn2 o=>match args with
  |[]=>rfl
  |_::_=>rfl
 |cond=>match args with
  |[]=>rfl
  |[_]=>rfl
  |_::_::_=>rfl
 |elem q w=>match args with
  |[]=>rfl
  |[_]=>rfl
  |[_,_]=>rfl
  |_::_::_::_=>rfl
theorem D6{done:List Line}{e:Expr}{H:Hd}{f:Fr}{fs:List Fr}{p:Nat}{t:Tok}{r:List Placed}(g:cY (f::fs))(hp:f.pre=[]):
  Bl done H f fs e ((p,t)::r)=After done (b6 done e H f fs t) p t r:=by
 unfold Bl b6;have topno:∀v,isSemi t=false->nF done H v ((p,t)::r)=.error ((p,t)::r):=fun v h=>by
  unfold nF;rw[nD h];rfl
 cases ho:dw t with
 |some o=>
  have hs:isSemi t=false:=by cases t<;>first|rfl|exact nomatch ho
  have h1:isComma t=false:=by cases t<;>first|rfl|exact nomatch ho
  have h2:isCloseP t=false:=by cases t<;>first|rfl|exact nomatch ho
  have h3:isCloseB t=false:=by cases t<;>first|rfl|exact nomatch ho
  dsimp only;split
  ·rename_i h8;have hc:fA (base fs) f.rows 6 e ((p,t)::r)=.ok (reduce f.rows 6 e,(p,t)::r):=je (by omega) fun lev _ h=>by
    rw[gP,ho];exact af (by omega)
   unfold whole;rw[hc,dA];cases hcmp:f.cmp with
   |some y=>
    show g6 _ _ _ _ _ _ _=_;rw[z7 (topno _ hs) h1 h2 h3];rfl
   |none=>
    show andThen (V (base fs) (.more 8 (reduce f.rows 6 e)) ((p,t)::r)) _=ff done H {f with cmp:=some (o,reduce f.rows 6 e),rows:=d7} fs r;rw[qS (by omega),gP,ho];dsimp only;rw[ai h8];dsimp only;rw[af (by omega),List.drop_one,nB];unfold ff depth;dsimp only;rw[hp];show andThen (andThen (V (base fs) (.level (6+1)) r) _) _=_;rw[oH (by omega),aB,aB];refine aj rfl fun b r' _=>?_;show _=andThen (andThen (fA (base fs) d7 6 b r') _) _;rw[aB];rfl
  ·rename_i h8;split
   ·rename_i hlev;have hlev7:level o<=7:=by
     have:level o<=8:=by cases o<;>decide
     omega
    split
    ·rename_i hr;unfold whole;rw[BP ho hlev hr (by omega) (by omega)];rfl
    ·rename_i hr;show _=ff done H {f with rows:=cC f.rows (level o) (o,reduce f.rows (level o - 1) e)} fs r;unfold whole;rw[HA ho hlev hr (by omega) (by omega),aB];unfold ff depth;dsimp only;rw[hp];rw[aB];refine aj rfl fun b r' _=>?_;show _=andThen (andThen (fA (base fs) (cC f.rows (level o) (o,reduce f.rows (level o - 1) e)) 6 b r') _) _;rw[aB]
   ·rename_i hlev;rw[L5 ho (by omega),dA,z7 (topno _ hs) h1 h2 h3];rfl
 |none=>
  rw[Kk ho,dA];dsimp only
  ·split
   ·exact LF g
   ·exact Jh g
   ·exact Ji g
   ·exact Mt
   ·rename_i n1 n2 n3 n4;have hs:isSemi t=false:=by cases t<;>first|rfl|exact(n4 rfl).elim
    have h1:isComma t=false:=by cases t<;>first|rfl|exact(n1 rfl).elim
    have h2:isCloseP t=false:=by cases t<;>first|rfl|exact(n2 rfl).elim
    have h3:isCloseB t=false:=by cases t<;>first|rfl|exact(n3 rfl).elim
    rw[z7 (topno _ hs) h1 h2 h3];rfl
end ag
namespace ag
open Ax
theorem Kc{done:List Line}{o:Ow}{rs:List Range}{l:List Placed}(h:rs.length<4)(hn:nm o=false):
  jf done o rs l=xN done o rs 0 [] l:=by
 obtain⟨j,hj⟩:∃j,4 - rs.length=j+1:=⟨3 - rs.length,by omega⟩;unfold jf xN;rw[hj,hn];unfold ranges aRange;rw[af (by decide),aB,aB];refine aj rfl fun b r _=>?_;rw[dA,gb];unfold mf;have e1:(rs++[(⟨0,[],b⟩:Range)]).length=rs.length+1:=by simp
 by_cases c:next isComma r=true/\0<j
 ·rw[ai c,ai ⟨c.1,by omega⟩,aB];unfold jf;rw[e1,hn,show 4 - (rs.length+1)=j by omega];refine aj rfl fun xs r1 _=>?_;rw[dA,aw];rfl
 ·rw[af c,af fun z=>c ⟨z.1,by omega⟩];rfl
theorem BZ{done:List Line}{o:Ow}{rs:List Range}{l:List Placed}(h:rs.length<4)(hn:nm o=true):
  jf done o rs l=andThen (aName l) fun x r=>Li done o rs x.1 x.2 r:=by
 obtain⟨j,hj⟩:∃j,4 - rs.length=j+1:=⟨3 - rs.length,by omega⟩;unfold jf;rw[hj,hn];unfold ranges aRange;rw[ai rfl,aB,aB];refine aj rfl fun x r _=>?_;unfold Li;rw[aB];refine aj rfl fun _ r _=>?_;unfold xN;rw[aB];refine aj rfl fun b r _=>?_;rw[dA,gb];unfold mf;have e1:(rs++[(⟨x.1,x.2,b⟩:Range)]).length=rs.length+1:=by simp
 by_cases c:next isComma r=true/\0<j
 ·rw[ai c,ai ⟨c.1,by omega⟩,aB];unfold jf;rw[e1,hn,show 4 - (rs.length+1)=j by omega];refine aj rfl fun xs r1 _=>?_;rw[dA,aw];rfl
 ·rw[af c,af fun z=>c ⟨z.1,by omega⟩];rfl
theorem Ez{done:List Line}{o:Ow}{rs:List Range}{p:Nat}{t:Tok}{r:List Placed}(h:rs.length<4):
  jf done o rs ((p,t)::r)=After done ((gY o rs p t).map fun s=>(done,s)) p t r:=by
 cases hn:nm o with
 |false=>
  rw[Kc h hn];cases o with
  |red H f fs g=>exact nomatch hn
  |line x q w=>cases x with
   |in_=>cases t<;>rfl
   |size=>exact nomatch hn
   |let_=>exact nomatch hn
   |out=>exact nomatch hn
 |true=>
  rw[BZ h hn];cases o with
  |red H f fs g=>cases t<;>rfl
  |line x q w=>cases x with
   |in_=>exact nomatch hn
   |size=>cases t<;>rfl
   |let_=>cases t<;>rfl
   |out=>cases t<;>rfl
theorem vQ{done:List Line}{H:Hd}{f:Fr}{fs:List Fr}{p:Nat}{t:Tok}{r:List Placed}:
  ff done H f fs ((p,t)::r)=After done ((fo false H f fs p t).map fun s=>(done,s)) p t r:=by
 have fresh:∀(c:Ctx)(l:List Placed),ff done H (cy c) (f::fs) l=andThen (V (depth f fs+1) (.level 8) l) (g6 (hX done H (f::fs)) (nF done H) (depth f fs+1) c []):=fun c l=>sh rfl rfl rfl;have op:∀{l:List Placed},¬DEEP<=depth f fs->opening (depth f fs) l=want isOpenP l:=fun h=>by
  unfold opening;rw[af h]
 unfold ff;cases t with
 |num n=>rfl
 |name w=>
  rw[SU];show _=if next isOpenB r=false then hX done H (f::fs) (.name p w) r else if DEEP<=depth f fs then .error r else iV done H (cy (.elem p w)) (f::fs) (r.drop 1)
  rw[gb];split
  ·rfl
  ·rw[gb];split
   ·rfl
   ·unfold iV;show _=if next isCloseB (r.drop 1)=true then hX done H (f::fs) (.elem p w 0 nil nil nil nil) ((r.drop 1).drop 1)else ff done H (cy (.elem p w)) (f::fs) (r.drop 1)
    rw[gb];split
    ·rw[List.drop_drop];rfl
    ·rw[fresh,aB];refine aj rfl fun a r1 _=>?_;show _=BE _ _ _ _ _ _;unfold BE;rw[gb];split
     ·rw[aB];rfl
     ·rw[aB];refine aj rfl fun a r1 _=>?_;unfold BD;rw[gb];split
      ·rw[aB];rfl
      ·rw[aB];refine aj rfl fun a r1 _=>?_;unfold BC;rw[gb];split
       ·rw[aB];rfl
       ·rw[aB];refine aj rfl fun a r1 _=>?_;unfold BB;rw[aB];rfl
 |minus=>
  rw[Rl];show _=After done ((if DEEP<=depth f fs then none else some (St.want false H {f with pre:=.neg::f.pre} fs)).map fun s=>(done,s)) p _ r;split
  ·rfl
  ·rw[aB];rfl
 |tilde=>
  rw[Rj];show _=After done ((if DEEP<=depth f fs then none else some (St.want false H {f with pre:=.not::f.pre} fs)).map fun s=>(done,s)) p _ r;split
  ·rfl
  ·rw[aB];rfl
 |openP=>
  rw[Rk];show _=After done ((if DEEP<=depth f fs then none else some (St.want false H (cy .group) (f::fs))).map fun s=>(done,s)) p _ r;unfold opening;split
  ·rfl
  ·rw[Od rfl,dA];show _=ff done H (cy .group) (f::fs) r;rw[fresh,aB];refine aj rfl fun a r1 _=>?_;rw[aB];rfl
 |fn1 o=>
  rw[T1];show _=After done ((if DEEP<=depth f fs then none else some (St.word (.fn1 o) H f fs)).map fun s=>(done,s)) p _ r;split
  ·rfl
  ·rw[aB];show _=andThen (opening (depth f fs) r) fun _ r=>ff done H (cy (.fn1 o)) (f::fs) r;refine aj rfl fun a r1 _=>?_;rw[fresh,aB];refine aj rfl fun a r1 _=>?_;rw[aB];rfl
 |fn2 o=>
  rw[TZ];show _=After done ((if DEEP<=depth f fs then none else some (St.word (.fn2 o) H f fs)).map fun s=>(done,s)) p _ r;split
  ·rfl
  ·rw[aB];show _=andThen (opening (depth f fs) r) fun _ r=>ff done H (cy (.fn2 o)) (f::fs) r;refine aj rfl fun a r1 _=>?_;rw[fresh,aB];refine aj rfl fun a r1 _=>?_;unfold g6;rw[aB];refine aj rfl fun a r1 _=>?_;rw[aB];refine aj rfl fun a r1 _=>?_;rw[aB];rfl
 |if_=>
  rw[UT];show _=After done ((if DEEP<=depth f fs then none else some (St.word .cond H f fs)).map fun s=>(done,s)) p _ r;split
  ·rfl
  ·rw[aB];show _=andThen (opening (depth f fs) r) fun _ r=>ff done H (cy .cond) (f::fs) r;refine aj rfl fun a r1 _=>?_;rw[fresh,aB];refine aj rfl fun a r1 _=>?_;unfold g6;rw[aB];refine aj rfl fun a r1 _=>?_;rw[aB];refine aj rfl fun a r1 _=>?_;rw[aB];refine aj rfl fun a r1 _=>?_;rw[aB];refine aj rfl fun a r1 _=>?_;rw[aB];rfl
 |red g=>
  rw[TY];show _=After done ((if DEEP<=depth f fs then none else some (St.word (.red g) H f fs)).map fun s=>(done,s)) p _ r;split
  ·rfl
  ·rw[aB];show _=andThen (opening (depth f fs) r) fun _ r=>jf done (.red H f fs g) [] r;refine aj rfl fun a r1 _=>?_;unfold jf;rw[aB];refine aj rfl fun rs r1 _=>?_;show _=andThen (want isColon r1) fun _ r=>ff done H (cy (.red g rs)) (f::fs) r;rw[aB];refine aj rfl fun a r1 _=>?_;rw[fresh,aB];refine aj rfl fun a r1 _=>?_;rw[aB];rfl
 |kind k=>rfl
 |line x=>rfl
 |op o=>rfl
 |lt=>rfl
 |openB=>rfl
 |closeB=>rfl
 |closeP=>rfl
 |comma=>rfl
 |colon=>rfl
 |semi=>rfl
 |is=>rfl
 |bad=>rfl
theorem QM{done:List Line}{p:Nat}{x:What}{r:List Placed}:L done ((p,.line x)::r)=rest done (.name x) r:=by
 rw[B6];have vK:∀(H:Hd)(l:List Placed),ff done H (cy .top) [] l=andThen (value (16*l.length+16) 0 (.level 8) l) fun v r=>nF done H v r:=fun H l=>sh rfl rfl rfl;have ax:∀(x:What)(q:Nat)(w:Bytes)(b:Bool)(l:List Placed),nm (.line x q w)=b->andThen (axesIn b l) (fun rs r=>qP done x q w rs r)=uT done x q w l:=fun x q w b l hb=>by
  unfold axesIn uT;rw[aB];refine aj rfl fun _ r _=>?_;unfold xg;rw[gb];split
  ·rfl
  ·unfold jf;rw[hb,aB];refine aj rfl fun rs r _=>?_;rw[aB];rfl
 cases x with
 |size=>
  unfold lineIn;dsimp only;rw[aB];unfold rest;refine aj rfl fun y r1 _=>?_;rw[aB];rfl
 |in_=>
  unfold lineIn;dsimp only;rw[aB];unfold rest;refine aj rfl fun y r1 _=>?_;show _=uT done .in_ y.1 y.2 r1;rw[<-ax .in_ y.1 y.2 false r1 rfl,aB];refine aj rfl fun rs r1 _=>?_;unfold qP;rw[aB];refine aj rfl fun _ r1 _=>?_;unfold Bh;rw[aB];refine aj rfl fun k r1 _=>?_;rw[aB];rfl
 |let_=>
  unfold lineIn;dsimp only;rw[aB];unfold rest;refine aj rfl fun y r1 _=>?_;show _=uT done .let_ y.1 y.2 r1;rw[<-ax .let_ y.1 y.2 true r1 rfl,aB];refine aj rfl fun rs r1 _=>?_;unfold qP;rw[aB];refine aj rfl fun _ r1 _=>?_;unfold Bh;rw[aB];refine aj rfl fun k r1 _=>?_;rw[aB];refine aj rfl fun _ r1 _=>?_;rw[vK,aB];refine aj rfl fun _ r1 _=>?_;rw[aB];rfl
 |out=>
  unfold lineIn;dsimp only;rw[aB];unfold rest;refine aj rfl fun y r1 _=>?_;show _=uT done .out y.1 y.2 r1;rw[<-ax .out y.1 y.2 true r1 rfl,aB];refine aj rfl fun rs r1 _=>?_;unfold qP;rw[aB];refine aj rfl fun _ r1 _=>?_;unfold Bh;rw[aB];refine aj rfl fun k r1 _=>?_;rw[aB];refine aj rfl fun _ r1 _=>?_;rw[vK,aB];refine aj rfl fun _ r1 _=>?_;rw[aB];rfl
end ag
namespace ag
open Ax
theorem Fm{done:List Line}{H:Hd}{f:Fr}{fs:List Fr}{p:Nat}{t:Tok}{r:List Placed}(g:cY (f::fs)):
  iV done H f fs ((p,t)::r)=After done ((fo true H f fs p t).map fun s=>(done,s)) p t r:=by
 have other:(t=.closeB->False)->fo true H f fs p t=fo false H f fs p t:=fun h=>by
  cases t<;>first|rfl|exact(h rfl).elim
 unfold iV;split
 ·rename_i q w hc;split
  ·rename_i hb;have ht:t=.closeB:=by cases t<;>first|rfl|exact nomatch hb
   subst ht;show hX done H fs (.elem q w 0 nil nil nil nil) r=_;rw[fi (p:=p) (t:=.closeB) (dJ g (by rw[hc];exact fun z=>nomatch z))];unfold fo;rw[hc]
  ·rename_i hb;rw[vQ,other fun z=>hb (by subst z;rfl)]
 ·rename_i hc;rw[vQ];by_cases ht:t=.closeB
  ·subst ht;have e:fo true H f fs p .closeB=none:=by
    unfold fo;dsimp only;split
    ·rename_i h;exact(hc _ _ h).elim
    ·rfl
   rw[e];rfl
  ·rw[other ht]
theorem MD{done:List Line}{s:St}{p:Nat}{t:Tok}{r:List Placed}(g:Good s):rest done s ((p,t)::r)=After done (step done s p t) p t r:=by
 cases s with
 |line=>
  by_cases h:∃x,t=.line x
  ·obtain⟨x,rfl⟩:=h;exact QM
  ·have e:lineIn ((p,t)::r)=.error ((p,t)::r):=by
    cases t<;>first|rfl|exact(h ⟨_,rfl⟩).elim
   show L done _=_;rw[B6,e];cases t<;>first|rfl|exact(h ⟨_,rfl⟩).elim
 |name x=>cases t<;>first|rfl|(cases x<;>rfl)
 |semi x=>cases t<;>rfl
 |axes x q w=>cases t<;>rfl
 |first x q w=>
  by_cases h:t=.closeB
  ·subst h;rfl
  ·have e:step done (.first x q w) p t=(gY (.line x q w) [] p t).map fun s=>(done,s):=by
    cases t<;>first|rfl|exact(h rfl).elim
   rw[e,<-Ez (by decide)];show xg done x q w _=_;unfold xg;rw[af fun z=>h (by cases t<;>first|rfl|exact nomatch z)]
 |iC o rs=>exact Ez g.1
 |less o rs q w=>cases t<;>rfl
 |bound o rs q w=>cases t<;>rfl
 |behind o rs=>
  show mf done o rs _=_;unfold mf;cases t with
  |comma=>
   show _=After done (if rs.length<4 then some (done,.iC o rs)else none) p .comma r;by_cases h:rs.length<4
   ·rw[ai ⟨rfl,h⟩,ai h];rfl
   ·rw[af fun z=>h z.2,af h];cases o<;>rfl
  |_=>cases o<;>rfl
 |colon x q w rs=>cases t<;>rfl
 |kind x q w rs=>cases t<;>first|rfl|(cases x<;>rfl)
 |equals x q w rs k=>cases t<;>rfl
 |want first H f fs=>cases first with
  |false=>exact vQ
  |true=>exact Fm g
 |word k H f fs=>
  unfold rest;dsimp only;unfold opening;rw[af (my.mpr g.2)];cases t<;>first|rfl|(cases k<;>rfl)
 |named q w H f fs=>
  by_cases h:t=.openB
  ·subst h;show(if DEEP<=depth f fs then _ else _)=After done (if DEEP<=depth f fs then _ else _) p .openB r;split<;>rfl
  ·have e:step done (.named q w H f fs) p t=b6 done (fT f.pre (.name q w)) H {f with pre:=[]} fs t:=by
    cases t<;>first|rfl|exact(h rfl).elim
   rw[e];show(if next isOpenB ((p,t)::r)=false then _ else _)=_;rw[ai (by cases t<;>first|rfl|exact(h rfl).elim)];exact D6 (f:={f with pre:=[]}) (fZ g rfl) rfl
 |il e H f fs=>exact D6 g.1 g.2
theorem u1{o:Ow}{rs:List Range}{p:Nat}{t:Tok}{s:St}(h:rs.length<4)(g:B7 o)(e:gY o rs p t=some s):Good s:=by
 unfold gY at e;split at e
 ·split at e
  ·injection e with e;subst e;exact⟨by simp;omega,g⟩
  ·injection e with e;subst e;exact⟨by simp;omega,g⟩
  ·exact nomatch e
 ·split at e
  ·injection e with e;subst e;exact⟨h,g⟩
  ·exact nomatch e
theorem map_some{α β:Type}{x:Option α}{f:α->β}{y:β}(h:x.map f=some y):∃a,x=some a/\y=f a:=by
 cases x with
 |none=>exact nomatch h
 |some a=>exact⟨a,rfl,(bG h).symm⟩
theorem EI{b:Bool}{H:Hd}{f:Fr}{fs:List Fr}{p:Nat}{t:Tok}{s:St}(g:cY (f::fs))(e:fo b H f fs p t=some s):Good s:=by
 unfold fo at e;split at e
 ·split at e
  ·rename_i q w hc;exact oC (dJ g (by rw[hc];exact fun z=>nomatch z)) e
  ·exact nomatch e
 ·injection e with e;subst e;exact⟨fZ g rfl,rfl⟩
 ·injection e with e;subst e;exact g
 all_goals try(split at e;· exact nomatch e)
 ·injection e with e;subst e;exact fZ (g:={f with pre:=_}) g rfl
 ·injection e with e;subst e;exact fZ (g:={f with pre:=_}) g rfl
 ·injection e with e;subst e;exact(show cY (cy .group::f::fs)from g)
 ·injection e with e;subst e;exact⟨g,my.mp ‹_›⟩
 ·injection e with e;subst e;exact⟨g,my.mp ‹_›⟩
 ·injection e with e;subst e;exact⟨g,my.mp ‹_›⟩
 ·injection e with e;subst e;exact⟨g,my.mp ‹_›⟩
 ·exact nomatch e
theorem u0{done:List Line}{e:Expr}{H:Hd}{f:Fr}{fs:List Fr}{t:Tok}{x:List Line×St}(g:cY (f::fs))(h:b6 done e H f fs t=some x):Good x.2:=by
 unfold b6 at h;split at h
 ·split at h
  ·split at h
   ·exact nomatch h
   ·injection h with h;subst h;exact fZ (g:={f with cmp:=_,rows:=_}) g rfl
  ·split at h
   ·split at h
    ·exact nomatch h
    ·injection h with h;subst h;exact fZ (g:={f with rows:=_}) g rfl
   ·exact nomatch h
 ·have na:∀v,Good (gU H f fs v):=fun v=>fZ (g:={cy f.ctx with args:=f.args++[v]}) g rfl;split at h
  ·obtain⟨s,h1,rfl⟩:=map_some h;unfold tm at h1;split at h1
   all_goals first|(injection h1 with h1;subst h1;exact na _)|(cases h1;done)
  ·obtain⟨s,h1,rfl⟩:=map_some h;unfold iB at h1;split at h1
   all_goals first
    |(cases h1;done)
    |(rename_i hc;exact oC (dJ g (by rw[hc];exact fun z=>nomatch z)) h1)
    |(rename_i hc _;exact oC (dJ g (by rw[hc];exact fun z=>nomatch z)) h1)
  ·obtain⟨s,h1,rfl⟩:=map_some h;unfold nZ at h1;split at h1
   all_goals first
    |(cases h1;done)
    |(rename_i hc;exact oC (dJ g (by rw[hc];exact fun z=>nomatch z)) h1)
  ·split at h
   ·injection h with h;subst h;trivial
   ·exact nomatch h
  ·exact nomatch h
theorem vV{done:List Line}{s:St}{p:Nat}{t:Tok}{x:List Line×St}(g:Good s)(h:step done s p t=some x):Good x.2:=by
 unfold step at h;split at h
 ·split at h
  ·injection h with h;subst h;trivial
  ·exact nomatch h
 ·split at h
  ·injection h with h;subst h
   dsimp only;split<;>trivial
  ·exact nomatch h
 ·split at h
  ·injection h with h;subst h;trivial
  ·exact nomatch h
 ·split at h
  ·injection h with h;subst h;trivial
  ·exact nomatch h
 ·split at h
  ·injection h with h;subst h;trivial
  ·obtain⟨s,h1,rfl⟩:=map_some h;exact u1 (o:=.line _ _ _) (by decide) trivial h1
 ·obtain⟨s,h1,rfl⟩:=map_some h;exact u1 g.1 g.2 h1
 ·split at h
  ·injection h with h;subst h;exact g
  ·exact nomatch h
 ·obtain⟨g1,g2⟩:=g;split at h
  ·injection h with h;subst h;exact⟨by simp;omega,g2⟩
  ·injection h with h;subst h;exact⟨by simp;omega,g2⟩
  ·exact nomatch h
 ·obtain⟨g1,g2⟩:=g;split at h
  ·split at h
   ·injection h with h;subst h;exact⟨‹_›,g2⟩
   ·exact nomatch h
  ·split at h
   ·injection h with h;subst h;trivial
   ·exact nomatch h
  ·split at h
   ·injection h with h;subst h;exact g2
   ·exact nomatch h
  ·exact nomatch h
 ·split at h
  ·injection h with h;subst h;trivial
  ·exact nomatch h
 ·split at h
  ·injection h with h;subst h
   dsimp only;split<;>trivial
  ·exact nomatch h
 ·split at h
  ·injection h with h;subst h;trivial
  ·exact nomatch h
 ·obtain⟨s,h1,rfl⟩:=map_some h;exact EI g h1
 ·obtain⟨g1,g2⟩:=g;split at h
  ·split at h
   ·injection h with h;subst h;exact g1
   ·injection h with h;subst h;exact g1
   ·injection h with h;subst h;exact g1
   ·injection h with h;subst h;exact⟨by decide,g1⟩
  ·exact nomatch h
 ·split at h
  ·split at h
   ·exact nomatch h
   ·injection h with h;subst h;exact g
  ·refine u0 ?_ h;exact fZ g rfl
 ·exact u0 g.1 h
theorem Hb{done:List Line}{H:Hd}{f:Fr}{fs:List Fr}{e:Expr}:Bl done H f fs e []=.error []:=by
 unfold Bl;rw[L3,dA];obtain⟨c,args,cmp,rows,pre⟩:=f;cases c with
 |top=>rfl
 |group=>rfl
 |fn1 o=>rfl
 |red g' rs=>rfl
 |fn2 o=>match args with
  |[]=>rfl
  |_::_=>rfl
 |cond=>match args with
  |[]=>rfl
  |[_]=>rfl
  |_::_::_=>rfl
 |elem q w=>match args with
  |[]=>rfl
  |[_]=>rfl
  |[_,_]=>rfl
  |_::_::_::_=>rfl
theorem HN{done:List Line}{o:Ow}{rs:List Range}(h:rs.length<4):jf done o rs []=.error []:=by
 cases hn:nm o with
 |false=>rw[Kc h hn];rfl
 |true=>rw[BZ h hn];rfl
theorem Ov{done:List Line}{s:St}(g:Good s):rest done s []=run done s []:=by
 cases s with
 |line=>exact LY done
 |name x=>rfl
 |semi x=>rfl
 |axes x q w=>rfl
 |first x q w=>exact HN (o:=.line x q w) (by decide)
 |iC o rs=>exact HN g.1
 |less o rs q w=>rfl
 |bound o rs q w=>rfl
 |behind o rs=>
  show mf done o rs []=_;unfold mf;rw[af fun z=>nomatch z.1];cases o<;>rfl
 |colon x q w rs=>rfl
 |kind x q w rs=>rfl
 |equals x q w rs k=>rfl
 |want first H f fs=>cases first with
  |false=>rfl
  |true=>
   show iV done H f fs []=_;unfold iV;split<;>rfl
 |word k H f fs=>
  unfold rest;dsimp only;unfold opening;rw[af (my.mpr g.2)];rfl
 |named q w H f fs=>
  show hX done H (f::fs) (.name q w) []=_;exact Hb (f:={f with pre:=[]})
 |il e H f fs=>exact Hb
theorem run_eq:∀(l:List Placed)(done:List Line)(s:St),Good s->rest done s l=run done s l
 |[],done,s,g=>Ov g
 |(p,t)::r,done,s,g=>by
  rw[MD g];unfold run After;cases h:step done s p t with
  |none=>rfl
  |some x=>exact run_eq r x.1 x.2 (vV g h)
theorem M5(l:List Placed):linesIn (l.length+1) l=run [] .line l:=by
 rw[<-run_eq l [] .line trivial];show _=andThen (linesIn (l.length+1) l) fun xs r=>.ok ([]++xs,r);cases linesIn (l.length+1) l with
 |error e=>rfl
 |ok x=>rfl
theorem yN(t:Bytes):programIn t=match run [] .line (tokens t)with
  | .ok x=>.ok x.1
  | .error []=>.error t.length
  | .error (x::_)=>.error x.1:=by
 unfold programIn;rw[M5];rfl
end ag
namespace ag
open Ax
def iN:Bound->List Nat
 | .num _=>[]
 | .size p _=>[p]
def CA(r:Range):List Nat:=r.place::iN r.bound
def g4(rs:List Range):List Nat:=rs.flatMap CA
def di:Expr->List Nat
 | .num _=>[]
 | .name p _=>[p]
 | .elem p _ _ a b c d=>p::(di a++(di b++(di c++di d)))
 | .un _ a=>di a
 | .bin _ a b=>di a++di b
 | .cond a b c=>di a++(di b++di c)
 | .red _ rs a=>g4 rs++di a
def g8(x:What)(rs:List Range):List Nat:=match x with
 | .in_=>rs.flatMap fun r=>iN r.bound
 |_=>g4 rs
def kW(l:Line):List Nat:=l.place::(g8 l.what l.axes++di l.body)
def cK(P:List Line):List Nat:=P.flatMap kW
def kr(q:Option (Bin×Expr)):List Nat:=match q with
 |none=>[]
 |some x=>di x.2
def eE(rows:Rows):Nat->List Nat
 |0=>[]
 |k+1=>kr (rows (k+2))++eE rows k
def fh:Ctx->List Nat
 | .elem p _=>[p]
 | .red _ rs=>g4 rs
 |_=>[]
def eN(l:List Expr):List Nat:=l.flatMap di
def UJ(f:Fr):List Nat:=fh f.ctx++(eN f.args++(kr f.cmp++eE f.rows 6))
def bQ:List Fr->List Nat
 |[]=>[]
 |f::fs=>bQ fs++UJ f
def eB(H:Hd):List Nat:=H.p::g8 H.x H.rs
def pz:Ow->List Range->List Nat
 | .line x p _,rs=>p::g8 x rs
 | .red H f fs _,rs=>eB H++(bQ (f::fs)++g4 rs)
def gf:St->List Nat
 | .line=>[]
 | .name _=>[]
 | .semi l=>kW l
 | .axes _ p _=>[p]
 | .first _ p _=>[p]
 | .iC o rs=>pz o rs
 | .less o rs p _=>pz o rs++[p]
 | .bound o rs p _=>pz o rs++[p]
 | .behind o rs=>pz o rs
 | .colon x p _ rs=>p::g8 x rs
 | .kind x p _ rs=>p::g8 x rs
 | .equals x p _ rs _=>p::g8 x rs
 | .want _ H f fs=>eB H++bQ (f::fs)
 | .word _ H f fs=>eB H++bQ (f::fs)
 | .named q _ H f fs=>eB H++(bQ (f::fs)++[q])
 | .il e H f fs=>eB H++(bQ (f::fs)++di e)
theorem MY(q:Option (Bin×Expr))(e:Expr):di (mix q e)=kr q++di e:=by
 cases q<;>rfl
theorem rf(rows:Rows)(e:Expr):∀k,di (reduce rows k e)=eE rows k++di e
 |0=>rfl
 |k+1=>by
  unfold reduce eE;rw[MY,rf rows e k,aw]
theorem Oc(f:Fr)(e:Expr):di (cP f.cmp (reduce f.rows 6 e))=kr f.cmp++(eE f.rows 6++di e):=by
 unfold cP;rw[MY,rf]
theorem Gr(e:Expr):∀(pre:List Un)(e:Expr),di (fT pre e)=di e
 |[],_=>rfl
 |u::pre,e=>Gr e pre (.un u e)
theorem oX:∀k,eE d7 k=[]
 |0=>rfl
 |k+1=>by
  unfold eE;rw[oX k];rfl
theorem mJ(rows:Rows)(L:Nat)(x:Bin×Expr):∀k,k+1<L->eE (cC rows L x) k=[]
 |0,_=>rfl
 |k+1,h=>by
  unfold eE;rw[mJ rows L x k (by omega)];have e:cC rows L x (k+2)=none:=by
   unfold cC;rw[af (by omega),ai (by omega)]
  rw[e];rfl
theorem DM(rows:Rows)(L:Nat)(o:Bin)(e:Expr)(h2:2<=L):∀k,L<=k+1->eE (cC rows L (o,reduce rows (L - 1) e)) k=eE rows k++di e
 |0,h=>absurd h (by omega)
 |k+1,h=>by
  unfold eE;by_cases q:L=k+2
  ·rw[mJ rows L _ k (by omega)];have e1:cC rows L (o,reduce rows (L - 1) e) (k+2)=some (o,reduce rows (L - 1) e):=by
    unfold cC;rw[ai q.symm]
   rw[e1];show di (reduce rows (L - 1) e)++[]=_;rw[rf,aK,q];rfl
  ·rw[DM rows L o e h2 k (by omega)];have e1:cC rows L (o,reduce rows (L - 1) e) (k+2)=rows (k+2):=by
    unfold cC;rw[af (by omega),af (by omega)]
   rw[e1,aw]
theorem lO(c:Ctx)(fs:List Fr):bQ (cy c::fs)=bQ fs++fh c:=by
 show bQ fs++(fh c++([]++([]++eE d7 6)))=_;rw[oX];simp
theorem NX(x:What)(rs:List Range)(r:Range):g8 x (rs++[r])=g8 x rs++(match x with
  | .in_=>iN r.bound
  |_=>CA r):=by
 unfold g8 g4;cases x<;>simp
theorem rk(o:Ow)(rs:List Range)(r:Range):pz o (rs++[r])=pz o rs++((if nm o=true then[r.place]else[])++iN r.bound):=by
 cases o with
 |line x p w=>
  show p::g8 x (rs++[r])=p::g8 x rs++_;rw[NX];cases x<;>rfl
 |red H f fs g=>
  show eB H++(bQ (f::fs)++g4 (rs++[r]))=eB H++(bQ (f::fs)++g4 rs)++_;unfold g4;rw[cq];simp[CA,nm]
def Ai(p:Nat)(a b:List Nat):Prop:=b=a\/b=a++[p]
theorem JD{H:Hd}{e:Expr}{f:Fr}{fs:List Fr}:gf (prim H e f fs)=eB H++(bQ (f::fs)++di e):=by
 show eB H++(bQ ({f with pre:=[]}::fs)++di (fT f.pre e))=_;rw[Gr e];rfl
theorem DO{H:Hd}{e:Expr}{fs:List Fr}{s:St}(h:iK H e fs=some s):gf s=eB H++(bQ fs++di e):=by
 cases fs with
 |nil=>exact nomatch h
 |cons f fs=>injection h with h;subst h;exact JD
theorem Hr(p:Nat)(w:Bytes)(args:List Expr)(v:Expr)(h:args.length<=3):di (e8 p w args v)=p::(eN args++di v):=by
 match args,h with
 |[],_=>simp[e8,di,eN,nil]
 |[a],_=>simp[e8,di,eN,nil]
 |[a,b],_=>simp[e8,di,eN,nil]
 |[a,b,c],_=>simp[e8,di,eN,nil]
 |a::b::c::d::r,h=>simp at h
def lQ:Ctx->Nat
 | .fn2 _=>1
 | .cond=>2
 | .elem _ _=>3
 |_=>0
def ip(fs:List Fr):Prop:=∀f∈fs,f.args.length<=lQ f.ctx
def N0:Ow->Prop
 | .red _ f fs _=>ip (f::fs)
 |_=>True
def Ok:St->Prop
 | .iC o _=>N0 o
 | .less o _ _ _=>N0 o/\nm o=true
 | .bound o _ _ _=>N0 o/\nm o=true
 | .behind o _=>N0 o
 | .want _ _ f fs=>ip (f::fs)
 | .word _ _ f fs=>ip (f::fs)
 | .named _ _ _ f fs=>ip (f::fs)
 | .il _ _ f fs=>ip (f::fs)
 |_=>True
theorem oJ{f:Fr}{fs:List Fr}(h:ip (f::fs)):ip fs:=fun g m=>h g (ah _ m)
theorem jg{c:Ctx}{fs:List Fr}(h:ip fs):ip (cy c::fs):=fun g m=>by
 cases m with
 |head=>exact cE _
 |tail _ m=>exact h g m
theorem iD{f g:Fr}{fs:List Fr}(h:ip (f::fs))(e1:g.ctx=f.ctx)(e2:g.args=f.args):ip (g::fs):=fun k m=>by
 cases m with
 |head=>rw[e1,e2];exact h f (aA)
 |tail _ m=>exact oJ h k m
theorem DP{H:Hd}{e:Expr}{fs:List Fr}{s:St}(g:ip fs)(h:iK H e fs=some s):Ok s:=by
 cases fs with
 |nil=>exact nomatch h
 |cons f fs=>injection h with h;subst h;exact iD g rfl rfl
theorem yG{done:List Line}{e:Expr}{H:Hd}{f:Fr}{fs:List Fr}{t:Tok}{x:List Line×St}(gg:cY (f::fs))(g:ip (f::fs))(h:b6 done e H f fs t=some x):
  Ok x.2/\cK x.1++gf x.2=cK done++(eB H++(bQ (f::fs)++di e)):=by
 have ga:f.args.length<=lQ f.ctx:=g f aA;unfold b6 at h;split at h
 ·split at h
  ·split at h
   ·exact nomatch h
   ·rename_i hc;injection h with h;subst h
    refine⟨iD g rfl rfl,?_⟩;show cK done++(eB H++(bQ fs++(fh f.ctx++(eN f.args++(di (reduce f.rows 6 e)++eE d7 6)))))=cK done++(eB H++((bQ fs++(fh f.ctx++(eN f.args++(kr f.cmp++eE f.rows 6))))++di e));have hc':f.cmp=none:=by cases q:f.cmp with
     |none=>rfl
     |some y=>rw[q]at hc;exact absurd rfl hc
    rw[oX,rf,hc'];simp[kr]
  ·split at h
   ·split at h
    ·exact nomatch h
    ·rename_i h8 h2 hr;injection h with h;subst h
     refine⟨iD g rfl rfl,?_⟩;have l8:∀o:Bin,level o<=8:=fun o=>by cases o<;>decide
     show cK done++(eB H++(bQ fs++(fh f.ctx++(eN f.args++(kr f.cmp++eE (cC f.rows _ _) 6)))))=cK done++(eB H++((bQ fs++(fh f.ctx++(eN f.args++(kr f.cmp++eE f.rows 6))))++di e));rw[DM _ _ _ _ h2 6 (by have:=l8 ‹_›;omega)];simp
   ·exact nomatch h
 ·have wh:=Oc f e;have na:lQ f.ctx>f.args.length->Ok (gU H f fs (cP f.cmp (reduce f.rows 6 e)))/\gf (gU H f fs (cP f.cmp (reduce f.rows 6 e)))=eB H++(bQ (f::fs)++di e):=fun hm=>by
   constructor
   ·intro k m;cases m with
    |head=>
     show(f.args++[_]).length<=lQ f.ctx;rw[aq];exact hm
    |tail _ m=>exact oJ g k m
   ·show eB H++(bQ fs++(fh f.ctx++(eN (f.args++[_])++([]++eE d7 6))))=eB H++((bQ fs++(fh f.ctx++(eN f.args++(kr f.cmp++eE f.rows 6))))++di e);rw[oX];unfold eN;rw[cq,bz,wh];simp
  have cl:∀(v:Expr)(s:St),iK H v fs=some s->di v=fh f.ctx++(eN f.args++di (cP f.cmp (reduce f.rows 6 e)))->Ok s/\gf s=eB H++(bQ (f::fs)++di e):=fun v s h1 h2=>by
   refine⟨DP (oJ g) h1,?_⟩;rw[DO h1,h2,wh];show _=eB H++((bQ fs++(fh f.ctx++(eN f.args++(kr f.cmp++eE f.rows 6))))++di e);simp
  have fin:∀s:St,Ok s/\gf s=eB H++(bQ (f::fs)++di e)->Ok s/\cK done++gf s=cK done++(eB H++(bQ (f::fs)++di e)):=fun s h=>⟨h.1,by rw[h.2]⟩;split at h
  ·obtain⟨s,h1,rfl⟩:=map_some h;unfold tm at h1;refine fin s ?_;split at h1
   all_goals first
    |(rename_i hc ha;injection h1 with h1;subst h1;refine na ?_;rw[hc,ha];simp[lQ])
    |(cases h1;done)
  ·obtain⟨s,h1,rfl⟩:=map_some h;unfold iB at h1;refine fin s ?_;split at h1
   ·rename_i hc;refine cl _ s h1 ?_;rw[hc]at ga⊢;have:=bL (Nat.le_zero.mp ga);rw[this];rfl
   ·rename_i hc;refine cl _ s h1 ?_;rw[hc]at ga⊢;have:=bL (Nat.le_zero.mp ga);rw[this];rfl
   ·rename_i o a tl hc ha;refine cl _ s h1 ?_;rw[hc,ha]at ga;have:tl=[]:=bL (by simp[lQ]at ga;simp[ga]);rw[hc,ha,this];simp[di,eN,fh]
   ·rename_i a b tl hc ha;refine cl _ s h1 ?_;rw[hc,ha]at ga;have:tl=[]:=bL (by simp[lQ]at ga;simp[ga]);rw[hc,ha,this];simp[di,eN,fh]
   ·rename_i q rs hc;refine cl _ s h1 ?_;rw[hc]at ga⊢;have:=bL (Nat.le_zero.mp ga);rw[this];rfl
   ·cases h1
  ·obtain⟨s,h1,rfl⟩:=map_some h;unfold nZ at h1;refine fin s ?_;split at h1
   ·rename_i q w hc;refine cl _ s h1 ?_;rw[hc]at ga⊢;rw[Hr _ _ _ _ ga];rfl
   ·cases h1
  ·split at h
   ·rename_i hc;injection h with h;subst h
    refine⟨trivial,?_⟩;have a0:=bL (Nat.le_zero.mp (show f.args.length<=0 by rw[hc]at ga;exact ga));show cK (done++[_])++[]=cK done++(eB H++((bQ fs++(fh f.ctx++(eN f.args++(kr f.cmp++eE f.rows 6))))++di e));unfold cK;have f0:fs=[]:=by
     unfold cY at gg;rw[hc]at gg;exact gg
    rw[cq,a0,hc,f0];simp only[bz,fM,kW,wh,eB];simp[bQ,fh,eN]
   ·exact nomatch h
  ·exact nomatch h
end ag
namespace ag
open Ax
theorem cj{p:Nat}{a b:List Nat}(h:b=a):Ai p a b:=.inl h
theorem mm{p:Nat}{a b:List Nat}(h:b=a++[p]):Ai p a b:=.inr h
theorem qR{p:Nat}{a b c:List Nat}(h:Ai p a b):Ai p (c++a) (c++b):=by
 cases h with
 |inl h=>exact .inl (by rw[h])
 |inr h=>exact .inr (by rw[h,aw])
theorem rS{o:Ow}{rs:List Range}:gf (.behind o rs)=pz o rs:=rfl
theorem yH{o:Ow}{rs:List Range}{p:Nat}{t:Tok}{s:St}(g:N0 o)(h:gY o rs p t=some s):Ok s/\Ai p (pz o rs) (gf s):=by
 cases hn:nm o with
 |false=>
  cases o with
  |red H f fs k=>exact nomatch hn
  |line x q v=>cases x with
   |in_=>
    unfold gY at h;dsimp only at h;split at h
    ·injection h with h;subst h
     refine⟨trivial,cj ?_⟩;rw[rS,rk];simp[nm,iN]
    ·injection h with h;subst h
     refine⟨trivial,mm ?_⟩;rw[rS,rk];simp[nm,iN]
    ·exact nomatch h
   |size=>exact nomatch hn
   |let_=>exact nomatch hn
   |out=>exact nomatch hn
 |true=>
  unfold gY at h;split at h
  ·exact nomatch hn
  ·split at h
   ·injection h with h;subst h
    exact⟨⟨g,hn⟩,mm rfl⟩
   ·exact nomatch h
theorem HY{b:Bool}{H:Hd}{f:Fr}{fs:List Fr}{p:Nat}{t:Tok}{s:St}(g:cY (f::fs))(ok:ip (f::fs))(hb:b=true->f.args=[]/\f.cmp=none/\f.rows=d7)(e:fo b H f fs p t=some s):
  Ok s/\Ai p (eB H++bQ (f::fs)) (gf s):=by
 unfold fo at e;split at e
 ·split at e
  ·rename_i q w hc;refine⟨DP (oJ ok) e,cj ?_⟩;rw[DO e];obtain⟨h1,h2,h3⟩:=hb rfl;show _=eB H++(bQ fs++(fh f.ctx++(eN f.args++(kr f.cmp++eE f.rows 6))));rw[hc,h1,h2,h3,oX];simp[di,nil,fh,eN,kr]
  ·exact nomatch e
 ·injection e with e;subst e
  refine⟨iD ok rfl rfl,cj ?_⟩;rw[JD];simp[di]
 ·injection e with e;subst e
  refine⟨ok,mm ?_⟩;simp[gf]
 all_goals try(split at e;· exact nomatch e)
 ·injection e with e;subst e
  exact⟨iD ok rfl rfl,cj rfl⟩
 ·injection e with e;subst e
  exact⟨iD ok rfl rfl,cj rfl⟩
 ·injection e with e;subst e
  refine⟨jg ok,cj ?_⟩;show eB H++bQ (cy .group::f::fs)=_;rw[lO];simp[fh]
 ·injection e with e;subst e
  exact⟨ok,cj rfl⟩
 ·injection e with e;subst e
  exact⟨ok,cj rfl⟩
 ·injection e with e;subst e
  exact⟨ok,cj rfl⟩
 ·injection e with e;subst e
  exact⟨ok,cj rfl⟩
 ·exact nomatch e
def HQ:St->Prop
 | .want true _ f _=>f.args=[]/\f.cmp=none/\f.rows=d7
 |_=>True
theorem uu{H:Hd}{e:Expr}{fs:List Fr}{s:St}(h:iK H e fs=some s):HQ s:=by
 cases fs with
 |nil=>exact nomatch h
 |cons f fs=>injection h with h;subst h;trivial
theorem vW{done:List Line}{e:Expr}{H:Hd}{f:Fr}{fs:List Fr}{t:Tok}{x:List Line×St}(h:b6 done e H f fs t=some x):HQ x.2:=by
 unfold b6 at h;split at h
 ·split at h
  ·split at h
   ·exact nomatch h
   ·injection h with h;subst h;trivial
  ·split at h
   ·split at h
    ·exact nomatch h
    ·injection h with h;subst h;trivial
   ·exact nomatch h
 ·split at h
  ·obtain⟨s,h1,rfl⟩:=map_some h;unfold tm at h1;split at h1
   all_goals first|(injection h1 with h1;subst h1;trivial)|(cases h1;done)
  ·obtain⟨s,h1,rfl⟩:=map_some h;unfold iB at h1;split at h1
   all_goals first|exact uu h1|(cases h1;done)
  ·obtain⟨s,h1,rfl⟩:=map_some h;unfold nZ at h1;split at h1
   all_goals first|exact uu h1|(cases h1;done)
  ·split at h
   ·injection h with h;subst h;trivial
   ·exact nomatch h
  ·exact nomatch h
theorem F2{b:Bool}{H:Hd}{f:Fr}{fs:List Fr}{p:Nat}{t:Tok}{s:St}(e:fo b H f fs p t=some s):HQ s:=by
 unfold fo at e;split at e
 ·split at e
  ·exact uu e
  ·exact nomatch e
 ·injection e with e;subst e;trivial
 ·injection e with e;subst e;trivial
 all_goals try(split at e;· exact nomatch e)
 all_goals first|(injection e with e;subst e;trivial)|(cases e;done)
theorem vX{o:Ow}{rs:List Range}{p:Nat}{t:Tok}{s:St}(e:gY o rs p t=some s):HQ s:=by
 unfold gY at e;split at e
 all_goals(split at e)
 all_goals first|(injection e with e;subst e;trivial)|(cases e;done)
theorem Qh{done:List Line}{s:St}{p:Nat}{t:Tok}{x:List Line×St}(g:Good s)(ok:Ok s)(nw:HQ s)(h:step done s p t=some x):
  (Ok x.2/\HQ x.2)/\Ai p (cK done++gf s) (cK x.1++gf x.2):=by
 unfold step at h;split at h
 ·split at h
  ·injection h with h;subst h;exact⟨⟨trivial,trivial⟩,cj rfl⟩
  ·exact nomatch h
 ·split at h
  ·injection h with h;subst h
   dsimp only;split
   ·exact⟨⟨trivial,trivial⟩,qR (mm rfl)⟩
   ·exact⟨⟨trivial,trivial⟩,qR (mm rfl)⟩
  ·exact nomatch h
 ·split at h
  ·injection h with h;subst h
   refine⟨⟨trivial,trivial⟩,cj ?_⟩;simp[cK,gf]
  ·exact nomatch h
 ·split at h
  ·injection h with h;subst h;exact⟨⟨trivial,trivial⟩,cj rfl⟩
  ·exact nomatch h
 ·rename_i w q v;split at h
  ·injection h with h;subst h
   refine⟨⟨trivial,trivial⟩,cj ?_⟩;cases w<;>rfl
  ·obtain⟨s,h1,rfl⟩:=map_some h;have:=yH (o:=.line w q v) (rs:=[]) trivial h1;refine⟨⟨this.1,vX h1⟩,qR ?_⟩;cases w<;>exact this.2
 ·obtain⟨s,h1,rfl⟩:=map_some h;have:=yH ok h1;exact⟨⟨this.1,vX h1⟩,qR this.2⟩
 ·split at h
  ·injection h with h;subst h;exact⟨⟨ok,trivial⟩,cj rfl⟩
  ·exact nomatch h
 ·rename_i o rs q w;split at h
  ·injection h with h;subst h
   refine⟨⟨ok.1,trivial⟩,cj ?_⟩;show cK done++gf (.behind _ _)=cK done++(pz o rs++[q]);rw[rS,rk,ai ok.2];simp[iN]
  ·injection h with h;subst h
   refine⟨⟨ok.1,trivial⟩,mm ?_⟩;show cK done++gf (.behind _ _)=cK done++(pz o rs++[q])++[p];rw[rS,rk,ai ok.2];simp[iN]
  ·exact nomatch h
 ·split at h
  ·split at h
   ·injection h with h;subst h;exact⟨⟨ok,trivial⟩,cj rfl⟩
   ·exact nomatch h
  ·split at h
   ·injection h with h;subst h;exact⟨⟨trivial,trivial⟩,cj rfl⟩
   ·exact nomatch h
  ·split at h
   ·injection h with h;subst h
    refine⟨⟨jg ok,trivial⟩,cj ?_⟩;show cK done++(eB _++bQ (cy _::_))=_;rw[lO];simp[fh,gf,pz]
   ·exact nomatch h
  ·exact nomatch h
 ·split at h
  ·injection h with h;subst h;exact⟨⟨trivial,trivial⟩,cj rfl⟩
  ·exact nomatch h
 ·split at h
  ·injection h with h;subst h
   dsimp only;split
   ·refine⟨⟨trivial,trivial⟩,cj ?_⟩;simp[gf,kW,di,nil]
   ·exact⟨⟨trivial,trivial⟩,cj rfl⟩
  ·exact nomatch h
 ·split at h
  ·injection h with h;subst h
   refine⟨⟨jg (fun g m=>nomatch m),trivial⟩,cj ?_⟩;show cK done++(eB _++bQ [cy .top])=_;rw[lO];simp[bQ,fh,gf,eB]
  ·exact nomatch h
 ·obtain⟨s,h1,rfl⟩:=map_some h;have:=HY g ok (fun e=>by subst e;exact nw) h1;exact⟨⟨this.1,F2 h1⟩,qR this.2⟩
 ·split at h
  ·split at h
   ·injection h with h;subst h
    refine⟨⟨jg ok,trivial⟩,cj ?_⟩;show cK done++(eB _++bQ (cy _::_))=_;rw[lO];simp[fh,gf]
   ·injection h with h;subst h
    refine⟨⟨jg ok,trivial⟩,cj ?_⟩;show cK done++(eB _++bQ (cy _::_))=_;rw[lO];simp[fh,gf]
   ·injection h with h;subst h
    refine⟨⟨jg ok,trivial⟩,cj ?_⟩;show cK done++(eB _++bQ (cy _::_))=_;rw[lO];simp[fh,gf]
   ·injection h with h;subst h
    refine⟨⟨ok,trivial⟩,cj ?_⟩;simp[gf,pz,g4]
  ·exact nomatch h
 ·split at h
  ·split at h
   ·exact nomatch h
   ·injection h with h;subst h
    refine⟨⟨jg ok,⟨rfl,rfl,rfl⟩⟩,cj ?_⟩;show cK done++(eB _++bQ (cy _::_))=_;rw[lO];simp[fh,gf]
  ·have q:=yG (by exact fZ g rfl) (by exact iD ok rfl rfl) h;refine⟨⟨q.1,vW h⟩,cj ?_⟩;rw[q.2,Gr (.num 0)];rfl
 ·have q:=yG g.1 ok h;exact⟨⟨q.1,vW h⟩,cj q.2⟩
def tT(n:Nat):List Placed->Prop
 |[]=>True
 |x::r=>n<=x.1/\tT (x.1+1) r
theorem tT.le{n m:Nat}(h:m<=n):∀{l:List Placed},tT n l->tT m l
 |[],_=>trivial
 |_::_,g=>⟨ck h g.1,g.2⟩
theorem gv:∀(k n:Nat)(t:Bytes),tT n (tokensIn k n t)
 |0,n,t=>by unfold tokensIn;trivial
 |k+1,n,[]=>by unfold tokensIn;trivial
 |k+1,n,c::r=>by
  unfold tokensIn;split
  ·exact(gv k _ _).le (by omega)
  ·split
   ·rename_i h;refine⟨aD _,(gv k _ _).le ?_⟩;rw[cS,ai h];simp only[ay];omega
   ·split
    ·rename_i h;refine⟨aD _,(gv k _ _).le ?_⟩;have hw:wordByte c=true:=by unfold wordByte;rw[h];rfl
     rw[cS,ai hw];simp only[ay];omega
    ·split
     ·exact⟨aD _,(gv k _ _).le (by show n+1<=n+2;omega)⟩
     ·exact⟨aD _,(gv k _ _).le (aD _)⟩
def Up(n:Nat)(l:List Nat):Prop:=l.Pairwise (· < ·)/\∀x∈l,x<n
theorem Up.le{n m:Nat}{l:List Nat}(h:n<=m)(u:Up n l):Up m l:=⟨u.1,fun x hx=>bD (u.2 x hx) h⟩
theorem Up.snoc{n p:Nat}{l:List Nat}(u:Up n l)(h:n<=p):Up (p+1) (l++[p]):=by
 constructor
 ·rw[mB];refine⟨u.1,List.pairwise_singleton _ _,fun a ha b hb=>?_⟩;rw[bI]at hb;subst hb;exact bD (u.2 a ha) h
 ·intro x hx;rw[bU,bI]at hx;cases hx with
  |inl hx=>have:=u.2 x hx;omega
  |inr hx=>omega
theorem Mx:∀(l:List Placed)(n:Nat)(done:List Line)(s:St),Good s->Ok s->HQ s->tT n l->Up n (cK done++gf s)->∀P r,run done s l=.ok (P,r)->(cK P).Pairwise (· < ·)
 |[],n,done,s,g,ok,nw,_,u,P,r,h=>by
  unfold run at h;split at h
  ·injection h with h;injection h with h _;subst h
   have:=u.1;rw[show gf .line=[]from rfl,aK]at this;exact this
  ·exact nomatch h
 |(p,t)::l,n,done,s,g,ok,nw,hr,u,P,r,h=>by
  unfold run at h;split at h
  ·exact nomatch h
  ·rename_i x hx;have q:=Qh g ok nw hx;refine Mx l (p+1) x.1 x.2 (vV g hx) q.1.1 q.1.2 hr.2 ?_ P r h;cases q.2 with
   |inl e=>rw[e];exact u.le (by have:=hr.1;show n<=p+1;have h0:n<=p:=this;omega)
   |inr e=>rw[e];exact u.snoc hr.1
theorem KY{t:Bytes}{P:Program}(h:programIn t=.ok P):(cK P).Pairwise (· < ·):=by
 rw[yN]at h;split at h
 ·rename_i x hx;injection h with h;subst h
  exact Mx (tokens t) 0 [] .line trivial trivial trivial (gv _ _ _) ⟨List.Pairwise.nil,fun x hx=>nomatch hx⟩ x.1 x.2 hx
 ·exact nomatch h
 ·exact nomatch h
end ag
namespace ag
open Ax
def fst(l:List Wrong):List Nat:=l.map fun x=>x.1
theorem eC(a b:List Wrong):fst (a++b)=fst a++fst b:=bC ..
theorem Es(P:Program)(b:Bound):(fst (wrongBound P b)).Sublist (iN b):=by
 cases b with
 |num n=>exact bt _
 |size p w=>
  show(fst (if isSize P w=true then[]else[(p,3)])).Sublist [p];split
  ·exact gW _
  ·exact bt _
theorem pR(P:Program):∀(rs:List Range)(there:List Bytes),(fst (wrongRanges P there rs)).Sublist (g4 rs)
 |[],_=>bt _
 |r::rs,there=>by
  unfold wrongRanges;rw[eC,eC];show List.Sublist _ ([r.place]++iN r.bound++g4 rs);rw[aw];refine bE ?_ (bE (Es P _) (pR P rs _));split
  ·exact bt _
  ·exact gW _
theorem gH(P:Program):∀(e:Expr)(there:List Bytes),(fst (wrongIn P e there)).Sublist (di e)
 | .num _,_=>bt _
 | .name p w,there=>by
  unfold wrongIn di;split
  ·exact gW _
  ·exact bt _
 | .elem p w n a b c d,there=>by
  unfold wrongIn di;rw[eC,eC,eC,eC];show List.Sublist _ ([p]++_);refine bE ?_ (bE (gH P a _) (bE (gH P b _) (bE (gH P c _) (gH P d _))));split
  ·exact bt _
  ·split
   ·exact gW _
   ·exact bt _
 | .un _ a,there=>gH P a there
 | .bin _ a b,there=>by
  unfold wrongIn di;rw[eC];exact bE (gH P a _) (gH P b _)
 | .cond a b c,there=>by
  unfold wrongIn di;rw[eC,eC];exact bE (gH P a _) (bE (gH P b _) (gH P c _))
 | .red _ rs a,there=>by
  unfold wrongIn di;rw[eC];exact bE (pR P rs _) (gH P a _)
def fC(P:Program)(l:Line):List Wrong:=match l.what with
 | .size=>[]
 | .in_=>l.axes.flatMap fun r=>wrongBound P r.bound
 |_=>wrongRanges P [] l.axes++wrongIn P l.body (names l.axes)
theorem Hj(P:Program):∀rs:List Range,(fst (rs.flatMap fun r=>wrongBound P r.bound)).Sublist (rs.flatMap fun r=>iN r.bound)
 |[]=>bt _
 |r::rs=>by
  rw[bz,bz,eC];exact bE (Es P _) (Hj P rs)
theorem Pj(P:Program)(l:Line):(fst (fC P l)).Sublist (g8 l.what l.axes++di l.body):=by
 unfold fC g8;cases l.what with
 |size=>exact gW _
 |in_=>exact(Hj P _).trans (List.sublist_append_left _ _)
 |let_=>
  dsimp only;rw[eC];exact bE (pR P _ _) (gH P _ _)
 |out=>
  dsimp only;rw[eC];exact bE (pR P _ _) (gH P _ _)
def dm(P:Program):Program->Program->List Wrong
 |_,[]=>[]
 |before,l::ls=>wrongLine P before l++dm P (before++[l]) ls
theorem vN(P:Program):∀(ls before:Program),before++ls=P->dm P before ls=(List.range' before.length ls.length).flatMap fun i=>match P[i]? with
  |some l=>wrongLine P (P.take i) l
  |none=>[]
 |[],before,h=>rfl
 |l::ls,before,h=>by
  unfold dm;have e1:P[before.length]? =some l:=by rw[<-h];simp
  have e2:P.take before.length=before:=by rw[<-h];simp
  rw[vN P ls (before++[l]) (by rw[aw];exact h)];rw[ay,List.range'_succ,bz,e1];dsimp only;rw[e2];simp
theorem Oa(P:Program):wrong P=dm P [] P:=by
 rw[vN P P [] rfl];unfold wrong;rw[List.range_eq_range'];rfl
def Lex(x y:Wrong):Prop:=x.1<y.1\/(x.1=y.1/\x.2<y.2)
theorem Lg{l:List Wrong}{ps:List Nat}(h:(fst l).Sublist ps)(u:ps.Pairwise (· < ·)):l.Pairwise Lex:=by
 have:=u.sublist h;unfold fst at this;rw[List.pairwise_map]at this;exact this.imp fun h=>.inl h
theorem Bc{l:List Wrong}{ps:List Nat}(h:(fst l).Sublist ps){x:Wrong}(m:x∈l):x.1∈ps:=h.subset (hU m)
theorem Ja(P before:Program)(l:Line)(u:(kW l).Pairwise (· < ·)):(wrongLine P before l).Pairwise Lex/\∀x∈wrongLine P before l,x.1∈kW l:=by
 have key:wrongLine P before l=(if(before.any fun(x:Line)=>x.name==l.name)=true then[(l.place,2)]else[])++
   ((if(if l.what=.size then decide (SIZES<=(before.filter fun(x:Line)=>x.what==.size).length)else decide (ARRAYS<=(before.filter fun(x:Line)=>x.what !=.size).length))=true then[(l.place,5)]else[])++fC P l):=rfl
 have u':(g8 l.what l.axes++di l.body).Pairwise (· < ·):=(List.pairwise_cons.mp u).2;have hd:∀x∈g8 l.what l.axes++di l.body,l.place<x:=(List.pairwise_cons.mp u).1;have sub:=Pj P l;have sb:=Lg sub u';have gt:∀x∈fC P l,l.place<x.1:=fun x m=>hd _ (Bc sub m);have me:∀x∈fC P l,x.1∈kW l:=fun x m=>ah _ (Bc sub m);rw[key];have s5:∀c:Bool,((if c=true then[(l.place,5)]else[])++fC P l).Pairwise Lex/\∀x∈((if c=true then[(l.place,5)]else[])++fC P l),x.1∈kW l/\(l.place<x.1\/(l.place=x.1/\2<x.2)):=fun c=>by
  cases c with
  |false=>exact⟨sb,fun x m=>⟨me x m,.inl (gt x m)⟩⟩
  |true=>
   refine⟨List.Pairwise.cons (fun x m=>.inl (gt x m)) sb,fun x m=>?_⟩;cases m with
   |head=>exact⟨aA,.inr ⟨rfl,by show 2<5;decide⟩⟩
   |tail _ m=>exact⟨me x m,.inl (gt x m)⟩
 have s5':=s5 (if l.what=.size then decide (SIZES<=(before.filter fun(x:Line)=>x.what==.size).length)else decide (ARRAYS<=(before.filter fun(x:Line)=>x.what !=.size).length));cases(before.any fun(x:Line)=>x.name==l.name)with
 |false=>exact⟨s5'.1,fun x m=>(s5'.2 x m).1⟩
 |true=>
  refine⟨List.Pairwise.cons (fun x m=>(s5'.2 x m).2) s5'.1,fun x m=>?_⟩;cases m with
  |head=>exact aA
  |tail _ m=>exact(s5'.2 x m).1
theorem y3(P:Program):∀(ls before:Program),(cK ls).Pairwise (· < ·)->(dm P before ls).Pairwise Lex/\∀x∈dm P before ls,x.1∈cK ls
 |[],before,_=>⟨List.Pairwise.nil,fun x m=>nomatch m⟩
 |l::ls,before,u=>by
  have u:(kW l++cK ls).Pairwise (· < ·):=u;rw[mB]at u;have h1:=Ja P before l u.1;have h2:=y3 P ls (before++[l]) u.2.1;unfold dm;constructor
  ·rw[mB];exact⟨h1.1,h2.1,fun a ha b hb=>.inl (u.2.2 _ (h1.2 a ha) _ (h2.2 b hb))⟩
  ·intro x m;show x.1∈kW l++cK ls;rw[bU]at m⊢;cases m with
   |inl m=>exact .inl (h1.2 x m)
   |inr m=>exact .inr (h2.2 x m)
theorem D9(y:Wrong):∀l:List Wrong,(∀x∈l,Lex y x)->l.foldl (fun(o:Option Wrong)(x:Wrong)=>match o with
  |none=>some x
  |some y=>if x.1<y.1\/(x.1=y.1/\x.2<y.2)then some x else some y) (some y)=some y
 |[],_=>rfl
 |x::l,h=>by
  rw[eK];dsimp only;have:=h x aA;unfold Lex at this;rw[af (by omega)];exact D9 y l fun z m=>h z (ah _ m)
theorem Bq{t:Bytes}{P:Program}(h:programIn t=.ok P):firstWrong P=(dm P [] P).head? :=by
 have s:=(y3 P P [] (KY h)).1;unfold firstWrong;rw[Oa];cases e:dm P [] P with
 |nil=>rfl
 |cons x l=>
  rw[e]at s;rw[eK];exact D9 x l (List.pairwise_cons.mp s).1
end ag
namespace ag
open Ax
inductive Cut:List Int->List (List Int)->List Int->Prop
 |read (t rest:List Int):Cut (0::(t.length:Int)::(t++rest)) [[0],t] rest
 |lines (rest:List Int):Cut (1::rest) [[1]] rest
 |line (i:Int) (rest:List Int):Cut (2::i::rest) [[2,i]] rest
 |find (t rest:List Int):Cut (3::(t.length:Int)::(t++rest)) [[3],t] rest
 |text (i:Int) (rest:List Int):Cut (4::i::rest) [[4,i]] rest
 |print (rest:List Int):Cut (5::rest) [[5]] rest
 |needs (i j:Int) (rest:List Int):Cut (6::i::j::rest) [[6,i,j]] rest
theorem Qs{r x s:List Int}(h:PyFlat.row r=some (x,s)):r=(x.length:Int)::(x++s):=by
 cases r with
 |nil=>exact nomatch h
 |cons n r=>
  unfold PyFlat.row at h;dsimp only at h;split at h
  ·rename_i q;injection h with h
   injection h with h1 h2
   subst h1 h2;rw[eX,cJ,eJ q.2];congr 1;omega
  ·exact nomatch h
theorem PN{r:List Int}{xs:List (List Int)}{s:List Int}(h:PyFlat.rows 1 r=some (xs,s)):∃x,xs=[x]/\r=(x.length:Int)::(x++s):=by
 unfold PyFlat.rows at h;cases h1:PyFlat.row r with
 |none=>rw[h1]at h;exact nomatch h
 |some y=>
  rw[h1]at h;obtain⟨x,s1⟩:=y;unfold PyFlat.rows at h;dsimp only at h;injection h with h
  injection h with h2 h3
  subst h2 h3;exact⟨x,rfl,Qs h1⟩
theorem rows0{r:List Int}{xs:List (List Int)}{s:List Int}(h:PyFlat.rows 0 r=some (xs,s)):xs=[]/\r=s:=by
 unfold PyFlat.rows at h;injection h with h
 injection h with h2 h3
 exact⟨h2.symm,h3⟩
theorem Pe{l:List Int}{c:List (List Int)}{rest:List Int}(h:PyFlat.call PyWqacdq.shape l=some (c,rest)):Cut l c rest:=by
 cases l with
 |nil=>exact nomatch h
 |cons p r=>
  unfold PyFlat.call PyWqacdq.shape at h;dsimp only at h;split at h
  ·exact nomatch h
  ·rename_i n k hs;split at h
   ·exact nomatch h
   ·rename_i hlen;split at h
    ·exact nomatch h
    ·rename_i xs t hr;injection h with h
     injection h with h1 h2
     subst h1 h2;by_cases p0:p=0
     ·rw[ai p0]at hs;injection hs with hs;injection hs with a b;subst a b p0
      obtain⟨x,rfl,e⟩:=PN hr;rw[iG]at e;subst e;exact .read x _
     rw[af p0]at hs;by_cases p1:p=1
     ·rw[ai p1]at hs;injection hs with hs;injection hs with a b;subst a b p1
      obtain⟨rfl,e⟩:=rows0 hr;rw[iG]at e;subst e;exact .lines _
     rw[af p1]at hs;by_cases p2:p=2
     ·rw[ai p2]at hs;injection hs with hs;injection hs with a b;subst a b p2
      obtain⟨rfl,e⟩:=rows0 hr
      match r,hlen,e with
      |i::r,_,e=>
       rw[List.drop_one,nB]at e;subst e;exact .line i _
      |[],hlen,_=>exact absurd (by simp:([]:List Int).length<1) hlen
     rw[af p2]at hs;by_cases p3:p=3
     ·rw[ai p3]at hs;injection hs with hs;injection hs with a b;subst a b p3
      obtain⟨x,rfl,e⟩:=PN hr;rw[iG]at e;subst e;exact .find x _
     rw[af p3]at hs;by_cases p4:p=4
     ·rw[ai p4]at hs;injection hs with hs;injection hs with a b;subst a b p4
      obtain⟨rfl,e⟩:=rows0 hr
      match r,hlen,e with
      |i::r,_,e=>
       rw[List.drop_one,nB]at e;subst e;exact .text i _
      |[],hlen,_=>exact absurd (by simp:([]:List Int).length<1) hlen
     rw[af p4]at hs;by_cases p5:p=5
     ·rw[ai p5]at hs;injection hs with hs;injection hs with a b;subst a b p5
      obtain⟨rfl,e⟩:=rows0 hr;rw[iG]at e;subst e;exact .print _
     rw[af p5]at hs;by_cases p6:p=6
     ·rw[ai p6]at hs;injection hs with hs;injection hs with a b;subst a b p6
      obtain⟨rfl,e⟩:=rows0 hr
      match r,hlen,e with
      |i::j::r,_,e=>
       have e:r=t:=e;subst e;exact .needs i j _
      |[i],hlen,_=>exact absurd (by simp:([i]:List Int).length<2) hlen
      |[],hlen,_=>exact absurd (by simp:([]:List Int).length<2) hlen
     rw[af p6]at hs;exact nomatch hs
theorem En{f:Nat}{cs:List (List (List Int))}(h:PyFlat.calls PyWqacdq.shape f []=some cs):cs=[]:=by
 unfold PyFlat.calls at h;injection h with h
 exact h.symm
theorem BQ{f:Nat}{p:Int}{r:List Int}{cs:List (List (List Int))}(h:PyFlat.calls PyWqacdq.shape f (p::r)=some cs):
  ∃g c cs' rest,f=g+1/\cs=c::cs'/\Cut (p::r) c rest/\PyFlat.calls PyWqacdq.shape g rest=some cs':=by
 cases f with
 |zero=>exact nomatch h
 |succ g=>
  unfold PyFlat.calls at h;cases h1:PyFlat.call PyWqacdq.shape (p::r)with
  |none=>rw[h1]at h;exact nomatch h
  |some y=>
   rw[h1]at h;obtain⟨c,t⟩:=y;dsimp only at h;cases h2:PyFlat.calls PyWqacdq.shape g t with
   |none=>rw[h2]at h;exact nomatch h
   |some cs'=>
    rw[h2]at h;injection h with h
    exact⟨g,c,cs',t,rfl,h.symm,Pe h1,h2⟩
theorem L6{l:List Int}{c:List (List Int)}{rest:List Int}(h:Cut l c rest):PyWqacdq.whole c=c:=by
 cases h<;>rfl
theorem vP:∀{f:Nat}{l:List Int}{cs:List (List (List Int))},PyFlat.calls PyWqacdq.shape f l=some cs->cs.map PyWqacdq.whole=cs
 |f,[],cs,h=>by rw[En h];rfl
 |f,p::r,cs,h=>by
  obtain⟨g,c,cs',rest,rfl,rfl,cut,h2⟩:=BQ h;rw[a8,L6 cut,vP h2]
theorem U7{l:List Int}(h:PyWqacdq.answers_asked l=true):∃cs,PyFlat.calls PyWqacdq.shape l.length l=some cs/\(∀c∈cs,AxProgramsNeutral.asked1 c=true)/\cs.length<=400/\
  PyWqacdq.answers l=PyFlat.told (PyFlat.played AxProgramsNeutral.step AxProgramsNeutral.start cs):=by
 unfold PyWqacdq.answers_asked PyWqacdq.calls at h;cases h1:PyFlat.calls PyWqacdq.shape l.length l with
 |none=>rw[h1]at h;exact nomatch h
 |some cs=>
  rw[h1]at h;dsimp only at h;rw[vP h1,cG]at h;refine⟨cs,rfl,?_,?_,?_⟩
  ·have:=h.2;unfold AxProgramsNeutral.asked at this;rw[cG,fN]at this;exact this.1
  ·exact ab h.1
  ·unfold PyWqacdq.answers PyWqacdq.calls;rw[h1];dsimp only;rw[vP h1]
theorem Mg(a:List Int)(l:List (List Int)):PyFlat.told (a::l)=((a.length:Int)::a)++PyFlat.told l:=by
 unfold PyFlat.told;rw[bz]
def ofBytes(t:Bytes):List Int:=t.map fun c=>(c.toNat:Int)
theorem Ph{t:List Int}(h:∀z∈t,0<=z/\z<=255):∃b:Bytes,t=ofBytes b/\text? t=some b:=by
 have e:NeutralIO.bytes t=true:=by
  unfold NeutralIO.bytes;rw[fN];intro z m;have:=h z m;rw[cG];exact⟨ao this.1,ao this.2⟩
 refine⟨t.map fun n=>UInt8.ofNat n.toNat,?_,?_⟩
 ·unfold ofBytes;rw[jM]
  conv=>lhs;rw[<-List.map_id t]
  refine List.map_congr_left fun z m=>?_;have:=h z m;show z=((UInt8.ofNat z.toNat).toNat:Int);rw[UInt8.toNat_ofNat_of_lt' (show z.toNat<256 by omega)];omega
 ·unfold text?;rw[ai e]
theorem Be{t:List Int}(h:AxProgramsNeutral.long t 2000 0 255=true):t.length<=2000/\∃b:Bytes,t=ofBytes b/\text? t=some b:=by
 unfold AxProgramsNeutral.long at h;rw[cG,fN]at h;refine⟨ab h.1,Ph fun z m=>?_⟩;have:=h.2 z m;rw[cG]at this;exact⟨ab this.1,ab this.2⟩
theorem oF{i:Int}(h:AxProgramsNeutral.natural i 63=true):∃n:Nat,i=(n:Int)/\nat? i=some n/\n<2^63:=by
 unfold AxProgramsNeutral.natural at h;rw[cG]at h;have h1:0<=i:=ab h.1;have h2:i<2^63:=ab h.2;refine⟨i.toNat,by omega,?_,by omega⟩;unfold nat?;rw[ai h1]
inductive sN(s:Program):List Int->List Int->Program->List Int->Prop
 |read (t:Bytes) (rest:List Int) (h:t.length<=2000):sN s (0::((ofBytes t).length:Int)::(ofBytes t++rest)) rest (AxPrograms.readAnswer s t).1 (AxPrograms.readAnswer s t).2.nums
 |lines (rest:List Int):sN s (1::rest) rest s [(s.length:Int)]
 |line (i:Nat) (rest:List Int):sN s (2::(i:Int)::rest) rest s (AxPrograms.step s (.line i)).2.nums
 |find (t:Bytes) (rest:List Int) (h:t.length<=2000):sN s (3::((ofBytes t).length:Int)::(ofBytes t++rest)) rest s (AxPrograms.step s (.find t)).2.nums
 |text (i:Nat) (rest:List Int):sN s (4::(i:Int)::rest) rest s (AxPrograms.step s (.text i)).2.nums
 |print (rest:List Int):sN s (5::rest) rest s (AxPrograms.step s .print).2.nums
 |needs (i j:Nat) (rest:List Int):sN s (6::(i:Int)::(j:Int)::rest) rest s (AxPrograms.step s (.needs i j)).2.nums
theorem Rg{s:Program}{l:List Int}{c:List (List Int)}{rest:List Int}(cut:Cut l c rest)(h:AxProgramsNeutral.asked1 c=true):
  sN s l rest (AxProgramsNeutral.step s c).1 (AxProgramsNeutral.step s c).2:=by
 cases cut with
 |read t rest=>
  obtain⟨h1,b,rfl,h2⟩:=Be h;have e:AxProgramsNeutral.step s [[0],ofBytes b]=((AxPrograms.readAnswer s b).1,(AxPrograms.readAnswer s b).2.nums):=by
   unfold AxProgramsNeutral.step;rw[show AxProgramsNeutral.callOf [[0],ofBytes b]=(text? (ofBytes b)).map .read from rfl,h2];rfl
  rw[e];exact .read b rest (by unfold ofBytes at h1;rw[aP]at h1;exact h1)
 |lines rest=>exact .lines rest
 |line i rest=>
  obtain⟨n,rfl,h2,_⟩:=oF h;have e:AxProgramsNeutral.step s [[2,(n:Int)]]=(s,(AxPrograms.step s (.line n)).2.nums):=by
   unfold AxProgramsNeutral.step;rw[show AxProgramsNeutral.callOf [[2,(n:Int)]]=(nat? (n:Int)).map .line from rfl,h2];rfl
  rw[e];exact .line n rest
 |find t rest=>
  obtain⟨h1,b,rfl,h2⟩:=Be h;have e:AxProgramsNeutral.step s [[3],ofBytes b]=(s,(AxPrograms.step s (.find b)).2.nums):=by
   unfold AxProgramsNeutral.step;rw[show AxProgramsNeutral.callOf [[3],ofBytes b]=(text? (ofBytes b)).map .find from rfl,h2];rfl
  rw[e];exact .find b rest (by unfold ofBytes at h1;rw[aP]at h1;exact h1)
 |text i rest=>
  obtain⟨n,rfl,h2,_⟩:=oF h;have e:AxProgramsNeutral.step s [[4,(n:Int)]]=(s,(AxPrograms.step s (.text n)).2.nums):=by
   unfold AxProgramsNeutral.step;rw[show AxProgramsNeutral.callOf [[4,(n:Int)]]=(nat? (n:Int)).map .text from rfl,h2];rfl
  rw[e];exact .text n rest
 |print rest=>exact .print rest
 |needs i j rest=>
  have h:(AxProgramsNeutral.natural i 63&&AxProgramsNeutral.natural j 63)=true:=h;rw[cG]at h;obtain⟨n,rfl,h2,_⟩:=oF h.1;obtain⟨m,rfl,h3,_⟩:=oF h.2;have e:AxProgramsNeutral.step s [[6,(n:Int),(m:Int)]]=(s,(AxPrograms.step s (.needs n m)).2.nums):=by
   unfold AxProgramsNeutral.step;have e0:AxProgramsNeutral.callOf [[6,(n:Int),(m:Int)]]=match nat? (n:Int),nat? (m:Int)with
    |some x,some y=>some (.needs x y)
    |_,_=>none:=rfl
   rw[e0,h2,h3];rfl
  rw[e];exact .needs n m rest
end ag
namespace ag
open Ax
theorem gD:∀(j k n:Nat)(t:Bytes),t.length<=j->t.length<=k->tokensIn j n t=tokensIn k n t
 |0,0,_,_,_,_=>rfl
 |0,k+1,n,[],_,_=>rfl
 |j+1,0,n,[],_,_=>rfl
 |j+1,k+1,n,[],_,_=>rfl
 |0,k+1,n,c::r,h,_=>absurd h (by simp)
 |j+1,0,n,c::r,_,h=>absurd h (by simp)
 |j+1,k+1,n,c::r,h,h'=>by
  simp only[ay]at h h';unfold tokensIn;have dl:∀q:UInt8->Bool,(List.dropWhile q (c::r)).length<=r.length+1:=fun q=>(iu q).length_le;split
  ·exact gD j k _ r (by omega) (by omega)
  ·split
   ·rename_i hd;have:(List.dropWhile isDigit (c::r)).length<=r.length:=by
     rw[jr,ai hd];exact(iu _).length_le
    rw[gD j k _ _ (by omega) (by omega)]
   ·split
    ·rename_i hl;have hw:wordByte c=true:=by unfold wordByte;rw[hl];rfl
     have:(List.dropWhile wordByte (c::r)).length<=r.length:=by
      rw[jr,ai hw];exact(iu _).length_le
     rw[gD j k _ _ (by omega) (by omega)]
    ·split
     ·rw[gD j k _ (r.drop 1) (by rw[aM];omega) (by rw[aM];omega)]
     ·rw[gD j k _ r (by omega) (by omega)]
def a7(t:Bytes)(p:Nat):List Placed:=tokensIn t.length p (t.drop p)
theorem vS{t:Bytes}{p:Nat}(h:t.length<=p):a7 t p=[]:=by
 unfold a7;rw[kS h];cases t.length<;>rfl
def scan(q:UInt8->Bool)(t:Bytes)(p:Nat):Nat:=p+((t.drop p).takeWhile q).length
theorem gy{t:Bytes}{p:Nat}{c:UInt8}(h:t[p]? =some c):t.drop p=c::t.drop (p+1):=by
 obtain⟨h1,h2⟩:=az.mp h;rw[List.drop_eq_getElem_cons h1,h2]
theorem gw{q:UInt8->Bool}{t:Bytes}{p:Nat}{c:UInt8}(h:t[p]? =some c)(hq:q c=true):scan q t p=scan q t (p+1):=by
 unfold scan;rw[gy h,cS,ai hq,ay];omega
theorem qZ{q:UInt8->Bool}{t:Bytes}{p:Nat}(h:∀c,t[p]? =some c->q c=false):scan q t p=p:=by
 unfold scan;cases e:t[p]? with
 |none=>
  rw[kS (dR.mp e)];rfl
 |some c=>
  rw[gy e,cS,af (by rw[h c e];decide)];rfl
theorem DG(q:UInt8->Bool):∀l:Bytes,l.take (l.takeWhile q).length=l.takeWhile q
 |[]=>rfl
 |c::l=>by
  rw[cS];split
  ·rw[ay,List.take_succ_cons,DG q l]
  ·rfl
theorem Eg(q:UInt8->Bool):∀l:Bytes,l.drop (l.takeWhile q).length=l.dropWhile q
 |[]=>rfl
 |c::l=>by
  rw[cS,jr];split
  ·rw[ay,List.drop_succ_cons,Eg q l]
  ·rfl
theorem Cr{q:UInt8->Bool}{t:Bytes}{p:Nat}(h:p<=t.length):p<=scan q t p/\scan q t p<=t.length:=by
 unfold scan;have:((t.drop p).takeWhile q).length<=(t.drop p).length:=(List.takeWhile_sublist _).length_le;rw[aM]at this;omega
theorem JA{q:UInt8->Bool}{t:Bytes}{p:Nat}{c:UInt8}(h:t[p]? =some c)(hq:q c=true):p<scan q t p:=by
 have:=(Cr (q:=q) (t:=t) (p:=p+1) (az.mp h).1).1;rw[gw h hq];omega
theorem xw{q:UInt8->Bool}{t:Bytes}{p:Nat}:t.drop (scan q t p)=(t.drop p).dropWhile q:=by
 unfold scan;rw[<-List.drop_drop,Eg]
def ej(t:Bytes)(p e:Nat):Bytes:=(t.drop p).take (e - p)
theorem pS{q:UInt8->Bool}{t:Bytes}{p:Nat}:ej t p (scan q t p)=(t.drop p).takeWhile q:=by
 unfold ej scan;rw[fH,DG]
def gG(t:Bytes)(p:Nat):Nat:=match t[p]? with
 |none=>p
 |some c=>if isDigit c=true then scan isDigit t p else if wordByte c=true then scan wordByte t p else match t[p+1]? with
  |none=>p+1
  |some d=>if(sign2 c d).isSome=true then p+2 else p+1
def tokOf:Bytes->Tok
 |[]=>.bad
 |c::r=>if isDigit c=true then(if number (c::r)<2^127 then .num (number (c::r))else .bad)else if wordByte c=true then wordTok (c::r)else match r with
  |[]=>sign1 c
  |d::_=>(sign2 c d).getD .bad
theorem yF{t:Bytes}{p:Nat}{c:UInt8}(h:t[p]? =some c)(hb:isBlank c=true):a7 t p=a7 t (p+1):=by
 have hl:=(az.mp h).1;obtain⟨k,hk⟩:∃k,t.length=k+1:=⟨t.length - 1,by omega⟩;unfold a7;rw[gy h,hk];have e:tokensIn (k+1) p (c::t.drop (p+1))=tokensIn k (p+1) (t.drop (p+1)):=by
  conv=>lhs;unfold tokensIn
  rw[ai hb]
 rw[e];refine gD _ _ _ _ ?_ ?_<;>(rw[aM];omega)
theorem KG(c:UInt8):sign2 c 0=none:=by
 unfold sign2;rw[af (by intro h;exact absurd h.2 (by decide)),af (by intro h;exact absurd h.2 (by decide)),af (by intro h;exact absurd h.2 (by decide)),af (by intro h;exact absurd h.2 (by decide))]
theorem DF{t:Bytes}{p:Nat}{c:UInt8}(h:t[p]? =some c)(hb:isBlank c=false):a7 t p=(p,tokOf (ej t p (gG t p)))::a7 t (gG t p):=by
 have hl:=(az.mp h).1;obtain⟨k,hk⟩:∃k,t.length=k+1:=⟨t.length - 1,by omega⟩;have hd:=gy h;have dl:∀q:UInt8->Bool,q c=true->(List.dropWhile q (t.drop p)).length<=k:=fun q hq=>by
  rw[hd,jr,ai hq];have:(List.dropWhile q (t.drop (p+1))).length<=(t.drop (p+1)).length:=(iu _).length_le;rw[aM]at this;omega
 have fuel:∀(n:Nat)(l:Bytes),l.length<=k->tokensIn k n l=tokensIn t.length n l:=fun n l hle=>gD _ _ _ _ hle (by omega);show tokensIn t.length p (t.drop p)=_
 conv=>lhs;rw[hk,hd]
 unfold tokensIn;rw[af (by rw[hb];decide)];unfold gG;rw[h];dsimp only;by_cases h1:isDigit c=true
 ·rw[ai h1,ai h1,pS,<-hd];have e:tokOf ((t.drop p).takeWhile isDigit)=if number ((t.drop p).takeWhile isDigit)<2^127 then .num (number ((t.drop p).takeWhile isDigit))else .bad:=by
   rw[hd,cS,ai h1];unfold tokOf;dsimp only;rw[ai h1]
  rw[e];congr 1;rw[fuel _ _ (dl _ h1)];show _=tokensIn t.length (scan isDigit t p) (t.drop (scan isDigit t p));rw[xw];rfl
 ·rw[af h1,af h1];by_cases h2:isLetter c=true
  ·have hw:wordByte c=true:=by unfold wordByte;rw[h2];rfl
   rw[ai h2,ai hw,pS,<-hd];have e:tokOf ((t.drop p).takeWhile wordByte)=wordTok ((t.drop p).takeWhile wordByte):=by
    rw[hd,cS,ai hw];unfold tokOf;dsimp only;rw[af h1,ai hw]
   rw[e];congr 1;rw[fuel _ _ (dl _ hw)];show _=tokensIn t.length (scan wordByte t p) (t.drop (scan wordByte t p));rw[xw];rfl
  ·have hw:¬wordByte c=true:=by
    unfold wordByte;rw[jz];exact fun z=>z.elim h2 h1
   rw[af h2,af hw];have one:ej t p (p+1)=[c]:=by
    unfold ej;rw[hd,fH];rfl
   have t1:tokOf [c]=sign1 c:=by
    unfold tokOf;dsimp only;rw[af h1,af hw]
   cases e1:t[p+1]? with
   |none=>
    have e2:t.drop (p+1)=[]:=kS (dR.mp e1);rw[e2];dsimp only;rw[show([]:Bytes).headD 0=0 from rfl,KG];dsimp only;rw[one,t1];congr 1;show _=tokensIn t.length (p+1) (t.drop (p+1));rw[e2];exact fuel _ _ (by simp)
   |some d=>
    have e2:=gy e1;have hl2:=(az.mp e1).1;rw[e2];dsimp only;rw[show(d::t.drop (p+1+1)).headD 0=d from rfl];cases e3:sign2 c d with
    |none=>
     dsimp only;rw[af (by decide),one,t1];congr 1;show _=tokensIn t.length (p+1) (t.drop (p+1));rw[<-e2];exact fuel _ _ (by rw[aM];omega)
    |some y=>
     dsimp only;rw[ai (by rfl)];have two:ej t p (p+2)=[c,d]:=by
      unfold ej;rw[hd,e2,fH];rfl
     have t2:tokOf [c,d]=y:=by
      unfold tokOf;dsimp only;rw[af h1,af hw,e3];rfl
     rw[two,t2];congr 1;show tokensIn k (p+2) (t.drop (p+2))=tokensIn t.length (p+2) (t.drop (p+2));exact fuel _ _ (by rw[aM];omega)
theorem DE{t:Bytes}{p:Nat}{c:UInt8}(h:t[p]? =some c):p<gG t p/\gG t p<=t.length:=by
 have hl:=(az.mp h).1;unfold gG;rw[h];dsimp only;split
 ·exact⟨JA h ‹_›,(Cr (by omega)).2⟩
 ·split
  ·exact⟨JA h ‹_›,(Cr (by omega)).2⟩
  ·split
   ·exact⟨by omega,by omega⟩
   ·rename_i d e;have:=(az.mp e).1;split<;>exact⟨by omega,by omega⟩
end ag
namespace aJ
open PySem PySem.Spec PyProof.Rows L2
def gL(role_:Int)(name_:Str)(place_:Int)(kind_:Int)(rank_:Int)(tokens_:Addr)(mentions_:Addr):List (Str×V):=[("role",.int role_),("name",.str name_),("place",.int place_),("kind",.int kind_),("rank",.int rank_),("tokens",.ref tokens_),("mentions",.ref mentions_)]
theorem EV{role_:Int}{name_:Str}{place_:Int}{kind_:Int}{rank_:Int}{tokens_:Addr}{mentions_:Addr}{v_:Int}:cD "role" (.int v_) (gL role_ name_ place_ kind_ rank_ tokens_ mentions_)=gL v_ name_ place_ kind_ rank_ tokens_ mentions_:=rfl
theorem EX{role_:Int}{name_:Str}{place_:Int}{kind_:Int}{rank_:Int}{tokens_:Addr}{mentions_:Addr}{v_:Str}:cD "name" (.str v_) (gL role_ name_ place_ kind_ rank_ tokens_ mentions_)=gL role_ v_ place_ kind_ rank_ tokens_ mentions_:=rfl
theorem CD{role_:Int}{name_:Str}{place_:Int}{kind_:Int}{rank_:Int}{tokens_:Addr}{mentions_:Addr}{v_:Int}:cD "place" (.int v_) (gL role_ name_ place_ kind_ rank_ tokens_ mentions_)=gL role_ name_ v_ kind_ rank_ tokens_ mentions_:=rfl
theorem EY{role_:Int}{name_:Str}{place_:Int}{kind_:Int}{rank_:Int}{tokens_:Addr}{mentions_:Addr}{v_:Int}:cD "kind" (.int v_) (gL role_ name_ place_ kind_ rank_ tokens_ mentions_)=gL role_ name_ place_ v_ rank_ tokens_ mentions_:=rfl
theorem EW{role_:Int}{name_:Str}{place_:Int}{kind_:Int}{rank_:Int}{tokens_:Addr}{mentions_:Addr}{v_:Int}:cD "rank" (.int v_) (gL role_ name_ place_ kind_ rank_ tokens_ mentions_)=gL role_ name_ place_ kind_ v_ tokens_ mentions_:=rfl
theorem AL{role_:Int}{name_:Str}{place_:Int}{kind_:Int}{rank_:Int}{tokens_:Addr}{mentions_:Addr}{v_:Addr}:cD "tokens" (.ref v_) (gL role_ name_ place_ kind_ rank_ tokens_ mentions_)=gL role_ name_ place_ kind_ rank_ v_ mentions_:=rfl
theorem yq{role_:Int}{name_:Str}{place_:Int}{kind_:Int}{rank_:Int}{tokens_:Addr}{mentions_:Addr}{v_:Addr}:cD "mentions" (.ref v_) (gL role_ name_ place_ kind_ rank_ tokens_ mentions_)=gL role_ name_ place_ kind_ rank_ tokens_ v_:=rfl
def pA(purpose_:Str)(name_:Str)(place_:Int)(count_:Int):List (Str×V):=[("purpose",.str purpose_),("name",.str name_),("place",.int place_),("count",.int count_)]
theorem vJ{purpose_:Str}{name_:Str}{place_:Int}{count_:Int}{v_:Str}:cD "purpose" (.str v_) (pA purpose_ name_ place_ count_)=pA v_ name_ place_ count_:=rfl
theorem zz{purpose_:Str}{name_:Str}{place_:Int}{count_:Int}{v_:Str}:cD "name" (.str v_) (pA purpose_ name_ place_ count_)=pA purpose_ v_ place_ count_:=rfl
theorem yo{purpose_:Str}{name_:Str}{place_:Int}{count_:Int}{v_:Int}:cD "place" (.int v_) (pA purpose_ name_ place_ count_)=pA purpose_ name_ v_ count_:=rfl
theorem yp{purpose_:Str}{name_:Str}{place_:Int}{count_:Int}{v_:Int}:cD "count" (.int v_) (pA purpose_ name_ place_ count_)=pA purpose_ name_ place_ v_:=rfl
def mI(form_:Str)(place_:Int)(printed_:Addr)(word_:Str):List (Str×V):=[("form",.str form_),("place",.int place_),("printed",.ref printed_),("word",.str word_)]
theorem CC{form_:Str}{place_:Int}{printed_:Addr}{word_:Str}{v_:Str}:cD "form" (.str v_) (mI form_ place_ printed_ word_)=mI v_ place_ printed_ word_:=rfl
theorem AG{form_:Str}{place_:Int}{printed_:Addr}{word_:Str}{v_:Int}:cD "place" (.int v_) (mI form_ place_ printed_ word_)=mI form_ v_ printed_ word_:=rfl
theorem yk{form_:Str}{place_:Int}{printed_:Addr}{word_:Str}{v_:Addr}:cD "printed" (.ref v_) (mI form_ place_ printed_ word_)=mI form_ place_ v_ word_:=rfl
theorem CB{form_:Str}{place_:Int}{printed_:Addr}{word_:Str}{v_:Str}:cD "word" (.str v_) (mI form_ place_ printed_ word_)=mI form_ place_ printed_ v_:=rfl
def jX(closer_:Str)(fewest_:Int)(most_:Int)(begun_:Int)(grouping_:Bool)(array_:V)(ranges_:Int)(compared_:Bool)(rows_:Addr)(operand_:Addr)(prefixes_:Int):List (Str×V):=[("closer",.str closer_),("fewest",.int fewest_),("most",.int most_),("begun",.int begun_),("grouping",.bl grouping_),("array",array_),("ranges",.int ranges_),("compared",.bl compared_),("rows",.ref rows_),("operand",.ref operand_),("prefixes",.int prefixes_)]
theorem zC{closer_:Str}{fewest_:Int}{most_:Int}{begun_:Int}{grouping_:Bool}{array_:V}{ranges_:Int}{compared_:Bool}{rows_:Addr}{operand_:Addr}{prefixes_:Int}{v_:Str}:cD "closer" (.str v_) (jX closer_ fewest_ most_ begun_ grouping_ array_ ranges_ compared_ rows_ operand_ prefixes_)=jX v_ fewest_ most_ begun_ grouping_ array_ ranges_ compared_ rows_ operand_ prefixes_:=rfl
theorem zB{closer_:Str}{fewest_:Int}{most_:Int}{begun_:Int}{grouping_:Bool}{array_:V}{ranges_:Int}{compared_:Bool}{rows_:Addr}{operand_:Addr}{prefixes_:Int}{v_:Int}:cD "fewest" (.int v_) (jX closer_ fewest_ most_ begun_ grouping_ array_ ranges_ compared_ rows_ operand_ prefixes_)=jX closer_ v_ most_ begun_ grouping_ array_ ranges_ compared_ rows_ operand_ prefixes_:=rfl
theorem CG{closer_:Str}{fewest_:Int}{most_:Int}{begun_:Int}{grouping_:Bool}{array_:V}{ranges_:Int}{compared_:Bool}{rows_:Addr}{operand_:Addr}{prefixes_:Int}{v_:Int}:cD "most" (.int v_) (jX closer_ fewest_ most_ begun_ grouping_ array_ ranges_ compared_ rows_ operand_ prefixes_)=jX closer_ fewest_ v_ begun_ grouping_ array_ ranges_ compared_ rows_ operand_ prefixes_:=rfl
theorem AM{closer_:Str}{fewest_:Int}{most_:Int}{begun_:Int}{grouping_:Bool}{array_:V}{ranges_:Int}{compared_:Bool}{rows_:Addr}{operand_:Addr}{prefixes_:Int}{v_:Int}:cD "begun" (.int v_) (jX closer_ fewest_ most_ begun_ grouping_ array_ ranges_ compared_ rows_ operand_ prefixes_)=jX closer_ fewest_ most_ v_ grouping_ array_ ranges_ compared_ rows_ operand_ prefixes_:=rfl
theorem wI{closer_:Str}{fewest_:Int}{most_:Int}{begun_:Int}{grouping_:Bool}{array_:V}{ranges_:Int}{compared_:Bool}{rows_:Addr}{operand_:Addr}{prefixes_:Int}{v_:Bool}:cD "grouping" (.bl v_) (jX closer_ fewest_ most_ begun_ grouping_ array_ ranges_ compared_ rows_ operand_ prefixes_)=jX closer_ fewest_ most_ begun_ v_ array_ ranges_ compared_ rows_ operand_ prefixes_:=rfl
theorem AN{closer_:Str}{fewest_:Int}{most_:Int}{begun_:Int}{grouping_:Bool}{array_:V}{ranges_:Int}{compared_:Bool}{rows_:Addr}{operand_:Addr}{prefixes_:Int}{v_:V}:cD "array" (v_) (jX closer_ fewest_ most_ begun_ grouping_ array_ ranges_ compared_ rows_ operand_ prefixes_)=jX closer_ fewest_ most_ begun_ grouping_ v_ ranges_ compared_ rows_ operand_ prefixes_:=rfl
theorem zA{closer_:Str}{fewest_:Int}{most_:Int}{begun_:Int}{grouping_:Bool}{array_:V}{ranges_:Int}{compared_:Bool}{rows_:Addr}{operand_:Addr}{prefixes_:Int}{v_:Int}:cD "ranges" (.int v_) (jX closer_ fewest_ most_ begun_ grouping_ array_ ranges_ compared_ rows_ operand_ prefixes_)=jX closer_ fewest_ most_ begun_ grouping_ array_ v_ compared_ rows_ operand_ prefixes_:=rfl
theorem wJ{closer_:Str}{fewest_:Int}{most_:Int}{begun_:Int}{grouping_:Bool}{array_:V}{ranges_:Int}{compared_:Bool}{rows_:Addr}{operand_:Addr}{prefixes_:Int}{v_:Bool}:cD "compared" (.bl v_) (jX closer_ fewest_ most_ begun_ grouping_ array_ ranges_ compared_ rows_ operand_ prefixes_)=jX closer_ fewest_ most_ begun_ grouping_ array_ ranges_ v_ rows_ operand_ prefixes_:=rfl
theorem CF{closer_:Str}{fewest_:Int}{most_:Int}{begun_:Int}{grouping_:Bool}{array_:V}{ranges_:Int}{compared_:Bool}{rows_:Addr}{operand_:Addr}{prefixes_:Int}{v_:Addr}:cD "rows" (.ref v_) (jX closer_ fewest_ most_ begun_ grouping_ array_ ranges_ compared_ rows_ operand_ prefixes_)=jX closer_ fewest_ most_ begun_ grouping_ array_ ranges_ compared_ v_ operand_ prefixes_:=rfl
theorem yr{closer_:Str}{fewest_:Int}{most_:Int}{begun_:Int}{grouping_:Bool}{array_:V}{ranges_:Int}{compared_:Bool}{rows_:Addr}{operand_:Addr}{prefixes_:Int}{v_:Addr}:cD "operand" (.ref v_) (jX closer_ fewest_ most_ begun_ grouping_ array_ ranges_ compared_ rows_ operand_ prefixes_)=jX closer_ fewest_ most_ begun_ grouping_ array_ ranges_ compared_ rows_ v_ prefixes_:=rfl
theorem wH{closer_:Str}{fewest_:Int}{most_:Int}{begun_:Int}{grouping_:Bool}{array_:V}{ranges_:Int}{compared_:Bool}{rows_:Addr}{operand_:Addr}{prefixes_:Int}{v_:Int}:cD "prefixes" (.int v_) (jX closer_ fewest_ most_ begun_ grouping_ array_ ranges_ compared_ rows_ operand_ prefixes_)=jX closer_ fewest_ most_ begun_ grouping_ array_ ranges_ compared_ rows_ operand_ v_:=rfl
def qy(state_:Str)(done_:Addr)(current_:V)(frames_:Addr)(nested_:Int)(axes_:Int)(function_:Str):List (Str×V):=[("state",.str state_),("done",.ref done_),("current",current_),("frames",.ref frames_),("nested",.int nested_),("axes",.int axes_),("function",.str function_)]
theorem zx{state_:Str}{done_:Addr}{current_:V}{frames_:Addr}{nested_:Int}{axes_:Int}{function_:Str}{v_:Str}:cD "state" (.str v_) (qy state_ done_ current_ frames_ nested_ axes_ function_)=qy v_ done_ current_ frames_ nested_ axes_ function_:=rfl
theorem AJ{state_:Str}{done_:Addr}{current_:V}{frames_:Addr}{nested_:Int}{axes_:Int}{function_:Str}{v_:Addr}:cD "done" (.ref v_) (qy state_ done_ current_ frames_ nested_ axes_ function_)=qy state_ v_ current_ frames_ nested_ axes_ function_:=rfl
theorem wG{state_:Str}{done_:Addr}{current_:V}{frames_:Addr}{nested_:Int}{axes_:Int}{function_:Str}{v_:V}:cD "current" (v_) (qy state_ done_ current_ frames_ nested_ axes_ function_)=qy state_ done_ v_ frames_ nested_ axes_ function_:=rfl
theorem ym{state_:Str}{done_:Addr}{current_:V}{frames_:Addr}{nested_:Int}{axes_:Int}{function_:Str}{v_:Addr}:cD "frames" (.ref v_) (qy state_ done_ current_ frames_ nested_ axes_ function_)=qy state_ done_ current_ v_ nested_ axes_ function_:=rfl
theorem yl{state_:Str}{done_:Addr}{current_:V}{frames_:Addr}{nested_:Int}{axes_:Int}{function_:Str}{v_:Int}:cD "nested" (.int v_) (qy state_ done_ current_ frames_ nested_ axes_ function_)=qy state_ done_ current_ frames_ v_ axes_ function_:=rfl
theorem AK{state_:Str}{done_:Addr}{current_:V}{frames_:Addr}{nested_:Int}{axes_:Int}{function_:Str}{v_:Int}:cD "axes" (.int v_) (qy state_ done_ current_ frames_ nested_ axes_ function_)=qy state_ done_ current_ frames_ nested_ v_ function_:=rfl
theorem vI{state_:Str}{done_:Addr}{current_:V}{frames_:Addr}{nested_:Int}{axes_:Int}{function_:Str}{v_:Str}:cD "function" (.str v_) (qy state_ done_ current_ frames_ nested_ axes_ function_)=qy state_ done_ current_ frames_ nested_ axes_ v_:=rfl
def yP(number_:Int)(level_:Int):List (Str×V):=[("number",.int number_),("level",.int level_)]
theorem yn{number_:Int}{level_:Int}{v_:Int}:cD "number" (.int v_) (yP number_ level_)=yP v_ level_:=rfl
theorem zy{number_:Int}{level_:Int}{v_:Int}:cD "level" (.int v_) (yP number_ level_)=yP number_ v_:=rfl
def zf(program_:Addr)(printed_:Addr):List (Str×V):=[("program",.ref program_),("printed",.ref printed_)]
theorem zD{program_:Addr}{printed_:Addr}{v_:Addr}:cD "program" (.ref v_) (zf program_ printed_)=zf v_ printed_:=rfl
theorem zE{program_:Addr}{printed_:Addr}{v_:Addr}:cD "printed" (.ref v_) (zf program_ printed_)=zf program_ v_:=rfl
def Mw(numbers_:Addr)(reached_:Int):List (Str×V):=[("numbers",.ref numbers_),("reached",.int reached_)]
theorem AI{numbers_:Addr}{reached_:Int}{v_:Addr}:cD "numbers" (.ref v_) (Mw numbers_ reached_)=Mw v_ reached_:=rfl
theorem AH{numbers_:Addr}{reached_:Int}{v_:Int}:cD "reached" (.int v_) (Mw numbers_ reached_)=Mw numbers_ v_:=rfl
theorem dI{a b:Int}:decide (V.int a=V.int b)=decide (a=b):=decide_eq_decide.mpr ⟨fun h=>V.int.inj h,fun h=>by rw[h]⟩
theorem dS{a b:Str}:decide (V.str a=V.str b)=decide (a=b):=decide_eq_decide.mpr ⟨fun h=>V.str.inj h,fun h=>by rw[h]⟩
def iv(b:Ax.Bytes):List V:=b.map fun c=>V.int (c.toNat:Int)
theorem TC{b:Ax.Bytes}{i:Nat}{c:UInt8}(h:b[i]? =some c):(iv b)[i]? =some (V.int c.toNat):=by unfold iv;rw[a9,h];rfl
theorem dC(b:Ax.Bytes):(iv b).length=b.length:=by unfold iv;rw[aP]
theorem Lk{b:Ax.Bytes}{i:Nat}{c:UInt8}(h:b[i]? =some c):nk (iv b) (i:Int)=some (V.int c.toNat):=mh (TC h)
theorem cn{c A B:Prop}[Decidable c](h:c)(q:A):if c then A else B:=by rw[ai h];exact q
theorem bV{c A B:Prop}[Decidable c](h:¬c)(q:B):if c then A else B:=by rw[af h];exact q
theorem U6{p:Addr->Addr->Addr->List (Str×V)->V->Prop}{a C dx:Addr}{fs:List (Str×V)}{v:V}(h:p a C dx fs v):∃a C dx fs v,p a C dx fs v:=⟨a,C,dx,fs,v,h⟩
theorem SA{p:Addr->List V->Prop}{a:Addr}{xs:List V}(h:p a xs):∃a xs,p a xs:=⟨a,xs,h⟩
theorem UN{p:Addr->List V->Int->V->Prop}{a:Addr}{xs:List V}{i:Int}{v:V}(h:p a xs i v):∃a xs i v,p a xs i v:=⟨a,xs,i,v,h⟩
section
variable{K:PySem.W.Frag}{f:Str}{a C dx:Addr}{fs:List (Str×V)}{y:V}{H:Hp}{L:List Cell}
theorem Uc{Q:Hp->Prop}(h:Holds H L)(i:Nat)(e:L[i]? =some (a,.ins C dx fs))(c:nA K C)(n:bW K C f)(l:fs.length<1000)(q:∀H',Holds H' (L.set i (a,.ins C dx (cD f y fs)))->Q H'):
  ∃a' C dx fs,V.ref a=V.ref a'/\H a'=some (.ins C dx fs)/\nA K C/\bW K C f/\fs.length<1000/\Q (upd H a' (.ins C dx (cD f y fs))):=⟨a,C,dx,fs,rfl,h.get i e,c,n,l,q _ (h.set i e)⟩
theorem S9{Q:Hp->Prop}{z:V}(h:Holds H L)(i:Nat)(e:L[i]? =some (a,.ins C dx fs))(l:fs.length<1000)(q:∀H',Holds H' (L.set i (a,.ins C dx (cD f z fs)))->Q H'):
  ∃dx fs,H a=some (.ins C dx fs)/\fs.length<1000/\Q (upd H a (.ins C dx (cD f z fs))):=⟨dx,fs,h.get i e,l,q _ (h.set i e)⟩
theorem Gw{α:Type}(L:List α):∀n,((List.range n).filterMap fun i=>L[i]?)=L.take n
 |0=>rfl
 |n+1=>by
  rw[List.range_succ,List.filterMap_append,Gw L n,List.take_succ];cases e:L[n]? with
  |none=>simp[e]
  |some x=>simp[e]
theorem Holds.reorder(h:Holds H L)(n:Nat)(is:List Nat)(p:(is.isPerm (List.range n))=true):Holds H ((is.filterMap fun i=>L[i]?)++L.drop n):=by
 refine h.perm ?_;have p':=List.isPerm_iff.mp p;have h1:((is.filterMap fun i=>L[i]?)++L.drop n).Perm (((List.range n).filterMap fun i=>L[i]?)++L.drop n):=(p'.filterMap _).append_right _;rw[Gw,eX]at h1;exact h1.symm
theorem Holds.oW{H':Hp}{o:HO}(e:upd H a o=H')(h:Holds H L)(n:H a=none):Holds H' ((a,o)::L):=e▸h.new n
theorem Holds.QE{H':Hp}(e:upd (upd H dx (.own a)) a (.ins C dx [])=H')(h:Holds H L)(n:H a=none)(m:H dx=none)(ne:dx≠a):Holds H' ((a,.ins C dx [])::L):=e▸h.made n m ne
theorem jC{l:Addr}{xs:List V}{Q:V->Hp->Prop}(h:Holds H L)(i:Nat)(e:L[i]? =some (l,.lst xs))(z:xs.length<sizeLine)(q:∀H',Holds H' (L.set i (l,.lst (xs++[y])))->Q .bA H'):JC (.ref l) [y] H Q:=
 ⟨l,xs,y,rfl,rfl,h.get i e,z,q _ (h.set i e)⟩
theorem FC{l b:Addr}{xs zs:List V}{Q:V->Hp->Prop}(h:Holds H L)(i:Nat)(e:L[i]? =some (l,.lst xs))(eb:H b=some (.lst zs))(z:xs.length+zs.length<=sizeLine)(q:∀H',Holds H' (L.set i (l,.lst (xs++zs)))->Q .bA H'):JB (.ref l) [.ref b] H Q:=
 ⟨l,b,xs,zs,rfl,rfl,h.get i e,eb,z,q _ (h.set i e)⟩
theorem t7{l:Addr}{xs:List V}{Q:V->Hp->Prop}(h:Holds H L)(i:Nat)(e:L[i]? =some (l,.lst xs))(z:xs[xs.length - 1]? =some y)(q:∀H',Holds H' (L.set i (l,.lst xs.dropLast))->Q y H'):RP (.ref l) [] H Q:=
 ⟨l,xs,y,rfl,rfl,h.get i e,z,q _ (h.set i e)⟩
theorem L8{l:Addr}{xs:List V}{k:Int}{j:Nat}{Q:Hp->Prop}(h:Holds H L)(i:Nat)(e:L[i]? =some (l,.lst xs))(hj:vd xs.length k=some j)(q:∀H',Holds H' (L.set i (l,.lst (xs.set j y)))->Q H'):PU (.ref l) (.int k) y H Q:=
 ⟨l,xs,k,j,rfl,rfl,h.get i e,hj,q _ (h.set i e)⟩
theorem Al{d:Addr}{kvs:List (Key×V)}{k:Key}(h:Holds H L)(i:Nat)(e:L[i]? =some (d,.dK kvs))(z:kvs.length<sizeLine):Dv H d (kV k) y (upd H d (.dK (putK kvs k y)))/\Holds (upd H d (.dK (putK kvs k y))) (L.set i (d,.dK (putK kvs k y))):=
 ⟨Dv.k (h.get i e) z,h.set i e⟩
theorem ty_list{l:Addr}{xs:List V}(h:H l=some (.lst xs)):PJ K "list" (.ref l) H:=.inl ⟨rfl,xs,bY.of h⟩
end
structure cf where
 a:Addr
 dx:Addr
 pl:Addr
 cZ:Str
 word:Str
 place:Nat
 pr:Ax.Bytes
def cf.c1(A:Ad)(t:cf):Cell:=(t.a,.ins A.eD t.dx (mI t.cZ t.place t.pl t.word))
def cf.c2(t:cf):Cell:=(t.pl,.lst (iv t.pr))
def cf.cells(A:Ad)(t:cf):List Cell:=[t.c1 A,t.c2]
structure fK where
 a:Addr
 dx:Addr
 closer:Str
 gj:Int
 most:Int
 begun:Int
 grouping:Bool
 array:V
 ranges:Int
 compared:Bool
 rl:Addr
 oa:Addr
 bq:Int
def fK.c(A:Ad)(f:fK):Cell:=(f.a,.ins A.fe f.dx (jX f.closer f.gj f.most f.begun f.grouping f.array f.ranges f.compared f.rl f.oa f.bq))
structure d8 where
 a:Addr
 dx:Addr
 st:Str
 dl:Addr
 cur:V
 fl:Addr
 nested:Int
 axes:Int
 fn:Str
def d8.c(A:Ad)(r:d8):Cell:=(r.a,.ins A.fU r.dx (qy r.st r.dl r.cur r.fl r.nested r.axes r.fn))
structure k8 where
 a:Addr
 dx:Addr
 role:Int
 name:Str
 place:Int
 kind:Int
 rank:Int
 tl:Addr
 ml:Addr
def k8.c(A:Ad)(l:k8):Cell:=(l.a,.ins A.gn l.dx (gL l.role l.name l.place l.kind l.rank l.tl l.ml))
structure cx where
 a:Addr
 dx:Addr
 sW:Str
 name:Str
 place:Int
 count:Int
def cx.c(A:Ad)(m:cx):Cell:=(m.a,.ins A.d9 m.dx (pA m.sW m.name m.place m.count))
theorem qK{K:PySem.W.Frag}{a:Addr}{xs:List V}{i j:Nat}{tb:TS}{D:Ends}{σ:L2.St}{H:Hp}(Pv:Nat->L2.St->Hp->Prop)(h0:Pv 0 σ H)(hl:∀n σ H,n<=xs.length->Pv n σ H->bY K H a xs)
  (hs:∀n x σ H T H',xs[n]? =some x->Pv n σ H->H T=none->upd H T (.tup [.int (n:Nat),x])=H'->tb {D with nx:=Pv (n+1),ct:=Pv (n+1),bk:=D.nx} ((σ.set i (some (.int (n:Nat)))).set j (some x)) H') (hd:∀σ H,Pv xs.length σ H->D.nx σ H):
  ∃W:Nat->Nat->L2.St->Hp->Prop,(∃m,W 0 m σ H)/\∀n m σ H,W n m σ H->
   ((N5 K a).stop n H/\D.nx σ H)\/((N5 K a).go n H/\∃N:L2.St->Hp->Prop,(∀σ' H',N σ' H'->∃m',m'<m/\W (n+1) m' σ' H')/\∀x H',(N5 K a).FR n H x H'->Sw K 2 (Ly (FI i) (Ly (FI j) Sx)) x σ H' fun σ2 H2=>tb {D with nx:=N,ct:=N,bk:=D.nx} σ2 H2):=by
 refine⟨fun n m σ H=>m=xs.length - n/\n<=xs.length/\Pv n σ H,⟨xs.length,by simp,cE _,h0⟩,?_⟩;rintro n m σ H ⟨rfl,hi,p⟩;have q:=hl n σ H hi p;by_cases hlt:n<xs.length
 ·refine .inr ⟨⟨xs,xs[n],q,by simp[hlt]⟩,Pv (n+1),fun σ' H' p'=>⟨xs.length - (n+1),by omega,rfl,hlt,p'⟩,fun x H' y=>?_⟩;obtain⟨T,z,rfl,hT,rfl,hz⟩:=y;refine⟨T,_,rfl,iR.of lC,rfl,_,_,rfl,_,_,rfl,rfl,?_⟩;exact hs n z σ H T _ (hz xs q) p hT rfl
 ·have e:n=xs.length:=by omega
  subst e;exact .inl ⟨⟨xs,q,aD _⟩,hd σ H p⟩
inductive pO(A:Ad):Addr->Int->Int->List Cell->Prop
 |no:pO A A.cu (-1) 1 []
 |tup (oa:Addr) (l n:Int):pO A oa l n [(oa,.tup [.int l,.int n])]
theorem pO.sq{P:Program}{w:World}{K:PySem.W.Frag}{mg:Str->Option Value}{A:Ad}{H:Hp}{oa:Addr}{l n:Int}{M:List Cell}(T:Txt P w K mg A)(o:pO A oa l n M)(h:∀c∈M,H c.1=some c.2):iR K H oa [.int l,.int n]:=by
 cases o with
 |no=>exact T.Oe.sq H
 |tup=>exact iR.of (h _ aA)
def zs(r:List Int):List V:=r.map V.int
theorem PH{r:List Int}{i:Nat}{z:Int}(h:r[i]? =some z):nk (zs r) (i:Int)=some (V.int z):=mh (by unfold zs;rw[a9,h];rfl)
theorem p8(r:List Int):(zs r).length=r.length:=by unfold zs;rw[aP]
theorem Rn(r:List Int)(i:Nat):j0 (zs r) (some (i:Int)) none=zs (r.drop i):=by
 unfold j0 zs;rw[HT.kl,HT.zw,aP,<-ji,List.take_of_length_le (by rw[aP,aM];omega)];by_cases hi:i<=r.length
 ·rw[eJ hi]
 ·rw[cW (by omega),cW (by omega)]
end aJ
namespace aJ
open PySem PySem.Spec PyProof.Rows L2
variable{P:Program}{w:World}{K:PySem.W.Frag}{mg:Str->Option Value}{base:Heap}{A:Ad}
local macro_rules | `(tactic| walk_at "look") => `(tactic| first | assumption | exact Holds.mem (by assumption) (by assumption) | exact Holds.get (by assumption) _ (by assumption) | exact Holds.mem (Holds.tl (by assumption)) (by assumption) | exact Holds.mem (Holds.tl (Holds.tl (by assumption))) (by assumption) | exact Holds.get (by assumption) 0 rfl | exact Holds.get (by assumption) 1 rfl | exact Holds.get (by assumption) 2 rfl | exact Holds.get (by assumption) 3 rfl | exact Holds.get (by assumption) 4 rfl | exact Holds.get (by assumption) 5 rfl | exact Holds.get (by assumption) 6 rfl | exact Holds.get (by assumption) 7 rfl | exact Holds.get (by assumption) 8 rfl | exact Holds.get (by assumption) 9 rfl | exact Holds.get (by assumption) 10 rfl | exact Holds.get (by assumption) 11 rfl | exact Holds.get (by assumption) 12 rfl | exact Holds.get (by assumption) 13 rfl | exact Holds.get (by assumption) 14 rfl | exact Holds.get (by assumption) 15 rfl)
local macro_rules | `(tactic| walk_at "cls") => do
  let T := Lean.mkIdent `T
  `(tactic| first | exact ($T).SK | exact ($T).NK | exact ($T).Q7 | exact ($T).Q8 | exact ($T).Pf | exact ($T).Pg | exact ($T).SM | exact ($T).TX)
local macro_rules | `(tactic| walk_at "na") => do
  let T := Lean.mkIdent `T
  `(tactic| first | exact ($T).IT | exact ($T).IV | exact ($T).GW | exact ($T).IW | exact ($T).IU | exact ($T).Fg | exact ($T).A8 | exact ($T).yA | exact ($T).CY | exact ($T).A6 | exact ($T).A7 | exact ($T).GV | exact ($T).Fb | exact ($T).A2 | exact ($T).GU | exact ($T).C1 | exact ($T).C0 | exact ($T).GY | exact ($T).Fh | exact ($T).zR | exact ($T).Fi | exact ($T).CZ | exact ($T).zS | exact ($T).GX | exact ($T).A9 | exact ($T).zQ | exact ($T).CV | exact ($T).Fe | exact ($T).zP | exact ($T).A4 | exact ($T).A3 | exact ($T).Ff | exact ($T).yz | exact ($T).A5 | exact ($T).CW | exact ($T).C2 | exact ($T).C3 | exact ($T).Fd | exact ($T).Fc)
local macro_rules | `(tactic| walk_at "idx") => `(tactic| first | (show (_ : List Cell)[0]? = _; rfl) | (show (_ : List Cell)[1]? = _; rfl) | (show (_ : List Cell)[2]? = _; rfl) | (show (_ : List Cell)[3]? = _; rfl) | (show (_ : List Cell)[4]? = _; rfl) | (show (_ : List Cell)[5]? = _; rfl) | (show (_ : List Cell)[6]? = _; rfl) | (show (_ : List Cell)[7]? = _; rfl) | (show (_ : List Cell)[8]? = _; rfl) | (show (_ : List Cell)[9]? = _; rfl) | (show (_ : List Cell)[10]? = _; rfl) | (show (_ : List Cell)[11]? = _; rfl) | (show (_ : List Cell)[12]? = _; rfl) | (show (_ : List Cell)[13]? = _; rfl) | (show (_ : List Cell)[14]? = _; rfl) | (show (_ : List Cell)[15]? = _; rfl))
local macro_rules | `(tactic| walk_at "nrm") => do
  let h := Lean.mkIdent `hH
  `(tactic| simp only [List.set_cons_zero, List.set_cons_succ, EV, EX, CD, EY, EW, AL, yq, vJ, zz, yo, yp, CC, AG, yk, CB, zC, zB, CG, AM, wI, AN, zA, wJ, CF, yr, wH, zx, AJ, wG, ym, yl, AK, vI, yn, zy, zD, zE, AI, AH] at $h:ident)
local macro_rules | `(tactic| walk_at "in") => do
  let h := Lean.mkIdent `hH
  let H := Lean.mkIdent `H
  `(tactic| (intro $H:ident $h:ident; try walk_at "nrm"))
local macro_rules | `(tactic| walk_at "inp") => do
  let h := Lean.mkIdent `hH
  let H := Lean.mkIdent `H
  let p := Lean.mkIdent `np
  `(tactic| (intro $p:ident $H:ident $h:ident; try walk_at "nrm"))
local macro_rules | `(tactic| walk_at "rd1") => `(tactic| first | refine ⟨_, rfl, ?_⟩ | (refine' U6 ⟨rfl, ?k1, ?k2, ?k3, ?k4, ?k5⟩; (case k1 => walk_at "look"); (case k2 => walk_at "cls"); (case k3 => walk_at "na"); (case k4 => rfl)) | refine ⟨_, _, rfl, rfl, ?_⟩ | refine ⟨rfl, ?_⟩)
local macro_rules | `(tactic| walk_at "rd") => `(tactic| repeat (walk_at "rd1"))
local macro_rules | `(tactic| walk_at "st") => `(tactic| (refine' Uc (by assumption) ?k0 ?k1 ?k2 ?k3 ?k4 ?k5; (case k1 => walk_at "idx"); (case k2 => walk_at "cls"); (case k3 => walk_at "na"); (case k4 => with_unfolding_all exact of_decide_eq_true rfl); walk_at "in"))
local macro_rules | `(tactic| walk_at "aug") => `(tactic| (refine' S9 (by assumption) ?k0 ?k1 ?k4 ?k5; (case k1 => walk_at "idx"); (case k4 => with_unfolding_all exact of_decide_eq_true rfl); walk_at "in"))
local macro_rules | `(tactic| walk_at "new") => do
  let h := Lean.mkIdent `hH
  let H := Lean.mkIdent `H
  let p := Lean.mkIdent `np
  `(tactic| (intro $p:ident n; generalize hE : upd _ _ _ = $H:ident; have $h:ident := Holds.oW hE (by assumption) n; clear hE n))
local macro_rules | `(tactic| walk_at "nl") => `(tactic| (refine ⟨by with_unfolding_all exact of_decide_eq_true rfl, ?_⟩; walk_at "new"))
local macro_rules | `(tactic| walk_at "mk") => do
  let h := Lean.mkIdent `hH
  let H := Lean.mkIdent `H
  let x := Lean.mkIdent `x
  let dx := Lean.mkIdent `dx
  `(tactic| (intro $x:ident $dx:ident n m e; generalize hE : upd (upd _ _ _) _ _ = $H:ident; have $h:ident := Holds.QE hE (by assumption) n m e; clear hE n m e))
local macro_rules | `(tactic| walk_at "br") => `(tactic| first | refine cn (by assumption) ?_ | refine bV (by assumption) ?_ | refine UG ?_ | refine Ll ?_)
local macro_rules | `(tactic| walk_at "go") => `(tactic| repeat (first | walk_at "rd1" | walk_at "br"))
local macro_rules | `(tactic| walk_at "len") => `(tactic| (refine' SA ⟨rfl, .inl (bY.of ?k1), ?k2⟩; (case k1 => walk_at "look")))
local macro_rules | `(tactic| walk_at "ix") => `(tactic| (refine' UN ⟨rfl, rfl, bY.of ?k1, ?k2, ?k3⟩; (case k1 => walk_at "look"); (case k2 => first | assumption | exact Lk (by assumption))))
local macro_rules | `(tactic| walk_at "vl") => do
  let h := Lean.mkIdent `h
  `(tactic| ((repeat (obtain ⟨_, $h:ident⟩ := $h:ident)); subst_vars; rfl))
local macro_rules | `(tactic| walk_at "unf") => do
  let h := Lean.mkIdent `hH
  `(tactic| simp only [d8.c, k8.c, cx.c, fK.c, cf.c1, cf.c2] at $h:ident)
local macro_rules | `(tactic| walk_at "ro") => do
  let h := Lean.mkIdent `hH
  `(tactic| simp only [List.filterMap_cons, List.filterMap_nil, List.getElem?_cons_zero, List.getElem?_cons_succ, List.cons_append, List.nil_append, List.drop_succ_cons, List.drop_zero] at $h:ident)
local macro_rules | `(tactic| walk_at "tn") => `(tactic| dsimp only [qf, FE, tC, List.cons_append, List.nil_append])
def Ql(A:Ad):Sp:=fun vs H Q _=>∃(x dx:Addr)(role:Int)(F:List Cell),vs=[.ref x,.int role]/\Holds H ((x,.ins A.gn dx [])::F)/\
 ∀(H':Hp)(tl ml:Addr),Holds H' ((ml,.lst [])::(tl,.lst [])::(x,.ins A.gn dx (gL role "" 0 0 0 tl ml))::F)->Q .bA H'
theorem QJ(T:Txt P w K mg A):lX P w K mg base 1 A.gn [] (Ql A):=by
 refine T.Sl.ok zo (fun vs H Q E h=>?_) (fun f cdv A' outer s H vs Q E hr h=>?_) [] (by simp)
 ·obtain⟨_,_,_,_,rfl,_⟩:=h;rfl
 ·obtain⟨x,dx,role,F,rfl,hH,k⟩:=h;refine⟨_,(ae (bu (pv 0) (pv 1) rfl)
   (ae (bu (pv 0) bF rfl)
   (ae (bu (pv 0) aV rfl)
   (ae (bu (pv 0) aV rfl)
   (ae (bu (pv 0) aV rfl)
   (ae (bu (pv 0) (cX au) rfl)
   (ak (bu (pv 0) (cX au) rfl)))))))),?_⟩
  walk_at "rd";walk_at "st";walk_at "rd";walk_at "st";walk_at "rd";walk_at "st";walk_at "rd";walk_at "st";walk_at "rd";walk_at "st";walk_at "nl";walk_at "rd";walk_at "st";walk_at "nl";walk_at "rd";walk_at "st";exact k _ _ _ hH
theorem Sj(b:Ax.Bytes)(i j:Nat)(h:j<=b.length):j0 (iv b) (some (i:Int)) (some (j:Int))=iv (ag.ej b i j):=by
 unfold j0 ag.ej iv;rw[HT.kl,HT.kl,aP,eJ h,<-ji,<-List.map_take];by_cases hi:i<=b.length
 ·rw[eJ hi]
 ·rw[cW (by omega),cW (by omega),List.take_nil,List.take_nil]
theorem QT(b:Ax.Bytes)(i j:Nat):j0 (iv b) (some (i:Int)) (some (j:Int))=iv (ag.ej b i (min j b.length)):=by
 unfold j0 ag.ej iv;rw[HT.kl,HT.kl,aP,<-ji,<-List.map_take];by_cases hi:i<=b.length
 ·rw[eJ hi]
 ·rw[cW (by omega),cW (by omega),List.take_nil,List.take_nil]
def Ih:Sp:=fun vs H Q _=>∃c:UInt8,vs=[.int (c.toNat:Int)]/\Q (.bl (Ax.isDigit c)) H
theorem oE(T:Txt P w K mg A):Ok P w K mg base 1 A.Bu ["byte"] Ih:=by
 refine T.ni.ok Ip (fun vs H Q E h=>?_) (fun cdv A' outer s H vs Q E hr h=>?_)
 ·obtain⟨_,rfl,_⟩:=h;rfl
 ·obtain⟨c,rfl,k⟩:=h;refine⟨_,(ak (aF (zH ux ux aV (pv 0) aV))),?_⟩;walk_at "rd";refine js (fun h1=>?_) fun h1=>?_
  ·walk_at "rd";have e:Ax.isDigit c=decide ((c.toNat:Int)<=57):=by
    have h1:(48:Int)<=(c.toNat:Int):=ab h1;unfold Ax.isDigit;rw[ao (show 48<=c.toNat by omega),Bool.true_and];exact decide_eq_decide.mpr (by omega)
   rw[e]at k;exact k
  ·have e:Ax.isDigit c=false:=by
    have h1:¬(48:Int)<=(c.toNat:Int):=fun q=>h1 (ao q);unfold Ax.isDigit;rw[aY (show ¬48<=c.toNat by omega),Bool.false_and]
   rw[e]at k;exact k
def As:Sp:=fun vs H Q _=>∃c:UInt8,vs=[.int (c.toNat:Int)]/\Q (.bl (Ax.wordByte c)) H
theorem S8(c:UInt8):Ax.wordByte c=(Ax.isDigit c||((decide ((65:Int)<=c.toNat)&&decide ((c.toNat:Int)<=90))||((decide ((97:Int)<=c.toNat)&&decide ((c.toNat:Int)<=122))||decide ((c.toNat:Int)=95)))):=by
 unfold Ax.wordByte Ax.isLetter;have e:(c==95)=decide ((c.toNat:Int)=95):=by
  rw[show(c==95)=decide (c=95)from rfl];refine decide_eq_decide.mpr ⟨fun h=>by subst h;rfl,fun h=>?_⟩;exact jv (show c.toNat=(95:UInt8).toNat from by have:(95:UInt8).toNat=95:=rfl;omega)
 rw[e];have c1:decide (65<=c.toNat)=decide ((65:Int)<=c.toNat):=decide_eq_decide.mpr (by omega);have c2:decide (c.toNat<=90)=decide ((c.toNat:Int)<=90):=decide_eq_decide.mpr (by omega);have c3:decide (97<=c.toNat)=decide ((97:Int)<=c.toNat):=decide_eq_decide.mpr (by omega);have c4:decide (c.toNat<=122)=decide ((c.toNat:Int)<=122):=decide_eq_decide.mpr (by omega);rw[c1,c2,c3,c4,Bool.or_comm,Bool.or_assoc]
theorem mX(T:Txt P w K mg A):Ok P w K mg base 2 A.tM ["byte"] As:=by
 refine T.kD.ok Az (fun vs H Q E h=>?_) (fun cdv A' outer s H vs Q E hr h=>?_)
 ·obtain⟨_,rfl,_⟩:=h;rfl
 ·obtain⟨c,rfl,k⟩:=h;rw[S8]at k;refine⟨_,(ak (aF (AO (aI (oE T) (hr.mono (by decide)) (by rfl) T.ni.at_ (aa (pv 0) au)) (AO (zH ux ux aV (pv 0) aV) (AO (zH ux ux aV (pv 0) aV) (Gx (nW cH (pv 0) aV (bb _)))))))),?_⟩;refine⟨_,rfl,c,rfl,_,rfl,?_⟩;by_cases e0:Ax.isDigit c=true
  ·walk_at "br";rw[e0,Bool.true_or]at k;exact k
  ·walk_at "br";rw[(b5 _).mp e0,Bool.false_or]at k;by_cases e1:decide ((65:Int)<=c.toNat)=true<;>by_cases e2:decide ((c.toNat:Int)<=90)=true<;>by_cases e3:decide ((97:Int)<=c.toNat)=true<;>by_cases e4:decide ((c.toNat:Int)<=122)=true<;>
    walk_at "go"<;>((try rw[b5]at e1);(try rw[b5]at e2);(try rw[b5]at e3);(try rw[b5]at e4);simp only[e1,e2,e3,e4,Bool.true_and,Bool.and_true,Bool.false_and,Bool.and_false,Bool.true_or,Bool.false_or]at k)
   all_goals first|exact k|(rw[dI];exact k)
def ER:Sp:=fun vs H Q _=>∃(a:Addr)(t:Ax.Bytes)(p:Nat),vs=[.ref a,.int (p:Int)]/\H a=some (.lst (iv t))/\p<=t.length/\Q (.int ((ag.scan Ax.isDigit t p:Nat):Int)) H
theorem E5(T:Txt P w K mg A):Ok P w K mg base 2 A.xo ["text","place"] ER:=by
 refine T.xE.ok o5 (fun vs H Q E h=>?_) (fun cdv A' outer s H vs Q E hr h=>?_)
 ·obtain⟨_,_,_,rfl,_⟩:=h;rfl
 ·obtain⟨a,t,p,rfl,hH,hp,k⟩:=h;refine⟨_,(ae (bp (i:=2) o5.nd rfl (Or.inl rfl) (pv 1))
   (ae (nS PassesOwn.never (PW.pt (jP (aO rn (pv 2) (dc cV (by rfl) T.gi boot_len (aa (pv 0) au)) (bb _)) (iJ (gh (aI (oE T) (hr.mono (by decide)) (by rfl) T.ni.at_ (aa (de cO (pv 0) (pv 2) (fun _ _=>rfl)) au)))))) (ak (wL (i:=2) o5.nd rfl (Or.inl rfl) aV wZ)))
   (ak (aF (pv 2))))),?_⟩
  walk_at "rd";refine⟨fun m σ H'=>∃e:Nat,m=t.length - e/\p<=e/\e<=t.length/\ag.scan Ax.isDigit t e=ag.scan Ax.isDigit t p/\σ=[some (.ref a),some (.int (p:Int)),some (.int (e:Int))]/\H'=H,⟨_,p,rfl,aD _,hp,rfl,rfl,rfl⟩,?_⟩;rintro m σ H' ⟨e,rfl,hpe,hel,hsc,rfl,rfl⟩;walk_at "rd";walk_at "len";refine⟨_,_,rfl,rfl,_,rfl,?_⟩;refine js (fun h1=>?_) fun h1=>?_
  ·have h1:e<t.length:=by
    have:=ab h1;rw[dC]at this;omega
   obtain⟨c,hc⟩:∃c,t[e]? =some c:=⟨_,aN h1⟩;walk_at "rd";walk_at "ix";refine⟨c,rfl,_,rfl,?_⟩;refine js (fun h2=>?_) fun h2=>?_
   ·refine⟨fun σ' H1=>∃e':Nat,e'=e+1/\σ'=[some (.ref a),some (.int (p:Int)),some (.int (e':Int))]/\H1=H',?_,?_⟩
    ·rintro σ' H1 ⟨e',rfl,rfl,rfl⟩;exact⟨_,(by omega),e+1,rfl,by omega,by omega,by rw[<-ag.gw hc h2];exact hsc,rfl,rfl⟩
    ·walk_at "rd";rfl
   ·walk_at "rd";have e1:ag.scan Ax.isDigit t p=e:=by
     rw[<-hsc];exact ag.qZ fun c' hc'=>by rw[hc]at hc';cases hc';exact(b5 _).mp h2
    rw[e1]at k;exact k
  ·have h1:e=t.length:=by
    have:¬((e:Int)<((iv t).length:Nat)):=fun q=>h1 (ao q);rw[dC]at this;omega
   refine Ll ?_;walk_at "rd";have e1:ag.scan Ax.isDigit t p=e:=by
    rw[<-hsc];exact ag.qZ fun c' hc'=>by rw[h1,l4 (aD _)]at hc';cases hc'
   rw[e1]at k;exact k
def Ib:Sp:=fun vs H Q _=>∃(a:Addr)(t:Ax.Bytes)(p:Nat),vs=[.ref a,.int (p:Int)]/\H a=some (.lst (iv t))/\p<=t.length/\Q (.int ((ag.scan Ax.wordByte t p:Nat):Int)) H
theorem IC(T:Txt P w K mg A):Ok P w K mg base 3 A.Br ["text","place"] Ib:=by
 refine T.BG.ok sk (fun vs H Q E h=>?_) (fun cdv A' outer s H vs Q E hr h=>?_)
 ·obtain⟨_,_,_,rfl,_⟩:=h;rfl
 ·obtain⟨a,t,p,rfl,hH,hp,k⟩:=h;refine⟨_,(ae (bp (i:=2) sk.nd rfl (Or.inl rfl) (pv 1))
   (ae (nS PassesOwn.never (PW.pt (jP (aO rn (pv 2) (dc cV (by rfl) T.gi boot_len (aa (pv 0) au)) (bb _)) (iJ (gh (aI (mX T) (hr.mono (by decide)) (by rfl) T.kD.at_ (aa (de cO (pv 0) (pv 2) (fun _ _=>rfl)) au)))))) (ak (wL (i:=2) sk.nd rfl (Or.inl rfl) aV wZ)))
   (ak (aF (pv 2))))),?_⟩
  walk_at "rd";refine⟨fun m σ H'=>∃e:Nat,m=t.length - e/\p<=e/\e<=t.length/\ag.scan Ax.wordByte t e=ag.scan Ax.wordByte t p/\σ=[some (.ref a),some (.int (p:Int)),some (.int (e:Int))]/\H'=H,⟨_,p,rfl,aD _,hp,rfl,rfl,rfl⟩,?_⟩;rintro m σ H' ⟨e,rfl,hpe,hel,hsc,rfl,rfl⟩;walk_at "rd";walk_at "len";refine⟨_,_,rfl,rfl,_,rfl,?_⟩;refine js (fun h1=>?_) fun h1=>?_
  ·have h1:e<t.length:=by
    have:=ab h1;rw[dC]at this;omega
   obtain⟨c,hc⟩:∃c,t[e]? =some c:=⟨_,aN h1⟩;walk_at "rd";walk_at "ix";refine⟨c,rfl,_,rfl,?_⟩;refine js (fun h2=>?_) fun h2=>?_
   ·refine⟨fun σ' H1=>∃e':Nat,e'=e+1/\σ'=[some (.ref a),some (.int (p:Int)),some (.int (e':Int))]/\H1=H',?_,?_⟩
    ·rintro σ' H1 ⟨e',rfl,rfl,rfl⟩;exact⟨_,(by omega),e+1,rfl,by omega,by omega,by rw[<-ag.gw hc h2];exact hsc,rfl,rfl⟩
    ·walk_at "rd";rfl
   ·walk_at "rd";have e1:ag.scan Ax.wordByte t p=e:=by
     rw[<-hsc];exact ag.qZ fun c' hc'=>by rw[hc]at hc';cases hc';exact(b5 _).mp h2
    rw[e1]at k;exact k
  ·have h1:e=t.length:=by
    have:¬((e:Int)<((iv t).length:Nat)):=fun q=>h1 (ao q);rw[dC]at this;omega
   refine Ll ?_;walk_at "rd";have e1:ag.scan Ax.wordByte t p=e:=by
    rw[<-hsc];exact ag.qZ fun c' hc'=>by rw[h1,l4 (aD _)]at hc';cases hc'
   rw[e1]at k;exact k
def HR:Int:=170141183460469231731687303715884105728
def tp(v:Int)(c:UInt8):Int:=if HR<v*10+(c.toNat:Int) - 48 then HR else v*10+(c.toNat:Int) - 48
theorem GJ:∀(b:Ax.Bytes)(n:Nat)(v:Int),(∀c∈b,Ax.isDigit c=true)->v=min (n:Int) HR->b.foldl tp v=min ((b.foldl (fun(n:Nat)(c:UInt8)=>10*n+(c.toNat - 48)) n:Nat):Int) HR
 |[],n,v,_,h=>h
 |c::b,n,v,hd,h=>by
  rw[eK,eK];refine GJ b _ _ (fun d hd'=>hd d (ah _ hd')) ?_;have hc:=hd c aA;unfold Ax.isDigit at hc;rw[cG]at hc;have h1:=ab hc.1;have h2:=ab hc.2;have hL:HR=170141183460469231731687303715884105728:=rfl;unfold tp;split<;>omega
theorem OM(b:Ax.Bytes)(h:∀c∈b,Ax.isDigit c=true):decide (b.foldl tp 0<HR)=decide (Ax.number b<2^127):=by
 rw[GJ b 0 0 h rfl];unfold Ax.number;have hL:HR=2^127:=rfl;refine decide_eq_decide.mpr ?_;rw[hL];generalize hx:List.foldl (fun n c=>10*n+(UInt8.toNat c - 48)) 0 b=x;have hx':List.foldl (fun(n:Nat)(c:UInt8)=>10*n+(c.toNat - 48)) 0 b=x:=hx;omega
def strip:Ax.Bytes->Ax.Bytes
 |[]=>[]
 |[c]=>[c]
 |c::d::r=>if c=48 then strip (d::r)else c::d::r
def Cj:Sp:=fun vs H Q _=>∃(a:Addr)(b:Ax.Bytes),vs=[.ref a]/\H a=some (.lst (iv b))/\(∀c∈b,Ax.isDigit c=true)/\Q (.str (if Ax.number b<2^127 then "number" else "bad")) H
theorem gR{α:Type}{l:List α}{i:Nat}{x:α}(h:l[i]? =some x):l.take (i+1)=l.take i++[x]:=by
 rw[List.take_succ,h];rfl
theorem CN(T:Txt P w K mg A):Ok P w K mg base 1 A.vj ["digits"] Cj:=by
 refine T.vy.ok kj (fun vs H Q E h=>?_) (fun cdv A' outer s H vs Q E hr h=>?_)
 ·obtain⟨_,_,rfl,_⟩:=h;rfl
 ·obtain⟨a,b,rfl,hH,hd,k⟩:=h;refine⟨_,(ae (bp (i:=1) kj.nd rfl (Or.inl rfl) aV)
   (ae (jj PassesOwn.never rfl (l9 (pv 0)) (dX (i:=2) kj.nd rfl (Or.inl rfl))
   (ak (bp (i:=1) kj.nd rfl (Or.inl rfl) (dc (Eo rfl) (by rfl) T.MU boot_min (aa (fg oU (fg kT (fg RX (pv 1) aV) (pv 2)) (bZ (by rfl) T.oh)) (aa (bZ (by rfl) T.tE) au))))))
   (ak (aF (eV (aO rn (pv 1) (bZ (by rfl) T.tE) (bb _)) (el (by rfl) T.uG) (el (by rfl) T.Lw)))))),?_⟩
  refine⟨_,rfl,a,rfl,⟨_,bY.of hH⟩,oj (K:=K) (a:=a) (xs:=iv b) (fun i σ H'=>∃v:Option V,σ=[some (.ref a),some (.int ((b.take i).foldl tp 0)),v]/\H'=H)
   ⟨none,rfl,rfl⟩ (fun i σ H' _ ⟨_,_,e⟩=>by rw[e];exact bY.of hH) ?_ ?_⟩
  ·rintro i y σ H' hi ⟨v,rfl,rfl⟩;obtain⟨c,hc,rfl⟩:∃c,b[i]? =some c/\y=V.int c.toNat:=by
    unfold iv at hi;rw[a9]at hi;obtain⟨c,hc,e⟩:=bS.mp hi;exact⟨c,hc,e.symm⟩
   walk_at "rd";refine⟨.inr ⟨by decide,by decide⟩,?_⟩;walk_at "rd";refine⟨_,_,rfl,?_⟩;refine⟨some (V.int c.toNat),?_,rfl⟩;rw[gR hc,List.foldl_append];rfl
  ·rintro σ H' ⟨v,rfl,rfl⟩;rw[dC,dt];walk_at "rd";have e:=OM b hd;by_cases h0:Ax.number b<2^127
   ·rw[ao h0]at e;rw[ai h0]at k;exact cn e k
   ·rw[aY h0]at e;rw[af h0]at k;exact bV (by rw[show decide (List.foldl tp 0 b<170141183460469231731687303715884105728)=false from e];exact aE) k
theorem QS(b:Ax.Bytes)(i:Nat):j0 (iv b) (some (i:Int)) none=iv (b.drop i):=by
 unfold j0 iv;rw[HT.kl,HT.zw,aP,<-ji,List.take_of_length_le (by rw[aP,aM];omega)];by_cases hi:i<=b.length
 ·rw[eJ hi]
 ·rw[cW (by omega),cW (by omega)]
theorem strip_go{b:Ax.Bytes}{e:Nat}(h:e+1<b.length)(hz:b[e]? =some 48):strip (b.drop e)=strip (b.drop (e+1)):=by
 rw[ag.gy hz];obtain⟨d,hd⟩:∃d,b[e+1]? =some d:=⟨_,aN h⟩;rw[ag.gy hd];simp only[strip,if_true]
theorem strip_stop{b:Ax.Bytes}{e:Nat}{c:UInt8}(hz:b[e]? =some c)(h:¬(e+1<b.length/\c=48)):strip (b.drop e)=b.drop e:=by
 rw[ag.gy hz];by_cases h1:e+1<b.length
 ·obtain⟨d,hd⟩:∃d,b[e+1]? =some d:=⟨_,aN h1⟩;rw[ag.gy hd];unfold strip;rw[af fun q=>h ⟨h1,q⟩]
 ·rw[cW (by omega)];rfl
def zk:Sp:=fun vs H Q _=>∃(a:Addr)(b:Ax.Bytes)(L:List Cell),vs=[.ref a]/\Holds H L/\(a,.lst (iv b))∈L/\0<b.length/\∀(p:Addr)(H':Hp),Holds H' ((p,.lst (iv (strip b)))::L)->Q (.ref p) H'
theorem zK(T:Txt P w K mg A):Ok P w K mg base 1 A.rH ["digits"] zk:=by
 refine T.rN.ok lG (fun vs H Q E h=>?_) (fun cdv A' outer s H vs Q E hr h=>?_)
 ·obtain⟨_,_,_,rfl,_⟩:=h;rfl
 ·obtain⟨a,b,L,rfl,hH,hm,hb,k⟩:=h;refine⟨_,(ae (bp (i:=1) lG.nd rfl (Or.inl rfl) aV)
   (ae (nS PassesOwn.never (PW.pt (jP (aO rn (pv 1) (fg oU (dc cV (by rfl) T.gi boot_len (aa (pv 0) au)) aV) (bb _)) (iJ (aO cH (de cO (pv 0) (pv 1) (fun _ _=>rfl)) (bZ (by rfl) T.oh) (bb _))))) (ak (wL (i:=1) lG.nd rfl (Or.inl rfl) aV wZ)))
   (ak (aF (nV pV (pv 0) (km (pv 1)) CI))))),?_⟩
  refine⟨fun m σ H'=>∃e:Nat,m=b.length - e/\e<b.length/\strip (b.drop e)=strip b/\σ=[some (.ref a),some (.int (e:Int))]/\H'=H,⟨_,0,rfl,hb,rfl,rfl,rfl⟩,?_⟩;rintro m σ H' ⟨e,rfl,hel,hst,rfl,rfl⟩;obtain⟨c,hc⟩:∃c,b[e]? =some c:=⟨_,aN hel⟩;have fin:¬(e+1<b.length/\c=48)->RO K (.ref a) (some (e:Int)) none H' Q:=fun hno=>by
   refine⟨a,iv b,rfl,bY.of (hH.mem hm),?_⟩;walk_at "new";rw[QS]at hH;rw[<-hst,strip_stop hc hno]at k;exact k _ _ hH
  walk_at "rd";walk_at "len";walk_at "rd";refine js (fun h1=>?_) fun h1=>?_
  ·have h1:e+1<b.length:=by
    have:=ab h1;rw[dC]at this;omega
   walk_at "rd";walk_at "ix";walk_at "rd";rw[dI];refine js (fun h2=>?_) fun h2=>?_
   ·have h2:c=48:=jv (show c.toNat=(48:UInt8).toNat from by have:=ab h2;have:(48:UInt8).toNat=48:=rfl;omega);subst h2;refine⟨fun σ' H1=>∃e':Nat,e'=e+1/\σ'=[some (.ref a),some (.int (e':Int))]/\H1=H',?_,?_⟩
    ·rintro σ' H1 ⟨e',rfl,rfl,rfl⟩;exact⟨_,(by omega),e+1,rfl,by omega,by rw[<-strip_go h1 hc];exact hst,rfl,rfl⟩
    ·walk_at "rd";rfl
   ·walk_at "rd";exact fin fun q=>h2 (ao (by rw[q.2];rfl))
  ·refine Ll ?_;walk_at "rd";refine fin fun q=>h1 (ao ?_);rw[dC];omega
def sb(b:Ax.Bytes):Str:=⟨(b.map fun c=>c.toNat).toArray⟩
theorem Lj:∀b:Ax.Bytes,Txt.join "" (b.map fun c=>(⟨#[c.toNat]⟩:Str))=sb b:=by
 intro b;unfold Txt.join;rw[StrLaws.glued_eq_join]
 induction b with
 |nil=>rfl
 |cons c r ih=>
  cases r with
  |nil=>rfl
  |cons d r=>
   show(⟨#[c.toNat]⟩:Str)++""++Str.join "" ((d::r).map fun c=>(⟨#[c.toNat]⟩:Str))=_;rw[ih];show(⟨(#[c.toNat]++(Str.ofString "").cps)++((d::r).map fun c=>c.toNat).toArray⟩:Str)=⟨((c::d::r).map fun c=>c.toNat).toArray⟩;refine congrArg Str.mk ?_;rw[show(Str.ofString "").cps= #[]from rfl];simp
theorem Qn{c:UInt8}(h:Ax.wordByte c=true):nk (Str.ofString "0123456789:;<=>?@ABCDEFGHIJKLMNOPQRSTUVWXYZ[\\]^_`abcdefghijklmnopqrstuvwxyz").cps.toList ((c.toNat:Int) - 48)=some c.toNat:=by
 have e:(Str.ofString "0123456789:;<=>?@ABCDEFGHIJKLMNOPQRSTUVWXYZ[\\]^_`abcdefghijklmnopqrstuvwxyz").cps.toList=List.range' 48 75:=by decide +kernel
 rw[e];have hb:48<=c.toNat/\c.toNat<=122:=by
  unfold Ax.wordByte Ax.isLetter Ax.isDigit at h;simp only[jz,cG,decide_eq_true_eq,beq_iff_eq]at h
  rcases h with((h|h)|h)|h
  ·omega
  ·omega
  ·subst h;decide
  ·omega
 have e2:(c.toNat:Int) - 48=((c.toNat - 48:Nat):Int):=by omega
 rw[e2];refine mh ?_;rw[List.getElem?_range' (by omega)];congr 1;omega
theorem F0:∀b:Ax.Bytes,(b.map ((fun x:Str=>x.length)∘fun c=>(⟨#[c.toNat]⟩:Str))).sum=b.length
 |[]=>rfl
 |c::b=>by rw[a8,k9,F0 b,ay];show 1+b.length=_;omega
def Ku:Sp:=fun vs H Q _=>∃(a:Addr)(b:Ax.Bytes)(L:List Cell),vs=[.ref a]/\Holds H L/\(a,.lst (iv b))∈L/\(∀c∈b,Ax.wordByte c=true)/\b.length<=2000/\∀H':Hp,Holds H' L->Q (.str (sb b)) H'
theorem K2(T:Txt P w K mg A):Ok P w K mg base 1 A.Eb ["word_bytes"] Ku:=by
 refine T.Ei.ok ub (fun vs H Q E h=>?_) (fun cdv A' outer s H vs Q E hr h=>?_)
 ·obtain⟨_,_,_,rfl,_⟩:=h;rfl
 ·obtain⟨a,b,L,rfl,hH,hm,hw,hl,k⟩:=h;refine⟨_,(ak (aF (Qy bF (KZ rfl ub.nd (l9 (pv 0)) (z9 (own:=[("byte",1)]) (by rfl)) (fun _ _ _ _ _=>dX (i:=1) ub.nd rfl (Or.inl rfl)) (fun _ _ _ _ _=>CH) (fun _ _ _ _ _=>(de Si (el (by rfl) T.yB) (fg oU (pv 1) (bZ (by rfl) T.oh)) (fun _ _=>rfl))))))),?_⟩;refine⟨⟨_,rfl⟩,_,rfl,a,rfl,⟨_,bY.of (hH.mem hm)⟩,fun D hD=>?_⟩;have hL:(Str.ofString "0123456789:;<=>?@ABCDEFGHIJKLMNOPQRSTUVWXYZ[\\]^_`abcdefghijklmnopqrstuvwxyz").length<=sizeLine:=by decide +kernel
  refine QN (K:=K) (a:=a) (xs:=iv b) (fun i H'=>Holds H' ((D,.lst ((b.take i).map fun c=>V.str ⟨#[c.toNat]⟩))::L)) (hH.new hD) (fun i H' _ h'=>bY.of (h'.tl.mem hm)) ?_ ?_
  ·intro i y H' hi h';obtain⟨c,hc,rfl⟩:∃c,b[i]? =some c/\y=V.int c.toNat:=by
    unfold iv at hi;rw[a9]at hi;obtain⟨c,hc,e⟩:=bS.mp hi;exact⟨c,hc,e.symm⟩
   have hil:=(az.mp hc).1;refine⟨rfl,?_⟩;walk_at "rd";refine⟨_,_,_,rfl,rfl,hL,Qn (hw c (aH hc)),_,h'.get 0 rfl,?_,?_⟩
   ·rw[aP,cJ,sizeLine_eq];omega
   ·have h2:=h'.set (o':=.lst (((b.take i).map fun c=>V.str ⟨#[c.toNat]⟩)++[V.str ⟨#[c.toNat]⟩])) 0 rfl;rw[gR hc,bC];exact h2
  ·intro H' h';rw[dC,dt]at h';refine⟨_,D,b.map fun c=>(⟨#[c.toNat]⟩:Str),rfl,rfl,.inl (bY.of ?_),?_,?_⟩
   ·rw[jM];exact h'.get 0 rfl
   ·rw[jM,aP,show(Str.ofString "").length=0 from rfl,Nat.mul_zero,Nat.add_zero];have:(b.map ((fun x:Str=>x.length)∘fun c=>(⟨#[c.toNat]⟩:Str))).sum=b.length:=by
     exact F0 b
    omega
   ·rw[Lj];exact k _ h'.tl
def GC:Ax.Bin->Str
 | .mul=>"*"| .div=>"/"| .mod=>"percent"| .add=>"+"| .sub=>"-"| .shl=>"<<"| .shr=>">>"| .and=>"&"| .xor=>"^"| .or=>"|"| .less=>"<"| .most=>"<="| .same=>"=="
 | .min=>"min"| .max=>"max"| .quo=>"quo"| .rem=>"rem"| .high=>"high"| .rotl=>"rotl"
def L9:Ax.Un->Str
 | .neg=>"-"| .not=>"~"| .abs=>"abs"| .ones=>"ones"| .lead=>"lead"| .trail=>"trail"
def Cz:Ax.Red->Str
 | .sum=>"sum"| .product=>"product"| .least=>"least"| .greatest=>"greatest"
def zg:Ax.What->Str
 | .size=>"size"| .in_=>"in"| .let_=>"let"| .out=>"out"
def formOf:Ax.Tok->Str
 | .num _=>"number"| .name _=>"name"| .kind _=>"kind"| .line x=>zg x| .if_=>"if"| .red f=>Cz f| .fn1 o=>L9 o| .fn2 o=>GC o| .op o=>GC o
 | .minus=>"-"| .tilde=>"~"| .lt=>"<"| .openB=>"["| .closeB=>"]"| .openP=>"("| .closeP=>")"| .comma=>","| .colon=>":"| .semi=>";"| .is=>"="| .bad=>"bad"
structure cf.Is(t:cf)(x:Ax.Placed)(b:Ax.Bytes):Prop where
 place:t.place=x.1
 cZ:t.cZ=formOf x.2
 name:∀w,x.2=.name w->t.word=sb w
 kind:∀k,x.2=.kind k->t.word=sb (Ax.kindText k)
 pr:t.pr=b
def zG(b:Ax.Bytes):Ax.Bytes:=match b with
 |[]=>[]
 |c::r=>if Ax.isDigit c=true then strip (c::r)else c::r
theorem AD{a b:Ax.Bytes}(h:sb a=sb b):a=b:=by
 have h1:(a.map fun c=>c.toNat).toArray=(b.map fun c=>c.toNat).toArray:=Str.mk.inj h;have h2:(a.map fun c=>c.toNat)=(b.map fun c=>c.toNat):=by simpa using h1
 clear h h1
 induction a generalizing b with
 |nil=>cases b with
  |nil=>rfl
  |cons d r=>cases h2
 |cons c l ih=>cases b with
  |nil=>cases h2
  |cons d r=>
   rw[a8,a8]at h2;obtain⟨e1,e2⟩:=List.cons.inj h2;rw[ih e2,jv e1]
theorem RL(a b:Ax.Bytes):(sb a==sb b)=(a==b):=by
 by_cases h:a=b
 ·subst h;rw[beq_self_eq_true,beq_self_eq_true]
 ·rw[beq_eq_false_iff_ne.mpr h,beq_eq_false_iff_ne.mpr fun q=>h (AD q)]
theorem Bk(w:Ax.Bytes):∀ks:List Ax.Bytes,eF (.str (sb w)) (ks.map fun k=>V.str (sb k))=ks.any fun k=>k==w
 |[]=>rfl
 |k::ks=>by
  unfold eF at*;rw[a8,ee,ee,<-RL];show((sb k==sb w)||_)=_;rw[<-Bk w ks];rfl
theorem G6:lE=Ax.kinds.map fun k=>V.str (sb k):=by decide +kernel
def m9:List Ax.Bytes:=["size","in","let","out","if","sum","product","least","greatest","min","max","abs","quo","rem","high","rotl","ones","lead","trail"].map Ax.ascii
theorem Hl:ki=m9.map fun k=>V.str (sb k):=by decide +kernel
theorem Bp:(∀x∈m9,x∈Ax.fixedWords.map (·.1))/\∀x∈Ax.fixedWords.map (·.1),x∈m9:=by decide +kernel
theorem LA:∀x∈Ax.fixedWords,formOf x.2=sb x.1:=by decide +kernel
theorem Np(w:Ax.Bytes):(m9.any fun k=>k==w)=(Ax.fixedWords.find? fun x=>x.1==w).isSome:=by
 have h:(m9.any fun k=>k==w)=true↔(Ax.fixedWords.find? fun x=>x.1==w).isSome=true:=by
  rw[lA,List.find?_isSome];constructor
  ·rintro⟨k,hk,e⟩;obtain⟨x,hx,rfl⟩:=jL.mp (Bp.1 k hk);exact⟨x,hx,e⟩
  ·rintro⟨x,hx,e⟩;exact⟨x.1,Bp.2 _ (hU hx),e⟩
 exact jA.mpr h
theorem M7(w:Ax.Bytes):(Ax.kinds.any fun k=>k==w)=(Ax.kinds.findIdx? fun k=>k==w).isSome:=by
 rw[List.findIdx?_isSome]
theorem Jr(c:UInt8)(n:Nat)(h:n<256):((c.toNat:Int)=(n:Int))↔c=UInt8.ofNat n:=by
 constructor
 ·intro e;refine jv ?_;rw[UInt8.toNat_ofNat'];omega
 ·rintro rfl;rw[UInt8.toNat_ofNat'];omega
theorem DU(c d:UInt8):cv jc [Sum.inl (c.toNat:Int),Sum.inl (d.toNat:Int)]=(Ax.sign2 c d).map fun t=>V.str (formOf t):=by
 have e1:=Jr c 61 (by decide);have e2:=Jr c 60 (by decide);have e3:=Jr c 62 (by decide);have f1:=Jr d 61 (by decide);have f2:=Jr d 60 (by decide);have f3:=Jr d 62 (by decide);unfold cv jc Ax.sign2;have g:∀(a b:Int),decide (([Sum.inl a,Sum.inl b]:List Key)=[Sum.inl (c.toNat:Int),Sum.inl (d.toNat:Int)])=decide ((c.toNat:Int)=a/\(d.toNat:Int)=b):=fun a b=>decide_eq_decide.mpr (by
  constructor
  ·intro h;obtain⟨h1,h2⟩:=List.cons.inj h;obtain⟨h3,_⟩:=List.cons.inj h2;exact⟨(oy h1).symm,(oy h3).symm⟩
  ·rintro⟨h1,h2⟩;rw[h1,h2])
 simp only[dG,g,List.find?_nil];by_cases h1:c=61/\d=61
 ·obtain⟨rfl,rfl⟩:=h1;decide +kernel
 ·by_cases h2:c=60/\d=61
  ·obtain⟨rfl,rfl⟩:=h2;decide +kernel
  ·by_cases h3:c=60/\d=60
   ·obtain⟨rfl,rfl⟩:=h3;decide +kernel
   ·by_cases h4:c=62/\d=62
    ·obtain⟨rfl,rfl⟩:=h4;decide +kernel
    ·rw[af h1,af h2,af h3,af h4];have k1:decide ((c.toNat:Int)=61/\(d.toNat:Int)=61)=false:=aY fun q=>h1 ⟨e1.mp q.1,f1.mp q.2⟩;have k2:decide ((c.toNat:Int)=60/\(d.toNat:Int)=61)=false:=aY fun q=>h2 ⟨e2.mp q.1,f1.mp q.2⟩;have k3:decide ((c.toNat:Int)=60/\(d.toNat:Int)=60)=false:=aY fun q=>h3 ⟨e2.mp q.1,f2.mp q.2⟩;have k4:decide ((c.toNat:Int)=62/\(d.toNat:Int)=62)=false:=aY fun q=>h4 ⟨e3.mp q.1,f3.mp q.2⟩;rw[k1,k2,k3,k4];rfl
theorem MN(c:UInt8):cv jc [Sum.inl (c.toNat:Int)]=none:=by
 unfold cv jc;have g:∀(a b:Int),decide (([Sum.inl a,Sum.inl b]:List Key)=[Sum.inl (c.toNat:Int)])=false:=fun a b=>aY (by
  intro h;cases(List.cons.inj h).2)
 simp only[dG,g,List.find?_nil];rfl
theorem Im:∀n,n<256->(cv mZ (Sum.inl ((UInt8.ofNat n).toNat:Int))).getD (.str "bad")=V.str (formOf (Ax.sign1 (UInt8.ofNat n))):=by decide +kernel
theorem Qm(c:UInt8):(cv mZ (Sum.inl (c.toNat:Int))).getD (.str "bad")=V.str (formOf (Ax.sign1 c)):=by
 have h:=Im c.toNat (kh c);rw[fB]at h;exact h
def v9(A:Ad):Sp:=fun vs H Q _=>∃(x dx pl:Addr)(cZ word:Str)(place:Int)(F:List Cell),vs=[.ref x,.str cZ,.int place,.ref pl,.str word]/\Holds H ((x,.ins A.eD dx [])::F)/\
 ∀H':Hp,Holds H' ((x,.ins A.eD dx (mI cZ place pl word))::F)->Q .bA H'
theorem DZ(T:Txt P w K mg A):∀dvs∈[[],[V.str ""]],lX P w K mg base 1 A.eD dvs (v9 A):=by
 refine T.JR.ok yi (fun vs H Q E h=>?_) (fun f cdv A' outer s H vs Q E hr h=>?_)
 ·obtain⟨_,_,_,_,_,_,_,rfl,_⟩:=h;rfl
 ·obtain⟨x,dx,pl,cZ,word,place,F,rfl,hH,k⟩:=h;refine⟨_,(ae (bu (pv 0) (pv 1) rfl)
   (ae (bu (pv 0) (pv 2) rfl)
   (ae (bu (pv 0) (pv 3) rfl)
   (ak (bu (pv 0) (pv 4) rfl))))),?_⟩
  walk_at "rd";walk_at "st";walk_at "rd";walk_at "st";walk_at "rd";walk_at "st";walk_at "rd";walk_at "st";exact k _ hH
theorem G0(T:Txt P w K mg A):lX P w K mg base 1 A.eD [] (v9 A):=DZ T _ (by simp)
theorem rA(T:Txt P w K mg A):lX P w K mg base 1 A.eD [V.str ""] (v9 A):=DZ T _ (by simp)
theorem QP(b:Ax.Bytes):iv b=(b.map fun c=>(Sum.inl (c.toNat:Int):Key)).map kV:=by unfold iv;rw[jM];rfl
def F6:Sp:=fun vs H Q _=>∃(a:Addr)(t:Ax.Bytes)(p:Nat)(L:List Cell),vs=[.ref a,.int (p:Int)]/\Holds H L/\(a,.lst (iv t))∈L/\p<t.length/\∀H':Hp,Holds H' L->Q (.int ((ag.gG t p:Nat):Int)) H'
theorem GF(T:Txt P w K mg A):Ok P w K mg base 4 A.y8 ["text","place"] F6:=by
 refine T.zc.ok Gf (fun vs H Q E h=>?_) (fun cdv A' outer s H vs Q E hr h=>?_)
 ·obtain⟨_,_,_,_,rfl,_⟩:=h;rfl
 ·obtain⟨a,t,p,L,rfl,hH,hm,hp,k⟩:=h;obtain⟨c,hc⟩:∃c,t[p]? =some c:=⟨_,aN hp⟩;have eT:ag.gG t p=if Ax.isDigit c=true then ag.scan Ax.isDigit t p else if Ax.wordByte c=true then ag.scan Ax.wordByte t p else match t[p+1]? with
   |none=>p+1
   |some d=>if(Ax.sign2 c d).isSome=true then p+2 else p+1:=by unfold ag.gG;rw[hc]<;>rfl
  rw[eT]at k;refine⟨_,(ae (bg (gh (aI (oE T) (hr.mono (by decide)) (by rfl) T.ni.at_ (aa (de cO (pv 0) (pv 1) (fun _ _=>rfl)) au))) (ak (aF (aI (E5 T) (hr.mono (by decide)) (by rfl) T.xE.at_ (aa (pv 0) (aa (pv 1) au))))) aQ)
   (ae (bg (gh (aI (mX T) (hr.mono (by decide)) (by rfl) T.kD.at_ (aa (de cO (pv 0) (pv 1) (fun _ _=>rfl)) au))) (ak (aF (aI (IC T) (hr.mono (by decide)) (by rfl) T.BG.at_ (aa (pv 0) (aa (pv 1) au))))) aQ)
   (ae (bg (fJ (AQ (gx hr) (DS vD (by rfl) T.GQ boot_tuple (aa (nV pV (pv 0) (km (pv 1)) (km (fg kT (pv 1) aV))) au)) (dH (by rfl) T.JT))) (ak (aF (fg kT (pv 1) aV))) aQ)
   (ak (aF (fg kT (pv 1) aV)))))),?_⟩
  walk_at "rd";walk_at "ix";refine⟨c,rfl,_,rfl,?_⟩;refine js (fun h1=>?_) fun h1=>?_
  ·rw[ai h1]at k;walk_at "rd";exact⟨a,t,p,rfl,hH.mem hm,mz hp,k _ hH⟩
  ·rw[af h1]at k;walk_at "rd";walk_at "ix";refine⟨c,rfl,_,rfl,?_⟩;refine js (fun h2=>?_) fun h2=>?_
   ·rw[ai h2]at k;walk_at "rd";exact⟨a,t,p,rfl,hH.mem hm,mz hp,k _ hH⟩
   ·rw[af h2]at k;walk_at "rd";refine⟨a,_,rfl,bY.of (hH.mem hm),?_⟩;walk_at "new";rw[show(p:Int)+2=((p+2:Nat):Int)from rfl,QT]at hH;refine⟨_,_,rfl,.inl ⟨bY.of (hH.get 0 rfl),?_⟩⟩;walk_at "new";rw[QP]at hH;refine⟨_,_,rfl,.inr ⟨jc,_,_,T.JL,rfl,hH.get 0 rfl,rfl⟩,_,rfl,?_⟩;have hl:=(az.mp hc).1;have hH2:=hH.tl.tl;have k2:∀H',Holds H' L->Q (.int (if(cv jc ((ag.ej t p (min (p+2) t.length)).map fun c=>(Sum.inl (c.toNat:Int):Key))).isSome=true then(p:Int)+2 else(p:Int)+1)) H':=fun H' hH'=>by
     have:=k H' hH';cases hd:t[p+1]? with
     |none=>
      rw[hd]at this;have hl2:t.length=p+1:=by have:=dR.mp hd;omega
      have e1:ag.ej t p (min (p+2) t.length)=[c]:=by
       unfold ag.ej;rw[ag.gy hc,hl2,show min (p+2) (p+1) - p=1 by omega];rfl
      rw[e1,a8,mC,MN,af (by simp)];exact this
     |some d=>
      rw[hd]at this;have hl2:=(az.mp hd).1;have e1:ag.ej t p (min (p+2) t.length)=[c,d]:=by
       unfold ag.ej;rw[ag.gy hc,ag.gy hd,show min (p+2) t.length - p=2 by omega];rfl
      rw[e1,a8,a8,mC,DU,gF];by_cases hs:(Ax.sign2 c d).isSome=true
      ·rw[ai hs];have this:Q (.int ((if(Ax.sign2 c d).isSome=true then p+2 else p+1:Nat):Int)) H':=this;rw[ai hs]at this;exact this
      ·rw[af hs];have this:Q (.int ((if(Ax.sign2 c d).isSome=true then p+2 else p+1:Nat):Int)) H':=this;rw[af hs]at this;exact this
    refine js (fun h3=>?_) fun h3=>?_
    ·walk_at "rd";have:=k2 _ hH2;rw[ai h3]at this;exact this
    ·walk_at "rd";have:=k2 _ hH2;rw[af h3]at this;exact this
structure p7(c:UInt8)(r:Ax.Bytes):Prop where
 digits:Ax.isDigit c=true->∀x∈c::r,Ax.isDigit x=true
 word:Ax.isDigit c=false->Ax.wordByte c=true->∀x∈c::r,Ax.wordByte x=true
 sign:Ax.isDigit c=false->Ax.wordByte c=false->r=[]\/∃d t,r=[d]/\Ax.sign2 c d=some t
theorem G2{q:UInt8->Bool}:∀{l:Ax.Bytes}{x:UInt8},x∈l.takeWhile q->q x=true
 |[],x,h=>nomatch h
 |c::l,x,h=>by
  rw[cS]at h;split at h
  ·rename_i hc
   rcases aT.mp h with rfl|h
   ·exact hc
   ·exact G2 h
  ·cases h
theorem Gv{t:Ax.Bytes}{p:Nat}{c:UInt8}(h:t[p]? =some c):∃r,ag.ej t p (ag.gG t p)=c::r/\p7 c r:=by
 have hd:=ag.gy h;have eT:ag.gG t p=if Ax.isDigit c=true then ag.scan Ax.isDigit t p else if Ax.wordByte c=true then ag.scan Ax.wordByte t p else match t[p+1]? with
   |none=>p+1
   |some d=>if(Ax.sign2 c d).isSome=true then p+2 else p+1:=by unfold ag.gG;rw[h]<;>rfl
 rw[eT];by_cases h1:Ax.isDigit c=true
 ·rw[ai h1,ag.pS,hd];refine⟨(t.drop (p+1)).takeWhile Ax.isDigit,by rw[cS,ai h1],⟨fun _ x hx=>?_,fun q=>absurd (h1.symm.trans q) (by decide),fun q=>absurd (h1.symm.trans q) (by decide)⟩⟩
  rcases aT.mp hx with rfl|hx
  ·exact h1
  ·exact G2 hx
 ·rw[af h1];by_cases h2:Ax.wordByte c=true
  ·rw[ai h2,ag.pS,hd];refine⟨(t.drop (p+1)).takeWhile Ax.wordByte,by rw[cS,ai h2],⟨fun q=>absurd q h1,fun _ _ x hx=>?_,fun _ q=>absurd (h2.symm.trans q) (by decide)⟩⟩
   rcases aT.mp hx with rfl|hx
   ·exact h2
   ·exact G2 hx
  ·rw[af h2];have one:ag.ej t p (p+1)=[c]:=by
    unfold ag.ej;rw[hd,show p+1 - p=1 by omega];rfl
   cases e:t[p+1]? with
   |none=>
    show ∃r,ag.ej t p (p+1)=c::r/\p7 c r;rw[one];exact⟨[],rfl,⟨fun q=>absurd q h1,fun _ q=>absurd q h2,fun _ _=>.inl rfl⟩⟩
   |some d=>
    show ∃r,ag.ej t p (if(Ax.sign2 c d).isSome=true then p+2 else p+1)=c::r/\p7 c r;by_cases h3:(Ax.sign2 c d).isSome=true
    ·rw[ai h3];obtain⟨tk,htk⟩:=dY.mp h3;have two:ag.ej t p (p+2)=[c,d]:=by
      unfold ag.ej;rw[hd,ag.gy e,show p+2 - p=2 by omega];rfl
     rw[two];exact⟨[d],rfl,⟨fun q=>absurd q h1,fun _ q=>absurd q h2,fun _ _=>.inr ⟨d,tk,rfl,htk⟩⟩⟩
    ·rw[af h3,one];exact⟨[],rfl,⟨fun q=>absurd q h1,fun _ q=>absurd q h2,fun _ _=>.inl rfl⟩⟩
theorem xh{w:Ax.Bytes}{k:Nat}(h:(Ax.kinds.findIdx? fun x=>x==w)=some k):Ax.kindText k=w:=by
 obtain⟨hk,e,_⟩:=gN.mp h;unfold Ax.kindText;rw[bP,aN hk];exact eq_of_beq e
theorem sO{w:Ax.Bytes}{k:Nat}(h:(Ax.kinds.findIdx? fun x=>x==w)=some k):Ax.wordTok w=.kind k:=by unfold Ax.wordTok;rw[h]
theorem p9{w:Ax.Bytes}{x:Ax.Bytes×Ax.Tok}(h:(Ax.kinds.findIdx? fun x=>x==w)=none)(h2:(Ax.fixedWords.find? fun x=>x.1==w)=some x):Ax.wordTok w=x.2:=by unfold Ax.wordTok;rw[h,h2]
theorem l5{w:Ax.Bytes}(h:(Ax.kinds.findIdx? fun x=>x==w)=none)(h2:(Ax.fixedWords.find? fun x=>x.1==w)=none):Ax.wordTok w=if w.length<=15 then .name w else .bad:=by unfold Ax.wordTok;rw[h,h2];rfl
theorem Hk:∀x∈Ax.fixedWords,(∀w,x.2≠.name w)/\∀k,x.2≠.kind k:=by
 intro x hx;have h:∀x∈Ax.fixedWords,(match x.2 with| .name _=>false| .kind _=>false|_=>true)=true:=by decide +kernel
 have:=h x hx;constructor
 ·intro w e;rw[e]at this;cases this
 ·intro w e;rw[e]at this;cases this
theorem Ea(ks:List Ax.Bytes):(ks.map fun k=>V.str (sb k)).all jF=true:=by
 induction ks with
 |nil=>rfl
 |cons k ks ih=>rw[a8,List.all_cons,ih];rfl
theorem Mr:∀n,n<256->(match Ax.sign1 (UInt8.ofNat n)with| .name _=>false| .kind _=>false|_=>true)=true:=by decide +kernel
theorem Gb(c:UInt8):(∀w,Ax.sign1 c≠.name w)/\∀k,Ax.sign1 c≠.kind k:=by
 have h:=Mr c.toNat (kh c);rw[fB]at h;constructor
 ·intro w e;rw[e]at h;cases h
 ·intro w e;rw[e]at h;cases h
theorem Ot{c d:UInt8}{tk:Ax.Tok}(htk:Ax.sign2 c d=some tk):(∀w,tk≠.name w)/\∀k,tk≠.kind k:=by
 unfold Ax.sign2 at htk;split at htk
 ·cases htk;exact⟨(fun _ e=>nomatch e),(fun _ e=>nomatch e)⟩
 ·split at htk
  ·cases htk;exact⟨(fun _ e=>nomatch e),(fun _ e=>nomatch e)⟩
  ·split at htk
   ·cases htk;exact⟨(fun _ e=>nomatch e),(fun _ e=>nomatch e)⟩
   ·split at htk
    ·cases htk;exact⟨(fun _ e=>nomatch e),(fun _ e=>nomatch e)⟩
    ·cases htk
theorem mH(c:UInt8)(r:Ax.Bytes):ag.tokOf (c::r)=if Ax.isDigit c=true then(if Ax.number (c::r)<2^127 then .num (Ax.number (c::r))else .bad)else if Ax.wordByte c=true then Ax.wordTok (c::r)else match r with
  |[]=>Ax.sign1 c
  |d::_=>(Ax.sign2 c d).getD .bad:=rfl
theorem rg(c:UInt8)(r:Ax.Bytes):zG (c::r)=if Ax.isDigit c=true then strip (c::r)else c::r:=rfl
def EK(A:Ad):Sp:=fun vs H Q _=>∃(pl:Addr)(b:Ax.Bytes)(place:Nat)(L:List Cell),vs=[.ref pl,.int (place:Int)]/\Holds H ((pl,.lst (iv b))::L)/\(∀c∈b,Ax.wordByte c=true)/\b.length<=2000/\
 ∀(H':Hp)(d:cf),d.Is (place,Ax.wordTok b) b->Holds H' (d.c1 A::d.c2::L)->Q (.ref d.a) H'
theorem E1(T:Txt P w K mg A):Ok P w K mg base 3 A.xj ["piece","place"] (EK A):=by
 refine T.xy.ok u4 (fun vs H Q E h=>?_) (fun cdv A' outer s H vs Q E hr h=>?_)
 ·obtain⟨_,_,_,_,rfl,_⟩:=h;rfl
 ·obtain⟨pl,b,place,L,rfl,hH,hw,hl,k⟩:=h;refine⟨_,(ae (bp (i:=2) u4.nd rfl (Or.inl rfl) (aI (K2 T) (hr.mono (by decide)) (by rfl) T.Ei.at_ (aa (pv 0) au)))
   (ae (bg (aO fE (pv 2) (dH (by rfl) T.JU) rfl) (ak (aF (d5 (G0 T) (hr.mono (by decide)) (by rfl) T.pW (aa (el (by rfl) T.Nk) (aa (pv 1) (aa (pv 0) (aa (pv 2) au))))))) aQ)
   (ae (bg (aO fE (pv 2) (dH (by rfl) T.Fl) rfl) (ak (aF (d5 (rA T) (hr.mono (by decide)) (by rfl) T.pW (aa (pv 2) (aa (pv 1) (aa (pv 0) au)))))) aQ)
   (ak (aF (d5 (G0 T) (hr.mono (by decide)) (by rfl) T.pW (aa (eV (aO ux (dc HD (by rfl) T.gi boot_len (aa (pv 2) au)) (bZ (by rfl) T.Dd) (bb _)) (el (by rfl) T.tF) (el (by rfl) T.Lw)) (aa (pv 1) (aa (pv 0) (aa (pv 2) au)))))))))),?_⟩
  refine⟨_,rfl,pl,b,_,rfl,hH,aA,hw,hl,fun H hH=>?_⟩;have mkd:∀(f:Str)(wd:Str)(vs:List V)(H1:Hp),Holds H1 ((pl,.lst (iv b))::L)->vs=[.str f,.int (place:Int),.ref pl,.str wd]->f=formOf (Ax.wordTok b)->(∀w,Ax.wordTok b=.name w->wd=sb w)->(∀k,Ax.wordTok b=.kind k->wd=sb (Ax.kindText k))->
    ∀x dx,H1 x=none->H1 dx=none->dx≠x->v9 A (.ref x::vs) (upd (upd H1 dx (.own x)) x (.ins A.eD dx [])) (fun v H2=>v=.bA/\Q (.ref x) H2) E0:=by
   intro f wd vs H1 hH1 e ef en ek x dx n m ne;subst e;refine⟨x,dx,pl,f,wd,place,_,rfl,hH1.made n m ne,fun H' h'=>⟨rfl,?_⟩⟩;exact k H' ⟨x,dx,pl,f,wd,place,b⟩ ⟨rfl,ef,en,ek,rfl⟩ h'
  refine⟨_,rfl,A.yf,lE,rfl,.inr (T.Cc.sq _),rfl,by rw[G6];exact Ea _,_,rfl,?_⟩;show if eF (V.str (sb b)) lE=true then _ else _
  rw[G6,Bk,M7];refine js (fun h1=>?_) fun h1=>?_
  ·obtain⟨kk,hk⟩:=dY.mp h1;walk_at "rd";refine mkd _ _ _ _ hH rfl ?_ ?_ ?_
   ·rw[sO hk];rfl
   ·intro w e;rw[sO hk]at e;cases e
   ·intro j e;rw[sO hk]at e;cases e;rw[xh hk]
  ·have hk:(Ax.kinds.findIdx? fun x=>x==b)=none:=by
    cases e:Ax.kinds.findIdx? fun x=>x==b with
    |none=>rfl
    |some j=>rw[e]at h1;exact absurd rfl h1
   refine⟨_,rfl,A.pF,ki,rfl,.inr (T.EH.sq _),rfl,by rw[Hl];exact Ea _,_,rfl,?_⟩;show if eF (V.str (sb b)) ki=true then _ else _
   rw[Hl,Bk,Np];refine js (fun h2=>?_) fun h2=>?_
   ·obtain⟨x,hx⟩:=dY.mp h2;have hxm:=gI hx;have hxe:x.1=b:=eq_of_beq (show(x.1==b)=true from List.find?_some (p:=fun x:Ax.Bytes×Ax.Tok=>x.1==b) hx);walk_at "rd";refine mkd _ _ _ _ hH rfl ?_ ?_ ?_
    ·rw[p9 hk hx,LA x hxm,hxe]
    ·intro w e;rw[p9 hk hx]at e;exact absurd e ((Hk x hxm).1 w)
    ·intro w e;rw[p9 hk hx]at e;exact absurd e ((Hk x hxm).2 w)
   ·have hf:(Ax.fixedWords.find? fun x=>x.1==b)=none:=by
     cases e:Ax.fixedWords.find? fun x=>x.1==b with
     |none=>rfl
     |some j=>rw[e]at h2;exact absurd rfl h2
    have hsl:(sb b).length=b.length:=by show(b.map fun c=>c.toNat).toArray.size=_;simp
    have hs2:(sb b).length<=sizeLine:=by rw[hsl,sizeLine_eq];omega
    refine⟨_,rfl,_,rfl,hs2,_,_,rfl,rfl,_,rfl,?_⟩;refine js (fun h3=>?_) fun h3=>?_
    ·have h3:b.length<=15:=by have:=ab h3;rw[hsl]at this;omega
     walk_at "rd";refine mkd _ _ _ _ hH rfl ?_ ?_ ?_
     ·rw[l5 hk hf,ai h3];rfl
     ·intro w e;rw[l5 hk hf,ai h3]at e;cases e;rfl
     ·intro w e;rw[l5 hk hf,ai h3]at e;cases e
    ·have h3:¬b.length<=15:=fun q=>h3 (ao (by rw[hsl];omega));walk_at "rd";refine mkd _ _ _ _ hH rfl ?_ ?_ ?_
     ·rw[l5 hk hf,af h3];rfl
     ·intro w e;rw[l5 hk hf,af h3]at e;cases e
     ·intro w e;rw[l5 hk hf,af h3]at e;cases e
def Ic(A:Ad):Sp:=fun vs H Q _=>∃(pl:Addr)(c:UInt8)(r:Ax.Bytes)(place:Nat)(L:List Cell),vs=[.ref pl,.int (place:Int)]/\Holds H ((pl,.lst (iv (c::r)))::L)/\p7 c r/\(c::r).length<=2000/\
 ∀(H':Hp)(d:cf),d.Is (place,ag.tokOf (c::r)) (zG (c::r))->Holds H' (d.c1 A::d.c2::L)->Q (.ref d.a) H'
theorem ID(T:Txt P w K mg A):Ok P w K mg base 4 A.Bs ["piece","place"] (Ic A):=by
 refine T.BH.ok Io (fun vs H Q E h=>?_) (fun cdv A' outer s H vs Q E hr h=>?_)
 ·obtain⟨_,_,_,_,_,rfl,_⟩:=h;rfl
 ·obtain⟨pl,c,r,place,L,rfl,hH,ok,hl,k⟩:=h;have h0:nk (iv (c::r)) 0=some (V.int c.toNat):=Lk (i:=0) rfl;have mkd:∀(f:Str)(pl':Addr)(b:Ax.Bytes)(vs:List V)(H1:Hp),Holds H1 ((pl',.lst (iv b))::L)->vs=[.str f,.int (place:Int),.ref pl',.str ""]->f=formOf (ag.tokOf (c::r))->b=zG (c::r)->(∀w,ag.tokOf (c::r)≠.name w)->(∀k,ag.tokOf (c::r)≠.kind k)->
    ∀x dx,H1 x=none->H1 dx=none->dx≠x->v9 A (.ref x::vs) (upd (upd H1 dx (.own x)) x (.ins A.eD dx [])) (fun v H2=>v=.bA/\Q (.ref x) H2) E0:=by
   intro f pl' b vs H1 hH1 e ef eb en ek x dx n m ne;subst e;refine⟨x,dx,pl',f,"",place,_,rfl,hH1.made n m ne,fun H' h'=>⟨rfl,?_⟩⟩;exact k H' ⟨x,dx,pl',f,"",place,b⟩ ⟨rfl,ef,fun w e=>absurd e (en w),fun w e=>absurd e (ek w),eb⟩ h'
  refine⟨_,(ae (bg (gh (aI (oE T) (hr.mono (by decide)) (by rfl) T.ni.at_ (aa (de cO (pv 0) aV (fun _ _=>rfl)) au))) (ak (aF (d5 (rA T) (hr.mono (by decide)) (by rfl) T.pW (aa (aI (CN T) (hr.mono (by decide)) (by rfl) T.vy.at_ (aa (pv 0) au)) (aa (pv 1) (aa (aI (zK T) (hr.mono (by decide)) (by rfl) T.rN.at_ (aa (pv 0) au)) au)))))) aQ)
   (ae (bg (gh (aI (mX T) (hr.mono (by decide)) (by rfl) T.kD.at_ (aa (de cO (pv 0) aV (fun _ _=>rfl)) au))) (ak (aF (aI (E1 T) (hr.mono (by decide)) (by rfl) T.xy.at_ (aa (pv 0) (aa (pv 1) au))))) aQ)
   (ae (bg (aO cH (dc cV (by rfl) T.gi boot_len (aa (pv 0) au)) aV (bb _)) (ak (aF (d5 (rA T) (hr.mono (by decide)) (by rfl) T.pW (aa (sZ (gx hr) (dH (by rfl) T.JT) (DS vD (by rfl) T.GQ boot_tuple (aa (pv 0) au)) (fun _ _=>rfl)) (aa (pv 1) (aa (pv 0) au)))))) aQ)
   (ak (aF (d5 (rA T) (hr.mono (by decide)) (by rfl) T.pW (aa (OG (dH (by rfl) T.Ni) (de cO (pv 0) aV (fun _ _=>rfl)) (el (by rfl) T.Lw) ⟨rfl,rfl,rfl,rfl⟩) (aa (pv 1) (aa (pv 0) au))))))))),?_⟩
  refine⟨_,rfl,_,_,_,_,rfl,rfl,bY.of (hH.get 0 rfl),h0,c,rfl,_,rfl,?_⟩;refine js (fun h1=>?_) fun h1=>?_
  ·have hall:=ok.digits h1;have eT:ag.tokOf (c::r)=if Ax.number (c::r)<2^127 then .num (Ax.number (c::r))else .bad:=by rw[mH,ai h1]
   have eP:zG (c::r)=strip (c::r):=by rw[rg,ai h1]
   refine⟨_,rfl,pl,c::r,rfl,hH.get 0 rfl,hall,_,rfl,_,rfl,pl,c::r,_,rfl,hH,aA,mw _,fun p' H' h'=>?_⟩;refine mkd _ p' (strip (c::r)) _ _ (h'.sub (List.Sublist.cons_cons _ (aW _ _))) rfl ?_ eP.symm ?_ ?_
   ·rw[eT];split<;>rfl
   ·intro w e;rw[eT]at e;split at e<;>cases e
   ·intro w e;rw[eT]at e;split at e<;>cases e
  ·refine⟨_,rfl,_,_,_,_,rfl,rfl,bY.of (hH.get 0 rfl),h0,c,rfl,_,rfl,?_⟩;have h1':=(b5 _).mp h1;have eP:zG (c::r)=c::r:=by rw[rg,af h1]
   refine js (fun h2=>?_) fun h2=>?_
   ·have eT:ag.tokOf (c::r)=Ax.wordTok (c::r):=by rw[mH,af h1,ai h2]
    refine⟨_,rfl,_,rfl,pl,c::r,place,L,rfl,hH,ok.word h1' h2,hl,fun H' d hd h'=>k H' d ?_ h'⟩;rw[eT,eP];exact hd
   ·have h2':=(b5 _).mp h2;refine⟨_,rfl,_,_,rfl,.inl (bY.of (hH.get 0 rfl)),rfl,_,rfl,?_⟩
    rcases ok.sign h1' h2' with rfl|⟨d,tk,rfl,htk⟩
    ·rw[dI];refine bV (show ¬decide (((iv [c]).length:Int)=2)=true from fun q=>absurd (ab q) (by rw[dC];show ¬((1:Nat):Int)=2;decide)) ?_;have eT:ag.tokOf [c]=Ax.sign1 c:=by rw[mH,af h1,af h2]
     refine⟨_,mZ,rfl,T.Nb,_,rfl,_,_,_,_,rfl,rfl,bY.of (hH.get 0 rfl),h0,Sum.inl (c.toNat:Int),rfl,_,rfl,_,rfl,?_⟩;refine mkd (formOf (Ax.sign1 c)) pl [c] _ _ hH ?_ (by rw[eT]) eP.symm ?_ ?_
     ·rw[<-Qm];rfl
     ·intro w;rw[eT];exact(Gb c).1 w
     ·intro w;rw[eT];exact(Gb c).2 w
    ·rw[dI];refine cn (ao (by rw[dC];rfl)) ?_;have eT:ag.tokOf [c,d]=tk:=by rw[mH,af h1,af h2];show(Ax.sign2 c d).getD .bad=tk;rw[htk];rfl
     refine⟨_,rfl,_,_,rfl,.inl ⟨bY.of (hH.get 0 rfl),?_⟩⟩;walk_at "new";have hv:=DU c d;rw[htk]at hv;have hT:H np=some (.tup (([Sum.inl (c.toNat:Int),Sum.inl (d.toNat:Int)]:List Key).map kV)):=hH.get 0 rfl;refine⟨_,V.str (formOf tk),rfl,.inr ⟨jc,[Sum.inl (c.toNat:Int),Sum.inl (d.toNat:Int)],np,T.JL,rfl,hT,hv.symm⟩,_,rfl,_,rfl,?_⟩;have hno:=Ot htk;refine mkd (formOf tk) pl [c,d] _ _ hH.tl rfl (by rw[eT]) eP.symm (by rw[eT];exact hno.1) (by rw[eT];exact hno.2)
def tY:Ax.What->Ax.Bytes
 | .size=>Ax.ascii "size"| .in_=>Ax.ascii "in"| .let_=>Ax.ascii "let"| .out=>Ax.ascii "out"
def cT:Ax.Tok->Ax.Bytes
 | .num n=>Ax.decimal n| .name w=>w| .kind k=>Ax.kindText k| .line x=>tY x| .if_=>Ax.ascii "if"| .red f=>Ax.redText f| .fn1 o=>Ax.unText o| .fn2 o=>Ax.signText o| .op o=>Ax.signText o
 | .minus=>Ax.ascii "-"| .tilde=>Ax.ascii "~"| .lt=>Ax.ascii "<"| .openB=>Ax.ascii "["| .closeB=>Ax.ascii "]"| .openP=>Ax.ascii "("| .closeP=>Ax.ascii ")"| .comma=>Ax.ascii ","| .colon=>Ax.ascii ":"| .semi=>Ax.ascii ";"| .is=>Ax.ascii "="| .bad=>[]
theorem Eh:∀n,48<=n->n<=57->Ax.decimal (n - 48)=[UInt8.ofNat n]:=by
 intro n h1 h2;have h:∀k,k<10->Ax.decimal k=[UInt8.ofNat (k+48)]:=by decide +kernel
 have:=h (n - 48) (by omega);rw[show n - 48+48=n by omega]at this;exact this
theorem uO{c:UInt8}(h:Ax.isDigit c=true):48<=c.toNat/\c.toNat<=57:=by
 unfold Ax.isDigit at h;rw[cG]at h;exact⟨ab h.1,ab h.2⟩
theorem II(s:Ax.Bytes)(c:UInt8):Ax.number (s++[c])=10*Ax.number s+(c.toNat - 48):=by
 unfold Ax.number;rw[List.foldl_append];rfl
theorem Ht(n d:Nat)(hn:0<n)(hd:d<10):Ax.decimal (10*n+d)=Ax.decimal n++Ax.decimal d:=by
 unfold Ax.decimal;rw[<-bC,Nat.toDigits_append_toDigits (by decide) hn hd]
theorem K9:∀(s:Ax.Bytes)(c:UInt8),c≠48->Ax.isDigit c=true->0<Ax.number (c::s):=by
 intro s c hc hd;have hb:=uO hd;have h0:0<c.toNat - 48:=by
  have:c.toNat≠48:=fun q=>hc (jv q);omega
 have:∀(l:Ax.Bytes)(n:Nat),0<n->0<l.foldl (fun(n:Nat)(c:UInt8)=>10*n+(c.toNat - 48)) n:=by
  intro l
  induction l with
  |nil=>intro n h;exact h
  |cons d l ih=>intro n h;rw[eK];exact ih _ (by omega)
 unfold Ax.number;rw[eK];exact this s _ (by omega)
theorem tN:∀(n:Nat)(s:Ax.Bytes),s.length=n+1->(∀c∈s,Ax.isDigit c=true)->(n=0\/s.head? ≠some 48)->Ax.decimal (Ax.number s)=s:=by
 intro n
 induction n with
 |zero=>
  intro s hl hd _
  match s,hl with
  |[c],_=>
   have hb:=uO (hd c aA);have:=Eh c.toNat hb.1 hb.2;rw[fB]at this;unfold Ax.number;rw[eK,List.foldl_nil,Nat.mul_zero,mv];exact this
 |succ n ih=>
  intro s hl hd hh;have hne:s≠[]:=by intro q;rw[q]at hl;cases hl
  obtain⟨i,c,rfl⟩:∃i c,s=i++[c]:=⟨s.dropLast,s.getLast hne,(List.dropLast_concat_getLast hne).symm⟩;rw[aq,aX]at hl;have hi:i.length=n+1:=by omega
  match i,hi with
  |e::r,hi=>
   have he:e≠48:=by
    rcases hh with hh|hh
    ·cases hh
    ·intro q;exact hh (by rw[q];rfl)
   have hb:=uO (hd c (by simp));have hpos:=K9 r e he (hd e (by simp));rw[II,Ht _ _ hpos (by omega),ih (e::r) hi (fun x hx=>hd x (cM _ hx)) (.inr (by intro q;exact he (bG q)))];have:=Eh c.toNat hb.1 hb.2;rw[fB]at this;rw[this]
theorem vU:∀s:Ax.Bytes,s≠[]->(∀c∈s,Ax.isDigit c=true)->strip s=Ax.decimal (Ax.number s)
 |[],h,_=>absurd rfl h
 |[c],_,hd=>by rw[tN 0 [c] rfl hd (.inl rfl)];rfl
 |c::d::r,_,hd=>by
  by_cases h:c=48
  ·have e:Ax.number (c::d::r)=Ax.number (d::r):=by
    subst h;unfold Ax.number;rw[eK];rfl
   rw[e,<-vU (d::r) (by simp) (fun x hx=>hd x (ah _ hx))];simp only[strip,ai h]
  ·rw[tN (r.length+1) (c::d::r) rfl hd (.inr (by intro q;exact h (bG q)))];simp only[strip,af h]
theorem Pa:∀x∈Ax.fixedWords,cT x.2=x.1:=by decide +kernel
theorem Ga:∀n,n<256->(match Ax.sign1 (UInt8.ofNat n)with| .bad=>true|t=>decide (cT t=[UInt8.ofNat n]))=true:=by decide +kernel
theorem Ou{c:UInt8}(h:Ax.sign1 c≠.bad):cT (Ax.sign1 c)=[c]:=by
 have q:=Ga c.toNat (kh c);rw[fB]at q;split at q
 ·rename_i e;exact absurd e h
 ·exact ab q
theorem Oq{c d:UInt8}{tk:Ax.Tok}(htk:Ax.sign2 c d=some tk):cT tk=[c,d]:=by
 unfold Ax.sign2 at htk;split at htk
 ·rename_i h;cases htk;rw[h.1,h.2];decide
 ·split at htk
  ·rename_i h;cases htk;rw[h.1,h.2];decide
  ·split at htk
   ·rename_i h;cases htk;rw[h.1,h.2];decide
   ·split at htk
    ·rename_i h;cases htk;rw[h.1,h.2];decide
    ·cases htk
theorem OD{c:UInt8}{r:Ax.Bytes}(ok:p7 c r)(h:ag.tokOf (c::r)≠.bad):zG (c::r)=cT (ag.tokOf (c::r)):=by
 rw[mH]at h⊢;rw[rg];by_cases h1:Ax.isDigit c=true
 ·rw[ai h1]at h⊢;rw[ai h1];by_cases h2:Ax.number (c::r)<2^127
  ·rw[ai h2];exact vU _ (by simp) (ok.digits h1)
  ·rw[af h2]at h;exact absurd rfl h
 ·have h1':=(b5 _).mp h1;rw[af h1]at h⊢;rw[af h1];by_cases h2:Ax.wordByte c=true
  ·rw[ai h2]at h⊢;cases hk:Ax.kinds.findIdx? fun x=>x==(c::r)with
   |some k=>rw[sO hk];exact(xh hk).symm
   |none=>
    cases hf:Ax.fixedWords.find? fun x=>x.1==(c::r)with
    |some x=>
     rw[p9 hk hf,Pa x (gI hf)];exact(eq_of_beq (show(x.1==(c::r))=true from List.find?_some (p:=fun x:Ax.Bytes×Ax.Tok=>x.1==(c::r)) hf)).symm
    |none=>
     rw[l5 hk hf]at h⊢;by_cases h3:(c::r).length<=15
     ·rw[ai h3];rfl
     ·rw[af h3]at h;exact absurd rfl h
  ·rw[af h2]at h⊢
   rcases ok.sign h1' ((b5 _).mp h2)with rfl|⟨d,tk,rfl,htk⟩
   ·exact(Ou h).symm
   ·show[c,d]=cT ((Ax.sign2 c d).getD .bad);rw[htk];exact(Oq htk).symm
structure cf.At(t:cf)(x:Ax.Placed):Prop where
 place:t.place=x.1
 cZ:t.cZ=formOf x.2
 name:∀w,x.2=.name w->t.word=sb w
 kind:∀k,x.2=.kind k->t.word=sb (Ax.kindText k)
 pr:x.2≠.bad->t.pr=cT x.2
abbrev Toks(ts:List cf)(xs:List Ax.Placed):Prop:=Paired cf.At ts xs
theorem Toks.append{ts us:List cf}{xs ys:List Ax.Placed}(a:Toks ts xs)(b:Toks us ys):Toks (ts++us) (xs++ys):=by
 induction a with
 |nil=>exact b
 |cons r t ih=>exact .cons r ih
def wt(ts:List cf):Nat:=(ts.map fun d=>d.pr.length).sum
theorem oM(a b:List cf):wt (a++b)=wt a+wt b:=by unfold wt;rw[bC,List.sum_append]
theorem FT(d:cf):wt [d]=d.pr.length:=by unfold wt;simp
theorem DI:∀b:Ax.Bytes,(strip b).length<=b.length
 |[]=>aD _
 |[_]=>aD _
 |c::d::r=>by
  have ih:=DI (d::r);show(if c=48 then strip (d::r)else c::d::r).length<=_;by_cases h:c=48
  ·rw[ai h,ay];omega
  ·rw[af h];exact aD _
theorem OE(b:Ax.Bytes):(zG b).length<=b.length:=by
 cases b with
 |nil=>exact aD _
 |cons c r=>
  rw[rg];split
  ·exact DI _
  ·exact aD _
def cA(A:Ad)(ts:List cf):List Cell:=ts.flatMap (cf.cells A)
def F5(A:Ad):Sp:=fun vs H Q _=>∃(a:Addr)(t:Ax.Bytes)(L:List Cell),vs=[.ref a]/\Holds H L/\(a,.lst (iv t))∈L/\t.length<=1024/\
 ∀(H':Hp)(l:Addr)(ts:List cf),Toks ts (Ax.tokens t)->ts.length<=1024->wt ts<=1024->Holds H' ((l,.lst (ts.map fun d=>V.ref d.a))::(cA A ts++L))->Q (.ref l) H'
theorem Pk(c:UInt8):eF (.int (c.toNat:Int)) oP=Ax.isBlank c:=by
 have h:∀n,n<256->eF (.int ((UInt8.ofNat n).toNat:Int)) oP=Ax.isBlank (UInt8.ofNat n):=by decide +kernel
 have:=h c.toNat (kh c);rw[fB]at this;exact this
theorem GD(T:Txt P w K mg A):Ok P w K mg base 5 A.y6 ["text"] (F5 A):=by
 refine T.zb.ok iH (fun vs H Q E h=>?_) (fun cdv A' outer s H vs Q E hr h=>?_)
 ·obtain⟨_,_,_,rfl,_⟩:=h;rfl
 ·obtain⟨a,t,L,rfl,hH,hm,hl,k⟩:=h;refine⟨_,(ae (bp (i:=1) iH.nd rfl (Or.inl rfl) (cX au))
   (ae (bp (i:=2) iH.nd rfl (Or.inl rfl) aV)
   (ae (nS PassesOwn.never (aO rn (pv 2) (dc cV (by rfl) T.gi boot_len (aa (pv 0) au)) (bb _)) (ak (bg (aO fE (de cO (pv 0) (pv 2) (fun _ _=>rfl)) (dH (by rfl) T.O9) rfl) (ak (wL (i:=2) iH.nd rfl (Or.inl rfl) aV wZ)) (ae (bp (i:=3) iH.nd rfl (Or.inl rfl) (aI (GF T) (hr.mono (by decide)) (by rfl) T.zc.at_ (aa (pv 0) (aa (pv 2) au))))
   (ae (cN (hZ bj bO bN e7 (pv 1) (aa (aI (ID T) (hr.mono (by decide)) (by rfl) T.BH.at_ (aa (nV pV (pv 0) (km (pv 2)) (km (pv 3))) (aa (pv 2) au))) au)))
   (ak (bp (i:=2) iH.nd rfl (Or.inl rfl) (pv 3))))))))
   (ak (aF (pv 1)))))),?_⟩
  walk_at "nl";obtain⟨l,rfl⟩:∃l,l=np:=⟨_,rfl⟩;refine⟨fun m σ H'=>∃(p:Nat)(ts:List cf)(xs:List Ax.Placed)(v:Option V),m=t.length - p/\p<=t.length/\ts.length<=p/\wt ts<=p/\Toks ts xs/\Ax.tokens t=xs++ag.a7 t p/\σ=[some (.ref a),some (.ref l),some (.int (p:Int)),v]/\Holds H' ((l,.lst (ts.map fun d=>V.ref d.a))::(cA A ts++L)),
   ⟨_,0,[],[],none,rfl,cE _,aD _,aD _,.nil,rfl,rfl,hH⟩,?_⟩
  rintro m σ H' ⟨p,ts,xs,v,rfl,hp,hts,hwt,tk,et,rfl,hH'⟩;have hm':∀{H1:Hp}{M:List Cell},Holds H1 (M++(cA A ts++L))->H1 a=some (.lst (iv t)):=fun h1=>h1.mem (aU _ (aU _ hm));have ha:H' a=some (.lst (iv t)):=hm' (M:=[(l,.lst (ts.map fun d:cf=>V.ref d.a))]) hH';walk_at "rd";walk_at "len";walk_at "rd";refine js (fun h1=>?_) fun h1=>?_
  ·have h1:p<t.length:=by
    have:=ab h1;rw[dC]at this;omega
   obtain⟨c,hc⟩:∃c,t[p]? =some c:=⟨_,aN h1⟩;refine⟨fun σ' H1=>∃(p':Nat)(ts:List cf)(xs:List Ax.Placed)(v:Option V),p<p'/\p'<=t.length/\ts.length<=p'/\wt ts<=p'/\Toks ts xs/\Ax.tokens t=xs++ag.a7 t p'/\σ'=[some (.ref a),some (.ref l),some (.int (p':Int)),v]/\Holds H1 ((l,.lst (ts.map fun d=>V.ref d.a))::(cA A ts++L)),?_,?_⟩
   ·rintro σ' H1 ⟨p',ts',xs',v',h1',h2',h3',h3w,h4',h5',rfl,h6'⟩;exact⟨_,(by omega),p',ts',xs',v',rfl,h2',h3',h3w,h4',h5',rfl,h6'⟩
   ·refine⟨_,rfl,_,rfl,_,_,_,_,rfl,rfl,bY.of ha,Lk hc,A.Ag,oP,rfl,.inr (T.Of.sq _),rfl,rfl,_,rfl,?_⟩;show if eF (V.int (c.toNat:Int)) oP=true then _ else _
    rw[Pk];refine js (fun h2=>?_) fun h2=>?_
    ·refine⟨_,rfl,_,_,rfl,rfl,p+1,ts,xs,v,by omega,by omega,by omega,by omega,tk,?_,rfl,hH'⟩;rw[et,ag.yF hc h2]
    ·have hb:=(b5 _).mp h2;have hg:=ag.DE hc;refine⟨_,rfl,_,rfl,a,t,p,_,rfl,hH',ah _ (aU _ hm),h1,fun H1 hH1=>?_⟩;refine⟨_,rfl,ty_list (hH1.get 0 rfl),_,rfl,_,rfl,_,rfl,_,rfl,_,rfl,_,_,rfl,bY.of (hm' (M:=[(l,.lst (ts.map fun d:cf=>V.ref d.a))]) hH1),?_⟩;walk_at "new";rw[Sj _ _ _ hg.2]at hH;obtain⟨r,er,ok⟩:=Gv hc;rw[er]at hH;refine⟨_,rfl,np,c,r,p,_,rfl,hH,ok,?_,fun H2 d hd hH2=>?_⟩
     ·have:(ag.ej t p (ag.gG t p)).length<=t.length:=by
       unfold ag.ej;rw[cJ,aM];omega
      rw[er]at this;omega
     ·dsimp only[qf];refine jC hH2 2 rfl (by rw[aP,sizeLine_eq];omega) fun H3 hH3=>?_;refine⟨_,rfl,ag.gG t p,ts++[d],xs++[(p,ag.tokOf (c::r))],_,hg.1,hg.2,?_,?_,?_,?_,rfl,?_⟩
      ·rw[aq,aX];omega
      ·have q1:(ag.ej t p (ag.gG t p)).length<=ag.gG t p - p:=by unfold ag.ej;rw[cJ];omega
       have q2:=OE (c::r);rw[er]at q1;rw[oM,FT,hd.pr];omega
      ·exact tk.append (.cons ⟨hd.place,hd.cZ,hd.name,hd.kind,fun q=>by rw[hd.pr];exact OD ok q⟩ .nil)
      ·rw[et,ag.DF hc hb,er,aw];rfl
      ·refine hH3.perm ?_;show List.Perm (d.c1 A::d.c2::(l,HO.lst (ts.map (fun d=>V.ref d.a)++[V.ref d.a]))::(cA A ts++L)) ((l,.lst ((ts++[d]).map fun d=>V.ref d.a))::(cA A (ts++[d])++L));rw[bC,show cA A (ts++[d])=cA A ts++[d.c1 A,d.c2]from by unfold cA;rw[cq];rfl];refine List.Perm.trans (bh (l₁:=[d.c1 A,d.c2])) (List.Perm.cons _ ?_);rw[aw];exact(List.perm_append_comm (l₁:=[d.c1 A,d.c2]) (l₂:=cA A ts)).append_right L |>.trans (by rw[aw])
  ·have e:p=t.length:=by
    have:¬((p:Int)<((iv t).length:Nat)):=fun q=>h1 (ao q);rw[dC]at this;omega
   walk_at "rd";refine k _ _ ts ?_ (by omega) (by omega) hH';rw[et,ag.vS (by omega),aK];exact tk
def zeros:List V:=List.replicate 6 (.int 0)
def To(A:Ad):Sp:=fun vs H Q _=>∃(x dx:Addr)(closer:Str)(gj most:Int)(F:List Cell),vs=[.ref x,.str closer,.int gj,.int most]/\Holds H ((x,.ins A.fe dx [])::F)/\
 ∀(H':Hp)(rl:Addr),Holds H' ((rl,.lst [])::fK.c A ⟨x,dx,closer,gj,most,0,false,.bA,0,false,rl,A.cu,0⟩::F)->Q .bA H'
theorem qE(T:Txt P w K mg A):lX P w K mg base 1 A.fe [] (To A):=by
 refine T.QU.ok yj (fun vs H Q E h=>?_) (fun f cdv A' outer s H vs Q E hr h=>?_) [] (by simp)
 ·walk_at "vl"
 ·obtain⟨x,dx,closer,gj,most,F,rfl,hH,k⟩:=h;refine⟨_,(ae (bu (pv 0) (pv 1) rfl)
   (ae (bu (pv 0) (pv 2) rfl)
   (ae (bu (pv 0) (pv 3) rfl)
   (ae (bu (pv 0) aV rfl)
   (ae (bu (pv 0) jD rfl)
   (ae (bu (pv 0) dO rfl)
   (ae (bu (pv 0) aV rfl)
   (ae (bu (pv 0) jD rfl)
   (ae (bu (pv 0) (cX au) rfl)
   (ae (bu (pv 0) (dH (by rfl) T.og) rfl)
   (ak (bu (pv 0) aV rfl)))))))))))),?_⟩
  walk_at "rd";walk_at "st";walk_at "rd";walk_at "st";walk_at "rd";walk_at "st";walk_at "rd";walk_at "st";walk_at "rd";walk_at "st";walk_at "rd";walk_at "st";walk_at "rd";walk_at "st";walk_at "rd";walk_at "st";walk_at "nl";walk_at "rd";walk_at "st";walk_at "rd";walk_at "st";walk_at "rd";walk_at "st";exact k _ _ hH
def Tn(A:Ad):Sp:=fun vs H Q _=>∃(x dx:Addr)(F:List Cell),vs=[.ref x]/\Holds H ((x,.ins A.fU dx [])::F)/\
 ∀(H':Hp)(dl fl:Addr),Holds H' ((fl,.lst [])::(dl,.lst [])::d8.c A ⟨x,dx,"line",dl,.bA,fl,0,0,""⟩::F)->Q .bA H'
theorem MX(T:Txt P w K mg A):lX P w K mg base 1 A.fU [] (Tn A):=by
 refine T.O3.ok wg (fun vs H Q E h=>?_) (fun f cdv A' outer s H vs Q E hr h=>?_) [] (by simp)
 ·walk_at "vl"
 ·obtain⟨x,dx,F,rfl,hH,k⟩:=h;refine⟨_,(ae (bu (pv 0) bF rfl)
   (ae (bu (pv 0) (cX au) rfl)
   (ae (bu (pv 0) dO rfl)
   (ae (bu (pv 0) (cX au) rfl)
   (ae (bu (pv 0) aV rfl)
   (ae (bu (pv 0) aV rfl)
   (ak (bu (pv 0) bF rfl)))))))),?_⟩
  walk_at "rd";walk_at "st";walk_at "nl";walk_at "rd";walk_at "st";walk_at "rd";walk_at "st";walk_at "nl";walk_at "rd";walk_at "st";walk_at "rd";walk_at "st";walk_at "rd";walk_at "st";walk_at "rd";walk_at "st";exact k _ _ _ hH
def F8(A:Ad):Sp:=fun vs H Q _=>∃(x dx:Addr)(pu nm:Str)(pl ct:Int)(F:List Cell),vs=[.ref x,.str pu,.str nm,.int pl,.int ct]/\Holds H ((x,.ins A.d9 dx [])::F)/\
 ∀H':Hp,Holds H' (cx.c A ⟨x,dx,pu,nm,pl,ct⟩::F)->Q .bA H'
theorem yV(T:Txt P w K mg A):∀dvs∈[[],[V.int 0]],lX P w K mg base 1 A.d9 dvs (F8 A):=by
 refine T.D5.ok vH (fun vs H Q E h=>?_) (fun f cdv A' outer s H vs Q E hr h=>?_)
 ·walk_at "vl"
 ·obtain⟨x,dx,pu,nm,pl,ct,F,rfl,hH,k⟩:=h;refine⟨_,(ae (bu (pv 0) (pv 1) rfl)
   (ae (bu (pv 0) (pv 2) rfl)
   (ae (bu (pv 0) (pv 3) rfl)
   (ak (bu (pv 0) (pv 4) rfl))))),?_⟩
  walk_at "rd";walk_at "st";walk_at "rd";walk_at "st";walk_at "rd";walk_at "st";walk_at "rd";walk_at "st";exact k _ hH
theorem Lb(T:Txt P w K mg A):lX P w K mg base 1 A.d9 [] (F8 A):=yV T _ (by simp)
theorem IX(T:Txt P w K mg A):lX P w K mg base 1 A.d9 [V.int 0] (F8 A):=yV T _ (by simp)
def Ik(A:Ad):Sp:=fun vs H Q _=>∃(r:d8)(ds:List V)(F:List Cell),vs=[.ref r.a]/\Holds H (r.c A::(r.dl,.lst ds)::F)/\ds.length<=100000/\∀H',Holds H' (r.c A::(r.dl,.lst (ds++[r.cur]))::F)->Q (.str "line") H'
theorem yR(T:Txt P w K mg A):Ok P w K mg base 1 A.Bx ["reader"] (Ik A):=by
 refine T.uQ.ok Ir (fun vs H Q E h=>?_) (fun cdv A' outer s H vs Q E hr h=>?_)
 ·walk_at "vl"
 ·obtain⟨r,ds,F,rfl,hH,hz,k⟩:=h;refine⟨_,(ae (cN (hZ bj bO bN e7 (aC (pv 0) rfl) (aa (aC (pv 0) rfl) au)))
   (ak (aF bF))),?_⟩
  walk_at "unf";walk_at "rd";refine⟨ty_list (hH.get 1 rfl),?_⟩;walk_at "rd";dsimp only[qf];exact jC hH 1 rfl (by rw[sizeLine_eq];omega) fun H' hH'=>k _ hH'
def Aq(A:Ad):Sp:=fun vs H Q _=>∃(r:d8)(l:k8)(t:cf)(ms:List V)(pu:Str)(F:List Cell),vs=[.ref r.a,.str pu,.ref t.a]/\r.cur=.ref l.a/\Holds H (r.c A::l.c A::(l.ml,.lst ms)::t.c1 A::F)/\ms.length<=100000/\
 ∀H'(x dx:Addr),Holds H' (cx.c A ⟨x,dx,pu,t.word,t.place,0⟩::r.c A::l.c A::(l.ml,.lst (ms++[.ref x]))::t.c1 A::F)->Q .bA H'
theorem uz(T:Txt P w K mg A):Ok P w K mg base 3 A.Ed ["reader","purpose","token"] (Aq A):=by
 refine T.rQ.ok KN (fun vs H Q E h=>?_) (fun cdv A' outer s H vs Q E hr h=>?_)
 ·walk_at "vl"
 ·obtain⟨r,l,t,ms,pu,F,rfl,hr0,hH,hz,k⟩:=h;refine⟨_,(ak (cN (hZ bj bO bN e7 (aC (aC (pv 0) rfl) rfl) (aa (d5 (IX T) (hr.mono (by decide)) (by rfl) T.D1 (aa (pv 1) (aa (aC (pv 2) rfl) (aa (aC (pv 2) rfl) au)))) au)))),?_⟩;obtain⟨ra,rdx,st,dl,cur,fl,ne,ax,fn⟩:=r;dsimp only at hr0;subst hr0;walk_at "unf";walk_at "rd";refine⟨ty_list (hH.get 2 rfl),?_⟩;walk_at "rd";intro x dx n m e;refine⟨x,dx,_,_,_,_,_,rfl,hH.made n m e,fun H' hH'=>⟨rfl,?_⟩⟩;dsimp only[qf];exact jC hH' 3 rfl (by rw[sizeLine_eq];omega) fun H2 hH2=>k _ _ _ hH2
def Cp(A:Ad):Sp:=fun vs H Q _=>∃(f:fK)(F:List Cell),vs=[.ref f.a]/\Holds H (f.c A::F)/\∀H'(rl:Addr),Holds H' ((rl,.lst zeros)::fK.c A {f with begun:=f.begun+1,compared:=false,rl:=rl}::F)->Q .bA H'
theorem n8(T:Txt P w K mg A):Ok P w K mg base 1 A.vq ["frame"] (Cp A):=by
 refine T.ll.ok Cu (fun vs H Q E h=>?_) (fun cdv A' outer s H vs Q E hr h=>?_)
 ·walk_at "vl"
 ·obtain⟨f,F,rfl,hH,k⟩:=h;refine⟨_,(ae (ij (pv 0) aV qI)
   (ae (bu (pv 0) jD rfl)
   (ak (bu (pv 0) (fg MO (cX (aa aV au)) (bZ (by rfl) T.zW)) rfl)))),?_⟩
  walk_at "unf";walk_at "rd";walk_at "aug";walk_at "rd";walk_at "st";walk_at "rd";walk_at "nl";refine⟨_,_,_,rfl,rfl,hH.get 0 rfl,by decide,by decide,by with_unfolding_all exact ab rfl,?_⟩;walk_at "new";walk_at "rd";walk_at "st";exact k _ _ (hH.sub (List.Sublist.cons_cons _ (aW _ _)))
def Jy(A:Ad):Sp:=fun vs H Q _=>∃(r:d8)(f:fK)(fs:List V)(F:List Cell),vs=[.ref r.a,.ref f.a]/\Holds H (r.c A::(r.fl,.lst fs)::f.c A::F)/\fs.length<=100000/\
 ∀H'(rl:Addr),Holds H' ((rl,.lst zeros)::fK.c A {f with begun:=f.begun+1,compared:=false,rl:=rl}::d8.c A {r with nested:=r.nested+1}::(r.fl,.lst (fs++[.ref f.a]))::F)->Q .bA H'
theorem xZ(T:Txt P w K mg A):Ok P w K mg base 2 A.Nr ["reader","frame"] (Jy A):=by
 refine T.xB.ok Qq (fun vs H Q E h=>?_) (fun cdv A' outer s H vs Q E hr h=>?_)
 ·walk_at "vl"
 ·obtain⟨r,f,fs,F,rfl,hH,hz,k⟩:=h;refine⟨_,(ae (ij (pv 0) aV qI)
   (ae (cN (hZ bj bO bN e7 (aC (pv 0) rfl) (aa (pv 1) au)))
   (ak (cN (aI (n8 T) (hr.mono (by decide)) (by rfl) T.ll.at_ (aa (pv 1) au)))))),?_⟩
  walk_at "unf";walk_at "rd";walk_at "aug";walk_at "rd";refine⟨ty_list (hH.get 1 rfl),?_⟩;walk_at "rd";dsimp only[qf];refine jC hH 1 rfl (by rw[sizeLine_eq];omega) fun H hH=>?_;have hH:=Holds.reorder hH 3 [2,0,1] rfl;walk_at "ro";walk_at "rd";exact⟨f,_,rfl,hH,fun H' rl hH'=>k _ _ hH'⟩
def DL(A:Ad):Sp:=fun vs H Q _=>∃(r:d8)(f:fK)(fs:List V)(F:List Cell),vs=[.ref r.a]/\Holds H (r.c A::(r.fl,.lst (fs++[.ref f.a]))::f.c A::F)/\
 ∀H',Holds H' (d8.c A {r with nested:=r.nested+1}::(r.fl,.lst (fs++[.ref f.a]))::fK.c A {f with bq:=f.bq+1}::F)->Q (.str "value") H'
theorem MR(T:Txt P w K mg A):Ok P w K mg base 1 A.Hn ["reader"] (DL A):=by
 refine T.Hv.ok DN (fun vs H Q E h=>?_) (fun cdv A' outer s H vs Q E hr h=>?_)
 ·walk_at "vl"
 ·obtain⟨r,f,fs,F,rfl,hH,k⟩:=h;refine⟨_,(ae (bp (i:=1) DN.nd rfl (Or.inl rfl) (de cO (aC (pv 0) rfl) (pT mG aV) (fun _ _=>rfl)))
   (ae (ij (pv 1) aV qI)
   (ae (ij (pv 0) aV qI)
   (ak (aF bF))))),?_⟩
  walk_at "unf";walk_at "rd";have hl:=kd fs (V.ref f.a);walk_at "ix";walk_at "rd";walk_at "aug";walk_at "rd";walk_at "aug";exact k _ hH
def Oi(A:Ad):Sp:=fun vs H Q _=>∃(r:d8)(fs:List V)(F:List Cell),vs=[.ref r.a]/\Holds H (r.c A::(r.fl,.lst fs)::F)/\fs.length<=100000/\
 ∀H'(x dx rl:Addr),Holds H' ((rl,.lst zeros)::fK.c A ⟨x,dx,")",1,1,1,true,.bA,0,false,rl,A.cu,0⟩::d8.c A {r with nested:=r.nested+1}::(r.fl,.lst (fs++[.ref x]))::F)->Q (.str "value") H'
theorem OL(T:Txt P w K mg A):Ok P w K mg base 3 A.J0 ["reader"] (Oi A):=by
 refine T.Ka.ok Gg (fun vs H Q E h=>?_) (fun cdv A' outer s H vs Q E hr h=>?_)
 ·walk_at "vl"
 ·obtain⟨r,fs,F,rfl,hH,hz,k⟩:=h;refine⟨_,(ae (bp (i:=1) Gg.nd rfl (Or.inl rfl) (d5 (qE T) (hr.mono (by decide)) (by rfl) T.tq (aa bF (aa aV (aa aV au)))))
   (ae (bu (pv 1) jD rfl)
   (ae (cN (aI (xZ T) (hr.mono (by decide)) (by rfl) T.xB.at_ (aa (pv 0) (aa (pv 1) au))))
   (ak (aF bF))))),?_⟩
  walk_at "mk";refine⟨x,dx,_,_,_,_,rfl,hH,fun H rl hH=>⟨rfl,?_⟩⟩;walk_at "unf";walk_at "rd";walk_at "st";walk_at "rd";have hH:=Holds.reorder hH 4 [2,3,1,0] rfl;walk_at "ro";refine⟨r,⟨x,dx,")",1,1,0,true,.bA,0,false,rl,A.cu,0⟩,fs,_,rfl,hH,hz,fun H rl hH=>?_⟩;exact k _ _ _ _ (hH.sub (.cons_cons _ (.cons_cons _ (.cons_cons _ (.cons_cons _ (aW _ _))))))
def Kw(A:Ad):Sp:=fun vs H Q _=>∃(f:fK)(F:List Cell),vs=[.ref f.a]/\Holds H (f.c A::F)/\
 (if f.compared=true then ∀H',Holds H' (f.c A::F)->Q .bA H' else ∀H'(rl:Addr),Holds H' ((rl,.lst zeros)::fK.c A {f with compared:=true,rl:=rl}::F)->Q (.str "value") H')
theorem K4(T:Txt P w K mg A):Ok P w K mg base 1 A.Ee ["frame"] (Kw A):=by
 refine T.Ek.ok KO (fun vs H Q E h=>?_) (fun cdv A' outer s H vs Q E hr h=>?_)
 ·walk_at "vl"
 ·obtain⟨f,F,rfl,hH,k⟩:=h;refine⟨_,(ae (bg (gh (aC (pv 0) rfl)) (ak (aF dO)) aQ)
   (ae (bu (pv 0) jD rfl)
   (ae (bu (pv 0) (fg MO (cX (aa aV au)) (bZ (by rfl) T.zW)) rfl)
   (ak (aF bF))))),?_⟩
  have hH0:=hH;walk_at "unf";walk_at "rd";by_cases h1:f.compared=true
  ·rw[ai h1]at k;refine cn h1 ?_;walk_at "rd";exact k _ hH0
  ·rw[af h1]at k;refine bV h1 ?_;walk_at "rd";walk_at "st";walk_at "rd";walk_at "nl";refine⟨_,_,_,rfl,rfl,hH.get 0 rfl,by decide,by decide,by with_unfolding_all exact ab rfl,?_⟩;walk_at "new";walk_at "rd";walk_at "st";exact k _ _ (hH.sub (List.Sublist.cons_cons _ (aW _ _)))
def sQ(A:Ad):Sp:=fun vs H Q _=>∃(r:d8)(f:fK)(fs:List V)(row:Addr)(F:List Cell),vs=[.ref r.a,.ref row]/\Holds H (r.c A::(r.fl,.lst (fs++[.ref f.a]))::f.c A::F)/\
 ∀H',Holds H' (d8.c A {r with nested:=r.nested - f.bq}::(r.fl,.lst (fs++[.ref f.a]))::fK.c A {f with oa:=if f.bq=0 then row else A.cu,bq:=0}::F)->Q (.str "behind value") H'
theorem n6(T:Txt P w K mg A):Ok P w K mg base 1 A.vp ["reader","row"] (sQ A):=by
 refine T.lj.ok sS (fun vs H Q E h=>?_) (fun cdv A' outer s H vs Q E hr h=>?_)
 ·walk_at "vl"
 ·obtain⟨r,f,fs,row,F,rfl,hH,k⟩:=h;refine⟨_,(ae (bp (i:=2) sS.nd rfl (Or.inl rfl) (de cO (aC (pv 0) rfl) (pT mG aV) (fun _ _=>rfl)))
   (ae (bu (pv 2) (eV (aO cH (aC (pv 2) rfl) aV (bb _)) (pv 1) (dH (by rfl) T.og)) rfl)
   (ae (ij (pv 0) (aC (pv 2) rfl) gH)
   (ae (bu (pv 2) aV rfl)
   (ak (aF bF)))))),?_⟩
  walk_at "unf";walk_at "rd";have hl:=kd fs (V.ref f.a);walk_at "ix";walk_at "rd";rw[dI];by_cases h1:f.bq=0
  ·rw[ai h1]at k;refine cn (ao h1) ?_;walk_at "rd";walk_at "st";walk_at "rd";walk_at "aug";walk_at "rd";walk_at "st";exact k _ hH
  ·rw[af h1]at k;refine bV (fun q=>h1 (ab q)) ?_;walk_at "rd";walk_at "st";walk_at "rd";walk_at "aug";walk_at "rd";walk_at "st";exact k _ hH
def EO(A:Ad):Sp:=fun vs H Q _=>∃(f:fK)(n:Int)(F:List Cell),vs=[.ref f.a,.int n]/\Holds H (f.c A::F)/\∀H',Holds H' (fK.c A {f with ranges:=n}::F)->Q (.str "value") H'
theorem E4(T:Txt P w K mg A):Ok P w K mg base 1 A.xn ["frame","ranges"] (EO A):=by
 refine T.xD.ok EU (fun vs H Q E h=>?_) (fun cdv A' outer s H vs Q E hr h=>?_)
 ·walk_at "vl"
 ·obtain⟨f,n,F,rfl,hH,k⟩:=h;refine⟨_,(ae (bu (pv 0) (pv 1) rfl)
   (ak (aF bF))),?_⟩
  walk_at "unf";walk_at "rd";walk_at "st";exact k _ hH
def Il(A:Ad):Sp:=fun vs H Q _=>∃(l:k8)(n:Int)(F:List Cell),vs=[.ref l.a,.int n]/\Holds H (l.c A::F)/\∀H',Holds H' (k8.c A {l with rank:=n}::F)->Q (.str "colon") H'
theorem IG(T:Txt P w K mg A):Ok P w K mg base 1 A.By ["line","rank"] (Il A):=by
 refine T.BK.ok Iu (fun vs H Q E h=>?_) (fun cdv A' outer s H vs Q E hr h=>?_)
 ·walk_at "vl"
 ·obtain⟨l,n,F,rfl,hH,k⟩:=h;refine⟨_,(ae (bu (pv 0) (pv 1) rfl)
   (ak (aF bF))),?_⟩
  walk_at "unf";walk_at "rd";walk_at "st";exact k _ hH
def fq(rows:List Int)(lev:Nat)(l n:Int):Int:=if 0<rows.getD lev 0 then rows.getD lev 0 else if(rows.drop (lev+1)).any (· !=0)=false/\l=(lev:Int)then n else 1
def iw(rows:List Int)(lo:Nat):Nat->List Int
 |0=>rows
 |i+1=>(iw rows lo i).set (lo+i) 0
theorem vL(rows:List Int)(lo:Nat):∀i,(iw rows lo i).length=rows.length
 |0=>rfl
 |i+1=>by unfold iw;rw[mD,vL rows lo i]
def sT(rows:List Int)(lev:Nat)(m:Int):List Int:=iw (rows.set lev (m+1)) (lev+1) (5 - lev)
def eI(rows:List Int):Nat->Option (Nat×Int)
 |0=>none
 |k+1=>match eI rows k with
  |some x=>some x
  |none=>if 0<rows.getD k 0 then some (k,rows.getD k 0)else none
def g0(c:Bool)(rows:List Int)(l n:Int):Int×Int:=if c=true then(-1,1)else match eI rows rows.length with
 |some x=>((x.1:Int),x.2)
 |none=>(l,n)
def vY(A:Ad):Sp:=fun vs H Q _=>∃(f:fK)(rows:List Int)(lev:Nat)(l n:Int)(M F:List Cell),vs=[.ref f.a,.int (lev:Int)]/\pO A f.oa l n M/\lev<rows.length/\Holds H (f.c A::(f.rl,.lst (zs rows))::(M++F))/\
 ∀H',Holds H' (f.c A::(f.rl,.lst (zs rows))::(M++F))->Q (.int (fq rows lev l n)) H'
theorem wR(T:Txt P w K mg A):Ok P w K mg base 1 A.pJ ["frame","level"] (vY A):=by
 refine T.pL.ok oQ (fun vs H Q E h=>?_) (fun cdv A' outer s H vs Q E hr h=>?_)
 ·walk_at "vl"
 ·obtain⟨f,rows,lev,l,n,M,F,rfl,op,hl,hH,k⟩:=h;refine⟨_,(ae (bg (aO xY (de cO (aC (pv 0) rfl) (pv 1) (fun _ _=>rfl)) aV (bb _)) (ak (aF (de cO (aC (pv 0) rfl) (pv 1) (fun _ _=>rfl)))) aQ)
   (ae (bp (i:=2) oQ.nd rfl (Or.inl rfl) (RV (dc (Q6 rfl) (by rfl) T.R4 boot_any (aa (nV pV (aC (pv 0) rfl) (km (fg kT (pv 1) aV)) CI) au))))
   (ae (bg (PW.pt (jP (gh (pv 2)) (iJ (aO cH (de tu (aC (pv 0) rfl) aV (fun _ _=>rfl)) (pv 1) (bb _))))) (ak (aF (de tu (aC (pv 0) rfl) aV (fun _ _=>rfl)))) aQ)
   (ak (aF aV))))),?_⟩
  have hH0:=hH;walk_at "unf";have hg:rows[lev]? =some (rows.getD lev 0):=by rw[bP,aN hl];rfl
  have hz:=PH hg;walk_at "rd";walk_at "ix";walk_at "rd";unfold fq at k;refine js (fun h1=>?_) fun h1=>?_
  ·rw[ai (ab h1)]at k;walk_at "rd";walk_at "ix";exact k _ hH0
  ·rw[af (fun q=>h1 (ao q))]at k;walk_at "rd";refine⟨_,_,rfl,bY.of (hH.get 1 rfl),?_⟩;walk_at "new";rw[show(lev:Int)+1=((lev+1:Nat):Int)from rfl,Rn]at hH;refine⟨_,_,rfl,bY.of (hH.get 0 rfl),_,rfl,_,rfl,_,rfl,?_⟩;have sq:iR K H f.oa [.int l,.int n]:=op.sq T fun c hc=>hH.at_ c (by simp[hc])
   by_cases h2:(rows.drop (lev+1)).any (· !=0)=false
   ·refine cn (by rw[h2];rfl) ?_;walk_at "rd";refine⟨_,_,_,_,rfl,rfl,sq,rfl,?_⟩;walk_at "rd";rw[dI];by_cases h3:l=(lev:Int)
    ·rw[ai ⟨h2,h3⟩]at k;refine cn (ao h3) ?_;walk_at "rd";exact⟨_,_,_,_,rfl,rfl,sq,rfl,k _ hH.tl⟩
    ·rw[af (fun q=>h3 q.2)]at k;refine bV (fun q=>h3 (ab q)) ?_;walk_at "rd";exact k _ hH.tl
   ·refine bV (by rw[(Bool.not_eq_false _).mp h2];exact aE) ?_;rw[af (fun q=>h2 q.1)]at k;walk_at "rd";exact k _ hH.tl
def vZ(A:Ad):Sp:=fun vs H Q _=>∃(f:fK)(rows:List Int)(lev:Nat)(l n:Int)(M F:List Cell),vs=[.ref f.a,.int (lev:Int)]/\pO A f.oa l n M/\lev<6/\rows.length=6/\Holds H (f.c A::(f.rl,.lst (zs rows))::(M++F))/\
 (if fq rows lev l n=16 then ∀H',Holds H' (f.c A::(f.rl,.lst (zs rows))::(M++F))->Q .bA H' else ∀H',Holds H' (f.c A::(f.rl,.lst (zs (sT rows lev (fq rows lev l n))))::(M++F))->Q (.str "value") H')
theorem GG(T:Txt P w K mg A):Ok P w K mg base 2 A.za ["frame","level"] (vZ A):=by
 refine T.zd.ok qk (fun vs H Q E h=>?_) (fun cdv A' outer s H vs Q E hr h=>?_)
 ·walk_at "vl"
 ·obtain⟨f,rows,lev,l,n,M,F,rfl,op,hl,hlen,hH,k⟩:=h;refine⟨_,(ae (bp (i:=2) qk.nd rfl (Or.inl rfl) (aI (wR T) (hr.mono (by decide)) (by rfl) T.pL.at_ (aa (pv 0) (aa (pv 1) au))))
   (ae (bg (aO cH (pv 2) (bZ (by rfl) T.Bo) (bb _)) (ak (aF dO)) aQ)
   (ae (MG (fg kT (pv 2) aV) (MJ (aC (pv 0) rfl) (pv 1) set_list))
   (ae (jj PassesOwn.never rfl (MH (by rfl) T.ON (aa (fg kT (pv 1) aV) (aa (bZ (by rfl) T.zW) au))) (dX (i:=3) qk.nd rfl (Or.inl rfl))
   (ak (MG aV (MJ (aC (pv 0) rfl) (pv 3) set_list))))
   (ak (aF bF)))))),?_⟩
  refine⟨_,rfl,_,rfl,f,rows,lev,l,n,M,F,rfl,op,by omega,hH,fun H hH=>?_⟩;walk_at "rd";rw[dI];by_cases h1:fq rows lev l n=16
  ·rw[ai h1]at k;refine cn (ao h1) ?_;walk_at "rd";exact k _ hH
  ·rw[af h1]at k;refine bV (fun q=>h1 (ab q)) ?_;walk_at "unf";have ix:∀(r:List Int)(i:Nat),r.length=6->i<6->vd (zs r).length ((i:Nat):Int)=some i:=fun r i h6 hi=>by
    unfold vd;rw[p8,h6,ai (by omega),ai (by omega)];congr 1
   walk_at "rd";refine L8 hH 1 rfl (ix rows lev hlen hl) fun H hH=>?_;walk_at "rd";refine⟨_,_,rfl,⟨by omega,by omega,by decide,by decide⟩,?_⟩;have en:((6:Int) - ((lev:Int)+1)).toNat=5 - lev:=by omega
   rw[en];refine Nm (lo:=(lev:Int)+1) (n:=5 - lev) (fun i σ H'=>∃v:Option V,σ=[some (.ref f.a),some (.int (lev:Int)),some (.int (fq rows lev l n)),v]/\Holds H' (f.c A::(f.rl,.lst (zs (iw (rows.set lev (fq rows lev l n+1)) (lev+1) i)))::(M++F))) ⟨none,rfl,?_⟩ ?_ ?_
   ·have hH2:=hH;walk_at "nrm";have e:zs (rows.set lev (fq rows lev l n+1))=(zs rows).set lev (V.int (fq rows lev l n+1)):=by unfold zs;rw[List.map_set]
    unfold iw;rw[e];exact hH
   ·rintro i σ H' hi ⟨v,rfl,hH⟩;walk_at "unf";walk_at "rd";rw[show(lev:Int)+1+(i:Int)=((lev+1+i:Nat):Int) by omega];refine L8 hH 1 rfl (ix _ _ (by rw[vL,mD];exact hlen) (by omega)) fun H2 hH2=>?_;refine⟨some (V.int ((lev:Int)+1+(i:Int))),?_,?_⟩
    ·rw[show(lev:Int)+1+(i:Int)=((lev+1+i:Nat):Int) by omega];rfl
    ·have e:zs (iw (rows.set lev (fq rows lev l n+1)) (lev+1) (i+1))=(zs (iw (rows.set lev (fq rows lev l n+1)) (lev+1) i)).set (lev+1+i) (V.int 0):=by show zs ((iw (rows.set lev (fq rows lev l n+1)) (lev+1) i).set (lev+1+i) 0)=_;unfold zs;rw[List.map_set]
     rw[e];exact hH2
   ·rintro σ H' ⟨v,rfl,hH⟩;walk_at "rd";exact k _ hH
def An(A:Ad):Sp:=fun vs H Q _=>∃(f:fK)(rows:List Int)(l n:Int)(M F:List Cell),vs=[.ref f.a]/\pO A f.oa l n M/\Holds H (f.c A::(f.rl,.lst (zs rows))::(M++F))/\
 ∀H'(oa:Addr)(M':List Cell),pO A oa (g0 f.compared rows l n).1 (g0 f.compared rows l n).2 M'->Holds H' (f.c A::(f.rl,.lst (zs rows))::(M'++F))->Q (.ref oa) H'
theorem AV(T:Txt P w K mg A):Ok P w K mg base 1 A.tG ["frame"] (An A):=by
 refine T.tO.ok mK (fun vs H Q E h=>?_) (fun cdv A' outer s H vs Q E hr h=>?_)
 ·walk_at "vl"
 ·obtain⟨f,rows,l,n,M,F,rfl,op,hH,k⟩:=h;refine⟨_,(ae (bg (gh (aC (pv 0) rfl)) (ak (aF (dH (by rfl) T.og))) aQ)
   (ae (jj PassesOwn.never rfl (sX (by rfl) T.jT (aa (aC (pv 0) rfl) au)) (wN rfl (iA (dX (i:=1) mK.nd rfl (Or.inl rfl)) (iA (dX (i:=2) mK.nd rfl (Or.inl rfl)) sY)))
   (ak (bg (aO xY (pv 2) aV (bb _)) (ak (aF (qA (aa (pv 1) (aa (pv 2) au))))) aQ)))
   (ak (aF (aC (pv 0) rfl))))),?_⟩
  have hH0:=hH;walk_at "unf";walk_at "rd";unfold g0 at k;by_cases h1:f.compared=true
  ·rw[ai h1]at k;refine cn h1 ?_;walk_at "rd";refine k _ _ [] .no (hH0.sub (.cons_cons _ (.cons_cons _ (aL _ _))))
  ·rw[af h1]at k;refine bV h1 ?_;walk_at "rd";refine⟨f.rl,_,rfl,bY.of (hH.get 1 rfl),qK (K:=K) (a:=f.rl) (xs:=zs rows) (fun i σ H'=>eI rows i=none/\(∃v1 v2:Option V,σ=[some (.ref f.a),v1,v2])/\Holds H' (f.c A::(f.rl,.lst (zs rows))::(M++F)))
    ⟨rfl,⟨_,_,rfl⟩,hH0⟩ (fun i σ H' _ h=>bY.of (h.2.2.get 1 rfl)) ?_ ?_⟩
   ·rintro i x σ H T H2 hi ⟨hf,⟨v1,v2,rfl⟩,hH⟩ hT e;obtain⟨z,hz,rfl⟩:∃z,rows[i]? =some z/\x=V.int z:=by
     unfold zs at hi;rw[a9]at hi;obtain⟨c,hc,e⟩:=bS.mp hi;exact⟨c,hc,e.symm⟩
    have hH:=Holds.oW e hH hT;have hgd:rows.getD i 0=z:=by rw[bP,hz];rfl
    have hil:=(az.mp hz).1;walk_at "rd";by_cases h2:0<z
    ·refine cn (ao h2) ?_;walk_at "rd";walk_at "nl";have hfp:∀m,eI rows (i+1+m)=some (i,z):=by
      intro m
      induction m with
      |zero=>
       show eI rows (i+1)=_;unfold eI;rw[hf,hgd,ai h2]
      |succ m ih=>
       show eI rows (i+1+m+1)=_;unfold eI;rw[ih]
     have:=hfp (rows.length - (i+1));rw[show i+1+(rows.length - (i+1))=rows.length by omega]at this;rw[this]at k;refine k _ np _ (.tup _ _ _) ?_;have hH:=Holds.reorder hH 4 [2,3,0,1] rfl;walk_at "ro";exact hH.sub (.cons_cons _ (.cons_cons _ (.cons_cons _ (.cons _ (aL _ _)))))
    ·refine bV (fun q=>h2 (ab q)) ?_;refine⟨?_,⟨_,_,rfl⟩,hH.tl⟩;unfold eI;rw[hf,hgd,af h2]
   ·rintro σ H ⟨hf,⟨v1,v2,rfl⟩,hH⟩;rw[p8]at hf;rw[hf]at k;have hH0:=hH;walk_at "unf";walk_at "rd";exact k _ _ M op hH0
theorem x8{α:Type}(fs:List α)(v:α):(fs++[v])[(fs++[v]).length - 1]? =some v:=by
 rw[aq,aX,bx,dj (aD _),mx];rfl
def KC(A:Ad):Sp:=fun vs H Q _=>∃(r:d8)(ds:List V)(f:fK)(F:List Cell),vs=[.ref r.a]/\Holds H (r.c A::(r.dl,.lst ds)::(r.fl,.lst [.ref f.a])::f.c A::F)/\ds.length<=100000/\
 ∀H',Holds H' (r.c A::(r.dl,.lst (ds++[r.cur]))::(r.fl,.lst [])::F)->Q (.str "line") H'
def KA(A:Ad):Sp:=fun vs H Q _=>∃(r:d8)(fs:List V)(g f:fK)(rows:List Int)(l n:Int)(M F:List Cell),vs=[.ref r.a]/\f.grouping=true/\f.array=.bA/\f.ranges=0/\pO A f.oa l n M/\
 Holds H (r.c A::(r.fl,.lst ((fs++[.ref g.a])++[.ref f.a]))::g.c A::f.c A::(f.rl,.lst (zs rows))::(M++F))/\
 ∀H'(oa:Addr)(M':List Cell),pO A oa (g0 f.compared rows l n).1 (g0 f.compared rows l n).2 M'->
  Holds H' (d8.c A {r with nested:=r.nested - 1 - g.bq}::(r.fl,.lst (fs++[.ref g.a]))::fK.c A {g with oa:=if g.bq=0 then oa else A.cu,bq:=0}::(M'++F))->Q (.str "behind value") H'
def Kz(A:Ad):Sp:=fun vs H Q _=>∃(r:d8)(fs:List V)(g f:fK)(F:List Cell),vs=[.ref r.a]/\f.grouping=false/\f.array=.bA/\f.ranges=0/\
 Holds H (r.c A::(r.fl,.lst ((fs++[.ref g.a])++[.ref f.a]))::g.c A::f.c A::F)/\
 ∀H',Holds H' (d8.c A {r with nested:=r.nested - 1 - g.bq}::(r.fl,.lst (fs++[.ref g.a]))::fK.c A {g with oa:=A.cu,bq:=0}::F)->Q (.str "behind value") H'
def Ky(A:Ad):Sp:=fun vs H Q _=>∃(r:d8)(fs:List V)(g f:fK)(m:cx)(F:List Cell),vs=[.ref r.a]/\f.grouping=false/\f.array=.ref m.a/\f.ranges=0/\
 Holds H (r.c A::(r.fl,.lst ((fs++[.ref g.a])++[.ref f.a]))::g.c A::f.c A::m.c A::F)/\
 ∀H',Holds H' (d8.c A {r with nested:=r.nested - 1 - g.bq}::(r.fl,.lst (fs++[.ref g.a]))::fK.c A {g with oa:=A.cu,bq:=0}::cx.c A {m with count:=f.begun}::F)->Q (.str "behind value") H'
def Kx(A:Ad):Sp:=fun vs H Q _=>∃(r:d8)(fs ms:List V)(g f:fK)(ln:k8)(F:List Cell),vs=[.ref r.a]/\f.grouping=false/\f.array=.bA/\0<f.ranges/\r.cur=.ref ln.a/\ms.length<=100000/\
 Holds H (r.c A::(r.fl,.lst ((fs++[.ref g.a])++[.ref f.a]))::g.c A::f.c A::ln.c A::(ln.ml,.lst ms)::F)/\
 ∀H'(x dx:Addr),Holds H' (d8.c A {r with nested:=r.nested - 1 - g.bq}::(r.fl,.lst (fs++[.ref g.a]))::fK.c A {g with oa:=A.cu,bq:=0}::ln.c A::(ln.ml,.lst (ms++[.ref x]))::cx.c A ⟨x,dx,"end","",0,f.ranges⟩::F)->Q (.str "behind value") H'
def nG(A:Ad):Sp:=fun vs H Q E=>KC A vs H Q E\/KA A vs H Q E\/Kz A vs H Q E\/Ky A vs H Q E\/Kx A vs H Q E
theorem GH(T:Txt P w K mg A):Ok P w K mg base 3 A.J2 ["reader"] (nG A):=by
 refine T.Dh.ok zl (fun vs H Q E h=>?_) (fun cdv A' outer s H vs Q E hr h=>?_)
 ·(rcases h with h|h|h|h|h)<;>walk_at "vl"
 ·refine⟨_,(ae (bp (i:=1) zl.nd rfl (Or.inl rfl) (Gy bj lZ lY GZ (aC (pv 0) rfl)))
   (ae (bg (wK (zF (aC (pv 0) rfl) (fun _=>rfl))) (ak (aF (aI (yR T) (hr.mono (by decide)) (by rfl) T.uQ.at_ (aa (pv 0) au)))) aQ)
   (ae (ij (pv 0) aV gH)
   (ae (bp (i:=2) zl.nd rfl (Or.inl rfl) (aC (pv 1) rfl))
   (ae (bg (fJ (nX (pv 2))) (ak (bu (pv 2) (aC (pv 1) rfl) rfl)) aQ)
   (ae (bg (aO xY (aC (pv 1) rfl) aV (bb _)) (ak (cN (hZ bj bO bN e7 (aC (aC (pv 0) rfl) rfl) (aa (d5 (Lb T) (hr.mono (by decide)) (by rfl) T.D1 (aa (el (by rfl) T.PV) (aa bF (aa aV (aa (aC (pv 1) rfl) au))))) au)))) aQ)
   (ak (aF (aI (n6 T) (hr.mono (by decide)) (by rfl) T.lj.at_ (aa (pv 0) (aa (eV (gh (aC (pv 1) rfl)) (aI (AV T) (hr.mono (by decide)) (by rfl) T.tO.at_ (aa (pv 1) au)) (dH (by rfl) T.og)) au))))))))))),?_⟩
  rcases h with⟨r,ds,f,F,rfl,hH,hz,k⟩|⟨r,fs,g,f,rows,l,n,M,F,rfl,hg,ha,hn,op,hH,k⟩|⟨r,fs,g,f,F,rfl,hg,ha,hn,hH,k⟩|⟨r,fs,g,f,m,F,rfl,hg,ha,hn,hH,k⟩|⟨r,fs,ms,g,f,ln,F,rfl,hg,ha,hn,hc,hz,hH,k⟩
  ·walk_at "unf";walk_at "rd";refine⟨ty_list (hH.get 2 rfl),t7 hH 2 rfl rfl fun H hH=>?_⟩;walk_at "nrm";walk_at "rd";refine⟨_,.inl ⟨_,bY.of (hH.get 2 rfl),rfl⟩,?_⟩;walk_at "rd";exact⟨r,ds,_,rfl,hH,hz,fun H' hH'=>k _ (hH'.sub (.cons_cons _ (.cons_cons _ (.cons_cons _ (aW _ _)))))⟩
  ·obtain⟨fa,fdx,f1,f2,f3,f4,f5,f6,f7,f8,f9,f10,f11⟩:=f;dsimp only at hg ha hn op k hH;subst hg ha hn;have hHf:=hH;walk_at "unf";walk_at "rd";refine⟨ty_list (hH.get 1 rfl),t7 hH 1 rfl (x8 _ _) fun H hH=>?_⟩;rw[fk]at hH;walk_at "nrm";walk_at "rd";refine⟨_,.inl ⟨_,bY.of (hH.get 1 rfl),rfl⟩,?_⟩;refine bV (by simp) ?_;walk_at "rd";walk_at "aug";walk_at "rd";have hH:=Holds.reorder hH 5 [3,4,0,1,2] rfl;walk_at "ro";refine⟨⟨fa,fdx,f1,f2,f3,f4,true,.bA,0,f8,f9,f10,f11⟩,rows,l,n,M,_,rfl,op,(hH.perm ?_:Holds H (fK.c A ⟨fa,fdx,f1,f2,f3,f4,true,.bA,0,f8,f9,f10,f11⟩::(f9,.lst (zs rows))::(M++(d8.c A {r with nested:=r.nested - 1}::(r.fl,.lst (fs++[.ref g.a]))::g.c A::F)))),fun H oa M' op' hH=>?_⟩
   ·refine .cons _ (.cons _ ?_);exact dg [d8.c A {r with nested:=r.nested - 1},(r.fl,.lst (fs++[.ref g.a])),g.c A] M F
   ·have hH:=hH.tl.tl;have hH:Holds H (d8.c A {r with nested:=r.nested - 1}::(r.fl,.lst (fs++[.ref g.a]))::g.c A::(M'++F)):=hH.perm (dg M' [d8.c A {r with nested:=r.nested - 1},(r.fl,HO.lst (fs++[V.ref g.a])),g.c A] F);exact⟨{r with nested:=r.nested - 1},g,fs,oa,_,rfl,hH,fun H' hH'=>k _ oa M' op' hH'⟩
  ·obtain⟨fa,fdx,f1,f2,f3,f4,f5,f6,f7,f8,f9,f10,f11⟩:=f;dsimp only at hg ha hn k hH;subst hg ha hn;walk_at "unf";walk_at "rd";refine⟨ty_list (hH.get 1 rfl),t7 hH 1 rfl (x8 _ _) fun H hH=>?_⟩;rw[fk]at hH;walk_at "nrm";walk_at "rd";refine⟨_,.inl ⟨_,bY.of (hH.get 1 rfl),rfl⟩,?_⟩;refine bV (by simp) ?_;walk_at "rd";walk_at "aug";walk_at "rd";refine⟨{r with nested:=r.nested - 1},g,fs,A.cu,_,rfl,hH,fun H' hH'=>k _ ?_⟩;rw[ite_self]at hH';exact hH'.sub (.cons_cons _ (.cons_cons _ (.cons_cons _ (aW _ _))))
  ·obtain⟨fa,fdx,f1,f2,f3,f4,f5,f6,f7,f8,f9,f10,f11⟩:=f;dsimp only at hg ha hn k hH;subst hg ha hn;walk_at "unf";walk_at "rd";refine⟨ty_list (hH.get 1 rfl),t7 hH 1 rfl (x8 _ _) fun H hH=>?_⟩;rw[fk]at hH;walk_at "nrm";walk_at "rd";refine⟨_,.inl ⟨_,bY.of (hH.get 1 rfl),rfl⟩,?_⟩;refine bV (by simp) ?_;walk_at "rd";walk_at "aug";walk_at "rd";walk_at "st";walk_at "rd";refine⟨{r with nested:=r.nested - 1},g,fs,A.cu,_,rfl,hH,fun H' hH'=>k _ ?_⟩;rw[ite_self]at hH';exact hH'.sub (.cons_cons _ (.cons_cons _ (.cons_cons _ (aW _ _))))
  ·obtain⟨fa,fdx,f1,f2,f3,f4,f5,f6,f7,f8,f9,f10,f11⟩:=f;obtain⟨ra,rdx,st,dl,cur,fl,ne,ax,fn⟩:=r;dsimp only at hg ha hn k hH hc;subst hg ha hc;walk_at "unf";walk_at "rd";refine⟨ty_list (hH.get 1 rfl),t7 hH 1 rfl (x8 _ _) fun H hH=>?_⟩;rw[fk]at hH;walk_at "nrm";walk_at "rd";refine⟨_,.inl ⟨_,bY.of (hH.get 1 rfl),rfl⟩,?_⟩;refine bV (by simp) ?_;walk_at "rd";walk_at "aug";walk_at "rd";refine cn (ao hn) ?_;walk_at "rd";refine⟨ty_list (hH.get 5 rfl),?_⟩;walk_at "rd";intro x dx n m e;refine⟨x,dx,_,_,_,_,_,rfl,hH.made n m e,fun H hH=>⟨rfl,?_⟩⟩;dsimp only[qf];refine jC hH 6 rfl (by rw[sizeLine_eq];omega) fun H hH=>?_;walk_at "nrm";walk_at "rd";have hH:=Holds.reorder hH 7 [1,2,3,5,6,0,4] rfl;walk_at "ro";refine⟨⟨ra,rdx,st,dl,.ref ln.a,fl,ne - 1,ax,fn⟩,g,fs,A.cu,_,rfl,hH,fun H' hH'=>k _ x dx ?_⟩;rw[ite_self]at hH';exact hH'.sub (.cons_cons _ (.cons_cons _ (.cons_cons _ (.cons_cons _ (.cons_cons _ (.cons_cons _ (aW _ _)))))))
end aJ
namespace aJ
open Ax (Expr Bound Range Line What Bytes Bin Un Red Tok)
structure gk where
 pu:PySem.Str
 name:Bytes
 place:Nat
 count:Nat
def g7:Bound->List gk
 | .num _=>[]
 | .size p w=>[⟨"bound",w,p,0⟩]
def qz(r:Range):List gk:=⟨"range",r.index,r.place,0⟩::g7 r.bound
def dZ(rs:List Range):List gk:=rs.flatMap qz
def a5:Expr->List gk
 | .num _=>[]
 | .name p w=>[⟨"value",w,p,0⟩]
 | .elem p w n a b c d=>⟨"array",w,p,n⟩::(a5 a++(a5 b++(a5 c++a5 d)))
 | .un _ a=>a5 a
 | .bin _ a b=>a5 a++a5 b
 | .cond a b c=>a5 a++(a5 b++a5 c)
 | .red _ rs a=>dZ rs++(a5 a++[⟨"end",[],0,rs.length⟩])
def fS(x:What)(rs:List Range):List gk:=match x with
 | .in_=>rs.flatMap fun r=>g7 r.bound
 |_=>dZ rs
def fP(l:Line):List gk:=fS l.what l.axes++a5 l.body
def jQ(q:Option (Bin×Expr)):List gk:=match q with
 |none=>[]
 |some x=>a5 x.2
def eL(rows:ag.Rows):Nat->List gk
 |0=>[]
 |k+1=>jQ (rows (k+2))++eL rows k
def ka:ag.Ctx->List gk
 | .elem p w=>[⟨"array",w,p,0⟩]
 | .red _ rs=>dZ rs
 |_=>[]
def eM(l:List Expr):List gk:=l.flatMap a5
def FJ(f:ag.Fr):List gk:=ka f.ctx++(eM f.args++(jQ f.cmp++eL f.rows 6))
theorem JG(q:Option (Bin×Expr))(e:Expr):a5 (ag.mix q e)=jQ q++a5 e:=by
 cases q<;>rfl
theorem pQ(rows:ag.Rows)(e:Expr):∀k,a5 (ag.reduce rows k e)=eL rows k++a5 e
 |0=>rfl
 |k+1=>by
  show a5 (ag.mix (rows (k+2)) (ag.reduce rows k e))=(jQ (rows (k+2))++eL rows k)++a5 e;rw[JG,pQ rows e k,aw]
theorem L4(f:ag.Fr)(e:Expr):a5 (ag.cP f.cmp (ag.reduce f.rows 6 e))=jQ f.cmp++(eL f.rows 6++a5 e):=by
 show a5 (ag.mix f.cmp _)=_;rw[JG,pQ]
theorem nU:∀(pre:List Un)(e:Expr),a5 (ag.fT pre e)=a5 e
 |[],e=>rfl
 |u::pre,e=>by
  show a5 (ag.fT pre (.un u e))=_;rw[nU pre];rfl
theorem mY:∀k,eL ag.d7 k=[]
 |0=>rfl
 |k+1=>by
  show jQ (ag.d7 (k+2))++eL ag.d7 k=[];rw[mY k];rfl
theorem mJ(rows:ag.Rows)(L:Nat)(x:Bin×Expr):∀k,k+1<L->eL (ag.cC rows L x) k=[]
 |0,_=>rfl
 |k+1,h=>by
  show jQ (ag.cC rows L x (k+2))++eL (ag.cC rows L x) k=[];rw[mJ rows L x k (by omega)];have e:ag.cC rows L x (k+2)=none:=by unfold ag.cC;rw[af (by omega),ai (by omega)]
  rw[e];rfl
theorem Aw(rows:ag.Rows)(L:Nat)(o:Bin)(e:Expr)(h2:2<=L):∀k,L<=k+1->eL (ag.cC rows L (o,ag.reduce rows (L - 1) e)) k=eL rows k++a5 e
 |0,h=>by omega
 |k+1,h=>by
  show jQ (ag.cC rows L (o,ag.reduce rows (L - 1) e) (k+2))++eL (ag.cC rows L (o,ag.reduce rows (L - 1) e)) k=(jQ (rows (k+2))++eL rows k)++a5 e;by_cases hk:L=k+2
  ·subst hk;have e1:ag.cC rows (k+2) (o,ag.reduce rows (k+2 - 1) e) (k+2)=some (o,ag.reduce rows (k+2 - 1) e):=by unfold ag.cC;rw[ai rfl]
   rw[e1,mJ rows (k+2) _ k (by omega),aK];show a5 (ag.reduce rows (k+1) e)=_;rw[pQ];rfl
  ·have e1:ag.cC rows L (o,ag.reduce rows (L - 1) e) (k+2)=rows (k+2):=by unfold ag.cC;rw[af (by omega),af (by omega)]
   rw[e1,Aw rows L o e h2 k (by omega),aw]
theorem sV(rs:List Range)(r:Range):dZ (rs++[r])=dZ rs++qz r:=by
 unfold dZ;rw[cq];simp
theorem Fo(p:Nat)(w:Bytes)(args:List Expr)(v:Expr)(h:args.length<=3):a5 (ag.e8 p w args v)=⟨"array",w,p,args.length+1⟩::(eM args++a5 v):=by
 match args,h with
 |[],_=>simp[ag.e8,a5,eM,Ax.nil]
 |[a],_=>simp[ag.e8,a5,eM,Ax.nil]
 |[a,b],_=>simp[ag.e8,a5,eM,Ax.nil]
 |[a,b,c],_=>simp[ag.e8,a5,eM,Ax.nil]
def cnt(rows:ag.Rows)(lev:Nat):Int:=match rows lev with
 |none=>0
 |some x=>(Ax.operands lev x.2:Int)+1
def rowsOf(rows:ag.Rows):List Int:=[cnt rows 7,cnt rows 6,cnt rows 5,cnt rows 4,cnt rows 3,cnt rows 2]
def xS(e:Expr)(l n:Int):Prop:=∀lev,2<=lev->lev<=7->(Ax.operands lev e:Int)=if l=7 - (lev:Int)then n else 1
theorem QD{e:Expr}(h:∀lev,2<=lev->Ax.operands lev e=1):xS e (-1) 1:=fun lev h1 h2=>by rw[h lev h1];split<;>rfl
theorem LG(rows:ag.Rows)(lev:Nat):0<=cnt rows lev:=by unfold cnt;split<;>omega
theorem z6{rows:ag.Rows}{lev:Nat}(h:cnt rows lev=0):rows lev=none:=by
 unfold cnt at h;split at h
 ·assumption
 ·omega
theorem Hy{rows:ag.Rows}{lev:Nat}{x:Bin×Expr}(h:rows lev=some x):cnt rows lev=(Ax.operands lev x.2:Int)+1:=by unfold cnt;rw[h]
theorem pZ(rows:ag.Rows)(L:Nat)(o:Bin)(e:Expr)(j:Nat):cnt (ag.cC rows L (o,e)) j=if j=L then(Ax.operands L e:Int)+1 else if j<L then 0 else cnt rows j:=by
 unfold cnt ag.cC;by_cases h1:j=L
 ·rw[ai h1,ai h1,h1]
 ·rw[af h1,af h1];by_cases h2:j<L
  ·rw[ai h2,ai h2]
  ·rw[af h2,af h2]
theorem KU(rows:ag.Rows)(L:Nat)(o:Bin)(e:Expr)(h2:2<=L)(h7:L<=7):rowsOf (ag.cC rows L (o,e))=sT (rowsOf rows) (7 - L) (Ax.operands L e:Int):=by
 have h:L=2\/L=3\/L=4\/L=5\/L=6\/L=7:=by omega
 unfold rowsOf;rw[pZ,pZ,pZ,pZ,pZ,pZ]
 rcases h with rfl|rfl|rfl|rfl|rfl|rfl<;>rfl
theorem qx{rows:ag.Rows}{e:Expr}:∀k,(∀j,2<=j->j<=k+1->rows j=none)->ag.reduce rows k e=e
 |0,_=>rfl
 |k+1,h=>by
  show ag.mix (rows (k+2)) (ag.reduce rows k e)=e;rw[h (k+2) (by omega) (by omega),qx k fun j h1 h2=>h j h1 (by omega)];rfl
def ox(rows:ag.Rows):Prop:=∀lev x,rows lev=some x->Ax.level x.1=lev
theorem uq{rows:ag.Rows}{e:Expr}(g:ox rows):∀k,(∃j,2<=j/\j<=k+1/\rows j≠none)->∃j x b,2<=j/\j<=k+1/\rows j=some x/\ag.reduce rows k e=.bin x.1 x.2 b/\∀i,j<i->i<=k+1->rows i=none
 |0,h=>by obtain⟨j,h1,h2,_⟩:=h;omega
 |k+1,h=>by
  show ∃j x b,_/\_/\_/\ag.mix (rows (k+2)) (ag.reduce rows k e)=_/\_;cases hr:rows (k+2)with
  |some x=>exact⟨k+2,x,_,by omega,by omega,hr,rfl,fun i h1 h2=>by omega⟩
  |none=>
   obtain⟨j,h1,h2,h3⟩:=h;have hj:j<=k+1:=by
    by_cases hj:j=k+2
    ·subst hj;exact absurd hr h3
    ·omega
   obtain⟨j',x,b,q1,q2,q3,q4,q5⟩:=uq g k ⟨j,h1,hj,h3⟩;refine⟨j',x,b,q1,by omega,q3,q4,fun i h1 h2=>?_⟩;by_cases hi:i=k+2
   ·subst hi;exact hr
   ·exact q5 i h1 (by omega)
theorem jR(lev:Nat)(o:Bin)(a b:Expr):Ax.operands lev (.bin o a b)=if Ax.level o=lev then Ax.operands lev a+1 else 1:=rfl
theorem any_drop(rows:ag.Rows)(L:Nat)(h2:2<=L)(h7:L<=7):((rowsOf rows).drop (7 - L+1)).any (· !=0)=false↔∀j,2<=j->j<L->rows j=none:=by
 have h:L=2\/L=3\/L=4\/L=5\/L=6\/L=7:=by omega
 have key:∀j,cnt rows j=0↔rows j=none:=fun j=>⟨z6,fun h=>by unfold cnt;rw[h]⟩;have bn:∀z:Int,(z !=0)=false↔z=0:=fun z=>by rw[bne_eq_false_iff_eq]
 have all:((rowsOf rows).drop (7 - L+1)).any (· !=0)=false↔∀z∈(rowsOf rows).drop (7 - L+1),z=0:=by
  rw[List.any_eq_false];constructor
  ·intro q z hz;have:=q z hz;simpa using this
  ·intro q z hz;rw[q z hz];decide
 rw[all];constructor
 ·intro hh j h1 h3;rw[<-key];refine hh _ ?_;have hj:j=2\/j=3\/j=4\/j=5\/j=6:=by omega
  rcases h with rfl|rfl|rfl|rfl|rfl|rfl<;>rcases hj with rfl|rfl|rfl|rfl|rfl<;>first|omega|simp[rowsOf]
 ·intro hh;have k:∀j,2<=j->j<L->cnt rows j=0:=fun j h1 h3=>(key j).mpr (hh j h1 h3);intro z hz
  rcases h with rfl|rfl|rfl|rfl|rfl|rfl<;>simp[rowsOf]at hz
  ·rw[hz];exact k 2 (by omega) (by omega)
  ·rcases hz with rfl|rfl
   ·exact k 3 (by omega) (by omega)
   ·exact k 2 (by omega) (by omega)
  ·rcases hz with rfl|rfl|rfl
   ·exact k 4 (by omega) (by omega)
   ·exact k 3 (by omega) (by omega)
   ·exact k 2 (by omega) (by omega)
  ·rcases hz with rfl|rfl|rfl|rfl
   ·exact k 5 (by omega) (by omega)
   ·exact k 4 (by omega) (by omega)
   ·exact k 3 (by omega) (by omega)
   ·exact k 2 (by omega) (by omega)
  ·rcases hz with rfl|rfl|rfl|rfl|rfl
   ·exact k 6 (by omega) (by omega)
   ·exact k 5 (by omega) (by omega)
   ·exact k 4 (by omega) (by omega)
   ·exact k 3 (by omega) (by omega)
   ·exact k 2 (by omega) (by omega)
theorem MA(rows:ag.Rows)(L:Nat)(h2:2<=L)(h7:L<=7):(rowsOf rows).getD (7 - L) 0=cnt rows L:=by
 have h:L=2\/L=3\/L=4\/L=5\/L=6\/L=7:=by omega
 rcases h with rfl|rfl|rfl|rfl|rfl|rfl<;>rfl
theorem Oo{rows:ag.Rows}{e:Expr}{l n:Int}{L:Nat}(g:ox rows)(o:xS e l n)(h2:2<=L)(h7:L<=7):fq (rowsOf rows) (7 - L) l n=(Ax.operands L (ag.reduce rows (L - 1) e):Int):=by
 unfold fq;rw[MA rows L h2 h7];obtain⟨k,rfl⟩:∃k,L=k+2:=⟨L - 2,by omega⟩;rw[show k+2 - 1=k+1 by omega];show _=(Ax.operands (k+2) (ag.mix (rows (k+2)) (ag.reduce rows k e)):Int);cases hr:rows (k+2)with
 |some x=>
  rw[Hy hr,ai (by omega)];show _=(Ax.operands (k+2) (.bin x.1 x.2 _):Int);rw[jR,ai (g _ _ hr)];omega
 |none=>
  have hc:cnt rows (k+2)=0:=by unfold cnt;rw[hr]
  rw[hc,af (by omega)];show _=(Ax.operands (k+2) (ag.reduce rows k e):Int);by_cases ha:((rowsOf rows).drop (7 - (k+2)+1)).any (· !=0)=false
  ·have hn:=(any_drop rows (k+2) h2 h7).mp ha;rw[qx k fun j h1 h3=>hn j h1 (by omega),o (k+2) h2 h7];have e1:((7 - (k+2):Nat):Int)=7 - ((k+2:Nat):Int):=by omega
   rw[e1];by_cases hl:l=7 - ((k+2:Nat):Int)
   ·rw[ai ⟨ha,hl⟩,ai hl]
   ·rw[af (fun q=>hl q.2),af hl]
  ·rw[af (fun q=>ha q.1)];have hex:∃j,2<=j/\j<=k+1/\rows j≠none:=by
    refine jy fun q=>ha ((any_drop rows (k+2) h2 h7).mpr fun j h1 h3=>?_);exact jy fun z=>q ⟨j,h1,by omega,z⟩
   obtain⟨j,x,b,q1,q2,q3,q4,_⟩:=uq g k hex;rw[q4,jR,af (by rw[g _ _ q3];omega)];rfl
theorem pE{rows:List Int}(h0:∀z∈rows,0<=z):∀k,k<=rows.length->eI rows k=none->∀i,i<k->rows.getD i 0=0
 |0,_,_,i,h=>by omega
 |k+1,hk,hf,i,h=>by
  unfold eI at hf;cases e:eI rows k with
  |some x=>rw[e]at hf;cases hf
  |none=>
   rw[e]at hf;have hz:¬0<rows.getD k 0:=fun q=>by rw[ai q]at hf;cases hf
   by_cases hi:i=k
   ·subst hi;have hm:rows.getD i 0∈rows:=by rw[bP,aN (by omega)];exact List.getElem_mem _
    have:=h0 _ hm;omega
   ·exact pE h0 k (by omega) e i (by omega)
theorem pD{rows:List Int}(h0:∀z∈rows,0<=z):∀k x,k<=rows.length->eI rows k=some x->x.1<k/\0<x.2/\rows.getD x.1 0=x.2/\∀i,i<x.1->rows.getD i 0=0
 |0,x,_,h=>by cases h
 |k+1,x,hk,hf=>by
  unfold eI at hf;cases e:eI rows k with
  |some y=>
   rw[e]at hf;cases hf;obtain⟨h1,h2,h3,h4⟩:=pD h0 k x (by omega) e;exact⟨by omega,h2,h3,h4⟩
  |none=>
   rw[e]at hf;by_cases hz:0<rows.getD k 0
   ·rw[ai hz]at hf;cases hf;exact⟨by omega,hz,rfl,fun i hi=>pE h0 k (by omega) e i hi⟩
   ·rw[af hz]at hf;cases hf
theorem pw(rows:ag.Rows):∀z∈rowsOf rows,0<=z:=by
 intro z hz;simp only[rowsOf,aT,List.not_mem_nil,or_false]at hz
 rcases hz with rfl|rfl|rfl|rfl|rfl|rfl<;>exact LG _ _
theorem wB(rows:ag.Rows)(i:Nat)(h:i<6):(rowsOf rows).getD i 0=cnt rows (7 - i):=by
 have:i=0\/i=1\/i=2\/i=3\/i=4\/i=5:=by omega
 rcases this with rfl|rfl|rfl|rfl|rfl|rfl<;>rfl
theorem MC{f:ag.Fr}{e:Expr}{l n:Int}(g:ox f.rows)(hc:∀x,f.cmp=some x->Ax.level x.1=8)(o:xS e l n):xS (ag.cP f.cmp (ag.reduce f.rows 6 e)) (g0 f.cmp.isSome (rowsOf f.rows) l n).1 (g0 f.cmp.isSome (rowsOf f.rows) l n).2:=by
 unfold g0;cases hcm:f.cmp with
 |some x=>
  rw[ai (show(some x).isSome=true from rfl)];intro lev h1 h2;show(Ax.operands lev (.bin x.1 x.2 _):Int)=_;rw[jR,af (by rw[hc x hcm];omega)];split<;>rfl
 |none=>
  rw[af (by simp)];show xS (ag.reduce f.rows 6 e) _ _;have hlen:(rowsOf f.rows).length=6:=rfl;cases hf:eI (rowsOf f.rows) (rowsOf f.rows).length with
  |none=>
   have hz:=pE (pw f.rows) _ (aD _) hf;rw[qx 6 fun j h1 h2=>?_]
   ·exact o
   ·have:=hz (7 - j) (by omega);rw[wB _ _ (by omega),show 7 - (7 - j)=j by omega]at this;exact z6 this
  |some x=>
   obtain⟨h1,h2,h3,h4⟩:=pD (pw f.rows) _ x (aD _) hf;rw[hlen]at h1;rw[wB _ _ h1]at h3;have hne:f.rows (7 - x.1)≠none:=fun q=>by
    have:cnt f.rows (7 - x.1)=0:=by unfold cnt;rw[q]
    omega
   obtain⟨j,y,b,q1,q2,q3,q4,q5⟩:=uq (e:=e) g 6 ⟨7 - x.1,by omega,by omega,hne⟩;have hj:j=7 - x.1:=by
    refine jy fun q=>?_;by_cases hlt:j<7 - x.1
    ·exact hne (q5 _ hlt (by omega))
    ·have:=h4 (7 - j) (by omega);rw[wB _ _ (by omega),show 7 - (7 - j)=j by omega]at this;rw[z6 this]at q3;cases q3
   subst hj;rw[Hy q3]at h3;intro lev hl1 hl2;rw[q4,jR,g _ _ q3];by_cases hl:7 - x.1=lev
   ·rw[ai hl,ai (show((x.1:Nat):Int)=7 - (lev:Int) by omega),<-h3,hl];omega
   ·rw[af hl,af (show ¬((x.1:Nat):Int)=7 - (lev:Int) by omega)];rfl
end aJ
namespace aJ
open PySem PySem.Spec PyProof.Rows L2
variable{P:Program}{w:World}{K:PySem.W.Frag}{mg:Str->Option Value}{base:Heap}{A:Ad}
local macro_rules | `(tactic| walk_at "look") => `(tactic| first | assumption | exact Holds.mem (by assumption) (by assumption) | exact Holds.get (by assumption) _ (by assumption) | exact Holds.mem (Holds.tl (by assumption)) (by assumption) | exact Holds.mem (Holds.tl (Holds.tl (by assumption))) (by assumption) | exact Holds.get (by assumption) 0 rfl | exact Holds.get (by assumption) 1 rfl | exact Holds.get (by assumption) 2 rfl | exact Holds.get (by assumption) 3 rfl | exact Holds.get (by assumption) 4 rfl | exact Holds.get (by assumption) 5 rfl | exact Holds.get (by assumption) 6 rfl | exact Holds.get (by assumption) 7 rfl | exact Holds.get (by assumption) 8 rfl | exact Holds.get (by assumption) 9 rfl | exact Holds.get (by assumption) 10 rfl | exact Holds.get (by assumption) 11 rfl | exact Holds.get (by assumption) 12 rfl | exact Holds.get (by assumption) 13 rfl | exact Holds.get (by assumption) 14 rfl | exact Holds.get (by assumption) 15 rfl)
local macro_rules | `(tactic| walk_at "cls") => do
  let T := Lean.mkIdent `T
  `(tactic| first | exact ($T).SK | exact ($T).NK | exact ($T).Q7 | exact ($T).Q8 | exact ($T).Pf | exact ($T).Pg | exact ($T).SM | exact ($T).TX)
local macro_rules | `(tactic| walk_at "na") => do
  let T := Lean.mkIdent `T
  `(tactic| first | exact ($T).IT | exact ($T).IV | exact ($T).GW | exact ($T).IW | exact ($T).IU | exact ($T).Fg | exact ($T).A8 | exact ($T).yA | exact ($T).CY | exact ($T).A6 | exact ($T).A7 | exact ($T).GV | exact ($T).Fb | exact ($T).A2 | exact ($T).GU | exact ($T).C1 | exact ($T).C0 | exact ($T).GY | exact ($T).Fh | exact ($T).zR | exact ($T).Fi | exact ($T).CZ | exact ($T).zS | exact ($T).GX | exact ($T).A9 | exact ($T).zQ | exact ($T).CV | exact ($T).Fe | exact ($T).zP | exact ($T).A4 | exact ($T).A3 | exact ($T).Ff | exact ($T).yz | exact ($T).A5 | exact ($T).CW | exact ($T).C2 | exact ($T).C3 | exact ($T).Fd | exact ($T).Fc)
local macro_rules | `(tactic| walk_at "idx") => `(tactic| first | (show (_ : List Cell)[0]? = _; rfl) | (show (_ : List Cell)[1]? = _; rfl) | (show (_ : List Cell)[2]? = _; rfl) | (show (_ : List Cell)[3]? = _; rfl) | (show (_ : List Cell)[4]? = _; rfl) | (show (_ : List Cell)[5]? = _; rfl) | (show (_ : List Cell)[6]? = _; rfl) | (show (_ : List Cell)[7]? = _; rfl) | (show (_ : List Cell)[8]? = _; rfl) | (show (_ : List Cell)[9]? = _; rfl) | (show (_ : List Cell)[10]? = _; rfl) | (show (_ : List Cell)[11]? = _; rfl) | (show (_ : List Cell)[12]? = _; rfl) | (show (_ : List Cell)[13]? = _; rfl) | (show (_ : List Cell)[14]? = _; rfl) | (show (_ : List Cell)[15]? = _; rfl))
local macro_rules | `(tactic| walk_at "nrm") => do
  let h := Lean.mkIdent `hH
  `(tactic| simp only [List.set_cons_zero, List.set_cons_succ, EV, EX, CD, EY, EW, AL, yq, vJ, zz, yo, yp, CC, AG, yk, CB, zC, zB, CG, AM, wI, AN, zA, wJ, CF, yr, wH, zx, AJ, wG, ym, yl, AK, vI, yn, zy, zD, zE, AI, AH] at $h:ident)
local macro_rules | `(tactic| walk_at "in") => do
  let h := Lean.mkIdent `hH
  let H := Lean.mkIdent `H
  `(tactic| (intro $H:ident $h:ident; try walk_at "nrm"))
local macro_rules | `(tactic| walk_at "inp") => do
  let h := Lean.mkIdent `hH
  let H := Lean.mkIdent `H
  let p := Lean.mkIdent `np
  `(tactic| (intro $p:ident $H:ident $h:ident; try walk_at "nrm"))
local macro_rules | `(tactic| walk_at "rd1") => `(tactic| first | refine ⟨_, rfl, ?_⟩ | (refine' U6 ⟨rfl, ?k1, ?k2, ?k3, ?k4, ?k5⟩; (case k1 => walk_at "look"); (case k2 => walk_at "cls"); (case k3 => walk_at "na"); (case k4 => rfl)) | refine ⟨_, _, rfl, rfl, ?_⟩ | refine ⟨rfl, ?_⟩)
local macro_rules | `(tactic| walk_at "rd") => `(tactic| repeat (walk_at "rd1"))
local macro_rules | `(tactic| walk_at "st") => `(tactic| (refine' Uc (by assumption) ?k0 ?k1 ?k2 ?k3 ?k4 ?k5; (case k1 => walk_at "idx"); (case k2 => walk_at "cls"); (case k3 => walk_at "na"); (case k4 => with_unfolding_all exact of_decide_eq_true rfl); walk_at "in"))
local macro_rules | `(tactic| walk_at "aug") => `(tactic| (refine' S9 (by assumption) ?k0 ?k1 ?k4 ?k5; (case k1 => walk_at "idx"); (case k4 => with_unfolding_all exact of_decide_eq_true rfl); walk_at "in"))
local macro_rules | `(tactic| walk_at "new") => do
  let h := Lean.mkIdent `hH
  let H := Lean.mkIdent `H
  let p := Lean.mkIdent `np
  `(tactic| (intro $p:ident n; generalize hE : upd _ _ _ = $H:ident; have $h:ident := Holds.oW hE (by assumption) n; clear hE n))
local macro_rules | `(tactic| walk_at "nl") => `(tactic| (refine ⟨by with_unfolding_all exact of_decide_eq_true rfl, ?_⟩; walk_at "new"))
local macro_rules | `(tactic| walk_at "mk") => do
  let h := Lean.mkIdent `hH
  let H := Lean.mkIdent `H
  let x := Lean.mkIdent `x
  let dx := Lean.mkIdent `dx
  `(tactic| (intro $x:ident $dx:ident n m e; generalize hE : upd (upd _ _ _) _ _ = $H:ident; have $h:ident := Holds.QE hE (by assumption) n m e; clear hE n m e))
local macro_rules | `(tactic| walk_at "br") => `(tactic| first | refine cn (by assumption) ?_ | refine bV (by assumption) ?_ | refine UG ?_ | refine Ll ?_)
local macro_rules | `(tactic| walk_at "go") => `(tactic| repeat (first | walk_at "rd1" | walk_at "br"))
local macro_rules | `(tactic| walk_at "len") => `(tactic| (refine' SA ⟨rfl, .inl (bY.of ?k1), ?k2⟩; (case k1 => walk_at "look")))
local macro_rules | `(tactic| walk_at "ix") => `(tactic| (refine' UN ⟨rfl, rfl, bY.of ?k1, ?k2, ?k3⟩; (case k1 => walk_at "look"); (case k2 => first | assumption | exact Lk (by assumption))))
local macro_rules | `(tactic| walk_at "vl") => do
  let h := Lean.mkIdent `h
  `(tactic| ((repeat (obtain ⟨_, $h:ident⟩ := $h:ident)); subst_vars; rfl))
local macro_rules | `(tactic| walk_at "unf") => do
  let h := Lean.mkIdent `hH
  `(tactic| simp only [d8.c, k8.c, cx.c, fK.c, cf.c1, cf.c2] at $h:ident)
local macro_rules | `(tactic| walk_at "ro") => do
  let h := Lean.mkIdent `hH
  `(tactic| simp only [List.filterMap_cons, List.filterMap_nil, List.getElem?_cons_zero, List.getElem?_cons_succ, List.cons_append, List.nil_append, List.drop_succ_cons, List.drop_zero] at $h:ident)
local macro_rules | `(tactic| walk_at "tn") => `(tactic| dsimp only [qf, FE, tC, List.cons_append, List.nil_append])
def cQ:Ax.Tok->Prop
 | .op .mul=>True| .op .div=>True| .op .mod=>True| .op .add=>True| .op .shl=>True| .op .shr=>True| .op .and=>True| .op .xor=>True| .op .or=>True| .op .most=>True| .op .same=>True
 | .op _=>False
 | .fn1 .abs=>True| .fn1 .ones=>True| .fn1 .lead=>True| .fn1 .trail=>True
 | .fn1 _=>False
 | .fn2 .min=>True| .fn2 .max=>True| .fn2 .quo=>True| .fn2 .rem=>True| .fn2 .high=>True| .fn2 .rotl=>True
 | .fn2 _=>False
 | .kind k=>k<9
 |_=>True
theorem FK{x:Ax.Tok}(h:cQ x):formOf x="number"↔∃n,x=.num n:=by
 cases x with
 |num y=>exact⟨fun _=>⟨y,rfl⟩,fun _=>rfl⟩
 |name _=>exact⟨fun q=>absurd (show(Str.ofString "name")=Str.ofString "number" from q) (by decide +kernel),fun⟨_,q⟩=>nomatch q⟩
 |kind _=>exact⟨fun q=>absurd (show(Str.ofString "kind")=Str.ofString "number" from q) (by decide +kernel),fun⟨_,q⟩=>nomatch q⟩
 |line y=>cases y<;>exact⟨fun q=>absurd q (by decide +kernel),fun⟨_,q⟩=>nomatch q⟩
 |red y=>cases y<;>exact⟨fun q=>absurd q (by decide +kernel),fun⟨_,q⟩=>nomatch q⟩
 |fn1 y=>cases y<;>exact⟨fun q=>absurd q (by decide +kernel),fun⟨_,q⟩=>nomatch q⟩
 |fn2 y=>cases y<;>exact⟨fun q=>absurd q (by decide +kernel),fun⟨_,q⟩=>nomatch q⟩
 |op y=>cases y<;>exact⟨fun q=>absurd q (by decide +kernel),fun⟨_,q⟩=>nomatch q⟩
 |_=>exact⟨fun q=>absurd q (by decide +kernel),fun⟨_,q⟩=>nomatch q⟩
theorem tK{x:Ax.Tok}(h:cQ x):formOf x="name"↔∃w,x=.name w:=by
 cases x with
 |name y=>exact⟨fun _=>⟨y,rfl⟩,fun _=>rfl⟩
 |num _=>exact⟨fun q=>absurd (show(Str.ofString "number")=Str.ofString "name" from q) (by decide +kernel),fun⟨_,q⟩=>nomatch q⟩
 |kind _=>exact⟨fun q=>absurd (show(Str.ofString "kind")=Str.ofString "name" from q) (by decide +kernel),fun⟨_,q⟩=>nomatch q⟩
 |line y=>cases y<;>exact⟨fun q=>absurd q (by decide +kernel),fun⟨_,q⟩=>nomatch q⟩
 |red y=>cases y<;>exact⟨fun q=>absurd q (by decide +kernel),fun⟨_,q⟩=>nomatch q⟩
 |fn1 y=>cases y<;>exact⟨fun q=>absurd q (by decide +kernel),fun⟨_,q⟩=>nomatch q⟩
 |fn2 y=>cases y<;>exact⟨fun q=>absurd q (by decide +kernel),fun⟨_,q⟩=>nomatch q⟩
 |op y=>cases y<;>exact⟨fun q=>absurd q (by decide +kernel),fun⟨_,q⟩=>nomatch q⟩
 |_=>exact⟨fun q=>absurd q (by decide +kernel),fun⟨_,q⟩=>nomatch q⟩
theorem Sz{x:Ax.Tok}(h:cQ x):formOf x="kind"↔∃k,x=.kind k:=by
 cases x with
 |kind y=>exact⟨fun _=>⟨y,rfl⟩,fun _=>rfl⟩
 |num _=>exact⟨fun q=>absurd (show(Str.ofString "number")=Str.ofString "kind" from q) (by decide +kernel),fun⟨_,q⟩=>nomatch q⟩
 |name _=>exact⟨fun q=>absurd (show(Str.ofString "name")=Str.ofString "kind" from q) (by decide +kernel),fun⟨_,q⟩=>nomatch q⟩
 |line y=>cases y<;>exact⟨fun q=>absurd q (by decide +kernel),fun⟨_,q⟩=>nomatch q⟩
 |red y=>cases y<;>exact⟨fun q=>absurd q (by decide +kernel),fun⟨_,q⟩=>nomatch q⟩
 |fn1 y=>cases y<;>exact⟨fun q=>absurd q (by decide +kernel),fun⟨_,q⟩=>nomatch q⟩
 |fn2 y=>cases y<;>exact⟨fun q=>absurd q (by decide +kernel),fun⟨_,q⟩=>nomatch q⟩
 |op y=>cases y<;>exact⟨fun q=>absurd q (by decide +kernel),fun⟨_,q⟩=>nomatch q⟩
 |_=>exact⟨fun q=>absurd q (by decide +kernel),fun⟨_,q⟩=>nomatch q⟩
theorem J1{x:Ax.Tok}(h:cQ x):formOf x=":"↔x=.colon:=by
 cases x with
 |colon=>exact⟨fun _=>rfl,fun _=>rfl⟩
 |num _=>exact⟨fun q=>absurd (show(Str.ofString "number")=Str.ofString ":" from q) (by decide +kernel),fun q=>nomatch q⟩
 |name _=>exact⟨fun q=>absurd (show(Str.ofString "name")=Str.ofString ":" from q) (by decide +kernel),fun q=>nomatch q⟩
 |kind _=>exact⟨fun q=>absurd (show(Str.ofString "kind")=Str.ofString ":" from q) (by decide +kernel),fun q=>nomatch q⟩
 |line y=>cases y<;>exact⟨fun q=>absurd q (by decide +kernel),fun q=>nomatch q⟩
 |red y=>cases y<;>exact⟨fun q=>absurd q (by decide +kernel),fun q=>nomatch q⟩
 |fn1 y=>cases y<;>first|exact False.elim h|exact⟨fun q=>absurd q (by decide +kernel),fun q=>nomatch q⟩
 |fn2 y=>cases y<;>first|exact False.elim h|exact⟨fun q=>absurd q (by decide +kernel),fun q=>nomatch q⟩
 |op y=>cases y<;>first|exact False.elim h|exact⟨fun q=>absurd q (by decide +kernel),fun q=>nomatch q⟩
 |_=>exact⟨fun q=>absurd q (by decide +kernel),fun q=>nomatch q⟩
theorem Nq{x:Ax.Tok}(h:cQ x):formOf x=";"↔x=.semi:=by
 cases x with
 |semi=>exact⟨fun _=>rfl,fun _=>rfl⟩
 |num _=>exact⟨fun q=>absurd (show(Str.ofString "number")=Str.ofString ";" from q) (by decide +kernel),fun q=>nomatch q⟩
 |name _=>exact⟨fun q=>absurd (show(Str.ofString "name")=Str.ofString ";" from q) (by decide +kernel),fun q=>nomatch q⟩
 |kind _=>exact⟨fun q=>absurd (show(Str.ofString "kind")=Str.ofString ";" from q) (by decide +kernel),fun q=>nomatch q⟩
 |line y=>cases y<;>exact⟨fun q=>absurd q (by decide +kernel),fun q=>nomatch q⟩
 |red y=>cases y<;>exact⟨fun q=>absurd q (by decide +kernel),fun q=>nomatch q⟩
 |fn1 y=>cases y<;>first|exact False.elim h|exact⟨fun q=>absurd q (by decide +kernel),fun q=>nomatch q⟩
 |fn2 y=>cases y<;>first|exact False.elim h|exact⟨fun q=>absurd q (by decide +kernel),fun q=>nomatch q⟩
 |op y=>cases y<;>first|exact False.elim h|exact⟨fun q=>absurd q (by decide +kernel),fun q=>nomatch q⟩
 |_=>exact⟨fun q=>absurd q (by decide +kernel),fun q=>nomatch q⟩
theorem JZ{x:Ax.Tok}(h:cQ x):formOf x="["↔x=.openB:=by
 cases x with
 |openB=>exact⟨fun _=>rfl,fun _=>rfl⟩
 |num _=>exact⟨fun q=>absurd (show(Str.ofString "number")=Str.ofString "[" from q) (by decide +kernel),fun q=>nomatch q⟩
 |name _=>exact⟨fun q=>absurd (show(Str.ofString "name")=Str.ofString "[" from q) (by decide +kernel),fun q=>nomatch q⟩
 |kind _=>exact⟨fun q=>absurd (show(Str.ofString "kind")=Str.ofString "[" from q) (by decide +kernel),fun q=>nomatch q⟩
 |line y=>cases y<;>exact⟨fun q=>absurd q (by decide +kernel),fun q=>nomatch q⟩
 |red y=>cases y<;>exact⟨fun q=>absurd q (by decide +kernel),fun q=>nomatch q⟩
 |fn1 y=>cases y<;>first|exact False.elim h|exact⟨fun q=>absurd q (by decide +kernel),fun q=>nomatch q⟩
 |fn2 y=>cases y<;>first|exact False.elim h|exact⟨fun q=>absurd q (by decide +kernel),fun q=>nomatch q⟩
 |op y=>cases y<;>first|exact False.elim h|exact⟨fun q=>absurd q (by decide +kernel),fun q=>nomatch q⟩
 |_=>exact⟨fun q=>absurd q (by decide +kernel),fun q=>nomatch q⟩
theorem uI{x:Ax.Tok}(h:cQ x):formOf x="]"↔x=.closeB:=by
 cases x with
 |closeB=>exact⟨fun _=>rfl,fun _=>rfl⟩
 |num _=>exact⟨fun q=>absurd (show(Str.ofString "number")=Str.ofString "]" from q) (by decide +kernel),fun q=>nomatch q⟩
 |name _=>exact⟨fun q=>absurd (show(Str.ofString "name")=Str.ofString "]" from q) (by decide +kernel),fun q=>nomatch q⟩
 |kind _=>exact⟨fun q=>absurd (show(Str.ofString "kind")=Str.ofString "]" from q) (by decide +kernel),fun q=>nomatch q⟩
 |line y=>cases y<;>exact⟨fun q=>absurd q (by decide +kernel),fun q=>nomatch q⟩
 |red y=>cases y<;>exact⟨fun q=>absurd q (by decide +kernel),fun q=>nomatch q⟩
 |fn1 y=>cases y<;>first|exact False.elim h|exact⟨fun q=>absurd q (by decide +kernel),fun q=>nomatch q⟩
 |fn2 y=>cases y<;>first|exact False.elim h|exact⟨fun q=>absurd q (by decide +kernel),fun q=>nomatch q⟩
 |op y=>cases y<;>first|exact False.elim h|exact⟨fun q=>absurd q (by decide +kernel),fun q=>nomatch q⟩
 |_=>exact⟨fun q=>absurd q (by decide +kernel),fun q=>nomatch q⟩
theorem Dg{x:Ax.Tok}(h:cQ x):formOf x="("↔x=.openP:=by
 cases x with
 |openP=>exact⟨fun _=>rfl,fun _=>rfl⟩
 |num _=>exact⟨fun q=>absurd (show(Str.ofString "number")=Str.ofString "(" from q) (by decide +kernel),fun q=>nomatch q⟩
 |name _=>exact⟨fun q=>absurd (show(Str.ofString "name")=Str.ofString "(" from q) (by decide +kernel),fun q=>nomatch q⟩
 |kind _=>exact⟨fun q=>absurd (show(Str.ofString "kind")=Str.ofString "(" from q) (by decide +kernel),fun q=>nomatch q⟩
 |line y=>cases y<;>exact⟨fun q=>absurd q (by decide +kernel),fun q=>nomatch q⟩
 |red y=>cases y<;>exact⟨fun q=>absurd q (by decide +kernel),fun q=>nomatch q⟩
 |fn1 y=>cases y<;>first|exact False.elim h|exact⟨fun q=>absurd q (by decide +kernel),fun q=>nomatch q⟩
 |fn2 y=>cases y<;>first|exact False.elim h|exact⟨fun q=>absurd q (by decide +kernel),fun q=>nomatch q⟩
 |op y=>cases y<;>first|exact False.elim h|exact⟨fun q=>absurd q (by decide +kernel),fun q=>nomatch q⟩
 |_=>exact⟨fun q=>absurd q (by decide +kernel),fun q=>nomatch q⟩
theorem qL{x:Ax.Tok}(h:cQ x):formOf x=")"↔x=.closeP:=by
 cases x with
 |closeP=>exact⟨fun _=>rfl,fun _=>rfl⟩
 |num _=>exact⟨fun q=>absurd (show(Str.ofString "number")=Str.ofString ")" from q) (by decide +kernel),fun q=>nomatch q⟩
 |name _=>exact⟨fun q=>absurd (show(Str.ofString "name")=Str.ofString ")" from q) (by decide +kernel),fun q=>nomatch q⟩
 |kind _=>exact⟨fun q=>absurd (show(Str.ofString "kind")=Str.ofString ")" from q) (by decide +kernel),fun q=>nomatch q⟩
 |line y=>cases y<;>exact⟨fun q=>absurd q (by decide +kernel),fun q=>nomatch q⟩
 |red y=>cases y<;>exact⟨fun q=>absurd q (by decide +kernel),fun q=>nomatch q⟩
 |fn1 y=>cases y<;>first|exact False.elim h|exact⟨fun q=>absurd q (by decide +kernel),fun q=>nomatch q⟩
 |fn2 y=>cases y<;>first|exact False.elim h|exact⟨fun q=>absurd q (by decide +kernel),fun q=>nomatch q⟩
 |op y=>cases y<;>first|exact False.elim h|exact⟨fun q=>absurd q (by decide +kernel),fun q=>nomatch q⟩
 |_=>exact⟨fun q=>absurd q (by decide +kernel),fun q=>nomatch q⟩
theorem ya{x:Ax.Tok}(h:cQ x):formOf x=","↔x=.comma:=by
 cases x with
 |comma=>exact⟨fun _=>rfl,fun _=>rfl⟩
 |num _=>exact⟨fun q=>absurd (show(Str.ofString "number")=Str.ofString "," from q) (by decide +kernel),fun q=>nomatch q⟩
 |name _=>exact⟨fun q=>absurd (show(Str.ofString "name")=Str.ofString "," from q) (by decide +kernel),fun q=>nomatch q⟩
 |kind _=>exact⟨fun q=>absurd (show(Str.ofString "kind")=Str.ofString "," from q) (by decide +kernel),fun q=>nomatch q⟩
 |line y=>cases y<;>exact⟨fun q=>absurd q (by decide +kernel),fun q=>nomatch q⟩
 |red y=>cases y<;>exact⟨fun q=>absurd q (by decide +kernel),fun q=>nomatch q⟩
 |fn1 y=>cases y<;>first|exact False.elim h|exact⟨fun q=>absurd q (by decide +kernel),fun q=>nomatch q⟩
 |fn2 y=>cases y<;>first|exact False.elim h|exact⟨fun q=>absurd q (by decide +kernel),fun q=>nomatch q⟩
 |op y=>cases y<;>first|exact False.elim h|exact⟨fun q=>absurd q (by decide +kernel),fun q=>nomatch q⟩
 |_=>exact⟨fun q=>absurd q (by decide +kernel),fun q=>nomatch q⟩
theorem UM{x:Ax.Tok}(h:cQ x):formOf x="="↔x=.is:=by
 cases x with
 |is=>exact⟨fun _=>rfl,fun _=>rfl⟩
 |num _=>exact⟨fun q=>absurd (show(Str.ofString "number")=Str.ofString "=" from q) (by decide +kernel),fun q=>nomatch q⟩
 |name _=>exact⟨fun q=>absurd (show(Str.ofString "name")=Str.ofString "=" from q) (by decide +kernel),fun q=>nomatch q⟩
 |kind _=>exact⟨fun q=>absurd (show(Str.ofString "kind")=Str.ofString "=" from q) (by decide +kernel),fun q=>nomatch q⟩
 |line y=>cases y<;>exact⟨fun q=>absurd q (by decide +kernel),fun q=>nomatch q⟩
 |red y=>cases y<;>exact⟨fun q=>absurd q (by decide +kernel),fun q=>nomatch q⟩
 |fn1 y=>cases y<;>first|exact False.elim h|exact⟨fun q=>absurd q (by decide +kernel),fun q=>nomatch q⟩
 |fn2 y=>cases y<;>first|exact False.elim h|exact⟨fun q=>absurd q (by decide +kernel),fun q=>nomatch q⟩
 |op y=>cases y<;>first|exact False.elim h|exact⟨fun q=>absurd q (by decide +kernel),fun q=>nomatch q⟩
 |_=>exact⟨fun q=>absurd q (by decide +kernel),fun q=>nomatch q⟩
theorem Q3{x:Ax.Tok}(h:cQ x):formOf x="-"↔x=.minus:=by
 cases x with
 |minus=>exact⟨fun _=>rfl,fun _=>rfl⟩
 |num _=>exact⟨fun q=>absurd (show(Str.ofString "number")=Str.ofString "-" from q) (by decide +kernel),fun q=>nomatch q⟩
 |name _=>exact⟨fun q=>absurd (show(Str.ofString "name")=Str.ofString "-" from q) (by decide +kernel),fun q=>nomatch q⟩
 |kind _=>exact⟨fun q=>absurd (show(Str.ofString "kind")=Str.ofString "-" from q) (by decide +kernel),fun q=>nomatch q⟩
 |line y=>cases y<;>exact⟨fun q=>absurd q (by decide +kernel),fun q=>nomatch q⟩
 |red y=>cases y<;>exact⟨fun q=>absurd q (by decide +kernel),fun q=>nomatch q⟩
 |fn1 y=>cases y<;>first|exact False.elim h|exact⟨fun q=>absurd q (by decide +kernel),fun q=>nomatch q⟩
 |fn2 y=>cases y<;>first|exact False.elim h|exact⟨fun q=>absurd q (by decide +kernel),fun q=>nomatch q⟩
 |op y=>cases y<;>first|exact False.elim h|exact⟨fun q=>absurd q (by decide +kernel),fun q=>nomatch q⟩
 |_=>exact⟨fun q=>absurd q (by decide +kernel),fun q=>nomatch q⟩
theorem Q2{x:Ax.Tok}(h:cQ x):formOf x="~"↔x=.tilde:=by
 cases x with
 |tilde=>exact⟨fun _=>rfl,fun _=>rfl⟩
 |num _=>exact⟨fun q=>absurd (show(Str.ofString "number")=Str.ofString "~" from q) (by decide +kernel),fun q=>nomatch q⟩
 |name _=>exact⟨fun q=>absurd (show(Str.ofString "name")=Str.ofString "~" from q) (by decide +kernel),fun q=>nomatch q⟩
 |kind _=>exact⟨fun q=>absurd (show(Str.ofString "kind")=Str.ofString "~" from q) (by decide +kernel),fun q=>nomatch q⟩
 |line y=>cases y<;>exact⟨fun q=>absurd q (by decide +kernel),fun q=>nomatch q⟩
 |red y=>cases y<;>exact⟨fun q=>absurd q (by decide +kernel),fun q=>nomatch q⟩
 |fn1 y=>cases y<;>first|exact False.elim h|exact⟨fun q=>absurd q (by decide +kernel),fun q=>nomatch q⟩
 |fn2 y=>cases y<;>first|exact False.elim h|exact⟨fun q=>absurd q (by decide +kernel),fun q=>nomatch q⟩
 |op y=>cases y<;>first|exact False.elim h|exact⟨fun q=>absurd q (by decide +kernel),fun q=>nomatch q⟩
 |_=>exact⟨fun q=>absurd q (by decide +kernel),fun q=>nomatch q⟩
theorem UL{x:Ax.Tok}(h:cQ x):formOf x="<"↔x=.lt:=by
 cases x with
 |lt=>exact⟨fun _=>rfl,fun _=>rfl⟩
 |num _=>exact⟨fun q=>absurd (show(Str.ofString "number")=Str.ofString "<" from q) (by decide +kernel),fun q=>nomatch q⟩
 |name _=>exact⟨fun q=>absurd (show(Str.ofString "name")=Str.ofString "<" from q) (by decide +kernel),fun q=>nomatch q⟩
 |kind _=>exact⟨fun q=>absurd (show(Str.ofString "kind")=Str.ofString "<" from q) (by decide +kernel),fun q=>nomatch q⟩
 |line y=>cases y<;>exact⟨fun q=>absurd q (by decide +kernel),fun q=>nomatch q⟩
 |red y=>cases y<;>exact⟨fun q=>absurd q (by decide +kernel),fun q=>nomatch q⟩
 |fn1 y=>cases y<;>first|exact False.elim h|exact⟨fun q=>absurd q (by decide +kernel),fun q=>nomatch q⟩
 |fn2 y=>cases y<;>first|exact False.elim h|exact⟨fun q=>absurd q (by decide +kernel),fun q=>nomatch q⟩
 |op y=>cases y<;>first|exact False.elim h|exact⟨fun q=>absurd q (by decide +kernel),fun q=>nomatch q⟩
 |_=>exact⟨fun q=>absurd q (by decide +kernel),fun q=>nomatch q⟩
structure cx.Is(m:cx)(x:gk):Prop where
 pu:m.sW=x.pu
 name:m.name=sb x.name
 place:m.place=x.place
 count:m.count=x.count
abbrev dB(ms:List cx)(xs:List gk):Prop:=Paired cx.Is ms xs
theorem dB.append{ms ns:List cx}{xs ys:List gk}(a:dB ms xs)(b:dB ns ys):dB (ms++ns) (xs++ys):=by
 induction a with
 |nil=>exact b
 |cons r t ih=>exact .cons r ih
structure fW where
 f:fK
 rows:List Int
 l:Int
 n:Int
 M:List Cell
 ms:List cx
def fW.cells(A:Ad)(R:fW):List Cell:=R.f.c A::(R.f.rl,.lst (zs R.rows))::R.M
def uR:ag.Ctx->Str
 | .top=>";"
 | .elem _ _=>"]"
 |_=>")"
def jY:ag.Ctx->Int
 | .elem _ _=>0
 | .fn2 _=>2
 | .cond=>3
 |_=>1
def fu:ag.Ctx->Int
 | .elem _ _=>4
 | .fn2 _=>2
 | .cond=>3
 |_=>1
def isGroup:ag.Ctx->Bool
 | .group=>true
 |_=>false
def Gn:ag.Ctx->Int
 | .red _ rs=>rs.length
 |_=>0
def yb(ms:List cx)(v:V):ag.Ctx->Prop
 | .elem _ _=>∃m r,ms=m::r/\v=.ref m.a
 |_=>v=.bA
def PQ:ag.Ctx->Prop
 | .red _ rs=>0<rs.length
 |_=>True
structure fW.Is(A:Ad)(R:fW)(fr:ag.Fr):Prop where
 closer:R.f.closer=uR fr.ctx
 gj:R.f.gj=jY fr.ctx
 most:R.f.most=fu fr.ctx
 begun:R.f.begun=fr.args.length+1
 grouping:R.f.grouping=isGroup fr.ctx
 array:yb R.ms R.f.array fr.ctx
 ranges:R.f.ranges=Gn fr.ctx
 red:PQ fr.ctx
 compared:R.f.compared=fr.cmp.isSome
 cmp:∀x,fr.cmp=some x->Ax.level x.1=8
 rows:R.rows=rowsOf fr.rows
 good:ox fr.rows
 le:∀z∈R.rows,z<=16
 pre:R.f.bq=fr.pre.length
 op:pO A R.f.oa R.l R.n R.M
 bo:dB R.ms (FJ fr)
 args:(fr.args.length:Int)+1<=fu fr.ctx
 fn2:∀o,fr.ctx=.fn2 o->Ax.level o<2
abbrev Frs(A:Ad)(Rs:List fW)(fs:List ag.Fr):Prop:=Paired (fW.Is A) Rs fs
structure RS where
 r:d8
 ds:List V
 ln:k8
 a6:List V
 bK:List fW
 hd:List cx
 es:List cx
def bM:List fW->List cx
 |[]=>[]
 |R::Rs=>bM Rs++R.ms
def RS.bo(S:RS):List cx:=S.hd++(bM S.bK++S.es)
def bX(bK:List fW):List V:=bK.reverse.map fun R=>V.ref R.f.a
theorem kY(R:fW)(Rs:List fW):bX (R::Rs)=bX Rs++[V.ref R.f.a]:=by unfold bX;rw[List.reverse_cons,bC];rfl
def b8(ms:List cx):List V:=ms.map fun m=>V.ref m.a
def cg(A:Ad)(bK:List fW):List Cell:=bK.flatMap (fW.cells A)
def cB(A:Ad)(ms:List cx):List Cell:=ms.map (cx.c A)
def RS.cells(A:Ad)(S:RS)(F:List Cell):List Cell:=S.r.c A::(S.r.dl,.lst S.ds)::(S.r.fl,.lst (bX S.bK))::S.ln.c A::(S.ln.tl,.lst S.a6)::(S.ln.ml,.lst (b8 S.bo))::(cg A S.bK++(cB A S.bo++F))
def tZ:Ax.What->Int
 | .size=>0
 | .in_=>1
 | .let_=>2
 | .out=>3
structure kg(l:k8)(x:Ax.What)(p:Nat)(w:Ax.Bytes)(k n:Nat):Prop where
 role:l.role=tZ x
 name:l.name=sb w
 place:l.place=p
 kind:l.kind=k
 rank:l.rank=n
structure RS.In(A:Ad)(S:RS)(Hd:ag.Hd)(fs:List ag.Fr):Prop where
 head:kg S.ln Hd.x Hd.p Hd.w Hd.k Hd.rs.length
 Tu:Hd.x≠.in_
 hd:dB S.hd (fS Hd.x Hd.rs)
 bK:Frs A S.bK fs
 nested:∀f r,fs=f::r->S.r.nested=(ag.depth f r:Nat)
 deep:∀f r,fs=f::r->ag.depth f r<=20
def RS.g9(A:Ad)(S:RS)(rs:List Ax.Range)(pm:List gk):ag.Ow->Prop
 | .line x q w=>kg S.ln x q w 0 0/\x≠.size/\S.bK=[]/\dB S.hd (fS x rs++pm)/\S.es=[]/\S.r.nested=0/\S.r.axes=rs.length/\(x=.in_->pm=[])
 | .red Hd f fs g=>∃R Rs,S.bK=R::Rs/\kg S.ln Hd.x Hd.p Hd.w Hd.k Hd.rs.length/\Hd.x≠.in_/\dB S.hd (fS Hd.x Hd.rs)/\Frs A Rs (f::fs)/\S.r.nested=(ag.depth f fs:Nat)+1/\S.es=[]/\S.r.axes=rs.length/\
  R.f.closer=")"/\R.f.gj=1/\R.f.most=1/\R.f.begun=1/\R.f.grouping=false/\R.f.array=.bA/\R.f.ranges=0/\R.f.compared=false/\R.rows=[0,0,0,0,0,0]/\R.f.bq=0/\pO A R.f.oa R.l R.n R.M/\dB R.ms (dZ rs++pm)/\ag.depth f fs<20
def eU:ag.Wd->Str
 | .fn1 o=>L9 o
 | .fn2 o=>GC o
 | .cond=>"if"
 | .red g=>Cz g
def tX:ag.Wd->Prop
 | .fn1 o=>cQ (.fn1 o)
 | .fn2 o=>cQ (.fn2 o)
 |_=>True
def RS.Is(A:Ad)(S:RS):ag.St->Prop
 | .line=>True
 | .name x=>kg S.ln x 0 [] 0 0/\S.bK=[]/\S.hd=[]/\S.es=[]/\S.r.nested=0
 | .semi l=>kg S.ln l.what l.place l.name l.kind l.axes.length/\S.bK=[]/\dB S.hd (fP l)/\S.es=[]/\S.r.nested=0
 | .axes x p w=>kg S.ln x p w 0 0/\x≠.size/\S.bK=[]/\S.hd=[]/\S.es=[]/\S.r.nested=0
 | .first x p w=>S.g9 A [] [] (.line x p w)
 | .iC o rs=>S.g9 A rs [] o
 | .less o rs p w=>S.g9 A rs [⟨"range",w,p,0⟩] o
 | .bound o rs p w=>S.g9 A rs [⟨"range",w,p,0⟩] o
 | .behind o rs=>S.g9 A rs [] o/\0<rs.length
 | .colon x p w rs=>kg S.ln x p w 0 rs.length/\x≠.size/\S.bK=[]/\dB S.hd (fS x rs)/\S.es=[]/\S.r.nested=0
 | .kind x p w rs=>kg S.ln x p w 0 rs.length/\x≠.size/\S.bK=[]/\dB S.hd (fS x rs)/\S.es=[]/\S.r.nested=0
 | .equals x p w rs k=>kg S.ln x p w k rs.length/\x≠.in_/\S.bK=[]/\dB S.hd (fS x rs)/\S.es=[]/\S.r.nested=0
 | .want b Hd f fs=>S.In A Hd (f::fs)/\S.es=[]/\(b=true->∃p w,f=ag.cy (.elem p w))
 | .word k Hd f fs=>S.In A Hd (f::fs)/\S.es=[]/\S.r.fn=eU k/\tX k
 | .named p w Hd f fs=>S.In A Hd (f::fs)/\∃m,S.es=[m]/\m.Is ⟨"value",w,p,0⟩
 | .il e Hd f fs=>S.In A Hd (f::fs)/\dB S.es (a5 e)/\∀R Rs,S.bK=R::Rs->xS e R.l R.n/\R.n<=16
structure RS.Small(S:RS):Prop where
 bo:S.bo.length<=5000
 bK:S.bK.length<=5000
 ds:S.ds.length<=5000
def sP:ag.St->Str
 | .line=>"line"| .name _=>"line name"| .semi _=>"end"| .axes _ _ _=>"axes"| .first _ _ _=>"first axis"| .iC _ _=>"axis"| .less _ _ _ _=>"less"| .bound _ _ _ _=>"bound"| .behind _ _=>"behind axis"| .colon _ _ _ _=>"colon"| .kind _ _ _ _=>"kind"| .equals _ _ _ _ _=>"equals"
 | .want true _ _ _=>"first value"| .want false _ _ _=>"value"| .word _ _ _ _=>"parenthesis"| .named _ _ _ _ _=>"behind name"| .il _ _ _ _=>"behind value"
structure RS.Fin(S:RS)(l:Ax.Line):Prop where
 head:kg S.ln l.what l.place l.name l.kind l.axes.length
 bK:S.bK=[]
 bo:dB S.bo (fP l)
 nested:S.r.nested=0
structure RS.Keeps(S S':RS):Prop where
 ra:S'.r.a=S.r.a
 dl:S'.r.dl=S.r.dl
 fl:S'.r.fl=S.r.fl
 st:S'.r.st=S.r.st
 cur:S'.r.cur=S.r.cur
 ln:S'.ln.a=S.ln.a
 tl:S'.ln.tl=S.ln.tl
 ml:S'.ln.ml=S.ln.ml
 a6:S'.a6=S.a6
 bo:S'.bo.length<=S.bo.length+1
 bK:S'.bK.length<=S.bK.length+1
def RS.Nx(A:Ad)(S S':RS)(done done':List Ax.Line)(s':ag.St):Prop:=S.Keeps S'/\S'.Is A s'/\
 ((done'=done/\S'.ds=S.ds/\s'≠.line)\/∃l,done'=done++[l]/\s'=.line/\S'.ds=S.ds++[.ref S.ln.a]/\S'.Fin l)
def iY(A:Ad)(G:ag.St->Prop):Sp:=fun vs H Q _=>∃(S:RS)(t:cf)(p:Nat)(x:Ax.Tok)(s:ag.St)(done:List Ax.Line)(F:List Cell),vs=[.ref S.r.a,.ref t.a]/\G s/\t.At (p,x)/\cQ x/\S.Is A s/\ag.Good s/\S.r.cur=.ref S.ln.a/\S.Small/\
 Holds H (t.c1 A::S.cells A F)/\(ag.step done s p x=none->∀H',Holds H' (t.c1 A::F)->Q .bA H')/\
 ∀done' s',ag.step done s p x=some (done',s')->∀H' S',RS.Nx A S S' done done' s'->Holds H' (t.c1 A::S'.cells A F)->Q (.str (sP s')) H'
theorem dy{H:Hp}{A:Ad}{t:cf}{S:RS}{F:List Cell}(h:Holds H (t.c1 A::S.cells A F)):Holds H (t.c1 A::F):=h.sub (.cons_cons _ (.cons _ (.cons _ (.cons _ (.cons _ (.cons _ (.cons _ ((aL _ _).trans (aL _ _)))))))))
theorem RS.Keeps.refl(S:RS):S.Keeps S:=⟨rfl,rfl,rfl,rfl,rfl,rfl,rfl,rfl,rfl,bc _,bc _⟩
theorem IH(T:Txt P w K mg A):Ok P w K mg base 1 A.uK ["reader","token"] (iY A fun s=>∃x q w rs,s=.colon x q w rs):=by
 refine T.LC.ok Iw (fun vs H Q E h=>?_) (fun cdv A' outer s H vs Q E hr h=>?_)
 ·walk_at "vl"
 ·obtain⟨S,t,p,x,s,done,F,rfl,⟨y,q,wd,rs,rfl⟩,ta,rl,is,gd,hc,sm,hH,kn,ks⟩:=h;refine⟨_,(ak (aF (eV (aO cH (aC (pv 1) rfl) bF (bb _)) bF dO))),?_⟩;have hH0:=hH;have hf:=ta.cZ;walk_at "unf";walk_at "rd";rw[dS,hf];by_cases h1:formOf x=":"
  ·refine cn (ao h1) ?_;obtain rfl:=(J1 rl).mp h1;walk_at "rd";exact ks _ _ rfl _ S ⟨.refl S,is,.inl ⟨rfl,rfl,by simp⟩⟩ hH0
  ·refine bV (fun q=>h1 (ab q)) ?_;walk_at "rd";exact kn (by cases x<;>first|rfl|exact absurd rfl h1) _ (dy hH0)
def cellsOf(A:Ad)(r:d8)(ds fr:List V)(ln:k8)(a6:List V)(bo:List cx)(fc F:List Cell):List Cell:=r.c A::(r.dl,.lst ds)::(r.fl,.lst fr)::ln.c A::(ln.tl,.lst a6)::(ln.ml,.lst (b8 bo))::(fc++(cB A bo++F))
theorem jU(ms:List cx)(m:cx):b8 (ms++[m])=b8 ms++[V.ref m.a]:=by unfold b8;rw[bC];rfl
theorem lb(A:Ad)(ms:List cx)(m:cx):cB A (ms++[m])=cB A ms++[m.c A]:=by unfold cB;rw[bC];rfl
theorem oG(ms:List cx):(b8 ms).length=ms.length:=by unfold b8;rw[aP]
theorem xK{A:Ad}{H:Hp}{Q:VK}{E:XK}{t:cf}{r:d8}{ds fr:List V}{ln:k8}{a6:List V}{bo:List cx}{fc F:List Cell}{pu:Str}(hH:Holds H (t.c1 A::cellsOf A r ds fr ln a6 bo fc F))(hc:r.cur=.ref ln.a)(hz:bo.length<=5000)
  (k:∀H' x dx,Holds H' (t.c1 A::cellsOf A r ds fr ln a6 (bo++[⟨x,dx,pu,t.word,t.place,0⟩]) fc F)->Q .bA H'):Aq A [.ref r.a,.str pu,.ref t.a] H Q E:=by
 unfold cellsOf at hH;have hH:=Holds.reorder hH 7 [1,4,6,0,2,3,5] rfl;walk_at "ro";refine⟨r,ln,t,b8 bo,pu,_,rfl,hc,hH,by rw[oG];omega,fun H' x dx hH=>k H' x dx ?_⟩;have hH:=Holds.reorder hH 8 [4,1,5,6,2,7,3,0] rfl;walk_at "ro";refine hH.perm ?_;unfold cellsOf;rw[jU,lb];refine .cons _ (.cons _ (.cons _ (.cons _ (.cons _ (.cons _ (.cons _ ?_))))));refine(bh (l₁:=fc)).symm.trans ((List.Perm.refl fc).append ?_);rw[aw];exact(bh (l₁:=cB A bo)).symm
theorem RS.ou(A:Ad)(S:RS)(F:List Cell):S.cells A F=cellsOf A S.r S.ds (bX S.bK) S.ln S.a6 S.bo (cg A S.bK) F:=rfl
theorem OX:∀k,k<9->lE[k]? =some (V.str (sb (Ax.kindText k)))/\∀m,m<k->vv (lE.getD m .bA) (V.str (sb (Ax.kindText k)))=false:=by decide +kernel
theorem K6(T:Txt P w K mg A):Ok P w K mg base 1 A.xq ["reader","token"] (iY A fun s=>∃o rs q w,s=.less o rs q w):=by
 refine T.NC.ok KQ (fun vs H Q E h=>?_) (fun cdv A' outer s H vs Q E hr h=>?_)
 ·walk_at "vl"
 ·obtain⟨S,t,p,x,s,done,F,rfl,⟨o,rs,q,wd,rfl⟩,ta,rl,is,gd,hc,sm,hH,kn,ks⟩:=h;refine⟨_,(ak (aF (eV (aO cH (aC (pv 1) rfl) bF (bb _)) bF dO))),?_⟩;have hH0:=hH;have hf:=ta.cZ;walk_at "unf";walk_at "rd";rw[dS,hf];by_cases h1:formOf x="<"
  ·refine cn (ao h1) ?_;obtain rfl:=(UL rl).mp h1;walk_at "rd";exact ks _ _ rfl _ S ⟨.refl S,is,.inl ⟨rfl,rfl,by simp⟩⟩ hH0
  ·refine bV (fun q=>h1 (ab q)) ?_;walk_at "rd";exact kn (by cases x<;>first|rfl|exact absurd rfl h1) _ (dy hH0)
theorem K8(T:Txt P w K mg A):Ok P w K mg base 1 A.xu ["reader","token"] (iY A fun s=>∃y q w,s=.axes y q w):=by
 refine T.NF.ok KS (fun vs H Q E h=>?_) (fun cdv A' outer s H vs Q E hr h=>?_)
 ·walk_at "vl"
 ·obtain⟨S,t,p,x,s,done,F,rfl,⟨y,q,wd,rfl⟩,ta,rl,is,gd,hc,sm,hH,kn,ks⟩:=h;refine⟨_,(ae (bg (aO ku (aC (pv 1) rfl) bF (bb _)) (ak (aF dO)) aQ)
   (ae (bu (pv 0) aV rfl)
   (ak (aF bF)))),?_⟩
  have hH0:=hH;have hf:=ta.cZ;unfold RS.cells at hH;walk_at "unf";walk_at "rd";rw[dS,hf];by_cases h1:formOf x="["
  ·obtain rfl:=(JZ rl).mp h1;refine bV (by rw[ao h1];exact aE) ?_;walk_at "rd";walk_at "st";walk_at "rd";obtain⟨i1,i2,i3,i4,i5,i6⟩:=is;exact ks _ _ rfl _ {S with r:={S.r with axes:=0}} ⟨⟨rfl,rfl,rfl,rfl,rfl,rfl,rfl,rfl,rfl,bc _,bc _⟩,⟨i1,i2,i3,by rw[i4];cases y<;>exact .nil,i5,i6,rfl,fun _=>rfl⟩,.inl ⟨rfl,rfl,by simp⟩⟩ hH
  ·refine cn (by rw[aY h1];rfl) ?_;walk_at "rd";exact kn (by cases x<;>first|rfl|exact absurd rfl h1) _ (dy hH0)
theorem MS(T:Txt P w K mg A):Ok P w K mg base 2 A.zX ["reader","token"] (iY A fun s=>∃l,s=.semi l):=by
 refine T.Pc.ok Mv (fun vs H Q E h=>?_) (fun cdv A' outer s H vs Q E hr h=>?_)
 ·walk_at "vl"
 ·obtain⟨S,t,p,x,s,done,F,rfl,⟨l,rfl⟩,ta,rl,is,gd,hc,sm,hH,kn,ks⟩:=h;refine⟨_,(ae (bg (aO ku (aC (pv 1) rfl) bF (bb _)) (ak (aF dO)) aQ)
   (ak (aF (aI (yR T) (hr.mono (by decide)) (by rfl) T.uQ.at_ (aa (pv 0) au))))),?_⟩
  have hH0:=hH;have hf:=ta.cZ;unfold RS.cells at hH;walk_at "unf";walk_at "rd";rw[dS,hf];by_cases h1:formOf x=";"
  ·obtain rfl:=(Nq rl).mp h1;refine bV (by rw[ao h1];exact aE) ?_;walk_at "rd";have hH:=Holds.reorder hH 3 [1,2,0] rfl;walk_at "ro";obtain⟨i1,i2,i3,i4,i5⟩:=is;have sd:=sm.ds;refine⟨S.r,S.ds,_,rfl,hH,by omega,fun H hH=>?_⟩;have hH:=Holds.reorder hH 3 [2,0,1] rfl;walk_at "ro";rw[hc]at hH;refine ks _ _ rfl _ {S with ds:=S.ds++[.ref S.ln.a]} ⟨⟨rfl,rfl,rfl,rfl,rfl,rfl,rfl,rfl,rfl,bc _,bc _⟩,trivial,.inr ⟨l,rfl,rfl,rfl,i1,i2,?_,i5⟩⟩ hH;unfold RS.bo;rw[i2,i4];show dB (S.hd++([]++[])) _;rw[aK,aK];exact i3
  ·refine cn (by rw[aY h1];rfl) ?_;walk_at "rd";exact kn (by cases x<;>first|rfl|exact absurd rfl h1) _ (dy hH0)
theorem AZ(T:Txt P w K mg A):Ok P w K mg base 1 A.om ["reader","token"] (iY A fun s=>∃y,s=.name y):=by
 refine T.Di.ok rb (fun vs H Q E h=>?_) (fun cdv A' outer s H vs Q E hr h=>?_)
 ·walk_at "vl"
 ·obtain⟨S,t,p,x,s,done,F,rfl,⟨y,rfl⟩,ta,rl,is,gd,hc,sm,hH,kn,ks⟩:=h;refine⟨_,(ae (bg (aO ku (aC (pv 1) rfl) (el (by rfl) T.tF) (bb _)) (ak (aF dO)) aQ)
   (ae (bp (i:=2) rb.nd rfl (Or.inl rfl) (aC (pv 0) rfl))
   (ae (bu (pv 2) (aC (pv 1) rfl) rfl)
   (ae (bu (pv 2) (aC (pv 1) rfl) rfl)
   (ak (aF (eV (aO cH (aC (pv 2) rfl) (bZ (by rfl) T.xb) (bb _)) bF bF))))))),?_⟩
  have hH0:=hH;have hf:=ta.cZ;have hp:=ta.place;unfold RS.cells at hH;walk_at "unf";walk_at "rd";rw[dS,hf];by_cases h1:formOf x="name"
  ·obtain⟨wd,rfl⟩:=(tK rl).mp h1;have hw:=ta.name wd rfl;refine bV (by rw[ao h1];exact aE) ?_;obtain⟨⟨ra,rdx,st,dl,cur,fl,ne,ax,fn⟩,ds,ln,a6,bK,hd,es⟩:=S;dsimp only at hc;subst hc;walk_at "rd";walk_at "st";walk_at "rd";walk_at "st";walk_at "rd";obtain⟨⟨j1,j2,j3,j4,j5⟩,i2,i3,i4,i5⟩:=is;dsimp only at j1 j2 j3 j4 j5 i2 i3 i4 i5;rw[dI];have hi:kg {ln with name:=t.word,place:=(t.place:Int)} y p wd 0 0:=⟨j1,hw,by rw[hp],j4,j5⟩;by_cases h2:y=.size
   ·subst h2;refine cn (ao (by rw[j1];rfl)) ?_;walk_at "rd";exact ks _ _ rfl _ ⟨⟨ra,rdx,st,dl,.ref ln.a,fl,ne,ax,fn⟩,ds,{ln with name:=t.word,place:=(t.place:Int)},a6,bK,hd,es⟩ ⟨⟨rfl,rfl,rfl,rfl,rfl,rfl,rfl,rfl,rfl,bc _,bc _⟩,⟨hi,i2,by show dB hd [];rw[i3];exact .nil,i4,i5⟩,.inl ⟨rfl,rfl,by simp⟩⟩ hH
   ·refine bV (fun q=>?_) ?_
    ·have:=ab q;rw[j1]at this;cases y with
     |size=>exact h2 rfl
     |in_=>exact absurd this (by decide)
     |let_=>exact absurd this (by decide)
     |out=>exact absurd this (by decide)
    ·walk_at "rd";have e1:ag.step done (.name y) p (.name wd)=some (done,.axes y p wd):=by cases y with
      |size=>exact absurd rfl h2
      |in_=>rfl
      |let_=>rfl
      |out=>rfl
     exact ks _ _ e1 _ ⟨⟨ra,rdx,st,dl,.ref ln.a,fl,ne,ax,fn⟩,ds,{ln with name:=t.word,place:=(t.place:Int)},a6,bK,hd,es⟩ ⟨⟨rfl,rfl,rfl,rfl,rfl,rfl,rfl,rfl,rfl,bc _,bc _⟩,⟨hi,h2,i2,i3,i4,i5⟩,.inl ⟨rfl,rfl,by simp⟩⟩ hH
  ·refine cn (by rw[aY h1];rfl) ?_;walk_at "rd";exact kn (by cases x<;>first|rfl|exact absurd rfl h1) _ (dy hH0)
theorem K7(T:Txt P w K mg A):Ok P w K mg base 1 A.xr ["reader","token"] (iY A fun s=>∃y q w rs,s=.kind y q w rs):=by
 refine T.ND.ok AA (fun vs H Q E h=>?_) (fun cdv A' outer s H vs Q E hr h=>?_)
 ·walk_at "vl"
 ·obtain⟨S,t,p,x,s,done,F,rfl,⟨y,q,wd,rs,rfl⟩,ta,rl,is,gd,hc,sm,hH,kn,ks⟩:=h;refine⟨_,(ae (bg (aO ku (aC (pv 1) rfl) (el (by rfl) T.Nk) (bb _)) (ak (aF dO)) aQ)
   (ae (bp (i:=2) AA.nd rfl (Or.inl rfl) (aC (pv 0) rfl))
   (ae (bu (pv 2) (hZ PySem.F.plainAttrs_tuple jJ PySem.F.type_tuple_index DY (dH (by rfl) T.JU) (aa (aC (pv 1) rfl) au)) rfl)
   (ak (aF (eV (aO cH (aC (pv 2) rfl) (bZ (by rfl) T.Su) (bb _)) bF bF)))))),?_⟩
  have hH0:=hH;have hf:=ta.cZ;unfold RS.cells at hH;walk_at "unf";walk_at "rd";rw[dS,hf];by_cases h1:formOf x="kind"
  ·obtain⟨kk,rfl⟩:=(Sz rl).mp h1;have hw:=ta.kind kk rfl;have hk9:kk<9:=rl;refine bV (by rw[ao h1];exact aE) ?_;obtain⟨⟨ra,rdx,st,dl,cur,fl,ne,ax,fn⟩,ds,ln,a6,bK,hd,es⟩:=S;dsimp only at hc;subst hc;obtain⟨k1,k2⟩:=OX kk hk9;walk_at "rd";refine⟨.inr (.inl ⟨rfl,T.Cc.ty⟩),?_⟩;walk_at "rd";refine⟨A.yf,lE,_,kk,_,rfl,rfl,T.Cc.sq _,rfl,rfl,k1,by rw[hw];show(_==_)=true;exact beq_self_eq_true _,fun m z hm hz=>?_,?_⟩
   ·have:=k2 m hm;rw[bP,hz]at this;rw[hw];exact this
   walk_at "rd";walk_at "st";walk_at "rd";obtain⟨⟨j1,j2,j3,j4,j5⟩,i1,i2,i3,i4,i5⟩:=is;dsimp only at j1 j2 j3 j4 j5 i1 i2 i3 i4 i5;rw[dI];have hi:kg {ln with kind:=(kk:Int)} y q wd kk rs.length:=⟨j1,j2,j3,rfl,j5⟩;by_cases h2:y=.in_
   ·subst h2;refine cn (ao (by rw[j1];rfl)) ?_;walk_at "rd";refine ks _ _ rfl _ ⟨⟨ra,rdx,st,dl,.ref ln.a,fl,ne,ax,fn⟩,ds,{ln with kind:=(kk:Int)},a6,bK,hd,es⟩ ⟨⟨rfl,rfl,rfl,rfl,rfl,rfl,rfl,rfl,rfl,bc _,bc _⟩,⟨hi,i2,?_,i4,i5⟩,.inl ⟨rfl,rfl,by simp⟩⟩ hH;show dB hd (fS .in_ rs++[]);rw[aK];exact i3
   ·refine bV (fun q=>?_) ?_
    ·have:=ab q;rw[j1]at this;cases y with
     |in_=>exact h2 rfl
     |size=>exact absurd this (by decide)
     |let_=>exact absurd this (by decide)
     |out=>exact absurd this (by decide)
    ·walk_at "rd";have e1:ag.step done (.kind y q wd rs) p (.kind kk)=some (done,.equals y q wd rs kk):=by cases y with
      |in_=>exact absurd rfl h2
      |size=>rfl
      |let_=>rfl
      |out=>rfl
     exact ks _ _ e1 _ ⟨⟨ra,rdx,st,dl,.ref ln.a,fl,ne,ax,fn⟩,ds,{ln with kind:=(kk:Int)},a6,bK,hd,es⟩ ⟨⟨rfl,rfl,rfl,rfl,rfl,rfl,rfl,rfl,rfl,bc _,bc _⟩,⟨hi,h2,i2,i3,i4,i5⟩,.inl ⟨rfl,rfl,by simp⟩⟩ hH
  ·refine cn (by rw[aY h1];rfl) ?_;walk_at "rd";exact kn (by cases x<;>first|rfl|exact absurd rfl h1) _ (dy hH0)
theorem lP{A:Ad}{R:fW}{c:ag.Ctx}(h1:R.f.closer=uR c)(h2:R.f.gj=jY c)(h3:R.f.most=fu c)(h4:R.f.begun=1)(h5:R.f.grouping=isGroup c)(h6:yb R.ms R.f.array c)(h7:R.f.ranges=Gn c)(h8:PQ c)(h9:R.f.compared=false)
  (h10:R.rows=[0,0,0,0,0,0]) (h11:R.f.bq=0) (h12:pO A R.f.oa R.l R.n R.M) (h13:dB R.ms (ka c)) (h14:∀o,c=.fn2 o->Ax.level o<2:=by intro o q;cases q):R.Is A (ag.cy c):=
 ⟨h1,h2,h3,h4,h5,h6,h7,h8,h9,(fun _ q=>nomatch q),h10,(fun _ _ q=>nomatch q),(by rw[h10];decide),h11,h12,(by
  show dB R.ms (ka c++([]++([]++eL ag.d7 6)));rw[mY];simpa using h13),(by show((0:Nat):Int)+1<=fu c;cases c<;>simp[fu]),h14⟩
def cI(A:Ad)(r:d8)(ds fr:List V)(ln:k8)(a6:List V)(bo:List cx)(R:fW)(fc F:List Cell):List Cell:=r.c A::(r.dl,.lst ds)::(r.fl,.lst (fr++[V.ref R.f.a]))::ln.c A::(ln.tl,.lst a6)::(ln.ml,.lst (b8 bo))::R.f.c A::(R.f.rl,.lst (zs R.rows))::(R.M++(fc++(cB A bo++F)))
theorem cp(A:Ad)(r:d8)(ds:List V)(ln:k8)(a6:List V)(R:fW)(Rs:List fW)(hd es:List cx)(F:List Cell):RS.cells A ⟨r,ds,ln,a6,R::Rs,hd,es⟩ F=cI A r ds (bX Rs) ln a6 (hd++((bM Rs++R.ms)++es)) R (cg A Rs) F:=by
 unfold RS.cells cI;dsimp only;rw[kY];have e:cg A (R::Rs)=R.f.c A::(R.f.rl,.lst (zs R.rows))::(R.M++cg A Rs):=rfl;rw[e,List.cons_append,List.cons_append,aw];rfl
theorem fb(c:ag.Ctx)(f:ag.Fr)(fs:List ag.Fr):((ag.depth (ag.cy c) (f::fs):Nat):Int)=(ag.depth f fs:Nat)+1:=by
 show((ag.base (f::fs)+0:Nat):Int)=_;unfold ag.depth;show((ag.base fs+f.pre.length+1+0:Nat):Int)=_;omega
def RS.iP(S:RS)(m:cx):RS:=match S.bK with
 |[]=>{S with hd:=S.hd++[m]}
 |R::Rs=>{S with bK:={R with ms:=R.ms++[m]}::Rs}
theorem B3(S:RS)(m:cx)(h:S.es=[]):(S.iP m).bo=S.bo++[m]:=by
 obtain⟨r,ds,ln,a6,bK,hd,es⟩:=S;dsimp only at h;subst h;cases bK with
 |nil=>simp[RS.iP,RS.bo,bM]
 |cons R Rs=>simp[RS.iP,RS.bo,bM]
theorem xQ(A:Ad)(S:RS)(m:cx)(F:List Cell)(h:S.es=[]):(S.iP m).cells A F=cellsOf A S.r S.ds (bX S.bK) S.ln S.a6 (S.bo++[m]) (cg A S.bK) F:=by
 rw[RS.ou,B3 S m h];obtain⟨r,ds,ln,a6,bK,hd,es⟩:=S;cases bK with
 |nil=>rfl
 |cons R Rs=>
  unfold RS.iP;dsimp only;rw[kY,kY];rfl
theorem xP(S:RS)(m:cx)(h:S.es=[]):S.Keeps (S.iP m):=by
 have hm:=B3 S m h;have e:(S.iP m).bo.length<=S.bo.length+1:=by rw[hm,aq];exact aD _
 obtain⟨r,ds,ln,a6,bK,hd,es⟩:=S;cases bK with
 |nil=>exact⟨rfl,rfl,rfl,rfl,rfl,rfl,rfl,rfl,rfl,e,bc _⟩
 |cons R Rs=>exact⟨rfl,rfl,rfl,rfl,rfl,rfl,rfl,rfl,rfl,e,bc _⟩
theorem EA(S:RS)(m:cx):(S.iP m).ds=S.ds:=by
 obtain⟨r,ds,ln,a6,bK,hd,es⟩:=S;cases bK<;>rfl
theorem g9.es{A:Ad}{S:RS}{rs:List Ax.Range}{pm:List gk}{o:ag.Ow}(h:S.g9 A rs pm o):S.es=[]:=by
 cases o with
 |line x q w=>exact h.2.2.2.2.1
 |red Hd f fs g=>obtain⟨R,Rs,h⟩:=h;exact h.2.2.2.2.2.2.1
theorem g9.add{A:Ad}{S:RS}{rs:List Ax.Range}{pm:List gk}{o:ag.Ow}{m:cx}{x:gk}(h:S.g9 A rs pm o)(hm:m.Is x)(hn:∀q w,o≠.line .in_ q w):(S.iP m).g9 A rs (pm++[x]) o:=by
 obtain⟨r,ds,ln,a6,bK,hd,es⟩:=S;cases o with
 |line y q w=>
  obtain⟨h1,h2,h3,h4,h5,h6,h7,h8⟩:=h;dsimp only at h3;subst h3;refine⟨h1,h2,rfl,?_,h5,h6,h7,fun e=>by subst e;exact absurd rfl (hn q w)⟩;rw[<-aw];exact dB.append h4 (.cons hm .nil)
 |red Hd f fs g=>
  obtain⟨R,Rs,h0,h1,h2,h3,h4,h5,h6,h7,h8,h9,h10,h11,h12,h13,h14,h15,h16,h17,h18,h19,h20⟩:=h;dsimp only at h0;subst h0;refine⟨_,Rs,rfl,h1,h2,h3,h4,h5,h6,h7,h8,h9,h10,h11,h12,h13,h14,h15,h16,h17,h18,?_,h20⟩;rw[<-aw];exact dB.append h19 (.cons hm .nil)
def wD(o:ag.Ow)(pm:List gk)(r:Ax.Range):Prop:=match o with
 | .line .in_ _ _=>pm=g7 r.bound
 |_=>pm=qz r
theorem g9.next{A:Ad}{S:RS}{rs:List Ax.Range}{pm:List gk}{o:ag.Ow}{r:Ax.Range}(h:S.g9 A rs pm o\/(∃q w,o=.line .in_ q w/\kg S.ln .in_ q w 0 0/\S.bK=[]/\dB S.hd (fS .in_ rs++pm)/\S.es=[]/\S.r.nested=0/\S.r.axes=rs.length))(hr:wD o pm r):
  RS.g9 A {S with r:={S.r with axes:=S.r.axes+1}} (rs++[r]) [] o:=by
 have ha:((rs++[r]).length:Int)=(rs.length:Int)+1:=by rw[aq];rfl
 have inn:∀q w,o=.line .in_ q w->kg S.ln .in_ q w 0 0->S.bK=[]->dB S.hd (fS .in_ rs++pm)->S.es=[]->S.r.nested=0->S.r.axes=rs.length->RS.g9 A {S with r:={S.r with axes:=S.r.axes+1}} (rs++[r]) [] o:=by
  rintro q w rfl h1 h3 h4 h5 h6 h7;refine⟨h1,by simp,h3,?_,h5,h6,by dsimp only;rw[ha,h7],fun _=>rfl⟩;have hr:pm=g7 r.bound:=hr;subst hr;rw[aK];show dB S.hd ((rs++[r]).flatMap fun r=>g7 r.bound);rw[cq];have h4:dB S.hd ((rs.flatMap fun r=>g7 r.bound)++g7 r.bound):=h4;simpa using h4
 rcases h with h|⟨q,w,e,h1,h3,h4,h5,h6,h7⟩
 ·cases o with
  |line x q w=>
   obtain⟨h1,h2,h3,h4,h5,h6,h7,h8⟩:=h;by_cases hx:x=.in_
   ·subst hx;exact inn q w rfl h1 h3 h4 h5 h6 h7
   ·have hr:pm=qz r:=by cases x<;>first|exact hr|exact absurd rfl hx
    subst hr;refine⟨h1,h2,h3,?_,h5,h6,by dsimp only;rw[ha,h7],fun e=>absurd e hx⟩;rw[aK];have e:∀l,fS x l=dZ l:=fun l=>by cases x<;>first|rfl|exact absurd rfl hx
    rw[e]at h4⊢;rw[sV];exact h4
  |red Hd f fs g=>
   obtain⟨R,Rs,h0,h1,h2,h3,h4,h5,h6,h7,h8,h9,h10,h11,h12,h13,h14,h15,h16,h17,h18,h19,h20⟩:=h;have hr:pm=qz r:=hr;subst hr;refine⟨R,Rs,h0,h1,h2,h3,h4,h5,h6,by dsimp only;rw[ha,h7],h8,h9,h10,h11,h12,h13,h14,h15,h16,h17,h18,?_,h20⟩;rw[aK,sV];exact h19
 ·exact inn q w e h1 h3 h4 h5 h6 h7
def S5(s:ag.St):Prop:=(∃o rs q w,s=.bound o rs q w)\/∃q w rs,s=.iC (.line .in_ q w) rs
theorem yT(T:Txt P w K mg A):Ok P w K mg base 4 A.uL ["reader","token"] (iY A S5):=by
 refine T.BN.ok Iy (fun vs H Q E h=>?_) (fun cdv A' outer s H vs Q E hr h=>?_)
 ·walk_at "vl"
 ·obtain⟨S,t,p,x,s,done,F,rfl,gs,ta,rl,is,gd,hc,sm,hH,kn,ks⟩:=h;refine⟨_,(ae (bg (aO cH (aC (pv 1) rfl) (el (by rfl) T.tF) (bb _)) (ak (cN (aI (uz T) (hr.mono (by decide)) (by rfl) T.rQ.at_ (aa (pv 0) (aa (el (by rfl) T.JV) (aa (pv 1) au)))))) (ak (bg (aO ku (aC (pv 1) rfl) (el (by rfl) T.uG) (bb _)) (ak (aF dO)) aQ)))
   (ae (ij (pv 0) aV qI)
   (ak (aF bF)))),?_⟩
  have hH0:=hH;have hf:=ta.cZ;have hp:=ta.place;obtain⟨o,rs,pm,ow,s1,s2,s3⟩:∃o rs pm,S.g9 A rs pm o/\(∀n,x=.num n->∃r,r.bound=.num n/\ag.step done s p x=some (done,.behind o (rs++[r]))/\wD o pm r)/\
    (∀v,x=.name v->∃r,r.bound=.size p v/\ag.step done s p x=some (done,.behind o (rs++[r]))/\wD o (pm++[⟨"bound",v,p,0⟩]) r)/\((∀n,x≠.num n)->(∀v,x≠.name v)->ag.step done s p x=none):=by
   rcases gs with⟨o,rs,q,wd,rfl⟩|⟨q,wd,rs,rfl⟩
   ·refine⟨o,rs,_,is,?_,?_,?_⟩
    ·rintro n rfl;refine⟨⟨q,wd,.num n⟩,rfl,rfl,?_⟩;cases o with
     |line y a b=>cases y with
      |in_=>exact absurd (is.2.2.2.2.2.2.2 rfl) (by simp)
      |_=>rfl
     |red=>rfl
    ·rintro v rfl;refine⟨⟨q,wd,.size p v⟩,rfl,rfl,?_⟩;cases o with
     |line y a b=>cases y with
      |in_=>exact absurd (is.2.2.2.2.2.2.2 rfl) (by simp)
      |_=>rfl
     |red=>rfl
    ·intro h1 h2;cases x<;>first|rfl|exact absurd rfl (h1 _)|exact absurd rfl (h2 _)
   ·refine⟨.line .in_ q wd,rs,[],is,?_,?_,?_⟩
    ·rintro n rfl;exact⟨⟨0,[],.num n⟩,rfl,rfl,rfl⟩
    ·rintro v rfl;exact⟨⟨0,[],.size p v⟩,rfl,rfl,rfl⟩
    ·intro h1 h2;cases x<;>first|rfl|exact absurd rfl (h1 _)|exact absurd rfl (h2 _)
  have hes:=g9.es ow;have smn:=sm.bo;unfold RS.cells at hH;walk_at "unf";walk_at "rd";rw[dS,hf];by_cases h1:formOf x="name"
  ·obtain⟨v,rfl⟩:=(tK rl).mp h1;obtain⟨r,r1,r2,r3⟩:=s2 v rfl;refine cn (ao h1) ?_;walk_at "rd";walk_at "tn";refine xK hH0 hc smn fun H x dx hH=>?_;rw[<-xQ A S _ F hes]at hH;have hw:=ta.name v rfl;have mi:cx.Is ⟨x,dx,"bound",t.word,(t.place:Int),0⟩ ⟨"bound",v,p,0⟩:=⟨rfl,hw,by rw[hp],rfl⟩;have hk:=xP S ⟨x,dx,"bound",t.word,(t.place:Int),0⟩ hes;have hd:=EA S ⟨x,dx,"bound",t.word,(t.place:Int),0⟩;have ow2:RS.g9 A {S.iP ⟨x,dx,"bound",t.word,(t.place:Int),0⟩with r:={(S.iP ⟨x,dx,"bound",t.word,(t.place:Int),0⟩).r with axes:=(S.iP ⟨x,dx,"bound",t.word,(t.place:Int),0⟩).r.axes+1}} (rs++[r]) [] o:=by
    by_cases hn:∃q w,o=.line .in_ q w
    ·obtain⟨q,w',rfl⟩:=hn;obtain⟨j1,j2,j3,j4,j5,j6,j7,j8⟩:=ow;refine g9.next (pm:=pm++[⟨"bound",v,p,0⟩]) (.inr ⟨q,w',rfl,?_⟩) r3
     have j8:=j8 rfl;obtain⟨r',ds,ln,a6,bK,hd',es⟩:=S;dsimp only at j3;subst j3;refine⟨j1,rfl,?_,j5,j6,j7⟩;rw[<-aw];exact dB.append j4 (.cons mi .nil)
    ·exact g9.next (.inl (g9.add ow mi fun q w e=>hn ⟨q,w,e⟩)) r3
   generalize S.iP ⟨x,dx,"bound",t.word,(t.place:Int),0⟩=S1 at hH hk hd ow2;unfold RS.cells at hH;walk_at "unf";have era:=hk.ra;rw[<-era];walk_at "rd";walk_at "aug";walk_at "rd";exact ks _ _ r2 _ {S1 with r:={S1.r with axes:=S1.r.axes+1}} ⟨⟨hk.ra,hk.dl,hk.fl,hk.st,hk.cur,hk.ln,hk.tl,hk.ml,hk.a6,hk.bo,hk.bK⟩,⟨ow2,by rw[aq];exact mw _⟩,.inl ⟨rfl,hd,by simp⟩⟩ hH
  ·refine bV (fun q=>h1 (ab q)) ?_;walk_at "rd";rw[dS,hf];by_cases h2:formOf x="number"
   ·obtain⟨n,rfl⟩:=(FK rl).mp h2;obtain⟨r,r1,r2,r3⟩:=s1 n rfl;refine bV (by rw[ao h2];exact aE) ?_;walk_at "rd";walk_at "aug";walk_at "rd";exact ks _ _ r2 _ {S with r:={S.r with axes:=S.r.axes+1}} ⟨⟨rfl,rfl,rfl,rfl,rfl,rfl,rfl,rfl,rfl,bc _,bc _⟩,⟨g9.next (.inl ow) r3,by rw[aq];exact mw _⟩,.inl ⟨rfl,rfl,by simp⟩⟩ hH
   ·refine cn (by rw[aY h2];rfl) ?_;walk_at "rd";exact kn (s3 (fun n e=>h2 ((FK rl).mpr ⟨n,e⟩)) fun v e=>h1 ((tK rl).mpr ⟨v,e⟩)) _ (dy hH0)
theorem A0(T:Txt P w K mg A):Ok P w K mg base 5 A.xt ["reader","token"] (iY A fun s=>∃o rs,s=.iC o rs):=by
 refine T.El.ok KR (fun vs H Q E h=>?_) (fun cdv A' outer s H vs Q E hr h=>?_)
 ·walk_at "vl"
 ·obtain⟨S,t,p,x,s,done,F,rfl,⟨o,rs,rfl⟩,ta,rl,is,gd,hc,sm,hH,kn,ks⟩:=h;refine⟨_,(ae (bg (aO cH (aC (aC (pv 0) rfl) rfl) (bZ (by rfl) T.Su) (bb _)) (ak (aF (aI (yT T) (hr.mono (by decide)) (by rfl) T.BN.at_ (aa (pv 0) (aa (pv 1) au))))) aQ)
   (ae (bg (aO ku (aC (pv 1) rfl) (el (by rfl) T.tF) (bb _)) (ak (aF dO)) aQ)
   (ae (cN (aI (uz T) (hr.mono (by decide)) (by rfl) T.rQ.at_ (aa (pv 0) (aa (el (by rfl) T.C9) (aa (pv 1) au)))))
   (ak (aF bF))))),?_⟩
  have hH0:=hH;have hf:=ta.cZ;have hp:=ta.place;have smn:=sm.bo;have hes:=g9.es is;have hrole:decide (S.ln.role=1)=true↔∃q w,o=.line .in_ q w:=by
   rw[decide_eq_true_eq];cases o with
   |line y q w=>
    rw[is.1.role];constructor
    ·intro h;cases y with
     |in_=>exact⟨q,w,rfl⟩
     |size=>exact absurd h (by decide)
     |let_=>exact absurd h (by decide)
     |out=>exact absurd h (by decide)
    ·rintro⟨_,_,e⟩;cases e;rfl
   |red Hd f fs g=>
    obtain⟨R,Rs,h0,h1,h2,_⟩:=is;rw[h1.role];constructor
    ·intro h;generalize hx:Hd.x=y at h h2;cases y with
     |in_=>exact absurd rfl h2
     |size=>exact absurd h (by decide)
     |let_=>exact absurd h (by decide)
     |out=>exact absurd h (by decide)
    ·rintro⟨_,_,e⟩;cases e
  obtain⟨⟨ra,rdx,st,dl,cur,fl,ne,ax,fn⟩,ds,ln,a6,bK,hd,es⟩:=S;dsimp only at hc hes;subst hc;unfold RS.cells at hH;walk_at "unf";walk_at "rd";rw[dI];by_cases h0:decide (ln.role=1)=true
  ·refine cn h0 ?_;obtain⟨q,w',rfl⟩:=hrole.mp h0;walk_at "rd";exact⟨⟨⟨ra,rdx,st,dl,.ref ln.a,fl,ne,ax,fn⟩,ds,ln,a6,bK,hd,es⟩,t,p,x,_,done,F,rfl,.inr ⟨q,w',rs,rfl⟩,ta,rl,is,gd,rfl,sm,hH0,kn,ks⟩
  ·refine bV h0 ?_;have hno:∀q w,o≠.line .in_ q w:=fun q w e=>h0 (hrole.mpr ⟨q,w,e⟩);walk_at "rd";rw[dS,hf];by_cases h1:formOf x="name"
   ·obtain⟨v,rfl⟩:=(tK rl).mp h1;refine bV (by rw[ao h1];exact aE) ?_;have e1:ag.step done (.iC o rs) p (.name v)=some (done,.less o rs p v):=by
     cases o with
     |line y q w=>cases y with
      |in_=>exact absurd rfl (hno q w)
      |_=>rfl
     |red=>rfl
    walk_at "rd";walk_at "tn";refine xK hH0 rfl smn fun H x dx hH=>?_;have hw:=ta.name v rfl;have mi:cx.Is ⟨x,dx,"range",t.word,(t.place:Int),0⟩ ⟨"range",v,p,0⟩:=⟨rfl,hw,by rw[hp],rfl⟩;have hk:=xP (⟨⟨ra,rdx,st,dl,.ref ln.a,fl,ne,ax,fn⟩,ds,ln,a6,bK,hd,es⟩:RS) ⟨x,dx,"range",t.word,(t.place:Int),0⟩ hes;have hd':=EA (⟨⟨ra,rdx,st,dl,.ref ln.a,fl,ne,ax,fn⟩,ds,ln,a6,bK,hd,es⟩:RS) ⟨x,dx,"range",t.word,(t.place:Int),0⟩;have e2:=xQ A (⟨⟨ra,rdx,st,dl,.ref ln.a,fl,ne,ax,fn⟩,ds,ln,a6,bK,hd,es⟩:RS) ⟨x,dx,"range",t.word,(t.place:Int),0⟩ F hes;refine ks _ _ e1 _ _ ⟨hk,g9.add is mi hno,.inl ⟨rfl,hd',by simp⟩⟩ ?_;rw[e2];exact hH
   ·refine cn (by rw[aY h1];rfl) ?_;walk_at "rd";refine kn ?_ _ (dy hH0);cases o with
    |line y q w=>cases y with
     |in_=>exact absurd rfl (hno q w)
     |_=>cases x<;>first|rfl|exact absurd rfl h1
    |red=>cases x<;>first|rfl|exact absurd rfl h1
theorem zN(T:Txt P w K mg A):Ok P w K mg base 6 A.ng ["reader","token"] (iY A fun s=>∃y q w,s=.first y q w):=by
 refine T.BM.ok zm (fun vs H Q E h=>?_) (fun cdv A' outer s H vs Q E hr h=>?_)
 ·walk_at "vl"
 ·obtain⟨S,t,p,x,s,done,F,rfl,⟨y,q,wd,rfl⟩,ta,rl,is,gd,hc,sm,hH,kn,ks⟩:=h;refine⟨_,(ae (bg (aO cH (aC (pv 1) rfl) bF (bb _)) (ak (aF bF)) aQ)
   (ak (aF (aI (A0 T) (hr.mono (by decide)) (by rfl) T.El.at_ (aa (pv 0) (aa (pv 1) au)))))),?_⟩
  have hH0:=hH;have hf:=ta.cZ;walk_at "unf";walk_at "rd";rw[dS,hf];by_cases h1:formOf x="]"
  ·refine cn (ao h1) ?_;obtain rfl:=(uI rl).mp h1;walk_at "rd";obtain⟨i1,i2,i3,i4,i5,i6,i7,i8⟩:=is;rw[aK]at i4;exact ks _ _ rfl _ S ⟨.refl S,⟨i1,i2,i3,i4,i5,i6⟩,.inl ⟨rfl,rfl,by simp⟩⟩ hH0
  ·refine bV (fun q=>h1 (ab q)) ?_;have e1:ag.step done (.first y q wd) p x=ag.step done (.iC (.line y q wd) []) p x:=by
    cases x<;>first|rfl|exact absurd rfl h1
   rw[e1]at kn;walk_at "rd";refine⟨S,t,p,x,.iC (.line y q wd) [],done,F,rfl,⟨_,_,rfl⟩,ta,rl,is,⟨by decide,trivial⟩,hc,sm,hH0,kn,?_⟩;rw[<-e1];exact ks
theorem yx(T:Txt P w K mg A):Ok P w K mg base 2 A.lV ["reader","token"] (iY A fun s=>∃o rs,s=.behind o rs):=by
 refine T.z4.ok yh (fun vs H Q E h=>?_) (fun cdv A' outer s H vs Q E hr h=>?_)
 ·walk_at "vl"
 ·obtain⟨S,t,p,x,s,done,F,rfl,⟨o,rs,rfl⟩,ta,rl,is,gd,hc,sm,hH,kn,ks⟩:=h;refine⟨_,(ae (bg (PW.pt (jP (aO cH (aC (pv 1) rfl) bF (bb _)) (iJ (aO rn (aC (pv 0) rfl) (bZ (by rfl) T.y2) (bb _))))) (ak (aF bF)) aQ)
   (ae (bg (zF (aC (pv 0) rfl) (fun _=>rfl)) (ak (aF (eV (aO cH (aC (pv 1) rfl) bF (bb _)) (aI (E4 T) (hr.mono (by decide)) (by rfl) T.xD.at_ (aa (de cO (aC (pv 0) rfl) (pT mG aV) (fun _ _=>rfl)) (aa (aC (pv 0) rfl) au))) dO))) aQ)
   (ak (aF (eV (aO cH (aC (pv 1) rfl) bF (bb _)) (aI (IG T) (hr.mono (by decide)) (by rfl) T.BK.at_ (aa (aC (pv 0) rfl) (aa (aC (pv 0) rfl) au))) dO))))),?_⟩
  have hH0:=hH;have hf:=ta.cZ;obtain⟨ow,hrs⟩:=is;have hax:S.r.axes=rs.length:=by
   cases o with
   |line y q w=>exact ow.2.2.2.2.2.2.1
   |red=>obtain⟨R,Rs,h⟩:=ow;exact h.2.2.2.2.2.2.2.1
  have hr4:rs.length<=4:=gd.1;unfold RS.cells at hH;walk_at "unf";walk_at "rd";rw[dS,hf];by_cases h1:formOf x=","/\rs.length<4
  ·obtain rfl:=(ya rl).mp h1.1;refine cn (ao h1.1) ?_;walk_at "rd";refine cn (ao (by rw[hax];have:=h1.2;omega)) ?_;walk_at "rd";have e1:ag.step done (.behind o rs) p .comma=some (done,.iC o rs):=by
    show(if rs.length<4 then _ else _)=_;rw[ai h1.2]
   exact ks _ _ e1 _ S ⟨.refl S,ow,.inl ⟨rfl,rfl,by simp⟩⟩ hH0
  ·have hcm:∀c:Bool,decide (formOf x=",")=c->c=true->¬rs.length<4:=fun c e1 e2 h=>h1 ⟨ab (e1.trans e2),h⟩;have hne:x=.comma->¬rs.length<4:=fun e h=>h1 ⟨by rw[e];rfl,h⟩;cases o with
   |line y q w'=>
    obtain⟨i1,i2,i3,i4,i5,i6,i7,i8⟩:=ow;obtain⟨⟨ra,rdx,st,dl,cur,fl,ne,ax,fn⟩,ds,ln,a6,bK,hd,es⟩:=S;dsimp only at hc i3 hax;subst hc i3;by_cases h2:formOf x=","
    ·obtain rfl:=(ya rl).mp h2;refine cn (ao h2) ?_;walk_at "rd";refine bV (fun q=>hne rfl (by have:=ab q;dsimp only at this;rw[hax]at this;omega)) ?_;walk_at "rd";refine⟨_,.inl ⟨_,bY.of (hH.get 3 rfl),rfl⟩,?_⟩;walk_at "rd";rw[dS,hf];refine bV (by show ¬decide (Str.ofString ","=Str.ofString "]")=true;decide +kernel) ?_;walk_at "rd";exact kn (by show(if rs.length<4 then _ else _)=_;rw[af (hne rfl)]) _ (dy hH0)
    ·refine bV (fun q=>h2 (ab q)) ?_;walk_at "rd";refine⟨_,.inl ⟨_,bY.of (hH.get 3 rfl),rfl⟩,?_⟩;walk_at "rd";rw[dS,hf];by_cases h3:formOf x="]"
     ·obtain rfl:=(uI rl).mp h3;refine cn (ao h3) ?_;walk_at "rd";have hH:=Holds.reorder hH 5 [4,0,1,2,3] rfl;walk_at "ro";refine⟨ln,ax,_,rfl,hH,fun H hH=>?_⟩;have hH:=Holds.reorder hH 5 [1,2,3,4,0] rfl;walk_at "ro";rw[aK]at i4;exact ks _ _ rfl _ ⟨⟨ra,rdx,st,dl,.ref ln.a,fl,ne,ax,fn⟩,ds,{ln with rank:=ax},a6,[],hd,es⟩ ⟨⟨rfl,rfl,rfl,rfl,rfl,rfl,rfl,rfl,rfl,bc _,bc _⟩,⟨⟨i1.role,i1.name,i1.place,i1.kind,hax⟩,i2,rfl,i4,i5,i6⟩,.inl ⟨rfl,rfl,by simp⟩⟩ hH
     ·refine bV (fun q=>h3 (ab q)) ?_;walk_at "rd";refine kn ?_ _ (dy hH0);cases x<;>first|rfl|exact absurd rfl h2|exact absurd rfl h3
   |red Hd f fs g=>
    obtain⟨R,Rs,h0,j1,j2,j3,j4,j5,j6,j7,j8,j9,j10,j11,j12,j13,j14,j15,j16,j17,j18,j19,j20⟩:=ow;obtain⟨⟨ra,rdx,st,dl,cur,fl,ne,ax,fn⟩,ds,ln,a6,bK,hd,es⟩:=S;dsimp only at hc h0 hax;subst hc h0;rw[aK]at j19;have hfr:=kY R Rs;have hne2:(!(bX (R::Rs)).isEmpty)=true:=by rw[hfr];simp
    by_cases h2:formOf x=","
    ·obtain rfl:=(ya rl).mp h2;refine cn (ao h2) ?_;walk_at "rd";refine bV (fun q=>hne rfl (by have:=ab q;dsimp only at this;rw[hax]at this;omega)) ?_;walk_at "rd";refine⟨_,.inl ⟨_,bY.of (hH.get 3 rfl),rfl⟩,?_⟩;refine cn hne2 ?_;walk_at "rd";rw[dS,hf];refine bV (by show ¬decide (Str.ofString ","=Str.ofString ":")=true;decide +kernel) ?_;walk_at "rd";exact kn (by show(if rs.length<4 then _ else _)=_;rw[af (hne rfl)]) _ (dy hH0)
    ·refine bV (fun q=>h2 (ab q)) ?_;walk_at "rd";refine⟨_,.inl ⟨_,bY.of (hH.get 3 rfl),rfl⟩,?_⟩;refine cn hne2 ?_;walk_at "rd";rw[dS,hf];by_cases h3:formOf x=":"
     ·obtain rfl:=(J1 rl).mp h3;refine cn (ao h3) ?_;walk_at "rd";have hl:=kd (bX Rs) (V.ref R.f.a);have hH:=hH0;rw[cp]at hH;unfold cI at hH;have hH1:=hH;walk_at "unf";walk_at "ix";walk_at "rd";have hH:=Holds.reorder hH1 8 [7,0,1,2,3,4,5,6] rfl;walk_at "ro";refine⟨R.f,ax,_,rfl,hH,fun H hH=>?_⟩;have hH:=Holds.reorder hH 8 [1,2,3,4,5,6,7,0] rfl;walk_at "ro";refine ks _ _ rfl _ ⟨⟨ra,rdx,st,dl,.ref ln.a,fl,ne,ax,fn⟩,ds,ln,a6,{R with f:={R.f with ranges:=ax}}::Rs,hd,es⟩ ⟨⟨rfl,rfl,rfl,rfl,rfl,rfl,rfl,rfl,rfl,bc _,bc _⟩,⟨⟨j1,j2,j3,.cons ?_ j4,?_,?_⟩,j6,by simp⟩,.inl ⟨rfl,rfl,by simp⟩⟩ ?_
      ·exact lP j8 j9 j10 j11 j12 j13 hax hrs j15 j16 j17 j18 j19
      ·rintro f' r' e;cases e;rw[fb];exact j5
      ·rintro f' r' e;cases e;have:=fb (.red g rs) f fs;omega
      ·rw[cp];exact hH
     ·refine bV (fun q=>h3 (ab q)) ?_;walk_at "rd";refine kn ?_ _ (dy hH0);cases x<;>first|rfl|exact absurd rfl h2|exact absurd rfl h3
theorem TR{H:Hp}{c0 c1 c2 c3 c4 c5 c6 c7 c8 c9:Cell}{L:List Cell}(h:Holds H (c0::c1::c2::c3::c4::c5::c6::c7::c8::c9::L)):Holds H (c0::c1::c2::c3::c4::c5::c6::c7::c8::L):=
 h.sub (.cons_cons _ (.cons_cons _ (.cons_cons _ (.cons_cons _ (.cons_cons _ (.cons_cons _ (.cons_cons _ (.cons_cons _ (.cons_cons _ (aW _ _))))))))))
theorem Ob:∀k:ag.Wd,tX k->eF (.str (eU k)) dD=(match k with| .red _=>true|_=>false):=by
 intro k h;cases k with
 |fn1 o=>cases o<;>first|exact False.elim h|decide +kernel
 |fn2 o=>cases o<;>first|exact False.elim h|decide +kernel
 |cond=>decide +kernel
 |red g=>cases g<;>decide +kernel
def wantedOf:ag.Wd->Int
 | .fn1 _=>1
 | .fn2 _=>2
 | .cond=>3
 | .red _=>0
theorem tV:∀k:ag.Wd,tX k->(∀g,k≠.red g)->cv dF (Sum.inr (eU k))=some (.int (wantedOf k)):=by
 intro k h hn;cases k with
 |fn1 o=>cases o<;>first|exact False.elim h|decide +kernel
 |fn2 o=>cases o<;>first|exact False.elim h|decide +kernel
 |cond=>decide +kernel
 |red g=>exact absurd rfl (hn g)
theorem GI(T:Txt P w K mg A):Ok P w K mg base 3 A.sG ["reader","token"] (iY A fun s=>∃y q w rs k,s=.equals y q w rs k):=by
 refine T.Je.ok we (fun vs H Q E h=>?_) (fun cdv A' outer s H vs Q E hr h=>?_)
 ·walk_at "vl"
 ·obtain⟨S,t,p,x,s,done,F,rfl,⟨y,q,wd,rs,kk,rfl⟩,ta,rl,is,gd,hc,sm,hH,kn,ks⟩:=h;refine⟨_,(ae (bg (aO ku (aC (pv 1) rfl) bF (bb _)) (ak (aF dO)) aQ)
   (ae (bp (i:=2) we.nd rfl (Or.inl rfl) (d5 (qE T) (hr.mono (by decide)) (by rfl) T.tq (aa bF (aa aV (aa aV au)))))
   (ae (cN (aI (n8 T) (hr.mono (by decide)) (by rfl) T.ll.at_ (aa (pv 2) au)))
   (ae (cN (hZ bj bO bN e7 (aC (pv 0) rfl) (aa (pv 2) au)))
   (ak (aF bF)))))),?_⟩
  have hH0:=hH;have hf:=ta.cZ;unfold RS.cells at hH;have hH1:=hH;walk_at "unf";walk_at "rd";rw[dS,hf];by_cases h1:formOf x="="
  ·obtain rfl:=(UM rl).mp h1;refine bV (by rw[ao h1];exact aE) ?_;obtain⟨i1,i2,i3,i4,i5,i6⟩:=is;obtain⟨r,ds,ln,a6,bK,hd,es⟩:=S;dsimp only at i3 i5 i6 i4 i1 hc;subst i3 i5;have hH:=hH1;dsimp only at hH;walk_at "mk";refine⟨x,dx,_,_,_,_,rfl,hH,fun H rl hH=>⟨rfl,?_⟩⟩;have hH:=Holds.reorder hH 2 [1,0] rfl;walk_at "ro";walk_at "rd";refine⟨_,_,rfl,hH,fun H rl2 hH=>?_⟩;dsimp only at hH;have hH2:=hH;walk_at "unf";walk_at "rd";refine⟨ty_list (hH.get 6 rfl),?_⟩;walk_at "rd";walk_at "tn";refine jC hH2 6 rfl (by rw[sizeLine_eq];decide) fun H hH=>?_;walk_at "nrm";walk_at "rd";have hH:=Holds.reorder hH 10 [3,4,5,6,7,8,9,1,0,2] rfl;walk_at "ro";refine ks _ _ rfl _ ⟨r,ds,ln,a6,[⟨⟨x,dx,";",1,1,0+1,false,.bA,0,false,rl2,A.cu,0⟩,[0,0,0,0,0,0],-1,1,[],[]⟩],hd,[]⟩ ⟨⟨rfl,rfl,rfl,rfl,rfl,rfl,rfl,rfl,rfl,bc _,aD _⟩,⟨⟨i1,i2,i4,.cons ?_ .nil,?_,?_⟩,rfl,by simp⟩,.inl ⟨rfl,rfl,by simp⟩⟩ ?_
   ·exact lP rfl rfl rfl rfl rfl rfl rfl trivial rfl rfl rfl .no .nil
   ·rintro f' r' e;cases e;exact i6
   ·rintro f' r' e;cases e;exact cE _
   ·rw[cp];exact TR hH
  ·refine cn (by rw[aY h1];rfl) ?_;walk_at "rd";exact kn (by cases x<;>first|rfl|exact absurd rfl h1) _ (dy hH0)
theorem xJ{A:Ad}{H:Hp}{Q:VK}{E:XK}{t:cf}{r:d8}{ds:List V}{ln:k8}{a6:List V}{bo:List cx}{Rs:List fW}{F:List Cell}{f:fK}(hH:Holds H (f.c A::t.c1 A::cellsOf A r ds (bX Rs) ln a6 bo (cg A Rs) F))(hz:Rs.length<=5000)
  (k:∀H' rl,Holds H' (t.c1 A::cI A {r with nested:=r.nested+1} ds (bX Rs) ln a6 bo ⟨{f with begun:=f.begun+1,compared:=false,rl:=rl},[0,0,0,0,0,0],-1,1,[],[]⟩ (cg A Rs) F)->Q .bA H'):Jy A [.ref r.a,.ref f.a] H Q E:=by
 unfold cellsOf at hH;have hH:=Holds.reorder hH 8 [2,4,0,1,3,5,6,7] rfl;walk_at "ro";refine⟨r,f,bX Rs,_,rfl,hH,by unfold bX;rw[aP,nu];omega,fun H' rl hH=>k H' rl ?_⟩;have hH:=Holds.reorder hH 9 [4,2,5,3,6,7,8,1,0] rfl;walk_at "ro";exact hH
theorem yt(T:Txt P w K mg A):Ok P w K mg base 3 A.lS ["reader","token"] (iY A fun s=>∃k Hd f fs,s=.word k Hd f fs):=by
 refine T.zZ.ok pH (fun vs H Q E h=>?_) (fun cdv A' outer s H vs Q E hr h=>?_)
 ·walk_at "vl"
 ·obtain⟨S,t,p,x,s,done,F,rfl,⟨kw,Hd,f,fs,rfl⟩,ta,rl,is,gd,hc,sm,hH,kn,ks⟩:=h;refine⟨_,(ae (bg (aO ku (aC (pv 1) rfl) bF (bb _)) (ak (aF dO)) aQ)
   (ae (bg (aO fE (aC (pv 0) rfl) (dH (by rfl) T.qJ) rfl) (ae (cN (aI (xZ T) (hr.mono (by decide)) (by rfl) T.xB.at_ (aa (pv 0) (aa (d5 (qE T) (hr.mono (by decide)) (by rfl) T.tq (aa bF (aa aV (aa aV au)))) au))))
   (ae (bu (pv 0) aV rfl)
   (ak (aF bF)))) aQ)
   (ae (bp (i:=2) pH.nd rfl (Or.inl rfl) (sZ (gx hr) (dH (by rfl) T.sE) (aC (pv 0) rfl) (fun _ _=>rfl)))
   (ae (cN (aI (xZ T) (hr.mono (by decide)) (by rfl) T.xB.at_ (aa (pv 0) (aa (d5 (qE T) (hr.mono (by decide)) (by rfl) T.tq (aa bF (aa (pv 2) (aa (pv 2) au)))) au))))
   (ak (aF bF)))))),?_⟩
  have hH0:=hH;have hf:=ta.cZ;unfold RS.cells at hH;walk_at "unf";walk_at "rd";rw[dS,hf];by_cases h1:formOf x="("
  ·obtain rfl:=(Dg rl).mp h1;refine bV (by rw[ao h1];exact aE) ?_;have gdp:ag.depth f fs<20:=gd.2;obtain⟨⟨i1,i2,i3,i4,i5,i9⟩,i6,i7,i8⟩:=is;obtain⟨⟨ra,rdx,st,dl,cur,fl,ne,ax,fn⟩,ds,ln,a6,bK,hd,es⟩:=S;dsimp only at i1 i3 i4 i5 i6 i7 hc;subst i6 i7 hc;have smf:=sm.bK;dsimp only at smf;walk_at "rd";refine⟨A.kf,dD,rfl,.inr (T.qc.sq _),rfl,by decide +kernel,_,rfl,?_⟩;show if eF (V.str (eU kw)) dD=true then _ else _
   rw[Ob kw i8];have hH:=hH0;cases kw with
   |red g=>
    refine cn rfl ?_;walk_at "rd";walk_at "mk";refine⟨x,dx,_,_,_,_,rfl,hH,fun H rl hH=>⟨rfl,?_⟩⟩;walk_at "tn";refine xJ (f:=⟨x,dx,")",1,1,0,false,.bA,0,false,rl,A.cu,0⟩) hH.tl smf fun H rl2 hH=>?_;unfold cI at hH;dsimp only at hH;walk_at "unf";walk_at "rd";walk_at "st";walk_at "rd";refine ks _ _ rfl _ ⟨⟨ra,rdx,st,dl,.ref ln.a,fl,ne+1,0,Cz g⟩,ds,ln,a6,⟨⟨x,dx,")",1,1,0+1,false,.bA,0,false,rl2,A.cu,0⟩,[0,0,0,0,0,0],-1,1,[],[]⟩::bK,hd,[]⟩ ⟨⟨rfl,rfl,rfl,rfl,rfl,rfl,rfl,rfl,rfl,?_,aD _⟩,?_,.inl ⟨rfl,rfl,by simp⟩⟩ ?_
    ·simp[RS.bo,bM]
    ·exact⟨_,bK,rfl,i1,i2,i3,i4,by rw[i5 f fs rfl],rfl,rfl,rfl,rfl,rfl,rfl,rfl,rfl,rfl,rfl,rfl,rfl,.no,.nil,gdp⟩
    ·rw[cp];unfold cI;have e:hd++((bM bK++[])++[])=RS.bo ⟨⟨ra,rdx,st,dl,.ref ln.a,fl,ne,ax,eU (.red g)⟩,ds,ln,a6,bK,hd,[]⟩:=by simp[RS.bo]
     dsimp only;rw[e];exact hH
   |fn1 o=>
    refine bV aE ?_;walk_at "rd";refine⟨A.iE,.int 1,rfl,.inl ⟨dF,Sum.inr (eU (.fn1 o)),T.kX,rfl,(tV (.fn1 o) i8 (by simp)).symm⟩,?_⟩;walk_at "rd";walk_at "mk";refine⟨x,dx,_,_,_,_,rfl,hH,fun H rl hH=>⟨rfl,?_⟩⟩;walk_at "tn";refine xJ (f:=⟨x,dx,")",1,1,0,false,.bA,0,false,rl,A.cu,0⟩) hH.tl smf fun H rl2 hH=>?_;walk_at "rd";refine ks _ _ rfl _ ⟨⟨ra,rdx,st,dl,.ref ln.a,fl,ne+1,ax,eU (.fn1 o)⟩,ds,ln,a6,⟨⟨x,dx,")",1,1,0+1,false,.bA,0,false,rl2,A.cu,0⟩,[0,0,0,0,0,0],-1,1,[],[]⟩::bK,hd,[]⟩ ⟨⟨rfl,rfl,rfl,rfl,rfl,rfl,rfl,rfl,rfl,?_,aD _⟩,⟨⟨i1,i2,i3,.cons ?_ i4,?_,?_⟩,rfl,by simp⟩,.inl ⟨rfl,rfl,by simp⟩⟩ ?_
    ·simp[RS.bo,bM]
    ·exact lP (c:=.fn1 o) rfl rfl rfl rfl rfl rfl rfl trivial rfl rfl rfl .no .nil
    ·rintro f' r' e;cases e;rw[fb];dsimp only;rw[i5 f fs rfl]
    ·rintro f' r' e;cases e;have:=fb (ag.Ctx.top) f fs;show ag.depth (ag.cy .top) (f::fs)<=20;omega
    ·rw[cp];have e:hd++((bM bK++[])++[])=RS.bo ⟨⟨ra,rdx,st,dl,.ref ln.a,fl,ne,ax,eU (.fn1 o)⟩,ds,ln,a6,bK,hd,[]⟩:=by simp[RS.bo]
     dsimp only;rw[e];exact hH
   |fn2 o=>
    refine bV aE ?_;walk_at "rd";refine⟨A.iE,.int 2,rfl,.inl ⟨dF,Sum.inr (eU (.fn2 o)),T.kX,rfl,(tV (.fn2 o) i8 (by simp)).symm⟩,?_⟩;walk_at "rd";walk_at "mk";refine⟨x,dx,_,_,_,_,rfl,hH,fun H rl hH=>⟨rfl,?_⟩⟩;walk_at "tn";refine xJ (f:=⟨x,dx,")",2,2,0,false,.bA,0,false,rl,A.cu,0⟩) hH.tl smf fun H rl2 hH=>?_;walk_at "rd";refine ks _ _ rfl _ ⟨⟨ra,rdx,st,dl,.ref ln.a,fl,ne+1,ax,eU (.fn2 o)⟩,ds,ln,a6,⟨⟨x,dx,")",2,2,0+1,false,.bA,0,false,rl2,A.cu,0⟩,[0,0,0,0,0,0],-1,1,[],[]⟩::bK,hd,[]⟩ ⟨⟨rfl,rfl,rfl,rfl,rfl,rfl,rfl,rfl,rfl,?_,aD _⟩,⟨⟨i1,i2,i3,.cons ?_ i4,?_,?_⟩,rfl,by simp⟩,.inl ⟨rfl,rfl,by simp⟩⟩ ?_
    ·simp[RS.bo,bM]
    ·exact lP (c:=.fn2 o) rfl rfl rfl rfl rfl rfl rfl trivial rfl rfl rfl .no .nil (by intro o' q;cases q;cases o<;>first|exact False.elim i8|decide)
    ·rintro f' r' e;cases e;rw[fb];dsimp only;rw[i5 f fs rfl]
    ·rintro f' r' e;cases e;have:=fb (ag.Ctx.top) f fs;show ag.depth (ag.cy .top) (f::fs)<=20;omega
    ·rw[cp];have e:hd++((bM bK++[])++[])=RS.bo ⟨⟨ra,rdx,st,dl,.ref ln.a,fl,ne,ax,eU (.fn2 o)⟩,ds,ln,a6,bK,hd,[]⟩:=by simp[RS.bo]
     dsimp only;rw[e];exact hH
   |cond=>
    refine bV aE ?_;walk_at "rd";refine⟨A.iE,.int 3,rfl,.inl ⟨dF,Sum.inr (eU .cond),T.kX,rfl,(tV .cond i8 (by simp)).symm⟩,?_⟩;walk_at "rd";walk_at "mk";refine⟨x,dx,_,_,_,_,rfl,hH,fun H rl hH=>⟨rfl,?_⟩⟩;walk_at "tn";refine xJ (f:=⟨x,dx,")",3,3,0,false,.bA,0,false,rl,A.cu,0⟩) hH.tl smf fun H rl2 hH=>?_;walk_at "rd";refine ks _ _ rfl _ ⟨⟨ra,rdx,st,dl,.ref ln.a,fl,ne+1,ax,eU .cond⟩,ds,ln,a6,⟨⟨x,dx,")",3,3,0+1,false,.bA,0,false,rl2,A.cu,0⟩,[0,0,0,0,0,0],-1,1,[],[]⟩::bK,hd,[]⟩ ⟨⟨rfl,rfl,rfl,rfl,rfl,rfl,rfl,rfl,rfl,?_,aD _⟩,⟨⟨i1,i2,i3,.cons ?_ i4,?_,?_⟩,rfl,by simp⟩,.inl ⟨rfl,rfl,by simp⟩⟩ ?_
    ·simp[RS.bo,bM]
    ·exact lP (c:=.cond) rfl rfl rfl rfl rfl rfl rfl trivial rfl rfl rfl .no .nil
    ·rintro f' r' e;cases e;rw[fb];dsimp only;rw[i5 f fs rfl]
    ·rintro f' r' e;cases e;have:=fb (ag.Ctx.top) f fs;show ag.depth (ag.cy .top) (f::fs)<=20;omega
    ·rw[cp];have e:hd++((bM bK++[])++[])=RS.bo ⟨⟨ra,rdx,st,dl,.ref ln.a,fl,ne,ax,eU .cond⟩,ds,ln,a6,bK,hd,[]⟩:=by simp[RS.bo]
     dsimp only;rw[e];exact hH
  ·refine cn (by rw[aY h1];rfl) ?_;walk_at "rd";exact kn (by cases x<;>first|rfl|exact absurd rfl h1) _ (dy hH0)
def fW.over(A:Ad)(R:fW):fW:=⟨⟨R.f.a,R.f.dx,R.f.closer,R.f.gj,R.f.most,R.f.begun,R.f.grouping,R.f.array,R.f.ranges,R.f.compared,R.f.rl,A.cu,0⟩,R.rows,-1,1,[],R.ms⟩
theorem P1{A:Ad}{H:Hp}{Q:VK}{E:XK}{t:cf}{r:d8}{ds fr:List V}{ln:k8}{a6:List V}{bo:List cx}{R:fW}{fc F:List Cell}(hH:Holds H (t.c1 A::cI A r ds fr ln a6 bo R fc F))
  (k:∀H',Holds H' (t.c1 A::cI A {r with nested:=r.nested - R.f.bq} ds fr ln a6 bo (R.over A) fc F)->Q (.str "behind value") H'):sQ A [.ref r.a,.ref A.cu] H Q E:=by
 unfold cI at hH;have hH:=Holds.reorder hH 8 [1,3,7,0,2,4,5,6] rfl;walk_at "ro";refine⟨r,R.f,fr,A.cu,_,rfl,hH,fun H' hH=>k H' ?_⟩;have hH:=Holds.reorder hH 8 [3,0,4,1,5,6,7,2] rfl;walk_at "ro";rw[ite_self]at hH;unfold cI;exact hH.sub (.cons_cons _ (.cons_cons _ (.cons_cons _ (.cons_cons _ (.cons_cons _ (.cons_cons _ (.cons_cons _ (.cons_cons _ (.cons_cons _ (aL _ _))))))))))
theorem tf{A:Ad}{R:fW}{f:ag.Fr}(h:R.Is A f):fW.Is A (R.over A) {f with pre:=[]}:=
 ⟨h.closer,h.gj,h.most,h.begun,h.grouping,h.array,h.ranges,h.red,h.compared,h.cmp,h.rows,h.good,h.le,rfl,.no,h.bo,h.args,h.fn2⟩
theorem nh(f:ag.Fr)(fs:List ag.Fr):((ag.depth f fs:Nat):Int) - f.pre.length=(ag.depth {f with pre:=[]} fs:Nat):=by
 unfold ag.depth;show _=((ag.base fs+0:Nat):Int);omega
theorem qC(pre:List Ax.Un)(e:Ax.Expr)(h:∀lev,2<=lev->Ax.operands lev e=1):xS (ag.fT pre e) (-1) 1:=by
 refine QD ?_
 induction pre generalizing e with
 |nil=>exact h
 |cons u pre ih=>exact ih (.un u e) fun _ _=>rfl
section
variable{A:Ad}{H:Hp}{Q:VK}{E:XK}{t:cf}{r:d8}{ds:List V}{ln:k8}{a6:List V}{bo pre post:List cx}{R G:fW}{Rs:List fW}{F:List Cell}{m:cx}
theorem oB{c0 c1 c2 c3 c4 c5 c6:Cell}{L M:List Cell}(h:M.Sublist L):(c0::c1::c2::c3::c4::c5::c6::M).Sublist (c0::c1::c2::c3::c4::c5::c6::L):=.cons_cons _ (.cons_cons _ (.cons_cons _ (.cons_cons _ (.cons_cons _ (.cons_cons _ (.cons_cons _ h))))))
theorem ua(hH:Holds H (t.c1 A::cI A r ds (bX (G::Rs)) ln a6 bo R (cg A (G::Rs)) F)):
  Holds H (t.c1 A::r.c A::(r.dl,.lst ds)::(r.fl,.lst ((bX Rs++[V.ref G.f.a])++[V.ref R.f.a]))::ln.c A::(ln.tl,.lst a6)::(ln.ml,.lst (b8 bo))::R.f.c A::(R.f.rl,.lst (zs R.rows))::(R.M++(G.f.c A::(G.f.rl,.lst (zs G.rows))::(G.M++(cg A Rs++(cB A bo++F)))))):=by
 unfold cI at hH;rw[kY]at hH;have e:cg A (G::Rs)++(cB A bo++F)=G.f.c A::(G.f.rl,.lst (zs G.rows))::(G.M++(cg A Rs++(cB A bo++F))):=by
  show(G.f.c A::(G.f.rl,.lst (zs G.rows))::(G.M++cg A Rs))++(cB A bo++F)=_;rw[List.cons_append,List.cons_append,aw]
 rw[e]at hH;exact hH
theorem rp{r':d8}{G':fW}(hH:Holds H (t.c1 A::r'.c A::(r'.dl,.lst ds)::(r'.fl,.lst (bX Rs++[V.ref G'.f.a]))::ln.c A::(ln.tl,.lst a6)::(ln.ml,.lst (b8 bo))::G'.f.c A::(G'.f.rl,.lst (zs G'.rows))::(G'.M++(cg A Rs++(cB A bo++F))))):
  Holds H (t.c1 A::cI A r' ds (bX Rs) ln a6 bo G' (cg A Rs) F):=hH
theorem xM(hH:Holds H (t.c1 A::cI A r ds (bX (G::Rs)) ln a6 bo R (cg A (G::Rs)) F))(h1:R.f.grouping=false)(h2:R.f.array=.bA)(h3:R.f.ranges=0)
  (k:∀H',Holds H' (t.c1 A::cI A {r with nested:=r.nested - 1 - G.f.bq} ds (bX Rs) ln a6 bo (G.over A) (cg A Rs) F)->Q (.str "behind value") H'):nG A [.ref r.a] H Q E:=by
 have hH:=ua hH;have hH:=hH.sub (oB (.cons_cons _ (.cons _ (aL _ _))));have hH:=Holds.reorder hH 9 [1,3,8,7,0,2,4,5,6] rfl;walk_at "ro";refine .inr (.inr (.inl ⟨r,bX Rs,G.f,R.f,_,rfl,h1,h2,h3,hH,fun H' hH=>k H' (rp ?_)⟩));have hH:=Holds.reorder hH 8 [3,0,4,1,5,6,7,2] rfl;walk_at "ro";exact hH.sub (oB (.cons_cons _ (.cons_cons _ (aL _ _))))
theorem wX(A:Ad)(pre post:List cx)(m:cx)(X:List Cell):List.Perm (m.c A::(cB A (pre++post)++X)) (cB A (pre++m::post)++X):=by
 unfold cB;rw[bC,bC,a8];exact((bh (l₁:=pre.map (cx.c A)) (l₂:=post.map (cx.c A)) (a:=m.c A)).symm.append_right X)
theorem IZ(pre post:List cx)(m m':cx)(e:m'.a=m.a):b8 (pre++m'::post)=b8 (pre++m::post):=by
 unfold b8;rw[bC,bC,a8,a8,e]
theorem Er(hH:Holds H (t.c1 A::cI A r ds (bX (G::Rs)) ln a6 (pre++m::post) R (cg A (G::Rs)) F))(h1:R.f.grouping=false)(h2:R.f.array=.ref m.a)(h3:R.f.ranges=0)
  (k:∀H',Holds H' (t.c1 A::cI A {r with nested:=r.nested - 1 - G.f.bq} ds (bX Rs) ln a6 (pre++{m with count:=R.f.begun}::post) (G.over A) (cg A Rs) F)->Q (.str "behind value") H'):nG A [.ref r.a] H Q E:=by
 have hH:=ua hH;have hH:=hH.sub (oB (.cons_cons _ (.cons _ (aL _ _))));have hH:Holds H (m.c A::t.c1 A::r.c A::(r.dl,.lst ds)::(r.fl,.lst ((bX Rs++[V.ref G.f.a])++[V.ref R.f.a]))::ln.c A::(ln.tl,.lst a6)::(ln.ml,.lst (b8 (pre++m::post)))::R.f.c A::G.f.c A::(G.f.rl,.lst (zs G.rows))::(G.M++(cg A Rs++(cB A (pre++post)++F)))):=by
  refine hH.perm (List.Perm.symm ?_);refine(bh (l₁:=[t.c1 A,r.c A,(r.dl,.lst ds),(r.fl,.lst ((bX Rs++[V.ref G.f.a])++[V.ref R.f.a])),ln.c A,(ln.tl,.lst a6),(ln.ml,.lst (b8 (pre++m::post))),R.f.c A,G.f.c A,(G.f.rl,.lst (zs G.rows))])).symm.trans ?_;refine cz _ ?_;refine(bh (l₁:=G.M)).symm.trans (cz _ ?_);refine(bh (l₁:=cg A Rs)).symm.trans (cz _ ?_);exact wX A pre post m F
 have hH:=Holds.reorder hH 10 [2,4,9,8,0,1,3,5,6,7] rfl;walk_at "ro";refine .inr (.inr (.inr (.inl ⟨r,bX Rs,G.f,R.f,m,_,rfl,h1,h2,h3,hH,fun H' hH=>k H' (rp ?_)⟩)));have hH:=Holds.reorder hH 9 [4,0,5,1,6,7,8,2,3] rfl;walk_at "ro";rw[IZ pre post m {m with count:=R.f.begun} rfl];have hH:=hH.perm (?_:List.Perm _ (t.c1 A::d8.c A {r with nested:=r.nested - 1 - G.f.bq}::(r.dl,.lst ds)::(r.fl,.lst (bX Rs++[V.ref G.f.a]))::ln.c A::(ln.tl,.lst a6)::(ln.ml,.lst (b8 (pre++m::post)))::(G.over A).f.c A::(G.f.rl,.lst (zs G.rows))::(G.M++(cg A Rs++(cB A (pre++{m with count:=R.f.begun}::post)++F)))))
 ·exact hH.sub (oB (.cons_cons _ (.cons_cons _ (aL _ _))))
 ·refine .cons _ (.cons _ (.cons _ (.cons _ (.cons _ (.cons _ (.cons _ (.cons _ ?_)))))));refine(List.Perm.swap _ _ _).trans (.cons _ ?_);refine(bh (l₁:=G.M)).symm.trans (cz _ ?_);refine(bh (l₁:=cg A Rs)).symm.trans (cz _ ?_);exact wX A pre post {m with count:=R.f.begun} F
theorem NI(hH:Holds H (t.c1 A::cI A r ds (bX (G::Rs)) ln a6 bo R (cg A (G::Rs)) F))(h1:R.f.grouping=false)(h2:R.f.array=.bA)(h3:0<R.f.ranges)(hc:r.cur=.ref ln.a)(hz:bo.length<=5000)
  (k:∀H' x dx,Holds H' (t.c1 A::cI A {r with nested:=r.nested - 1 - G.f.bq} ds (bX Rs) ln a6 (bo++[⟨x,dx,"end","",0,R.f.ranges⟩]) (G.over A) (cg A Rs) F)->Q (.str "behind value") H'):nG A [.ref r.a] H Q E:=by
 have hH:=ua hH;have hH:=hH.sub (oB (.cons_cons _ (.cons _ (aL _ _))));have hH:=Holds.reorder hH 9 [1,3,8,7,4,6,0,2,5] rfl;walk_at "ro";refine .inr (.inr (.inr (.inr ⟨r,bX Rs,b8 bo,G.f,R.f,ln,_,rfl,h1,h2,h3,hc,by rw[oG];omega,hH,fun H' x dx hH=>k H' x dx (rp ?_)⟩)));have hH:=Holds.reorder hH 9 [6,0,7,1,3,8,4,2,5] rfl;walk_at "ro";rw[jU];have hH:=hH.perm (?_:List.Perm _ (t.c1 A::d8.c A {r with nested:=r.nested - 1 - G.f.bq}::(r.dl,.lst ds)::(r.fl,.lst (bX Rs++[V.ref G.f.a]))::ln.c A::(ln.tl,.lst a6)::(ln.ml,.lst (b8 bo++[V.ref x]))::(G.over A).f.c A::(G.f.rl,.lst (zs G.rows))::(G.M++(cg A Rs++(cB A (bo++[⟨x,dx,"end","",0,R.f.ranges⟩])++F)))))
 ·exact hH.sub (oB (.cons_cons _ (.cons_cons _ (aL _ _))))
 ·refine .cons _ (.cons _ (.cons _ (.cons _ (.cons _ (.cons _ (.cons _ (.cons _ ?_)))))));refine(List.Perm.swap _ _ _).trans (.cons _ ?_);refine(bh (l₁:=G.M)).symm.trans (cz _ ?_);refine(bh (l₁:=cg A Rs)).symm.trans (cz _ ?_);rw[lb,aw];exact(bh (l₁:=cB A bo)).symm
theorem NJ(hH:Holds H (t.c1 A::cI A r ds (bX (G::Rs)) ln a6 bo R (cg A (G::Rs)) F))(h1:R.f.grouping=true)(h2:R.f.array=.bA)(h3:R.f.ranges=0)(op:pO A R.f.oa R.l R.n R.M)
  (k:∀H' oa M',pO A oa (g0 R.f.compared R.rows R.l R.n).1 (g0 R.f.compared R.rows R.l R.n).2 M'->Holds H' (t.c1 A::cI A {r with nested:=r.nested - 1 - G.f.bq} ds (bX Rs) ln a6 bo ⟨{G.f with oa:=if G.f.bq=0 then oa else A.cu,bq:=0},G.rows,0,0,M',G.ms⟩ (cg A Rs) F)->Q (.str "behind value") H'):nG A [.ref r.a] H Q E:=by
 have hH:=ua hH;have hH:Holds H (t.c1 A::r.c A::(r.dl,.lst ds)::(r.fl,.lst ((bX Rs++[V.ref G.f.a])++[V.ref R.f.a]))::ln.c A::(ln.tl,.lst a6)::(ln.ml,.lst (b8 bo))::R.f.c A::(R.f.rl,.lst (zs R.rows))::G.f.c A::(G.f.rl,.lst (zs G.rows))::(R.M++(G.M++(cg A Rs++(cB A bo++F))))):=by
  refine hH.perm ?_;refine .cons _ (.cons _ (.cons _ (.cons _ (.cons _ (.cons _ (.cons _ (.cons _ (.cons _ ?_))))))));exact(dg R.M [G.f.c A,(G.f.rl,.lst (zs G.rows))] _)
 have hH:=Holds.reorder hH 11 [1,3,9,7,8,0,2,4,5,6,10] rfl;walk_at "ro";have hH:Holds H (r.c A::(r.fl,.lst ((bX Rs++[V.ref G.f.a])++[V.ref R.f.a]))::G.f.c A::R.f.c A::(R.f.rl,.lst (zs R.rows))::(R.M++(t.c1 A::(r.dl,.lst ds)::ln.c A::(ln.tl,.lst a6)::(ln.ml,.lst (b8 bo))::(G.f.rl,.lst (zs G.rows))::(G.M++(cg A Rs++(cB A bo++F)))))):=by
  refine hH.perm (.cons _ (.cons _ (.cons _ (.cons _ (.cons _ ?_)))));exact(dg [t.c1 A,(r.dl,.lst ds),ln.c A,(ln.tl,.lst a6),(ln.ml,.lst (b8 bo)),(G.f.rl,.lst (zs G.rows))] R.M _)
 refine .inr (.inl ⟨r,bX Rs,G.f,R.f,R.rows,R.l,R.n,R.M,_,rfl,h1,h2,h3,op,hH,fun H' oa M' op' hH=>k H' oa M' op' (rp ?_)⟩);have hH:Holds H' (d8.c A {r with nested:=r.nested - 1 - G.f.bq}::(r.fl,.lst (bX Rs++[V.ref G.f.a]))::fK.c A {G.f with oa:=if G.f.bq=0 then oa else A.cu,bq:=0}::t.c1 A::(r.dl,.lst ds)::ln.c A::(ln.tl,.lst a6)::(ln.ml,.lst (b8 bo))::(G.f.rl,.lst (zs G.rows))::(M'++(G.M++(cg A Rs++(cB A bo++F))))):=by
  refine hH.perm (.cons _ (.cons _ (.cons _ ?_)));exact(dg M' [t.c1 A,(r.dl,.lst ds),ln.c A,(ln.tl,.lst a6),(ln.ml,.lst (b8 bo)),(G.f.rl,.lst (zs G.rows))] _)
 have hH:=Holds.reorder hH 9 [3,0,4,1,5,6,7,2,8] rfl;walk_at "ro";exact hH.sub (oB (.cons_cons _ (.cons_cons _ (List.Sublist.append_left (aL _ _) _))))
end
def t6:Ax.Tok->Option ag.Wd
 | .fn1 o=>some (.fn1 o)
 | .fn2 o=>some (.fn2 o)
 | .if_=>some .cond
 | .red g=>some (.red g)
 |_=>none
def isRed:Ax.Tok->Bool
 | .red _=>true
 |_=>false
theorem FU{x:Ax.Tok}(h:cQ x):(cv dF (Sum.inr (formOf x))).isSome=((t6 x).isSome&&!isRed x)/\eF (.str (formOf x)) dD=isRed x:=by
 cases x with
 |num n=>exact⟨by show(cv dF (Sum.inr (Str.ofString "number"))).isSome=false;decide +kernel,by show eF (.str (Str.ofString "number")) dD=false;decide +kernel⟩
 |name n=>exact⟨by show(cv dF (Sum.inr (Str.ofString "name"))).isSome=false;decide +kernel,by show eF (.str (Str.ofString "name")) dD=false;decide +kernel⟩
 |kind n=>exact⟨by show(cv dF (Sum.inr (Str.ofString "kind"))).isSome=false;decide +kernel,by show eF (.str (Str.ofString "kind")) dD=false;decide +kernel⟩
 |line y=>cases y<;>decide +kernel
 |red y=>cases y<;>decide +kernel
 |fn1 y=>cases y<;>first|exact False.elim h|decide +kernel
 |fn2 y=>cases y<;>first|exact False.elim h|decide +kernel
 |op y=>cases y<;>first|exact False.elim h|decide +kernel
 |_=>decide +kernel
theorem P7{x:Ax.Tok}{k:ag.Wd}(h:cQ x)(e:t6 x=some k):formOf x=eU k/\tX k:=by
 cases x with
 |fn1 o=>cases e;exact⟨rfl,h⟩
 |fn2 o=>cases e;exact⟨rfl,h⟩
 |if_=>cases e;exact⟨rfl,trivial⟩
 |red g=>cases e;exact⟨rfl,trivial⟩
 |_=>cases e
theorem yS(T:Txt P w K mg A):Ok P w K mg base 4 A.uJ ["reader","token"] (iY A fun s=>∃Hd f fs,s=.want false Hd f fs):=by
 refine T.BL.ok Iv (fun vs H Q E h=>?_) (fun cdv A' outer s H vs Q E hr h=>?_)
 ·walk_at "vl"
 ·obtain⟨S,t,p,x,s,done,F,rfl,⟨Hd,f,fs,rfl⟩,ta,rl,is,gd,hc,sm,hH,kn,ks⟩:=h;refine⟨_,(ae (bg (aO cH (aC (pv 1) rfl) (el (by rfl) T.uG) (bb _)) (ak (aF (aI (n6 T) (hr.mono (by decide)) (by rfl) T.lj.at_ (aa (pv 0) (aa (dH (by rfl) T.og) au))))) aQ)
   (ae (bg (aO cH (aC (pv 1) rfl) (el (by rfl) T.tF) (bb _)) (ae (cN (aI (uz T) (hr.mono (by decide)) (by rfl) T.rQ.at_ (aa (pv 0) (aa (el (by rfl) T.QV) (aa (pv 1) au)))))
   (ak (aF bF))) aQ)
   (ae (bg (aO cH (aC (pv 0) rfl) (bZ (by rfl) T.vf) (bb _)) (ak (aF dO)) aQ)
   (ae (bg (PW.pt (AF (aO cH (aC (pv 1) rfl) bF (bb _)) (wF (aO cH (aC (pv 1) rfl) bF (bb _))))) (ak (aF (aI (MR T) (hr.mono (by decide)) (by rfl) T.Hv.at_ (aa (pv 0) au)))) aQ)
   (ae (bg (aO cH (aC (pv 1) rfl) bF (bb _)) (ak (aF (aI (OL T) (hr.mono (by decide)) (by rfl) T.Ka.at_ (aa (pv 0) au)))) aQ)
   (ae (bg (PW.pt (AF (fJ (AQ (gx hr) (aC (pv 1) rfl) (dH (by rfl) T.sE))) (wF (aO fE (aC (pv 1) rfl) (dH (by rfl) T.qJ) rfl)))) (ae (bu (pv 0) (aC (pv 1) rfl) rfl)
   (ak (aF bF))) aQ)
   (ak (aF dO)))))))),?_⟩
  have hf:=ta.cZ;have hp:=ta.place;obtain⟨⟨i1,i2,i3,i4,i5,i9⟩,i6,_⟩:=is;obtain⟨⟨ra,rdx,st,dl,cur,fl,ne,ax,fn⟩,ds,ln,a6,bK,hd,es⟩:=S;dsimp only at i1 i3 i4 i5 i6 hc;subst i6 hc;have smm:=sm.bo;have smf:=sm.bK;obtain⟨R,Rs,rfl,hR,hRs⟩:∃R Rs,bK=R::Rs/\R.Is A f/\Frs A Rs fs:=by
   cases i4 with
   |cons h1 h2=>exact⟨_,_,rfl,h1,h2⟩
  have hne:ne=(ag.depth f fs:Nat):=i5 f fs rfl;have hdp:ag.depth f fs<=20:=i9 f fs rfl;have hH0:=hH;rw[cp]at hH;have hH1:=hH;unfold cI at hH;walk_at "unf";walk_at "rd";rw[dS,hf];by_cases h1:formOf x="number"
  ·refine cn (ao h1) ?_;obtain⟨n,rfl⟩:=(FK rl).mp h1;walk_at "rd";refine P1 (E:=E0) hH1 fun H hH=>?_;refine ks _ _ rfl _ ⟨⟨ra,rdx,st,dl,.ref ln.a,fl,ne - R.f.bq,ax,fn⟩,ds,ln,a6,R.over A::Rs,hd,[]⟩ ⟨⟨rfl,rfl,rfl,rfl,rfl,rfl,rfl,rfl,rfl,bc _,bc _⟩,⟨⟨i1,i2,i3,.cons (tf hR) hRs,?_,?_⟩,?_,?_⟩,.inl ⟨rfl,rfl,by simp[ag.prim]⟩⟩ (by rw[cp];exact hH)
   ·rintro f' r' e;cases e;dsimp only;rw[hR.pre,hne,nh]
   ·rintro f' r' e;cases e;have:=nh f fs;omega
   ·rw[nU];exact .nil
   ·rintro R' Rs' e;cases e;exact⟨qC _ _ fun _ _=>rfl,by show(1:Int)<=16;decide⟩
  ·refine bV (fun q=>h1 (ab q)) ?_;walk_at "rd";rw[dS,hf];by_cases h2:formOf x="name"
   ·refine cn (ao h2) ?_;obtain⟨v,rfl⟩:=(tK rl).mp h2;walk_at "rd";walk_at "tn";refine xK hH0 rfl smm fun H x dx hH=>?_;walk_at "rd";have hw:=ta.name v rfl;have em:RS.bo ⟨⟨ra,rdx,st,dl,.ref ln.a,fl,ne,ax,fn⟩,ds,ln,a6,R::Rs,hd,[⟨x,dx,"value",t.word,(t.place:Int),0⟩]⟩=RS.bo ⟨⟨ra,rdx,st,dl,.ref ln.a,fl,ne,ax,fn⟩,ds,ln,a6,R::Rs,hd,[]⟩++[⟨x,dx,"value",t.word,(t.place:Int),0⟩]:=by simp[RS.bo]
    refine ks _ _ rfl _ ⟨⟨ra,rdx,st,dl,.ref ln.a,fl,ne,ax,fn⟩,ds,ln,a6,R::Rs,hd,[⟨x,dx,"value",t.word,(t.place:Int),0⟩]⟩ ⟨⟨rfl,rfl,rfl,rfl,rfl,rfl,rfl,rfl,rfl,?_,bc _⟩,⟨⟨i1,i2,i3,i4,i5,i9⟩,_,rfl,⟨rfl,hw,by rw[hp],rfl⟩⟩,.inl ⟨rfl,rfl,by simp⟩⟩ ?_
    ·rw[em,aq];exact aD _
    ·rw[RS.ou,em];exact hH
   ·refine bV (fun q=>h2 (ab q)) ?_;walk_at "rd";rw[dI];by_cases h3:ne=20
    ·refine cn (ao h3) ?_;walk_at "rd";refine kn ?_ _ (dy hH0);have hd20:Ax.DEEP<=ag.depth f fs:=by show 20<=_;omega
     cases x<;>first|rfl|exact absurd rfl h1|exact absurd rfl h2|(show Option.map _ (if Ax.DEEP<=ag.depth f fs then none else _)=none;rw[ai hd20];rfl)
    ·have hd20:¬Ax.DEEP<=ag.depth f fs:=by show ¬20<=_;omega
     refine bV (fun q=>h3 (ab q)) ?_;walk_at "rd";rw[dS,hf];have pfx:∀u:Ax.Un,ag.step done (.want false Hd f fs) p x=some (done,.want false Hd {f with pre:=u::f.pre} fs)->DL A [.ref ra] H Q E0:=by
      intro u eu;have hH:=hH1;unfold cI at hH;have hH:=Holds.reorder hH 8 [1,3,7,0,2,4,5,6] rfl;walk_at "ro";refine⟨⟨ra,rdx,st,dl,.ref ln.a,fl,ne,ax,fn⟩,R.f,bX Rs,_,rfl,hH,fun H hH=>?_⟩;have hH:=Holds.reorder hH 8 [3,0,4,1,5,6,7,2] rfl;walk_at "ro";have hdn:((ag.depth {f with pre:=u::f.pre} fs:Nat):Int)=(ag.depth f fs:Nat)+1:=by
       unfold ag.depth;show((ag.base fs+(f.pre.length+1):Nat):Int)=_;omega
      refine ks _ _ eu _ ⟨⟨ra,rdx,st,dl,.ref ln.a,fl,ne+1,ax,fn⟩,ds,ln,a6,{R with f:={R.f with bq:=R.f.bq+1}}::Rs,hd,[]⟩ ⟨⟨rfl,rfl,rfl,rfl,rfl,rfl,rfl,rfl,rfl,bc _,bc _⟩,⟨⟨i1,i2,i3,.cons ?_ hRs,?_,?_⟩,rfl,by simp⟩,.inl ⟨rfl,rfl,by simp⟩⟩ (by rw[cp];exact hH)
      ·exact⟨hR.closer,hR.gj,hR.most,hR.begun,hR.grouping,hR.array,hR.ranges,hR.red,hR.compared,hR.cmp,hR.rows,hR.good,hR.le,by show R.f.bq+1=((f.pre.length+1:Nat):Int);rw[hR.pre];rfl,hR.op,hR.bo,hR.args,hR.fn2⟩
      ·rintro f' r' e;cases e;show ne+1=_;rw[hdn,hne]
      ·rintro f' r' e;cases e;omega
     by_cases h4:formOf x="-"
     ·refine cn (ao h4) ?_;obtain rfl:=(Q3 rl).mp h4;walk_at "rd";exact pfx .neg (by show Option.map _ (if Ax.DEEP<=ag.depth f fs then none else _)=_;rw[af hd20];rfl)
     ·refine bV (fun q=>h4 (ab q)) ?_;walk_at "rd";rw[dS,hf];by_cases h5:formOf x="~"
      ·refine cn (ao h5) ?_;obtain rfl:=(Q2 rl).mp h5;walk_at "rd";exact pfx .not (by show Option.map _ (if Ax.DEEP<=ag.depth f fs then none else _)=_;rw[af hd20];rfl)
      ·refine bV (fun q=>h5 (ab q)) ?_;walk_at "rd";rw[dS,hf];by_cases h6:formOf x="("
       ·refine cn (ao h6) ?_;obtain rfl:=(Dg rl).mp h6;walk_at "rd";have e1:ag.step done (.want false Hd f fs) p .openP=some (done,.want false Hd (ag.cy .group) (f::fs)):=by show Option.map _ (if Ax.DEEP<=ag.depth f fs then none else _)=_;rw[af hd20];rfl
        have hH:=hH0;unfold RS.cells at hH;have hH:=Holds.reorder hH 4 [1,3,0,2] rfl;walk_at "ro";refine⟨⟨ra,rdx,st,dl,.ref ln.a,fl,ne,ax,fn⟩,bX (R::Rs),_,rfl,hH,by unfold bX;rw[aP,nu];dsimp only at smf;omega,fun H x dx rl2 hH=>?_⟩;have hH:=Holds.reorder hH 9 [4,2,5,3,6,7,8,1,0] rfl;walk_at "ro";refine ks _ _ e1 _ ⟨⟨ra,rdx,st,dl,.ref ln.a,fl,ne+1,ax,fn⟩,ds,ln,a6,⟨⟨x,dx,")",1,1,1,true,.bA,0,false,rl2,A.cu,0⟩,[0,0,0,0,0,0],-1,1,[],[]⟩::R::Rs,hd,[]⟩ ⟨⟨rfl,rfl,rfl,rfl,rfl,rfl,rfl,rfl,rfl,?_,aD _⟩,⟨⟨i1,i2,i3,.cons ?_ i4,?_,?_⟩,rfl,by simp⟩,.inl ⟨rfl,rfl,by simp⟩⟩ ?_
        ·simp[RS.bo,bM]
        ·exact lP (c:=.group) rfl rfl rfl rfl rfl rfl rfl trivial rfl rfl rfl .no .nil
        ·rintro f' r' e;cases e;show ne+1=_;rw[fb,hne]
        ·rintro f' r' e;cases e;have:=fb (.group) f fs;omega
        ·rw[cp];have e:hd++((bM (R::Rs)++[])++[])=RS.bo ⟨⟨ra,rdx,st,dl,.ref ln.a,fl,ne,ax,fn⟩,ds,ln,a6,R::Rs,hd,[]⟩:=by simp[RS.bo]
         dsimp only;rw[e];exact hH
       ·refine bV (fun q=>h6 (ab q)) ?_;obtain⟨wi1,wi2⟩:=FU rl;walk_at "rd";refine⟨A.iE,_,rfl,.inl ⟨dF,Sum.inr t.cZ,T.kX,rfl,rfl⟩,_,rfl,?_⟩;rw[hf,wi1];have wfun:∀k,t6 x=some k->RM K (qe 0) (zh K (qe 1) "form") "function" {nx:=Kr (tC (.str "parenthesis")) {nx:=fun _ H'=>Q .bA H',rt:=Q},rt:=Q} [some (.ref ra),some (.ref t.a)] H:=by
         intro k ek;obtain⟨wf1,wf2⟩:=P7 rl ek;walk_at "rd";walk_at "st";walk_at "rd";have e1:ag.step done (.want false Hd f fs) p x=some (done,.word k Hd f fs):=by
          cases x<;>first|(cases ek;done)|(cases ek;show Option.map _ (if Ax.DEEP<=ag.depth f fs then none else _)=_;rw[af hd20];rfl)
         exact ks _ _ e1 _ ⟨⟨ra,rdx,st,dl,.ref ln.a,fl,ne,ax,t.cZ⟩,ds,ln,a6,R::Rs,hd,[]⟩ ⟨⟨rfl,rfl,rfl,rfl,rfl,rfl,rfl,rfl,rfl,bc _,bc _⟩,⟨⟨i1,i2,i3,i4,i5,i9⟩,rfl,by rw[<-wf1];exact hf,wf2⟩,.inl ⟨rfl,rfl,by simp⟩⟩ (by rw[cp];exact hH)
        by_cases h7:((t6 x).isSome&&!isRed x)=true
        ·refine cn h7 ?_;rw[cG]at h7;obtain⟨k,ek⟩:=dY.mp h7.1;exact wfun k ek
        ·refine bV h7 ?_;walk_at "rd";refine⟨A.kf,dD,rfl,.inr (T.qc.sq _),rfl,by decide +kernel,_,rfl,?_⟩;show if eF (V.str t.cZ) dD=true then _ else _
         rw[hf,wi2];by_cases h8:isRed x=true
         ·refine cn h8 ?_;have:∃k,t6 x=some k:=by cases x<;>first|exact⟨_,rfl⟩|exact absurd h8 aE
          obtain⟨k,ek⟩:=this;exact wfun k ek
         ·refine bV h8 ?_;walk_at "rd";refine kn ?_ _ (dy hH0);have hw:t6 x=none:=by
           cases e:t6 x with
           |none=>rfl
           |some k=>exact absurd (by rw[e,(b5 _).mp h8];rfl) h7
          cases x<;>first|rfl|exact absurd rfl h1|exact absurd rfl h2|exact absurd rfl h4|exact absurd rfl h5|exact absurd rfl h6|cases hw
theorem yu(T:Txt P w K mg A):Ok P w K mg base 5 A.lT ["reader","token"] (iY A fun s=>∃Hd f fs,s=.want true Hd f fs):=by
 refine T.z1.ok pI (fun vs H Q E h=>?_) (fun cdv A' outer s H vs Q E hr h=>?_)
 ·walk_at "vl"
 ·obtain⟨S,t,p,x,s,done,F,rfl,⟨Hd,f,fs,rfl⟩,ta,rl,is,gd,hc,sm,hH,kn,ks⟩:=h;refine⟨_,(ae (bg (aO cH (aC (pv 1) rfl) bF (bb _)) (ae (bp (i:=2) pI.nd rfl (Or.inl rfl) (de cO (aC (pv 0) rfl) (pT mG aV) (fun _ _=>rfl)))
   (ae (bu (pv 2) aV rfl)
   (ak (aF (aI (GH T) (hr.mono (by decide)) (by rfl) T.Dh.at_ (aa (pv 0) au)))))) aQ)
   (ak (aF (aI (yS T) (hr.mono (by decide)) (by rfl) T.BL.at_ (aa (pv 0) (aa (pv 1) au)))))),?_⟩
  have hf:=ta.cZ;have hH0:=hH;obtain⟨⟨i1,i2,i3,i4,i5,i9⟩,i6,i7⟩:=is;obtain⟨pp,ww,rfl⟩:=i7 rfl;by_cases h1:formOf x="]"
  ·obtain rfl:=(uI rl).mp h1;obtain⟨⟨ra,rdx,st,dl,cur,fl,ne,ax,fn⟩,ds,ln,a6,bK,hd,es⟩:=S;dsimp only at i1 i3 i4 i5 i6 hc;subst i6 hc;obtain⟨R,Rs,rfl,hR,hRs⟩:∃R Rs,bK=R::Rs/\R.Is A (ag.cy (.elem pp ww))/\Frs A Rs fs:=by
    cases i4 with
    |cons h1 h2=>exact⟨_,_,rfl,h1,h2⟩
   cases hRs with
   |nil=>exact absurd (show ag.cY [ag.cy (.elem pp ww)]from gd) (by intro q;exact q)
   | @cons G g Rs' gs hG hGs=>
    have hne:ne=(ag.depth (ag.cy (.elem pp ww)) (g::gs):Nat):=i5 _ _ rfl;have hdp:=i9 _ _ rfl;obtain⟨m,rest,em,ea⟩:=hR.array;have hms:=hR.bo;rw[em]at hms;have hms:dB (m::rest) ([⟨"array",ww,pp,0⟩]++([]++([]++eL ag.d7 6))):=hms;rw[mY]at hms;have hmr:m.Is ⟨"array",ww,pp,0⟩/\rest=[]:=by
     cases hms with
     |cons a b=>cases b with
      |nil=>exact⟨a,rfl⟩
    obtain⟨hm,hrest⟩:=hmr;subst hrest;rw[cp]at hH;have hH1:=hH;unfold cI at hH;walk_at "unf";walk_at "rd";rw[dS,hf];refine cn (ao h1) ?_;walk_at "rd";have hl:=kd (bX (G::Rs')) (V.ref R.f.a);walk_at "ix";walk_at "rd";walk_at "st";walk_at "rd";have hm2:hd++((bM (G::Rs')++R.ms)++[])=(hd++bM (G::Rs'))++m::[]:=by rw[em];simp
    have hH:Holds H (t.c1 A::cI A ⟨ra,rdx,st,dl,.ref ln.a,fl,ne,ax,fn⟩ ds (bX (G::Rs')) ln a6 ((hd++bM (G::Rs'))++m::[]) {R with f:={R.f with begun:=0}} (cg A (G::Rs')) F):=by rw[<-hm2];exact hH
    refine Er (E:=E0) hH hR.grouping ea hR.ranges fun H hH=>?_;dsimp only at hH;have e1:ag.step done (.want true Hd (ag.cy (.elem pp ww)) (g::gs)) p .closeB=some (done,ag.prim Hd (.elem pp ww 0 Ax.nil Ax.nil Ax.nil Ax.nil) g gs):=rfl;have hdn:=fb (.elem pp ww) g gs;have hdo:=nh g gs;have em3:RS.bo ⟨⟨ra,rdx,st,dl,.ref ln.a,fl,ne - 1 - G.f.bq,ax,fn⟩,ds,ln,a6,G.over A::Rs',hd,[{m with count:=0}]⟩=(hd++bM (G::Rs'))++[{m with count:=0}]:=by simp[RS.bo,bM,fW.over]
    refine ks _ _ e1 _ ⟨⟨ra,rdx,st,dl,.ref ln.a,fl,ne - 1 - G.f.bq,ax,fn⟩,ds,ln,a6,G.over A::Rs',hd,[{m with count:=0}]⟩ ⟨⟨rfl,rfl,rfl,rfl,rfl,rfl,rfl,rfl,rfl,?_,ck (bc _) (bc _)⟩,⟨⟨i1,i2,i3,.cons (tf hG) hGs,?_,?_⟩,?_,?_⟩,.inl ⟨rfl,rfl,by simp[ag.prim]⟩⟩ ?_
    ·rw[em3];simp[RS.bo,bM,em]
    ·rintro f' r' e;cases e;dsimp only;rw[hG.pre];omega
    ·rintro f' r' e;cases e;omega
    ·rw[nU];exact .cons ⟨hm.pu,hm.name,hm.place,rfl⟩ .nil
    ·rintro R' Rs'' e;cases e;exact⟨qC _ _ fun _ _=>rfl,by show(1:Int)<=16;decide⟩
    ·rw[RS.ou,em3];have e4:=cp A ⟨ra,rdx,st,dl,.ref ln.a,fl,ne - 1 - G.f.bq,ax,fn⟩ ds ln a6 (G.over A) Rs' hd [{m with count:=0}] F;rw[RS.ou]at e4;rw[em3]at e4;have em4:hd++((bM Rs'++(G.over A).ms)++[{m with count:=0}])=(hd++bM (G::Rs'))++[{m with count:=0}]:=by simp[bM,fW.over]
     rw[em4]at e4;rw[e4];exact hH
  ·walk_at "unf";walk_at "rd";rw[dS,hf];refine bV (fun q=>h1 (ab q)) ?_;have e1:ag.step done (.want true Hd (ag.cy (.elem pp ww)) fs) p x=ag.step done (.want false Hd (ag.cy (.elem pp ww)) fs) p x:=by
    cases x<;>first|rfl|exact absurd rfl h1
   rw[e1]at kn;walk_at "rd";refine⟨S,t,p,x,.want false Hd (ag.cy (.elem pp ww)) fs,done,F,rfl,⟨_,_,_,rfl⟩,ta,rl,⟨⟨i1,i2,i3,i4,i5,i9⟩,i6,by simp⟩,gd,hc,sm,hH0,kn,?_⟩;rw[<-e1];exact ks
def qw(x:Ax.Tok):Option Nat:=match ag.dw x with
 |some o=>if 2<=Ax.level o/\Ax.level o<=7 then some (7 - Ax.level o)else none
 |none=>none
theorem xW{x:Ax.Tok}(h:cQ x):cv dP (Sum.inr (formOf x))=(qw x).map fun n=>V.int (n:Int):=by
 cases x with
 |num n=>show cv dP (Sum.inr (Str.ofString "number"))=none;decide +kernel
 |name n=>show cv dP (Sum.inr (Str.ofString "name"))=none;decide +kernel
 |kind n=>show cv dP (Sum.inr (Str.ofString "kind"))=none;decide +kernel
 |line y=>cases y<;>decide +kernel
 |red y=>cases y<;>decide +kernel
 |fn1 y=>cases y<;>first|exact False.elim h|decide +kernel
 |fn2 y=>cases y<;>first|exact False.elim h|decide +kernel
 |op y=>cases y<;>first|exact False.elim h|decide +kernel
 |_=>decide +kernel
def x9(x:Ax.Tok):Bool:=match ag.dw x with
 |some o=>Ax.level o==8
 |none=>false
theorem Kb{x:Ax.Tok}(h:cQ x):eF (.str (formOf x)) ei=x9 x:=by
 cases x with
 |num n=>show eF (.str (Str.ofString "number")) ei=false;decide +kernel
 |name n=>show eF (.str (Str.ofString "name")) ei=false;decide +kernel
 |kind n=>show eF (.str (Str.ofString "kind")) ei=false;decide +kernel
 |line y=>cases y<;>decide +kernel
 |red y=>cases y<;>decide +kernel
 |fn1 y=>cases y<;>first|exact False.elim h|decide +kernel
 |fn2 y=>cases y<;>first|exact False.elim h|decide +kernel
 |op y=>cases y<;>first|exact False.elim h|decide +kernel
 |_=>decide +kernel
theorem MP{x:Ax.Tok}{o:Ax.Bin}(h:cQ x)(e:ag.dw x=some o):2<=Ax.level o/\Ax.level o<=8:=by
 cases x with
 |op y=>cases e;cases o<;>first|exact False.elim h|decide
 |minus=>cases e;decide
 |lt=>cases e;decide
 |_=>cases e
theorem Om{rows:List Int}{lev:Nat}{l n:Int}(h:∀z∈rows,z<=16)(hn:n<=16):fq rows lev l n<=16:=by
 unfold fq;split
 ·rename_i hz;rw[bP]at hz⊢;cases e:rows[lev]? with
  |none=>rw[e]at hz;exact absurd hz (by decide)
  |some z=>exact h z (aH e)
 ·split
  ·exact hn
  ·decide
theorem Bb{l:List Int}{i:Nat}{v:Int}(h:∀z∈l,z<=16)(hv:v<=16):∀z∈l.set i v,z<=16:=fun z hz=>by
 rcases List.mem_or_eq_of_mem_set hz with q|q
 ·exact h z q
 ·rw[q];exact hv
theorem yE{l:List Int}(lo:Nat)(h:∀z∈l,z<=16):∀k,∀z∈iw l lo k,z<=16
 |0=>h
 |k+1=>Bb (yE lo h k) (by decide)
theorem Mz{l:List Int}{lev:Nat}{m:Int}(h:∀z∈l,z<=16)(hm:m+1<=16):∀z∈sT l lev m,z<=16:=yE _ (Bb h hm) _
theorem xO{ms es:List cx}{v:V}{c:ag.Ctx}(h:yb ms v c):yb (ms++es) v c:=by
 cases c with
 |elem p w=>obtain⟨m,r,e1,e2⟩:=h;exact⟨m,r++es,by rw[e1];rfl,e2⟩
 |_=>exact h
theorem O8{rows:ag.Rows}{L:Nat}{o:Ax.Bin}{e:Ax.Expr}(g:ox rows)(h:Ax.level o=L):ox (ag.cC rows L (o,e)):=by
 intro lev x q;unfold ag.cC at q;split at q
 ·rename_i e1;cases q;rw[e1];exact h
 ·split at q
  ·cases q
  ·exact g lev x q
theorem TV{A:Ad}{H:Hp}{Q:VK}{E:XK}{t:cf}{r:d8}{ds fr:List V}{ln:k8}{a6:List V}{bo:List cx}{R:fW}{fc F:List Cell}{lev:Nat}(hH:Holds H (t.c1 A::cI A r ds fr ln a6 bo R fc F))(op:pO A R.f.oa R.l R.n R.M)(hl:lev<6)(h6:R.rows.length=6)
  (kn:fq R.rows lev R.l R.n=16->∀H',Holds H' (t.c1 A::cI A r ds fr ln a6 bo R fc F)->Q .bA H')
  (ks:fq R.rows lev R.l R.n≠16->∀H',Holds H' (t.c1 A::cI A r ds fr ln a6 bo {R with rows:=sT R.rows lev (fq R.rows lev R.l R.n)} fc F)->Q (.str "value") H'):vZ A [.ref R.f.a,.int (lev:Int)] H Q E:=by
 unfold cI at hH;have hH:=Holds.reorder hH 9 [7,8,0,1,2,3,4,5,6] rfl;walk_at "ro";have hH:Holds H (R.f.c A::(R.f.rl,.lst (zs R.rows))::(R.M++(t.c1 A::r.c A::(r.dl,.lst ds)::(r.fl,.lst (fr++[V.ref R.f.a]))::ln.c A::(ln.tl,.lst a6)::(ln.ml,.lst (b8 bo))::(fc++(cB A bo++F))))):=
  hH.perm (.cons _ (.cons _ (dg [t.c1 A,r.c A,(r.dl,.lst ds),(r.fl,.lst (fr++[V.ref R.f.a])),ln.c A,(ln.tl,.lst a6),(ln.ml,.lst (b8 bo))] R.M _)))
 have back:∀(rows:List Int)(H':Hp),Holds H' (R.f.c A::(R.f.rl,.lst (zs rows))::(R.M++(t.c1 A::r.c A::(r.dl,.lst ds)::(r.fl,.lst (fr++[V.ref R.f.a]))::ln.c A::(ln.tl,.lst a6)::(ln.ml,.lst (b8 bo))::(fc++(cB A bo++F)))))->Holds H' (t.c1 A::cI A r ds fr ln a6 bo {R with rows:=rows} fc F):=by
  intro rows H' hH;have hH:=hH.perm (.cons _ (.cons _ (dg R.M [t.c1 A,r.c A,(r.dl,.lst ds),(r.fl,.lst (fr++[V.ref R.f.a])),ln.c A,(ln.tl,.lst a6),(ln.ml,.lst (b8 bo))] _)));have hH:Holds H' (R.f.c A::(R.f.rl,.lst (zs rows))::t.c1 A::r.c A::(r.dl,.lst ds)::(r.fl,.lst (fr++[V.ref R.f.a]))::ln.c A::(ln.tl,.lst a6)::(ln.ml,.lst (b8 bo))::(R.M++(fc++(cB A bo++F)))):=hH;have hH:=Holds.reorder hH 9 [2,3,4,5,6,7,8,0,1] rfl;walk_at "ro";exact hH
 refine⟨R.f,R.rows,lev,R.l,R.n,R.M,_,rfl,op,hl,h6,hH,?_⟩;by_cases h:fq R.rows lev R.l R.n=16
 ·rw[ai h];exact fun H' hH=>kn h H' (back R.rows H' hH)
 ·rw[af h];exact fun H' hH=>ks h H' (back _ H' hH)
theorem P0{A:Ad}{H:Hp}{t:cf}{r:d8}{ds fr:List V}{ln:k8}{a6:List V}{bo:List cx}{R:fW}{fc F:List Cell}{rl:Addr}{f':fK}(e:f'.a=R.f.a)(er:f'.rl=rl)(ms:List cx)
  (hH:Holds H ((rl,.lst zeros)::f'.c A::t.c1 A::r.c A::(r.dl,.lst ds)::(r.fl,.lst (fr++[V.ref R.f.a]))::ln.c A::(ln.tl,.lst a6)::(ln.ml,.lst (b8 bo))::(R.f.rl,.lst (zs R.rows))::(R.M++(fc++(cB A bo++F))))):
  Holds H (t.c1 A::cI A r ds fr ln a6 bo ⟨f',[0,0,0,0,0,0],R.l,R.n,R.M,ms⟩ fc F):=by
 have hH:=Holds.reorder hH 10 [2,3,4,5,6,7,8,1,0,9] rfl;walk_at "ro";unfold cI;dsimp only;rw[e,er];exact hH.sub (oB (.cons_cons _ (.cons_cons _ (aW _ _))))
theorem D7{done:List Ax.Line}{e:Ax.Expr}{Hd:ag.Hd}{f:ag.Fr}{fs:List ag.Fr}{x:Ax.Tok}(ho:ag.dw x=none)(hcm:x=.comma->¬(f.args.length:Int)+1<fu f.ctx)(hcl:formOf x=uR f.ctx->(f.args.length:Int)+1<jY f.ctx):ag.b6 done e Hd f fs x=none:=by
 unfold ag.b6;rw[ho];obtain⟨ctx,args,cmp,rows,pre⟩:=f;cases x with
 |comma=>
  have h:=hcm rfl;dsimp only at h⊢
  rcases args with _|⟨a,_|⟨b,_|⟨c,r⟩⟩⟩<;>cases ctx<;>first|rfl|(exfalso;apply h;simp only[fu,ay,mE];omega)
 |closeP=>
  dsimp only at hcl⊢
  rcases args with _|⟨a,_|⟨b,r⟩⟩<;>cases ctx<;>first|rfl|exact absurd (hcl rfl) (by simp only[jY,ay,mE];omega)
 |closeB=>
  dsimp only at hcl⊢;cases ctx<;>first|rfl|exact absurd (hcl rfl) (by show ¬(_:Int)<0;omega)
 |semi=>
  dsimp only at hcl⊢;cases ctx<;>first|rfl|exact absurd (hcl rfl) (by show ¬(_:Int)<1;omega)
 |_=>rfl
theorem Lp{done:List Ax.Line}{e:Ax.Expr}{Hd:ag.Hd}{f:ag.Fr}{fs:List ag.Fr}(h:(f.args.length:Int)+1<fu f.ctx):ag.b6 done e Hd f fs .comma=some (done,ag.gU Hd f fs (ag.cP f.cmp (ag.reduce f.rows 6 e))):=by
 obtain⟨ctx,args,cmp,rows,pre⟩:=f;unfold ag.b6;dsimp only[ag.dw]at h⊢
 rcases args with _|⟨a,_|⟨b,_|⟨c,r⟩⟩⟩<;>cases ctx<;>first|rfl|(exfalso;simp only[fu,ay,mE]at h;omega)
theorem MB{c:Bool}{rows:ag.Rows}{l n:Int}(h:∀z∈rowsOf rows,z<=16)(hn:n<=16):(g0 c (rowsOf rows) l n).2<=16:=by
 unfold g0;split
 ·decide
 ·split
  ·rename_i x hx;obtain⟨h1,h2,h3,h4⟩:=pD (pw rows) _ x (aD _) hx;have hm:(rowsOf rows).getD x.1 0∈rowsOf rows:=by rw[bP,aN h1];exact List.getElem_mem _
   rw[h3]at hm;exact h _ hm
  ·exact hn
theorem CT{A:Ad}{Hd:ag.Hd}{g f:ag.Fr}{gs:List ag.Fr}{E:Ax.Expr}{ra rdx dl fl:Addr}{st fn:Str}{cur:V}{ne ax:Int}{ds a6:List V}{ln:k8}{R G G':fW}{Rs:List fW}{hd es es':List cx}{done:List Ax.Line}
  (i1:kg ln Hd.x Hd.p Hd.w Hd.k Hd.rs.length) (i2:Hd.x≠.in_) (i3:dB hd (fS Hd.x Hd.rs)) (hG:G.Is A g) (hG':G'.Is A {g with pre:=[]}) (hGs:Frs A Rs gs) (hms:G'.ms=G.ms) (hne:ne=(ag.depth f (g::gs):Nat)) (hdp:ag.depth f (g::gs)<=20) (gp:f.pre=[])
  (he:dB es' (a5 (ag.fT g.pre E))) (hl:es'.length<=R.ms.length+es.length+1) (ho:xS (ag.fT g.pre E) G'.l G'.n) (hn:G'.n<=16):
  RS.Nx A ⟨⟨ra,rdx,st,dl,cur,fl,ne,ax,fn⟩,ds,ln,a6,R::G::Rs,hd,es⟩ ⟨⟨ra,rdx,st,dl,cur,fl,ne - 1 - G.f.bq,ax,fn⟩,ds,ln,a6,G'::Rs,hd,es'⟩ done done (ag.prim Hd E g gs):=by
 have hdf:(ag.depth f (g::gs):Int)=(ag.depth g gs:Nat)+1:=by
  unfold ag.depth;rw[gp];show((ag.base gs+g.pre.length+1+0:Nat):Int)=_;omega
 have hdo:=nh g gs;refine⟨⟨rfl,rfl,rfl,rfl,rfl,rfl,rfl,rfl,rfl,?_,ck (bc _) (bc _)⟩,⟨⟨i1,i2,i3,.cons hG' hGs,?_,?_⟩,he,?_⟩,.inl ⟨rfl,rfl,by simp[ag.prim]⟩⟩
 ·simp only[RS.bo,bM,aq,hms];omega
 ·rintro f' r' e;cases e;show ne - 1 - G.f.bq=_;rw[hG.pre];omega
 ·rintro f' r' e;cases e;omega
 ·rintro R' Rs' e;cases e;exact⟨ho,hn⟩
theorem oV(T:Txt P w K mg A):Ok P w K mg base 4 A.kP ["reader","token"] (iY A fun s=>∃e Hd f fs,s=.il e Hd f fs):=by
 refine T.pM.ok oR (fun vs H Q E h=>?_) (fun cdv A' outer s H vs Q E hr h=>?_)
 ·walk_at "vl"
 ·obtain⟨S,t,p,x,s,done,F,rfl,⟨e,Hd,f,fs,rfl⟩,ta,rl,is,gd,hc,sm,hH,kn,ks⟩:=h;refine⟨_,(ae (bp (i:=2) oR.nd rfl (Or.inl rfl) (de cO (aC (pv 0) rfl) (pT mG aV) (fun _ _=>rfl)))
   (ae (bg (fJ (AQ (gx hr) (aC (pv 1) rfl) (dH (by rfl) T.m6))) (ak (aF (aI (GG T) (hr.mono (by decide)) (by rfl) T.zd.at_ (aa (pv 2) (aa (sZ (gx hr) (dH (by rfl) T.m6) (aC (pv 1) rfl) (fun _ _=>rfl)) au))))) aQ)
   (ae (bg (aO fE (aC (pv 1) rfl) (dH (by rfl) T.vg) rfl) (ak (aF (aI (K4 T) (hr.mono (by decide)) (by rfl) T.Ek.at_ (aa (pv 2) au)))) aQ)
   (ae (bg (PW.pt (jP (aO cH (aC (pv 1) rfl) bF (bb _)) (iJ (aO rn (aC (pv 2) rfl) (aC (pv 2) rfl) (bb _))))) (ae (cN (aI (n8 T) (hr.mono (by decide)) (by rfl) T.ll.at_ (aa (pv 2) au)))
   (ak (aF bF))) aQ)
   (ae (bg (PW.pt (jP (aO cH (aC (pv 1) rfl) (aC (pv 2) rfl) (bb _)) (iJ (aO AU (aC (pv 2) rfl) (aC (pv 2) rfl) (bb _))))) (ak (aF (aI (GH T) (hr.mono (by decide)) (by rfl) T.Dh.at_ (aa (pv 0) au)))) aQ)
   (ak (aF dO))))))),?_⟩
  have hf:=ta.cZ;obtain⟨⟨i1,i2,i3,i4,i5,i9⟩,i6,i7⟩:=is;obtain⟨⟨ra,rdx,st,dl,cur,fl,ne,ax,fn⟩,ds,ln,a6,bK,hd,es⟩:=S;dsimp only at i1 i3 i4 i5 i6 i7 hc;subst hc;have smm:=sm.bo;have smf:=sm.bK;have smd:=sm.ds;obtain⟨gg,gp⟩:ag.cY (f::fs)/\f.pre=[]:=gd;obtain⟨R,Rs,rfl,hR,hRs⟩:∃R Rs,bK=R::Rs/\R.Is A f/\Frs A Rs fs:=by
   cases i4 with
   |cons h1 h2=>exact⟨_,_,rfl,h1,h2⟩
  obtain⟨hop,hn16⟩:=i7 R Rs rfl;have hne:ne=(ag.depth f fs:Nat):=i5 f fs rfl;have hdp:ag.depth f fs<=20:=i9 f fs rfl;have hpre0:R.f.bq=0:=by rw[hR.pre,gp];rfl
  have hH0:=hH;rw[cp]at hH;have hH1:=hH;unfold cI at hH;have hH2:=hH;walk_at "unf";walk_at "rd";have hl:=kd (bX Rs) (V.ref R.f.a);walk_at "ix";walk_at "rd";refine⟨A.iQ,_,rfl,.inl ⟨dP,Sum.inr t.cZ,T.m4,rfl,rfl⟩,_,rfl,?_⟩;rw[hf,xW rl];have emen:∀(f':fK)(rows:List Int)(l n:Int)(M:List Cell),hd++((bM Rs++(fW.mk f' rows l n M (R.ms++es)).ms)++[])=hd++((bM Rs++R.ms)++es):=fun _ _ _ _ _=>by simp
  have em2:∀(r':d8)(f':fK)(rows:List Int)(l n:Int)(M:List Cell),(RS.bo ⟨r',ds,ln,a6,⟨f',rows,l,n,M,R.ms++es⟩::Rs,hd,[]⟩).length<=(RS.bo ⟨⟨ra,rdx,st,dl,.ref ln.a,fl,ne,ax,fn⟩,ds,ln,a6,R::Rs,hd,es⟩).length+1:=fun r' f' rows l n M=>by
   have:RS.bo ⟨r',ds,ln,a6,⟨f',rows,l,n,M,R.ms++es⟩::Rs,hd,[]⟩=RS.bo ⟨⟨ra,rdx,st,dl,.ref ln.a,fl,ne,ax,fn⟩,ds,ln,a6,R::Rs,hd,es⟩:=by simp[RS.bo,bM]
   rw[this];exact bc _
  cases hlev:qw x with
  |some lev=>
   refine cn rfl ?_;obtain⟨o,ho,hl2,hl7,hlv⟩:∃o,ag.dw x=some o/\2<=Ax.level o/\Ax.level o<=7/\lev=7 - Ax.level o:=by
    unfold qw at hlev;cases ho:ag.dw x with
    |none=>rw[ho]at hlev;cases hlev
    |some o=>
     rw[ho]at hlev;dsimp only at hlev;by_cases hq:2<=Ax.level o/\Ax.level o<=7
     ·rw[ai hq]at hlev;cases hlev;exact⟨o,rfl,hq.1,hq.2,rfl⟩
     ·rw[af hq]at hlev;cases hlev
   have hr6:R.rows.length=6:=by rw[hR.rows];rfl
   have hsf:fq R.rows lev R.l R.n=(Ax.operands (Ax.level o) (ag.reduce f.rows (Ax.level o - 1) e):Int):=by rw[hR.rows,hlv];exact Oo hR.good hop hl2 hl7
   have hle:=Om (lev:=lev) (l:=R.l) (n:=R.n) hR.le hn16;have est:ag.step done (.il e Hd f fs) p x=if Ax.ROW<=Ax.operands (Ax.level o) (ag.reduce f.rows (Ax.level o - 1) e)then none else some (done,.want false Hd {f with rows:=ag.cC f.rows (Ax.level o) (o,ag.reduce f.rows (Ax.level o - 1) e)} fs):=by
    show ag.b6 done e Hd f fs x=_;unfold ag.b6;rw[ho];dsimp only;rw[af (by omega),ai hl2]
   walk_at "rd";refine⟨A.iQ,.int (lev:Int),rfl,.inl ⟨dP,Sum.inr t.cZ,T.m4,rfl,?_⟩,?_⟩
   ·rw[hf,xW rl,hlev];rfl
   walk_at "tn";refine TV hH1 hR.op (by omega) hr6 (fun h16 H' hH=>?_) fun h16 H' hH=>?_
   ·rw[ai (show Ax.ROW<=Ax.operands (Ax.level o) (ag.reduce f.rows (Ax.level o - 1) e) by show 16<=_;omega)]at est;refine kn est _ (dy (S:=⟨⟨ra,rdx,st,dl,.ref ln.a,fl,ne,ax,fn⟩,ds,ln,a6,R::Rs,hd,es⟩) ?_);rw[cp];exact hH
   ·rw[af (show ¬Ax.ROW<=Ax.operands (Ax.level o) (ag.reduce f.rows (Ax.level o - 1) e) by show ¬16<=_;omega)]at est;refine ks _ _ est _ ⟨⟨ra,rdx,st,dl,.ref ln.a,fl,ne,ax,fn⟩,ds,ln,a6,⟨R.f,sT R.rows lev (fq R.rows lev R.l R.n),R.l,R.n,R.M,R.ms++es⟩::Rs,hd,[]⟩ ⟨⟨rfl,rfl,rfl,rfl,rfl,rfl,rfl,rfl,rfl,em2 _ _ _ _ _ _,bc _⟩,⟨⟨i1,i2,i3,.cons ?_ hRs,?_,?_⟩,rfl,by simp⟩,.inl ⟨rfl,rfl,by simp⟩⟩ ?_
    ·refine⟨hR.closer,hR.gj,hR.most,hR.begun,hR.grouping,xO hR.array,hR.ranges,hR.red,hR.compared,hR.cmp,?_,O8 hR.good rfl,Mz hR.le (by omega),hR.pre,hR.op,?_,hR.args,hR.fn2⟩
     ·show sT R.rows lev (fq R.rows lev R.l R.n)=_;rw[KU _ _ _ _ hl2 hl7,hsf,hR.rows,hlv]
     ·show dB (R.ms++es) (ka f.ctx++(eM f.args++(jQ f.cmp++eL (ag.cC f.rows (Ax.level o) (o,ag.reduce f.rows (Ax.level o - 1) e)) 6)));rw[Aw f.rows (Ax.level o) o e hl2 6 (by omega)];have:=dB.append hR.bo i6;unfold FJ at this;simpa[aw]using this
    ·rintro f' r' q;cases q;exact hne
    ·rintro f' r' q;cases q;exact hdp
    ·rw[cp,emen];exact hH
  |none=>
   refine bV (by simp) ?_;walk_at "rd";refine⟨A.lq,ei,rfl,.inr (T.uZ.sq _),rfl,by decide +kernel,_,rfl,?_⟩;show if eF (V.str t.cZ) ei=true then _ else _
   rw[hf,Kb rl];by_cases hcm:x9 x=true
   ·refine cn hcm ?_;obtain⟨o,ho,hl8⟩:∃o,ag.dw x=some o/\Ax.level o=8:=by
     unfold x9 at hcm;cases ho:ag.dw x with
     |none=>rw[ho]at hcm;cases hcm
     |some o=>rw[ho]at hcm;exact⟨o,rfl,eq_of_beq hcm⟩
    have est:ag.step done (.il e Hd f fs) p x=if f.cmp.isSome=true then none else some (done,.want false Hd {f with cmp:=some (o,ag.reduce f.rows 6 e),rows:=ag.d7} fs):=by
     show ag.b6 done e Hd f fs x=_;unfold ag.b6;rw[ho];dsimp only;rw[ai hl8]
    walk_at "rd";have hH:=Holds.reorder hH2 8 [7,0,1,2,3,4,5,6] rfl;walk_at "ro";refine⟨R.f,_,rfl,hH,?_⟩;by_cases hcs:f.cmp.isSome=true
    ·rw[ai (by rw[hR.compared];exact hcs)];rw[ai hcs]at est;intro H' hH;have hH:=Holds.reorder hH 8 [1,2,3,4,5,6,7,0] rfl;walk_at "ro";refine kn est _ (dy (S:=⟨⟨ra,rdx,st,dl,.ref ln.a,fl,ne,ax,fn⟩,ds,ln,a6,R::Rs,hd,es⟩) ?_);rw[cp];exact hH
    ·rw[af (by rw[hR.compared];exact hcs)];rw[af hcs]at est;intro H' rl2 hH;have hcn:f.cmp=none:=by cases q:f.cmp with
      |none=>rfl
      |some z=>rw[q]at hcs;exact absurd rfl hcs
     refine ks _ _ est _ ⟨⟨ra,rdx,st,dl,.ref ln.a,fl,ne,ax,fn⟩,ds,ln,a6,⟨{R.f with compared:=true,rl:=rl2},[0,0,0,0,0,0],R.l,R.n,R.M,R.ms++es⟩::Rs,hd,[]⟩ ⟨⟨rfl,rfl,rfl,rfl,rfl,rfl,rfl,rfl,rfl,em2 _ _ _ _ _ _,bc _⟩,⟨⟨i1,i2,i3,.cons ?_ hRs,?_,?_⟩,rfl,by simp⟩,.inl ⟨rfl,rfl,by simp⟩⟩ ?_
     ·refine⟨hR.closer,hR.gj,hR.most,hR.begun,hR.grouping,xO hR.array,hR.ranges,hR.red,rfl,?_,rfl,(fun _ _ q=>nomatch q),by show ∀z∈([0,0,0,0,0,0]:List Int),z<=16;decide,hR.pre,hR.op,?_,hR.args,hR.fn2⟩
      ·rintro z q;cases q;exact hl8
      ·show dB (R.ms++es) (ka f.ctx++(eM f.args++(a5 (ag.reduce f.rows 6 e)++eL ag.d7 6)));rw[pQ,mY];have:=dB.append hR.bo i6;unfold FJ at this;rw[hcn]at this;simpa[aw,jQ]using this
     ·rintro f' r' q;cases q;exact hne
     ·rintro f' r' q;cases q;exact hdp
     ·rw[cp,emen];exact P0 (R:=R) (r:=⟨ra,rdx,st,dl,.ref ln.a,fl,ne,ax,fn⟩) (f':={R.f with compared:=true,rl:=rl2}) rfl rfl _ hH
   ·refine bV hcm ?_;have hop0:ag.dw x=none:=by
     cases ho:ag.dw x with
     |none=>rfl
     |some o=>
      exfalso;obtain⟨q1,q2⟩:=MP rl ho;unfold qw at hlev;unfold x9 at hcm;rw[ho]at hlev hcm;dsimp only at hlev hcm;by_cases q3:Ax.level o=8
      ·exact hcm (by rw[q3];rfl)
      ·rw[ai ⟨q1,by omega⟩]at hlev;cases hlev
    have hst:ag.step done (.il e Hd f fs) p x=ag.b6 done e Hd f fs x:=rfl;have hfn2:∀o,f.ctx=.fn2 o->Ax.level o<2:=hR.fn2;have hbg:=hR.begun;have hmo:=hR.most;have hfw:=hR.gj;have hcl:=hR.closer;have hwhole:dB (R.ms++es) (ka f.ctx++(eM f.args++a5 (ag.cP f.cmp (ag.reduce f.rows 6 e)))):=by
     rw[L4];have:=dB.append hR.bo i6;unfold FJ at this;simpa[aw]using this
    walk_at "rd";rw[dS,hf];have close:(x=.comma->¬(f.args.length:Int)+1<fu f.ctx)->Rv (Ry (RE (Kq (Ju T6 (zh K (qe 1) "form") (zh K (qe 2) "closer"))) (Kq (Ju (AE fun i j=>V.bl (decide (j<=i))) (zh K (qe 2) "begun") (zh K (qe 2) "fewest")))) (Kr (FF (nG A) [] E0 (FE (qe 0) qf))) PL) (Kr (tC .bA)) {nx:=fun _ H'=>Q .bA H',rt:=Q} [some (.ref ra),some (.ref t.a),some (.ref R.f.a)] H:=by
     intro hcomma;walk_at "rd";rw[dS,hf,hcl];by_cases h1:formOf x=uR f.ctx
     ·refine cn (ao h1) ?_;walk_at "rd";by_cases h2:jY f.ctx<=(f.args.length:Int)+1
      ·refine cn (ao (by rw[hbg,hfw];exact h2)) ?_;walk_at "rd";have hargs:=hR.args;have hgr:=hR.grouping;have har:=hR.array;have hrn:=hR.ranges;have hrd:=hR.red;have v8:∀x,f.cmp=some x->Ax.level x.1=8:=hR.cmp;have prim:∀{g:ag.Fr}{gs:List ag.Fr}{G:fW}{Rs':List fW}{E:Ax.Expr}{es':List cx}{H':Hp},fs=g::gs->Rs=G::Rs'->G.Is A g->Frs A Rs' gs->ag.b6 done e Hd f (g::gs) x=some (done,ag.prim Hd E g gs)->dB es' (a5 E)->es'.length<=R.ms.length+es.length+1->(∀lev,2<=lev->Ax.operands lev E=1)->
         Holds H' (t.c1 A::cI A ⟨ra,rdx,st,dl,.ref ln.a,fl,ne - 1 - G.f.bq,ax,fn⟩ ds (bX Rs') ln a6 (hd++(bM (G::Rs')++es')) (G.over A) (cg A Rs') F)->Q (.str "behind value") H':=by
        intro g gs G Rs' E es' H' e1 e2 hG hGs est he hlq ho hHq;subst e1 e2;refine ks _ _ (hst.trans est) _ ⟨⟨ra,rdx,st,dl,.ref ln.a,fl,ne - 1 - G.f.bq,ax,fn⟩,ds,ln,a6,G.over A::Rs',hd,es'⟩ (CT i1 i2 i3 hG (tf hG) hGs rfl hne hdp gp (by rw[nU];exact he) hlq (qC _ _ ho) (by show(1:Int)<=16;decide)) ?_;rw[cp];exact hHq
       have below:f.ctx≠.top->∃g gs G Rs',fs=g::gs/\Rs=G::Rs'/\G.Is A g/\Frs A Rs' gs:=by
        intro hnt;cases hRs with
        |nil=>
         exfalso;unfold ag.cY at gg;generalize f.ctx=c at gg hnt;cases c<;>first|exact hnt rfl|exact gg
        |cons a b=>exact⟨_,_,_,_,rfl,rfl,a,b⟩
       cases hctx:f.ctx with
       |top=>
        rw[hctx]at h1 hargs hgr har hrn hwhole;obtain rfl:=(Nq rl).mp h1;have hfs:fs=[]:=by unfold ag.cY at gg;rw[hctx]at gg;exact gg
        subst hfs;have hRs0:Rs=[]:=by cases hRs;rfl
        subst hRs0;have ha0:f.args=[]:=by
         have:fu .top=1:=rfl;rw[this]at hargs;exact bL (by omega)
        rw[ha0]at hwhole;have est:ag.b6 done e Hd f [] .semi=some (done++[⟨Hd.x,Hd.p,Hd.w,Hd.rs,Hd.k,ag.cP f.cmp (ag.reduce f.rows 6 e)⟩],.line):=by
         unfold ag.b6;dsimp only[ag.dw];rw[hctx]
        have hH:=Holds.reorder hH2 8 [1,2,3,7,0,4,5,6] rfl;walk_at "ro";refine .inl ⟨⟨ra,rdx,st,dl,.ref ln.a,fl,ne,ax,fn⟩,ds,R.f,_,rfl,hH,by dsimp only at smd;omega,fun H' hH=>?_⟩;have hH:=Holds.reorder hH 7 [3,0,1,2,4,5,6] rfl;walk_at "ro";have em5:RS.bo ⟨⟨ra,rdx,st,dl,.ref ln.a,fl,ne,ax,fn⟩,ds++[.ref ln.a],ln,a6,[],hd,R.ms++es⟩=hd++((bM []++R.ms)++es):=by simp[RS.bo,bM]
        refine ks _ _ (hst.trans est) _ ⟨⟨ra,rdx,st,dl,.ref ln.a,fl,ne,ax,fn⟩,ds++[.ref ln.a],ln,a6,[],hd,R.ms++es⟩ ⟨⟨rfl,rfl,rfl,rfl,rfl,rfl,rfl,rfl,rfl,?_,by simp⟩,trivial,.inr ⟨_,rfl,rfl,rfl,i1,rfl,?_,?_⟩⟩ ?_
        ·rw[em5];simp[RS.bo,bM]
        ·rw[em5];show dB (hd++(([]++R.ms)++es)) (fS Hd.x Hd.rs++a5 _);rw[List.nil_append];exact dB.append i3 hwhole
        ·show ne=0;rw[hne];unfold ag.depth;rw[gp];rfl
        ·rw[RS.ou,em5];exact hH.sub (oB (.cons _ (aL _ _)))
       |group=>
        obtain⟨g,gs,G,Rs',e1,e2,hG,hGs⟩:=below (by rw[hctx];simp);rw[hctx]at h1 hargs hgr har hrn hwhole;obtain rfl:=(qL rl).mp h1;have ha0:f.args=[]:=by
         have:fu .group=1:=rfl;rw[this]at hargs;exact bL (by omega)
        rw[ha0]at hwhole;subst e1 e2;have est:ag.b6 done e Hd f (g::gs) .closeP=some (done,ag.prim Hd (ag.cP f.cmp (ag.reduce f.rows 6 e)) g gs):=by
         unfold ag.b6 ag.iB;dsimp only[ag.dw];rw[hctx];rfl
        refine NJ (E:=E0) hH1 hgr har hrn hR.op fun H' oa M' op' hH=>?_;have hgp:=hG.pre;have em6:hd++((bM Rs'++G.ms)++(R.ms++es))=hd++((bM (G::Rs')++R.ms)++es):=by simp[bM]
        have hl6:(R.ms++es).length<=R.ms.length+es.length+1:=by rw[aq];exact bc _
        have hrv:=MC hR.good v8 hop;rw[<-hR.compared,<-hR.rows]at hrv;have hrl:(g0 R.f.compared R.rows R.l R.n).2<=16:=by rw[hR.rows];exact MB (by rw[<-hR.rows];exact hR.le) hn16
        by_cases hp0:G.f.bq=0
        ·rw[ai hp0]at hH;have hgpre:g.pre=[]:=bL (by omega);refine ks _ _ (hst.trans est) _ ⟨⟨ra,rdx,st,dl,.ref ln.a,fl,ne - 1 - G.f.bq,ax,fn⟩,ds,ln,a6,⟨{G.f with oa:=oa,bq:=0},G.rows,(g0 R.f.compared R.rows R.l R.n).1,(g0 R.f.compared R.rows R.l R.n).2,M',G.ms⟩::Rs',hd,R.ms++es⟩ (CT i1 i2 i3 hG ⟨hG.closer,hG.gj,hG.most,hG.begun,hG.grouping,hG.array,hG.ranges,hG.red,hG.compared,hG.cmp,hG.rows,hG.good,hG.le,rfl,op',hG.bo,hG.args,hG.fn2⟩ hGs rfl hne hdp gp (by rw[nU];exact hwhole) hl6 (by rw[hgpre];exact hrv) hrl) ?_;rw[cp];dsimp only;rw[em6];exact hH
        ·rw[af hp0]at hH;obtain⟨u,pr,hgpre⟩:∃u pr,g.pre=u::pr:=by
          cases q:g.pre with
          |nil=>rw[q]at hgp;exact absurd hgp hp0
          |cons u pr=>exact⟨u,pr,rfl⟩
         refine ks _ _ (hst.trans est) _ ⟨⟨ra,rdx,st,dl,.ref ln.a,fl,ne - 1 - G.f.bq,ax,fn⟩,ds,ln,a6,G.over A::Rs',hd,R.ms++es⟩ (CT i1 i2 i3 hG (tf hG) hGs rfl hne hdp gp (by rw[nU];exact hwhole) hl6 (by rw[hgpre];exact qC pr (.un u _) fun _ _=>rfl) (by show(1:Int)<=16;decide)) ?_;rw[cp];show Holds H' (t.c1 A::cI A _ ds (bX Rs') ln a6 (hd++((bM Rs'++G.ms)++(R.ms++es))) (G.over A) (cg A Rs') F);rw[em6];unfold cI at hH⊢;exact hH.sub (oB (.cons_cons _ (.cons_cons _ (aL _ _))))
       |fn1 o=>
        obtain⟨g,gs,G,Rs',e1,e2,hG,hGs⟩:=below (by rw[hctx];simp);rw[hctx]at h1 h2 hargs hgr har hrn hwhole;obtain rfl:=(qL rl).mp h1;have hlen:f.args.length=0:=by
         have q1:fu (.fn1 o)=1:=rfl;have q2:jY (.fn1 o)=1:=rfl;rw[q1]at hargs;rw[q2]at h2;omega
        have ha0:f.args=[]:=bL hlen;rw[ha0]at hwhole;have est:ag.b6 done e Hd f (g::gs) .closeP=some (done,ag.prim Hd (.un o (ag.cP f.cmp (ag.reduce f.rows 6 e))) g gs):=by
         unfold ag.b6 ag.iB;dsimp only[ag.dw];rw[hctx,ha0];rfl
        subst e2;refine xM (E:=E0) hH1 hgr har hrn fun H' hH=>?_;refine prim (E:=.un o (ag.cP f.cmp (ag.reduce f.rows 6 e))) (es':=R.ms++es) e1 rfl hG hGs est ?_ (by rw[aq];exact bc _) (fun _ _=>rfl) ?_
        ·simpa[ka,eM,a5,aw]using hwhole
        ·have em6:hd++(bM (G::Rs')++(R.ms++es))=hd++((bM (G::Rs')++R.ms)++es):=by simp[bM]
         rw[em6];exact hH
       |fn2 o=>
        obtain⟨g,gs,G,Rs',e1,e2,hG,hGs⟩:=below (by rw[hctx];simp);rw[hctx]at h1 h2 hargs hgr har hrn hwhole;obtain rfl:=(qL rl).mp h1;have hlen:f.args.length=1:=by
         have q1:fu (.fn2 o)=2:=rfl;have q2:jY (.fn2 o)=2:=rfl;rw[q1]at hargs;rw[q2]at h2;omega
        obtain⟨a,ha0⟩:∃a,f.args=[a]:=List.length_eq_one_iff.mp hlen;rw[ha0]at hwhole;have est:ag.b6 done e Hd f (g::gs) .closeP=some (done,ag.prim Hd (.bin o a (ag.cP f.cmp (ag.reduce f.rows 6 e))) g gs):=by
         unfold ag.b6 ag.iB;dsimp only[ag.dw];rw[hctx,ha0];rfl
        subst e2;refine xM (E:=E0) hH1 hgr har hrn fun H' hH=>?_;refine prim (E:=.bin o a (ag.cP f.cmp (ag.reduce f.rows 6 e))) (es':=R.ms++es) e1 rfl hG hGs est ?_ (by rw[aq];exact bc _) (fun lev hl=>by rw[jR,af (by have:=hfn2 o hctx;omega)]) ?_
        ·simpa[ka,eM,a5,aw]using hwhole
        ·have em6:hd++(bM (G::Rs')++(R.ms++es))=hd++((bM (G::Rs')++R.ms)++es):=by simp[bM]
         rw[em6];exact hH
       |cond=>
        obtain⟨g,gs,G,Rs',e1,e2,hG,hGs⟩:=below (by rw[hctx];simp);rw[hctx]at h1 h2 hargs hgr har hrn hwhole;obtain rfl:=(qL rl).mp h1;have hlen:f.args.length=2:=by
         have q1:fu (.cond)=3:=rfl;have q2:jY (.cond)=3:=rfl;rw[q1]at hargs;rw[q2]at h2;omega
        obtain⟨a,b,ha0⟩:∃a b,f.args=[a,b]:=by
         match hq:f.args,hlen with
         |[a,b],_=>exact⟨a,b,rfl⟩
        rw[ha0]at hwhole;have est:ag.b6 done e Hd f (g::gs) .closeP=some (done,ag.prim Hd (.cond a b (ag.cP f.cmp (ag.reduce f.rows 6 e))) g gs):=by
         unfold ag.b6 ag.iB;dsimp only[ag.dw];rw[hctx,ha0];rfl
        subst e2;refine xM (E:=E0) hH1 hgr har hrn fun H' hH=>?_;refine prim (E:=.cond a b (ag.cP f.cmp (ag.reduce f.rows 6 e))) (es':=R.ms++es) e1 rfl hG hGs est ?_ (by rw[aq];exact bc _) (fun _ _=>rfl) ?_
        ·simpa[ka,eM,a5,aw]using hwhole
        ·have em6:hd++(bM (G::Rs')++(R.ms++es))=hd++((bM (G::Rs')++R.ms)++es):=by simp[bM]
         rw[em6];exact hH
       |red gr rs=>
        obtain⟨g,gs,G,Rs',e1,e2,hG,hGs⟩:=below (by rw[hctx];simp);rw[hctx]at h1 hargs hgr har hrn hwhole hrd;obtain rfl:=(qL rl).mp h1;have ha0:f.args=[]:=by
         have:fu (.red gr rs)=1:=rfl;rw[this]at hargs;exact bL (by omega)
        rw[ha0]at hwhole;have hrn:R.f.ranges=(rs.length:Int):=hrn;have hrd:0<rs.length:=hrd;have est:ag.b6 done e Hd f (g::gs) .closeP=some (done,ag.prim Hd (.red gr rs (ag.cP f.cmp (ag.reduce f.rows 6 e))) g gs):=by
         unfold ag.b6 ag.iB;dsimp only[ag.dw];rw[hctx];rfl
        subst e2;refine NI (E:=E0) hH1 hgr har (by rw[hrn];omega) rfl smm fun H' x dx hH=>?_;refine prim (E:=.red gr rs (ag.cP f.cmp (ag.reduce f.rows 6 e))) (es':=(R.ms++es)++[⟨x,dx,"end","",0,R.f.ranges⟩]) e1 rfl hG hGs est ?_ (by simp;omega) (fun _ _=>rfl) ?_
        ·have:=dB.append hwhole (.cons (show cx.Is ⟨x,dx,"end","",0,R.f.ranges⟩ ⟨"end",[],0,rs.length⟩from⟨rfl,rfl,rfl,hrn⟩) .nil);simpa[ka,eM,a5,aw]using this
        ·have em6:hd++(bM (G::Rs')++((R.ms++es)++[⟨x,dx,"end","",0,R.f.ranges⟩]))=(hd++((bM (G::Rs')++R.ms)++es))++[⟨x,dx,"end","",0,R.f.ranges⟩]:=by simp[bM]
         rw[em6];exact hH
       |elem pp ww=>
        obtain⟨g,gs,G,Rs',e1,e2,hG,hGs⟩:=below (by rw[hctx];simp);rw[hctx]at h1 hargs hgr har hrn hwhole;obtain rfl:=(uI rl).mp h1;obtain⟨m,rest,em,ea⟩:=har;have ha3:f.args.length<=3:=by
         have:fu (.elem pp ww)=4:=rfl;rw[this]at hargs;omega
        have est:ag.b6 done e Hd f (g::gs) .closeB=some (done,ag.prim Hd (ag.e8 pp ww f.args (ag.cP f.cmp (ag.reduce f.rows 6 e))) g gs):=by
         unfold ag.b6 ag.nZ;dsimp only[ag.dw];rw[hctx];rfl
        subst e2;have hm2:hd++((bM (G::Rs')++R.ms)++es)=(hd++bM (G::Rs'))++m::(rest++es):=by rw[em];simp
        have hH1':=hH1;rw[hm2]at hH1';rw[em]at hwhole;have hwhole:dB (m::(rest++es)) (⟨"array",ww,pp,0⟩::(eM f.args++a5 (ag.cP f.cmp (ag.reduce f.rows 6 e)))):=hwhole;cases hwhole with
        |cons hm hrest=>
         refine Er (E:=E0) hH1' hgr ea hrn fun H' hH=>?_;refine prim (E:=ag.e8 pp ww f.args (ag.cP f.cmp (ag.reduce f.rows 6 e))) (es':={m with count:=R.f.begun}::(rest++es)) e1 rfl hG hGs est ?_ (by rw[em];simp) ?_ ?_
         ·rw[Fo _ _ _ _ ha3];exact .cons ⟨hm.pu,hm.name,hm.place,by show R.f.begun=_;rw[hbg];rfl⟩ hrest
         ·intro lev hl
          match f.args,ha3 with
          |[],_=>rfl
          |[a],_=>rfl
          |[a,b],_=>rfl
          |[a,b,c],_=>rfl
         ·rw[<-aw];exact hH
      ·refine bV (fun q=>h2 (by have:=ab q;rw[hbg,hfw]at this;exact this)) ?_;walk_at "rd";exact kn (hst.trans (D7 hop0 hcomma fun _=>by omega)) _ (dy hH0)
     ·refine bV (fun q=>h1 (ab q)) ?_;walk_at "rd";exact kn (hst.trans (D7 hop0 hcomma fun q=>absurd q h1)) _ (dy hH0)
    by_cases h1:formOf x=","
    ·obtain rfl:=(ya rl).mp h1;refine cn (ao h1) ?_;walk_at "rd";by_cases h2:(f.args.length:Int)+1<fu f.ctx
     ·refine cn (ao (by rw[hbg,hmo];exact h2)) ?_;walk_at "rd";walk_at "tn";have hH:=Holds.reorder hH2 8 [7,0,1,2,3,4,5,6] rfl;walk_at "ro";refine⟨R.f,_,rfl,hH,fun H rl2 hH=>?_⟩;walk_at "rd";refine ks _ _ (hst.trans (Lp h2)) _ ⟨⟨ra,rdx,st,dl,.ref ln.a,fl,ne,ax,fn⟩,ds,ln,a6,⟨{R.f with begun:=R.f.begun+1,compared:=false,rl:=rl2},[0,0,0,0,0,0],R.l,R.n,R.M,R.ms++es⟩::Rs,hd,[]⟩ ⟨⟨rfl,rfl,rfl,rfl,rfl,rfl,rfl,rfl,rfl,em2 _ _ _ _ _ _,bc _⟩,⟨⟨i1,i2,i3,.cons ?_ hRs,?_,?_⟩,rfl,by simp⟩,.inl ⟨rfl,rfl,by simp[ag.gU]⟩⟩ ?_
      ·refine⟨hR.closer,hR.gj,hR.most,?_,hR.grouping,xO hR.array,hR.ranges,hR.red,rfl,(fun _ q=>nomatch q),rfl,(fun _ _ q=>nomatch q),by show ∀z∈([0,0,0,0,0,0]:List Int),z<=16;decide,hpre0,hR.op,?_,?_,hR.fn2⟩
       ·show R.f.begun+1=(((f.args++[_]).length:Nat):Int)+1;rw[aq,hbg];rfl
       ·show dB (R.ms++es) (ka f.ctx++(eM (f.args++[ag.cP f.cmp (ag.reduce f.rows 6 e)])++([]++eL ag.d7 6)));rw[mY];have e1:eM (f.args++[ag.cP f.cmp (ag.reduce f.rows 6 e)])=eM f.args++a5 (ag.cP f.cmp (ag.reduce f.rows 6 e)):=by unfold eM;rw[cq];simp
        rw[e1];simpa using hwhole
       ·show(((f.args++[_]).length:Nat):Int)+1<=fu f.ctx;rw[aq];show(f.args.length:Int)+1+1<=_;omega
      ·rintro f' r' q;cases q;show ne=((ag.base fs+0:Nat):Int);rw[hne];unfold ag.depth;rw[gp];rfl
      ·rintro f' r' q;cases q;show ag.base fs+0<=20;unfold ag.depth at hdp;omega
      ·rw[cp,emen];exact P0 (R:=R) (r:=⟨ra,rdx,st,dl,.ref ln.a,fl,ne,ax,fn⟩) (f':={R.f with begun:=R.f.begun+1,compared:=false,rl:=rl2}) rfl rfl _ hH
     ·refine bV (fun q=>h2 (by have:=ab q;rw[hbg,hmo]at this;exact this)) ?_;exact close fun _=>h2
    ·refine bV (fun q=>h1 (ab q)) ?_;exact close fun q=>absurd (by rw[q];rfl) h1
theorem G1(ms:List cx)(m:cx):nk (b8 (ms++[m])) (-1)=some (V.ref m.a):=by rw[jU];exact kd _ _
theorem yw(T:Txt P w K mg A):Ok P w K mg base 5 A.lU ["reader","token"] (iY A fun s=>∃q w Hd f fs,s=.named q w Hd f fs):=by
 refine T.z3.ok kJ (fun vs H Q E h=>?_) (fun cdv A' outer s H vs Q E hr h=>?_)
 ·walk_at "vl"
 ·obtain⟨S,t,p,x,s,done,F,rfl,⟨q,wd,Hd,f,fs,rfl⟩,ta,rl,is,gd,hc,sm,hH,kn,ks⟩:=h;refine⟨_,(ae (bg (aO ku (aC (pv 1) rfl) bF (bb _)) (ae (cN (aI (n6 T) (hr.mono (by decide)) (by rfl) T.lj.at_ (aa (pv 0) (aa (dH (by rfl) T.og) au))))
   (ak (aF (aI (oV T) (hr.mono (by decide)) (by rfl) T.pM.at_ (aa (pv 0) (aa (pv 1) au)))))) aQ)
   (ae (bg (aO cH (aC (pv 0) rfl) (bZ (by rfl) T.vf) (bb _)) (ak (aF dO)) aQ)
   (ae (bp (i:=2) kJ.nd rfl (Or.inl rfl) (de cO (aC (aC (pv 0) rfl) rfl) (pT mG aV) (fun _ _=>rfl)))
   (ae (bu (pv 2) (el (by rfl) T.Df) rfl)
   (ae (bp (i:=3) kJ.nd rfl (Or.inl rfl) (d5 (qE T) (hr.mono (by decide)) (by rfl) T.tq (aa bF (aa aV (aa (bZ (by rfl) T.y2) au)))))
   (ae (bu (pv 3) (pv 2) rfl)
   (ae (cN (aI (xZ T) (hr.mono (by decide)) (by rfl) T.xB.at_ (aa (pv 0) (aa (pv 3) au))))
   (ak (aF bF))))))))),?_⟩
  have hf:=ta.cZ;obtain⟨⟨i1,i2,i3,i4,i5,i9⟩,m,i6,hm⟩:=is;obtain⟨⟨ra,rdx,st,dl,cur,fl,ne,ax,fn⟩,ds,ln,a6,bK,hd,es⟩:=S;dsimp only at i1 i3 i4 i5 i6 hc;subst i6 hc;have smm:=sm.bo;have smf:=sm.bK;obtain⟨R,Rs,rfl,hR,hRs⟩:∃R Rs,bK=R::Rs/\R.Is A f/\Frs A Rs fs:=by
   cases i4 with
   |cons h1 h2=>exact⟨_,_,rfl,h1,h2⟩
  have hne:ne=(ag.depth f fs:Nat):=i5 f fs rfl;have hdp:ag.depth f fs<=20:=i9 f fs rfl;have hH0:=hH;have hHc:=hH;rw[cp]at hH;have hH1:=hH;unfold cI at hH;walk_at "unf";walk_at "rd";rw[dS,hf];by_cases h1:formOf x="["
  ·obtain rfl:=(JZ rl).mp h1;refine bV (by rw[ao h1];exact aE) ?_;walk_at "rd";rw[dI];by_cases h3:ne=20
   ·refine cn (ao h3) ?_;walk_at "rd";refine kn ?_ _ (dy hH0);show(if Ax.DEEP<=ag.depth f fs then none else _)=none;rw[ai (show Ax.DEEP<=ag.depth f fs by show 20<=_;omega)]
   ·refine bV (fun q=>h3 (ab q)) ?_;have est:ag.step done (.named q wd Hd f fs) p .openB=some (done,.want true Hd (ag.cy (.elem q wd)) (f::fs)):=by
     show(if Ax.DEEP<=ag.depth f fs then none else _)=_;rw[af (show ¬Ax.DEEP<=ag.depth f fs by show ¬20<=_;omega)]
    have em:RS.bo ⟨⟨ra,rdx,st,dl,.ref ln.a,fl,ne,ax,fn⟩,ds,ln,a6,R::Rs,hd,[m]⟩=(hd++bM (R::Rs))++[m]:=by simp[RS.bo]
    rw[RS.ou,em]at hHc;have hH:Holds H (m.c A::t.c1 A::d8.c A ⟨ra,rdx,st,dl,.ref ln.a,fl,ne,ax,fn⟩::(dl,.lst ds)::(fl,.lst (bX (R::Rs)))::ln.c A::(ln.tl,.lst a6)::(ln.ml,.lst (b8 ((hd++bM (R::Rs))++[m])))::(cg A (R::Rs)++(cB A (hd++bM (R::Rs))++F))):=by
     refine hHc.perm (List.Perm.symm ?_);unfold cellsOf;refine(bh (l₁:=[t.c1 A,d8.c A ⟨ra,rdx,st,dl,.ref ln.a,fl,ne,ax,fn⟩,(dl,.lst ds),(fl,.lst (bX (R::Rs))),ln.c A,(ln.tl,.lst a6),(ln.ml,.lst (b8 ((hd++bM (R::Rs))++[m])))])).symm.trans ?_;refine cz _ ?_;refine(bh (l₁:=cg A (R::Rs))).symm.trans (cz _ ?_);rw[lb,aw];exact(bh (l₁:=cB A (hd++bM (R::Rs)))).symm
    walk_at "unf";walk_at "rd";have hl:=G1 (hd++bM (R::Rs)) m;walk_at "ix";walk_at "rd";walk_at "st";walk_at "rd";walk_at "mk";refine⟨x,dx,_,_,_,_,rfl,hH,fun H rl hH=>⟨rfl,?_⟩⟩;have hH3:=hH;walk_at "unf";walk_at "rd";walk_at "st";walk_at "rd";walk_at "tn";have hH:Holds H (fK.c A ⟨x,dx,"]",0,4,0,false,.ref m.a,0,false,rl,A.cu,0⟩::t.c1 A::cellsOf A ⟨ra,rdx,st,dl,.ref ln.a,fl,ne,ax,fn⟩ ds (bX (R::Rs)) ln a6 ((hd++bM (R::Rs))++[⟨m.a,m.dx,"array",m.name,m.place,m.count⟩]) (cg A (R::Rs)) F):=by
     have hH:=hH.tl;refine hH.perm (.cons _ ?_);unfold cellsOf;rw[jU,jU];refine(bh (l₁:=[t.c1 A,d8.c A ⟨ra,rdx,st,dl,.ref ln.a,fl,ne,ax,fn⟩,(dl,.lst ds),(fl,.lst (bX (R::Rs))),ln.c A,(ln.tl,.lst a6),(ln.ml,.lst (b8 (hd++bM (R::Rs))++[V.ref m.a]))])).symm.trans ?_;refine cz _ ?_;refine(bh (l₁:=cg A (R::Rs))).symm.trans (cz _ ?_);rw[lb,aw];exact(bh (l₁:=cB A (hd++bM (R::Rs)))).symm
    refine xJ (f:=⟨x,dx,"]",0,4,0,false,.ref m.a,0,false,rl,A.cu,0⟩) hH (by dsimp only at smf;exact smf) fun H rl2 hH=>?_;walk_at "rd";refine ks _ _ est _ ⟨⟨ra,rdx,st,dl,.ref ln.a,fl,ne+1,ax,fn⟩,ds,ln,a6,⟨⟨x,dx,"]",0,4,0+1,false,.ref m.a,0,false,rl2,A.cu,0⟩,[0,0,0,0,0,0],-1,1,[],[⟨m.a,m.dx,"array",m.name,m.place,m.count⟩]⟩::R::Rs,hd,[]⟩ ⟨⟨rfl,rfl,rfl,rfl,rfl,rfl,rfl,rfl,rfl,?_,aD _⟩,⟨⟨i1,i2,i3,.cons ?_ i4,?_,?_⟩,rfl,fun _=>⟨_,_,rfl⟩⟩,.inl ⟨rfl,rfl,by simp⟩⟩ ?_
    ·simp[RS.bo,bM]
    ·exact lP (c:=.elem q wd) rfl rfl rfl rfl rfl ⟨_,[],rfl,rfl⟩ rfl trivial rfl rfl rfl .no (.cons ⟨rfl,hm.name,hm.place,hm.count⟩ .nil)
    ·rintro f' r' e;cases e;show ne+1=_;rw[fb,hne]
    ·rintro f' r' e;cases e;have:=fb (.elem q wd) f fs;omega
    ·rw[cp];have e:hd++((bM (R::Rs)++[⟨m.a,m.dx,"array",m.name,m.place,m.count⟩])++[])=(hd++bM (R::Rs))++[⟨m.a,m.dx,"array",m.name,m.place,m.count⟩]:=by simp
     dsimp only;rw[e];exact hH
  ·refine cn (by rw[aY h1];rfl) ?_;walk_at "rd";walk_at "tn";refine P1 (E:=E0) hH1 fun H hH=>?_;have est:ag.step done (.named q wd Hd f fs) p x=ag.step done (.il (ag.fT f.pre (.name q wd)) Hd {f with pre:=[]} fs) p x:=by
    cases x<;>first|rfl|exact absurd rfl h1
   rw[est]at kn;walk_at "rd";walk_at "tn";have gd':ag.cY ({f with pre:=[]}::fs):=by
    have gd:ag.cY (f::fs):=gd;unfold ag.cY at gd⊢;exact gd
   have hdo:=nh f fs;refine⟨⟨⟨ra,rdx,st,dl,.ref ln.a,fl,ne - R.f.bq,ax,fn⟩,ds,ln,a6,R.over A::Rs,hd,[m]⟩,t,p,x,_,done,F,rfl,⟨_,_,_,_,rfl⟩,ta,rl,⟨⟨i1,i2,i3,.cons (tf hR) hRs,?_,?_⟩,?_,?_⟩,⟨gd',rfl⟩,rfl,⟨smm,smf,sm.ds⟩,?_,kn,?_⟩
   ·rintro f' r' e;cases e;show ne - R.f.bq=_;rw[hR.pre,hne,hdo]
   ·rintro f' r' e;cases e;omega
   ·rw[nU];exact .cons hm .nil
   ·rintro R' Rs' e;cases e;exact⟨qC _ _ fun _ _=>rfl,by show(1:Int)<=16;decide⟩
   ·rw[cp];exact hH
   ·rw[<-est];intro done' s' e1 H' S' nx hH';obtain⟨kp,isn,dn⟩:=nx;exact ks done' s' e1 H' S' ⟨⟨kp.ra,kp.dl,kp.fl,kp.st,kp.cur,kp.ln,kp.tl,kp.ml,kp.a6,kp.bo,kp.bK⟩,isn,dn⟩ hH'
def Sk:Ax.Tok->Bool
 | .line _=>true
 |_=>false
theorem Sy{x:Ax.Tok}(h:cQ x):eF (.str (formOf x)) eg=Sk x:=by
 cases x with
 |num n=>show eF (.str (Str.ofString "number")) eg=false;decide +kernel
 |name n=>show eF (.str (Str.ofString "name")) eg=false;decide +kernel
 |kind n=>show eF (.str (Str.ofString "kind")) eg=false;decide +kernel
 |line y=>cases y<;>decide +kernel
 |red y=>cases y<;>decide +kernel
 |fn1 y=>cases y<;>first|exact False.elim h|decide +kernel
 |fn2 y=>cases y<;>first|exact False.elim h|decide +kernel
 |op y=>cases y<;>first|exact False.elim h|decide +kernel
 |_=>decide +kernel
def FA:Ax.What->Nat
 | .size=>0
 | .in_=>1
 | .let_=>2
 | .out=>3
theorem QL(y:Ax.What):eg[FA y]? =some (V.str (zg y))/\∀m,m<FA y->vv (eg.getD m .bA) (V.str (zg y))=false:=by
 cases y<;>decide +kernel
structure b0 where
 ln:k8
 a6:List cf
 ms:List cx
def b0.cells(A:Ad)(L:b0):List Cell:=L.ln.c A::(L.ln.tl,.lst (L.a6.map fun d=>V.ref d.a))::(L.ln.ml,.lst (b8 L.ms))::cB A L.ms
def steps(done:List Ax.Line)(s:ag.St):List Ax.Placed->Option (List Ax.Line×ag.St)
 |[]=>some (done,s)
 |(p,x)::r=>match ag.step done s p x with
  |none=>none
  |some y=>steps y.1 y.2 r
theorem Ks{done:List Ax.Line}{s:ag.St}{xs:List Ax.Placed}{d1:List Ax.Line}{s1:ag.St}{p:Nat}{x:Ax.Tok}(h:steps done s xs=some (d1,s1)):steps done s (xs++[(p,x)])=ag.step d1 s1 p x:=by
 induction xs generalizing done s with
 |nil=>
  have e:done=d1/\s=s1:=by cases h;exact⟨rfl,rfl⟩
  rw[e.1,e.2];show(match ag.step d1 s1 p x with|none=>none|some y=>steps y.1 y.2 [])=_;cases ag.step d1 s1 p x<;>rfl
 |cons y r ih=>
  obtain⟨q,y⟩:=y;have h':(match ag.step done s q y with|none=>none|some y=>steps y.1 y.2 r)=some (d1,s1):=h;show(match ag.step done s q y with|none=>none|some y=>steps y.1 y.2 (r++[(p,x)]))=_;cases e:ag.step done s q y with
  |none=>rw[e]at h';cases h'
  |some z=>rw[e]at h';exact ih h'
def Dx(d done:List Ax.Line)(s:ag.St)(a6:List cf):Prop:=∃(xs:List Ax.Placed),Toks a6 xs/\(∀x∈xs,cQ x.2)/\steps d .line xs=some (done,s)
theorem Dx.snoc{d done:List Ax.Line}{s:ag.St}{a6:List cf}{t:cf}{p:Nat}{x:Ax.Tok}{y:List Ax.Line×ag.St}(h:Dx d done s a6)(a:t.At (p,x))(r:cQ x)(e:ag.step done s p x=some y):Dx d y.1 y.2 (a6++[t]):=by
 obtain⟨xs,h1,h2,h3⟩:=h;refine⟨xs++[(p,x)],h1.append (.cons a .nil),fun z hz=>?_,by rw[Ks h3];exact e⟩
 rcases bU.mp hz with q|q
 ·exact h2 z q
 ·cases bI.mp q;exact r
structure b0.Is(L:b0)(l:Ax.Line):Prop where
 head:kg L.ln l.what l.place l.name l.kind l.axes.length
 bo:dB L.ms (fP l)
 UP:∃d,Dx d (d++[l]) .line L.a6
 rF:L.a6.length<=1024/\L.ms.length<=2048
def Dy(Ls:List b0):Nat:=(Ls.map fun L=>wt L.a6).sum
theorem N9(Ls:List b0)(L:b0):Dy (Ls++[L])=Dy Ls+wt L.a6:=by unfold Dy;rw[bC,List.sum_append];simp
def sj(Ls:List b0):List cf:=Ls.flatMap fun L=>L.a6
theorem Mi(Ls:List b0)(L:b0):sj (Ls++[L])=sj Ls++L.a6:=by unfold sj;rw[cq,bz,fM,aK]
theorem Js(Ls:List b0):wt (sj Ls)=Dy Ls:=by
 unfold sj Dy
 induction Ls with
 |nil=>rfl
 |cons L Ls ih=>rw[bz,oM,ih,a8,k9]
def bB(Ls:List b0):List V:=Ls.map fun L=>V.ref L.ln.a
def dr(A:Ad)(Ls:List b0):List Cell:=Ls.flatMap (b0.cells A)
abbrev oK(Ls:List b0)(P:List Ax.Line):Prop:=Paired b0.Is Ls P
inductive Loop(A:Ad)(ra:Addr)(done:List Ax.Line)(n:Nat)(m:List cf):ag.St->(List Cell->List Cell)->Prop
 |line (r:d8) (Ls:List b0):r.a=ra->r.st="line"->r.nested=0->oK Ls done->Ls.length<=n->sj Ls=m->Loop A ra done n m .line (fun F=>r.c A::(r.dl,.lst (bB Ls))::(r.fl,.lst [])::(dr A Ls++F))
 |step (S:RS) (s:ag.St) (Ls:List b0) (cur:List cf):s≠.line->S.r.a=ra->S.r.st=sP s->S.r.cur=.ref S.ln.a->S.Is A s->S.ds=bB Ls->S.a6=(cur.map fun d=>V.ref d.a)->oK Ls done->Dx done done s cur->Ls.length<=n->S.bo.length<=2*n->S.bK.length<=n->cur.length<=n->sj Ls++cur=m->
   Loop A ra done n m s (fun F=>S.cells A (dr A Ls++F))
def KD(A:Ad):Sp:=fun vs H Q _=>∃(r:d8)(ds:List V)(t:cf)(p:Nat)(x:Ax.Tok)(F:List Cell),vs=[.ref r.a,.ref t.a]/\t.At (p,x)/\cQ x/\Holds H (t.c1 A::r.c A::(r.dl,.lst ds)::(r.fl,.lst [])::F)/\
 ((∀y,x≠.line y)->∀H',Holds H' (t.c1 A::F)->Q .bA H')/\
 ∀y,x=.line y->∀H'(a dx tl ml:Addr),Holds H' (t.c1 A::RS.cells A ⟨{r with cur:=.ref a},ds,⟨a,dx,tZ y,"",0,0,0,tl,ml⟩,[],[],[],[]⟩ F)->Q (.str "line name") H'
theorem K5(T:Txt P w K mg A):Ok P w K mg base 3 A.xp ["reader","token"] (KD A):=by
 refine T.NB.ok KP (fun vs H Q E h=>?_) (fun cdv A' outer s H vs Q E hr h=>?_)
 ·walk_at "vl"
 ·obtain⟨r,ds,t,p,x,F,rfl,ta,rl,hH,kn,ks⟩:=h;refine⟨_,(ae (bg (aO qB (aC (pv 1) rfl) (dH (by rfl) T.xc) rfl) (ak (aF dO)) aQ)
   (ae (bu (pv 0) (d5 (QJ T) (hr.mono (by decide)) (by rfl) T.R7 (aa (hZ PySem.F.plainAttrs_tuple jJ PySem.F.type_tuple_index DY (dH (by rfl) T.xc) (aa (aC (pv 1) rfl) au)) au)) rfl)
   (ak (aF bF)))),?_⟩
  have hH0:=hH;have hf:=ta.cZ;walk_at "unf";walk_at "rd";refine⟨A.nq,eg,rfl,.inr (T.qd.sq _),rfl,by decide +kernel,_,rfl,?_⟩;show if(!eF (V.str t.cZ) eg)=true then _ else _
  rw[hf,Sy rl];by_cases h1:∃y,x=.line y
  ·obtain⟨y,rfl⟩:=h1;obtain⟨k1,k2⟩:=QL y;refine bV aE ?_;walk_at "rd";refine⟨.inr (.inl ⟨rfl,T.qd.ty⟩),?_⟩;walk_at "rd";refine⟨A.nq,eg,_,FA y,_,rfl,rfl,T.qd.sq _,rfl,by decide +kernel,k1,by rw[hf];show(_==_)=true;exact beq_self_eq_true _,fun m z hm hz=>?_,?_⟩
   ·have:=k2 m hm;rw[bP,hz]at this;rw[hf];exact this
   walk_at "tn";have hH:=hH0;walk_at "mk";refine⟨x,dx,_,_,rfl,hH,fun H tl ml hH=>⟨rfl,?_⟩⟩;walk_at "unf";walk_at "rd";walk_at "st";walk_at "rd";have hH:=Holds.reorder hH 7 [3,4,5,6,2,1,0] rfl;walk_at "ro";have e:((FA y:Nat):Int)=tZ y:=by cases y<;>rfl
   rw[e]at hH;exact ks y rfl _ x dx tl ml hH
  ·refine cn (by cases x<;>first|rfl|exact absurd ⟨_,rfl⟩ h1) ?_;walk_at "rd";exact kn (fun y e=>h1 ⟨y,e⟩) _ (hH0.sub (.cons_cons _ (.cons _ (.cons _ (.cons _ (bt _))))))
theorem jS{j k:Nat}{f:Addr}{ps:List Str}{sp sp':Sp}(O:Ok P w K mg base j f ps sp)(h:j<=k)(hs:∀vs H Q E,sp' vs H Q E->sp vs H Q E):Ok P w K mg base k f ps sp':=by
 obtain⟨fd,F,b,kp⟩:=O;exact⟨fd,(F.mono h).imp hs,b,kp⟩
theorem eG{G G':ag.St->Prop}(h:∀s,G' s->G s):∀vs H Q E,iY A G' vs H Q E->iY A G vs H Q E:=by
 rintro vs H Q E ⟨S,t,p,x,s,done,F,h1,h2,h3⟩;exact⟨S,t,p,x,s,done,F,h1,h s h2,h3⟩
theorem Qi(T:Txt P w K mg A):∀s,s≠.line->∃f,cv (qG A) (Sum.inr (sP s))=some (.ref f)/\Ok P w K mg base 6 f ["reader","token"] (iY A fun s'=>s'=s)
 | .line,h=>absurd rfl h
 | .name x,_=>⟨_,rfl,jS (AZ T) (by decide) (eG fun s e=>⟨x,e⟩)⟩
 | .semi l,_=>⟨_,rfl,jS (MS T) (by decide) (eG fun s e=>⟨l,e⟩)⟩
 | .axes x p w,_=>⟨_,rfl,jS (K8 T) (by decide) (eG fun s e=>⟨x,p,w,e⟩)⟩
 | .first x p w,_=>⟨_,rfl,jS (zN T) (by decide) (eG fun s e=>⟨x,p,w,e⟩)⟩
 | .iC o rs,_=>⟨_,rfl,jS (A0 T) (by decide) (eG fun s e=>⟨o,rs,e⟩)⟩
 | .less o rs p w,_=>⟨_,rfl,jS (K6 T) (by decide) (eG fun s e=>⟨o,rs,p,w,e⟩)⟩
 | .bound o rs p w,_=>⟨_,rfl,jS (yT T) (by decide) (eG fun s e=>.inl ⟨o,rs,p,w,e⟩)⟩
 | .behind o rs,_=>⟨_,rfl,jS (yx T) (by decide) (eG fun s e=>⟨o,rs,e⟩)⟩
 | .colon x p w rs,_=>⟨_,rfl,jS (IH T) (by decide) (eG fun s e=>⟨x,p,w,rs,e⟩)⟩
 | .kind x p w rs,_=>⟨_,rfl,jS (K7 T) (by decide) (eG fun s e=>⟨x,p,w,rs,e⟩)⟩
 | .equals x p w rs k,_=>⟨_,rfl,jS (GI T) (by decide) (eG fun s e=>⟨x,p,w,rs,k,e⟩)⟩
 | .want true Hd f fs,_=>⟨_,rfl,jS (yu T) (by decide) (eG fun s e=>⟨Hd,f,fs,e⟩)⟩
 | .want false Hd f fs,_=>⟨_,rfl,jS (yS T) (by decide) (eG fun s e=>⟨Hd,f,fs,e⟩)⟩
 | .word k Hd f fs,_=>⟨_,rfl,jS (yt T) (by decide) (eG fun s e=>⟨k,Hd,f,fs,e⟩)⟩
 | .named p w Hd f fs,_=>⟨_,rfl,jS (yw T) (by decide) (eG fun s e=>⟨p,w,Hd,f,fs,e⟩)⟩
 | .il e Hd f fs,_=>⟨_,rfl,jS (oV T) (by decide) (eG fun s q=>⟨e,Hd,f,fs,q⟩)⟩
theorem fw(Ls:List b0):(bB Ls).length=Ls.length:=by unfold bB;rw[aP]
theorem lg(Ls:List b0)(L:b0):bB (Ls++[L])=bB Ls++[V.ref L.ln.a]:=by unfold bB;rw[bC];rfl
theorem C6(A:Ad)(Ls:List b0)(L:b0):dr A (Ls++[L])=dr A Ls++L.cells A:=by
 unfold dr;rw[cq,bz,fM,aK]
theorem yO{α β:Type}{R:α->β->Prop}{as:List α}{bs:List β}{a:α}{b:β}(h:Paired R as bs)(r:R a b):Paired R (as++[a]) (bs++[b]):=by
 induction h with
 |nil=>exact .cons r .nil
 |cons q _ ih=>exact .cons q ih
theorem in_of{A:Ad}{S S':RS}{Hd:ag.Hd}{fs:List ag.Fr}(i:S.In A Hd fs)(e1:S'.ln=S.ln)(e2:S'.hd=S.hd)(e3:S'.bK=S.bK)(e4:S'.r.nested=S.r.nested):S'.In A Hd fs:=
 ⟨by rw[e1];exact i.head,i.Tu,by rw[e2];exact i.hd,by rw[e3];exact i.bK,by rw[e4];exact i.nested,i.deep⟩
def Mp(A:Ad):Sp:=fun vs H Q _=>∃(ra:Addr)(t:cf)(p:Nat)(x:Ax.Tok)(done:List Ax.Line)(n:Nat)(m:List cf)(s:ag.St)(Z:List Cell->List Cell)(F:List Cell),vs=[.ref ra,.ref t.a]/\t.At (p,x)/\cQ x/\ag.Good s/\Loop A ra done n m s Z/\n<1024/\Holds H (t.c1 A::Z F)/\
 (ag.step done s p x=none->∀H',Holds H' (t.c1 A::F)->Q (.bl false) H')/\
 ∀done' s',ag.step done s p x=some (done',s')->∀H' Z',Loop A ra done' (n+1) (m++[t]) s' Z'->Holds H' (t.c1 A::Z' F)->Q (.bl true) H'
theorem Kt{A:Ad}{H:Hp}{t:cf}{p:Nat}{x:Ax.Tok}{done done':List Ax.Line}{n:Nat}{m:List cf}{s s':ag.St}{S S':RS}{Ls:List b0}{cur:List cf}{F:List Cell}{ra:Addr}
  (ta:t.At (p,x)) (rl:cQ x) (hs:ag.step done s p x=some (done',s')) (h1:S.r.a=ra) (h3:S.r.cur=.ref S.ln.a) (h5:S.ds=bB Ls) (h6:S.a6=(cur.map fun d=>V.ref d.a)) (h7:oK Ls done) (h8:Dx done done s cur) (n1:Ls.length<=n) (n2:S.bo.length<=2*n) (n3:S.bK.length<=n) (n4:cur.length<=n) (n5:sj Ls++cur=m) (hn:n<1024)
  (nx:RS.Nx A S S' done done' s') (hH:Holds H (t.c1 A::RS.cells A {S' with r:={S'.r with st:=sP s'},a6:=S'.a6++[V.ref t.a]} (dr A Ls++F))):
  ∃Z',Loop A ra done' (n+1) (m++[t]) s' Z'/\Holds H (t.c1 A::Z' F):=by
 obtain⟨kp,is,nx⟩:=nx;have bn:=h8.snoc ta rl hs;have ht:S'.a6++[V.ref t.a]=((cur++[t]).map fun d=>V.ref d.a):=by rw[kp.a6,h6,bC];rfl
 have hw:wt (cur++[t])=wt cur+t.pr.length:=by rw[oM,FT]
 have hl:(cur++[t]).length<=n+1:=by rw[aq,aX];omega
 have hm:=kp.bo;have hf:=kp.bK
 rcases nx with⟨rfl,hd,hne⟩|⟨l,rfl,rfl,hd,fin⟩
 ·refine⟨_,.step {S' with r:={S'.r with st:=sP s'},a6:=S'.a6++[V.ref t.a]} s' Ls (cur++[t]) hne (kp.ra.trans h1) rfl (by rw[kp.ln];exact kp.cur.trans h3) ?_ (hd.trans h5) ht h7 bn (by omega) (by show S'.bo.length<=_;omega) (by show S'.bK.length<=_;omega) hl (by rw[<-n5,aw]),hH⟩;cases s'<;>first|exact is|exact⟨in_of is.1 rfl rfl rfl rfl,is.2⟩
 ·refine⟨_,.line {S'.r with st:="line"} (Ls++[⟨S'.ln,cur++[t],S'.bo⟩]) (kp.ra.trans h1) rfl fin.nested (yO h7 ⟨fin.head,fin.bo,⟨_,bn⟩,by show(cur++[t]).length<=_;omega,by show S'.bo.length<=_;omega⟩) (by rw[aq,aX];omega) (by rw[Mi,<-n5,aw]),?_⟩;refine hH.perm ?_;have hf:=fin.bK;have hl:=kp.ln;obtain⟨r',ds',ln',tks',frs',hd',es'⟩:=S';dsimp only at hf hd hl ht;subst hf;rw[lg,C6];unfold RS.cells;dsimp only;rw[ht,hd,h5,hl];refine .cons _ (.cons _ (.cons _ (.cons _ ?_)));show List.Perm (b0.cells A ⟨ln',cur++[t],RS.bo ⟨r',ds',ln',tks',[],hd',es'⟩⟩++(dr A Ls++F)) _;rw[<-aw];exact List.perm_append_comm.append_right F
theorem MQ(T:Txt P w K mg A):Ok P w K mg base 7 A.Hm ["reader","token"] (Mp A):=by
 refine T.Hu.ok wc (fun vs H Q E h=>?_) (fun cdv A' outer s H vs Q E hr h=>?_)
 ·walk_at "vl"
 ·obtain⟨ra,t,p,x,done,n,m,s,Z,F,rfl,ta,rl,gd,lp,hn,hH,kn,ks⟩:=h;refine⟨_,(ae (bp (i:=2) wc.nd rfl (Or.inl rfl) (sZ (gx hr) (dH (by rfl) T.QW) (aC (pv 0) rfl) (fun _ _=>rfl)))
   (ae (bp (i:=3) wc.nd rfl (Or.inl rfl) (OI (k:=6) (hr.mono (by decide)) (pv 2) (aa (pv 0) (aa (pv 1) au))))
   (ae (bg (fJ (AR (pv 3))) (ak (aF jD)) aQ)
   (ae (bu (pv 0) (pv 3) rfl)
   (ae (cN (hZ bj bO bN e7 (aC (aC (pv 0) rfl) rfl) (aa (pv 1) au)))
   (ak (aF jD))))))),?_⟩
  cases lp with
  |line r Ls h1 h2 h3 h4 h5 h5w=>
   subst h1;have hH0:=hH;walk_at "unf";walk_at "rd";refine⟨A.ye,_,rfl,.inl ⟨qG A,Sum.inr r.st,T.JK,rfl,by rw[h2];rfl⟩,?_⟩;walk_at "rd";refine⟨_,_,jS (K5 T) (by decide) fun _ _ _ _ h=>h,?_⟩;walk_at "rd";walk_at "tn";refine⟨r,_,t,p,x,_,rfl,ta,rl,hH0,fun h6 H hH=>?_,fun y h6 H a dx tl ml hH=>?_⟩
   ·walk_at "rd";refine cn rfl ?_;walk_at "rd";exact kn (by cases x<;>first|rfl|exact absurd rfl (h6 _)) _ (hH.sub (.cons_cons _ (aL _ _)))
   ·subst h6;unfold RS.cells at hH;dsimp only at hH;walk_at "unf";walk_at "rd";walk_at "st";walk_at "rd";refine⟨ty_list (hH.get 5 rfl),?_⟩;walk_at "rd";walk_at "tn";refine jC hH 5 rfl (by rw[sizeLine_eq];exact Nat.zero_lt_succ _) fun H hH=>?_;walk_at "nrm";walk_at "rd";refine ks _ _ rfl _ _ (.step ⟨{r with cur:=.ref a,st:="line name"},_,⟨a,dx,tZ y,"",0,0,0,tl,ml⟩,[.ref t.a],[],[],[]⟩ (.name y) Ls [t] (by simp) rfl rfl rfl ⟨⟨rfl,rfl,rfl,rfl,rfl⟩,rfl,rfl,rfl,h3⟩ rfl rfl h4 ⟨[(p,.line y)],.cons ta .nil,?_,rfl⟩ (by omega) (cE _) (cE _) (by simp) (by rw[h5w])) hH;intro z hz;cases bI.mp hz;exact rl
  |step S s Ls cur h0 h1 h2 h3 h4 h5 h6 h7 h8 n1 n2 n3 n4 n5=>
   subst h1;have hH0:=hH;unfold RS.cells at hH;obtain⟨f,hf,ok⟩:=Qi (base:=base) T s h0;walk_at "unf";walk_at "rd";refine⟨A.ye,_,rfl,.inl ⟨qG A,Sum.inr S.r.st,T.JK,rfl,by rw[h2];exact hf.symm⟩,?_⟩;walk_at "rd";refine⟨_,_,ok,?_⟩;walk_at "rd";walk_at "tn";refine⟨S,t,p,x,s,done,_,rfl,rfl,ta,rl,h4,gd,h3,⟨by omega,by omega,by rw[h5,fw];omega⟩,hH0,fun h9 H hH=>?_,fun done' s' h9 H S' nx hH=>?_⟩
   ·walk_at "rd";refine cn rfl ?_;walk_at "rd";exact kn h9 _ (hH.sub (.cons_cons _ (aL _ _)))
   ·have kp:=nx.1;have e1:S'.r.cur=.ref S'.ln.a:=by rw[kp.cur,h3,kp.ln]
    have e2:S'.r.a=S.r.a:=kp.ra;have e3:S'.a6.length<=1024:=by rw[kp.a6,h6,aP];omega
    rw[<-e2];have fin:=fun H=>Kt (H:=H) (F:=F) ta rl h9 rfl h3 h5 h6 h7 h8 n1 n2 n3 n4 n5 hn nx;obtain⟨⟨ra',rdx,st,dl,cur',fl,ne,ax,fn⟩,ds,ln,a6,bK,hd,es⟩:=S';dsimp only at e1 e2 e3;subst e1;unfold RS.cells at hH;dsimp only at hH;walk_at "unf";walk_at "rd";walk_at "st";walk_at "rd";refine⟨ty_list (hH.get 5 rfl),?_⟩;walk_at "rd";walk_at "tn";refine jC hH 5 rfl (by rw[sizeLine_eq];omega) fun H hH=>?_;walk_at "nrm";walk_at "rd";obtain⟨Z',l1,l2⟩:=fin H hH;exact ks _ _ h9 _ _ l1 l2
def ur:Ax.Tok->Bool
 | .op .mul=>true| .op .div=>true| .op .mod=>true| .op .add=>true| .op .shl=>true| .op .shr=>true| .op .and=>true| .op .xor=>true| .op .or=>true| .op .most=>true| .op .same=>true
 | .op _=>false
 | .fn1 .abs=>true| .fn1 .ones=>true| .fn1 .lead=>true| .fn1 .trail=>true
 | .fn1 _=>false
 | .fn2 .min=>true| .fn2 .max=>true| .fn2 .quo=>true| .fn2 .rem=>true| .fn2 .high=>true| .fn2 .rotl=>true
 | .fn2 _=>false
 | .kind k=>decide (k<9)
 |_=>true
theorem Qt{x:Ax.Tok}(h:ur x=true):cQ x:=by
 cases x with
 |op y=>cases y<;>first|trivial|cases h
 |fn1 y=>cases y<;>first|trivial|cases h
 |fn2 y=>cases y<;>first|trivial|cases h
 |kind k=>
  have h':decide (k<9)=true:=h;exact(ab h':k<9)
 |_=>trivial
theorem Lz:∀x∈Ax.fixedWords,ur x.2=true:=by decide +kernel
theorem KI(c:UInt8):ur (Ax.sign1 c)=true:=by
 have h:∀n,n<256->ur (Ax.sign1 (UInt8.ofNat n))=true:=by decide +kernel
 have:=h c.toNat (kh c);rw[fB]at this;exact this
theorem KH{c d:UInt8}{tk:Ax.Tok}(htk:Ax.sign2 c d=some tk):ur tk=true:=by
 unfold Ax.sign2 at htk
 repeat' split at htk
 all_goals first|(cases htk;rfl)|cases htk
theorem Ko{c:UInt8}{r:Ax.Bytes}(ok:p7 c r):cQ (ag.tokOf (c::r)):=by
 refine Qt ?_;show ur (if Ax.isDigit c=true then _ else _)=true;by_cases h1:Ax.isDigit c=true
 ·rw[ai h1];split<;>rfl
 ·have h1':=(b5 _).mp h1;rw[af h1];by_cases h2:Ax.wordByte c=true
  ·rw[ai h2];cases hk:Ax.kinds.findIdx? fun x=>x==(c::r)with
   |some k=>
    rw[sO hk];have:=(List.findIdx?_eq_some_iff_findIdx_eq.mp hk).1;exact(ao (p:=k<9) this:decide (k<9)=true)
   |none=>
    cases hf:Ax.fixedWords.find? fun x=>x.1==(c::r)with
    |some x=>
     rw[p9 hk hf];exact Lz x (gI hf)
    |none=>
     rw[l5 hk hf];split<;>rfl
  ·rw[af h2]
   rcases ok.sign h1' ((b5 _).mp h2)with rfl|⟨d,tk,rfl,htk⟩
   ·exact KI c
   ·show ur ((Ax.sign2 c d).getD .bad)=true;rw[htk];exact KH htk
theorem si(t:Ax.Bytes):∀(n p:Nat),t.length - p<=n->∀x∈ag.a7 t p,cQ x.2
 |0,p,h,x,hx=>by rw[ag.vS (by omega)]at hx;cases hx
 |n+1,p,h,x,hx=>by
  by_cases hp:t.length<=p
  ·rw[ag.vS hp]at hx;cases hx
  ·obtain⟨c,hc⟩:∃c,t[p]? =some c:=⟨_,aN (by omega)⟩;by_cases hb:Ax.isBlank c=true
   ·rw[ag.yF hc hb]at hx;exact si t n (p+1) (by omega) x hx
   ·rw[ag.DF hc ((b5 _).mp hb)]at hx;obtain⟨r,er,ok⟩:=Gv hc;rw[er]at hx
    rcases aT.mp hx with rfl|hx
    ·exact Ko ok
    ·exact si t n _ (by have:=ag.DE hc;omega) x hx
theorem Loop.app{A:Ad}{ra:Addr}{done:List Ax.Line}{n:Nat}{m:List cf}{s:ag.St}{Z:List Cell->List Cell}(L:Loop A ra done n m s Z):∃M,∀F,Z F=M++F:=by
 cases L with
 |line r Ls=>exact⟨r.c A::(r.dl,.lst (bB Ls))::(r.fl,.lst [])::dr A Ls,fun F=>rfl⟩
 |step S s Ls=>exact⟨S.cells A (dr A Ls),fun F=>by
   unfold RS.cells;simp only[List.cons_append,aw]⟩
theorem Ia{s:ag.St}(h:sP s="line"):s=.line:=by
 cases s with
 |line=>rfl
 |name=>exact absurd (show Str.ofString "line name"=Str.ofString "line" from h) (by decide +kernel)
 |semi=>exact absurd (show Str.ofString "end"=Str.ofString "line" from h) (by decide +kernel)
 |axes=>exact absurd (show Str.ofString "axes"=Str.ofString "line" from h) (by decide +kernel)
 |first=>exact absurd (show Str.ofString "first axis"=Str.ofString "line" from h) (by decide +kernel)
 |iC=>exact absurd (show Str.ofString "axis"=Str.ofString "line" from h) (by decide +kernel)
 |less=>exact absurd (show Str.ofString "less"=Str.ofString "line" from h) (by decide +kernel)
 |bound=>exact absurd (show Str.ofString "bound"=Str.ofString "line" from h) (by decide +kernel)
 |behind=>exact absurd (show Str.ofString "behind axis"=Str.ofString "line" from h) (by decide +kernel)
 |colon=>exact absurd (show Str.ofString "colon"=Str.ofString "line" from h) (by decide +kernel)
 |kind=>exact absurd (show Str.ofString "kind"=Str.ofString "line" from h) (by decide +kernel)
 |equals=>exact absurd (show Str.ofString "equals"=Str.ofString "line" from h) (by decide +kernel)
 |word=>exact absurd (show Str.ofString "parenthesis"=Str.ofString "line" from h) (by decide +kernel)
 |named=>exact absurd (show Str.ofString "behind name"=Str.ofString "line" from h) (by decide +kernel)
 |il=>exact absurd (show Str.ofString "behind value"=Str.ofString "line" from h) (by decide +kernel)
 |want b=>cases b with
  |true=>exact absurd (show Str.ofString "first value"=Str.ofString "line" from h) (by decide +kernel)
  |false=>exact absurd (show Str.ofString "value"=Str.ofString "line" from h) (by decide +kernel)
theorem Ca{ts:List cf}{xs:List Ax.Placed}(h:Toks ts xs):∀{i:Nat}{t:cf},ts[i]? =some t->∃x,xs[i]? =some x/\t.At x:=by
 induction h with
 |nil=>intro i t h;cases h
 |cons r _ ih=>
  intro i t h;cases i with
  |zero=>cases h;exact⟨_,rfl,r⟩
  |succ i=>exact ih h
theorem FX{ts:List cf}{xs:List Ax.Placed}(h:Toks ts xs):ts.length=xs.length:=by
 induction h with
 |nil=>rfl
 |cons _ _ ih=>rw[ay,ay,ih]
theorem HX{A:Ad}{ts:List cf}{i:Nat}{t:cf}(h:ts[i]? =some t):∃M,(cA A ts).Perm (t.c1 A::M):=by
 obtain⟨hi,he⟩:=az.mp h;have e:ts=ts.take i++t::ts.drop (i+1):=by rw[<-he,iq,eX]
 refine⟨cA A (ts.take i)++(t.c2::cA A (ts.drop (i+1))),?_⟩;have e2:cA A ts=cA A (ts.take i)++t.c1 A::(t.c2::cA A (ts.drop (i+1))):=by
  unfold cA
  conv=>lhs;rw[e,cq,bz]
  rfl
 rw[e2];exact bh
def EL(A:Ad):Sp:=fun vs H Q _=>∃(l:Addr)(n:Int)(ts:List cf)(xs:List Ax.Placed)(F:List Cell),vs=[.ref l,.int n]/\Toks ts xs/\(∀x∈xs,cQ x.2)/\ts.length<=1024/\Holds H ((l,.lst (ts.map fun d=>V.ref d.a))::(cA A ts++F))/\
 (∀r,ag.run [] .line xs=.error r->∀H'(T e:Addr),Holds H' ((T,.tup [.int (match r with|[]=>n|x::_=>(x.1:Int)),.ref e])::(e,.lst [])::F)->Q (.ref T) H')/\
 ∀P r,ag.run [] .line xs=.ok (P,r)->∀H'(T dl:Addr)(Ls:List b0),oK Ls P->Ls.length<=1024->sj Ls=ts->Holds H' ((T,.tup [.bA,.ref dl])::(dl,.lst (bB Ls))::(dr A Ls++(cA A ts++F)))->Q (.ref T) H'
theorem E2(T:Txt P w K mg A):Ok P w K mg base 8 A.xk ["tokens","length"] (EL A):=by
 refine T.xA.ok o3 (fun vs H Q E h=>?_) (fun cdv A' outer s H vs Q E hr h=>?_)
 ·walk_at "vl"
 ·obtain⟨l,n,ts,xs,F,rfl,tk,rl,hz,hH,ke,ko⟩:=h;refine⟨_,(ae (bp (i:=2) o3.nd rfl (Or.inl rfl) (DR (MX T) (hr.mono (by decide)) (by rfl) T.OU))
   (ae (jj PassesOwn.never rfl (l9 (pv 0)) (dX (i:=3) o3.nd rfl (Or.inl rfl))
   (ak (bg (wK (gh (aI (MQ T) (hr.mono (by decide)) (by rfl) T.Hu.at_ (aa (pv 2) (aa (pv 3) au))))) (ak (aF (qA (aa (aC (pv 3) rfl) (aa (cX au) au))))) aQ)))
   (ae (bg (aO ku (aC (pv 2) rfl) bF (bb _)) (ak (aF (qA (aa (pv 1) (aa (cX au) au))))) aQ)
   (ak (aF (qA (aa dO (aa (aC (pv 2) rfl) au)))))))),?_⟩
  walk_at "mk";refine⟨x,dx,_,rfl,hH,fun H dl fl hH=>⟨rfl,?_⟩⟩;obtain⟨ra,era⟩:∃ra,ra=x:=⟨_,rfl⟩;subst era;walk_at "rd";have hH:=Holds.reorder hH 4 [2,1,0,3] rfl;walk_at "ro";have hL:∀{H1:Hp}{Z:List Cell->List Cell}{done:List Ax.Line}{i:Nat}{m:List cf}{s:ag.St},Loop A ra done i m s Z->Holds H1 (Z ((l,.lst (ts.map fun d=>V.ref d.a))::(cA A ts++F)))->bY K H1 l (ts.map fun d=>V.ref d.a):=fun L h=>by
   obtain⟨M,e⟩:=L.app;rw[e]at h;exact bY.of (h.mem (aU _ aA))
  refine⟨⟨_,bY.of (hH.get 3 rfl)⟩,oj (K:=K) (a:=l) (xs:=ts.map fun d=>V.ref d.a) (fun i σ H'=>∃(v:Option V)(done:List Ax.Line)(s:ag.St)(Z:List Cell->List Cell),σ=[some (.ref l),some (.int n),some (.ref ra),v]/\ag.run [] .line xs=ag.run done s (xs.drop i)/\ag.Good s/\Loop A ra done i (ts.take i) s Z/\Holds H' (Z ((l,.lst (ts.map fun d=>V.ref d.a))::(cA A ts++F))))
   ⟨none,[],.line,_,rfl,rfl,trivial,.line _ [] rfl rfl rfl .nil (aD _) rfl,hH⟩ (fun i σ H' _ ⟨_,_,_,_,_,_,_,L,h⟩=>hL L h) ?_ ?_⟩
  ·rintro i y σ H' hi ⟨v,done,s,Z,rfl,er,gd,lp,hH⟩;rw[a9]at hi;obtain⟨t,ht,rfl⟩:=bS.mp hi;obtain⟨⟨p,x⟩,hx,ta⟩:=Ca tk ht;have hlt:=(az.mp ht).1;have rx:cQ x:=rl (p,x) (aH hx);have ed:xs.drop i=(p,x)::xs.drop (i+1):=by
    obtain⟨h1,h2⟩:=az.mp hx;rw[<-h2,iq]
   have ep:ag.run done s (xs.drop i)=match ag.step done s p x with|none=>.error ((p,x)::xs.drop (i+1))|some y=>ag.run y.1 y.2 (xs.drop (i+1)):=by rw[ed];rfl
   obtain⟨M0,e0⟩:=HX (A:=A) ht;obtain⟨MZ,eZ⟩:=lp.app;have pm:∀MZ:List Cell,List.Perm (MZ++((l,HO.lst (ts.map fun d=>V.ref d.a))::(cA A ts++F))) (t.c1 A::(MZ++((l,.lst (ts.map fun d=>V.ref d.a))::(M0++F)))):=fun MZ=>by
    refine List.Perm.trans ?_ (bh (l₁:=MZ));refine cz MZ ?_;refine List.Perm.trans (.cons _ (e0.append_right F)) ?_;exact List.Perm.swap _ _ _
   walk_at "rd";walk_at "tn";refine⟨ra,t,p,x,done,i,ts.take i,s,Z,(l,.lst (ts.map fun d=>V.ref d.a))::(M0++F),rfl,ta,rx,gd,lp,by omega,?_,fun hs H hH=>?_,fun done' s' hs H Z' lp' hH=>?_⟩
   ·rw[eZ]at hH⊢;exact hH.perm (pm MZ)
   ·walk_at "rd";walk_at "unf";walk_at "rd";walk_at "nl";obtain⟨e,rfl⟩:∃e,e=np:=⟨_,rfl⟩;refine⟨by with_unfolding_all exact ab rfl,?_⟩;walk_at "tn";walk_at "new";rw[hs]at ep;refine ke _ (er.trans ep) _ _ e ?_;rw[ta.place]at hH;exact hH.sub (.cons_cons _ (.cons_cons _ (.cons _ (.cons _ (aL _ _)))))
   ·walk_at "rd";rw[hs]at ep;refine⟨_,done',s',Z',rfl,er.trans ep,ag.vV gd hs,by rw[gR ht];exact lp',?_⟩;obtain⟨MZ',eZ'⟩:=lp'.app;rw[eZ']at hH⊢;exact hH.perm (pm MZ').symm
  ·rintro σ H' ⟨v,done,s,Z,rfl,er,gd,lp,hJ⟩;rw[aP,FX tk,List.drop_length]at er;cases lp with
   |line r Ls e1 e2 e3 e4 e5 e5w=>
    subst e1;have hH:=hJ;walk_at "unf";walk_at "rd";rw[dS];refine bV (by rw[e2];decide +kernel) ?_;walk_at "rd";refine⟨by with_unfolding_all exact ab rfl,?_⟩;walk_at "tn";walk_at "new";rw[aP]at e5 e5w;rw[dt]at e5w;refine ko done [] er _ _ r.dl Ls e4 (by omega) e5w ?_;refine hH.sub (.cons_cons _ (.cons _ (.cons_cons _ (.cons _ ?_))));exact bE (bt _) (aW _ _)
   |step S s Ls cur h0 h1 h2=>
    subst h1;have hH:=hJ;unfold RS.cells at hH;walk_at "unf";walk_at "rd";rw[dS];refine cn (by rw[h2,aY (fun q=>h0 (Ia q))];rfl) ?_;walk_at "rd";walk_at "nl";obtain⟨e,rfl⟩:∃e,e=np:=⟨_,rfl⟩;refine⟨by with_unfolding_all exact ab rfl,?_⟩;walk_at "tn";walk_at "new";refine ke [] (er.trans ?_) _ _ e ?_
    ·cases s<;>first|rfl|exact absurd rfl h0
    ·refine hH.sub (.cons_cons _ (.cons_cons _ (.cons _ (.cons _ (.cons _ (.cons _ (.cons _ (.cons _ ?_))))))));exact(((List.Sublist.cons _ (aL _ _)).trans (aL _ _)).trans (aL _ _)).trans (aL _ _)
end aJ
namespace aJ
open Ax (Expr Bound Range Line What Bytes Bin Un Red Tok Program Wrong)
theorem vb:¬("bound":PySem.Str)="range":=by decide +kernel
theorem E9:¬("bound":PySem.Str)="array":=by decide +kernel
theorem IQ:¬("bound":PySem.Str)="end":=by decide +kernel
theorem IM:¬("range":PySem.Str)="end":=by decide +kernel
theorem u9:¬("value":PySem.Str)="range":=by decide +kernel
theorem va:¬("value":PySem.Str)="array":=by decide +kernel
theorem E7:¬("value":PySem.Str)="bound":=by decide +kernel
theorem IL:¬("value":PySem.Str)="end":=by decide +kernel
theorem vc:¬("array":PySem.Str)="range":=by decide +kernel
theorem IS:¬("array":PySem.Str)="end":=by decide +kernel
def k7(force:List Bytes)(c:Nat):List Bytes:=(force.drop 0).take (HT.nz force.length force.length (some ((force.length:Int) - (c:Int))) - 0)
theorem NG(force xs:List Bytes):k7 (force++xs) xs.length=force:=by
 unfold k7;have e:(((force++xs).length:Nat):Int) - (xs.length:Int)=((force.length:Nat):Int):=by rw[aq];omega
 rw[e,HT.kl,iG,Nat.sub_zero,aq,eJ (by omega),List.take_left'];rfl
def eW(P:Program)(force:List Bytes)(m:gk):Nat:=
 if m.pu="range" then(if(P.find? fun l=>l.name==m.name).isNone=true/\force.contains m.name=false then 0 else 2)
 else if m.pu="array" then(match P.find? fun l=>l.name==m.name with
  |none=>3
  |some l=>if l.what=.size then 3 else if m.count=l.axes.length then 0 else 4)
 else if Ax.isSize P m.name=true then 0
 else if m.pu="bound" then 3
 else if force.contains m.name=true then 0 else 3
def walk(P:Program):List Bytes->List gk->Option Wrong
 |_,[]=>none
 |force,m::ms=>if m.pu="end" then walk P (k7 force m.count) ms
  else if eW P force m≠0 then some (m.place,eW P force m)
  else walk P (if m.pu="range" then force++[m.name]else force) ms
theorem oN(P:Program)(force:List Bytes)(m:gk)(ms:List gk):walk P force (m::ms)=if m.pu="end" then walk P (k7 force m.count) ms
  else if eW P force m≠0 then some (m.place,eW P force m)
  else walk P (if m.pu="range" then force++[m.name]else force) ms:=rfl
theorem Py(P:Program)(w:Bytes):(P.any fun l=>l.name==w)=(P.find? fun l=>l.name==w).isSome:=by
 rw[List.isSome_find?]
theorem Ak(P:Program)(force:List Bytes)(b:Bound)(rest:List gk):walk P force (g7 b++rest)=((Ax.wrongBound P b).head?).or (walk P force rest):=by
 cases b with
 |num n=>rfl
 |size p w=>
  show walk P force (⟨"bound",w,p,0⟩::rest)=_;have e:eW P force ⟨"bound",w,p,0⟩=if Ax.isSize P w=true then 0 else 3:=by
   unfold eW;dsimp only;rw[af vb,af E9,ai rfl]
  rw[oN,e];dsimp only;rw[af IQ,af vb];show _=((if Ax.isSize P w=true then[]else[(p,3)]).head?).or _;by_cases h:Ax.isSize P w=true
  ·rw[ai h,ai h];rfl
  ·rw[af h,af h];rfl
theorem fR{α:Type}(a b:List α):(a++b).head? =(a.head?).or b.head? :=by
 cases a<;>rfl
theorem oA(P:Program):∀(rs:List Range)(force there:List Bytes)(rest:List gk),(∀w,force.contains w=there.contains w)->
  walk P force (dZ rs++rest)=((Ax.wrongRanges P there rs).head?).or (walk P (force++rs.map fun r=>r.index) rest)
 |[],force,there,rest,h=>by
  show walk P force rest=_;rw[mC,aK];rfl
 |r::rs,force,there,rest,h=>by
  have e0:dZ (r::rs)++rest=⟨"range",r.index,r.place,0⟩::(g7 r.bound++(dZ rs++rest)):=by
   unfold dZ;rw[bz,aw];rfl
  rw[e0];rw[oN];have e1:eW P force ⟨"range",r.index,r.place,0⟩=if(P.any fun l=>l.name==r.index)=true\/there.contains r.index=true then 2 else 0:=by
   unfold eW;dsimp only;rw[ai rfl,Py,h];cases(P.find? fun l=>l.name==r.index)<;>cases there.contains r.index<;>rfl
  rw[e1];dsimp only;rw[af IM,ai rfl];unfold Ax.wrongRanges;rw[fR,fR];by_cases hb:(P.any fun l=>l.name==r.index)=true\/there.contains r.index=true
  ·rw[ai hb,ai hb];rfl
  ·rw[af hb,af hb];show walk P (force++[r.index]) _=((none:Option Wrong).or _).or _;rw[Ak,oA P rs (force++[r.index]) (r.index::there) rest fun w=>?_]
   ·rw[a8,aw,Option.none_or,fj];rfl
   ·rw[cF,cF,mF,<-cF,h,ee,ee,List.any_nil,cF,Bool.or_false,Bool.or_comm]
theorem gQ(P:Program):∀(e:Expr)(force there:List Bytes)(rest:List gk),(∀w,force.contains w=there.contains w)->
  walk P force (a5 e++rest)=((Ax.wrongIn P e there).head?).or (walk P force rest)
 | .num _,force,there,rest,h=>rfl
 | .name p w,force,there,rest,h=>by
  show walk P force (⟨"value",w,p,0⟩::rest)=_;have e:eW P force ⟨"value",w,p,0⟩=if there.contains w=true\/Ax.isSize P w=true then 0 else 3:=by
   unfold eW;dsimp only;rw[af u9,af va,af E7,h];cases Ax.isSize P w<;>cases there.contains w<;>rfl
  rw[oN,e];dsimp only;rw[af IL,af u9];unfold Ax.wrongIn;by_cases hb:there.contains w=true\/Ax.isSize P w=true
  ·rw[ai hb,ai hb];rfl
  ·rw[af hb,af hb];rfl
 | .elem p w n a b c d,force,there,rest,h=>by
  show walk P force (⟨"array",w,p,n⟩::((a5 a++(a5 b++(a5 c++a5 d)))++rest))=_;have e:eW P force ⟨"array",w,p,n⟩=match Ax.arrayOf P w with|none=>3|some l=>if l.axes.length=n then 0 else 4:=by
   unfold eW Ax.arrayOf;dsimp only;rw[af vc,ai rfl];cases P.find? fun l=>l.name==w with
   |none=>rfl
   |some l=>
    dsimp only;by_cases h1:l.what=.size
    ·rw[ai h1,ai h1]
    ·rw[af h1,af h1];dsimp only;by_cases h2:n=l.axes.length
     ·rw[ai h2,ai h2.symm]
     ·rw[af h2,af fun q=>h2 q.symm]
  rw[oN,e];dsimp only;rw[af IS,af vc];have e2:walk P force ((a5 a++(a5 b++(a5 c++a5 d)))++rest)=((Ax.wrongIn P a there++(Ax.wrongIn P b there++(Ax.wrongIn P c there++Ax.wrongIn P d there))).head?).or (walk P force rest):=by
   rw[aw,aw,aw,gQ P a force there _ h,gQ P b force there _ h,gQ P c force there _ h,gQ P d force there _ h,fR,fR,fR,fj,fj,fj]
  unfold Ax.wrongIn;cases Ax.arrayOf P w with
  |none=>rfl
  |some l=>
   dsimp only;by_cases h2:l.axes.length=n
   ·simp only[ai h2];exact e2
   ·simp only[af h2];rfl
 | .un _ a,force,there,rest,h=>gQ P a force there rest h
 | .bin _ a b,force,there,rest,h=>by
  show walk P force ((a5 a++a5 b)++rest)=((Ax.wrongIn P a there++Ax.wrongIn P b there).head?).or _;rw[aw,gQ P a force there _ h,gQ P b force there _ h,fR,fj]
 | .cond a b c,force,there,rest,h=>by
  show walk P force ((a5 a++(a5 b++a5 c))++rest)=((Ax.wrongIn P a there++(Ax.wrongIn P b there++Ax.wrongIn P c there)).head?).or _;rw[aw,aw,gQ P a force there _ h,gQ P b force there _ h,gQ P c force there _ h,fR,fR,fj,fj]
 | .red _ rs a,force,there,rest,h=>by
  show walk P force ((dZ rs++(a5 a++[⟨"end",[],0,rs.length⟩]))++rest)=((Ax.wrongRanges P there rs++Ax.wrongIn P a (Ax.names rs++there)).head?).or _;rw[aw,aw,oA P rs force there _ h,gQ P a (force++rs.map fun r=>r.index) (Ax.names rs++there) _ fun w=>?_,fR,fj]
  ·have e:walk P (force++rs.map fun r=>r.index) ([⟨"end",[],0,rs.length⟩]++rest)=walk P force rest:=by
    show(if gk.pu ⟨"end",[],0,rs.length⟩=("end":PySem.Str)then walk P (k7 (force++rs.map fun r=>r.index) rs.length) rest else _)=_;rw[ai rfl];have:=NG force (rs.map fun r=>r.index);rw[aP]at this;rw[this]
   rw[e]
  ·unfold Ax.names;rw[cF,cF,mF,mF,<-cF,h,<-cF,<-cF,Bool.or_comm]
theorem DC(P:Program)(l:Line)(hs:l.what=.size->l.axes=[]/\l.body=Ax.nil)(hi:l.what=.in_->l.body=Ax.nil):walk P [] (fP l)=(ag.fC P l).head? :=by
 unfold fP ag.fC fS;cases e:l.what with
 |size=>
  dsimp only;rw[(hs e).1,(hs e).2];rfl
 |in_=>
  dsimp only;rw[hi e];have:∀rs:List Range,walk P [] ((rs.flatMap fun r=>g7 r.bound)++a5 Ax.nil)=(rs.flatMap fun r=>Ax.wrongBound P r.bound).head? :=by
   intro rs
   induction rs with
   |nil=>rfl
   |cons r rs ih=>rw[bz,bz,aw,Ak,ih,fR]
  exact this _
 |let_=>
  dsimp only;rw[oA P l.axes [] [] _ fun _=>rfl,List.nil_append];have:=gQ P l.body (l.axes.map fun r=>r.index) (Ax.names l.axes) [] fun _=>rfl;rw[aK]at this;rw[this,fR];cases(Ax.wrongRanges P [] l.axes).head? <;>cases(Ax.wrongIn P l.body (Ax.names l.axes)).head? <;>rfl
 |out=>
  dsimp only;rw[oA P l.axes [] [] _ fun _=>rfl,List.nil_append];have:=gQ P l.body (l.axes.map fun r=>r.index) (Ax.names l.axes) [] fun _=>rfl;rw[aK]at this;rw[this,fR];cases(Ax.wrongRanges P [] l.axes).head? <;>cases(Ax.wrongIn P l.body (Ax.names l.axes)).head? <;>rfl
end aJ
namespace aJ
open PySem PySem.Spec PyProof.Rows L2
variable{P:Program}{w:World}{K:PySem.W.Frag}{mg:Str->Option Value}{base:Heap}{A:Ad}
local macro_rules | `(tactic| walk_at "look") => `(tactic| first | assumption | exact Holds.mem (by assumption) (by assumption) | exact Holds.get (by assumption) _ (by assumption) | exact Holds.mem (Holds.tl (by assumption)) (by assumption) | exact Holds.mem (Holds.tl (Holds.tl (by assumption))) (by assumption) | exact Holds.get (by assumption) 0 rfl | exact Holds.get (by assumption) 1 rfl | exact Holds.get (by assumption) 2 rfl | exact Holds.get (by assumption) 3 rfl | exact Holds.get (by assumption) 4 rfl | exact Holds.get (by assumption) 5 rfl | exact Holds.get (by assumption) 6 rfl | exact Holds.get (by assumption) 7 rfl | exact Holds.get (by assumption) 8 rfl | exact Holds.get (by assumption) 9 rfl | exact Holds.get (by assumption) 10 rfl | exact Holds.get (by assumption) 11 rfl | exact Holds.get (by assumption) 12 rfl | exact Holds.get (by assumption) 13 rfl | exact Holds.get (by assumption) 14 rfl | exact Holds.get (by assumption) 15 rfl)
local macro_rules | `(tactic| walk_at "cls") => do
  let T := Lean.mkIdent `T
  `(tactic| first | exact ($T).SK | exact ($T).NK | exact ($T).Q7 | exact ($T).Q8 | exact ($T).Pf | exact ($T).Pg | exact ($T).SM | exact ($T).TX)
local macro_rules | `(tactic| walk_at "na") => do
  let T := Lean.mkIdent `T
  `(tactic| first | exact ($T).IT | exact ($T).IV | exact ($T).GW | exact ($T).IW | exact ($T).IU | exact ($T).Fg | exact ($T).A8 | exact ($T).yA | exact ($T).CY | exact ($T).A6 | exact ($T).A7 | exact ($T).GV | exact ($T).Fb | exact ($T).A2 | exact ($T).GU | exact ($T).C1 | exact ($T).C0 | exact ($T).GY | exact ($T).Fh | exact ($T).zR | exact ($T).Fi | exact ($T).CZ | exact ($T).zS | exact ($T).GX | exact ($T).A9 | exact ($T).zQ | exact ($T).CV | exact ($T).Fe | exact ($T).zP | exact ($T).A4 | exact ($T).A3 | exact ($T).Ff | exact ($T).yz | exact ($T).A5 | exact ($T).CW | exact ($T).C2 | exact ($T).C3 | exact ($T).Fd | exact ($T).Fc)
local macro_rules | `(tactic| walk_at "idx") => `(tactic| first | (show (_ : List Cell)[0]? = _; rfl) | (show (_ : List Cell)[1]? = _; rfl) | (show (_ : List Cell)[2]? = _; rfl) | (show (_ : List Cell)[3]? = _; rfl) | (show (_ : List Cell)[4]? = _; rfl) | (show (_ : List Cell)[5]? = _; rfl) | (show (_ : List Cell)[6]? = _; rfl) | (show (_ : List Cell)[7]? = _; rfl) | (show (_ : List Cell)[8]? = _; rfl) | (show (_ : List Cell)[9]? = _; rfl) | (show (_ : List Cell)[10]? = _; rfl) | (show (_ : List Cell)[11]? = _; rfl) | (show (_ : List Cell)[12]? = _; rfl) | (show (_ : List Cell)[13]? = _; rfl) | (show (_ : List Cell)[14]? = _; rfl) | (show (_ : List Cell)[15]? = _; rfl))
local macro_rules | `(tactic| walk_at "nrm") => do
  let h := Lean.mkIdent `hH
  `(tactic| simp only [List.set_cons_zero, List.set_cons_succ, EV, EX, CD, EY, EW, AL, yq, vJ, zz, yo, yp, CC, AG, yk, CB, zC, zB, CG, AM, wI, AN, zA, wJ, CF, yr, wH, zx, AJ, wG, ym, yl, AK, vI, yn, zy, zD, zE, AI, AH] at $h:ident)
local macro_rules | `(tactic| walk_at "in") => do
  let h := Lean.mkIdent `hH
  let H := Lean.mkIdent `H
  `(tactic| (intro $H:ident $h:ident; try walk_at "nrm"))
local macro_rules | `(tactic| walk_at "inp") => do
  let h := Lean.mkIdent `hH
  let H := Lean.mkIdent `H
  let p := Lean.mkIdent `np
  `(tactic| (intro $p:ident $H:ident $h:ident; try walk_at "nrm"))
local macro_rules | `(tactic| walk_at "rd1") => `(tactic| first | refine ⟨_, rfl, ?_⟩ | (refine' U6 ⟨rfl, ?k1, ?k2, ?k3, ?k4, ?k5⟩; (case k1 => walk_at "look"); (case k2 => walk_at "cls"); (case k3 => walk_at "na"); (case k4 => rfl)) | refine ⟨_, _, rfl, rfl, ?_⟩ | refine ⟨rfl, ?_⟩)
local macro_rules | `(tactic| walk_at "rd") => `(tactic| repeat (walk_at "rd1"))
local macro_rules | `(tactic| walk_at "st") => `(tactic| (refine' Uc (by assumption) ?k0 ?k1 ?k2 ?k3 ?k4 ?k5; (case k1 => walk_at "idx"); (case k2 => walk_at "cls"); (case k3 => walk_at "na"); (case k4 => with_unfolding_all exact of_decide_eq_true rfl); walk_at "in"))
local macro_rules | `(tactic| walk_at "aug") => `(tactic| (refine' S9 (by assumption) ?k0 ?k1 ?k4 ?k5; (case k1 => walk_at "idx"); (case k4 => with_unfolding_all exact of_decide_eq_true rfl); walk_at "in"))
local macro_rules | `(tactic| walk_at "new") => do
  let h := Lean.mkIdent `hH
  let H := Lean.mkIdent `H
  let p := Lean.mkIdent `np
  `(tactic| (intro $p:ident n; generalize hE : upd _ _ _ = $H:ident; have $h:ident := Holds.oW hE (by assumption) n; clear hE n))
local macro_rules | `(tactic| walk_at "nl") => `(tactic| (refine ⟨by with_unfolding_all exact of_decide_eq_true rfl, ?_⟩; walk_at "new"))
local macro_rules | `(tactic| walk_at "mk") => do
  let h := Lean.mkIdent `hH
  let H := Lean.mkIdent `H
  let x := Lean.mkIdent `x
  let dx := Lean.mkIdent `dx
  `(tactic| (intro $x:ident $dx:ident n m e; generalize hE : upd (upd _ _ _) _ _ = $H:ident; have $h:ident := Holds.QE hE (by assumption) n m e; clear hE n m e))
local macro_rules | `(tactic| walk_at "br") => `(tactic| first | refine cn (by assumption) ?_ | refine bV (by assumption) ?_ | refine UG ?_ | refine Ll ?_)
local macro_rules | `(tactic| walk_at "go") => `(tactic| repeat (first | walk_at "rd1" | walk_at "br"))
local macro_rules | `(tactic| walk_at "len") => `(tactic| (refine' SA ⟨rfl, .inl (bY.of ?k1), ?k2⟩; (case k1 => walk_at "look")))
local macro_rules | `(tactic| walk_at "ix") => `(tactic| (refine' UN ⟨rfl, rfl, bY.of ?k1, ?k2, ?k3⟩; (case k1 => walk_at "look"); (case k2 => first | assumption | exact Lk (by assumption))))
local macro_rules | `(tactic| walk_at "vl") => do
  let h := Lean.mkIdent `h
  `(tactic| ((repeat (obtain ⟨_, $h:ident⟩ := $h:ident)); subst_vars; rfl))
local macro_rules | `(tactic| walk_at "unf") => do
  let h := Lean.mkIdent `hH
  `(tactic| simp only [d8.c, k8.c, cx.c, fK.c, cf.c1, cf.c2] at $h:ident)
local macro_rules | `(tactic| walk_at "ro") => do
  let h := Lean.mkIdent `hH
  `(tactic| simp only [List.filterMap_cons, List.filterMap_nil, List.getElem?_cons_zero, List.getElem?_cons_succ, List.cons_append, List.nil_append, List.drop_succ_cons, List.drop_zero] at $h:ident)
local macro_rules | `(tactic| walk_at "tn") => `(tactic| dsimp only [qf, FE, tC, List.cons_append, List.nil_append])
def jm(Ls:List b0)(P:Ax.Program)(kvs:List (Key×V)):Prop:=∀w:Ax.Bytes,match(P.findIdx? fun l=>l.name==w)with
 |none=>cv kvs (.inr (sb w))=none
 |some i=>∃L,Ls[i]? =some L/\cv kvs (.inr (sb w))=some (.ref L.ln.a)
def pG(A:Ad)(Ls:List b0)(Lc:List Cell):Prop:=∀L∈Ls,∀c∈L.cells A,c∈Lc
theorem jm.nil:jm [] [] []:=fun w=>rfl
theorem eA{α β:Type}{R:α->β->Prop}{as:List α}{bs:List β}(h:Paired R as bs):as.length=bs.length:=by
 induction h with
 |nil=>rfl
 |cons _ _ ih=>rw[ay,ay,ih]
theorem eY{α β:Type}{R:α->β->Prop}{as:List α}{bs:List β}(h:Paired R as bs):∀{i:Nat}{a:α},as[i]? =some a->∃b,bs[i]? =some b/\R a b:=by
 induction h with
 |nil=>intro i t h;cases h
 |cons r _ ih=>
  intro i t h;cases i with
  |zero=>cases h;exact⟨_,rfl,r⟩
  |succ i=>exact ih h
theorem jm.snoc{Ls:List b0}{P:Ax.Program}{kvs:List (Key×V)}{L:b0}{l:Ax.Line}(h:jm Ls P kvs)(hl:Ls.length=P.length):
  (∀v,cv kvs (.inr (sb l.name))=some v->jm (Ls++[L]) (P++[l]) kvs)/\(cv kvs (.inr (sb l.name))=none->jm (Ls++[L]) (P++[l]) (putK kvs (.inr (sb l.name)) (.ref L.ln.a))):=by
 have key:∀w,(P++[l]).findIdx? (fun l=>l.name==w)=(P.findIdx? fun l=>l.name==w).or (if(l.name==w)=true then some P.length else none):=fun w=>by
  rw[List.findIdx?_append,List.findIdx?_cons,List.findIdx?_nil];by_cases q:(l.name==w)=true
  ·rw[ai q,ai q];simp
  ·rw[af q,af q];rfl
 have old:∀{i:Nat}{M:b0},Ls[i]? =some M->(Ls++[L])[i]? =some M:=fun{i M} q=>by
  rw[jw (az.mp q).1];exact q
 constructor
 ·intro v hv w;have hw:=h w;rw[key w];cases e:P.findIdx? fun l=>l.name==w with
  |some i=>
   rw[e]at hw;obtain⟨M,h1,h2⟩:=hw;exact⟨M,old h1,h2⟩
  |none=>
   rw[e]at hw;by_cases q:(l.name==w)=true
   ·exfalso;have hw':cv kvs (.inr (sb w))=none:=hw;rw[<-eq_of_beq q,hv]at hw';cases hw'
   ·rw[af q];exact hw
 ·intro hv w;have hw:=h w;rw[key w];cases e:P.findIdx? fun l=>l.name==w with
  |some i=>
   rw[e]at hw;obtain⟨M,h1,h2⟩:=hw;refine⟨M,old h1,?_⟩;rw[lB,af fun q=>?_]
   ·exact h2
   ·rw[q,hv]at h2;cases h2
  |none=>
   rw[e]at hw;by_cases q:(l.name==w)=true
   ·rw[ai q];refine⟨L,by rw[<-hl,dj (aD _),mx];rfl,?_⟩;rw[lB,ai (by rw[eq_of_beq q])]
   ·rw[af q];show cv (putK kvs _ _) _=none;rw[lB,af fun z=>q ?_]
    ·exact hw
    ·rw[AD (Sum.inr.inj z)];exact beq_self_eq_true _
theorem pX{κ:Type}[DecidableEq κ](kvs:List (κ×V))(k:κ)(v:V):(putK kvs k v).length<=kvs.length+1:=by
 unfold putK;split
 ·rw[aP];omega
 ·rw[aq,aX];omega
theorem kU{Ls:List b0}{Lc:List Cell}(h:pG A Ls Lc){L:b0}(hm:L∈Ls):(L.ln.a,HO.ins A.gn L.ln.dx (gL L.ln.role L.ln.name L.ln.place L.ln.kind L.ln.rank L.ln.tl L.ln.ml))∈Lc:=h L hm _ aA
theorem Rr{Ls:List b0}{Lc:List Cell}(h:pG A Ls Lc){L:b0}(hm:L∈Ls):(L.ln.tl,HO.lst (L.a6.map fun d=>V.ref d.a))∈Lc:=h L hm _ (ah _ aA)
theorem MW{Ls:List b0}{Lc:List Cell}(h:pG A Ls Lc){L:b0}(hm:L∈Ls):(L.ln.ml,HO.lst (b8 L.ms))∈Lc:=h L hm _ (ah _ (ah _ aA))
theorem C5{Ls:List b0}{Lc:List Cell}(h:pG A Ls Lc){L:b0}(hm:L∈Ls){m:cx}(hk:m∈L.ms):(m.a,HO.ins A.d9 m.dx (pA m.sW m.name m.place m.count))∈Lc:=h L hm _ (ah _ (ah _ (ah _ (hU (f:=cx.c A) hk))))
def Oj(A:Ad):Sp:=fun vs H Q _=>∃(a:Addr)(Ls:List b0)(Pr:Ax.Program)(Lc:List Cell),vs=[.ref a]/\Holds H Lc/\(a,.lst (bB Ls))∈Lc/\pG A Ls Lc/\oK Ls Pr/\Ls.length<=1024/\
 ∀H'(d:Addr)(kvs:List (Key×V)),jm Ls Pr kvs->Holds H' ((d,.dK kvs)::Lc)->Q (.ref d) H'
theorem ma(T:Txt P w K mg A):Ok P w K mg base 1 A.nc ["lines"] (Oj A):=by
 refine T.jd.ok iI (fun vs H Q E h=>?_) (fun cdv A' outer s H vs Q E hr h=>?_)
 ·walk_at "vl"
 ·obtain⟨a,Ls,Pr,Lc,rfl,hH,ha,hL,ln,hz,k⟩:=h;refine⟨_,(ae (bp (i:=1) iI.nd rfl (Or.inl rfl) uv)
   (ae (jj PassesOwn.never rfl (l9 (pv 0)) (dX (i:=2) iI.nd rfl (Or.inl rfl))
   (ak (cN (Qw (pv 1) (aC (pv 2) rfl) (pv 2) ⟨rfl,rfl,rfl,rfl⟩))))
   (ak (aF (pv 1))))),?_⟩
  walk_at "new";obtain⟨d,rfl⟩:∃d,d=np:=⟨_,rfl⟩;walk_at "rd";have hp:=eA ln;refine⟨⟨_,bY.of (hH.tl.mem ha)⟩,oj (K:=K) (a:=a) (xs:=bB Ls) (fun i σ H'=>∃(v:Option V)(kvs:List (Key×V)),σ=[some (.ref a),some (.ref d),v]/\jm (Ls.take i) (Pr.take i) kvs/\kvs.length<=i/\Holds H' ((d,.dK kvs)::Lc))
   ⟨none,[],rfl,jm.nil,aD _,hH⟩ (fun i σ H' _ ⟨_,_,_,_,_,h⟩=>bY.of (h.tl.mem ha)) ?_ ?_⟩
  ·rintro i y σ H' hi ⟨v,kvs,rfl,fd,hk,hH⟩;unfold bB at hi;rw[a9]at hi;obtain⟨L,hLi,rfl⟩:=bS.mp hi;obtain⟨l,hli,lis⟩:=eY ln hLi;have hlt:=(az.mp hLi).1;have hc:=kU hL (aH hLi);have sn:=fd.snoc (L:=L) (l:=l) (by rw[cJ,cJ,hp]);rw[<-gR hLi,<-gR hli,<-lis.head.name]at sn;walk_at "rd";refine⟨.inl ⟨kvs,.inl (hH.get 0 rfl)⟩,?_⟩;walk_at "rd";refine⟨kvs,.inr L.ln.name,hH.get 0 rfl,rfl,by rw[sizeLine_eq];omega,fun v hv=>?_,fun hv=>?_⟩
   ·exact⟨_,_,rfl,sn.1 v hv,by omega,hH⟩
   ·exact⟨_,_,rfl,sn.2 hv,ck (pX _ _ _) (by omega),hH.set 0 rfl⟩
  ·rintro σ H' ⟨v,kvs,rfl,fd,hk,hH⟩;rw[fw,dt,hp,dt]at fd;walk_at "rd";exact k _ _ _ fd hH
def xT(A:Ad)(nm:V)(o:Option Ax.Line)(Lc:List Cell):Prop:=(nm=.bA/\o=none)\/∃(L:b0)(l:Ax.Line),nm=.ref L.ln.a/\o=some l/\(L.ln.a,HO.ins A.gn L.ln.dx (gL L.ln.role L.ln.name L.ln.place L.ln.kind L.ln.rank L.ln.tl L.ln.ml))∈Lc/\kg L.ln l.what l.place l.name l.kind l.axes.length
def SQ(o:Option Ax.Line)(c:Nat):Nat:=match o with
 |none=>3
 |some l=>if l.what=.size then 3 else if c=l.axes.length then 0 else 4
theorem pP(x:Ax.What):decide (tZ x=0)=decide (x=.size):=by cases x<;>rfl
def Cq(A:Ad):Sp:=fun vs H Q _=>∃(m:cx)(x:gk)(nm:V)(o:Option Ax.Line)(Lc:List Cell),vs=[.ref m.a,nm]/\m.Is x/\Holds H Lc/\(m.a,HO.ins A.d9 m.dx (pA m.sW m.name m.place m.count))∈Lc/\xT A nm o Lc/\Q (.int (SQ o x.count:Nat)) H
theorem CS(T:Txt P w K mg A):Ok P w K mg base 1 A.vt ["mention","named"] (Cq A):=by
 refine T.vC.ok Cv (fun vs H Q E h=>?_) (fun cdv A' outer s H vs Q E hr h=>?_)
 ·walk_at "vl"
 ·obtain⟨m,x,nm,o,Lc,rfl,mi,hH,hm,nv,k⟩:=h;refine⟨_,(ae (bg (PW.pt (AF (fJ (AR (pv 1))) (wF (aO cH (aC (pv 1) rfl) (bZ (by rfl) T.xb) (bb _))))) (ak (aF (bZ (by rfl) T.xa))) aQ)
   (ak (aF (eV (aO cH (aC (pv 0) rfl) (aC (pv 1) rfl) (bb _)) (bZ (by rfl) T.xf) (bZ (by rfl) T.Hc))))),?_⟩
  rcases nv with⟨rfl,rfl⟩|⟨L,l,rfl,rfl,hl,hd⟩
  ·walk_at "rd";exact k
  ·walk_at "rd";rw[dI,hd.role,pP];unfold SQ at k;dsimp only at k;by_cases h1:l.what=.size
   ·rw[ai h1]at k;refine cn (ao h1) ?_;walk_at "rd";exact k
   ·rw[af h1]at k;refine bV (fun q=>h1 (ab q)) ?_;walk_at "rd";rw[dI,mi.count,hd.rank];by_cases h2:x.count=l.axes.length
    ·rw[ai h2]at k;refine cn (ao (by rw[h2])) ?_;walk_at "rd";exact k
    ·rw[af h2]at k;refine bV (fun q=>h2 (Int.ofNat.inj (ab q))) ?_;walk_at "rd";exact k
theorem O2(w:Ax.Bytes)(force:List Ax.Bytes):eF (.str (sb w)) (force.map fun k=>V.str (sb k))=force.contains w:=by
 rw[Bk,cF];congr 1
 funext k
 exact Bool.beq_comm
theorem Ml(force:List Ax.Bytes):(force.map fun k=>V.str (sb k)).all jF=true:=by
 rw[List.all_map,fN];intro k _;rfl
theorem y1(P:Ax.Program)(w:Ax.Bytes):Ax.isSize P w=match P.find? fun l=>l.name==w with|some l=>decide (l.what=.size)|none=>false:=by
 unfold Ax.isSize;cases P.find? fun l=>l.name==w with
 |none=>rfl
 |some l=>cases l.what<;>rfl
def Ij(A:Ad):Sp:=fun vs H Q _=>∃(m:cx)(x:gk)(fa:Addr)(force:List Ax.Bytes)(nm:V)(Pr:Ax.Program)(Lc:List Cell),vs=[.ref m.a,.ref fa,nm]/\m.Is x/\Holds H Lc/\(fa,.lst (force.map fun k=>V.str (sb k)))∈Lc/\(m.a,HO.ins A.d9 m.dx (pA m.sW m.name m.place m.count))∈Lc/\xT A nm (Pr.find? fun l=>l.name==x.name) Lc/\Q (.int (eW Pr force x:Nat)) H
theorem IF(T:Txt P w K mg A):Ok P w K mg base 2 A.Bw ["mention","in_force","named"] (Ij A):=by
 refine T.BJ.ok Iq (fun vs H Q E h=>?_) (fun cdv A' outer s H vs Q E hr h=>?_)
 ·walk_at "vl"
 ·obtain⟨m,x,fa,force,nm,Pr,Lc,rfl,mi,hH,hf,hm,nv,k⟩:=h;refine⟨_,(ae (bg (aO cH (aC (pv 0) rfl) (el (by rfl) T.C9) (bb _)) (ak (aF (eV (PW.pt (jP (fJ (AR (pv 2))) (iJ (aO qB (aC (pv 0) rfl) (pv 1) rfl)))) (bZ (by rfl) T.xf) (bZ (by rfl) T.JS)))) aQ)
   (ae (bg (aO cH (aC (pv 0) rfl) (el (by rfl) T.Df) (bb _)) (ak (aF (aI (CS T) (hr.mono (by decide)) (by rfl) T.vC.at_ (aa (pv 0) (aa (pv 2) au))))) aQ)
   (ae (bg (PW.pt (jP (fJ (nX (pv 2))) (iJ (aO cH (aC (pv 2) rfl) (bZ (by rfl) T.xb) (bb _))))) (ak (aF (bZ (by rfl) T.xf))) aQ)
   (ae (bg (aO cH (aC (pv 0) rfl) (el (by rfl) T.JV) (bb _)) (ak (aF (bZ (by rfl) T.xa))) aQ)
   (ak (aF (eV (aO fE (aC (pv 0) rfl) (pv 1) rfl) (bZ (by rfl) T.xf) (bZ (by rfl) T.xa)))))))),?_⟩
  have inq:∀{b:Bool}{Q':VK},Q' (.bl (b !=force.contains x.name)) H->RQ K b (.str m.name) (.ref fa) H Q':=fun{b Q'} q=>by
   refine⟨fa,_,rfl,.inl (bY.of (hH.mem hf)),rfl,Ml force,?_⟩;rw[mi.name,O2];cases b<;>cases h:force.contains x.name<;>rw[h]at q<;>exact q
  unfold eW at k
  rcases nv with⟨rfl,ho⟩|⟨L,l,rfl,ho,hl,hd⟩
  ·rw[y1,ho]at k;walk_at "rd";rw[dS,mi.pu];by_cases h1:x.pu="range"
   ·rw[ai h1]at k;refine cn (ao h1) ?_;walk_at "rd";refine inq ?_;walk_at "rd";cases hc:force.contains x.name with
    |true=>
     rw[hc,af (by simp)]at k;refine bV (by simp) ?_;walk_at "rd";exact k
    |false=>
     rw[hc,ai (by simp)]at k;refine cn (by simp) ?_;walk_at "rd";exact k
   ·rw[af h1]at k;refine bV (fun q=>h1 (ab q)) ?_;walk_at "rd";rw[dS,mi.pu];by_cases h2:x.pu="array"
    ·rw[ai h2]at k;refine cn (ao h2) ?_;walk_at "rd";walk_at "tn";exact⟨m,x,_,none,Lc,rfl,mi,hH,hm,.inl ⟨rfl,rfl⟩,k⟩
    ·rw[af h2,af aE]at k;refine bV (fun q=>h2 (ab q)) ?_;walk_at "rd";rw[dS,mi.pu];by_cases h3:x.pu="bound"
     ·rw[ai h3]at k;refine cn (ao h3) ?_;walk_at "rd";exact k
     ·rw[af h3]at k;refine bV (fun q=>h3 (ab q)) ?_;walk_at "rd";refine inq ?_;walk_at "rd";cases hc:force.contains x.name with
      |true=>
       rw[hc,ai rfl]at k;refine cn (by simp) ?_;walk_at "rd";exact k
      |false=>
       rw[hc,af aE]at k;refine bV (by simp) ?_;walk_at "rd";exact k
  ·rw[y1,ho]at k;dsimp only at k;walk_at "rd";rw[dS,mi.pu];by_cases h1:x.pu="range"
   ·rw[ai h1,af (by simp)]at k;refine cn (ao h1) ?_;walk_at "rd";exact k
   ·rw[af h1]at k;refine bV (fun q=>h1 (ab q)) ?_;walk_at "rd";rw[dS,mi.pu];by_cases h2:x.pu="array"
    ·rw[ai h2]at k;refine cn (ao h2) ?_;walk_at "rd";walk_at "tn";exact⟨m,x,_,some l,Lc,rfl,mi,hH,hm,.inr ⟨L,l,rfl,rfl,hl,hd⟩,k⟩
    ·rw[af h2]at k;refine bV (fun q=>h2 (ab q)) ?_;walk_at "rd";rw[dI,hd.role,pP];by_cases h4:l.what=.size
     ·rw[ai (ao h4)]at k;refine cn (ao h4) ?_;walk_at "rd";exact k
     ·rw[af (fun q=>h4 (ab q))]at k;refine bV (fun q=>h4 (ab q)) ?_;walk_at "rd";rw[dS,mi.pu];by_cases h3:x.pu="bound"
      ·rw[ai h3]at k;refine cn (ao h3) ?_;walk_at "rd";exact k
      ·rw[af h3]at k;refine bV (fun q=>h3 (ab q)) ?_;walk_at "rd";refine inq ?_;walk_at "rd";cases hc:force.contains x.name with
       |true=>
        rw[hc,ai rfl]at k;refine cn (by simp) ?_;walk_at "rd";exact k
       |false=>
        rw[hc,af aE]at k;refine bV (by simp) ?_;walk_at "rd";exact k
theorem JX{α:Type}(p:α->Bool):∀l:List α,l.find? p=(l.findIdx? p).bind fun i=>l[i]?
 |[]=>rfl
 |x::l=>by
  rw[dG,List.findIdx?_cons];cases h:p x with
  |true=>rfl
  |false=>
   dsimp only;rw[JX p l];cases l.findIdx? p<;>rfl
theorem Jg(force:List Ax.Bytes)(c:Nat):j0 (force.map fun k=>V.str (sb k)) none (some (((force.map fun k=>V.str (sb k)).length:Int) - (c:Int)))=(k7 force c).map fun k=>V.str (sb k):=by
 unfold j0 k7;rw[HT.zw,aP,List.map_take,ji]
theorem LD(force:List Ax.Bytes)(c:Nat):(k7 force c).length<=force.length:=by
 unfold k7;rw[cJ,aM];omega
theorem jm.get{Ls:List b0}{Pr:Ax.Program}{kvs:List (Key×V)}{Lc:List Cell}(fd:jm Ls Pr kvs)(ln:oK Ls Pr)(hL:pG A Ls Lc)(wd:Ax.Bytes):
  xT A ((cv kvs (.inr (sb wd))).getD .bA) (Pr.find? fun l=>l.name==wd) Lc:=by
 have h:=fd wd;rw[JX];cases e:Pr.findIdx? fun l=>l.name==wd with
 |none=>
  rw[e]at h;dsimp only at h;rw[h];exact .inl ⟨rfl,rfl⟩
 |some i=>
  rw[e]at h;obtain⟨L,h1,h2⟩:=h;obtain⟨l,h3,h4⟩:=eY ln h1;rw[h2];exact .inr ⟨L,l,rfl,h3,kU hL (aH h1),h4.head⟩
theorem OQ{nm:V}{o:Option Ax.Line}{Lc:List Cell}{c:Cell}(h:xT A nm o Lc):xT A nm o (c::Lc):=by
 rcases h with h|⟨L,l,h1,h2,h3,h4⟩
 ·exact .inl h
 ·exact .inr ⟨L,l,h1,h2,ah _ h3,h4⟩
def zj(A:Ad):Sp:=fun vs H Q _=>∃(L:b0)(l:Ax.Line)(d:Addr)(Ls:List b0)(Pr:Ax.Program)(kvs:List (Key×V))(Lc:List Cell),vs=[.ref L.ln.a,.ref d]/\Holds H Lc/\(d,.dK kvs)∈Lc/\pG A Ls Lc/\oK Ls Pr/\L∈Ls/\L.Is l/\jm Ls Pr kvs/\
 (walk Pr [] (fP l)=none->∀H',Holds H' Lc->Q .bA H')/\∀x,walk Pr [] (fP l)=some x->∀H'(T:Addr),Holds H' ((T,.tup [.int (x.2:Nat),.int (x.1:Nat)])::Lc)->Q (.ref T) H'
theorem zJ(T:Txt P w K mg A):Ok P w K mg base 3 A.rG ["line","first_lines"] (zj A):=by
 refine T.rM.ok gZ (fun vs H Q E h=>?_) (fun cdv A' outer s H vs Q E hr h=>?_)
 ·walk_at "vl"
 ·obtain⟨L,l,d,Ls,Pr,kvs,Lc,rfl,hH,hd,hL,ln,hm,li,fd,kn,ks⟩:=h;refine⟨_,(ae (bp (i:=2) gZ.nd rfl (Or.inl rfl) (cX au))
   (ae (jj PassesOwn.never rfl (l9 (aC (pv 0) rfl)) (dX (i:=3) gZ.nd rfl (Or.inl rfl))
   (ae (bg (aO cH (aC (pv 3) rfl) (el (by rfl) T.PV) (bb _)) (ae (bp (i:=2) gZ.nd rfl (Or.inl rfl) (nV pV (pv 2) CI (km (fg oU (dc cV (by rfl) T.gi boot_len (aa (pv 2) au)) (aC (pv 3) rfl)))))
   (ak IA)) aQ)
   (ae (bp (i:=4) gZ.nd rfl (Or.inl rfl) (aI (IF T) (hr.mono (by decide)) (by rfl) T.BJ.at_ (aa (pv 3) (aa (pv 2) (aa (OH (gx hr) (pv 1) (aC (pv 3) rfl) ⟨rfl,rfl,rfl,rfl⟩) au)))))
   (ae (bg (aO ku (pv 4) (bZ (by rfl) T.xf) (bb _)) (ak (aF (qA (aa (pv 4) (aa (aC (pv 3) rfl) au))))) aQ)
   (ak (bg (aO cH (aC (pv 3) rfl) (el (by rfl) T.C9) (bb _)) (ak (cN (hZ bj bO bN e7 (pv 2) (aa (aC (pv 3) rfl) au)))) aQ))))))
   (ak (aF dO)))),?_⟩
  walk_at "nl";obtain⟨fa,rfl⟩:∃fa,fa=np:=⟨_,rfl⟩;have hc:=kU hL hm;have hml:=MW hL hm;have hz:=li.rF.2;walk_at "rd";refine⟨⟨_,bY.of (hH.tl.mem hml)⟩,oj (K:=K) (a:=L.ln.ml) (xs:=b8 L.ms) (fun i σ H'=>∃(fa:Addr)(force:List Ax.Bytes)(v3 v4:Option V),σ=[some (.ref L.ln.a),some (.ref d),some (.ref fa),v3,v4]/\walk Pr [] (fP l)=walk Pr force ((fP l).drop i)/\force.length<=i/\Holds H' ((fa,.lst (force.map fun k=>V.str (sb k)))::Lc))
   ⟨fa,[],none,none,rfl,rfl,aD _,hH⟩ (fun i σ H' _ ⟨_,_,_,_,_,_,_,h⟩=>bY.of (h.tl.mem hml)) ?_ ?_⟩
  ·rintro i y σ H' hi ⟨fa,force,v3,v4,rfl,ew,hk,hH⟩;unfold b8 at hi;rw[a9]at hi;obtain⟨m,hmi,rfl⟩:=bS.mp hi;obtain⟨x,hx,mi⟩:=eY li.bo hmi;have hlt:=(az.mp hmi).1;have hmm:=C5 hL hm (aH hmi);have ed:(fP l).drop i=x::(fP l).drop (i+1):=by
    obtain⟨h1,h2⟩:=az.mp hx;rw[<-h2,iq]
   rw[ed,oN]at ew;walk_at "rd";rw[dS,mi.pu];by_cases h1:x.pu="end"
   ·rw[ai h1]at ew;refine cn (ao h1) ?_;walk_at "rd";walk_at "len";walk_at "rd";refine⟨_,_,rfl,bY.of (hH.get 0 rfl),?_⟩;walk_at "new";rw[mi.count,Jg]at hH;walk_at "rd";refine⟨np,k7 force x.count,_,_,rfl,ew,by have:=LD force x.count;omega,hH.sub (.cons_cons _ (aW _ _))⟩
   ·rw[af h1]at ew;refine bV (fun q=>h1 (ab q)) ?_;walk_at "rd";refine⟨.inl ⟨kvs,.inl (hH.tl.mem hd)⟩,?_⟩;walk_at "rd";refine⟨cv kvs (.inr m.name),.inl ⟨kvs,.inr m.name,.inl (hH.tl.mem hd),rfl,rfl⟩,?_⟩;walk_at "tn";have nv:=OQ (c:=(fa,.lst (force.map fun k=>V.str (sb k)))) (fd.get (A:=A) ln hL x.name);rw[<-mi.name]at nv;refine⟨m,x,fa,force,_,Pr,_,rfl,mi,hH,aA,ah _ hmm,nv,?_⟩;walk_at "rd";rw[dI];by_cases h2:eW Pr force x=0
    ·rw[af (by simp[h2])]at ew;refine bV (by simp[h2]) ?_;walk_at "rd";rw[dS,mi.pu];by_cases h3:x.pu="range"
     ·rw[ai h3]at ew;refine cn (ao h3) ?_;walk_at "rd";refine⟨ty_list (hH.get 0 rfl),?_⟩;walk_at "rd";walk_at "tn";refine jC hH 0 rfl (by rw[aP,sizeLine_eq];omega) fun H hH=>?_;refine⟨fa,force++[x.name],_,_,rfl,ew,by rw[aq,aX];omega,?_⟩;rw[mi.name]at hH;rw[bC];exact hH
     ·rw[af h3]at ew;refine bV (fun q=>h3 (ab q)) ?_;walk_at "rd";exact⟨fa,force,_,_,rfl,ew,by omega,hH⟩
    ·rw[ai h2]at ew;refine cn (by rw[aY (by omega)];rfl) ?_;walk_at "rd";refine⟨by with_unfolding_all exact ab rfl,?_⟩;walk_at "tn";walk_at "new";rw[mi.place]at hH;exact ks _ ew _ _ (hH.sub (.cons_cons _ (aW _ _)))
  ·rintro σ H' ⟨fa,force,v3,v4,rfl,ew,hk,hH⟩;rw[oG,eA li.bo,List.drop_length]at ew;walk_at "rd";exact kn ew _ hH.tl
def Form(l:Ax.Line):Prop:=(l.what=.size->l.axes=[]/\l.body=Ax.nil)/\(l.what=.in_->l.body=Ax.nil)
def jb(P:Ax.Program):Nat:=(P.filter fun(x:Ax.Line)=>x.what==.size).length
def nArr(P:Ax.Program):Nat:=(P.filter fun(x:Ax.Line)=>x.what !=.size).length
theorem FH:∀P:Ax.Program,jb P+nArr P=P.length
 |[]=>rfl
 |l::P=>by
  have:=FH P;unfold jb nArr at*;rw[lz,lz];cases l.what<;>simp<;>omega
theorem Ba(P:Ax.Program)(l:Ax.Line):jb (P++[l])=jb P+(if l.what=.size then 1 else 0):=by
 unfold jb;rw[List.filter_append,aq,lz,List.filter_nil];cases l.what<;>rfl
theorem vM(P before:Ax.Program)(l:Ax.Line):Ax.wrongLine P before l=(if(before.any fun(x:Ax.Line)=>x.name==l.name)=true then[(l.place,2)]else[])++
   ((if(if l.what=.size then decide (8<=jb before)else decide (16<=nArr before))=true then[(l.place,5)]else[])++ag.fC P l):=rfl
def EJ(A:Ad):Sp:=fun vs H Q _=>∃(a:Addr)(Ls:List b0)(Pr:Ax.Program)(Lc:List Cell),vs=[.ref a]/\Holds H Lc/\(a,.lst (bB Ls))∈Lc/\pG A Ls Lc/\oK Ls Pr/\Ls.length<=1024/\(∀l∈Pr,Form l)/\
 ((ag.dm Pr [] Pr).head? =none->∀H',Holds H' Lc->Q .bA H')/\∀x,(ag.dm Pr [] Pr).head? =some x->∀H'(T:Addr),Holds H' ((T,.tup [.int (x.2:Nat),.int (x.1:Nat)])::Lc)->Q (.ref T) H'
theorem EZ(T:Txt P w K mg A):Ok P w K mg base 4 A.xi ["lines"] (EJ A):=by
 refine T.xx.ok fD (fun vs H Q E h=>?_) (fun cdv A' outer s H vs Q E hr h=>?_)
 ·walk_at "vl"
 ·obtain⟨a,Ls,Pr,Lc,rfl,hH,ha,hL,ln,hz,fm,kn,ks⟩:=h;refine⟨_,(ae (bp (i:=1) fD.nd rfl (Or.inl rfl) (aI (ma T) (hr.mono (by decide)) (by rfl) T.jd.at_ (aa (pv 0) au)))
   (ae (bp (i:=2) fD.nd rfl (Or.inl rfl) uv)
   (ae (bp (i:=3) fD.nd rfl (Or.inl rfl) aV)
   (ae (jj PassesOwn.never rfl (sX (by rfl) T.jT (aa (pv 0) au)) (wN rfl (iA (dX (i:=4) fD.nd rfl (Or.inl rfl)) (iA (dX (i:=5) fD.nd rfl (Or.inl rfl)) sY)))
   (ae (bg (fJ (MM (gx hr) (aC (pv 5) rfl) (pv 2))) (ak (aF (qA (aa (bZ (by rfl) T.JS) (aa (aC (pv 5) rfl) au))))) aQ)
   (ae (xX (gx hr) (pv 2) (aC (pv 5) rfl) jD rfl)
   (ae (bg (aO cH (aC (pv 5) rfl) (bZ (by rfl) T.xb) (bb _)) (ak (wL (i:=3) fD.nd rfl (Or.inl rfl) aV wZ)) aQ)
   (ae (bg (PW.pt (AF (aO xY (pv 3) (bZ (by rfl) T.Hf) (bb _)) (wF (aO xY (fg oU (fg kT (pv 4) aV) (pv 3)) (bZ (by rfl) T.Fj) (bb _))))) (ak (aF (qA (aa (bZ (by rfl) T.Lr) (aa (aC (pv 5) rfl) au))))) aQ)
   (ae (bp (i:=6) fD.nd rfl (Or.inl rfl) (aI (zJ T) (hr.mono (by decide)) (by rfl) T.rM.at_ (aa (pv 5) (aa (pv 1) au))))
   (ak (bg (fJ (nX (pv 6))) (ak (aF (pv 6))) aQ))))))))
   (ak (aF dO)))))),?_⟩
  walk_at "rd";walk_at "tn";refine⟨a,Ls,Pr,Lc,rfl,hH,ha,hL,ln,hz,fun H d kvs fd hH=>?_⟩;walk_at "rd";walk_at "new";obtain⟨e,rfl⟩:∃e,e=np:=⟨_,rfl⟩;walk_at "rd";have hp:=eA ln;refine⟨a,_,rfl,bY.of (hH.tl.tl.mem ha),qK (K:=K) (a:=a) (xs:=bB Ls) (fun n σ H'=>∃(kv2:List (Key×V))(z:Int)(v4 v5 v6:Option V),σ=[some (.ref a),some (.ref d),some (.ref e),some (.int z),v4,v5,v6]/\z=(jb (Pr.take n):Nat)/\
    (∀wd:Ax.Bytes,(cv kv2 (.inr (sb wd))).isSome=(Pr.take n).any fun l=>l.name==wd)/\kv2.length<=n/\jb (Pr.take n)<=8/\nArr (Pr.take n)<=16/\(ag.dm Pr [] Pr).head? =(ag.dm Pr (Pr.take n) (Pr.drop n)).head? /\Holds H' ((e,.dK kv2)::(d,.dK kvs)::Lc))
   ⟨[],0,none,none,none,rfl,rfl,fun _=>rfl,aD _,cE _,cE _,rfl,hH⟩ (fun n σ H' _ ⟨_,_,_,_,_,_,_,_,_,_,_,_,h⟩=>bY.of (h.tl.tl.mem ha)) ?_ ?_⟩
  ·rintro n y σ H' T' H2 hi ⟨kv2,z,v4,v5,v6,rfl,ez,hea,hk,hS,hA,ew,hH⟩ nT eT;have hH:=Holds.oW eT hH nT;unfold bB at hi;rw[a9]at hi;obtain⟨L,hLi,rfl⟩:=bS.mp hi;obtain⟨l,hli,lis⟩:=eY ln hLi;have hlt:=(az.mp hLi).1;have hm:=aH hLi;have hc:=kU hL hm;have ed:Pr.drop n=l::Pr.drop (n+1):=by
    obtain⟨h1,h2⟩:=az.mp hli;rw[<-h2,iq]
   have et:=gR hli;have ew2:(ag.dm Pr [] Pr).head? =((Ax.wrongLine Pr (Pr.take n) l).head?).or (ag.dm Pr (Pr.take (n+1)) (Pr.drop (n+1))).head? :=by
    rw[ew,ed,et];show(Ax.wrongLine Pr (Pr.take n) l++ag.dm Pr (Pr.take n++[l]) (Pr.drop (n+1))).head? =_;rw[fR]
   rw[vM]at ew2;have hsum:=FH (Pr.take n);have hlen:(Pr.take n).length=n:=by rw[cJ];omega
   have hname:=hea l.name;rw[<-lis.head.name]at hname;have hH:=hH.tl;walk_at "rd";refine⟨e,_,rfl,.inl ⟨kv2,.inr L.ln.name,.inl (hH.get 0 rfl),rfl,rfl⟩,?_⟩;walk_at "rd";rw[hname];cases hany:(Pr.take n).any fun x=>x.name==l.name with
   |true=>
    rw[hany,ai rfl]at ew2;walk_at "rd";refine⟨by with_unfolding_all exact ab rfl,?_⟩;walk_at "tn";walk_at "new";rw[lis.head.place]at hH;exact ks _ ew2 _ _ (hH.sub (.cons_cons _ (.cons _ (.cons _ (bt _)))))
   |false=>
    rw[hany,af aE,List.nil_append]at ew2;walk_at "rd";obtain⟨dp,hH⟩:=Al (k:=.inr L.ln.name) (y:=.bl true) hH 0 rfl (by rw[sizeLine_eq];omega);refine⟨e,_,rfl,dp,?_⟩;rw[bH]at hH;have hea2:∀wd:Ax.Bytes,(cv (putK kv2 (Sum.inr L.ln.name) (V.bl true)) (.inr (sb wd))).isSome=(Pr.take (n+1)).any fun l=>l.name==wd:=fun wd=>by
     rw[lB,et,mF,<-hea wd,lis.head.name];by_cases q:l.name=wd
     ·subst q;rw[ai rfl];simp
     ·rw[af fun r=>q (AD (Sum.inr.inj r)).symm];simp[q]
    walk_at "rd";rw[dI,lis.head.role,pP];by_cases h4:l.what=.size
    ·refine cn (ao h4) ?_;walk_at "rd";rw[ai h4]at ew2;have hz2:jb (Pr.take (n+1))=jb (Pr.take n)+1:=by rw[et,Ba,ai h4]
     have ha2:nArr (Pr.take (n+1))+jb (Pr.take (n+1))=n+1:=by
      have:=FH (Pr.take (n+1));have hl2:(Pr.take (n+1)).length=n+1:=by rw[cJ];omega
      omega
     walk_at "rd";by_cases h5:8<=jb (Pr.take n)
     ·rw[ai (ao h5)]at ew2;refine cn (ao (by(try dsimp only);omega)) ?_;walk_at "rd";refine⟨by with_unfolding_all exact ab rfl,?_⟩;walk_at "tn";walk_at "new";rw[lis.head.place]at hH;exact ks _ ew2 _ _ (hH.sub (.cons_cons _ (.cons _ (.cons _ (bt _)))))
     ·rw[af (fun q=>h5 (ab q)),List.nil_append,<-DC Pr l (fm l (aH hli)).1 (fm l (aH hli)).2]at ew2;refine bV (fun q=>by have:=ab q;(try dsimp only at this);omega) ?_;walk_at "rd";refine bV (fun q=>by have:=ab q;(try dsimp only at this);omega) ?_;walk_at "rd";walk_at "tn";refine⟨L,l,d,Ls,Pr,kvs,_,rfl,hH,ah _ aA,fun M hM c hcM=>ah _ (ah _ (hL M hM c hcM)),ln,hm,lis,fd,fun hw H hH=>?_,fun x hw H T hH=>?_⟩
      ·rw[hw,Option.none_or]at ew2;walk_at "rd";refine⟨_,_,_,_,_,rfl,by omega,hea2,ck (pX _ _ _) (by omega),by omega,by omega,ew2,hH⟩
      ·rw[hw,Option.some_or]at ew2;walk_at "rd";exact ks _ ew2 _ _ (hH.sub (.cons_cons _ (.cons _ (.cons _ (bt _)))))
    ·refine bV (fun q=>h4 (ab q)) ?_;walk_at "rd";rw[af h4]at ew2;have hz2:jb (Pr.take (n+1))=jb (Pr.take n)+0:=by rw[et,Ba,af h4]
     have ha2:nArr (Pr.take (n+1))+jb (Pr.take (n+1))=n+1:=by
      have:=FH (Pr.take (n+1));have hl2:(Pr.take (n+1)).length=n+1:=by rw[cJ];omega
      omega
     walk_at "rd";by_cases h5:16<=nArr (Pr.take n)
     ·rw[ai (ao h5)]at ew2;refine bV (fun q=>by have:=ab q;(try dsimp only at this);omega) ?_;walk_at "rd";refine cn (ao (by(try dsimp only);omega)) ?_;walk_at "rd";refine⟨by with_unfolding_all exact ab rfl,?_⟩;walk_at "tn";walk_at "new";rw[lis.head.place]at hH;exact ks _ ew2 _ _ (hH.sub (.cons_cons _ (.cons _ (.cons _ (bt _)))))
     ·rw[af (fun q=>h5 (ab q)),List.nil_append,<-DC Pr l (fm l (aH hli)).1 (fm l (aH hli)).2]at ew2;refine bV (fun q=>by have:=ab q;(try dsimp only at this);omega) ?_;walk_at "rd";refine bV (fun q=>by have:=ab q;(try dsimp only at this);omega) ?_;walk_at "rd";walk_at "tn";refine⟨L,l,d,Ls,Pr,kvs,_,rfl,hH,ah _ aA,fun M hM c hcM=>ah _ (ah _ (hL M hM c hcM)),ln,hm,lis,fd,fun hw H hH=>?_,fun x hw H T hH=>?_⟩
      ·rw[hw,Option.none_or]at ew2;walk_at "rd";refine⟨_,_,_,_,_,rfl,by omega,hea2,ck (pX _ _ _) (by omega),by omega,by omega,ew2,hH⟩
      ·rw[hw,Option.some_or]at ew2;walk_at "rd";exact ks _ ew2 _ _ (hH.sub (.cons_cons _ (.cons _ (.cons _ (bt _)))))
  ·rintro σ H' ⟨kv2,z,v4,v5,v6,rfl,ez,hea,hk,hS,hA,ew,hH⟩;rw[fw,hp,List.drop_length]at ew;walk_at "rd";exact kn ew _ hH.tl.tl
end aJ
namespace aJ
open Ax (Expr Bound Range Line What Bytes Bin Un Red Tok Placed Got andThen)
inductive It where
 |tok (x:Tok)
 |val (ts:List Tok) (e:Expr)
def It.toks:It->List Tok
 | .tok x=>[x]
 | .val ts _=>ts
def It.out:It->Bytes
 | .tok x=>cT x
 | .val _ e=>Ax.printed e
def bw(its:List It):List Tok:=its.flatMap It.toks
def fI(its:List It):Bytes:=its.flatMap It.out
def isOpen:Tok->Bool
 | .openP=>true
 | .openB=>true
 |_=>false
def fz:Tok->Bool
 | .closeP=>true
 | .closeB=>true
 |_=>false
def plainT:Tok->Bool
 | .name _=>true
 | .num _=>true
 | .lt=>true
 | .comma=>true
 | .colon=>true
 |_=>false
def startT:Tok->Bool
 | .openP=>true
 | .openB=>true
 | .comma=>true
 | .colon=>true
 | .is=>true
 |_=>false
def RJ:Tok->Bool
 | .comma=>true
 | .colon=>true
 |_=>false
def Ur:List It->Bool
 |[]=>true
 | .tok x::_=>RJ x
 |_=>false
def jH:Tok->List It->Prop
 |_,[]=>True
 |_,.tok x::r=>plainT x=true/\jH x r
 |p,.val _ _::r=>startT p=true/\Ur r=true/\jH .bad r
def tW:Tok->Bool
 | .fn1 _=>true
 | .fn2 _=>true
 | .if_=>true
 | .red _=>true
 |_=>false
def JN:Tok->Bool
 | .name _=>true
 |_=>false
inductive fG:Nat->List Tok->Expr->Prop
 |num (n:Nat):fG 0 [.num n] (.num n)
 |name (p:Nat) (w:Bytes):fG 0 [.name w] (.name p w)
 |call (x:Tok) (op cl:Tok) (its:List It) (e:Expr):((op=.openP/\cl=.closeP/\tW x=true)\/(op=.openB/\cl=.closeB/\JN x=true))->(∀ts e,It.val ts e∈its->fG 8 ts e)->jH op its->Ax.loose e=0->
   Ax.printed e=cT x++(cT op++(fI its++cT cl))->cQ x->fG 0 (x::op::(bw its++[cl])) e
 |group (ts:List Tok) (e:Expr):fG 8 ts e->fG 0 (.openP::(ts++[.closeP])) e
 |neg (ts:List Tok) (e:Expr):fG 1 ts e->fG 1 (.minus::ts) (.un .neg e)
 |not (ts:List Tok) (e:Expr):fG 1 ts e->fG 1 (.tilde::ts) (.un .not e)
 |up (k:Nat) (ts:List Tok) (e:Expr):k<=7->fG k ts e->fG (k+1) ts e
 |bin (o:Bin) (x:Tok) (k:Nat) (ts us:List Tok) (a b:Expr):Ax.level o=k+1->1<=k->ag.dw x=some o->cQ x->fG (if k=7 then 7 else k+1) ts a->fG k us b->fG (k+1) (ts++x::us) (.bin o a b)
abbrev tk(l:List Placed):List Tok:=l.map fun x=>x.2
theorem aZ{α β:Type}{x:Got α}{f:α->List Placed->Got β}{y:β×List Placed}(h:andThen x f=.ok y):∃a r,x=.ok (a,r)/\f a r=.ok y:=by
 cases x with
 |error e=>cases h
 |ok z=>exact⟨z.1,z.2,rfl,h⟩
theorem P8{ok:Tok->Bool}{l r:List Placed}{u:Unit}(h:Ax.want ok l=.ok (u,r)):∃p t,l=(p,t)::r/\ok t=true:=by
 cases l with
 |nil=>cases h
 |cons x l=>
  obtain⟨p,t⟩:=x;have h':(if ok t=true then Except.ok ((),l)else Except.error ((p,t)::l):Got Unit)=.ok (u,r):=h;by_cases q:ok t=true
  ·rw[ai q]at h';cases h';exact⟨p,t,rfl,q⟩
  ·rw[af q]at h';cases h'
theorem QH{ok:Tok->Bool}{l:List Placed}(h:Ax.next ok l=true):∃p t r,l=(p,t)::r/\ok t=true:=by
 cases l with
 |nil=>cases h
 |cons x l=>exact⟨x.1,x.2,l,rfl,h⟩
theorem G8{t:Tok}(h:Ax.isOpenB t=true):t=.openB:=by cases t<;>first|rfl|cases h
theorem jW{t:Tok}(h:Ax.isCloseB t=true):t=.closeB:=by cases t<;>first|rfl|cases h
theorem O1{t:Tok}(h:Ax.isOpenP t=true):t=.openP:=by cases t<;>first|rfl|cases h
theorem oY{t:Tok}(h:Ax.isCloseP t=true):t=.closeP:=by cases t<;>first|rfl|cases h
theorem lR{t:Tok}(h:Ax.isComma t=true):t=.comma:=by cases t<;>first|rfl|cases h
theorem zV{t:Tok}(h:Ax.isColon t=true):t=.colon:=by cases t<;>first|rfl|cases h
theorem C8{t:Tok}(h:Ax.isSemi t=true):t=.semi:=by cases t<;>first|rfl|cases h
theorem TF{t:Tok}(h:Ax.isIs t=true):t=.is:=by cases t<;>first|rfl|cases h
theorem is_lt{t:Tok}(h:Ax.isLt t=true):t=.lt:=by cases t<;>first|rfl|cases h
theorem kz{b:Bool}(h:¬b=false):b=true:=by cases b<;>simp_all
theorem dE{ok:Tok->Bool}{t:Tok}{l r:List Placed}{u:Unit}(h:Ax.want ok l=.ok (u,r))(is:∀x,ok x=true->x=t):tk l=t::tk r:=by
 obtain⟨p,x,rfl,hx⟩:=P8 h;rw[<-is x hx];rfl
theorem n9{ok:Tok->Bool}{t:Tok}{l:List Placed}(h:Ax.next ok l=true)(is:∀x,ok x=true->x=t):tk l=t::tk (l.drop 1):=by
 obtain⟨p,x,r,rfl,hx⟩:=QH h;rw[<-is x hx];rfl
theorem mV{d:Nat}{l r:List Placed}{u:Unit}(h:Ax.opening d l=.ok (u,r)):tk l=.openP::tk r:=by
 unfold Ax.opening at h;split at h
 ·cases h
 ·exact dE h fun x=>O1
theorem Tt{lev:Nat}{l:List Placed}{o:Bin}(h:Ax.opAt lev l=some o):∃p x r,l=(p,x)::r/\ag.dw x=some o/\Ax.level o=lev:=by
 unfold Ax.opAt at h;split at h
 ·split at h
  ·cases h;exact⟨_,_,_,rfl,rfl,by assumption⟩
  ·cases h
 ·split at h
  ·cases h;exact⟨_,_,_,rfl,rfl,by subst_vars;rfl⟩
  ·cases h
 ·split at h
  ·cases h;exact⟨_,_,_,rfl,rfl,by subst_vars;rfl⟩
  ·cases h
 ·cases h
def jk:Bound->List It
 | .num n=>[.tok (.num n)]
 | .size _ w=>[.tok (.name w)]
def ig(named:Bool)(r:Range):List It:=if named=true then .tok (.name r.index):: .tok .lt::jk r.bound else jk r.bound
def b7(named:Bool):List Range->List It
 |[]=>[]
 |[r]=>ig named r
 |r::rs=>ig named r++(.tok .comma::b7 named rs)
theorem HE{l r:List Placed}{b:Bound}(h:Ax.aBound l=.ok (b,r)):tk l=bw (jk b)++tk r:=by
 unfold Ax.aBound at h;split at h
 ·cases h;rfl
 ·cases h;rfl
 ·cases h
theorem x5{l r:List Placed}{x:Nat×Bytes}(h:Ax.aName l=.ok (x,r)):l=(x.1,.name x.2)::r:=by
 unfold Ax.aName at h;split at h
 ·cases h;rfl
 ·cases h
theorem JJ{l r:List Placed}{k:Nat}(h:Ax.aKind l=.ok (k,r)):tk l=.kind k::tk r:=by
 unfold Ax.aKind at h;split at h
 ·cases h;rfl
 ·cases h
theorem Gp{named:Bool}{l r:List Placed}{x:Range}(h:Ax.aRange named l=.ok (x,r)):tk l=bw (ig named x)++tk r:=by
 unfold Ax.aRange at h;unfold ig;cases named with
 |true=>
  rw[ai rfl]at h⊢;obtain⟨y,r1,h1,h⟩:=aZ h;obtain⟨u,r2,h2,h⟩:=aZ h;obtain⟨b,r3,h3,h⟩:=aZ h;cases h;rw[x5 h1];show Tok.name y.2::tk r1=_;rw[dE h2 fun x=>is_lt,HE h3];rfl
 |false=>
  rw[af aE]at h⊢;obtain⟨b,r3,h3,h⟩:=aZ h;cases h;exact HE h3
theorem ve(a b:List It):bw (a++b)=bw a++bw b:=cq ..
theorem qH(a b:List It):fI (a++b)=fI a++fI b:=cq ..
theorem wC{named:Bool}:∀{k:Nat}{l r:List Placed}{xs:List Range},Ax.ranges named k l=.ok (xs,r)->tk l=bw (b7 named xs)++tk r/\xs≠[]
 |0,l,r,xs,h=>by cases h
 |k+1,l,r,xs,h=>by
  unfold Ax.ranges at h;obtain⟨x,r1,h1,h⟩:=aZ h;by_cases q:Ax.next Ax.isComma r1=true/\0<k
  ·rw[ai q]at h;obtain⟨ys,r2,h2,h⟩:=aZ h;cases h;obtain⟨e,hne⟩:=wC h2;refine⟨?_,by simp⟩;rw[Gp h1,n9 q.1 fun x=>lR,e];cases ys with
   |nil=>exact absurd rfl hne
   |cons y ys=>
    show _=bw (ig named x++(.tok .comma::b7 named (y::ys)))++tk _;rw[ve,aw];rfl
  ·rw[af q]at h;cases h;exact⟨Gp h1,by simp⟩
theorem uA(b:Bound)(p:Tok)(r:List It)(h:jH (match b with| .num n=>.num n| .size _ w=>.name w) r):jH p (jk b++r):=by
 cases b<;>exact⟨rfl,h⟩
theorem wQ(named:Bool):∀(rs:List Range)(p:Tok)(r:List It),(∀p,jH p r)->jH p (b7 named rs++r)
 |[],p,r,h=>h p
 |[x],p,r,h=>by
  show jH p (ig named x++r);unfold ig;cases named with
  |true=>exact⟨rfl,rfl,uA _ _ _ (h _)⟩
  |false=>exact uA _ _ _ (h _)
 |x::y::rs,p,r,h=>by
  show jH p ((ig named x++(.tok .comma::b7 named (y::rs)))++r);rw[aw];have ih:=wQ named (y::rs) .comma r h;have:jH .comma (.tok .comma::(b7 named (y::rs)++r)):=⟨rfl,ih⟩;have h2:∀p,jH p (.tok .comma::(b7 named (y::rs)++r)):=fun p=>⟨rfl,ih⟩;unfold ig;cases named with
  |true=>exact⟨rfl,rfl,uA _ _ _ (h2 _)⟩
  |false=>exact uA _ _ _ (h2 _)
theorem rm(b:Bound):fI (jk b)=Ax.boundText b:=by
 cases b<;>exact aK _
theorem qQ(s x:Bytes)(y:Bytes)(r:List Bytes):Ax.between s (x::y::r)=x++(s++Ax.between s (y::r)):=by
 show x++((s++y)++_)=_;rw[aw];rfl
theorem uw:∀rs:List Range,fI (b7 true rs)=Ax.between (Ax.ascii ",") (rs.map Ax.rangeText)
 |[]=>rfl
 |[x]=>by
  show fI (.tok (.name x.index):: .tok .lt::jk x.bound)=Ax.rangeText x++[];rw[aK];show x.index++(Ax.ascii "<"++fI (jk x.bound))=_;rw[rm];rfl
 |x::y::rs=>by
  show fI (ig true x++(.tok .comma::b7 true (y::rs)))=_;rw[qH,a8,a8,qQ];have ih:=uw (y::rs);rw[a8]at ih;rw[<-ih];have:fI (ig true x)=Ax.rangeText x:=by
   show x.index++(Ax.ascii "<"++fI (jk x.bound))=_;rw[rm];rfl
  rw[this];rfl
theorem AS:∀rs:List Range,fI (b7 false rs)=Ax.between (Ax.ascii ",") (rs.map fun r=>Ax.boundText r.bound)
 |[]=>rfl
 |[x]=>by
  show fI (jk x.bound)=Ax.boundText x.bound++[];rw[rm,aK]
 |x::y::rs=>by
  show fI (jk x.bound++(.tok .comma::b7 false (y::rs)))=_;rw[qH,a8,a8,qQ];have ih:=AS (y::rs);rw[a8]at ih;rw[<-ih,rm];rfl
theorem yL{named:Bool}{rs:List Range}{ts:List Tok}{e:Expr}:¬It.val ts e∈b7 named rs:=by
 have hb:∀b:Bound,¬It.val ts e∈jk b:=fun b=>by cases b<;>simp[jk]
 have hr:∀r:Range,¬It.val ts e∈ig named r:=fun r=>by
  unfold ig;cases named<;>simp[hb]
 induction rs with
 |nil=>simp[b7]
 |cons x rs ih=>
  cases rs with
  |nil=>exact hr x
  |cons y rs=>
   show ¬It.val ts e∈ig named x++(.tok .comma::b7 named (y::rs));rw[bU,aT];rintro(h|h|h)
   ·exact hr x h
   ·cases h
   ·exact ih h
end aJ
namespace aJ
open Ax (Expr Bound Range Line What Bytes Bin Un Red Tok Placed Got andThen)
def eR(l:List Placed):Prop:=∀x∈tk l,cQ x
theorem eR.of{l r:List Placed}{ts:List Tok}(h:eR l)(e:tk l=ts++tk r):eR r:=fun x hx=>h x (by rw[e];exact aU _ hx)
theorem eR.cons{l r:List Placed}{t:Tok}(h:eR l)(e:tk l=t::tk r):eR r:=fun x hx=>h x (by rw[e];exact ah _ hx)
theorem fG.to{j k:Nat}{ts:List Tok}{e:Expr}(h:fG j ts e)(hjk:j<=k)(hk:k<=8):fG k ts e:=by
 induction k with
 |zero=>rw[show j=0 by omega]at h;exact h
 |succ k ih=>
  by_cases q:j=k+1
  ·rw[q]at h;exact h
  ·exact .up k ts e (by omega) (ih (by omega) (by omega))
def jG:List (List Tok×Expr)->List It
 |[]=>[]
 |[x]=>[.val x.1 x.2]
 |x::xs=>.val x.1 x.2:: .tok .comma::jG xs
theorem JF:∀(xs:List (List Tok×Expr))(p:Tok),startT p=true->jH p (jG xs)
 |[],_,_=>trivial
 |[x],p,h=>⟨h,rfl,trivial⟩
 |x::y::xs,p,h=>⟨h,rfl,rfl,JF (y::xs) .comma rfl⟩
theorem Gz:∀xs:List (List Tok×Expr),fI (jG xs)=Ax.between (Ax.ascii ",") (xs.map fun x=>Ax.printed x.2)
 |[]=>rfl
 |[x]=>by
  show Ax.printed x.2++[]=Ax.printed x.2++[];rfl
 |x::y::xs=>by
  rw[a8,a8,qQ];have ih:=Gz (y::xs);rw[a8]at ih;rw[<-ih];rfl
theorem Pw{xs:List (List Tok×Expr)}(h:∀x∈xs,fG 8 x.1 x.2):∀ts e,It.val ts e∈jG xs->fG 8 ts e:=by
 induction xs with
 |nil=>intro ts e q;cases q
 |cons x xs ih=>
  intro ts e q;cases xs with
  |nil=>
   cases bI.mp q;exact h x aA
  |cons y xs=>
   have q':It.val ts e∈(.val x.1 x.2:: .tok .comma::jG (y::xs)):=q
   rcases aT.mp q' with q|q
   ·cases q;exact h x aA
   ·rcases aT.mp q with q|q
    ·cases q
    ·exact ih (fun z hz=>h z (ah _ hz)) ts e q
theorem jZ{x op cl:Tok}{e:Expr}(xs:List (List Tok×Expr))(hs:(op=.openP/\cl=.closeP/\tW x=true)\/(op=.openB/\cl=.closeB/\JN x=true))(hd:∀z∈xs,fG 8 z.1 z.2)(hl:Ax.loose e=0)
  (hp:Ax.printed e=cT x++(cT op++(Ax.between (Ax.ascii ",") (xs.map fun x=>Ax.printed x.2)++cT cl))) (hr:cQ x):fG 0 (x::op::(bw (jG xs)++[cl])) e:=by
 refine .call x op cl (jG xs) e hs (Pw hd) (JF xs op ?_) hl (by rw[hp,Gz]) hr
 rcases hs with⟨rfl,_⟩|⟨rfl,_⟩<;>rfl
theorem Gk{o:Bin}(h:cQ (.fn2 o)):Ax.level o=0:=by cases o<;>first|rfl|exact False.elim h
theorem Oz{o:Un}(h:cQ (.fn1 o)):¬(o=.neg\/o=.not):=by cases o<;>first|exact False.elim h|(rintro(q|q)<;>cases q)
def Goal(m:Ax.Mode)(l r:List Placed)(e:Expr):Prop:=match m with
 | .level lev=>lev<=8->∃ts,tk l=ts++tk r/\fG (max 1 lev) ts e
 | .more lev a=>2<=lev->lev<=8->∀ts0,fG (if lev=8 then 7 else lev) ts0 a->∃ts,tk l=ts++tk r/\fG lev (ts0++ts) e
theorem ft{l r:List Placed}{ts:List Tok}{e:Expr}{lev:Nat}(h2:¬2<=lev)(he:tk l=ts++tk r)(h:fG 1 ts e):∃ts,tk l=ts++tk r/\fG (max 1 lev) ts e:=⟨ts,he,by rw[Nat.max_eq_left (by omega)];exact h⟩
theorem iU:∀(f d:Nat)(m:Ax.Mode)(l r:List Placed)(e:Expr),Ax.value f d m l=.ok (e,r)->eR l->Goal m l r e
 |0,d,m,l,r,e,h,rl=>by cases h
 |f+1,d,.more lev a,l,r,e,h,rl=>by
  intro hl2 hl8 ts0 d0;unfold Ax.value at h;cases ho:Ax.opAt lev l with
  |none=>
   rw[ho]at h;cases h;refine⟨[],rfl,?_⟩;rw[aK];by_cases q:lev=8
   ·rw[ai q]at d0;rw[q];exact .up 7 _ _ (by omega) d0
   ·rw[af q]at d0;exact d0
  |some o=>
   rw[ho]at h;dsimp only at h;by_cases q1:lev<8/\Ax.ROW<=Ax.operands lev a
   ·rw[ai q1]at h;cases h
   ·rw[af q1]at h;obtain⟨b,r1,h1,hB⟩:=aZ h;clear h;obtain⟨p,x,l',rfl,hx,hlev⟩:=Tt ho;have rl':eR l':=rl.cons rfl;have hrx:cQ x:=rl x aA;obtain⟨us,e1,db⟩:=iU f d (.level (lev - 1)) l' r1 b h1 rl' (by omega);rw[Nat.max_eq_right (by omega)]at db;obtain⟨k,rfl⟩:∃k,lev=k+1:=⟨lev - 1,by omega⟩;have db':fG k us b:=db;have dbin:fG (k+1) (ts0++x::us) (.bin o a b):=.bin o x k ts0 us a b hlev (by omega) hx hrx (by
     by_cases q:k=7
     ·rw[ai q];rw[ai (by omega)]at d0;exact d0
     ·rw[af q];rw[af (by omega)]at d0;exact d0) db'
    by_cases q2:k+1=8
    ·rw[ai q2]at hB;cases hB;exact⟨x::us,by show x::tk l'=_;rw[e1];rfl,dbin⟩
    ·rw[af q2]at hB;obtain⟨vs,e2,dv⟩:=iU f d (.more (k+1) (.bin o a b)) r1 r e hB (rl'.of e1) hl2 hl8 _ (by rw[af q2];exact dbin);refine⟨x::(us++vs),by show x::tk l'=_;rw[e1,e2,List.cons_append,aw],?_⟩;rw[aw]at dv;exact dv
 |f+1,d,.level lev,l,r,e,h,rl=>by
  intro hl8;unfold Ax.value at h;by_cases h2:2<=lev
  ·rw[ai h2]at h;obtain⟨a,r1,h1,h⟩:=aZ h;obtain⟨us,e1,da⟩:=iU f d (.level (lev - 1)) l r1 a h1 rl (by omega);rw[Nat.max_eq_right (by omega)]at da;obtain⟨vs,e2,dv⟩:=iU f d (.more lev a) r1 r e h (rl.of e1) h2 hl8 us (da.to (by split<;>omega) (by split<;>omega));refine⟨us++vs,by rw[e1,e2,aw],?_⟩;rw[Nat.max_eq_right (by omega)];exact dv
  ·rw[af h2]at h;have sub:∀{d':Nat}{l' r':List Placed}{e':Expr},Ax.value f d' (.level 8) l'=.ok (e',r')->eR l'->∃ts,tk l'=ts++tk r'/\fG 8 ts e':=fun h' rl'=>iU f _ (.level 8) _ _ _ h' rl' (aD 8);split at h
   ·
    split at h
    ·cases h
    ·obtain⟨a,r1,h1,h⟩:=aZ h;cases h;obtain⟨ts,e1,da⟩:=iU f _ (.level 1) _ _ _ h1 (rl.cons rfl) (by omega);refine ft h2 (ts:=.minus::ts) ?_ (.neg ts a da);show _::tk _=_;rw[e1];rfl
   ·split at h
    ·cases h
    ·obtain⟨a,r1,h1,h⟩:=aZ h;cases h;obtain⟨ts,e1,da⟩:=iU f _ (.level 1) _ _ _ h1 (rl.cons rfl) (by omega);refine ft h2 (ts:=.tilde::ts) ?_ (.not ts a da);show _::tk _=_;rw[e1];rfl
   ·cases h;exact ft h2 (ts:=[_]) rfl (.up 0 _ _ (by decide) (.num _))
   ·
    rename_i p w l1;have rl1:eR l1:=rl.cons rfl;by_cases q1:Ax.next Ax.isOpenB l1=false
    ·rw[ai q1]at h;cases h;exact ft h2 (ts:=[_]) rfl (.up 0 _ _ (by decide) (.name p w))
    ·rw[af q1]at h;have e0:=n9 (kz q1) fun x=>G8;have rl2:eR (l1.drop 1):=rl1.cons e0;by_cases q2:Ax.DEEP<=d
     ·rw[ai q2]at h;cases h
     ·rw[af q2]at h;by_cases q3:Ax.next Ax.isCloseB (l1.drop 1)=true
      ·rw[ai q3]at h;cases h;have e1:=n9 q3 fun x=>jW;refine ft h2 (ts:=_) ?_ (.up 0 _ _ (by decide) (jZ (x:=.name w) (op:=.openB) (cl:=.closeB) [] (.inr ⟨rfl,rfl,rfl⟩) (fun _ q=>nomatch q) rfl rfl trivial));show Tok.name w::tk l1=_;rw[e0,e1,List.drop_drop];rfl
      ·rw[af q3]at h;obtain⟨a,r1,h1,h⟩:=aZ h;obtain⟨t1,e1,d1⟩:=sub h1 rl2;have rl3:eR r1:=rl2.of e1;by_cases q4:Ax.next Ax.isComma r1=false
       ·rw[ai q4]at h;obtain⟨u,r9,h9,h⟩:=aZ h;cases h;have e9:=dE h9 fun x=>jW;refine ft h2 (ts:=_) ?_ (.up 0 _ _ (by decide) (jZ (x:=.name w) (op:=.openB) (cl:=.closeB) [(t1,a)] (.inr ⟨rfl,rfl,rfl⟩) (by simpa using d1) rfl rfl trivial));show Tok.name w::tk l1=_;rw[e0,e1,e9];simp[jG,bw,It.toks]
       ·rw[af q4]at h;have c1:=n9 (kz q4) fun x=>lR;have rl3:eR (r1.drop 1):=rl3.cons c1;obtain⟨b,r2,h3,h⟩:=aZ h;obtain⟨t2,e2,d2⟩:=sub h3 rl3;have rl4:eR r2:=rl3.of e2;by_cases q5:Ax.next Ax.isComma r2=false
        ·rw[ai q5]at h;obtain⟨u,r9,h9,h⟩:=aZ h;cases h;have e9:=dE h9 fun x=>jW;refine ft h2 (ts:=_) ?_ (.up 0 _ _ (by decide) (jZ (x:=.name w) (op:=.openB) (cl:=.closeB) [(t1,a),(t2,b)] (.inr ⟨rfl,rfl,rfl⟩) (by simpa using⟨d1,d2⟩) rfl rfl trivial));show Tok.name w::tk l1=_;rw[e0,e1,c1,e2,e9];simp[jG,bw,It.toks]
        ·rw[af q5]at h;have c2:=n9 (kz q5) fun x=>lR;have rl4:eR (r2.drop 1):=rl4.cons c2;obtain⟨c,r3,h4,h⟩:=aZ h;obtain⟨t3,e3,d3⟩:=sub h4 rl4;have rl5:eR r3:=rl4.of e3;by_cases q6:Ax.next Ax.isComma r3=false
         ·rw[ai q6]at h;obtain⟨u,r9,h9,h⟩:=aZ h;cases h;have e9:=dE h9 fun x=>jW;refine ft h2 (ts:=_) ?_ (.up 0 _ _ (by decide) (jZ (x:=.name w) (op:=.openB) (cl:=.closeB) [(t1,a),(t2,b),(t3,c)] (.inr ⟨rfl,rfl,rfl⟩) (by simpa using⟨d1,d2,d3⟩) rfl rfl trivial));show Tok.name w::tk l1=_;rw[e0,e1,c1,e2,c2,e3,e9];simp[jG,bw,It.toks]
         ·rw[af q6]at h;have c3:=n9 (kz q6) fun x=>lR;have rl5:eR (r3.drop 1):=rl5.cons c3;obtain⟨g,r4,h5,h⟩:=aZ h;obtain⟨t4,e4,d4⟩:=sub h5 rl5;obtain⟨u,r9,h9,h⟩:=aZ h;cases h;have e9:=dE h9 fun x=>jW;refine ft h2 (ts:=_) ?_ (.up 0 _ _ (by decide) (jZ (x:=.name w) (op:=.openB) (cl:=.closeB) [(t1,a),(t2,b),(t3,c),(t4,g)] (.inr ⟨rfl,rfl,rfl⟩) (by simpa using⟨d1,d2,d3,d4⟩) rfl rfl trivial));show Tok.name w::tk l1=_;rw[e0,e1,c1,e2,c2,e3,c3,e4,e9];simp[jG,bw,It.toks]
   ·
    rename_i p o l1;have rx:cQ (.fn1 o):=rl _ aA;have rl1:eR l1:=rl.cons rfl;split at h
    ·cases h
    ·obtain⟨u,r1,h1,h⟩:=aZ h;obtain⟨a,r2,h3,h⟩:=aZ h;obtain⟨u2,r9,h9,h⟩:=aZ h;cases h;have e0:=mV h1;obtain⟨t1,e1,d1⟩:=sub h3 (rl1.cons e0);have e9:=dE h9 fun x=>oY;refine ft h2 (ts:=_) ?_ (.up 0 _ _ (by decide) (jZ (x:=.fn1 o) (op:=.openP) (cl:=.closeP) [(t1,a)] (.inl ⟨rfl,rfl,rfl⟩) (by simpa using d1) ?_ ?_ rx))
     ·show Tok.fn1 o::tk l1=_;rw[e0,e1,e9];simp[jG,bw,It.toks]
     ·cases o<;>first|rfl|exact False.elim rx
     ·show(if o=.neg\/o=.not then _ else _)=_;rw[af (Oz rx)];simp[cT,Ax.between]
   ·
    rename_i p o l1;have rx:cQ (.fn2 o):=rl _ aA;have rl1:eR l1:=rl.cons rfl;split at h
    ·cases h
    ·obtain⟨u,r1,h1,h⟩:=aZ h;obtain⟨a,r2,h3,h⟩:=aZ h;obtain⟨u3,r3,h4,h⟩:=aZ h;obtain⟨b,r4,h5,h⟩:=aZ h;obtain⟨u2,r9,h9,h⟩:=aZ h;cases h;have e0:=mV h1;obtain⟨t1,e1,d1⟩:=sub h3 (rl1.cons e0);have c1:=dE h4 fun x=>lR;obtain⟨t2,e2,d2⟩:=sub h5 ((eR.of (rl1.cons e0) e1).cons c1);have e9:=dE h9 fun x=>oY;refine ft h2 (ts:=_) ?_ (.up 0 _ _ (by decide) (jZ (x:=.fn2 o) (op:=.openP) (cl:=.closeP) [(t1,a),(t2,b)] (.inl ⟨rfl,rfl,rfl⟩) (by simpa using⟨d1,d2⟩) (Gk rx) ?_ rx))
     ·show Tok.fn2 o::tk l1=_;rw[e0,e1,c1,e2,e9];simp[jG,bw,It.toks]
     ·show(if Ax.level o=0 then _ else _)=_;rw[ai (Gk rx)];simp[cT,Ax.between]
   ·
    rename_i p l1;have rl1:eR l1:=rl.cons rfl;split at h
    ·cases h
    ·obtain⟨u,r1,h1,h⟩:=aZ h;obtain⟨a,r2,h3,h⟩:=aZ h;obtain⟨u3,r3,h4,h⟩:=aZ h;obtain⟨b,r4,h5,h⟩:=aZ h;obtain⟨u5,r5,h6,h⟩:=aZ h;obtain⟨c,r6,h7,h⟩:=aZ h;obtain⟨u2,r9,h9,h⟩:=aZ h;cases h;have e0:=mV h1;obtain⟨t1,e1,d1⟩:=sub h3 (rl1.cons e0);have c1:=dE h4 fun x=>lR;have rl3:=(eR.of (rl1.cons e0) e1).cons c1;obtain⟨t2,e2,d2⟩:=sub h5 rl3;have c2:=dE h6 fun x=>lR;obtain⟨t3,e3,d3⟩:=sub h7 ((rl3.of e2).cons c2);have e9:=dE h9 fun x=>oY;refine ft h2 (ts:=_) ?_ (.up 0 _ _ (by decide) (jZ (x:=.if_) (op:=.openP) (cl:=.closeP) [(t1,a),(t2,b),(t3,c)] (.inl ⟨rfl,rfl,rfl⟩) (by simpa using⟨d1,d2,d3⟩) rfl ?_ trivial))
     ·show Tok.if_::tk l1=_;rw[e0,e1,c1,e2,c2,e3,e9];simp[jG,bw,It.toks]
     ·show Ax.ascii "if("++_=_;rw[show Ax.ascii "if("=Ax.ascii "if"++Ax.ascii "(" from rfl];simp[cT,Ax.between]
   ·
    rename_i p g l1;have rl1:eR l1:=rl.cons rfl;split at h
    ·cases h
    ·obtain⟨u,r1,h1,h⟩:=aZ h;obtain⟨rs,r2,h3,h⟩:=aZ h;obtain⟨u3,r3,h4,h⟩:=aZ h;obtain⟨a,r4,h5,h⟩:=aZ h;obtain⟨u2,r9,h9,h⟩:=aZ h;cases h;have e0:=mV h1;obtain⟨er,hne⟩:=wC h3;have c1:=dE h4 fun x=>zV;obtain⟨t1,e1,d1⟩:=sub h5 ((eR.of (rl1.cons e0) er).cons c1);have e9:=dE h9 fun x=>oY;refine ft h2 (ts:=_) ?_ (.up 0 _ _ (by decide) (.call (.red g) .openP .closeP (b7 true rs++[.tok .colon,.val t1 a]) _ (.inl ⟨rfl,rfl,rfl⟩) ?_ ?_ rfl ?_ trivial))
     ·show Tok.red g::tk l1=_;rw[e0,er,c1,e1,e9,ve];simp[bw,It.toks]
     ·intro ts e q
      rcases bU.mp q with q|q
      ·exact absurd q yL
      ·rcases aT.mp q with q|q
       ·cases q
       ·cases bI.mp q;exact d1
     ·exact wQ true rs _ _ fun p=>⟨rfl,rfl,rfl,trivial⟩
     ·rw[qH,uw];show Ax.redText g++_=_;simp[fI,It.out,cT]
   ·
    obtain⟨u,r1,h1,h⟩:=aZ h;obtain⟨a,r2,h3,h⟩:=aZ h;obtain⟨u2,r9,h9,h⟩:=aZ h;cases h;have e0:=mV h1;obtain⟨t1,e1,d1⟩:=sub h3 (rl.cons e0);have e9:=dE h9 fun x=>oY;refine ft h2 (ts:=_) ?_ (.up 0 _ _ (by decide) (.group t1 _ d1));rw[e0,e1,e9];simp
   ·cases h
end aJ
namespace aJ
open Ax (Expr Bound Range Line What Bytes Bin Un Red Tok Placed Got andThen)
def code(k:Nat):Int:=if k<=1 then 6 else 7 - (k:Int)
theorem Dj{j k:Nat}(h:j<=k):code k<=code j:=by unfold code;split<;>split<;>omega
theorem oo(k:Nat):code k<=6:=by unfold code;split<;>omega
theorem Hx{j k:Nat}(hk:1<=k):code k<=code j↔j<=k:=by unfold code;split<;>split<;>omega
theorem z5{k:Nat}(h:k<=8): -1<=code k:=by unfold code;split<;>omega
theorem level_le(o:Bin):Ax.level o<=8:=by cases o<;>decide
theorem zU(e:Expr):Ax.loose e<=8:=by
 cases e with
 |un o a=>cases o<;>first|exact(by decide:1<=8)|exact cE _
 |bin o a b=>exact level_le o
 |_=>exact cE _
def lh:Tok->Bool
 | .num _=>true
 | .name _=>true
 | .closeP=>true
 | .closeB=>true
 |_=>false
def jl(prev x:Tok):Option Int:=match ag.dw x with
 |none=>none
 |some o=>if Ax.level o=8 then some (-1)else if lh prev=true then some (7 - (Ax.level o:Int))else none
def a7(xs:List Tok)(i:Nat):Tok:=xs.getD i .bad
def kF(xs:List Tok)(i:Nat):Option Int:=jl (a7 xs (i - 1)) (a7 xs i)
def Bi:Tok->Bool
 | .minus=>true
 | .tilde=>true
 |_=>false
def jB(xs:List Tok)(i:Nat):Int:=match kF xs i with
 |some l=>l+1
 |none=>if Bi (a7 xs i)=true then 6 else -1
def jN(xs:List Tok)(i:Nat):Int:=match kF xs i with
 |some l=>max l 0
 |none=> -1
structure Sc where
 nd:Nat->Bool
 st:List (Nat×Int)
def Lm:Tok->Bool
 | .openP=>true
 |_=>false
def Bm(xs:List Tok)(i:Nat):Bool:=Lm (a7 xs i)&&!tW (a7 xs (i - 1))
def jE(xs:List Tok)(c:Nat×Int)(i:Nat):Bool:=Bm xs c.1&&decide (max (jB xs (c.1 - 1)) (jN xs (i+1))<=c.2)
def g5(L:Int):Option Int->Int
 |none=>L
 |some l=>min L l
def put2(nd:Nat->Bool)(i j:Nat):Nat->Bool:=fun k=>if k=i\/k=j then true else nd k
def dN(xs:List Tok)(s:Sc)(i:Nat):Option Sc:=
 if isOpen (a7 xs i)=true then some ⟨s.nd,(i,6)::s.st⟩
 else if fz (a7 xs i)=true then match s.st with
  |c::t::r=>some (if jE xs c i=true then⟨put2 s.nd c.1 i,(t.1,g5 t.2 (some c.2))::r⟩else⟨s.nd,t::r⟩)
  |_=>none
 else match s.st with
  |t::r=>some ⟨s.nd,(t.1,g5 t.2 (kF xs i))::r⟩
  |[]=>none
def scan(xs:List Tok):Nat->Nat->Sc->Option Sc
 |0,_,s=>some s
 |n+1,i,s=>(dN xs s i).bind fun s=>scan xs n (i+1) s
theorem gw{xs:List Tok}{n i:Nat}{s s':Sc}(h:dN xs s i=some s'):scan xs (n+1) i s=scan xs n (i+1) s':=by
 show(dN xs s i).bind _=_;rw[h];rfl
theorem lF{xs:List Tok}{s':Sc}:∀{a b i:Nat}{s:Sc},scan xs a i s=some s'->scan xs (a+b) i s=scan xs b (i+a) s'
 |0,b,i,s,h=>by cases h;rw[mv];rfl
 |a+1,b,i,s,h=>by
  rw[show a+1+b=a+b+1 by omega];cases e:dN xs s i with
  |none=>
   have h':(dN xs s i).bind (fun s=>scan xs a (i+1) s)=some s':=h;rw[e]at h';cases h'
  |some s1=>
   rw[gw e]at h⊢;rw[lF h,show i+1+a=i+(a+1) by omega]
def out(nd:Nat->Bool)(xs:List Tok):Nat->Nat->Bytes
 |0,_=>[]
 |n+1,i=>(if nd i=true then[]else cT (a7 xs i))++out nd xs n (i+1)
theorem kq(nd:Nat->Bool)(xs:List Tok):∀(a b i:Nat),out nd xs (a+b) i=out nd xs a i++out nd xs b (i+a)
 |0,b,i=>by rw[mv];rfl
 |a+1,b,i=>by
  rw[show a+1+b=a+b+1 by omega];show(if nd i=true then[]else cT (a7 xs i))++out nd xs (a+b) (i+1)=((if nd i=true then[]else cT (a7 xs i))++out nd xs a (i+1))++out nd xs b (i+(a+1));rw[kq nd xs a b (i+1),show i+1+a=i+(a+1) by omega,aw]
theorem tj{nd nd':Nat->Bool}{xs:List Tok}:∀{n i:Nat},(∀j,i<=j->j<i+n->nd j=nd' j)->out nd xs n i=out nd' xs n i
 |0,_,_=>rfl
 |n+1,i,h=>by
  show(if nd i=true then[]else cT (a7 xs i))++out nd xs n (i+1)=(if nd' i=true then[]else cT (a7 xs i))++out nd' xs n (i+1);rw[h i (aD _) (by omega),tj fun j h1 h2=>h j (by omega) (by omega)]
def gM(xs:List Tok)(i:Nat)(ts:List Tok):Prop:=∀j t,ts[j]? =some t->xs[i+j]? =some t
theorem gM.left{xs a b:List Tok}{i:Nat}(h:gM xs i (a++b)):gM xs i a:=fun j t q=>h j t (by rw[jw (az.mp q).1];exact q)
theorem gM.right{xs a b:List Tok}{i:Nat}(h:gM xs i (a++b)):gM xs (i+a.length) b:=fun j t q=>by
 have:=h (a.length+j) t (by rw[dj (by omega),show a.length+j - a.length=j by omega];exact q);rw[show i+a.length+j=i+(a.length+j) by omega];exact this
theorem gM.head{xs b:List Tok}{x:Tok}{i:Nat}(h:gM xs i (x::b)):a7 xs i=x:=by
 have:=h 0 x rfl;rw[Nat.add_zero]at this;unfold a7;rw[bP,this];rfl
theorem gM.tail{xs b:List Tok}{x:Tok}{i:Nat}(h:gM xs i (x::b)):gM xs (i+1) b:=gM.right (a:=[x]) h
theorem fG.ne{k:Nat}{ts:List Tok}{e:Expr}(h:fG k ts e):ts≠[]:=by
 induction h with
 |bin o x k ts us a b h1 h2 h3 h4 h5 h6 ih1 ih2=>simp
 |up k ts e _ _ ih=>exact ih
 |_=>simp
theorem fG.last{k:Nat}{ts:List Tok}{e:Expr}(h:fG k ts e):∃us x,ts=us++[x]/\lh x=true:=by
 induction h with
 |num n=>exact⟨[],_,rfl,rfl⟩
 |name p w=>exact⟨[],_,rfl,rfl⟩
 |call x op cl its e hs _ _ _ _ _ _=>exact⟨x::op::bw its,cl,rfl,by rcases hs with⟨_,rfl,_⟩|⟨_,rfl,_⟩<;>rfl⟩
 |group ts e _ _=>exact⟨.openP::ts,_,rfl,rfl⟩
 |neg ts e _ ih=>obtain⟨us,x,rfl,h⟩:=ih;exact⟨.minus::us,x,rfl,h⟩
 |not ts e _ ih=>obtain⟨us,x,rfl,h⟩:=ih;exact⟨.tilde::us,x,rfl,h⟩
 |up k ts e _ _ ih=>exact ih
 |bin o x k ts us a b h1 h2 h3 h4 h5 h6 ih1 ih2=>obtain⟨vs,y,rfl,h⟩:=ih2;exact⟨ts++x::vs,y,by simp,h⟩
theorem fG.end_{k:Nat}{ts:List Tok}{e:Expr}(h:fG k ts e){xs:List Tok}{i:Nat}(s:gM xs i ts):lh (a7 xs (i+ts.length - 1))=true:=by
 obtain⟨us,x,rfl,hx⟩:=h.last;have:=s.right.head;rw[show i+(us++[x]).length - 1=i+us.length by rw[aq,aX];omega,this];exact hx
theorem QC{x:Tok}{o:Bin}(h:ag.dw x=some o):lh x=false/\tW x=false/\isOpen x=false/\fz x=false:=by
 cases x<;>first|exact⟨rfl,rfl,rfl,rfl⟩|cases h
theorem Ts{x:Tok}{o:Bin}(h:ag.dw x=some o):cT x=Ax.signText o:=by
 cases x<;>first|(cases h;rfl)|cases h
theorem pY{xs:List Tok}{i:Nat}(h:ag.dw (a7 xs i)=none):kF xs i=none:=by unfold kF jl;rw[h]
theorem B8{xs:List Tok}{i:Nat}(h:ag.dw (a7 xs i)=none):jN xs i= -1:=by unfold jN;rw[pY h]
theorem B9{xs:List Tok}{i:Nat}(h:ag.dw (a7 xs i)=none)(h2:Bi (a7 xs i)=false):jB xs i= -1:=by unfold jB;rw[pY h,h2];rfl
theorem TB{xs:List Tok}{i:Nat}{o:Bin}(h:ag.dw (a7 xs i)=some o)(he:lh (a7 xs (i - 1))=true):kF xs i=some (7 - (Ax.level o:Int)):=by
 unfold kF jl;rw[h];dsimp only;rw[he,ai rfl];split
 ·rename_i q;rw[q];rfl
 ·rfl
theorem OY{xs:List Tok}{i:Nat}(h:a7 xs i=.minus)(he:lh (a7 xs (i - 1))=false):kF xs i=none:=by
 unfold kF jl;rw[h,he];rfl
theorem Qj{xs:List Tok}{i:Nat}{nd:Nat->Bool}{t:Nat×Int}{r:List (Nat×Int)}(h1:isOpen (a7 xs i)=false)(h2:fz (a7 xs i)=false)(h3:kF xs i=none):dN xs ⟨nd,t::r⟩ i=some ⟨nd,t::r⟩:=by
 unfold dN;rw[h1,h2,h3];rfl
theorem Cf{xs:List Tok}{i:Nat}{nd:Nat->Bool}{st:List (Nat×Int)}(h1:isOpen (a7 xs i)=true):dN xs ⟨nd,st⟩ i=some ⟨nd,(i,6)::st⟩:=by
 unfold dN;rw[ai h1]
theorem Ce{xs:List Tok}{i:Nat}{nd:Nat->Bool}{c t:Nat×Int}{r:List (Nat×Int)}(h1:isOpen (a7 xs i)=false)(h2:fz (a7 xs i)=true):
  dN xs ⟨nd,c::t::r⟩ i=some (if jE xs c i=true then⟨put2 nd c.1 i,(t.1,g5 t.2 (some c.2))::r⟩else⟨nd,t::r⟩):=by
 unfold dN;rw[h1,h2];rfl
def pl(W:Int)(e:Expr):Bytes:=if W<=code (Ax.loose e)then Ax.printed e else Ax.ascii "("++(Ax.printed e++Ax.ascii ")")
def cl(W:Int)(e:Expr):Int:=if W<=code (Ax.loose e)then code (Ax.loose e)else 6
theorem rh(k:Nat)(h:1<=k)(e:Expr):pl (code k) e=Ax.placed k e (Ax.printed e):=by
 unfold pl Ax.placed;by_cases q:Ax.loose e<=k
 ·rw[ai q,ai ((Hx h).mpr q)]
 ·rw[af q,af fun r=>q ((Hx h).mp r)]
theorem FO(W:Int)(e:Expr)(h:W<=6):W<=cl W e:=by
 unfold cl;split
 ·assumption
 ·exact h
theorem HB(W:Int)(e:Expr):cl W e<=6:=by
 unfold cl;split
 ·exact oo _
 ·exact gO _
def Seg(lev:Nat)(ts:List Tok)(e:Expr):Prop:=∀(xs:List Tok)(i:Nat)(nd:Nat->Bool)(n0:Nat)(L0:Int)(r:List (Nat×Int)),gM xs i ts->1<=i->lh (a7 xs (i - 1))=false->tW (a7 xs (i - 1))=false->
 jB xs (i - 1)<=code lev->jN xs (i+ts.length)<=code lev->(∀j,i<=j->j<i+ts.length->nd j=false)->L0<=6->
 ∃nd',scan xs ts.length i ⟨nd,(n0,L0)::r⟩=some ⟨nd',(n0,min L0 (cl (max (jB xs (i - 1)) (jN xs (i+ts.length))) e))::r⟩/\(∀j,¬(i<=j/\j<i+ts.length)->nd' j=nd j)/\out nd' xs ts.length i=pl (max (jB xs (i - 1)) (jN xs (i+ts.length))) e
theorem IB{x:Tok}(h:plainT x=true):isOpen x=false/\fz x=false:=by cases x<;>first|exact⟨rfl,rfl⟩|cases h
theorem HZ{x:Tok}(h:startT x=true):ag.dw x=none/\Bi x=false/\lh x=false/\tW x=false:=by cases x<;>first|exact⟨rfl,rfl,rfl,rfl⟩|cases h
theorem Ms{x:Tok}(h:RJ x=true):ag.dw x=none:=by cases x<;>first|rfl|cases h
theorem F3{xs:List Tok}{i:Nat}{nd:Nat->Bool}{n:Nat}{L:Int}{r:List (Nat×Int)}(h1:isOpen (a7 xs i)=false)(h2:fz (a7 xs i)=false)(hL:L<=6):∃L',L'<=6/\dN xs ⟨nd,(n,L)::r⟩ i=some ⟨nd,(n,L')::r⟩:=by
 refine⟨g5 L (kF xs i),?_,?_⟩
 ·cases kF xs i with
  |none=>exact hL
  |some l=>show min L l<=6;omega
 ·unfold dN;rw[h1,h2];rfl
theorem rC:∀(its:List It)(p:Tok)(xs:List Tok)(i:Nat)(nd:Nat->Bool)(n1:Nat)(L:Int)(r:List (Nat×Int)),(∀ts e,It.val ts e∈its->Seg 8 ts e/\ts≠[])->jH p its->(p=.bad\/a7 xs (i - 1)=p)->1<=i->gM xs i (bw its)->
  ag.dw (a7 xs (i+(bw its).length))=none->(∀j,i<=j->j<i+(bw its).length->nd j=false)->L<=6->
  ∃nd' L',L'<=6/\scan xs (bw its).length i ⟨nd,(n1,L)::r⟩=some ⟨nd',(n1,L')::r⟩/\(∀j,¬(i<=j/\j<i+(bw its).length)->nd' j=nd j)/\out nd' xs (bw its).length i=fI its
 |[],p,xs,i,nd,n1,L,r,hd,ok,hp,hi,sg,hs,hf,hL=>⟨nd,L,hL,rfl,fun _ _=>rfl,rfl⟩
 | .tok x::its,p,xs,i,nd,n1,L,r,hd,ok,hp,hi,sg,hs,hf,hL=>by
  have e0:bw (.tok x::its)=x::bw its:=rfl;rw[e0]at sg hs hf⊢;rw[ay]at hs hf⊢;have hx:=sg.head;have pf:=IB ok.1;rw[<-hx]at pf;obtain⟨L1,hL1,e1⟩:=F3 (nd:=nd) (n:=n1) (r:=r) pf.1 pf.2 hL;obtain⟨nd',L',a1,a2,a3,a4⟩:=rC its x xs (i+1) nd n1 L1 r (fun ts e q=>hd ts e (ah _ q)) ok.2 (.inr (by rw[bx];exact hx)) (by omega) sg.tail (by rw[show i+1+(bw its).length=i+((bw its).length+1) by omega];exact hs) (fun j h1 h2=>hf j (by omega) (by omega)) hL1;refine⟨nd',L',a1,?_,fun j hj=>a3 j (by omega),?_⟩
  ·rw[gw e1];exact a2
  ·show(if nd' i=true then[]else cT (a7 xs i))++out nd' xs (bw its).length (i+1)=cT x++fI its;rw[a4,hx,a3 i (by omega),hf i (by omega) (by omega)];rfl
 | .val ts e::its,p,xs,i,nd,n1,L,r,hd,ok,hp,hi,sg,hs,hf,hL=>by
  have e0:bw (.val ts e::its)=ts++bw its:=rfl;rw[e0]at sg hs hf⊢;rw[aq]at hs hf⊢;obtain⟨k1,k2,k3⟩:=ok;have hp:a7 xs (i - 1)=p:=by
   rcases hp with rfl|hp
   ·cases k1
   ·exact hp
  obtain⟨f1,f2,f3,f4⟩:=HZ k1;rw[<-hp]at f1 f2 f3 f4;have wb:=B9 f1 f2;have wf:jN xs (i+ts.length)= -1:=by
   refine B8 ?_;cases its with
   |nil=>exact hs
   |cons y its=>cases y with
    |tok y=>
     rw[(sg.right:gM xs _ (y::bw its)).head];exact Ms k2
    |val=>cases k2
  obtain⟨nd1,b1,b2,b3⟩:=(hd ts e aA).1 xs i nd n1 L r sg.left hi f3 f4 (by rw[wb];decide) (by rw[wf];decide) (fun j h1 h2=>hf j h1 (by omega)) hL;rw[wb,wf]at b1 b3;have hlo:=z5 (zU e);have hc:cl (max (-1) (-1)) e=code (Ax.loose e):=by unfold cl;rw[ai (by simpa using hlo)]
  have hp2:pl (max (-1) (-1)) e=Ax.printed e:=by unfold pl;rw[ai (by simpa using hlo)]
  rw[hc]at b1;rw[hp2]at b3;obtain⟨nd',L',a1,a2,a3,a4⟩:=rC its .bad xs (i+ts.length) nd1 n1 (min L (code (Ax.loose e))) r (fun ts e q=>hd ts e (ah _ q)) k3 (.inl rfl) (by omega) sg.right (by rw[show i+ts.length+(bw its).length=i+(ts.length+(bw its).length) by omega];exact hs) (fun j h1 h2=>by rw[b2 j (by omega)];exact hf j (by omega) (by omega)) (by omega);refine⟨nd',L',a1,?_,fun j hj=>by rw[a3 j (by omega),b2 j (by omega)],?_⟩
  ·rw[lF b1];exact a2
  ·rw[kq,a4];show _=Ax.printed e++fI its;rw[<-b3];congr 1;exact tj fun j h1 h2=>a3 j (by omega)
end aJ
namespace aJ
open Ax (Expr Bound Range Line What Bytes Bin Un Red Tok Placed Got andThen)
theorem C4{L:Int}(h:L<=6):min L 6=L:=by omega
theorem l7{W:Int}{e:Expr}(h:W<=code (Ax.loose e)):pl W e=Ax.printed e:=ai h
theorem oq{W:Int}{e:Expr}(h:W<=code (Ax.loose e)):cl W e=code (Ax.loose e):=ai h
theorem qD{xs:List Tok}{i n:Nat}{nd:Nat->Bool}{t:Nat×Int}{r:List (Nat×Int)}(h1:isOpen (a7 xs i)=false)(h2:fz (a7 xs i)=false)(h3:kF xs i=none):scan xs (n+1) i ⟨nd,t::r⟩=scan xs n (i+1) ⟨nd,t::r⟩:=by
 exact gw (Qj h1 h2 h3)
theorem ia{nd:Nat->Bool}{xs:List Tok}{i n:Nat}(h:nd i=false):out nd xs (n+1) i=cT (a7 xs i)++out nd xs n (i+1):=by
 show(if nd i=true then[]else cT (a7 xs i))++out nd xs n (i+1)=_;rw[h];rfl
theorem Gd{lev:Nat}{x:Tok}{e:Expr}(h1:isOpen x=false)(h2:fz x=false)(h3:ag.dw x=none)(h4:Ax.loose e=0)(h5:cT x=Ax.printed e):Seg lev [x] e:=by
 intro xs i nd n0 L0 r sg hi he hw hb hf hnd hL;have hx:=sg.head;have w1:=oo lev;have hW:max (jB xs (i - 1)) (jN xs (i+[x].length))<=code (Ax.loose e):=by rw[h4];show _<=(6:Int);omega
 refine⟨nd,?_,fun _ _=>rfl,?_⟩
 ·show scan xs 1 i _=_;rw[qD (by rw[hx];exact h1) (by rw[hx];exact h2) (pY (by rw[hx];exact h3)),oq hW,h4];show some (Sc.mk nd ((n0,L0)::r))=some ⟨nd,(n0,min L0 6)::r⟩;rw[C4 hL]
 ·rw[l7 hW];show out nd xs 1 i=_;rw[ia (hnd i (by omega) (by simp)),hx,h5];exact aK _
theorem Q4{lev:Nat}{ts:List Tok}{e:Expr}(h:fG lev ts e):Seg lev ts e:=by
 induction h with
 |num n=>exact Gd rfl rfl rfl rfl rfl
 |name p w=>exact Gd rfl rfl rfl rfl rfl
 |up k ts e hk _ ih=>
  intro xs i nd n0 L0 r sg hi he hw hb hf hnd hL;have:=Dj (bc k);exact ih xs i nd n0 L0 r sg hi he hw (Int.le_trans hb this) (Int.le_trans hf this) hnd hL
 |call x op cl_ its e hs hd ok hl hp hr ih=>
  intro xs i nd n0 L0 r sg hi he hw hb hf hnd hL;have w1:=oo 0;have hlen:(x::op::(bw its++[cl_])).length=(bw its).length+1+1+1:=by simp
  rw[hlen]at hf hnd⊢;have hW:max (jB xs (i - 1)) (jN xs (i+((bw its).length+1+1+1)))<=code (Ax.loose e):=by rw[hl];show _<=(6:Int);omega
  have hx:=sg.head;have ho:=sg.tail.head;have hc:=(sg.tail.tail.right).head;have hxo:isOpen x=false/\fz x=false/\ag.dw x=none:=by
   rcases hs with⟨_,_,h⟩|⟨_,_,h⟩<;>cases x<;>first|exact⟨rfl,rfl,rfl⟩|cases h
  have hoo:isOpen op=true/\startT op=true:=by rcases hs with⟨rfl,_⟩|⟨rfl,_⟩<;>exact⟨rfl,rfl⟩
  have hcc:isOpen cl_=false/\fz cl_=true/\ag.dw cl_=none:=by rcases hs with⟨_,rfl,_⟩|⟨_,rfl,_⟩<;>exact⟨rfl,rfl,rfl⟩
  obtain⟨nd',L',a1,a2,a3,a4⟩:=rC its op xs (i+1+1) nd (i+1) 6 ((n0,L0)::r) (fun ts e q=>⟨ih ts e q,(hd ts e q).ne⟩) ok (.inr (by rw[show i+1+1 - 1=i+1 by omega];exact ho)) (by omega) sg.tail.tail.left (by rw[hc];exact hcc.2.2) (fun j h1 h2=>hnd j (by omega) (by omega)) (gO _);have hg:jE xs (i+1,L') (i+1+1+(bw its).length)=false:=by
   unfold jE Bm;dsimp only;rw[ho,bx,hx]
   rcases hs with⟨_,_,h⟩|⟨rfl,_,_⟩
   ·rw[h];simp
   ·rfl
  refine⟨nd',?_,fun j hj=>a3 j (by omega),?_⟩
  ·rw[show(bw its).length+1+1+1=(bw its).length+1+1+1 from rfl];rw[qD (by rw[hx];exact hxo.1) (by rw[hx];exact hxo.2.1) (pY (by rw[hx];exact hxo.2.2))];rw[gw (Cf (by rw[ho];exact hoo.1)),lF a2,gw (Ce (by rw[hc];exact hcc.1) (by rw[hc];exact hcc.2.1)),hg,oq hW,hl];show some (Sc.mk nd' ((n0,L0)::r))=some ⟨nd',(n0,min L0 6)::r⟩;rw[C4 hL]
  ·have f1:∀j,i<=j->j<i+((bw its).length+1+1+1)->¬(i+1+1<=j/\j<i+1+1+(bw its).length)->nd' j=false:=fun j h1 h2 h3=>by rw[a3 j h3];exact hnd j h1 h2
   rw[l7 hW,hp,ia (f1 i (by omega) (by omega) (by omega)),ia (f1 (i+1) (by omega) (by omega) (by omega)),kq,a4,hx,ho];rw[show out nd' xs 1 (i+1+1+(bw its).length)=cT cl_++[]from by rw[ia (f1 _ (by omega) (by omega) (by omega)),hc];rfl,aK]
 |group ts e hd ih=>
  intro xs i nd n0 L0 r sg hi he hw hb hf hnd hL;have hlen:(Tok.openP::(ts++[Tok.closeP])).length=ts.length+1+1:=by simp
  rw[hlen]at hf hnd⊢;have ho:=sg.head;have hc:=sg.tail.right.head;have wb:jB xs (i+1 - 1)= -1:=by rw[bx];exact B9 (by rw[ho];rfl) (by rw[ho];rfl)
  have wf:jN xs (i+1+ts.length)= -1:=B8 (by rw[hc];rfl);obtain⟨nd1,b1,b2,b3⟩:=ih xs (i+1) nd i 6 ((n0,L0)::r) sg.tail.left (by omega) (by rw[bx,ho];rfl) (by rw[bx,ho];rfl) (by rw[wb];decide) (by rw[wf];decide) (fun j h1 h2=>hnd j (by omega) (by omega)) (gO _);rw[wb,wf]at b1 b3;have hlo:=z5 (zU e);have hsx:=oo (Ax.loose e);rw[oq (by simpa using hlo),show min 6 (code (Ax.loose e))=code (Ax.loose e) by omega]at b1;rw[l7 (by simpa using hlo)]at b3;have hg:Bm xs i=true:=by unfold Bm;rw[ho,hw];rfl
  have e1:scan xs (ts.length+1+1) i ⟨nd,(n0,L0)::r⟩=dN xs ⟨nd1,(i,code (Ax.loose e))::(n0,L0)::r⟩ (i+1+ts.length):=by
   rw[gw (Cf (by rw[ho];rfl)),lF b1];show(dN xs _ _).bind (fun s=>some s)=_;cases dN xs ⟨nd1,(i,code (Ax.loose e))::(n0,L0)::r⟩ (i+1+ts.length)<;>rfl
  rw[Ce (by rw[hc];rfl) (by rw[hc];rfl)]at e1;have hn:jE xs (i,code (Ax.loose e)) (i+1+ts.length)=decide (max (jB xs (i - 1)) (jN xs (i+(ts.length+1+1)))<=code (Ax.loose e)):=by
   unfold jE;dsimp only;rw[hg,Bool.true_and,show i+1+ts.length+1=i+(ts.length+1+1) by omega]
  rw[hn]at e1;have f1:nd1 i=false:=by rw[b2 i (by omega)];exact hnd i (by omega) (by omega)
  have f2:nd1 (i+1+ts.length)=false:=by rw[b2 _ (by omega)];exact hnd _ (by omega) (by omega)
  by_cases q:max (jB xs (i - 1)) (jN xs (i+(ts.length+1+1)))<=code (Ax.loose e)
  ·rw[ai (ao q)]at e1;refine⟨put2 nd1 i (i+1+ts.length),?_,?_,?_⟩
   ·rw[e1,oq q];rfl
   ·intro j hj;show(if j=i\/j=i+1+ts.length then true else nd1 j)=_;rw[af (by omega)];exact b2 j (by omega)
   ·have g1:put2 nd1 i (i+1+ts.length) i=true:=ai (.inl rfl);have g2:put2 nd1 i (i+1+ts.length) (i+1+ts.length)=true:=ai (.inr rfl);rw[l7 q];show(if put2 nd1 i (i+1+ts.length) i=true then[]else cT (a7 xs i))++out (put2 nd1 i (i+1+ts.length)) xs (ts.length+1) (i+1)=_;rw[g1,ai rfl,List.nil_append,kq];show _++((if put2 nd1 i (i+1+ts.length) (i+1+ts.length)=true then[]else _)++[])=_;rw[g2,ai rfl,List.nil_append,aK,<-b3];exact tj fun j h1 h2=>af (by omega)
  ·rw[af (fun z=>q (ab z))]at e1;refine⟨nd1,?_,fun j hj=>b2 j (by omega),?_⟩
   ·rw[e1];unfold cl;rw[af q,C4 hL]
   ·unfold pl;rw[af q,ia f1,kq,b3,ho,show out nd1 xs 1 (i+1+ts.length)=Ax.ascii ")"++[]from by rw[ia f2,hc];rfl,aK];rfl
 |neg ts e hd ih=>
  intro xs i nd n0 L0 r sg hi he hw hb hf hnd hL;rw[ay]at hf hnd⊢;have ho:=sg.head;have hj:=OY ho he;have wb:jB xs (i+1 - 1)=6:=by rw[bx];unfold jB;rw[hj,ho];rfl
  rw[show i+(ts.length+1)=i+1+ts.length by omega]at hf hnd⊢;have h6:code 1=6:=rfl;obtain⟨nd1,b1,b2,b3⟩:=ih xs (i+1) nd n0 L0 r sg.tail (by omega) (by rw[bx,ho];rfl) (by rw[bx,ho];rfl) (by rw[wb];decide) hf (fun j h1 h2=>hnd j (by omega) h2) hL;rw[wb,show max 6 (jN xs (i+1+ts.length))=code 1 by rw[h6]at hf;omega]at b1 b3;have hW:max (jB xs (i - 1)) (jN xs (i+1+ts.length))<=code (Ax.loose (.un .neg e)):=by show _<=code 1;omega
  have hc:cl (code 1) e=6:=by have:=FO (code 1) e (gO _);have:=HB (code 1) e;rw[h6]at *;omega
  refine⟨nd1,?_,fun j hj=>b2 j (by omega),?_⟩
  ·rw[qD (by rw[ho];rfl) (by rw[ho];rfl) hj,b1,hc,oq hW];rfl
  ·rw[l7 hW,ia (by rw[b2 i (by omega)];exact hnd i (by omega) (by omega)),b3,ho,rh 1 (aD _)];rfl
 |not ts e hd ih=>
  intro xs i nd n0 L0 r sg hi he hw hb hf hnd hL;rw[ay]at hf hnd⊢;have ho:=sg.head;have hj:kF xs i=none:=pY (by rw[ho];rfl);have wb:jB xs (i+1 - 1)=6:=by rw[bx];unfold jB;rw[hj,ho];rfl
  rw[show i+(ts.length+1)=i+1+ts.length by omega]at hf hnd⊢;have h6:code 1=6:=rfl;obtain⟨nd1,b1,b2,b3⟩:=ih xs (i+1) nd n0 L0 r sg.tail (by omega) (by rw[bx,ho];rfl) (by rw[bx,ho];rfl) (by rw[wb];decide) hf (fun j h1 h2=>hnd j (by omega) h2) hL;rw[wb,show max 6 (jN xs (i+1+ts.length))=code 1 by rw[h6]at hf;omega]at b1 b3;have hW:max (jB xs (i - 1)) (jN xs (i+1+ts.length))<=code (Ax.loose (.un .not e)):=by show _<=code 1;omega
  have hc:cl (code 1) e=6:=by have:=FO (code 1) e (gO _);have:=HB (code 1) e;rw[h6]at *;omega
  refine⟨nd1,?_,fun j hj=>b2 j (by omega),?_⟩
  ·rw[qD (by rw[ho];rfl) (by rw[ho];rfl) hj,b1,hc,oq hW];rfl
  ·rw[l7 hW,ia (by rw[b2 i (by omega)];exact hnd i (by omega) (by omega)),b3,ho,rh 1 (aD _)];rfl
 |bin o x k ts us a b hl hk hx hr d1 d2 ih1 ih2=>
  intro xs i nd n0 L0 r sg hi he hw hb hf hnd hL;have hk8:k+1<=8:=by rw[<-hl];exact level_le o
  have hlen:(ts++x::us).length=ts.length+(us.length+1):=by simp
  rw[hlen]at hf hnd⊢;have hxp:=sg.right.head;have hend:=d1.end_ sg.left;obtain⟨x1,x2,x3,x4⟩:=QC hx;have hj:kF xs (i+ts.length)=some (code (k+1)):=by
   rw[TB (by rw[hxp];exact hx) hend,hl];unfold code;rw[af (by omega)]
  have hck:code (k+1)=6 - (k:Int):=by unfold code;rw[af (by omega)];omega
  have hck0:code k=7 - (k:Int):=by unfold code;split<;>omega
  have wf1:jN xs (i+ts.length)=code (if k=7 then 7 else k+1):=by
   unfold jN;rw[hj,hck];dsimp only;unfold code;by_cases q:k=7
   ·rw[ai q,af (by decide)];omega
   ·rw[af q,af (by omega)];omega
  have wb2:jB xs (i+ts.length)=code k:=by
   unfold jB;rw[hj,hck,hck0];dsimp only;omega
  have hka:code (k+1)<=code (if k=7 then 7 else k+1):=Dj (by split<;>omega);have hkk:code (k+1)<=code k:=Dj (by omega);obtain⟨nd1,b1,b2,b3⟩:=ih1 xs i nd n0 L0 r sg.left hi he hw (by omega) (by rw[wf1];exact gO _) (fun j h1 h2=>hnd j h1 (by omega)) hL;rw[wf1,show max (jB xs (i - 1)) (code (if k=7 then 7 else k+1))=code (if k=7 then 7 else k+1) by omega]at b1 b3;have e2:i+(ts.length+(us.length+1))=i+ts.length+1+us.length:=by omega
  rw[e2]at hf hnd⊢;have hc1:=FO (code (if k=7 then 7 else k+1)) a (oo _);have hc1':=HB (code (if k=7 then 7 else k+1)) a;obtain⟨nd2,c1,c2,c3⟩:=ih2 xs (i+ts.length+1) nd1 n0 (min (min L0 (cl (code (if k=7 then 7 else k+1)) a)) (code (k+1))) r sg.right.tail (by omega) (by rw[bx,hxp];exact x1) (by rw[bx,hxp];exact x2) (by rw[bx,wb2];exact gO _) (by omega) (fun j h1 h2=>by rw[b2 j (by omega)];exact hnd j (by omega) h2) (by omega);rw[bx,wb2,show max (code k) (jN xs (i+ts.length+1+us.length))=code k by omega]at c1 c3;have hc2:=FO (code k) b (oo _);have hlo:Ax.loose (.bin o a b)=k+1:=hl;have hW:max (jB xs (i - 1)) (jN xs (i+ts.length+1+us.length))<=code (Ax.loose (.bin o a b)):=by rw[hlo];omega
  refine⟨nd2,?_,fun j hj=>by rw[c2 j (by omega),b2 j (by omega)],?_⟩
  ·rw[lF b1];have:dN xs ⟨nd1,(n0,min L0 (cl (code (if k=7 then 7 else k+1)) a))::r⟩ (i+ts.length)=some ⟨nd1,(n0,min (min L0 (cl (code (if k=7 then 7 else k+1)) a)) (code (k+1)))::r⟩:=by
    unfold dN;rw[hxp,x3,x4,hj];rfl
   rw[gw this,c1,oq hW,hlo];congr 4;omega
  ·rw[l7 hW,kq,show out nd2 xs ts.length i=out nd1 xs ts.length i from tj fun j h1 h2=>c2 j (by omega),b3,ia (by rw[c2 _ (by omega),b2 _ (by omega)];exact hnd _ (by omega) (by omega)),c3,hxp,Ts hx,rh k hk];have hpr:Ax.printed (.bin o a b)=Ax.placed (if Ax.level o=8 then 7 else Ax.level o) a (Ax.printed a)++(Ax.signText o++Ax.placed (Ax.level o - 1) b (Ax.printed b)):=by
    show(if Ax.level o=0 then _ else _)=_;rw[af (by omega)]
   have hq:(if k=7 then 7 else k+1)=(if Ax.level o=8 then 7 else Ax.level o):=by
    by_cases q:k=7
    ·rw[ai q,ai (by omega)]
    ·rw[af q,af (by omega),hl]
   rw[hpr,rh _ (by split<;>omega),hq,hl];rfl
end aJ
namespace aJ
open Ax (Expr Bound Range Line What Bytes Bin Un Red Tok Placed Got andThen)
def EF(xs:List Tok)(i n:Nat)(b:Bytes):Prop:=∀(nd:Nat->Bool)(L0:Int),(∀j,i<=j->j<i+n->nd j=false)->L0<=6->∃nd' L',L'<=6/\scan xs n i ⟨nd,[(0,L0)]⟩=some ⟨nd',[(0,L')]⟩/\(∀j,¬(i<=j/\j<i+n)->nd' j=nd j)/\out nd' xs n i=b
theorem EF.app{xs:List Tok}{i n m:Nat}{b c:Bytes}(h1:EF xs i n b)(h2:EF xs (i+n) m c):EF xs i (n+m) (b++c):=by
 intro nd L0 hnd hL;obtain⟨nd1,L1,a1,a2,a3,a4⟩:=h1 nd L0 (fun j q1 q2=>hnd j q1 (by omega)) hL;obtain⟨nd2,L2,b1,b2,b3,b4⟩:=h2 nd1 L1 (fun j q1 q2=>by rw[a3 j (by omega)];exact hnd j (by omega) (by omega)) a1;refine⟨nd2,L2,b1,by rw[lF a2];exact b2,fun j hj=>by rw[b3 j (by omega),a3 j (by omega)],?_⟩;rw[kq,b4,<-a4];congr 1;exact tj fun j q1 q2=>b3 j (by omega)
theorem iO{xs:List Tok}{i:Nat}{x:Tok}(hx:a7 xs i=x)(h1:isOpen x=false)(h2:fz x=false):EF xs i 1 (cT x):=by
 intro nd L0 hnd hL;obtain⟨L1,hL1,e1⟩:=F3 (xs:=xs) (i:=i) (nd:=nd) (n:=0) (r:=[]) (by rw[hx];exact h1) (by rw[hx];exact h2) hL;refine⟨nd,L1,hL1,by rw[gw e1];rfl,fun _ _=>rfl,?_⟩;show out nd xs 1 i=_;rw[ia (hnd i (by omega) (by omega)),hx];exact aK _
theorem HF{xs:List Tok}{i:Nat}{named:Bool}{rs:List Range}(sg:gM xs i (.openB::(bw (b7 named rs)++[.closeB]))):EF xs i ((bw (b7 named rs)).length+1+1) (Ax.ascii "["++(fI (b7 named rs)++Ax.ascii "]")):=by
 intro nd L0 hnd hL;have ho:=sg.head;have hc:=sg.tail.right.head;have ok:jH .openB (b7 named rs):=by
  have:=wQ named rs .openB [] fun _=>trivial;rw[aK]at this;exact this
 obtain⟨nd',L',a1,a2,a3,a4⟩:=rC (b7 named rs) .openB xs (i+1) nd i 6 [(0,L0)] (fun ts e q=>absurd q yL) ok (.inr (by rw[bx];exact ho)) (by omega) sg.tail.left (by rw[hc];rfl) (fun j h1 h2=>hnd j (by omega) (by omega)) (gO _);have hg:jE xs (i,L') (i+1+(bw (b7 named rs)).length)=false:=by
  unfold jE Bm;dsimp only;rw[ho];rfl
 have f1:∀j,i<=j->j<i+((bw (b7 named rs)).length+1+1)->¬(i+1<=j/\j<i+1+(bw (b7 named rs)).length)->nd' j=false:=fun j h1 h2 h3=>by rw[a3 j h3];exact hnd j h1 h2
 refine⟨nd',L0,hL,?_,fun j hj=>a3 j (by omega),?_⟩
 ·rw[gw (Cf (by rw[ho];rfl)),lF a2,gw (Ce (by rw[hc];rfl) (by rw[hc];rfl)),hg];rfl
 ·rw[ia (f1 i (by omega) (by omega) (by omega)),kq,a4,ho,show out nd' xs 1 (i+1+(bw (b7 named rs)).length)=Ax.ascii "]"++[]from by rw[ia (f1 _ (by omega) (by omega) (by omega)),hc];rfl,aK];rfl
theorem Q9{xs:List Tok}{i:Nat}{ts:List Tok}{e:Expr}(d:fG 8 ts e)(sg:gM xs i ts)(hi:1<=i)(hp:a7 xs (i - 1)=.is)(hn:ag.dw (a7 xs (i+ts.length))=none):EF xs i ts.length (Ax.printed e):=by
 intro nd L0 hnd hL;have wb:jB xs (i - 1)= -1:=B9 (by rw[hp];rfl) (by rw[hp];rfl);have wf:jN xs (i+ts.length)= -1:=B8 hn;obtain⟨nd1,b1,b2,b3⟩:=Q4 d xs i nd 0 L0 [] sg hi (by rw[hp];rfl) (by rw[hp];rfl) (by rw[wb];decide) (by rw[wf];decide) hnd hL;rw[wb,wf]at b1 b3;have hlo:=z5 (zU e);rw[l7 (by simpa using hlo)]at b3;exact⟨nd1,_,by omega,b1,b2,b3⟩
theorem Kd{named:Bool}{l r:List Placed}{rs:List Range}(h:Ax.axesIn named l=.ok (rs,r)):tk l=.openB::(bw (b7 named rs)++ .closeB::tk r):=by
 unfold Ax.axesIn at h;obtain⟨u,r1,h1,h⟩:=aZ h;rw[dE h1 fun x=>G8];by_cases q:Ax.next Ax.isCloseB r1=true
 ·rw[ai q]at h;cases h;rw[n9 q fun x=>jW];rfl
 ·rw[af q]at h;obtain⟨xs,r2,h2,h⟩:=aZ h;obtain⟨u3,r3,h3,h⟩:=aZ h;cases h;rw[(wC h2).1,dE h3 fun x=>jW]
theorem KL(xs:List Tok):gM xs 0 xs:=fun j t q=>by rw[mv];exact q
theorem OW{xs:List Placed}{l:Line}(h:Ax.lineIn xs=.ok (l,[]))(rl:eR xs):∃b n,(tk xs).length=n+1/\a7 (tk xs) 0=.line l.what/\Ax.lineText l=tY l.what++(32::b)/\EF (tk xs) 1 n b/\a7 (tk xs) n=.semi:=by
 have sg:=KL (tk xs);unfold Ax.lineIn at h;split at h
 ·rename_i p r;obtain⟨x,r1,h1,h⟩:=aZ h;obtain⟨u,r2,h2,h⟩:=aZ h;cases h;have e1:tk ((p,Tok.line .size)::r)=[.line .size,.name x.2,.semi]:=by
   show Tok.line .size::tk r=_;rw[x5 h1];show _::_::tk r1=_;rw[dE h2 fun x=>C8];rfl
  rw[e1]at sg⊢;refine⟨x.2++Ax.ascii ";",2,rfl,rfl,rfl,?_,rfl⟩;exact(iO sg.tail.head rfl rfl).app (iO sg.tail.tail.head rfl rfl)
 ·rename_i p r;obtain⟨x,r1,h1,h⟩:=aZ h;obtain⟨rs,r2,h2,h⟩:=aZ h;obtain⟨u3,r3,h3,h⟩:=aZ h;obtain⟨k,r4,h4,h⟩:=aZ h;obtain⟨u5,r5,h5,h⟩:=aZ h;cases h;have e1:tk ((p,Tok.line .in_)::r)=.line .in_:: .name x.2::((.openB::(bw (b7 false rs)++[.closeB]))++[.colon,.kind k,.semi]):=by
   show Tok.line .in_::tk r=_;rw[x5 h1];show _::_::tk r1=_;rw[Kd h2,dE h3 fun x=>zV,JJ h4,dE h5 fun x=>C8];simp
  rw[e1]at sg⊢;have hl:(Tok.openB::(bw (b7 false rs)++[Tok.closeB])).length=(bw (b7 false rs)).length+1+1:=by simp
  have sr:=sg.tail.tail.right;rw[hl]at sr;refine⟨x.2++((Ax.ascii "["++(fI (b7 false rs)++Ax.ascii "]"))++(Ax.ascii ":"++(Ax.kindText k++Ax.ascii ";"))),1+(((bw (b7 false rs)).length+1+1)+(1+(1+1))),?_,rfl,?_,?_,by rw[show 1+(((bw (b7 false rs)).length+1+1)+(1+(1+1)))=0+1+1+((bw (b7 false rs)).length+1+1)+1+1 by omega];exact sr.tail.tail.head⟩
  ·simp;omega
  ·rw[AS];show Ax.ascii "in "++(x.2++(Ax.ascii "["++(_++(Ax.ascii "]:"++(Ax.kindText k++Ax.ascii ";")))))=_;rw[show Ax.ascii "in "=Ax.ascii "in"++[32]from by decide +kernel,show Ax.ascii "]:"=Ax.ascii "]"++Ax.ascii ":" from by decide +kernel];simp[tY]
  ·exact(iO sg.tail.head rfl rfl).app ((HF sg.tail.tail.left).app ((iO sr.head rfl rfl).app ((iO sr.tail.head rfl rfl).app (iO sr.tail.tail.head rfl rfl))))
 ·rename_i p w r hne1 hne2;obtain⟨x,r1,h1,h⟩:=aZ h;obtain⟨rs,r2,h2,h⟩:=aZ h;obtain⟨u3,r3,h3,h⟩:=aZ h;obtain⟨k,r4,h4,h⟩:=aZ h;obtain⟨u5,r5,h5,h⟩:=aZ h;obtain⟨e,r6,h6,h⟩:=aZ h;obtain⟨u7,r7,h7,h⟩:=aZ h;cases h;have e0:tk ((p,Tok.line w)::r)=(.line w:: .name x.2::((.openB::(bw (b7 true rs)++[.closeB]))++[.colon,.kind k,.is]))++tk r5:=by
   show Tok.line w::tk r=_;rw[x5 h1];show _::_::tk r1=_;rw[Kd h2,dE h3 fun x=>zV,JJ h4,dE h5 fun x=>TF];simp
  obtain⟨ts,e6,d6⟩:=iU _ _ (.level 8) _ _ _ h6 (rl.of e0) (aD 8);rw[e6,dE h7 fun x=>C8]at e0;have e1:tk ((p,Tok.line w)::r)=.line w:: .name x.2::((.openB::(bw (b7 true rs)++[.closeB]))++(.colon:: .kind k:: .is::(ts++[.semi]))):=by
   rw[e0];simp
  rw[e1]at sg⊢;have hl:(Tok.openB::(bw (b7 true rs)++[Tok.closeB])).length=(bw (b7 true rs)).length+1+1:=by simp
  have sr:=sg.tail.tail.right;rw[hl]at sr;have st:=sr.tail.tail.tail;refine⟨x.2++((Ax.ascii "["++(fI (b7 true rs)++Ax.ascii "]"))++(Ax.ascii ":"++(Ax.kindText k++(Ax.ascii "="++(Ax.printed e++Ax.ascii ";"))))),1+(((bw (b7 true rs)).length+1+1)+(1+(1+(1+(ts.length+1))))),?_,rfl,?_,?_,by rw[show 1+(((bw (b7 true rs)).length+1+1)+(1+(1+(1+(ts.length+1)))))=0+1+1+((bw (b7 true rs)).length+1+1)+1+1+1+ts.length by omega];exact st.right.head⟩
  ·simp;omega
  ·rw[uw];have e2:Ax.lineText ⟨w,x.1,x.2,rs,k,e⟩=Ax.ascii (if w=.let_ then "let " else "out ")++(x.2++(Ax.ascii "["++(Ax.between (Ax.ascii ",") (rs.map Ax.rangeText)++(Ax.ascii "]:"++(Ax.kindText k++(Ax.ascii "="++(Ax.printed e++Ax.ascii ";"))))))):=by
    cases w with
    |size=>exact(hne1 rfl).elim
    |in_=>exact(hne2 rfl).elim
    |let_=>rfl
    |out=>rfl
   rw[e2,show Ax.ascii (if w=.let_ then "let " else "out ")=tY w++[32]from by
    cases w with
    |size=>exact(hne1 rfl).elim
    |in_=>exact(hne2 rfl).elim
    |let_=>decide +kernel
    |out=>decide +kernel,show Ax.ascii "]:"=Ax.ascii "]"++Ax.ascii ":" from by decide +kernel]
   simp
  ·exact(iO sg.tail.head rfl rfl).app ((HF sg.tail.tail.left).app ((iO sr.head rfl rfl).app ((iO sr.tail.head rfl rfl).app ((iO sr.tail.tail.head rfl rfl).app ((Q9 d6 st.left (by omega) sr.tail.tail.head (by rw[st.right.head];rfl)).app (iO st.right.head rfl rfl))))))
 ·cases h
end aJ
namespace aJ
open Ax (Expr Bound Range Line What Bytes Bin Un Red Tok Placed Got andThen)
theorem DJ{d d':List Line}{s s':ag.St}:∀{xs:List Placed},steps d s xs=some (d',s')->ag.run d s xs=ag.run d' s' []
 |[],h=>by cases h;rfl
 |(p,x)::r,h=>by
  have h':(match ag.step d s p x with|none=>none|some y=>steps y.1 y.2 r)=some (d',s'):=h;show(match ag.step d s p x with|none=>_|some y=>ag.run y.1 y.2 r)=_;cases e:ag.step d s p x with
  |none=>rw[e]at h';cases h'
  |some z=>rw[e]at h';exact DJ h'
theorem N3:∀(n:Nat)(d:List Line)(xs:List Placed)(d':List Line),xs.length<=n->ag.L d xs=.ok (d',[])->∃ls,d'=d++ls/\(xs≠[]->ls≠[])
 |n,d,[],d',hn,h=>by
  rw[ag.LY]at h;cases h;exact⟨[],(aK _).symm,fun q=>absurd rfl q⟩
 |0,d,x::r,d',hn,h=>by simp at hn
 |n+1,d,x::r,d',hn,h=>by
  rw[ag.B6]at h;obtain⟨l,r1,h1,h2⟩:=aZ h;have:=ag.uD h1;simp only[ay]at this hn;obtain⟨ls,rfl,_⟩:=N3 n (d++[l]) r1 d' (by omega) h2;exact⟨l::ls,by rw[aw];rfl,fun _=>by simp⟩
theorem NL{d:List Line}{xs:List Placed}{l:Line}(h:steps d .line xs=some (d++[l],.line)):Ax.lineIn xs=.ok (l,[]):=by
 have h1:=DJ h;rw[<-ag.run_eq xs d .line trivial]at h1;have h2:ag.L d xs=.ok (d++[l],[]):=h1;cases xs with
 |nil=>
  rw[ag.LY]at h2;have h3:d=d++[l]:=congrArg Prod.fst (Except.ok.inj h2);have:=congrArg List.length h3;simp at this
 |cons x r=>
  rw[ag.B6]at h2;obtain⟨m,r1,h3,h4⟩:=aZ h2;obtain⟨ls,e1,e2⟩:=N3 r1.length (d++[m]) r1 _ (aD _) h4;have e3:=congrArg List.length e1;simp only[aq,aX]at e3;have e4:ls=[]:=List.length_eq_zero_iff.mp (by omega);subst e4;have e5:r1=[]:=by
   cases r1 with
   |nil=>rfl
   |cons y r1=>exact absurd rfl (e2 (by simp))
  subst e5;rw[aK]at e1;have e6:=List.append_cancel_left e1;cases e6;exact h3
theorem M6{xs r:List Placed}{l:Line}(h:Ax.lineIn xs=.ok (l,r)):Form l:=by
 unfold Ax.lineIn at h;split at h
 ·obtain⟨x,r1,h1,h⟩:=aZ h;obtain⟨u,r2,h2,h⟩:=aZ h;cases h;exact⟨fun _=>⟨rfl,rfl⟩,fun q=>(nomatch q)⟩
 ·obtain⟨x,r1,h1,h⟩:=aZ h;obtain⟨rs,r2,h2,h⟩:=aZ h;obtain⟨u3,r3,h3,h⟩:=aZ h;obtain⟨k,r4,h4,h⟩:=aZ h;obtain⟨u5,r5,h5,h⟩:=aZ h;cases h;exact⟨fun q=>(nomatch q),fun _=>rfl⟩
 ·rename_i p w r hne1 hne2;obtain⟨x,r1,h1,h⟩:=aZ h;obtain⟨rs,r2,h2,h⟩:=aZ h;obtain⟨u3,r3,h3,h⟩:=aZ h;obtain⟨k,r4,h4,h⟩:=aZ h;obtain⟨u5,r5,h5,h⟩:=aZ h;obtain⟨e,r6,h6,h⟩:=aZ h;obtain⟨u7,r7,h7,h⟩:=aZ h;cases h;exact⟨fun q=>(hne1 q).elim,fun q=>(hne2 q).elim⟩
 ·cases h
end aJ
namespace aJ
open PySem PySem.Spec PyProof.Rows L2
variable{P:Program}{w:World}{K:PySem.W.Frag}{mg:Str->Option Value}{base:Heap}{A:Ad}
local macro_rules | `(tactic| walk_at "look") => `(tactic| first | assumption | exact Holds.mem (by assumption) (by assumption) | exact Holds.get (by assumption) _ (by assumption) | exact Holds.mem (Holds.tl (by assumption)) (by assumption) | exact Holds.mem (Holds.tl (Holds.tl (by assumption))) (by assumption) | exact Holds.get (by assumption) 0 rfl | exact Holds.get (by assumption) 1 rfl | exact Holds.get (by assumption) 2 rfl | exact Holds.get (by assumption) 3 rfl | exact Holds.get (by assumption) 4 rfl | exact Holds.get (by assumption) 5 rfl | exact Holds.get (by assumption) 6 rfl | exact Holds.get (by assumption) 7 rfl | exact Holds.get (by assumption) 8 rfl | exact Holds.get (by assumption) 9 rfl | exact Holds.get (by assumption) 10 rfl | exact Holds.get (by assumption) 11 rfl | exact Holds.get (by assumption) 12 rfl | exact Holds.get (by assumption) 13 rfl | exact Holds.get (by assumption) 14 rfl | exact Holds.get (by assumption) 15 rfl)
local macro_rules | `(tactic| walk_at "cls") => do
  let T := Lean.mkIdent `T
  `(tactic| first | exact ($T).SK | exact ($T).NK | exact ($T).Q7 | exact ($T).Q8 | exact ($T).Pf | exact ($T).Pg | exact ($T).SM | exact ($T).TX)
local macro_rules | `(tactic| walk_at "na") => do
  let T := Lean.mkIdent `T
  `(tactic| first | exact ($T).IT | exact ($T).IV | exact ($T).GW | exact ($T).IW | exact ($T).IU | exact ($T).Fg | exact ($T).A8 | exact ($T).yA | exact ($T).CY | exact ($T).A6 | exact ($T).A7 | exact ($T).GV | exact ($T).Fb | exact ($T).A2 | exact ($T).GU | exact ($T).C1 | exact ($T).C0 | exact ($T).GY | exact ($T).Fh | exact ($T).zR | exact ($T).Fi | exact ($T).CZ | exact ($T).zS | exact ($T).GX | exact ($T).A9 | exact ($T).zQ | exact ($T).CV | exact ($T).Fe | exact ($T).zP | exact ($T).A4 | exact ($T).A3 | exact ($T).Ff | exact ($T).yz | exact ($T).A5 | exact ($T).CW | exact ($T).C2 | exact ($T).C3 | exact ($T).Fd | exact ($T).Fc)
local macro_rules | `(tactic| walk_at "idx") => `(tactic| first | (show (_ : List Cell)[0]? = _; rfl) | (show (_ : List Cell)[1]? = _; rfl) | (show (_ : List Cell)[2]? = _; rfl) | (show (_ : List Cell)[3]? = _; rfl) | (show (_ : List Cell)[4]? = _; rfl) | (show (_ : List Cell)[5]? = _; rfl) | (show (_ : List Cell)[6]? = _; rfl) | (show (_ : List Cell)[7]? = _; rfl) | (show (_ : List Cell)[8]? = _; rfl) | (show (_ : List Cell)[9]? = _; rfl) | (show (_ : List Cell)[10]? = _; rfl) | (show (_ : List Cell)[11]? = _; rfl) | (show (_ : List Cell)[12]? = _; rfl) | (show (_ : List Cell)[13]? = _; rfl) | (show (_ : List Cell)[14]? = _; rfl) | (show (_ : List Cell)[15]? = _; rfl))
local macro_rules | `(tactic| walk_at "nrm") => do
  let h := Lean.mkIdent `hH
  `(tactic| simp only [List.set_cons_zero, List.set_cons_succ, EV, EX, CD, EY, EW, AL, yq, vJ, zz, yo, yp, CC, AG, yk, CB, zC, zB, CG, AM, wI, AN, zA, wJ, CF, yr, wH, zx, AJ, wG, ym, yl, AK, vI, yn, zy, zD, zE, AI, AH] at $h:ident)
local macro_rules | `(tactic| walk_at "in") => do
  let h := Lean.mkIdent `hH
  let H := Lean.mkIdent `H
  `(tactic| (intro $H:ident $h:ident; try walk_at "nrm"))
local macro_rules | `(tactic| walk_at "inp") => do
  let h := Lean.mkIdent `hH
  let H := Lean.mkIdent `H
  let p := Lean.mkIdent `np
  `(tactic| (intro $p:ident $H:ident $h:ident; try walk_at "nrm"))
local macro_rules | `(tactic| walk_at "rd1") => `(tactic| first | refine ⟨_, rfl, ?_⟩ | (refine' U6 ⟨rfl, ?k1, ?k2, ?k3, ?k4, ?k5⟩; (case k1 => walk_at "look"); (case k2 => walk_at "cls"); (case k3 => walk_at "na"); (case k4 => rfl)) | refine ⟨_, _, rfl, rfl, ?_⟩ | refine ⟨rfl, ?_⟩)
local macro_rules | `(tactic| walk_at "rd") => `(tactic| repeat (walk_at "rd1"))
local macro_rules | `(tactic| walk_at "st") => `(tactic| (refine' Uc (by assumption) ?k0 ?k1 ?k2 ?k3 ?k4 ?k5; (case k1 => walk_at "idx"); (case k2 => walk_at "cls"); (case k3 => walk_at "na"); (case k4 => with_unfolding_all exact of_decide_eq_true rfl); walk_at "in"))
local macro_rules | `(tactic| walk_at "aug") => `(tactic| (refine' S9 (by assumption) ?k0 ?k1 ?k4 ?k5; (case k1 => walk_at "idx"); (case k4 => with_unfolding_all exact of_decide_eq_true rfl); walk_at "in"))
local macro_rules | `(tactic| walk_at "new") => do
  let h := Lean.mkIdent `hH
  let H := Lean.mkIdent `H
  let p := Lean.mkIdent `np
  `(tactic| (intro $p:ident n; generalize hE : upd _ _ _ = $H:ident; have $h:ident := Holds.oW hE (by assumption) n; clear hE n))
local macro_rules | `(tactic| walk_at "nl") => `(tactic| (refine ⟨by with_unfolding_all exact of_decide_eq_true rfl, ?_⟩; walk_at "new"))
local macro_rules | `(tactic| walk_at "mk") => do
  let h := Lean.mkIdent `hH
  let H := Lean.mkIdent `H
  let x := Lean.mkIdent `x
  let dx := Lean.mkIdent `dx
  `(tactic| (intro $x:ident $dx:ident n m e; generalize hE : upd (upd _ _ _) _ _ = $H:ident; have $h:ident := Holds.QE hE (by assumption) n m e; clear hE n m e))
local macro_rules | `(tactic| walk_at "br") => `(tactic| first | refine cn (by assumption) ?_ | refine bV (by assumption) ?_ | refine UG ?_ | refine Ll ?_)
local macro_rules | `(tactic| walk_at "go") => `(tactic| repeat (first | walk_at "rd1" | walk_at "br"))
local macro_rules | `(tactic| walk_at "len") => `(tactic| (refine' SA ⟨rfl, .inl (bY.of ?k1), ?k2⟩; (case k1 => walk_at "look")))
local macro_rules | `(tactic| walk_at "ix") => `(tactic| (refine' UN ⟨rfl, rfl, bY.of ?k1, ?k2, ?k3⟩; (case k1 => walk_at "look"); (case k2 => first | assumption | exact Lk (by assumption))))
local macro_rules | `(tactic| walk_at "vl") => do
  let h := Lean.mkIdent `h
  `(tactic| ((repeat (obtain ⟨_, $h:ident⟩ := $h:ident)); subst_vars; rfl))
local macro_rules | `(tactic| walk_at "unf") => do
  let h := Lean.mkIdent `hH
  `(tactic| simp only [d8.c, k8.c, cx.c, fK.c, cf.c1, cf.c2] at $h:ident)
local macro_rules | `(tactic| walk_at "ro") => do
  let h := Lean.mkIdent `hH
  `(tactic| simp only [List.filterMap_cons, List.filterMap_nil, List.getElem?_cons_zero, List.getElem?_cons_succ, List.cons_append, List.nil_append, List.drop_succ_cons, List.drop_zero] at $h:ident)
local macro_rules | `(tactic| walk_at "tn") => `(tactic| dsimp only [qf, FE, tC, List.cons_append, List.nil_append])
theorem Jz{x:Ax.Tok}(h:cQ x):eF (.str (formOf x)) gJ=fz x:=by
 cases x with
 |num n=>show eF (.str (Str.ofString "number")) gJ=false;decide +kernel
 |name n=>show eF (.str (Str.ofString "name")) gJ=false;decide +kernel
 |kind n=>show eF (.str (Str.ofString "kind")) gJ=false;decide +kernel
 |line y=>cases y<;>decide +kernel
 |red y=>cases y<;>decide +kernel
 |fn1 y=>cases y<;>first|exact False.elim h|decide +kernel
 |fn2 y=>cases y<;>first|exact False.elim h|decide +kernel
 |op y=>cases y<;>first|exact False.elim h|decide +kernel
 |_=>decide +kernel
theorem QB{x:Ax.Tok}(h:cQ x):eF (.str (formOf x)) iX=isOpen x:=by
 cases x with
 |num n=>show eF (.str (Str.ofString "number")) iX=false;decide +kernel
 |name n=>show eF (.str (Str.ofString "name")) iX=false;decide +kernel
 |kind n=>show eF (.str (Str.ofString "kind")) iX=false;decide +kernel
 |line y=>cases y<;>decide +kernel
 |red y=>cases y<;>decide +kernel
 |fn1 y=>cases y<;>first|exact False.elim h|decide +kernel
 |fn2 y=>cases y<;>first|exact False.elim h|decide +kernel
 |op y=>cases y<;>first|exact False.elim h|decide +kernel
 |_=>decide +kernel
theorem RR{x:Ax.Tok}(h:cQ x):eF (.str (formOf x)) iy=Bi x:=by
 cases x with
 |num n=>show eF (.str (Str.ofString "number")) iy=false;decide +kernel
 |name n=>show eF (.str (Str.ofString "name")) iy=false;decide +kernel
 |kind n=>show eF (.str (Str.ofString "kind")) iy=false;decide +kernel
 |line y=>cases y<;>decide +kernel
 |red y=>cases y<;>decide +kernel
 |fn1 y=>cases y<;>first|exact False.elim h|decide +kernel
 |fn2 y=>cases y<;>first|exact False.elim h|decide +kernel
 |op y=>cases y<;>first|exact False.elim h|decide +kernel
 |_=>decide +kernel
theorem Nu{x:Ax.Tok}(h:cQ x):lh x=(decide (formOf x="number")||(decide (formOf x="name")||fz x)):=by
 by_cases h1:formOf x="number"
 ·obtain⟨n,rfl⟩:=(FK h).mp h1;rw[ao h1];rfl
 ·by_cases h2:formOf x="name"
  ·obtain⟨n,rfl⟩:=(tK h).mp h2;rw[ao h2,aY h1];rfl
  ·rw[aY h1,aY h2];cases x<;>first|rfl|exact absurd rfl h1|exact absurd rfl h2
theorem QR{prev x:Ax.Tok}(h:cQ x):jl prev x=if x9 x=true then some (-1)else(qw x).bind fun n=>if lh prev=true then some (n:Int)else none:=by
 cases x with
 |op y=>cases y<;>first|exact False.elim h|rfl
 |_=>rfl
theorem LZ{x:Ax.Tok}:tW x=((t6 x).isSome&&!isRed x||isRed x):=by
 cases x<;>rfl
structure qV(A:Ad)(la:Addr)(ts:List cf)(xs:List Ax.Placed)(Lc:List Cell):Prop where
 lst:(la,HO.lst (ts.map fun d=>V.ref d.a))∈Lc
 tok:∀t∈ts,(t.a,HO.ins A.eD t.dx (mI t.cZ t.place t.pl t.word))∈Lc
 pr:∀t∈ts,(t.pl,HO.lst (iv t.pr))∈Lc
 is:Toks ts xs
 real:∀x∈xs,cQ x.2
 rF:ts.length<=1024
 first:ag.dw (a7 (tk xs) 0)=none/\isOpen (a7 (tk xs) 0)=false
 last:∀i,i<ts.length->fz (a7 (tk xs) i)=true->i+1<ts.length
theorem qV.at_{A:Ad}{la:Addr}{ts:List cf}{xs:List Ax.Placed}{Lc:List Cell}(h:qV A la ts xs Lc){i:Nat}(hi:i<ts.length):∃t,ts[i]? =some t/\nk (ts.map fun d=>V.ref d.a) (i:Int)=some (V.ref t.a)/\(t.a,HO.ins A.eD t.dx (mI t.cZ t.place t.pl t.word))∈Lc/\(t.pl,HO.lst (iv t.pr))∈Lc/\t.cZ=formOf (a7 (tk xs) i)/\cQ (a7 (tk xs) i)/\(a7 (tk xs) i≠.bad->t.pr=cT (a7 (tk xs) i)):=by
 have ht:ts[i]? =some ts[i]:=aN hi;obtain⟨x,hx,ta⟩:=Ca h.is ht;have e:a7 (tk xs) i=x.2:=by unfold a7 tk;rw[bP,a9,hx];rfl
 refine⟨ts[i],ht,mh (by rw[a9,ht];rfl),h.tok _ (aH ht),h.pr _ (aH ht),?_,?_,?_⟩
 ·rw[e];exact ta.cZ
 ·rw[e];exact h.real x (aH hx)
 ·rw[e];exact ta.pr
theorem qV.up{A:Ad}{la:Addr}{ts:List cf}{xs:List Ax.Placed}{Lc Lc':List Cell}(h:qV A la ts xs Lc)(s:∀c∈Lc,c∈Lc'):qV A la ts xs Lc':=⟨s _ h.lst,fun t q=>s _ (h.tok t q),fun t q=>s _ (h.pr t q),h.is,h.real,h.rF,h.first,h.last⟩
def EN(A:Ad):Sp:=fun vs H Q _=>∃(t:cf)(x:Ax.Tok)(Lc:List Cell),vs=[.ref t.a]/\t.cZ=formOf x/\cQ x/\Holds H Lc/\(t.a,HO.ins A.eD t.dx (mI t.cZ t.place t.pl t.word))∈Lc/\Q (.bl (lh x)) H
theorem E3(T:Txt P w K mg A):Ok P w K mg base 1 A.xm ["token"] (EN A):=by
 refine T.xC.ok ET (fun vs H Q E h=>?_) (fun cdv A' outer s H vs Q E hr h=>?_)
 ·walk_at "vl"
 ·obtain⟨t,x,Lc,rfl,hf,rl,hH,ht,k⟩:=h;refine⟨_,(ak (aF (AO (nW cH (aC (pv 0) rfl) (el (by rfl) T.uG) (bb _)) (AO (nW cH (aC (pv 0) rfl) (el (by rfl) T.tF) (bb _)) (Gx (nW fE (aC (pv 0) rfl) (dH (by rfl) T.D8) rfl)))))),?_⟩;rw[Nu rl]at k;walk_at "rd";rw[dS,hf];by_cases h1:formOf x="number"
  ·rw[ao h1]at k;refine cn (ao h1) ?_;exact k
  ·rw[aY h1]at k;refine bV (fun q=>h1 (ab q)) ?_;walk_at "rd";rw[dS,hf];by_cases h2:formOf x="name"
   ·rw[ao h2]at k;refine cn (ao h2) ?_;exact k
   ·rw[aY h2]at k;refine bV (fun q=>h2 (ab q)) ?_;walk_at "rd";refine⟨A.rV,gJ,rfl,.inr (T.DH.sq _),rfl,by decide +kernel,?_⟩;show Q (.bl (eF (V.str t.cZ) gJ)) H;rw[hf,Jz rl];exact k
def T8:Option Int->V
 |none=>.bA
 |some l=>.int l
def Ar(A:Ad):Sp:=fun vs H Q _=>∃(la:Addr)(ts:List cf)(xs:List Ax.Placed)(i:Nat)(Lc:List Cell),vs=[.ref la,.int (i:Int)]/\qV A la ts xs Lc/\i<ts.length/\Holds H Lc/\Q (T8 (kF (tk xs) i)) H
theorem mW(T:Txt P w K mg A):Ok P w K mg base 2 A.tL ["tokens","number"] (Ar A):=by
 refine T.kC.ok q0 (fun vs H Q E h=>?_) (fun cdv A' outer s H vs Q E hr h=>?_)
 ·walk_at "vl"
 ·obtain⟨la,ts,xs,i,Lc,rfl,hT,hi,hH,k⟩:=h;refine⟨_,(ae (bp (i:=2) q0.nd rfl (Or.inl rfl) (aC (de cO (pv 0) (pv 1) (fun _ _=>rfl)) rfl))
   (ae (bg (aO fE (pv 2) (dH (by rfl) T.vg) rfl) (ak (aF (bZ (by rfl) T.pB))) aQ)
   (ae (bg (PW.pt (jP (fJ (AQ (gx hr) (pv 2) (dH (by rfl) T.m6))) (iJ (gh (aI (E3 T) (hr.mono (by decide)) (by rfl) T.xC.at_ (aa (de cO (pv 0) (fg oU (pv 1) aV) (fun _ _=>rfl)) au)))))) (ak (aF (sZ (gx hr) (dH (by rfl) T.m6) (pv 2) (fun _ _=>rfl)))) aQ)
   (ak (aF dO))))),?_⟩
  obtain⟨t,ht,hat,hc,_,hf,rl,_⟩:=hT.at_ hi
  have hl:=hH.mem hT.lst;unfold kF at k;rw[QR rl]at k;walk_at "rd";walk_at "ix";walk_at "rd";refine⟨A.lq,ei,rfl,.inr (T.uZ.sq _),rfl,by decide +kernel,_,rfl,?_⟩;show if eF (V.str t.cZ) ei=true then _ else _
  rw[hf,Kb rl];by_cases h1:x9 (a7 (tk xs) i)=true
  ·rw[ai h1]at k;refine cn h1 ?_;walk_at "rd";exact k
  ·rw[af h1]at k;refine bV h1 ?_;walk_at "rd";refine⟨A.iQ,_,rfl,.inl ⟨dP,Sum.inr (formOf (a7 (tk xs) i)),T.m4,rfl,rfl⟩,_,rfl,?_⟩;show if(cv dP (Sum.inr (formOf (a7 (tk xs) i)))).isSome=true then _ else _
   rw[xW rl];cases h2:qw (a7 (tk xs) i)with
   |none=>
    rw[h2]at k;refine bV (by simp) ?_;walk_at "rd";exact k
   |some lev=>
    rw[h2]at k;refine cn rfl ?_;have h0:1<=i:=by
     rcases Nat.eq_zero_or_pos i with rfl|q
     ·unfold qw at h2;rw[hT.first.1]at h2;cases h2
     ·exact q
    obtain⟨t',ht',hat',hc',_,hf',rl',_⟩:=hT.at_ (show i - 1<ts.length by omega)
    have e:((i:Int) - 1)=((i - 1:Nat):Int):=by omega
    rw[<-e]at hat';walk_at "rd";walk_at "ix";walk_at "tn";refine⟨t',_,Lc,rfl,hf',rl',hH,hc',?_⟩;walk_at "rd";by_cases h3:lh (a7 (tk xs) (i - 1))=true
    ·rw[Option.bind_some,ai h3]at k;refine cn h3 ?_;walk_at "rd";refine⟨A.iQ,.int (lev:Int),rfl,.inl ⟨dP,Sum.inr (formOf (a7 (tk xs) i)),T.m4,rfl,?_⟩,?_⟩
     ·rw[xW rl,h2];rfl
     ·exact k
    ·rw[Option.bind_some,af h3]at k;refine bV h3 ?_;walk_at "rd";exact k
structure nr where
 a:Addr
 dx:Addr
 number:Nat
 level:Int
def nr.c(A:Ad)(o:nr):Cell:=(o.a,.ins A.fV o.dx (yP (o.number:Int) o.level))
def RH(A:Ad):Sp:=fun vs H Q _=>∃(x dx:Addr)(n:Nat)(F:List Cell),vs=[.ref x,.int (n:Int)]/\Holds H ((x,.ins A.fV dx [])::F)/\∀H':Hp,Holds H' (nr.c A ⟨x,dx,n,6⟩::F)->Q .bA H'
theorem D0(T:Txt P w K mg A):lX P w K mg base 1 A.fV [] (RH A):=by
 refine T.O4.ok wj (fun vs H Q E h=>?_) (fun f cdv A' outer s H vs Q E hr h=>?_) [] (by simp)
 ·walk_at "vl"
 ·obtain⟨x,dx,n,F,rfl,hH,k⟩:=h;refine⟨_,(ae (bu (pv 0) (pv 1) rfl)
   (ak (bu (pv 0) (bZ (by rfl) T.tD) rfl))),?_⟩
  walk_at "rd";walk_at "st";walk_at "rd";walk_at "st";exact k _ hH
theorem R6(a b:Int):(if b<a then b else a)=min a b:=by omega
theorem M3(a b:Int):(if b>a then b else a)=max a b:=by omega
def Mq(A:Ad):Sp:=fun vs H Q _=>∃(o:nr)(l:Option Int)(F:List Cell),vs=[.ref o.a,T8 l]/\Holds H (o.c A::F)/\∀H',Holds H' (nr.c A {o with level:=g5 o.level l}::F)->Q .bA H'
theorem DV(T:Txt P w K mg A):Ok P w K mg base 1 A.Ho ["around","level"] (Mq A):=by
 refine T.zY.ok Mu (fun vs H Q E h=>?_) (fun cdv A' outer s H vs Q E hr h=>?_)
 ·walk_at "vl"
 ·obtain⟨o,l,F,rfl,hH,k⟩:=h;refine⟨_,(ak (bg (fJ (nX (pv 1))) (ak (bu (pv 0) (dc (Eo rfl) (by rfl) T.MU boot_min (aa (aC (pv 0) rfl) (aa (pv 1) au))) rfl)) aQ)),?_⟩;unfold nr.c at hH;cases l with
  |none=>
   walk_at "rd";exact k _ hH
  |some l=>
   walk_at "rd";refine⟨o.level,l,rfl,?_⟩;rw[R6];walk_at "rd";walk_at "st";exact k _ hH
def DK(A:Ad)(f:List Ax.Tok->Nat->Int):Sp:=fun vs H Q _=>∃(la:Addr)(ts:List cf)(xs:List Ax.Placed)(i:Nat)(Lc:List Cell),vs=[.ref la,.int (i:Int)]/\qV A la ts xs Lc/\i<ts.length/\Holds H Lc/\Q (.int (f (tk xs) i)) H
theorem zM(T:Txt P w K mg A):Ok P w K mg base 3 A.rK ["tokens","number"] (DK A jN):=by
 refine T.rP.ok qi (fun vs H Q E h=>?_) (fun cdv A' outer s H vs Q E hr h=>?_)
 ·walk_at "vl"
 ·obtain⟨la,ts,xs,i,Lc,rfl,hT,hi,hH,k⟩:=h;refine⟨_,(ae (bp (i:=2) qi.nd rfl (Or.inl rfl) (aI (mW T) (hr.mono (by decide)) (by rfl) T.kC.at_ (aa (pv 0) (aa (pv 1) au))))
   (ae (bg (fJ (AR (pv 2))) (ak (aF (bZ (by rfl) T.pB))) aQ)
   (ak (aF (dc (Ep rfl) (by rfl) T.MV boot_max (aa (pv 2) (aa (bZ (by rfl) T.De) au))))))),?_⟩
  unfold jN at k;walk_at "rd";walk_at "tn";refine⟨la,ts,xs,i,Lc,rfl,hT,hi,hH,?_⟩;cases h1:kF (tk xs) i with
  |none=>
   rw[h1]at k;walk_at "rd";exact k
  |some l=>
   rw[h1]at k;walk_at "rd";walk_at "tn";refine⟨l,0,rfl,?_⟩;rw[M3];exact k
theorem zL(T:Txt P w K mg A):Ok P w K mg base 3 A.rJ ["tokens","number"] (DK A jB):=by
 refine T.rO.ok qh (fun vs H Q E h=>?_) (fun cdv A' outer s H vs Q E hr h=>?_)
 ·walk_at "vl"
 ·obtain⟨la,ts,xs,i,Lc,rfl,hT,hi,hH,k⟩:=h;refine⟨_,(ae (bp (i:=2) qh.nd rfl (Or.inl rfl) (aI (mW T) (hr.mono (by decide)) (by rfl) T.kC.at_ (aa (pv 0) (aa (pv 1) au))))
   (ae (bg (fJ (nX (pv 2))) (ak (aF (fg kT (pv 2) aV))) aQ)
   (ak (aF (eV (aO fE (aC (de cO (pv 0) (pv 1) (fun _ _=>rfl)) rfl) (dH (by rfl) T.Lv) rfl) (bZ (by rfl) T.tD) (bZ (by rfl) T.pB)))))),?_⟩
  obtain⟨t,ht,hat,hc,_,hf,rl,_⟩:=hT.at_ hi
  have hl:=hH.mem hT.lst;unfold jB at k;walk_at "rd";walk_at "tn";refine⟨la,ts,xs,i,Lc,rfl,hT,hi,hH,?_⟩;cases h1:kF (tk xs) i with
  |none=>
   rw[h1]at k;dsimp only at k;walk_at "rd";walk_at "ix";walk_at "rd";refine⟨A.uV,iy,rfl,.inr (T.Kp.sq _),rfl,by decide +kernel,_,rfl,?_⟩;show if eF (V.str t.cZ) iy=true then _ else _
   rw[hf,RR rl];by_cases h2:Bi (a7 (tk xs) i)=true
   ·rw[ai h2]at k;exact cn h2 k
   ·rw[af h2]at k;exact bV h2 k
  |some l=>
   rw[h1]at k;walk_at "rd";exact k
def Ig(A:Ad):Sp:=fun vs H Q _=>∃(la:Addr)(ts:List cf)(xs:List Ax.Placed)(i:Nat)(Lc:List Cell),vs=[.ref la,.int (i:Int)]/\qV A la ts xs Lc/\i<ts.length/\Holds H Lc/\Q (.bl (Bm (tk xs) i)) H
theorem OK{x:Ax.Tok}(h:cQ x):decide (formOf x="(")=Lm x:=by
 by_cases q:formOf x="("
 ·obtain rfl:=(Dg h).mp q;rfl
 ·rw[aY q];cases x<;>first|rfl|exact absurd rfl q
theorem IE(T:Txt P w K mg A):Ok P w K mg base 1 A.Bt ["tokens","number"] (Ig A):=by
 refine T.BI.ok yI (fun vs H Q E h=>?_) (fun cdv A' outer s H vs Q E hr h=>?_)
 ·walk_at "vl"
 ·obtain⟨la,ts,xs,i,Lc,rfl,hT,hi,hH,k⟩:=h;refine⟨_,(ae (bg (aO ku (aC (de cO (pv 0) (pv 1) (fun _ _=>rfl)) rfl) bF (bb _)) (ak (aF jD)) aQ)
   (ae (bp (i:=2) yI.nd rfl (Or.inl rfl) (aC (de cO (pv 0) (fg oU (pv 1) aV) (fun _ _=>rfl)) rfl))
   (ak (aF (RW (MK (ML (gx hr) (pv 2) (dH (by rfl) T.sE))) (Gx (nW qB (pv 2) (dH (by rfl) T.qJ) rfl))))))),?_⟩
  obtain⟨t,ht,hat,hc,_,hf,rl,_⟩:=hT.at_ hi
  have hl:=hH.mem hT.lst;unfold Bm at k;walk_at "rd";walk_at "ix";walk_at "rd";rw[dS,hf,OK rl];cases h1:Lm (a7 (tk xs) i)with
  |false=>
   rw[h1]at k;walk_at "rd";exact k
  |true=>
   rw[h1]at k;have h0:1<=i:=by
    rcases Nat.eq_zero_or_pos i with rfl|q
    ·exfalso;have:=hT.first.2
     cases e:a7 (tk xs) 0<;>rw[e]at h1 this<;>first|(cases h1;done)|(cases this;done)
    ·exact q
   obtain⟨t',ht',hat',hc',_,hf',rl',_⟩:=hT.at_ (show i - 1<ts.length by omega)
   have e:((i:Int) - 1)=((i - 1:Nat):Int):=by omega
   rw[<-e]at hat';rw[LZ]at k;obtain⟨w1,w2⟩:=FU rl';walk_at "rd";walk_at "ix";walk_at "rd";refine⟨A.iE,_,rfl,.inl ⟨dF,Sum.inr t'.cZ,T.kX,rfl,rfl⟩,_,rfl,?_⟩;show if(!(cv dF (Sum.inr t'.cZ)).isSome)=true then _ else _
   rw[hf',w1];cases h2:((t6 (a7 (tk xs) (i - 1))).isSome&&!isRed (a7 (tk xs) (i - 1)))with
   |true=>
    rw[h2]at k;refine bV (by simp) ?_;walk_at "rd";exact k
   |false=>
    rw[h2]at k;refine cn (by simp) ?_;walk_at "rd";refine⟨A.kf,dD,rfl,.inr (T.qc.sq _),rfl,by decide +kernel,?_⟩;show Q (.bl (!eF (V.str (formOf (a7 (tk xs) (i - 1)))) dD)) H;rw[w2];exact k
def Cn(A:Ad):Sp:=fun vs H Q _=>∃(la:Addr)(ts:List cf)(xs:List Ax.Placed)(o:nr)(i:Nat)(Lc:List Cell),vs=[.ref la,.ref o.a,.int (i:Int)]/\qV A la ts xs Lc/\(o.a,HO.ins A.fV o.dx (yP (o.number:Int) o.level))∈Lc/\o.number<ts.length/\i<ts.length/\fz (a7 (tk xs) i)=true/\Holds H Lc/\Q (.bl (jE (tk xs) (o.number,o.level) i)) H
theorem CP(T:Txt P w K mg A):Ok P w K mg base 4 A.vn ["tokens","closed","end"] (Cn A):=by
 refine T.vA.ok Ct (fun vs H Q E h=>?_) (fun cdv A' outer s H vs Q E hr h=>?_)
 ·walk_at "vl"
 ·obtain⟨la,ts,xs,o,i,Lc,rfl,hT,ho,hn,hi,hs,hH,k⟩:=h;refine⟨_,(ae (bg (wK (gh (aI (IE T) (hr.mono (by decide)) (by rfl) T.BI.at_ (aa (pv 0) (aa (aC (pv 1) rfl) au))))) (ak (aF jD)) aQ)
   (ak (aF (nW AU (aC (pv 1) rfl) (dc (Ep rfl) (by rfl) T.MV boot_max (aa (aI (zL T) (hr.mono (by decide)) (by rfl) T.rO.at_ (aa (pv 0) (aa (fg oU (aC (pv 1) rfl) aV) au))) (aa (aI (zM T) (hr.mono (by decide)) (by rfl) T.rP.at_ (aa (pv 0) (aa (fg kT (pv 2) aV) au))) au))) (bb _))))),?_⟩
  unfold jE at k;dsimp only at k;walk_at "rd";walk_at "tn";refine⟨la,ts,xs,o.number,Lc,rfl,hT,hn,hH,?_⟩;cases h1:Bm (tk xs) o.number with
  |false=>
   rw[h1]at k;walk_at "rd";exact k
  |true=>
   rw[h1]at k;have h0:1<=o.number:=by
    rcases Nat.eq_zero_or_pos o.number with q|q
    ·exfalso;unfold Bm at h1;rw[q]at h1;have:=hT.first.2
     cases e:a7 (tk xs) 0<;>rw[e]at h1 this<;>first|(cases h1;done)|(cases this;done)
    ·exact q
   have e:((o.number:Int) - 1)=((o.number - 1:Nat):Int):=by omega
   have e2:((i:Int)+1)=((i+1:Nat):Int):=by omega
   walk_at "rd";walk_at "tn";refine⟨la,ts,xs,o.number - 1,Lc,by rw[<-e],hT,by omega,hH,?_⟩;walk_at "rd";walk_at "tn";refine⟨la,ts,xs,i+1,Lc,by rw[<-e2],hT,hT.last i hi hs,hH,?_⟩;walk_at "tn";refine⟨_,_,rfl,?_⟩;rw[M3];walk_at "rd";exact k
def iL(ops:List nr):List V:=ops.reverse.map fun o=>V.ref o.a
theorem jo(o:nr)(r:List nr):iL (o::r)=iL r++[V.ref o.a]:=by unfold iL;rw[List.reverse_cons,bC];rfl
theorem K0(r:List nr):(iL r).length=r.length:=by unfold iL;rw[aP,nu]
def nY(ops:List nr):List (Nat×Int):=ops.map fun o=>(o.number,o.level)
def RI(xs:List Ax.Tok)(nd:Nat->Bool)(i:Nat):List (Nat×Int)->Option Sc
 |c::t::r=>some (if jE xs c i=true then⟨put2 nd c.1 i,(t.1,g5 t.2 (some c.2))::r⟩else⟨nd,t::r⟩)
 |_=>none
def Qv(xs:List Ax.Tok)(nd:Nat->Bool)(i:Nat):List (Nat×Int)->Option Sc
 |t::r=>some ⟨nd,(t.1,g5 t.2 (kF xs i))::r⟩
 |[]=>none
theorem Iz{xs:List Ax.Tok}{s:Sc}{i:Nat}(h1:¬isOpen (a7 xs i)=true)(h2:fz (a7 xs i)=true):dN xs s i=RI xs s.nd i s.st:=by
 obtain⟨nd,st⟩:=s;unfold dN;rw[af h1,ai h2]
 match st with
 |[]=>rfl
 |[_]=>rfl
 |_::_::_=>rfl
theorem Gh{xs:List Ax.Tok}{s:Sc}{i:Nat}(h1:¬isOpen (a7 xs i)=true)(h2:¬fz (a7 xs i)=true):dN xs s i=Qv xs s.nd i s.st:=by
 obtain⟨nd,st⟩:=s;unfold dN;rw[af h1,af h2];cases st<;>rfl
def Ie(A:Ad):Sp:=fun vs H Q _=>∃(la:Addr)(ts:List cf)(xs:List Ax.Placed)(s':Sc)(Lc:List Cell),vs=[.ref la]/\qV A la ts xs Lc/\Holds H Lc/\scan (tk xs) ts.length 0 ⟨fun _=>false,[(0,6)]⟩=some s'/\0<ts.length/\
 ∀H'(d:Addr)(kvs:List (Key×V)),(∀i:Nat,(cv kvs (.inl (i:Int))).isSome=s'.nd i)->Holds H' ((d,.dK kvs)::Lc)->Q (.ref d) H'
theorem qX(T:Txt P w K mg A):Ok P w K mg base 5 A.kZ ["tokens"] (Ie A):=by
 refine T.k6.ok dM (fun vs H Q E h=>?_) (fun cdv A' outer s H vs Q E hr h=>?_)
 ·walk_at "vl"
 ·obtain⟨la,ts,xs,s',Lc,rfl,hT,hH,hsc,h0,k⟩:=h;refine⟨_,(ae (bp (i:=1) dM.nd rfl (Or.inl rfl) uv)
   (ae (bp (i:=2) dM.nd rfl (Or.inl rfl) (cX (aa (d5 (D0 T) (hr.mono (by decide)) (by rfl) T.G3 (aa aV au)) au)))
   (ae (jj PassesOwn.never rfl (sX (by rfl) T.jT (aa (pv 0) au)) (wN rfl (iA (dX (i:=3) dM.nd rfl (Or.inl rfl)) (iA (dX (i:=4) dM.nd rfl (Or.inl rfl)) sY)))
   (ak (bg (aO fE (aC (pv 4) rfl) (dH (by rfl) T.Nj) rfl) (ak (cN (hZ bj bO bN e7 (pv 2) (aa (d5 (D0 T) (hr.mono (by decide)) (by rfl) T.G3 (aa (pv 3) au)) au)))) (ak (bg (aO fE (aC (pv 4) rfl) (dH (by rfl) T.D8) rfl) (ae (bp (i:=5) dM.nd rfl (Or.inl rfl) (Gy bj lZ lY GZ (pv 2)))
   (ak (bg (gh (aI (CP T) (hr.mono (by decide)) (by rfl) T.vA.at_ (aa (pv 0) (aa (pv 5) (aa (pv 3) au))))) (ae (xX (gx hr) (pv 1) (aC (pv 5) rfl) jD rfl)
   (ae (xX (gx hr) (pv 1) (pv 3) jD rfl)
   (ak (cN (aI (DV T) (hr.mono (by decide)) (by rfl) T.zY.at_ (aa (de cO (pv 2) (pT mG aV) (fun _ _=>rfl)) (aa (aC (pv 5) rfl) au))))))) aQ))) (ak (cN (aI (DV T) (hr.mono (by decide)) (by rfl) T.zY.at_ (aa (de cO (pv 2) (pT mG aV) (fun _ _=>rfl)) (aa (aI (mW T) (hr.mono (by decide)) (by rfl) T.kC.at_ (aa (pv 0) (aa (pv 3) au))) au))))))))))
   (ak (aF (pv 1)))))),?_⟩
  walk_at "new";obtain⟨d,rfl⟩:∃d,d=np:=⟨_,rfl⟩;walk_at "rd";walk_at "mk";refine⟨x,dx,0,_,rfl,hH,fun H hH=>⟨rfl,?_⟩⟩;walk_at "tn";refine⟨by with_unfolding_all exact ab rfl,?_⟩;walk_at "new";obtain⟨oa,rfl⟩:∃oa,oa=np:=⟨_,rfl⟩;have hH:=Holds.reorder hH 3 [2,0,1] rfl;walk_at "ro";walk_at "rd";have hl:∀{H1:Hp}{M:List Cell},Holds H1 (M++Lc)->bY K H1 la (ts.map fun d=>V.ref d.a):=fun h=>bY.of (h.mem (aU _ hT.lst));refine⟨la,_,rfl,hl (M:=[_,_,_]) hH,qK (K:=K) (a:=la) (xs:=ts.map fun d=>V.ref d.a) (fun n σ H'=>∃(kvs:List (Key×V))(ops:List nr)(s:Sc)(v3 v4 v5:Option V),σ=[some (.ref la),some (.ref d),some (.ref oa),v3,v4,v5]/\
    (∀i:Nat,(cv kvs (.inl (i:Int))).isSome=s.nd i)/\kvs.length<=2*n/\nY ops=s.st/\(∀o∈ops,o.number<ts.length)/\ops.length<=n+1/\scan (tk xs) (ts.length - n) n s=some s'/\Holds H' ((d,.dK kvs)::(oa,.lst (iL ops))::(ops.map (nr.c A)++Lc)))
   ⟨[],[⟨x,dx,0,6⟩],⟨fun _=>false,[(0,6)]⟩,none,none,none,rfl,fun _=>rfl,aD _,rfl,fun o ho=>by cases bI.mp ho;exact h0,aD _,hsc,hH⟩ (fun n σ H' _ ⟨kvs,ops,_,_,_,_,_,_,_,_,_,_,_,h⟩=>hl (M:=(d,.dK kvs)::(oa,.lst (iL ops))::ops.map (nr.c A)) h) ?_ ?_⟩
  ·rintro n y σ H' T' H2 hi ⟨kvs,ops,s,v3,v4,v5,rfl,hnd,hk,hst,hops,hol,hs,hH⟩ nT eT;have hH:=(Holds.oW eT hH nT).tl;rw[a9]at hi;obtain⟨t,hti,rfl⟩:=bS.mp hi;have hlt:=(az.mp hti).1;have hz:=hT.rF;obtain⟨t1,ht1,hat,hc,_,hf,rl,_⟩:=hT.at_ hlt
   obtain rfl:t=t1:=bG (hti.symm.trans ht1);have sub:∀c∈Lc,c∈((d,HO.dK kvs)::(oa,HO.lst (iL ops))::(ops.map (nr.c A)++Lc)):=fun c q=>ah _ (ah _ (aU _ q));have hct:=hH.mem (sub _ hc);rw[show ts.length - n=(ts.length - (n+1))+1 by omega]at hs;have hs':(dN (tk xs) s n).bind (fun s=>scan (tk xs) (ts.length - (n+1)) (n+1) s)=some s':=hs;walk_at "rd";refine⟨A.xR,iX,rfl,.inr (T.Mj.sq _),rfl,by decide +kernel,_,rfl,?_⟩;show if eF (V.str t.cZ) iX=true then _ else _
   rw[hf,QB rl];by_cases h1:isOpen (a7 (tk xs) n)=true
   ·refine cn h1 ?_;walk_at "rd";refine⟨ty_list (hH.get 1 rfl),?_⟩;walk_at "rd";walk_at "mk";refine⟨x,dx,n,_,rfl,hH,fun H hH=>⟨rfl,?_⟩⟩;walk_at "tn";refine jC hH 2 rfl (by rw[K0,sizeLine_eq];omega) fun H hH=>?_;rw[gc,gc,bH]at hH;have hH:=Holds.reorder hH 3 [1,2,0] rfl;walk_at "ro";have e1:dN (tk xs) s n=some ⟨s.nd,(n,6)::s.st⟩:=by unfold dN;rw[ai h1]
    rw[e1]at hs';refine⟨kvs,⟨x,dx,n,6⟩::ops,⟨s.nd,(n,6)::s.st⟩,_,_,_,rfl,hnd,by omega,by show(n,(6:Int))::nY ops=_;rw[hst],?_,by rw[ay];omega,hs',?_⟩
    ·intro o ho
     rcases aT.mp ho with rfl|ho
     ·exact hlt
     ·exact hops o ho
    ·rw[jo];exact hH
   ·refine bV h1 ?_;walk_at "rd";have h1':=(b5 _).mp h1;refine⟨A.rV,gJ,rfl,.inr (T.DH.sq _),rfl,by decide +kernel,_,rfl,?_⟩;show if eF (V.str t.cZ) gJ=true then _ else _
    rw[hf,Jz rl];by_cases h2:fz (a7 (tk xs) n)=true
    ·refine cn h2 ?_;rw[Iz h1 h2,<-hst]at hs'
     match ops,hst,hops,hol,hs',hH,sub with
     |[],_,_,_,hs',_,_=>cases hs'
     |[_],_,_,_,hs',_,_=>cases hs'
     |oc::ot::orr,hst,hops,hol,hs',hH,sub=>
      rw[jo]at hH;walk_at "rd";refine⟨ty_list (hH.get 1 rfl),?_⟩;refine t7 (y:=V.ref oc.a) hH 1 rfl (by rw[aq,aX,bx,dj (aD _),mx];rfl) fun H hH=>?_;rw[gc,bH,fk]at hH;have hH:Holds H ((d,.dK kvs)::(oa,.lst (iL (ot::orr)))::(oc.a,.ins A.fV oc.dx (yP (oc.number:Int) oc.level))::(ot.a,.ins A.fV ot.dx (yP (ot.number:Int) ot.level))::(orr.map (nr.c A)++Lc)):=hH;have sub2:∀c∈Lc,c∈((d,HO.dK kvs)::(oa,HO.lst (iL (ot::orr)))::(oc.a,HO.ins A.fV oc.dx (yP (oc.number:Int) oc.level))::(ot.a,.ins A.fV ot.dx (yP (ot.number:Int) ot.level))::(orr.map (nr.c A)++Lc)):=fun c q=>ah _ (ah _ (ah _ (ah _ (aU _ q))));walk_at "rd";walk_at "tn";refine⟨la,ts,xs,oc,n,_,rfl,hT.up sub2,ah _ (ah _ aA),hops oc aA,hlt,h2,hH,?_⟩;have hops2:∀o∈orr,o.number<ts.length:=fun o ho=>hops o (ah _ (ah _ ho));have hot:ot.number<ts.length:=hops ot (ah _ aA);simp only[ay]at hol;cases hq:jE (tk xs) (oc.number,oc.level) n with
      |true=>
       have hs2:scan (tk xs) (ts.length - (n+1)) (n+1) ⟨put2 s.nd oc.number n,(ot.number,g5 ot.level (some oc.level))::nY orr⟩=some s':=by
        have:=hs';exact(by
         have e2:(if jE (tk xs) (oc.number,oc.level) n=true then(⟨put2 s.nd oc.number n,(ot.number,g5 ot.level (some oc.level))::nY orr⟩:Sc)else⟨s.nd,(ot.number,ot.level)::nY orr⟩)=⟨put2 s.nd oc.number n,(ot.number,g5 ot.level (some oc.level))::nY orr⟩:=ai hq;rw[<-e2];exact this)
       walk_at "rd";obtain⟨dp,hH⟩:=Al (k:=.inl (oc.number:Int)) (y:=.bl true) hH 0 rfl (by rw[sizeLine_eq];omega);refine⟨d,_,rfl,dp,?_⟩;clear dp;rw[bH]at hH;walk_at "rd";have hlp:=pX kvs (.inl (oc.number:Int)) (V.bl true);obtain⟨dp,hH⟩:=Al (k:=.inl (n:Int)) (y:=.bl true) hH 0 rfl (by rw[sizeLine_eq];omega);refine⟨d,_,rfl,dp,?_⟩;clear dp;rw[bH]at hH;have hlp2:=pX (putK kvs (.inl (oc.number:Int)) (V.bl true)) (.inl (n:Int)) (V.bl true);have hl':=kd (iL orr) (V.ref ot.a);rw[<-jo]at hl';walk_at "rd";walk_at "ix";walk_at "rd";walk_at "tn";have hH:=Holds.reorder hH 4 [3,0,1,2] rfl;walk_at "ro";refine⟨ot,some oc.level,_,rfl,hH,fun H hH=>?_⟩;have hH:=Holds.reorder hH 4 [1,2,0,3] rfl;walk_at "ro";refine⟨putK (putK kvs (.inl (oc.number:Int)) (V.bl true)) (.inl (n:Int)) (V.bl true),{ot with level:=g5 ot.level (some oc.level)}::orr,⟨put2 s.nd oc.number n,(ot.number,g5 ot.level (some oc.level))::nY orr⟩,_,_,_,rfl,?_,by omega,rfl,?_,by rw[ay];omega,hs2,?_⟩
       ·intro i;rw[lB,lB];show _=if i=oc.number\/i=n then true else s.nd i
        by_cases q1:i=n
        ·rw[ai (by rw[q1]),ai (.inr q1)];rfl
        ·rw[af fun z=>q1 (by have:=oy z;omega)];by_cases q2:i=oc.number
         ·rw[ai (by rw[q2]),ai (.inl q2)];rfl
         ·rw[af fun z=>q2 (by have:=oy z;omega),af (by omega)];exact hnd i
       ·intro o ho
        rcases aT.mp ho with rfl|ho
        ·exact hot
        ·exact hops2 o ho
       ·rw[jo]at hH⊢;exact hH.sub (.cons_cons _ (.cons_cons _ (.cons_cons _ (aW _ _))))
      |false=>
       have hs2:scan (tk xs) (ts.length - (n+1)) (n+1) ⟨s.nd,(ot.number,ot.level)::nY orr⟩=some s':=by
        have e2:(if jE (tk xs) (oc.number,oc.level) n=true then(⟨put2 s.nd oc.number n,(ot.number,g5 ot.level (some oc.level))::nY orr⟩:Sc)else⟨s.nd,(ot.number,ot.level)::nY orr⟩)=⟨s.nd,(ot.number,ot.level)::nY orr⟩:=af (by rw[hq];exact aE);rw[<-e2];exact hs'
       walk_at "rd";refine⟨kvs,ot::orr,⟨s.nd,(ot.number,ot.level)::nY orr⟩,_,_,_,rfl,hnd,by omega,rfl,?_,by rw[ay];omega,hs2,?_⟩
       ·intro o ho
        rcases aT.mp ho with rfl|ho
        ·exact hot
        ·exact hops2 o ho
       ·exact hH.sub (.cons_cons _ (.cons_cons _ (aW _ _)))
    ·refine bV h2 ?_;rw[Gh h1 h2,<-hst]at hs'
     match ops,hst,hops,hol,hs',hH,sub with
     |[],_,_,_,hs',_,_=>cases hs'
     |ot::orr,hst,hops,hol,hs',hH,sub=>
      have hl':=kd (iL orr) (V.ref ot.a);rw[<-jo]at hl';simp only[ay]at hol;walk_at "rd";walk_at "ix";walk_at "rd";walk_at "tn";refine⟨la,ts,xs,n,_,rfl,hT.up sub,hlt,hH,?_⟩;walk_at "tn";have hH:Holds _ ((d,.dK kvs)::(oa,.lst (iL (ot::orr)))::ot.c A::(orr.map (nr.c A)++Lc)):=hH;have hH:=Holds.reorder hH 3 [2,0,1] rfl;walk_at "ro";refine⟨ot,_,_,rfl,hH,fun H hH=>?_⟩;have hH:=Holds.reorder hH 3 [1,2,0] rfl;walk_at "ro";refine⟨kvs,{ot with level:=g5 ot.level (kF (tk xs) n)}::orr,⟨s.nd,(ot.number,g5 ot.level (kF (tk xs) n))::nY orr⟩,_,_,_,rfl,hnd,by omega,rfl,?_,by rw[ay];omega,hs',by rw[jo]at hH⊢;exact hH⟩;intro o ho
      rcases aT.mp ho with rfl|ho
      ·exact hops ot aA
      ·exact hops o (ah _ ho)
  ·rintro σ H' ⟨kvs,ops,s,v3,v4,v5,rfl,hnd,hk,hst,hops,hol,hs,hH⟩;rw[aP,mx]at hs;cases hs;walk_at "rd";exact k _ _ _ hnd (hH.sub (.cons_cons _ (.cons _ (aL _ _))))
theorem Og(d:List Ax.Line)(s:ag.St)(p:Nat):ag.step d s p .bad=none:=by
 cases s with
 |first x q w=>cases x<;>rfl
 |iC o rs=>cases o with
  |line x q w=>cases x<;>rfl
  |red=>rfl
 |_=>rfl
theorem Mn{xs:List Ax.Placed}:∀{d:List Ax.Line}{s:ag.St}{y:List Ax.Line×ag.St},steps d s xs=some y->∀x∈xs,x.2≠.bad:=by
 induction xs with
 |nil=>intro d s y h x hx;cases hx
 |cons z r ih=>
  intro d s y h x hx;obtain⟨p,z⟩:=z;have h':(match ag.step d s p z with|none=>none|some y=>steps y.1 y.2 r)=some y:=h;cases e:ag.step d s p z with
  |none=>rw[e]at h';cases h'
  |some w=>
   rw[e]at h'
   rcases aT.mp hx with rfl|hx
   ·intro q;dsimp only at q;rw[q,Og]at e;cases e
   ·exact ih h' x hx
theorem OJ(nd:Nat->Bool)(xs:List Ax.Tok)(n i:Nat):out nd xs (n+1) i=out nd xs n i++(if nd (i+n)=true then[]else cT (a7 xs (i+n))):=by
 rw[kq];show _++((if nd (i+n)=true then[]else cT (a7 xs (i+n)))++[])=_;rw[aK]
def GA(nd:Nat->Bool)(xs:List Ax.Tok):Nat->Ax.Bytes
 |0=>[]
 |n+1=>cT (a7 xs 0)++(32::out nd xs n 1)
theorem md(a b:Ax.Bytes):iv (a++b)=iv a++iv b:=bC ..
def qY(A:Ad):Sp:=fun vs H Q _=>∃(la:Addr)(ts:List cf)(xs:List Ax.Placed)(s':Sc)(Lc:List Cell),vs=[.ref la]/\qV A la ts xs Lc/\Holds H Lc/\scan (tk xs) ts.length 0 ⟨fun _=>false,[(0,6)]⟩=some s'/\0<ts.length/\s'.nd 0=false/\(∀x∈xs,x.2≠.bad)/\wt ts<=1024/\
 ∀H'(pa:Addr),(GA s'.nd (tk xs) ts.length).length<=wt ts+1->Holds H' ((pa,.lst (iv (GA s'.nd (tk xs) ts.length)))::Lc)->Q (.ref pa) H'
theorem AW(T:Txt P w K mg A):Ok P w K mg base 6 A.tH ["tokens"] (qY A):=by
 refine T.tP.ok ie (fun vs H Q E h=>?_) (fun cdv A' outer s H vs Q E hr h=>?_)
 ·walk_at "vl"
 ·obtain⟨la,ts,xs,s',Lc,rfl,hT,hH,hsc,h0,hn0,hbad,hwt,k⟩:=h;refine⟨_,(ae (bp (i:=1) ie.nd rfl (Or.inl rfl) (aI (qX T) (hr.mono (by decide)) (by rfl) T.k6.at_ (aa (pv 0) au)))
   (ae (bp (i:=2) ie.nd rfl (Or.inl rfl) (cX au))
   (ae (jj PassesOwn.never rfl (sX (by rfl) T.jT (aa (pv 0) au)) (wN rfl (iA (dX (i:=3) ie.nd rfl (Or.inl rfl)) (iA (dX (i:=4) ie.nd rfl (Or.inl rfl)) sY)))
   (ae (bg (fJ (DT (gx hr) (pv 3) (pv 1))) (ak (cN (hZ bj jK jI wW (pv 2) (aa (aC (pv 4) rfl) au)))) aQ)
   (ak (bg (aO cH (pv 3) aV (bb _)) (ak (cN (hZ bj bO bN e7 (pv 2) (aa (bZ (by rfl) T.Q0) au)))) aQ))))
   (ak (aF (pv 2)))))),?_⟩
  walk_at "rd";walk_at "tn";refine⟨la,ts,xs,s',Lc,rfl,hT,hH,hsc,h0,fun H d kvs hnd hH=>?_⟩;walk_at "rd";walk_at "nl";obtain⟨pa,rfl⟩:∃pa,pa=np:=⟨_,rfl⟩;walk_at "rd";refine⟨la,_,rfl,bY.of (hH.tl.tl.mem hT.lst),qK (K:=K) (a:=la) (xs:=ts.map fun d=>V.ref d.a) (fun n σ H'=>∃(v3 v4:Option V)(b:Ax.Bytes),σ=[some (.ref la),some (.ref d),some (.ref pa),v3,v4]/\b=GA s'.nd (tk xs) n/\b.length<=wt (ts.take n)+1/\Holds H' ((pa,.lst (iv b))::(d,.dK kvs)::Lc))
   ⟨none,none,[],rfl,rfl,cE _,hH⟩ (fun n σ H' _ ⟨_,_,_,_,_,_,h⟩=>bY.of (h.tl.tl.mem hT.lst)) ?_ ?_⟩
  ·rintro n y σ H' T' H2 hi ⟨v3,v4,b,rfl,eb,hlb,hH⟩ nT eT;have hH:=(Holds.oW eT hH nT).tl;rw[a9]at hi;obtain⟨t,hti,rfl⟩:=bS.mp hi;have hlt:=(az.mp hti).1;obtain⟨t1,ht1,hat,hc,hcp,hf,rl,hpr⟩:=hT.at_ hlt
   obtain rfl:t=t1:=bG (hti.symm.trans ht1);have hnb:a7 (tk xs) n≠.bad:=by
    obtain⟨x,hx,_⟩:=Ca hT.is hti;have e:a7 (tk xs) n=x.2:=by unfold a7 tk;rw[bP,a9,hx];rfl
    rw[e];exact hbad x (aH hx)
   have hpr:=hpr hnb;have hw1:wt (ts.take (n+1))=wt (ts.take n)+t.pr.length:=by rw[gR hti,oM,FT]
   have hw2:wt (ts.take (n+1))<=wt ts:=by
    have:=oM (ts.take (n+1)) (ts.drop (n+1));rw[eX]at this;omega
   walk_at "rd";refine⟨d,_,rfl,.inl ⟨kvs,.inl (n:Int),.inl (hH.get 1 rfl),rfl,rfl⟩,?_⟩;walk_at "rd";rw[hnd n];cases n with
   |zero=>
    rw[hn0];have eb0:b=[]:=eb;subst eb0;walk_at "rd";refine⟨ty_list (hH.get 0 rfl),?_⟩;walk_at "rd";walk_at "tn";refine FC hH 0 rfl (hH.tl.tl.mem hcp) (by rw[dC,dC,sizeLine_eq];simp;omega) fun H hH=>?_;rw[bH,<-md,List.nil_append]at hH;walk_at "rd";refine⟨ty_list (hH.get 0 rfl),?_⟩;walk_at "rd";walk_at "tn";refine jC hH 0 rfl (by rw[dC,sizeLine_eq];omega) fun H hH=>?_;rw[bH]at hH;refine⟨_,_,t.pr++[32],rfl,?_,?_,?_⟩
    ·rw[hpr];rfl
    ·rw[aq,aX];omega
    ·rw[md];exact hH
   |succ n=>
    have e2:GA s'.nd (tk xs) (n+1+1)=b++(if s'.nd (n+1)=true then[]else cT (a7 (tk xs) (n+1))):=by
     rw[eb];show cT (a7 (tk xs) 0)++(32::out s'.nd (tk xs) (n+1) 1)=(cT (a7 (tk xs) 0)++(32::out s'.nd (tk xs) n 1))++_;rw[OJ,Nat.add_comm 1 n,aw];rfl
    cases hq:s'.nd (n+1)with
    |true=>
     rw[hq]at e2;walk_at "rd";refine bV (fun q=>?_) ?_
     ·have:=ab q;simp at this;omega
     walk_at "rd";exact⟨_,_,b,rfl,by rw[e2];exact(aK _).symm,by omega,hH⟩
    |false=>
     rw[hq]at e2;walk_at "rd";refine⟨ty_list (hH.get 0 rfl),?_⟩;walk_at "rd";walk_at "tn";refine FC hH 0 rfl (hH.tl.tl.mem hcp) (by rw[dC,dC,sizeLine_eq];omega) fun H hH=>?_;rw[bH,<-md]at hH;walk_at "rd";refine bV (fun q=>?_) ?_
     ·have:=ab q;simp at this;omega
     walk_at "rd";refine⟨_,_,b++t.pr,rfl,by rw[e2,hpr];rfl,by rw[aq];omega,hH⟩
  ·rintro σ H' ⟨v3,v4,b,rfl,eb,hlb,hH⟩;rw[aP]at eb hlb;rw[dt]at hlb;subst eb;walk_at "rd";exact k _ _ hlb (hH.sub (.cons_cons _ (aW _ _)))
theorem yY{L:b0}{l:Ax.Line}(h:L.Is l):Form l/\∃(xs:List Ax.Placed)(s':Sc),Toks L.a6 xs/\(∀x∈xs,cQ x.2)/\(∀x∈xs,x.2≠.bad)/\0<L.a6.length/\scan (tk xs) L.a6.length 0 ⟨fun _=>false,[(0,6)]⟩=some s'/\s'.nd 0=false/\GA s'.nd (tk xs) L.a6.length=Ax.lineText l/\
  (ag.dw (a7 (tk xs) 0)=none/\isOpen (a7 (tk xs) 0)=false)/\∀i,i<L.a6.length->fz (a7 (tk xs) i)=true->i+1<L.a6.length:=by
 obtain⟨d,xs,h1,h2,h3⟩:=h.UP;have h4:=NL h3;obtain⟨b,n,e1,e2,e3,e4,e5⟩:=OW h4 fun x hx=>by
  obtain⟨y,hy,rfl⟩:=jL.mp hx;exact h2 y hy
 have hl:L.a6.length=n+1:=by rw[FX h1,<-e1];exact(aP _).symm
 obtain⟨nd',L',a1,a2,a3,a4⟩:=e4 (fun _=>false) 6 (fun _ _ _=>rfl) (gO _);refine⟨M6 h4,xs,⟨nd',[(0,L')]⟩,h1,h2,Mn h3,by omega,?_,?_,?_,?_,?_⟩
 ·rw[hl,qD (by rw[e2];rfl) (by rw[e2];rfl) (pY (by rw[e2];rfl))];exact a2
 ·exact a3 0 (by omega)
 ·rw[hl];show cT (a7 (tk xs) 0)++(32::out nd' (tk xs) n 1)=_;rw[a4,e2,e3];rfl
 ·rw[e2];exact⟨rfl,rfl⟩
 ·intro i hi hs;by_cases q:i=n
  ·rw[q,e5]at hs;cases hs
  ·omega
end aJ
namespace aJ
open Ax (Expr Bound Range Line What Bytes Bin Un Red Tok Placed Got andThen Program)
def HW(P:Program)(i j:Nat):Prop:=∃l m,P[i]? =some l/\P[j]? =some m/\m.name∈Ax.named l.body
inductive vE(P:Program)(i:Nat):Nat->Prop
 |one {j:Nat}:HW P i j->vE P i j
 |more {k j:Nat}:vE P i k->HW P k j->vE P i j
theorem rq{P:Program}{i j:Nat}:j∈Ax.linesNamed P i↔HW P i j:=by
 unfold Ax.linesNamed;constructor
 ·intro h;cases e:P[i]? with
  |none=>rw[e]at h;cases h
  |some l=>
   rw[e]at h;dsimp only at h;obtain⟨h1,h2⟩:=ic.mp h;cases e2:P[j]? with
   |none=>rw[e2]at h2;cases h2
   |some m=>
    rw[e2]at h2;exact⟨l,m,e,e2,dU.mp h2⟩
 ·rintro⟨l,m,e1,e2,h⟩;rw[e1];dsimp only;refine ic.mpr ⟨List.mem_range.mpr (az.mp e2).1,?_⟩;rw[e2];exact dU.mpr h
theorem IK{P:Program}{i:Nat}:(Ax.linesNamed P i).Sublist (List.range P.length):=by
 unfold Ax.linesNamed;cases P[i]? with
 |none=>exact gW _
 |some l=>exact List.filter_sublist
def yU(P:Program)(l:List Nat):List Nat:=(List.range P.length).filter fun(j:Nat)=>l.contains j||l.any fun(i:Nat)=>(Ax.linesNamed P i).contains j
theorem Qg{P:Program}{l:List Nat}(h:l.Sublist (List.range P.length)):l.Sublist (yU P l):=by
 have:l=l.filter fun(j:Nat)=>l.contains j||l.any fun(i:Nat)=>(Ax.linesNamed P i).contains j:=by
  rw[List.filter_eq_self.mpr];intro a ha;rw[dU.mpr ha];rfl
 rw[this];exact h.filter _ |>.trans (by unfold yU;rw[<-this];exact bt _)
theorem yK(P:Program)(i:Nat):∀(f:Nat)(l:List Nat),(∀j∈l,vE P i j)->∀j∈Ax.reached P f l,vE P i j
 |0,l,h=>h
 |f+1,l,h=>by
  show ∀j∈(if(yU P l).length=l.length then l else Ax.reached P f (yU P l)),vE P i j;split
  ·exact h
  ·refine yK P i f _ fun j hj=>?_;obtain⟨h1,h2⟩:=ic.mp hj
   rcases jz _ _ |>.mp h2 with h2|h2
   ·exact h j (dU.mp h2)
   ·obtain⟨k,hk,h3⟩:=lA.mp h2;exact .more (h k hk) (rq.mp (dU.mp h3))
theorem sU(P:Program):∀(f:Nat)(l:List Nat),l.Sublist (List.range P.length)->P.length+1<=f+l.length->(∀j∈l,j∈Ax.reached P f l)/\∀k∈Ax.reached P f l,∀j,HW P k j->j∈Ax.reached P f l
 |0,l,hs,hf=>by
  have:=hs.length_le;rw[List.length_range]at this;omega
 |f+1,l,hs,hf=>by
  have e:Ax.reached P (f+1) l=if(yU P l).length=l.length then l else Ax.reached P f (yU P l):=rfl
  rw[e];have hn:=Qg hs;by_cases q:(yU P l).length=l.length
  ·rw[ai q];refine⟨fun j hj=>hj,fun k hk j he=>?_⟩;have e2:l=yU P l:=hn.eq_of_length q.symm;rw[e2];obtain⟨x,m,_,e3,_⟩:=id he;refine ic.mpr ⟨List.mem_range.mpr (az.mp e3).1,?_⟩;refine jz _ _ |>.mpr (.inr (lA.mpr ⟨k,hk,dU.mpr (rq.mpr he)⟩))
  ·rw[af q];have hlt:l.length<(yU P l).length:=by have:=hn.length_le;omega
   obtain⟨h1,h2⟩:=sU P f (yU P l) List.filter_sublist (by omega);exact⟨fun j hj=>h1 j (hn.subset hj),h2⟩
theorem DX(P:Program)(i j:Nat):Ax.needs P i j=true↔vE P i j:=by
 unfold Ax.needs;rw[dU];obtain⟨h1,h2⟩:=sU P (P.length+1) (Ax.linesNamed P i) IK (by omega);constructor
 ·exact yK P i _ _ (fun j hj=>.one (rq.mp hj)) j
 ·intro h
  induction h with
  |one e=>exact h1 _ (rq.mpr e)
  |more _ e ih=>exact h2 _ ih _ e
structure HU(P:Program):Prop where
 names:∀{j k:Nat}{l m:Line},P[j]? =some l->P[k]? =some m->l.name=m.name->j=k
 there:∀l∈P,∀w∈Ax.named l.body,∃m∈P,m.name=w
theorem fQ(P:Program):∀(e:Expr)(there:List Bytes),Ax.wrongIn P e there=[]->∀w∈Ax.named e,∃m∈P,m.name=w
 | .num _,_,_,w,hw=>nomatch hw
 | .name _ _,_,_,w,hw=>nomatch hw
 | .elem p x n a b c d,there,h,w,hw=>by
  unfold Ax.wrongIn at h;have h1:=b9.mp h;have h2:=b9.mp h1.2;have h3:=b9.mp h2.2;have h4:=b9.mp h3.2;have hw':w∈x::(Ax.named a++(Ax.named b++(Ax.named c++Ax.named d))):=hw
  rcases aT.mp hw' with rfl|hw
  ·have h0:=h1.1;unfold Ax.arrayOf at h0;cases e:P.find? fun(l:Line)=>l.name==w with
   |none=>rw[e]at h0;cases h0
   |some l=>exact⟨l,gI e,eq_of_beq (show(l.name==w)=true from List.find?_some (p:=fun l:Line=>l.name==w) e)⟩
  ·rcases bU.mp hw with hw|hw
   ·exact fQ P a _ h2.1 w hw
   ·rcases bU.mp hw with hw|hw
    ·exact fQ P b _ h3.1 w hw
    ·rcases bU.mp hw with hw|hw
     ·exact fQ P c _ h4.1 w hw
     ·exact fQ P d _ h4.2 w hw
 | .un _ a,there,h,w,hw=>fQ P a there h w hw
 | .bin _ a b,there,h,w,hw=>by
  have h1:=b9.mp (show Ax.wrongIn P a there++Ax.wrongIn P b there=[]from h)
  rcases bU.mp (show w∈Ax.named a++Ax.named b from hw)with hw|hw
  ·exact fQ P a _ h1.1 w hw
  ·exact fQ P b _ h1.2 w hw
 | .cond a b c,there,h,w,hw=>by
  have h1:=b9.mp (show Ax.wrongIn P a there++(Ax.wrongIn P b there++Ax.wrongIn P c there)=[]from h);have h2:=b9.mp h1.2
  rcases bU.mp (show w∈Ax.named a++(Ax.named b++Ax.named c)from hw)with hw|hw
  ·exact fQ P a _ h1.1 w hw
  ·rcases bU.mp hw with hw|hw
   ·exact fQ P b _ h2.1 w hw
   ·exact fQ P c _ h2.2 w hw
 | .red _ rs a,there,h,w,hw=>by
  have h1:=b9.mp (show Ax.wrongRanges P there rs++Ax.wrongIn P a (Ax.names rs++there)=[]from h);exact fQ P a _ h1.2 w hw
theorem Hg{P:Program}:∀{ls before:Program},ag.dm P before ls=[]->(∀l∈ls,ag.fC P l=[])/\∀(k:Nat)(l:Line),ls[k]? =some l->(before++ls.take k).any (fun x=>x.name==l.name)=false
 |[],before,h=>⟨fun l hl=>(nomatch hl),fun k l hk=>by simp at hk⟩
 |x::ls,before,h=>by
  have h1:=b9.mp (show Ax.wrongLine P before x++ag.dm P (before++[x]) ls=[]from h);have h2:=h1.1;rw[vM]at h2;have h3:=b9.mp h2;have h4:=b9.mp h3.2;obtain⟨a,b⟩:=Hg h1.2;refine⟨fun l hl=>?_,fun k l hk=>?_⟩
  ·rcases aT.mp hl with rfl|hl
   ·exact h4.2
   ·exact a l hl
  ·cases k with
   |zero=>
    have hx:x=l:=bG hk;rw[List.take_zero,aK,<-hx];by_cases q:(before.any fun y=>y.name==x.name)=true
    ·rw[ai q]at h3;cases h3.1
    ·exact(b5 _).mp q
   |succ k=>
    have:=b k l hk;rw[aw]at this;exact this
theorem Q1{P:Program}(h:ag.dm P [] P=[])(fm:∀l∈P,Form l):HU P:=by
 obtain⟨h1,h2⟩:=Hg h;have lt:∀{j k:Nat}{l m:Line},P[j]? =some l->P[k]? =some m->l.name=m.name->¬j<k:=fun{j k l m} hj hk e hlt=>by
  have:=h2 k m hk;rw[List.nil_append]at this;have q:(P.take k).any (fun x=>x.name==m.name)=true:=by
   refine lA.mpr ⟨l,?_,by rw[e];exact beq_self_eq_true _⟩;refine aH (i:=j) ?_;rw[List.getElem?_take_of_lt hlt];exact hj
  rw[q]at this;cases this
 refine⟨fun{j k l m} hj hk e=>?_,fun l hl w hw=>?_⟩
 ·have a:=lt hj hk e;have b:=lt hk hj e.symm;omega
 ·have hb:=h1 l hl;have f:=fm l hl;unfold ag.fC at hb;cases e:l.what with
  |size=>rw[(f.1 e).2]at hw;cases hw
  |in_=>rw[f.2 e]at hw;cases hw
  |let_=>rw[e]at hb;exact fQ P _ _ (b9.mp hb).2 w hw
  |out=>rw[e]at hb;exact fQ P _ _ (b9.mp hb).2 w hw
theorem CU:¬("bound":PySem.Str)="array":=by decide +kernel
theorem E8:¬("range":PySem.Str)="array":=by decide +kernel
theorem IP:¬("end":PySem.Str)="array":=by decide +kernel
def kQ(ms:List gk):List Bytes:=(ms.filter fun m=>decide (m.pu=("array":PySem.Str))).map fun m=>m.name
theorem eh(a b:List gk):kQ (a++b)=kQ a++kQ b:=by unfold kQ;rw[List.filter_append,bC]
theorem rT{ms:List gk}(h:∀m∈ms,¬m.pu=("array":PySem.Str)):kQ ms=[]:=by
 unfold kQ;rw[List.filter_eq_nil_iff.mpr fun m hm=>by rw[aY (h m hm)];exact aE];rfl
theorem BS(b:Bound):∀m∈g7 b,¬m.pu=("array":PySem.Str):=by
 cases b with
 |num n=>intro m hm;cases hm
 |size p w=>
  intro m hm;cases bI.mp hm;exact CU
theorem yM(rs:List Range):∀m∈dZ rs,¬m.pu=("array":PySem.Str):=by
 intro m hm;obtain⟨r,_,hr⟩:=gX.mp hm
 rcases aT.mp hr with rfl|hr
 ·exact E8
 ·exact BS _ m hr
theorem fF:∀e:Expr,kQ (a5 e)=Ax.named e
 | .num _=>rfl
 | .name _ w=>rT fun m hm=>by cases bI.mp hm;exact va
 | .elem p w n a b c d=>by
  show kQ ([⟨"array",w,p,n⟩]++(a5 a++(a5 b++(a5 c++a5 d))))=w::_;rw[eh,eh,eh,eh,fF a,fF b,fF c,fF d];rfl
 | .un _ a=>fF a
 | .bin _ a b=>by
  show kQ (a5 a++a5 b)=_;rw[eh,fF a,fF b];rfl
 | .cond a b c=>by
  show kQ (a5 a++(a5 b++a5 c))=_;rw[eh,eh,fF a,fF b,fF c];rfl
 | .red _ rs a=>by
  show kQ (dZ rs++(a5 a++[⟨"end",[],0,rs.length⟩]))=_;rw[eh,eh,fF a,rT (yM rs),rT (ms:=[⟨"end",[],0,rs.length⟩]) fun m hm=>by cases bI.mp hm;exact IP,aK];rfl
theorem D2(l:Line):kQ (fP l)=Ax.named l.body:=by
 unfold fP;rw[eh,fF,rT,List.nil_append];unfold fS;intro m hm;split at hm
 ·obtain⟨r,_,hr⟩:=gX.mp hm;exact BS _ m hr
 ·exact yM _ m hm
end aJ
namespace aJ
open PySem PySem.Spec PyProof.Rows L2
variable{P:Program}{w:World}{K:PySem.W.Frag}{mg:Str->Option Value}{base:Heap}{A:Ad}
local macro_rules | `(tactic| walk_at "look") => `(tactic| first | assumption | exact Holds.mem (by assumption) (by assumption) | exact Holds.get (by assumption) _ (by assumption) | exact Holds.mem (Holds.tl (by assumption)) (by assumption) | exact Holds.mem (Holds.tl (Holds.tl (by assumption))) (by assumption) | exact Holds.get (by assumption) 0 rfl | exact Holds.get (by assumption) 1 rfl | exact Holds.get (by assumption) 2 rfl | exact Holds.get (by assumption) 3 rfl | exact Holds.get (by assumption) 4 rfl | exact Holds.get (by assumption) 5 rfl | exact Holds.get (by assumption) 6 rfl | exact Holds.get (by assumption) 7 rfl | exact Holds.get (by assumption) 8 rfl | exact Holds.get (by assumption) 9 rfl | exact Holds.get (by assumption) 10 rfl | exact Holds.get (by assumption) 11 rfl | exact Holds.get (by assumption) 12 rfl | exact Holds.get (by assumption) 13 rfl | exact Holds.get (by assumption) 14 rfl | exact Holds.get (by assumption) 15 rfl)
local macro_rules | `(tactic| walk_at "cls") => do
  let T := Lean.mkIdent `T
  `(tactic| first | exact ($T).SK | exact ($T).NK | exact ($T).Q7 | exact ($T).Q8 | exact ($T).Pf | exact ($T).Pg | exact ($T).SM | exact ($T).TX)
local macro_rules | `(tactic| walk_at "na") => do
  let T := Lean.mkIdent `T
  `(tactic| first | exact ($T).IT | exact ($T).IV | exact ($T).GW | exact ($T).IW | exact ($T).IU | exact ($T).Fg | exact ($T).A8 | exact ($T).yA | exact ($T).CY | exact ($T).A6 | exact ($T).A7 | exact ($T).GV | exact ($T).Fb | exact ($T).A2 | exact ($T).GU | exact ($T).C1 | exact ($T).C0 | exact ($T).GY | exact ($T).Fh | exact ($T).zR | exact ($T).Fi | exact ($T).CZ | exact ($T).zS | exact ($T).GX | exact ($T).A9 | exact ($T).zQ | exact ($T).CV | exact ($T).Fe | exact ($T).zP | exact ($T).A4 | exact ($T).A3 | exact ($T).Ff | exact ($T).yz | exact ($T).A5 | exact ($T).CW | exact ($T).C2 | exact ($T).C3 | exact ($T).Fd | exact ($T).Fc)
local macro_rules | `(tactic| walk_at "idx") => `(tactic| first | (show (_ : List Cell)[0]? = _; rfl) | (show (_ : List Cell)[1]? = _; rfl) | (show (_ : List Cell)[2]? = _; rfl) | (show (_ : List Cell)[3]? = _; rfl) | (show (_ : List Cell)[4]? = _; rfl) | (show (_ : List Cell)[5]? = _; rfl) | (show (_ : List Cell)[6]? = _; rfl) | (show (_ : List Cell)[7]? = _; rfl) | (show (_ : List Cell)[8]? = _; rfl) | (show (_ : List Cell)[9]? = _; rfl) | (show (_ : List Cell)[10]? = _; rfl) | (show (_ : List Cell)[11]? = _; rfl) | (show (_ : List Cell)[12]? = _; rfl) | (show (_ : List Cell)[13]? = _; rfl) | (show (_ : List Cell)[14]? = _; rfl) | (show (_ : List Cell)[15]? = _; rfl))
local macro_rules | `(tactic| walk_at "nrm") => do
  let h := Lean.mkIdent `hH
  `(tactic| simp only [List.set_cons_zero, List.set_cons_succ, EV, EX, CD, EY, EW, AL, yq, vJ, zz, yo, yp, CC, AG, yk, CB, zC, zB, CG, AM, wI, AN, zA, wJ, CF, yr, wH, zx, AJ, wG, ym, yl, AK, vI, yn, zy, zD, zE, AI, AH] at $h:ident)
local macro_rules | `(tactic| walk_at "in") => do
  let h := Lean.mkIdent `hH
  let H := Lean.mkIdent `H
  `(tactic| (intro $H:ident $h:ident; try walk_at "nrm"))
local macro_rules | `(tactic| walk_at "inp") => do
  let h := Lean.mkIdent `hH
  let H := Lean.mkIdent `H
  let p := Lean.mkIdent `np
  `(tactic| (intro $p:ident $H:ident $h:ident; try walk_at "nrm"))
local macro_rules | `(tactic| walk_at "rd1") => `(tactic| first | refine ⟨_, rfl, ?_⟩ | (refine' U6 ⟨rfl, ?k1, ?k2, ?k3, ?k4, ?k5⟩; (case k1 => walk_at "look"); (case k2 => walk_at "cls"); (case k3 => walk_at "na"); (case k4 => rfl)) | refine ⟨_, _, rfl, rfl, ?_⟩ | refine ⟨rfl, ?_⟩)
local macro_rules | `(tactic| walk_at "rd") => `(tactic| repeat (walk_at "rd1"))
local macro_rules | `(tactic| walk_at "st") => `(tactic| (refine' Uc (by assumption) ?k0 ?k1 ?k2 ?k3 ?k4 ?k5; (case k1 => walk_at "idx"); (case k2 => walk_at "cls"); (case k3 => walk_at "na"); (case k4 => with_unfolding_all exact of_decide_eq_true rfl); walk_at "in"))
local macro_rules | `(tactic| walk_at "aug") => `(tactic| (refine' S9 (by assumption) ?k0 ?k1 ?k4 ?k5; (case k1 => walk_at "idx"); (case k4 => with_unfolding_all exact of_decide_eq_true rfl); walk_at "in"))
local macro_rules | `(tactic| walk_at "new") => do
  let h := Lean.mkIdent `hH
  let H := Lean.mkIdent `H
  let p := Lean.mkIdent `np
  `(tactic| (intro $p:ident n; generalize hE : upd _ _ _ = $H:ident; have $h:ident := Holds.oW hE (by assumption) n; clear hE n))
local macro_rules | `(tactic| walk_at "nl") => `(tactic| (refine ⟨by with_unfolding_all exact of_decide_eq_true rfl, ?_⟩; walk_at "new"))
local macro_rules | `(tactic| walk_at "mk") => do
  let h := Lean.mkIdent `hH
  let H := Lean.mkIdent `H
  let x := Lean.mkIdent `x
  let dx := Lean.mkIdent `dx
  `(tactic| (intro $x:ident $dx:ident n m e; generalize hE : upd (upd _ _ _) _ _ = $H:ident; have $h:ident := Holds.QE hE (by assumption) n m e; clear hE n m e))
local macro_rules | `(tactic| walk_at "br") => `(tactic| first | refine cn (by assumption) ?_ | refine bV (by assumption) ?_ | refine UG ?_ | refine Ll ?_)
local macro_rules | `(tactic| walk_at "go") => `(tactic| repeat (first | walk_at "rd1" | walk_at "br"))
local macro_rules | `(tactic| walk_at "len") => `(tactic| (refine' SA ⟨rfl, .inl (bY.of ?k1), ?k2⟩; (case k1 => walk_at "look")))
local macro_rules | `(tactic| walk_at "ix") => `(tactic| (refine' UN ⟨rfl, rfl, bY.of ?k1, ?k2, ?k3⟩; (case k1 => walk_at "look"); (case k2 => first | assumption | exact Lk (by assumption))))
local macro_rules | `(tactic| walk_at "vl") => do
  let h := Lean.mkIdent `h
  `(tactic| ((repeat (obtain ⟨_, $h:ident⟩ := $h:ident)); subst_vars; rfl))
local macro_rules | `(tactic| walk_at "unf") => do
  let h := Lean.mkIdent `hH
  `(tactic| simp only [d8.c, k8.c, cx.c, fK.c, cf.c1, cf.c2] at $h:ident)
local macro_rules | `(tactic| walk_at "ro") => do
  let h := Lean.mkIdent `hH
  `(tactic| simp only [List.filterMap_cons, List.filterMap_nil, List.getElem?_cons_zero, List.getElem?_cons_succ, List.cons_append, List.nil_append, List.drop_succ_cons, List.drop_zero] at $h:ident)
local macro_rules | `(tactic| walk_at "tn") => `(tactic| dsimp only [qf, FE, tC, List.cons_append, List.nil_append])
structure o2(Pr:Ax.Program)(i:Nat)(M:Ax.Bytes->Bool)(W:List Nat)(cur:Option Nat):Prop where
 wr:∀k∈W,k=i\/vE Pr i k
 mr:∀w,M w=true->∃(j:Nat)(l:Ax.Line),Pr[j]? =some l/\l.name=w/\vE Pr i j
 cl:∀(k:Nat)(l:Ax.Line),Pr[k]? =some l->(k=i\/M l.name=true)->k∈W\/cur=some k\/∀w∈Ax.named l.body,M w=true
 cr:∀k,cur=some k->k=i\/vE Pr i k
def addW(M:Ax.Bytes->Bool)(w:Ax.Bytes):Ax.Bytes->Bool:=fun x=>if x=w then true else M x
theorem o2.start(Pr:Ax.Program)(i:Nat):o2 Pr i (fun _=>false) [i] none:=by
 refine⟨fun k hk=>.inl (bI.mp hk),fun w h=>(nomatch h),fun k l hk h=>?_,fun k h=>(nomatch h)⟩
 rcases h with rfl|h
 ·exact .inl aA
 ·cases h
theorem o2.pop{Pr:Ax.Program}{i:Nat}{M:Ax.Bytes->Bool}{W:List Nat}{k:Nat}(h:o2 Pr i M (W++[k]) none):o2 Pr i M W (some k):=by
 refine⟨fun j hj=>h.wr j (cM _ hj),h.mr,fun j l hj hc=>?_,fun j hj=>by cases hj;exact h.wr k (aU _ aA)⟩
 rcases h.cl j l hj hc with q|q|q
 ·rcases bU.mp q with q|q
  ·exact .inl q
  ·cases bI.mp q;exact .inr (.inl rfl)
 ·cases q
 ·exact .inr (.inr q)
theorem o2.meet{Pr:Ax.Program}{i:Nat}{M:Ax.Bytes->Bool}{W:List Nat}{k j:Nat}{l m:Ax.Line}(h:o2 Pr i M W (some k))(fn:HU Pr)(hk:Pr[k]? =some l)(hj:Pr[j]? =some m)(hm:m.name∈Ax.named l.body):o2 Pr i (addW M m.name) (W++[j]) (some k):=by
 have hr:vE Pr i j:=by
  have e:HW Pr k j:=⟨l,m,hk,hj,hm⟩
  rcases h.cr k rfl with rfl|q
  ·exact .one e
  ·exact .more q e
 have mono:∀w,M w=true->addW M m.name w=true:=fun w q=>by unfold addW;split<;>first|rfl|exact q
 refine⟨fun x hx=>?_,fun w hw=>?_,fun x y hx hc=>?_,h.cr⟩
 ·rcases bU.mp hx with q|q
  ·exact h.wr x q
  ·cases bI.mp q;exact .inr hr
 ·unfold addW at hw;by_cases q:w=m.name
  ·exact⟨j,m,hj,q.symm,hr⟩
  ·rw[af q]at hw;exact h.mr w hw
 ·by_cases q:y.name=m.name
  ·have:=fn.names hx hj q;subst this;exact .inl (aU _ aA)
  ·have hc':x=i\/M y.name=true:=by
    rcases hc with hc|hc
    ·exact .inl hc
    ·unfold addW at hc;rw[af q]at hc;exact .inr hc
   rcases h.cl x y hx hc' with z|z|z
   ·exact .inl (cM _ z)
   ·exact .inr (.inl z)
   ·exact .inr (.inr fun w hw=>mono w (z w hw))
theorem o2.over{Pr:Ax.Program}{i:Nat}{M:Ax.Bytes->Bool}{W:List Nat}{k:Nat}{l:Ax.Line}(h:o2 Pr i M W (some k))(hk:Pr[k]? =some l)(ha:∀w∈Ax.named l.body,M w=true):o2 Pr i M W none:=by
 refine⟨h.wr,h.mr,fun x y hx hc=>?_,fun x q=>(nomatch q)⟩
 rcases h.cl x y hx hc with z|z|z
 ·exact .inl z
 ·cases z;rw[hk]at hx;cases hx;exact .inr (.inr ha)
 ·exact .inr (.inr z)
theorem o2.final{Pr:Ax.Program}{i j:Nat}{M:Ax.Bytes->Bool}{m:Ax.Line}(h:o2 Pr i M [] none)(fn:HU Pr)(hj:Pr[j]? =some m):M m.name=Ax.needs Pr i j:=by
 have all:∀k,vE Pr i k->∀l,Pr[k]? =some l->M l.name=true:=by
  intro k hr
  induction hr with
  |one e=>
   obtain⟨a,b,h1,h2,h3⟩:=e;intro l hl;rw[h2]at hl;cases hl
   rcases h.cl _ _ h1 (.inl rfl)with z|z|z
   ·cases z
   ·cases z
   ·exact z _ h3
  |more _ e ih=>
   obtain⟨a,b,h1,h2,h3⟩:=e;intro l hl;rw[h2]at hl;cases hl
   rcases h.cl _ _ h1 (.inr (ih _ h1))with z|z|z
   ·cases z
   ·cases z
   ·exact z _ h3
 cases e:Ax.needs Pr i j with
 |true=>exact all j ((DX _ _ _).mp e) m hj
 |false=>
  cases q:M m.name with
  |false=>rfl
  |true=>
   obtain⟨j',l,h1,h2,h3⟩:=h.mr _ q;have:=fn.names h1 hj h2;subst this;rw[(DX _ _ _).mpr h3]at e;cases e
def qb(Pr:Ax.Program)(M:Ax.Bytes->Bool):Nat:=Pr.countP fun l=>!M l.name
theorem P9{Pr:Ax.Program}{M:Ax.Bytes->Bool}{m:Ax.Line}(hm:m∈Pr)(h:M m.name=false):qb Pr (addW M m.name)+1<=qb Pr M:=by
 unfold qb
 induction Pr with
 |nil=>cases hm
 |cons x Pr ih=>
  have le:∀Q:Ax.Program,Q.countP (fun l=>!addW M m.name l.name)<=Q.countP (fun l=>!M l.name):=fun Q=>List.countP_mono_left fun l _ q=>by
   unfold addW at q;by_cases z:l.name=m.name
   ·rw[ai z]at q;cases q
   ·rw[af z]at q;exact q
  rw[List.countP_cons,List.countP_cons]
  rcases aT.mp hm with rfl|hm
  ·have e1:addW M m.name m.name=true:=ai rfl;rw[e1,h];have:=le Pr;simp;omega
  ·have i1:=ih hm;have i2:(if(!addW M m.name x.name)=true then 1 else 0)<=(if(!M x.name)=true then 1 else 0):=by
    unfold addW;by_cases z:x.name=m.name
    ·rw[ai z];simp
    ·rw[af z];exact aD _
   omega
def gK(kv:List (Key×V)):Ax.Bytes->Bool:=fun w=>(cv kv (.inr (sb w))).isSome
theorem OR(kv:List (Key×V))(w:Ax.Bytes)(v:V):gK (putK kv (.inr (sb w)) v)=addW (gK kv) w:=by
 funext x
 unfold gK addW;rw[lB];by_cases q:x=w
 ·rw[ai (by rw[q]),ai q];rfl
 ·rw[af fun z=>q (AD (Sum.inr.inj z)),af q]
theorem NY{ms:List gk}{n:Nat}{x:gk}(h:ms[n]? =some x):kQ (ms.take (n+1))=kQ (ms.take n)++(if x.pu=("array":Str)then[x.name]else[]):=by
 rw[gR h,eh];congr 1;unfold kQ;rw[lz,List.filter_nil];by_cases q:x.pu=("array":Str)
 ·rw[ai (ao q),ai q];rfl
 ·rw[af (fun z=>q (ab z)),af q];rfl
abbrev N4(Ls WL:List b0)(Wk:List Nat):Prop:=Paired (fun L k=>Ls[k]? =some L) WL Wk
theorem OZ{Ls WL:List b0}{Wk:List Nat}(h:N4 Ls WL Wk)(ne:WL≠[]):∃WL' Wk' L k,WL=WL'++[L]/\Wk=Wk'++[k]/\Ls[k]? =some L/\N4 Ls WL' Wk':=by
 induction h with
 |nil=>exact absurd rfl ne
 |cons r t ih=>
  rename_i a b as bs;cases t with
  |nil=>exact⟨[],[],_,_,rfl,rfl,r,.nil⟩
  |cons r2 t2=>
   obtain⟨WL',Wk',L,k,e1,e2,e3,e4⟩:=ih (by simp);exact⟨_::WL',_::Wk',L,k,by rw[e1];rfl,by rw[e2];rfl,e3,.cons r e4⟩
def Kv(A:Ad):Sp:=fun vs H Q _=>∃(la:Addr)(Ls:List b0)(Pr:Ax.Program)(i j:Nat)(Lc:List Cell),vs=[.ref la,.int (i:Int),.int (j:Int)]/\Holds H Lc/\(la,.lst (bB Ls))∈Lc/\pG A Ls Lc/\oK Ls Pr/\Ls.length<=1024/\i<Ls.length/\j<Ls.length/\HU Pr/\
 ∀H',Holds H' Lc->Q (.bl (Ax.needs Pr i j)) H'
theorem K3(T:Txt P w K mg A):Ok P w K mg base 2 A.Ec ["lines","needing","needed"] (Kv A):=by
 refine T.Ej.ok iZ (fun vs H Q E h=>?_) (fun cdv A' outer s H vs Q E hr h=>?_)
 ·walk_at "vl"
 ·obtain⟨la,Ls,Pr,i,j,Lc,rfl,hH,ha,hL,ln,hz,hi,hj,fn,k⟩:=h;refine⟨_,(ae (bp (i:=3) iZ.nd rfl (Or.inl rfl) (aI (ma T) (hr.mono (by decide)) (by rfl) T.jd.at_ (aa (pv 0) au)))
   (ae (bp (i:=4) iZ.nd rfl (Or.inl rfl) uv)
   (ae (bp (i:=5) iZ.nd rfl (Or.inl rfl) (cX (aa (de cO (pv 0) (pv 1) (fun _ _=>rfl)) au)))
   (ae (nS PassesOwn.never (zF (pv 5) (fun _=>rfl)) (ae (bp (i:=6) iZ.nd rfl (Or.inl rfl) (Gy bj lZ lY GZ (pv 5)))
   (ak (jj PassesOwn.never rfl (l9 (aC (pv 6) rfl)) (dX (i:=7) iZ.nd rfl (Or.inl rfl))
   (ak (bg (PW.pt (jP (aO cH (aC (pv 7) rfl) (el (by rfl) T.Df) (bb _)) (iJ (fJ (DT (gx hr) (aC (pv 7) rfl) (pv 4)))))) (ae (xX (gx hr) (pv 4) (aC (pv 7) rfl) jD rfl)
   (ak (cN (hZ bj bO bN e7 (pv 5) (aa (Qz (gx hr) (pv 3) (aC (pv 7) rfl) (fun _ _=>rfl)) au))))) aQ))))))
   (ae (bp (i:=8) iZ.nd rfl (Or.inl rfl) (de cO (pv 0) (pv 2) (fun _ _=>rfl)))
   (ak (aF (MK (MM (gx hr) (aC (pv 8) rfl) (pv 4)))))))))),?_⟩
  have hp:=eA ln;have hLi:Ls[i]? =some Ls[i]:=aN hi;have hLj:Ls[j]? =some Ls[j]:=aN hj;have hat:∀{n:Nat}{L:b0},Ls[n]? =some L->nk (bB Ls) (n:Int)=some (V.ref L.ln.a):=fun{n L} q=>mh (by unfold bB;rw[a9,q];rfl);walk_at "rd";walk_at "tn";refine⟨la,Ls,Pr,Lc,rfl,hH,ha,hL,ln,hz,fun H d kvs fd hH=>?_⟩;walk_at "rd";walk_at "new";obtain⟨e,rfl⟩:∃e,e=np:=⟨_,rfl⟩;walk_at "rd";have h1:=hat hLi;have h2:=hat hLj;have hlm:=hH.tl.tl.mem ha;walk_at "ix";walk_at "tn";refine⟨by with_unfolding_all exact ab rfl,?_⟩;walk_at "new";obtain⟨wa,rfl⟩:∃wa,wa=np:=⟨_,rfl⟩;walk_at "rd";refine⟨fun m σ H'=>∃(kv2:List (Key×V))(WL:List b0)(Wk:List Nat)(v6 v7 v8:Option V),σ=[some (.ref la),some (.int (i:Int)),some (.int (j:Int)),some (.ref d),some (.ref e),some (.ref wa),v6,v7,v8]/\
    N4 Ls WL Wk/\o2 Pr i (gK kv2) Wk none/\m=2*qb Pr (gK kv2)+WL.length/\kv2.length+qb Pr (gK kv2)<=Pr.length/\WL.length+qb Pr (gK kv2)<=Pr.length+1/\Holds H' ((wa,.lst (bB WL))::(e,.dK kv2)::(d,.dK kvs)::Lc),
   ⟨_,[],[Ls[i]],[i],none,none,none,rfl,.cons hLi .nil,o2.start Pr i,rfl,by show 0+_<=_;rw[mv];exact List.countP_le_length,by show 1+qb Pr _<=_;rw[Nat.add_comm];exact Nat.succ_le_succ List.countP_le_length,hH⟩,?_⟩
  rintro m σ H' ⟨kv2,WL,Wk,v6,v7,v8,rfl,ix,df,rfl,hk2,hwl,hH'⟩;by_cases hne:WL=[]
  ·subst hne;cases ix;walk_at "rd";refine⟨false,.inl ⟨[],bY.of (hH'.get 0 rfl),rfl⟩,?_⟩;have hlm:=hH'.tl.tl.tl.mem ha;obtain⟨mj,hmj,isj⟩:=eY ln hLj;have hcj:=hH'.tl.tl.tl.mem (kU hL (aH hLj));walk_at "rd";walk_at "ix";walk_at "rd";refine⟨e,_,rfl,.inl ⟨kv2,.inr Ls[j].ln.name,.inl (hH'.get 1 rfl),rfl,rfl⟩,?_⟩;have fin:=df.final fn hmj;unfold gK at fin;rw[<-isj.head.name]at fin;show Q (.bl (cv kv2 (.inr Ls[j].ln.name)).isSome) H';rw[fin];exact k _ hH'.tl.tl.tl
  ·obtain⟨WL',Wk',L,kx,rfl,rfl,hLk,ix'⟩:=OZ ix hne;obtain⟨l,hlk,lis⟩:=eY ln hLk;have hmem:=aH hLk;have hml:=MW hL hmem;have hc:=kU hL hmem;rw[aq,aX]at hwl;walk_at "rd";refine⟨true,.inl ⟨_,bY.of (hH'.get 0 rfl),by rw[lg];cases bB WL'<;>rfl⟩,?_⟩;refine⟨fun σ H1=>∃(kv2':List (Key×V))(WL2:List b0)(Wk2:List Nat)(v6 v7 v8:Option V),σ=[some (.ref la),some (.int (i:Int)),some (.int (j:Int)),some (.ref d),some (.ref e),some (.ref wa),v6,v7,v8]/\
    N4 Ls WL2 Wk2/\o2 Pr i (gK kv2') Wk2 none/\2*qb Pr (gK kv2')+WL2.length<2*qb Pr (gK kv2)+(WL'++[L]).length/\kv2'.length+qb Pr (gK kv2')<=Pr.length/\WL2.length+qb Pr (gK kv2')<=Pr.length+1/\Holds H1 ((wa,.lst (bB WL2))::(e,.dK kv2')::(d,.dK kvs)::Lc),?_,?_⟩
   ·rintro σ H1 ⟨kv3,WL2,Wk2,w6,w7,w8,rfl,q1,q2,q3,q4,q5,q6⟩;exact⟨_,q3,kv3,WL2,Wk2,w6,w7,w8,rfl,q1,q2,rfl,q4,q5,q6⟩
   ·rw[lg]at hH';walk_at "rd";refine⟨ty_list (hH'.get 0 rfl),?_⟩;refine t7 (y:=V.ref L.ln.a) hH' 0 rfl (by rw[aq,aX,bx,dj (aD _),mx];rfl) fun H hH=>?_;rw[bH,fk]at hH;have hcH:=hH.tl.tl.tl.mem hc;walk_at "rd";refine⟨⟨_,bY.of (hH.tl.tl.tl.mem hml)⟩,oj (K:=K) (a:=L.ln.ml) (xs:=b8 L.ms) (fun n σ H1=>∃(kv3:List (Key×V))(WL2:List b0)(Wk2:List Nat)(v7 v8:Option V),σ=[some (.ref la),some (.int (i:Int)),some (.int (j:Int)),some (.ref d),some (.ref e),some (.ref wa),some (.ref L.ln.a),v7,v8]/\
      N4 Ls WL2 Wk2/\o2 Pr i (gK kv3) Wk2 (some kx)/\(∀w∈kQ ((fP l).take n),gK kv3 w=true)/\2*qb Pr (gK kv3)+WL2.length<2*qb Pr (gK kv2)+(WL'++[L]).length/\kv3.length+qb Pr (gK kv3)<=Pr.length/\WL2.length+qb Pr (gK kv3)<=Pr.length/\Holds H1 ((wa,.lst (bB WL2))::(e,.dK kv3)::(d,.dK kvs)::Lc))
     ⟨kv2,WL',Wk',_,_,rfl,ix',df.pop,fun w hw=>(nomatch hw),by rw[aq,aX];omega,hk2,by omega,hH⟩ (fun n σ H1 _ ⟨_,_,_,_,_,_,_,_,_,_,_,_,h⟩=>bY.of (h.tl.tl.tl.mem hml)) ?_ ?_⟩
    ·rintro n y σ H1 hy ⟨kv3,WL2,Wk2,v7,v8,rfl,ix3,df3,har,hlt3,hk3,hw3,hH⟩;unfold b8 at hy;rw[a9]at hy;obtain⟨mn,hmi,rfl⟩:=bS.mp hy;obtain⟨x,hx,mi⟩:=eY lis.bo hmi;have hmm:=hH.tl.tl.tl.mem (C5 hL hmem (aH hmi));have hta:=NY hx;walk_at "rd";rw[dS,mi.pu];by_cases h3:x.pu="array"
     ·rw[ai h3]at hta;refine cn (ao h3) ?_;have hxn:x.name∈Ax.named l.body:=by
       rw[<-D2 l];have:=eX (n+1) (fP l);rw[<-this,eh,hta];exact cM _ (aU _ aA)
      have hmB:gK kv3 x.name=(cv kv3 (.inr mn.name)).isSome:=by rw[mi.name];rfl
      walk_at "rd";refine⟨e,_,rfl,.inl ⟨kv3,.inr mn.name,.inl (hH.get 1 rfl),rfl,rfl⟩,_,rfl,?_⟩;show if(!(cv kv3 (.inr mn.name)).isSome)=true then _ else _
      rw[<-hmB];cases h4:gK kv3 x.name with
      |true=>
       refine bV (by simp) ?_;walk_at "rd";refine⟨kv3,WL2,Wk2,_,_,rfl,ix3,df3,fun w hw=>?_,hlt3,hk3,hw3,hH⟩;rw[hta]at hw
       rcases bU.mp hw with hw|hw
       ·exact har w hw
       ·cases bI.mp hw;exact h4
      |false=>
       refine cn (by simp) ?_;walk_at "rd";obtain⟨dp,hH⟩:=Al (k:=.inr mn.name) (y:=.bl true) hH 1 rfl (by rw[sizeLine_eq];omega);refine⟨e,_,rfl,dp,?_⟩;clear dp;rw[gc,bH]at hH;have hmm:=hH.tl.tl.tl.mem (C5 hL hmem (aH hmi));have hpl:=pX kv3 (.inr mn.name) (V.bl true);obtain⟨m,hmP,hmn⟩:=fn.there l (aH hlk) x.name hxn;have hfd:=fd x.name;cases hfi:Pr.findIdx? fun l=>l.name==x.name with
       |none=>
        have:=List.findIdx?_eq_none_iff.mp hfi m hmP;rw[hmn,beq_self_eq_true]at this;cases this
       |some jx=>
        rw[hfi]at hfd;obtain⟨Lx,hLx,hvx⟩:=hfd;obtain⟨lx,hlx,_⟩:=eY ln hLx;have hnx:lx.name=x.name:=by
         obtain⟨q1,q2,_⟩:=gN.mp hfi;obtain⟨_,q3⟩:=az.mp hlx;rw[q3]at q2;exact eq_of_beq q2
        walk_at "rd";refine⟨ty_list (hH.get 0 rfl),?_⟩;walk_at "rd";refine⟨d,V.ref Lx.ln.a,rfl,.inl ⟨kvs,.inr mn.name,.inl (hH.get 2 rfl),rfl,by rw[mi.name];exact hvx.symm⟩,?_⟩;walk_at "tn";refine jC hH 0 rfl (by rw[fw,sizeLine_eq];omega) fun H hH=>?_;rw[bH,<-lg]at hH;have hmt:gK (putK kv3 (.inr mn.name) (V.bl true))=addW (gK kv3) lx.name:=by rw[mi.name,OR,hnx]
        have hun:=P9 (M:=gK kv3) (aH hlx) (by rw[hnx];exact h4);refine⟨putK kv3 (.inr mn.name) (V.bl true),WL2++[Lx],Wk2++[jx],_,_,rfl,yO ix3 hLx,?_,fun w hw=>?_,?_,?_,?_,hH⟩
        ·rw[hmt];exact df3.meet fn hlk hlx (by rw[hnx];exact hxn)
        ·rw[hmt];rw[hta]at hw;unfold addW;by_cases q:w=lx.name
         ·rw[ai q]
         ·rw[af q]
          rcases bU.mp hw with hw|hw
          ·exact har w hw
          ·cases bI.mp hw;exact absurd hnx.symm q
        ·rw[hmt,aq,aX];omega
        ·rw[hmt];omega
        ·rw[hmt,aq,aX];omega
     ·rw[af h3,aK]at hta;refine bV (fun q=>h3 (ab q)) ?_;walk_at "rd";exact⟨kv3,WL2,Wk2,_,_,rfl,ix3,df3,by rw[hta];exact har,hlt3,hk3,hw3,hH⟩
    ·rintro σ H1 ⟨kv3,WL2,Wk2,v7,v8,rfl,ix3,df3,har,hlt3,hk3,hw3,hH⟩;rw[oG,eA lis.bo,dt,D2]at har;exact⟨kv3,WL2,Wk2,_,_,_,rfl,ix3,df3.over hlk har,hlt3,hk3,by omega,hH⟩
def nt(K:PySem.W.Frag)(F:List Cell)(na:Addr)(cs:List Int):Prop:=∀H:Hp,(∀c∈F,H c.1=some c.2)->bY K H na (zs cs)
theorem nt.up{K:PySem.W.Frag}{F F':List Cell}{na:Addr}{cs:List Int}(h:nt K F na cs)(s:∀c∈F,c∈F'):nt K F' na cs:=fun H q=>h H fun c hc=>q c (s c hc)
theorem nt.get{K:PySem.W.Frag}{F:List Cell}{na:Addr}{cs:List Int}(h:nt K F na cs){H:Hp}{L:List Cell}(hH:Holds H L)(s:∀c∈F,c∈L):bY K H na (zs cs):=h H fun c hc=>hH.at_ c (s c hc)
structure jt where
 a:Addr
 dx:Addr
 na:Addr
 r:Nat
def jt.c(A:Ad)(r:jt):Cell:=(r.a,.ins A.rY r.dx (Mw r.na (r.r:Int)))
theorem P6(pre t rest:List Int):j0 (zs (pre++(t++rest))) (some (pre.length:Int)) (some ((pre.length+t.length:Nat):Int))=zs t:=by
 unfold j0 zs;rw[HT.kl,HT.kl,aP,aq,aq,eJ (by omega),eJ (by omega),<-ji,<-List.map_take,List.drop_left' rfl,fH,List.take_left' rfl]
def Qk(A:Ad):Sp:=fun vs H Q _=>∃(x dx na:Addr)(F:List Cell),vs=[.ref x,.ref na]/\Holds H ((x,.ins A.rY dx [])::F)/\∀H':Hp,Holds H' (jt.c A ⟨x,dx,na,0⟩::F)->Q .bA H'
theorem R5(T:Txt P w K mg A):lX P w K mg base 1 A.rY [] (Qk A):=by
 refine T.TH.ok AB (fun vs H Q E h=>?_) (fun f cdv A' outer s H vs Q E hr h=>?_) [] (by simp)
 ·walk_at "vl"
 ·obtain⟨x,dx,na,F,rfl,hH,k⟩:=h;refine⟨_,(ae (bu (pv 0) (pv 1) rfl)
   (ak (bu (pv 0) aV rfl))),?_⟩
  walk_at "rd";walk_at "st";walk_at "rd";walk_at "st";exact k _ hH
def Ol(A:Ad):Sp:=fun vs H Q _=>∃(x dx:Addr)(F:List Cell),vs=[.ref x]/\Holds H ((x,.ins A.iS dx [])::F)/\∀(H':Hp)(pa qa:Addr),Holds H' ((qa,.lst [])::(pa,.lst [])::(x,.ins A.iS dx (zf pa qa))::F)->Q .bA H'
theorem QK(T:Txt P w K mg A):lX P w K mg base 1 A.iS [] (Ol A):=by
 refine T.Sm.ok zp (fun vs H Q E h=>?_) (fun f cdv A' outer s H vs Q E hr h=>?_) [] (by simp)
 ·walk_at "vl"
 ·obtain⟨x,dx,F,rfl,hH,k⟩:=h;refine⟨_,(ae (bu (pv 0) (cX au) rfl)
   (ak (bu (pv 0) (cX au) rfl))),?_⟩
  walk_at "nl";walk_at "rd";walk_at "st";walk_at "nl";walk_at "rd";walk_at "st";exact k _ _ _ hH
def Ck(K:PySem.W.Frag)(A:Ad):Sp:=fun vs H Q _=>∃(r:jt)(cs:List Int)(z:Int)(F:List Cell),vs=[.ref r.a]/\nt K F r.na cs/\cs[r.r]? =some z/\Holds H (r.c A::F)/\∀H',Holds H' (jt.c A {r with r:=r.r+1}::F)->Q (.int z) H'
theorem gT(T:Txt P w K mg A):Ok P w K mg base 1 A.vk ["row"] (Ck K A):=by
 refine T.gE.ok sR (fun vs H Q E h=>?_) (fun cdv A' outer s H vs Q E hr h=>?_)
 ·walk_at "vl"
 ·obtain⟨r,cs,z,F,rfl,hA,hz,hH,k⟩:=h;refine⟨_,(ae (bp (i:=1) sR.nd rfl (Or.inl rfl) (de cO (aC (pv 0) rfl) (aC (pv 0) rfl) (fun _ _=>rfl)))
   (ae (ij (pv 0) aV qI)
   (ak (aF (pv 1))))),?_⟩
  have hs:=hA.get hH fun c hc=>ah _ hc;unfold jt.c at hH;walk_at "rd";refine⟨r.na,_,(r.r:Int),_,rfl,rfl,hs,PH hz,?_⟩;walk_at "rd";walk_at "aug";walk_at "rd";exact k _ hH
def F7(K:PySem.W.Frag)(A:Ad):Sp:=fun vs H Q _=>∃(r:jt)(pre t rest:List Int)(F:List Cell),vs=[.ref r.a]/\nt K F r.na (pre++((t.length:Int)::(t++rest)))/\r.r=pre.length/\Holds H (r.c A::F)/\
 ∀H'(ta:Addr),Holds H' ((ta,.lst (zs t))::jt.c A {r with r:=r.r+(1+t.length)}::F)->Q (.ref ta) H'
theorem wU(T:Txt P w K mg A):Ok P w K mg base 2 A.y9 ["row"] (F7 K A):=by
 refine T.sI.ok qj (fun vs H Q E h=>?_) (fun cdv A' outer s H vs Q E hr h=>?_)
 ·walk_at "vl"
 ·obtain⟨r,pre,t,rest,F,rfl,hA,hr0,hH,k⟩:=h;refine⟨_,(ae (bp (i:=1) qj.nd rfl (Or.inl rfl) (aI (gT T) (hr.mono (by decide)) (by rfl) T.gE.at_ (aa (pv 0) au)))
   (ae (bp (i:=2) qj.nd rfl (Or.inl rfl) (aC (pv 0) rfl))
   (ae (ij (pv 0) (pv 1) qI)
   (ak (aF (nV pV (aC (pv 0) rfl) (km (pv 2)) (km (aC (pv 0) rfl)))))))),?_⟩
  walk_at "rd";walk_at "tn";refine⟨r,_,(t.length:Int),F,rfl,hA,by rw[hr0];simp,hH,fun H hH=>?_⟩;unfold jt.c at hH;walk_at "rd";walk_at "aug";walk_at "rd";have hs:=hA.get hH fun c hc=>ah _ hc;refine⟨r.na,_,rfl,hs,?_⟩;walk_at "new";have e1:j0 (zs (pre++(t.length:Int)::(t++rest))) (some ((r.r+1:Nat):Int)) (some (((r.r+1:Nat):Int)+(t.length:Int)))=zs t:=by
   have e2:=P6 (pre++[(t.length:Int)]) t rest;rw[aw,aq,aX,<-hr0]at e2;rw[show(((r.r+1:Nat):Int)+(t.length:Int))=((r.r+1+t.length:Nat):Int) by omega];exact e2
  have e3:(((r.r+1:Nat):Int)+(t.length:Int))=((r.r+(1+t.length):Nat):Int):=by omega
  rw[e1,e3]at hH;exact k _ _ hH
def F4(A:Ad):Sp:=fun vs H Q _=>∃(ta:Addr)(b:Ax.Bytes)(L:List Cell),vs=[.ref ta]/\Holds H L/\(ta,.lst (iv b))∈L/\b.length<=30000/\∀H'(p:Addr),Holds H' ((p,.lst (V.int 0::V.int (b.length:Nat)::iv b))::L)->Q (.ref p) H'
theorem wO(T:Txt P w K mg A):Ok P w K mg base 1 A.y4 ["text"] (F4 A):=by
 refine T.sH.ok Ge (fun vs H Q E h=>?_) (fun cdv A' outer s H vs Q E hr h=>?_)
 ·walk_at "vl"
 ·obtain⟨ta,b,L,rfl,hH,hm,hz,k⟩:=h;refine⟨_,(ak (aF (fg GB (cX (aa aV (aa (dc cV (by rfl) T.gi boot_len (aa (pv 0) au)) au))) (pv 0)))),?_⟩;have ht:=hH.mem hm;walk_at "rd";walk_at "len";rw[dC];walk_at "tn";refine⟨by with_unfolding_all exact ab rfl,?_⟩;walk_at "new";have ht:=hH.tl.mem hm;walk_at "rd";refine⟨np,ta,_,_,rfl,rfl,hH.get 0 rfl,ht,by rw[dC,sizeLine_eq];simp;omega,?_⟩;walk_at "new";exact k _ _ (hH.sub (.cons_cons _ (aW _ _)))
def EM(A:Ad):Sp:=fun vs H Q _=>∃(l:k8)(b:Ax.Bytes)(L:List Cell),vs=[.ref l.a]/\l.name=sb b/\b.length<=30000/\Holds H L/\(l.a,HO.ins A.gn l.dx (gL l.role l.name l.place l.kind l.rank l.tl l.ml))∈L/\∀H'(p:Addr),Holds H' ((p,.lst (iv b))::L)->Q (.ref p) H'
theorem u6(T:Txt P w K mg A):Ok P w K mg base 1 A.xl ["line"] (EM A):=by
 refine T.qN.ok o4 (fun vs H Q E h=>?_) (fun cdv A' outer s H vs Q E hr h=>?_)
 ·walk_at "vl"
 ·obtain⟨l,b,L,rfl,hn,hz,hH,hm,k⟩:=h;refine⟨_,(ak (aF (KZ rfl o4.nd (RT (aC (pv 0) rfl)) (z9 (own:=[("sign",1)]) (by rfl)) (fun _ _ _ _ _=>dX (i:=1) o4.nd rfl (Or.inl rfl)) (fun _ _ _ _ _=>CH) (fun _ _ _ _ _=>(dc Pd (by rfl) T.R3 boot_ord (aa (pv 1) au)))))),?_⟩;walk_at "rd";intro D hD;generalize hE:upd _ D _=H1;have hH1:=Holds.oW hE hH hD;have hcp:∀n:Nat,(sb b).cps[n]? =(b[n]?).map fun(c:UInt8)=>c.toNat:=fun n=>by
   show(b.map fun(c:UInt8)=>c.toNat).toArray[n]? =_;rw[List.getElem?_toArray,a9]
  refine⟨fun n m H'=>m=b.length - n/\n<=b.length/\Holds H' ((D,.lst (iv (b.take n)))::L),⟨_,rfl,cE _,hH1⟩,?_⟩;rintro n m H' ⟨rfl,hn',hH'⟩;by_cases hlt:n<b.length
  ·have hb:b[n]? =some b[n]:=aN hlt;refine .inr ⟨?_,fun H2=>Holds H2 ((D,.lst (iv (b.take (n+1))))::L),fun H2 h2=>⟨b.length - (n+1),by omega,rfl,hlt,h2⟩,?_⟩
   ·rw[hn];show n<(b.map fun(c:UInt8)=>c.toNat).toArray.size;simpa using hlt
   ·rintro x H2 ⟨rfl,c,hc,rfl⟩;rw[hn,hcp,hb]at hc;cases hc;walk_at "rd";refine⟨_,hH'.get 0 rfl,by rw[dC,cJ,sizeLine_eq];omega,?_⟩;have h3:=hH'.set (o':=.lst (iv (b.take n)++[V.int (b[n].toNat:Int)])) 0 rfl;rw[bH]at h3;show Holds _ ((D,.lst (iv (b.take (n+1))))::L);rw[gR hb,md];exact h3
  ·refine .inl ⟨?_,?_⟩
   ·rw[hn];show(b.map fun(c:UInt8)=>c.toNat).toArray.size<=n;simp;omega
   ·have:n=b.length:=by omega
    subst this;rw[dt]at hH';exact k _ _ hH'
structure gq where
 a:Addr
 dx:Addr
 pa:Addr
 qa:Addr
 Ls:List b0
 dW:List Addr
def gS(dW:List Addr)(P:Ax.Program):List Cell:=(dW.zip P).map fun x=>(x.1,HO.lst (iv (Ax.lineText x.2)))
def gq.c(A:Ad)(B:gq):Cell:=(B.a,.ins A.iS B.dx (zf B.pa B.qa))
def gq.rest(A:Ad)(B:gq)(P:Ax.Program):List Cell:=(B.pa,.lst (bB B.Ls))::(B.qa,.lst (B.dW.map V.ref))::(gS B.dW P++dr A B.Ls)
def gq.cells(A:Ad)(B:gq)(P:Ax.Program):List Cell:=B.c A::B.rest A P
structure gq.Is(B:gq)(P:Ax.Program):Prop where
 lines:oK B.Ls P
 dW:B.dW.length=P.length
 rF:B.Ls.length<=1024
 UK:HU P
 small:(P.map fun l=>(Ax.lineText l).length).sum<=3000
theorem Jv{l:List Nat}{n:Nat}(h:n∈l):n<=l.sum:=by
 induction l with
 |nil=>cases h
 |cons x l ih=>
  rw[k9]
  rcases aT.mp h with rfl|h
  ·omega
  ·have:=ih h;omega
theorem gq.Is.text{B:gq}{P:Ax.Program}(h:B.Is P){l:Ax.Line}(hl:l∈P):(Ax.lineText l).length<=3000:=ck (Jv (hU (f:=fun l=>(Ax.lineText l).length) hl)) h.small
theorem wV(l:Ax.Line):l.name.length<=(Ax.lineText l).length:=by
 unfold Ax.lineText;split<;>simp<;>omega
theorem w9(A:Ad)(Ls:List b0)(M:List Cell)(h:∀c∈dr A Ls,c∈M):pG A Ls M:=fun L hL c hc=>h c (gX.mpr ⟨L,hL,hc⟩)
theorem gq.has{A:Ad}{B:gq}{P:Ax.Program}{L:List Cell}(s:∀c∈B.cells A P,c∈L):pG A B.Ls L:=w9 A B.Ls L fun c hc=>s c (ah _ (ah _ (ah _ (aU _ hc))))
theorem gq.z8{A:Ad}{B:gq}{P:Ax.Program}{L:List Cell}(s:∀c∈B.cells A P,c∈L):(B.a,HO.ins A.iS B.dx (zf B.pa B.qa))∈L:=s _ aA
theorem gq.CK{A:Ad}{B:gq}{P:Ax.Program}{L:List Cell}(s:∀c∈B.cells A P,c∈L):(B.pa,HO.lst (bB B.Ls))∈L:=s _ (ah _ aA)
theorem gq.OB{A:Ad}{B:gq}{P:Ax.Program}{L:List Cell}(s:∀c∈B.cells A P,c∈L):(B.qa,HO.lst (B.dW.map V.ref))∈L:=s _ (ah _ (ah _ aA))
theorem gq.Rt{A:Ad}{B:gq}{P:Ax.Program}{L:List Cell}(s:∀c∈B.cells A P,c∈L){i:Nat}{a:Addr}{l:Ax.Line}(ha:B.dW[i]? =some a)(hl:P[i]? =some l):(a,HO.lst (iv (Ax.lineText l)))∈L:=by
 refine s _ (ah _ (ah _ (ah _ (cM _ ?_))));refine jL.mpr ⟨(a,l),?_,rfl⟩;refine aH (i:=i) ?_;rw[List.getElem?_zip_eq_some];exact⟨ha,hl⟩
def N8(L:List Cell)(Q:VK)(ans:List Int):Prop:=∀H'(p:Addr),Holds H' ((p,.lst (zs ans))::L)->Q (.ref p) H'
def Ii(A:Ad):Sp:=fun vs H Q _=>∃(B:gq)(Pr:Ax.Program)(i:Nat)(L:List Cell),vs=[.ref B.a,.int (i:Int)]/\B.Is Pr/\Holds H L/\(∀c∈B.cells A Pr,c∈L)/\Q (.bl (Ax.arrayAt Pr i).isSome) H
theorem yQ(T:Txt P w K mg A):Ok P w K mg base 1 A.Bv ["book","number"] (Ii A):=by
 refine T.uP.ok yJ (fun vs H Q E h=>?_) (fun cdv A' outer s H vs Q E hr h=>?_)
 ·walk_at "vl"
 ·obtain⟨B,Pr,i,L,rfl,is,hH,sb,k⟩:=h;refine⟨_,(ae (bg (aO AU (pv 1) (dc cV (by rfl) T.gi boot_len (aa (aC (pv 0) rfl) au)) (bb _)) (ak (aF jD)) aQ)
   (ae (bp (i:=2) yJ.nd rfl (Or.inl rfl) (de cO (aC (pv 0) rfl) (pv 1) (fun _ _=>rfl)))
   (ak (aF (nW ku (aC (pv 2) rfl) (bZ (by rfl) T.xb) (bb _)))))),?_⟩
  have hb:=hH.mem (B.z8 sb);have hpa:=hH.mem (B.CK sb);have hp:=eA is.lines;unfold Ax.arrayAt at k;walk_at "rd";walk_at "len";rw[fw];walk_at "rd";by_cases h1:i<B.Ls.length
  ·have hLi:B.Ls[i]? =some B.Ls[i]:=aN h1;obtain⟨l,hli,lis⟩:=eY is.lines hLi;have hat:nk (bB B.Ls) (i:Int)=some (V.ref B.Ls[i].ln.a):=mh (by unfold bB;rw[a9,hLi];rfl);have hlc:=hH.mem (kU (B.has sb) (aH hLi));rw[hli]at k;refine bV (fun q=>by have:=ab q;(try dsimp only at this);omega) ?_;walk_at "rd";walk_at "ix";walk_at "rd";rw[dI,lis.head.role,pP];dsimp only at k;by_cases h2:l.what=.size
   ·rw[ai h2]at k;rw[ao h2];exact k
   ·rw[af h2]at k;rw[aY h2];exact k
  ·have hli:Pr[i]? =none:=dR.mpr (by omega);rw[hli]at k;refine cn (ao (by(try dsimp only);omega)) ?_;walk_at "rd";exact k
def Ap(A:Ad):Sp:=fun vs H Q _=>∃(B:gq)(Pr:Ax.Program)(i j:Nat)(L:List Cell),vs=[.ref B.a,.int (i:Int),.int (j:Int)]/\B.Is Pr/\Holds H L/\(∀c∈B.cells A Pr,c∈L)/\N8 L Q (AxPrograms.step Pr (.needs i j)).2.nums
theorem B1{Pr:Ax.Program}{i:Nat}(h:(Ax.arrayAt Pr i).isSome=true):i<Pr.length:=by
 unfold Ax.arrayAt at h;cases e:Pr[i]? with
 |none=>rw[e]at h;cases h
 |some l=>exact(az.mp e).1
theorem uB{Pr:Ax.Program}{i j:Nat}(h':(Ax.arrayAt Pr i).isSome=false\/(Ax.arrayAt Pr j).isSome=false):(AxPrograms.step Pr (.needs i j)).2.nums=[-1]:=by
 have h:(Ax.arrayAt Pr i).isNone=true\/(Ax.arrayAt Pr j).isNone=true:=by
  rcases h' with h|h
  ·exact .inl (by cases e:Ax.arrayAt Pr i<;>rw[e]at h<;>first|rfl|cases h)
  ·exact .inr (by cases e:Ax.arrayAt Pr j<;>rw[e]at h<;>first|rfl|cases h)
 show(if(Ax.arrayAt Pr i).isNone=true\/(Ax.arrayAt Pr j).isNone=true then Ax.says (-1)else _).nums=_;rw[ai h];rfl
theorem DW{Pr:Ax.Program}{i j:Nat}(h1:(Ax.arrayAt Pr i).isSome=true)(h2:(Ax.arrayAt Pr j).isSome=true):(AxPrograms.step Pr (.needs i j)).2.nums=[if Ax.needs Pr i j=true then 1 else 0]:=by
 show(if(Ax.arrayAt Pr i).isNone=true\/(Ax.arrayAt Pr j).isNone=true then Ax.says (-1)else Ax.says (if Ax.needs Pr i j=true then 1 else 0)).nums=_;rw[af (by rintro(q|q)<;>simp[Option.isNone_iff_eq_none]at q<;>simp_all)];cases Ax.needs Pr i j<;>rfl
theorem AY(T:Txt P w K mg A):Ok P w K mg base 3 A.tJ ["book","needing","needed"] (Ap A):=by
 refine T.tR.ok Ay (fun vs H Q E h=>?_) (fun cdv A' outer s H vs Q E hr h=>?_)
 ·walk_at "vl"
 ·obtain⟨B,Pr,i,j,L,rfl,is,hH,sb,k⟩:=h;refine⟨_,(ae (bg (PW.pt (AF (wK (gh (aI (yQ T) (hr.mono (by decide)) (by rfl) T.uP.at_ (aa (pv 0) (aa (pv 1) au))))) (wF (wK (gh (aI (yQ T) (hr.mono (by decide)) (by rfl) T.uP.at_ (aa (pv 0) (aa (pv 2) au)))))))) (ak (aF (cX (aa (bZ (by rfl) T.rE) au)))) aQ)
   (ak (aF (cX (aa (eV (gh (aI (K3 T) (hr.mono (by decide)) (by rfl) T.Ej.at_ (aa (aC (pv 0) rfl) (aa (pv 1) (aa (pv 2) au))))) aV aV) au))))),?_⟩
  have hb:=hH.mem (B.z8 sb);have hp:=eA is.lines;walk_at "rd";walk_at "tn";refine⟨B,Pr,i,L,rfl,is,hH,sb,?_⟩;cases h1:(Ax.arrayAt Pr i).isSome with
  |false=>
   rw[uB (.inl h1)]at k;walk_at "rd";refine⟨by with_unfolding_all exact ab rfl,?_⟩;walk_at "new";exact k _ _ hH
  |true=>
   walk_at "rd";walk_at "tn";refine⟨B,Pr,j,L,rfl,is,hH,sb,?_⟩;cases h2:(Ax.arrayAt Pr j).isSome with
   |false=>
    rw[uB (.inr h2)]at k;walk_at "rd";refine⟨by with_unfolding_all exact ab rfl,?_⟩;walk_at "new";exact k _ _ hH
   |true=>
    rw[DW h1 h2]at k;have l1:=B1 h1;have l2:=B1 h2;walk_at "rd";walk_at "tn";refine⟨B.pa,B.Ls,Pr,i,j,L,rfl,hH,B.CK sb,B.has sb,is.lines,is.rF,by omega,by omega,is.UK,fun H hH=>?_⟩;cases h3:Ax.needs Pr i j with
    |true=>
     rw[h3,ai rfl]at k;walk_at "rd";refine⟨by with_unfolding_all exact ab rfl,?_⟩;walk_at "new";exact k _ _ hH
    |false=>
     rw[h3,af aE]at k;walk_at "rd";refine⟨by with_unfolding_all exact ab rfl,?_⟩;walk_at "new";exact k _ _ hH
theorem Nc(b:Ax.Bytes):iv b=zs (ag.ofBytes b):=by unfold iv zs ag.ofBytes;rw[jM];rfl
theorem FQ(a b:List Int):zs (a++b)=zs a++zs b:=bC ..
theorem sC(b:Ax.Bytes):(ag.ofBytes b).length=b.length:=aP _
theorem Jt{Pr:Ax.Program}{i:Nat}(h:Pr[i]? =none):(AxPrograms.step Pr (.text i)).2.nums=[-1]:=by
 show(match Pr[i]? with|none=>Ax.says (-1)|some l=>Ax.tells 0 [.text (Ax.lineText l)]).nums=_;rw[h];rfl
theorem FY{Pr:Ax.Program}{i:Nat}{l:Ax.Line}(h:Pr[i]? =some l):(AxPrograms.step Pr (.text i)).2.nums=0::((Ax.lineText l).length:Int)::ag.ofBytes (Ax.lineText l):=by
 show(match Pr[i]? with|none=>Ax.says (-1)|some l=>Ax.tells 0 [.text (Ax.lineText l)]).nums=_;rw[h];show 0::([Ax.Item.text (Ax.lineText l)].flatMap Ax.Item.nums)=_;rw[bz,fM,aK];rfl
def Cg(A:Ad):Sp:=fun vs H Q _=>∃(B:gq)(Pr:Ax.Program)(i:Nat)(L:List Cell),vs=[.ref B.a,.int (i:Int)]/\B.Is Pr/\Holds H L/\(∀c∈B.cells A Pr,c∈L)/\N8 L Q (AxPrograms.step Pr (.text i)).2.nums
theorem CL(T:Txt P w K mg A):Ok P w K mg base 2 A.vh ["book","number"] (Cg A):=by
 refine T.vw.ok Cs (fun vs H Q E h=>?_) (fun cdv A' outer s H vs Q E hr h=>?_)
 ·walk_at "vl"
 ·obtain⟨B,Pr,i,L,rfl,is,hH,sb,k⟩:=h;refine⟨_,(ae (bg (aO AU (pv 1) (dc cV (by rfl) T.gi boot_len (aa (aC (pv 0) rfl) au)) (bb _)) (ak (aF (cX (aa (bZ (by rfl) T.rE) au)))) aQ)
   (ak (aF (aI (wO T) (hr.mono (by decide)) (by rfl) T.sH.at_ (aa (de cO (aC (pv 0) rfl) (pv 1) (fun _ _=>rfl)) au))))),?_⟩
  have hb:=hH.mem (B.z8 sb);have hqa:=hH.mem (B.OB sb);walk_at "rd";walk_at "len";rw[aP,is.dW];walk_at "rd";by_cases h1:i<Pr.length
  ·have hli:Pr[i]? =some Pr[i]:=aN h1;have hpi:B.dW[i]? =some (B.dW[i]'(by rw[is.dW];exact h1)):=aN (by rw[is.dW];exact h1);have hat:nk (B.dW.map V.ref) (i:Int)=some (V.ref (B.dW[i]'(by rw[is.dW];exact h1))):=mh (by rw[a9,hpi];rfl);rw[FY hli]at k;refine bV (fun q=>by have:=ab q;(try dsimp only at this);omega) ?_;walk_at "rd";walk_at "ix";walk_at "tn";refine⟨_,Ax.lineText Pr[i],L,rfl,hH,B.Rt sb hpi hli,ck (is.text (aH hli)) (by decide),fun H p hH=>k _ _ ?_⟩;rw[Nc]at hH;exact hH
  ·have hli:Pr[i]? =none:=dR.mpr (by omega);rw[Jt hli]at k;refine cn (ao (by(try dsimp only);omega)) ?_;walk_at "rd";walk_at "tn";refine⟨by with_unfolding_all exact ab rfl,?_⟩;walk_at "new";exact k _ _ hH
def whole(Pr:Ax.Program):Ax.Bytes:=Pr.flatMap fun(l:Ax.Line)=>Ax.lineText l++[10]
theorem Dz(Pr:Ax.Program):(whole Pr).length=(Pr.map fun l=>(Ax.lineText l).length).sum+Pr.length:=by
 unfold whole
 induction Pr with
 |nil=>rfl
 |cons l Pr ih=>
  rw[bz,aq,ih,a8,k9,aq,aX,ay];omega
theorem Kj{Pr:Ax.Program}{i:Nat}{l:Ax.Line}(h:Pr[i]? =some l):whole (Pr.take (i+1))=whole (Pr.take i)++Ax.lineText l++[10]:=by
 unfold whole;rw[gR h,cq,bz,fM,aK,aw]
theorem Ki(Pr:Ax.Program)(i:Nat):(whole (Pr.take i)).length<=(whole Pr).length:=by
 have:whole Pr=whole (Pr.take i)++whole (Pr.drop i):=by
  unfold whole;rw[<-cq,eX]
 rw[this,aq];omega
theorem Gq(Pr:Ax.Program):(AxPrograms.step Pr .print).2.nums=0::((whole Pr).length:Int)::ag.ofBytes (whole Pr):=by
 show 0::([Ax.Item.text (whole Pr)].flatMap Ax.Item.nums)=_;rw[bz,fM,aK];rfl
def Ao(A:Ad):Sp:=fun vs H Q _=>∃(B:gq)(Pr:Ax.Program)(L:List Cell),vs=[.ref B.a]/\B.Is Pr/\Holds H L/\(∀c∈B.cells A Pr,c∈L)/\N8 L Q (AxPrograms.step Pr .print).2.nums
theorem AX(T:Txt P w K mg A):Ok P w K mg base 2 A.tI ["book"] (Ao A):=by
 refine T.tQ.ok mL (fun vs H Q E h=>?_) (fun cdv A' outer s H vs Q E hr h=>?_)
 ·walk_at "vl"
 ·obtain⟨B,Pr,L,rfl,is,hH,sb,k⟩:=h;refine⟨_,(ae (bp (i:=1) mL.nd rfl (Or.inl rfl) (cX au))
   (ae (jj PassesOwn.never rfl (l9 (aC (pv 0) rfl)) (dX (i:=2) mL.nd rfl (Or.inl rfl))
   (ae (cN (hZ bj jK jI wW (pv 1) (aa (pv 2) au)))
   (ak (cN (hZ bj bO bN e7 (pv 1) (aa (bZ (by rfl) T.Jc) au))))))
   (ak (aF (aI (wO T) (hr.mono (by decide)) (by rfl) T.sH.at_ (aa (pv 1) au)))))),?_⟩
  have hp:=eA is.lines;have hfew:=is.rF;have hsm:=is.small;have hwl:=Dz Pr;rw[Gq]at k;walk_at "nl";obtain⟨wa,rfl⟩:∃wa,wa=np:=⟨_,rfl⟩;have hb:=hH.tl.mem (B.z8 sb);have hqa:=hH.tl.mem (B.OB sb);walk_at "rd";refine⟨⟨_,bY.of hqa⟩,oj (K:=K) (a:=B.qa) (xs:=B.dW.map V.ref) (fun i σ H'=>∃(v2:Option V),σ=[some (.ref B.a),some (.ref wa),v2]/\Holds H' ((wa,.lst (iv (whole (Pr.take i))))::L))
   ⟨none,rfl,hH⟩ (fun i σ H' _ ⟨_,_,h⟩=>bY.of (h.tl.mem (B.OB sb))) ?_ ?_⟩
  ·rintro i y σ H' hi ⟨v2,rfl,hH⟩;rw[a9]at hi;obtain⟨pa,hpi,rfl⟩:=bS.mp hi;have hlt:i<Pr.length:=by rw[<-is.dW];exact(az.mp hpi).1
   have hli:Pr[i]? =some Pr[i]:=aN hlt;have ht:=is.text (aH hli);have hw:=Ki Pr i;walk_at "rd";refine⟨ty_list (hH.get 0 rfl),?_⟩;walk_at "rd";walk_at "tn";refine FC hH 0 rfl (hH.tl.mem (B.Rt sb hpi hli)) (by rw[dC,dC,sizeLine_eq];omega) fun H hH=>?_;rw[bH,<-md]at hH;walk_at "rd";refine⟨ty_list (hH.get 0 rfl),?_⟩;walk_at "rd";walk_at "tn";refine jC hH 0 rfl (by rw[dC,aq,sizeLine_eq];omega) fun H hH=>?_;rw[bH]at hH;refine⟨_,rfl,?_⟩;rw[Kj hli,md];exact hH
  ·rintro σ H' ⟨v2,rfl,hH⟩;rw[aP,is.dW,dt]at hH;walk_at "rd";walk_at "tn";refine⟨wa,whole Pr,_,rfl,hH,aA,by omega,fun H p hH=>k _ _ ?_⟩;rw[Nc]at hH;exact hH.sub (.cons_cons _ (aW _ _))
theorem JI{Pr:Ax.Program}{i:Nat}(h:Pr[i]? =none):(AxPrograms.step Pr (.line i)).2.nums=[-1]:=by
 show(match Pr[i]? with|none=>Ax.says (-1)|some l=>Ax.tells 0 [.text l.name,.num (AxPrograms.whatNo l.what),.num l.kind,.num l.axes.length]).nums=_;rw[h];rfl
theorem G5{Pr:Ax.Program}{i:Nat}{l:Ax.Line}(h:Pr[i]? =some l):(AxPrograms.step Pr (.line i)).2.nums=([0,(l.name.length:Int)]++ag.ofBytes l.name)++[tZ l.what,(l.kind:Int),(l.axes.length:Int)]:=by
 show(match Pr[i]? with|none=>Ax.says (-1)|some l=>Ax.tells 0 [.text l.name,.num (AxPrograms.whatNo l.what),.num l.kind,.num l.axes.length]).nums=_;rw[h];have e:((AxPrograms.whatNo l.what:Nat):Int)=tZ l.what:=by cases l.what<;>rfl
 rw[<-e];show 0::([Ax.Item.text l.name,.num (AxPrograms.whatNo l.what),.num l.kind,.num l.axes.length].flatMap Ax.Item.nums)=_;rw[bz,bz,bz,bz,fM];rfl
def Cm(A:Ad):Sp:=fun vs H Q _=>∃(B:gq)(Pr:Ax.Program)(i:Nat)(L:List Cell),vs=[.ref B.a,.int (i:Int)]/\B.Is Pr/\Holds H L/\(∀c∈B.cells A Pr,c∈L)/\N8 L Q (AxPrograms.step Pr (.line i)).2.nums
theorem CO(T:Txt P w K mg A):Ok P w K mg base 2 A.vm ["book","number"] (Cm A):=by
 refine T.vz.ok nH (fun vs H Q E h=>?_) (fun cdv A' outer s H vs Q E hr h=>?_)
 ·walk_at "vl"
 ·obtain⟨B,Pr,i,L,rfl,is,hH,sb,k⟩:=h;refine⟨_,(ae (bg (aO AU (pv 1) (dc cV (by rfl) T.gi boot_len (aa (aC (pv 0) rfl) au)) (bb _)) (ak (aF (cX (aa (bZ (by rfl) T.rE) au)))) aQ)
   (ae (bp (i:=2) nH.nd rfl (Or.inl rfl) (de cO (aC (pv 0) rfl) (pv 1) (fun _ _=>rfl)))
   (ae (bp (i:=3) nH.nd rfl (Or.inl rfl) (aI (u6 T) (hr.mono (by decide)) (by rfl) T.qN.at_ (aa (pv 2) au)))
   (ak (aF (fg GB (fg GB (cX (aa aV (aa (dc cV (by rfl) T.gi boot_len (aa (pv 3) au)) au))) (pv 3)) (cX (aa (aC (pv 2) rfl) (aa (aC (pv 2) rfl) (aa (aC (pv 2) rfl) au)))))))))),?_⟩
  have hb:=hH.mem (B.z8 sb);have hpa:=hH.mem (B.CK sb);have hp:=eA is.lines;walk_at "rd";walk_at "len";rw[fw];walk_at "rd";by_cases h1:i<B.Ls.length
  ·have hLi:B.Ls[i]? =some B.Ls[i]:=aN h1;obtain⟨l,hli,lis⟩:=eY is.lines hLi;have hat:nk (bB B.Ls) (i:Int)=some (V.ref B.Ls[i].ln.a):=mh (by unfold bB;rw[a9,hLi];rfl);have hlm:=kU (B.has sb) (aH hLi);have hlc:=hH.mem hlm;have ht:=is.text (aH hli);have hn:=wV l;rw[G5 hli]at k;refine bV (fun q=>by have:=ab q;(try dsimp only at this);omega) ?_;walk_at "rd";walk_at "ix";walk_at "rd";walk_at "tn";refine⟨B.Ls[i].ln,l.name,L,rfl,lis.head.name,by omega,hH,hlm,fun H p hH=>?_⟩;obtain⟨na,rfl⟩:∃na,na=p:=⟨_,rfl⟩;walk_at "rd";walk_at "len";rw[dC];walk_at "nl";walk_at "rd";refine⟨np,na,_,_,rfl,rfl,hH.get 0 rfl,hH.get 1 rfl,by rw[dC,sizeLine_eq];simp;omega,?_⟩;walk_at "new";have hlc:=hH.tl.tl.tl.mem hlm;walk_at "rd";obtain⟨ca,rfl⟩:∃ca,ca=np:=⟨_,rfl⟩;walk_at "nl";walk_at "rd";refine⟨ca,np,_,_,rfl,rfl,hH.get 1 rfl,hH.get 0 rfl,by rw[aq,dC,sizeLine_eq];simp;omega,?_⟩;walk_at "new";refine k _ _ ?_;rw[FQ,FQ,<-Nc];rw[lis.head.role,lis.head.kind,lis.head.rank]at hH;exact hH.sub (.cons_cons _ (.cons _ (.cons _ (.cons _ (.cons _ (bt _))))))
  ·have hli:Pr[i]? =none:=dR.mpr (by omega);rw[JI hli]at k;refine cn (ao (by(try dsimp only);omega)) ?_;walk_at "rd";walk_at "tn";refine⟨by with_unfolding_all exact ab rfl,?_⟩;walk_at "new";exact k _ _ hH
theorem JY(Pr:Ax.Program)(t:Ax.Bytes):(AxPrograms.step Pr (.find t)).2.nums=match Pr.findIdx? (fun l=>l.name==t)with|some i=>[(i:Int)]|none=>[-1]:=by
 show(match Ax.lineNo Pr t with|some i=>Ax.says i|none=>Ax.says (-1)).nums=_;unfold Ax.lineNo;cases Pr.findIdx? (fun l=>l.name==t)<;>rfl
def dz(b:Ax.Bytes):List PyData:=b.map fun c=>PyData.int (c.toNat:Int)
theorem Hs{H:Hp}:∀b:Ax.Bytes,uX K H (iv b) (dz b)
 |[]=>.nil
 |c::b=>.cons (.int _) (Hs b)
theorem Nv:∀b:Ax.Bytes,PyData.canLayAll0 (dz b)=true/\PyData.depthAll (dz b)<=1
 |[]=>⟨by simp[dz,PyData.canLayAll0],by simp[dz,PyData.depthAll]⟩
 |c::b=>by
  obtain⟨h1,h2⟩:=Nv b;constructor
  ·show PyData.canLayAll0 (PyData.int _::dz b)=true;rw[PyData.canLayAll0,h1,PyData.canLay0];rfl
  ·show PyData.depthAll (PyData.int _::dz b)<=1;rw[PyData.depthAll,PyData.depth];omega
theorem Ef(b:Ax.Bytes):SeqAt.shaped (.list (dz b))=true:=by
 obtain⟨h1,h2⟩:=Nv b;unfold SeqAt.shaped;rw[PyData.canLay0,PyData.depth,h1];rw[ao (by omega)];rfl
theorem Nw:∀a b:Ax.Bytes,PyData.eqvAll (dz a) (dz b)=decide (a=b)
 |[],[]=>by simp[dz,PyData.eqvAll]
 |[],_::_=>by simp[dz,PyData.eqvAll]
 |_::_,[]=>by simp[dz,PyData.eqvAll]
 |x::a,y::b=>by
  show PyData.eqvAll (PyData.int _::dz a) (PyData.int _::dz b)=_;rw[PyData.eqvAll,PyData.eqv,Nw a b];by_cases h:x=y
  ·subst h;simp
  ·have h2:¬x.toNat=y.toNat:=fun q=>h (UInt8.toNat_inj.mp q);have h3:((x.toNat:Int)==(y.toNat:Int))=false:=beq_eq_false_iff_ne.mpr (by omega);rw[h3];simp[h]
def Co(A:Ad):Sp:=fun vs H Q _=>∃(B:gq)(Pr:Ax.Program)(ta:Addr)(t:Ax.Bytes)(L:List Cell),vs=[.ref B.a,.ref ta]/\B.Is Pr/\Holds H L/\(ta,.lst (iv t))∈L/\(∀c∈B.cells A Pr,c∈L)/\N8 L Q (AxPrograms.step Pr (.find t)).2.nums
theorem CQ(T:Txt P w K mg A):Ok P w K mg base 2 A.vo ["book","name"] (Co A):=by
 refine T.vB.ok nI (fun vs H Q E h=>?_) (fun cdv A' outer s H vs Q E hr h=>?_)
 ·walk_at "vl"
 ·obtain⟨B,Pr,ta,t,L,rfl,is,hH,hta,sb,k⟩:=h;refine⟨_,(ae (jj PassesOwn.never rfl (sX (by rfl) T.jT (aa (aC (pv 0) rfl) au)) (wN rfl (iA (dX (i:=2) nI.nd rfl (Or.inl rfl)) (iA (dX (i:=3) nI.nd rfl (Or.inl rfl)) sY)))
   (ak (bg (aO (RY (eO.units hr)) (aI (u6 T) (hr.mono (by decide)) (by rfl) T.qN.at_ (aa (pv 3) au)) (pv 1) (bb _)) (ak (aF (cX (aa (pv 2) au)))) aQ)))
   (ak (aF (cX (aa (bZ (by rfl) T.rE) au))))),?_⟩
  have hb:=hH.mem (B.z8 sb);have hpa:=hH.mem (B.CK sb);have hp:=eA is.lines;rw[JY]at k;walk_at "rd";refine⟨B.pa,_,rfl,bY.of hpa,qK (K:=K) (a:=B.pa) (xs:=bB B.Ls) (fun n σ H'=>∃(v2 v3:Option V),σ=[some (.ref B.a),some (.ref ta),v2,v3]/\(∀m l,m<n->Pr[m]? =some l->l.name≠t)/\Holds H' L)
   ⟨none,none,rfl,fun m _ q _=>absurd q (Nat.not_lt_zero _),hH⟩ (fun n σ H' _ ⟨_,_,_,_,h⟩=>bY.of (h.mem (B.CK sb))) ?_ ?_⟩
  ·rintro n y σ H' T' H2 hi ⟨v2,v3,rfl,hno,hH⟩ nT eT;have hH:=(Holds.oW eT hH nT).tl;unfold bB at hi;rw[a9]at hi;obtain⟨R,hR,rfl⟩:=bS.mp hi;obtain⟨l,hli,lis⟩:=eY is.lines hR;have hlm:=kU (B.has sb) (aH hR);have ht:=is.text (aH hli);have hn:=wV l;walk_at "rd";walk_at "tn";refine⟨R.ln,l.name,L,rfl,lis.head.name,by omega,hH,hlm,fun H p hH=>?_⟩;walk_at "rd";refine⟨.list (dz l.name),.list (dz t),.lst (bY.of (hH.get 0 rfl)) (Hs _),.lst (bY.of (hH.tl.mem hta)) (Hs _),Ef _,Ef _,?_⟩;rw[PyData.eqv,Nw];walk_at "rd";by_cases he:l.name=t
   ·refine cn (ao he) ?_;have hf:Pr.findIdx? (fun l=>l.name==t)=some n:=by
     obtain⟨q1,q2⟩:=az.mp hli;rw[gN];refine⟨q1,by rw[q2];exact beq_iff_eq.mpr he,fun j hj=>?_⟩;have:=hno j Pr[j] hj (aN (by omega));simp[this]
    rw[hf]at k;walk_at "rd";walk_at "tn";refine⟨by with_unfolding_all exact ab rfl,?_⟩;walk_at "new";exact k _ _ (hH.sub (.cons_cons _ (aW _ _)))
   ·refine bV (fun q=>he (ab q)) ?_;refine⟨_,_,rfl,fun m l' hm hl'=>?_,hH.tl⟩;by_cases q:m=n
    ·subst q;rw[hli]at hl';cases hl';exact he
    ·exact hno m l' (by omega) hl'
  ·rintro σ H' ⟨v2,v3,rfl,hno,hH⟩;rw[fw]at hno;have hf:Pr.findIdx? (fun l=>l.name==t)=none:=by
    rw[List.findIdx?_eq_none_iff];intro l hl;obtain⟨m,hm⟩:=List.getElem?_of_mem hl;have hlt:=(az.mp hm).1;exact beq_eq_false_iff_ne.mpr (hno m l (by omega) hm)
   rw[hf]at k;walk_at "rd";walk_at "tn";refine⟨by with_unfolding_all exact ab rfl,?_⟩;walk_at "new";exact k _ _ hH
theorem ME{s:Ax.Program}{t:Ax.Bytes}(h:1024<t.length):AxPrograms.readAnswer s t=(s,Ax.says (-6)):=ai h
theorem Gm{s:Ax.Program}{t:Ax.Bytes}{p:Nat}(h:¬1024<t.length)(e:Ax.programIn t=.error p):AxPrograms.readAnswer s t=(s,Ax.tells (-1) [.num p]):=by
 unfold AxPrograms.readAnswer;rw[af (show ¬Ax.TEXT<t.length from h),e]
theorem KW{s Pr:Ax.Program}{t:Ax.Bytes}{x:Ax.Wrong}(h:¬1024<t.length)(e:Ax.programIn t=.ok Pr)(f:Ax.firstWrong Pr=some x):AxPrograms.readAnswer s t=(s,Ax.tells (-(x.2:Int)) [.num x.1]):=by
 unfold AxPrograms.readAnswer;rw[af (show ¬Ax.TEXT<t.length from h),e];dsimp only;rw[f]
theorem MF{s Pr:Ax.Program}{t:Ax.Bytes}(h:¬1024<t.length)(e:Ax.programIn t=.ok Pr)(f:Ax.firstWrong Pr=none):AxPrograms.readAnswer s t=(Pr,Ax.says 0):=by
 unfold AxPrograms.readAnswer;rw[af (show ¬Ax.TEXT<t.length from h),e];dsimp only;rw[f]
theorem Gs{dW:List Addr}{Pr:Ax.Program}{i:Nat}{l:Ax.Line}{p:Addr}(h:dW.length=i)(hl:Pr[i]? =some l):gS (dW++[p]) (Pr.take (i+1))=gS dW (Pr.take i)++[(p,.lst (iv (Ax.lineText l)))]:=by
 have hlt:=(az.mp hl).1;unfold gS;rw[gR hl,List.zip_append (by rw[cJ];omega),bC];rfl
theorem Mh{ts:List cf}{t:cf}(h:t∈ts):(t.a,HO.ins A.eD t.dx (mI t.cZ t.place t.pl t.word))∈cA A ts/\(t.pl,HO.lst (iv t.pr))∈cA A ts:=
 ⟨gX.mpr ⟨t,h,aA⟩,gX.mpr ⟨t,h,ah _ aA⟩⟩
theorem Ro{ts:List cf}{Ls:List b0}{L:b0}(e:sj Ls=ts)(h:L∈Ls):wt L.a6<=wt ts:=by
 rw[<-e,Js];exact Jv (hU (f:=fun L=>wt L.a6) h)
def Ci(A:Ad):Sp:=fun vs H Q _=>∃(B:gq)(s:Ax.Program)(ta:Addr)(t:Ax.Bytes)(F:List Cell),vs=[.ref B.a,.ref ta]/\B.Is s/\Holds H ((ta,.lst (iv t))::(B.cells A s++F))/\
 ∀H'(B':gq)(p:Addr),B'.a=B.a->B'.Is (AxPrograms.readAnswer s t).1->Holds H' ((p,.lst (zs (AxPrograms.readAnswer s t).2.nums))::(B'.cells A (AxPrograms.readAnswer s t).1++F))->Q (.ref p) H'
theorem CM(T:Txt P w K mg A):Ok P w K mg base 9 A.vi ["book","text"] (Ci A):=by
 refine T.vx.ok fO (fun vs H Q E h=>?_) (fun cdv A' outer s H vs Q E hr h=>?_)
 ·walk_at "vl"
 ·obtain⟨B,s,ta,t,F,rfl,is,hH,k⟩:=h;refine⟨_,(ae (bg (aO xY (dc cV (by rfl) T.gi boot_len (aa (pv 1) au)) (bZ (by rfl) T.Dc) (bb _)) (ak (aF (cX (aa (bZ (by rfl) T.Lu) au)))) aQ)
   (ae (bp (i:=2) fO.nd rfl (Or.inl rfl) (aI (E2 T) (hr.mono (by decide)) (by rfl) T.xA.at_ (aa (aI (GD T) (hr.mono (by decide)) (by rfl) T.zb.at_ (aa (pv 1) au)) (aa (dc cV (by rfl) T.gi boot_len (aa (pv 1) au)) au))))
   (ae (bp (i:=3) fO.nd rfl (Or.inl rfl) (de tu (pv 2) aV (fun _ _=>rfl)))
   (ae (bg (fJ (nX (pv 3))) (ak (aF (cX (aa (bZ (by rfl) T.He) (aa (pv 3) au))))) aQ)
   (ae (bp (i:=4) fO.nd rfl (Or.inl rfl) (de tu (pv 2) aV (fun _ _=>rfl)))
   (ae (bp (i:=5) fO.nd rfl (Or.inl rfl) (aI (EZ T) (hr.mono (by decide)) (by rfl) T.xx.at_ (aa (pv 4) au)))
   (ae (bg (fJ (nX (pv 5))) (ak (aF (cX (aa (pT mG (de tu (pv 5) aV (fun _ _=>rfl))) (aa (de tu (pv 5) aV (fun _ _=>rfl)) au))))) aQ)
   (ae (bu (pv 0) (pv 4) rfl)
   (ae (bu (pv 0) (KZ (te:=FF (qY A) [] E0 (FE (zh K (qe 6) "tokens") qf)) rfl fO.nd (l9 (pv 4)) (z9 (own:=[("line",6)]) (by rfl)) (fun _ _ _ _ _=>dX (i:=6) fO.nd rfl (Or.inl rfl)) (fun _ _ _ _ _=>CH) (fun _ _ _ _ _=>(by exact(aI (AW T) (hr.mono (by decide)) (by rfl) T.tP.at_ (aa (aC (pv 6) rfl) au))))) rfl)
   (ak (aF (cX (aa aV au))))))))))))),?_⟩
  walk_at "rd";walk_at "len";rw[dC];walk_at "rd";by_cases h1:1024<t.length
  ·rw[ME h1]at k;refine cn (ao (by(try dsimp only);omega)) ?_;walk_at "rd";walk_at "tn";refine⟨by with_unfolding_all exact ab rfl,?_⟩;walk_at "new";exact k _ B _ rfl is (hH.sub (.cons_cons _ (aW _ _)))
  ·refine bV (fun q=>h1 (by have:=ab q;(try dsimp only at this);omega)) ?_;walk_at "rd";walk_at "tn";refine⟨ta,t,_,rfl,hH,aA,by omega,fun H l ts htk hl hw hH=>?_⟩;have hta:=hH.tl.mem (aU _ aA);walk_at "rd";walk_at "len";rw[dC];walk_at "tn";have hpr:=ag.yN t;refine⟨l,(t.length:Int),ts,Ax.tokens t,(ta,.lst (iv t))::(B.cells A s++F),rfl,htk,fun x hx=>si t t.length 0 (aD _) x hx,hl,hH,fun r he H T' e hH=>?_,fun Pr r ho H T' dl Ls hL hfew htks hH=>?_⟩
   ·rw[he]at hpr;walk_at "rd";refine⟨T',_,0,_,rfl,rfl,iR.of (hH.get 0 rfl),rfl,?_⟩;walk_at "rd";walk_at "tn";refine⟨by with_unfolding_all exact ab rfl,?_⟩;walk_at "new";have hH:=hH.sub (.cons_cons _ (.cons _ (.cons _ (.cons _ (bt _)))));cases r with
    |nil=>
     rw[Gm h1 hpr]at k;exact k _ B _ rfl is hH
    |cons x r=>
     rw[Gm h1 hpr]at k;exact k _ B _ rfl is hH
   ·rw[ho]at hpr;dsimp only at hpr;have hfw:=ag.Bq hpr;have hp:=eA hL;have hfm:∀l∈Pr,Form l:=fun l hl=>by
     obtain⟨i,hi⟩:=List.getElem?_of_mem hl;have hlt:=(az.mp hi).1;obtain⟨l',hl',lis⟩:=eY hL (aN (l:=Ls) (i:=i) (by omega));rw[hi]at hl';cases hl';exact(yY lis).1
    walk_at "rd";refine⟨T',_,0,_,rfl,rfl,iR.of (hH.get 0 rfl),rfl,?_⟩;walk_at "rd";refine⟨T',_,1,_,rfl,rfl,iR.of (hH.get 0 rfl),rfl,?_⟩;walk_at "rd";walk_at "tn";refine⟨dl,Ls,Pr,_,rfl,hH,ah _ aA,w9 A Ls _ fun c hc=>ah _ (ah _ (cM _ hc)),hL,hfew,hfm,fun h0 H hH=>?_,fun x hx H T2 hH=>?_⟩
    ·rw[h0]at hfw;rw[MF h1 hpr hfw]at k;have hfine:=Q1 (List.head?_eq_none_iff.mp h0) hfm;have hH:=hH.tl;have hH:Holds H ((dl,.lst (bB Ls))::(dr A Ls++(cA A ts++(B.c A::F)))):=hH.sub (.cons_cons _ (bE (bt _) (bE (bt _) (.cons _ (.cons_cons _ (aL _ _))))));have hH:Holds H (B.c A::(dl,.lst (bB Ls))::(dr A Ls++(cA A ts++F))):=hH.perm (by
      rw[<-aw,<-aw];exact bh (l₁:=(dl,HO.lst (bB Ls))::(dr A Ls++cA A ts)))
     unfold gq.c at hH;walk_at "rd";walk_at "st";obtain⟨L0,eL0⟩:∃L0,L0=((B.a,HO.ins A.iS B.dx (zf dl B.qa))::(dl,HO.lst (bB Ls))::(dr A Ls++(cA A ts++F))):=⟨_,rfl⟩;have hdl:(dl,HO.lst (bB Ls))∈L0:=by rw[eL0];exact ah _ aA
     have hhas:pG A Ls L0:=w9 A Ls _ fun c hc=>by rw[eL0];exact ah _ (ah _ (cM _ hc))
     have htk0:∀c∈cA A ts,c∈L0:=fun c hc=>by rw[eL0];exact ah _ (ah _ (aU _ (cM _ hc)))
     have hsq:H dl=some (.lst (bB Ls)):=hH.get 1 rfl;walk_at "rd";refine⟨⟨_,bY.of hsq⟩,?_⟩;intro D hD;generalize hE:upd _ D _=H1;rw[<-eL0]at hH;have hH1:=Holds.oW hE hH hD;refine⟨fun n m H'=>m=Ls.length - n/\n<=Ls.length/\∃dW:List Addr,dW.length=n/\((Pr.take n).map fun l=>(Ax.lineText l).length).sum<=Dy (Ls.take n)+n/\Holds H' ((D,.lst (dW.map V.ref))::(gS dW (Pr.take n)++L0)),⟨_,rfl,cE _,[],rfl,aD _,hH1⟩,?_⟩;rintro n m H' ⟨rfl,hn',dW,hprs,hsum,hH'⟩;have hsq':bY K H' dl (bB Ls):=bY.of (hH'.tl.mem (aU _ hdl));by_cases hlt:n<Ls.length
     ·have hLn:Ls[n]? =some Ls[n]:=aN hlt;obtain⟨l,hln,lis⟩:=eY hL hLn;have hmem:=aH hLn;obtain⟨fm,xs,s',ht1,ht2,ht3,ht4,ht5,ht6,ht7,ht8,ht9⟩:=yY lis;have hwt:=Ro htks hmem;refine .inr ⟨⟨_,V.ref Ls[n].ln.a,hsq',by unfold bB;rw[a9,hLn];rfl⟩,fun H2=>∃dW:List Addr,dW.length=n+1/\((Pr.take (n+1)).map fun l=>(Ax.lineText l).length).sum<=Dy (Ls.take (n+1))+(n+1)/\Holds H2 ((D,.lst (dW.map V.ref))::(gS dW (Pr.take (n+1))++L0)),fun H2 h2=>⟨Ls.length - (n+1),by omega,rfl,hlt,h2⟩,?_⟩;rintro x H2 ⟨rfl,hx⟩;have ex:x=V.ref Ls[n].ln.a:=by
       have:=hx _ hsq';unfold bB at this;rw[a9,hLn]at this;exact(bG this).symm
      subst ex;have hlc:=hH'.tl.mem (aU _ (kU hhas hmem));walk_at "rd";walk_at "tn";have hin:∀t∈Ls[n].a6,t∈ts:=fun t ht=>by
       rw[<-htks];exact gX.mpr ⟨_,hmem,ht⟩
      have hsub:∀c∈L0,c∈((D,HO.lst (dW.map V.ref))::(gS dW (Pr.take n)++L0)):=fun c hc=>ah _ (aU _ hc);refine⟨Ls[n].ln.tl,Ls[n].a6,xs,s',_,rfl,⟨hsub _ (Rr hhas hmem),fun t ht=>hsub _ (htk0 _ (Mh (hin t ht)).1),fun t ht=>hsub _ (htk0 _ (Mh (hin t ht)).2),ht1,ht2,lis.rF.1,ht8,ht9⟩,hH',ht5,ht4,ht6,ht3,by omega,fun H pa' hle hH=>?_⟩;rw[ht7]at hle hH;refine⟨_,hH.get 1 rfl,by rw[aP,sizeLine_eq];omega,?_⟩;have h3:=hH.set (o':=.lst (dW.map V.ref++[V.ref pa'])) 1 rfl;rw[gc,bH]at h3;refine⟨dW++[pa'],by rw[aq,aX,hprs],?_,?_⟩
      ·rw[gR hln,gR hLn,bC,List.sum_append,N9];simp only[a8,mC,k9,List.sum_nil];omega
      ·rw[Gs hprs hln,bC];refine h3.perm ?_;refine List.Perm.trans (.swap _ _ _) (.cons _ ?_);rw[aw];exact(bh (l₁:=gS dW (Pr.take n))).symm
     ·have:n=Ls.length:=by omega
      subst this;refine .inl ⟨⟨_,hsq',by rw[fw];exact aD _⟩,?_⟩;rw[hp,dt]at hsum hH';rw[<-hp,dt]at hsum;have hH:Holds H' ((B.a,HO.ins A.iS B.dx (zf dl B.qa))::(D,.lst (dW.map V.ref))::(gS dW Pr++((dl,HO.lst (bB Ls))::(dr A Ls++(cA A ts++F))))):=hH'.perm (by
       rw[eL0];exact bh (l₁:=(D,HO.lst (dW.map V.ref))::gS dW Pr))
      walk_at "rd";walk_at "st";walk_at "rd";refine⟨by with_unfolding_all exact ab rfl,?_⟩;walk_at "new";have hwt:Dy Ls<=1024:=by rw[<-Js,htks];exact hw
      refine k _ ⟨B.a,B.dx,dl,D,Ls,dW⟩ _ rfl ⟨hL,hprs.trans hp,hfew,hfine,by(try dsimp only);omega⟩ ?_;have hH:Holds _ _:=hH.sub (M:=(np,.lst [V.int 0])::(B.a,HO.ins A.iS B.dx (zf dl D))::(D,.lst (dW.map V.ref))::(gS dW Pr++((dl,HO.lst (bB Ls))::(dr A Ls++F)))) (.cons_cons _ (.cons_cons _ (.cons_cons _ (bE (bt _) (.cons_cons _ (bE (bt _) (aL _ _)))))));refine hH.perm (.cons _ (.cons _ ?_));show List.Perm _ ((dl,HO.lst (bB Ls))::(D,HO.lst (dW.map V.ref))::((gS dW Pr++dr A Ls)++F));rw[aw];exact bh (l₁:=(D,HO.lst (dW.map V.ref))::gS dW Pr)
    ·rw[KW h1 hpr (hfw.trans hx)]at k;walk_at "rd";refine⟨T2,_,0,_,rfl,rfl,iR.of (hH.get 0 rfl),rfl,?_⟩;walk_at "rd";refine⟨T2,_,1,_,rfl,rfl,iR.of (hH.get 0 rfl),rfl,?_⟩;walk_at "tn";refine⟨by with_unfolding_all exact ab rfl,?_⟩;walk_at "new";exact k _ B _ rfl is (hH.sub (.cons_cons _ (.cons _ (.cons _ (.cons _ (((aW _ _).trans (aL _ _)).trans (aL _ _)))))))
theorem kb(pre l:List Int){j:Nat}{z:Int}(h:l[j]? =some z){n:Nat}(e:n=pre.length+j):(pre++l)[n]? =some z:=by
 rw[dj (by omega),e,fH];exact h
theorem qv{A:Ad}{R:jt}{n m:Nat}(e:n=m):jt.c A {R with r:=n}=jt.c A {R with r:=m}:=by rw[e]
def yg(K:PySem.W.Frag)(A:Ad):Sp:=fun vs H Q _=>∃(B:gq)(s:Ax.Program)(R:jt)(pre l rest:List Int)(s':Ax.Program)(ans:List Int)(F:List Cell),vs=[.ref B.a,.ref R.a]/\B.Is s/\nt K F R.na (pre++l)/\R.r=pre.length/\ag.sN s l rest s' ans/\Holds H (R.c A::(B.cells A s++F))/\
 ∀H'(B':gq)(p:Addr)(pre':List Int),B'.a=B.a->B'.Is s'->pre++l=pre'++rest->Holds H' ((p,.lst (zs ans))::jt.c A {R with r:=pre'.length}::(B'.cells A s'++F))->Q (.ref p) H'
theorem yy(T:Txt P w K mg A):Ok P w K mg base 10 A.qM ["book","row"] (yg K A):=by
 refine T.qO.ok kK (fun vs H Q E h=>?_) (fun cdv A' outer s H vs Q E hr h=>?_)
 ·walk_at "vl"
 ·obtain⟨B,s,R,pre,l,rest,s',ans,F,rfl,is,hA0,hr0,hask,hH,k⟩:=h;refine⟨_,(ae (bp (i:=2) kK.nd rfl (Or.inl rfl) (aI (gT T) (hr.mono (by decide)) (by rfl) T.gE.at_ (aa (pv 1) au)))
   (ae (bg (aO cH (pv 2) (bZ (by rfl) T.Sr) (bb _)) (ak (aF (aI (CM T) (hr.mono (by decide)) (by rfl) T.vx.at_ (aa (pv 0) (aa (aI (wU T) (hr.mono (by decide)) (by rfl) T.sI.at_ (aa (pv 1) au)) au))))) aQ)
   (ae (bg (aO cH (pv 2) (bZ (by rfl) T.QZ) (bb _)) (ak (aF (cX (aa (dc cV (by rfl) T.gi boot_len (aa (aC (pv 0) rfl) au)) au)))) aQ)
   (ae (bg (aO cH (pv 2) (bZ (by rfl) T.Ss) (bb _)) (ak (aF (aI (CO T) (hr.mono (by decide)) (by rfl) T.vz.at_ (aa (pv 0) (aa (aI (gT T) (hr.mono (by decide)) (by rfl) T.gE.at_ (aa (pv 1) au)) au))))) aQ)
   (ae (bg (aO cH (pv 2) (bZ (by rfl) T.Sv) (bb _)) (ak (aF (aI (CQ T) (hr.mono (by decide)) (by rfl) T.vB.at_ (aa (pv 0) (aa (aI (wU T) (hr.mono (by decide)) (by rfl) T.sI.at_ (aa (pv 1) au)) au))))) aQ)
   (ae (bg (aO cH (pv 2) (bZ (by rfl) T.Sq) (bb _)) (ak (aF (aI (CL T) (hr.mono (by decide)) (by rfl) T.vw.at_ (aa (pv 0) (aa (aI (gT T) (hr.mono (by decide)) (by rfl) T.gE.at_ (aa (pv 1) au)) au))))) aQ)
   (ae (bg (aO cH (pv 2) (bZ (by rfl) T.QX) (bb _)) (ak (aF (aI (AX T) (hr.mono (by decide)) (by rfl) T.tQ.at_ (aa (pv 0) au)))) aQ)
   (ae (bg (aO cH (pv 2) (bZ (by rfl) T.QY) (bb _)) (ae (bp (i:=3) kK.nd rfl (Or.inl rfl) (aI (gT T) (hr.mono (by decide)) (by rfl) T.gE.at_ (aa (pv 1) au)))
   (ak (aF (aI (AY T) (hr.mono (by decide)) (by rfl) T.tR.at_ (aa (pv 0) (aa (pv 3) (aa (aI (gT T) (hr.mono (by decide)) (by rfl) T.gE.at_ (aa (pv 1) au)) au))))))) aQ)
   (ak OC))))))))),?_⟩
  have hA:nt K (B.cells A s++F) R.na (pre++l):=hA0.up fun c hc=>aU _ hc;have sb:∀(c0:Cell),∀c∈B.cells A s,c∈c0::(B.cells A s++F):=fun c0 c hc=>ah _ (cM _ hc);walk_at "rd";walk_at "tn";cases hask with
  |read t rest ht=>
   refine⟨R,_,0,_,rfl,hA,kb pre _ (j:=0) rfl (by omega),hH,fun H hH=>?_⟩;walk_at "rd";walk_at "tn";refine⟨{R with r:=R.r+1},pre++[0],ag.ofBytes t,rest,B.cells A s++F,rfl,by rw[aw];exact hA,by rw[aq,aX,hr0],hH,fun H ta hH=>?_⟩;walk_at "rd";walk_at "tn";have hH:=hH.perm (.cons _ (bh (l₁:=B.cells A s)).symm);refine⟨B,s,ta,t,_,rfl,is,by rw[Nc];exact hH,fun H B' p eb is' hH=>?_⟩;have hH:=hH.perm (.cons _ (bh (l₁:=B'.cells A _)));refine k _ B' p (pre++(0::((ag.ofBytes t).length:Int)::ag.ofBytes t)) eb is' (by simp) ?_;rw[qv (A:=A) (R:=R) (n:=_) (m:=R.r+1+(1+(ag.ofBytes t).length)) (by rw[aq,ay,ay];omega)];exact hH
  |lines rest=>
   refine⟨R,_,1,_,rfl,hA,kb pre _ (j:=0) rfl (by omega),hH,fun H hH=>?_⟩;have hb:=hH.mem (B.z8 (sb _));have hpa:=hH.mem (B.CK (sb _));walk_at "rd";walk_at "len";rw[fw,eA is.lines];walk_at "tn";refine⟨by with_unfolding_all exact ab rfl,?_⟩;walk_at "new";refine k _ B _ (pre++[1]) rfl is (by simp) ?_;rw[qv (A:=A) (R:=R) (n:=_) (m:=R.r+1) (by rw[aq,aX];omega)];exact hH
  |line i rest=>
   refine⟨R,_,2,_,rfl,hA,kb pre _ (j:=0) rfl (by omega),hH,fun H hH=>?_⟩;walk_at "rd";walk_at "tn";refine⟨{R with r:=R.r+1},_,(i:Int),_,rfl,hA,kb pre _ (j:=1) rfl (by show R.r+1=_;omega),hH,fun H hH=>?_⟩;walk_at "rd";walk_at "tn";refine⟨B,s,i,_,rfl,is,hH,sb _,fun H p hH=>?_⟩;refine k _ B _ (pre++[2,(i:Int)]) rfl is (by simp) ?_;rw[qv (A:=A) (R:=R) (n:=_) (m:=R.r+1+1) (by rw[aq];show _+2=_;omega)];exact hH
  |find t rest ht=>
   refine⟨R,_,3,_,rfl,hA,kb pre _ (j:=0) rfl (by omega),hH,fun H hH=>?_⟩;walk_at "rd";walk_at "tn";refine⟨{R with r:=R.r+1},pre++[3],ag.ofBytes t,rest,B.cells A s++F,rfl,by rw[aw];exact hA,by rw[aq,aX,hr0],hH,fun H ta hH=>?_⟩;walk_at "rd";walk_at "tn";refine⟨B,s,ta,t,_,rfl,is,hH,by rw[Nc];exact aA,fun c hc=>ah _ (sb _ c hc),fun H p hH=>?_⟩;refine k _ B p (pre++(3::((ag.ofBytes t).length:Int)::ag.ofBytes t)) rfl is (by simp) ?_;rw[qv (A:=A) (R:=R) (n:=_) (m:=R.r+1+(1+(ag.ofBytes t).length)) (by rw[aq,ay,ay];omega)];exact hH.sub (.cons_cons _ (aW _ _))
  |text i rest=>
   refine⟨R,_,4,_,rfl,hA,kb pre _ (j:=0) rfl (by omega),hH,fun H hH=>?_⟩;walk_at "rd";walk_at "tn";refine⟨{R with r:=R.r+1},_,(i:Int),_,rfl,hA,kb pre _ (j:=1) rfl (by show R.r+1=_;omega),hH,fun H hH=>?_⟩;walk_at "rd";walk_at "tn";refine⟨B,s,i,_,rfl,is,hH,sb _,fun H p hH=>?_⟩;refine k _ B _ (pre++[4,(i:Int)]) rfl is (by simp) ?_;rw[qv (A:=A) (R:=R) (n:=_) (m:=R.r+1+1) (by rw[aq];show _+2=_;omega)];exact hH
  |print rest=>
   refine⟨R,_,5,_,rfl,hA,kb pre _ (j:=0) rfl (by omega),hH,fun H hH=>?_⟩;walk_at "rd";walk_at "tn";refine⟨B,s,_,rfl,is,hH,sb _,fun H p hH=>?_⟩;refine k _ B _ (pre++[5]) rfl is (by simp) ?_;rw[qv (A:=A) (R:=R) (n:=_) (m:=R.r+1) (by rw[aq,aX];omega)];exact hH
  |needs i j rest=>
   refine⟨R,_,6,_,rfl,hA,kb pre _ (j:=0) rfl (by omega),hH,fun H hH=>?_⟩;walk_at "rd";walk_at "tn";refine⟨{R with r:=R.r+1},_,(i:Int),_,rfl,hA,kb pre _ (j:=1) rfl (by show R.r+1=_;omega),hH,fun H hH=>?_⟩;walk_at "rd";walk_at "tn";refine⟨{R with r:=R.r+1+1},_,(j:Int),_,rfl,hA,kb pre _ (j:=2) rfl (by show R.r+1+1=_;omega),hH,fun H hH=>?_⟩;walk_at "rd";walk_at "tn";refine⟨B,s,i,j,_,rfl,is,hH,sb _,fun H p hH=>?_⟩;refine k _ B _ (pre++[6,(i:Int),(j:Int)]) rfl is (by simp) ?_;rw[qv (A:=A) (R:=R) (n:=_) (m:=R.r+1+1+1) (by rw[aq];show _+3=_;omega)];exact hH
theorem Ri{B:gq}{s s':Ax.Program}{l rest ans:List Int}(is:B.Is s)(h:ag.sN s l rest s' ans):ans.length<=5000:=by
 have hp:=eA is.lines;have hf:=is.rF;have hs:=is.small;cases h with
 |read t rest ht=>
  unfold AxPrograms.readAnswer;split
  ·exact cR rfl
  ·split
   ·exact cR rfl
   ·split<;>exact cR rfl
 |lines rest=>exact cR rfl
 |line i rest=>
  cases e:s[i]? with
  |none=>rw[JI e];exact cR rfl
  |some l=>
   have h1:=is.text (aH e);have h2:=wV l;rw[G5 e,aq,aq,sC];show 2+_+3<=_;omega
 |find t rest ht=>
  rw[JY];split<;>exact cR rfl
 |text i rest=>
  cases e:s[i]? with
  |none=>rw[Jt e];exact cR rfl
  |some l=>
   have h1:=is.text (aH e);rw[FY e,ay,ay,sC];omega
 |print rest=>
  rw[Gq,ay,ay,sC,Dz];omega
 |needs i j rest=>
  cases h1:(Ax.arrayAt s i).isSome with
  |false=>rw[uB (.inl h1)];exact cR rfl
  |true=>
   cases h2:(Ax.arrayAt s j).isSome with
   |false=>rw[uB (.inr h2)];exact cR rfl
   |true=>rw[DW h1 h2];exact cR rfl
def tl(s:Ax.Program)(cs:List (List (List Int))):List Int:=PyFlat.told (PyFlat.played AxProgramsNeutral.step s cs)
theorem Qa(s:Ax.Program)(c:List (List Int))(cs:List (List (List Int))):tl s (c::cs)=(((AxProgramsNeutral.step s c).2.length:Int)::(AxProgramsNeutral.step s c).2)++tl (AxProgramsNeutral.step s c).1 cs:=by
 unfold tl;show PyFlat.told ((AxProgramsNeutral.step s c).2::PyFlat.played AxProgramsNeutral.step (AxProgramsNeutral.step s c).1 cs)=_;rw[ag.Mg]
theorem Oh(a dx pa qa:Addr):gq.Is ⟨a,dx,pa,qa,[],[]⟩ []:=⟨.nil,rfl,cE _,⟨fun{j k l m} h _ _=>(nomatch h),fun _ h=>(nomatch h)⟩,cE _⟩
def Au(K:PySem.W.Frag):Sp:=fun vs H Q _=>∃(na:Addr)(l:List Int)(cs:List (List (List Int)))(F:List Cell),vs=[.ref na]/\nt K F na l/\Holds H F/\PyFlat.calls PyWqacdq.shape l.length l=some cs/\(∀c∈cs,AxProgramsNeutral.asked1 c=true)/\cs.length<=400/\
 ∀H'(p:Addr),H' p=some (.lst (zs (tl [] cs)))->Q (.ref p) H'
theorem A1{fd:FuncData}(T:Txt P w K mg A)(Fn:EE K "answers" "answers" oS A.oZ fd):iF P w K mg base xU 11 A.oZ fd ["calls"] (Au K):=by
 refine Fn.ok mM (fun vs H Q E h=>?_) (fun cdv A' outer s H vs Q E hr h=>?_)
 ·walk_at "vl"
 ·obtain⟨na,full,cs0,F,rfl,hA,hH,hcs0,hask0,hfew0,k⟩:=h;refine⟨_,(ae (bp (i:=1) mM.nd rfl (Or.inl rfl) (DR (QK T) (hr.mono (by decide)) (by rfl) T.R8))
   (ae (bp (i:=2) mM.nd rfl (Or.inl rfl) (d5 (R5 T) (hr.mono (by decide)) (by rfl) T.Tz (aa (pv 0) au)))
   (ae (bp (i:=3) mM.nd rfl (Or.inl rfl) (cX au))
   (ae (nS PassesOwn.never (aO rn (aC (pv 2) rfl) (dc cV (by rfl) T.gi boot_len (aa (pv 0) au)) (bb _)) (ae (bp (i:=4) mM.nd rfl (Or.inl rfl) (aI (yy T) (hr.mono (by decide)) (by rfl) T.qO.at_ (aa (pv 1) (aa (pv 2) au))))
   (ae (cN (hZ bj bO bN e7 (pv 3) (aa (dc cV (by rfl) T.gi boot_len (aa (pv 4) au)) au)))
   (ak (cN (hZ bj jK jI wW (pv 3) (aa (pv 4) au)))))))
   (ak (aF (pv 3))))))),?_⟩
  walk_at "mk";refine⟨x,dx,_,rfl,hH,fun H pa qa hH=>⟨rfl,?_⟩⟩;obtain⟨ba,rfl⟩:∃ba,ba=x:=⟨_,rfl⟩;obtain⟨bdx,rfl⟩:∃bdx,bdx=dx:=⟨_,rfl⟩;walk_at "rd";walk_at "tn";walk_at "mk";refine⟨x,dx,na,_,rfl,hH,fun H hH=>⟨rfl,?_⟩⟩;obtain⟨ra,rfl⟩:∃ra,ra=x:=⟨_,rfl⟩;obtain⟨rdx,rfl⟩:∃rdx,rdx=dx:=⟨_,rfl⟩;walk_at "rd";walk_at "nl";obtain⟨ga,rfl⟩:∃ga,ga=np:=⟨_,rfl⟩;have hH:=Holds.reorder hH 5 [0,1,4,3,2] rfl;walk_at "ro";refine⟨fun m σ H'=>∃(v4:Option V)(B:gq)(s:Ax.Program)(pre l:List Int)(g:Nat)(cs:List (List (List Int)))(out:List Int),m=cs.length/\σ=[some (.ref na),some (.ref ba),some (.ref ra),some (.ref ga),v4]/\B.a=ba/\B.Is s/\full=pre++l/\PyFlat.calls PyWqacdq.shape g l=some cs/\(∀c∈cs,AxProgramsNeutral.asked1 c=true)/\cs.length<=400/\out.length+5001*cs.length<=5001*400/\tl [] cs0=out++tl s cs/\
    Holds H' ((ga,.lst (zs out))::jt.c A ⟨ra,rdx,na,pre.length⟩::(B.cells A s++F)),
   ⟨_,none,⟨ba,bdx,pa,qa,[],[]⟩,[],[],full,full.length,cs0,[],rfl,rfl,rfl,Oh _ _ _ _,rfl,hcs0,hask0,hfew0,by simp;omega,rfl,hH⟩,?_⟩
  rintro m σ H' ⟨v4,B,s,pre,l,g,cs,out,rfl,rfl,eb,is,rfl,hcs,hask,hfew,hout,htl,hJ⟩;have hH:=hJ;have sF:∀c∈F,c∈((ga,HO.lst (zs out))::jt.c A ⟨ra,rdx,na,pre.length⟩::(B.cells A s++F)):=fun c hc=>ah _ (ah _ (aU _ hc));unfold jt.c at hH;walk_at "rd";refine SA ⟨rfl,.inl (hA.get hJ sF),?_⟩;rw[p8,aq];walk_at "rd";cases l with
  |nil=>
   have:=ag.En hcs;subst this;refine bV (fun q=>by have:=ab q;(try dsimp only at this);simp at this) ?_;walk_at "rd";refine k _ _ ?_;rw[htl];show _=some (HO.lst (zs (out++[])));rw[aK];exact hH.get 0 rfl
  |cons p r=>
   obtain⟨g',c,cs',rest,rfl,rfl,cut,hcs'⟩:=ag.BQ hcs;have hc:=ag.Rg (s:=s) cut (hask c aA);have hle:=Ri is hc;refine cn (ao (by(try dsimp only);simp;omega)) ?_;refine⟨fun σ H'=>∃(v4:Option V)(B:gq)(s:Ax.Program)(pre' l:List Int)(g:Nat)(cs:List (List (List Int)))(out:List Int),cs'.length=cs.length/\σ=[some (.ref na),some (.ref ba),some (.ref ra),some (.ref ga),v4]/\B.a=ba/\B.Is s/\pre++(p::r)=pre'++l/\PyFlat.calls PyWqacdq.shape g l=some cs/\(∀c∈cs,AxProgramsNeutral.asked1 c=true)/\cs.length<=400/\out.length+5001*cs.length<=5001*400/\tl [] cs0=out++tl s cs/\
    Holds H' ((ga,.lst (zs out))::jt.c A ⟨ra,rdx,na,pre'.length⟩::(B.cells A s++F)),fun σ' H' h=>⟨_,by rw[ay];exact ly _,h⟩,?_⟩
   walk_at "rd";walk_at "tn";have hP:=hJ.perm (List.Perm.trans (.swap _ _ _) (.cons _ (bh (l₁:=B.cells A s)).symm));rw[<-eb];refine⟨B,s,⟨ra,rdx,na,pre.length⟩,pre,p::r,rest,_,_,(ga,.lst (zs out))::F,rfl,is,hA.up fun c hc=>ah _ hc,rfl,hc,hP,fun H B' pa' pre' eb' is' epre hH=>?_⟩;have hH:=hH.perm (.cons _ (.cons _ (bh (l₁:=B'.cells A _))));have hH:=Holds.reorder hH 3 [2,0,1] rfl;walk_at "ro";walk_at "rd";refine⟨ty_list (hH.get 0 rfl),?_⟩;walk_at "rd";walk_at "len";rw[p8];walk_at "tn";rw[ay]at hout hfew;refine jC hH 0 rfl (by rw[p8,sizeLine_eq];omega) fun H hH=>?_;rw[bH]at hH;walk_at "rd";refine⟨ty_list (hH.get 0 rfl),?_⟩;walk_at "rd";walk_at "tn";refine FC hH 0 rfl (hH.get 1 rfl) (by rw[aq,p8,p8,sizeLine_eq];simp;omega) fun H hH=>?_;rw[bH]at hH;refine⟨_,B',_,pre',rest,g',cs',out++(((AxProgramsNeutral.step s c).2.length:Int)::(AxProgramsNeutral.step s c).2),rfl,rfl,eb',is',epre,hcs',fun c hc=>hask c (ah _ hc),by omega,by rw[aq,ay];omega,?_,?_⟩
   ·rw[htl,Qa,aw]
   ·have e:zs (out++(((AxProgramsNeutral.step s c).2.length:Int)::(AxProgramsNeutral.step s c).2))=zs out++[V.int ((AxProgramsNeutral.step s c).2.length:Int)]++zs (AxProgramsNeutral.step s c).2:=by
     rw[FQ,aw];rfl
    rw[e];exact hH.sub (.cons_cons _ (aW _ _))
theorem SR{H:Hp}{a:Addr}{l:List Int}(h:bY K H a (zs l)):∃F,nt K F a l/\Holds H F:=by
 have one:∀(o:HO),H a=some o->Holds H [(a,o)]:=fun o e=>⟨ib.mpr ⟨fun q=>(nomatch q),List.nodup_nil⟩,fun c hc=>by cases bI.mp hc;exact e⟩
 rcases h with(h|⟨o,h⟩)|h
 ·exact⟨_,fun H' q=>.inl (.inl (q _ aA)),one _ h⟩
 ·exact⟨_,fun H' q=>.inl (.inr ⟨o,q _ aA⟩),one _ h⟩
 ·exact⟨[],fun H' _=>.inr h,.nil⟩
theorem Mf{vs:List V}{H:Hp}{Q:VK}{E:XK}(h:Am K vs H Q E):Au K vs H Q E:=by
 obtain⟨na,l,h1,hs,ha,k⟩:=h;obtain⟨F,h2,h3⟩:=SR hs;obtain⟨cs,c1,c2,c3,c4⟩:=ag.U7 ha;refine⟨na,l,cs,F,h1,h2,h3,c1,c2,c3,fun H' p hp=>k H' p (bY.of ?_)⟩;rw[c4];exact hp
theorem R0:GoodTop:=⟨fun P w K mg A base fd T Fn=>
 ⟨fun vs H Q E h=>(A1 (base:=base) T Fn).len vs H Q E (Mf h),fun A' outer s H args us vs Q E hr he hb hv h=>(A1 (base:=base) T Fn).run A' outer s H args us vs Q E hr he hb hv (Mf h)⟩⟩
end aJ
theorem PySem.Challenge.cw_axisprograms_s01_answers_holds : PySem.Challenge.rw_axisprograms_s01_answers.Holds := by
  exact aJ.pre aJ.R0
