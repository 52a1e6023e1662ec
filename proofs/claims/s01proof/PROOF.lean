import PyProof.Rows.All
import Wide.All
import OpenK.AllK
import Wide.FinOn
import PyProof.EqAt
import PyProof.EqKinds
import PyProof.TupleCall
import KE.BitLaws
import Open.SpecLaws
import KE.OsHead
import KE.OsGo
import KE.KSortTupG
import KE.KMinKey
import PyVbnlae
import PySem.Challenge.RW_namebars_s01_answers
import KE.KBoundM
import KE.KSortKeyAny
import PyProof.Rows.SortG.SortRunsSt
import KE.KSortAsk
import PyProof.Rows.SetFrom
import KE.LcSums
import KE.KDictSum
set_option linter.all false
set_option bootstrap.genMatcherCode false
set_option genSizeOf false
abbrev Uaa := @List.length_map
abbrev Uab := @decide_eq_false
abbrev Uac := @decide_eq_true
abbrev Uad := @List.mem_cons_of_mem
abbrev Uae := @List.length_cons
abbrev Uaf := @List.mem_cons
abbrev Uag := @Nat.le_refl
abbrev Uah := @List.mem_filter
abbrev Uai := @List.getElem?_eq_getElem
abbrev Uaj := @List.length_append
abbrev Uak := @List.mem_cons_self
abbrev Ual := @List.getD_eq_getElem?_getD
abbrev Uam := @List.mem_singleton
abbrev Uan := @List.length_filter_le
abbrev Uao := @List.pairwise_cons
abbrev Uap := @Bool.false_ne_true
abbrev Uaq := @List.mem_map
abbrev Uar := @List.find?_cons
abbrev Uas := @List.map_cons
abbrev Uat := @Bool.and_eq_true
abbrev Uau := @List.map_map
abbrev Uav := @List.size_toArray
abbrev Uaw := @List.mem_of_getElem?
abbrev Uax := @Nat.zero_le
abbrev Uay := @List.filter_cons
abbrev Uaz := @List.mem_append_right
abbrev Uba := @Nat.ne_of_lt
abbrev Ubb := @Nat.le_trans
abbrev Ubc := @List.map_append
abbrev Ubd := @List.mem_append
abbrev Ube := @Array.length_toList
abbrev Ubf := @Nat.lt_of_lt_of_le
abbrev Ubg := @List.mem_map_of_mem
abbrev Ubh := @List.getElem?_eq_some_iff
abbrev Ubi := @beq_eq_false_iff_ne
abbrev Ubj := @List.mem_append_left
abbrev Ubk := @Nat.le_of_lt
abbrev Ubl := @List.length_take
abbrev Ubm := @decide_eq_true_eq
abbrev Ubn := @Int.le_refl
abbrev Ubo := @List.append_nil
abbrev Ubp := @Nat.lt_of_le_of_lt
abbrev Ubq := @List.filter_filter
abbrev Ubr := @Array.getElem?_toList
abbrev Ubs := @Int.toNat_natCast
abbrev Ubt := @List.length_nil
abbrev Ubu := @List.take_length
abbrev Ubv := @Nat.lt_succ_of_lt
abbrev Ubw := @List.getElem?_map
abbrev Ubx := @List.filter_append
abbrev Uby := @List.length_drop
abbrev Ubz := @Option.map_eq_some_iff
abbrev Uca := @List.flatMap_cons
abbrev Ucb := @Bool.false_eq_true
abbrev Ucc := @Nat.lt_irrefl
abbrev Ucd := @Array.size_map
abbrev Uce := @List.nodup_cons
abbrev Ucf := @List.not_mem_cons_of_ne_of_not_mem
abbrev Ucg := @Nat.lt_succ_self
abbrev Uch := @List.lookup_cons
abbrev Uci := @List.any_cons
abbrev Ucj := @List.pairwise_iff_getElem
abbrev Uck := @Bool.eq_iff_iff
abbrev Ucl := @List.not_mem_nil
abbrev Ucm := @Bool.not_eq_true
abbrev Ucn := @Array.toList_map
abbrev Uco := @List.mem_range
abbrev Ucp := @List.length_singleton
abbrev Ucq := @List.filter_nil
abbrev Ucr := @Option.isSome_map
abbrev Ucs := @List.append_assoc
abbrev Uct := @List.perm_append_singleton
abbrev Ucu := @List.drop_eq_getElem_cons
abbrev Ucv := @Array.getElem?_eq_getElem
abbrev Ucw := @List.filter_sublist
abbrev Ucx := @List.map_nil
abbrev Ucy := @Bool.and_true
set_option Elab.async false
set_option maxRecDepth 100000
namespace L2
open PySem PySem.Spec PyProof.Rows
abbrev Key:=Sum Int Str
def VP:Key->Value->Bool
 | .inl k,v=>Value.isInt k v
 | .inr x,v=>Value.isStrOf x v
def ziW (w:World):Key->Int
 | .inl k=>hashInt k
 | .inr x=>hashStr w x
theorem yj:∀{k:Key}{v:Value},VP k v=true->(∃i t,k=Sum.inl i/\v=Value.int i t)\/(∃x t,k=Sum.inr x/\v=Value.str x t)
 | .inl i,v,h=>by
  obtain⟨t,e⟩:=Value.isInt_shape (k:=i) (v:=v) h
  exact .inl ⟨i,t,rfl,e⟩
 | .inr x,v,h=>by
  obtain⟨t,e⟩:=Value.isStrOf_shape (x:=x) (v:=v) h
  exact .inr ⟨x,t,rfl,e⟩
theorem ww (i:Int) (t:Tok):VP (.inl i) (.int i t)=true:=by simp [VP,Value.isInt]
theorem zbf (x:Str) (t:Tok):VP (.inr x) (.str x t)=true:=by simp [VP,Value.isStrOf]
theorem zgf (a b:Int):decide ((Sum.inl a:Key)=Sum.inl b)=(a == b):=by
 by_cases e:a=b
 ·subst e;simp
 ·have h:¬(Sum.inl a:Key)=Sum.inl b:=fun q=>e (Sum.inl.inj q)
  rw[Uab h]
  exact(Ubi.mpr e).symm
theorem zgx (a b:Str):decide ((Sum.inr a:Key)=Sum.inr b)=decide (a=b):=by
 by_cases e:a=b
 ·subst e;simp
 ·have h:¬(Sum.inr a:Key)=Sum.inr b:=fun q=>e (Sum.inr.inj q)
  rw[Uab h,Uab e]
theorem zg6 (a:Int) (b:Str):decide ((Sum.inl a:Key)=Sum.inr b)=false:=Uab (fun q=>nomatch q)
theorem zgX (a:Str) (b:Int):decide ((Sum.inr a:Key)=Sum.inl b)=false:=Uab (fun q=>nomatch q)
def zI (prog:Program) (w:World):PySem.KeyKind prog w Key where
 is:=VP
 hash:=ziW w
 inj:=fun v a b ha hb=>by
  rcases yj ha with ⟨i,t,rfl,rfl⟩ | ⟨x,t,rfl,rfl⟩
  ·rcases yj hb with ⟨j,u,rfl,e⟩ | ⟨y,u,rfl,e⟩
   ·injection e with e1 _;rw[e1]
   ·exact nomatch e
  ·rcases yj hb with ⟨j,u,rfl,e⟩ | ⟨y,u,rfl,e⟩
   ·exact nomatch e
   ·injection e with e1 _;rw[e1]
 byValue:=fun k v h=>by
  rcases yj h with ⟨i,t,rfl,rfl⟩ | ⟨x,t,rfl,rfl⟩ <;> rfl
 pyHash:=fun hv h=>by
  rcases yj hv with ⟨i,t,rfl,rfl⟩ | ⟨x,t,rfl,rfl⟩
  ·exact wpAny_pyHash_int h
  ·exact wpAny_pyHash_str h
 eqBool:=fun hu hv h=>by
  rcases yj hu with ⟨i,t,rfl,rfl⟩ | ⟨x,t,rfl,rfl⟩
  ·rcases yj hv with ⟨j,u,rfl,rfl⟩ | ⟨y,u,rfl,rfl⟩
   ·rw[zgf] at h;exact wpAny_eqBool_int h
   ·rw[zg6] at h;exact SeqAt.EqAt.int_str i t y u _ _ _ _ h
  ·rcases yj hv with ⟨j,u,rfl,rfl⟩ | ⟨y,u,rfl,rfl⟩
   ·rw[zgX] at h;exact SeqAt.EqAt.str_int x t j u _ _ _ _ h
   ·rw[zgx] at h;exact wpAny_eqBool_str h
 «strs»:=fun k x t v h=>by
  rcases yj h with ⟨i,u,rfl,e⟩ | ⟨y,u,rfl,e⟩
  ·exact nomatch e
  ·injection e with e1 _
   subst e1
   cases v <;> rfl
theorem K3 (prog:Program) (w:World) (i:Int) (t:Tok):(zI prog w).is (.inl i) (.int i t)=true:=ww i t
theorem Vr (prog:Program) (w:World) (x:Str) (t:Tok):(zI prog w).is (.inr x) (.str x t)=true:=zbf x t
end L2
namespace L2
open PySem PySem.Spec PyProof.Rows
inductive V where
 | non | bl (b:Bool) | int (i:Int) | str (x:Str) | byt (b:Array UInt8) | flt (b:UInt64) | ref (a:Addr) | ty (n:String)
 deriving DecidableEq
def yx:V->Value->Prop
 | .non,u=>u=Value.none
 | .bl b,u=>u=Value.bool b
 | .int i,u=>∃t,u=Value.int i t
 | .str x,u=>∃t,u=Value.str x t
 | .byt b,u=>∃t,u=Value.bytes b t
 | .flt b,u=>∃t,u=Value.float b t
 | .ref a,u=>u=Value.ref a
 | .ty n,u=>u=Value.type n
abbrev ym:List V->List Value->Prop:=Paired yx
theorem ym.length {xs:List V}{us:List Value} (r:ym xs us):xs.length=us.length:=Paired.length r
theorem ym.get:∀{xs:List V}{us:List Value}{i:Nat}{x:V},ym xs us->xs[i]? = some x->∃u,us[i]? = some u/\yx x u
 | _,_,_,_,.nil,e=>by simp at e
 | _,_,0,_,.cons r _,e=>by simp at e;subst e;exact⟨_,rfl,r⟩
 | _,_,i+1,x,.cons _ t,e=>by
  obtain⟨u,h1,h2⟩:=ym.get (i:=i) (x:=x) t (by simpa using e)
  exact⟨u,by simpa using h1,h2⟩
theorem ym.append:∀{xs ys:List V}{us ws:List Value},ym xs us->ym ys ws->ym (xs++ys) (us++ws)
 | _,_,_,_,.nil,s=>s
 | _,_,_,_,.cons r t,s=>.cons r (ym.append t s)
theorem ym.take:∀{xs:List V}{us:List Value} (n:Nat),ym xs us->ym (xs.take n) (us.take n)
 | _,_,0,_=>.nil
 | _,_,_+1,.nil=>.nil
 | _,_,n+1,.cons r t=>.cons r (ym.take n t)
theorem ym.drop:∀{xs:List V}{us:List Value} (n:Nat),ym xs us->ym (xs.drop n) (us.drop n)
 | _,_,0,r=>r
 | _,_,_+1,.nil=>.nil
 | _,_,n+1,.cons _ t=>ym.drop n t
def XO:Option V->Option Value->Prop
 | some v,some u=>yx v u
 | none,none=>True
 | _,_=>False
def KV {κ:Type}:List (κ×V)->List (κ×Value)->Prop:=Paired fun (p:κ×V) (q:κ×Value)=>p.1=q.1/\yx p.2 q.2
def kV:Key->V
 | .inl i=>.int i
 | .inr x=>.str x
inductive HO where
 | lst (xs:List V)
 | tup (xs:List V)
 | dK (kvs:List (Key×V)) | dT (kvs:List (List Key×V))
 | set (S:Int->Bool) (n:Nat)
 | ins (C dx:Addr) (fs:List (Str×V))
 | own (x:Addr)
 | xd (fs:List (Str×V))
 | met (f x:Addr)
 | rng (lo hi:Int)
 | frz (o:Obj) (u:HO)
 | tbl (ps:Array Value)
 | ext (φ:Heap->Prop)
abbrev Hp:=Addr->Option HO
def upd (H:Hp) (a:Addr) (o:HO):Hp:=fun b=>if b=a then some o else H b
theorem zc {H:Hp}{a:Addr}{o:HO}:upd H a o a=some o:=by unfold upd;rw[if_pos rfl]
theorem zh {H:Hp}{a b:Addr}{o:HO} (h:b≠a):upd H a o b=H b:=by unfold upd;rw[if_neg h]
theorem JT {H:Hp}{a:Addr}{o u:HO}:upd (upd H a o) a u=upd H a u:=by
 funext b;unfold upd;split <;> rfl
theorem zT {H:Hp}{a b:Addr}{o u:HO} (h:H a=some o) (h':H b=some u) (d:o≠u):a≠b:=by
 intro e;subst e;rw[h] at h';exact d (Option.some.inj h')
theorem zm {H:Hp}{a b:Addr}{o:HO} (h:H a=some o) (h':H b=none):a≠b:=by
 intro e;subst e;rw[h] at h';cases h'
section
variable (P:Program) (w:World)
def xU (H:Hp) (h:Heap) (a:Addr):HO->Prop
 | .lst xs=>xs.length<=sizeLine/\∃(its:List Value) (n:Nat),ym xs its/\h.get? a=some { cls:=.type "list",data:=.seq its.toArray n }
 | .tup xs=>xs.length<=sizeLine/\∃its:List Value,ym xs its/\IsTup h a its.toArray
 | .dK kvs=>kvs.length<=sizeLine/\(a == sysModules)=false/\∃vs,KV kvs vs/\h.DictOf (zI P w) a vs
 | .dT kvs=>kvs.length<=sizeLine/\(a == sysModules)=false/\∃xs:List (List Key×Addr×Value),
   Paired (fun (p:List Key×V) (q:List Key×Addr×Value)=>p.1=q.1/\H q.2.1=some (.tup (p.1.map kV))/\yx p.2 q.2.2) kvs xs ∧
   ∃o es ep,h.get? a=some o/\o.ExactDict/\o.data=.dict es ep/\es.toList=xs.map (entryOfKey (tupleKind (zI P w)))/\(xs.map (·.1)).Nodup
 | .set S n=>h.SetOf (intKind P w) a S n
 | .ins C dx fs=>H dx=some (.own a)/\fs.length<=1000/\dx≠a/\h.get? a=some (PySem.W.instObj C dx) ∧
   ∃mA,h.Ns1 dx mA/\(∀f,XO (fs.lookup f) (mA f))/\PySem.Within mA (fs.map (·.1))
 | .own _=>∃o,h.get? a=some o
 | .xd fs=>∃mA,h.Ns1 a mA/\∀f,XO (fs.lookup f) (mA f)
 | .rng lo hi=>∃t u v,h.get? a=some { cls:=.type "range",data:=.fields #[.int lo t,.int hi u,.int 1 v] }
 | .frz o u=>h.get? a=some o/\xU H h a u
 | .tbl ps=>h.get? a=some { cls:=.none,data:=.fields ps }
 | .met f x=>h.get? a=some (PySem.W.methodObj (.ref f) (.ref x))
 | .ext φ=>φ h/\(∃o,h.get? a=some o)/\∀h1 h2:Heap,φ h1->(∀o,h1.get? a=some o->h2.get? a=some o)->φ h2
def HOk (H:Hp) (h:Heap):Prop:=∀a o,H a=some o->xU P w H h a o
end
section
variable {P:Program}{w:World}{H H':Hp}{h h':Heap}{a:Addr}{o:HO}
theorem xU.lt (x:xU P w H h a o):a<h.objs.size:=by
 cases o with
 | lst xs=>obtain⟨_,_,_,_,e⟩:=x;exact Heap.lt_size e
 | tup xs=>obtain⟨_,_,_,p⟩:=x;exact p.lt
 | dK kvs=>obtain⟨_,_,_,_,o,_,_,e,_⟩:=x;exact Heap.lt_size e
 | dT kvs=>obtain⟨_,_,_,_,o,_,_,e,_⟩:=x;exact Heap.lt_size e
 | set S n=>obtain⟨o,_,_,_,e,_⟩:=x;exact Heap.lt_size e
 | ins C dx fs=>obtain⟨_,_,_,e,_⟩:=x;exact Heap.lt_size e
 | own y=>obtain⟨_,e⟩:=x;exact Heap.lt_size e
 | xd fs=>obtain⟨_,⟨_,_,_,e,_⟩,_⟩:=x;exact Heap.lt_size e
 | rng lo hi=>obtain⟨_,_,_,e⟩:=x;exact Heap.lt_size e
 | frz ob u=>obtain⟨e,_⟩:=x;exact Heap.lt_size e
 | tbl ps=>exact Heap.lt_size (show h.get? a=some _ from x)
 | met f y=>exact Heap.lt_size (show h.get? a=some _ from x)
 | ext φ=>obtain⟨_,⟨_,e⟩,_⟩:=x;exact Heap.lt_size e
theorem Paired.mapP {α β:Type}{F G:α->β->Prop}:∀{l₁:List α}{l₂:List β},Paired F l₁ l₂->(∀a b,F a b->G a b)->Paired G l₁ l₂
 | _,_,.nil,_=>.nil
 | _,_,.cons r t,f=>.cons (f _ _ r) (Paired.mapP t f)
theorem xU.stay (x:xU P w H h a o) (k:∀b u,(b=a\/H b=some (.own a))->h.get? b=some u->h'.get? b=some u)
  (ho:∀b,H b=some (.own a)->H' b=some (.own a)) (ht:∀b xs,H b=some (.tup xs)->H' b=some (.tup xs)):xU P w H' h' a o:=by
 induction o with
 | lst xs=>obtain⟨z,its,n,r,e⟩:=x;exact⟨z,its,n,r,k _ _ (.inl rfl) e⟩
 | tup xs=>obtain⟨z,its,r,ob,e,c⟩:=x;exact⟨z,its,r,ob,k _ _ (.inl rfl) e,c⟩
 | dK kvs=>obtain⟨z,y,vs,r,ob,es,ep,e,c⟩:=x;exact⟨z,y,vs,r,ob,es,ep,k _ _ (.inl rfl) e,c⟩
 | dT kvs=>
  obtain⟨z,y,xs,r,ob,es,ep,e,c⟩:=x
  exact⟨z,y,xs,Paired.mapP r fun p q z=>⟨z.1,ht _ _ z.2.1,z.2.2⟩,ob,es,ep,k _ _ (.inl rfl) e,c⟩
 | set S n=>obtain⟨ob,es,ep,t,e,c⟩:=x;exact⟨ob,es,ep,t,k _ _ (.inl rfl) e,c⟩
 | ins C dx fs=>
  obtain⟨d,z,ne,e,mA,⟨od,es,ep,e2,c⟩,r⟩:=x
  exact⟨ho _ d,z,ne,k _ _ (.inl rfl) e,mA,⟨od,es,ep,k _ _ (.inr d) e2,c⟩,r⟩
 | own y=>obtain⟨ob,e⟩:=x;exact⟨ob,k _ _ (.inl rfl) e⟩
 | xd fs=>obtain⟨mA,⟨od,es,ep,e,c⟩,r⟩:=x;exact⟨mA,⟨od,es,ep,k _ _ (.inl rfl) e,c⟩,r⟩
 | rng lo hi=>obtain⟨t,u,v,e⟩:=x;exact⟨t,u,v,k _ _ (.inl rfl) e⟩
 | frz ob u ih=>obtain⟨e,q⟩:=x;exact⟨k _ _ (.inl rfl) e,ih q⟩
 | tbl ps=>
  have e:h.get? a=some { cls:=.none,data:=.fields ps }:=x
  show h'.get? a=some { cls:=.none,data:=.fields ps }
  exact k a _ (.inl rfl) e
 | met f y=>
  have e:h.get? a=some (PySem.W.methodObj (.ref f) (.ref y)):=x
  show h'.get? a=some (PySem.W.methodObj (.ref f) (.ref y))
  exact k a _ (.inl rfl) e
 | ext φ=>obtain⟨p,⟨o,e⟩,st⟩:=x;exact⟨st _ _ p fun o q=>k _ _ (.inl rfl) q,⟨o,k _ _ (.inl rfl) e⟩,st⟩
theorem HOk.lt (x:HOk P w H h) (e:H a=some o):a<h.objs.size:=(x a o e).lt
theorem HOk.fresh (x:HOk P w H h) (e:h.objs.size<=a):H a=none:=by
 cases q:H a with
 | none=>rfl
 | some u=>exact absurd (Ubf (x.lt q) e) (Ucc _)
theorem HOk.kept (x:HOk P w H h) (k:∀b u,h.get? b=some u->h'.get? b=some u):HOk P w H h':=fun a o e=>
 (x a o e).stay (fun b u _ q=>k b u q) (fun _ q=>q) fun _ _ q=>q
theorem HOk.laid (x:HOk P w H h) (k:∀b u,h.get? b=some u->h'.get? b=some u) (hp:h.objs.size<=a) (new:xU P w (upd H a o) h' a o):HOk P w (upd H a o) h':=fun b u e=>by
 have hn:=x.fresh hp
 by_cases hb:b=a
 ·subst hb;rw[zc] at e;cases e;exact new
 ·rw[zh hb] at e
  exact(x b u e).stay (fun c v _ q=>k c v q) (fun c q=>by rw[zh (zm q hn)];exact q) fun c xs q=>by rw[zh (zm q hn)];exact q
end
def Rd (H:Hp) (a:Addr) (u:HO):Prop:=H a=some u\/∃o,H a=some (.frz o u)
theorem Rd.ok {P:Program}{w:World}{H:Hp}{h:Heap}{a:Addr}{u:HO} (r:Rd H a u) (x:HOk P w H h):xU P w H h a u:=by
 rcases r with r | ⟨o,r⟩
 ·exact x a u r
 ·obtain⟨_,q⟩:=x a _ r
  exact q
def Mut:Option HO->Prop
 | some (.lst _)=>True
 | some (.dK _)=>True
 | some (.dT _)=>True
 | some (.set _ _)=>True
 | some (.ins _ _ _)=>True
 | some (.ext _)=>True
 | _=>False
section
variable {P:Program}{w:World}{H:Hp}{h h':Heap}{x e:Addr}{o':HO}
theorem HOk.write (ok:HOk P w H h) (mu:Mut (H x)) (he:e=x\/H e=some (.own x)) (k:∀b u,b≠e->h.get? b=some u->h'.get? b=some u) (heo:∃u,h'.get? e=some u)
  (new:xU P w (upd H x o') h' x o'):HOk P w (upd H x o') h':=fun b u q=>by
 have nown:∀c y,H c=some (.own y)->c≠x:=fun c y r z=>by subst z;rw[r] at mu;exact mu
 have ntup:∀c xs,H c=some (.tup xs)->c≠x:=fun c xs r z=>by subst z;rw[r] at mu;exact mu
 by_cases hb:b=x
 ·subst hb;rw[zc] at q;cases q;exact new
 ·rw[zh hb] at q
  by_cases hbe:b=e
  ·have q':H b=some (.own x):=by
    rcases he with z | z
    ·exact absurd (hbe.trans z) hb
    ·rw[hbe];exact z
   rw[q] at q';cases q'
   obtain⟨v,hv⟩:=heo
   exact⟨v,by rw[hbe];exact hv⟩
  ·refine(ok b u q).stay (fun c v hc r=>k c v ?_ r) (fun c r=>by rw[zh (nown c b r)];exact r) fun c xs r=>by rw[zh (ntup c xs r)];exact r
   rcases hc with rfl | hc
   ·exact hbe
   ·rintro rfl
    rcases he with z | z
    ·exact nown c b hc z
    ·rw[hc] at z;cases z;exact hb rfl
end
structure Un (fs ex:List Addr) (H H':Hp) (h h':Heap):Prop where
 keep:∀b o,h.get? b=some o->H b=none->b∉fs->b∉ex->h'.get? b=some o
 slot:∀b o,h.get? b=some o->H b=none->b∈fs->b∉ex->∃sl,h'.get? b=some { o with slots:=sl }
 free:∀b o,h.get? b=some o->H b=none->b∉ex->H' b=none
 there:∀b o,h.get? b=some o->b∉ex->∃o',h'.get? b=some o'
 tups:∀b xs,H b=some (.tup xs)->H' b=some (.tup xs)
 frzs:∀b o u,H b=some (.frz o u)->H' b=some (.frz o u)
 tbls:∀b ps,H b=some (.tbl ps)->∃more,H' b=some (.tbl (ps++more))
section
variable {fs fs' ex ex':List Addr}{H H1 H2:Hp}{h h1 h2 h':Heap}{a x e:Addr}{o:HO}
theorem Un.any (u:Un fs ex H H1 h h1) {b:Addr}{ob:Obj} (q:h.get? b=some ob) (n:H b=none) (hx:b∉ex):∃sl,h1.get? b=some { ob with slots:=sl }:=by
 by_cases hb:b∈fs
 ·exact u.slot b ob q n hb hx
 ·exact⟨ob.slots,u.keep b ob q n hb hx⟩
theorem Un.kept (k:∀b u,h.get? b=some u->h'.get? b=some u):Un fs ex H H h h':=
 ⟨fun b ob q _ _ _=>k b ob q,fun b ob q _ _ _=>⟨ob.slots,k b ob q⟩,fun _ _ _ n _=>n,fun b ob q _=>⟨ob,k b ob q⟩,fun _ _ q=>q,fun _ _ _ q=>q,fun _ ps q=>⟨#[],by rw[q];simp⟩⟩
theorem Un.refl:Un fs ex H H h h:=Un.kept fun _ _ q=>q
theorem Un.laid (k:∀b u,h.get? b=some u->h'.get? b=some u) (hp:h.objs.size<=a) (hn:H a=none):Un fs ex H (upd H a o) h h' where
 keep:=fun b u q _ _ _=>k b u q
 slot:=fun b u q _ _ _=>⟨u.slots,k b u q⟩
 free:=fun b u q n _=>by rw[zh (Uba (Ubf (Heap.lt_size q) hp))];exact n
 there:=fun b u q _=>⟨u,k b u q⟩
 tups:=fun b xs q=>by rw[zh (zm q hn)];exact q
 frzs:=fun b u xs q=>by rw[zh (zm q hn)];exact q
 tbls:=fun b ps q=>⟨#[],by rw[zh (zm q hn),q];simp⟩
theorem Un.write (mu:Mut (H x)) (he:e=x\/H e=some (.own x)) (k:∀b u,b≠e->h.get? b=some u->h'.get? b=some u) (heo:∃u,h'.get? e=some u):Un fs ex H (upd H x o) h h':=by
 have hx:∀b,H b=none->b≠x:=fun b n z=>by subst z;rw[n] at mu;exact mu
 have hb:∀b,H b=none->b≠e:=fun b n z=>by
  subst z
  rcases he with r | r
  ·exact hx b n r
  ·rw[n] at r;cases r
 have hm:∀b u,H b=some u->¬Mut (some u)->b≠x:=fun b u q nm z=>by subst z;rw[q] at mu;exact nm mu
 refine⟨fun b u q n _ _=>k b u (hb b n) q,fun b u q n _ _=>⟨u.slots,k b u (hb b n) q⟩,fun b u q n _=>by rw[zh (hx b n)];exact n,fun b u q _=>?_,
  fun b xs q=>by rw[zh (hm b _ q fun z=>z)];exact q,fun b u xs q=>by rw[zh (hm b _ q fun z=>z)];exact q,fun b ps q=>⟨#[],by rw[zh (hm b _ q fun z=>z),q];simp⟩⟩
 by_cases hbe:b=e
 ·subst hbe;exact heo
 ·exact⟨u,k b u hbe q⟩
end
def trk (h:Heap) (H:Hp):List Addr:=(List.range h.objs.size).filter fun a=>(H a).isSome
def zcT (h:Heap) (H:Hp):Heap:=PySem.W.hideAll h (trk h H)
theorem zbb (h:Heap) (H:Hp):(zcT h H).objs.size=h.objs.size:=PySem.W.hideAll_size _ _
theorem zc5 {h:Heap}{H:Hp}{b:Addr}{o:Obj} (e:h.get? b=some o) (n:H b=none):(zcT h H).get? b=some o:=
 PySem.W.hideAll_get _ e fun hm=>by
  have q:(H b).isSome=true:=(Uah.mp hm).2
  rw[n] at q;simp at q
theorem zfg {h:Heap}{H:Hp}{b:Addr}{o:Obj} (e:(zcT h H).get? b=some o):h.get? b=some o/\H b=none:=by
 have e':h.get? b=some o:=PySem.W.of_hideAll (trk h H) e
 refine⟨e',?_⟩
 cases q:H b with
 | none=>rfl
 | some x=>
  have hm:b∈trk h H:=Uah.mpr ⟨Uco.mpr (Heap.lt_size e'),by simp [q]⟩
  have z:(zcT h H).get? b=none:=PySem.W.hideAll_none (trk h H) hm
  rw[z] at e;cases e
end L2
namespace L2
open PySem PySem.Spec PyProof.Rows
structure Mod (K:PySem.W.Frag) (mg:Str->Option Value) (base:Heap):Prop where
 kin:K.In base
 glob:base.Ns mainGlobals mg
 blt:∃mb,base.Ns builtinsNs mb/\∀x:Str,x≠"__name__"->mb x=bootBuiltins x
 nolimit:base.NoLimit
structure Cx where
 prog:Program
 w:World
 K:PySem.W.Frag
 mg:Str->Option Value
 base:Heap
 A:Around
 N:List Str
 s_0:Shared
 H_0:Hp
 env:Env
 outer:List Env
 stack:List Env
 ex:List Addr
 fn:Str->Bool
 calm:Bool
 pn:List (Addr×Obj)
 xe:Value->Shared->Prop
def frs (l:List Env):List Addr:=l.filterMap (·.frame)
abbrev Cx.fs (X:Cx):List Addr:=frs X.outer
def Vis (sc:Scope) (x:Str):Prop:=sc.names.lookup x=some .local\/sc.names.lookup x=some .cell\/sc.names.lookup x=some .free
def Loc (sc:Scope) (x:Str):Prop:=sc.names.lookup x=some .local\/sc.names.lookup x=some .cell
def zi2 (env:Env) (h:Heap) (m:Str->Option Value) (x:Str) (u:Value):Prop:=
 (env.kindOf x=some .local/\m x=some u)\/((env.kindOf x=some .cell\/env.kindOf x=some .free)/\∃c,env.cells.lookup x=some c/\h.IsCell c (some u))
structure Cx.Ok (X:Cx):Prop where
 mod:Mod X.K X.mg X.base
 kind:X.env.scope.kind=.function
 glob:X.env.globals=mainGlobals
 blt:X.env.builtins=builtinsNs
 above:X.s_0.heap.objs.size<=X.env.locals
 inj:∀x y c,X.env.cells.lookup x=some c->X.env.cells.lookup y=some c->x=y
 has:∀x,(X.env.kindOf x=some .cell\/X.env.kindOf x=some .free)->∃c,X.env.cells.lookup x=some c
 cab:∀x c,X.fn x=true->X.env.cells.lookup x=some c->X.s_0.heap.objs.size<=c
 hd:X.calm=true->X.A.handled=none
 frames:X.A.frames=some X.stack
 stk:X.stack=X.outer\/(X.stack=X.env::X.outer/\X.env.frame=some X.env.locals)
 exf:∀b∈X.ex,b≠X.env.locals/\∀x c,X.env.cells.lookup x=some c->c≠b
 bs:∀b o,X.base.get? b=some o->X.s_0.heap.get? b=some o/\X.H_0 b=none
 bsz:X.base.objs.size<=X.s_0.heap.objs.size
 noex:∀b o,X.base.get? b=some o->b∉X.ex
 exfs:∀b∈X.ex,b∉X.fs
 funs:X.s_0.heap.FunFrames X.base X.outer
 frf:∀b∈X.fs,X.H_0 b=none
structure Inv (X:Cx) (pins:List (Addr×Obj)) (σ:List (Option V)) (H:Hp) (s:Shared):Prop where
 ok:X.Ok
 os:s.os=X.s_0.os
 bare:AllBare s.gens
 base:Un X.fs X.ex X.H_0 H X.s_0.heap s.heap
 loc:∃m,s.heap.Ns X.env.locals m/\∀(i:Nat) (x:Str) (v:V),X.N[i]? = some x->σ[i]? = some (some v)->Vis X.env.scope x->∃u,yx v u/\zi2 X.env s.heap m x u
 cell:∀x c,X.env.cells.lookup x=some c->∃v,s.heap.IsCell c v
 free:H X.env.locals=none
 freeC:∀x c,X.env.cells.lookup x=some c->H c=none
 pin:∀p∈X.pn++pins,s.heap.get? p.1=some p.2/\H p.1=none/\p.1≠X.env.locals/\p.1∉X.fs/\∀v,p.2.data≠.cell v
 hok:HOk X.prog X.w H s.heap
 len:σ.length=X.N.length
section
variable {X:Cx}{pins:List (Addr×Obj)}{σ:List (Option V)}{H H':Hp}{s:Shared}{h':Heap}
theorem Cx.Ok.nofr (ok:X.Ok) {b:Addr}{o:Obj} (e:X.base.get? b=some o):b∉X.fs:=fun hb=>by
 have:=(ok.funs.mem hb).1
 rw[e] at this;cases this
theorem Inv.bs (I:Inv X pins σ H s):∀b o,X.base.get? b=some o->s.heap.get? b=some o/\H b=none:=fun b o e=>
 ⟨I.base.keep b o (I.ok.bs b o e).1 (I.ok.bs b o e).2 (I.ok.nofr e) (I.ok.noex b o e),I.base.free b o (I.ok.bs b o e).1 (I.ok.bs b o e).2 (I.ok.noex b o e)⟩
theorem Inv.bk (I:Inv X pins σ H s):∀b o,X.base.get? b=some o->s.heap.get? b=some o:=fun b o e=>(I.bs b o e).1
theorem Inv.mod (I:Inv X pins σ H s):Mod X.K X.mg X.base:=I.ok.mod
theorem Inv.kIn (I:Inv X pins σ H s):X.K.In s.heap:=I.ok.mod.kin.keeps I.bk
theorem Inv.lt (I:Inv X pins σ H s):X.env.locals<s.heap.objs.size:=let ⟨_,hn,_⟩:=I.loc;hn.lt
theorem Inv.sz (I:Inv X pins σ H s):X.s_0.heap.objs.size<=s.heap.objs.size:=Ubb I.ok.above (Ubk I.lt)
theorem Inv.nofs (I:Inv X pins σ H s) {a:Addr} (h:s.heap.objs.size<=a):a∉X.fs:=fun hb=>by
 obtain⟨_,o,ho,_⟩:=I.ok.funs.mem hb
 exact absurd (Ubf (Heap.lt_size ho) (Ubb I.sz h)) (Ucc _)
theorem Inv.cne (I:Inv X pins σ H s):∀x c,X.env.cells.lookup x=some c->c≠X.env.locals:=fun x c e z=>by
 obtain⟨v,o,ho,hd⟩:=I.cell x c e
 obtain⟨m,⟨o',es,ep,ho',hd',_⟩,_⟩:=I.loc
 rw[z,ho'] at ho;cases ho;rw[hd'] at hd;cases hd
theorem Inv.funs (I:Inv X pins σ H s):s.heap.FunFrames X.base X.outer:=by
 have all:∀(l:List Env),(∀b∈frs l,b∈X.fs)->X.s_0.heap.FunFrames X.base l->s.heap.FunFrames X.base l:=by
  intro l
  induction l with
  | nil=>intro _ _;trivial
  | cons env r ih=>
   intro hs hl
   obtain⟨hk,⟨L,o,hf,hn,ho,hd⟩,hr⟩:=hl
   have hL:L∈X.fs:=hs L (by unfold frs;rw[List.filterMap_cons,hf];exact Uak)
   obtain⟨sl,e⟩:=I.base.slot L o ho (I.ok.frf L hL) hL fun z=>I.ok.exfs L z hL
   exact⟨hk,⟨L,_,hf,hn,e,hd⟩,ih (fun b hb=>hs b (by unfold frs;rw[List.filterMap_cons,hf];exact Uad _ hb)) hr⟩
 exact all X.outer (fun _ hb=>hb) I.ok.funs
theorem Inv.stack (I:Inv X pins σ H s):s.heap.FunFrames X.base X.stack:=by
 rcases I.ok.stk with e | ⟨e,hf⟩
 ·rw[e];exact I.funs
 ·rw[e]
  obtain⟨m,hn,_⟩:=I.loc
  refine .cons (by rw[I.ok.kind];decide) hf hn ?_ I.funs
  exact Heap.get?_none_of_le (Ubb I.ok.bsz I.ok.above)
theorem Inv.stkSub (I:Inv X pins σ H s):∀b∈frs X.stack,b∈X.env.locals::X.fs:=fun b hb=>by
 rcases I.ok.stk with e | ⟨e,hf⟩
 ·rw[e] at hb;exact Uad _ hb
 ·rw[e] at hb
  unfold frs at hb
  rw[List.filterMap_cons,hf] at hb
  exact hb
theorem Inv.stkFree (I:Inv X pins σ H s):∀b∈frs X.stack,H b=none:=fun b hb=>by
 rcases Uaf.mp (I.stkSub b hb) with e | hb
 ·rw[e];exact I.free
 ·obtain⟨_,o,ho,_⟩:=I.ok.funs.mem hb
  exact I.base.free b o ho (I.ok.frf b hb) fun z=>I.ok.exfs b z hb
theorem Inv.step {g':Array GenState}{t':Nat}{d':Drawn}{ch:List Addr} (I:Inv X pins σ H s)
  (hch:∀b∈ch,(b∈X.ex\/X.s_0.heap.objs.size<=b)/\b≠X.env.locals/\(∀x c,X.env.cells.lookup x=some c->c≠b)/\∀p∈X.pn++pins,p.1≠b)
  (keep:∀b o,b≠X.env.locals->b∉X.fs->b∉ch->s.heap.get? b=some o->H b=none->h'.get? b=some o)
  (slot:∀b o,b≠X.env.locals->b∈X.fs->b∉ch->s.heap.get? b=some o->H b=none->∃sl,h'.get? b=some { o with slots:=sl }) (free:∀b o,b∉ch->s.heap.get? b=some o->H b=none->H' b=none)
  (there:∀b o,b∉ch->s.heap.get? b=some o->∃o',h'.get? b=some o')
  (tups:∀b xs,H b=some (.tup xs)->H' b=some (.tup xs)) (frzs:∀b o u,H b=some (.frz o u)->H' b=some (.frz o u)) (tbls:∀b ps,H b=some (.tbl ps)->∃more,H' b=some (.tbl (ps++more)))
  (ns:∀m,s.heap.Ns X.env.locals m->h'.Ns X.env.locals m) (hok:HOk X.prog X.w H' h') (hg:AllBare g') :
  Inv X pins σ H' { s with heap:=h',gens:=g',drawn:=d',toks:=t' }:=by
 have neL:∀b o,X.s_0.heap.get? b=some o->b≠X.env.locals:=fun b o e=>Uba (Ubf (Heap.lt_size e) I.ok.above)
 have neC:∀b o,X.s_0.heap.get? b=some o->b∉X.ex->b∉ch:=fun b o e hx hb=>by
  rcases (hch b hb).1 with z | z
  ·exact hx z
  ·exact absurd (Ubf (Heap.lt_size e) z) (Ucc _)
 have cellK:∀x c,X.env.cells.lookup x=some c->∀v,s.heap.IsCell c v->h'.IsCell c v:=fun x c e v ⟨o,ho,hd⟩=>by
  have nch:c∉ch:=fun z=>(hch c z).2.2.1 x c e rfl
  by_cases hc:c∈X.fs
  ·obtain⟨sl,q⟩:=slot c o (I.cne x c e) hc nch ho (I.freeC x c e)
   exact⟨_,q,hd⟩
  ·exact⟨o,keep c o (I.cne x c e) hc nch ho (I.freeC x c e),hd⟩
 refine⟨I.ok,I.os,hg,⟨fun b o e n hb hx=>?_,fun b o e n hb hx=>?_,fun b o e n hx=>?_,fun b o e hx=>?_,fun b xs e=>tups b xs (I.base.tups b xs e),fun b o xs e=>frzs b o xs (I.base.frzs b o xs e),fun b ps e=>?_⟩,?_,fun x c e=>?_,?_,fun x c e=>?_,fun p hp=>?_,hok,I.len⟩
 ·exact keep b o (neL b o e) hb (neC b o e hx) (I.base.keep b o e n hb hx) (I.base.free b o e n hx)
 ·obtain⟨sl,e1⟩:=I.base.slot b o e n hb hx
  obtain⟨sl',e2⟩:=slot b _ (neL b o e) hb (neC b o e hx) e1 (I.base.free b o e n hx)
  exact⟨sl',e2⟩
 ·obtain⟨o',e1⟩:=I.base.there b o e hx
  exact free b o' (neC b o e hx) e1 (I.base.free b o e n hx)
 ·obtain⟨o',e1⟩:=I.base.there b o e hx
  exact there b o' (neC b o e hx) e1
 ·obtain⟨m1,e1⟩:=I.base.tbls b ps e
  obtain⟨m2,e2⟩:=tbls b _ e1
  exact⟨m1++m2,by rw[e2,Array.append_assoc]⟩
 ·obtain⟨m,hn,hl⟩:=I.loc
  refine⟨m,ns m hn,fun i x v e1 e2 e3=>?_⟩
  obtain⟨u,r,l⟩:=hl i x v e1 e2 e3
  refine⟨u,r,?_⟩
  rcases l with l | ⟨k,c,e,z⟩
  ·exact .inl l
  ·exact .inr ⟨k,c,e,cellK x c e _ z⟩
 ·obtain⟨v,z⟩:=I.cell x c e
  exact⟨v,cellK x c e v z⟩
 ·obtain⟨m,⟨o,_,_,ho,_⟩,_⟩:=I.loc
  exact free _ o (fun z=>(hch _ z).2.1 rfl) ho I.free
 ·obtain⟨v,o,ho,hd⟩:=I.cell x c e
  exact free c o (fun z=>(hch c z).2.2.1 x c e rfl) ho (I.freeC x c e)
 ·obtain⟨e,n,ne,nf,d⟩:=I.pin p hp
  have nch:p.1∉ch:=fun z=>(hch p.1 z).2.2.2 p hp rfl
  exact⟨keep p.1 p.2 ne nf nch e n,free p.1 p.2 nch e n,ne,nf,d⟩
theorem Inv.un {t':Nat} (I:Inv X pins σ H s) (u:Un X.fs [] H H' s.heap h') (hok:HOk X.prog X.w H' h'):Inv X pins σ H' { s with heap:=h',toks:=t' }:=by
 obtain⟨m,⟨o,es,ep,ho,r⟩,_⟩:=id I.loc
 obtain⟨sl,hL⟩:=u.any ho I.free (by simp)
 exact I.step (g':=s.gens) (d':=s.drawn) (ch:=[]) (fun _ z=>nomatch z) (fun b o _ hb _ e n=>u.keep b o e n hb (by simp)) (fun b o _ hb _ e n=>u.slot b o e n hb (by simp)) (fun b o _ e n=>u.free b o e n (by simp)) (fun b o _ e=>u.there b o e (by simp)) u.tups u.frzs u.tbls (fun m' hm=>by
  obtain⟨o',es',ep',ho',r'⟩:=hm
  rw[ho] at ho';cases ho'
  exact⟨_,es',ep',hL,r'⟩) hok I.bare
theorem Inv.call {g':Array GenState}{t':Nat}{d':Drawn}{ch:List Addr} (I:Inv X pins σ H s) (u:Un (frs X.stack) ch H H' s.heap h') (hok:HOk X.prog X.w H' h') (hg:AllBare g')
  (hch:∀b∈ch,(b∈X.ex\/X.s_0.heap.objs.size<=b)/\b≠X.env.locals/\(∀x c,X.env.cells.lookup x=some c->c≠b)/\∀p∈X.pn++pins,p.1≠b) :
  Inv X pins σ H' { s with heap:=h',gens:=g',drawn:=d',toks:=t' }:=by
 obtain⟨m,⟨o,es,ep,ho,r⟩,_⟩:=id I.loc
 obtain⟨sl,hL⟩:=u.any ho I.free fun z=>(hch _ z).2.1 rfl
 exact I.step (ch:=ch) hch (fun b o hL hb hc e n=>u.keep b o e n (fun z=>(Uaf.mp (I.stkSub b z)).elim hL hb) hc) (fun b o _ _ hc e n=>u.any e n hc) (fun b o hc e n=>u.free b o e n hc) (fun b o hc e=>u.there b o e hc) u.tups u.frzs u.tbls (fun m' hm=>by
  obtain⟨o',es',ep',ho',r'⟩:=hm
  rw[ho] at ho';cases ho'
  exact⟨_,es',ep',hL,r'⟩) hok hg
theorem Inv.turned {t':Nat}{it:Addr} (I:Inv X pins σ H s) (k:∀b o,b≠it->s.heap.get? b=some o->h'.get? b=some o) (hn:H it=none) (hL:it≠X.env.locals)
  (h1:it∈X.ex\/X.s_0.heap.objs.size<=it) (h2:∀x c,X.env.cells.lookup x=some c->c≠it) (h3:∀p∈X.pn++pins,p.1≠it):Inv X pins σ H { s with heap:=h',toks:=t' }:=by
 have nit:∀b u,H b=some u->b≠it:=fun b u e z=>by rw[z,hn] at e;cases e
 refine I.step (g':=s.gens) (d':=s.drawn) (ch:=[it]) (fun b hb=>?_) (fun b o _ _ hc e _=>k b o (fun z=>hc (by simp [z])) e) (fun b o _ _ hc e _=>⟨o.slots,k b o (fun z=>hc (by simp [z])) e⟩) (fun _ _ _ _ n=>n)
  (fun b o hc e=>⟨o,k b o (fun z=>hc (by simp [z])) e⟩) (fun _ _ e=>e) (fun _ _ _ e=>e) (fun b ps e=>⟨#[],by rw[e];simp⟩) (fun m hm=>?_) (fun b u e=>?_) I.bare
 ·have e:b=it:=by simpa using hb
  subst e
  exact⟨h1,hL,h2,h3⟩
 ·obtain⟨o,es,ep,ho,r⟩:=hm
  exact⟨o,es,ep,k _ o (Ne.symm hL) ho,r⟩
 ·refine(I.hok b u e).stay (fun c v hc q=>k c v ?_ q) (fun _ q=>q) fun _ _ q=>q
  rcases hc with z | z
  ·rw[z];exact nit b u e
  ·exact nit c _ z
theorem Inv.tok (I:Inv X pins σ H s) (t:Nat):Inv X pins σ H { s with toks:=t }:=I.un (h':=s.heap) (t':=t) Un.refl I.hok
theorem Inv.kept {t':Nat} (I:Inv X pins σ H s) (k:∀b u,s.heap.get? b=some u->h'.get? b=some u):Inv X pins σ H { s with heap:=h',toks:=t' }:=I.un (Un.kept k) (I.hok.kept k)
theorem Inv.laid {a:Addr}{o:HO}{t':Nat} (I:Inv X pins σ H s) (k:∀b u,s.heap.get? b=some u->h'.get? b=some u) (hp:s.heap.objs.size<=a) (new:xU X.prog X.w (upd H a o) h' a o) :
  Inv X pins σ (upd H a o) { s with heap:=h',toks:=t' }:=I.un (Un.laid k hp (I.hok.fresh hp)) (I.hok.laid k hp new)
theorem Inv.write {x e:Addr}{o:HO}{t':Nat} (I:Inv X pins σ H s) (mu:Mut (H x)) (he:e=x\/H e=some (.own x)) (k:∀b u,b≠e->s.heap.get? b=some u->h'.get? b=some u) (heo:∃u,h'.get? e=some u)
  (new:xU X.prog X.w (upd H x o) h' x o):Inv X pins σ (upd H x o) { s with heap:=h',toks:=t' }:=I.un (Un.write mu he k heo) (I.hok.write mu he k heo new)
theorem Inv.weak {σ':List (Option V)} (I:Inv X pins σ H s) (hl:σ'.length=σ.length) (w:∀(i:Nat) v,σ'[i]? = some (some v)->σ[i]? = some (some v)):Inv X pins σ' H s:=
 ⟨I.ok,I.os,I.bare,I.base,let ⟨m,hn,hl'⟩:=I.loc;⟨m,hn,fun i x v e1 e2 e3=>hl' i x v e1 (w i v e2) e3⟩,I.cell,I.free,I.freeC,I.pin,I.hok,hl.trans I.len⟩
theorem Inv.pins_of {pins':List (Addr×Obj)} (I:Inv X pins σ H s) (h:∀p∈pins',s.heap.get? p.1=some p.2/\H p.1=none/\p.1≠X.env.locals/\p.1∉X.fs/\∀v,p.2.data≠.cell v):Inv X pins' σ H s:=
 ⟨I.ok,I.os,I.bare,I.base,I.loc,I.cell,I.free,I.freeC,fun p hp=>(Ubd.mp hp).elim (fun z=>I.pin p (Ubj _ z)) (h p),I.hok,I.len⟩
theorem JB {N:List Str} (hN:N.Nodup) {i j:Nat}{x:Str} (a:N[i]? = some x) (b:N[j]? = some x):i=j:=by
 obtain⟨h1,e1⟩:=Ubh.mp a
 obtain⟨h2,e2⟩:=Ubh.mp b
 exact(List.getElem_inj hN).mp (e1.trans e2.symm)
theorem Kd {M:Model}{A:Around}{E:Value->Shared->Prop}{i:Nat}{x:Str}{v:V}{u:Value}{Q:Unit->Shared->Prop} (I:Inv X pins σ H s) (hN:X.N.Nodup) (hi:X.N[i]? = some x) (hx:Loc X.env.scope x) (r:yx v u)
  (h:∀s',Inv X pins (σ.set i (some v)) H s'->(∃a,Heap.SameBut a s.heap s'.heap/\(a=X.env.locals\/X.env.cells.lookup x=some a))->Q () s') (hf:X.fn x=true\/X.env.scope.names.lookup x=some .local:=by first | exact .inl rfl | exact .inr rfl | assumption):wpAny M A (storeName X.env x u) Q E s:=by
 obtain⟨m,hn,hl⟩:=id I.loc
 have hcls:(X.env.scope.kind == .class||(X.env.scope.kind == .module&&X.env.locals != X.env.globals))=false:=by rw[I.ok.kind];rfl
 have hiσ:i<σ.length:=by rw[I.len];exact(Ubh.mp hi).1
 have cne:=I.cne
 have tracked:∀{a:Addr}{h':Heap},(∃o,s.heap.get? a=some o/\H a=none)->Heap.SameBut a s.heap h'->HOk X.prog X.w H h':=fun {a h'} ha hs b ob e=>by
  obtain⟨_,_,hfree⟩:=ha
  refine(I.hok b ob e).stay (fun c w' hc q=>(hs.2 c ?_).trans q) (fun _ q=>q) fun _ _ q=>q
  rintro rfl
  rcases hc with rfl | hc
  ·rw[hfree] at e;cases e
  ·rw[hfree] at hc;cases hc
 rcases hx with hk | hk
 ·refine wpAny_storeName_local hk hn (fun h' hn' hs=>?_) hcls
  obtain⟨oL,_,_,hoL,_⟩:=id hn
  refine h _ ⟨I.ok,I.os,I.bare,⟨fun b o e n hb hx=>?_,fun b o e n hb hx=>?_,I.base.free,fun b o e hx=>?_,I.base.tups,I.base.frzs,I.base.tbls⟩,⟨_,hn',fun j y v' e1 e2 e3=>?_⟩,fun y c e=>?_,I.free,I.freeC,fun p hp=>?_,tracked ⟨oL,hoL,I.free⟩ hs,by simpa using I.len⟩ ⟨_,hs,.inl rfl⟩
  ·exact(hs.2 b (Uba (Ubf (Heap.lt_size e) I.ok.above))).trans (I.base.keep b o e n hb hx)
  ·obtain⟨sl,e1⟩:=I.base.slot b o e n hb hx
   exact⟨sl,(hs.2 b (Uba (Ubf (Heap.lt_size e) I.ok.above))).trans e1⟩
  ·obtain⟨o',e1⟩:=I.base.there b o e hx
   exact⟨o',(hs.2 b (Uba (Ubf (Heap.lt_size e) I.ok.above))).trans e1⟩
  ·by_cases hj:j=i
   ·subst hj
    rw[hi] at e1;cases e1
    rw[List.getElem?_set_self hiσ] at e2
    cases e2
    exact⟨u,r,.inl ⟨hk,by simp⟩⟩
   ·rw[List.getElem?_set_ne (Ne.symm hj)] at e2
    obtain⟨u',r',q⟩:=hl j y v' e1 e2 e3
    refine⟨u',r',?_⟩
    rcases q with ⟨k,e⟩ | ⟨k,c,e,z⟩
    ·refine .inl ⟨k,?_⟩
     have:y≠x:=fun e=>hj (JB hN e1 (e▸hi))
     simp [this,e]
    ·exact .inr ⟨k,c,e,z.sameBut hs (cne y c e)⟩
  ·obtain⟨w',z⟩:=I.cell y c e
   exact⟨w',z.sameBut hs (cne y c e)⟩
  ·obtain⟨e,n,ne,nf,d⟩:=I.pin p hp
   exact⟨(hs.2 p.1 ne).trans e,n,ne,nf,d⟩
 ·have hfn:X.fn x=true:=by
   rcases hf with z | z
   ·exact z
   ·rw[z] at hk;cases hk
  obtain⟨c,hc⟩:=I.ok.has x (.inl hk)
  obtain⟨w',z⟩:=I.cell x c hc
  refine wpAny_storeName_cell I.ok.kind hk hc z (fun h' hc' hs=>?_)
  obtain⟨oc,hoc,hocd⟩:=id z
  refine h { s with heap:=h' } ⟨I.ok,I.os,I.bare,⟨fun b o e n hb hx=>?_,fun b o e n hb hx=>?_,I.base.free,fun b o e hx=>?_,I.base.tups,I.base.frzs,I.base.tbls⟩,⟨m,hn.sameBut hs (Ne.symm (cne x c hc)),fun j y v' e1 e2 e3=>?_⟩,fun y c' e=>?_,I.free,I.freeC,fun p hp=>?_,tracked ⟨oc,hoc,I.freeC x c hc⟩ hs,by simpa using I.len⟩ ⟨c,hs,.inr hc⟩
  ·exact(hs.2 b (Uba (Ubf (Heap.lt_size e) (I.ok.cab x c hfn hc)))).trans (I.base.keep b o e n hb hx)
  ·obtain⟨sl,e1⟩:=I.base.slot b o e n hb hx
   exact⟨sl,(hs.2 b (Uba (Ubf (Heap.lt_size e) (I.ok.cab x c hfn hc)))).trans e1⟩
  ·obtain⟨o',e1⟩:=I.base.there b o e hx
   exact⟨o',(hs.2 b (Uba (Ubf (Heap.lt_size e) (I.ok.cab x c hfn hc)))).trans e1⟩
  ·by_cases hj:j=i
   ·subst hj
    rw[hi] at e1;cases e1
    rw[List.getElem?_set_self hiσ] at e2
    cases e2
    exact⟨u,r,.inr ⟨.inl hk,c,hc,hc'⟩⟩
   ·rw[List.getElem?_set_ne (Ne.symm hj)] at e2
    obtain⟨u',r',q⟩:=hl j y v' e1 e2 e3
    refine⟨u',r',?_⟩
    rcases q with q | ⟨k,c',e,z'⟩
    ·exact .inl q
    ·refine .inr ⟨k,c',e,z'.sameBut hs ?_⟩
     rintro rfl
     exact hj (JB hN e1 (I.ok.inj _ _ _ e hc▸hi))
  ·by_cases hcc:c'=c
   ·subst hcc;exact⟨_,hc'⟩
   ·obtain⟨w2,z2⟩:=I.cell y c' e
    exact⟨w2,z2.sameBut hs hcc⟩
  ·obtain⟨e,n,ne,nf,d⟩:=I.pin p hp
   refine⟨(hs.2 p.1 ?_).trans e,n,ne,nf,d⟩
   intro q
   rw[q,hoc] at e
   have q':oc=p.2:=Option.some.inj e
   exact d w' (by rw[←q'];exact hocd)
theorem WP {M:Model}{A:Around}{E:Value->Shared->Prop}{i:Nat}{x:Str}{v:V}{u:Value}{Q:Unit->Shared->Prop} (I:Inv X pins σ H s) (hN:X.N.Nodup) (hi:X.N[i]? = some x) (hx:Loc X.env.scope x) (r:yx v u)
  (h:∀s',Inv X pins (σ.set i (some v)) H s'->Q () s') (hf:X.fn x=true\/X.env.scope.names.lookup x=some .local:=by first | exact .inl rfl | exact .inr rfl | assumption):wpAny M A (storeName X.env x u) Q E s:=
 Kd I hN hi hx r (fun s' I' _=>h s' I') hf
theorem Inv.call' {s':Shared}{ch:List Addr} (I:Inv X pins σ H s) (ho:s'.os=s.os) (u:Un (frs X.stack) ch H H' s.heap s'.heap) (hok:HOk X.prog X.w H' s'.heap) (hg:AllBare s'.gens)
  (hch:∀b∈ch,(b∈X.ex\/X.s_0.heap.objs.size<=b)/\b≠X.env.locals/\(∀x c,X.env.cells.lookup x=some c->c≠b)/\∀p∈X.pn++pins,p.1≠b):Inv X pins σ H' s':=by
 obtain⟨h',g',d',t',o'⟩:=s'
 have e:o'=s.os:=ho
 subst e
 exact I.call (g':=g') (t':=t') (d':=d') u hok hg hch
end
abbrev XK:=Value->Option Addr->Hp->Prop
abbrev St:=List (Option V)
abbrev VK:=V->Hp->Prop
abbrev TE:=St->Hp->VK->Prop
abbrev TT:=St->Hp->(Bool->Hp->Prop)->Prop
abbrev TA:=St->Hp->(List V->Hp->Prop)->Prop
structure KS where
 nx:St->Hp->Prop
 rt:VK
 bk:St->Hp->Prop:=fun _ _=>False
 ct:St->Hp->Prop:=fun _ _=>False
abbrev TS:=KS->St->Hp->Prop
def EP (X:Cx) (pins:List (Addr×Obj)) (σ:St) (Q:VK) (u:Value) (s':Shared):Prop:=∃v H',Inv X pins σ H' s'/\yx v u/\Q v H'
def TP (X:Cx) (pins:List (Addr×Obj)) (σ:St) (Q:Bool->Hp->Prop) (b:Bool) (s':Shared):Prop:=∃H',Inv X pins σ H' s'/\Q b H'
def AP (X:Cx) (pins:List (Addr×Obj)) (σ:St) (Q:List V->Hp->Prop) (us:List Value) (s':Shared):Prop:=∃vs H',Inv X pins σ H' s'/\ym vs us/\Q vs H'
def SP (X:Cx) (pins:List (Addr×Obj)) (D:KS) (f:Flow) (s':Shared):Prop:=
 match f with
 | .next=>∃σ' H',Inv X pins σ' H' s'/\D.nx σ' H'
 | .brk=>∃σ' H',Inv X pins σ' H' s'/\D.bk σ' H'
 | .cont=>∃σ' H',Inv X pins σ' H' s'/\D.ct σ' H'
 | .ret u=>∃v σ' H',Inv X pins σ' H' s'/\yx v u/\D.rt v H'
def PE (X:Cx) (e:Expr) (t:TE):Prop:=
 ∀(pins:List (Addr×Obj)) (s:Shared) (σ:St) (H:Hp) (Q:VK),Inv X pins σ H s->t σ H Q->wpAny (model X.prog X.w) X.A (eval e X.env) (EP X pins σ Q) X.xe s
def PT (X:Cx) (e:Expr) (t:TT):Prop:=
 ∀(pins:List (Addr×Obj)) (s:Shared) (σ:St) (H:Hp) (Q:Bool->Hp->Prop),Inv X pins σ H s->t σ H Q->wpAny (model X.prog X.w) X.A (isTrue e X.env (eval e X.env)) (TP X pins σ Q) X.xe s
def PW (X:Cx) (e:Expr) (t:TT):Prop:=
 ∀(whole:Sem Value) (pins:List (Addr×Obj)) (s:Shared) (σ:St) (H:Hp) (Q:Bool->Hp->Prop),Inv X pins σ H s->t σ H Q->wpAny (model X.prog X.w) X.A (isTrue e X.env whole) (TP X pins σ Q) X.xe s
theorem PW.pt {X:Cx}{e:Expr}{t:TT} (h:PW X e t):PT X e t:=h _
def PA (X:Cx) (es:List Expr) (t:TA):Prop:=
 ∀(pos:Pos) (pins:List (Addr×Obj)) (s:Shared) (σ:St) (H:Hp) (Q:List V->Hp->Prop),Inv X pins σ H s->t σ H Q->wpAny (model X.prog X.w) X.A (spliced (backTo pos (starEach es X.env))) (AP X pins σ Q) X.xe s
def PS (X:Cx) (st:Stmt) (t:TS):Prop:=
 ∀(pins:List (Addr×Obj)) (s:Shared) (σ:St) (H:Hp) (D:KS),Inv X pins σ H s->t D σ H->wpAny (model X.prog X.w) X.A (exec st X.env) (SP X pins D) X.xe s
def PSs (X:Cx) (st:List Stmt) (t:TS):Prop:=
 ∀(pins:List (Addr×Obj)) (s:Shared) (σ:St) (H:Hp) (D:KS),Inv X pins σ H s->t D σ H->wpAny (model X.prog X.w) X.A (execs st X.env) (SP X pins D) X.xe s
theorem thn {α:Type}{t:Sem α}{Q Q':α->Shared->Prop}{M:Model}{A:Around}{E:Value->Shared->Prop}{s:Shared} (h:wpAny M A t Q E s) (hQ:∀a s,Q a s->Q' a s):wpAny M A t Q' E s:=wpAny_mono h hQ fun _ _ x=>x
end L2
namespace L2
open PySem PySem.Spec PyProof.Rows
section
variable {X:Cx}
def zhk (i:Nat):TE:=fun σ H Q=>∃v,σ[i]? = some (some v)/\Q v H
def tC (v:V):TE:=fun _ H Q=>Q v H
theorem zgD {i:Nat}{x:Str}{pos:Pos} (hN:X.N[i]? = some x) (hv:Vis X.env.scope x) (hd:(x == ("__debug__" : Str))=false:=by decide) (hcd:(x == ("__classdict__" : Str))=false:=by decide):PE X (.Name x pos) (zhk i):=by
 intro pins s σ H Q I h
 obtain⟨v,e,h⟩:=h
 obtain⟨m,hn,hl⟩:=I.loc
 obtain⟨u,r,l⟩:=hl i x v hN e hv
 have fin:EP X pins σ Q u s:=⟨v,H,I,r,h⟩
 rcases l with ⟨hk,hm⟩ | ⟨hk,c,hc,hcell⟩
 ·exact wpAny_Name (wpAny_loadName_local I.ok.kind hk hn hm fin) hd
 ·rcases hk with hk | hk
  ·exact wpAny_Name (wpAny_loadName_cell I.ok.kind hk hc hcell fin) hd
  ·exact wpAny_Name (wpAny_loadName_free I.ok.kind hk hc hcell fin hcd) hd
theorem zq {i j pos}:PE X (.Constant (.int i) j pos) (tC (.int i)):=fun _ _ _ H _ I h=>wpAny_Constant_int ⟨.int i,H,I.tok _,⟨_,rfl⟩,h⟩
theorem za9 {b j pos}:PE X (.Constant (.bool b) j pos) (tC (.bl b)):=fun _ _ _ H _ I h=>Constant_bool ⟨.bl b,H,I,rfl,h⟩
theorem zeh {j pos}:PE X (.Constant .none j pos) (tC .non):=fun _ _ _ H _ I h=>Constant_none ⟨.non,H,I,rfl,h⟩
theorem Yg {x j pos}:PE X (.Constant (.str x) j pos) (tC (.str x)):=fun _ _ _ H _ I h=>Calls.Constant_str ⟨.str x,H,I.tok _,⟨_,rfl⟩,h⟩
def Gl (X:Cx) (x:Str):Prop:=X.env.kindOf x=some .globalImplicit
theorem vo {E:Value->Shared->Prop}{pins:List (Addr×Obj)}{s:Shared}{σ:St}{H:Hp}{x:Str}{u:Value}{pos:Pos}{Q:Value->Shared->Prop} (I:Inv X pins σ H s) (hg:Gl X x) (hm:X.mg x=some u) (h:Q u s)
  (hd:(x == ("__debug__" : Str))=false:=by decide):wpAny (model X.prog X.w) X.A (eval (.Name x pos) X.env) Q E s:=
 Calls.Name_function_global I.ok.kind hg (Calls.loadGlobal_global (by rw[I.ok.glob];exact I.mod.glob.keeps I.bk) hm h) hd
theorem Wu {E:Value->Shared->Prop}{pins:List (Addr×Obj)}{s:Shared}{σ:St}{H:Hp}{x:Str}{u:Value}{pos:Pos}{Q:Value->Shared->Prop} (I:Inv X pins σ H s) (hg:Gl X x) (hm:X.mg x=none) (hv:bootBuiltins x=some u) (h:Q u s)
  (hn:x≠"__name__":=by decide) (hd:(x == ("__debug__" : Str))=false:=by decide):wpAny (model X.prog X.w) X.A (eval (.Name x pos) X.env) Q E s:=by
 obtain⟨mb,h1,h2⟩:=I.mod.blt
 exact Calls.Name_function_global I.ok.kind hg (Calls.loadGlobal_builtin (by rw[I.ok.glob];exact I.mod.glob.keeps I.bk) hm (by rw[I.ok.blt];exact h1.keeps I.bk) ((h2 x hn).trans hv) h) hd
theorem zbY {x:Str}{v:V}{u:Value}{pos:Pos} (hg:Gl X x) (hm:X.mg x=some u) (r:yx v u) (hd:(x == ("__debug__" : Str))=false:=by decide):PE X (.Name x pos) (tC v):=
 fun _ _ _ H _ I h=>vo I hg hm ⟨v,H,I,r,h⟩ hd
variable {a b:Expr}{ta tb:TE}{pos:Pos}
def PC (X:Cx) (op:CmpOp) (a b:Expr) (t:TE):Prop:=
 ∀(pins:List (Addr×Obj)) (s:Shared) (σ:St) (H:Hp) (Q:VK),Inv X pins σ H s->t σ H Q →
  wpAny (model X.prog X.w) X.A (eval a X.env) (fun v s₁=>wpAny (model X.prog X.w) X.A (eval b X.env) (fun u s₂=>wpAny (model X.prog X.w) X.A (compareOp op v u) (EP X pins σ Q) X.xe s₂) X.xe s₁) X.xe s
def tB (t:TE):TT:=fun σ H Q=>t σ H fun x H1=>∃c,x=.bl c/\Q c H1
theorem Kb {op:CmpOp}{t:TE} (h:PC X op a b t) (h1:behindInMarks op b=false:=by first | exact nobehind _ (by decide) (by decide) | rfl):PE X (.Compare a [op] [b] pos) t:=fun pins s σ H Q I hw=>wpAny_Compare1 (h pins s σ H Q I hw) h1
theorem jS {op:CmpOp}{t:TE} (h:PC X op a b t) (h1:behindInMarks op b=false:=by first | exact nobehind _ (by decide) (by decide) | rfl):PT X (.Compare a [op] [b] pos) (tB t):=by
 intro pins s σ H Q I hw
 refine wpAny_isTrue_Compare1 (thn (h pins s σ H _ I hw) fun v s1 h1=>thn h1 fun u s2 h2=>thn h2 fun c s3 ⟨x,H1,I1,r1,q1⟩=>?_) h1
 obtain⟨d,rfl,q⟩:=q1
 cases r1
 exact wpAny_truthy_bool ⟨H1,I1,q⟩
theorem zU {e:Expr}{t:TE} (h:PE X e t) (he:∀whole,isTrue e X.env whole=(do let v ←whole;standAt e.pos;holding [v] (truthy v)):=by intro _;rfl):PT X e (tB t):=by
 intro pins s σ H Q I hw
 refine isTrue_plain (thn (h pins s σ H _ I hw) fun v s1 ⟨x,H1,I1,r1,q1⟩=>?_) (he _)
 obtain⟨d,rfl,q⟩:=q1
 cases r1
 exact wpAny_truthy_bool ⟨H1,I1,q⟩
variable {tA tB':TT}{rest:List Expr}
def ziK (t u:TT):TT:=fun σ H Q=>t σ H fun c H1=>if c=true then u σ H1 Q else Q false H1
def tOr (t u:TT):TT:=fun σ H Q=>t σ H fun c H1=>if c=true then Q true H1 else u σ H1 Q
def ziL (t:TT):TT:=fun σ H Q=>t σ H fun c H1=>Q (!c) H1
theorem Y9 (ha:PT X a tA):PW X (.BoolOp .And [a] pos) tA:=by
 intro wh pins s σ H Q I h
 refine isTrue_and (thn (ha pins s σ H Q I h) fun c s1 e=>?_)
 cases c with
 | true=>exact isTrue_and_nil e
 | false=>exact e
theorem YW (ha:PT X a tA):PW X (.BoolOp .Or [a] pos) tA:=by
 intro wh pins s σ H Q I h
 refine isTrue_or (thn (ha pins s σ H Q I h) fun c s1 e=>?_)
 cases c with
 | false=>exact isTrue_or_nil e
 | true=>exact e
theorem Js (ha:PT X a tA) (hb:PW X (.BoolOp .And (b::rest) pos) tB'):PW X (.BoolOp .And (a::b::rest) pos) (ziK tA tB'):=by
 intro wh pins s σ H Q I h
 refine isTrue_and (thn (ha pins s σ H _ I h) fun c s1 ⟨H1,I1,q1⟩=>?_)
 cases c with
 | true=>exact hb wh pins s1 σ H1 Q I1 q1
 | false=>exact⟨H1,I1,q1⟩
theorem Vm (ha:PT X a tA) (hb:PW X (.BoolOp .Or (b::rest) pos) tB'):PW X (.BoolOp .Or (a::b::rest) pos) (tOr tA tB'):=by
 intro wh pins s σ H Q I h
 refine isTrue_or (thn (ha pins s σ H _ I h) fun c s1 ⟨H1,I1,q1⟩=>?_)
 cases c with
 | true=>exact⟨H1,I1,q1⟩
 | false=>exact hb wh pins s1 σ H1 Q I1 q1
theorem xw (ha:PT X a tA):PT X (.UnaryOp .Not a pos) (ziL tA):=by
 intro pins s σ H Q I h
 exact isTrue_not (ha pins s σ H (fun c H1=>Q (!c) H1) I h)
def zgA (ta tb:TE):TE:=fun σ H Q=>ta σ H fun x H1=>∃c,x=.bl c/\if c=true then tb σ H1 Q else Q (.bl false) H1
def ziE (ta tb:TE):TE:=fun σ H Q=>ta σ H fun x H1=>∃c,x=.bl c/\if c=true then Q (.bl true) H1 else tb σ H1 Q
theorem va {op}{t:TE} (h:PE X a t):PE X (.BoolOp op [a] pos) t:=fun pins s σ H Q I hw=>BoolOp_one (h pins s σ H Q I hw)
theorem vc (ha:PE X a ta) (hb:PE X (.BoolOp .And (b::rest) pos) tb):PE X (.BoolOp .And (a::b::rest) pos) (zgA ta tb):=by
 intro pins s σ H Q I h
 refine BoolOp_and (thn (ha pins s σ H _ I h) fun v s1 ⟨x,H1,I1,r1,q1⟩=>?_)
 obtain⟨c,rfl,q1⟩:=q1
 cases r1
 refine wpAny_truthy_bool ?_
 cases c with
 | true=>exact hb pins s1 σ H1 Q I1 q1
 | false=>exact⟨.bl false,H1,I1,rfl,q1⟩
theorem zhT (ha:PE X a ta) (hb:PE X (.BoolOp .Or (b::rest) pos) tb):PE X (.BoolOp .Or (a::b::rest) pos) (ziE ta tb):=by
 intro pins s σ H Q I h
 refine BoolOp_or (thn (ha pins s σ H _ I h) fun v s1 ⟨x,H1,I1,r1,q1⟩=>?_)
 obtain⟨c,rfl,q1⟩:=q1
 cases r1
 refine wpAny_truthy_bool ?_
 cases c with
 | false=>exact hb pins s1 σ H1 Q I1 q1
 | true=>exact⟨.bl true,H1,I1,rfl,q1⟩
def tIf (t:TT) (ta tb:TE):TE:=fun σ H Q=>t σ H fun c H1=>if c=true then ta σ H1 Q else tb σ H1 Q
theorem Wr {c:Expr} (hc:PT X c tA) (ha:PE X a ta) (hb:PE X b tb):PE X (.IfExp c a b pos) (tIf tA ta tb):=by
 intro pins s σ H Q I h
 refine wpAny_IfExp (thn (hc pins s σ H _ I h) fun d s1 ⟨H1,I1,q1⟩=>?_)
 cases d with
 | true=>exact ha pins s1 σ H1 Q I1 q1
 | false=>exact hb pins s1 σ H1 Q I1 q1
end
end L2
namespace L2
open PySem PySem.Spec PyProof.Rows
def SqL (K:PySem.W.Frag) (H:Hp) (a:Addr) (xs:List V):Prop:=
 Rd H a (.lst xs) ∨
  ∃(o:Obj) (its:Array Value) (n:Nat),K.lookup a=some o/\o.cls=.type "list"/\o.dict=none/\o.data=.seq its n/\its.size<=sizeLine/\ym xs its.toList
def SqT (K:PySem.W.Frag) (H:Hp) (a:Addr) (xs:List V):Prop:=
 Rd H a (.tup xs) ∨
  ∃(o:Obj) (its:Array Value) (n:Nat),K.lookup a=some o/\o.cls=.type "tuple"/\o.data=.seq its n/\its.size<=sizeLine/\ym xs its.toList
def ziY:Value->Option V
 | .none=>some .non
 | .bool b=>some (.bl b)
 | .int i _=>some (.int i)
 | .str x _=>some (.str x)
 | .bytes b _=>some (.byt b)
 | .float b _=>some (.flt b)
 | .ref a=>some (.ref a)
 | .type n=>some (.ty n)
 | _=>none
theorem yx.abs {x:V}{u:Value} (r:yx x u):ziY u=some x:=by
 cases x with
 | non=>cases r;rfl
 | bl _=>cases r;rfl
 | int _=>obtain⟨t,rfl⟩:=r;rfl
 | str _=>obtain⟨t,rfl⟩:=r;rfl
 | byt _=>obtain⟨t,rfl⟩:=r;rfl
 | flt _=>obtain⟨t,rfl⟩:=r;rfl
 | ref _=>cases r;rfl
 | ty _=>cases r;rfl
theorem yx.inj {x y:V}{u:Value} (r:yx x u) (q:yx y u):x=y:=Option.some.inj (r.abs.symm.trans q.abs)
theorem ym.inj:∀{xs ys:List V}{us:List Value},ym xs us->ym ys us->xs=ys
 | _,_,_,.nil,.nil=>rfl
 | _,_,_,.cons r t,.cons r' t'=>by rw[r.inj r',ym.inj t t']
section
variable {X:Cx}{pins:List (Addr×Obj)}{σ:St}{H:Hp}{s:Shared}{a:Addr}{xs ys:List V}
theorem SqL.of {K:PySem.W.Frag} (h:H a=some (.lst xs)):SqL K H a xs:=.inl (.inl h)
theorem SqT.of {K:PySem.W.Frag} (h:H a=some (.tup xs)):SqT K H a xs:=.inl (.inl h)
theorem Inv.list (I:Inv X pins σ H s) (h:SqL X.K H a xs):∃its:List Value,ym xs its/\PlainL s.heap a its.toArray/\xs.length<=sizeLine:=by
 rcases h with h | ⟨o,its,n,hk,hc,hd,hs,hz,r⟩
 ·obtain⟨z,its,n,r,e⟩:=h.ok I.hok
  exact⟨its,r,⟨_,n,e,rfl,rfl,rfl⟩,z⟩
 ·refine⟨its.toList,r,⟨o,n,I.kIn a o hk,hc,hd,by simpa using hs⟩,?_⟩
  have e:=r.length
  simp only[Ube] at e
  omega
theorem Inv.tuple (I:Inv X pins σ H s) (h:SqT X.K H a xs):∃its:List Value,ym xs its/\IsTup s.heap a its.toArray/\xs.length<=sizeLine:=by
 rcases h with h | ⟨o,its,n,hk,hc,hs,hz,r⟩
 ·obtain⟨z,its,r,p⟩:=h.ok I.hok
  exact⟨its,r,p,z⟩
 ·refine⟨its.toList,r,⟨o,I.kIn a o hk,hc,n,by simpa using hs⟩,?_⟩
  have e:=r.length
  simp only[Ube] at e
  omega
theorem Inv.list_inj (I:Inv X pins σ H s) (h:SqL X.K H a xs) (h':SqL X.K H a ys):xs=ys:=by
 obtain⟨its,r,⟨o,n,e,_,_,d⟩,_⟩:=I.list h
 obtain⟨its',r',⟨o',n',e',_,_,d'⟩,_⟩:=I.list h'
 rw[e] at e';cases e'
 rw[d] at d'
 injection d' with d1 _
 have:its=its':=by simpa using congrArg Array.toList d1
 subst this
 exact r.inj r'
end
abbrev Cx.wish (X:Cx) (E:Value->Shared->Prop):Cx:={ X with xe:=E }
abbrev Cx.nox (X:Cx):Cx:=X.wish fun _ _=>False
theorem Cx.Ok.wish {X:Cx} (ok:X.Ok) (E:Value->Shared->Prop):(X.wish E).Ok:=
 ⟨ok.mod,ok.kind,ok.glob,ok.blt,ok.above,ok.inj,ok.has,ok.cab,ok.hd,ok.frames,ok.stk,ok.exf,ok.bs,ok.bsz,ok.noex,ok.exfs,ok.funs,ok.frf⟩
theorem Cx.Ok.unwish {X:Cx}{E:Value->Shared->Prop} (ok:(X.wish E).Ok):X.Ok:=
 ⟨ok.mod,ok.kind,ok.glob,ok.blt,ok.above,ok.inj,ok.has,ok.cab,ok.hd,ok.frames,ok.stk,ok.exf,ok.bs,ok.bsz,ok.noex,ok.exfs,ok.funs,ok.frf⟩
section
variable {X:Cx}{pins:List (Addr×Obj)}{σ:St}{H:Hp}{s:Shared}{E:Value->Shared->Prop}
theorem Inv.wish (I:Inv X pins σ H s) (E:Value->Shared->Prop):Inv (X.wish E) pins σ H s:=⟨I.ok.wish E,I.os,I.bare,I.base,I.loc,I.cell,I.free,I.freeC,I.pin,I.hok,I.len⟩
theorem Inv.unwish (I:Inv (X.wish E) pins σ H s):Inv X pins σ H s:=⟨I.ok.unwish,I.os,I.bare,I.base,I.loc,I.cell,I.free,I.freeC,I.pin,I.hok,I.len⟩
theorem SP.unwish {D:KS}{f:Flow}{s':Shared} (h:SP (X.wish E) pins D f s'):SP X pins D f s':=by
 cases f with
 | next=>obtain⟨σ',H',I,q⟩:=h;exact⟨σ',H',I.unwish,q⟩
 | brk=>obtain⟨σ',H',I,q⟩:=h;exact⟨σ',H',I.unwish,q⟩
 | cont=>obtain⟨σ',H',I,q⟩:=h;exact⟨σ',H',I.unwish,q⟩
 | ret u=>obtain⟨v,σ',H',I,r,q⟩:=h;exact⟨v,σ',H',I.unwish,r,q⟩
theorem PSs.nox {st:List Stmt}{t:TS} (h:PSs X.nox st t):PSs X st t:=fun pins s σ H D I hw=>
 wpAny_mono (h pins s σ H D (I.wish _) hw) (fun _ _ q=>q.unwish) fun _ _ z=>False.elim z
end
section
variable {X:Cx}{st:Stmt}{rest:List Stmt}{t u:TS}{e:Expr}{te:TE}{pos:Pos}
def zgC:TS:=fun D σ H=>D.nx σ H
def ziy (t u:TS):TS:=fun D σ H=>t { D with nx:=u D } σ H
theorem zn:PSs X [] zgC:=fun _ _ σ H _ I h=>wpAny_execs_nil ⟨σ,H,I,h⟩
theorem zb (h1:PS X st t) (h2:PSs X rest u):PSs X (st::rest) (ziy t u):=by
 intro pins s σ H D I h
 refine wpAny_execs_cons (thn (h1 pins s σ H { D with nx:=u D } I h) fun f s1 q=>?_)
 cases f with
 | next=>
  obtain⟨σ',H',I',q⟩:=q
  exact h2 pins s1 σ' H' D I' q
 | ret v=>exact q
 | brk=>exact q
 | cont=>exact q
theorem ze (h1:PS X st t):PSs X [st] t:=by
 intro pins s σ H D I h
 refine wpAny_execs_cons (thn (h1 pins s σ H D I h) fun f s1 q=>?_)
 cases f with
 | next=>exact wpAny_execs_nil q
 | ret v=>exact q
 | brk=>exact q
 | cont=>exact q
def zfV:TS:=fun D σ H=>D.ct σ H
theorem Vs:PS X (.Continue pos) zfV:=fun _ _ σ H _ I h=>wpAny_Continue ⟨σ,H,I,h⟩
theorem Inv.quiet {pins:List (Addr×Obj)}{σ:St}{H:Hp}{s:Shared} (I:Inv X pins σ H s):interactive X.env=false:=by simp [interactive,I.ok.kind]
def zfZ (te:TE):TS:=fun D σ H=>te σ H fun _ H1=>D.nx σ H1
theorem yu (he:PE X e te) (hs:swapsWith e none pos.line X.env=pure false:=by rfl):PS X (.Expr e pos) (zfZ te):=by
 intro pins s σ H D I h
 exact wpAny_Expr_any (thn (he pins s σ H _ I h) fun v s1 ⟨x,H1,I1,r1,q1⟩=>⟨σ,H1,I1,q1⟩) I.quiet hs
def ziI (te:TE):TS:=fun D σ H=>te σ H D.rt
theorem zj (he:PE X e te):PS X (.Return (some e) pos) (ziI te):=by
 intro pins s σ H D I h
 exact wpAny_Return_some (thn (he pins s σ H _ I h) fun v s1 ⟨x,H1,I1,r1,q1⟩=>⟨x,σ,H1,I1,r1,q1⟩)
def ziM (c:TT) (t u:TS):TS:=fun D σ H=>c σ H fun b H1=>if b=true then t D σ H1 else u D σ H1
theorem zy {c:Expr}{a b:List Stmt}{tc:TT} (hc:PT X c tc) (ha:PSs X a t) (hb:PSs X b u):PS X (.If c a b pos) (ziM tc t u):=by
 intro pins s σ H D I h
 refine wpAny_If (thn (hc pins s σ H _ I h) fun d s1 ⟨H1,I1,q1⟩=>?_)
 cases d with
 | true=>exact ha pins s1 σ H1 D I1 q1
 | false=>exact hb pins s1 σ H1 D I1 q1
end
abbrev TG:=V->St->Hp->(St->Hp->Prop)->Prop
def PG (X:Cx) (target:Expr) (t:TG):Prop:=
 ∀(pins:List (Addr×Obj)) (s:Shared) (σ:St) (H:Hp) (v:V) (u:Value) (Q:St->Hp->Prop),Inv X pins σ H s->yx v u->t v σ H Q →
  wpAny (model X.prog X.w) X.A (assign target X.env u) (fun _ s'=>∃σ' H',Inv X pins σ' H' s'/\Q σ' H') X.xe s
section
variable {X:Cx}{pos:Pos}
def kU (i:Nat):TG:=fun v σ H Q=>Q (σ.set i (some v)) H
theorem zN {i:Nat}{x:Str} (hN:X.N.Nodup) (hi:X.N[i]? = some x) (hx:Loc X.env.scope x) (hf:X.fn x=true\/X.env.scope.names.lookup x=some .local:=by first | exact .inl rfl | exact .inr rfl | assumption):PG X (.Name x pos) (kU i):=by
 intro pins s σ H v u Q I r h
 exact wpAny_assign_Name (WP I hN hi hx r (fun s' I'=>⟨_,H,I',h⟩) hf)
def zgz (te:TE) (g:TG):TS:=fun D σ H=>te σ H fun x H1=>g x σ H1 D.nx
theorem zf6 {i:Nat}{x:Str}{e:Expr}{te:TE}{pos':Pos} (hN:X.N.Nodup) (hi:X.N[i]? = some x) (hx:Loc X.env.scope x) (he:PE X e te) (hs:swapsWith e (some (.Name x pos')) pos.line X.env=pure false:=by rfl) (hf:X.fn x=true\/X.env.scope.names.lookup x=some .local:=by first | exact .inl rfl | exact .inr rfl | assumption) :
  PS X (.Assign [.Name x pos'] e pos) (zgz te (kU i)):=by
 intro pins s σ H D I h
 refine wpAny_Assign_Name (thn (he pins s σ H _ I h) fun v s1 ⟨y,H1,I1,r1,q1⟩=>?_) hs
 exact WP I1 hN hi hx r1 (fun s2 I2=>⟨_,H1,I2,q1⟩) hf
end
section
variable {X:Cx}{pos:Pos}
def zgT (c:TT) (tb:TS):TS:=fun D σ H=>∃W:Nat->St->Hp->Prop,(∃m,W m σ H)/\∀m σ H,W m σ H →
 c σ H fun b H1=>if b=true then ∃N:St->Hp->Prop,(∀σ' H',N σ' H'->∃m',m'<m/\W m' σ' H')/\tb { D with nx:=N,ct:=N,bk:=D.nx } σ H1 else D.nx σ H1
theorem Qh {c:Expr}{body:List Stmt}{tc:TT}{tb:TS} (hp:PassesOwn (model X.prog X.w) X.A X.env X.xe) (hc:PT X c tc) (hb:PSs X body tb):PS X (.While c body [] pos) (zgT tc tb):=by
 intro pins s σ H D I h
 obtain⟨W,⟨m0,w0⟩,turn⟩:=h
 refine wpAny_While (codeAny_whileLoop (fun n s'=>∃σ' H',Inv X pins σ' H' s'/\W n σ' H') ?_ m0 ⟨σ,H,I,w0⟩)
 rintro n s1 ⟨σ1,H1,I1,w1⟩
 refine wpAny_passesOwn hp (thn (hc pins s1 σ1 H1 _ I1 (turn n σ1 H1 w1)) fun b s2 ⟨H2,I2,q2⟩=>?_)
 cases b with
 | true=>
  obtain⟨N,hN,q2⟩:=q2
  rw[if_pos rfl]
  refine wpAny_passesOwn hp (thn (hb pins s2 σ1 H2 _ I2 q2) fun f s3 q3=>?_)
  cases f with
  | next=>
   obtain⟨σ3,H3,I3,n3⟩:=q3
   obtain⟨m',hm,w3⟩:=hN σ3 H3 n3
   exact⟨m',hm,σ3,H3,I3,w3⟩
  | cont=>
   obtain⟨σ3,H3,I3,n3⟩:=q3
   obtain⟨m',hm,w3⟩:=hN σ3 H3 n3
   exact⟨m',hm,σ3,H3,I3,w3⟩
  | brk=>exact q3
  | ret v=>exact q3
 | false=>
  rw[if_neg Uap]
  exact wpAny_execs_nil ⟨σ1,H2,I2,q2⟩
end
structure It where
 go:Nat->Hp->Prop
 yld:Nat->Hp->V->Hp->Prop
 stop:Nat->Hp->Prop
def QC (X:Cx) (pins:List (Addr×Obj)) (H:Hp) (b:Addr):Prop:=
 H b=none/\b≠X.env.locals/\b∉X.fs/\(b∈X.ex\/X.s_0.heap.objs.size<=b)/\(∀x c,X.env.cells.lookup x=some c->c≠b)/\∀p∈X.pn++pins,p.1≠b
theorem Inv.fpOk {X:Cx}{pins:List (Addr×Obj)}{σ:St}{H H':Hp}{s:Shared}{b:Addr} (I:Inv X pins σ H s) (hb:s.heap.objs.size<=b) (hn:H' b=none):QC X pins H' b:=by
 refine⟨hn,Nat.ne_of_gt (Ubf I.lt hb),I.nofs hb,.inr (Ubb I.sz hb),fun x c e z=>?_,fun p hp z=>?_⟩
 ·obtain⟨v,q⟩:=I.cell x c e
  exact absurd (Ubf q.lt (by rw[z];exact hb)) (Ucc _)
 ·exact absurd (Ubf (Heap.lt_size (I.pin p hp).1) (by rw[z];exact hb)) (Ucc _)
structure zf3 (P:Program) (w:World) (K:PySem.W.Frag) (tg:Expr) (J:It) (fp:List Addr) (it:Addr) (tn:Nat->Heap->Prop):Prop where
 mem:it∈fp
 obj:∀i h,tn i h->∀b∈fp,∃o,h.get? b=some o/\∀v,o.data≠.cell v
 keep:∀i h h',tn i h->(∀b∈fp,∀o,h.get? b=some o->h'.get? b=some o)->tn i h'
 item:∀(X:Cx),X.prog=P->X.w=w->X.K=K->X.calm=true->∀(i:Nat) (pins:List (Addr×Obj)) (s:Shared) (σ:St) (H:Hp) (E:Value->Shared->Prop),Inv X pins σ H s->(∀b∈fp,QC X pins H b)->tn i s.heap->J.go i H →
  wpAny (model P w) X.A (pyNext (.ref it)) (fun r s1=>∃u,r=some u ∧
   wpAny (model P w) X.A (letOwnedTupleGo tg (.ref it) u) (fun _ s2=>∃x H',Inv X pins σ H' s2/\yx x u/\J.yld i H x H'/\tn (i+1) s2.heap/\∀b∈fp,H' b=none) E s1) E s
 done:∀(X:Cx),X.prog=P->X.w=w->X.K=K->X.calm=true->∀(i:Nat) (pins:List (Addr×Obj)) (s:Shared) (σ:St) (H:Hp) (E:Value->Shared->Prop),Inv X pins σ H s->(∀b∈fp,QC X pins H b)->tn i s.heap->J.stop i H →
  wpAny (model P w) X.A (pyNext (.ref it)) (fun r s1=>r=none/\Inv X pins σ H s1) E s
 self:∀(A:Around) (i:Nat) (s:Shared) (Q:Value->Shared->Prop) (E:Value->Shared->Prop),tn i s.heap->Q (.ref it) s->wpAny (model P w) A (pyIter (.ref it)) Q E s
abbrev TI:=St->Hp->(It->Hp->Prop)->Prop
def PIE (X:Cx) (pins:List (Addr×Obj)) (σ:St) (tg:Expr) (R:It->Hp->Prop) (itv:Value) (s2:Shared):Prop:=
 ∃(it:Addr) (fp:List Addr) (tn:Nat->Heap->Prop) (J:It) (H':Hp),itv=.ref it/\Inv X pins σ H' s2/\zf3 X.prog X.w X.K tg J fp it tn/\tn 0 s2.heap/\(∀b∈fp,QC X pins H' b)/\R J H'
def PI (X:Cx) (tg iter:Expr) (wi:TI):Prop:=
 ∀(pins:List (Addr×Obj)) (s:Shared) (σ:St) (H:Hp) (R:It->Hp->Prop),Inv X pins σ H s->wi σ H R →
  wpAny (model X.prog X.w) X.A (eval iter X.env) (fun v s1=>wpAny (model X.prog X.w) X.A (pyIter v) (PIE X pins σ tg R) X.xe s1) X.xe s
theorem zeT {M:Model}{A:Around}{E:Value->Shared->Prop}{s:Shared}{tg:Expr}{it:Addr}{u:Value}{o:Obj}{n:String}{vs:Array Value}{Q:Unit->Shared->Prop} (ho:s.heap.get? it=some o) (hc:o.cls=.type n) (hd:o.data=.fields vs)
    (hn:["enumerate", "zip", "dict_itemiterator", "dict_reverseitemiterator", "odict_iterator", "itertools.zip_longest", "itertools.pairwise"].contains n=false) (hQ:Q () s):wpAny M A (letOwnedTupleGo tg (.ref it) u) Q E s:=by
  unfold letOwnedTupleGo
  cases tg <;> first
    | exact wpAny_pure hQ
    | (cases u <;> first
        | exact wpAny_pure hQ
        | (refine wpAny_bind (wpAny_load ho ?_)
           rw[hc,hd]
           show wpAny M A (if (["enumerate", "zip", "dict_itemiterator", "dict_reverseitemiterator", "odict_iterator", "itertools.zip_longest", "itertools.pairwise"].contains n&&vs[0]? == some (rawInt _))=true then _ else _) Q E s
           rw[if_neg (by intro h;rw[hn,Bool.false_and] at h;cases h)]
           exact wpAny_pure hQ))
def Itl (K:PySem.W.Frag) (a:Addr):It:=
 ⟨fun i H=>∃xs x,SqL K H a xs/\xs[i]? = some x,fun i H x H'=>H'=H/\∀xs,SqL K H a xs->xs[i]? = some x,fun i H=>∃xs,SqL K H a xs/\xs.length<=i⟩
def Itr (lo:Int) (n:Nat):It:=⟨fun i _=>i<n,fun i H x H'=>H'=H/\x=.int (lo+i),fun i _=>n<=i⟩
theorem zbI {P:Program}{w:World}{K:PySem.W.Frag}{tg:Expr} (a it:Addr):zf3 P w K tg (Itl K a) [it] it (fun i h=>h.IsListIter it a i) where
 mem:=by simp
 obj:=fun i h st b hb=>by
  have e:b=it:=by simpa using hb
  subst e
  obtain⟨o,e,c,d⟩:=st
  exact⟨o,e,fun v z=>by rw[d] at z;cases z⟩
 keep:=fun i h h' st k=>st.at fun o e=>k it (by simp) o e
 item:=by
  intro X hP hw hK hc i pins s σ H E I hf st hg
  subst hP hw hK
  obtain⟨xs,x,hq,hx⟩:=hg
  obtain⟨its,rv,p,hz⟩:=I.list hq
  obtain⟨u,hu,ru⟩:=rv.get hx
  obtain⟨f0,f1,f2,f3,f4,f5⟩:=hf it (by simp)
  refine wpAny_pyNext_list_item st p.isList (x:=u) (by simpa using hu) fun h' st' sb=>?_
  have I1:Inv X pins σ H { s with heap:=h' }:=I.turned (t':=s.toks) (fun b o hb e=>(sb.2 b hb).trans e) f0 f1 f3 f4 f5
  obtain⟨o,e,c,d⟩:=id st'
  exact⟨u,rfl,zeT (s:={ s with heap:=h' }) e c d (by decide) ⟨x,H,I1,ru,⟨rfl,fun ys hy=>by rw[I.list_inj hy hq];exact hx⟩,st',fun b hb=>(hf b hb).1⟩⟩
 done:=by
  intro X hP hw hK hc i pins s σ H E I hf st hg
  subst hP hw hK
  obtain⟨xs,hq,hx⟩:=hg
  obtain⟨its,rv,p,hz⟩:=I.list hq
  obtain⟨f0,f1,f2,f3,f4,f5⟩:=hf it (by simp)
  have hl:=rv.length
  exact wpAny_pyNext_list_end (I.ok.hd hc) st p.isList (by simp;omega) fun h' eb=>⟨rfl,I.turned (t':=s.toks) (fun b o hb e=>eb b o hb e) f0 f1 f3 f4 f5⟩
 self:=fun _ _ _ _ _ st h=>wpAny_pyIter_listiter st h
theorem zat {P:Program}{w:World}{K:PySem.W.Frag}{tg:Expr} (it:Addr) (lo:Int) (n:Nat):zf3 P w K tg (Itr lo n) [it] it (fun i h=>IsRangeIter h it (lo+(i:Nat)*1) ((n:Int)-(i:Nat)) 1) where
 mem:=by simp
 obj:=fun i h st b hb=>by
  have e:b=it:=by simpa using hb
  subst e
  exact⟨_,st,fun v z=>by
   have z':Data.fields _=Data.cell v:=z
   cases z'⟩
 keep:=fun i h h' st k=>k it (by simp) _ st
 item:=by
  intro X hP hw hK hc i pins s σ H E I hf st hg
  subst hP hw hK
  obtain⟨f0,f1,f2,f3,f4,f5⟩:=hf it (by simp)
  have W:=Walks.range (prog:=X.prog) (w:=X.w) (I.ok.hd hc) it lo 1 n
  refine W.item i s _ _ hg st fun v h' tk hv st' kk=>?_
  obtain⟨t,rfl⟩:=hv
  have I1:Inv X pins σ H { s with heap:=h',toks:=tk }:=I.turned (fun b o hb e=>kk b o (by simpa using hb) e) f0 f1 f3 f4 f5
  refine⟨_,rfl,zeT (s:={ s with heap:=h',toks:=tk }) (n:="range_iterator") st' rfl rfl (by decide) ⟨.int (lo+i),H,I1,⟨t,?_⟩,⟨rfl,rfl⟩,st',fun b hb=>(hf b hb).1⟩⟩
  rw[Int.mul_one]
 done:=by
  intro X hP hw hK hc i pins s σ H E I hf st hg
  subst hP hw hK
  obtain⟨f0,f1,f2,f3,f4,f5⟩:=hf it (by simp)
  exact wpAny_pyNext_range_end (I.ok.hd hc) st (by have:n<=i:=hg;omega) fun h' eb=>⟨rfl,I.turned (t':=s.toks) (fun b o hb e=>eb b o hb e) f0 f1 f3 f4 f5⟩
 self:=fun _ _ _ _ _ st h=>wpAny_pyIter_rangeiter st h
end L2
namespace L2
open PySem PySem.Spec PyProof.Rows
section
variable {X:Cx}{tg:Expr}
def zaF (K:PySem.W.Frag) (tl:TE):TI:=fun σ H R=>tl σ H fun x H1=>∃a,x=.ref a/\(∃xs,SqL K H1 a xs)/\R (Itl K a) H1
theorem zex {l:Expr}{tl:TE} (hl:PE X l tl):PI X tg l (zaF X.K tl):=by
 intro pins s σ H R I h
 refine thn (hl pins s σ H _ I h) fun v s1 ⟨x,H1,I1,r1,q1⟩=>?_
 obtain⟨a,e,⟨xs,hq⟩,q⟩:=q1
 subst e
 cases r1
 obtain⟨its,rv,p,hz⟩:=I1.list hq
 refine wpAny_pyIter_list p.isList ?_
 refine⟨s1.heap.objs.size,[s1.heap.objs.size],_,_,H1,rfl,I1.kept (t':=s1.toks) fun b o e=>Heap.get?_push_of_some _ e,zbI a _,⟨_,Heap.get?_push_size _ rfl,rfl,rfl⟩,fun b hb=>?_,q⟩
 have e:b=s1.heap.objs.size:=by simpa using hb
 subst e
 exact I1.fpOk (Uag _) (I1.hok.fresh (Uag _))
theorem zdo {pins:List (Addr×Obj)}{σ:St}{H:Hp}{s:Shared}{R:It->Hp->Prop}{E:Value->Shared->Prop}{lo hi:Int}{t u v:Tok}{tk:Nat} (I:Inv X pins σ H s) (h1:-(2 ^ 62)<=lo) (h2:lo<2 ^ 62) (h3:-(2 ^ 62)<=hi) (h4:hi<2 ^ 62)
  (q:R (Itr lo (hi-lo).toNat) H):wpAny (model X.prog X.w) X.A (pyIter (.ref s.heap.objs.size)) (PIE X pins σ tg R) E { s with heap:=s.heap.push { cls:=.type "range",data:=.fields #[.int lo t,.int hi u,.int 1 v] },toks:=tk }:=by
 refine wpAny_pyIter_range (IsRange.new ..) (small_one h1 h2 h3 h4) ?_
 have I1:Inv X pins σ H { s with heap:=s.heap.push { cls:=.type "range",data:=.fields #[.int lo t,.int hi u,.int 1 v] },toks:=tk }:=I.kept fun b o e=>Heap.get?_push_of_some _ e
 refine⟨(s.heap.push { cls:=.type "range",data:=.fields #[.int lo t,.int hi u,.int 1 v] }).objs.size,[(s.heap.push { cls:=.type "range",data:=.fields #[.int lo t,.int hi u,.int 1 v] }).objs.size],_,_,H,rfl,
  I1.kept (t':=tk) fun b o e=>Heap.get?_push_of_some _ e,zat _ lo (hi-lo).toNat,?_,fun b hb=>?_,q⟩
 ·have e1:lo+((0:Nat):Int)*1=lo:=by simp
  have e2:(((hi-lo).toNat:Nat):Int)-((0:Nat):Int)=Builtin.Range.rangeSize lo hi 1:=by rw[rangeSize_one];split <;> omega
  show IsRangeIter _ _ (lo+((0:Nat):Int)*1) ((((hi-lo).toNat:Nat):Int)-((0:Nat):Int)) 1
  rw[e1,e2]
  exact Heap.get?_push_size _ rfl
 ·have e:b=(s.heap.push { cls:=.type "range",data:=.fields #[.int lo t,.int hi u,.int 1 v] }).objs.size:=by simpa using hb
  subst e
  exact I1.fpOk (Uag _) (I1.hok.fresh (Uag _))
def zhQ (ta:TA):TI:=fun σ H R=>ta σ H fun vs H1=>∃j:Int,vs=[.int j]/\-(2 ^ 62)<=j/\j<2 ^ 62/\R (Itr 0 j.toNat) H1
theorem zcv {a:Expr}{ta:TA}{p pos:Pos} (hg:Gl X "range") (hm:X.mg "range" = none) (ha:PA X [a] ta) (hs:starEach [a] X.env=[(false,eval a X.env)]:=by rfl):PI X tg (.Call (.Name "range" p) [a] [] pos) (zhQ ta):=by
 intro pins s σ H R I h
 refine Call_ (Wu I hg hm boot_range (PyProof.Rows.callWith_type1 (thn (ha pos pins s σ H _ I h) fun us s1 ⟨vs,H1,I1,r1,q1⟩=>?_) hs rfl))
 obtain⟨j,e,q1,q2,q⟩:=q1
 subst e
 cases r1 with
 | cons r rr=>
  cases rr
  obtain⟨t,rfl⟩:=r
  exact call_range_1 (zdo I1 (by omega) (by omega) q1 q2 (by simpa using q))
def zhK (wi:TI) (g:TG) (tb:TS):TS:=fun D σ H=>wi σ H fun J H1=>∃W:Nat->Nat->St->Hp->Prop,(∃m,W 0 m σ H1)/\∀i m σ H,W i m σ H →
 (J.stop i H/\D.nx σ H)\/(J.go i H/\∃N:St->Hp->Prop,(∀σ' H',N σ' H'->∃m',m'<m/\W (i+1) m' σ' H')/\∀x H',J.yld i H x H'->g x σ H' fun σ2 H2=>tb { D with nx:=N,ct:=N,bk:=D.nx } σ2 H2)
def Q9 (fp:List Addr) (h:Heap):List (Addr×Obj):=fp.filterMap fun b=>(h.get? b).map fun o=>(b,o)
theorem xD {fp:List Addr}{h:Heap}{b:Addr}{o:Obj} (hb:b∈fp) (e:h.get? b=some o):(b,o)∈Q9 fp h:=List.mem_filterMap.mpr ⟨b,hb,by rw[e];rfl⟩
theorem zcw {fp:List Addr}{h:Heap}{p:Addr×Obj} (hp:p∈Q9 fp h):p.1∈fp/\h.get? p.1=some p.2:=by
 obtain⟨b,hb,e⟩:=List.mem_filterMap.mp hp
 cases q:h.get? b with
 | none=>rw[q] at e;cases e
 | some o=>
  rw[q] at e
  have e':(b,o)=p:=Option.some.inj e
  subst e'
  exact⟨hb,q⟩
theorem Inv.pinned {pins:List (Addr×Obj)}{σ:St}{H:Hp}{s:Shared}{fp:List Addr} (I:Inv X pins σ H s) (hf:∀b∈fp,QC X pins H b) (ho:∀b∈fp,∃o,s.heap.get? b=some o/\∀v,o.data≠.cell v):Inv X (pins++Q9 fp s.heap) σ H s:=
 I.pins_of fun p hp=>(Ubd.mp hp).elim (fun z=>I.pin p (Uaz _ z)) fun z=>by
  obtain⟨hb,e⟩:=zcw z
  obtain⟨f0,f1,f2,_⟩:=hf p.1 hb
  obtain⟨o,e',d⟩:=ho p.1 hb
  rw[e] at e';cases e'
  exact⟨e,f0,f1,f2,d⟩
theorem Inv.unpinned {pins pl:List (Addr×Obj)}{σ:St}{H:Hp}{s:Shared} (I:Inv X (pins++pl) σ H s):Inv X pins σ H s:=I.pins_of fun p hp=>I.pin p (Uaz _ (Ubj _ hp))
theorem kx {iter:Expr}{body:List Stmt}{wi:TI}{g:TG}{tb:TS}{pos:Pos} (hp:PassesOwn (model X.prog X.w) X.A X.env X.xe) (hc:X.calm=true) (hi:PI X tg iter wi) (hg:PG X tg g) (hb:PSs X body tb)
  (hs:∀x,foldedSetIterable iter X.env x=pure x:=by intro _;rfl):PS X (.For tg iter body [] pos) (zhK wi g tb):=by
 intro pins s σ H D I h
 refine wpAny_For (thn (hi pins s σ H _ I h) fun v s1 h1=>thn h1 fun itv s2 h2=>?_) hs
 obtain⟨it,fp,tn,J,H2,e,I2,T,st2,f2,W,⟨m0,w0⟩,turn⟩:=h2
 subst e
 have stat:∀{H':Hp},(∀b∈fp,H' b=none)->∀b∈fp,QC X pins H' b:=fun hn b hb=>⟨hn b hb,(f2 b hb).2⟩
 refine codeAny_forLoop_any (fun n s'=>∃i σ' H',Inv X pins σ' H' s'/\tn i s'.heap/\(∀b∈fp,H' b=none)/\W i n σ' H') ?_ m0 ⟨0,σ,H2,I2,st2,fun b hb=>(f2 b hb).1,w0⟩
 rintro n s3 ⟨i,σ3,H3,I3,st3,fr3,w3⟩
 rcases turn i n σ3 H3 w3 with ⟨stop,qn⟩ | ⟨go,N,hN,step⟩
 ·refine wpAny_passesOwn hp (thn (T.done X rfl rfl rfl hc i pins s3 σ3 H3 X.xe I3 (stat fr3) st3 stop) fun r s4 ⟨hr,I4⟩=>?_)
  subst hr
  exact wpAny_execs_nil ⟨σ3,H3,I4,qn⟩
 ·refine wpAny_passesOwn hp (thn (T.item X rfl rfl rfl hc i pins s3 σ3 H3 X.xe I3 (stat fr3) st3 go) fun r s4 ⟨u,hr,h4⟩=>?_)
  subst hr
  refine wpAny_passesOwn hp (thn h4 fun _ s5 ⟨x,H5,I5,r5,y5,st5,fr5⟩=>?_)
  have I5':=I5.pinned (stat fr5) (T.obj _ _ st5)
  refine wpAny_passesOwn hp (thn (hg _ s5 σ3 H5 x u _ I5' r5 (step x H5 y5)) fun _ s6 ⟨σ6,H6,I6,q6⟩=>?_)
  refine wpAny_passesOwn hp (thn (hb _ s6 σ6 H6 _ I6 q6) fun f s7 q7=>?_)
  have again:∀{σ7:St}{H7:Hp},Inv X (pins++Q9 fp s5.heap) σ7 H7 s7->N σ7 H7->∃m,m<n/\∃i σ' H',Inv X pins σ' H' s7/\tn i s7.heap/\(∀b∈fp,H' b=none)/\W i m σ' H':=fun {σ7 H7} I7 n7=>by
   obtain⟨m',hm,w7⟩:=hN σ7 H7 n7
   refine⟨m',hm,i+1,σ7,H7,I7.unpinned,T.keep _ _ _ st5 fun b hb o e=>(I7.pin (b,o) (Uaz _ (Uaz _ (xD hb e)))).1,fun b hb=>?_,w7⟩
   obtain⟨o,e,d⟩:=T.obj _ _ st5 b hb
   exact(I7.pin (b,o) (Uaz _ (Uaz _ (xD hb e)))).2.1
  cases f with
  | next=>obtain⟨σ7,H7,I7,n7⟩:=q7;exact again I7 n7
  | cont=>obtain⟨σ7,H7,I7,n7⟩:=q7;exact again I7 n7
  | brk=>obtain⟨σ7,H7,I7,q7⟩:=q7;exact⟨σ7,H7,I7.unpinned,q7⟩
  | ret v=>obtain⟨x7,σ7,H7,I7,r7,q7⟩:=q7;exact⟨x7,σ7,H7,I7.unpinned,r7,q7⟩
end
theorem Wq {K:PySem.W.Frag}{a:Addr}{xs:List V}{g:TG}{tb:TS}{D:KS}{σ:St}{H:Hp} (Pv:Nat->St->Hp->Prop) (h0:Pv 0 σ H) (hl:∀i σ H,i<=xs.length->Pv i σ H->SqL K H a xs)
  (hs:∀i x σ H,xs[i]? = some x->Pv i σ H->g x σ H fun σ2 H2=>tb { D with nx:=Pv (i+1),ct:=Pv (i+1),bk:=D.nx } σ2 H2) (hd:∀σ H,Pv xs.length σ H->D.nx σ H) :
  ∃W:Nat->Nat->St->Hp->Prop,(∃m,W 0 m σ H)/\∀i m σ H,W i m σ H →
   ((Itl K a).stop i H/\D.nx σ H)\/((Itl K a).go i H/\∃N:St->Hp->Prop,(∀σ' H',N σ' H'->∃m',m'<m/\W (i+1) m' σ' H')/\∀x H',(Itl K a).yld i H x H'->g x σ H' fun σ2 H2=>tb { D with nx:=N,ct:=N,bk:=D.nx } σ2 H2):=by
 refine⟨fun i m σ H=>m=xs.length-i/\i<=xs.length/\Pv i σ H,⟨xs.length,by simp,Uax _,h0⟩,?_⟩
 rintro i m σ H ⟨rfl,hi,p⟩
 have q:=hl i σ H hi p
 by_cases hlt:i<xs.length
 ·refine .inr ⟨⟨xs,xs[i],q,by simp [hlt]⟩,Pv (i+1),fun σ' H' p'=>⟨xs.length-(i+1),by omega,rfl,hlt,p'⟩,fun x H' y=>?_⟩
  obtain⟨e,y⟩:=y
  subst e
  exact hs i x σ _ (y xs q) p
 ·have e:i=xs.length:=by omega
  subst e
  exact .inl ⟨⟨xs,q,Uag _⟩,hd σ H p⟩
end L2
namespace L2
open PySem PySem.Spec PyProof.Rows
abbrev R2:=V->V->Hp->VK->Prop
def OpR (X:Cx) (f:Value->Value->Sem Value) (r:R2):Prop:=
 ∀(pins:List (Addr×Obj)) (s:Shared) (σ:St) (H:Hp) (x y:V) (v u:Value) (Q:VK),Inv X pins σ H s->yx x v->yx y u->r x y H Q →
  wpAny (model X.prog X.w) X.A (f v u) (EP X pins σ Q) X.xe s
def kY (X:Cx) (f:Value) (r:List V->Hp->VK->Prop):Prop:=
 ∀(pins:List (Addr×Obj)) (s:Shared) (σ:St) (H:Hp) (xs:List V) (us:List Value) (Q:VK),Inv X pins σ H s->ym xs us->r xs H Q →
  wpAny (model X.prog X.w) X.A (call f us) (EP X pins σ Q) X.xe s
def tOp (r:R2) (ta tb:TE):TE:=fun σ H Q=>ta σ H fun x H1=>tb σ H1 fun y H2=>r x y H2 Q
def rI0 (g:Int->Int->V):R2:=fun x y H Q=>∃i j,x=.int i/\y=.int j/\Q (g i j) H
section
variable {X:Cx}{a b c:Expr}{ta tb tc:TE}{pos:Pos}
theorem zhV (ha:PE X a ta) (hb:PE X b tb) {pins:List (Addr×Obj)}{s:Shared}{σ:St}{H:Hp}{R:V->V->Hp->Prop} (I:Inv X pins σ H s)
  (h:ta σ H fun x H1=>tb σ H1 fun y H2=>R x y H2) {Q:Value->Shared->Prop}{f:Value->Value->Sem Value}
  (hf:∀v u s2 x y H2,Inv X pins σ H2 s2->yx x v->yx y u->R x y H2->wpAny (model X.prog X.w) X.A (f v u) Q X.xe s2) :
  wpAny (model X.prog X.w) X.A (eval a X.env) (fun v s₁=>wpAny (model X.prog X.w) X.A (eval b X.env) (fun u s₂=>wpAny (model X.prog X.w) X.A (f v u) Q X.xe s₂) X.xe s₁) X.xe s:=by
 refine thn (ha pins s σ H _ I h) fun v s1 ⟨x,H1,I1,r1,q1⟩=>?_
 refine thn (hb pins s1 σ H1 _ I1 q1) fun u s2 ⟨y,H2,I2,r2,q2⟩=>?_
 exact hf v u s2 x y H2 I2 r1 r2 q2
theorem jM {op:Operator}{r:R2} (ho:OpR X (binaryOp op) r) (ha:PE X a ta) (hb:PE X b tb):PE X (.BinOp a op b pos) (tOp r ta tb):=by
 intro pins s σ H Q I h
 exact wpAny_BinOp (zhV ha hb I h fun v u s2 x y H2 I2 rx ry q=>ho pins s2 σ H2 x y v u Q I2 rx ry q)
theorem ziv {f:Value->Value->Sem Value}{g:Int->Int->Int}
  (rule:∀(i j:Int) (t u:Tok) (s:Shared) (Q:Value->Shared->Prop) (E:Value->Shared->Prop),Q (.int (g i j) s.toks) { s with toks:=s.toks+1 }->wpAny (model X.prog X.w) X.A (f (.int i t) (.int j u)) Q E s) :
  OpR X f (rI0 fun i j=>.int (g i j)):=by
 intro pins s σ H x y v u Q I rx ry h
 obtain⟨i,j,rfl,rfl,q⟩:=h
 obtain⟨t,rfl⟩:=rx
 obtain⟨t',rfl⟩:=ry
 exact rule i j t t' s _ _ ⟨.int (g i j),H,I.tok _,⟨_,rfl⟩,q⟩
theorem zhj {f:Value->Value->Sem Value}{g:Int->Int->Bool}
  (rule:∀(i j:Int) (t u:Tok) (s:Shared) (Q:Value->Shared->Prop) (E:Value->Shared->Prop),Q (.bool (g i j)) s->wpAny (model X.prog X.w) X.A (f (.int i t) (.int j u)) Q E s) :
  OpR X f (rI0 fun i j=>.bl (g i j)):=by
 intro pins s σ H x y v u Q I rx ry h
 obtain⟨i,j,rfl,rfl,q⟩:=h
 obtain⟨t,rfl⟩:=rx
 obtain⟨t',rfl⟩:=ry
 exact rule i j t t' s _ _ ⟨.bl (g i j),H,I,rfl,q⟩
theorem zf4:OpR X (binaryOp .Add) (rI0 fun i j=>.int (i+j)):=ziv fun _ _ _ _ _ _ _ q=>add_int q
theorem zfS:OpR X (binaryOp .Sub) (rI0 fun i j=>.int (i-j)):=ziv fun _ _ _ _ _ _ _ q=>sub_int q
end
def ziD:V->V->Bool
 | .non,.non=>true | .non,.int _=>true | .int _,.non=>true | .non,.bl _=>true | .bl _,.non=>true | .non,.str _=>true | .str _,.non=>true
 | .int _,.int _=>true | .bl _,.bl _=>true | .str _,.str _=>true | .byt _,.byt _=>true
 | .int _,.str _=>true | .str _,.int _=>true | .bl _,.str _=>true | .str _,.bl _=>true
 | _,_=>false
def rEq:R2:=fun x y H Q=>ziD x y=true/\Q (.bl (decide (x=y))) H
def rNe:R2:=fun x y H Q=>ziD x y=true/\Q (.bl (!decide (x=y))) H
theorem zb8 {i j:Int}:decide (V.int i=V.int j)=(i == j):=by
 rw[Uck]
 simp
theorem zek {i j:Bool}:decide (V.bl i=V.bl j)=(i == j):=by
 rw[Uck]
 simp
theorem za4 {i j:Str}:decide (V.str i=V.str j)=(i == j):=by
 rw[Uck]
 simp
theorem za6 {i j:Array UInt8}:decide (V.byt i=V.byt j)=(i.toList == j.toList):=by
 rw[Uck]
 cases i
 cases j
 simp
section
variable {X:Cx}{a b c:Expr}{ta tb tc:TE}{pos:Pos}
theorem z0 {pins:List (Addr×Obj)}{σ:St}{H:Hp}{s:Shared}{Q:VK}{k k':Bool} (I:Inv X pins σ H s) (q:Q (.bl k) H) (e:k=k'):EP X pins σ Q (.bool k') s:=by
 subst e
 exact⟨.bl k,H,I,rfl,q⟩
theorem yA:OpR X (compareOp .Eq) rEq:=by
 intro pins s σ H x y v u Q I rx ry h
 obtain⟨hs,q⟩:=h
 cases x with
 | non=>
  cases rx
  cases y with
  | non=>cases ry;exact PySem.EqNone.eq_none_none (z0 I q (by simp))
  | bl j=>cases ry;exact PySem.EqNone.eq_none_bool (z0 I q (by simp))
  | int j=>obtain⟨t',rfl⟩:=ry;exact PySem.EqNone.eq_none_int (z0 I q (by simp))
  | str j=>obtain⟨t',rfl⟩:=ry;exact PySem.EqNone.eq_none_str (z0 I q (by simp))
  | _=>exact absurd (show false=true from hs) Uap
 | bl i=>
  cases rx
  cases y with
  | non=>cases ry;exact PySem.EqNone.eq_bool_none (z0 I q (by simp))
  | bl j=>cases ry;exact eq_bool (z0 I q zek)
  | str j=>obtain⟨t',rfl⟩:=ry;exact PySem.EqMixed.eq_bool_str (z0 I q (by simp))
  | _=>exact absurd (show false=true from hs) Uap
 | int i=>
  obtain⟨t,rfl⟩:=rx
  cases y with
  | non=>cases ry;exact PySem.EqNone.eq_int_none (z0 I q (by simp))
  | int j=>obtain⟨t',rfl⟩:=ry;exact eq_int (z0 I q zb8)
  | str j=>obtain⟨t',rfl⟩:=ry;exact PySem.EqMixed.eq_int_str (z0 I q (by simp))
  | _=>exact absurd (show false=true from hs) Uap
 | str i=>
  obtain⟨t,rfl⟩:=rx
  cases y with
  | non=>cases ry;exact PySem.EqNone.eq_str_none (z0 I q (by simp))
  | bl j=>cases ry;exact PySem.EqMixed.eq_str_bool (z0 I q (by simp))
  | int j=>obtain⟨t',rfl⟩:=ry;exact PySem.EqMixed.eq_str_int (z0 I q (by simp))
  | str j=>obtain⟨t',rfl⟩:=ry;exact eq_str (z0 I q za4)
  | _=>exact absurd (show false=true from hs) Uap
 | byt i=>
  obtain⟨t,rfl⟩:=rx
  cases y with
  | byt j=>obtain⟨t',rfl⟩:=ry;exact PySem.W.eq_bytes (z0 I q za6)
  | _=>exact absurd (show false=true from hs) Uap
 | _=>cases y <;> exact absurd (show false=true from hs) Uap
theorem V4:OpR X (compareOp .NotEq) rNe:=by
 intro pins s σ H x y v u Q I rx ry h
 obtain⟨hs,q⟩:=h
 cases x with
 | non=>
  cases rx
  cases y with
  | non=>cases ry;exact PySem.EqNone.ne_none_none (z0 I q (by simp))
  | bl j=>cases ry;exact PySem.EqNone.ne_none_bool (z0 I q (by simp))
  | int j=>obtain⟨t',rfl⟩:=ry;exact PySem.EqNone.ne_none_int (z0 I q (by simp))
  | str j=>obtain⟨t',rfl⟩:=ry;exact PySem.EqNone.ne_none_str (z0 I q (by simp))
  | _=>exact absurd (show false=true from hs) Uap
 | bl i=>
  cases rx
  cases y with
  | non=>cases ry;exact PySem.EqNone.ne_bool_none (z0 I q (by simp))
  | bl j=>cases ry;exact ne_bool (z0 I q (congrArg not zek))
  | str j=>obtain⟨t',rfl⟩:=ry;exact PySem.EqMixed.ne_bool_str (z0 I q (by simp))
  | _=>exact absurd (show false=true from hs) Uap
 | int i=>
  obtain⟨t,rfl⟩:=rx
  cases y with
  | non=>cases ry;exact PySem.EqNone.ne_int_none (z0 I q (by simp))
  | int j=>obtain⟨t',rfl⟩:=ry;exact ne_int (z0 I q (congrArg not zb8))
  | str j=>obtain⟨t',rfl⟩:=ry;exact PySem.EqMixed.ne_int_str (z0 I q (by simp))
  | _=>exact absurd (show false=true from hs) Uap
 | str i=>
  obtain⟨t,rfl⟩:=rx
  cases y with
  | non=>cases ry;exact PySem.EqNone.ne_str_none (z0 I q (by simp))
  | bl j=>cases ry;exact PySem.EqMixed.ne_str_bool (z0 I q (by simp))
  | int j=>obtain⟨t',rfl⟩:=ry;exact PySem.EqMixed.ne_str_int (z0 I q (by simp))
  | str j=>obtain⟨t',rfl⟩:=ry;exact ne_str (z0 I q (congrArg not za4))
  | _=>exact absurd (show false=true from hs) Uap
 | byt i=>
  obtain⟨t,rfl⟩:=rx
  cases y with
  | byt j=>obtain⟨t',rfl⟩:=ry;exact PySem.W.ne_bytes (z0 I q (congrArg not za6))
  | _=>exact absurd (show false=true from hs) Uap
 | _=>cases y <;> exact absurd (show false=true from hs) Uap
theorem zhq:OpR X (compareOp .Lt) (rI0 fun i j=>.bl (decide (i<j))):=zhj fun _ _ _ _ _ _ _ q=>lt_int q
theorem qW:OpR X (compareOp .LtE) (rI0 fun i j=>.bl (decide (i<=j))):=zhj fun _ _ _ _ _ _ _ q=>le_int q
theorem zf0:OpR X (compareOp .Gt) (rI0 fun i j=>.bl (decide (j<i))):=zhj fun _ _ _ _ _ _ _ q=>gt_int q
theorem Vh:OpR X (compareOp .GtE) (rI0 fun i j=>.bl (decide (j<=i))):=zhj fun _ _ _ _ _ _ _ q=>ge_int q
theorem zgZ:OpR X (compareOp .Is) (fun x y H Q=>y=.non/\Q (.bl (decide (x=.non))) H):=by
 intro pins s σ H x y v u Q I rx ry h
 obtain⟨rfl,q⟩:=h
 cases ry
 refine is_none_gen (z0 I q ?_)
 cases x <;> first
  | (cases rx;rfl)
  | (obtain⟨t,rfl⟩:=rx;rfl)
theorem zu (b:Expr) {op:CmpOp} (h:op≠.In:=by decide) (h2:op≠.NotIn:=by decide):behindInMarks op b=false:=by
 have e1:(op == CmpOp.In)=false:=by cases op <;> first | rfl | exact absurd rfl h
 have e2:(op == CmpOp.NotIn)=false:=by cases op <;> first | rfl | exact absurd rfl h2
 cases b <;> simp [behindInMarks,e1,e2]
theorem jL {op:CmpOp}{r:R2} (ho:OpR X (compareOp op) r) (ha:PE X a ta) (hb:PE X b tb) (hm:behindInMarks op b=false):PE X (.Compare a [op] [b] pos) (tOp r ta tb):=by
 intro pins s σ H Q I h
 exact wpAny_Compare1 (zhV ha hb I h fun v u s2 x y H2 I2 rx ry q=>ho pins s2 σ H2 x y v u Q I2 rx ry q) hm
def zg4 (t:TE):TT:=fun σ H Q=>t σ H fun x H'=>∃k,x=.bl k/\Q k H'
theorem zp {op:CmpOp}{r:R2} (ho:OpR X (compareOp op) r) (ha:PE X a ta) (hb:PE X b tb) (hm:behindInMarks op b=false):PT X (.Compare a [op] [b] pos) (zg4 (tOp r ta tb)):=by
 intro pins s σ H Q I h
 refine wpAny_isTrue_Compare1 (thn (ha pins s σ H _ I h) fun v s1 ⟨x,H1,I1,r1,q1⟩=>thn (hb pins s1 σ H1 _ I1 q1) fun u s2 ⟨y,H2,I2,r2,q2⟩=>
  thn (ho pins s2 σ H2 x y v u _ I2 r1 r2 q2) fun c s3 ⟨z,H3,I3,r3,k,e,q3⟩=>?_) hm
 subst e
 cases r3
 exact wpAny_truthy_bool ⟨H3,I3,q3⟩
def zeu (r r':R2) (ta tb tc:TE):TE:=fun σ H Q=>ta σ H fun x H1=>tb σ H1 fun y H2=>r x y H2 fun z H3=>∃k,z=.bl k ∧
 (if k=true then tc σ H3 fun w' H4=>r' y w' H4 Q else Q (.bl false) H3)
theorem kN {op op':CmpOp}{r r':R2} (ho:OpR X (compareOp op) r) (ho':OpR X (compareOp op') r') (ha:PE X a ta) (hb:PE X b tb) (hc:PE X c tc)
  (hm:lastMarks [op,op'] [b,c]=false:=by with_unfolding_all rfl):PE X (.Compare a [op,op'] [b,c] pos) (zeu r r' ta tb tc):=by
 intro pins s σ H Q I h
 refine Compare_chain (thn (ha pins s σ H _ I h) fun v s1 ⟨x,H1,I1,r1,q1⟩=>chain_link (thn (hb pins s1 σ H1 _ I1 q1) fun u s2 ⟨y,H2,I2,r2,q2⟩=>
  thn (ho pins s2 σ H2 x y v u _ I2 r1 r2 q2) fun d s3 ⟨z,H3,I3,r3,k,e,q3⟩=>?_)) hm
 subst e
 cases r3
 refine wpAny_truthy_bool ?_
 cases k with
 | false=>exact ite_ff ⟨.bl false,H3,I3,rfl,q3⟩
 | true=>exact ite_tt (chain_last (thn (hc pins s3 σ H3 _ I3 q3) fun w' s4 ⟨z',H4,I4,r4,q4⟩=>ho' pins s4 σ H4 y z' u w' Q I4 r2 r4 q4))
theorem zbE:(sizeLine:Nat)<2 ^ 63:=by rw[sizeLine_eq];decide
theorem wo {x:V}{us:List Value} (r:ym [x] us):∃u,us=[u]/\yx x u:=by
 cases r with
 | cons r1 r2=>cases r2;exact⟨_,rfl,r1⟩
theorem Z7:kY X (.builtin "ord") (fun xs H Q=>∃x,xs=[.str x]/\x.length=1/\Q (.int (x.cps.getD 0 0:Nat)) H):=by
 intro pins s σ H xs us Q I r h
 obtain⟨x,rfl,hz,q⟩:=h
 obtain⟨u,rfl,t,rfl⟩:=wo r
 exact ord_of_one hz ⟨.int _,H,I.tok _,⟨_,rfl⟩,q⟩
end
end L2
namespace L2
open PySem PySem.Spec PyProof.Rows
structure zeL (h:Heap) (x dx C:Addr) (mA:Str->Option Value):Prop where
 obj:h.get? x=some (PySem.W.instObj C dx)
 ns:h.Ns1 dx mA
 ne:dx≠x
theorem zaZ {h:Heap}{dx:Addr}{mA:Str->Option Value} (n:h.Ns1 dx mA):∃od,h.get? dx=some od/\∀name,PySem.W.lookIn name od=some (mA name):=by
 obtain⟨o,es,ep,ho,hd,hk,_,hm⟩:=n
 refine⟨o,ho,fun name=>?_⟩
 have e:=hm name
 unfold nsFind findBy at e
 rw[←Array.find?_toList] at e
 unfold PySem.W.lookIn
 rw[hd]
 dsimp only
 split
 ·rename_i y q
  rw[q] at e
  exact congrArg some e
 ·rename_i q
  rw[q] at e
  have a:es.toList.any (·.refKey)=false:=by
   rw[List.any_eq_false]
   intro y hy
   obtain⟨z,t,hkey⟩:=hk y (Array.mem_toList_iff.mp hy)
   simp [DictEntry.refKey,hkey]
  have a':¬es.toList.any (·.refKey)=true:=by rw[a];exact Uap
  rw[if_neg a']
  exact congrArg some e
theorem zeL.look {h:Heap}{x dx C:Addr}{mA:Str->Option Value} (I:zeL h x dx C mA):∃od,PySem.W.InstAt h x (PySem.W.instObj C dx) C (some od)/\∀name,PySem.W.lookIn name od=some (mA name):=
 let ⟨od,ho,hl⟩:=zaZ I.ns
 ⟨od,⟨I.obj,rfl,rfl,ho⟩,hl⟩
section
variable {prog:Program}{w:World}{A:Around}{E:Value->Shared->Prop}{s:Shared}{K:PySem.W.Frag}{x dx C f:Addr}{mA:Str->Option Value}{name:Str}{v:Value}
theorem zfz {expr:Bool}{Q:Value->Shared->Prop} (X:K.In s.heap) (I:zeL s.heap x dx C mA) (hg:PySem.W.plainGet K C name=true) (hh:PySem.W.hasDictIn K C=true)
  (ha:PySem.W.findIn K (.ref C) name=some none) (hv:mA name=some v) (hv':PySem.W.handedIn v=true) (h:Q v { s with toks:=s.toks+1 }) :
  wpAny (model prog w) A (getAttr (.ref x) name expr) Q E s:=by
 obtain⟨od,J,hl⟩:=I.look
 exact PySem.W.get_value X J (PySem.W.plainGet_of hg).1 (PySem.W.findObj_own hh ha rfl (by rw[hl,hv])) hv' h
theorem zdA {pl:Sem Bool}{Q:Value×List Value->Shared->Prop} (X:K.In s.heap) (I:zeL s.heap x dx C mA) (hg:PySem.W.plainGet K C name=true)
  (hf:PySem.W.findIn K (.ref C) name=some (some (.ref f))) (ht:PySem.W.isFn K (.ref f)=true) (hv:mA name=none) (h:Q (.ref f,[.ref x]) s) :
  wpAny (model prog w) A (getMethod (.ref x) name pl) Q E s:=by
 obtain⟨od,J,hl⟩:=I.look
 exact PySem.W.method_fn X J (PySem.W.plainGet_of hg).1 (PySem.W.plainGet_of hg).2 hf (beq_iff_eq.mp ht) (by show (PySem.W.lookIn name od).map (·.isSome)=some false;rw[hl,hv];rfl) h
theorem zfx {ns:List Str}{Q:Unit->Shared->Prop} (X:K.In s.heap) (I:zeL s.heap x dx C mA)
  (hs:PySem.W.findIn K (.ref C) "__setattr__" = some (some (.builtin "object.__setattr__"))) (hp:PySem.W.plainOver K C=true) (ht:PySem.W.takerIn K C name=some none) (hh:PySem.W.hasDictIn K C=true)
  (hw:PySem.Within mA ns) (hsz:ns.length<=sizeLine)
  (h:∀h',zeL h' x dx C (fun y=>if y=name then some v else mA y)->Heap.SameBut dx s.heap h'->Q () { s with heap:=h',toks:=s.toks+2 }) :
  wpAny (model prog w) A (setAttr (.ref x) name v) Q E s:=by
 obtain⟨od,J,hl⟩:=I.look
 refine PySem.W.set_plain X J hs (PySem.W.osa_open (s:={ s with toks:=s.toks+1 }) (r:=none) X J hp ht fun b=>?_)
 obtain⟨cd,hc,hd'⟩:=PySem.W.any_some hh
 have hx:s.heap.get? x=some ⟨.ref C,some dx,.plain,#[]⟩:=I.obj
 refine wpAny_bind (wpAny_pure (wpAny_bind (wpAny_bind (wpAny_loadPart hx (wpAny_bind (PySem.W.Looks.here (s:={ s with toks:=s.toks+1 }) (PySem.W.looks_clsIn X hc) ?_))))))
 rw[hd']
 refine wpAny_pure (a:=some dx) (wpAny_bind (wpAny_pure (wpAny_bind ?_)))
 refine wpAny_nsSet1 (s:={ s with toks:=s.toks+1 }) I.ns fun h' hn2 hs2=>?_
 obtain⟨oD,esD,epD,hoD,hdD,hcD⟩:=hn2.count (PySem.Within.cons name v hw)
 refine wpAny_bind (wpAny_lookBehind hoD (by rw[hdD];exact pastItsLine_dict (Ubb hcD (by rw[Uae];omega))) ?_)
 exact wpAny_pure (h _ ⟨(hs2.2 _ (Ne.symm I.ne)).trans I.obj,hn2,I.ne⟩ hs2)
theorem zdw {R:Result->Shared->Prop}{vs:List Value}{kw:List (Str×Value)} (X:K.In s.heap) (hm:PySem.W.makesIn K C=true)
  (hi:PySem.W.findIn K (.ref C) "__init__" = some (some (.ref f))) (hf:PySem.W.typeIn K (.ref f)=some (.type "function"))
  (h:codeAny (model prog w) (A.under (.builtin "type.__call__" ⟨.ref C::vs,kw⟩)) (.call (.ref f) ⟨.ref (s.heap.objs.size+1)::vs,kw⟩) (PySem.W.InitBack (s.heap.objs.size+1) R)
   { s with heap:=(s.heap.push PySem.W.emptyDict).push (PySem.W.instObj C s.heap.objs.size) }) :
  codeAny (model prog w) A (.call (.ref C) ⟨vs,kw⟩) R s:=by
 obtain⟨hh,g,d,t,os⟩:=s
 exact PySem.W.make_core (PySem.W.makes_of X hm) (PySem.W.looks_findIn X hi) (fun self=>PySem.W.bind_fn X self hf) (.inl rfl) h
end
def xN (f:Str) (v:V):List (Str×V)->List (Str×V)
 | []=>[(f,v)]
 | (g,x)::r=>if g=f then (g,v)::r else (g,x)::xN f v r
theorem Yb (f g:Str) (v:V):∀fs:List (Str×V),(xN f v fs).lookup g=if g=f then some v else fs.lookup g
 | []=>by
  show List.lookup g [(f,v)]=_
  by_cases h:g=f
  ·have hb:(g == f)=true:=beq_iff_eq.mpr h
   simp only[List.lookup,hb,if_pos h]
  ·have hb:(g == f)=false:=Ubi.mpr h
   simp only[List.lookup,hb,if_neg h]
 | (k,x)::r=>by
  have ih:=Yb f g v r
  rw[show xN f v ((k,x)::r)=(if k=f then (k,v)::r else (k,x)::xN f v r) from rfl]
  by_cases hk:k=f
  ·rw[if_pos hk]
   by_cases h:g=k
   ·have hb:(g == k)=true:=beq_iff_eq.mpr h
    simp only[List.lookup,hb,if_pos (h.trans hk)]
   ·have hb:(g == k)=false:=Ubi.mpr h
    simp only[List.lookup,hb,if_neg (fun e:g=f=>h (e.trans hk.symm))]
  ·rw[if_neg hk]
   by_cases h:g=k
   ·have hb:(g == k)=true:=beq_iff_eq.mpr h
    simp only[List.lookup,hb,if_neg (fun e:g=f=>hk (h.symm.trans e))]
   ·have hb:(g == k)=false:=Ubi.mpr h
    simp only[List.lookup,hb]
    exact ih
theorem YJ (f:Str) (v:V):∀fs:List (Str×V),f∈(xN f v fs).map (·.1)/\∀g,g∈fs.map (·.1)->g∈(xN f v fs).map (·.1)
 | []=>⟨by simp [xN],fun g h=>by simp at h⟩
 | (k,x)::r=>by
  obtain⟨i1,i2⟩:=YJ f v r
  rw[show xN f v ((k,x)::r)=(if k=f then (k,v)::r else (k,x)::xN f v r) from rfl]
  by_cases hk:k=f
  ·rw[if_pos hk]
   subst hk
   exact⟨by simp,fun g h=>by simpa using h⟩
  ·rw[if_neg hk]
   refine⟨?_,fun g h=>?_⟩
   ·rw[Uas]
    exact Uad _ i1
   ·rw[Uas] at h ⊢
    rcases Uaf.mp h with e | e
    ·exact Uaf.mpr (.inl e)
    ·exact Uad _ (i2 g e)
theorem Yu (f:Str) (v:V):∀fs:List (Str×V),(xN f v fs).length<=fs.length+1
 | []=>by simp [xN]
 | (k,x)::r=>by
  have ih:=Yu f v r
  rw[show xN f v ((k,x)::r)=(if k=f then (k,v)::r else (k,x)::xN f v r) from rfl]
  by_cases hk:k=f
  ·rw[if_pos hk,Uae,Uae];omega
  ·rw[if_neg hk,Uae,Uae];omega
theorem XO.some_of {v:V}{o:Option Value} (r:XO (some v) o):∃u,o=some u/\yx v u:=by
 cases o with
 | none=>exact(show False from r).elim
 | some u=>exact⟨u,rfl,r⟩
theorem XO.none_of {o:Option Value} (r:XO none o):o=none:=by
 cases o with
 | none=>rfl
 | some u=>exact(show False from r).elim
theorem zbM {v:V}{u:Value} (r:yx v u):PySem.W.handedIn u=true:=by
 cases v with
 | non=>cases (show u=Value.none from r);rfl
 | bl b=>cases (show u=Value.bool b from r);rfl
 | int i=>obtain⟨t,e⟩:=(show ∃t,u=Value.int i t from r);cases e;rfl
 | str x=>obtain⟨t,e⟩:=(show ∃t,u=Value.str x t from r);cases e;rfl
 | byt b=>obtain⟨t,e⟩:=(show ∃t,u=Value.bytes b t from r);cases e;rfl
 | flt b=>obtain⟨t,e⟩:=(show ∃t,u=Value.float b t from r);cases e;rfl
 | ref a=>cases (show u=Value.ref a from r);rfl
 | ty n=>cases (show u=Value.type n from r);rfl
section
variable {P:Program}{w:World}{H H':Hp}{h h':Heap}{a C dx:Addr}{fs fs':List (Str×V)}
theorem JR (hok:HOk P w H h) (e:H a=some (.ins C dx fs)):∃mA,zeL h a dx C mA/\(∀f,XO (fs.lookup f) (mA f))/\PySem.Within mA (fs.map (·.1))/\fs.length<=1000/\H dx=some (.own a):=by
 obtain⟨d,z,ne,ob,mA,n,r,q⟩:=(show xU P w H h a (.ins C dx fs) from hok a _ e)
 exact⟨mA,⟨ob,n,ne⟩,r,q,z,d⟩
end
structure Cls (K:PySem.W.Frag) (C:Addr):Prop where
 pg:PySem.W.plainGet K C Str.empty=true
 hd:PySem.W.hasDictIn K C=true
 po:PySem.W.plainOver K C=true
 sa:PySem.W.findIn K (.ref C) "__setattr__" = some (some (.builtin "object.__setattr__"))
theorem Cls.get {K:PySem.W.Frag}{C:Addr} (c:Cls K C) (f:Str):PySem.W.plainGet K C f=true:=c.pg
def kr (K:PySem.W.Frag) (C:Addr) (f:Str):Prop:=PySem.W.findIn K (.ref C) f=some none
theorem kr.taker {K:PySem.W.Frag}{C:Addr}{f:Str} (n:kr K C f):PySem.W.takerIn K C f=some none:=by
 unfold PySem.W.takerIn
 rw[show PySem.W.findIn K (.ref C) f=some none from n]
 rfl
structure zfl (K:PySem.W.Frag) (C:Addr) (m:Str) (f:Addr):Prop where
 at_:PySem.W.findIn K (.ref C) m=some (some (.ref f))
 fn:PySem.W.isFn K (.ref f)=true
 kp:PySem.W.keepIn K (.ref f)=true
section
variable {X:Cx}{pins:List (Addr×Obj)}{σ:St}{H:Hp}{s:Shared}{a C dx:Addr}{fs:List (Str×V)}{f:Str}{v:V}{A:Around}{E:Value->Shared->Prop}
theorem zaw {b:Bool}{Q:Value->Shared->Prop} (I:Inv X pins σ H s) (e:H a=some (.ins C dx fs)) (c:Cls X.K C) (n:kr X.K C f) (l:fs.lookup f=some v)
  (h:∀u s',Inv X pins σ H s'->yx v u->Q u s'):wpAny (model X.prog X.w) A (getAttr (.ref a) f b) Q E s:=by
 obtain⟨mA,O,r,_,_,_⟩:=JR I.hok e
 obtain⟨u,hu,ru⟩:=XO.some_of (v:=v) (o:=mA f) (by rw[←l];exact r f)
 exact zfz I.kIn O (c.get f) c.hd n hu (zbM ru) (h u _ (I.tok _) ru)
theorem Jk {m:Str}{g:Addr}{pl:Sem Bool}{Q:Value×List Value->Shared->Prop} (I:Inv X pins σ H s) (e:H a=some (.ins C dx fs)) (c:Cls X.K C) (k:zfl X.K C m g) (l:fs.lookup m=none)
  (h:Q (.ref g,[.ref a]) s):wpAny (model X.prog X.w) A (getMethod (.ref a) m pl) Q E s:=by
 obtain⟨mA,O,r,_,_,_⟩:=JR I.hok e
 have hn:mA m=none:=XO.none_of (by rw[←l];exact r m)
 exact zdA I.kIn O (c.get m) k.at_ k.fn hn h
theorem zaf {y:V}{u:Value}{Q:Unit->Shared->Prop} (I:Inv X pins σ H s) (e:H a=some (.ins C dx fs)) (c:Cls X.K C) (n:kr X.K C f) (hl:fs.length<1000) (ry:yx y u)
  (h:∀s',Inv X pins σ (upd H a (.ins C dx (xN f y fs))) s'->Q () s'):wpAny (model X.prog X.w) A (setAttr (.ref a) f u) Q E s:=by
 obtain⟨mA,O,r,wi,_,ho⟩:=JR I.hok e
 have hz:(fs.map (·.1)).length<=sizeLine:=by rw[Uaa,sizeLine_eq];omega
 refine zfx I.kIn O c.sa c.po n.taker c.hd wi hz fun h' O' sb=>h _ ?_
 have hd:∃o,h'.get? dx=some o:=let ⟨o,_,_,e',_⟩:=O'.ns;⟨o,e'⟩
 refine I.write (x:=a) (e:=dx) (by rw[e];exact True.intro) (.inr ho) (fun b q hb z=>(sb.2 b hb).trans z) hd ?_
 refine⟨by rw[zh O.ne];exact ho,?_,O.ne,O'.obj,_,O'.ns,fun g=>?_,fun g hg=>?_⟩
 ·have:=Yu f y fs;omega
 ·show XO ((xN f y fs).lookup g) (if g=f then some u else mA g)
  rw[Yb]
  by_cases q:g=f
  ·rw[if_pos q,if_pos q];exact ry
  ·rw[if_neg q,if_neg q];exact r g
 ·by_cases q:g=f
  ·rw[q];exact(YJ f y fs).1
  ·refine(YJ f y fs).2 g (wi g fun z=>hg ?_)
   show (if g=f then some u else mA g)=none
   rw[if_neg q];exact z
theorem Inv.made (I:Inv X pins σ H s):Inv X pins σ (upd (upd H s.heap.objs.size (.own (s.heap.objs.size+1))) (s.heap.objs.size+1) (.ins C s.heap.objs.size []))
  { s with heap:=(s.heap.push PySem.W.emptyDict).push (PySem.W.instObj C s.heap.objs.size) }:=by
 have e1:(s.heap.push PySem.W.emptyDict).get? s.heap.objs.size=some PySem.W.emptyDict:=Heap.get?_push_size s.heap rfl
 have e2:((s.heap.push PySem.W.emptyDict).push (PySem.W.instObj C s.heap.objs.size)).get? (s.heap.objs.size+1)=some (PySem.W.instObj C s.heap.objs.size):=by
  have:=Heap.get?_push_size (s.heap.push PySem.W.emptyDict) (o:=PySem.W.instObj C s.heap.objs.size) rfl
  rwa [Heap.size_push] at this
 have e3:(s.heap.push PySem.W.emptyDict).Ns s.heap.objs.size (fun _=>none):=⟨PySem.W.emptyDict,#[],_,e1,rfl,(fun e he=>absurd he (by simp)),fun _=>rfl⟩
 have I1:=I.laid (a:=s.heap.objs.size) (o:=.own (s.heap.objs.size+1)) (h':=s.heap.push PySem.W.emptyDict) (t':=s.toks) (fun b u q=>Heap.get?_push_of_some _ q) (Uag _) ⟨_,e1⟩
 refine I1.laid (a:=s.heap.objs.size+1) (o:=.ins C s.heap.objs.size []) (t':=s.toks) (fun b u q=>Heap.get?_push_of_some _ q) (Nat.le_of_eq (Heap.size_push _ _)) ?_
 have ne:s.heap.objs.size≠s.heap.objs.size+1:=Uba (Ucg _)
 refine⟨by rw[zh ne,zc],Uax _,ne,e2,fun _=>none,(Heap.Ns1.of_empty e3).at fun o q=>Heap.get?_push_of_some _ q,fun _=>True.intro,fun y hy=>absurd rfl hy⟩
theorem zct {prog:Program}{w:World}{env:Env}{e:Expr}{f:Str}{pos:Pos}{s:Shared}{Q:Value->Shared->Prop} (hb:attributeBase e f env (eval e env)=eval e env)
  (h:wpAny (model prog w) A (eval e env) (fun o s₁=>wpAny (model prog w) A (getAttr o f true) Q E s₁) E s):wpAny (model prog w) A (eval (.Attribute e f pos) env) Q E s:=
 Attribute_any_ h (by rw[arm_eval_Attribute,hb])
end
def zhl (K:PySem.W.Frag) (ta:TE) (f:Str):TE:=fun σ H Q=>ta σ H fun x H1=>∃a C dx fs v,x=.ref a/\H1 a=some (.ins C dx fs)/\Cls K C/\kr K C f/\fs.lookup f=some v/\Q v H1
def zhX (K:PySem.W.Frag) (ta tv:TE) (f:Str):TS:=fun D σ H=>tv σ H fun y H1=>ta σ H1 fun x H2=>∃a C dx fs,x=.ref a/\H2 a=some (.ins C dx fs)/\Cls K C/\kr K C f/\fs.length<1000 ∧
 D.nx σ (upd H2 a (.ins C dx (xN f y fs)))
section
variable {X:Cx}{o e value:Expr}{f:Str}{pos pos' tpos:Pos}{ta tv:TE}
theorem zgk (he:PE X e ta) (hb:attributeBase e f X.env (eval e X.env)=eval e X.env):PE X (.Attribute e f pos) (zhl X.K ta f):=by
 intro pins s σ H Q I h
 refine zct hb (thn (he pins s σ H _ I h) fun u s1 ⟨x,H1,I1,rx,a,C,dx,fs,v,ex,ea,c,n,l,q⟩=>?_)
 subst ex
 obtain rfl:u=Value.ref a:=rx
 exact zaw I1 ea c n l fun u' s2 I2 ru=>⟨v,H1,I2,ru,q⟩
theorem zgK (ha:PE X o ta) (hv:PE X value tv) (hs:swapsWith value (some (.Attribute o f pos')) pos.line X.env=pure false):PS X (.Assign [.Attribute o f pos'] value pos) (zhX X.K ta tv f):=by
 intro pins s σ H D I h
 refine plainObj_wpAny_Assign_Attribute (thn (hv pins s σ H _ I h) fun u s1 ⟨y,H1,I1,ry,q⟩=>thn (ha pins s1 σ H1 _ I1 q) fun ov s2 ⟨x,H2,I2,rx,a,C,dx,fs,ex,ea,c,n,l,q2⟩=>?_) hs
 subst ex
 obtain rfl:ov=Value.ref a:=rx
 exact zaf I2 ea c n l ry fun s3 I3=>⟨σ,_,I3,q2⟩
end
section
variable {X:Cx}{pins:List (Addr×Obj)}{σ:St}{H:Hp}{s:Shared}{A:Around}{E:Value->Shared->Prop}{Q:Value->Shared->Prop}{c:Value}{b:Bool}
end
end L2
namespace L2
open PySem PySem.Spec PyProof.Rows
structure Room (k:Nat) (A:Around):Prop where
 hd:A.handled=none
 dp:A.depth+3*k+5<recursionLimit
 un:A.units+16*k+200<cLine
theorem Room.mono {j k:Nat}{A:Around} (r:Room k A) (h:j<=k):Room j A:=⟨r.hd,by have:=r.dp;omega,by have:=r.un;omega⟩
theorem Room.deeper {k:Nat}{A:Around} (r:Room (k+1) A) (env:Env):Room k (A.deeper env):=
 ⟨r.hd,by have:=r.dp;show A.depth+1+3*k+5<_;omega,by have:=r.un;show A.units+3+16*k+200<_;omega⟩
theorem Room.in1 {k:Nat}{A:Around} (r:Room (k+1) A):Room k A.in1:=
 ⟨r.hd,by have:=r.dp;show A.depth+3*k+5<_;omega,by have:=r.un;show A.units+1+16*k+200<_;omega⟩
theorem zau {A:Around}{C:Addr}{us:List Value}{kw:List (Str×Value)}:(A.under (.builtin "type.__call__" ⟨.ref C::us,kw⟩)).depth=A.depth+1:=by
 first | rfl | simp [Around.under,Code.weight,Code.isCreation,Code.isGuard,Code.isCaller,Code.frames,Code.isFrame,guardIds]
theorem zan {A:Around}{C:Addr}{us:List Value}{kw:List (Str×Value)}:(A.under (.builtin "type.__call__" ⟨.ref C::us,kw⟩)).units=A.units+1:=by
 first | rfl | simp [Around.under,Code.cUnits,Code.frames,Code.isFrame]
theorem Room.make {k:Nat}{A:Around} (r:Room (k+1) A) (C:Addr) (us:List Value) (kw:List (Str×Value)):Room k (A.under (.builtin "type.__call__" ⟨.ref C::us,kw⟩)):=
 ⟨r.hd,by have:=r.dp;rw[zau];omega,by have:=r.un;rw[zan];omega⟩
theorem Room.depth {k:Nat}{A:Around} (r:Room k A):A.depth<recursionLimit:=by have:=r.dp;omega
theorem Room.units {k:Nat}{A:Around} (r:Room k A):A.units+64<cLine:=by have:=r.un;omega
theorem Room.units0 {k:Nat}{A:Around} (r:Room k A):A.units<cLine:=by have:=r.un;omega
def zfI:TA:=fun _ H Q=>Q [] H
def zc3 (ta:TE) (tr:TA):TA:=fun σ H Q=>ta σ H fun x H1=>tr σ H1 fun xs H2=>Q (x::xs) H2
section
variable {X:Cx}{e:Expr}{es:List Expr}{te:TE}{t:TA}{pos:Pos}
theorem zf:PA X [] zfI:=fun _ _ _ _ H Q I h=>Calls.spliced_nil ⟨[],H,I,.nil,h⟩
theorem za (ha:PE X e te) (hr:PA X es t) (hs:starEach (e::es) X.env=(false,eval e X.env)::starEach es X.env:=by rfl):PA X (e::es) (zc3 te t):=by
 intro pos pins s σ H Q I h
 rw[hs]
 show wpAny _ _ (spliced ((false,eval e X.env)::backTo pos (starEach es X.env))) _ _ s
 refine Calls.spliced_cons (thn (ha pins s σ H _ I h) fun u s1 ⟨x,H1,I1,r1,q1⟩=>?_)
 exact thn (hr pos pins s1 σ H1 _ I1 q1) fun us s2 ⟨xs,H2,I2,r2,q2⟩=>⟨x::xs,H2,I2,.cons r1 r2,q2⟩
def ziJ (t:TA):TE:=fun σ H Q=>t σ H fun xs H1=>xs.length<=sizeLine/\∀p,H1 p=none->Q (.ref p) (upd H1 p (.tup xs))
def zit (t:TA):TE:=fun σ H Q=>t σ H fun xs H1=>xs.length<=sizeLine/\∀p,H1 p=none->Q (.ref p) (upd H1 p (.lst xs))
theorem Wx {x1} (h:PA X es t):PE X (.Tuple es x1 pos) (ziJ t):=by
 intro pins s σ H Q I hq
 refine wpAny_Tuple_spliced (thn (h pos pins s σ H _ I hq) fun us s1 ⟨xs,H1,I1,r,z,q⟩=>⟨by rw[←r.length];exact z,?_⟩)
 have hf:H1 s1.heap.objs.size=none:=I1.hok.fresh (Uag _)
 refine⟨.ref s1.heap.objs.size,upd H1 s1.heap.objs.size (.tup xs),I1.laid (t':=s1.toks) (fun b u e=>Heap.get?_push_of_some _ e) (Uag _) ?_,rfl,q _ hf⟩
 exact⟨z,us,r,⟨_,Heap.get?_push_size _ rfl,rfl,_,rfl⟩⟩
theorem zD (h:PA X es t):PE X (.List es pos) (zit t):=by
 intro pins s σ H Q I hq
 refine wpAny_List_spliced (thn (h pos pins s σ H _ I hq) fun us s1 ⟨xs,H1,I1,r,z,q⟩=>⟨by rw[←r.length];exact z,?_⟩)
 have hf:H1 s1.heap.objs.size=none:=I1.hok.fresh (Uag _)
 refine⟨.ref s1.heap.objs.size,upd H1 s1.heap.objs.size (.lst xs),I1.laid (t':=s1.toks) (fun b u e=>Heap.get?_push_of_some _ e) (Uag _) ?_,rfl,q _ hf⟩
 exact⟨z,us,0,r,Heap.get?_push_size _ rfl⟩
end
abbrev Sp:=List V->Hp->VK->XK->Prop
abbrev CXT:=List Env->Hp->Shared->XK->Value->Shared->Prop
structure zbe (P:Program) (w:World) (K:PySem.W.Frag) (mg:Str->Option Value) (base:Heap) (A:Around) (outer:List Env) (s:Shared) (H:Hp):Prop where
 frames:A.frames=some outer
 mod:Mod K mg base
 bs:∀b o,base.get? b=some o->s.heap.get? b=some o/\H b=none
 bsz:base.objs.size<=s.heap.objs.size
 funs:s.heap.FunFrames base outer
 frf:∀b∈frs outer,H b=none
 hok:HOk P w H s.heap
 bare:AllBare s.gens
def CE (outer:List Env) (P:Program) (w:World) (H:Hp) (s:Shared) (Q:VK) (u:Value) (s':Shared):Prop:=
 ∃v H',s'.os=s.os/\AllBare s'.gens/\Un (frs outer) [] H H' s.heap s'.heap/\HOk P w H' s'.heap/\yx v u/\Q v H'
def CR (CX:CXT) (outer:List Env) (P:Program) (w:World) (H:Hp) (s:Shared) (Q:VK) (E:XK) (r:Result) (s':Shared):Prop:=
 match r with
 | .ok (.ret u)=>CE outer P w H s Q u s'
 | .ok _=>False
 | .error e=>CX outer H s E e s'
structure Z1 (P:Program) (w:World) (K:PySem.W.Frag) (mg:Str->Option Value) (base:Heap) (CX:CXT) (k:Nat) (f:Addr) (fd:FuncData) (ps:List Str) (sp:Sp):Prop where
 len:∀vs H Q E,sp vs H Q E->vs.length=ps.length
 run:∀(A:Around) (outer:List Env) (s:Shared) (H:Hp) (args:Args) (us:List Value) (vs:List V) (Q:VK) (E:XK),Room k A->zbe P w K mg base A outer s H->BindsTo s fd args (ps.zip us)->ym vs us->sp vs H Q E →
  codeAny (model P w) A (.call (.ref f) args) (CR CX outer P w H s Q E) s
theorem zbe.make {P:Program}{w:World}{K:PySem.W.Frag}{mg:Str->Option Value}{base:Heap}{A:Around}{outer:List Env}{s:Shared}{H:Hp} (e:zbe P w K mg base A outer s H) (C:Addr) (us:List Value) (kw:List (Str×Value)) :
  zbe P w K mg base (A.under (.builtin "type.__call__" ⟨.ref C::us,kw⟩)) outer s H:=⟨by first | exact e.frames | (simpa [Around.under,Code.envs,Code.isFrame,pushEnvs] using e.frames),e.mod,e.bs,e.bsz,e.funs,e.frf,e.hok,e.bare⟩
theorem zbe.in1 {P:Program}{w:World}{K:PySem.W.Frag}{mg:Str->Option Value}{base:Heap}{A:Around}{outer:List Env}{s:Shared}{H:Hp} (e:zbe P w K mg base A outer s H) :
  zbe P w K mg base A.in1 outer s H:=⟨e.frames,e.mod,e.bs,e.bsz,e.funs,e.frf,e.hok,e.bare⟩
section
variable {X:Cx}{pins:List (Addr×Obj)}{σ:St}{H:Hp}{s s':Shared}
theorem Inv.env0 (I:Inv X pins σ H s):zbe X.prog X.w X.K X.mg X.base X.A X.stack s H:=
 ⟨I.ok.frames,I.ok.mod,I.bs,Ubb I.ok.bsz I.sz,I.stack,I.stkFree,I.hok,I.bare⟩
theorem Inv.after {Q:VK}{u:Value} (I:Inv X pins σ H s) (h:CE X.stack X.prog X.w H s Q u s'):EP X pins σ Q u s':=by
 obtain⟨v,H',os,bare,un,hok,r,q⟩:=h
 obtain⟨hh,g,d,t,os'⟩:=s'
 obtain rfl:os'=s.os:=os
 exact⟨v,H',I.call (h':=hh) (g':=g) (d':=d) (t':=t) (ch:=[]) un hok bare (fun b z=>absurd z (by simp)),r,q⟩
end
def zdD (sp:Sp) (dvs:List V) (E:XK) (t:TA):TE:=fun σ H Q=>t σ H fun vs H1=>sp (vs++dvs) H1 Q E
def zbq (C:Addr) (sp:Sp) (dvs:List V) (E:XK) (t:TA):TE:=fun σ H Q=>t σ H fun vs H1=>∀x dx,H1 x=none->H1 dx=none->dx≠x →
 sp (.ref x::(vs++dvs)) (upd (upd H1 dx (.own x)) x (.ins C dx [])) (fun v H2=>v=.non/\Q (.ref x) H2) E
def qg (K:PySem.W.Frag) (fd:FuncData) (ps:List Str) (ds:List Value):Prop:=
 ∀(s:Shared) (us:List Value),K.In s.heap->(us++ds).length=ps.length->BindsTo s fd ⟨us,[]⟩ (ps.zip (us++ds))
theorem qg.all {K:PySem.W.Frag}{fd:FuncData}{ps:List Str} (h:∀us:List Value,us.length=ps.length->bindArgs fd ⟨us,[]⟩=pure (ps.zip us)):qg K fd ps []:=fun s us _ hl=>by
 rw[Ubo] at hl ⊢
 exact .of_eq (h us hl)
def Jy (CX:CXT) (X:Cx) (E:XK):Prop:=∀(pins:List (Addr×Obj)) (σ:St) (H:Hp) (s:Shared) (e:Value) (s':Shared),Inv X pins σ H s->CX X.stack H s E e s'->X.xe e s'
section
variable {X:Cx}{CX:CXT}{k:Nat}{f C:Addr}{fd:FuncData}{ps:List Str}{sp:Sp}{dvs:List V}{ds:List Value}{E:XK}{x m:Str}{p pos apos:Pos}{e o:Expr}{es:List Expr}{ta:TE}{t:TA}
theorem WC {pins:List (Addr×Obj)}{σ:St}{H:Hp}{s:Shared}{Q:VK}{us:List Value}{vs:List V} (F:Z1 X.prog X.w X.K X.mg X.base CX k f fd ps sp) (hr:Room k X.A) (hb:qg X.K fd ps ds) (hd:ym dvs ds) (hx:Jy CX X E)
  (I:Inv X pins σ H s) (r:ym vs us) (h:sp (vs++dvs) H Q E):wpAny (model X.prog X.w) X.A (call (.ref f) us) (EP X pins σ Q) X.xe s:=by
 have r2:ym (vs++dvs) (us++ds):=r.append hd
 have hl:(us++ds).length=ps.length:=by rw[←r2.length];exact F.len _ _ _ _ h
 refine wpAny_call (codeAny_mono (F.run X.A X.stack s H ⟨us,[]⟩ (us++ds) (vs++dvs) Q E hr I.env0 (hb s us I.kIn hl) r2 h) fun r s' hq=>?_)
 cases r with
 | error e=>exact hx pins σ H s e s' I hq
 | ok fl=>
  cases fl with
  | ret u=>exact I.after hq
  | next=>exact False.elim hq
  | brk=>exact False.elim hq
  | cont=>exact False.elim hq
theorem zfm (F:Z1 X.prog X.w X.K X.mg X.base CX k f fd ps sp) (hr:Room k X.A) (hg:Gl X x) (hm:X.mg x=some (.ref f)) (hk:PySem.W.keepIn X.K (.ref f)=true) (hb:qg X.K fd ps ds) (hd:ym dvs ds) (hx:Jy CX X E)
  (ha:PA X (e::es) t) (hdb:(x == ("__debug__" : Str))=false:=by decide) (he:starEach (e::es) X.env=(false,eval e X.env)::starEach es X.env:=by rfl) (hpl:(backTo pos (starEach es X.env)).any (·.1)=false:=by rfl) :
  PE X (.Call (.Name x p) (e::es) [] pos) (zdD sp dvs E t):=by
 intro pins s σ H Q I h
 refine wpAny_Call_Name_kw (vo I hg hm ?_ hdb)
 refine PySem.W.callWith_K (h₀:=X.base) I.ok.mod.kin hk (thn (ha pos pins s σ H _ I h) fun us s1 ⟨vs,H1,I1,r,q⟩=>⟨I1.kIn,?_⟩) he hpl
 exact WC F hr hb hd hx I1 r q
structure Mk (K:PySem.W.Frag) (C f:Addr):Prop where
 makes:PySem.W.makesIn K C=true
 init:PySem.W.findIn K (.ref C) "__init__" = some (some (.ref f))
 fn:PySem.W.isFn K (.ref f)=true
 kp:PySem.W.keepIn K (.ref C)=true
theorem We {pins:List (Addr×Obj)}{σ:St}{H:Hp}{s:Shared}{Q:VK}{us:List Value}{vs:List V} (M:Mk X.K C f) (F:Z1 X.prog X.w X.K X.mg X.base CX k f fd ps sp) (hr:Room (k+1) X.A) (hb:qg X.K fd ps ds) (hd:ym dvs ds)
  (hx:Jy CX X E) (I:Inv X pins σ H s) (r:ym vs us)
  (h:∀x dx,H x=none->H dx=none->dx≠x->sp (.ref x::(vs++dvs)) (upd (upd H dx (.own x)) x (.ins C dx [])) (fun v H2=>v=.non/\Q (.ref x) H2) E) :
  wpAny (model X.prog X.w) X.A (call (.ref C) us) (EP X pins σ Q) X.xe s:=by
 have hq:=h (s.heap.objs.size+1) s.heap.objs.size (I.hok.fresh (Nat.le_succ _)) (I.hok.fresh (Uag _)) (Uba (Ucg _))
 have I2:=Inv.made (C:=C) I
 have r2:ym (V.ref (s.heap.objs.size+1)::(vs++dvs)) (Value.ref (s.heap.objs.size+1)::(us++ds)):=.cons rfl (r.append hd)
 have hl:(Value.ref (s.heap.objs.size+1)::us++ds).length=ps.length:=by
  have e:=r2.length
  rw[F.len _ _ _ _ hq] at e
  exact e.symm
 refine wpAny_call (zdw (f:=f) I.kIn M.makes M.init (beq_iff_eq.mp M.fn) (codeAny_mono (F.run _ X.stack _ _ ⟨Value.ref (s.heap.objs.size+1)::us,[]⟩ (Value.ref (s.heap.objs.size+1)::(us++ds)) _ _ E (hr.make C us [])
  (I2.env0.make C us []) (hb _ (Value.ref (s.heap.objs.size+1)::us) I2.kIn hl) r2 hq) fun r s' hq'=>?_))
 cases r with
 | error e=>exact hx pins σ _ _ e s' I2 hq'
 | ok fl=>
  cases fl with
  | ret u=>
   obtain⟨v,H',I3,rv,ev,q3⟩:=I2.after hq'
   subst ev
   exact⟨rv,⟨V.ref (s.heap.objs.size+1),H',I3,rfl,q3⟩⟩
  | next=>exact False.elim hq'
  | brk=>exact False.elim hq'
  | cont=>exact False.elim hq'
theorem zeO (M:Mk X.K C f) (F:Z1 X.prog X.w X.K X.mg X.base CX k f fd ps sp) (hr:Room (k+1) X.A) (hg:Gl X x) (hm:X.mg x=some (.ref C)) (hb:qg X.K fd ps ds) (hd:ym dvs ds) (hx:Jy CX X E)
  (ha:PA X (e::es) t) (hdb:(x == ("__debug__" : Str))=false:=by decide) (he:starEach (e::es) X.env=(false,eval e X.env)::starEach es X.env:=by rfl) (hpl:(backTo pos (starEach es X.env)).any (·.1)=false:=by rfl) :
  PE X (.Call (.Name x p) (e::es) [] pos) (zbq C sp dvs E t):=by
 intro pins s σ H Q I h
 refine wpAny_Call_Name_kw (vo I hg hm ?_ hdb)
 refine PySem.W.callWith_K (h₀:=X.base) I.ok.mod.kin M.kp (thn (ha pos pins s σ H _ I h) fun us s1 ⟨vs,H1,I1,r,q⟩=>⟨I1.kIn,?_⟩) he hpl
 exact We M F hr hb hd hx I1 r q
theorem zc7 (M:Mk X.K C f) (F:Z1 X.prog X.w X.K X.mg X.base CX k f fd ps sp) (hr:Room (k+1) X.A) (hg:Gl X x) (hm:X.mg x=some (.ref C)) (hb:qg X.K fd ps ds) (hd:ym dvs ds) (hx:Jy CX X E)
  (hdb:(x == ("__debug__" : Str))=false:=by decide):PE X (.Call (.Name x p) [] [] pos) (zbq C sp dvs E zfI):=by
 intro pins s σ H Q I h
 refine wpAny_Call_Name_kw (vo I hg hm ?_ hdb)
 exact PySem.W.callWith_K0 I.kIn M.kp (We (us:=[]) M F hr hb hd hx I .nil h)
end
def PK (X:Cx) (kws:List Keyword) (t:TA):Prop:=
 ∀(pos:Pos) (pins:List (Addr×Obj)) (s:Shared) (σ:St) (H:Hp) (Q:List V->Hp->Prop),Inv X pins σ H s->t σ H Q->wpAny (model X.prog X.w) X.A (evalAll ((backToKw pos (keywordEach kws X.env)).map (·.2))) (AP X pins σ Q) X.xe s
section
variable {X:Cx}{CX:CXT}{k:Nat}{f C:Addr}{fd:FuncData}{ps ks:List Str}{sp:Sp}{E:XK}{x m:Str}{p pos apos kpos:Pos}{e o:Expr}{es:List Expr}{kws:List Keyword}{te ta:TE}{t tk:TA}{nm:Option Str}
theorem zcA:PK X [] zfI:=fun _ _ _ _ H Q I h=>wpAny_evalAll_nil ⟨[],H,I,.nil,h⟩
theorem Vx (ha:PE X e te) (hr:PK X kws t):PK X (⟨nm,e,kpos⟩::kws) (zc3 te t):=by
 intro pos pins s σ H Q I h
 show wpAny _ _ (evalAll ((do let v ←eval e X.env;standAt pos;pure v)::(backToKw pos (keywordEach kws X.env)).map (·.2))) _ _ s
 refine wpAny_evalAll_cons (wpAny_bind (thn (ha pins s σ H _ I h) fun u s1 ⟨x,H1,I1,r1,q1⟩=>wpAny_bind (wpAny_standAt (wpAny_pure ?_))))
 exact thn (hr pos pins s1 σ H1 _ I1 q1) fun us s2 ⟨xs,H2,I2,r2,q2⟩=>⟨x::xs,H2,I2,.cons r1 r2,q2⟩
variable {g:List Value->List Value->List Value}{gV:List V->List V->List V}
end
structure zk (N P:List Str) (sc:Scope):Prop where
 kind:sc.kind=.function
 co:sc.isCoroutine=false
 gen:sc.isGenerator=false
 nd:N.Nodup
 pre:N.take P.length=P
 par:∀x∈P,sc.names.lookup x=some .local\/sc.names.lookup x=some .cell
 nofree:∀y∈sc.names,y.2≠.free
theorem Ki {kindOf:Str->Option NameKind}{x:Str}:∀{binds:List (Str×Value)}{m:Str->Option Value},(∀v,(x,v)∉binds)->bindL kindOf binds m x=m x
 | [],_,_=>rfl
 | (n,v)::r,m,h=>by
  unfold bindL
  rw[Ki fun w hw=>h w (Uad _ hw)]
  split
  ·have:x≠n:=by rintro rfl;exact h v Uak
   simp [this]
  ·rfl
theorem QJ {kindOf:Str->Option NameKind}{x:Str}:∀{binds:List (Str×Value)}{m:Str->Option Value},(∀v,(x,v)∉binds)->bindC kindOf binds m x=m x
 | [],_,_=>rfl
 | (n,v)::r,m,h=>by
  unfold bindC
  rw[QJ fun w hw=>h w (Uad _ hw)]
  split
  ·rfl
  ·have:x≠n:=by rintro rfl;exact h v Uak
   simp [this]
theorem Kk {kindOf:Str->Option NameKind}{x:Str}{v:Value}:∀{P:List Str}{vs:List Value}{i:Nat}{m:Str->Option Value},P.Nodup->P[i]? = some x->vs[i]? = some v->kindOf x=some .local →
  bindL kindOf (P.zip vs) m x=some v
 | [],_,_,_,_,h,_,_=>by simp at h
 | _::_,[],_,_,_,_,h,_=>by simp at h
 | p::P,w::vs,0,m,nd,h1,h2,hk=>by
  simp at h1 h2;subst h1;subst h2
  show bindL kindOf ((p,w)::P.zip vs) m p=_
  unfold bindL
  rw[Ki fun v hv=>(Uce.mp nd).1 (List.of_mem_zip hv).1,if_pos hk]
  simp
 | p::P,w::vs,i+1,m,nd,h1,h2,hk=>by
  show bindL kindOf ((p,w)::P.zip vs) m x=_
  unfold bindL
  exact Kk (i:=i) (Uce.mp nd).2 (by simpa using h1) (by simpa using h2) hk
theorem QM {kindOf:Str->Option NameKind}{x:Str}{v:Value}:∀{P:List Str}{vs:List Value}{i:Nat}{m:Str->Option Value},P.Nodup->P[i]? = some x->vs[i]? = some v->kindOf x≠some .local →
  bindC kindOf (P.zip vs) m x=some v
 | [],_,_,_,_,h,_,_=>by simp at h
 | _::_,[],_,_,_,_,h,_=>by simp at h
 | p::P,w::vs,0,m,nd,h1,h2,hk=>by
  simp at h1 h2;subst h1;subst h2
  show bindC kindOf ((p,w)::P.zip vs) m p=_
  unfold bindC
  rw[QJ fun v hv=>(Uce.mp nd).1 (List.of_mem_zip hv).1,if_neg hk]
  simp
 | p::P,w::vs,i+1,m,nd,h1,h2,hk=>by
  show bindC kindOf ((p,w)::P.zip vs) m x=_
  unfold bindC
  exact QM (i:=i) (Uce.mp nd).2 (by simpa using h1) (by simpa using h2) hk
def start (N:List Str) (vs:List V):St:=vs.map some++List.replicate (N.length-vs.length) none
def zdt (CX:CXT) (P:Program) (w:World) (K:PySem.W.Frag) (mg:Str->Option Value) (base:Heap) (N:List Str) (qual:Str) (scope:Scope) (f:Addr) (cd:Value) (A:Around) (outer:List Env) (s:Shared) (H:Hp) (E:XK):Cx where
 prog:=P
 w:=w
 K:=K
 mg:=mg
 base:=base
 A:=A.deeper (envOfC qual scope s.heap.objs.size f cd)
 N:=N
 s_0:=s
 H_0:=H
 env:=envOfC qual scope s.heap.objs.size f cd
 outer:=outer
 stack:=envOfC qual scope s.heap.objs.size f cd::outer
 ex:=[]
 calm:=true
 fn:=fun _=>true
 pn:=[]
 xe:=fun e s'=>wpAny (model P w) (A.deeper (envOfC qual scope s.heap.objs.size f cd)) (leaving (envOfC qual scope s.heap.objs.size f cd) e) (fun _ s''=>CX outer H s E e s'') (fun e' s''=>CX outer H s E e' s'') s'
theorem Wi {sc:Scope}{n:Nat}{x:Str} (h:sc.names.lookup x=some .cell):∃c,(cellsFrom n sc.names []).lookup x=some c:=by
 have q:=PySem.W.cellsFrom_some sc.names n [] (.inl h)
 exact Option.isSome_iff_exists.mp q
theorem zbP {CX:CXT}{P:Program}{w:World}{K:PySem.W.Frag}{mg:Str->Option Value}{base:Heap}{N ps:List Str}{qual:Str}{scope:Scope}{f:Addr}{cd:Value}{A:Around}{outer:List Env}{s s1:Shared}{H:Hp}{E:XK}{us:List Value}{vs:List V}
  (S:zk N ps scope) (hd:A.handled=none) (e0:zbe P w K mg base A outer s H) (hl:vs.length=ps.length) (r:ym vs us)
  (x:InCallC s s.heap.objs.size (bindL (envOfC qual scope s.heap.objs.size f cd).kindOf (ps.zip us) fun _=>none) (cellsFrom (s.heap.objs.size+1) scope.names []) (bindC (envOfC qual scope s.heap.objs.size f cd).kindOf (ps.zip us) fun _=>none) s1) :
  Inv (zdt CX P w K mg base N qual scope f cd A outer s H E) [] (start N vs) H s1:=by
 have hpl:ps.length<=N.length:=by have:=congrArg List.length S.pre;rw[Ubl] at this;omega
 obtain⟨h1,tk,rfl,hk⟩:=x.done
 have noA:∀b:Addr,b∉(zdt CX P w K mg base N qual scope f cd A outer s H E).ex:=fun b z=>absurd (show b∈([]:List Addr) from z) (by simp)
 refine⟨⟨e0.mod,S.kind,rfl,rfl,Uag _,fun y z c h1 h2=>?_,fun y hy=>?_,fun y c _ h=>?_,fun _=>hd,Around.frames_deeper e0.frames,.inr ⟨rfl,rfl⟩,fun b z=>absurd z (noA b),e0.bs,e0.bsz,fun b _ _=>noA b,fun b z=>absurd z (noA b),e0.funs,e0.frf⟩,
  rfl,e0.bare,Un.kept hk,⟨_,x.toInCall.ns,fun i y v h1 h2 h3=>?_⟩,fun y c h=>⟨_,x.cell y c h⟩,e0.hok.fresh (Uag _),fun y c h=>?_,fun p hp=>absurd (show p∈([]:List (Addr×Obj)) from hp) (by simp),e0.hok.kept hk,?_⟩
 ·exact name_of_addr x.apart (PySem.mem_of_lookup h1) (PySem.mem_of_lookup h2)
 ·have hy:scope.names.lookup y=some .cell\/scope.names.lookup y=some .free:=hy
  rcases hy with hy | hy
  ·exact Wi hy
  ·exact absurd rfl (S.nofree _ (PySem.mem_of_lookup hy))
 ·exact Ubk (x.above y c (PySem.mem_of_lookup h))
 ·have hi:i<vs.length:=by
   unfold start at h2
   by_cases hi:i<vs.length
   ·exact hi
   ·rw[List.getElem?_append_right (by simpa using hi)] at h2
    rw[List.getElem?_replicate] at h2
    split at h2 <;> cases h2
  have ha:vs[i]? = some v:=by
   unfold start at h2
   rw[List.getElem?_append_left (by simpa using hi),Ubw] at h2
   cases e:vs[i]? with
   | none=>rw[e] at h2;cases h2
   | some a=>rw[e] at h2;cases h2;rfl
  obtain⟨u,hu,rv⟩:=r.get ha
  have hp:ps[i]? = some y:=by
   rw[←S.pre,List.getElem?_take_of_lt (by omega)];exact h1
  have ndP:ps.Nodup:=by rw[←S.pre];exact S.nd.sublist (List.take_sublist _ _)
  refine⟨u,rv,?_⟩
  rcases S.par y (Uaw hp) with k | k
  ·exact .inl ⟨k,Kk ndP hp hu k⟩
  ·obtain⟨c,e⟩:=Wi (n:=s.heap.objs.size+1) k
   refine .inr ⟨.inl k,c,e,?_⟩
   have q:=x.cell y c e
   rw[QM ndP hp hu (by show scope.names.lookup y≠_;rw[k];decide)] at q
   exact q
 ·exact e0.hok.fresh (Ubk (x.above y c (PySem.mem_of_lookup h)))
 ·unfold start
  show _=N.length
  rw[Uaj,Uaa,List.length_replicate]
  omega
theorem zhD {CX:CXT}{P:Program}{w:World}{K:PySem.W.Frag}{mg:Str->Option Value}{base:Heap}{k:Nat}{f:Addr}{name qual:Str}{params:Arguments}{body:List Stmt}{scope:Scope}{dV kV doc pm cdv ct oc:Value}{an od:Option Addr}
  {osl:Array (Option Value)}{N ps:List Str}{sp:Sp} (lk:K.lookup f=some ⟨oc,od,.func (PySem.W.fnOf name qual params body scope dV kV doc pm an cdv ct),osl⟩) (hcd:PySem.W.codeIn K cdv qual=true) (S:zk N ps scope)
  (len:∀vs H Q E,sp vs H Q E->vs.length=ps.length)
  (hbody:∀(A:Around) (outer:List Env) (s:Shared) (H:Hp) (vs:List V) (Q:VK) (E:XK),Room k (A.deeper (envOfC qual scope s.heap.objs.size f cdv))->sp vs H Q E →
   ∃t,PSs (zdt CX P w K mg base N qual scope f cdv A outer s H E) body t/\t { nx:=fun _ H'=>Q .non H',rt:=Q } (start N vs) H) :
  Z1 P w K mg base CX (k+1) f (PySem.W.fnOf name qual params body scope dV kV doc pm an cdv ct) ps sp:=by
 refine⟨len,fun A outer s H args us vs Q E hr e0 hb r hsp=>?_⟩
 have hl:=len _ _ _ _ hsp
 have KX:K.In s.heap:=e0.mod.kin.keeps fun b o e=>(e0.bs b o e).1
 have lim:s.heap.NoLimit:=e0.mod.nolimit.keeps fun b o e=>(e0.bs b o e).1
 have hkind:∀y∈ps.zip us,scope.names.lookup y.1=some .local\/(scope.names.lookup y.1=some .cell/\((cellsFrom (s.heap.objs.size+1) scope.names []).lookup y.1).isSome=true):=fun ⟨n,v⟩ hy=>by
  rcases S.par n (List.of_mem_zip hy).1 with q | q
  ·exact .inl q
  ·exact .inr ⟨q,PySem.W.cellsFrom_some _ _ _ (.inl q)⟩
 refine codeAny_call_function hr.depth (KX _ _ lk) rfl S.co S.gen rfl (PySem.W.codeRec_of KX hcd) (hb _ _ _ _ ?_)
 refine wpAny_newFunctionEnv_cells S.kind hkind fun env he s1 x=>?_
 subst he
 refine⟨lim.keeps x.toInCall.keep,codeAny_func ?_⟩
 obtain⟨t,ht,hq⟩:=hbody A outer s H vs Q E (hr.deeper _) hsp
 have I:Inv (zdt CX P w K mg base N qual scope f cdv A outer s H E) [] (start N vs) H s1:=zbP S hr.hd e0 hl r x
 refine wpAny_mono (ht [] s1 (start N vs) H _ I hq) (fun fl s' hs=>?_) fun e s' hs=>hs
 have fin:∀{σ':St}{H':Hp}{v:V}{u:Value},Inv (zdt CX P w K mg base N qual scope f cdv A outer s H E) [] σ' H' s'->yx v u->Q v H'->CE outer P w H s Q u s':=
  fun {σ' H' v u} J rv q=>⟨v,H',J.os,J.bare,J.base,J.hok,rv,q⟩
 cases fl with
 | ret u=>
  obtain⟨v,σ',H',J,rv,q⟩:=hs
  exact fin J rv q
 | next=>
  obtain⟨σ',H',J,q⟩:=hs
  exact fin (v:=V.non) (u:=Value.none) J rfl q
 | brk=>
  obtain⟨_,_,_,q⟩:=hs
  exact False.elim q
 | cont=>
  obtain⟨_,_,_,q⟩:=hs
  exact False.elim q
end L2
namespace L2
open PySem PySem.Spec PyProof.Rows
section
variable {X:Cx}{x:Str}{p pos:Pos}{e:Expr}{es:List Expr}{t:TA}{id T:String}{r:List V->Hp->VK->Prop}
def tCB (r:List V->Hp->VK->Prop) (t:TA):TE:=fun σ H Q=>t σ H fun vs H1=>r vs H1 Q
theorem zG (hc:kY X (.builtin id) r) (hg:Gl X x) (hm:X.mg x=none) (hv:bootBuiltins x=some (.builtin id)) (ha:PA X (e::es) t) (hn:x≠"__name__":=by decide) (hdb:(x == ("__debug__" : Str))=false:=by decide)
  (he:starEach (e::es) X.env=(false,eval e X.env)::starEach es X.env:=by rfl) (hpl:(backTo pos (starEach es X.env)).any (·.1)=false:=by rfl):PE X (.Call (.Name x p) (e::es) [] pos) (tCB r t):=by
 intro pins s σ H Q I h
 refine wpAny_Call_Name_kw (Wu I hg hm hv ?_ hn hdb)
 exact PyProof.Rows.callWith_builtin1 (thn (ha pos pins s σ H _ I h) fun us s1 ⟨vs,H1,I1,r1,q1⟩=>hc pins s1 σ H1 vs us Q I1 r1 q1) he hpl
theorem j5 (hc:kY X (.type T) r) (hg:Gl X x) (hm:X.mg x=none) (hv:bootBuiltins x=some (.type T)) (ha:PA X (e::es) t) (hn:x≠"__name__":=by decide) (hdb:(x == ("__debug__" : Str))=false:=by decide)
  (he:starEach (e::es) X.env=(false,eval e X.env)::starEach es X.env:=by rfl) (hpl:(backTo pos (starEach es X.env)).any (·.1)=false:=by rfl):PE X (.Call (.Name x p) (e::es) [] pos) (tCB r t):=by
 intro pins s σ H Q I h
 refine wpAny_Call_Name_kw (Wu I hg hm hv ?_ hn hdb)
 exact PyProof.Rows.callWith_type1 (thn (ha pos pins s σ H _ I h) fun us s1 ⟨vs,H1,I1,r1,q1⟩=>hc pins s1 σ H1 vs us Q I1 r1 q1) he hpl
end
end L2
namespace HT
open PySem PyProof.Rows
def lexLt:List Int->List Int->Bool
 | [],[]=>false
 | [],_::_=>true
 | _::_,[]=>false
 | x::xs,y::ys=>if x=y then lexLt xs ys else decide (x<y)
theorem lexLt_cons (x y:Int) (xs ys:List Int):lexLt (x::xs) (y::ys)=if x=y then lexLt xs ys else decide (x<y):=rfl
theorem JH:lexLt [] []=false:=rfl
theorem XM (y:Int) (ys:List Int):lexLt [] (y::ys)=true:=rfl
theorem XB (x:Int) (xs:List Int):lexLt (x::xs) []=false:=rfl
theorem eqAt_int (A:Around) (s:Shared) (a:Int) (t:Tok) (c:Int) (u:Tok):∃e,SeqAt.EqAt A s (.int a t) (.int c u) e/\(e=true↔a=c):=
 ⟨(a == c),SeqAt.EqAt.int_int a t c u,by simp⟩
theorem zda (A:Around) (s:Shared) (a:Int) (t:Tok) (c:Int) (u:Tok) (prog:Program) (w:World) (E:Value->Shared->Prop) (Q:Value->Shared->Prop) (h:Q (.bool (decide (a<c))) s) :
  wpAny (model prog w) A (richCompare .Lt (.int a t) (.int c u)) Q E s:=
 (PyProof.Rows.lt_int h:wpAny (model prog w) A (compareOp .Lt (.int a t) (.int c u)) Q E s)
section
open PySem.SeqAt
open PySem.AutoSeq1 (wpAny_loadPart')
open PySem.MeetsSeq PySem.MeetsSeq2 PySem.MeetsSeq3
end
section
variable {prog:Program}{w:World}{A:Around}{E:Value->Shared->Prop}{s:Shared}
def sIx (n d:Nat):Option Int->Nat
 | none=>d
 | some v=>if v<0 then (v+(n:Int)).toNat else min v.toNat n
theorem sIx_nat (n d k:Nat):sIx n d (some (k:Int))=min k n:=by
 show (if (k:Int)<0 then ((k:Int)+(n:Int)).toNat else min (k:Int).toNat n)=min k n
 rw[if_neg (by omega),Ubs]
end
end HT
namespace L2
open PySem PySem.Spec PyProof.Rows
abbrev TO:=St->Hp->(Option Int->Hp->Prop)->Prop
def PO (X:Cx) (e:Option Expr) (t:TO):Prop:=
 ∀(pins:List (Addr×Obj)) (s:Shared) (σ:St) (H:Hp) (Q:Option Int->Hp->Prop),Inv X pins σ H s->t σ H Q →
  wpAny (model X.prog X.w) X.A (evalPart e X.env) (fun u s'=>∃o H',Inv X pins σ H' s'/\IsPart u o/\Q o H') X.xe s
def zbL:TO:=fun _ H Q=>Q none H
def zfN (t:TE):TO:=fun σ H Q=>t σ H fun x H1=>∃i,x=.int i/\Q (some i) H1
theorem kL {ns:List Int}:∀{us:List Value},ym (ns.map V.int) us->IntsAre us ns:=by
 induction ns with
 | nil=>intro us r;rw[Ucx] at r;cases r;exact .nil
 | cons n ns ih=>
  intro us r
  rw[Uas] at r
  cases r with
  | cons r1 r2=>
   obtain⟨t,e⟩:=r1
   subst e
   exact .cons n t (ih r2)
section
variable {X:Cx}{e:Expr}{te:TE}{lo hi:Option Expr}{tl th:TO}{pos p2:Pos}
theorem zfb:PO X none zbL:=by
 intro pins s σ H Q I h
 rw[evalPart_none]
 exact wpAny_pure ⟨none,H,I,.none,h⟩
theorem Vn (h:PE X e te):PO X (some e) (zfN te):=by
 intro pins s σ H Q I hw
 rw[evalPart_some]
 refine thn (h pins s σ H _ I hw) fun u s1 ⟨x,H1,I1,r1,q1⟩=>?_
 obtain⟨i,rfl,q⟩:=q1
 obtain⟨t,rfl⟩:=r1
 exact⟨some i,H1,I1,.int i t,q⟩
def SlR (X:Cx) (r:V->Option Int->Option Int->Hp->VK->Prop):Prop:=
 ∀(pins:List (Addr×Obj)) (s:Shared) (σ:St) (H:Hp) (x:V) (v vl vu:Value) (lo hi:Option Int) (sl:Addr) (Q:VK),Inv X pins σ H s->yx x v->s.heap.IsSliceOf sl vl vu .none->IsPart vl lo->IsPart vu hi->r x lo hi H Q →
  ∃T id,typeLookup (.type T) "__getitem__" = pure (some (.builtin id))/\s.TypeIs v T/\wpAny (model X.prog X.w) X.A (getItem v (.ref sl)) (EP X pins σ Q) X.xe s
def tSl (r:V->Option Int->Option Int->Hp->VK->Prop) (te:TE) (tl th:TO):TE:=fun σ H Q=>te σ H fun x H1=>tl σ H1 fun l H2=>th σ H2 fun u H3=>r x l u H3 Q
theorem WV {r:V->Option Int->Option Int->Hp->VK->Prop} (hr:SlR X r) (he:PE X e te) (hl:PO X lo tl) (hu:PO X hi th):PE X (.Subscript e (.Slice lo hi none p2) pos) (tSl r te tl th):=by
 intro pins s σ H Q I h
 refine Subscript_ (thn (he pins s σ H _ I h) fun v s1 ⟨x,H1,I1,r1,q1⟩=>?_)
 refine wpAny_Slice (thn (hl pins s1 σ H1 _ I1 q1) fun vl s2 ⟨l,H2,I2,pl,q2⟩=>thn (hu pins s2 σ H2 _ I2 q2) fun vu s3 ⟨u,H3,I3,pu,q3⟩=>?_)
 rw[evalPart_none]
 refine wpAny_pure ?_
 have I4:Inv X pins σ H3 { s3 with heap:=s3.heap.push { cls:=.type "slice",data:=.fields #[vl,vu,.none] } }:=I3.kept (t':=s3.toks) fun b ob q=>Heap.get?_push_of_some _ q
 obtain⟨T,id,hT,ht,hg⟩:=hr pins { s3 with heap:=s3.heap.push { cls:=.type "slice",data:=.fields #[vl,vu,.none] } } σ H3 x v vl vu l u s3.heap.objs.size Q I4 r1 (Heap.IsSliceOf.new ..) pl pu q3
 show wpAny (model X.prog X.w) X.A (subscriptTail e (.Slice lo hi none p2) v (.ref s3.heap.objs.size)) (EP X pins σ Q) X.xe { s3 with heap:=s3.heap.push { cls:=.type "slice",data:=.fields #[vl,vu,.none] } }
 exact tail_any (ops:=[.ref s3.heap.objs.size,v]) ht hT hg (by with_unfolding_all rfl)
def zcO (xs:List V) (lo hi:Option Int):List V:=(xs.drop (HT.sIx xs.length 0 lo)).take (HT.sIx xs.length xs.length hi-HT.sIx xs.length 0 lo)
theorem K6 (xs:List V) (lo hi:Option Int):(zcO xs lo hi).length<=xs.length:=by
 unfold zcO
 rw[Ubl,Uby]
 omega
end
end L2
namespace L2
open PySem PySem.Spec PyProof.Rows
def ixN (n:Nat) (i:Int):Option Nat:=if 0<=i then (if i<n then some i.toNat else none) else if -(n:Int)<=i then some (i+n).toNat else none
def atI {α:Type} (xs:List α) (i:Int):Option α:=(ixN xs.length i).bind fun j=>xs[j]?
theorem zfy {n:Nat}{i:Int}{j:Nat} (h:ixN n i=some j):seqIndex? i n=some j/\j<n/\-(n:Int)<=i/\i<n:=by
 unfold ixN at h
 by_cases h0:0<=i
 ·rw[if_pos h0] at h
  by_cases h1:i<n
  ·rw[if_pos h1] at h
   have e:i.toNat=j:=Option.some.inj h
   exact⟨by rw[seqIndex_of h0 h1,e],by omega,by omega,h1⟩
  ·rw[if_neg h1] at h;cases h
 ·rw[if_neg h0] at h
  by_cases h1:-(n:Int)<=i
  ·rw[if_pos h1] at h
   have e:(i+n).toNat=j:=Option.some.inj h
   exact⟨by rw[seqIndex_neg (by omega) h1,e],by omega,h1,by omega⟩
  ·rw[if_neg h1] at h;cases h
theorem zaX {α:Type}{xs:List α}{i:Int}{v:α} (h:atI xs i=some v):∃j,seqIndex? i xs.length=some j/\xs[j]? = some v/\j<xs.length/\-(xs.length:Int)<=i/\i<xs.length:=by
 unfold atI at h
 cases e:ixN xs.length i with
 | none=>rw[e] at h;cases h
 | some j=>
  rw[e] at h
  obtain⟨h1,h2,h3,h4⟩:=zfy e
  exact⟨j,h1,h,h2,h3,h4⟩
theorem za0 {α:Type}{xs:List α}{j:Nat}{v:α} (h:xs[j]? = some v):atI xs (j:Int)=some v:=by
 have hj:j<xs.length:=(Ubh.mp h).1
 have e:ixN xs.length (j:Int)=some j:=by
  unfold ixN
  rw[if_pos (by omega),if_pos (by omega)];simp
 unfold atI;rw[e];exact h
def zfD (b:Expr):Prop:=∀o i,subscripted b false o i=operate [o,i] (getItem o i)
def IxR (X:Cx) (r:R2):Prop:=
 ∀(value slice:Expr) (pins:List (Addr×Obj)) (s:Shared) (σ:St) (H:Hp) (x y:V) (v u:Value) (Q:VK),Inv X pins σ H s->yx x v->yx y u->r x y H Q →
  subscripted slice false v u=operate [v,u] (getItem v u)->wpAny (model X.prog X.w) X.A (subscriptTail value slice v u) (EP X pins σ Q) X.xe s
def MtR (X:Cx) (id:String) (r:V->List V->Hp->VK->Prop):Prop:=
 ∀(pins:List (Addr×Obj)) (s:Shared) (σ:St) (H:Hp) (x:V) (xs:List V) (v:Value) (us:List Value) (Q:VK),Inv X pins σ H s->yx x v->ym xs us->r x xs H Q →
  wpAny (model X.prog X.w) X.A (call (.builtin id) (v::us)) (EP X pins σ Q) X.xe s
section
variable {X:Cx}{a b:Expr}{ta tb:TE}{pos:Pos}
theorem yr {r:R2} (hr:IxR X r) (ha:PE X a ta) (hb:PE X b tb) (hs:zfD b):PE X (.Subscript a b pos) (tOp r ta tb):=by
 intro pins s σ H Q I h
 exact Subscript_ (zhV ha hb I h fun v u s2 x y H2 I2 rx ry q=>hr a b pins s2 σ H2 x y v u Q I2 rx ry q (hs _ _))
def zhh (K:PySem.W.Frag):R2:=fun x y H Q=>∃p xs i v,x=.ref p/\y=.int i/\SqL K H p xs/\atI xs i=some v/\Q v H
def zih (K:PySem.W.Frag):R2:=fun x y H Q=>∃p xs i v,x=.ref p/\y=.int i/\SqT K H p xs/\atI xs i=some v/\Q v H
theorem zfo:IxR X (zhh X.K):=by
 intro value slice pins s σ H x y v u Q I rx ry h hs
 obtain⟨p,xs,i,z,rfl,rfl,hq,he,q⟩:=h
 cases rx
 obtain⟨t,rfl⟩:=ry
 obtain⟨its,r,pl,hz⟩:=I.list hq
 obtain⟨j,h1,h2,h3,h4,h5⟩:=zaX he
 obtain⟨w,ew,rw'⟩:=r.get h2
 have hl:=r.length
 have hn:=zbE
 have fin:EP X pins σ Q w s:=⟨z,H,I,rw',q⟩
 by_cases h0:0<=i
 ·have hj:i.toNat=j:=by
   rw[seqIndex_of h0 h5] at h1
   exact Option.some.inj h1
  exact item_listR pl.isList h0 (by omega) (by rw[hj];simpa using ew) fin hs
 ·have hj:(i+(its.toArray.size:Int)).toNat=j:=by
   rw[seqIndex_neg (by omega) h4] at h1
   rw[Uav,←hl]
   exact Option.some.inj h1
  exact subscriptTail_builtinR (x:=w) pl.isList.typeIs slot_list_getitem.lookup
   (wpAny_getItem_list_neg (Q:=fun r s'=>r=w/\EP X pins σ Q r s') pl.isList (by omega) (by rw[Uav] <;> omega) (by omega) (by rw[hj];simpa using ew) ⟨rfl,fin⟩) hs
theorem zgh:IxR X (zih X.K):=by
 intro value slice pins s σ H x y v u Q I rx ry h hs
 obtain⟨p,xs,i,z,rfl,rfl,hq,he,q⟩:=h
 cases rx
 obtain⟨t,rfl⟩:=ry
 obtain⟨its,r,pl,hz⟩:=I.tuple hq
 obtain⟨j,h1,h2,h3,h4,h5⟩:=zaX he
 obtain⟨w,ew,rw'⟩:=r.get h2
 have hl:=r.length
 have hn:=zbE
 have fin:EP X pins σ Q w s:=⟨z,H,I,rw',q⟩
 exact subscriptTail_builtinR (x:=w) pl.typeIs slot_tuple_getitem.lookup
  (getItem_tuple (j:=j) (Q:=fun r s'=>r=w/\EP X pins σ Q r s') pl (by omega) (by omega) (by rw[Uav,←hl];exact h1) (by simpa using ew) ⟨rfl,fin⟩) hs
theorem Q4 (lo hi:Option Int) (n:Nat):(sliceBounds lo hi none n).1=((HT.sIx n 0 lo:Nat):Int)/\(sliceBounds lo hi none n).2.1=((HT.sIx n n hi:Nat):Int)/\(sliceBounds lo hi none n).2.2=1:=by
 refine⟨?_,?_,rfl⟩
 ·cases lo with
  | none=>simp [sliceBounds,HT.sIx]
  | some i=>
   simp only[sliceBounds,HT.sIx,Option.getD_none,show (1:Int) > 0 by decide,if_true]
   by_cases h:i<0
   ·simp only[h,if_true] <;> omega
   ·simp only[h,if_false] <;> omega
 ·cases hi with
  | none=>simp [sliceBounds,HT.sIx]
  | some i=>
   simp only[sliceBounds,HT.sIx,Option.getD_none,show (1:Int) > 0 by decide,if_true]
   by_cases h:i<0
   ·simp only[h,if_true] <;> omega
   ·simp only[h,if_false] <;> omega
theorem J2 (its:List Value) (lo hi:Option Int):slicePick its.toArray lo hi none=((its.drop (HT.sIx its.length 0 lo)).take (HT.sIx its.length its.length hi-HT.sIx its.length 0 lo)).toArray:=by
 obtain⟨h1,h2,h3⟩:=Q4 lo hi its.toArray.size
 unfold slicePick
 rw[h1,h2,h3]
 simp only[sliceRange_one,pick_run,Uav] <;> rfl
def ziF (K:PySem.W.Frag):V->Option Int->Option Int->Hp->VK->Prop:=fun x lo hi H Q=>∃a xs,x=.ref a/\SqL K H a xs/\∀p,H p=none->Q (.ref p) (upd H p (.lst (zcO xs lo hi)))
theorem zfs:SlR X (ziF X.K):=by
 intro pins s σ H x v vl vu lo hi sl Q I rx hs pl pu h
 obtain⟨a,xs,rfl,hx,q⟩:=h
 cases rx
 obtain⟨its,r,ht,hz⟩:=I.list hx
 have hlen:=r.length
 refine⟨"list",_,slot_list_getitem.lookup,ht.isList.typeIs,?_⟩
 refine wpAny_getItem_list_slice ht.isList hs pl pu .none (by simp) ?_ (by rw[Uav] <;> omega)
 rw[J2,←hlen]
 refine⟨.ref s.heap.objs.size,_,I.laid (t':=s.toks) (o:=.lst (zcO xs lo hi)) (fun b ob q=>Heap.get?_push_of_some _ q) (Uag _) ?_,rfl,q _ (I.hok.fresh (Uag _))⟩
 exact⟨Ubb (K6 xs lo hi) hz,_,0,(r.drop (HT.sIx xs.length 0 lo)).take (HT.sIx xs.length xs.length hi-HT.sIx xs.length 0 lo),Heap.get?_push_size _ rfl⟩
def JK:V->Bool
 | .non=>true
 | .bl _=>true
 | .int _=>true
 | .str _=>true
 | _=>false
def eqV:V->V->Bool
 | .non,.non=>true
 | .bl a,.bl b=>a == b
 | .bl a,.int b=>(if a then 1 else 0) == b
 | .int a,.bl b=>a == (if b then 1 else 0)
 | .int a,.int b=>a == b
 | .str a,.str b=>a == b
 | _,_=>false
theorem zfX {A:Around}{s:Shared}{y x:V}{u v:Value} (ry:yx y u) (rx:yx x v) (fy:JK y=true) (fx:JK x=true):SeqAt.EqAt A s u v (eqV y x):=by
 cases y with
 | non=>
  cases ry
  cases x with
  | non=>cases rx;exact SeqAt.EqAt.same _
  | bl b=>cases rx;exact SeqAt.EqAt.none_bool b
  | int b=>obtain⟨t,rfl⟩:=rx;exact SeqAt.EqAt.none_int b t
  | str b=>obtain⟨t,rfl⟩:=rx;exact SeqAt.EqAt.none_str b t
  | _=>exact absurd (show false=true from fx) Uap
 | bl a=>
  cases ry
  cases x with
  | non=>cases rx;exact SeqAt.EqAt.bool_none a
  | bl b=>cases rx;exact SeqAt.EqAt.bool_bool a b
  | int b=>obtain⟨t,rfl⟩:=rx;exact SeqAt.EqAt.bool_int a b t
  | str b=>obtain⟨t,rfl⟩:=rx;exact SeqAt.EqAt.bool_str a b t
  | _=>exact absurd (show false=true from fx) Uap
 | int a=>
  obtain⟨t',rfl⟩:=ry
  cases x with
  | non=>cases rx;exact SeqAt.EqAt.int_none a t'
  | bl b=>cases rx;exact SeqAt.EqAt.int_bool a t' b
  | int b=>obtain⟨t,rfl⟩:=rx;exact SeqAt.EqAt.int_int a t' b t
  | str b=>obtain⟨t,rfl⟩:=rx;exact SeqAt.EqAt.int_str a t' b t
  | _=>exact absurd (show false=true from fx) Uap
 | str a=>
  obtain⟨t',rfl⟩:=ry
  cases x with
  | non=>cases rx;exact SeqAt.EqAt.str_none a t'
  | bl b=>cases rx;exact SeqAt.EqAt.str_bool a t' b
  | int b=>obtain⟨t,rfl⟩:=rx;exact SeqAt.EqAt.str_int a t' b t
  | str b=>obtain⟨t,rfl⟩:=rx;exact SeqAt.EqAt.str_str a t' b t
  | _=>exact absurd (show false=true from fx) Uap
 | _=>exact absurd (show false=true from fy) Uap
def eqU (x:V) (u:Value):Bool:=match u with
 | .none=>eqV .non x
 | .bool b=>eqV (.bl b) x
 | .int i _=>eqV (.int i) x
 | .str z _=>eqV (.str z) x
 | _=>false
theorem zd3 {x y:V}{u:Value} (r:yx y u) (f:JK y=true):eqU x u=eqV y x:=by
 cases y with
 | non=>cases r;rfl
 | bl b=>cases r;rfl
 | int i=>obtain⟨t,rfl⟩:=r;rfl
 | str z=>obtain⟨t,rfl⟩:=r;rfl
 | _=>exact absurd (show false=true from f) Uap
theorem Ya {x:V}:∀{xs:List V}{us:List Value},ym xs us->xs.all JK=true->us.any (eqU x)=xs.any fun y=>eqV y x
 | _,_,.nil,_=>rfl
 | y::xs,u::us,.cons r t,f=>by
  rw[List.all_cons,Uat] at f
  rw[Uci,Uci,zd3 r f.1,Ya t f.2]
theorem vW {A:Around}{s:Shared}{x:V}{v:Value} (rx:yx x v) (fx:JK x=true):∀{xs:List V}{us:List Value},ym xs us->xs.all JK=true->∀u∈us,SeqAt.EqAt A s u v (eqU x u)
 | _,_,.nil,_=>fun u hu=>by cases hu
 | y::xs,u::us,.cons r t,f=>fun u' hu=>by
  rw[List.all_cons,Uat] at f
  rcases Uaf.mp hu with rfl | hu
  ·rw[zd3 r f.1];exact zfX r rx f.1 fx
  ·exact vW rx fx t f.2 u' hu
def inV (x:V) (xs:List V):Bool:=xs.any fun y=>eqV y x
def rIn (K:PySem.W.Frag) (neg:Bool):R2:=fun x y H Q=>∃p xs,y=.ref p/\(SqL K H p xs\/SqT K H p xs)/\JK x=true/\xs.all JK=true/\Q (.bl (if neg then !inV x xs else inV x xs)) H
theorem zcq:OpR X (compareOp .In) (rIn X.K false):=by
 intro pins s σ H x y v u Q I rx ry h
 obtain⟨p,xs,rfl,hq,fx,fs,q⟩:=h
 cases ry
 rcases hq with hq | hq
 ·obtain⟨its,r,pl,hz⟩:=I.list hq
  refine SeqAt.in_listAt (eqU x) pl.isList (fun w hw=>vW rx fx r fs w (by simpa using hw)) ⟨.bl _,H,I,rfl,?_⟩
  rw[show its.toArray.any (eqU x)=its.any (eqU x) by simp,Ya r fs]
  exact q
 ·obtain⟨its,r,pl,hz⟩:=I.tuple hq
  refine SeqAt.in_tupleAt (eqU x) pl (fun w hw=>vW rx fx r fs w (by simpa using hw)) ⟨.bl _,H,I,rfl,?_⟩
  rw[show its.toArray.any (eqU x)=its.any (eqU x) by simp,Ya r fs]
  exact q
theorem Kg:OpR X (compareOp .NotIn) (rIn X.K true):=by
 intro pins s σ H x y v u Q I rx ry h
 obtain⟨p,xs,rfl,hq,fx,fs,q⟩:=h
 cases ry
 rcases hq with hq | hq
 ·obtain⟨its,r,pl,hz⟩:=I.list hq
  refine SeqAt.notIn_listAt (eqU x) pl.isList (fun w hw=>vW rx fx r fs w (by simpa using hw)) ⟨.bl _,H,I,rfl,?_⟩
  rw[show its.toArray.any (eqU x)=its.any (eqU x) by simp,Ya r fs]
  exact q
 ·obtain⟨its,r,pl,hz⟩:=I.tuple hq
  refine SeqAt.notIn_tupleAt (eqU x) pl (fun w hw=>vW rx fx r fs w (by simpa using hw)) ⟨.bl _,H,I,rfl,?_⟩
  rw[show its.toArray.any (eqU x)=its.any (eqU x) by simp,Ya r fs]
  exact q
theorem KP:kY X (.builtin "len") (fun xs H Q=>∃p ys,xs=[.ref p]/\(SqL X.K H p ys\/SqT X.K H p ys)/\Q (.int ys.length) H):=by
 intro pins s σ H xs us Q I r h
 obtain⟨p,ys,rfl,hq,q⟩:=h
 obtain⟨u,rfl,rx⟩:=wo r
 cases rx
 have hn:=zbE
 rcases hq with hq | hq
 ·obtain⟨its,r',pl,hz⟩:=I.list hq
  have hlen:=r'.length
  exact Calls.call_len_list pl.isList (by simp only[Uav] <;> omega) ⟨.int ys.length,H,I.tok _,⟨s.toks+1,by rw[Uav,hlen]⟩,q⟩
 ·obtain⟨its,r',pl,hz⟩:=I.tuple hq
  have hlen:=r'.length
  exact len_tuple pl (by simp only[Uav] <;> omega) ⟨.int ys.length,H,I.tok _,⟨s.toks+1,by rw[Uav,hlen]⟩,q⟩
theorem KD:kY X (.type "list") (fun xs H Q=>∃p ys,xs=[.ref p]/\(SqL X.K H p ys\/SqT X.K H p ys)/\∀l,H l=none->Q (.ref l) (upd H l (.lst ys))):=by
 intro pins s σ H xs us Q I r h
 obtain⟨p,ys,rfl,hq,q⟩:=h
 obtain⟨u,rfl,rx⟩:=wo r
 cases rx
 have fin:∀(its:List Value),ym ys its->ys.length<=sizeLine->∀(h':Heap) (c':Nat),(∀b o',s.heap.get? b=some o'->h'.get? b=some o') →
   h'.get? s.heap.objs.size=some { cls:=.type "list",dict:=none,data:=.seq its.toArray c',slots:=#[] }->EP X pins σ Q (.ref s.heap.objs.size) { s with heap:=h' }:=fun its r' hz h' c' kp e=>
  ⟨.ref s.heap.objs.size,_,I.laid (t':=s.toks) kp (Uag _) (show xU X.prog X.w _ h' _ (.lst ys) from ⟨hz,its,c',r',e⟩),rfl,q _ (I.hok.fresh (Uag _))⟩
 rcases hq with hq | hq
 ·obtain⟨its,r',pl,hz⟩:=I.list hq
  have hlen:=r'.length
  obtain⟨o,ho,hc,n,hd⟩:=pl.isList
  exact call_list_seq p (.inl rfl) ho hc hd (fun h' c' kp e=>fin its r' hz h' c' kp e) (by simp only[Uav] <;> omega)
 ·obtain⟨its,r',pl,hz⟩:=I.tuple hq
  have hlen:=r'.length
  obtain⟨o,ho,hc,n,hd⟩:=pl
  exact call_list_seq p (.inr rfl) ho hc hd (fun h' c' kp e=>fin its r' hz h' c' kp e) (by simp only[Uav] <;> omega)
def tyV (K:PySem.W.Frag) (T:String) (x:V) (H:Hp):Prop:=match x with
 | .str _=>T = "str"
 | .int _=>T = "int"
 | .ref p=>(T = "list"/\∃xs,SqL K H p xs)\/(T = "tuple"/\∃o,K.lookup p=some o/\o.cls=.type "tuple"/\o.dict=none) ∨
   (T = "dict"/\((∃kvs,H p=some (.dK kvs))\/∃kvs,H p=some (.dT kvs)))\/(T = "set"/\∃S n,H p=some (.set S n))
 | _=>False
theorem zg7 {pins:List (Addr×Obj)}{σ:St}{H:Hp}{s:Shared}{T:String}{x:V}{v:Value} (I:Inv X pins σ H s) (r:yx x v) (ty:tyV X.K T x H) :
  s.TypeIs v T/\∀a,v=.ref a->∃ob,s.heap.get? a=some ob/\ob.dict=none:=by
 cases x with
 | str z=>
  obtain⟨t,rfl⟩:=r
  cases (show T = "str" from ty)
  exact⟨typeIs_str s z t,fun _ e=>nomatch e⟩
 | int i=>
  obtain⟨t,rfl⟩:=r
  cases (show T = "int" from ty)
  exact⟨typeIs_int s i t,fun _ e=>nomatch e⟩
 | ref p=>
  cases r
  rcases ty with ⟨rfl,xs,hq⟩ | ⟨rfl,o,hk,hc,hd⟩ | ⟨rfl,hk⟩ | ⟨rfl,S,n,hk⟩
  ·obtain⟨its,_,pl,_⟩:=I.list hq
   refine⟨pl.isList.typeIs,fun a e=>?_⟩
   cases e
   obtain⟨o,n,e,c,hd,_⟩:=pl
   exact⟨o,e,hd⟩
  ·refine⟨⟨o,I.kIn p o hk,hc⟩,fun a e=>?_⟩
   cases e
   exact⟨o,I.kIn _ o hk,hd⟩
  ·have z:∃o,s.heap.get? p=some o/\o.ExactDict:=by
    rcases hk with ⟨kvs,hk⟩ | ⟨kvs,hk⟩
    ·obtain⟨_,_,_,_,o,_,_,e,ex,_⟩:=I.hok p _ hk
     exact⟨o,e,ex⟩
    ·obtain⟨_,_,_,_,o,_,_,e,ex,_⟩:=I.hok p _ hk
     exact⟨o,e,ex⟩
   obtain⟨o,e,ex⟩:=z
   refine⟨⟨o,e,ex.1⟩,fun a e2=>?_⟩
   cases e2
   exact⟨o,e,ex.2.1⟩
  ·obtain⟨o,_,_,_,e,ex,_⟩:=I.hok p _ hk
   refine⟨⟨o,e,ex.1⟩,fun a e2=>?_⟩
   cases e2
   exact⟨o,e,ex.2.1⟩
 | _=>exact False.elim ty
def tBM (K:PySem.W.Frag) (T:String) (r:V->List V->Hp->VK->Prop) (to:TE) (t:TA):TE:=fun σ H Q=>to σ H fun x H1=>tyV K T x H1/\t σ H1 fun xs H2=>r x xs H2 Q
variable {o e:Expr}{es:List Expr}{to:TE}{t:TA}{name:Str}{apos cpos:Pos}{T id:String}{r:V->List V->Hp->VK->Prop}
theorem zgd (pa:PlainAttrs T) (slot:Slot T name id) (hty:typeOf (.builtin id)=pure (.type "method_descriptor")) (hm:MtR X id r) (ho:PE X o to) (ha:PA X (e::es) t)
  (hbase:attributeBase o name X.env (eval o X.env)=eval o X.env:=by rfl)
  (hfew:((backTo cpos (starEach (e::es) X.env)).all (fun x=>!x.1)&&(backToKw cpos (keywordEach [] X.env)).all (fun x=>x.1.isSome)
   && decide ((e::es).length+([]:List Keyword).length+(if ([]:List Keyword).isEmpty then 0 else 1)<30))=true:=by rfl)
  (hline:(apos.endLine == cpos.line)=true:=by rfl) (hs:starEach (e::es) X.env=(false,eval e X.env)::starEach es X.env:=by rfl) (hplain:(backTo cpos (starEach es X.env)).any (·.1)=false:=by rfl) :
  PE X (.Call (.Attribute o name apos) (e::es) [] cpos) (tBM X.K T r to t):=by
 intro pins s σ H Q I h
 refine wpAny_Call_method_late hbase hfew hline rfl (thn (ho pins s σ H _ I h) fun v s1 ⟨x,H1,I1,r1,ty,q1⟩=>?_)
 obtain⟨h1,h2⟩:=zg7 I1 r1 ty
 refine⟨T,id,pa,slot,hty,h1,h2,?_⟩
 have hA:=ha cpos pins s1 σ H1 _ I1 q1
 rw[hs] at hA ⊢
 refine Calls.callWith_builtin (by show (false||(backTo cpos (starEach es X.env)).any (·.1))=false;rw[hplain] <;> rfl) (Calls.evalArgs_plain ?_)
 exact thn hA fun us s2 ⟨vs,H2,I2,r2,q2⟩=>hm pins s2 σ H2 x vs v us Q I2 r1 r2 q2
end
end L2
namespace L2
open PySem PySem.Spec PyProof.Rows
def MtM (X:Cx) (id:String) (r:V->List V->Hp->VK->Prop):Prop:=
 ∀(pins:List (Addr×Obj)) (s:Shared) (σ:St) (H:Hp) (x:V) (xs:List V) (v:Value) (us:List Value) (Q:VK),Inv X pins σ H s->yx x v->ym xs us->r x xs H Q →
  wpAny (model X.prog X.w) X.A (call (.builtin id) (v::us)) (EP X pins σ Q) X.xe s
theorem ym.one:∀{x:V}{us:List Value},ym [x] us->∃u,us=[u]/\yx x u
 | _,_,.cons r .nil=>⟨_,rfl,r⟩
section
variable {X:Cx}{pins:List (Addr×Obj)}{σ:St}{H:Hp}{s:Shared}{l b:Addr}{xs ys zs:List V}
theorem Inv.lset {its its':List Value}{n:Nat}{f:Array Value->Array Value}{t':Nat} (I:Inv X pins σ H s) (hH:H l=some (.lst xs))
  (e:s.heap.get? l=some { cls:=.type "list",data:=.seq its.toArray n }) (hf:f its.toArray=its'.toArray) (hv:ym ys its') (hz:ys.length<=sizeLine) :
  Inv X pins σ (upd H l (.lst ys)) { s with heap:=s.heap.update l (Obj.mapSeq f),toks:=t' }:=by
 have q:=PySem.IsL.update e f
 rw[hf] at q
 refine I.write (x:=l) (e:=l) (by rw[hH];exact trivial) (.inl rfl) (fun b' u hb hu=>(Heap.get?_update_other s.heap (Obj.mapSeq f) (Ne.symm hb)).trans hu) ⟨_,q⟩ ?_
 exact⟨hz,its',_,hv,q⟩
theorem Inv.lnew {its:List Value}{t':Nat} (I:Inv X pins σ H s) (hv:ym ys its) (hz:ys.length<=sizeLine) :
  Inv X pins σ (upd H s.heap.objs.size (.lst ys)) { s with heap:=s.heap.push { cls:=.type "list",data:=.seq its.toArray },toks:=t' }:=
 I.laid (fun _ _ q=>Heap.get?_push_of_some _ q) (Uag _) ⟨hz,its,0,hv,Heap.get?_push_size _ rfl⟩
theorem Inv.fresh (I:Inv X pins σ H s):H s.heap.objs.size=none:=I.hok.fresh (Uag _)
theorem Inv.lstM (I:Inv X pins σ H s) (hH:H l=some (.lst xs)):xs.length<=sizeLine/\∃(its:List Value) (n:Nat),ym xs its/\xs.length=its.length/\s.heap.get? l=some { cls:=.type "list",data:=.seq its.toArray n }:=by
 obtain⟨z,its,n,r,e⟩:=I.hok l _ hH
 exact⟨z,its,n,r,r.length,e⟩
theorem zdk {n:Nat} (h:n<=sizeLine):Builtin.List.listTooLong n=false:=by
 unfold Builtin.List.listTooLong
 exact Uab (by omega)
end
section
variable {X:Cx}
def Vp:V->List V->Hp->VK->Prop:=fun x vs H Q=>∃l xs y,x=.ref l/\vs=[y]/\H l=some (.lst xs)/\xs.length<sizeLine/\Q .non (upd H l (.lst (xs++[y])))
theorem zcI:MtM X "list.append" Vp:=by
 intro pins s σ H x vs v us Q I rx rv h
 obtain⟨l,xs,y,rfl,rfl,hH,hz,q⟩:=h
 cases rx
 obtain⟨u,rfl,ru⟩:=rv.one
 obtain⟨z,its,n,r,hl,e⟩:=I.lstM hH
 refine call_meets F.slot_list_append ⟨_,e,rfl⟩ F.entry_list_append (F.args_list_append_2 _ _) (PySem.list_append l its.toArray n u (by rw[Uav];omega)) ⟨e,?_⟩
 refine⟨.non,_,I.lset (its':=its++[u]) hH e (by simp) (r.append (.cons ru .nil)) ?_,rfl,q⟩
 rw[Uaj,Ucp]
 omega
def Vu:V->List V->Hp->VK->Prop:=fun x vs H Q=>∃l b xs zs,x=.ref l/\vs=[.ref b]/\H l=some (.lst xs)/\H b=some (.lst zs)/\xs.length+zs.length<=sizeLine/\Q .non (upd H l (.lst (xs++zs)))
theorem zbo:MtM X "list.extend" Vu:=by
 intro pins s σ H x vs v us Q I rx rv h
 obtain⟨l,b,xs,zs,rfl,rfl,hH,hB,hz,q⟩:=h
 cases rx
 obtain⟨u,rfl,ru⟩:=rv.one
 cases ru
 obtain⟨z,its,n,r,hl,e⟩:=I.lstM hH
 obtain⟨z2,its2,n2,r2,hl2,e2⟩:=I.lstM hB
 have hsz:its.toArray.size+its2.toArray.size<=sizeLine:=by rw[Uav,Uav];omega
 have hlong:¬(!its.toArray.isEmpty&&Builtin.List.listTooLong (its.toArray.size+its2.toArray.size))=true:=by
  rw[zdk hsz,Bool.and_false]
  exact Uap
 refine call_meets F.slot_list_extend ⟨_,e,rfl⟩ F.entry_list_extend (F.args_list_extend_2 _ _)
  (AutoSeq1.list_extend_list_list_0 l its.toArray n b its2.toArray n2 hlong (by rw[Uav];omega) (by omega)) ⟨e,e2,?_⟩
 refine⟨.non,_,I.lset (its':=its++its2) hH e (by simp) (r.append r2) ?_,rfl,q⟩
 rw[Uaj]
 omega
def zik:R2:=fun x y H Q=>∃l b xs zs,x=.ref l/\y=.ref b/\H l=some (.lst xs)/\H b=some (.lst zs)/\xs.length+zs.length<=sizeLine/\∀p,H p=none->Q (.ref p) (upd H p (.lst (xs++zs)))
theorem xn:OpR X (binaryOp .Add) zik:=by
 intro pins s σ H x y v u Q I rx ry h
 obtain⟨l,b,xs,zs,rfl,rfl,hH,hB,hz,q⟩:=h
 cases rx
 cases ry
 obtain⟨z,its,n,r,hl,e⟩:=I.lstM hH
 obtain⟨z2,its2,n2,r2,hl2,e2⟩:=I.lstM hB
 refine PySem.P.add_list e e2 ?_ (by rw[Uav,Uav];omega)
 have ea:its.toArray++its2.toArray=(its++its2).toArray:=by simp
 rw[ea]
 exact⟨.ref _,_,I.lnew (t':=s.toks) (r.append r2) (by rw[Uaj];omega),rfl,q _ I.fresh⟩
end
section
variable {prog:Program}{w:World}{A:Around}{E:Value->Shared->Prop}{s:Shared}
set_option maxRecDepth 100000 in
end
section
variable {X:Cx}
end
end L2
namespace L2
open PySem PySem.Spec PyProof.Rows
theorem ym.ints:∀{ns:List Int}{us:List Value},ym (ns.map V.int) us->IntsAre us ns
 | [],us,h=>by
  rw[Ucx] at h
  cases h
  exact IntsAre.nil
 | n::ns,us,h=>by
  rw[Uas] at h
  cases h with
  | cons r t=>
   obtain⟨k,rfl⟩:=r
   exact IntsAre.cons n k (ym.ints t)
theorem qX:∀{us:List Value}{ns:List Int},IntsAre us ns->ym (ns.map V.int) us
 | _,_,.nil=>by rw[Ucx];exact Paired.nil
 | _,_,.cons n t h=>by rw[Uas];exact Paired.cons (show yx (V.int n) (Value.int n t) from ⟨t,rfl⟩) (qX h)
theorem ym.bls:∀{bs:List Bool}{us:List Value},ym (bs.map V.bl) us->us=bs.map Value.bool
 | [],us,h=>by
  rw[Ucx] at h
  cases h
  rfl
 | b::bs,us,h=>by
  rw[Uas] at h
  cases h with
  | cons r t=>
   cases r
   rw[ym.bls t,Uas]
theorem ym.ref1 {a:Addr}{us:List Value} (r:ym [V.ref a] us):us=[Value.ref a]:=by
 cases r with
 | cons r t=>
  cases t
  cases r
  rfl
section
variable {prog:Program}{w:World}{A:Around}{E:Value->Shared->Prop}{s:Shared}{l:Addr}{its:List Value}{ns:List Int}{Q:Value->Shared->Prop}
end
section
variable {X:Cx}
theorem Vk {n:Nat} (h:n<64):n<=sizeLine:=by rw[sizeLine_eq];omega
end
section
variable {X:Cx}
end
section
variable {X:Cx}
end
theorem Wa {prog:Program}{w:World}{A:Around}{E:Value->Shared->Prop}{s:Shared}{l:Addr}{items:Array Value}{Q:Value->Shared->Prop} (hl:s.heap.IsList l items)
  (h:∀s₂:Shared,s₂={ s with heap:=s.heap.push { cls:=.type "list_iterator",data:=.fields #[.ref l,.int 0 0] } } →
   (s₂.heap.IsListIter s.heap.objs.size l 0/\s₂.heap.IsList l items)->l≠s.heap.objs.size->Q (.ref s.heap.objs.size) s₂):wpAny (model prog w) A (pyIter (.ref l)) Q E s:=by
 have hlt:l<s.heap.objs.size:=by obtain⟨_,e,_⟩:=hl;exact Heap.lt_size e
 exact wpAny_pyIter_list hl (h _ rfl ⟨⟨_,Heap.get?_push_size _ rfl,rfl,rfl⟩,hl.push _⟩ (Uba hlt))
theorem Yn {prog:Program}{w:World}{A:Around}{bs:List Bool}{its:List Value} (e:its=bs.map Value.bool) :
  TruthOf prog w A (fun i v=>its.toArray[i]? = some v) (fun i=>bs.getD i false):=fun i v s Q E hv hq=>by
 have hv':its[i]? = some v:=by simpa using hv
 rw[e,Ubw] at hv'
 obtain⟨b,hb,rfl⟩:=Ubz.mp hv'
 have hg:bs.getD i false=b:=by rw[Ual,hb] <;> rfl
 have hq':Q (bs.getD i false) s:=hq
 rw[hg] at hq'
 exact wpAny_truthy_bool hq'
theorem Q8:∀bs:List Bool,(List.range bs.length).any (fun i=>bs.getD i false)=bs.any id
 | []=>rfl
 | b::bs=>by
  rw[Uae,List.range_succ_eq_map,Uci,List.any_map,Uci,←Q8 bs]
  all_goals rfl
theorem Kz:∀bs:List Bool,(List.range bs.length).all (fun i=>bs.getD i false)=bs.all id
 | []=>rfl
 | b::bs=>by
  rw[Uae,List.range_succ_eq_map,List.all_cons,List.all_map,List.all_cons,←Kz bs]
  all_goals rfl
section
variable {X:Cx}
def zil (K:PySem.W.Frag):List V->Hp->VK->Prop:=fun vs H Q=>∃(a:Addr) (bs:List Bool),vs=[V.ref a]/\SqL K H a (bs.map V.bl)/\Q (.bl (bs.any id)) H
def zir (K:PySem.W.Frag):List V->Hp->VK->Prop:=fun vs H Q=>∃(a:Addr) (bs:List Bool),vs=[V.ref a]/\SqL K H a (bs.map V.bl)/\Q (.bl (bs.all id)) H
theorem zgV (hc:X.calm=true):kY X (.builtin "any") (zil X.K):=by
 intro pins s σ H vs us Q I r h
 obtain⟨a,bs,rfl,hs,q⟩:=h
 obtain⟨its,rv,hl,_⟩:=I.list hs
 rw[ym.ref1 r]
 have hb:=rv.bls
 refine call_any_walk (Wa hl.isList fun s₂ e2 st hne=>?_)
 subst e2
 refine⟨_,_,_,_,_,_,_,rfl,Walks.list (A:=X.A.in1) (I.ok.hd hc) _ a hne its.toArray,st,Yn hb,fun h' tk hk=>?_⟩
 refine⟨.bl _,H,I.kept fun b o eo=>hk b o (fun hmem=>?_) (Heap.get?_push_of_some _ eo),?_,q⟩
 ·rcases Uaf.mp hmem with e1 | hmem
  ·exact absurd (e1▸Heap.lt_size eo) (Ucc _)
  ·cases hmem
 ·show Value.bool _=Value.bool _
  rw[←Q8,hb,Uav,Uaa]
theorem zgH (hc:X.calm=true):kY X (.builtin "all") (zir X.K):=by
 intro pins s σ H vs us Q I r h
 obtain⟨a,bs,rfl,hs,q⟩:=h
 obtain⟨its,rv,hl,_⟩:=I.list hs
 rw[ym.ref1 r]
 have hb:=rv.bls
 refine call_all_walk (Wa hl.isList fun s₂ e2 st hne=>?_)
 subst e2
 refine⟨_,_,_,_,_,_,_,rfl,Walks.list (A:=X.A.in1) (I.ok.hd hc) _ a hne its.toArray,st,Yn hb,fun h' tk hk=>?_⟩
 refine⟨.bl _,H,I.kept fun b o eo=>hk b o (fun hmem=>?_) (Heap.get?_push_of_some _ eo),?_,q⟩
 ·rcases Uaf.mp hmem with e1 | hmem
  ·exact absurd (e1▸Heap.lt_size eo) (Ucc _)
  ·cases hmem
 ·show Value.bool _=Value.bool _
  rw[←Kz,hb,Uav,Uaa]
end
mutual
inductive Dp (K:PySem.W.Frag) (H:Hp):V->PyData->Prop
 | non:Dp K H .non .none
 | bl (b:Bool):Dp K H (.bl b) (.bool b)
 | int (i:Int):Dp K H (.int i) (.int i)
 | str (x:Str):Dp K H (.str x) (.str x)
 | lst {a:Addr}{xs:List V}{ds:List PyData}:SqL K H a xs->DpAll K H xs ds->Dp K H (.ref a) (.list ds)
 | tup {a:Addr}{xs:List V}{ds:List PyData}:SqT K H a xs->DpAll K H xs ds->Dp K H (.ref a) (.tuple ds)
inductive DpAll (K:PySem.W.Frag) (H:Hp):List V->List PyData->Prop
 | nil:DpAll K H [] []
 | cons {v:V}{vs:List V}{d:PyData}{ds:List PyData}:Dp K H v d->DpAll K H vs ds->DpAll K H (v::vs) (d::ds)
end
section
variable {X:Cx}{pins:List (Addr×Obj)}{σ:St}{H:Hp}{s:Shared}
mutual
theorem Dp.reads (I:Inv X pins σ H s):∀(d:PyData) (v:V) (u:Value),Dp X.K H v d->yx v u->∃as,Reads s.heap u d as
 | .none,_,_,h,r=>by
  cases h
  cases r
  exact⟨_,Reads.none⟩
 | .bool b,_,_,h,r=>by
  cases h
  cases r
  exact⟨_,Reads.bool b⟩
 | .int i,_,_,h,r=>by
  cases h
  obtain⟨t,rfl⟩:=r
  exact⟨_,Reads.int i t⟩
 | .str x,_,_,h,r=>by
  cases h
  obtain⟨t,rfl⟩:=r
  exact⟨_,Reads.str x t⟩
 | .list ds,_,_,h,r=>by
  cases h with
  | lst hs ha=>
   cases r
   obtain⟨its,rv,⟨o,n,ho,hc,_,hd⟩,_⟩:=I.list hs
   obtain⟨as,hr⟩:=Dp.readsAll I ds _ its ha rv
   exact⟨_,Reads.list ho hc hd hr⟩
 | .tuple ds,_,_,h,r=>by
  cases h with
  | tup hs ha=>
   cases r
   obtain⟨its,rv,⟨o,ho,hc,n,hd⟩,_⟩:=I.tuple hs
   obtain⟨as,hr⟩:=Dp.readsAll I ds _ its ha rv
   exact⟨_,Reads.tuple ho hc hd hr⟩
 | .dict _,_,_,h,_=>by cases h
theorem Dp.readsAll (I:Inv X pins σ H s):∀(ds:List PyData) (vs:List V) (us:List Value),DpAll X.K H vs ds->ym vs us->∃as,ReadsAll s.heap us ds as
 | [],_,_,h,r=>by
  cases h
  cases r
  exact⟨_,ReadsAll.nil⟩
 | d::ds,_,_,h,r=>by
  cases h with
  | cons h1 h2=>
   cases r with
   | cons r1 r2=>
    obtain⟨as,q1⟩:=Dp.reads I d _ _ h1 r1
    obtain⟨bs,q2⟩:=Dp.readsAll I ds _ _ h2 r2
    exact⟨_,ReadsAll.cons q1 q2⟩
end
end
section
variable {X:Cx}
def zi7 (K:PySem.W.Frag):R2:=fun x y H Q=>∃d e,Dp K H x d/\Dp K H y e/\SeqAt.shaped d=true/\SeqAt.shaped e=true/\Q (.bl (PyData.eqv d e)) H
def zi1 (K:PySem.W.Frag):R2:=fun x y H Q=>∃d e,Dp K H x d/\Dp K H y e/\SeqAt.shaped d=true/\SeqAt.shaped e=true/\Q (.bl (!PyData.eqv d e)) H
theorem zdV (hu:X.A.units+64<cLine):OpR X (compareOp .Eq) (zi7 X.K):=by
 intro pins s σ H x y v u Q I rx ry h
 obtain⟨d,e,hd,he,sd,se,q⟩:=h
 obtain⟨as,r1⟩:=Dp.reads I d x v hd rx
 obtain⟨bs,r2⟩:=Dp.reads I e y u he ry
 exact SeqAt.compareEq_shaped r1 r2 sd se hu ⟨.bl _,H,I,rfl,q⟩
theorem zfL (hu:X.A.units+64<cLine):OpR X (compareOp .NotEq) (zi1 X.K):=by
 intro pins s σ H x y v u Q I rx ry h
 obtain⟨d,e,hd,he,sd,se,q⟩:=h
 obtain⟨as,r1⟩:=Dp.reads I d x v hd rx
 obtain⟨bs,r2⟩:=Dp.reads I e y u he ry
 exact SeqAt.compareNe_shaped r1 r2 sd se hu ⟨.bl _,H,I,rfl,q⟩
end
end L2
namespace L2
open PySem PySem.Spec PyProof.Rows
abbrev zev (h:Heap) (c:Addr) (v:Option Value):Prop:=h.IsCell c v
def zja (scope sc:Scope):Scope:=
 { scope with names:=scope.names.map fun (n,k)=>if (k == .free&&sc.kind == .function&&sc.names.lookup n == some .cell) then (n,.cell) else (n,k) }
def yn (cells:List (Str×Addr)):List (Str×NameKind)->List (Str×Addr)->List (Str×Addr)
 | [],acc=>acc
 | (n,k)::r,acc=>if k == .free then yn cells r ((n,(cells.lookup n).getD 0)::acc) else yn cells r acc
theorem ZA (env:Env) (f:Str×NameKind->List (Str×Addr)->Sem (ForInStep (List (Str×Addr))))
  (hf:∀n k c,f (n,k) c=if k == .free then (do let a ←cellOf env n;pure (.yield ((n,a)::c))) else pure (.yield c)) :
  ∀(names:List (Str×NameKind)) (acc:List (Str×Addr)),(∀y∈names,y.2=.free->∃c,env.cells.lookup y.1=some c)->forIn names acc f=pure (yn env.cells names acc)
 | [],acc,_=>by rw[List.forIn_nil];rfl
 | (n,k)::r,acc,h=>by
  rw[List.forIn_cons,hf]
  have ih:=fun acc=>ZA env f hf r acc fun y hy=>h y (Uad _ hy)
  unfold yn
  by_cases hk:(k == NameKind.free)=true
  ·rw[if_pos hk,if_pos hk]
   obtain⟨c,hc⟩:=h (n,k) Uak (by simpa using hk)
   have e:cellOf env n=pure c:=by unfold cellOf;rw[hc]
   rw[e]
   have e2:(env.cells.lookup n).getD 0=c:=by rw[hc];rfl
   rw[e2]
   exact ih _
  ·rw[if_neg hk,if_neg hk]
   exact ih _
theorem zaL {scope:Scope}{env:Env} (h:∀y∈scope.names,y.2=.free->∃c,env.cells.lookup y.1=some c):closureFor scope env=pure (yn env.cells scope.names []):=by
 simp only[closureFor]
 rw[ZA env _ (fun n k c=>rfl) scope.names [] h]
 rfl
theorem wH {α:Type}:∀{l:List (Str×α)}{n:Str}{c:α},(n,c)∈l->∃c',l.lookup n=some c'
 | (k,v)::r,n,c,h=>by
  rw[Uch]
  cases hb:n == k with
  | true=>exact⟨_,rfl⟩
  | false=>
   rcases Uaf.mp h with e | h
   ·cases e;simp at hb
   ·exact wH h
theorem qe {cells:List (Str×Addr)}:∀{names:List (Str×NameKind)}{acc:List (Str×Addr)}{n:Str}{c:Addr},(n,c)∈yn cells names acc->(n,c)∈acc\/((n,.free)∈names/\c=(cells.lookup n).getD 0)
 | [],_,_,_,h=>.inl h
 | (m,k)::r,acc,n,c,h=>by
  unfold yn at h
  split at h
  ·rename_i hk
   have hk:k=.free:=by simpa using hk
   rcases qe h with h | ⟨h1,h2⟩
   ·rcases Uaf.mp h with e | h
    ·cases e;exact .inr ⟨hk▸Uak,rfl⟩
    ·exact .inl h
   ·exact .inr ⟨Uad _ h1,h2⟩
  ·rcases qe h with h | ⟨h1,h2⟩
   ·exact .inl h
   ·exact .inr ⟨Uad _ h1,h2⟩
theorem vz {cells:List (Str×Addr)}:∀{names:List (Str×NameKind)}{acc:List (Str×Addr)}{p:Str×Addr},p∈acc->p∈yn cells names acc
 | [],_,_,h=>h
 | (m,k)::r,acc,p,h=>by
  unfold yn
  split
  ·exact vz (Uad _ h)
  ·exact vz h
theorem vg {cells:List (Str×Addr)}:∀{names:List (Str×NameKind)}{acc:List (Str×Addr)}{n:Str},(n,.free)∈names->(n,(cells.lookup n).getD 0)∈yn cells names acc
 | (m,k)::r,acc,n,h=>by
  unfold yn
  rcases Uaf.mp h with e | h
  ·cases e
   exact vz Uak
  ·split
   ·exact vg h
   ·exact vg h
theorem qR:∀{names:List (Str×NameKind)}{h:Heap}{acc:List (Str×Addr)}{x:Str}{c:Addr},(x,c)∈cellsFrom h.objs.size names acc →
  (x,c)∈acc\/((x,.cell)∈names/\h.objs.size<=c/\zev (pushCells h names) c none)
 | [],_,_,_,_,h=>.inl h
 | (n,k)::r,h,acc,x,c,hm=>by
  unfold cellsFrom at hm
  unfold pushCells
  split at hm
  ·rename_i hk
   rw[if_pos hk]
   have hk:k=.cell:=by simpa using hk
   rw[←Heap.size_push h { cls:=.type "cell",data:=.cell none }] at hm
   rcases qR hm with hm | ⟨h1,h2,h3⟩
   ·rcases Uaf.mp hm with e | hm
    ·cases e
     exact .inr ⟨hk▸Uak,Uag _,_,pushCells_keeps r _ _ _ (Heap.get?_push_size _ rfl),rfl⟩
    ·exact .inl hm
   ·rw[Heap.size_push] at h2
    exact .inr ⟨Uad _ h1,Nat.le_of_succ_le h2,h3⟩
  ·rename_i hk
   rw[if_neg hk]
   rcases qR hm with hm | ⟨h1,h2,h3⟩
   ·exact .inl hm
   ·exact .inr ⟨Uad _ h1,h2,h3⟩
theorem wt:∀{names:List (Str×NameKind)}{n:Nat}{acc:List (Str×Addr)}{p:Str×Addr},p∈acc->p∈cellsFrom n names acc
 | [],_,_,_,h=>h
 | (m,k)::r,n,acc,p,h=>by
  unfold cellsFrom
  split
  ·exact wt (Uad _ h)
  ·exact wt h
theorem Y0:∀{names:List (Str×NameKind)}{n:Nat}{acc:List (Str×Addr)}{x:Str},(x,.cell)∈names->∃c,(x,c)∈cellsFrom n names acc
 | (m,k)::r,n,acc,x,h=>by
  unfold cellsFrom
  rcases Uaf.mp h with e | h
  ·cases e
   exact⟨n,wt Uak⟩
  ·split
   ·exact Y0 h
   ·exact Y0 h
theorem Xj:∀{names:List (Str×NameKind)}{h:Heap}{acc:List (Str×Addr)}{x y:Str}{c:Addr},(∀p∈acc,p.2<h.objs.size)->(∀x y c,(x,c)∈acc->(y,c)∈acc->x=y) →
  (x,c)∈cellsFrom h.objs.size names acc->(y,c)∈cellsFrom h.objs.size names acc->x=y
 | [],_,_,_,_,_,_,hi,h1,h2=>hi _ _ _ h1 h2
 | (n,k)::r,h,acc,x,y,c,hl,hi,h1,h2=>by
  unfold cellsFrom at h1 h2
  split at h1
  ·rename_i hk
   rw[if_pos hk] at h2
   rw[←Heap.size_push h { cls:=.type "cell",data:=.cell none }] at h1 h2
   refine Xj (h:=h.push _) (fun p hp=>?_) (fun x y c a b=>?_) h1 h2
   ·rw[Heap.size_push]
    rcases Uaf.mp hp with rfl | hp
    ·exact Ucg _
    ·exact Ubv (hl p hp)
   ·rcases Uaf.mp a with e | a <;> rcases Uaf.mp b with e' | b
    ·cases e;cases e';rfl
    ·cases e;exact absurd (hl _ b) (Ucc _)
    ·cases e';exact absurd (hl _ a) (Ucc _)
    ·exact hi _ _ _ a b
  ·rename_i hk
   rw[if_neg hk] at h2
   exact Xj hl hi h1 h2
theorem Ve {M:Model}{A:Around}{E:Value->Shared->Prop}{s:Shared}{scope:Scope}{globals:Addr}{closure:List (Str×Addr)}{qual:Str}{func:Option Addr}{code:Value}{around:Env}{builtins:Addr}{Q:Env->Shared->Prop}
  (h:Q (newEnv scope s.heap.objs.size globals (cellsFrom (s.heap.objs.size+1) scope.names closure) qual func code (some around) builtins)
   { s with heap:=pushCells (s.heap.push { cls:=.type "dict",data:=.dict #[] }) scope.names }) :
  wpAny M A (newFunctionEnv scope globals closure [] qual func code (some around) builtins) Q E s:=by
 simp only[newFunctionEnv,Option.isSome_some,if_true]
 refine wpAny_bind (wpAny_alloc ?_)
 refine wpAny_bind (wpAny_layCells _ (fun n k c=>rfl) scope.names closure _ _ ?_)
 rw[show ({ s with heap:=s.heap.push { cls:=.type "dict",data:=.dict #[] } }:Shared).heap.objs.size=s.heap.objs.size+1 from Heap.size_push ..]
 rw[List.forIn_nil]
 exact wpAny_bind (wpAny_pure (wpAny_pure h))
theorem vn {sc:Scope}:∀{names:List (Str×NameKind)}{x:Str}{k:NameKind},
  (names.map fun (n,k)=>if (k == NameKind.free&&sc.kind == .function&&sc.names.lookup n == some .cell) then (n,NameKind.cell) else (n,k)).lookup x=some k →
  ∃k',names.lookup x=some k'/\(k=k'\/(k'=.free/\k=.cell))
 | [],_,_,h=>by simp at h
 | (n,k₀)::r,x,k,h=>by
  have ih:=@vn sc r x k
  have h':List.lookup x ((if (k₀ == NameKind.free&&sc.kind == .function&&sc.names.lookup n == some .cell)=true then (n,NameKind.cell) else (n,k₀))::(r.map _))=some k:=h
  cases hx:x == n with
  | true=>
   simp only[Uch,hx]
   by_cases hc:(k₀ == NameKind.free&&sc.kind == .function&&sc.names.lookup n == some .cell)=true
   ·rw[if_pos hc] at h'
    simp only[Uch,hx] at h'
    cases h'
    simp only[Uat,beq_iff_eq] at hc
    exact⟨k₀,rfl,.inr ⟨hc.1.1,rfl⟩⟩
   ·rw[if_neg hc] at h'
    simp only[Uch,hx] at h'
    cases h'
    exact⟨_,rfl,.inl rfl⟩
  | false=>
   simp only[Uch,hx]
   by_cases hc:(k₀ == NameKind.free&&sc.kind == .function&&sc.names.lookup n == some .cell)=true
   ·rw[if_pos hc] at h'
    simp only[Uch,hx] at h'
    exact ih h'
   ·rw[if_neg hc] at h'
    simp only[Uch,hx] at h'
    exact ih h'
structure jI (N:List Str) (sc scope:Scope) (own:List (Str×Nat)):Prop where
 kind:scope.kind=.function
 uniq:∀y∈scope.names,scope.names.lookup y.1=some y.2
 ix:∀p∈own,N[p.2]? = some p.1
 free:∀y∈scope.names,y.2=.free->sc.names.lookup y.1=some .cell\/sc.names.lookup y.1=some .free
 own:∀y∈scope.names,y.2=.local\/y.2=.cell->y.1∈own.map (·.1)\/y.1∉N
def y9 (σ:St):List Nat->St
 | []=>σ
 | v::vs=>(y9 σ vs).set v none
theorem vr (σ:St):∀vs:List Nat,(y9 σ vs).length=σ.length
 | []=>rfl
 | v::vs=>by unfold y9;rw[List.length_set,vr σ vs]
theorem Xc {σ:St}{i:Nat}{x:V}:∀{vs:List Nat},(y9 σ vs)[i]? = some (some x)->σ[i]? = some (some x)/\i∉vs
 | [],h=>⟨h,by simp⟩
 | v::vs,h=>by
  unfold y9 at h
  by_cases hi:v=i
  ·subst hi
   by_cases hv:v<(y9 σ vs).length
   ·rw[List.getElem?_set_self hv] at h;cases h
   ·rw[List.getElem?_eq_none (by simpa using hv)] at h;cases h
  ·rw[List.getElem?_set_ne hi] at h
   obtain⟨h1,h2⟩:=Xc h
   exact⟨h1,by simp only[Uaf,not_or];exact⟨fun e=>hi e.symm,h2⟩⟩
abbrev Cx.blk (X:Cx) (s:Shared) (H:Hp) (scope:Scope) (cenv:Env) (fp:List Addr):Cx:={ X with s_0:=s,H_0:=H,env:=cenv,outer:=X.stack,ex:=fp,fn:=fun x=>scope.names.lookup x == some .cell,pn:=[],xe:=fun _ _=>False }
section
variable {X:Cx}{pins:List (Addr×Obj)}{σ:St}{H:Hp}{s:Shared}
theorem Vo {scope:Scope}{own:List (Str×Nat)}{fp:List Addr} (I:Inv X pins σ H s) (ok:jI X.N X.env.scope scope own) (hN:X.N.Nodup) (hfp:∀b∈fp,QC X pins H b/\b<s.heap.objs.size) :
  Inv (X.blk s H scope (compEnvC scope (cellsFrom (s.heap.objs.size+1) scope.names (yn X.env.cells scope.names [])) s.heap.objs.size X.env) fp) [] (y9 σ (own.map (·.2))) H { s with heap:=pushCells (s.heap.push { cls:=.type "dict",data:=.dict #[] }) scope.names }:=by
 have hfree:∀y∈scope.names,y.2=.free->∃c,X.env.cells.lookup y.1=some c:=fun y hy e=>by
  rcases ok.free y hy e with k | k
  ·exact I.ok.has _ (.inl k)
  ·exact I.ok.has _ (.inr k)
 generalize hcenv:compEnvC scope (cellsFrom (s.heap.objs.size+1) scope.names (yn X.env.cells scope.names [])) s.heap.objs.size X.env=cenv
 have kp:∀b o,s.heap.get? b=some o->(pushCells (s.heap.push { cls:=.type "dict",data:=.dict #[] }) scope.names).get? b=some o:=fun b o e=>pushCells_keeps _ _ _ _ (Heap.get?_push_of_some _ e)
 have hL:cenv.locals=s.heap.objs.size:=by rw[←hcenv];rfl
 have hcl:cenv.cells=cellsFrom (s.heap.objs.size+1) scope.names (yn X.env.cells scope.names []):=by rw[←hcenv];rfl
 have hsc:cenv.scope=zja scope X.env.scope:=by rw[←hcenv];rfl
 rw[←Heap.size_push s.heap { cls:=.type "dict",data:=.dict #[] }] at hcl
 have cm:∀{y c},(y,c)∈yn X.env.cells scope.names []->X.env.cells.lookup y=some c/\c<s.heap.objs.size:=fun {y c} hm=>by
  rcases qe hm with hm | ⟨h1,rfl⟩
  ·cases hm
  ·obtain⟨c,hc⟩:=hfree _ h1 rfl
   rw[hc]
   obtain⟨w,z⟩:=I.cell _ _ hc
   exact⟨rfl,z.lt⟩
 have mem:∀{y c},cenv.cells.lookup y=some c->(X.env.cells.lookup y=some c/\c<s.heap.objs.size)\/(s.heap.objs.size+1<=c/\zev (pushCells (s.heap.push { cls:=.type "dict",data:=.dict #[] }) scope.names) c none):=fun {y c} e=>by
  rw[hcl] at e
  rcases qR (PySem.mem_of_lookup e) with hm | ⟨_,h2,h3⟩
  ·exact .inl (cm hm)
  ·rw[Heap.size_push] at h2;exact .inr ⟨h2,h3⟩
 have look:∀{y},scope.names.lookup y=some .free->∃c,cenv.cells.lookup y=some c/\X.env.cells.lookup y=some c:=fun {y} hl=>by
  have hy:(y,NameKind.free)∈scope.names:=PySem.mem_of_lookup hl
  obtain⟨c',e'⟩:=wH (wt (names:=scope.names) (n:=(s.heap.push { cls:=.type "dict",data:=.dict #[] }).objs.size) (vg (cells:=X.env.cells) (acc:=[]) hy))
  rw[←hcl] at e'
  refine⟨c',e',?_⟩
  rw[hcl] at e'
  rcases qR (PySem.mem_of_lookup e') with hm | ⟨h1,_,_⟩
  ·exact(cm hm).1
  ·have:=ok.uniq _ h1
   rw[hl] at this;cases this
 have okB:(X.blk s H scope cenv fp).Ok:=by
  refine⟨I.ok.mod,by show cenv.scope.kind=_;rw[hsc];exact ok.kind,by show cenv.globals=_;rw[←hcenv];exact I.ok.glob,by show cenv.builtins=_;rw[←hcenv];exact I.ok.blt,by show s.heap.objs.size<=cenv.locals;rw[hL];exact Uag _,
   fun y z c e1 e2=>?_,fun y hy=>?_,fun y c z e=>?_,I.ok.hd,I.ok.frames,.inl rfl,fun b hb=>⟨?_,fun y c e z=>?_⟩,I.bs,Ubb I.ok.bsz I.sz,fun b o e hb=>?_,fun b hb z=>?_,I.stack,I.stkFree⟩
  ·have e1:cenv.cells.lookup y=some c:=e1
   have e2:cenv.cells.lookup z=some c:=e2
   rw[hcl] at e1 e2
   refine Xj (fun p hp=>?_) (fun y z c a b=>I.ok.inj y z c (cm a).1 (cm b).1) (PySem.mem_of_lookup e1) (PySem.mem_of_lookup e2)
   rw[Heap.size_push]
   exact Ubv (cm (y:=p.1) (c:=p.2) hp).2
  ·show ∃c,cenv.cells.lookup y=some c
   have key:∀k,cenv.kindOf y=some k->(k=.cell\/k=.free)->∃c,cenv.cells.lookup y=some c:=fun k hk hk'=>by
    unfold Env.kindOf at hk
    rw[hsc] at hk
    obtain⟨k',e,r⟩:=vn hk
    have:k'=.cell\/k'=.free:=by
     rcases r with rfl | ⟨rfl,_⟩
     ·exact hk'
     ·exact .inr rfl
    rcases this with rfl | rfl
    ·obtain⟨c,hm⟩:=Y0 (n:=(s.heap.push { cls:=.type "dict",data:=.dict #[] }).objs.size) (acc:=yn X.env.cells scope.names []) (PySem.mem_of_lookup e)
     obtain⟨c',e'⟩:=wH hm
     exact⟨c',by rw[hcl];exact e'⟩
    ·obtain⟨c,h1,_⟩:=look e
     exact⟨c,h1⟩
   rcases hy with hy | hy
   ·exact key _ hy (.inl rfl)
   ·exact key _ hy (.inr rfl)
  ·have z:(scope.names.lookup y == some NameKind.cell)=true:=z
   have z:scope.names.lookup y=some .cell:=by simpa using z
   have e:cenv.cells.lookup y=some c:=e
   rw[hcl] at e
   rcases qR (PySem.mem_of_lookup e) with hm | ⟨_,h2,_⟩
   ·rcases qe hm with hm | ⟨h1,_⟩
    ·cases hm
    ·have q:=ok.uniq _ h1
     rw[z] at q;cases q
   ·rw[Heap.size_push] at h2
    exact Nat.le_of_succ_le h2
  ·show b≠cenv.locals
   rw[hL];exact Uba (hfp b hb).2
  ·have e:cenv.cells.lookup y=some c:=e
   rcases mem e with ⟨h1,_⟩ | ⟨h1,_⟩
   ·exact(hfp b hb).1.2.2.2.2.1 y c h1 z
   ·have h2:s.heap.objs.size+1<=b:=by rw[←z];exact h1
    exact absurd (Ubf (hfp b hb).2 (Nat.le_of_succ_le h2)) (Ucc _)
  ·rcases (hfp b hb).1.2.2.2.1 with z | z
   ·exact I.ok.noex b o e z
   ·exact absurd (Ubf (Heap.lt_size e) (Ubb I.ok.bsz z)) (Ucc _)
  ·rcases Uaf.mp (I.stkSub b z) with z | z
   ·exact(hfp b hb).1.2.1 z
   ·exact(hfp b hb).1.2.2.1 z
 refine⟨okB,rfl,I.bare,Un.kept kp,⟨fun _=>none,?_,fun i y av e1 e2 e3=>?_⟩,fun y c e=>?_,?_,fun y c e=>?_,fun p hp=>?_,I.hok.kept kp,by rw[vr];exact I.len⟩
 ·show Heap.Ns _ cenv.locals _
  rw[hL]
  exact Heap.Ns.keeps (Heap.Ns.new ..) fun b o e=>pushCells_keeps _ _ _ _ e
 ·obtain⟨e2,hne⟩:=Xc e2
  have hfr:scope.names.lookup y=some .free/\(cenv.kindOf y=some .cell\/cenv.kindOf y=some .free):=by
   have key:∀k,cenv.scope.names.lookup y=some k->k=.local\/k=.cell\/k=.free->scope.names.lookup y=some .free/\(cenv.kindOf y=some .cell\/cenv.kindOf y=some .free):=fun k hk hk'=>by
    have hk0:=hk
    rw[hsc] at hk
    obtain⟨k',e,r⟩:=vn hk
    have no:¬(k'=.local\/k'=.cell):=fun hh=>by
     rcases ok.own _ (PySem.mem_of_lookup e) hh with e' | e'
     ·obtain⟨p,hp,hpy⟩:=Uaq.mp e'
      have e3:=ok.ix p hp
      have:p.1=y:=hpy
      rw[this] at e3
      exact hne (Uaq.mpr ⟨p,hp,JB hN e3 e1⟩)
     ·exact e' (Uaw e1)
    rcases r with rfl | ⟨rfl,rfl⟩
    ·rcases hk' with rfl | rfl | rfl
     ·exact absurd (.inl rfl) no
     ·exact absurd (.inr rfl) no
     ·exact⟨e,.inr hk0⟩
    ·exact⟨e,.inl hk0⟩
   have e3:Vis cenv.scope y:=e3
   rcases e3 with e3 | e3 | e3
   ·exact key _ e3 (.inl rfl)
   ·exact key _ e3 (.inr (.inl rfl))
   ·exact key _ e3 (.inr (.inr rfl))
  obtain⟨m,hn,hl⟩:=I.loc
  have hvis:Vis X.env.scope y:=(ok.free _ (PySem.mem_of_lookup hfr.1) rfl).elim (fun k=>.inr (.inl k)) (fun k=>.inr (.inr k))
  obtain⟨w,r,q⟩:=hl i y av e1 e2 hvis
  refine⟨w,r,.inr ⟨hfr.2,?_⟩⟩
  obtain⟨c,h1,h2⟩:=look hfr.1
  rcases q with ⟨k,_⟩ | ⟨_,c',e',z⟩
  ·have k:X.env.scope.names.lookup y=some .local:=k
   rcases ok.free _ (PySem.mem_of_lookup hfr.1) rfl with k' | k' <;> rw[show X.env.scope.names.lookup y=_ from k'] at k <;> cases k
  ·rw[h2] at e';cases e'
   exact⟨c,h1,z.keeps kp⟩
 ·have e:cenv.cells.lookup y=some c:=e
  rcases mem e with ⟨h1,_⟩ | ⟨_,z⟩
  ·obtain⟨w,z⟩:=I.cell y c h1
   exact⟨w,z.keeps kp⟩
  ·exact⟨_,z⟩
 ·show H cenv.locals=none
  rw[hL];exact I.hok.fresh (Uag _)
 ·have e:cenv.cells.lookup y=some c:=e
  rcases mem e with ⟨h1,_⟩ | ⟨h1,_⟩
  ·exact I.freeC y c h1
  ·exact I.hok.fresh (Nat.le_of_succ_le h1)
 ·exact absurd (show p∈([]:List (Addr×Obj))++[] from hp) (by simp)
theorem zgB {E:Value->Shared->Prop}{D:Addr}{xs:List V}{y:V}{v:Value}{Q:Value->Shared->Prop} (I:Inv X pins σ H s) (hD:H D=some (.lst xs)) (hz:xs.length<sizeLine) (r:yx y v)
  (h:∀s',Inv X pins σ (upd H D (.lst (xs++[y]))) s'->Q .none s'):wpAny (model X.prog X.w) X.A (call (.builtin "list.append") [.ref D,v]) Q E s:=by
 obtain⟨hz',its,n,ri,e⟩:=I.hok D _ hD
 have hl:=ri.length
 refine append_at (hsz:=by rw[Uav];omega) e fun h' sb ho'=>?_
 refine h { s with heap:=h' } (I.write (t':=s.toks) (by rw[hD];trivial) (.inl rfl) (fun b u hb q=>(sb.2 b hb).trans q) ⟨_,ho'⟩ ⟨by rw[Uaj];exact hz,its++[v],n+1,ri.append (.cons r .nil),?_⟩)
 rw[ho']
 simp
def PTs (X:Cx) (ifs:List Expr) (t:TT):Prop:=
 ∀(pins:List (Addr×Obj)) (s:Shared) (σ:St) (H:Hp) (Q:Bool->Hp->Prop),Inv X pins σ H s->t σ H Q →
  wpAny (model X.prog X.w) X.A (forIn ifs true fun c r=>if r=true then do let ok ←isTrue c X.env (eval c X.env);pure (ForInStep.yield ok) else pure (ForInStep.yield r)) (TP X pins σ Q) X.xe s
def ziw:TT:=fun _ H Q=>Q true H
theorem Zd:PTs X [] ziw:=fun _ _ _ H _ I h=>wpAny_tests_nil ⟨H,I,h⟩
theorem jF {c:Expr}{t:TT} (h:PT X c t):PTs X [c] t:=fun pins s σ H Q I hw=>wpAny_tests_one (h pins s σ H Q I hw)
end
theorem zfF {α:Type}{t:Sem α}{Q Q':α->Shared->Prop}{M:Model}{A:Around}{E:Value->Shared->Prop}{s:Shared} (h:wpAny M A t Q (fun _ _=>False) s) (hQ:∀a s,Q a s->Q' a s):wpAny M A t Q' E s:=wpAny_mono h hQ fun _ _ z=>False.elim z
theorem Ka {prog:Program}{w:World}{A:Around}{R:Result->Shared->Prop}{s:Shared}{elt target iter:Expr}{ifs:List Expr}{scope:Scope}{pos:Pos}{it acc:Value}{env:Env} (I:Nat->Shared->Prop)
  (turn:∀n s,I n s->wpAny (model prog w) A (pyNext it) (fun r s₁=>match r with
   | none=>R (.ok .next) s₁
   | some v=>wpAny (model prog w) A (letOwnedTupleGo target it v) (fun _ s₁'=>wpAny (model prog w) A (assign target env v) (fun _ s₂=>
     wpAny (model prog w) A (forIn ifs true fun c r=>if r=true then do let ok ←isTrue c env (eval c env);pure (ForInStep.yield ok) else pure (ForInStep.yield r)) (fun ok s₃=>
      if ok=true then wpAny (model prog w) A (eval elt env) (fun x s₄=>
       wpAny (model prog w) A (call (.builtin "list.append") [acc,x]) (fun _ s₅=>∃m,m<n/\I m s₅) (notedBy (model prog w) A env fun e s'=>R (.error e) s') s₄) (notedBy (model prog w) A env fun e s'=>R (.error e) s') s₃
      else ∃m,m<n/\I m s₃) (notedBy (model prog w) A env fun e s'=>R (.error e) s') s₂) (notedBy (model prog w) A env fun e s'=>R (.error e) s') s₁') (notedBy (model prog w) A env fun e s'=>R (.error e) s') s₁) (notedBy (model prog w) A env fun e s'=>R (.error e) s') s)
  (n:Nat) (h:I n s) :
  codeAny (model prog w) A (.compLoop (.ListComp elt [⟨target,iter,ifs,0⟩] scope pos) 0 it acc env) R s:=by
 refine codeAny_loop rfl I (fun n s hI=>?_) n h
 show wpAny _ A ((compTurn (.ListComp elt [⟨target,iter,ifs,0⟩] scope pos) 0 it acc env).onRaise (fun x=>do noteFrame x env;theTreesLotGoes x)) _ _ s
 refine wpAny_noted ?_
 rw[compTurn_list]
 refine wpAny_bind (wpAny_standAt (wpAny_bind (wpAny_mono (turn n s hI) (fun r s₁ h₁=>?_) fun _ _ h'=>h')))
 cases r with
 | none=>exact wpAny_pure h₁
 | some v=>
  refine wpAny_bind (wpAny_mono h₁ (fun _ s₁' h₁'=>?_) fun _ _ h'=>h')
  refine wpAny_bind (wpAny_mono h₁' (fun _ s₂ h₂=>wpAny_bind (wpAny_mono h₂ (fun ok s₃ h₃=>?_) fun _ _ h'=>h')) fun _ _ h'=>h')
  cases ok with
  | false=>exact wpAny_pure ⟨rfl,h₃⟩
  | true=>
   exact wpAny_bind (wpAny_bind (wpAny_mono h₃ (fun x s₄ h₄=>wpAny_bind (wpAny_mono h₄ (fun _ s₅ h₅=>wpAny_pure (wpAny_pure ⟨rfl,h₅⟩)) fun _ _ h'=>h')) fun _ _ h'=>h'))
section
variable {X:Cx}
def tLc (wi:TI) (g:TG) (tt:TT) (te:TE) (vs:List Nat):TE:=fun σ H Q=>wi σ H fun J H1=>∀D,H1 D=none->∃W:Nat->Nat->Hp->Prop,(∃m,W 0 m (upd H1 D (.lst [])))/\∀i m H,W i m H →
 (J.stop i H/\Q (.ref D) H)\/(J.go i H/\∃Nx:Hp->Prop,(∀H',Nx H'->∃m',m'<m/\W (i+1) m' H')/\∀x H',J.yld i H x H'->g x (y9 σ vs) H' fun σ2 H2=>y9 σ2 vs=y9 σ vs/\tt σ2 H2 fun b H3=>
  if b=true then te σ2 H3 fun y H4=>∃acc,H4 D=some (.lst acc)/\acc.length<sizeLine/\Nx (upd H4 D (.lst (acc++[y]))) else Nx H3)
theorem za5 {pins:List (Addr×Obj)}{s:Shared}{σ:St}{H:Hp}{Q:VK}{elt tg iter:Expr}{ifs:List Expr}{scope:Scope}{own:List (Str×Nat)}{pos pos':Pos}{wi:TI}{g:TG}{tt:TT}{te:TE}{use:Option (Value->Sem Unit)}{Qf:Value->Shared->Prop}
  (hc:X.calm=true) (hN:X.N.Nodup) (I:Inv X pins σ H s) (hi:PI X tg iter wi) (ok:jI X.N X.env.scope scope own)
  (hg:∀(s:Shared) (H:Hp) (C:Addr) (cl:List (Str×Addr)) (fp:List Addr),PG (X.blk s H scope (compEnvC scope cl C X.env) fp) tg g) (ht:∀(s:Shared) (H:Hp) (C:Addr) (cl:List (Str×Addr)) (fp:List Addr),PTs (X.blk s H scope (compEnvC scope cl C X.env) fp) ifs tt)
  (he:∀(s:Shared) (H:Hp) (C:Addr) (cl:List (Str×Addr)) (fp:List Addr),PE (X.blk s H scope (compEnvC scope cl C X.env) fp) elt te) (hs:∀x,foldedSetIterable iter X.env x=pure x)
  (h:tLc wi g tt te (own.map (·.2)) σ H Q)
  (hRR:∀D C s' m H',Inv X pins σ H' s'->Q (.ref D) H'->s'.heap.Ns C m->QC X pins H' C->compPost (model X.prog X.w) X.A X.xe use Qf (.ref D) C (.ok .next) s') :
  wpAny (model X.prog X.w) X.A (comprehension (.ListComp elt [⟨tg,iter,ifs,0⟩] scope pos) scope X.env pos' (newList []) false (eval iter X.env) use) Qf X.xe s:=by
 have hfree:∀y∈scope.names,y.2=.free->∃c,X.env.cells.lookup y.1=some c:=fun y hy e=>by
  rcases ok.free y hy e with k | k
  ·exact I.ok.has _ (.inl k)
  ·exact I.ok.has _ (.inr k)
 refine wpAny_comprehension_free (use:=use) rfl hs (zaL hfree) ok.kind (fun y hy e=>by rw[ok.uniq y hy,e])
  (thn (hi pins s σ H _ I h) fun xv s1 hx=>thn hx fun itv s2 h2=>?_)
 obtain⟨it,fp,tn,J,H2,e,I2,T,st2,f2,q⟩:=h2
 subst e
 refine wpAny_newObj_type (Ve ?_) (by show 0<=sizeLine;decide)
 generalize hD:s2.heap.objs.size=D
 have hDn:H2 D=none:=I2.hok.fresh (Nat.le_of_eq hD)
 obtain⟨W,⟨m0,w0⟩,turn⟩:=q D hDn
 generalize hs3:({ s2 with heap:=s2.heap.push { cls:=.type "list",data:=.seq ([]:List Value).toArray } }:Shared)=s3
 have I3:Inv X pins σ (upd H2 D (.lst [])) s3:=by
  rw[←hs3]
  refine I2.laid (t':=s2.toks) (fun b o e=>Heap.get?_push_of_some _ e) (Nat.le_of_eq hD) ⟨Uax _,[],0,.nil,?_⟩
  rw[←hD]
  exact Heap.get?_push_size _ rfl
 have h3:s3.heap=s2.heap.push { cls:=.type "list",data:=.seq ([]:List Value).toArray }:=by rw[←hs3]
 have sz:∀b∈fp,b<s2.heap.objs.size:=fun b hb=>by
  obtain⟨o,e,_⟩:=T.obj _ _ st2 b hb
  exact Heap.lt_size e
 have f3:∀b∈fp,QC X pins (upd H2 D (.lst [])) b/\b<s3.heap.objs.size:=fun b hb=>by
  have hlt:=sz b hb
  refine⟨⟨?_,(f2 b hb).2⟩,by rw[h3,Heap.size_push];exact Ubv hlt⟩
  rw[zh (by rw[←hD];exact Uba hlt)]
  exact(f2 b hb).1
 have st3:tn 0 s3.heap:=T.keep _ _ _ st2 fun b _ o e=>by rw[h3];exact Heap.get?_push_of_some _ e
 have I4:=Vo I3 ok hN f3
 have pg:=hg s3 (upd H2 D (.lst [])) s3.heap.objs.size (cellsFrom (s3.heap.objs.size+1) scope.names (yn X.env.cells scope.names [])) fp
 have pt:=ht s3 (upd H2 D (.lst [])) s3.heap.objs.size (cellsFrom (s3.heap.objs.size+1) scope.names (yn X.env.cells scope.names [])) fp
 have pe:=he s3 (upd H2 D (.lst [])) s3.heap.objs.size (cellsFrom (s3.heap.objs.size+1) scope.names (yn X.env.cells scope.names [])) fp
 show codeAny _ _ (.compStart (.ListComp elt [⟨tg,iter,ifs,0⟩] scope pos) 0 (.ref it) (.ref D) (compEnvC scope (cellsFrom (s3.heap.objs.size+1) scope.names (yn X.env.cells scope.names [])) s3.heap.objs.size X.env)) (compPost (model X.prog X.w) X.A X.xe use Qf (.ref D) s3.heap.objs.size) { s3 with heap:=pushCells (s3.heap.push { cls:=.type "dict",data:=.dict #[] }) scope.names }
 have nfp:∀b∈fp,(upd H2 D (.lst [])) b=none:=fun b hb=>(f3 b hb).1.1
 generalize hce:compEnvC scope (cellsFrom (s3.heap.objs.size+1) scope.names (yn X.env.cells scope.names [])) s3.heap.objs.size X.env=ce at I4 pg pt pe ⊢
 have cL:ce.locals=s3.heap.objs.size:=by subst hce;rfl
 generalize hH3:upd H2 D (.lst [])=H3 at I3 I4 pg pt pe w0 nfp f3
 generalize hs4:({ s3 with heap:=pushCells (s3.heap.push { cls:=.type "dict",data:=.dict #[] }) scope.names }:Shared)=s4 at I4 ⊢
 have st4:tn 0 s4.heap:=T.keep _ _ _ st3 fun b _ o e=>by rw[←hs4];exact pushCells_keeps _ _ _ _ (Heap.get?_push_of_some _ e)
 have stat:∀{σ':St}{H':Hp}{s':Shared},Inv (X.blk s3 H3 scope ce fp) [] σ' H' s'->(∀b∈fp,H' b=none)->∀b∈fp,QC (X.blk s3 H3 scope ce fp) [] H' b:=fun {σ' H' s'} I' hn b hb=>
  ⟨hn b hb,(I'.ok.exf b hb).1,I'.ok.exfs b hb,.inl hb,fun x c e=>(I'.ok.exf b hb).2 x c e,fun p hp=>absurd (show p∈([]:List (Addr×Obj))++[] from hp) (by simp)⟩
 have loop:codeAny (model X.prog X.w) X.A (.compLoop (.ListComp elt [⟨tg,iter,ifs,0⟩] scope pos) 0 (.ref it) (.ref D) ce) (compPost (model X.prog X.w) X.A X.xe use Qf (.ref D) s3.heap.objs.size) s4:=by
  refine Ka (fun n s'=>∃i H',Inv (X.blk s3 H3 scope ce fp) [] (y9 σ (own.map (·.2))) H' s'/\tn i s'.heap/\(∀b∈fp,H' b=none)/\W i n H') ?_ m0 ⟨0,H3,I4,st4,nfp,w0⟩
  rintro n s5 ⟨i,H5,I5,st5,n5,w5⟩
  rcases turn i n H5 w5 with ⟨stop,qq⟩ | ⟨go,Nx,hNx,step⟩
  ·have td:=T.done (X.blk s3 H3 scope ce fp) rfl rfl rfl hc i [] s5 _ H5 (fun _ _=>False) I5 (stat I5 n5) st5 stop
   refine zfF td fun r s6 ⟨hr,I6⟩=>?_
   subst hr
   have I7:Inv X pins σ H5 s6:=I3.call' (ch:=fp) I6.os I6.base I6.hok I6.bare fun b hb=>⟨(f3 b hb).1.2.2.2.1,(f3 b hb).1.2.1,(f3 b hb).1.2.2.2.2.1,(f3 b hb).1.2.2.2.2.2⟩
   have nC:H5 s3.heap.objs.size=none:=by
    have z:H5 ce.locals=none:=I6.free
    rw[cL] at z
    exact z
   obtain⟨m,hn,_⟩:=I6.loc
   have hn:s6.heap.Ns ce.locals m:=hn
   rw[cL] at hn
   exact hRR D s3.heap.objs.size s6 m H5 I7 qq hn (I3.fpOk (Uag _) nC)
  ·have ti:=T.item (X.blk s3 H3 scope ce fp) rfl rfl rfl hc i [] s5 _ H5 (fun _ _=>False) I5 (stat I5 n5) st5 go
   refine zfF ti fun r s6 ⟨u,hr,h6⟩=>?_
   subst hr
   refine zfF h6 fun _ s7 ⟨x,H7,I7,r7,y7,st7,n7⟩=>?_
   have I7':=I7.pinned (stat I7 n7) (T.obj _ _ st7)
   refine zfF (pg _ s7 _ H7 x u _ I7' r7 (step x H7 y7)) fun _ s8 ⟨σ8,H8,I8,hw8,q8⟩=>?_
   refine zfF (pt _ s8 σ8 H8 _ I8 q8) fun b s9 ⟨H9,I9,q9⟩=>?_
   have fin:∀{s':Shared}{H':Hp},Inv (X.blk s3 H3 scope ce fp) ([]++Q9 fp s7.heap) σ8 H' s'->Nx H'->∃m,m<n/\∃i H',Inv (X.blk s3 H3 scope ce fp) [] (y9 σ (own.map (·.2))) H' s'/\tn i s'.heap/\(∀b∈fp,H' b=none)/\W i m H':=fun {s' H'} I' nx=>by
    obtain⟨m',hm,w'⟩:=hNx H' nx
    have pin':∀b∈fp,∀o,s7.heap.get? b=some o->s'.heap.get? b=some o/\H' b=none:=fun b hb o e=>
     let z:=I'.pin (b,o) (Uaz _ (Uaz _ (xD hb e)))
     ⟨z.1,z.2.1⟩
    have hl:(y9 σ (own.map (·.2))).length=σ8.length:=by rw[←hw8,vr]
    refine⟨m',hm,i+1,H',(I'.unpinned (pins:=[])).weak hl (fun j v e=>?_),T.keep _ _ _ st7 fun b hb o e=>(pin' b hb o e).1,fun b hb=>?_,w'⟩
    ·rw[←hw8] at e
     exact(Xc e).1
    ·obtain⟨o,e,_⟩:=T.obj _ _ st7 b hb
     exact(pin' b hb o e).2
   cases b with
   | false=>
    simp only[Ucb,if_false] at q9 ⊢
    exact fin I9 q9
   | true=>
    simp only[if_true] at q9 ⊢
    refine zfF (pe _ s9 σ8 H9 _ I9 q9) fun z s10 ⟨yv,H10,I10,r10,acc,hD10,hz10,nx⟩=>?_
    exact zgB (X:=X.blk s3 H3 scope ce fp) I10 hD10 hz10 r10 fun s11 I11=>fin I11 nx
 exact codeAny_compStart_list loop (T.self X.A 0 _ _ _ st4 loop)
theorem XH {elt tg iter:Expr}{ifs:List Expr}{scope:Scope}{own:List (Str×Nat)}{pos:Pos}{wi:TI}{g:TG}{tt:TT}{te:TE} (hc:X.calm=true) (hN:X.N.Nodup) (hi:PI X tg iter wi) (ok:jI X.N X.env.scope scope own)
  (hg:∀(s:Shared) (H:Hp) (C:Addr) (cl:List (Str×Addr)) (fp:List Addr),PG (X.blk s H scope (compEnvC scope cl C X.env) fp) tg g) (ht:∀(s:Shared) (H:Hp) (C:Addr) (cl:List (Str×Addr)) (fp:List Addr),PTs (X.blk s H scope (compEnvC scope cl C X.env) fp) ifs tt)
  (he:∀(s:Shared) (H:Hp) (C:Addr) (cl:List (Str×Addr)) (fp:List Addr),PE (X.blk s H scope (compEnvC scope cl C X.env) fp) elt te) (hs:∀x,foldedSetIterable iter X.env x=pure x:=by intro _;rfl) :
  PE X (.ListComp elt [⟨tg,iter,ifs,0⟩] scope pos) (tLc wi g tt te (own.map (·.2))):=by
 intro pins s σ H Q I h
 rw[eval_ListComp]
 refine za5 hc hN I hi ok hg ht he hs h fun D C s' m H' I' q hn f=>⟨m,hn,fun h'' sb=>?_⟩
 obtain⟨f0,f1,f2,f3,f4,f5⟩:=f
 exact⟨.ref D,H',I'.turned (t':=s'.toks) (fun b o hb e=>(sb.2 b hb).trans e) f0 f1 f3 f4 f5,rfl,q⟩
theorem kK {i:Nat}{y:Str}{py:Pos}{elt tg iter:Expr}{ifs:List Expr}{scope:Scope}{own:List (Str×Nat)}{pos spos:Pos}{wi:TI}{g:TG}{tt:TT}{te:TE} (hc:X.calm=true) (hN:X.N.Nodup) (hy:X.N[i]? = some y) (hyl:X.env.scope.names.lookup y=some .local)
  (hsw:swapsWith (.ListComp elt [⟨tg,iter,ifs,0⟩] scope pos) (some (.Name y py)) spos.line X.env=pure true) (hi:PI X tg iter wi) (ok:jI X.N X.env.scope scope own)
  (hg:∀(s:Shared) (H:Hp) (C:Addr) (cl:List (Str×Addr)) (fp:List Addr),PG (X.blk s H scope (compEnvC scope cl C X.env) fp) tg g) (ht:∀(s:Shared) (H:Hp) (C:Addr) (cl:List (Str×Addr)) (fp:List Addr),PTs (X.blk s H scope (compEnvC scope cl C X.env) fp) ifs tt)
  (he:∀(s:Shared) (H:Hp) (C:Addr) (cl:List (Str×Addr)) (fp:List Addr),PE (X.blk s H scope (compEnvC scope cl C X.env) fp) elt te) (hs:∀x,foldedSetIterable iter X.env x=pure x:=by intro _;rfl) :
  PS X (.Assign [.Name y py] (.ListComp elt [⟨tg,iter,ifs,0⟩] scope pos) spos) (zgz (tLc wi g tt te (own.map (·.2))) (kU i)):=by
 intro pins s σ H D I h
 rw[exec_Assign_Name_used _ _ _ _ hsw]
 refine wpAny_bind (wpAny_standAt (wpAny_bind ?_))
 show wpAny _ X.A (do let _ ←comprehension (.ListComp elt [⟨tg,iter,ifs,0⟩] scope pos) scope X.env (firstIterPos [⟨tg,iter,ifs,0⟩] pos) (newList []) false (eval iter X.env) (some (assign (.Name y py) X.env))) _ _ s
 have h:tLc wi g tt te (own.map (·.2)) σ H (fun x H1=>kU i x σ H1 D.nx):=h
 refine wpAny_bind (thn (za5 (Qf:=fun _ s'=>SP X pins D .next s') hc hN I hi ok hg ht he hs h fun L C s' m H' I' q hn f=>?_) fun _ s' hq=>wpAny_pure (wpAny_pure hq))
 show wpAny _ _ (assign (.Name y py) X.env (.ref L)) _ _ _
 refine wpAny_assign_Name (Kd (v:=V.ref L) I' hN hy (.inl hyl) rfl (fun s2 I2 ⟨a,sb,ha⟩=>?_) (.inr hyl))
 obtain⟨f0,f1,f2,f3,f4,f5⟩:=f
 have haC:C≠a:=by
  rcases ha with z | z
  ·rw[z];exact f1
  ·exact fun e=>f4 y a z e.symm
 refine⟨m,hn.sameBut sb haC,fun h3 sb3=>?_⟩
 exact⟨_,H',I2.turned (t':=s2.toks) (fun b o hb e=>(sb3.2 b hb).trans e) f0 f1 f3 f4 f5,q⟩
theorem Zv {elt:Expr}{gs:List Comprehension}{scope:Scope}{pos py:Pos}{y:Str}{l:Nat}{env:Env} (hk:env.scope.kind=.function) (hy:env.scope.names.lookup y=some .local) (hl:(py.line == pos.line)=true)
  (ha:(scope.names.any fun (n,k)=>n == y&&(k == .local||k == .cell))=false):swapsWith (.ListComp elt gs scope pos) (some (.Name y py)) l env=pure true:=by
 have ky:env.kindOf y=some .local:=hy
 have hb:env.blockKind=.function:=by unfold Env.blockKind;rw[hk];rfl
 unfold swapsWith
 simp only[hb,ky,ha,Expr.pos,hl]
 rfl
end
theorem zdv {lo:Int}{n:Nat}{g:TG}{tt:TT}{te:TE}{vs:List Nat}{σ:St}{H1:Hp}{D:Addr}{Qd:Hp->Prop} (Pv:Nat->Hp->Prop) (h0:Pv 0 (upd H1 D (.lst [])))
  (hs:∀i H,i<n->Pv i H->g (.int (lo+i)) (y9 σ vs) H fun σ2 H2=>y9 σ2 vs=y9 σ vs/\tt σ2 H2 fun b H3=>
   if b=true then te σ2 H3 fun y H4=>∃acc,H4 D=some (.lst acc)/\acc.length<sizeLine/\Pv (i+1) (upd H4 D (.lst (acc++[y]))) else Pv (i+1) H3) (hd:∀H,Pv n H->Qd H) :
  ∃W:Nat->Nat->Hp->Prop,(∃m,W 0 m (upd H1 D (.lst [])))/\∀i m H,W i m H →
   ((Itr lo n).stop i H/\Qd H)\/((Itr lo n).go i H/\∃Nx:Hp->Prop,(∀H',Nx H'->∃m',m'<m/\W (i+1) m' H')/\∀x H',(Itr lo n).yld i H x H'->g x (y9 σ vs) H' fun σ2 H2=>y9 σ2 vs=y9 σ vs/\tt σ2 H2 fun b H3=>
    if b=true then te σ2 H3 fun y H4=>∃acc,H4 D=some (.lst acc)/\acc.length<sizeLine/\Nx (upd H4 D (.lst (acc++[y]))) else Nx H3):=by
 refine⟨fun i m H=>m=n-i/\i<=n/\Pv i H,⟨n,by simp,Uax _,h0⟩,?_⟩
 rintro i m H ⟨rfl,hi,p⟩
 by_cases hlt:i<n
 ·refine .inr ⟨hlt,Pv (i+1),fun H' p'=>⟨n-(i+1),by omega,rfl,hlt,p'⟩,fun x H' y=>?_⟩
  obtain⟨e,y⟩:=y
  subst e y
  exact hs i _ hlt p
 ·have e:i=n:=by omega
  subst e
  exact .inl ⟨Uag _,hd H p⟩
theorem zeJ {K:PySem.W.Frag}{a:Addr}{xs:List V}{g:TG}{tt:TT}{te:TE}{vs:List Nat}{σ:St}{H1:Hp}{D:Addr}{Qd:Hp->Prop} (Pv:Nat->Hp->Prop) (h0:Pv 0 (upd H1 D (.lst []))) (hl:∀i H,i<=xs.length->Pv i H->SqL K H a xs)
  (hs:∀i x H,xs[i]? = some x->Pv i H->g x (y9 σ vs) H fun σ2 H2=>y9 σ2 vs=y9 σ vs/\tt σ2 H2 fun b H3=>
   if b=true then te σ2 H3 fun y H4=>∃acc,H4 D=some (.lst acc)/\acc.length<sizeLine/\Pv (i+1) (upd H4 D (.lst (acc++[y]))) else Pv (i+1) H3) (hd:∀H,Pv xs.length H->Qd H) :
  ∃W:Nat->Nat->Hp->Prop,(∃m,W 0 m (upd H1 D (.lst [])))/\∀i m H,W i m H →
   ((Itl K a).stop i H/\Qd H)\/((Itl K a).go i H/\∃Nx:Hp->Prop,(∀H',Nx H'->∃m',m'<m/\W (i+1) m' H')/\∀x H',(Itl K a).yld i H x H'->g x (y9 σ vs) H' fun σ2 H2=>y9 σ2 vs=y9 σ vs/\tt σ2 H2 fun b H3=>
    if b=true then te σ2 H3 fun y H4=>∃acc,H4 D=some (.lst acc)/\acc.length<sizeLine/\Nx (upd H4 D (.lst (acc++[y]))) else Nx H3):=by
 refine⟨fun i m H=>m=xs.length-i/\i<=xs.length/\Pv i H,⟨xs.length,by simp,Uax _,h0⟩,?_⟩
 rintro i m H ⟨rfl,hi,p⟩
 have q:=hl i H hi p
 by_cases hlt:i<xs.length
 ·refine .inr ⟨⟨xs,xs[i],q,by simp [hlt]⟩,Pv (i+1),fun H' p'=>⟨xs.length-(i+1),by omega,rfl,hlt,p'⟩,fun x H' y=>?_⟩
  obtain⟨e,y⟩:=y
  subst e
  exact hs i x _ (y xs q) p
 ·have e:i=xs.length:=by omega
  subst e
  exact .inl ⟨⟨xs,q,Uag _⟩,hd H p⟩
end L2
namespace L2
open PySem PySem.Spec PyProof.Rows
section
variable {prog:Program}{w:World}{A:Around}{R:Result->Shared->Prop}{s:Shared}{elt t0 i0 t1 i1:Expr}{ifs0 ifs1:List Expr}{scope:Scope}{pos:Pos}{it acc:Value}{env:Env}
end
section
variable {X:Cx}
end
end L2
namespace L2
open PySem PySem.Spec PyProof.Rows
section
variable {κ:Type} [DecidableEq κ]
def xr (kvs:List (κ×V)) (k:κ):Option V:=(kvs.find? fun kv=>decide (kv.1=k)).map (·.2)
def Qn (kvs:List (κ×V)) (k:κ) (v:V):List (κ×V):=
 if (kvs.any fun kv=>decide (kv.1=k))=true then kvs.map (fun kv=>if kv.1=k then (kv.1,v) else kv) else kvs++[(k,v)]
def JU (kvs:List (κ×V)) (k:κ):List (κ×V):=kvs.filter fun kv=>decide (kv.1≠k)
theorem xk {p:κ×V}{r:List (κ×V)}{k:κ} (e:p.1=k):xr (p::r) k=some p.2:=by simp [xr,Uar,e]
theorem xg {p:κ×V}{r:List (κ×V)}{k:κ} (e:¬p.1=k):xr (p::r) k=xr r k:=by simp [xr,Uar,e]
theorem wm (k:κ):∀kvs:List (κ×V),(kvs.any fun kv=>decide (kv.1=k))=(xr kvs k).isSome
 | []=>rfl
 | p::r=>by
  rw[Uci]
  by_cases e:p.1=k
  ·simp only[xk e,Uac e,Bool.true_or,Option.isSome_some]
  ·rw[xg e,Uab e,Bool.false_or];exact wm k r
theorem qd (k j:κ) (y:V):∀kvs:List (κ×V),xr (kvs.map fun kv=>if kv.1=k then (kv.1,y) else kv) j=(xr kvs j).map fun x=>if j=k then y else x
 | []=>rfl
 | p::r=>by
  have ih:=qd k j y r
  rw[Uas]
  by_cases h:p.1=k
  ·rw[if_pos h]
   by_cases e:p.1=j
   ·rw[xk (p:=(p.1,y)) e,xk e,Option.map_some,if_pos (e.symm.trans h)]
   ·rw[xg (p:=(p.1,y)) e,xg e,ih]
  ·rw[if_neg h]
   by_cases e:p.1=j
   ·rw[xk (p:=p) e,xk e,Option.map_some,if_neg (fun z=>h (e.trans z))]
   ·rw[xg (p:=p) e,xg e,ih]
theorem wu (k j:κ) (y:V):∀kvs:List (κ×V),xr kvs k=none->xr (kvs++[(k,y)]) j=if j=k then some y else xr kvs j
 | [],_=>by
  by_cases e:k=j
  ·rw[if_pos e.symm];exact xk (p:=(k,y)) e
  ·rw[if_neg (fun z=>e z.symm)];exact xg (p:=(k,y)) e
 | p::r,hn=>by
  rw[List.cons_append]
  have hk:¬p.1=k:=fun z=>by rw[xk z] at hn;cases hn
  rw[xg hk] at hn
  have ih:=wu k j y r hn
  by_cases e:p.1=j
  ·rw[xk e,xk e,if_neg (fun z=>hk (e.trans z))]
  ·rw[xg e,xg e,ih]
theorem WI (kvs:List (κ×V)) (k j:κ) (y:V):xr (Qn kvs k y) j=if j=k then some y else xr kvs j:=by
 unfold Qn
 by_cases a:(kvs.any fun kv=>decide (kv.1=k))=true
 ·rw[if_pos a,qd]
  rw[wm] at a
  by_cases e:j=k
  ·obtain⟨x,hx⟩:=Option.isSome_iff_exists.mp a
   rw[if_pos e,e,hx,Option.map_some,if_pos rfl]
  ·rw[if_neg e]
   cases xr kvs j with
   | none=>rfl
   | some x=>rw[Option.map_some,if_neg e]
 ·rw[if_neg a]
  refine wu k j y kvs ?_
  rw[wm] at a
  cases q:xr kvs k with
  | none=>rfl
  | some x=>rw[q] at a;exact(a rfl).elim
theorem xE (kvs:List (κ×V)) (k:κ) (v:V):(Qn kvs k v).length<=kvs.length+1:=by
 unfold Qn
 split
 ·rw[Uaa];omega
 ·rw[Uaj,Uae,Ubt];omega
theorem XO.isSome_eq {o:Option V}{u:Option Value} (r:XO o u):o.isSome=u.isSome:=by
 cases o with
 | none=>cases u with
  | none=>rfl
  | some _=>exact(show False from r).elim
 | some _=>cases u with
  | none=>exact(show False from r).elim
  | some _=>rfl
theorem XO.getD {o:Option V}{u:Option Value}{d:V}{d':Value} (r:XO o u) (rd:yx d d'):yx (o.getD d) (u.getD d'):=by
 cases o with
 | none=>cases u with
  | none=>exact rd
  | some _=>exact(show False from r).elim
 | some _=>cases u with
  | none=>exact(show False from r).elim
  | some _=>exact r
theorem KV.val {kvs:List (κ×V)}{vs:List (κ×Value)} (r:KV kvs vs) (k:κ):XO (xr kvs k) (valueAt vs k):=by
 unfold KV at r
 induction r with
 | nil=>exact True.intro
 | @cons p q ps qs h t ih=>
  obtain⟨h1,h2⟩:=h
  by_cases e:p.1=k
  ·have e':q.1=k:=h1.symm.trans e
   have b:valueAt (q::qs) k=some q.2:=by simp [valueAt,Uar,e']
   rw[xk e,b];exact h2
  ·have e':¬q.1=k:=fun z=>e (h1.trans z)
   have b:valueAt (q::qs) k=valueAt qs k:=by simp [valueAt,Uar,e']
   rw[xg e,b];exact ih
theorem KV.any {kvs:List (κ×V)}{vs:List (κ×Value)} (r:KV kvs vs) (k:κ):(kvs.any fun kv=>decide (kv.1=k))=vs.any fun kv=>decide (kv.1=k):=by
 unfold KV at r
 induction r with
 | nil=>rfl
 | cons h t ih=>rw[Uci,Uci,ih,h.1]
theorem KV.repl {kvs:List (κ×V)}{vs:List (κ×Value)} (r:KV kvs vs) (k:κ) {y:V}{u:Value} (ry:yx y u) :
  KV (kvs.map fun kv=>if kv.1=k then (kv.1,y) else kv) (vs.map fun kv=>if kv.1=k then (kv.1,u) else kv):=by
 unfold KV at r ⊢
 induction r with
 | nil=>exact .nil
 | @cons p q ps qs h t ih=>
  rw[Uas,Uas]
  refine .cons ?_ ih
  obtain⟨h1,h2⟩:=h
  by_cases e:p.1=k
  ·rw[if_pos e,if_pos (h1.symm.trans e)];exact⟨h1,ry⟩
  ·rw[if_neg e,if_neg (fun z=>e (h1.trans z))];exact⟨h1,h2⟩
theorem KV.put {kvs:List (κ×V)}{vs:List (κ×Value)} (r:KV kvs vs) (k:κ) {y:V}{u:Value} (ry:yx y u):KV (Qn kvs k y) (stored vs k u):=by
 unfold Qn stored
 rw[r.any k]
 by_cases e:(vs.any fun kv=>decide (kv.1=k))=true
 ·rw[if_pos e,if_pos e];exact r.repl k ry
 ·rw[if_neg e,if_neg e];exact Paired.snoc r ⟨rfl,ry⟩
theorem KV.drop {kvs:List (κ×V)}{vs:List (κ×Value)} (r:KV kvs vs) (k:κ):KV (JU kvs k) (without vs k):=by
 unfold KV at r ⊢
 unfold JU without
 induction r with
 | nil=>exact .nil
 | @cons p q ps qs h t ih=>
  obtain⟨h1,h2⟩:=h
  rw[Uay,Uay]
  by_cases e:p.1=k
  ·have a:¬decide (p.1≠k)=true:=by simp [e]
   have b:¬decide (q.1≠k)=true:=by simp [h1.symm.trans e]
   rw[if_neg a,if_neg b];exact ih
  ·have e':¬q.1=k:=fun z=>e (h1.trans z)
   have a:decide (p.1≠k)=true:=by simp [e]
   have b:decide (q.1≠k)=true:=by simp [e']
   rw[if_pos a,if_pos b];exact .cons ⟨h1,h2⟩ ih
theorem KV.length {kvs:List (κ×V)}{vs:List (κ×Value)} (r:KV kvs vs):kvs.length=vs.length:=Paired.length r
theorem Wd (kvs:List (κ×V)) (k:κ):(JU kvs k).length<=kvs.length:=Uan _ _
end
theorem Qx {P:Program}{w:World}{k:Key}{u:Value} (r:yx (kV k) u):(zI P w).is k u=true:=by
 cases k with
 | inl i=>obtain⟨t,e⟩:=(show ∃t,u=Value.int i t from r);subst e;exact K3 P w i t
 | inr x=>obtain⟨t,e⟩:=(show ∃t,u=Value.str x t from r);subst e;exact Vr P w x t
theorem Kp {P:Program}{w:World}:∀{ks:List Key}{us:List Value},ym (ks.map kV) us->ItemsAre (zI P w) ks us
 | [],_,r=>by rw[Ucx] at r;cases r;exact .nil
 | k::ks,_,r=>by
  rw[Uas] at r
  cases r with
  | cons h t=>exact .cons (Qx h) (Kp t)
abbrev KT (H:Hp):List (List Key×V)->List (List Key×Addr×Value)->Prop:=Paired fun p q=>p.1=q.1/\H q.2.1=some (.tup (p.1.map kV))/\yx p.2 q.2.2
theorem KT.val {H:Hp}{kvs:List (List Key×V)}{xs:List (List Key×Addr×Value)} (r:KT H kvs xs) (k:List Key):XO (xr kvs k) ((atKey xs k).map (·.2)):=by
 induction r with
 | nil=>exact True.intro
 | @cons p q ps qs h t ih=>
  obtain⟨h1,_,h2⟩:=h
  by_cases e:p.1=k
  ·have e':q.1=k:=h1.symm.trans e
   have b:atKey (q::qs) k=some q.2:=by simp [atKey,Uar,e']
   rw[xk e,b];exact h2
  ·have e':¬q.1=k:=fun z=>e (h1.trans z)
   have b:atKey (q::qs) k=atKey qs k:=by simp [atKey,Uar,e']
   rw[xg e,b];exact ih
theorem KT.repl {H:Hp}{kvs:List (List Key×V)}{xs:List (List Key×Addr×Value)} (r:KT H kvs xs) (k:List Key) {y:V}{u:Value} (ry:yx y u) :
  KT H (kvs.map fun kv=>if kv.1=k then (kv.1,y) else kv) (xs.map (putAt k u)):=by
 induction r with
 | nil=>exact .nil
 | @cons p q ps qs h t ih=>
  rw[Uas,Uas]
  refine .cons ?_ ih
  obtain⟨h1,h2,h3⟩:=h
  unfold putAt
  by_cases e:p.1=k
  ·rw[if_pos e,if_pos (h1.symm.trans e)];exact⟨h1,h2,ry⟩
  ·rw[if_neg e,if_neg (fun z=>e (h1.trans z))];exact⟨h1,h2,h3⟩
theorem KT.put {H:Hp}{kvs:List (List Key×V)}{xs:List (List Key×Addr×Value)} (r:KT H kvs xs) (k:List Key) {b:Addr}{y:V}{u:Value} (hb:H b=some (.tup (k.map kV))) (ry:yx y u) :
  KT H (Qn kvs k y) (storedH xs k b u):=by
 have e:(kvs.any fun kv=>decide (kv.1=k))=(atKey xs k).isSome:=by
  rw[wm,(r.val k).isSome_eq,Ucr]
 unfold Qn storedH
 rw[e]
 by_cases q:(atKey xs k).isSome=true
 ·rw[if_pos q,if_pos q];exact r.repl k ry
 ·rw[if_neg q,if_neg q];exact Paired.snoc r ⟨rfl,hb,ry⟩
theorem KT.keeps {H H':Hp}{kvs:List (List Key×V)}{xs:List (List Key×Addr×Value)} (r:KT H kvs xs) (ht:∀b ys,H b=some (.tup ys)->H' b=some (.tup ys)):KT H' kvs xs:=
 Paired.mapP r fun _ _ z=>⟨z.1,ht _ _ z.2.1,z.2.2⟩
section
variable {P:Program}{w:World}{H:Hp}{h:Heap}{a:Addr}
theorem zgj {u:HO} (ok:HOk P w H h) (e:Rd H a u):xU P w H h a u:=e.ok ok
theorem Zn {kvs:List (Key×V)} (ok:HOk P w H h) (e:Rd H a (.dK kvs)):kvs.length<=sizeLine/\(a == sysModules)=false/\∃vs,KV kvs vs/\h.DictOf (zI P w) a vs:=
 show xU P w H h a (.dK kvs) from zgj ok e
theorem zeM {kvs:List (Key×V)} (ok:HOk P w H h) (e:H a=some (.dK kvs)):kvs.length<=sizeLine/\(a == sysModules)=false/\∃vs,KV kvs vs/\h.DictOf (zI P w) a vs:=Zn ok (.inl e)
theorem Z8 {ks:List Key} (ok:HOk P w H h) (e:H a=some (.tup (ks.map kV))):(tupleKind (zI P w)).is h ks a:=by
 obtain⟨_,its,r,o,h1,h2,n,h3⟩:=(show xU P w H h a (.tup (ks.map kV)) from ok a _ e)
 exact⟨o,its.toArray,n,h1,h2,h3,by simpa using Kp r⟩
theorem KJ {kvs:List (List Key×V)} (ok:HOk P w H h) (e:Rd H a (.dT kvs)):kvs.length<=sizeLine/\(a == sysModules)=false ∧
  ∃xs,KT H kvs xs/\h.DictOfH (tupleKind (zI P w)) a xs:=by
 obtain⟨z,y,xs,r,o,es,ep,h1,h2,h3,h4,h5⟩:=(show xU P w H h a (.dT kvs) from zgj ok e)
 refine⟨z,y,xs,r,o,es,ep,h1,h2,h3,h4,fun x hx=>?_,h5⟩
 have all:∀{l:List (List Key×V)}{m:List (List Key×Addr×Value)},KT H l m->∀x∈m,(tupleKind (zI P w)).is h x.1 x.2.1:=by
  intro l m q
  induction q with
  | nil=>intro x hx;exact nomatch hx
  | @cons p q ps qs hq t ih=>
   intro x hx
   rcases Uaf.mp hx with e | hx
   ·subst e
    exact Z8 ok (by rw[←hq.1];exact hq.2.1)
   ·exact ih x hx
 exact all r x hx
theorem zia {kvs:List (List Key×V)} (ok:HOk P w H h) (e:H a=some (.dT kvs)):kvs.length<=sizeLine/\(a == sysModules)=false ∧
  ∃xs,KT H kvs xs/\h.DictOfH (tupleKind (zI P w)) a xs:=KJ ok (.inl e)
end
def Qw (H:Hp) (a:Addr) (y:V) (r:Option V):Prop:=
 (∃kvs k,Rd H a (.dK kvs)/\y=kV k/\r=xr kvs k)\/∃kvs k b,Rd H a (.dT kvs)/\y=.ref b/\H b=some (.tup (k.map kV))/\r=xr kvs k
def zhe (H:Hp) (a:Addr) (y v:V) (H':Hp):Prop:=
 (∃kvs k,H a=some (.dK kvs)/\y=kV k/\kvs.length<sizeLine/\H'=upd H a (.dK (Qn kvs k v))) ∨
 ∃kvs k b,H a=some (.dT kvs)/\y=.ref b/\H b=some (.tup (k.map kV))/\kvs.length<sizeLine/\H'=upd H a (.dT (Qn kvs k v))
section
variable {X:Cx}{pins:List (Addr×Obj)}{σ:St}{H:Hp}{s:Shared}{a:Addr}{y v:V}{u r:Value}{o:Option V}{A:Around}{E:Value->Shared->Prop}
theorem Inv.big (I:Inv X pins σ H s):sysModules<s.heap.objs.size:=by
 have h:mainGlobals<s.heap.objs.size:=(I.mod.glob.keeps I.bk).lt
 exact Nat.lt_trans (by decide) h
theorem zbk {Q:Value->Shared->Prop} (hu:A.units+1<cLine) (I:Inv X pins σ H s) (g:Qw H a y (some v)) (ry:yx y u) (h:∀w' s',Inv X pins σ H s'->yx v w'->Q w' s') :
  wpAny (model X.prog X.w) A (getItem (.ref a) u) Q E s:=by
 rcases g with ⟨kvs,k,e,ey,l⟩ | ⟨kvs,k,b,e,ey,eb,l⟩
 ·subst ey
  obtain⟨z,hd,vs,rel,dd⟩:=Zn I.hok e
  obtain⟨w',hw,rw'⟩:=XO.some_of (v:=v) (o:=valueAt vs k) (by rw[l];exact rel.val k)
  exact wpAny_getItem_of (Qx ry) dd.mapOf hw (h w' _ (I.tok _) rw')
 ·subst ey
  cases (show u=Value.ref b from ry)
  obtain⟨z,hd,xs,rel,dd⟩:=KJ I.hok e
  obtain⟨w',hw,rw'⟩:=XO.some_of (v:=v) (o:=(atKey xs k).map (·.2)) (by rw[l];exact rel.val k)
  obtain⟨p,hp,hp2⟩:=Ubz.mp hw
  refine wpAny_getItem_heap (tupleKind_room_in1 hu) (Z8 I.hok eb) dd hp ?_
  rw[hp2]
  exact h w' _ (I.tok _) rw'
theorem ziQ {Q:Value->Shared->Prop} (hu:A.units+1<cLine) (I:Inv X pins σ H s) (g:Qw H a y o) (ry:yx y u) (h:∀s',Inv X pins σ H s'->Q (.bool o.isSome) s') :
  wpAny (model X.prog X.w) A (compareOp .In u (.ref a)) Q E s:=by
 rcases g with ⟨kvs,k,e,ey,l⟩ | ⟨kvs,k,b,e,ey,eb,l⟩
 ·subst ey
  obtain⟨z,hd,vs,rel,dd⟩:=Zn I.hok e
  refine wpAny_in_of (Qx ry) hd dd.mapOf ?_
  rw[←(rel.val k).isSome_eq,←l]
  exact h _ (I.tok _)
 ·subst ey
  cases (show u=Value.ref b from ry)
  obtain⟨z,hd,xs,rel,dd⟩:=KJ I.hok e
  refine wpAny_in_heap (tupleKind_room_in1 hu) (Z8 I.hok eb) hd dd ?_
  have q:=(rel.val k).isSome_eq
  rw[Ucr] at q
  rw[←q,←l]
  exact h _ (I.tok _)
theorem zeD {Q:Value->Shared->Prop} (hu:A.units+1<cLine) (I:Inv X pins σ H s) (g:Qw H a y o) (ry:yx y u) (h:∀s',Inv X pins σ H s'->Q (.bool (!o.isSome)) s') :
  wpAny (model X.prog X.w) A (compareOp .NotIn u (.ref a)) Q E s:=by
 rcases g with ⟨kvs,k,e,ey,l⟩ | ⟨kvs,k,b,e,ey,eb,l⟩
 ·subst ey
  obtain⟨z,hd,vs,rel,dd⟩:=Zn I.hok e
  refine wpAny_notIn_of (Qx ry) hd dd.mapOf ?_
  rw[←(rel.val k).isSome_eq,←l]
  exact h _ (I.tok _)
 ·subst ey
  cases (show u=Value.ref b from ry)
  obtain⟨z,hd,xs,rel,dd⟩:=KJ I.hok e
  refine wpAny_notIn_heap (tupleKind_room_in1 hu) (Z8 I.hok eb) hd dd ?_
  have q:=(rel.val k).isSome_eq
  rw[Ucr] at q
  rw[←q,←l]
  exact h _ (I.tok _)
theorem Vi {h':Heap}{t':Nat}{ob:HO} (I:Inv X pins σ H s) (mu:Mut (H a)) (hs:Heap.SameBut a s.heap h') (he:∃q,h'.get? a=some q) (new:xU X.prog X.w (upd H a ob) h' a ob) :
  Inv X pins σ (upd H a ob) { s with heap:=h',toks:=t' }:=
 I.write (x:=a) (e:=a) mu (.inl rfl) (fun b q hb z=>(hs.2 b hb).trans z) he new
theorem zdW {P:Program}{w:World}{H':Hp}{h':Heap}{kvs:List (Key×V)}{vs:List (Key×Value)} (z:kvs.length<=sizeLine) (hd:(a == sysModules)=false) (rel:KV kvs vs) (dd:h'.DictOf (zI P w) a vs) :
  xU P w H' h' a (.dK kvs):=⟨z,hd,vs,rel,dd⟩
theorem zcH {H':Hp}{Q:Unit->Shared->Prop} (hu:A.units+1<cLine) (I:Inv X pins σ H s) (g:zhe H a y v H') (ry:yx y u) (rv:yx v r) (h:∀s',Inv X pins σ H' s'->Q () s') :
  wpAny (model X.prog X.w) A (setItem (.ref a) u r) Q E s:=by
 rcases g with ⟨kvs,k,e,ey,l,eH⟩ | ⟨kvs,k,b,e,ey,eb,l,eH⟩
 ·subst ey eH
  obtain⟨z,hd,vs,rel,dd⟩:=zeM I.hok e
  have hz:vs.length<=sizeLine:=by rw[←rel.length];exact z
  have hl:(Qn kvs k v).length<=sizeLine:=by have:=xE kvs k v;omega
  refine wpAny_setItem_pairs (hsz:=hz) (Qx ry) dd fun h' dd' hs=>h _ ?_
  have he:∃q,h'.get? a=some q:=let ⟨q,_,_,hq,_⟩:=dd';⟨q,hq⟩
  exact Vi I (by rw[e];exact True.intro) hs he (zdW hl hd (rel.put k rv) dd')
 ·subst ey eH
  cases (show u=Value.ref b from ry)
  obtain⟨z,hd,xs,rel,dd⟩:=zia I.hok e
  have hz:xs.length<=sizeLine:=by rw[←Paired.length rel];exact z
  have hl:(Qn kvs k v).length<=sizeLine:=by have:=xE kvs k v;omega
  refine wpAny_setItem_heap (hsz:=hz) (tupleKind_room_in1 hu) (Z8 I.hok eb) dd fun h' dd' hs=>h _ ?_
  obtain⟨q,es,ep,hq,h2,h3,h4,_,h5⟩:=dd'
  refine Vi I (by rw[e];exact True.intro) hs ⟨q,hq⟩ ⟨hl,hd,_,(rel.put k eb rv).keeps fun c ys ec=>?_,q,es,ep,hq,h2,h3,h4,h5⟩
  rw[zh (zT ec e (fun z=>nomatch z))]
  exact ec
end
section
variable {X:Cx}{pins:List (Addr×Obj)}{σ:St}{H:Hp}{s:Shared}{a:Addr}{kvs:List (Key×V)}{k:Key}{u:Value}{A:Around}{E:Value->Shared->Prop}
theorem zhE {v:V}{more:List Value}{Q:Value->Shared->Prop} (I:Inv X pins σ H s) (e:H a=some (.dK kvs)) (ry:yx (kV k) u) (l:xr kvs k=some v) (hm:more=[]\/∃x,more=[x])
  (h:∀w' s',Inv X pins σ (upd H a (.dK (JU kvs k))) s'->yx v w'->Q w' s'):wpAny (model X.prog X.w) A (call (.builtin "dict.pop") (.ref a::u::more)) Q E s:=by
 obtain⟨z,hd,vs,rel,dd⟩:=zeM I.hok e
 obtain⟨w',hw,rw'⟩:=XO.some_of (v:=v) (o:=valueAt vs k) (by rw[←l];exact rel.val k)
 have hp:(keyPart u).isSome=true:=by
  cases k with
  | inl i=>obtain⟨t,q⟩:=(show ∃t,u=Value.int i t from ry);subst q;rfl
  | inr x=>obtain⟨t,q⟩:=(show ∃t,u=Value.str x t from ry);subst q;rfl
 have ha:argsOk "dict.pop" ⟨.ref a::u::more,[]⟩:=by
  rcases hm with q | ⟨x,q⟩
  ·subst q;exact PySem.F.args_dict_pop_2 _ _
  ·subst q;exact PySem.F.args_dict_pop_3 _ _ _
 refine call_meetsIn PySem.F.slot_dict_pop dd.typeIs PySem.F.entry_dict_pop ha (meets_dict_pop_there (zI X.prog X.w) a (Qx ry) more hm hp)
  ⟨vs,w',dd,by rw[←rel.length];exact z,hw,fun h' dd' hs=>h w' _ ?_ rw'⟩
 have he:∃q,h'.get? a=some q:=let ⟨q,_,_,hq,_⟩:=dd';⟨q,hq⟩
 exact Vi I (by rw[e];exact True.intro) hs he (zdW (Ubb (Wd kvs k) z) hd (rel.drop k) dd')
theorem zgp {r:Value}{Q:Value->Shared->Prop} (I:Inv X pins σ H s) (e:H a=some (.dK kvs)) (ry:yx (kV k) u) (l:xr kvs k=none) (h:∀s',Inv X pins σ H s'->Q r s') :
  wpAny (model X.prog X.w) A (call (.builtin "dict.pop") [.ref a,u,r]) Q E s:=by
 obtain⟨z,hd,vs,rel,dd⟩:=zeM I.hok e
 have hn:valueAt vs k=none:=XO.none_of (by rw[←l];exact rel.val k)
 have hp:(keyPart u).isSome=true:=by
  cases k with
  | inl i=>obtain⟨t,q⟩:=(show ∃t,u=Value.int i t from ry);subst q;rfl
  | inr x=>obtain⟨t,q⟩:=(show ∃t,u=Value.str x t from ry);subst q;rfl
 exact call_meetsIn PySem.F.slot_dict_pop dd.typeIs PySem.F.entry_dict_pop (PySem.F.args_dict_pop_3 _ _ _) (meets_dict_pop_default (zI X.prog X.w) a (Qx ry) hd hp r) ⟨vs,dd,hn,h _ (I.tok _)⟩
theorem zht {Q:Value->Shared->Prop} (I:Inv X pins σ H s) (e:Rd H a (.dK kvs)) (h:∀t s',Inv X pins σ H s'->Q (.int kvs.length t) s'):wpAny (model X.prog X.w) A (call (.builtin "len") [.ref a]) Q E s:=by
 obtain⟨z,hd,vs,rel,dd⟩:=Zn I.hok e
 refine call_len_dict hd dd (by rw[←rel.length];rw[sizeLine_eq] at z;omega) ?_
 rw[←rel.length]
 exact h _ _ (I.tok _)
end
def zhi (i:Expr):Prop:=∀ov iv,subscripted i false ov iv=operate [ov,iv] (getItem ov iv)
theorem zcK {prog:Program}{w:World}{A:Around}{E:Value->Shared->Prop}{s:Shared}{env:Env}{value slice:Expr}{pos:Pos}{T id:String}{Q:Value->Shared->Prop}
  (hl:typeLookup (.type T) "__getitem__" = pure (some (.builtin id))) (hs:zhi slice)
  (h:wpAny (model prog w) A (eval value env) (fun o s₁=>wpAny (model prog w) A (eval slice env) (fun i s₂=>s₂.TypeIs o T/\wpAny (model prog w) A (getItem o i) Q E s₂) E s₁) E s) :
  wpAny (model prog w) A (eval (.Subscript value slice pos) env) Q E s:=by
 refine Subscript_ (wpAny_mono h (fun o s₁ h₁=>wpAny_mono h₁ (fun i s₂ h₂=>?_) fun _ _ x=>x) fun _ _ x=>x)
 obtain⟨hT,h₂⟩:=h₂
 unfold subscriptTail
 refine wpAny_bind ?_
 rw[getitemInPython_of_ne hT.not_modules]
 refine wpAny_bind (wpAny_specialOf hT hl ?_)
 have fin:wpAny (model prog w) A (subscripted slice false o i) (fun r s₃=>wpAny (model prog w) A (letTemporaryGo value o r >>= fun _=>pure r) Q E s₃) E s₂:=by
  rw[hs o i]
  exact wpAny_operating (wpAny_mono h₂ (fun r s₃ h₃=>wpAny_bind (wpAny_letTemporaryGo (wpAny_pure h₃))) fun _ _ x=>x)
 first
  | exact wpAny_pure (wpAny_bind fin)
  | exact wpAny_bind (wpAny_pure (wpAny_bind fin))
  | exact wpAny_bind fin
theorem VG {X:Cx}{pins:List (Addr×Obj)}{σ:St}{H:Hp}{s:Shared}{a:Addr}{y:V}{o:Option V} (I:Inv X pins σ H s) (g:Qw H a y o):s.TypeIs (.ref a) "dict":=by
 rcases g with ⟨kvs,k,e,_,_⟩ | ⟨kvs,k,b,e,_,_,_⟩
 ·obtain⟨_,_,vs,_,dd⟩:=Zn I.hok e
  exact dd.typeIs
 ·obtain⟨_,_,xs,_,dd⟩:=KJ I.hok e
  exact dd.typeIs
def zgS (td ty:TE):TE:=fun σ H Q=>td σ H fun x H1=>ty σ H1 fun y H2=>∃a v,x=.ref a/\Qw H2 a y (some v)/\Q v H2
def ziu (ty td:TE):TE:=fun σ H Q=>ty σ H fun y H1=>td σ H1 fun x H2=>∃a o,x=.ref a/\Qw H2 a y o/\Q (.bl o.isSome) H2
def zcc (ty td:TE):TE:=fun σ H Q=>ty σ H fun y H1=>td σ H1 fun x H2=>∃a o,x=.ref a/\Qw H2 a y o/\Q (.bl (!o.isSome)) H2
def zgr (td ty tv:TE):TS:=fun D σ H=>tv σ H fun v H1=>td σ H1 fun x H2=>ty σ H2 fun y H3=>∃a H4,x=.ref a/\zhe H3 a y v H4/\D.nx σ H4
section
variable {X:Cx}{o i e value:Expr}{pos pos' tpos:Pos}{td ty tv:TE}
theorem yS (hu:X.A.units+1<cLine) (ho:PE X o td) (hi:PE X i ty) (hs:zhi i):PE X (.Subscript o i pos) (zgS td ty):=by
 intro pins s σ H Q I h
 refine zcK PySem.F.slot_dict_getitem.lookup hs (thn (ho pins s σ H _ I h) fun u s1 ⟨x,H1,I1,rx,q1⟩=>thn (hi pins s1 σ H1 _ I1 q1) fun iv s2 ⟨y,H2,I2,ry,a,v,ex,g,q2⟩=>?_)
 subst ex
 obtain rfl:u=Value.ref a:=rx
 exact⟨VG I2 g,zbk hu I2 g ry fun w' s3 I3 rw'=>⟨v,H2,I3,rw',q2⟩⟩
theorem qy (hu:X.A.units+1<cLine) (hi:PE X i ty) (ho:PE X o td):PC X .In i o (ziu ty td):=by
 intro pins s σ H Q I h
 refine thn (hi pins s σ H _ I h) fun iv s1 ⟨y,H1,I1,ry,q1⟩=>thn (ho pins s1 σ H1 _ I1 q1) fun u s2 ⟨x,H2,I2,rx,a,ov,ex,g,q2⟩=>?_
 subst ex
 obtain rfl:u=Value.ref a:=rx
 exact ziQ hu I2 g ry fun s3 I3=>⟨.bl ov.isSome,H2,I3,rfl,q2⟩
theorem jU (hu:X.A.units+1<cLine) (hi:PE X i ty) (ho:PE X o td):PC X .NotIn i o (zcc ty td):=by
 intro pins s σ H Q I h
 refine thn (hi pins s σ H _ I h) fun iv s1 ⟨y,H1,I1,ry,q1⟩=>thn (ho pins s1 σ H1 _ I1 q1) fun u s2 ⟨x,H2,I2,rx,a,ov,ex,g,q2⟩=>?_
 subst ex
 obtain rfl:u=Value.ref a:=rx
 exact zeD hu I2 g ry fun s3 I3=>⟨.bl (!ov.isSome),H2,I3,rfl,q2⟩
theorem qM (hu:X.A.units+1<cLine) (ho:PE X o td) (hi:PE X i ty) (hv:PE X value tv) (hs:swapsWith value (some (.Subscript o i pos')) pos.line X.env=pure false) :
  PS X (.Assign [.Subscript o i pos'] value pos) (zgr td ty tv):=by
 intro pins s σ H D I h
 refine wpAny_Assign_Subscript (thn (hv pins s σ H _ I h) fun r s1 ⟨v,H1,I1,rv,q1⟩=>thn (ho pins s1 σ H1 _ I1 q1) fun u s2 ⟨x,H2,I2,rx,q2⟩=>thn (hi pins s2 σ H2 _ I2 q2) fun iv s3 ⟨y,H3,I3,ry,a,H4,ex,g,q3⟩=>?_) hs
 subst ex
 obtain rfl:u=Value.ref a:=rx
 exact zcH hu I3 g ry rv fun s4 I4=>⟨σ,H4,I4,q3⟩
end
theorem zde {P:Program}{w:World}{H:Hp} (h:Heap) (hb:sysModules<h.objs.size):xU P w H (h.push { cls:=.type "dict",data:=.dict #[] }) h.objs.size (.dK []):=
 ⟨Uax _,Ubi.mpr (Ne.symm (Uba hb)),[],.nil,Heap.DictOf.new h⟩
def zd2:TE:=fun _ H Q=>∀p,H p=none->Q (.ref p) (upd H p (.dK []))
section
variable {X:Cx}{pos:Pos}
theorem jC:PE X (.Dict [] [] pos) zd2:=fun pins s σ H Q I h=>
 wpAny_Dict_empty ⟨.ref s.heap.objs.size,_,I.laid (a:=s.heap.objs.size) (o:=.dK []) (t':=s.toks) (fun _ _ q=>Heap.get?_push_of_some _ q) (Uag _) (zde s.heap I.big),rfl,h _ (I.hok.fresh (Uag _))⟩
end
structure M1 (X:Cx) (o:Expr) (m:Str) (apos:Pos) (e:Expr) (cpos:Pos):Prop where
 base:attributeBase o m X.env (eval o X.env)=eval o X.env
 few:((backTo cpos (starEach [e] X.env)).all (fun x=>!x.1)&&(backToKw cpos (keywordEach [] X.env)).all (fun x=>x.1.isSome)
  && decide (([e]:List Expr).length+([]:List Keyword).length+(if ([]:List Keyword).isEmpty then 0 else 1)<30))=true
 line:(apos.endLine == cpos.line)=true
 trees:backTo cpos (starEach [e] X.env)=[(false,eval e X.env)]
structure M2 (X:Cx) (o:Expr) (m:Str) (apos:Pos) (e f:Expr) (cpos:Pos):Prop where
 base:attributeBase o m X.env (eval o X.env)=eval o X.env
 few:((backTo cpos (starEach [e,f] X.env)).all (fun x=>!x.1)&&(backToKw cpos (keywordEach [] X.env)).all (fun x=>x.1.isSome)
  && decide (([e,f]:List Expr).length+([]:List Keyword).length+(if ([]:List Keyword).isEmpty then 0 else 1)<30))=true
 line:(apos.endLine == cpos.line)=true
 trees:backTo cpos (starEach [e,f] X.env)=[(false,eval e X.env),(false,eval f X.env)]
def IsD (H:Hp) (a:Addr):Prop:=(∃kvs,Rd H a (.dK kvs))\/∃kvs,Rd H a (.dT kvs)
theorem za1 {X:Cx}{pins:List (Addr×Obj)}{σ:St}{H:Hp}{s:Shared}{a:Addr} (I:Inv X pins σ H s) (d:IsD H a) :
  s.TypeIs (.ref a) "dict"/\(∀b,Value.ref a=.ref b->∃ob,s.heap.get? b=some ob/\ob.dict=none)/\(a == sysModules)=false:=by
 rcases d with ⟨kvs,e⟩ | ⟨kvs,e⟩
 ·obtain⟨_,hd,vs,_,dd⟩:=Zn I.hok e
  refine⟨dd.typeIs,fun b q=>?_,hd⟩
  cases q
  obtain⟨ob,_,_,h1,h2,_⟩:=dd
  exact⟨ob,h1,h2.2.1⟩
 ·obtain⟨_,hd,xs,_,dd⟩:=KJ I.hok e
  refine⟨dd.typeIs,fun b q=>?_,hd⟩
  cases q
  obtain⟨ob,_,_,h1,h2,_⟩:=dd
  exact⟨ob,h1,h2.2.1⟩
section
variable {X:Cx}{pins:List (Addr×Obj)}{σ:St}{H:Hp}{s:Shared}{a:Addr}{y d:V}{u r:Value}{o:Option V}{A:Around}{E:Value->Shared->Prop}
theorem zgL {Q:Value->Shared->Prop} (hu:A.units+1<cLine) (I:Inv X pins σ H s) (g:Qw H a y o) (ry:yx y u) (h:∀w' s',Inv X pins σ H s'->yx (o.getD .non) w'->Q w' s') :
  wpAny (model X.prog X.w) A (call (.builtin "dict.get") [.ref a,u]) Q E s:=by
 rcases g with ⟨kvs,k,e,ey,l⟩ | ⟨kvs,k,b,e,ey,eb,l⟩
 ·subst ey
  obtain⟨z,hd,vs,rel,dd⟩:=Zn I.hok e
  refine call_meetsIn PySem.F.slot_dict_get dd.typeIs PySem.F.entry_dict_get (PySem.F.args_dict_get_2 _ _) (meets_dict_get (zI X.prog X.w) a (Qx ry) hd) ⟨_,dd.mapOf,h _ _ (I.tok _) ?_⟩
  rw[l]
  exact(rel.val k).getD rfl
 ·subst ey
  cases (show u=Value.ref b from ry)
  obtain⟨z,hd,xs,rel,dd⟩:=KJ I.hok e
  refine call_meetsIn PySem.F.slot_dict_get dd.typeIs PySem.F.entry_dict_get (PySem.F.args_dict_get_2 _ _) (meetsH_dict_get (tupleKind (zI X.prog X.w)) a b hd) ⟨tupleKind_room_in1 hu,k,xs,Z8 I.hok eb,dd,h _ _ (I.tok _) ?_⟩
  rw[l]
  exact(rel.val k).getD rfl
theorem zgo {Q:Value->Shared->Prop} (hu:A.units+1<cLine) (I:Inv X pins σ H s) (g:Qw H a y o) (ry:yx y u) (rd:yx d r) (h:∀w' s',Inv X pins σ H s'->yx (o.getD d) w'->Q w' s') :
  wpAny (model X.prog X.w) A (call (.builtin "dict.get") [.ref a,u,r]) Q E s:=by
 rcases g with ⟨kvs,k,e,ey,l⟩ | ⟨kvs,k,b,e,ey,eb,l⟩
 ·subst ey
  obtain⟨z,hd,vs,rel,dd⟩:=Zn I.hok e
  refine call_meetsIn PySem.F.slot_dict_get dd.typeIs PySem.F.entry_dict_get (PySem.F.args_dict_get_3 _ _ _) (meets_dict_get_default (zI X.prog X.w) a (Qx ry) hd r) ⟨_,dd.mapOf,h _ _ (I.tok _) ?_⟩
  rw[l]
  exact(rel.val k).getD rd
 ·subst ey
  cases (show u=Value.ref b from ry)
  obtain⟨z,hd,xs,rel,dd⟩:=KJ I.hok e
  refine call_meetsIn PySem.F.slot_dict_get dd.typeIs PySem.F.entry_dict_get (PySem.F.args_dict_get_3 _ _ _) (meetsH_dict_get_default (tupleKind (zI X.prog X.w)) a b hd r) ⟨tupleKind_room_in1 hu,k,xs,Z8 I.hok eb,dd,h _ _ (I.tok _) ?_⟩
  rw[l]
  exact(rel.val k).getD rd
end
def zd0 (td ty:TE):TE:=fun σ H Q=>td σ H fun x H1=>∃a,x=.ref a/\IsD H1 a/\ty σ H1 fun y H2=>∃o,Qw H2 a y o/\Q (o.getD .non) H2
def zd5 (td ty tx:TE):TE:=fun σ H Q=>td σ H fun x H1=>∃a,x=.ref a/\IsD H1 a/\ty σ H1 fun y H2=>tx σ H2 fun z H3=>∃o,Qw H3 a y o/\Q (o.getD z) H3
def zen (td ty tx:TE):TE:=fun σ H Q=>td σ H fun x H1=>∃a,x=.ref a/\IsD H1 a/\ty σ H1 fun y H2=>tx σ H2 fun z H3=>∃kvs k,H3 a=some (.dK kvs)/\y=kV k ∧
 (∀v,xr kvs k=some v->Q v (upd H3 a (.dK (JU kvs k))))/\(xr kvs k=none->Q z H3)
section
variable {X:Cx}{o e f:Expr}{apos cpos:Pos}{td ty tx:TE}
theorem zdp (hu:X.A.units+1<cLine) (ho:PE X o td) (he:PE X e ty) (m:M1 X o "get" apos e cpos):PE X (.Call (.Attribute o "get" apos) [e] [] cpos) (zd0 td ty):=by
 intro pins s σ H Q I h
 refine wpAny_Call_method m.base m.few m.line PySem.F.plainAttrs_dict PySem.F.slot_dict_get PySem.F.type_dict_get (thn (ho pins s σ H _ I h) fun u s1 ⟨x,H1,I1,rx,a,ex,d,q1⟩=>?_)
 subst ex
 obtain rfl:u=Value.ref a:=rx
 obtain⟨t1,t2,_⟩:=za1 I1 d
 refine⟨t1,t2,?_⟩
 rw[m.trees]
 refine Calls.callWith_builtin rfl (Calls.evalArgs_plain (Calls.spliced_cons (thn (he pins s1 σ H1 _ I1 q1) fun iv s2 ⟨y,H2,I2,ry,ov,g,q2⟩=>Calls.spliced_nil ?_)))
 exact zgL hu I2 g ry fun w' s3 I3 rw'=>⟨_,H2,I3,rw',q2⟩
theorem ZY (hu:X.A.units+1<cLine) (ho:PE X o td) (he:PE X e ty) (hf:PE X f tx) (m:M2 X o "get" apos e f cpos):PE X (.Call (.Attribute o "get" apos) [e,f] [] cpos) (zd5 td ty tx):=by
 intro pins s σ H Q I h
 refine wpAny_Call_method m.base m.few m.line PySem.F.plainAttrs_dict PySem.F.slot_dict_get PySem.F.type_dict_get (thn (ho pins s σ H _ I h) fun u s1 ⟨x,H1,I1,rx,a,ex,d,q1⟩=>?_)
 subst ex
 obtain rfl:u=Value.ref a:=rx
 obtain⟨t1,t2,_⟩:=za1 I1 d
 refine⟨t1,t2,?_⟩
 rw[m.trees]
 refine Calls.callWith_builtin rfl (Calls.evalArgs_plain (Calls.spliced_cons (thn (he pins s1 σ H1 _ I1 q1) fun iv s2 ⟨y,H2,I2,ry,q2⟩=>
  Calls.spliced_cons (thn (hf pins s2 σ H2 _ I2 q2) fun fv s3 ⟨z,H3,I3,rz,ov,g,q3⟩=>Calls.spliced_nil ?_))))
 exact zgo hu I3 g ry rz fun w' s4 I4 rw'=>⟨_,H3,I4,rw',q3⟩
theorem zdb (ho:PE X o td) (he:PE X e ty) (hf:PE X f tx) (m:M2 X o "pop" apos e f cpos):PE X (.Call (.Attribute o "pop" apos) [e,f] [] cpos) (zen td ty tx):=by
 intro pins s σ H Q I h
 refine wpAny_Call_method m.base m.few m.line PySem.F.plainAttrs_dict PySem.F.slot_dict_pop PySem.F.type_dict_pop (thn (ho pins s σ H _ I h) fun u s1 ⟨x,H1,I1,rx,a,ex,d,q1⟩=>?_)
 subst ex
 obtain rfl:u=Value.ref a:=rx
 obtain⟨t1,t2,_⟩:=za1 I1 d
 refine⟨t1,t2,?_⟩
 rw[m.trees]
 refine Calls.callWith_builtin rfl (Calls.evalArgs_plain (Calls.spliced_cons (thn (he pins s1 σ H1 _ I1 q1) fun iv s2 ⟨y,H2,I2,ry,q2⟩=>
  Calls.spliced_cons (thn (hf pins s2 σ H2 _ I2 q2) fun fv s3 ⟨z,H3,I3,rz,kvs,k,ea,ey,q3,q4⟩=>Calls.spliced_nil ?_))))
 subst ey
 cases l:xr kvs k with
 | some v=>exact zhE I3 ea ry l (.inr ⟨fv,rfl⟩) fun w' s4 I4 rw'=>⟨v,_,I4,rw',q3 v l⟩
 | none=>exact zgp I3 ea ry l fun s4 I4=>⟨z,H3,I4,rz,q4 l⟩
end
section
variable {X:Cx}{pins:List (Addr×Obj)}{σ:St}{H:Hp}{s:Shared}{a:Addr}{kvs:List (Key×V)}{A:Around}{E:Value->Shared->Prop}
end
section
variable {X:Cx}{pins:List (Addr×Obj)}{σ:St}{H:Hp}{s:Shared}{a:Addr}{y:V}{u:Value}{A:Around}{E:Value->Shared->Prop}
end
end L2
namespace L2
open PySem PySem.Spec PyProof.Rows
section
variable {prog:Program}{w:World}{A:Around}{E:Value->Shared->Prop}
end
section
variable {X:Cx}
end
end L2
namespace L2
open PySem PySem.Spec PyProof.Rows
section
variable {X:Cx}{pins:List (Addr×Obj)}{σ:St}{H:Hp}{s:Shared}{h':Heap}
theorem Inv.turnedL {t':Nat}{ch:List Addr} (I:Inv X pins σ H s) (k:∀b o,b∉ch->s.heap.get? b=some o->h'.get? b=some o) (hf:∀b∈ch,QC X pins H b):Inv X pins σ H { s with heap:=h',toks:=t' }:=by
 have nit:∀b u,H b=some u->b∉ch:=fun b u e z=>by
  have q:=(hf b z).1
  rw[q] at e;cases e
 refine I.step (g':=s.gens) (d':=s.drawn) (ch:=ch) (fun b hb=>⟨(hf b hb).2.2.2.1,(hf b hb).2.1,(hf b hb).2.2.2.2.1,(hf b hb).2.2.2.2.2⟩) (fun b o _ _ hc e _=>k b o hc e) (fun b o _ _ hc e _=>⟨o.slots,k b o hc e⟩)
  (fun _ _ _ _ n=>n) (fun b o hc e=>⟨o,k b o hc e⟩) (fun _ _ e=>e) (fun _ _ _ e=>e) (fun b ps e=>⟨#[],by rw[e];simp⟩) (fun m hm=>?_) (fun b u e=>?_) I.bare
 ·obtain⟨o,es,ep,ho,r⟩:=hm
  exact⟨o,es,ep,k _ o (fun z=>(hf _ z).2.1 rfl) ho,r⟩
 ·refine(I.hok b u e).stay (fun c v hc q=>k c v ?_ q) (fun _ q=>q) fun _ _ q=>q
  rcases hc with z | z
  ·rw[z];exact nit b u e
  ·exact nit c _ z
theorem Inv.lock {d:Addr}{u:HO} (I:Inv X pins σ H s) (h:H d=some u) (mu:Mut (some u)):∃od,Inv X pins σ (upd H d (.frz od u)) s:=by
 have x:=I.hok d u h
 have ex:∃od,s.heap.get? d=some od:=by
  cases u with
  | lst xs=>obtain⟨_,_,_,_,e⟩:=x;exact⟨_,e⟩
  | dK kvs=>obtain⟨_,_,_,_,o,_,_,e,_⟩:=x;exact⟨o,e⟩
  | dT kvs=>obtain⟨_,_,_,_,o,_,_,e,_⟩:=x;exact⟨o,e⟩
  | set S n=>obtain⟨o,_,_,_,e,_⟩:=x;exact⟨o,e⟩
  | ins C dx fs=>obtain⟨_,_,_,e,_⟩:=x;exact⟨_,e⟩
  | ext φ=>obtain⟨_,⟨_,e⟩,_⟩:=x;exact⟨_,e⟩
  | _=>exact False.elim mu
 obtain⟨od,e⟩:=ex
 have new:xU X.prog X.w (upd H d (.frz od u)) s.heap d (.frz od u):=by
  refine⟨e,x.stay (fun b v _ q=>q) (fun b q=>?_) fun b xs q=>?_⟩
  ·rw[zh (fun z=>by rw[z,h] at q;cases q;exact mu)];exact q
  ·rw[zh (fun z=>by rw[z,h] at q;cases q;exact mu)];exact q
 exact⟨od,I.write (x:=d) (e:=d) (t':=s.toks) (h':=s.heap) (by rw[h];exact mu) (.inl rfl) (fun b v _ q=>q) ⟨od,e⟩ new⟩
theorem Inv.nofrz {d:Addr}{u:HO} (I:Inv X pins σ H s) (h:H d=some u) (mu:Mut (some u)):∀o' u',X.H_0 d≠some (.frz o' u'):=fun o' u' e=>by
 have q:=I.base.frzs d o' u' e
 rw[h] at q
 cases q
 exact mu
theorem Inv.unlock {d:Addr}{od:Obj}{u:HO} (I:Inv X pins σ H s) (h:H d=some (.frz od u)) (hn:∀o' u',X.H_0 d≠some (.frz o' u')):Inv X pins σ (upd H d u) s:=by
 have neH:∀b o,H b=some o->(∀o' u',o≠.frz o' u')->b≠d:=fun b o e hne z=>by
  rw[z,h] at e
  cases e
  exact hne _ _ rfl
 have neN:∀b,H b=none->b≠d:=fun b e z=>by rw[z,h] at e;cases e
 refine⟨I.ok,I.os,I.bare,⟨I.base.keep,I.base.slot,fun b o e n hx=>?_,I.base.there,fun b xs e=>?_,fun b o x e=>?_,fun b ps e=>?_⟩,I.loc,I.cell,?_,fun x c e=>?_,fun p hp=>?_,fun b o e=>?_,I.len⟩
 ·rw[zh (neN b (I.base.free b o e n hx))];exact I.base.free b o e n hx
 ·have q:=I.base.tups b xs e
  rw[zh (neH b _ q (fun _ _ z=>nomatch z))];exact q
 ·have q:=I.base.frzs b o x e
  rw[zh (fun z=>by rw[z] at e;exact hn _ _ e)];exact q
 ·obtain⟨m,q⟩:=I.base.tbls b ps e
  exact⟨m,by rw[zh (neH b _ q (fun _ _ z=>nomatch z))];exact q⟩
 ·rw[zh (neN _ I.free)];exact I.free
 ·rw[zh (neN c (I.freeC x c e))];exact I.freeC x c e
 ·obtain⟨e,n,r⟩:=I.pin p hp
  exact⟨e,by rw[zh (neN _ n)];exact n,r⟩
 ·by_cases hb:b=d
  ·rw[hb,zc] at e
   cases e
   rw[hb]
   obtain⟨_,x⟩:=I.hok d _ h
   exact x.stay (fun c v _ q=>q) (fun c q=>by rw[zh (neH c _ q (fun _ _ z=>nomatch z))];exact q) fun c xs q=>by rw[zh (neH c _ q (fun _ _ z=>nomatch z))];exact q
  ·rw[zh hb] at e
   exact(I.hok b o e).stay (fun c v _ q=>q) (fun c q=>by rw[zh (neH c _ q (fun _ _ z=>nomatch z))];exact q) fun c xs q=>by rw[zh (neH c _ q (fun _ _ z=>nomatch z))];exact q
end
def zfO (t:TS):TS:=fun D σ H=>∃d u,H d=some u/\Mut (some u)/\∀od,t ⟨fun σ' H'=>H' d=some (.frz od u)/\D.nx σ' (upd H' d u),fun v H'=>H' d=some (.frz od u)/\D.rt v (upd H' d u),fun σ' H'=>H' d=some (.frz od u)/\D.bk σ' (upd H' d u),fun σ' H'=>H' d=some (.frz od u)/\D.ct σ' (upd H' d u)⟩ σ (upd H d (.frz od u))
def zei (t:TE):TE:=fun σ H Q=>∃d u,H d=some u/\Mut (some u)/\∀od,t σ (upd H d (.frz od u)) fun v H'=>H' d=some (.frz od u)/\Q v (upd H' d u)
section
variable {X:Cx}
theorem Vz {st:Stmt}{t:TS} (h:PS X st t):PS X st (zfO t):=by
 intro pins s σ H D I hw
 obtain⟨d,u,hd,mu,hw⟩:=hw
 obtain⟨od,I1⟩:=I.lock hd mu
 refine thn (h pins s σ _ _ I1 (hw od)) fun f s1 q=>?_
 cases f with
 | next=>obtain⟨σ',H',I2,e,q⟩:=q;exact⟨σ',_,I2.unlock e (I.nofrz hd mu),q⟩
 | brk=>obtain⟨σ',H',I2,e,q⟩:=q;exact⟨σ',_,I2.unlock e (I.nofrz hd mu),q⟩
 | cont=>obtain⟨σ',H',I2,e,q⟩:=q;exact⟨σ',_,I2.unlock e (I.nofrz hd mu),q⟩
 | ret v=>obtain⟨x,σ',H',I2,r,e,q⟩:=q;exact⟨x,σ',_,I2.unlock e (I.nofrz hd mu),r,q⟩
theorem VN {e:Expr}{t:TE} (h:PE X e t):PE X e (zei t):=by
 intro pins s σ H Q I hw
 obtain⟨d,u,hd,mu,hw⟩:=hw
 obtain⟨od,I1⟩:=I.lock hd mu
 refine thn (h pins s σ _ _ I1 (hw od)) fun v s1 ⟨x,H1,I2,r,e2,q⟩=>?_
 exact⟨x,_,I2.unlock e2 (I.nofrz hd mu),r,q⟩
theorem zge {tg:Expr}{pins:List (Addr×Obj)}{σ:St}{H:Hp}{s:Shared}{R:It->Hp->Prop}{J:It}{tn:Nat->Heap->Prop}{tk:Nat} (I:Inv X pins σ H s) (o:Obj)
  (T:zf3 X.prog X.w X.K tg J [s.heap.objs.size] s.heap.objs.size tn) (st:tn 0 (s.heap.push o)) (q:R J H):PIE X pins σ tg R (.ref s.heap.objs.size) { s with heap:=s.heap.push o,toks:=tk }:=by
 refine⟨s.heap.objs.size,[s.heap.objs.size],tn,J,H,rfl,I.kept fun b ob e=>Heap.get?_push_of_some _ e,T,st,fun b hb=>?_,q⟩
 have e:b=s.heap.objs.size:=by simpa using hb
 subst e
 exact I.fpOk (Uag _) (I.hok.fresh (Uag _))
end
section
variable {X:Cx}{tg:Expr}
end
section
variable {X:Cx}{tg:Expr}
end
section
variable {prog:Program}{w:World}{A:Around}{E:Value->Shared->Prop}{s:Shared}
end
theorem zgw {κ:Type}{kvs:List (κ×V)}{vs:List (κ×Value)} (h:KV kvs vs):∀{i:Nat}{k:κ}{v:V},kvs[i]? = some (k,v)->∃u,vs[i]? = some (k,u)/\yx v u:=by
 unfold KV at h
 induction h with
 | nil=>intro i k v e;simp at e
 | @cons a b l₁ l₂ r t ih=>
  intro i k v e
  cases i with
  | zero=>
   simp only[List.getElem?_cons_zero,Option.some.injEq] at e
   subst e
   refine⟨b.2,?_,r.2⟩
   simp only[List.getElem?_cons_zero]
   exact congrArg some (Prod.ext r.1.symm rfl)
  | succ j=>
   simp only[List.getElem?_cons_succ] at e ⊢
   exact ih e
section
variable {X:Cx}{pins:List (Addr×Obj)}{σ:St}{H:Hp}{s:Shared}{d:Addr}{o:Obj}
theorem Inv.frzK {kvs:List (Key×V)} (I:Inv X pins σ H s) (h:H d=some (.frz o (.dK kvs))) :
  (d == sysModules)=false/\s.heap.get? d=some o/\o.ExactDict/\∃(es:Array DictEntry) (ep:Nat) (vs:List (Key×Value)),o.data=.dict es ep/\es.size=kvs.length/\KV kvs vs/\s.heap.DictAt (zI X.prog X.w) d vs ep:=by
 obtain⟨hd,z,hs,vs,kv,o',es,ep,ho,hx,hdt,r⟩:=I.hok d _ h
 rw[hd] at ho
 cases ho
 refine⟨hs,hd,hx,es,ep,vs,hdt,?_,kv,o,es,hd,hx,hdt,r⟩
 have l1:=r.2.1.length
 have l2:kvs.length=vs.length:=Paired.length kv
 rw[Ube] at l1
 omega
end
def Itd (d:Addr) (o:Obj) (kvs:List (Key×V)):It:=
 ⟨fun i H=>H d=some (.frz o (.dK kvs))/\i<kvs.length,fun i H x H'=>H'=H/\∃k,kvs[i]? = some (k,x),fun i H=>H d=some (.frz o (.dK kvs))/\kvs.length<=i⟩
theorem zbS {o:Obj}{es es':Array DictEntry}{ep ep':Nat} (h:o.data=.dict es ep) (h':o.data=.dict es' ep'):es'=es/\ep'=ep:=by
 rw[h] at h'
 cases h'
 exact⟨rfl,rfl⟩
section
variable {P:Program}{w:World}{K:PySem.W.Frag}{tg:Expr}{d:Addr}{o:Obj}{es:Array DictEntry}{ep:Nat}
theorem zbv {kvs:List (Key×V)} (it:Addr) (hod:o.data=.dict es ep):zf3 P w K tg (Itd d o kvs) [it] it (fun i h=>h.IsValIter it d i kvs.length ep) where
 mem:=by simp
 obj:=fun i h st b hb=>by
  have e:b=it:=by simpa using hb
  subst e
  obtain⟨oi,e,c,dd⟩:=st
  exact⟨oi,e,fun v z=>by rw[dd] at z;cases z⟩
 keep:=fun i h h' st k=>st.at fun oi e=>k it (by simp) oi e
 item:=by
  intro X hP hw hK hc i pins s σ H E I hf st hg
  subst hP hw hK
  obtain⟨hd,hi⟩:=hg
  obtain⟨f0,f1,f2,f3,f4,f5⟩:=hf it (by simp)
  obtain⟨hs,hgd,hx,es',ep',vs,hdt,hsz,kv,hm⟩:=I.frzK hd
  obtain⟨rfl,rfl⟩:=zbS hod hdt
  obtain⟨⟨k,v⟩,hkv⟩:∃p,kvs[i]? = some p:=⟨kvs[i],Uai hi⟩
  obtain⟨u,hu,ru⟩:=zgw kv hkv
  have hl:kvs.length=vs.length:=Paired.length kv
  rw[hl] at st
  refine wpAny_pyNext_values_item st hm hu fun h' st' sb=>?_
  have I1:Inv X pins σ H { s with heap:=h' }:=I.turned (t':=s.toks) (fun b ob hb e=>(sb.2 b hb).trans e) f0 f1 f3 f4 f5
  obtain⟨oi,e,c,dd⟩:=id st'
  refine⟨u,rfl,zeT (s:={ s with heap:=h' }) e c dd (by decide) ⟨v,H,I1,ru,⟨rfl,k,hkv⟩,?_,fun b hb=>(hf b hb).1⟩⟩
  show h'.IsValIter it d (i+1) kvs.length _
  rw[hl]
  exact st'
 done:=by
  intro X hP hw hK hc i pins s σ H E I hf st hg
  subst hP hw hK
  obtain⟨hd,hi⟩:=hg
  obtain⟨f0,f1,f2,f3,f4,f5⟩:=hf it (by simp)
  obtain⟨hs,hgd,hx,es',ep',vs,hdt,hsz,kv,hm⟩:=I.frzK hd
  obtain⟨rfl,rfl⟩:=zbS hod hdt
  have hl:kvs.length=vs.length:=Paired.length kv
  rw[hl] at st
  exact wpAny_pyNext_values_end (I.ok.hd hc) st hm (List.getElem?_eq_none (by omega)) fun h' eb=>⟨rfl,I.turned (t':=s.toks) (fun b ob hb e=>eb b ob hb e) f0 f1 f3 f4 f5⟩
 self:=fun A i s Q E st h=>wpAny_pyIter_valiter st h
end
def zdc (td:TE):TI:=fun σ H R=>td σ H fun x H1=>∃d o kvs,x=.ref d/\H1 d=some (.frz o (.dK kvs))/\R (Itd d o kvs) H1
section
variable {X:Cx}{tg e:Expr}{td:TE}{apos cpos:Pos}
theorem qJ (he:PE X e td) (hbase:attributeBase e "values" X.env (eval e X.env)=eval e X.env:=by rfl) (hline:(apos.endLine == cpos.line)=true:=by rfl):PI X tg (.Call (.Attribute e "values" apos) [] [] cpos) (zdc td):=by
 intro pins s σ H R I h
 refine wpAny_Call_method (T:="dict") (id:="dict.values") hbase rfl hline F.plainAttrs_dict F.slot_dict_values F.type_dict_values (thn (he pins s σ H _ I h) fun u s1 ⟨x,H1,I1,rx,d,o,kvs,ex,hd,q⟩=>?_)
 subst ex
 obtain rfl:u=Value.ref d:=rx
 obtain⟨hs,hgd,hx,es,ep,vs,hdt,hsz,kv,hm⟩:=I1.frzK hd
 have hl:kvs.length=vs.length:=Paired.length kv
 refine⟨hm.dictOf.typeIs,hm.dictOf.mapOf.noDict,?_⟩
 have I2:Inv X pins σ H1 { s1 with heap:=s1.heap.push { cls:=.type "dict_values",data:=.fields #[.ref d] } }:=I1.kept (t':=s1.toks) fun b ob q=>Heap.get?_push_of_some _ q
 have fin:wpAny (model X.prog X.w) X.A (pyIter (.ref s1.heap.objs.size)) (PIE X pins σ tg R) X.xe { s1 with heap:=s1.heap.push { cls:=.type "dict_values",data:=.fields #[.ref d] } }:=by
  refine wpAny_pyIter_values (d:=d) (knd:=zI X.prog X.w) ⟨_,Heap.get?_push_size _ rfl,rfl,rfl⟩ (hm.push _) (zge (tk:=s1.toks) I2 _ (zbv _ hdt) ⟨_,Heap.get?_push_size _ rfl,rfl,?_⟩ q)
  rw[hl] <;> rfl
 show wpAny _ _ (callWith cpos (.builtin "dict.values") [.ref d] [] []) _ X.xe s1
 exact method_meetsIn F.slot_dict_values F.entry_dict_values rfl (PySem.evalArgs_none ⟨rfl,hm.dictOf.typeIs,F.args_dict_values_1 _,_,meets_dict_values (zI X.prog X.w) d hs,⟨vs,hm.dictOf⟩,fin⟩)
end
end L2
section
namespace Bits
open PySem PyProof.Rows
end Bits
end
section
namespace TL
open PySem PySem.Builtin PySem.Builtin.Str PySem.StrLaws
end TL
end
namespace L2
open PySem PySem.Spec PyProof.Rows
section
variable {X:Cx}{pins:List (Addr×Obj)}{σ:St}{H:Hp}{s:Shared}{Q:VK}
end
section
variable {X:Cx}
end
section
variable {X:Cx}{o e:Expr}{to te:TE}
end
end L2
namespace L2
open PySem PySem.Spec PyProof.Rows
section
variable {X:Cx}
end
end L2
namespace Att
open PySem PySem.W PySem.Calls PyProof.Rows
section
variable {prog:Program}{w:World}{A:Around}{E:Value->Shared->Prop}{s:Shared}{K:Frag}
end
end Att
namespace L2
open PySem PySem.Spec PyProof.Rows
end L2
namespace L2
open PySem PySem.Spec PyProof.Rows
end L2
namespace L2
open PySem PySem.Spec PyProof.Rows
def zo (s:Stmt) (j:Nat):Stmt:=match s with
 | .ClassDef _ _ _ body _ _ _ _ _ _ _=>body.getD j (.Pass ⟨0,0,0,0⟩)
 | _=>.Pass ⟨0,0,0,0⟩
def jj (s:Stmt):Arguments:=match s with
 | .FunctionDef _ a _ _ _ _ _ _ _ _=>a
 | _=>{ posonlyargs:=[],args:=[],vararg:=none,kwonlyargs:=[],kw_defaults:=[],kwarg:=none,defaults:=[] }
def zH (s:Stmt):List Stmt:=match s with
 | .FunctionDef _ _ b _ _ _ _ _ _ _=>b
 | _=>[]
def zg (s:Stmt):Scope:=match s with
 | .FunctionDef _ _ _ _ _ _ sc _ _ _=>sc
 | _=>{ kind:=.function,names:=[],isGenerator:=false,isCoroutine:=false }
abbrev CX0:CXT:=fun _ _ _ _ _ _=>False
abbrev E0:XK:=fun _ _ _=>False
theorem zai {X:Cx}:Jy CX0 X E0:=fun _ _ _ _ _ _ _ h=>h.elim
structure Fun (K:PySem.W.Frag) (x qual:Str) (st:Stmt) (f:Addr) (fd:FuncData):Prop where
 ex:∃(oc:Value) (od:Option Addr) (kV doc pm:Value) (an:Option Addr) (cdv ct:Value) (osl:Array (Option Value)),
  fd=PySem.W.fnOf x qual (jj st) (zH st) (zg st) .none kV doc pm an cdv ct/\K.lookup f=some ⟨oc,od,.func fd,osl⟩/\PySem.W.codeIn K cdv qual=true
 kp:PySem.W.keepIn K (.ref f)=true
section
variable {P:Program}{w:World}{K:PySem.W.Frag}{mg:Str->Option Value}{base:Heap}
theorem Fun.ok {x qual:Str}{st:Stmt}{f:Addr}{fd:FuncData}{N ps:List Str}{k:Nat}{sp:Sp} (F:Fun K x qual st f fd) (S:zk N ps (zg st)) (len:∀vs H Q E,sp vs H Q E->vs.length=ps.length)
  (hbody:∀(cdv:Value) (A:Around) (outer:List Env) (s:Shared) (H:Hp) (vs:List V) (Q:VK) (E:XK),Room k (A.deeper (envOfC qual (zg st) s.heap.objs.size f cdv))->sp vs H Q E →
   ∃t,PSs (zdt CX0 P w K mg base N qual (zg st) f cdv A outer s H E).nox (zH st) t/\t { nx:=fun _ H'=>Q .non H',rt:=Q } (start N vs) H):Z1 P w K mg base CX0 (k+1) f fd ps sp:=by
 obtain⟨oc,od,kV,doc,pm,an,cdv,ct,osl,rfl,lk,hcd⟩:=F.ex
 refine zhD lk hcd S len fun A outer s H vs Q E hr hsp=>?_
 obtain⟨t,h,q⟩:=hbody cdv A outer s H vs Q E hr hsp
 exact⟨t,h.nox,q⟩
theorem Fun.binds {x qual:Str}{st:Stmt}{f:Addr}{fd:FuncData}{ps:List Str} (F:Fun K x qual st f fd)
  (h:∀(kV doc pm:Value) (an:Option Addr) (cdv ct:Value) (us:List Value),us.length=ps.length->bindArgs (PySem.W.fnOf x qual (jj st) (zH st) (zg st) .none kV doc pm an cdv ct) ⟨us,[]⟩=pure (ps.zip us)):qg K fd ps []:=by
 obtain⟨oc,od,kV,doc,pm,an,cdv,ct,osl,rfl,lk,hcd⟩:=F.ex
 exact .all (h kV doc pm an cdv ct)
theorem Ww {x qual:Str}{st:Stmt}{f:Addr}{oc:Value}{od an:Option Addr}{osl:Array (Option Value)}{kV doc pm cdv ct:Value} (l:K.lookup f=some ⟨oc,od,.func (PySem.W.fnOf x qual (jj st) (zH st) (zg st) .none kV doc pm an cdv ct),osl⟩)
  (c:PySem.W.codeIn K cdv qual=true) (k:PySem.W.keepIn K (.ref f)=true):Fun K x qual st f (PySem.W.fnOf x qual (jj st) (zH st) (zg st) .none kV doc pm an cdv ct):=⟨⟨oc,od,kV,doc,pm,an,cdv,ct,osl,rfl,l,c⟩,k⟩
end
theorem ya {A:Around}{k:Nat} (hr:Room k A):A.units+1<cLine:=Ubp (Nat.add_le_add_left (by decide:1<=64) _) hr.units
theorem yN {n:Nat} (h:n<=1000):n<sizeLine:=Ubp h (by decide)
section
variable {X:Cx}
theorem pv (i:Nat) {x:Str}{pos:Pos} (hN:X.N[i]? = some x:=by rfl) (hv:Vis X.env.scope x:=by first | exact Or.inl rfl | exact Or.inr (Or.inl rfl) | exact Or.inr (Or.inr rfl)) (hd:(x == ("__debug__" : Str))=false:=by decide)
  (hcd:(x == ("__classdict__" : Str))=false:=by decide):PE X (.Name x pos) (zhk i):=zgD hN hv hd hcd
theorem j7:kY X (.builtin "len") (fun xs H Q=>∃a kvs,xs=[V.ref a]/\H a=some (.dK kvs)/\Q (.int kvs.length) H):=by
 intro pins s σ H xs us Q I r h
 obtain⟨a,kvs,rfl,ha,q⟩:=h
 obtain⟨u,rfl,ru⟩:=wo r
 cases ru
 exact zht I (.inl ha) fun t s' I'=>⟨.int kvs.length,H,I',⟨t,rfl⟩,q⟩
end
theorem zL {A B:Prop} (h:B):if false=true then A else B:=by
 rw[if_neg Uap]
 exact h
theorem zQ {A B:Prop} (h:A):if true=true then A else B:=by
 rw[if_pos rfl]
 exact h
def Same (H H':Hp):Prop:=∀b o,H b=some o->H' b=some o
theorem Same.refl (H:Hp):Same H H:=fun _ _ h=>h
theorem Same.trans {H H1 H2:Hp} (a:Same H H1) (b:Same H1 H2):Same H H2:=fun c o h=>b c o (a c o h)
theorem Same.free {H H':Hp} (e:Same H H') {l:Addr} (h:H' l=Option.none):H l=Option.none:=by
 cases q:H l with
 | none=>rfl
 | some o=>
  rw[e l o q] at h
  cases h
theorem Same.seq {K:PySem.W.Frag}{H H':Hp}{a:Addr}{xs:List V} (e:Same H H') (h:SqL K H a xs):SqL K H' a xs:=by
 rcases h with (h | ⟨o,h⟩) | h
 ·exact .inl (.inl (e _ _ h))
 ·exact .inl (.inr ⟨o,e _ _ h⟩)
 ·exact .inr h
section
variable {κ:Type} [DecidableEq κ]
theorem WN {kvs:List (κ×V)}{k:κ} (h:xr kvs k=none):¬k∈kvs.map (·.1):=by
 intro m
 obtain⟨p,hp,e⟩:=Uaq.mp m
 have q:(kvs.any fun kv=>decide (kv.1=k))=true:=List.any_eq_true.mpr ⟨p,hp,Uac e⟩
 rw[wm,h] at q
 exact absurd q (by simp)
end
end L2
section
set_option Elab.async false
set_option maxRecDepth 100000
set_option maxHeartbeats 2000000
namespace L2
open PySem PySem.Spec PyProof.Rows
open PySem.W (WData Codec OpenSpec Well WellAll ReadsW ReadsAllW)
mutual
inductive Dw (K:PySem.W.Frag) (H:Hp):V->WData->Prop
 | non:Dw K H .non .none
 | bl (b:Bool):Dw K H (.bl b) (.bool b)
 | int (i:Int):Dw K H (.int i) (.int i)
 | str (x:Str):Dw K H (.str x) (.str x)
 | byt (b:Array UInt8):Dw K H (.byt b) (.bytes b.toList)
 | lst {a:Addr}{xs:List V}{ds:List WData}:SqL K H a xs->DwAll K H xs ds->Dw K H (.ref a) (.list ds)
 | tup {a:Addr}{xs:List V}{ds:List WData}:SqT K H a xs->DwAll K H xs ds->Dw K H (.ref a) (.tuple ds)
inductive DwAll (K:PySem.W.Frag) (H:Hp):List V->List WData->Prop
 | nil:DwAll K H [] []
 | cons {v:V}{vs:List V}{d:WData}{ds:List WData}:Dw K H v d->DwAll K H vs ds->DwAll K H (v::vs) (d::ds)
end
theorem zbF {K:PySem.W.Frag}{H:Hp}:∀ns:List Int,DwAll K H (ns.map V.int) (ns.map WData.int)
 | []=>.nil
 | n::r=>.cons (.int n) (zbF r)
theorem zcy {K:PySem.W.Frag}{H:Hp}:∀(ns:List Int) (xs:List V),DwAll K H xs (ns.map WData.int)->xs=ns.map V.int
 | [],xs,h=>by
  cases h
  rfl
 | n::r,xs,h=>by
  cases h with
  | cons h1 h2=>
   cases h1
   rw[zcy r _ h2] <;> rfl
section
variable {P:Program}{w:World}{K:PySem.W.Frag}{H:Hp}{h:Heap}{R:PySem.W.WRecords}{cl:Str->Option Addr}
theorem zgm {a:Addr}{xs:List V} (hok:HOk P w H h) (KX:K.In h) (q:SqL K H a xs):∃(its:List Value) (o:Obj) (n:Nat),ym xs its/\h.get? a=some o/\o.cls=.type "list"/\o.data=.seq its.toArray n:=by
 rcases q with q | ⟨o,its,n,e,hc,_,hd,_,hv⟩
 ·obtain⟨_,its,n,hv,e⟩:=(show xU P w H h a (.lst xs) from q.ok hok)
  exact⟨its,_,n,hv,e,rfl,rfl⟩
 ·exact⟨its.toList,o,n,hv,KX _ _ e,hc,by simp [hd]⟩
theorem zgt {a:Addr}{xs:List V} (hok:HOk P w H h) (KX:K.In h) (q:SqT K H a xs):∃(its:List Value) (o:Obj) (n:Nat),ym xs its/\h.get? a=some o/\o.cls=.type "tuple"/\o.data=.seq its.toArray n:=by
 rcases q with q | ⟨o,its,n,e,hc,hd,_,hv⟩
 ·obtain⟨_,its,hv,o,e,hc,n,hd⟩:=(show xU P w H h a (.tup xs) from q.ok hok)
  exact⟨its,o,n,hv,e,hc,hd⟩
 ·exact⟨its.toList,o,n,hv,KX _ _ e,hc,by simp [hd]⟩
mutual
theorem Dw.reads (hok:HOk P w H h) (KX:K.In h):∀(d:WData) (v:V) (u:Value),Dw K H v d->yx v u->∃as,ReadsW R cl h u d as
 | .none,_,_,x,r=>by
  cases x
  cases r
  exact⟨_,ReadsW.none⟩
 | .bool b,_,_,x,r=>by
  cases x
  cases r
  exact⟨_,ReadsW.bool b⟩
 | .int i,_,_,x,r=>by
  cases x
  obtain⟨t,rfl⟩:=r
  exact⟨_,ReadsW.int i t⟩
 | .str s,_,_,x,r=>by
  cases x
  obtain⟨t,rfl⟩:=r
  exact⟨_,ReadsW.str s t⟩
 | .bytes b,_,_,x,r=>by
  cases x
  obtain⟨t,rfl⟩:=r
  exact⟨_,ReadsW.bytes _ t⟩
 | .list ds,_,_,x,r=>by
  cases x with
  | lst hs ha=>
   cases r
   obtain⟨its,o,n,rv,ho,hc,hd⟩:=zgm hok KX hs
   obtain⟨as,hr⟩:=Dw.readsAll hok KX ds _ its ha rv
   exact⟨_,ReadsW.list ho hc hd hr⟩
 | .tuple ds,_,_,x,r=>by
  cases x with
  | tup hs ha=>
   cases r
   obtain⟨its,o,n,rv,ho,hc,hd⟩:=zgt hok KX hs
   obtain⟨as,hr⟩:=Dw.readsAll hok KX ds _ its ha rv
   exact⟨_,ReadsW.tuple ho hc hd hr⟩
 | .float _,_,_,x,_=>by cases x
 | .dict _,_,_,x,_=>by cases x
 | .bytearray _,_,_,x,_=>by cases x
 | .set _,_,_,x,_=>by cases x
 | .frozenset _,_,_,x,_=>by cases x
 | .obj _ _,_,_,x,_=>by cases x
theorem Dw.readsAll (hok:HOk P w H h) (KX:K.In h):∀(ds:List WData) (vs:List V) (us:List Value),DwAll K H vs ds->ym vs us->∃as,ReadsAllW R cl h us ds as
 | [],_,_,x,r=>by
  cases x
  cases r
  exact⟨_,ReadsAllW.nil⟩
 | d::ds,_,_,x,r=>by
  cases x with
  | cons h1 h2=>
   cases r with
   | cons r1 r2=>
    obtain⟨as,q1⟩:=Dw.reads hok KX d _ _ h1 r1
    obtain⟨bs,q2⟩:=Dw.readsAll hok KX ds _ _ h2 r2
    exact⟨_,ReadsAllW.cons q1 q2⟩
end
end
mutual
def plW:WData->Bool
 | .none=>true
 | .bool _=>true
 | .int _=>true
 | .str _=>true
 | .bytes _=>true
 | .list xs=>plWs xs
 | .tuple xs=>plWs xs
 | _=>false
def plWs:List WData->Bool
 | []=>true
 | x::r=>plW x&&plWs r
end
theorem WT {α:Type}{f:α->WData} (h:∀a,plW (f a)=true):∀l:List α,plWs (l.map f)=true
 | []=>rfl
 | x::r=>by
  show (plW (f x)&&plWs (r.map f))=true
  rw[h x,WT h r] <;> rfl
theorem Zw:∀(c:Codec) (a:c.denote),plW (c.enc a)=true
 | .unit,_=>rfl
 | .bool,_=>rfl
 | .int _ _,_=>rfl
 | .nat _ _,_=>rfl
 | .u8,_=>rfl
 | .bytes _ _,_=>rfl
 | .text _ _ _ _,_=>rfl
 | .list _ _ c,a=>WT (fun x=>Zw c x) a
 | .pair c d,a=>by
  show (plW (c.enc a.1)&&(plW (d.enc a.2)&&true))=true
  rw[Zw c a.1,Zw d a.2] <;> rfl
 | .triple c d e,a=>by
  show (plW (c.enc a.1)&&(plW (d.enc a.2.1)&&(plW (e.enc a.2.2)&&true)))=true
  rw[Zw c a.1,Zw d a.2.1,Zw e a.2.2] <;> rfl
 | .option c,none=>rfl
 | .option c,some x=>Zw c x
theorem KN:∀(cs:List Codec) (a:Codec.denoteAll cs),plWs (Codec.encAll cs a)=true
 | [],_=>rfl
 | c::cs,a=>by
  show (plW (c.enc a.1)&&plWs (Codec.encAll cs a.2))=true
  rw[Zw c a.1,KN cs a.2] <;> rfl
theorem wY:∀{xs:List WData}{d:WData},d∈xs->d.weight<=WData.weightAll xs
 | [],d,h=>absurd h (by simp)
 | x::r,d,h=>by
  show d.weight<=x.weight+1+WData.weightAll r
  rcases Uaf.mp h with e | m
  ·rw[e]
   omega
  ·have z:=wY m
   omega
def toV:Value->V
 | .none=>.non
 | .bool b=>.bl b
 | .int i _=>.int i
 | .str x _=>.str x
 | .bytes b _=>.byt b
 | .ref a=>.ref a
 | _=>.non
def OkU (A:List Addr):Value->Prop
 | .none=>True
 | .bool _=>True
 | .int _ _=>True
 | .str _ _=>True
 | .bytes _ _=>True
 | .ref a=>a∈A
 | _=>False
theorem OkU.mono {A B:List Addr} (h:∀a∈A,a∈B):∀{u:Value},OkU A u->OkU B u:=fun {u} x=>by
 cases u with
 | ref a=>exact h a x
 | none=>trivial
 | bool b=>trivial
 | int i t=>trivial
 | str s t=>trivial
 | bytes b t=>trivial
 | _=>exact False.elim x
theorem zdN {A:List Addr}{u:Value} (x:OkU A u):yx (toV u) u:=by
 cases u with
 | ref a=>rfl
 | none=>rfl
 | bool b=>rfl
 | int i t=>exact⟨t,rfl⟩
 | str s t=>exact⟨t,rfl⟩
 | bytes b t=>exact⟨t,rfl⟩
 | _=>exact False.elim x
theorem kD {A:List Addr}:∀{vs:List Value},(∀u∈vs,OkU A u)->ym (vs.map toV) vs
 | [],_=>.nil
 | u::r,h=>.cons (zdN (h u (Uak ..))) (kD fun x hx=>h x (Uad _ hx))
def ZU (h:Heap) (A:List Addr) (a:Addr):Prop:=∃vs:List Value,vs.length<=sizeLine/\(∀u∈vs,OkU A u) ∧
 (h.get? a=some { cls:=.type "list",data:=.seq vs.toArray }\/h.get? a=some { cls:=.type "tuple",data:=.seq vs.toArray })
theorem ZU.mono {h:Heap}{A B:List Addr}{a:Addr} (k:∀a∈A,a∈B) (x:ZU h A a):ZU h B a:=by
 obtain⟨vs,h1,h2,h3⟩:=x
 exact⟨vs,h1,fun u hu=>(h2 u hu).mono k,h3⟩
theorem qk {P:Params}{h:Heap}:∀{vs:List Value}{ds:List WData},WellAll P h vs ds->vs.length=ds.length
 | _,_,.nil=>rfl
 | _,_,.cons _ b=>by
  show _+1=_+1
  rw[qk b]
theorem Q3 {P:Params}{h:Heap}{v:Value}{ds:List WData} (x:Well P h v (.list ds)):∃(a:Addr) (vs:List Value),v=.ref a/\h.get? a=some { cls:=.type "list",data:=.seq vs.toArray }/\WellAll P h vs ds:=by
 cases x with
 | list ho hall=>exact⟨_,_,rfl,ho,hall⟩
theorem Jb {P:Params}{h:Heap}{v:Value}{ds:List WData} (x:Well P h v (.tuple ds)):∃(a:Addr) (vs:List Value),v=.ref a/\h.get? a=some { cls:=.type "tuple",data:=.seq vs.toArray }/\WellAll P h vs ds:=by
 cases x with
 | tuple ho hall=>exact⟨_,_,rfl,ho,hall⟩
theorem QP {P:Params}{h:Heap}{us:List Value}{d:WData}{ds:List WData} (x:WellAll P h us (d::ds)):∃(v:Value) (vs:List Value),us=v::vs/\Well P h v d/\WellAll P h vs ds:=by
 cases x with
 | cons a b=>exact⟨_,_,rfl,a,b⟩
theorem zbd {n:Nat} (h:n<=1048576):n<=sizeLine:=Ubb h (by decide)
section
variable {P:Params}{h:Heap}
mutual
theorem zdQ:∀(d:WData) (v:Value),Well P h v d->plW d=true->d.weight<=1048576->∃A:List Addr,OkU A v/\∀a∈A,ZU h A a
 | .none,_,x,_,_=>by
  cases x
  exact⟨[],trivial,fun a m=>absurd m (by simp)⟩
 | .bool b,_,x,_,_=>by
  cases x
  exact⟨[],trivial,fun a m=>absurd m (by simp)⟩
 | .int i,_,x,_,_=>by
  cases x
  exact⟨[],trivial,fun a m=>absurd m (by simp)⟩
 | .str s,_,x,_,_=>by
  cases x
  exact⟨[],trivial,fun a m=>absurd m (by simp)⟩
 | .bytes b,_,x,_,_=>by
  cases x
  exact⟨[],trivial,fun a m=>absurd m (by simp)⟩
 | .list ds,_,x,p,z=>by
  obtain⟨a,vs,rfl,ho,hall⟩:=Q3 x
  have z2:WData.weightAll ds<=1048576:=z
  obtain⟨A,h1,h2⟩:=area_all ds _ hall p fun d hd=>Ubb (wY hd) z2
  have k:∀b∈A,b∈a::A:=fun b hb=>Uad _ hb
  refine⟨a::A,Uak ..,fun b hb=>?_⟩
  rcases Uaf.mp hb with e | m
  ·rw[e]
   exact⟨vs,zbd (by rw[qk hall];exact Ubb (PySem.W.length_le_weightAllW ds) z2),fun u hu=>(h1 u hu).mono k,.inl ho⟩
  ·exact(h2 b m).mono k
 | .tuple ds,_,x,p,z=>by
  obtain⟨a,vs,rfl,ho,hall⟩:=Jb x
  have z2:WData.weightAll ds<=1048576:=z
  obtain⟨A,h1,h2⟩:=area_all ds _ hall p fun d hd=>Ubb (wY hd) z2
  have k:∀b∈A,b∈a::A:=fun b hb=>Uad _ hb
  refine⟨a::A,Uak ..,fun b hb=>?_⟩
  rcases Uaf.mp hb with e | m
  ·rw[e]
   exact⟨vs,zbd (by rw[qk hall];exact Ubb (PySem.W.length_le_weightAllW ds) z2),fun u hu=>(h1 u hu).mono k,.inr ho⟩
  ·exact(h2 b m).mono k
 | .float _,_,_,p,_=>Bool.noConfusion (show false=true from p)
 | .dict _,_,_,p,_=>Bool.noConfusion (show false=true from p)
 | .bytearray _,_,_,p,_=>Bool.noConfusion (show false=true from p)
 | .set _,_,_,p,_=>Bool.noConfusion (show false=true from p)
 | .frozenset _,_,_,p,_=>Bool.noConfusion (show false=true from p)
 | .obj _ _,_,_,p,_=>Bool.noConfusion (show false=true from p)
theorem area_all:∀(ds:List WData) (vs:List Value),WellAll P h vs ds->plWs ds=true->(∀d∈ds,d.weight<=1048576)->∃A:List Addr,(∀u∈vs,OkU A u)/\∀a∈A,ZU h A a
 | [],_,x,_,_=>by
  cases x
  exact⟨[],fun u m=>absurd m (by simp),fun a m=>absurd m (by simp)⟩
 | d::ds,_,x,p,z=>by
  obtain⟨v,vs,rfl,x1,x2⟩:=QP x
  have q:plW d=true/\plWs ds=true:=Bool.and_eq_true_iff.mp p
  obtain⟨A,a1,a2⟩:=zdQ d v x1 q.1 (z d (Uak ..))
  obtain⟨B,b1,b2⟩:=area_all ds vs x2 q.2 fun e he=>z e (Uad _ he)
  have kA:∀b∈A,b∈A++B:=fun b hb=>Ubd.mpr (.inl hb)
  have kB:∀b∈B,b∈A++B:=fun b hb=>Ubd.mpr (.inr hb)
  refine⟨A++B,fun u hu=>?_,fun b hb=>?_⟩
  ·rcases Uaf.mp hu with e | m
   ·rw[e]
    exact a1.mono kA
   ·exact(b1 u m).mono kB
  ·rcases Ubd.mp hb with m | m
   ·exact(a2 b m).mono kA
   ·exact(b2 b m).mono kB
end
end
def zhf (o:Obj):Option HO:=match o.data with
 | .seq vs _=>if (o.cls == Value.type "list")=true then some (.frz o (.lst (vs.toList.map toV))) else some (.frz o (.tup (vs.toList.map toV)))
 | _=>none
def JC (K:PySem.W.Frag) (h:Heap) (A:List Addr):Hp:=fun b=>if b∈A then (if (K.lookup b).isNone=true then (h.get? b).bind zhf else none) else none
def zcg (H:Hp):Prop:=∀b,H b=none\/∃o u,H b=some (.frz o u)
theorem WK (vs:List Value):zhf { cls:=.type "list",data:=.seq vs.toArray }=some (.frz { cls:=.type "list",data:=.seq vs.toArray } (.lst (vs.map toV))):=by
 show (if (Value.type "list" == Value.type "list")=true then some (HO.frz { cls:=.type "list",data:=.seq vs.toArray } (.lst (vs.toArray.toList.map toV))) else some (HO.frz { cls:=.type "list",data:=.seq vs.toArray } (.tup (vs.toArray.toList.map toV))))=_
 rw[if_pos (beq_self_eq_true _)]
theorem WG (vs:List Value):zhf { cls:=.type "tuple",data:=.seq vs.toArray }=some (.frz { cls:=.type "tuple",data:=.seq vs.toArray } (.tup (vs.map toV))):=by
 show (if (Value.type "tuple" == Value.type "list")=true then some (HO.frz { cls:=.type "tuple",data:=.seq vs.toArray } (.lst (vs.toArray.toList.map toV))) else some (HO.frz { cls:=.type "tuple",data:=.seq vs.toArray } (.tup (vs.toArray.toList.map toV))))=_
 rw[if_neg (by decide)]
section
variable {P:Program}{w:World}{K:PySem.W.Frag}{h:Heap}{A:List Addr}
theorem JG {b:Addr}{o:Obj} (hb:b∈A) (hk:K.lookup b=none) (e:h.get? b=some o):JC K h A b=zhf o:=by
 unfold JC
 rw[if_pos hb,hk,if_pos (show (none:Option Obj).isNone=true from rfl),e] <;> rfl
theorem zeI {b:Addr}{u:HO} (q:JC K h A b=some u):b∈A/\K.lookup b=none:=by
 unfold JC at q
 by_cases hb:b∈A
 ·rw[if_pos hb] at q
  cases hk:K.lookup b with
  | none=>exact⟨hb,rfl⟩
  | some o=>
   rw[hk,if_neg (by simp)] at q
   cases q
 ·rw[if_neg hb] at q
  cases q
theorem JS (ar:∀a∈A,ZU h A a) {b:Addr}{u:HO} (q:JC K h A b=some u):K.lookup b=none/\∃vs:List Value,vs.length<=sizeLine/\(∀u∈vs,OkU A u) ∧
    ((h.get? b=some { cls:=.type "list",data:=.seq vs.toArray }/\u=.frz { cls:=.type "list",data:=.seq vs.toArray } (.lst (vs.map toV))) ∨
     (h.get? b=some { cls:=.type "tuple",data:=.seq vs.toArray }/\u=.frz { cls:=.type "tuple",data:=.seq vs.toArray } (.tup (vs.map toV)))):=by
  obtain⟨hb,hk⟩:=zeI q
  obtain⟨vs,h1,h2,h3⟩:=ar b hb
  refine⟨hk,vs,h1,h2,?_⟩
  rcases h3 with e | e
  · rw[JG hb hk e,WK] at q
    exact .inl ⟨e,(Option.some.inj q).symm⟩
  · rw[JG hb hk e,WG] at q
    exact .inr ⟨e,(Option.some.inj q).symm⟩
theorem zcm (ar:∀a∈A,ZU h A a):zcg (JC K h A):=fun b=>by
 cases q:JC K h A b with
 | none=>exact .inl rfl
 | some u=>
  obtain⟨_,vs,_,_,⟨_,e⟩ | ⟨_,e⟩⟩:=JS ar q
  ·exact .inr ⟨_,_,by rw[e]⟩
  ·exact .inr ⟨_,_,by rw[e]⟩
theorem zeB (ar:∀a∈A,ZU h A a):HOk P w (JC K h A) h:=fun b u q=>by
 obtain⟨_,vs,h1,h2,⟨e,rfl⟩ | ⟨e,rfl⟩⟩:=JS ar q
 ·exact⟨e,by rw[Uaa];exact h1,vs,_,kD h2,e⟩
 ·exact⟨e,by rw[Uaa];exact h1,vs,kD h2,_,e,rfl,_,rfl⟩
theorem Qs {c c':Value}{vs us:List Value} (e:(some { cls:=c,data:=.seq vs.toArray }:Option Obj)=some { cls:=c',data:=.seq us.toArray }):c=c'/\vs=us:=by
 have e1:=Option.some.inj e
 have e2:c=c':=congrArg Obj.cls e1
 have e3:Data.seq vs.toArray=Data.seq us.toArray:=congrArg Obj.data e1
 injection e3 with e4
 refine⟨e2,?_⟩
 have e5:=congrArg Array.toList e4
 simpa using e5
theorem zi0 (KX:K.In h) (ar:∀a∈A,ZU h A a) {a:Addr}{vs:List Value} (ha:a∈A) (e:h.get? a=some { cls:=.type "list",data:=.seq vs.toArray }):(∀u∈vs,OkU A u)/\SqL K (JC K h A) a (vs.map toV):=by
 obtain⟨us,h1,h2,h3⟩:=ar a ha
 have hu:us=vs:=by
  rcases h3 with q | q
  ·rw[e] at q
   exact(Qs q).2.symm
  ·rw[e] at q
   exact absurd (Value.type.inj (Qs q).1) (by decide)
 subst hu
 refine⟨h2,?_⟩
 cases hk:K.lookup a with
 | none=>exact .inl (.inr ⟨_,by rw[JG ha hk e,WK]⟩)
 | some o=>
  have e2:=KX a o hk
  rw[e] at e2
  obtain rfl:=Option.some.inj e2
  exact .inr ⟨_,us.toArray,_,hk,rfl,rfl,rfl,by rw[Uav];exact h1,by simpa using kD h2⟩
theorem ziU (KX:K.In h) (ar:∀a∈A,ZU h A a) {a:Addr}{vs:List Value} (ha:a∈A) (e:h.get? a=some { cls:=.type "tuple",data:=.seq vs.toArray }):(∀u∈vs,OkU A u)/\SqT K (JC K h A) a (vs.map toV):=by
 obtain⟨us,h1,h2,h3⟩:=ar a ha
 have hu:us=vs:=by
  rcases h3 with q | q
  ·rw[e] at q
   exact absurd (Value.type.inj (Qs q).1) (by decide)
  ·rw[e] at q
   exact(Qs q).2.symm
 subst hu
 refine⟨h2,?_⟩
 cases hk:K.lookup a with
 | none=>exact .inl (.inr ⟨_,by rw[JG ha hk e,WG]⟩)
 | some o=>
  have e2:=KX a o hk
  rw[e] at e2
  obtain rfl:=Option.some.inj e2
  exact .inr ⟨_,us.toArray,_,hk,rfl,rfl,by rw[Uav];exact h1,by simpa using kD h2⟩
mutual
theorem zg1 {Pm:Params} (KX:K.In h) (ar:∀a∈A,ZU h A a):∀(d:WData) (v:Value),Well Pm h v d->plW d=true->OkU A v->Dw K (JC K h A) (toV v) d
 | .none,_,x,_,_=>by
  cases x
  exact .non
 | .bool b,_,x,_,_=>by
  cases x
  exact .bl b
 | .int i,_,x,_,_=>by
  cases x
  exact .int i
 | .str s,_,x,_,_=>by
  cases x
  exact .str s
 | .bytes b,_,x,_,_=>by
  cases x
  have z:=Dw.byt (K:=K) (H:=JC K h A) b.toArray
  exact z
 | .list ds,_,x,p,hu=>by
  obtain⟨a,vs,rfl,ho,hall⟩:=Q3 x
  obtain⟨h2,hs⟩:=zi0 KX ar hu ho
  exact .lst hs (dw_all KX ar ds _ hall p h2)
 | .tuple ds,_,x,p,hu=>by
  obtain⟨a,vs,rfl,ho,hall⟩:=Jb x
  obtain⟨h2,hs⟩:=ziU KX ar hu ho
  exact .tup hs (dw_all KX ar ds _ hall p h2)
 | .float _,_,_,p,_=>Bool.noConfusion (show false=true from p)
 | .dict _,_,_,p,_=>Bool.noConfusion (show false=true from p)
 | .bytearray _,_,_,p,_=>Bool.noConfusion (show false=true from p)
 | .set _,_,_,p,_=>Bool.noConfusion (show false=true from p)
 | .frozenset _,_,_,p,_=>Bool.noConfusion (show false=true from p)
 | .obj _ _,_,_,p,_=>Bool.noConfusion (show false=true from p)
theorem dw_all {Pm:Params} (KX:K.In h) (ar:∀a∈A,ZU h A a):∀(ds:List WData) (vs:List Value),WellAll Pm h vs ds->plWs ds=true->(∀u∈vs,OkU A u)->DwAll K (JC K h A) (vs.map toV) ds
 | [],_,x,_,_=>by
  cases x
  exact .nil
 | d::ds,_,x,p,hu=>by
  obtain⟨v,vs,rfl,x1,x2⟩:=QP x
  have q:plW d=true/\plWs ds=true:=Bool.and_eq_true_iff.mp p
  exact .cons (zg1 KX ar d v x1 q.1 (hu _ (Uak ..))) (dw_all KX ar ds vs x2 q.2 fun u m=>hu u (Uad _ m))
end
end
theorem zbH {P:Program}{w:World}{K:PySem.W.Frag}{mg mb:Str->Option Value}{CX:CXT}{k:Nat}{fa:Addr}{fd:FuncData}{ps:List Str}{sp:Sp}{s₁:Shared}{vals:List Value}{ds:List WData}{R:PySem.W.WRecords}{cl:Str->Option Addr}{d0:WData}
  (KX:K.In s₁.heap) (hns:s₁.heap.Ns mainGlobals mg) (hb:s₁.heap.Ns builtinsNs mb) (hbb:∀x:Str,x≠"__name__"->mb x=bootBuiltins x) (hlim:s₁.heap.NoLimit) (hg:s₁.gens=#[])
  (hwl:WellAll w.params s₁.heap vals ds) (hpl:plWs ds=true) (hwt:∀d∈ds,d.weight<=1048576) (hr:Room k callerA)
  (F:∀base:Heap,K.In base->base.Ns mainGlobals mg->Z1 P w K mg base CX k fa fd ps sp) (hbind:∀(s:Shared) (us:List Value),us.length=ps.length->BindsTo s fd ⟨us,[]⟩ (ps.zip us)) (hlen:ds.length=ps.length)
  (hsp:∀(H:Hp) (xs:List V),zcg H->DwAll K H xs ds->sp xs H (fun v H'=>Dw K H' v d0) fun _ _ _=>False)
  (hCX:∀H e s',CX [] H s₁ (fun _ _ _=>False) e s'->False) :
  codeAny (model P w) callerA (.call (.ref fa) ⟨vals,[]⟩) (fun r s'=>∃u as,r=.ok (.ret u)/\ReadsW R cl s'.heap u d0 as/\OldK s₁.heap s'.heap/\s'.os=s₁.os/\AllBare s'.gens) s₁:=by
 obtain⟨A,ho,ar⟩:=area_all ds vals hwl hpl hwt
 have hO:zcg (JC K s₁.heap A):=zcm ar
 have hok:HOk P w (JC K s₁.heap A) s₁.heap:=zeB ar
 have hS:=dw_all KX ar ds vals hwl hpl ho
 have hV:=kD ho
 have hK:∀b u,JC K s₁.heap A b=some u->K.lookup b=none:=fun b u q=>(JS ar q).1
 have noA:∀{b:Addr}{o:Obj}{es:Array DictEntry}{ep:Nat},s₁.heap.get? b=some o->o.data=.dict es ep->JC K s₁.heap A b=none:=fun {b o es ep} e d=>by
  cases q:JC K s₁.heap A b with
  | none=>rfl
  | some u=>
   obtain⟨_,vs,_,_,⟨e2,_⟩ | ⟨e2,_⟩⟩:=JS ar q
   ·rw[e2] at e
    cases e
    have d':Data.seq vs.toArray _=Data.dict es ep:=d
    cases d'
   ·rw[e2] at e
    cases e
    have d':Data.seq vs.toArray _=Data.dict es ep:=d
    cases d'
 generalize JC K s₁.heap A=H at hO hok hS hK noA
 have base_of:∀{b:Addr}{o:Obj},s₁.heap.get? b=some o->H b=none->(zcT s₁.heap H).get? b=some o:=fun e n=>zc5 e n
 have nsK:∀{b:Addr}{m:Str->Option Value},s₁.heap.Ns b m->(zcT s₁.heap H).Ns b m:=fun {b m} ⟨o,es,ep,e,d,r⟩=>⟨o,es,ep,base_of e (noA e d),d,r⟩
 have nK:∀b o,K.lookup b=some o->H b=none:=fun b o e=>by
  cases q:H b with
  | none=>rfl
  | some u=>
   rw[hK b u q] at e
   cases e
 have hKb:K.In (zcT s₁.heap H):=fun b o e=>base_of (KX b o e) (nK b o e)
 have hM:Mod K mg (zcT s₁.heap H):=⟨hKb,nsK hns,⟨mb,nsK hb,hbb⟩,let ⟨mc,h1,h2⟩:=hlim;⟨mc,nsK h1,h2⟩⟩
 have e0:zbe P w K mg (zcT s₁.heap H) callerA [] s₁ H:=⟨rfl,hM,fun b o e=>zfg e,Nat.le_of_eq (zbb _ _),trivial,fun b hb=>absurd (show b∈([]:List Addr) from hb) (by simp),hok,.of_eq hg⟩
 have hl:vals.length=ps.length:=by rw[qk hwl];exact hlen
 refine codeAny_mono ((F _ hKb (nsK hns)).run callerA [] s₁ H ⟨vals,[]⟩ vals (vals.map toV) _ _ hr e0 (hbind s₁ vals hl) hV (hsp H _ hO hS)) fun r s' x=>?_
 cases r with
 | error e=>exact(hCX H e s' x).elim
 | ok fl=>
  cases fl with
  | next=>exact False.elim x
  | brk=>exact False.elim x
  | cont=>exact False.elim x
  | ret u=>
   obtain⟨v,H',os,bare,un,hok',r',q⟩:=x
   have kept:∀b o,s₁.heap.get? b=some o->s'.heap.get? b=some o:=fun b o e=>by
    cases q2:H b with
    | none=>exact un.keep b o e q2 (by intro z;exact absurd (show b∈([]:List Addr) from z) (by simp)) (by simp)
    | some u2=>
     rcases hO b with z | ⟨ob,u3,z⟩
     ·rw[q2] at z
      cases z
     ·have z2:=un.frzs b ob _ z
      obtain⟨e1,_⟩:=hok b _ z
      obtain⟨e2,_⟩:=hok' b _ z2
      rw[e] at e1
      cases e1
      exact e2
   have KX':K.In s'.heap:=fun b o e=>kept b o (KX b o e)
   obtain⟨as,hrd⟩:=Dw.reads (R:=R) (cl:=cl) hok' KX' d0 v u q r'
   exact⟨u,as,rfl,hrd,OldK.of_keep kept,os,bare⟩
theorem Xw {ds:List WData} (h:WData.layableAll ds=true):∀d∈ds,d.weight<=1048576:=fun d hd=>
 (PySem.W.layableW_iff.mp (List.all_eq_true.mp h d hd)).2.2
theorem X4:∀(cs:List Codec) (a:Codec.denoteAll cs),(Codec.encAll cs a).length=cs.length
 | [],_=>rfl
 | c::cs,a=>by
  show (Codec.encAll cs a.2).length+1=cs.length+1
  rw[X4 cs a.2]
theorem zbK {r:OpenSpec}{k:Nat}{q:Program}{loose:List Str}{XP:(Str->Option Value)->Heap->Prop}{YP:World->Heap->Prop}{d:DefRec}{K:Params->PySem.W.Frag}{CX:World->CXT}{ps:List Str}{sp:World->Sp}
  (hwell:r.wellSaid=true) (hdf:d.params.defaults=[]) (hlen:r.args.length=ps.length) (hr:Room k callerA)
  (hY:∀(w:World) (h:Heap),YP w h->(K w.params).In h)
  (F:∀(w:World) (mg:Str->Option Value) (fa:Addr) (h:Heap),YP w h->(K w.params).In h->h.Ns mainGlobals mg->mg d.name=some (.ref fa) →
   ∃fd:FuncData,(∀(s:Shared) (us:List Value),us.length=ps.length->BindsTo s fd ⟨us,[]⟩ (ps.zip us)) ∧
    ∀base:Heap,(K w.params).In base->base.Ns mainGlobals mg->Z1 r.prog w (K w.params) mg base (CX w) k fa fd ps (sp w))
  (hsp:∀(w:World) (H:Hp) (xs:List V) (a:Codec.denoteAll r.args),zcg H->Codec.withinAll r.args a=true->Codec.app r.args r.asked a=true->DwAll (K w.params) H xs (Codec.encAll r.args a) →
   sp w xs H (fun v H'=>Dw (K w.params) H' v (r.ret.enc (Codec.app r.args r.f a))) fun _ _ _=>False)
  (hCX:∀(w:World) (H:Hp) (s:Shared) (e:Value) (s':Shared),CX w [] H s (fun _ _ _=>False) e s'->False) :
  PySem.W.WalkOS q loose XP YP r d [] (fun f vs=>PySem.call f vs):=by
 intro w s_0 s₁ mg mb G Y fa o pm cd doc dV kV ho hd hcd hD hmg hg args vals as hpre hlay hrd hwl hlo
 obtain⟨a,e1,e2⟩:=PySem.W.os_pre_some hpre
 obtain⟨e3,hwi⟩:=Codec.encAll_of_decAll r.args args a e1
 subst e3
 have KX:=hY w _ Y
 obtain⟨fd,hb,hF⟩:=F w mg fa _ Y KX G.T.g hmg
 refine PySem.W.enter_call (codeAny_mono (zbH (R:=[]) (cl:=classAt s_0.heap) (d0:=r.ret.enc (Codec.app r.args r.f a)) KX G.T.g G.T.b G.T.builtins G.T.nolimit hg hwl (KN _ _) (Xw hlay) hr hF hb (by rw[X4];exact hlen)
  (fun H xs hO hS=>hsp w H xs a hO hwi e2 hS) fun H e s'=>hCX w H s₁ e s') fun r' s' hq=>?_)
 obtain⟨u,as',rfl,h1,h2,h3,h4⟩:=hq
 exact⟨.inl ⟨u,_,as',rfl,fun _=>rfl,h1,(OpenSpec.post_iff hwell hwi _ _).mpr rfl,fun z=>Bool.noConfusion (show false=true from z)⟩,h2,h3,h4⟩
theorem zae {r:OpenSpec}{k:Nat}{q:Program}{loose:List Str}{XP:(Str->Option Value)->Heap->Prop}{YP:World->Heap->Prop}{d:DefRec}{K:Params->PySem.W.Frag}{CX:CXT}{ps:List Str}{sp:PySem.W.Frag->Sp}
  (hwell:r.wellSaid=true) (hdf:d.params.defaults=[]) (hlen:r.args.length=ps.length) (hr:Room k callerA)
  (hY:∀(w:World) (h:Heap),YP w h->(K w.params).In h)
  (F:∀(w:World) (mg:Str->Option Value) (fa:Addr) (h:Heap),YP w h->(K w.params).In h->h.Ns mainGlobals mg->mg d.name=some (.ref fa) →
   ∃fd:FuncData,(∀(s:Shared) (us:List Value),us.length=ps.length->BindsTo s fd ⟨us,[]⟩ (ps.zip us)) ∧
    ∀base:Heap,(K w.params).In base->base.Ns mainGlobals mg->Z1 r.prog w (K w.params) mg base CX k fa fd ps (sp (K w.params)))
  (hsp:∀(K:PySem.W.Frag) (H:Hp) (xs:List V) (a:Codec.denoteAll r.args),zcg H->Codec.withinAll r.args a=true->Codec.app r.args r.asked a=true->DwAll K H xs (Codec.encAll r.args a) →
   sp K xs H (fun v H'=>Dw K H' v (r.ret.enc (Codec.app r.args r.f a))) fun _ _ _=>False)
  (hCX:∀(H:Hp) (s:Shared) (e:Value) (s':Shared),CX [] H s (fun _ _ _=>False) e s'->False) :
  PySem.W.WalkOS q loose XP YP r d [] (fun f vs=>PySem.call f vs):=
 zbK (K:=K) (CX:=fun _=>CX) (sp:=fun w=>sp (K w.params)) hwell hdf hlen hr hY F (fun w H xs a h1 h2 h3 h4=>hsp (K w.params) H xs a h1 h2 h3 h4) fun _ H s e s'=>hCX H s e s'
end L2
end
namespace NB
open Vbnlae
theorem yo:∀a:List Int,less a a=false
 | []=>rfl
 | x::r=>by simp [less,yo r]
theorem y6:∀a b:List Int,less a b=true->less b a=false
 | [],[],h=>by simp [less] at h
 | [],_::_,_=>rfl
 | _::_,[],h=>by simp [less] at h
 | x::r,y::t,h=>by
  simp only[less,Bool.or_eq_true,Ubm,Uat] at h
  simp only[less,Bool.or_eq_false_iff,decide_eq_false_iff_not,Bool.and_eq_false_iff]
  rcases h with h | ⟨h,h'⟩
  ·exact⟨by omega,.inl (by omega)⟩
  ·exact⟨by omega,.inr (y6 r t h')⟩
theorem j1:∀a b c:List Int,less a b=true->less b c=true->less a c=true
 | [],[],_,h,_=>by simp [less] at h
 | [],_::_,[],_,h=>by simp [less] at h
 | [],_::_,_::_,_,_=>rfl
 | _::_,[],_,h,_=>by simp [less] at h
 | _::_,_::_,[],_,h=>by simp [less] at h
 | x::r,y::t,z::u,h,g=>by
  simp only[less,Bool.or_eq_true,Ubm,Uat] at h g ⊢
  rcases h with h | ⟨h,h'⟩
  ·rcases g with g | ⟨g,g'⟩ <;> exact .inl (by omega)
  ·rcases g with g | ⟨g,g'⟩
   ·exact .inl (by omega)
   ·exact .inr ⟨by omega,j1 r t u h' g'⟩
theorem jR:∀a b:List Int,less a b=false->less b a=false->a=b
 | [],[],_,_=>rfl
 | [],_::_,h,_=>by simp [less] at h
 | _::_,[],_,h=>by simp [less] at h
 | x::r,y::t,h,g=>by
  simp only[less,Bool.or_eq_false_iff,decide_eq_false_iff_not,Bool.and_eq_false_iff] at h g
  have e:x=y:=by omega
  subst e
  have h':less r t=false:=by
   rcases h.2 with q | q
   ·simp at q
   ·exact q
  have g':less t r=false:=by
   rcases g.2 with q | q
   ·simp at q
   ·exact q
  rw[jR r t h' g']
theorem x6 (a b c:List Int) (h:less a b=false) (g:less b c=false):less a c=false:=by
 cases e:less a c with
 | false=>rfl
 | true=>
  cases q:less b a with
  | true=>exact absurd (j1 b a c q e) (by rw[g];simp)
  | false=>
   have:=jR a b h q
   subst this
   rw[g] at e;cases e
def Nd {α:Type} (f:α->List Int) (a b:α):Prop:=less (f b) (f a)=false
theorem X9 {α:Type}{f:α->List Int}{l m:List α} (inj:∀a b,a∈l->b∈l->f a=f b->a=b) (p:l.Perm m) (hl:l.Pairwise (Nd f)) (hm:m.Pairwise (Nd f)):l=m:=
 List.Perm.eq_of_pairwise (le:=Nd f) (fun a b ha hb h g=>inj a b ha (p.mem_iff.mpr hb) (jR _ _ g h)) hl hm p
def ins {α:Type} (f:α->List Int) (x:α):List α->List α
 | []=>[x]
 | y::r=>if less (f x) (f y)=true then x::y::r else y::ins f x r
theorem JF {α:Type} (f:α->List Int) (x:α):∀l:List α,(ins f x l).Perm (x::l)
 | []=>.refl _
 | y::r=>by
  unfold ins
  split
  ·exact .refl _
  ·exact((JF f x r).cons y).trans (.swap x y r)
theorem Jg {α:Type} (f:α->List Int) (x:α):∀l:List α,l.Pairwise (Nd f)->(ins f x l).Pairwise (Nd f)
 | [],_=>by simp [ins]
 | y::r,h=>by
  rw[Uao] at h
  unfold ins
  split
  ·rename_i e
   refine Uao.mpr ⟨fun z hz=>?_,Uao.mpr h⟩
   rcases Uaf.mp hz with rfl | hz
   ·exact y6 _ _ e
   ·exact x6 _ _ _ (h.1 z hz) (y6 _ _ e)
  ·rename_i e
   refine Uao.mpr ⟨fun z hz=>?_,Jg f x r h.2⟩
   rcases Uaf.mp ((JF f x r).mem_iff.mp hz) with rfl | hz
   ·exact(Ucm _).mp e
   ·exact h.1 z hz
def srt {α:Type} (f:α->List Int) (l:List α):List α:=l.foldl (fun r x=>ins f x r) []
theorem K0 {α:Type} (f:α->List Int):∀(l acc:List α),acc.Pairwise (Nd f)->(l.foldl (fun r x=>ins f x r) acc).Perm (acc++l)/\(l.foldl (fun r x=>ins f x r) acc).Pairwise (Nd f)
 | [],acc,h=>by simpa using h
 | x::r,acc,h=>by
  have q:=K0 f r (ins f x acc) (Jg f x acc h)
  refine⟨q.1.trans ?_,q.2⟩
  exact((JF f x acc).append_right r).trans List.perm_middle.symm
theorem x4 {α:Type} (f:α->List Int) (l:List α):(srt f l).Perm l:=(K0 f l [] .nil).1
theorem jZ {α:Type} (f:α->List Int) (l:List α):(srt f l).Pairwise (Nd f):=(K0 f l [] .nil).2
theorem Kt (s:State) (d x:Int):∀l,putBy s d x l=ins (moment s d) x l
 | []=>rfl
 | y::r=>by unfold putBy ins before;rw[Kt s d x r]
theorem yy (s:State) (d:Int) (l:List Int):byPrecedence s d l=srt (moment s d) l:=by
 unfold byPrecedence srt
 congr 1
 funext r x
 exact Kt s d x r
theorem jf {s:State}{d:Int}{l m:List Int} (inj:∀a b,a∈l->b∈l->moment s d a=moment s d b->a=b) (p:m.Perm l) (h:m.Pairwise (Nd (moment s d))):byPrecedence s d l=m:=by
 rw[yy]
 exact X9 (fun a b ha hb=>inj a b ((x4 _ l).mem_iff.mp ha) ((x4 _ l).mem_iff.mp hb)) ((x4 _ l).trans p.symm) (jZ _ l) h
theorem vF (s:State) (d:Int):∀(l:List Int),l≠[]->firstBy s d l∈l
 | [],h=>absurd rfl h
 | [x],_=>by simp [firstBy]
 | x::y::r,_=>by
  unfold firstBy
  split
  ·exact Uak
  ·exact Uad _ (vF s d (y::r) (by simp))
theorem qh (s:State) (d:Int):∀(l:List Int) (z:Int),z∈l->Nd (moment s d) (firstBy s d l) z
 | [],z,h=>by simp at h
 | [x],z,h=>by
  have e:z=x:=by simpa using h
  subst e
  exact yo _
 | x::y::r,z,h=>by
  have ih:=qh s d (y::r)
  unfold firstBy
  split
  ·rename_i e
   rcases Uaf.mp h with rfl | h
   ·exact yo _
   ·exact x6 _ _ _ (ih z h) (y6 _ _ e)
  ·rename_i e
   rcases Uaf.mp h with rfl | h
   ·exact(Ucm _).mp e
   ·exact ih z h
theorem Zk {s:State}{d:Int}{l:List Int}{m:Int} (inj:∀a b,a∈l->b∈l->moment s d a=moment s d b->a=b) (hm:m∈l) (h:∀z,z∈l->Nd (moment s d) m z):firstBy s d l=m:=by
 have ne:l≠[]:=by intro e;rw[e] at hm;simp at hm
 have h1:=vF s d l ne
 exact inj _ _ h1 hm (jR _ _ (h _ h1) (qh s d l m hm))
end NB
namespace NB
open Vbnlae
def par (ps:Parents) (k:Int):Option Int:=(ps.find? fun p=>p.1 == k).map (·.2)
inductive kP (ps:Parents):Int->Int->Nat->Prop
 | stop {k:Int}:par ps k=none->kP ps k k 0
 | step {k v h:Int}{n:Nat}:par ps k=some v->kP ps v h n->kP ps k h (n+1)
theorem kP.one {ps:Parents}{k h h':Int}{n n':Nat} (a:kP ps k h n) (b:kP ps k h' n'):h=h'/\n=n':=by
 induction a generalizing h' n' with
 | stop e=>cases b with
  | stop=>exact⟨rfl,rfl⟩
  | step e' _=>rw[e] at e';cases e'
 | step e _ ih=>cases b with
  | stop e'=>rw[e] at e';cases e'
  | step e' b'=>
   rw[e] at e';cases e'
   have:=ih b'
   exact⟨this.1,by omega⟩
theorem JZ (a b k:Int) (ps:Parents):par ((a,b)::ps) k=if k=a then some b else par ps k:=by
 unfold par
 rw[Uar]
 by_cases e:k=a
 ·subst e;simp
 ·have:((a,b).1 == k)=false:=by simpa using fun q=>e q.symm
  rw[this,if_neg e]
theorem yb (ps:Parents) (g k:Int):par (without ps g) k=if k=g then none else par ps k:=by
 unfold par without
 induction ps with
 | nil=>simp
 | cons p r ih=>
  rw[Uay]
  by_cases e:p.1=g
  ·have:(p.1 != g)=false:=by simpa using e
   rw[this]
   simp only[Ucb,if_false]
   rw[ih]
   by_cases q:k=g
   ·rw[if_pos q,if_pos q]
   ·rw[if_neg q,if_neg q,Uar]
    have:(p.1 == k)=false:=by rw[e];simpa using fun z=>q z.symm
    rw[this]
  ·have:(p.1 != g)=true:=by simpa using e
   rw[this]
   simp only[if_true]
   rw[Uar,Uar]
   by_cases z:p.1=k
   ·have h:(p.1 == k)=true:=by simpa using z
    have:k≠g:=fun q=>e (z.trans q)
    rw[h,if_neg this]
   ·have h:(p.1 == k)=false:=by simpa using z
    rw[h]
    exact ih
theorem VA (ps:Parents) (g:Int):(without ps g).length<=ps.length:=Uan _ _
theorem Jh:∀(ps:Parents) (g v:Int),par ps g=some v->(without ps g).length<ps.length
 | [],g,v,h=>by simp [par] at h
 | p::r,g,v,h=>by
  unfold without
  rw[Uay]
  by_cases e:p.1=g
  ·have:(p.1 != g)=false:=by simpa using e
   rw[this]
   simp only[Ucb,if_false,Uae]
   have:=VA r g
   unfold without at this
   omega
  ·have:(p.1 != g)=true:=by simpa using e
   rw[this]
   simp only[if_true,Uae]
   have:par r g=some v:=by
    unfold par at h ⊢
    rw[Uar] at h
    have q:(p.1 == g)=false:=by simpa using e
    rw[q] at h
    exact h
   have:=Jh r g v this
   unfold without at this
   omega
theorem kP.avoid {ps:Parents}{g k h:Int}{n:Nat} (a:kP ps k h n):(kP (without ps g) k h n)\/∃m,m<=n/\kP ps g h m:=by
 induction a with
 | @stop k e=>
  refine .inl (.stop ?_)
  rw[yb,e];split <;> rfl
 | @step k v h n e b ih=>
  by_cases q:k=g
  ·subst q;exact .inr ⟨n+1,Uag _,.step e b⟩
  ·rcases ih with ih | ⟨m,h1,h2⟩
   ·exact .inl (.step (by rw[yb,if_neg q];exact e) ih)
   ·exact .inr ⟨m,by omega,h2⟩
theorem kP.le:∀(N:Nat) {ps:Parents}{k h:Int}{n:Nat},ps.length<=N->kP ps k h n->n<=ps.length
 | N,ps,k,h,0,_,_=>Uax _
 | 0,ps,k,h,n+1,hN,a=>by
  cases a with
  | step e b=>
   have:ps=[]:=List.length_eq_zero_iff.mp (by omega)
   subst this;simp [par] at e
 | N+1,ps,k,h,n+1,hN,a=>by
  cases a with
  | @step _ v _ _ e b=>
   have lt:=Jh ps k v e
   rcases b.avoid (g:=k) with c | ⟨m,h1,h2⟩
   ·have:=kP.le N (by omega) c
    omega
   ·have:=(kP.one h2 (.step e b)).2
    omega
theorem kP.climb {ps:Parents}{k h:Int}{n:Nat} (a:kP ps k h n):∀N,n<=N->climb ps N k=h:=by
 induction a with
 | @stop k e=>
  intro N _
  cases N with
  | zero=>rfl
  | succ N=>
   unfold par at e
   unfold Vbnlae.climb
   cases q:ps.find? fun p=>p.1 == k with
   | none=>rfl
   | some p=>rw[q] at e;simp at e
 | @step k v h n e b ih=>
  intro N hN
  cases N with
  | zero=>omega
  | succ N=>
   unfold par at e
   unfold Vbnlae.climb
   cases q:ps.find? fun p=>p.1 == k with
   | none=>rw[q] at e;simp at e
   | some p=>
    rw[q] at e
    have e':p.2=v:=by simpa using e
    show Vbnlae.climb ps N p.2=h
    rw[e']
    exact ih N (by omega)
structure Ok (G:List Int) (ps:Parents):Prop where
 ends:∀k,∃h n,kP ps k h n
 keys:∀p∈ps,p.1∈G
 vals:∀p∈ps,p.2∈G
 nd:(ps.map (·.1)).Nodup
theorem Ok.len {G:List Int}{ps:Parents} (o:Ok G ps):ps.length<=G.length:=by
 have:=List.Nodup.length_le_of_subset o.nd (l₂:=G) (fun x hx=>by
  obtain⟨p,hp,rfl⟩:=Uaq.mp hx
  exact o.keys p hp)
 simpa using this
theorem Ok.goes {G:List Int}{ps:Parents} (o:Ok G ps) (hG:G.length<=GENERA) (k:Int):∃n,n<=GENERA/\kP ps k (climb ps GENERA k) n:=by
 obtain⟨h,n,a⟩:=o.ends k
 have h1:=kP.le _ (Uag _) a
 have h2:=o.len
 have:n<=GENERA:=by omega
 rw[a.climb GENERA this]
 exact⟨n,this,a⟩
theorem zfv {ps:Parents}{k v:Int} (h:par ps k=some v):(k,v)∈ps:=by
 unfold par at h
 cases q:ps.find? fun p=>p.1 == k with
 | none=>rw[q] at h;simp at h
 | some p=>
  rw[q] at h
  have e:p.2=v:=by simpa using h
  have e1:p.1=k:=by simpa using List.find?_some q
  have:=List.mem_of_find?_eq_some q
  rw[←e,←e1];exact this
theorem kP.mem {G:List Int}{ps:Parents} (o:Ok G ps) {k h:Int}{n:Nat} (a:kP ps k h n) (hk:k∈G):h∈G:=by
 induction a with
 | stop _=>exact hk
 | step e _ ih=>exact ih (o.vals _ (zfv e))
theorem jh {ps:Parents}{g:Int}{p:Int×Int} (h:p∈without ps g):p∈ps/\p.1≠g:=by
 unfold without at h
 rw[Uah] at h
 exact⟨h.1,by simpa using h.2⟩
theorem Ja {ps:Parents}{g:Int} (h:(ps.map (·.1)).Nodup):((without ps g).map (·.1)).Nodup:=
 List.Nodup.sublist (List.Sublist.map _ Ucw) h
theorem Kq {ps:Parents} (g:Int) {k h:Int}{n:Nat} (a:kP ps k h n):∃h' n',kP (without ps g) k h' n':=by
 induction a with
 | @stop k e=>exact⟨k,0,.stop (by rw[yb,e];split <;> rfl)⟩
 | @step k v h n e b ih=>
  by_cases q:k=g
  ·subst q;exact⟨k,0,.stop (by rw[yb,if_pos rfl])⟩
  ·obtain⟨h',n',c⟩:=ih
   exact⟨h',n'+1,.step (by rw[yb,if_neg q];exact e) c⟩
theorem Ok.drop {G:List Int}{ps:Parents} (o:Ok G ps) (g:Int):Ok G (without ps g):=
 ⟨fun k=>by obtain⟨h,n,a⟩:=o.ends k;exact Kq g a,fun p h=>o.keys p (jh h).1,fun p h=>o.vals p (jh h).1,Ja o.nd⟩
theorem Ok.nil (G:List Int):Ok G []:=⟨fun k=>⟨k,0,.stop rfl⟩,fun p h=>by simp at h,fun p h=>by simp at h,.nil⟩
theorem Ok.put {G:List Int}{ps:Parents} (o:Ok G ps) {a b:Int} (ha:a∈G) (hb:b∈G) {h:Int}{n:Nat} (g:kP (without ps a) b h n) (hne:h≠a):Ok G ((a,b)::without ps a):=by
 have hp:∀k,k≠a->par ((a,b)::without ps a) k=par (without ps a) k:=fun k hk=>by rw[JZ,if_neg hk]
 have key:∀{k h:Int}{n:Nat},kP (without ps a) k h n->h≠a->kP ((a,b)::without ps a) k h n:=by
  intro k h n g
  induction g with
  | @stop k e=>intro hne;exact .stop (by rw[hp k hne];exact e)
  | @step k v h n e g' ih=>
   intro hne
   refine .step ?_ (ih hne)
   have:k≠a:=by intro q;subst q;rw[yb,if_pos rfl] at e;cases e
   rw[hp k this];exact e
 have key2:∀{k h':Int}{n':Nat},kP (without ps a) k h' n'->h'=a->∃n2,kP ((a,b)::without ps a) k h n2:=by
  intro k h' n' g'
  induction g' with
  | @stop k e=>
   intro q;subst q
   exact⟨n+1,.step (by rw[JZ,if_pos rfl]) (key g hne)⟩
  | @step k v h' n' e g' ih=>
   intro q
   obtain⟨n2,c⟩:=ih q
   have:k≠a:=by intro q;subst q;rw[yb,if_pos rfl] at e;cases e
   exact⟨n2+1,.step (by rw[hp k this];exact e) c⟩
 refine⟨fun k=>?_,fun p h=>?_,fun p h=>?_,?_⟩
 ·obtain⟨h',n',c⟩:=(o.drop a).ends k
  by_cases q:h'=a
  ·obtain⟨n2,c2⟩:=key2 c q;exact⟨h,n2,c2⟩
  ·exact⟨h',n',key c q⟩
 ·rcases Uaf.mp h with rfl | h
  ·exact ha
  ·exact o.keys p (jh h).1
 ·rcases Uaf.mp h with rfl | h
  ·exact hb
  ·exact o.vals p (jh h).1
 ·rw[Uas,Uce]
  refine⟨fun h=>?_,Ja o.nd⟩
  obtain⟨p,hp,e⟩:=Uaq.mp h
  exact(jh hp).2 e
theorem Ok.sinkOne {G:List Int}{ps:Parents} (o:Ok G ps) (hG:G.length<=GENERA) (x:Act) (h2:x.kind=2->x.a∈G/\x.b∈G):Ok G (sinkOne ps x):=by
 unfold Vbnlae.sinkOne
 split
 ·rename_i e
  split
  ·exact o
  ·rename_i q
   obtain⟨n,_,g⟩:=(o.drop x.a).goes hG x.b
   exact o.put (h2 e).1 (h2 e).2 g q
 ·split
  ·exact o.drop _
  ·exact o
theorem K2 {G:List Int} (hG:G.length<=GENERA):∀(l:List Act) (ps:Parents),(∀x∈l,x.kind=2->x.a∈G/\x.b∈G)->Ok G ps->Ok G (l.foldl sinkOne ps)
 | [],_,_,o=>o
 | x::r,ps,h,o=>K2 hG r _ (fun y hy=>h y (Uad _ hy)) (o.sinkOne hG x (h x Uak))
end NB
namespace NB
open Vbnlae
theorem Xe {α:Type}{f:α->Int}{l m:List α} (nd:(l.map f).Nodup) (p:l.Perm m) (k:Int):l.find? (fun x=>f x == k)=m.find? (fun x=>f x == k):=by
 induction p with
 | nil=>rfl
 | @cons x l1 l2 p ih=>
  rw[Uas,Uce] at nd
  rw[Uar,Uar,ih nd.2]
 | @swap x y l=>
  rw[Uas,Uas,Uce,Uaf] at nd
  rw[Uar,Uar,Uar,Uar]
  by_cases hx:f x=k
  ·have e1:(f x == k)=true:=by simpa using hx
   have e2:(f y == k)=false:=by
    have:¬f y=f x:=fun q=>nd.1 (.inl q)
    simpa using fun q:f y=k=>this (q.trans hx.symm)
   rw[e1,e2]
  ·have e1:(f x == k)=false:=by simpa using hx
   rw[e1]
 | @trans l1 l2 l3 p1 p2 ih1 ih2=>rw[ih1 nd,ih2 ((p1.map f).nodup nd)]
theorem vy {α:Type}{f:α->Int}:∀{l:List α}{x:α},(l.map f).Nodup->x∈l->l.find? (fun y=>f y == f x)=some x
 | [],x,_,h=>by simp at h
 | y::r,x,nd,h=>by
  rw[Uas,Uce] at nd
  rw[Uar]
  rcases Uaf.mp h with rfl | h
  ·simp
  ·have:(f y == f x)=false:=by simpa using fun q:f y=f x=>nd.1 (q▸Ubg h)
   rw[this]
   exact vy nd.2 h
theorem zx {α:Type}{f:α->Int}{l:List α}{x:α}{k:Int} (h:l.find? (fun y=>f y == k)=some x):x∈l/\f x=k:=
 ⟨List.mem_of_find?_eq_some h,by simpa using List.find?_some h⟩
theorem YO {α:Type}{f:α->Int}{l:List α}{k:Int} (h:l.find? (fun y=>f y == k)=none):∀x∈l,f x≠k:=fun x hx q=>by
 have:=List.find?_eq_none.mp h x hx
 simp [q] at this
structure Sim (D:Int) (s t:State):Prop where
 g:s.genera.Perm t.genera
 n:s.species.Perm t.species
 a:∀d,d<=D->actsBy s d=actsBy t d
 gnd:(s.genera.map (·.key)).Nodup
 snd:(s.species.map (·.key)).Nodup
section
variable {D:Int}{s t:State} (S:Sim D s t)
include S
theorem Sim.genusOf (k:Int):genusOf s k=genusOf t k:=Xe S.gnd S.g k
theorem Sim.speciesOf (k:Int):speciesOf s k=speciesOf t k:=Xe S.snd S.n k
theorem Sim.placeOf (k:Int):placeOf s k=placeOf t k:=by unfold Vbnlae.placeOf;rw[S.genusOf,S.speciesOf]
theorem Sim.isOut (d k:Int):isOut s d k=isOut t d k:=by unfold Vbnlae.isOut;rw[S.placeOf]
theorem Sim.isGenus (k:Int):isGenus s k=isGenus t k:=by unfold Vbnlae.isGenus;rw[S.genusOf]
theorem Sim.isSpecies (k:Int):isSpecies s k=isSpecies t k:=by unfold Vbnlae.isSpecies;rw[S.speciesOf]
theorem Sim.isName (k:Int):isName s k=isName t k:=by unfold Vbnlae.isName;rw[S.isGenus,S.isSpecies]
theorem X8 (s:State) (d kind a:Int):lastAct s d kind a=((actsBy s d).filter fun x=>x.kind == kind&&x.a == a).getLast?:=by
 unfold lastAct actsBy
 rw[Ubq]
 congr 2
 funext x
 rw[Bool.and_comm]
variable {d:Int} (hd:d<=D)
include hd
theorem Sim.lastAct (kind a:Int):lastAct s d kind a=lastAct t d kind a:=by rw[X8 S,X8 S,S.a d hd]
theorem Sim.status (k:Int):status s d k=status t d k:=by unfold Vbnlae.status;rw[S.lastAct hd]
theorem Sim.moment (k:Int):moment s d k=moment t d k:=by unfold Vbnlae.moment;rw[S.placeOf,S.lastAct hd]
theorem Sim.before (a b:Int):before s d a b=before t d a b:=by unfold Vbnlae.before;rw[S.moment hd,S.moment hd]
theorem Sim.counts (k:Int):counts s d k=counts t d k:=by unfold Vbnlae.counts;rw[S.isOut,S.status hd]
theorem Sim.parents:parents s d=parents t d:=by unfold Vbnlae.parents;rw[S.a d hd]
theorem Sim.headOf (g:Int):headOf s d g=headOf t d g:=by unfold Vbnlae.headOf;rw[S.parents hd]
theorem Sim.placed (n:Species):placed s d n=placed t d n:=by unfold Vbnlae.placed;rw[S.lastAct hd]
theorem Sim.homeBy (ps:Parents) (n:Species):homeBy ps s d n=homeBy ps t d n:=by unfold Vbnlae.homeBy;rw[S.placed hd]
theorem Sim.home (n:Species):home s d n=home t d n:=by unfold Vbnlae.home;rw[S.parents hd,S.homeBy hd]
omit hd in
theorem Sim.genderOf (g:Int):genderOf s g=genderOf t g:=by unfold Vbnlae.genderOf;rw[S.genusOf]
end
theorem ja {s:State}{d a b:Int} (ha:(placeOf s a).isSome=true) (h:moment s d a=moment s d b):a=b:=by
 unfold moment at h
 cases e:placeOf s a with
 | none=>rw[e] at ha;cases ha
 | some p=>
  rw[e] at h
  cases q:placeOf s b with
  | none=>rw[q] at h;cases h
  | some p'=>
   rw[q] at h
   simp only[List.cons.injEq] at h
   exact h.2.2.2.2.1
theorem jn {s:State}{g:Genus} (h:g∈s.genera):(placeOf s g.key).isSome=true:=by
 unfold placeOf
 cases e:genusOf s g.key with
 | some x=>rfl
 | none=>exact absurd rfl (YO (f:=fun x:Genus=>x.key) e g h)
theorem yh {s:State}{n:Species} (h:n∈s.species):(placeOf s n.key).isSome=true:=by
 unfold placeOf
 cases e:genusOf s n.key with
 | some x=>rfl
 | none=>
  cases q:speciesOf s n.key with
  | some x=>rfl
  | none=>exact absurd rfl (YO (f:=fun x:Species=>x.key) q n h)
theorem jD {s t:State}{d:Int}{l m:List Int} (e:∀k,moment s d k=moment t d k) (p:l.Perm m) (hk:∀k∈l,(placeOf s k).isSome=true):firstBy s d l=firstBy t d m:=by
 by_cases h:l=[]
 ·subst h
  rw[List.nil_perm.mp p]
  rfl
 ·have hm:m≠[]:=fun q=>h (by rw[q] at p;exact p.eq_nil)
  refine Zk (fun a b ha _=>ja (hk a ha)) (p.mem_iff.mpr (vF t d m hm)) fun z hz=>?_
  have:=qh t d m z (p.mem_iff.mp hz)
  unfold Nd at this ⊢
  rw[e,e];exact this
theorem jm {s t:State}{d:Int}{l m:List Int} (e:∀k,moment s d k=moment t d k) (p:l.Perm m) (hk:∀k∈l,(placeOf s k).isSome=true):byPrecedence s d l=byPrecedence t d m:=by
 have hq:byPrecedence t d m=srt (moment t d) m:=yy t d m
 have e':moment s d=moment t d:=funext e
 refine jf (fun a b ha _=>ja (hk a ha)) ?_ ?_
 ·rw[hq];exact(x4 _ m).trans p.symm
 ·rw[hq,e'];exact jZ _ m
section
variable {D:Int}{s t:State} (S:Sim D s t) {d:Int} (hd:d<=D)
include S
theorem Sim.speciesKeys {p q:Species->Bool} (h:∀m,p m=q m):(speciesKeys s p).Perm (speciesKeys t q):=by
 have:p=q:=funext h
 subst this
 exact(S.n.filter p).map _
theorem j3 (p:Species->Bool):∀k∈speciesKeys s p,(placeOf s k).isSome=true:=fun k hk=>by
 obtain⟨n,hn,rfl⟩:=Uaq.mp hk
 exact yh (Uah.mp hn).1
include hd
theorem Sim.genusBars (g:Genus):(genusBars s d g).Perm (genusBars t d g):=by
 unfold Vbnlae.genusBars
 have:(fun h:Genus=>Vbnlae.counts s d h.key&&(h.text == g.text&&Vbnlae.before s d h.key g.key))=fun h=>Vbnlae.counts t d h.key&&(h.text == g.text&&Vbnlae.before t d h.key g.key):=by
  funext h;rw[S.counts hd,S.before hd]
 rw[this]
 exact(S.g.filter _).map _
omit hd in
theorem Y3 (d:Int) (g:Genus):∀k∈Vbnlae.genusBars s d g,(placeOf s k).isSome=true:=fun k hk=>by
 obtain⟨n,hn,rfl⟩:=Uaq.mp hk
 exact jn (Uah.mp hn).1
theorem Sim.primaryBars (n:Species):(primaryBars s d n).Perm (primaryBars t d n):=by
 refine S.speciesKeys fun m=>?_
 rw[S.counts hd,S.before hd,S.genderOf]
theorem Sim.secondaryBars (n:Species) (h:Int):(secondaryBars s d n h).Perm (secondaryBars t d n h):=by
 refine S.speciesKeys fun m=>?_
 rw[S.counts hd,S.before hd,S.genderOf,S.homeBy hd,S.parents hd]
omit hd in
theorem Sim.sealed (n:Species) (x:Act) (hx:x.day<=D):sealed_ s n x=sealed_ t n x:=by
 unfold sealed_
 rw[S.isOut,S.home hx,(S.secondaryBars hx n _).contains_eq]
theorem Jx {α:Type}{p q:α->Bool}:∀{l:List α},(∀x∈l,p x=q x)->l.find? p=l.find? q
 | [],_=>rfl
 | x::r,h=>by rw[Uar,Uar,h x Uak,Jx fun y hy=>h y (Uad _ hy)]
theorem Sim.early (n:Species):early s d n=early t d n:=by
 unfold Vbnlae.early
 rw[S.a d hd]
 refine Jx S hd fun x hx=>?_
 have hx':x.day<=d:=by
  unfold actsBy at hx
  simpa using (Uah.mp hx).2
 rw[S.sealed n x (by omega)]
theorem vB {s t:State}{d:Int}{l m:List Int}{α:Type} (p:l.Perm m) (e:firstBy s d l=firstBy t d m) (f:Int->α) (z w:α) (hz:z=w) :
  (match (generalizing:=false) l with | x::r=>f (firstBy s d (x::r)) | []=>z)=(match (generalizing:=false) m with | x::r=>f (firstBy t d (x::r)) | []=>w):=by
 cases l with
 | nil=>
  have:=List.nil_perm.mp p
  subst this;exact hz
 | cons x r=>cases m with
  | nil=>exact absurd p.length_eq (by simp)
  | cons y r'=>exact congrArg f e
theorem Sim.barIn (n:Species) (h:Int):barIn s d n h=barIn t d n h:=by
 unfold Vbnlae.barIn
 have m:=S.moment hd
 refine vB S hd (S.primaryBars hd n) (jD m (S.primaryBars hd n) (j3 S _)) (fun z=>(2,z)) _ _ ?_
 rw[S.early hd]
 cases Vbnlae.early t d n with
 | some x=>rfl
 | none=>exact vB S hd (S.secondaryBars hd n h) (jD m (S.secondaryBars hd n h) (j3 S _)) (fun z=>(4,z)) _ _ rfl
theorem Sim.bar (k:Int):bar s d k=bar t d k:=by
 unfold Vbnlae.bar
 rw[S.genusOf]
 cases e:Vbnlae.genusOf t k with
 | some g=>exact vB S hd (S.genusBars hd g) (jD (S.moment hd) (S.genusBars hd g) (Y3 S d g)) (fun z=>(1,z)) _ _ rfl
 | none=>
  show (match Vbnlae.speciesOf s k with | some n=>Vbnlae.barIn s d n (Vbnlae.home s d n) | none=>(0,0))=_
  rw[S.speciesOf]
  cases Vbnlae.speciesOf t k with
  | none=>rfl
  | some n=>show Vbnlae.barIn s d n _=Vbnlae.barIn t d n _;rw[S.home hd,S.barIn hd]
theorem Sim.usable (k:Int):usable s d k=usable t d k:=by unfold Vbnlae.usable;rw[S.isOut,S.status hd,S.bar hd]
theorem Sim.group (h:Int):group s d h=group t d h:=by
 unfold Vbnlae.group
 refine jm (S.moment hd) (S.speciesKeys fun m=>?_) (j3 S _)
 rw[S.isOut,S.homeBy hd,S.parents hd]
theorem Sim.homonyms (k:Int):homonyms s d k=homonyms t d k:=by
 unfold Vbnlae.homonyms
 rw[S.genusOf]
 cases e:Vbnlae.genusOf t k with
 | some g=>
  refine jm (S.moment hd) ?_ fun k hk=>?_
  ·have:(fun h:Genus=>Vbnlae.isOut s d h.key&&h.text == g.text)=fun h=>Vbnlae.isOut t d h.key&&h.text == g.text:=by funext h;rw[S.isOut]
   show List.Perm ((s.genera.filter fun h=>Vbnlae.isOut s d h.key&&h.text == g.text).map _) _
   rw[this]
   exact(S.g.filter _).map _
  ·obtain⟨n,hn,rfl⟩:=Uaq.mp hk
   exact jn (Uah.mp hn).1
 | none=>
  show byPrecedence s d (match Vbnlae.speciesOf s k with | some n=>_ | none=>[])=_
  rw[S.speciesOf]
  cases Vbnlae.speciesOf t k with
  | none=>rfl
  | some n=>
   refine jm (S.moment hd) (S.speciesKeys fun m=>?_) (j3 S _)
   rw[S.isOut,S.homeBy hd,S.homeBy hd,S.parents hd,S.genderOf]
theorem Sim.textOf (k:Int):textOf s d k=textOf t d k:=by
 unfold Vbnlae.textOf
 rw[S.genusOf,S.speciesOf]
 cases Vbnlae.genusOf t k with
 | some g=>rfl
 | none=>cases Vbnlae.speciesOf t k with
  | none=>rfl
  | some n=>simp only[S.home hd,S.genusOf,S.genderOf]
omit hd in
theorem Sim.allKeys:(allKeys s).Perm (allKeys t):=(S.g.map _).append (S.n.map _)
omit hd in
theorem xm:∀k∈Vbnlae.allKeys s,(placeOf s k).isSome=true:=fun k hk=>by
 rcases Ubd.mp hk with h | h
 ·obtain⟨g,hg,rfl⟩:=Uaq.mp h;exact jn hg
 ·obtain⟨g,hg,rfl⟩:=Uaq.mp h;exact yh hg
theorem Sim.usableFirst (l:List Int):usableFirst s d l=usableFirst t d l:=by
 unfold Vbnlae.usableFirst
 have:(fun k=>l.contains k&&Vbnlae.usable s d k)=fun k=>l.contains k&&Vbnlae.usable t d k:=by funext k;rw[S.usable hd]
 rw[this]
 exact jD (S.moment hd) (S.allKeys.filter _) fun k hk=>xm S k (Uah.mp hk).1
theorem Sim.barredKeys:byPrecedence s d ((outKeys s d).filter fun k=>decide ((Vbnlae.bar s d k).1≠0))=byPrecedence t d ((outKeys t d).filter fun k=>decide ((Vbnlae.bar t d k).1≠0)):=by
 have e1:(fun k=>decide ((Vbnlae.bar s d k).1≠0))=fun k=>decide ((Vbnlae.bar t d k).1≠0):=by funext k;rw[S.bar hd]
 have e2:(fun k=>Vbnlae.isOut s d k)=fun k=>Vbnlae.isOut t d k:=by funext k;rw[S.isOut]
 unfold outKeys
 rw[e1,e2]
 exact jm (S.moment hd) ((S.allKeys.filter _).filter _) fun k hk=>xm S k (Uah.mp (Uah.mp hk).1).1
end
end NB
namespace NB
open Vbnlae
structure ze1 (s:State) (x:Act):Prop where
 k1:x.kind=1->(∃n∈s.species,n.key=x.a)/\∃g∈s.genera,g.key=x.b
 k2:x.kind=2->(∃g∈s.genera,g.key=x.a)/\∃g∈s.genera,g.key=x.b
 k4:x.kind=4->0<=x.b/\x.b<=2
 k6:x.kind=6->(∃n∈s.species,n.key=x.a)/\∃n∈s.species,n.key=x.b
structure WF (s:State):Prop where
 wnd:(s.works.map (·.key)).Nodup
 gnd:(s.genera.map (·.key)).Nodup
 snd:(s.species.map (·.key)).Nodup
 dis:∀g∈s.genera,∀n∈s.species,g.key≠n.key
 wl:s.works.length<=WORKS
 gl:s.genera.length<=GENERA
 sl:s.species.length<=SPECIES
 al:s.acts.length<=ACTS+1
 gen:∀g∈s.genera,(0<=g.gender/\g.gender<=2)/\g.text.length<=40/\∃w∈s.works,w.key=g.work/\w.day=g.day
 spe:∀n∈s.species,(∃g∈s.genera,g.key=n.genus)/\(n.masc.length<=40/\n.fem.length<=40/\n.neut.length<=40)/\∃w∈s.works,w.key=n.work/\w.day=n.day
 act:∀x∈s.acts,ze1 s x
 ord:s.acts.Pairwise fun x y=>later y x=true
def Xy (s:State):List Int:=s.genera.map (·.key)
theorem jQ {s:State}{d:Int}{x:Act}:x∈actsBy s d↔x∈s.acts/\x.day<=d:=by
 unfold actsBy;rw[Uah];simp
section
variable {s:State} (W:WF s)
include W
theorem WF.parents (d:Int):Ok (Xy s) (parents s d):=by
 refine K2 (by have:=W.gl;unfold Xy;simpa using this) _ _ (fun x hx h2=>?_) (Ok.nil _)
 obtain⟨⟨g,hg,e⟩,g',hg',e'⟩:=(W.act x (jQ.mp hx).1).k2 h2
 exact⟨e▸Ubg hg,e'▸Ubg hg'⟩
theorem WF.glen:(Xy s).length<=GENERA:=by have:=W.gl;unfold Xy;simpa using this
theorem WF.goes (d k:Int):∃n,n<=GENERA/\kP (Vbnlae.parents s d) k (headOf s d k) n:=(W.parents d).goes W.glen k
theorem WF.head_mem (d:Int) {k:Int} (h:k∈Xy s):headOf s d k∈Xy s:=by
 obtain⟨n,_,g⟩:=W.goes d k
 exact g.mem (W.parents d) h
theorem Wp {d kind a:Int}{x:Act} (h:lastAct s d kind a=some x):x∈s.acts/\x.day<=d/\x.kind=kind/\x.a=a:=by
 unfold lastAct at h
 have:=List.mem_of_getLast? h
 rw[Uah] at this
 obtain⟨h1,h2⟩:=this
 simp at h2
 exact⟨h1,h2.1,h2.2.1,h2.2.2⟩
theorem WF.placed_mem (d:Int) {n:Species} (h:n∈s.species):placed s d n∈Xy s:=by
 unfold placed
 cases e:lastAct s d 1 n.key with
 | some x=>
  obtain⟨h1,_,h3,_⟩:=Wp W e
  obtain⟨_,g,hg,e'⟩:=(W.act x h1).k1 h3
  show x.b∈_
  exact e'▸Ubg hg
 | none=>
  obtain⟨⟨g,hg,e'⟩,_⟩:=W.spe n h
  show n.genus∈_
  exact e'▸Ubg hg
theorem WF.home_mem (d:Int) {n:Species} (h:n∈s.species):home s d n∈Xy s:=W.head_mem d (W.placed_mem d h)
theorem WF.status_ge (d k:Int):0<=status s d k:=by
 unfold status
 cases e:lastAct s d 4 k with
 | none=>exact Ubn _
 | some x=>
  obtain⟨h1,_,h3,_⟩:=Wp W e
  exact((W.act x h1).k4 h3).1
theorem WF.genusOf {g:Genus} (h:g∈s.genera):genusOf s g.key=some g:=vy W.gnd h
theorem WF.speciesOf {n:Species} (h:n∈s.species):speciesOf s n.key=some n:=vy W.snd h
theorem WF.noGenus {n:Species} (h:n∈s.species):Vbnlae.genusOf s n.key=none:=by
 cases e:Vbnlae.genusOf s n.key with
 | none=>rfl
 | some g=>
  obtain⟨h1,h2⟩:=zx (f:=fun x:Genus=>x.key) e
  exact absurd h2 (W.dis g h1 n h)
theorem WF.placeG {g:Genus} (h:g∈s.genera):placeOf s g.key=some (g.day,g.work,g.page):=by unfold placeOf;rw[W.genusOf h]
theorem WF.placeS {n:Species} (h:n∈s.species):placeOf s n.key=some (n.day,n.work,n.page):=by unfold placeOf;rw[W.noGenus h,W.speciesOf h];rfl
end
theorem Vy {x y:Act} (h:later y x=true):later x y=false:=y6 _ _ h
def vM (P Q:Act->Bool) (b:Option Act) (x:Act):Option Act:=if Q x=true then none else if (P x&&b.isNone)=true then some x else b
theorem zcQ {α:Type}{C:List α->Prop} (h0:C []) (hs:∀l x,C l->C (l++[x])) (l:List α):C l:=by
 have:∀m:List α,C m.reverse:=by
  intro m
  induction m with
  | nil=>exact h0
  | cons x r ih=>rw[List.reverse_cons];exact hs _ _ ih
 have:=this l.reverse
 rwa [List.reverse_reverse] at this
theorem zhG (P Q:Act->Bool) (hPQ:∀x,P x=true->Q x=false) (l:List Act) (ho:l.Pairwise fun x y=>later y x=true) :
  l.foldl (vM P Q) none=l.find? fun x=>P x&&!(l.any fun y=>Q y&&later y x):=by
 revert ho
 refine zcQ (C:=fun l=>(l.Pairwise fun x y=>later y x=true)->l.foldl (vM P Q) none=l.find? fun x=>P x&&!(l.any fun y=>Q y&&later y x)) (fun _=>rfl) (fun l z ih ho=>?_) l
 rw[List.pairwise_append] at ho
 obtain⟨h1,_,h3⟩:=ho
 have hz:∀x∈l,later z x=true:=fun x hx=>h3 x hx z (Uam.mpr rfl)
 rw[List.foldl_append,ih h1,List.find?_append]
 show vM P Q _ z=_
 unfold vM
 by_cases hQ:Q z=true
 ·rw[if_pos hQ]
  have e1:(l.find? fun x=>P x&&!((l++[z]).any fun y=>Q y&&later y x))=none:=by
   rw[List.find?_eq_none]
   intro x hx
   simp [List.any_append,hQ,hz x hx]
  have e2:P z=false:=by
   cases e:P z with
   | false=>rfl
   | true=>rw[hPQ z e] at hQ;cases hQ
  rw[e1]
  simp [Uar,e2]
 ·rw[if_neg hQ]
  have hQ':Q z=false:=(Ucm _).mp hQ
  have e1:(l.find? fun x=>P x&&!((l++[z]).any fun y=>Q y&&later y x))=l.find? fun x=>P x&&!(l.any fun y=>Q y&&later y x):=by
   congr 1;funext x
   simp [List.any_append,hQ']
  have e2:((l++[z]).any fun y=>Q y&&later y z)=false:=by
   rw[List.any_eq_false]
   intro y hy
   rcases Ubd.mp hy with hy | hy
   ·simp [Vy (hz y hy)]
   ·rw[Uam.mp hy];simp [hQ']
  rw[e1]
  cases e:l.find? fun x=>P x&&!(l.any fun y=>Q y&&later y x) with
  | some x=>simp
  | none=>
   simp only[Option.isNone_none,Ucy,Option.none_or]
   rw[Uar]
   simp only[e2,Bool.not_false,Ucy]
   by_cases hP:P z=true
   ·rw[if_pos hP,hP]
   ·rw[if_neg hP,(Ucm _).mp hP];rfl
theorem Jz {s:State} (W:WF s) (d:Int):(actsBy s d).Pairwise fun x y=>later y x=true:=List.Pairwise.sublist Ucw W.ord
theorem zaO {s:State} (W:WF s) (d:Int) (n:Species) :
  early s d n=(actsBy s d).foldl (vM (sealed_ s n) fun y=>y.kind == 7&&y.a == n.key) none:=by
 rw[zhG _ _ (fun x hx=>?_) _ (Jz W d)]
 ·unfold early
  show List.find? _ (actsBy s d)=_
  congr 1;funext x
  congr 2
  congr 1;funext y
  rw[Bool.and_assoc]
 ·unfold sealed_ at hx
  simp only[Uat,beq_iff_eq] at hx
  simp [hx.1]
theorem zam {s:State}{d h:Int}{n:Species}:(barIn s d n h).1=0↔barIn s d n h=(0,0):=by
 unfold barIn
 split
 ·simp
 ·split
  ·simp
  ·split <;> simp
theorem Wt {s:State}{d k:Int}:(bar s d k).1=0↔bar s d k=(0,0):=by
 unfold bar
 split
 ·split <;> simp
 ·split
  ·exact zam
  ·simp
def xf (d a b:Int):Act:=⟨MOSTKEY+1,d,2,0,a,b⟩
theorem X5 {x:Act}{p:Act->Bool} (h:p x=false):∀l:List Act,(putAct x l).filter p=l.filter p
 | []=>by simp [putAct,h]
 | y::r=>by
  unfold putAct
  split
  ·rw[Uay,if_neg (by simp [h])]
  ·rw[Uay,Uay,X5 h r]
theorem jO {x y:Act}:later y x=true↔x.day<y.day\/(x.day=y.day/\x.key<y.key):=by
 unfold later
 simp [less]
theorem QY {d a b:Int}:∀l:List Act,(l.Pairwise fun x y=>later y x=true)->(∀x∈l,x.key<=MOSTKEY)->(putAct (xf d a b) l).filter (fun x=>decide (x.day<=d))=l.filter (fun x=>decide (x.day<=d))++[xf d a b]
 | [],_,_=>by simp [putAct,xf]
 | y::r,ho,hk=>by
  rw[Uao] at ho
  have hy:=hk y Uak
  unfold putAct
  split
  ·rename_i e
   have e':=jO.mp e
   have hd:d<y.day:=by
    rcases e' with h | ⟨_,h⟩
    ·exact h
    ·exact absurd h (by show ¬(MOSTKEY+1<y.key);omega)
   have all:∀z∈y::r,¬z.day<=d:=by
    intro z hz
    rcases Uaf.mp hz with rfl | hz
    ·omega
    ·have:=jO.mp (ho.1 z hz)
     omega
   have e1:(y::r).filter (fun x=>decide (x.day<=d))=[]:=by
    rw[List.filter_eq_nil_iff]
    intro z hz;simpa using all z hz
   rw[Uay,e1]
   simp [xf]
  ·rename_i e
   have ih:=QY (d:=d) (a:=a) (b:=b) r ho.2 fun x hx=>hk x (Uad _ hx)
   rw[Uay,Uay,ih]
   have hd:y.day<=d:=by
    have:¬(d<y.day):=fun q=>e (jO.mpr (.inl q))
    omega
   rw[if_pos (by simpa using hd),if_pos (by simpa using hd),List.cons_append]
def yw (t:State) (d a b:Int):State:={ t with acts:=actsBy t d++[xf d a b] }
theorem zbV {l:List Act}{d d':Int} (h:d'<=d):(l.filter fun x=>decide (x.day<=d)).filter (fun x=>decide (x.day<=d'))=l.filter fun x=>decide (x.day<=d'):=by
 rw[Ubq]
 congr 1;funext x
 by_cases q:x.day<=d'
 ·have:x.day<=d:=by omega
  simp [q,this]
 ·simp [q]
theorem zaa {s t:State}{d a b:Int} (hg:s.genera.Perm t.genera) (hn:s.species.Perm t.species) (ha:s.acts=t.acts) (gnd:(s.genera.map (·.key)).Nodup) (snd:(s.species.map (·.key)).Nodup)
  (ho:t.acts.Pairwise fun x y=>later y x=true) (hk:∀x∈t.acts,x.key<=MOSTKEY):Sim d (withSink s d a b) (yw t d a b) where
 g:=hg
 n:=hn
 gnd:=gnd
 snd:=snd
 a:=fun d' hd=>by
  unfold withSink yw actsBy
  rw[ha]
  show (putAct (xf d a b) t.acts).filter _=(t.acts.filter _++[xf d a b]).filter _
  rw[Ubx,zbV hd]
  by_cases q:d'=d
  ·subst q
   rw[QY _ ho hk]
   simp [xf]
  ·have e:decide ((xf d a b).day<=d')=false:=by
    have:¬d<=d':=by omega
    exact Uab this
   rw[X5 (x:=xf d a b) (p:=fun x=>decide (x.day<=d')) e]
   simp [Uay,e]
theorem WF.united {t:State} (W:WF t) (hl:t.acts.length<=ACTS) (hk:∀x∈t.acts,x.key<=MOSTKEY) {d a b:Int} (ha:∃g∈t.genera,g.key=a) (hb:∃g∈t.genera,g.key=b):WF (yw t d a b) where
 wnd:=W.wnd
 gnd:=W.gnd
 snd:=W.snd
 dis:=W.dis
 wl:=W.wl
 gl:=W.gl
 sl:=W.sl
 al:=by
  have:=Uan (fun x:Act=>decide (x.day<=d)) t.acts
  show (actsBy t d++[xf d a b]).length<=_
  unfold actsBy
  rw[Uaj]
  simp only[Ucp]
  omega
 gen:=W.gen
 spe:=W.spe
 act:=fun x hx=>by
  rcases Ubd.mp hx with h | h
  ·have:=W.act x (jQ.mp h).1
   exact⟨this.k1,this.k2,this.k4,this.k6⟩
  ·rw[Uam.mp h]
   refine⟨fun q=>?_,fun _=>⟨ha,hb⟩,fun q=>?_,fun q=>?_⟩ <;> simp [xf] at q
 ord:=by
  show (actsBy t d++[xf d a b]).Pairwise _
  rw[List.pairwise_append]
  refine⟨Jz W d,List.pairwise_singleton _ _,fun x hx y hy=>?_⟩
  rw[Uam.mp hy,jO]
  have h1:=(jQ.mp hx).2
  have h2:=hk x (jQ.mp hx).1
  show x.day<d\/(x.day=d/\x.key<MOSTKEY+1)
  omega
end NB
namespace NB
open Vbnlae
theorem qp {s:State}{d:Int}{l:List Int} (p:Int->Bool) (hk:∀k∈l,(placeOf s k).isSome=true):byPrecedence s d (l.filter p)=(byPrecedence s d l).filter p:=by
 have hq:=yy s d l
 refine jf (fun a b ha _=>ja (hk a (Uah.mp ha).1)) ?_ ?_
 ·rw[hq];exact(x4 _ l).filter p
 ·rw[hq];exact List.Pairwise.sublist Ucw (jZ _ l)
theorem y0 (s:State) (d:Int) (l:List Int):(byPrecedence s d l).Perm l:=by rw[yy];exact x4 _ l
theorem xF {α β:Type} (p:α->Bool) (f:α->List β):∀l:List α,(l.filter p).flatMap f=l.flatMap fun x=>if p x=true then f x else []
 | []=>rfl
 | x::r=>by
  rw[Uay,Uca]
  split
  ·rw[Uca,xF p f r]
  ·rw[xF p f r];rfl
theorem zax {s:State}{d:Int}{l:List Int} (p:Int->Bool) (hk:∀k∈l,(placeOf s k).isSome=true):firstBy s d (l.filter p)=((byPrecedence s d l).find? p).getD 0:=by
 have e:((byPrecedence s d l).find? p)=(byPrecedence s d (l.filter p)).head?:=by rw[qp p hk,List.head?_filter]
 rw[e]
 cases q:byPrecedence s d (l.filter p) with
 | nil=>
  have:=y0 s d (l.filter p)
  rw[q] at this
  rw[List.nil_perm.mp this]
  rfl
 | cons x r=>
  have hp:=y0 s d (l.filter p)
  have hs:=jZ (moment s d) (l.filter p)
  rw[←yy,q,Uao] at hs
  rw[q] at hp
  refine Zk (fun a b ha _=>ja (hk a (Uah.mp ha).1)) (hp.mem_iff.mp Uak) fun z hz=>?_
  rcases Uaf.mp (hp.mem_iff.mpr hz) with rfl | h
  ·exact yo _
  ·exact hs.1 z h
theorem XY {l m:List Int} (p:l.Perm m) (hl:l.Pairwise (·<=·)) (hm:m.Pairwise (·<=·)):l=m:=
 List.Perm.eq_of_pairwise (le:=fun a b:Int=>a<=b) (fun a b _ _ h g=>Int.le_antisymm h g) hl hm p
theorem w8 (x:Int):∀(l:List Int) (z:Int),z∈putNum x l↔z=x\/z∈l
 | [],z=>by simp [putNum]
 | y::r,z=>by
  unfold putNum
  split
  ·simp
  ·split
   ·rename_i h e;subst e;simp
   ·rw[Uaf,w8 x r z,Uaf]
    constructor
    ·rintro (h | h | h)
     ·exact .inr (.inl h)
     ·exact .inl h
     ·exact .inr (.inr h)
    ·rintro (h | h | h)
     ·exact .inr (.inl h)
     ·exact .inl h
     ·exact .inr (.inr h)
theorem QQ (x:Int):∀l:List Int,l.Pairwise (· < ·)->(putNum x l).Pairwise (· < ·)
 | [],_=>by simp [putNum]
 | y::r,h=>by
  have h':=h
  rw[Uao] at h
  unfold putNum
  split
  ·rename_i e
   refine Uao.mpr ⟨fun z hz=>?_,h'⟩
   rcases Uaf.mp hz with rfl | hz
   ·exact e
   ·have:=h.1 z hz;omega
  ·split
   ·exact h'
   ·rename_i e1 e2
    refine Uao.mpr ⟨fun z hz=>?_,QQ x r h.2⟩
    rcases (w8 x r z).mp hz with rfl | hz
    ·omega
    ·exact h.1 z hz
theorem JW:∀(l acc:List Int),acc.Pairwise (· < ·)->(l.foldl (fun r d=>putNum d r) acc).Pairwise (· < ·)/\∀z,z∈l.foldl (fun r d=>putNum d r) acc↔z∈l\/z∈acc
 | [],acc,h=>⟨h,fun z=>by simp⟩
 | x::r,acc,h=>by
  have q:=JW r (putNum x acc) (QQ x acc h)
  refine⟨q.1,fun z=>?_⟩
  rw[List.foldl_cons,q.2,w8,Uaf]
  constructor
  ·rintro (h | h | h)
   ·exact .inl (.inr h)
   ·exact .inl (.inl h)
   ·exact .inr h
  ·rintro ((h | h) | h)
   ·exact .inr (.inl h)
   ·exact .inl h
   ·exact .inr (.inr h)
theorem zb0 (s:State):(days s).Pairwise (· < ·):=(JW _ _ .nil).1
theorem WL (s:State) (z:Int):z∈days s↔z∈s.works.map fun w=>w.day:=by
 have:=(JW (s.works.map fun w=>w.day) [] .nil).2 z
 unfold days
 rw[this];simp
theorem zej:∀{l m:List Int},l.Pairwise (· < ·)->m.Pairwise (· < ·)->(∀z,z∈l↔z∈m)->l=m:=fun {l m} hl hm h=>by
 have nl:l.Nodup:=hl.imp fun h=>by omega
 have nm:m.Nodup:=hm.imp fun h=>by omega
 exact XY ((List.perm_ext_iff_of_nodup nl nm).mpr h) (hl.imp fun h=>by omega) (hm.imp fun h=>by omega)
theorem vV (s:State) (k:Int):∀(l:List Int) (was:Option (Int×Int)),turns s k was l=turns s k was (l.filter fun d=>isOut s d k)
 | [],was=>rfl
 | d::r,was=>by
  rw[Uay]
  cases e:isOut s d k with
  | false=>
   rw[turns,if_pos e]
   exact vV s k r was
  | true=>
   have ne:¬isOut s d k=false:=by rw[e];simp
   rw[if_pos rfl]
   unfold turns
   rw[if_neg ne,if_neg ne]
   simp only
   rw[vV s k r was,vV s k r (some (bar s d k))]
def wP (f:Int->Int×Int) (day0:Int):Int×Int->List Int->List Int
 | _,[]=>[]
 | b,d::r=>(if d=day0\/f d≠b then [d,(f d).1,(f d).2] else [])++wP f day0 (f d) r
theorem Xh (s:State) (k day0:Int):∀(l:List Int) (b:Int×Int),(∀d∈l,isOut s d k=true/\d≠day0)->(turns s k (some b) l).flatMap (fun p=>[p.1,p.2.1,p.2.2])=wP (fun d=>bar s d k) day0 b l
 | [],_,_=>rfl
 | d::r,b,h=>by
  have h0:=h d Uak
  have ih:=fun b=>Xh s k day0 r b fun x hx=>h x (Uad _ hx)
  rw[turns,if_neg (by rw[h0.1];simp)]
  unfold wP
  simp only
  by_cases e:bar s d k=b
  ·rw[if_pos (by rw[e]),if_neg (fun q=>q.elim h0.2 fun q=>q e),ih,e]
   rfl
  ·rw[if_neg (by intro q;exact e (Option.some.inj q).symm),if_pos (.inr e),Uca,ih]
theorem JV {s:State}{k day0:Int}{l:List Int} (b:Int×Int) (hl:(day0::l).Pairwise (· < ·)) (ho:∀d,isOut s d k=decide (day0<=d)) (hd:∀z,z∈day0::l↔z∈days s/\day0<=z) :
  (history s k).flatMap (fun p=>[p.1,p.2.1,p.2.2])=wP (fun d=>bar s d k) day0 b (day0::l):=by
 unfold history
 rw[vV]
 have e:(days s).filter (fun d=>isOut s d k)=day0::l:=by
  refine zej (List.Pairwise.sublist Ucw (zb0 s)) hl fun z=>?_
  rw[Uah,hd,ho];simp
 rw[e,turns,if_neg (by rw[ho];simp)]
 simp only[reduceCtorEq,if_false]
 unfold wP
 rw[if_pos (.inl rfl),Uca,Xh s k day0 l]
 intro d h
 rw[Uao] at hl
 have:=hl.1 d h
 exact⟨by rw[ho];simp;omega,by omega⟩
end NB
namespace NB
open Vbnlae
structure Rel (s t:State):Prop where
 w:s.works.Perm t.works
 g:s.genera.Perm t.genera
 n:s.species.Perm t.species
 a:s.acts=t.acts
 W:WF t
 ws:s.works.Pairwise fun x y=>x.key<y.key
 gs:s.genera.Pairwise fun x y=>x.key<y.key
 ns:s.species.Pairwise fun x y=>x.key<y.key
 al:t.acts.length<=ACTS
 ak:∀x∈t.acts,x.key<=MOSTKEY
section
variable {s t:State} (R:Rel s t)
include R
theorem Rel.gnd:(s.genera.map (·.key)).Nodup:=(R.g.map _).nodup_iff.mpr R.W.gnd
theorem Rel.snd:(s.species.map (·.key)).Nodup:=(R.n.map _).nodup_iff.mpr R.W.snd
theorem Rel.wnd:(s.works.map (·.key)).Nodup:=(R.w.map _).nodup_iff.mpr R.W.wnd
theorem Rel.sim (D:Int):Sim D s t:=⟨R.g,R.n,fun d _=>by unfold actsBy;rw[R.a],R.gnd,R.snd⟩
theorem Rel.simU (d a b:Int):Sim d (withSink s d a b) (yw t d a b):=zaa R.g R.n R.a R.gnd R.snd R.W.ord R.ak
theorem Rel.workOf (k:Int):workOf s k=workOf t k:=Xe R.wnd R.w k
theorem Rel.dayOf (k:Int):dayOf s k=dayOf t k:=by unfold Vbnlae.dayOf;rw[R.workOf]
theorem Rel.isWork (k:Int):isWork s k=isWork t k:=by unfold Vbnlae.isWork;rw[R.workOf]
end
theorem zco:Rel start {} where
 w:=.refl _
 g:=.refl _
 n:=.refl _
 a:=rfl
 ws:=.nil
 gs:=.nil
 ns:=.nil
 al:=Uax _
 ak:=fun x h=>by simp at h
 W:={ wnd:=.nil,gnd:=.nil,snd:=.nil,dis:=fun g h=>by simp at h,wl:=Uax _,gl:=Uax _,sl:=Uax _,al:=Uax _,gen:=fun g h=>by simp at h,spe:=fun g h=>by simp at h,act:=fun g h=>by simp at h,ord:=.nil }
theorem jt {α:Type}{f:α->Int}{l:List α}{k:Int} (h:(l.find? fun x=>f x == k).isSome=false):¬k∈l.map f:=fun q=>by
 obtain⟨x,hx,e⟩:=Uaq.mp q
 cases e2:l.find? fun x=>f x == k with
 | some y=>rw[e2] at h;cases h
 | none=>exact YO e2 x hx e
theorem VW {α:Type}{f:α->Int}{l:List α}{x:α} (nd:(l.map f).Nodup) (h:¬f x∈l.map f):((l++[x]).map f).Nodup:=by
 rw[Ubc,List.nodup_append]
 refine⟨nd,by simp,fun a ha b hb=>?_⟩
 have:b=f x:=by simpa using hb
 subst this
 intro e;subst e;exact h ha
theorem kb (x:Work):∀l:List Work,(putWork x l).Perm (l++[x])
 | []=>.refl _
 | y::r=>by
  unfold putWork
  split
  ·exact(Uct x (y::r)).symm
  ·exact(kb x r).cons y
theorem X1 (x:Work):∀l:List Work,¬x.key∈l.map (·.key)->(l.Pairwise fun x y=>x.key<y.key)->(putWork x l).Pairwise fun x y=>x.key<y.key
 | [],_,_=>by simp [putWork]
 | y::r,hn,h=>by
  have h':=h
  rw[Uao] at h
  unfold putWork
  split
  ·rename_i e
   refine Uao.mpr ⟨fun z hz=>?_,h'⟩
   rcases Uaf.mp hz with rfl | hz
   ·exact e
   ·have:=h.1 z hz;omega
  ·rename_i e
   have hne:x.key≠y.key:=fun q=>hn (by rw[q];simp)
   refine Uao.mpr ⟨fun z hz=>?_,X1 x r (fun q=>hn (by rw[Uas];exact Uad _ q)) h.2⟩
   rcases Ubd.mp ((kb x r).mem_iff.mp hz) with hz | hz
   ·exact h.1 z hz
   ·rw[Uam.mp hz];omega
theorem qj (x:Genus):∀l:List Genus,(putGenus x l).Perm (l++[x])
 | []=>.refl _
 | y::r=>by
  unfold putGenus
  split
  ·exact(Uct x (y::r)).symm
  ·exact(qj x r).cons y
theorem Yf (x:Genus):∀l:List Genus,¬x.key∈l.map (·.key)->(l.Pairwise fun x y=>x.key<y.key)->(putGenus x l).Pairwise fun x y=>x.key<y.key
 | [],_,_=>by simp [putGenus]
 | y::r,hn,h=>by
  have h':=h
  rw[Uao] at h
  unfold putGenus
  split
  ·rename_i e
   refine Uao.mpr ⟨fun z hz=>?_,h'⟩
   rcases Uaf.mp hz with rfl | hz
   ·exact e
   ·have:=h.1 z hz;omega
  ·rename_i e
   have hne:x.key≠y.key:=fun q=>hn (by rw[q];simp)
   refine Uao.mpr ⟨fun z hz=>?_,Yf x r (fun q=>hn (by rw[Uas];exact Uad _ q)) h.2⟩
   rcases Ubd.mp ((qj x r).mem_iff.mp hz) with hz | hz
   ·exact h.1 z hz
   ·rw[Uam.mp hz];omega
theorem jr (x:Species):∀l:List Species,(putSpecies x l).Perm (l++[x])
 | []=>.refl _
 | y::r=>by
  unfold putSpecies
  split
  ·exact(Uct x (y::r)).symm
  ·exact(jr x r).cons y
theorem vU (x:Species):∀l:List Species,¬x.key∈l.map (·.key)->(l.Pairwise fun x y=>x.key<y.key)->(putSpecies x l).Pairwise fun x y=>x.key<y.key
 | [],_,_=>by simp [putSpecies]
 | y::r,hn,h=>by
  have h':=h
  rw[Uao] at h
  unfold putSpecies
  split
  ·rename_i e
   refine Uao.mpr ⟨fun z hz=>?_,h'⟩
   rcases Uaf.mp hz with rfl | hz
   ·exact e
   ·have:=h.1 z hz;omega
  ·rename_i e
   have hne:x.key≠y.key:=fun q=>hn (by rw[q];simp)
   refine Uao.mpr ⟨fun z hz=>?_,vU x r (fun q=>hn (by rw[Uas];exact Uad _ q)) h.2⟩
   rcases Ubd.mp ((jr x r).mem_iff.mp hz) with hz | hz
   ·exact h.1 z hz
   ·rw[Uam.mp hz];omega
theorem Z2 {α:Type}{l:List α}{x:α}{n:Nat} (h:¬n<=l.length):(l++[x]).length<=n:=by rw[Uaj];simp only[Ucp];omega
theorem Rel.addWork {s t:State} (R:Rel s t) {k day:Int} (h5:Vbnlae.isWork s k=false) (h8:¬WORKS<=s.works.length) :
  Rel { s with works:=putWork ⟨k,day⟩ s.works } { t with works:=t.works++[⟨k,day⟩] }:=by
 have hn:¬k∈s.works.map (·.key):=jt h5
 have hn':¬k∈t.works.map (·.key):=fun q=>hn ((R.w.map _).mem_iff.mpr q)
 refine { R with w:=(kb _ _).trans (R.w.append_right _),ws:=X1 _ _ hn R.ws,W:=?_ }
 have W:=R.W
 refine { W with wnd:=VW W.wnd hn',wl:=Z2 (by rw[←R.w.length_eq];exact h8),gen:=fun g hg=>?_,spe:=fun n hn=>?_,act:=fun x hx=>⟨(W.act x hx).k1,(W.act x hx).k2,(W.act x hx).k4,(W.act x hx).k6⟩ }
 ·obtain⟨h1,h2,w,hw,h3⟩:=W.gen g hg
  exact⟨h1,h2,w,Ubj _ hw,h3⟩
 ·obtain⟨h1,h2,w,hw,h3⟩:=W.spe n hn
  exact⟨h1,h2,w,Ubj _ hw,h3⟩
theorem WY {t:State}{w:Int} (h:isWork t w=true):∃x∈t.works,x.key=w/\x.day=dayOf t w:=by
 unfold isWork at h
 unfold dayOf
 cases e:workOf t w with
 | none=>rw[e] at h;cases h
 | some x=>
  obtain⟨h1,h2⟩:=zx (f:=fun x:Work=>x.key) e
  exact⟨x,h1,h2,rfl⟩
theorem zbB {t:State}{k:Int} (h:isName t k=false):(¬k∈t.genera.map (·.key))/\¬k∈t.species.map (·.key):=by
 unfold isName at h
 rw[Bool.or_eq_false_iff] at h
 exact⟨jt h.1,jt h.2⟩
theorem Rel.addGenus {s t:State} (R:Rel s t) {k w page gender:Int}{txt:Text} (hg:within gender 0 2=true) (hl:txt.length<=40) (h5:Vbnlae.isName s k=false) (h6:Vbnlae.isWork s w=true) (h8:¬GENERA<=s.genera.length) :
  Rel { s with genera:=putGenus ⟨k,Vbnlae.dayOf s w,w,page,gender,txt⟩ s.genera } { t with genera:=t.genera++[⟨k,Vbnlae.dayOf t w,w,page,gender,txt⟩] }:=by
 have hn:=zbB h5
 have hn':¬k∈t.genera.map (·.key):=fun q=>hn.1 ((R.g.map _).mem_iff.mpr q)
 have hs':¬k∈t.species.map (·.key):=fun q=>hn.2 ((R.n.map _).mem_iff.mpr q)
 rw[R.dayOf]
 have W:=R.W
 have hw:=WY (t:=t) (by rw[←R.isWork];exact h6)
 refine { R with g:=(qj _ _).trans (R.g.append_right _),gs:=Yf _ _ hn.1 R.gs,W:=?_ }
 refine { W with gnd:=VW W.gnd hn',gl:=Z2 (by rw[←R.g.length_eq];exact h8),dis:=fun g hg n hn=>?_,gen:=fun g hg'=>?_,spe:=fun n hn=>?_,act:=fun x hx=>?_ }
 ·rcases Ubd.mp hg with hg | hg
  ·exact W.dis g hg n hn
  ·rw[Uam.mp hg]
   intro q
   exact hs' (Uaq.mpr ⟨n,hn,q.symm⟩)
 ·rcases Ubd.mp hg' with hg' | hg'
  ·exact W.gen g hg'
  ·rw[Uam.mp hg']
   unfold within at hg
   simp only[Uat,Ubm] at hg
   exact⟨hg,hl,hw⟩
 ·obtain⟨⟨g,hg,e⟩,h2⟩:=W.spe n hn
  exact⟨⟨g,Ubj _ hg,e⟩,h2⟩
 ·have A:=W.act x hx
  refine⟨fun q=>?_,fun q=>?_,A.k4,A.k6⟩
  ·obtain⟨h1,g,hg,e⟩:=A.k1 q
   exact⟨h1,g,Ubj _ hg,e⟩
  ·obtain⟨⟨g,hg,e⟩,g',hg',e'⟩:=A.k2 q
   exact⟨⟨g,Ubj _ hg,e⟩,g',Ubj _ hg',e'⟩
theorem wE {t:State}{g:Int} (h:isGenus t g=true):∃x∈t.genera,x.key=g:=by
 unfold isGenus at h
 cases e:genusOf t g with
 | none=>rw[e] at h;cases h
 | some x=>obtain⟨h1,h2⟩:=zx (f:=fun x:Genus=>x.key) e;exact⟨x,h1,h2⟩
theorem vm {t:State}{g:Int} (h:isSpecies t g=true):∃x∈t.species,x.key=g:=by
 unfold isSpecies at h
 cases e:speciesOf t g with
 | none=>rw[e] at h;cases h
 | some x=>obtain⟨h1,h2⟩:=zx (f:=fun x:Species=>x.key) e;exact⟨x,h1,h2⟩
theorem Rel.addSpecies {s t:State} (R:Rel s t) {k w page g:Int}{m f n:Text} (hm:m.length<=40) (hf:f.length<=40) (hne:n.length<=40) (h5:Vbnlae.isName s k=false) (h6:Vbnlae.isWork s w=true) (h7:Vbnlae.isGenus s g=true) (h8:¬SPECIES<=s.species.length) :
  Rel { s with species:=putSpecies ⟨k,Vbnlae.dayOf s w,w,page,g,m,f,n⟩ s.species } { t with species:=t.species++[⟨k,Vbnlae.dayOf t w,w,page,g,m,f,n⟩] }:=by
 have hn:=zbB h5
 have hn':¬k∈t.genera.map (·.key):=fun q=>hn.1 ((R.g.map _).mem_iff.mpr q)
 have hs':¬k∈t.species.map (·.key):=fun q=>hn.2 ((R.n.map _).mem_iff.mpr q)
 rw[R.dayOf]
 have W:=R.W
 have hw:=WY (t:=t) (by rw[←R.isWork];exact h6)
 have hg:=wE (t:=t) (by rw[←(R.sim 0).isGenus];exact h7)
 refine { R with n:=(jr _ _).trans (R.n.append_right _),ns:=vU _ _ hn.2 R.ns,W:=?_ }
 refine { W with snd:=VW W.snd hs',sl:=Z2 (by rw[←R.n.length_eq];exact h8),dis:=fun g hg n hn=>?_,spe:=fun x hx=>?_,act:=fun x hx=>?_ }
 ·rcases Ubd.mp hn with hn | hn
  ·exact W.dis g hg n hn
  ·rw[Uam.mp hn]
   intro q
   exact hn' (Uaq.mpr ⟨g,hg,q⟩)
 ·rcases Ubd.mp hx with hx | hx
  ·exact W.spe x hx
  ·rw[Uam.mp hx]
   exact⟨hg,⟨hm,hf,hne⟩,hw⟩
 ·have A:=W.act x hx
  refine⟨fun q=>?_,A.k2,A.k4,fun q=>?_⟩
  ·obtain⟨⟨n,hn,e⟩,h2⟩:=A.k1 q
   exact⟨⟨n,Ubj _ hn,e⟩,h2⟩
  ·obtain⟨⟨g,hg,e⟩,g',hg',e'⟩:=A.k6 q
   exact⟨⟨g,Ubj _ hg,e⟩,g',Ubj _ hg',e'⟩
def ve (x:Act):List Int:=[x.day,x.key]
theorem xy (x:Act):∀l:List Act,(putAct x l).Perm (l++[x])
 | []=>.refl _
 | y::r=>by
  unfold putAct
  split
  ·exact(Uct x (y::r)).symm
  ·exact(xy x r).cons y
theorem wI (x:Act):∀l:List Act,(∀y∈l,y.key≠x.key)->(l.Pairwise fun x y=>later y x=true)->(putAct x l).Pairwise fun x y=>later y x=true
 | [],_,_=>by simp [putAct]
 | y::r,hn,h=>by
  have h':=h
  rw[Uao] at h
  unfold putAct
  split
  ·rename_i e
   refine Uao.mpr ⟨fun z hz=>?_,h'⟩
   rcases Uaf.mp hz with rfl | hz
   ·exact e
   ·exact j1 _ _ _ e (h.1 z hz)
  ·rename_i e
   refine Uao.mpr ⟨fun z hz=>?_,wI x r (fun z hz=>hn z (Uad _ hz)) h.2⟩
   rcases Ubd.mp ((xy x r).mem_iff.mp hz) with hz | hz
   ·exact h.1 z hz
   ·rw[Uam.mp hz,jO]
    have q1:¬(x.day<y.day\/(x.day=y.day/\x.key<y.key)):=fun q=>e (jO.mpr q)
    have q2:=hn y Uak
    omega
theorem zeY {l:List Act} (ho:l.Pairwise fun x y=>later y x=true):∀a b,a∈l->b∈l->ve a=ve b->a=b:=by
 induction l with
 | nil=>intro a b h;simp at h
 | cons y r ih=>
  rw[Uao] at ho
  intro a b ha hb e
  have no:∀z∈r,ve z≠ve y:=fun z hz q=>by
   have h:=ho.1 z hz
   unfold later at h
   unfold ve at q
   rw[q,yo] at h;cases h
  rcases Uaf.mp ha with ea | ha' <;> rcases Uaf.mp hb with eb | hb'
  ·rw[ea,eb]
  ·rw[ea] at e;exact absurd e.symm (no b hb')
  ·rw[eb] at e;exact absurd e (no a ha')
  ·exact ih ho.2 a b ha' hb' e
theorem zfM {l:List Act} (ho:l.Pairwise fun x y=>later y x=true):l.Pairwise (Nd ve):=ho.imp fun h=>y6 _ _ h
theorem zav {x:Act}{l m:List Act} (hn:∀y∈l,y.key≠x.key) (ho:l.Pairwise fun x y=>later y x=true) (p:m.Perm (l++[x])) (h:m.Pairwise (Nd ve)):m=putAct x l:=by
 have h1:=wI x l hn ho
 exact(X9 (zeY h1) ((xy x l).trans p.symm) (zfM h1) h).symm
theorem zay {t:State}{x:Act} (h1:rangeOk x=true) (h2:namesOk t x=true):ze1 t x:=by
 unfold namesOk at h2
 unfold rangeOk at h1
 refine⟨fun q=>?_,fun q=>?_,fun q=>?_,fun q=>?_⟩
 ·rw[if_pos q,Uat] at h2
  exact⟨vm h2.1,wE h2.2⟩
 ·rw[if_neg (by omega),if_pos q,Uat] at h2
  exact⟨wE h2.1,wE h2.2⟩
 ·rw[if_pos q] at h1
  unfold within at h1
  simpa using h1
 ·rw[if_neg (by omega),if_neg (by omega),if_neg (by omega),if_pos q,Uat] at h2
  exact⟨vm h2.1,vm h2.2⟩
theorem Rel.addAct {s t:State} (R:Rel s t) {x:Act} (h:Vbnlae.actFault s x=0):Rel { s with acts:=putAct x s.acts } { t with acts:=putAct x t.acts }:=by
 unfold actFault at h
 split at h
 ·cases h
 rename_i h4
 split at h
 ·cases h
 rename_i h9
 split at h
 ·cases h
 rename_i h5
 split at h
 ·cases h
 rename_i h6
 split at h
 ·cases h
 split at h
 ·cases h
 rename_i h8
 rw[Bool.not_eq_false] at h4 h9 h6
 rw[R.a] at h5 h8 ⊢
 have hn:∀y∈t.acts,y.key≠x.key:=fun y hy q=>h5 (List.any_eq_true.mpr ⟨y,hy,by simpa using q⟩)
 have W:=R.W
 have hk:x.key<=MOSTKEY:=by
  unfold keyOk within at h4
  simp only[Uat,Ubm] at h4
  exact h4.2
 have hnm:namesOk t x=true:=by
  rw[Uat] at h6
  have:=h6.2
  unfold namesOk at this ⊢
  simp only[(R.sim 0).isSpecies,(R.sim 0).isGenus,(R.sim 0).isName] at this
  exact this
 have hlen:(putAct x t.acts).length<=ACTS:=by rw[(xy x t.acts).length_eq];exact Z2 h8
 have hak:∀y∈putAct x t.acts,y.key<=MOSTKEY:=fun y hy=>by
  rcases Ubd.mp ((xy x t.acts).mem_iff.mp hy) with hy | hy
  ·exact R.ak y hy
  ·rw[Uam.mp hy];exact hk
 refine { R with a:=rfl,al:=hlen,ak:=hak,W:=?_ }
 ·refine { W with al:=Nat.le_succ_of_le hlen,ord:=wI x _ hn W.ord,act:=fun y hy=>?_ }
  have A:ze1 t y:=by
   rcases Ubd.mp ((xy x t.acts).mem_iff.mp hy) with hy | hy
   ·exact W.act y hy
   ·rw[Uam.mp hy];exact zay h9 hnm
  exact⟨A.k1,A.k2,A.k4,A.k6⟩
end NB
namespace NB
open Vbnlae
theorem zJ {α:Type}{c:Prop} [Decidable c] {x y:α}{r:Option α} (h:(if c then some x else r)=some y):(c/\x=y)\/r=some y:=by
 by_cases e:c
 ·rw[if_pos e] at h;exact .inl ⟨e,Option.some.inj h⟩
 ·rw[if_neg e] at h;exact .inr h
theorem x9 {p a:Int}{n k b c:Nat} (h:p=a/\(b,c)=(n,k)):p=a/\n=b/\k=c:=⟨h.1,by cases h.2;exact⟨rfl,rfl⟩⟩
theorem vi {p:Int}{n k:Nat} (h:PyVbnlae.shape p=some (n,k)):(p=0/\n=2/\k=0)\/(p=1/\n=4/\k=1)\/(p=2/\n=4/\k=3)\/(p=3/\n=4/\k=0)\/(p=4/\n=4/\k=0)\/(p=5/\n=3/\k=0)\/(p=6/\n=4/\k=0)\/(p=7/\n=4/\k=0)\/(p=8/\n=4/\k=0)\/(p=9/\n=3/\k=0)\/(p=10/\n=2/\k=0)\/(p=11/\n=2/\k=0)\/(p=12/\n=2/\k=0)\/(p=13/\n=2/\k=0)\/(p=14/\n=2/\k=0)\/(p=15/\n=2/\k=0)\/(p=16/\n=2/\k=0)\/(p=17/\n=2/\k=0)\/(p=18/\n=3/\k=0)\/(p=19/\n=3/\k=0)\/(p=20/\n=1/\k=0)\/(p=21/\n=1/\k=1)\/(p=22/\n=1/\k=0)\/(p=23/\n=0/\k=0):=by
 unfold PyVbnlae.shape at h
 refine(zJ h).imp x9 fun h=>?_
 refine(zJ h).imp x9 fun h=>?_
 refine(zJ h).imp x9 fun h=>?_
 refine(zJ h).imp x9 fun h=>?_
 refine(zJ h).imp x9 fun h=>?_
 refine(zJ h).imp x9 fun h=>?_
 refine(zJ h).imp x9 fun h=>?_
 refine(zJ h).imp x9 fun h=>?_
 refine(zJ h).imp x9 fun h=>?_
 refine(zJ h).imp x9 fun h=>?_
 refine(zJ h).imp x9 fun h=>?_
 refine(zJ h).imp x9 fun h=>?_
 refine(zJ h).imp x9 fun h=>?_
 refine(zJ h).imp x9 fun h=>?_
 refine(zJ h).imp x9 fun h=>?_
 refine(zJ h).imp x9 fun h=>?_
 refine(zJ h).imp x9 fun h=>?_
 refine(zJ h).imp x9 fun h=>?_
 refine(zJ h).imp x9 fun h=>?_
 refine(zJ h).imp x9 fun h=>?_
 refine(zJ h).imp x9 fun h=>?_
 refine(zJ h).imp x9 fun h=>?_
 refine(zJ h).imp x9 fun h=>?_
 refine(zJ h).elim x9 fun h=>?_
 cases h
theorem zcY {p:Int}{n k:Nat}{a:List Int}{xs:List (List Int)} (h:PyVbnlae.shape p=some (n,k)) (ha:a.length=n) (hx:xs.length=k):PyVbnlae.whole ((p::a)::xs)=(p::a)::xs:=by
 rcases vi h with ⟨rfl,rfl,rfl⟩ | ⟨rfl,rfl,rfl⟩ | ⟨rfl,rfl,rfl⟩ | ⟨rfl,rfl,rfl⟩ | ⟨rfl,rfl,rfl⟩ | ⟨rfl,rfl,rfl⟩ | ⟨rfl,rfl,rfl⟩ | ⟨rfl,rfl,rfl⟩ | ⟨rfl,rfl,rfl⟩ | ⟨rfl,rfl,rfl⟩ | ⟨rfl,rfl,rfl⟩ | ⟨rfl,rfl,rfl⟩ | ⟨rfl,rfl,rfl⟩ | ⟨rfl,rfl,rfl⟩ | ⟨rfl,rfl,rfl⟩ | ⟨rfl,rfl,rfl⟩ | ⟨rfl,rfl,rfl⟩ | ⟨rfl,rfl,rfl⟩ | ⟨rfl,rfl,rfl⟩ | ⟨rfl,rfl,rfl⟩ | ⟨rfl,rfl,rfl⟩ | ⟨rfl,rfl,rfl⟩ | ⟨rfl,rfl,rfl⟩ | ⟨rfl,rfl,rfl⟩
 ·match a,ha,xs,hx with
  | [_,_],_,[],_=>rfl
 ·match a,ha,xs,hx with
  | [_,_,_,_],_,[_],_=>rfl
 ·match a,ha,xs,hx with
  | [_,_,_,_],_,[_,_,_],_=>rfl
 ·match a,ha,xs,hx with
  | [_,_,_,_],_,[],_=>rfl
 ·match a,ha,xs,hx with
  | [_,_,_,_],_,[],_=>rfl
 ·match a,ha,xs,hx with
  | [_,_,_],_,[],_=>rfl
 ·match a,ha,xs,hx with
  | [_,_,_,_],_,[],_=>rfl
 ·match a,ha,xs,hx with
  | [_,_,_,_],_,[],_=>rfl
 ·match a,ha,xs,hx with
  | [_,_,_,_],_,[],_=>rfl
 ·match a,ha,xs,hx with
  | [_,_,_],_,[],_=>rfl
 ·match a,ha,xs,hx with
  | [_,_],_,[],_=>rfl
 ·match a,ha,xs,hx with
  | [_,_],_,[],_=>rfl
 ·match a,ha,xs,hx with
  | [_,_],_,[],_=>rfl
 ·match a,ha,xs,hx with
  | [_,_],_,[],_=>rfl
 ·match a,ha,xs,hx with
  | [_,_],_,[],_=>rfl
 ·match a,ha,xs,hx with
  | [_,_],_,[],_=>rfl
 ·match a,ha,xs,hx with
  | [_,_],_,[],_=>rfl
 ·match a,ha,xs,hx with
  | [_,_],_,[],_=>rfl
 ·match a,ha,xs,hx with
  | [_,_,_],_,[],_=>rfl
 ·match a,ha,xs,hx with
  | [_,_,_],_,[],_=>rfl
 ·match a,ha,xs,hx with
  | [_],_,[],_=>rfl
 ·match a,ha,xs,hx with
  | [_],_,[_],_=>rfl
 ·match a,ha,xs,hx with
  | [_],_,[],_=>rfl
 ·match a,ha,xs,hx with
  | [],_,[],_=>rfl
theorem Je {sh:Int->Option (Nat×Nat)}{f:Nat}{p:Int}{r:List Int}{cs:List (List (List Int))} (h:PyFlat.calls sh f (p::r)=some cs) :
  ∃c t cs' f',PyFlat.call sh (p::r)=some (c,t)/\PyFlat.calls sh f' t=some cs'/\cs=c::cs':=by
 cases f with
 | zero=>simp [PyFlat.calls] at h
 | succ f=>
  rw[PyFlat.calls] at h
  cases e:PyFlat.call sh (p::r) with
  | none=>rw[e] at h;simp at h
  | some ct=>
   obtain⟨c,t⟩:=ct
   rw[e] at h
   simp only at h
   cases q:PyFlat.calls sh f t with
   | none=>rw[q] at h;simp at h
   | some cs'=>
    rw[q] at h
    exact⟨c,t,cs',f,rfl,q,(Option.some.inj h).symm⟩
theorem Y6 {sh:Int->Option (Nat×Nat)}{p:Int}{r:List Int}{c:List (List Int)}{t:List Int} (h:PyFlat.call sh (p::r)=some (c,t)) :
  ∃n k xs,sh p=some (n,k)/\n<=r.length/\PyFlat.rows k (r.drop n)=some (xs,t)/\c=(p::r.take n)::xs:=by
 rw[PyFlat.call] at h
 cases e:sh p with
 | none=>rw[e] at h;simp at h
 | some nk=>
  obtain⟨n,k⟩:=nk
  rw[e] at h
  simp only at h
  split at h
  ·cases h
  ·cases q:PyFlat.rows k (r.drop n) with
   | none=>rw[q] at h;simp at h
   | some xt=>
    obtain⟨xs,t'⟩:=xt
    rw[q] at h
    have h:=Option.some.inj h
    injection h with h1 h2
    subst h1 h2
    exact⟨n,k,xs,rfl,by omega,q,rfl⟩
theorem Wl {l x s:List Int} (h:PyFlat.row l=some (x,s)):∃n r,l=n::r/\0<=n/\n.toNat<=r.length/\x=r.take n.toNat/\s=r.drop n.toNat:=by
 cases l with
 | nil=>simp [PyFlat.row] at h
 | cons n r=>
  rw[PyFlat.row] at h
  by_cases q:0<=n/\n.toNat<=r.length
  ·rw[if_pos q] at h
   have h:=Option.some.inj h
   injection h with h1 h2
   exact⟨n,r,rfl,q.1,q.2,h1.symm,h2.symm⟩
  ·rw[if_neg q] at h;cases h
theorem YQ {k:Nat}{l t:List Int}{xs:List (List Int)} (h:PyFlat.rows (k+1) l=some (xs,t)):∃x s ys,PyFlat.row l=some (x,s)/\PyFlat.rows k s=some (ys,t)/\xs=x::ys:=by
 rw[PyFlat.rows] at h
 cases e:PyFlat.row l with
 | none=>rw[e] at h;simp at h
 | some xs'=>
  obtain⟨x,s⟩:=xs'
  rw[e] at h
  simp only at h
  cases q:PyFlat.rows k s with
  | none=>rw[q] at h;simp at h
  | some yt=>
   obtain⟨ys,t'⟩:=yt
   rw[q] at h
   have h:=Option.some.inj h
   injection h with h1 h2
   subst h1 h2
   exact⟨x,s,ys,rfl,q,rfl⟩
theorem ZZ:∀{k:Nat}{l t:List Int}{xs:List (List Int)},PyFlat.rows k l=some (xs,t)->xs.length=k
 | 0,l,t,xs,h=>by
  rw[PyFlat.rows] at h
  have h:=Option.some.inj h
  injection h with h1 _
  subst h1;rfl
 | k+1,l,t,xs,h=>by
  obtain⟨x,s,ys,_,h2,rfl⟩:=YQ h
  rw[Uae,ZZ h2]
theorem YN:∀(cs:List (List (List Int))) (f:Nat) (l:List Int),PyFlat.calls PyVbnlae.shape f l=some cs->cs.map PyVbnlae.whole=cs
 | [],_,_,_=>rfl
 | c::cs,f,[],h=>by cases f <;> simp [PyFlat.calls] at h
 | c::cs,f,p::r,h=>by
  obtain⟨c',t,cs',f',h1,h2,e⟩:=Je h
  injection e with e1 e2
  subst e1 e2
  obtain⟨n,k,xs,h3,h4,h5,rfl⟩:=Y6 h1
  rw[Uas,YN cs f' t h2,zcY h3 (by rw[Ubl];omega) (ZZ h5)]
theorem zdd {l:List Int}{cs:List (List (List Int))} (h:PyVbnlae.calls l=some cs):PyFlat.calls PyVbnlae.shape l.length l=some cs:=by
 unfold PyVbnlae.calls at h
 cases e:PyFlat.calls PyVbnlae.shape l.length l with
 | none=>rw[e] at h;cases h
 | some ds=>
  rw[e] at h
  rw[←Option.some.inj h,YN ds _ _ e]
theorem q0 {l r:List Int}{p:Nat}{x:Int} (h:l.drop p=x::r):p<l.length/\l[p]? = some x/\l.drop (p+1)=r:=by
 have h1:p<l.length:=by
  have:=congrArg List.length h
  rw[Uby,Uae] at this
  omega
 refine⟨h1,?_,?_⟩
 ·have:=congrArg (fun z=>z[0]?) h
  simpa using this
 ·have:=congrArg List.tail h
  simpa using this
theorem Vq {S:Type} (step:S->List (List Int)->S×List Int) (s:S) (c:List (List Int)) (r:List (List (List Int))) :
  PyFlat.told (PyFlat.played step s (c::r))=((((step s c).2.length:Nat):Int)::(step s c).2)++PyFlat.told (PyFlat.played step (step s c).1 r):=by
 unfold PyFlat.told
 rw[PyFlat.played,Uca]
end NB
set_option maxHeartbeats 4000000
namespace NP
open PySem PySem.Spec PyProof.Rows L2
def top (i:Nat):Stmt:=PySem.Challenge.pw_namebars_s01_answers.main.body.getD i (.Pass ⟨0,0,0,0⟩)
def GI (mg:Str->Option Value) (x:Str) (i:Int):Prop:=∃t,mg x=some (.int i t)
theorem zC {X:Cx}{x:Str}{i:Int}{pos:Pos} (h:GI X.mg x i) (hg:Gl X x:=by rfl) (hd:(x == ("__debug__" : Str))=false:=by decide):PE X (.Name x pos) (tC (.int i)):=
 let ⟨_,h⟩:=h
 zbY hg h ⟨_,rfl⟩ hd
structure yF (K:PySem.W.Frag) (mg:Str->Option Value) (x:Str) (st:Stmt):Prop where
 ex:∃f fd,Fun K x x st f fd/\mg x=some (.ref f)
theorem ln1 {us:List Value} (h:us.length=1):∃a,us=[a]:=match us,h with | [a],_=>⟨a,rfl⟩
theorem ln2 {us:List Value} (h:us.length=2):∃a b,us=[a,b]:=match us,h with | [a,b],_=>⟨a,b,rfl⟩
theorem ln3 {us:List Value} (h:us.length=3):∃a b c,us=[a,b,c]:=match us,h with | [a,b,c],_=>⟨a,b,c,rfl⟩
theorem ln4 {us:List Value} (h:us.length=4):∃a b c d,us=[a,b,c,d]:=match us,h with | [a,b,c,d],_=>⟨a,b,c,d,rfl⟩
theorem ln5 {us:List Value} (h:us.length=5):∃a b c d e,us=[a,b,c,d,e]:=match us,h with | [a,b,c,d,e],_=>⟨a,b,c,d,e,rfl⟩
theorem ln6 {us:List Value} (h:us.length=6):∃a b c d e f,us=[a,b,c,d,e,f]:=match us,h with | [a,b,c,d,e,f],_=>⟨a,b,c,d,e,f,rfl⟩
theorem ln7 {us:List Value} (h:us.length=7):∃a b c d e f g,us=[a,b,c,d,e,f,g]:=match us,h with | [a,b,c,d,e,f,g],_=>⟨a,b,c,d,e,f,g,rfl⟩
structure FO (P:Program) (w:World) (K:PySem.W.Frag) (mg:Str->Option Value) (base:Heap) (x:Str) (k:Nat) (ps:List Str) (sp:Sp):Prop where
 ex:∃f fd,mg x=some (.ref f)/\PySem.W.keepIn K (.ref f)=true/\qg K fd ps []/\Z1 P w K mg base CX0 k f fd ps sp
section
variable {P:Program}{w:World}{K:PySem.W.Frag}{mg:Str->Option Value}{base:Heap}
theorem yF.ok {x:Str}{st:Stmt}{N ps:List Str}{k:Nat}{sp:Sp} (D:yF K mg x st) (S:zk N ps (zg st))
  (hbody:∀(f:Addr) (cdv:Value) (A:Around) (outer:List Env) (s:Shared) (H:Hp) (vs:List V) (Q:VK) (E:XK),Room k (A.deeper (envOfC x (zg st) s.heap.objs.size f cdv))->sp vs H Q E →
   ∃t,PSs (zdt CX0 P w K mg base N x (zg st) f cdv A outer s H E).nox (zH st) t/\t { nx:=fun _ H'=>Q .non H',rt:=Q } (start N vs) H)
  (hb:∀(kV doc pm:Value) (an:Option Addr) (cdv ct:Value) (us:List Value),us.length=ps.length->bindArgs (PySem.W.fnOf x x (jj st) (zH st) (zg st) .none kV doc pm an cdv ct) ⟨us,[]⟩=pure (ps.zip us):=by
   intro _ _ _ _ _ _ us hl
   first | (obtain⟨_,rfl⟩:=NP.ln1 hl;rfl) | (obtain⟨_,_,rfl⟩:=NP.ln2 hl;rfl) | (obtain⟨_,_,_,rfl⟩:=NP.ln3 hl;rfl) | (obtain⟨_,_,_,_,rfl⟩:=NP.ln4 hl;rfl) | (obtain⟨_,_,_,_,_,rfl⟩:=NP.ln5 hl;rfl) | (obtain⟨_,_,_,_,_,_,rfl⟩:=NP.ln6 hl;rfl) | (obtain⟨_,_,_,_,_,_,_,rfl⟩:=NP.ln7 hl;rfl))
  (len:∀vs H Q E,sp vs H Q E->vs.length=ps.length:=by
   intro vs H Q E h
   first | (cases h;subst_vars;rfl) | (repeat (first | (obtain⟨e,_⟩:=h;subst e;rfl) | (obtain⟨_,h⟩:=h)))):FO P w K mg base x (k+1) ps sp:=
 let ⟨f,fd,F,hm⟩:=D.ex
 ⟨f,fd,hm,F.kp,F.binds hb,F.ok S len fun cdv A outer s H vs Q E hr h=>hbody f cdv A outer s H vs Q E hr h⟩
end
theorem zV {X:Cx}{x:Str}{k:Nat}{ps:List Str}{sp:Sp}{p pos:Pos}{e:Expr}{es:List Expr}{t:TA} (F:FO X.prog X.w X.K X.mg X.base x k ps sp) (hr:Room k X.A) (ha:PA X (e::es) t) (hg:Gl X x:=by rfl) (hdb:(x == ("__debug__" : Str))=false:=by decide)
  (he:starEach (e::es) X.env=(false,eval e X.env)::starEach es X.env:=by rfl) (hpl:(backTo pos (starEach es X.env)).any (·.1)=false:=by rfl):PE X (.Call (.Name x p) (e::es) [] pos) (zdD sp [] E0 t):=
 let ⟨_,_,hm,hk,hb,F⟩:=F.ex
 zfm F hr hg hm hk hb .nil zai ha hdb he hpl
end NP
namespace HT
open PySem PyProof.Rows
open PySem.SeqAt
open PySem.AutoSeq1 (wpAny_loadPart')
open PySem.MeetsSeq PySem.MeetsSeq2 PySem.MeetsSeq3
theorem zcu (l b:Addr) (items items2:Array Value) (n n2:Nat) (dd dd2:Option Addr) (sl sl2:Array (Option Value)) :
  ∀(ns ms:List Int) (i:Nat),IntsAre (items.toList.drop i) ns->IntsAre (items2.toList.drop i) ms->i<=items.size->i<=items2.size->Meets (Builtin.«list.__eq__.loop» ⟨[.ref l,.ref b,rawInt i,rawInt 0],[]⟩)
   (fun A R s=>s.heap.get? l=some { cls:=.type "list",dict:=dd,data:=.seq items n,slots:=sl }/\s.heap.get? b=some { cls:=.type "list",dict:=dd2,data:=.seq items2 n2,slots:=sl2 } ∧
    R (.ok (.ret (.bool (lexLt ns ms)))) s):=by
 intro ns
 induction ns with
 | nil=>
  intro ms i h1 h2 b1 b2 prog w A R s h
  obtain⟨hp,g,d,tk,os⟩:=s;obtain⟨hl,hb,h⟩:=h
  have z1:items.size=i:=by
   have:=h1.length
   simp at this;omega
  have z2:items2.size=i+ms.length:=by
   have:=h2.length
   simp at this;omega
  wp_walk using wpAny_loadPart' hl,wpAny_loadPart' hb
  have hi1:items[((i:Nat):Int).toNat]? = none:=by simp;omega
  rw[hi1]
  wp_walk using wpAny_loadPart' hl,wpAny_loadPart' hb
  show R (.ok (.ret (.bool (decide (items.size<items2.size))))) _
  have e:lexLt [] ms=decide (items.size<items2.size):=by
   cases ms with
   | nil=>rw[JH];simp at z2;exact(Uab (by omega)).symm
   | cons y ys=>rw[XM];simp at z2;exact(Uac (by omega)).symm
  rw[←e];exact h
 | cons a ns ih=>
  intro ms i h1 h2 b1 b2 prog w A R s h
  obtain⟨hp,g,d,tk,os⟩:=s;obtain⟨hl,hb,h⟩:=h
  have hlt:i<items.size:=by
   have:=h1.length
   simp at this;omega
  have d1:items.toList.drop i=items[i]::items.toList.drop (i+1):=by
   rw[Ucu (by simpa using hlt)];simp
  rw[d1] at h1
  have hi1:items[((i:Nat):Int).toNat]? = some items[i]:=by simp [hlt]
  cases ms with
  | nil=>
   have z2:items2.size=i:=by
    have:=h2.length
    simp at this;omega
   wp_walk using wpAny_loadPart' hl,wpAny_loadPart' hb
   have hi2:items2[((i:Nat):Int).toNat]? = none:=by simp;omega
   rw[hi1,hi2]
   wp_walk using wpAny_loadPart' hl,wpAny_loadPart' hb
   show R (.ok (.ret (.bool (decide (items.size<items2.size))))) _
   rw[XB] at h
   rw[Uab (by omega)];exact h
  | cons c ms=>
   have hlt2:i<items2.size:=by
    have:=h2.length
    simp at this;omega
   have d2:items2.toList.drop i=items2[i]::items2.toList.drop (i+1):=by
    rw[Ucu (by simpa using hlt2)];simp
   rw[d2] at h2
   have hi2:items2[((i:Nat):Int).toNat]? = some items2[i]:=by simp [hlt2]
   have hc:((i:Int)+1)=((i+1:Nat):Int):=by push_cast;rfl
   generalize ex:items[i]=x at h1 hi1
   generalize ey:items2[i]=y at h2 hi2
   cases h1 with
   | cons _ t h1'=>
    cases h2 with
    | cons _ u h2'=>
     rw[lexLt_cons] at h
     wp_walk using wpAny_loadPart' hl,wpAny_loadPart' hb
     rw[hi1,hi2]
     obtain⟨e,he,hiff⟩:=eqAt_int A.in1 ⟨hp,g,d,tk,os⟩ a t c u
     refine wpAny_bind (he prog w _ _ ?_)
     cases e with
     | true=>
      rw[if_pos (hiff.mp rfl)] at h
      wp_walk
      rw[hc]
      exact⟨plainId_quiet plain_eq_loop _,codeAny_builtin entry_eq_loop (by
       rw[Around.under_plainId plain_eq_loop _]
       exact ih ms (i+1) h1' h2' (by omega) (by omega) prog w A R _ ⟨hl,hb,h⟩)⟩
     | false=>
      rw[if_neg (fun q=>absurd (hiff.mpr q) Uap)] at h
      wp_walk using wpAny_loadPart' hl,wpAny_loadPart' hb
      rw[hi1,hi2]
      have hri:=zda A.in1 ⟨hp,g,d,tk,os⟩ a t c u prog w
      wp_walk using hri
      exact h
theorem list_lt_ints (l b:Addr) (items items2:Array Value) (n n2:Nat) (dd dd2:Option Addr) (sl sl2:Array (Option Value)) (ns ms:List Int) (hi:IntsAre items.toList ns) (hj:IntsAre items2.toList ms) :
  Meets (Builtin.«list.__lt__» ⟨[.ref l,.ref b],[]⟩)
   (fun _ R s=>s.heap.get? l=some { cls:=.type "list",dict:=dd,data:=.seq items n,slots:=sl }/\s.heap.get? b=some { cls:=.type "list",dict:=dd2,data:=.seq items2 n2,slots:=sl2 } ∧
    R (.ok (.ret (.bool (lexLt ns ms)))) s):=by
 intro prog w A R s h
 obtain⟨hp,g,d,tk,os⟩:=s;obtain⟨hl,hb,h⟩:=h
 have f3:=AutoSeq1.sub_list_list
 wp_walk using wpAny_loadPart' hl,wpAny_loadPart' hb
 exact⟨plainId_quiet plain_eq_loop _,codeAny_builtin entry_eq_loop (by
  rw[Around.under_plainId plain_eq_loop _]
  exact zcu l b items items2 n n2 dd dd2 sl sl2 ns ms 0 hi hj (Uax _) (Uax _) prog w A R _ ⟨hl,hb,h⟩)⟩
end HT
namespace NP
open PySem PySem.Spec PyProof.Rows L2
structure MO (P:Program) (w:World) (K:PySem.W.Frag) (mg:Str->Option Value) (base:Heap) (S:Addr->Prop) (m:Str) (k:Nat) (ps:List Str) (sp:Sp):Prop where
 ex:∀C,S C->∃f fd,Cls K C/\zfl K C m f/\qg K fd ps []/\Z1 P w K mg base CX0 k f fd ps sp
def tMP (S:Addr->Prop) (m:Str) (sp:Sp) (ta:TE) (t:TA):TE:=fun σ H Q=>ta σ H fun x H1=>∃a C dx fs,x=.ref a/\S C/\H1 a=some (.ins C dx fs)/\fs.lookup m=none/\t σ H1 fun vs H2=>sp (x::vs) H2 Q E0
section
variable {X:Cx}{S:Addr->Prop}{k:Nat}{ps:List Str}{sp:Sp}{m:Str}{pos apos:Pos}{e o:Expr}{es:List Expr}{ta:TE}{t:TA}
theorem xb {pl:Sem Bool} (M:MO X.prog X.w X.K X.mg X.base S m k ps sp) (hr:Room k X.A) (he:PE X o ta) (ha:PA X (e::es) t)
  (hst:starEach (e::es) X.env=(false,eval e X.env)::starEach es X.env:=by rfl) (hpl:(backTo pos (starEach es X.env)).any (·.1)=false:=by rfl)
  (ht:eval (.Call (.Attribute o m apos) (e::es) [] pos) X.env=(do
   let ov ←eval o X.env
   standAt apos.atName
   let (f,first) ←holding [ov] (getMethod ov m pl)
   callWith pos f first (backTo pos (starEach (e::es) X.env)) (backToKw pos (keywordEach [] X.env))):=by rfl) :
  PE X (.Call (.Attribute o m apos) (e::es) [] pos) (tMP S m sp ta t):=by
 intro pins s σ H Q I h
 refine PySem.W.methodCall_KW (pl:=pl) (thn (he pins s σ H _ I h) fun u s1 ⟨x,H1,I1,rx,a,C,dx,fs,ex,hS,ea,l,q⟩=>?_) ht
 subst ex
 obtain rfl:u=Value.ref a:=rx
 obtain⟨f,fd,c,hm,hb,F⟩:=M.ex C hS
 refine Jk I1 ea c hm l ?_
 refine PySem.W.callWith_K (first:=[.ref a]) (h₀:=X.base) I.ok.mod.kin hm.kp (thn (ha pos pins s1 σ H1 _ I1 q) fun us s2 ⟨vs,H2,I2,r,q2⟩=>⟨I2.kIn,?_⟩) hst hpl
 exact WC (us:=.ref a::us) (vs:=.ref a::vs) (dvs:=[]) F hr hb .nil zai I2 (.cons rfl r) (by rw[Ubo];exact q2)
theorem VU {pl:Sem Bool} (M:MO X.prog X.w X.K X.mg X.base S m k ps sp) (hr:Room k X.A) (he:PE X o ta)
  (ht:eval (.Call (.Attribute o m apos) [] [] pos) X.env=(do
   let ov ←eval o X.env
   standAt apos.atName
   let (f,first) ←holding [ov] (getMethod ov m pl)
   callWith pos f first (backTo pos (starEach [] X.env)) (backToKw pos (keywordEach [] X.env))):=by rfl) :
  PE X (.Call (.Attribute o m apos) [] [] pos) (tMP S m sp ta zfI):=by
 intro pins s σ H Q I h
 refine PySem.W.methodCall_KW (pl:=pl) (thn (he pins s σ H _ I h) fun u s1 ⟨x,H1,I1,rx,a,C,dx,fs,ex,hS,ea,l,q⟩=>?_) ht
 subst ex
 obtain rfl:u=Value.ref a:=rx
 obtain⟨f,fd,c,hm,hb,F⟩:=M.ex C hS
 refine Jk I1 ea c hm l ?_
 exact PySem.W.callWith_K0 (first:=[.ref a]) I1.kIn hm.kp (WC (us:=[.ref a]) (vs:=[.ref a]) (dvs:=[]) F hr hb .nil zai I1 (.cons rfl .nil) q)
end
structure CI (K:PySem.W.Frag) (C f:Addr):Prop where
 rd:PySem.W.readsIn K C (.type "type")=true
 fi:PySem.W.findCls K (.ref C) (.type "type") "__init__" = some (.val (.ref f))
 ga:PySem.W.specialIn K (.ref C) "__getattribute__" = some (some (.builtin "type.__getattribute__"))
 kp:PySem.W.keepIn K (.ref f)=true
structure IO (P:Program) (w:World) (K:PySem.W.Frag) (mg:Str->Option Value) (base:Heap) (x:Str) (k:Nat) (ps:List Str) (sp:Sp):Prop where
 ex:∃C f fd,mg x=some (.ref C)/\CI K C f/\qg K fd ps []/\Z1 P w K mg base CX0 k f fd ps sp
section
variable {X:Cx}{k:Nat}{ps:List Str}{sp:Sp}{x:Str}{pos apos p:Pos}{e:Expr}{es:List Expr}{t:TA}
theorem zcJ {pl:Sem Bool} (M:IO X.prog X.w X.K X.mg X.base x k ps sp) (hr:Room k X.A) (ha:PA X (e::es) t) (hg:Gl X x:=by rfl) (hdb:(x == ("__debug__" : Str))=false:=by decide)
  (hst:starEach (e::es) X.env=(false,eval e X.env)::starEach es X.env:=by rfl) (hpl:(backTo pos (starEach es X.env)).any (·.1)=false:=by rfl)
  (ht:eval (.Call (.Attribute (.Name x p) "__init__" apos) (e::es) [] pos) X.env=(do
   let ov ←eval (.Name x p) X.env
   standAt apos.atName
   let (f,first) ←holding [ov] (getMethod ov "__init__" pl)
   callWith pos f first (backTo pos (starEach (e::es) X.env)) (backToKw pos (keywordEach [] X.env))):=by rfl) :
  PE X (.Call (.Attribute (.Name x p) "__init__" apos) (e::es) [] pos) (zdD sp [] E0 t):=by
 intro pins s σ H Q I h
 obtain⟨C,f,fd,hm,c,hb,F⟩:=M.ex
 refine PySem.W.methodCall_KW (pl:=pl) (vo I hg hm ?_ hdb) ht
 refine PySem.W.method_cls I.kIn c.ga (PySem.W.cls_value I.kIn c.rd c.fi rfl ?_)
 have I1:=I.tok (s.toks+1)
 refine PySem.W.callWith_K (first:=[]) (h₀:=X.base) I.ok.mod.kin c.kp (thn (ha pos pins _ σ H _ I1 h) fun us s2 ⟨vs,H2,I2,r,q2⟩=>⟨I2.kIn,?_⟩) hst hpl
 exact WC (us:=us) (vs:=vs) (dvs:=[]) F hr hb .nil zai I2 r q2
end
structure BM (K:PySem.W.Frag) (f:Addr):Prop where
 ge:PySem.W.specialIn K (.ref f) "__get__" = some (some (.builtin "function.__get__"))
 tk:PySem.W.takesIn K (.ref f)=some false
def tMV (K:PySem.W.Frag) (m:Str) (ta:TE):TE:=fun σ H Q=>ta σ H fun x H1=>∃a C dx fs g,x=.ref a/\H1 a=some (.ins C dx fs)/\Cls K C/\zfl K C m g/\BM K g/\PySem.W.copiedNames.contains m=false/\fs.lookup m=none/\∀p,H1 p=none->Q (.ref p) (upd H1 p (.met g a))
theorem zhs {X:Cx}{e:Expr}{m:Str}{pos:Pos}{ta:TE} (he:PE X e ta) (hb:attributeBase e m X.env (eval e X.env)=eval e X.env:=by rfl):PE X (.Attribute e m pos) (tMV X.K m ta):=by
 intro pins s σ H Q I h
 refine zct hb (thn (he pins s σ H _ I h) fun u s1 ⟨x,H1,I1,rx,a,C,dx,fs,g,ex,ea,c,hm,b,hc,l,q⟩=>?_)
 subst ex
 obtain rfl:u=Value.ref a:=rx
 obtain⟨mA,O,r,_,_,_⟩:=JR I1.hok ea
 have hn:mA m=none:=XO.none_of (by rw[←l];exact r m)
 obtain⟨od,J,hl⟩:=O.look
 refine PySem.W.get_bind I1.kIn J (PySem.W.plainGet_of (c.get m)).1 (PySem.W.findObj_fn c.hd hm.at_ b.ge b.tk hc (by rw[hl,hn])) (PySem.W.plainGet_of (c.get m)).2 ?_
 refine wpAny_call (PySem.W.fn_get (s:={ s1 with toks:=s1.toks+1 }) I1.kIn (beq_iff_eq.mp hm.fn) (PySem.W.handed_on rfl ?_))
 exact⟨.ref s1.heap.objs.size,_,I1.laid (o:=.met g a) (fun b u q=>Heap.get?_push_of_some _ q) (Uag _) (Heap.get?_push_size _ rfl),rfl,q _ (I1.hok.fresh (Uag _))⟩
def V9 (X:Cx) (id:String) (ks:List Str) (r:List V->List V->Hp->VK->Prop):Prop:=
 ∀(pins:List (Addr×Obj)) (s:Shared) (σ:L2.St) (H:Hp) (xs zs:List V) (us ws:List Value) (Q:VK),Inv X pins σ H s->ym xs us->ym zs ws->r xs zs H Q →
  wpAny (model X.prog X.w) X.A (call (.builtin id) us (ks.zip ws)) (EP X pins σ Q) X.xe s
def ziG (r:List V->List V->Hp->VK->Prop) (t tk:TA):TE:=fun σ H Q=>t σ H fun vs H1=>tk σ H1 fun zs H2=>r vs zs H2 Q
theorem Y4 {X:Cx}{id:String}{ks:List Str}{r:List V->List V->Hp->VK->Prop}{x:Str}{p pos:Pos}{e:Expr}{es:List Expr}{kws:List Keyword}{t tk:TA} (hc:V9 X id ks r) (hm:X.mg x=none) (hv:bootBuiltins x=some (.builtin id)) (ha:PA X (e::es) t) (hkw:PK X kws tk)
  (hg:Gl X x:=by rfl) (hks:(backToKw pos (keywordEach kws X.env)).filterMap (·.1)=ks:=by rfl) (hn:x≠"__name__":=by decide) (hdb:(x == ("__debug__" : Str))=false:=by decide)
  (he:backTo pos (starEach (e::es) X.env)=(false,eval e X.env)::backTo pos (starEach es X.env):=by rfl)
  (hplain:(backTo pos (starEach (e::es) X.env)).any (·.1)=false:=by rfl)
  (hall:(backToKw pos (keywordEach kws X.env)).all (·.1.isSome)=true:=by rfl)
  (hno:(backToKw pos (keywordEach kws X.env)).any (·.1.isNone)=false:=by rfl):PE X (.Call (.Name x p) (e::es) kws pos) (ziG r t tk):=by
 intro pins s σ H Q I h
 refine wpAny_Call_Name_kw (Wu I hg hm hv ?_ hn hdb)
 refine PyProof.Rows.callWith_kw ?_ he hplain hall hno
 refine thn (ha pos pins s σ H _ I h) fun us s1 ⟨vs,H1,I1,r1,q1⟩=>?_
 refine thn (hkw pos pins s1 σ H1 _ I1 q1) fun ws s2 ⟨zs,H2,I2,r2,q2⟩=>?_
 rw[hks]
 exact hc pins s2 σ H2 vs zs us ws Q I2 r1 r2 q2
def zgi (X:Cx) (fv:Value) (r:V->Hp->VK->Prop):Prop:=
 ∀(pins:List (Addr×Obj)) (s:Shared) (σ:L2.St) (H:Hp) (x:V) (v:Value) (Q:VK),Inv X pins σ H s->yx x v->r x H Q->wpAny (model X.prog X.w) X.A.in1.in1 (call fv [v]) (EP X pins σ Q) (fun _ _=>False) s
def vk (κ:Nat->List Int) (us its:List Value) (arr:Array Keyed):Prop:=
 ∃idx:List Nat,idx.Perm (List.range its.length)/\arr.toList=idx.map (fun i=>(us.getD i .none,its.getD i .none))/\idx.Pairwise fun i j=>Vbnlae.less (κ j) (κ i)=false
theorem v9 (us its:List Value) (hl:us.length=its.length):us.zip its=(List.range its.length).map fun i=>(us.getD i Value.none,its.getD i Value.none):=by
 apply List.ext_getElem
 ·simp [hl]
 ·intro i h1 h2
  simp at h1 h2
  have h3:i<us.length:=by omega
  simp [Ual,h2,h3]
theorem J1 (us its:List Value):(us.toArray.zip its.toArray).toList=us.zip its:=by simp
theorem vK {α β:Type} (f:α->β):∀{l:List β}{m:List α},l.Perm (m.map f)->∃m':List α,m'.Perm m/\l=m'.map f:=by
 intro l m p
 generalize e:m.map f=k at p
 induction p generalizing m with
 | nil=>exact⟨[],by simp at e;subst e;exact .refl _,rfl⟩
 | @cons x l1 l2 p ih=>
  cases m with
  | nil=>cases e
  | cons a m=>
   rw[Uas] at e
   injection e with e1 e2
   obtain⟨m',p',h⟩:=ih e2
   exact⟨a::m',p'.cons a,by rw[Uas,h,e1]⟩
 | @swap x y l=>
  cases m with
  | nil=>cases e
  | cons a m=>
   cases m with
   | nil=>cases e
   | cons b m=>
    simp only[Uas,List.cons.injEq] at e
    obtain⟨e1,e2,e3⟩:=e
    exact⟨b::a::m,.swap a b m,by simp only[Uas,e1,e2,e3]⟩
 | @trans l1 l2 l3 p1 p2 ih1 ih2=>
  obtain⟨m2,q2,h2⟩:=ih2 e
  obtain⟨m1,q1,h1⟩:=ih1 h2.symm
  exact⟨m1,q1.trans q2,h1⟩
section
variable {X:Cx}{pins:List (Addr×Obj)}{σ:L2.St}
theorem _root_.L2.Inv.adopt {H:Hp}{s:Shared}{D:Addr}{o:HO} (I:Inv X pins σ H s) (f:QC X pins H D) (hD:X.s_0.heap.objs.size<=D) (new:xU X.prog X.w (upd H D o) s.heap D o):Inv X pins σ (upd H D o) s:=by
 obtain⟨fn,fl,_,_,fc,fp⟩:=f
 have ne:∀b u,H b=some u->b≠D:=fun b u e z=>by rw[z,fn] at e;cases e
 refine⟨I.ok,I.os,I.bare,⟨I.base.keep,I.base.slot,fun b u e n hx=>?_,I.base.there,fun b xs e=>?_,fun b u w e=>?_,fun b ps e=>?_⟩,I.loc,I.cell,?_,fun x c e=>?_,fun p hp=>?_,fun b u e=>?_,I.len⟩
 ·rw[zh (fun z=>absurd (Heap.lt_size e) (by rw[z];exact Nat.not_lt.mpr hD))];exact I.base.free b u e n hx
 ·have:=I.base.tups b xs e
  rw[zh (ne _ _ this)];exact this
 ·have:=I.base.frzs b u w e
  rw[zh (ne _ _ this)];exact this
 ·obtain⟨m,this⟩:=I.base.tbls b ps e
  exact⟨m,by rw[zh (ne _ _ this)];exact this⟩
 ·rw[zh fl.symm];exact I.free
 ·rw[zh (fc x c e)];exact I.freeC x c e
 ·obtain⟨a,b,c⟩:=I.pin p hp
  exact⟨a,by rw[zh (fp p hp)];exact b,c⟩
 ·by_cases hb:b=D
  ·subst hb;rw[zc] at e;cases e;exact new
  ·rw[zh hb] at e
   exact(I.hok b u e).stay (fun _ _ _ q=>q) (fun c q=>by rw[zh (ne _ _ q)];exact q) fun c xs q=>by rw[zh (ne _ _ q)];exact q
structure zaQ (X:Cx) (pins:List (Addr×Obj)) (σ:L2.St) (D kS:Addr) (e1:Nat) (kA:List Value) (H:Hp) (s:Shared):Prop where
 inv:Inv X pins σ H s
 fD:QC X pins H D
 fK:QC X pins H kS
 oD:s.heap.get? D=some (seqObj "list" #[] e1)
 oK:∃e,s.heap.get? kS=some (seqObj "list" kA.toArray e)
 ne:kS≠D
theorem Zr {c:String}{xs:Array Value}{n:Nat}:∀v,(seqObj c xs n).data≠.cell v:=fun _ h=>nomatch h
theorem zaQ.call {D kS:Addr}{e1:Nat}{kA:List Value}{H:Hp}{s:Shared}{fv v:Value}{x:V}{r:V->Hp->VK->Prop}{Q:V->Hp->Prop} (h:zaQ X pins σ D kS e1 kA H s) (hk:zgi X fv r) (rx:yx x v) (q:r x H Q) :
  wpAny (model X.prog X.w) X.A.in1.in1 (PySem.call fv [v]) (fun k s'=>∃y H',zaQ X pins σ D kS e1 kA H' s'/\yx y k/\Q y H') (fun _ _=>False) s:=by
 obtain⟨e,oK⟩:=h.oK
 have I2:=h.inv.pinned (fp:=[D,kS]) (fun b hb=>by
   simp at hb
   rcases hb with rfl | rfl
   ·exact h.fD
   ·exact h.fK) (fun b hb=>by
   simp at hb
   rcases hb with rfl | rfl
   ·exact⟨_,h.oD,Zr⟩
   ·exact⟨_,oK,Zr⟩)
 refine wpAny_mono (hk _ _ _ _ _ _ Q I2 rx q) (fun k s' z=>?_) fun _ _ z=>z
 obtain⟨y,H',I3,ry,q'⟩:=z
 have pD:=I3.pin _ (Uaz _ (Uaz _ (xD (fp:=[D,kS]) (by simp) h.oD)))
 have pK:=I3.pin _ (Uaz _ (Uaz _ (xD (fp:=[D,kS]) (by simp) oK)))
 exact⟨y,H',⟨I3.unpinned,⟨pD.2.1,h.fD.2⟩,⟨pK.2.1,h.fK.2⟩,pD.1,⟨e,pK.1⟩,h.ne⟩,ry,q'⟩
theorem zaQ.push {D kS:Addr}{e1:Nat}{kA:List Value}{H:Hp}{s:Shared}{k:Value}{E:Value->Shared->Prop}{A:Around}{Q:Unit->Shared->Prop} (h:zaQ X pins σ D kS e1 kA H s) (hz:kA.length<sizeLine) (q:∀s',zaQ X pins σ D kS e1 (kA++[k]) H s'->Q () s') :
  wpAny (model X.prog X.w) A (Builtin.List.listUpdate (.ref kS) (·.push k)) Q E s:=by
 obtain⟨e,oK⟩:=h.oK
 refine listUpdate_at oK rfl ?_ (by simp;omega) (by simp;omega)
 have s1:=Heap.SameBut.update s.heap kS (Obj.mapSeq (·.push k))
 refine q _ ⟨h.inv.turnedL (t':=s.toks) (ch:=[kS]) (fun b o hb z=>(s1.2 b (by simpa using hb)).trans z) (fun b hb=>by rw[Uam.mp hb];exact h.fK),h.fD,h.fK,(s1.2 D (fun z=>h.ne z.symm)).trans h.oD,?_,h.ne⟩
 have e2:kA.toArray.push k=(kA++[k]).toArray:=List.push_toArray ..
 have e3:=get?_update_seq oK (·.push k)
 rw[e2] at e3
 exact⟨_,e3⟩
theorem zdx {D kS:Addr}{e1:Nat}{H:Hp}{s:Shared}{fv:Value}{r:V->Hp->VK->Prop}{xs:List V}{its:List Value}{P:PySem.Fin->Shared->Prop}{E:Value->Shared->Prop} (h:zaQ X pins σ D kS e1 [] H s) (hk:zgi X fv r) (rx:ym xs its) (hZ:its.length<=sizeLine)
  (J:Nat->List V->Hp->Prop) (J0:J 0 [] H) (turn:∀i x ks H1,xs[i]? = some x->J i ks H1->r x H1 fun y H2=>J (i+1) (ks++[y]) H2)
  (fin:∀ks us Hn sn,J xs.length ks Hn->zaQ X pins σ D kS e1 us Hn sn->ym ks us->us.length=its.length->wpAny (model X.prog X.w) X.A.in1.in1 (ksk_end D false its.toArray e1 (.ref kS) us.toArray) P E sn) :
  wpAny (model X.prog X.w) X.A.in1.in1 (ksk_rest D fv false its.toArray e1 (.ref kS)) P E s:=by
 unfold ksk_rest
 refine wpAny_bind (wpAny_rule ?_)
 first
  | rw[List.forIn_toArray]
  | (rw[←Array.forIn_toList];simp only[List.toList_toArray])
  | rw[←Array.forIn_toList]
 refine wpAny_bind (ksk_fold (fun i s'=>∃ks us H',J i ks H'/\zaQ X pins σ D kS e1 us H' s'/\ym ks us/\us.length=i) its 0 s ⟨[],[],H,J0,h,.nil,rfl⟩ ?step ?done)
 case step=>
  rintro j v s' hv ⟨ks,us,H',hJ,h',rk,hu⟩
  simp only[Nat.zero_add] at hJ hu ⊢
  have hj:j<its.length:=(Ubh.mp hv).1
  obtain⟨x,hx⟩:∃x,xs[j]? = some x:=⟨_,Uai (by rw[rx.length];exact hj)⟩
  obtain⟨v',hv',rv⟩:=rx.get hx
  rw[hv] at hv';cases hv'
  refine wpAny_bind (wpAny_attempt (wpAny_mono (h'.call hk rv (turn j x ks H' hx hJ)) (fun k s'' z=>?_) fun _ _ hF=>hF.elim))
  obtain⟨y,H2,h2,ry,hJ2⟩:=z
  try dsimp only
  refine wpAny_bind (h2.push (k:=k) (by omega) fun s3 h3=>?_)
  refine wpAny_pure ⟨rfl,ks++[y],us++[k],H2,hJ2,h3,rk.append (.cons ry .nil),by simp [hu]⟩
 case done=>
  rintro s' ⟨ks,us,H',hJ,h',rk,hu⟩
  simp only[Nat.zero_add] at hJ hu
  obtain⟨e,oK⟩:=h'.oK
  try dsimp only
  refine wpAny_bind (listItems_at oK rfl ?_)
  exact fin ks us H' s' (by rw[rx.length];exact hJ) h' rk hu
theorem W0 {D kS:Addr}{e1:Nat}{us:List Value}{Hn:Hp}{sn:Shared}{st:SortSt}{P:PySem.Fin->Shared->Prop}{E:Value->Shared->Prop}{A:Around} (h:zaQ X pins σ D kS e1 us Hn sn) (hu:us.length<=sizeLine) (hfl:failedOf st=none) (ha:(arrOf st).size<=sizeLine)
  (fin:∀s' c,Inv X pins σ Hn s'->QC X pins Hn D->s'.heap.get? D=some (seqObj "list" ((arrOf st).map (·.2)) c)->P (.done (.ret .none)) s') :
  wpAny (model X.prog X.w) A (ksk_tail D false e1 (.ref kS) st) P E sn:=by
 obtain⟨e,oK⟩:=h.oK
 unfold ksk_tail
 try dsimp only
 have s1:=Heap.SameBut.update sn.heap kS (Obj.mapSeq fun _=>(#[]:Array Value))
 have na1:(sn.heap.update kS (Obj.mapSeq fun _=>(#[]:Array Value))).get? D=some (seqObj "list" #[] e1):=(s1.2 D h.ne.symm).trans h.oD
 have s2:=Heap.SameBut.update (sn.heap.update kS (Obj.mapSeq fun _=>(#[]:Array Value))) D (Obj.mapSeq fun _=>(arrOf st).map (·.2))
 refine wpAny_bind (listUpdate_at oK rfl ?_ (by simpa using hu) (Uax _))
 refine wpAny_bind (wpAny_letGo ?_)
 refine wpAny_bind (seqEpoch_at na1 rfl ?_)
 simp only[Ucb,if_false]
 refine wpAny_bind (listUpdate_at na1 rfl ?_ (Uax _) (Ubb (by simp) (Nat.le_succ_of_le ha)))
 rw[hfl]
 simp only[bne_self_eq_false,Ucb,if_false]
 have g9:=get?_update_seq na1 fun _=>(arrOf st).map fun x:Keyed=>x.2
 refine wpAny_pure (fin _ _ ?_ h.fD g9)
 refine h.inv.turnedL (t':=sn.toks) (ch:=[D,kS]) (fun b o hb z=>?_) (fun b hb=>?_)
 ·simp at hb
  exact(s2.2 b hb.1).trans ((s1.2 b hb.2).trans z)
 ·simp at hb
  rcases hb with rfl | rfl
  ·exact h.fD
  ·exact h.fK
def WS (X:Cx) (κ:Nat->List Int) (us its:List Value) (sn:Shared):Prop:=
 2<=its.length->∀(E:Value->Shared->Prop) {P:SortSt->Shared->Prop},(∀st',failedOf st'=none->vk κ us its (arrOf st')->P st' sn) →
  wpAny (model X.prog X.w) X.A.in1.in1 (keyKind' us.toArray) (fun kd s'=>s'=sn/\wpAny (model X.prog X.w) X.A.in1.in1 (sortRuns'.run (SortSt.mk' kd (us.toArray.zip its.toArray) #[] 7 none)) (fun r s''=>P r.2 s'') E sn) E sn
theorem vk.size {κ:Nat->List Int}{us its:List Value}{arr:Array Keyed} (h:vk κ us its arr):arr.size=its.length:=by
 obtain⟨idx,p,e,_⟩:=h
 have:=congrArg List.length e
 simpa [p.length_eq] using this
theorem zfa {D kS:Addr}{e1:Nat}{us its:List Value}{Hn:Hp}{sn:Shared}{κ:Nat->List Int}{P:PySem.Fin->Shared->Prop}{E:Value->Shared->Prop} (h:zaQ X pins σ D kS e1 us Hn sn) (hu:us.length=its.length) (hZ:its.length<=sizeLine) (run:WS X κ us its sn)
  (fin:∀s' c arr,Inv X pins σ Hn s'->QC X pins Hn D->vk κ us its arr->s'.heap.get? D=some (seqObj "list" (arr.map (·.2)) c)->P (.done (.ret .none)) s') :
  wpAny (model X.prog X.w) X.A.in1.in1 (ksk_end D false its.toArray e1 (.ref kS) us.toArray) P E sn:=by
 have hzs:(us.toArray.zip its.toArray).size=its.length:=by simp [hu]
 unfold ksk_end
 try dsimp only
 simp only[Ucb,if_false]
 by_cases h2:its.toArray.size<2
 ·rw[if_pos h2,if_pos h2]
  refine wpAny_bind (wpAny_pure ?_)
  rw[StateT.run_pure]
  refine wpAny_bind (wpAny_pure ?_)
  try dsimp only
  have hs:vk κ us its (us.toArray.zip its.toArray):=by
   refine⟨List.range its.length,.refl _,by rw[J1,v9 _ _ hu],?_⟩
   have:its.length<2:=by simpa using h2
   match its.length,this with
   | 0,_=>exact .nil
   | 1,_=>exact List.pairwise_singleton _ _
  exact W0 (st:=SortSt.mk' general' (us.toArray.zip its.toArray) #[] 7 none) h (by omega) rfl (by show (us.toArray.zip its.toArray).size<=_;omega) fun s' c I f z=>fin s' c _ I f hs z
 ·rw[if_neg h2,if_neg h2]
  have h2':2<=its.length:=by simp at h2;omega
  refine wpAny_bind (wpAny_mono (run h2' E (P:=fun st' s''=>wpAny (model X.prog X.w) X.A.in1.in1 (ksk_tail D false e1 (.ref kS) st') P E s'') fun st' hf hs=>?_) (fun kd s' z=>?_) fun _ _ z=>z)
  ·exact W0 h (by omega) hf (by rw[hs.size];exact hZ) fun s' c I f z=>fin s' c _ I f hs z
  ·obtain⟨rfl,z⟩:=z
   exact wpAny_bind (wpAny_mono z (fun r s'' q=>q) fun _ _ q=>q)
theorem Jt {H:Hp}{s:Shared}{q:Addr}{l:Addr}{r:V->Hp->VK->Prop}{xs:List V}{Q:VK} (I:Inv X pins σ H s) (hl:SqL X.K H l xs) (hk:zgi X (.ref q) r)
  (J:Nat->List V->Hp->Prop) (J0:J 0 [] H) (turn:∀i x ks H1,xs[i]? = some x->J i ks H1->r x H1 fun y H2=>J (i+1) (ks++[y]) H2) (κ:Nat->List Int)
  (run:∀ks us its Hn sn pins',J xs.length ks Hn->Inv X pins' σ Hn sn->ym ks us->ym xs its->us.length=its.length->WS X κ us its sn)
  (fin:∀ks Hn (idx:List Nat) D,J xs.length ks Hn->idx.Perm (List.range xs.length)->idx.Pairwise (fun i j=>Vbnlae.less (κ j) (κ i)=false)->Hn D=none->Q (.ref D) (upd Hn D (.lst (idx.map fun i=>xs.getD i .non)))) :
  wpAny (model X.prog X.w) X.A (PySem.call (.builtin "sorted") [.ref l] [(Str.ofString "key",.ref q)]) (EP X pins σ Q) X.xe s:=by
 obtain⟨its,rx,hL,hZ⟩:=I.list hl
 have hZ':its.length<=sizeLine:=by rw[←rx.length];exact hZ
 refine call_function_entry_kw kind_sorted plain_sorted entry_sorted (ksk_s1 _ _) ?_
 unfold Builtin.«sorted»
 refine wpAny_bind (m:=checkCount "sorted" 1 1 _) (wpAny_pure ?_)
 refine wpAny_bind (collect_list hL.isList ?_ hZ')
 refine wpAny_bind (wpAny_newList ?_ hZ')
 have hsz:((s.heap.push (seqObj "list" #[] 0)).update s.heap.objs.size (Obj.mapSeq (·++its.toArray))).objs.size=s.heap.objs.size+1:=by
  rw[Heap.size_update,size_push']
 have hoL:(((s.heap.push (seqObj "list" #[] 0)).update s.heap.objs.size (Obj.mapSeq (·++its.toArray))).push (seqObj "list" its.toArray 0)).get? (s.heap.objs.size+1)=some (seqObj "list" its.toArray 0):=by
  rw[←hsz];exact Heap.get?_push_size _ rfl
 have keep:∀b o,s.heap.get? b=some o->(((s.heap.push (seqObj "list" #[] 0)).update s.heap.objs.size (Obj.mapSeq (·++its.toArray))).push (seqObj "list" its.toArray 0)).get? b=some o:=fun b o q=>by
  have hlt:b<s.heap.objs.size:=Heap.lt_size q
  rw[Heap.get?_push_ne _ _ _ (by rw[hsz];exact Uba (Ubv hlt)),Heap.get?_update_ne _ _ _ _ (Uba hlt),Heap.get?_push_ne _ _ _ (Uba hlt)]
  exact q
 show wpAny _ _ _ _ _ { s with heap:=((s.heap.push (seqObj "list" #[] 0)).update s.heap.objs.size (Obj.mapSeq (·++its.toArray))).push (seqObj "list" its.toArray 0) }
 rw[hsz]
 generalize ((s.heap.push (seqObj "list" #[] 0)).update s.heap.objs.size (Obj.mapSeq (·++its.toArray))).push (seqObj "list" its.toArray 0)=h1 at hoL keep
 generalize eD:s.heap.objs.size+1=D at hoL
 have hD:s.heap.objs.size<=D:=by omega
 refine wpAny_bind (wpAny_holding (wpAny_call_entry_kw slot_list_sort ⟨_,hoL,rfl⟩ entry_list_sort ?body (ksk_l1 _ _)))
 case body=>
  show wpAny (model X.prog X.w) X.A.in1.in1 (Builtin.«list.sort» ⟨[.ref D],[(Str.ofString "key",.ref q)]⟩) _ _ _
  rw[ksk_t1]
  have ha:@LT.lt Nat _ D h1.objs.size:=Heap.lt_size hoL
  have s1:=Heap.SameBut.update h1 D (Obj.mapSeq fun _=>(#[]:Array Value))
  obtain⟨e1,ho1⟩:∃e1,(h1.update D (Obj.mapSeq fun _=>(#[]:Array Value))).get? D=some (seqObj "list" #[] e1):=⟨_,get?_update_seq hoL fun _=>#[]⟩
  have hkS:((h1.update D (Obj.mapSeq fun _=>(#[]:Array Value))).push (seqObj "tuple" its.toArray 0)).objs.size=h1.objs.size+1:=by rw[size_push',Heap.size_update]
  unfold ksk_tree
  refine wpAny_bind (listItems_at hoL rfl ?_)
  refine wpAny_bind (listUpdate_at hoL rfl ?_ (by simpa using hZ') (Uax _))
  refine wpAny_bind (seqEpoch_at ho1 rfl ?_)
  refine wpAny_bind (wpAny_newTuple ?_ (by show its.length<=_;exact hZ'))
  refine wpAny_bind (wpAny_newList ?_ (Uax _))
  refine wpAny_holding ?_
  have keep2:∀b o,s.heap.get? b=some o->(((h1.update D (Obj.mapSeq fun _=>(#[]:Array Value))).push (seqObj "tuple" its.toArray 0)).push (seqObj "list" #[] 0)).get? b=some o:=fun b o z=>by
   have hlt:b<s.heap.objs.size:=Heap.lt_size z
   exact Heap.get?_push_of_some _ (Heap.get?_push_of_some _ ((s1.2 b (Uba (Ubf hlt hD))).trans (keep b o z)))
  have I2:Inv X pins σ H { s with heap:=(((h1.update D (Obj.mapSeq fun _=>(#[]:Array Value))).push (seqObj "tuple" its.toArray 0)).push (seqObj "list" #[] 0)) }:=I.kept (t':=s.toks) keep2
  have hs1:s.heap.objs.size<=h1.objs.size:=by omega
  have hold:zaQ X pins σ D (h1.objs.size+1) e1 [] H { s with heap:=(((h1.update D (Obj.mapSeq fun _=>(#[]:Array Value))).push (seqObj "tuple" its.toArray 0)).push (seqObj "list" #[] 0)) }:=by
   refine⟨I2,I.fpOk hD (I.hok.fresh hD),I.fpOk (by omega) (I.hok.fresh (by omega)),Heap.get?_push_of_some _ (Heap.get?_push_of_some _ ho1),⟨0,?_⟩,Nat.ne_of_gt (Ubv ha)⟩
   show (((h1.update D (Obj.mapSeq fun _=>(#[]:Array Value))).push (seqObj "tuple" its.toArray 0)).push (seqObj "list" #[] 0)).get? (h1.objs.size+1)=_
   rw[←hkS];exact Heap.get?_push_size _ rfl
  show wpAny _ _ (ksk_rest D (.ref q) false its.toArray e1 (.ref ((h1.update D (Obj.mapSeq fun _=>(#[]:Array Value))).push (seqObj "tuple" its.toArray 0)).objs.size)) _ _ _
  rw[hkS]
  refine zdx hold hk rx hZ' J J0 turn fun ks us Hn sn hJ hh rk hu=>zfa hh hu hZ' (run ks us its Hn sn _ hJ hh.inv rk rx hu) fun s' c arr I3 f3 hs ho=>⟨_,rfl,?_⟩
  obtain⟨idx,p,ea,pw⟩:=hs
  have ea':(arr.map (·.2))=(idx.map fun i=>its.getD i Value.none).toArray:=by
   rw[←Array.toList_inj]
   simp only[Ucn,ea,Uau]
   rfl
  rw[ea'] at ho
  have rv:ym (idx.map fun i=>xs.getD i .non) (idx.map fun i=>its.getD i Value.none):=by
   have hm:∀i∈idx,i<its.length:=fun i hi=>Uco.mp (p.mem_iff.mp hi)
   clear ea ea' ho pw p
   induction idx with
   | nil=>exact .nil
   | cons i idx ih=>
    refine .cons ?_ (ih fun j hj=>hm j (Uad _ hj))
    have hi:=hm i Uak
    obtain⟨x,hx⟩:∃x,xs[i]? = some x:=⟨_,Uai (by rw[rx.length];exact hi)⟩
    obtain⟨v,hv,r0⟩:=rx.get hx
    show L2.yx (xs.getD i V.non) (its.getD i Value.none)
    rw[Ual,Ual,hx,hv]
    exact r0
  have hlen:(idx.map fun i=>xs.getD i V.non).length<=sizeLine:=by
   rw[Uaa,p.length_eq,List.length_range];exact hZ'
  have I4:=I3.adopt f3 (Ubb I.sz hD) (o:=.lst (idx.map fun i=>xs.getD i .non)) ⟨hlen,_,c,rv,ho⟩
  exact wpAny_pure ⟨_,rfl,.ref D,_,I4,rfl,fin ks Hn idx D hJ (by rw[rx.length];exact p) pw f3.1⟩
end
end NP
namespace NP
open PySem
section
variable (M:Model) (Γ:Ctx) (p:Pos)
def RI0 (s:Shared) (e:End) (s':Shared):Sem Fin->Prop
 | .pure (.done f)=>e=.ret (.ok f)/\s'=s
 | .raise x=>e=.ret (.error x)/\s'=s
 | .pure (.again c)=>Runs M (Γ.goto c) p (M.den c) [] s e s'
 | .rule _ k=>Runs M Γ p (k ()) [] s e s'
 | .at p' k=>Runs M Γ p' (k ()) [] s e s'
 | .load a _ k=>∃o,s.heap.get? a=some o/\Runs M Γ p (k o) [] s e s'
 | .update a _ f k=>Runs M Γ p (k ()) [] { s with heap:=s.heap.update a f } e s'
 | .loadIfAlive a k=>Runs M Γ p (k (s.heap.get? a)) [] s e s'
 | .point _ k=>Runs M Γ p (k ()) [] s e s'
 | .alloc o k=>Runs M Γ p (k s.heap.objs.size) [] { s with heap:=s.heap.push o } e s'
 | .fresh k=>Runs M Γ p (k s.toks) [] { s with toks:=s.toks+1 } e s'
 | .ask k=>Runs M Γ p (k ⟨M.prog,M.w.params⟩) [] s e s'
 | .choose src n k=>Runs M Γ p (k (M.w.draws src (s.drawn.get src) % n)) [] { s with drawn:=s.drawn.bump src } e s'
 | .os q _ k=>Runs M Γ p (k (Os.step s.os q).2) [] { s with os:=(Os.step s.os q).1 } e s'
 | .handled own k=>Runs M Γ p (k (if own then Γ.own else Γ.handled)) [] s e s'
 | .genState g k=>∃st,s.gens[g]? = some st/\Runs M Γ p (k st.seen) [] s e s'
 | .stack k=>Runs M Γ p (k ((Γ.code,p)::Γ.below)) [] s e s'
 | .thread k=>Runs M Γ p (k 0) [] s e s'
 | .newGen c k=>Runs M Γ p (k s.gens.size) [] { s with gens:=s.gens.push (.fresh c) } e s'
 | .call c h g l k=>(∃r s₁,Runs M (Γ.enter c h p) p (M.den c) [] s (.ret r) s₁/\Runs M Γ p (k r) [] s₁ e s') ∨
   ∃v g₀ l₀ k₀ c₀ p₀ fs,Runs M (Γ.enter c h p) p (M.den c) [] s (.susp v g₀ l₀ k₀ c₀ p₀ fs) s'/\e=.susp v g₀ l₀ k₀ c₀ p₀ (fs++[.ret k h g l Γ.code p []])
 | .yield v g l k=>e=.susp v g l k Γ.code p []/\s'=s
 | .resume g r _ k=>(∃c e₁ s₁,r=.send .none/\s.gens[g]? = some (.fresh c)/\Runs M (Γ.wake c p) p (M.den c) [] (s.setGen g .running) e₁ s₁/\Runs M Γ p (k e₁.result) [] (s₁.setGen g e₁.genState) e s') ∨
   (∃k₀ l₀ c₀ p₀ fs cl e₁ s₁,s.gens[g]? = some (.suspended k₀ l₀ c₀ p₀ fs cl)/\Runs M (Γ.wake c₀ p) p₀ (k₀ r) fs (s.setGen g .running) e₁ s₁/\Runs M Γ p (k e₁.result) [] (s₁.setGen g e₁.genState) e s') ∨
   (∃c v,r=.send v/\s.gens[g]? = some (.fresh c)/\v≠.none/\Runs M Γ p (k .justStarted) [] s e s') ∨
   (∃c x,r=.throw x/\s.gens[g]? = some (.fresh c)/\Runs M Γ p (k (.raised x)) [] (s.setGen g .finished) e s') ∨
   (s.gens[g]? = some .running/\Runs M Γ p (k .running) [] s e s')\/(s.gens[g]? = some .finished/\Runs M Γ p (k .finished) [] s e s')
 | _=>False
def RI (t:Sem Fin) (fs:List Frame) (s:Shared) (e:End) (s':Shared):Prop:=match fs with
 | []=>RI0 M Γ p s e s' t
 | F::fs=>(∃k h g l c₁ p₁ kp r s₁,F=.ret k h g l c₁ p₁ kp/\Runs M (Γ.over (F::fs)) p t [] s (.ret r) s₁/\Runs M (Γ.goto c₁) p₁ (k r) fs s₁ e s') ∨
   (∃g k l c₁ p₁ r s₁,F=.gen g k l c₁ p₁/\Runs M (Γ.over (F::fs)) p t [] s (.ret r) s₁/\Runs M (Γ.goto c₁) p₁ (k (End.ret r).result) fs (s₁.setGen g .finished) e s') ∨
   (∃v g₀ l₀ k₀ c₀ p₀ fs₀,splitAtGen (F::fs)=none/\Runs M (Γ.over (F::fs)) p t [] s (.susp v g₀ l₀ k₀ c₀ p₀ fs₀) s'/\e=.susp v g₀ l₀ k₀ c₀ p₀ (fs₀++F::fs)) ∨
   ∃pre g k c₁ p₁ rest v g₀ l₀ k₀ c₀ p₀ fs₀ s₁,splitAtGen (F::fs)=some (pre,(g,k,c₁,p₁),rest)/\Runs M (Γ.over (F::fs)) p t [] s (.susp v g₀ l₀ k₀ c₀ p₀ fs₀) s₁ ∧
    Runs M (Γ.goto c₁) p₁ (k (.yielded v)) rest (s₁.setGen g (End.susp v g₀ l₀ k₀ c₀ p₀ (fs₀++pre)).genState) e s'
end
theorem zz {M:Model}{Γ:Ctx}{p:Pos}{t:Sem Fin}{fs:List Frame}{s s':Shared}{e:End} (h:Runs M Γ p t fs s e s'):RI M Γ p t fs s e s':=by
 cases h with
 | done=>exact⟨rfl,rfl⟩
 | raise=>exact⟨rfl,rfl⟩
 | again _ h=>exact h
 | rule h=>exact h
 | «at» h=>exact h
 | load ho h=>exact⟨_,ho,h⟩
 | update _ h=>exact h
 | loadIfAlive h=>exact h
 | point h=>exact h
 | alloc h=>exact h
 | fresh h=>exact h
 | ask h=>exact h
 | choose _ h=>exact h
 | os h=>exact h
 | handled h=>exact h
 | genState hg h=>exact⟨_,hg,h⟩
 | stack h=>exact h
 | thread h=>exact h
 | newGen h=>exact h
 | call a b=>exact .inl ⟨_,_,a,b⟩
 | callSusp a=>exact .inr ⟨_,_,_,_,_,_,_,a,rfl⟩
 | yield=>exact⟨rfl,rfl⟩
 | resumeFresh hg a _ b=>exact .inl ⟨_,_,_,rfl,hg,a,b⟩
 | resumeSuspended hg a _ b=>exact .inr (.inl ⟨_,_,_,_,_,_,_,_,hg,a,b⟩)
 | resumeJustStarted hg hv b=>exact .inr (.inr (.inl ⟨_,_,rfl,hg,hv,b⟩))
 | resumeThrowFresh hg b=>exact .inr (.inr (.inr (.inl ⟨_,_,rfl,hg,b⟩)))
 | resumeRunning hg b=>exact .inr (.inr (.inr (.inr (.inl ⟨hg,b⟩))))
 | resumeFinished hg b=>exact .inr (.inr (.inr (.inr (.inr ⟨hg,b⟩))))
 | segRet a b=>exact .inl ⟨_,_,_,_,_,_,_,_,_,rfl,a,b⟩
 | segGen a b=>exact .inr (.inl ⟨_,_,_,_,_,_,_,rfl,a,b⟩)
 | segSuspOut hs a=>exact .inr (.inr (.inl ⟨_,_,_,_,_,_,_,hs,a,rfl⟩))
 | segSuspGen hs a _ b=>exact .inr (.inr (.inr ⟨_,_,_,_,_,_,_,_,_,_,_,_,_,_,hs,a,b⟩))
theorem Qa {M:Model}{Γ:Ctx}{p:Pos}{t:Sem Fin}{fs:List Frame}{s s':Shared}{e:End} (h:Runs M Γ p t fs s e s'):∀{e2:End}{s2:Shared},Runs M Γ p t fs s e2 s2->e2=e/\s2=s':=by
 induction h with
 | done=>exact fun h2=>zz h2
 | raise=>exact fun h2=>zz h2
 | again hq _ ih=>exact fun h2=>ih (zz h2)
 | rule _ ih=>exact fun h2=>ih (zz h2)
 | «at» _ ih=>exact fun h2=>ih (zz h2)
 | load ho _ ih=>intro e2 s2 h2;obtain⟨o,ho',h⟩:=zz h2;rw[ho] at ho';cases ho';exact ih h
 | update _ _ ih=>exact fun h2=>ih (zz h2)
 | loadIfAlive _ ih=>exact fun h2=>ih (zz h2)
 | point _ ih=>exact fun h2=>ih (zz h2)
 | alloc _ ih=>exact fun h2=>ih (zz h2)
 | fresh _ ih=>exact fun h2=>ih (zz h2)
 | ask _ ih=>exact fun h2=>ih (zz h2)
 | choose _ _ ih=>exact fun h2=>ih (zz h2)
 | os _ ih=>exact fun h2=>ih (zz h2)
 | handled _ ih=>exact fun h2=>ih (zz h2)
 | genState hg _ ih=>intro e2 s2 h2;obtain⟨o,ho',h⟩:=zz h2;rw[hg] at ho';cases ho';exact ih h
 | stack _ ih=>exact fun h2=>ih (zz h2)
 | thread _ ih=>exact fun h2=>ih (zz h2)
 | newGen _ ih=>exact fun h2=>ih (zz h2)
 | call _ _ ih1 ih2=>
  intro e2 s2 h2
  rcases zz h2 with ⟨r,s₁,a,b⟩ | ⟨_,_,_,_,_,_,_,a,_⟩
  ·obtain⟨x,y⟩:=ih1 a;cases x;subst y;exact ih2 b
  ·obtain⟨x,y⟩:=ih1 a;cases x
 | callSusp _ ih1=>
  intro e2 s2 h2
  rcases zz h2 with ⟨r,s₁,a,b⟩ | ⟨_,_,_,_,_,_,_,a,e⟩
  ·obtain⟨x,y⟩:=ih1 a;cases x
  ·obtain⟨x,y⟩:=ih1 a;cases x;exact⟨e,y⟩
 | yield=>exact fun h2=>zz h2
 | resumeFresh hg _ _ _ ih1 ih2=>
  intro e2 s2 h2
  rcases zz h2 with ⟨_,_,_,_,hg',a,b⟩ | ⟨_,_,_,_,_,_,_,_,hg',_⟩ | ⟨_,_,e,_,hv,_⟩ | ⟨_,_,e,_⟩ | ⟨hg',_⟩ | ⟨hg',_⟩
  ·rw[hg] at hg';cases hg';obtain⟨x,y⟩:=ih1 a;subst x y;exact ih2 b
  ·rw[hg] at hg';cases hg'
  ·cases e;exact absurd rfl hv
  ·cases e
  ·rw[hg] at hg';cases hg'
  ·rw[hg] at hg';cases hg'
 | resumeSuspended hg _ _ _ ih1 ih2=>
  intro e2 s2 h2
  rcases zz h2 with ⟨_,_,_,_,hg',_⟩ | ⟨_,_,_,_,_,_,_,_,hg',a,b⟩ | ⟨_,_,_,hg',_⟩ | ⟨_,_,_,hg',_⟩ | ⟨hg',_⟩ | ⟨hg',_⟩
  ·rw[hg] at hg';cases hg'
  ·rw[hg] at hg';cases hg';obtain⟨x,y⟩:=ih1 a;subst x y;exact ih2 b
  ·rw[hg] at hg';cases hg'
  ·rw[hg] at hg';cases hg'
  ·rw[hg] at hg';cases hg'
  ·rw[hg] at hg';cases hg'
 | resumeJustStarted hg hv _ ih=>
  intro e2 s2 h2
  rcases zz h2 with ⟨_,_,_,e,_⟩ | ⟨_,_,_,_,_,_,_,_,hg',_⟩ | ⟨_,_,_,_,_,b⟩ | ⟨_,_,e,_⟩ | ⟨hg',_⟩ | ⟨hg',_⟩
  ·cases e;exact absurd rfl hv
  ·rw[hg] at hg';cases hg'
  ·exact ih b
  ·cases e
  ·rw[hg] at hg';cases hg'
  ·rw[hg] at hg';cases hg'
 | resumeThrowFresh hg _ ih=>
  intro e2 s2 h2
  rcases zz h2 with ⟨_,_,_,e,_⟩ | ⟨_,_,_,_,_,_,_,_,hg',_⟩ | ⟨_,_,e,_⟩ | ⟨_,_,e,_,b⟩ | ⟨hg',_⟩ | ⟨hg',_⟩
  ·cases e
  ·rw[hg] at hg';cases hg'
  ·cases e
  ·cases e;exact ih b
  ·rw[hg] at hg';cases hg'
  ·rw[hg] at hg';cases hg'
 | resumeRunning hg _ ih=>
  intro e2 s2 h2
  rcases zz h2 with ⟨_,_,_,_,hg',_⟩ | ⟨_,_,_,_,_,_,_,_,hg',_⟩ | ⟨_,_,_,hg',_⟩ | ⟨_,_,_,hg',_⟩ | ⟨_,b⟩ | ⟨hg',_⟩
  ·rw[hg] at hg';cases hg'
  ·rw[hg] at hg';cases hg'
  ·rw[hg] at hg';cases hg'
  ·rw[hg] at hg';cases hg'
  ·exact ih b
  ·rw[hg] at hg';cases hg'
 | resumeFinished hg _ ih=>
  intro e2 s2 h2
  rcases zz h2 with ⟨_,_,_,_,hg',_⟩ | ⟨_,_,_,_,_,_,_,_,hg',_⟩ | ⟨_,_,_,hg',_⟩ | ⟨_,_,_,hg',_⟩ | ⟨hg',_⟩ | ⟨_,b⟩
  ·rw[hg] at hg';cases hg'
  ·rw[hg] at hg';cases hg'
  ·rw[hg] at hg';cases hg'
  ·rw[hg] at hg';cases hg'
  ·rw[hg] at hg';cases hg'
  ·exact ih b
 | segRet _ _ ih1 ih2=>
  intro e2 s2 h2
  rcases zz h2 with ⟨_,_,_,_,_,_,_,_,_,e,a,b⟩ | ⟨_,_,_,_,_,_,_,e,_⟩ | ⟨_,_,_,_,_,_,_,_,a,_⟩ | ⟨_,_,_,_,_,_,_,_,_,_,_,_,_,_,_,a,_⟩
  ·cases e;obtain⟨x,y⟩:=ih1 a;cases x;subst y;exact ih2 b
  ·cases e
  ·obtain⟨x,y⟩:=ih1 a;cases x
  ·obtain⟨x,y⟩:=ih1 a;cases x
 | segGen _ _ ih1 ih2=>
  intro e2 s2 h2
  rcases zz h2 with ⟨_,_,_,_,_,_,_,_,_,e,_⟩ | ⟨_,_,_,_,_,_,_,e,a,b⟩ | ⟨_,_,_,_,_,_,_,_,a,_⟩ | ⟨_,_,_,_,_,_,_,_,_,_,_,_,_,_,_,a,_⟩
  ·cases e
  ·cases e;obtain⟨x,y⟩:=ih1 a;cases x;subst y;exact ih2 b
  ·obtain⟨x,y⟩:=ih1 a;cases x
  ·obtain⟨x,y⟩:=ih1 a;cases x
 | segSuspOut hs _ ih=>
  intro e2 s2 h2
  rcases zz h2 with ⟨_,_,_,_,_,_,_,_,_,_,a,_⟩ | ⟨_,_,_,_,_,_,_,_,a,_⟩ | ⟨_,_,_,_,_,_,_,_,a,e⟩ | ⟨_,_,_,_,_,_,_,_,_,_,_,_,_,_,hs',_⟩
  ·obtain⟨x,y⟩:=ih a;cases x
  ·obtain⟨x,y⟩:=ih a;cases x
  ·obtain⟨x,y⟩:=ih a;cases x;exact⟨e,y⟩
  ·rw[hs] at hs';cases hs'
 | segSuspGen hs _ _ _ ih1 ih2=>
  intro e2 s2 h2
  rcases zz h2 with ⟨_,_,_,_,_,_,_,_,_,_,a,_⟩ | ⟨_,_,_,_,_,_,_,_,a,_⟩ | ⟨_,_,_,_,_,_,_,hs',_⟩ | ⟨_,_,_,_,_,_,_,_,_,_,_,_,_,_,hs',a,b⟩
  ·obtain⟨x,y⟩:=ih1 a;cases x
  ·obtain⟨x,y⟩:=ih1 a;cases x
  ·rw[hs] at hs';cases hs'
  ·rw[hs] at hs';cases hs';obtain⟨x,y⟩:=ih1 a;cases x;subst y;exact ih2 b
theorem zbx {M:Model}{Γ:Ctx}{p:Pos}{g:Nat}{r:Resume}{s s1 s2:Shared}{a b:GenResult} (h:Wakes M Γ p g r s a s1) (h':Wakes M Γ p g r s b s2):b=a/\s2=s1:=by
 unfold Wakes at h h'
 split at h
 ·exact h.elim
 ·rename_i c e
  rw[e] at h'
  cases r with
  | send v=>
   by_cases hv:v=.none
   ·subst hv
    obtain⟨e1,t1,h1,_,rfl,rfl⟩:=h
    obtain⟨e2,t2,h2,_,rfl,rfl⟩:=h'
    obtain⟨rfl,rfl⟩:=Qa h1 h2
    exact⟨rfl,rfl⟩
   ·cases v <;> first | exact absurd rfl hv | (obtain⟨rfl,rfl⟩:=h;obtain⟨rfl,rfl⟩:=h';exact⟨rfl,rfl⟩)
  | throw x=>obtain⟨rfl,rfl⟩:=h;obtain⟨rfl,rfl⟩:=h';exact⟨rfl,rfl⟩
 ·rename_i e
  rw[e] at h'
  obtain⟨e1,t1,h1,_,rfl,rfl⟩:=h
  obtain⟨e2,t2,h2,_,rfl,rfl⟩:=h'
  obtain⟨rfl,rfl⟩:=Qa h1 h2
  exact⟨rfl,rfl⟩
 ·rename_i e
  rw[e] at h'
  obtain⟨rfl,rfl⟩:=h;obtain⟨rfl,rfl⟩:=h';exact⟨rfl,rfl⟩
 ·rename_i e
  rw[e] at h'
  obtain⟨rfl,rfl⟩:=h;obtain⟨rfl,rfl⟩:=h';exact⟨rfl,rfl⟩
section
variable {M:Model}{Γ:Ctx}{α:Type}
theorem zeQ {t:Sem α}{Q Q':α->Pos->Shared->Prop}{E:Value->Pos->Shared->Prop}{p:Pos}{s:Shared} (h:Sem.wp M Γ t Q E p s) (h':Sem.wp M Γ t Q' (fun _ _ _=>False) p s):∃r p1 s1,Q r p1 s1/\Q' r p1 s1:=by
 induction t generalizing p s with
 | pure a=>exact⟨_,_,_,h,h'⟩
 | raise e=>exact h'.elim
 | unsupported w=>exact h.elim
 | finish e=>exact h.elim
 | rule tag k ih=>exact ih () h h'
 | «at» p' k ih=>exact ih () h h'
 | load a part k ih=>
  obtain⟨o,ho,h⟩:=h
  obtain⟨o',ho',h'⟩:=h'
  rw[ho] at ho';cases ho'
  exact ih o h h'
 | update a part f k ih=>exact ih () h.2 h'.2
 | alloc o k ih=>exact ih _ h h'
 | loadIfAlive a k ih=>exact ih _ h h'
 | point l k ih=>exact ih () h h'
 | register a k ih=>exact h.elim
 | fresh k ih=>exact ih _ h h'
 | ask k ih=>exact ih _ h h'
 | choose src n k ih=>exact ih _ h.2 h'.2
 | os q l k ih=>exact ih _ h h'
 | call c hd g l k ih=>
  obtain⟨r,s1,h1,h⟩:=h
  obtain⟨r',s1',h1',h'⟩:=h'
  obtain⟨e1,e2⟩:=Qa h1 h1'
  cases e1;subst e2
  exact ih r h h'
 | handled o k ih=>exact ih _ h h'
 | newGen c k ih=>exact ih _ h h'
 | genState g k ih=>
  obtain⟨st,hs,h⟩:=h
  obtain⟨st',hs',h'⟩:=h'
  rw[hs] at hs';cases hs'
  exact ih _ h h'
 | resume g r l k ih=>
  obtain⟨res,s1,h1,h⟩:=h
  obtain⟨res',s1',h1',h'⟩:=h'
  obtain⟨rfl,rfl⟩:=zbx h1 h1'
  exact ih _ h h'
 | yield v g l k ih=>exact h.elim
 | stack k ih=>exact ih _ h h'
 | fork c k ih=>exact h.elim
 | thread k ih=>exact ih _ h h'
 | await a f d l k ih=>exact h.elim
end
end NP
namespace NP.Si
open PySem PyProof.Rows
section
variable (prog:Program) (w:World) (Γ:Ctx) (sn:Shared) (E:Value->Pos->Shared->Prop) {T:Type} (gi gl:T->Keyed)
structure TS (T:Type) where
 arr:Array T
 pend:Array (Nat×Nat×Nat)
 gal:Nat
def TS.st {T:Type} (g:T->Keyed) (t:TS T):SortSt:=SortSt.mk' oneType' (t.arr.map g) t.pend t.gal none
def Sim {ρ α β:Type} (a:ρ->α) (b:ρ->β) (m:StateT SortSt Sem α) (m':StateT SortSt Sem β):Prop:=
 ∀(t:TS T) (Q:α->SortSt->Pos->Shared->Prop) (p p':Pos),Sem.wp (model prog w) Γ (m.run (t.st gi)) (fun r p1 s1=>Q r.1 r.2 p1 s1) (fun _ _ _=>False) p sn →
  Sem.wp (model prog w) Γ (m'.run (t.st gl)) (fun r _ s1=>s1=sn/\∃(x:ρ) (t':TS T) (p2:Pos),r=(b x,t'.st gl)/\Q (a x) (t'.st gi) p2 sn) E p' sn
end
section
variable {prog:Program}{w:World}{Γ:Ctx}{sn:Shared}{E:Value->Pos->Shared->Prop}{T:Type}{gi gl:T->Keyed}{ρ ρ' α β α' β':Type}{a:ρ->α}{b:ρ->β}{c:ρ'->α'}{d:ρ'->β'}
theorem zW (x:ρ) {u:α}{v:β} (hu:u=a x) (hv:v=b x):Sim prog w Γ sn E gi gl a b (pure u) (pure v):=by
 intro t Q p p' h
 rw[StateT.run_pure] at h ⊢
 rw[Sem.wp_pure'] at h ⊢
 subst hu hv
 exact⟨rfl,x,t,p,rfl,h⟩
theorem zr {m:StateT SortSt Sem α}{m':StateT SortSt Sem β}{f:α->StateT SortSt Sem α'}{f':β->StateT SortSt Sem β'} (h1:Sim prog w Γ sn E gi gl a b m m') (h2:∀x,Sim prog w Γ sn E gi gl c d (f (a x)) (f' (b x))) :
  Sim prog w Γ sn E gi gl c d (m >>= f) (m' >>= f'):=by
 intro t Q p p' h
 rw[StateT.run_bind] at h ⊢
 simp only[Sem.wp_bind'] at h ⊢
 refine Sem.wp_mono _ _ _ ?_ ?_ _ _ (h1 t (fun y st p1 s1=>Sem.wp (model prog w) Γ ((f y).run st) (fun r p2 s2=>Q r.1 r.2 p2 s2) (fun _ _ _=>False) p1 s1) p p' h)
 ·rintro r p1 s1 ⟨rfl,x,t',p2,rfl,h3⟩
  exact h2 x t' Q p2 p1 h3
 ·exact fun _ _ _ z=>z
theorem kj {e:String}{m':StateT SortSt Sem β}:Sim prog w Γ sn E gi gl a b (liftM (unsupported e:Sem α)) m':=by
 intro t Q p p' h
 have h':Sem.wp (model prog w) Γ ((StateT.lift (unsupported e:Sem α):StateT SortSt Sem α).run (t.st gi)) (fun r p1 s1=>Q r.1 r.2 p1 s1) (fun _ _ _=>False) p sn:=h
 rw[StateT.run_lift] at h'
 simp only[Sem.wp_bind'] at h'
 exact False.elim h'
theorem jK:Sim prog w Γ sn E gi gl (TS.st gi) (TS.st gl) get get:=by
 intro t Q p p' h
 rw[StateT.run_get] at h ⊢
 rw[Sem.wp_pure'] at h ⊢
 exact⟨rfl,t,t,p,rfl,h⟩
theorem jc {f f':SortSt->SortSt} (g:TS T->TS T) (h1:∀t:TS T,f (t.st gi)=(g t).st gi) (h2:∀t:TS T,f' (t.st gl)=(g t).st gl):Sim prog w Γ sn E gi gl (fun _:Unit=>()) (fun _=>()) (modify f) (modify f'):=by
 intro t Q p p' h
 rw[StateT.run_modify] at h ⊢
 rw[Sem.wp_pure'] at h ⊢
 exact⟨rfl,(),g t,p,by rw[h2],by rw[←h1];exact h⟩
theorem zeV {u v:SortSt} (t0:TS T) (h1:u=t0.st gi) (h2:v=t0.st gl):Sim prog w Γ sn E gi gl (fun _:Unit=>()) (fun _=>()) (set u) (set v):=by
 intro t Q p p' h
 rw[StateT.run_set] at h ⊢
 rw[Sem.wp_pure'] at h ⊢
 subst h1 h2
 exact⟨rfl,(),t0,p,rfl,h⟩
theorem qr {r:String}:Sim prog w Γ sn E gi gl (fun _:Unit=>()) (fun _=>()) (liftM (rule r:Sem Unit)) (liftM (rule r:Sem Unit)):=by
 intro t Q p p' h
 have h':Sem.wp (model prog w) Γ ((StateT.lift (rule r:Sem Unit):StateT SortSt Sem Unit).run (t.st gi)) (fun r p1 s1=>Q r.1 r.2 p1 s1) (fun _ _ _=>False) p sn:=h
 show Sem.wp (model prog w) Γ ((StateT.lift (rule r:Sem Unit):StateT SortSt Sem Unit).run (t.st gl)) _ _ p' sn
 rw[StateT.run_lift] at h' ⊢
 simp only[Sem.wp_bind'] at h' ⊢
 exact⟨rfl,(),t,p,rfl,h'⟩
theorem yl {c:Prop} [Decidable c] {m1 m2:StateT SortSt Sem α}{m1' m2':StateT SortSt Sem β} (h1:c->Sim prog w Γ sn E gi gl a b m1 m1') (h2:¬c->Sim prog w Γ sn E gi gl a b m2 m2') :
  Sim prog w Γ sn E gi gl a b (if c then m1 else m2) (if c then m1' else m2'):=by
 by_cases h:c
 ·rw[if_pos h,if_pos h];exact h1 h
 ·rw[if_neg h,if_neg h];exact h2 h
theorem x5 {xs:Array T}{i:Nat}:Sim prog w Γ sn E gi gl gi gl (elem' (xs.map gi) i) (elem' (xs.map gl) i):=by
 rw[elem'_eq,elem'_eq,Array.getElem?_map,Array.getElem?_map]
 cases xs[i]? with
 | none=>exact kj
 | some x=>exact zW x rfl rfl
def xL {ρ α:Type} (a:ρ->α):ForInStep ρ->ForInStep α
 | .done x=>.done (a x)
 | .yield x=>.yield (a x)
theorem KF {f:Nat->α->StateT SortSt Sem (ForInStep α)}{f':Nat->β->StateT SortSt Sem (ForInStep β)} (hf:∀i x,Sim prog w Γ sn E gi gl (xL a) (xL b) (f i (a x)) (f' i (b x))) :
  ∀(l:List Nat) (x:ρ),Sim prog w Γ sn E gi gl a b (forIn l (a x) f) (forIn l (b x) f')
 | [],x=>by rw[List.forIn_nil,List.forIn_nil];exact zW x rfl rfl
 | i::l,x=>by
  rw[List.forIn_cons,List.forIn_cons]
  refine zr (hf i x) fun y=>?_
  cases y with
  | done y=>exact zW y rfl rfl
  | yield y=>exact KF hf l y
theorem YT {f:Nat->α->StateT SortSt Sem (ForInStep α)}{f':Nat->β->StateT SortSt Sem (ForInStep β)}{lo hi:Nat}{u:α}{v:β} (x:ρ) (hu:u=a x) (hv:v=b x) (hf:∀i x,Sim prog w Γ sn E gi gl (xL a) (xL b) (f i (a x)) (f' i (b x))) :
  Sim prog w Γ sn E gi gl a b (forIn [lo:hi] u f) (forIn [lo:hi] v f'):=by
 rw[Std.Legacy.Range.forIn_eq_forIn_range',Std.Legacy.Range.forIn_eq_forIn_range',hu,hv]
 exact KF hf _ x
end
section
variable {prog:Program}{w:World}{Γ:Ctx}{sn:Shared}{E:Value->Pos->Shared->Prop}{T:Type}{gi gl:T->Keyed}{B:T->T->Bool}
def Cmp (prog:Program) (w:World) (Γ:Ctx) (sn:Shared) {T:Type} (g:T->Keyed) (B:T->T->Bool):Prop:=
 ∀t u p,Sem.wp (model prog w) Γ (keyLt' oneType' (g t).1 (g u).1) (fun r _ s1=>r=B t u/\s1=sn) (fun _ _ _=>False) p sn
variable (hI:Cmp prog w Γ sn gi B) (hL:Cmp prog w Γ sn gl B)
include hI hL
theorem Kv (t u:T):Sim prog w Γ sn E gi gl (fun b:Option Bool=>b) (fun b=>b) (lt' (gi t) (gi u)) (lt' (gl t) (gl u)):=by
 rw[lt'_eq,lt'_eq]
 refine zr jK fun st=>?_
 intro t' Q p p' h
 rw[StateT.run_bind] at h ⊢
 rw[Sem.wp_bind'] at h
 have h':=(show Sem.wp (model prog w) Γ ((StateT.lift ((keyLt' oneType' (gi t).1 (gi u).1).attempt):StateT SortSt Sem (Except Value Bool)).run (t'.st gi)) (fun x pos' sh'=>_) (fun _ _ _=>False) p sn from h)
 rw[Sem.wp_bind']
 show Sem.wp (model prog w) Γ ((StateT.lift ((keyLt' oneType' (gl t).1 (gl u).1).attempt):StateT SortSt Sem (Except Value Bool)).run (t'.st gl)) _ _ p' sn
 rw[StateT.run_lift] at h' ⊢
 rw[Sem.wp_bind',Sem.wp_attempt] at h' ⊢
 obtain⟨r,p1,s1,h1,rfl,rfl⟩:=zeQ h' (hI t u p)
 refine Sem.wp_mono _ _ _ ?_ (fun _ _ _ z=>z.elim) _ _ (hL t u p')
 rintro r p2 s2 ⟨rfl,rfl⟩
 rw[Sem.wp_pure'] at h1 ⊢
 exact⟨rfl,some (B t u),t',p1,rfl,h1⟩
theorem WA (i j:Nat):Sim prog w Γ sn E gi gl (fun b:Option Bool=>b) (fun b=>b) (ltAt' i j) (ltAt' i j):=by
 rw[ltAt'_eq]
 refine zr jK fun st=>?_
 exact zr (x5 (xs:=st.arr)) fun x=>zr (x5 (xs:=st.arr)) fun y=>Kv hI hL x y
omit hI hL in
theorem vN {α β:Type} (f:α->β) (u v:Nat->Nat) (l:List Nat) (xs:Array α):l.foldl (fun a k=>a.swapIfInBounds (u k) (v k)) (xs.map f)=(l.foldl (fun a k=>a.swapIfInBounds (u k) (v k)) xs).map f:=PySem.W.kas_swaps_map f u v l xs
omit hI hL in
theorem za8 (i j:Nat):Sim prog w Γ sn E gi gl (fun _:Unit=>()) (fun _=>()) (reverseSlice' i j) (reverseSlice' i j):=by
 rw[reverseSlice'_eq]
 refine jc (fun t=>{ t with arr:=mirror t.arr i j ((j-i) / 2) }) (fun t=>?_) (fun t=>?_)
 ·show SortSt.mk' _ (mirror (t.arr.map gi) i j ((j-i) / 2)) _ _ _=SortSt.mk' _ ((mirror t.arr i j ((j-i) / 2)).map gi) _ _ _
  unfold mirror
  rw[vN]
  rfl
 ·show SortSt.mk' _ (mirror (t.arr.map gl) i j ((j-i) / 2)) _ _ _=SortSt.mk' _ ((mirror t.arr i j ((j-i) / 2)).map gl) _ _ _
  unfold mirror
  rw[vN]
  rfl
omit hI hL in
theorem zcX (i j:Nat):Sim prog w Γ sn E gi gl (fun _:Unit=>()) (fun _=>()) (moveDown' i j) (moveDown' i j):=by
 rw[moveDown'_eq]
 refine jc (fun t=>{ t with arr:=bubble t.arr i (i-j) }) (fun t=>?_) (fun t=>?_)
 ·show SortSt.mk' _ (bubble (t.arr.map gi) i (i-j)) _ _ _=SortSt.mk' _ ((bubble t.arr i (i-j)).map gi) _ _ _
  unfold bubble
  rw[vN]
  rfl
 ·show SortSt.mk' _ (bubble (t.arr.map gl) i (i-j)) _ _ _=SortSt.mk' _ ((bubble t.arr i (i-j)).map gl) _ _ _
  unfold bubble
  rw[vN]
  rfl
theorem zaj (left:Bool) (key:T) (arr:Array T) (base i:Nat):Sim prog w Γ sn E gi gl (fun b:Option Bool=>b) (fun b=>b) (beyond' left (gi key) (arr.map gi) base i) (beyond' left (gl key) (arr.map gl) base i):=by
 unfold beyond'
 refine zr x5 fun x=>?_
 refine yl (fun _=>Kv hI hL x key) fun _=>?_
 exact zr (Kv hI hL key x) fun b=>zW _ rfl rfl
omit hI hL in
theorem yY {δ α' β' ρ':Type}{c:ρ'->α'}{d:ρ'->β'}{m m':StateT SortSt Sem (Option δ)}{f:Option δ->StateT SortSt Sem α'}{f':Option δ->StateT SortSt Sem β'} (h1:Sim prog w Γ sn E gi gl (fun b:Option δ=>b) (fun b=>b) m m') (h0:Sim prog w Γ sn E gi gl c d (f none) (f' none)) (h2:∀x,Sim prog w Γ sn E gi gl c d (f (some x)) (f' (some x))) :
  Sim prog w Γ sn E gi gl c d (m >>= f) (m' >>= f'):=zr h1 fun x=>by cases x with
 | none=>exact h0
 | some x=>exact h2 x
omit hI hL in
theorem yd {ρ α β:Type}{a:ρ->α}{b:ρ->β} (x:ρ) {u:α}{v:β} (hu:u=a x) (hv:v=b x):Sim prog w Γ sn E gi gl (xL a) (xL b) (pure (.done u)) (pure (.done v)):=zW (.done x) (by rw[hu];rfl) (by rw[hv];rfl)
omit hI hL in
theorem yM {ρ α β:Type}{a:ρ->α}{b:ρ->β} (x:ρ) {u:α}{v:β} (hu:u=a x) (hv:v=b x):Sim prog w Γ sn E gi gl (xL a) (xL b) (pure (.yield u)) (pure (.yield v)):=zW (.yield x) (by rw[hu];rfl) (by rw[hv];rfl)
omit hI hL in
theorem qb {α:Type}{f f':Nat->α->StateT SortSt Sem (ForInStep α)}{lo hi:Nat}{u:α} (hf:∀i x,Sim prog w Γ sn E gi gl (xL fun y:α=>y) (xL fun y=>y) (f i x) (f' i x)) :
  Sim prog w Γ sn E gi gl (fun y:α=>y) (fun y=>y) (forIn [lo:hi] u f) (forIn [lo:hi] u f'):=YT u rfl rfl hf
theorem zfu (lo n ok:Nat):Sim prog w Γ sn E gi gl (fun b:Bool=>b) (fun b=>b) (binarySort' lo n ok) (binarySort' lo n ok):=by
 rw[binarySort'_eq]
 refine zr (qb fun k x=>?_) fun x=>?_
 ·refine zr (qb fun j y=>?_) fun y=>?_
  ·refine yl (fun _=>yd _ rfl rfl) fun _=>?_
   refine yY (WA hI hL _ _) (yd _ rfl rfl) fun z=>?_
   exact yl (fun _=>yM _ rfl rfl) fun _=>yM _ rfl rfl
  ·obtain⟨_ | r,l,r'⟩:=y
   ·exact zr (zcX _ _) fun _=>yM _ rfl rfl
   ·exact yd _ rfl rfl
 ·obtain⟨_ | r,l⟩:=x
  ·exact zW _ rfl rfl
  ·exact zW _ rfl rfl
omit hI hL in
theorem q5 {δ γ α' β' ρ':Type}{c:ρ'->α'}{d:ρ'->β'}{m m':StateT SortSt Sem (Option δ×γ)}{f:Option δ×γ->StateT SortSt Sem α'}{f':Option δ×γ->StateT SortSt Sem β'} (h1:Sim prog w Γ sn E gi gl (fun b:Option δ×γ=>b) (fun b=>b) m m') (h0:∀g,Sim prog w Γ sn E gi gl c d (f (none,g)) (f' (none,g))) (h2:∀x g,Sim prog w Γ sn E gi gl c d (f (some x,g)) (f' (some x,g))) :
  Sim prog w Γ sn E gi gl c d (m >>= f) (m' >>= f'):=zr h1 fun x=>by
 obtain⟨_ | x,g⟩:=x
 ·exact h0 g
 ·exact h2 x g
theorem zb3 (lo n:Nat):Sim prog w Γ sn E gi gl (fun b:Option Nat=>b) (fun b=>b) (countRun' lo n) (countRun' lo n):=by
 rw[countRun'_eq]
 repeat' (first
  | with_reducible exact zW _ rfl rfl
  | with_reducible exact yd _ rfl rfl
  | with_reducible exact yM _ rfl rfl
  | with_reducible refine yY (WA hI hL _ _) ?_ fun _=>?_
  | with_reducible refine zr (za8 _ _) fun _=>?_
  | with_reducible refine zr qr fun _=>?_
  | with_reducible refine q5 (qb fun _ y=>?_) (fun g=>?_) (fun r g=>?_)
  | with_reducible refine yl (fun _=>?_) fun _=>?_
  | dsimp only)
theorem kE (left:Bool) (key:T) (arr:Array T) (base n hint:Nat):Sim prog w Γ sn E gi gl (fun b:Option Nat=>b) (fun b=>b) (gallop' left (gi key) (arr.map gi) base n hint) (gallop' left (gl key) (arr.map gl) base n hint):=by
 rw[gallop'_eq,gallop'_eq]
 repeat' (first
  | with_reducible exact zW _ rfl rfl
  | with_reducible exact yd _ rfl rfl
  | with_reducible exact yM _ rfl rfl
  | with_reducible refine yY (zaj hI hL _ _ _ _ _) ?_ fun _=>?_
  | with_reducible refine zr (za8 _ _) fun _=>?_
  | with_reducible refine zr qr fun _=>?_
  | with_reducible refine q5 (qb fun _ y=>?_) (fun g=>?_) (fun r g=>?_)
  | with_reducible refine yl (fun _=>?_) fun _=>?_
  | dsimp only)
omit hI hL in
theorem WM (n:Nat):Sim prog w Γ sn E gi gl (fun _:Unit=>()) (fun _=>()) (setMinGallop' n) (setMinGallop' n):=by
 rw[setMinGallop'_eq]
 exact jc (fun t=>{ t with gal:=n }) (fun _=>rfl) (fun _=>rfl)
section
variable {γ:Type}
def mp (g:T->Keyed) (x:Option (Array T)×Array T×γ):Option (Array Keyed)×Array Keyed×γ:=(x.1.map (·.map g),x.2.1.map g,x.2.2)
omit hI hL
def Im (gi gl:T->Keyed) (u v:Array Keyed):Prop:=∃A:Array T,u=A.map gi/\v=A.map gl
theorem Im.base {A:Array T}:Im gi gl (A.map gi) (A.map gl):=⟨A,rfl,rfl⟩
theorem Im.app {u v x y:Array Keyed} (h:Im gi gl u v) (h':Im gi gl x y):Im gi gl (u++x) (v++y):=by
 obtain⟨A,rfl,rfl⟩:=h
 obtain⟨B,rfl,rfl⟩:=h'
 exact⟨A++B,by rw[Array.map_append],by rw[Array.map_append]⟩
theorem Im.ext {A:Array T}{i j:Nat}:Im gi gl ((A.map gi).extract i j) ((A.map gl).extract i j):=⟨A.extract i j,by rw[Array.map_extract],by rw[Array.map_extract]⟩
theorem Im.rev {u v:Array Keyed} (h:Im gi gl u v):Im gi gl u.reverse v.reverse:=by
 obtain⟨A,rfl,rfl⟩:=h
 exact⟨A.reverse,by rw[Array.map_reverse],by rw[Array.map_reverse]⟩
theorem Im.push {u v:Array Keyed}{t:T} (h:Im gi gl u v):Im gi gl (u.push (gi t)) (v.push (gl t)):=by
 obtain⟨A,rfl,rfl⟩:=h
 exact⟨A.push t,by rw[Array.map_push],by rw[Array.map_push]⟩
theorem j8 {u v:Array Keyed} (h:Im gi gl u v):Sim prog w Γ sn E gi gl (fun b:Array T=>b.map gi) (fun b=>b.map gl) (pure u) (pure v):=by
 obtain⟨A,rfl,rfl⟩:=h
 exact zW A rfl rfl
theorem zbD {u v x y:Array Keyed}{g:γ} (h:Im gi gl u v) (h':Im gi gl x y):Sim prog w Γ sn E gi gl (xL (mp gi)) (xL (mp gl)) (pure (.done (some u,x,g))) (pure (.done (some v,y,g))):=by
 obtain⟨A,rfl,rfl⟩:=h
 obtain⟨B,rfl,rfl⟩:=h'
 exact yd (some A,B,g) rfl rfl
theorem zce {x y:Array Keyed}{g:γ} (h':Im gi gl x y):Sim prog w Γ sn E gi gl (xL (mp gi)) (xL (mp gl)) (pure (.done (none,x,g))) (pure (.done (none,y,g))):=by
 obtain⟨B,rfl,rfl⟩:=h'
 exact yd (none,B,g) rfl rfl
theorem zaG {x y:Array Keyed}{g:γ} (h':Im gi gl x y):Sim prog w Γ sn E gi gl (xL (mp gi)) (xL (mp gl)) (pure (.yield (none,x,g))) (pure (.yield (none,y,g))):=by
 obtain⟨B,rfl,rfl⟩:=h'
 exact yM (none,B,g) rfl rfl
theorem zci {f f':Nat->Option (Array Keyed)×Array Keyed×γ->StateT SortSt Sem (ForInStep (Option (Array Keyed)×Array Keyed×γ))}{lo hi:Nat} (B:Array T) (g:γ)
  (hf:∀i (o:Option (Array T)) (out:Array T) (g:γ),Sim prog w Γ sn E gi gl (xL (mp gi)) (xL (mp gl)) (f i (o.map (·.map gi),out.map gi,g)) (f' i (o.map (·.map gl),out.map gl,g))) :
  Sim prog w Γ sn E gi gl (mp gi) (mp gl) (forIn [lo:hi] (none,B.map gi,g) f) (forIn [lo:hi] (none,B.map gl,g) f'):=YT (none,B,g) rfl rfl fun i x=>hf i x.1 x.2.1 x.2.2
theorem zbt {α' β' ρ':Type}{c:ρ'->α'}{d:ρ'->β'}{m m':StateT SortSt Sem (Option (Array Keyed)×Array Keyed×γ)}{f:Option (Array Keyed)×Array Keyed×γ->StateT SortSt Sem α'}{f':Option (Array Keyed)×Array Keyed×γ->StateT SortSt Sem β'} (h1:Sim prog w Γ sn E gi gl (mp gi) (mp gl) m m')
  (h0:∀(out:Array T) (g:γ),Sim prog w Γ sn E gi gl c d (f (none,out.map gi,g)) (f' (none,out.map gl,g))) (h2:∀(A out:Array T) (g:γ),Sim prog w Γ sn E gi gl c d (f (some (A.map gi),out.map gi,g)) (f' (some (A.map gl),out.map gl,g))):Sim prog w Γ sn E gi gl c d (m >>= f) (m' >>= f'):=zr h1 fun x=>by
 obtain⟨_ | A,out,g⟩:=x
 ·exact h0 out g
 ·exact h2 A out g
def mpH (g:T->Keyed) (x:Option (Array T)×Nat×Nat×Array T×γ):Option (Array Keyed)×Nat×Nat×Array Keyed×γ:=(x.1.map (·.map g),x.2.1,x.2.2.1,x.2.2.2.1.map g,x.2.2.2.2)
theorem zaC {u v x y:Array Keyed}{n m:Nat}{g:γ} (h:Im gi gl u v) (h':Im gi gl x y):Sim prog w Γ sn E gi gl (xL (mpH gi)) (xL (mpH gl)) (pure (.done (some u,n,m,x,g))) (pure (.done (some v,n,m,y,g))):=by
 obtain⟨A,rfl,rfl⟩:=h
 obtain⟨B,rfl,rfl⟩:=h'
 exact yd (some A,n,m,B,g) rfl rfl
theorem zag {x y:Array Keyed}{n m:Nat}{g:γ} (h':Im gi gl x y):Sim prog w Γ sn E gi gl (xL (mpH gi)) (xL (mpH gl)) (pure (.done (none,n,m,x,g))) (pure (.done (none,n,m,y,g))):=by
 obtain⟨B,rfl,rfl⟩:=h'
 exact yd (none,n,m,B,g) rfl rfl
theorem Vf {x y:Array Keyed}{n m:Nat}{g:γ} (h':Im gi gl x y):Sim prog w Γ sn E gi gl (xL (mpH gi)) (xL (mpH gl)) (pure (.yield (none,n,m,x,g))) (pure (.yield (none,n,m,y,g))):=by
 obtain⟨B,rfl,rfl⟩:=h'
 exact yM (none,n,m,B,g) rfl rfl
theorem zcl {f f':Nat->Option (Array Keyed)×Nat×Nat×Array Keyed×γ->StateT SortSt Sem (ForInStep (Option (Array Keyed)×Nat×Nat×Array Keyed×γ))}{lo hi n m:Nat} (B:Array T) (g:γ)
  (hf:∀i (o:Option (Array T)) (n m:Nat) (out:Array T) (g:γ),Sim prog w Γ sn E gi gl (xL (mpH gi)) (xL (mpH gl)) (f i (o.map (·.map gi),n,m,out.map gi,g)) (f' i (o.map (·.map gl),n,m,out.map gl,g))) :
  Sim prog w Γ sn E gi gl (mpH gi) (mpH gl) (forIn [lo:hi] (none,n,m,B.map gi,g) f) (forIn [lo:hi] (none,n,m,B.map gl,g) f'):=YT (none,n,m,B,g) rfl rfl fun i x=>hf i x.1 x.2.1 x.2.2.1 x.2.2.2.1 x.2.2.2.2
theorem zbW {α' β' ρ':Type}{c:ρ'->α'}{d:ρ'->β'}{m m':StateT SortSt Sem (Option (Array Keyed)×Nat×Nat×Array Keyed×γ)}{f:Option (Array Keyed)×Nat×Nat×Array Keyed×γ->StateT SortSt Sem α'}{f':Option (Array Keyed)×Nat×Nat×Array Keyed×γ->StateT SortSt Sem β'} (h1:Sim prog w Γ sn E gi gl (mpH gi) (mpH gl) m m')
  (h0:∀(n m:Nat) (out:Array T) (g:γ),Sim prog w Γ sn E gi gl c d (f (none,n,m,out.map gi,g)) (f' (none,n,m,out.map gl,g))) (h2:∀(A:Array T) (n m:Nat) (out:Array T) (g:γ),Sim prog w Γ sn E gi gl c d (f (some (A.map gi),n,m,out.map gi,g)) (f' (some (A.map gl),n,m,out.map gl,g))):Sim prog w Γ sn E gi gl c d (m >>= f) (m' >>= f'):=zr h1 fun x=>by
 obtain⟨_ | A,n,m,out,g⟩:=x
 ·exact h0 n m out g
 ·exact h2 A n m out g
end
theorem zgY (x y:Array T):Sim prog w Γ sn E gi gl (fun b:Array T=>b.map gi) (fun b=>b.map gl) (mergeLo' (x.map gi) (y.map gi)) (mergeLo' (x.map gl) (y.map gl)):=by
 rw[mergeLo'_eq,mergeLo'_eq]
 rw[Ucd (f:=gi) (xs:=x),Ucd (f:=gl) (xs:=x),Ucd (f:=gi) (xs:=y),Ucd (f:=gl) (xs:=y)]
 refine zr qr fun _=>zr x5 fun t=>?_
 rw[show (#[gi t]:Array Keyed)=(#[t]:Array T).map gi from by simp,show (#[gl t]:Array Keyed)=(#[t]:Array T).map gl from by simp]
 refine yl (fun _=>j8 (Im.app (Im.app Im.base Im.ext) Im.ext)) fun _=>yl (fun _=>j8 (Im.app (Im.app Im.base Im.ext) Im.ext)) fun _=>?_
 refine zr jK fun st=>?_
 rw[show gallopOf (st.st gi)=st.gal from rfl,show gallopOf (st.st gl)=st.gal from rfl]
 repeat' (first
  | with_reducible refine zr x5 fun _=>?_
  | with_reducible refine yl (fun _=>?_) fun _=>?_
  | with_reducible refine yY (Kv hI hL _ _) ?_ fun _=>?_
  | with_reducible refine yY (kE hI hL _ _ _ _ _ _) ?_ fun _=>?_
  | with_reducible refine zr (WM _) fun _=>?_
  | with_reducible refine zr qr fun _=>?_
  | with_reducible refine zbt (zci _ _ fun _ o out g=>?_) (fun out g=>?_) (fun A out g=>?_)
  | with_reducible refine j8 ?_
  | with_reducible refine zaG ?_
  | with_reducible refine zce ?_
  | with_reducible refine zbD ?_ ?_
  | with_reducible exact Im.base
  | with_reducible exact Im.ext
  | with_reducible refine Im.push ?_
  | with_reducible refine Im.rev ?_
  | with_reducible refine Im.app ?_ ?_
  | with_reducible exact kj
  | dsimp only)
theorem zgW (x y:Array T):Sim prog w Γ sn E gi gl (fun b:Array T=>b.map gi) (fun b=>b.map gl) (mergeHi' (x.map gi) (y.map gi)) (mergeHi' (x.map gl) (y.map gl)):=by
 rw[mergeHi'_eq,mergeHi'_eq]
 rw[Ucd (f:=gi) (xs:=x),Ucd (f:=gl) (xs:=x),Ucd (f:=gi) (xs:=y),Ucd (f:=gl) (xs:=y)]
 refine zr qr fun _=>zr x5 fun t=>?_
 rw[show (#[gi t]:Array Keyed)=(#[t]:Array T).map gi from by simp,show (#[gl t]:Array Keyed)=(#[t]:Array T).map gl from by simp]
 refine yl (fun _=>j8 (Im.app (Im.app Im.ext Im.ext) (Im.rev Im.base))) fun _=>yl (fun _=>j8 (Im.app (Im.app Im.ext Im.ext) (Im.rev Im.base))) fun _=>?_
 refine zr jK fun st=>?_
 rw[show gallopOf (st.st gi)=st.gal from rfl,show gallopOf (st.st gl)=st.gal from rfl]
 repeat' (first
  | with_reducible refine zr x5 fun _=>?_
  | with_reducible refine yl (fun _=>?_) fun _=>?_
  | with_reducible refine yY (Kv hI hL _ _) ?_ fun _=>?_
  | with_reducible refine yY (kE hI hL _ _ _ _ _ _) ?_ fun _=>?_
  | with_reducible refine zr (WM _) fun _=>?_
  | with_reducible refine zr qr fun _=>?_
  | with_reducible refine zbW (zcl _ _ fun _ o n m out g=>?_) (fun n m out g=>?_) (fun A n m out g=>?_)
  | with_reducible refine j8 ?_
  | with_reducible refine Vf ?_
  | with_reducible refine zag ?_
  | with_reducible refine zaC ?_ ?_
  | with_reducible exact Im.base
  | with_reducible exact Im.ext
  | with_reducible refine Im.push ?_
  | with_reducible refine Im.rev ?_
  | with_reducible refine Im.app ?_ ?_
  | with_reducible exact kj
  | dsimp only)
omit hI hL in
theorem Wf (g:T->Keyed) (sa:Nat) (l:List (T×Nat)) (xs:Array T):(l.map fun p=>(g p.1,p.2)).foldl (fun a p=>a.setIfInBounds (sa+p.2) p.1) (xs.map g)=(l.foldl (fun a p=>a.setIfInBounds (sa+p.2) p.1) xs).map g:=by
 induction l generalizing xs with
 | nil=>rfl
 | cons p l ih=>
  rw[Uas,List.foldl_cons,List.foldl_cons,←ih]
  congr 1
  rw[Array.map_setIfInBounds]
omit hI hL in
theorem Xa (g:T->Keyed) (xs:Array T):(xs.map g).toList.zipIdx=(xs.toList.zipIdx).map fun p=>(g p.1,p.2):=by
 rw[Ucn,List.zipIdx_map]
 rfl
theorem YY (i:Nat):Sim prog w Γ sn E gi gl (fun b:Bool=>b) (fun b=>b) (mergeAt' i) (mergeAt' i):=by
 rw[mergeAt'_eq]
 refine zr jK fun st=>?_
 have e1:∀g:T->Keyed,pendingOf (st.st g)=st.pend:=fun _=>rfl
 have e2:∀g:T->Keyed,arrOf (st.st g)=st.arr.map g:=fun _=>rfl
 simp only[e1,e2]
 cases h1:st.pend[i]? with
 | none=>exact kj
 | some u=>
  cases h2:st.pend[i+1]? with
  | none=>exact kj
  | some v=>
   obtain⟨sa,na,power⟩:=u
   obtain⟨sb,nb,p2⟩:=v
   dsimp only
   refine zr (zeV { st with pend:=(st.pend.setIfInBounds i (sa,na+nb,power)).eraseIdxIfInBounds (i+1) } rfl rfl) fun _=>?_
   refine zr x5 fun x=>yY (kE hI hL _ _ _ _ _ _) (zW _ rfl rfl) fun k=>?_
   refine yl (fun _=>zW _ rfl rfl) fun _=>?_
   refine zr x5 fun y=>yY (kE hI hL _ _ _ _ _ _) (zW _ rfl rfl) fun k'=>?_
   refine yl (fun _=>zW _ rfl rfl) fun _=>?_
   have fin:∀A:Array T,Sim prog w Γ sn E gi gl (fun b:Bool=>b) (fun b=>b)
     (do modify (fun s=>setArr s ((A.map gi).toList.zipIdx.foldl (fun a (x:Keyed×Nat)=>a.setIfInBounds (sa+k+x.2) x.1) (arrOf s)));return (failedOf (←get)).isNone)
     (do modify (fun s=>setArr s ((A.map gl).toList.zipIdx.foldl (fun a (x:Keyed×Nat)=>a.setIfInBounds (sa+k+x.2) x.1) (arrOf s)));return (failedOf (←get)).isNone):=fun A=>by
    refine zr (jc (fun t=>{ t with arr:=A.toList.zipIdx.foldl (fun a p=>a.setIfInBounds (sa+k+p.2) p.1) t.arr }) (fun t=>?_) (fun t=>?_)) fun _=>?_
    ·rw[Xa]
     show SortSt.mk' _ _ _ _ _=SortSt.mk' _ _ _ _ _
     rw[show arrOf (t.st gi)=t.arr.map gi from rfl,Wf]
     rfl
    ·rw[Xa]
     show SortSt.mk' _ _ _ _ _=SortSt.mk' _ _ _ _ _
     rw[show arrOf (t.st gl)=t.arr.map gl from rfl,Wf]
     rfl
    ·exact zr jK fun t=>zW true rfl rfl
   simp only[←Array.map_extract]
   refine yl (fun _=>?_) fun _=>?_
   ·exact zr (zgY hI hL _ _) fun A=>fin A
   ·exact zr (zgW hI hL _ _) fun A=>fin A
omit hI hL in
theorem wW {g:T->Keyed}{t:TS T}:pendingOf (t.st g)=t.pend:=rfl
omit hI hL in
theorem zey {g:T->Keyed}{t:TS T}:(arrOf (t.st g)).size=t.arr.size:=Ucd ..
omit hI hL in
theorem W6 (q:Nat×Nat×Nat):Sim prog w Γ sn E gi gl (fun _:Unit=>()) (fun _=>()) (modify fun s=>setPending s ((pendingOf s).push q)) (modify fun s=>setPending s ((pendingOf s).push q)):=
 jc (fun t=>{ t with pend:=t.pend.push q }) (fun _=>rfl) (fun _=>rfl)
omit hI hL in
theorem zgy (f:Nat×Nat×Nat->Nat×Nat×Nat):Sim prog w Γ sn E gi gl (fun _:Unit=>()) (fun _=>()) (modify fun s=>setPending s ((pendingOf s).modify ((pendingOf s).size-1) f)) (modify fun s=>setPending s ((pendingOf s).modify ((pendingOf s).size-1) f)):=
 jc (fun t=>{ t with pend:=t.pend.modify (t.pend.size-1) f }) (fun _=>rfl) (fun _=>rfl)
omit hI hL in
theorem YE {α' β' ρ':Type}{c:ρ'->α'}{d:ρ'->β'}{m m':StateT SortSt Sem Bool}{f:Bool->StateT SortSt Sem α'}{f':Bool->StateT SortSt Sem β'} (h1:Sim prog w Γ sn E gi gl (fun b:Bool=>b) (fun b=>b) m m') (h2:∀x,Sim prog w Γ sn E gi gl c d (f x) (f' x)) :
  Sim prog w Γ sn E gi gl c d (m >>= f) (m' >>= f'):=zr h1 h2
theorem sim_runs:Sim prog w Γ sn E gi gl (fun b:Unit=>b) (fun b=>b) sortRuns' sortRuns':=by
 rw[sortRuns'_eq]
 refine zr jK fun st=>?_
 simp only[zey]
 refine q5 (qb fun _ y=>?_) (fun g=>?_) (fun r g=>?_)
 ·refine yl (fun _=>yd _ rfl rfl) fun _=>?_
  refine yY (zb3 hI hL _ _) (yd _ rfl rfl) fun n=>?_
  refine yl (fun _=>zr qr fun _=>YE (zfu hI hL _ _ _) fun b=>yl (fun _=>yd _ rfl rfl) fun _=>?_) fun _=>?_
  all_goals
   refine zr jK fun s1=>?_
   rw[wW,wW]
   cases s1.pend.back? with
   | none=>exact zr (W6 _) fun _=>yM _ rfl rfl
   | some q=>
    obtain⟨s1,n1,q⟩:=q
    refine q5 (qb fun _ z=>?_) (fun g=>?_) (fun r g=>yd _ rfl rfl)
    ·refine zr jK fun s2=>?_
     rw[wW,wW]
     cases (if s2.pend.size > 1 then s2.pend[s2.pend.size-2]? else none) with
     | none=>exact yd _ rfl rfl
     | some o=>
      obtain⟨_,_,o⟩:=o
      refine yl (fun _=>yd _ rfl rfl) fun _=>YE (YY hI hL _) fun b=>?_
      exact yl (fun _=>yd _ rfl rfl) fun _=>yM _ rfl rfl
    ·exact zr (zgy _) fun _=>zr (W6 _) fun _=>yM _ rfl rfl
 ·refine q5 (qb fun _ y=>?_) (fun g=>zW _ rfl rfl) (fun r g=>zW _ rfl rfl)
  refine zr jK fun s1=>?_
  rw[wW,wW]
  refine yl (fun _=>yd _ rfl rfl) fun _=>?_
  refine YE (YY hI hL _) fun b=>?_
  exact yl (fun _=>yd _ rfl rfl) fun _=>yM _ rfl rfl
 ·exact zW _ rfl rfl
end
end NP.Si
namespace NP
open PySem PySem.Spec PyProof.Rows L2
open PyProof.Rows (KeyOrd KeyKind KK KeysOf)
theorem wL:∀ns ms:List Int,HT.lexLt ns ms=Vbnlae.less ns ms
 | [],[]=>rfl
 | [],_::_=>rfl
 | _::_,[]=>rfl
 | x::xs,y::ys=>by
  rw[HT.lexLt_cons,Vbnlae.less,wL xs ys]
  by_cases e:x=y
  ·subst e;simp
  ·rw[if_neg e];simp [e]
def zij (K:PySem.W.Frag):R2:=fun x y H Q=>∃a b ns ms,x=.ref a/\y=.ref b/\SqL K H a (ns.map V.int)/\SqL K H b (ms.map V.int)/\Q (.bl (Vbnlae.less ns ms)) H
theorem V5 {X:Cx}{pins:List (Addr×Obj)}{σ:L2.St}{H:Hp}{s:Shared}{A:Around}{E:Value->Shared->Prop}{a b:Addr}{ns ms:List Int}{Q:Value->Shared->Prop} (I:Inv X pins σ H s) (hu:A.units<cLine) (ha:SqL X.K H a (ns.map V.int)) (hb:SqL X.K H b (ms.map V.int)) (h:Q (.bool (Vbnlae.less ns ms)) s) :
  wpAny (model X.prog X.w) A (richCompare .Lt (.ref a) (.ref b)) Q E s:=by
 obtain⟨its,r1,p1,_⟩:=I.list ha
 obtain⟨its2,r2,p2,_⟩:=I.list hb
 have i1:IntsAre its.toArray.toList ns:=kL r1
 have i2:IntsAre its2.toArray.toList ms:=kL r2
 obtain⟨⟨cls,dd,data,sl⟩,n,ho,hc,hdd,hd⟩:=p1
 obtain⟨⟨cls2,dd2,data2,sl2⟩,n2,ho2,hc2,hdd2,hd2⟩:=p2
 simp only at hc hd hc2 hd2
 subst hc hd hc2 hd2
 refine richCompare_meets_room (op:=.Lt) ⟨_,ho,rfl⟩ ⟨_,ho2,rfl⟩ PySem.F.slot_list_lt PySem.F.entry_list_lt (PySem.F.args_list_lt_2 _ _) (HT.list_lt_ints a b its.toArray its2.toArray n n2 dd dd2 sl sl2 ns ms i1 i2) ⟨ho,ho2,?_⟩ hu
 rw[wL]
 exact⟨(fun x=>nomatch x),h⟩
theorem zgn {X:Cx} (hu:X.A.units<cLine):OpR X (compareOp .Lt) (zij X.K):=by
 intro pins s σ H x y v u Q I rx ry h
 obtain⟨a,b,ns,ms,rfl,rfl,ha,hb,q⟩:=h
 cases rx
 cases ry
 exact V5 I hu ha hb ⟨.bl (Vbnlae.less ns ms),H,I,rfl,q⟩
theorem V6 (a b c:List Int) (h:Vbnlae.less a c=true):Vbnlae.less a b=true\/Vbnlae.less b c=true:=by
 cases e:Vbnlae.less a b with
 | true=>exact .inl rfl
 | false=>
  cases e2:Vbnlae.less b c with
  | true=>exact .inr rfl
  | false=>rw[NB.x6 a b c e e2] at h;cases h
@[reducible] def zjb:KeyOrd where
 α:=List Int
 blt:=Vbnlae.less
 irrefl:=NB.yo
 trans:=NB.j1
 negTrans:=V6
 total:=NB.jR
@[reducible] def JI (f:Value->Option (List Int)):KeyKind where
 toKeyOrd:=zjb
 keyOf:=f
 dflt:=[]
theorem zaA {f:Value->Option (List Int)}{κ:Nat->List Int}{us its:List Value}{arr:Array Keyed} (hu:us.length=its.length) (hf:∀i,i<its.length->f (us.getD i .none)=some (κ i))
  (hp:arr.Perm (us.toArray.zip its.toArray)) (hs:SortedToK (JI f) arr (us.toArray.zip its.toArray).size):vk κ us its arr:=by
 have hp':arr.toList.Perm ((List.range its.length).map fun i=>(us.getD i Value.none,its.getD i Value.none)):=by
  rw[←v9 us its hu,←J1]
  exact Array.perm_iff_toList_perm.mp hp
 obtain⟨idx,p,e⟩:=vK _ hp'
 refine⟨idx,p,e,?_⟩
 have hz:arr.size=idx.length:=by
  have:=congrArg List.length e
  simpa using this
 have hm:∀i∈idx,i<its.length:=fun i hi=>Uco.mp (p.mem_iff.mp hi)
 rw[Ucj]
 intro i j hi hj hij
 have h1:=hs i j (Ubk hij) (by rw[←hp.size_eq,hz];exact hj)
 have kk:∀(k:Nat) (hk:k<idx.length),KK (JI f) arr k=κ idx[k]:=fun k hk=>by
  have e1:arr[k]? = some (us.getD idx[k] Value.none,its.getD idx[k] Value.none):=by
   rw[←Ubr,e,Ubw,Uai hk];rfl
  unfold KK
  rw[e1]
  show (f (us.getD idx[k] Value.none)).getD _=_
  rw[hf _ (hm _ (List.getElem_mem hk))]
  rfl
 rw[kk i hi,kk j hj] at h1
 exact h1
def Yd:List Value->Option (List Int)
 | []=>some []
 | .int n _::r=>(Yd r).map (n::·)
 | _::_=>none
theorem X0:∀{vs:List Value}{ns:List Int},IntsAre vs ns->Yd vs=some ns
 | _,_,.nil=>rfl
 | _,_,.cons n t h=>by unfold Yd;rw[X0 h];rfl
theorem XV:∀{vs:List Value}{ns:List Int},Yd vs=some ns->IntsAre vs ns
 | [],ns,h=>by cases h;exact .nil
 | v::r,ns,h=>by
  cases v with
  | int n t=>
   unfold Yd at h
   cases e:Yd r with
   | none=>rw[e] at h;cases h
   | some ms=>rw[e] at h;cases h;exact .cons n t (XV e)
  | _=>cases h
def zac (h:Heap):Value->Option (List Int)
 | .ref a=>(match h.get? a with
  | some o=>(match o.data with
   | .seq xs _=>Yd xs.toList
   | _=>none)
  | none=>none)
 | _=>none
theorem Jj {h:Heap}{v:Value}{l:List Int} (e:zac h v=some l):∃a o xs n,v=.ref a/\h.get? a=some o/\o.data=.seq xs n/\IntsAre xs.toList l:=by
 cases v with
 | ref a=>
  unfold zac at e
  dsimp only at e
  split at e
  ·rename_i o ho
   split at e
   ·rename_i xs n hd
    exact⟨a,o,xs,n,rfl,ho,hd,XV e⟩
   ·cases e
  ·cases e
 | _=>cases e
section
variable {prog:Program}{w:World}{s:Shared}
theorem Wy {A:Around}{b:Bool}{Q:Bool->Shared->Prop}:∀{vs ws:List Value}{ns ms:List Int} (i:Nat),IntsAre vs ns->IntsAre ws ms->∀fin:Bool,(fin=decide (ns.length<ms.length))->Q (Vbnlae.less ns ms) s->PySem.W.KatLex prog w A b fin Q (vs.zip ws) i s
 | _,_,_,_,i,.nil,.nil,fin,hf,h=>by
  subst hf
  rw[List.zip_nil_left]
  exact h
 | _,_,_,_,i,.nil,.cons m u hw,fin,hf,h=>by
  subst hf
  rw[List.zip_nil_left]
  show Q _ s
  simpa [Vbnlae.less] using h
 | _,_,_,_,i,.cons n t hv,.nil,fin,hf,h=>by
  subst hf
  rw[List.zip_nil_right]
  show Q _ s
  exact h
 | _,_,_,_,i,.cons n t hv,.cons m u hw,fin,hf,h=>by
  rw[List.zip_cons_cons]
  refine PySem.W.kat_cons ?_
  obtain⟨e,he,hiff⟩:=HT.eqAt_int A s n t m u
  refine he prog w _ _ ?_
  rw[Vbnlae.less] at h
  cases e with
  | true=>
   have e2:n=m:=hiff.mp rfl
   subst e2
   refine PySem.W.kat_yes (Wy (i+1) hv hw fin (by simpa using hf) ?_)
   simpa using h
  | false=>
   have ne:¬n=m:=fun q=>absurd (hiff.mpr q) Uap
   refine PySem.W.kat_no ?_
   have h':Q (decide (n<m)) s:=by simpa [ne] using h
   cases hb:(b&&i == 0) with
   | true=>exact oneLt_int h'
   | false=>exact PySem.W.kat_one _ _ (PyProof.Rows.lt_int h')
theorem zaW:G.LtAt prog w s (JI (zac s.heap)) (tuples' true):=by
 intro A E x y as bs Q hx hy hq
 obtain⟨a1,o1,xs,n,rfl,ho1,hd1,hi1⟩:=Jj hx
 obtain⟨a2,o2,ys,m,rfl,ho2,hd2,hi2⟩:=Jj hy
 refine PySem.W.kat_lt ho1 hd1 ho2 hd2 (Wy 0 hi1 hi2 _ ?_ hq)
 have e1:=hi1.length
 have e2:=hi2.length
 rw[Ube] at e1 e2
 rw[e1,e2]
end
section
variable {X:Cx}{κ:Nat->List Int}{us its:List Value}{sn:Shared}
theorem Jc {h:Heap}:∀{us:List Value},(∀v∈us,∃a o xs n f,v=Value.ref a/\h.get? a=some o/\o.cls=.type "tuple"/\o.data=.seq xs n/\xs[0]? = some f/\∃k t,f=Value.int k t)->∃fs,PySem.W.KatTups h us fs/\fs.length=us.length/\∀f∈fs,∃k t,f=Value.int k t
 | [],_=>⟨[],PySem.W.KatTups.nil,rfl,fun f hf=>by simp at hf⟩
 | v::us,hv=>by
  obtain⟨fs,h1,h2,h3⟩:=Jc (us:=us) fun v hv'=>hv v (Uad _ hv')
  obtain⟨a,o,xs,n,f,rfl,ho,hc,hd,hf,hi⟩:=hv v Uak
  refine⟨f::fs,PySem.W.KatTups.cons ho hc hd hf h1,by simp [h2],fun g hg=>?_⟩
  rcases Uaf.mp hg with rfl | hg
  ·exact hi
  ·exact h3 g hg
theorem zcC (hu:us.length=its.length) (hk:∀i,i<its.length->∃a o xs n,us.getD i .none=.ref a/\sn.heap.get? a=some o/\o.cls=.type "tuple"/\o.data=.seq xs n/\IntsAre xs.toList (κ i)/\κ i≠[]):WS X κ us its sn:=by
 intro h2 E P hP
 have hv:∀v∈us,∃a o xs n f,v=Value.ref a/\sn.heap.get? a=some o/\o.cls=.type "tuple"/\o.data=.seq xs n/\xs[0]? = some f/\∃k t,f=Value.int k t:=fun v hv=>by
  obtain⟨i,hi,e⟩:=List.mem_iff_getElem.mp hv
  obtain⟨a,o,xs,n,e1,ho,hc,hd,hi',hne⟩:=hk i (by omega)
  have e2:us.getD i .none=v:=by rw[Ual,Uai hi,e];rfl
  refine⟨a,o,xs,n,?_⟩
  cases hx:κ i with
  | nil=>exact absurd hx hne
  | cons k r=>
   rw[hx] at hi'
   cases hl:xs.toList with
   | nil=>rw[hl] at hi';cases hi'
   | cons f l=>
    rw[hl] at hi'
    cases hi' with
    | cons _ t _=>
     exact⟨_,by rw[←e2,e1],ho,hc,hd,by rw[←Ubr,hl];rfl,k,t,rfl⟩
 obtain⟨fs,hT,hl,hfs⟩:=Jc hv
 have e:(Value.type "int" != Value.type "tuple")=true:=by first | rfl | decide
 refine PySem.W.kat_kind (T:=Value.type "int") hT (by omega) (fun v hv=>?_) rfl ?_
 ·obtain⟨k,t,rfl⟩:=hfs v hv
  exact PySem.W.Looks.of_pure rfl
 rw[e]
 refine⟨rfl,?_⟩
 have hz:(us.toArray.zip its.toArray).size=its.length:=by simp [hu]
 have hkey:∀i,i<its.length->zac sn.heap (us.getD i .none)=some (κ i):=fun i hi=>by
  obtain⟨a,o,xs,n,e1,ho,hc,hd,hi',hne⟩:=hk i hi
  rw[e1]
  unfold zac
  simp only[ho,hd]
  exact X0 hi'
 refine wpAny_mono (G.wpS_sortRunsSt (A:=X.A.in1.in1) (E:=E) (s:=sn) (κ:=JI (zac sn.heap)) (kd:=tuples' true) (a₀:=us.toArray.zip its.toArray) (st:=SortSt.mk' (tuples' true) (us.toArray.zip its.toArray) #[] 7 none)
   (Q:=fun _ st'=>failedOf st'=none/\vk κ us its (arrOf st')) zaW ?_ ⟨Array.Perm.refl _,rfl,rfl⟩ rfl (Stable.refl _) (by omega) fun st' a1 a2 a3 _=>⟨a2,zaA hu hkey a1 a3⟩) (fun r s' z=>?_) fun _ _ z=>z
 ·intro p hp
  rw[J1,v9 _ _ hu] at hp
  obtain⟨i,hi,rfl⟩:=Uaq.mp hp
  exact⟨_,hkey i (Uco.mp hi)⟩
 ·obtain⟨rfl,hf,hs⟩:=z
  exact hP _ hf hs
theorem Q5 (n:Nat):(List.finRange n).map (fun i:_root_.Fin n=>i.val)=List.range n:=by
 apply List.ext_getElem
 ·simp
 ·intro i h1 h2;simp
def rk (l:List (List Int)) (x:List Int):Nat:=l.countP fun y=>Vbnlae.less y x
theorem zgq {l:List (List Int)}{x y:List Int} (h:Vbnlae.less x y=false):rk l y<=rk l x:=by
 unfold rk
 refine List.countP_mono_left fun z _ hz=>?_
 rcases V6 z x y hz with h' | h'
 ·exact h'
 ·rw[h] at h';cases h'
theorem zeN {x y:List Int} (h:Vbnlae.less x y=true):∀{l:List (List Int)},x∈l->rk l x<rk l y
 | [],hx=>by simp at hx
 | z::l,hx=>by
  have hle:rk l x<=rk l y:=zgq (NB.y6 _ _ h)
  unfold rk at hle ⊢
  rw[List.countP_cons,List.countP_cons]
  rcases Uaf.mp hx with rfl | hx
  ·rw[NB.yo,h];simp;omega
  ·have:=zeN h hx
   unfold rk at this
   cases e:Vbnlae.less z x with
   | false=>simp;split <;> omega
   | true=>rw[NB.j1 _ _ _ e h];simp;omega
theorem zg2 {l:List (List Int)}{x y:List Int} (hx:x∈l):decide ((rk l x:Int)<rk l y)=Vbnlae.less x y:=by
 cases e:Vbnlae.less x y with
 | true=>have:=zeN e hx;simpa using this
 | false=>have:=zgq (l:=l) e;simp;omega
def Kf:Value->Option (List Int)
 | .int n _=>some [n]
 | _=>none
theorem zdO:G.LtAt X.prog X.w sn (JI Kf) oneType':=by
 intro A E x y a b Q hx hy hq
 cases x <;> first | (cases hx;done) | skip
 cases y <;> first | (cases hy;done) | skip
 cases hx;cases hy
 rw[keyLt'_oneType]
 refine oneLt_int ?_
 simpa [Vbnlae.less] using hq
theorem zao {A:Around}{E:Value->Shared->Prop}{a b:Addr}{xs ys:Array Value}{n n2:Nat}{ns ms:List Int}{Q:Bool->Shared->Prop} (hu:A.units<cLine) (ho:sn.heap.get? a=some { cls:=.type "list",data:=.seq xs n }) (ho2:sn.heap.get? b=some { cls:=.type "list",data:=.seq ys n2 })
  (hi:IntsAre xs.toList ns) (hj:IntsAre ys.toList ms) (h:Q (Vbnlae.less ns ms) sn):wpAny (model X.prog X.w) A (keyLt' oneType' (.ref a) (.ref b)) Q E sn:=by
 rw[keyLt'_oneType,oneLt'_eq]
 simp only[if_true]
 refine wpAny_bind (wpAny_cRoomFor hu ?_)
 refine wpAny_bind (wpAny_callSpecialIfBound?_slot (T:="list") ⟨_,ho,rfl⟩ PySem.F.slot_list_lt (call_meets PySem.F.slot_list_lt ⟨_,ho,rfl⟩ PySem.F.entry_list_lt (PySem.F.args_list_lt_2 _ _) (HT.list_lt_ints a b xs ys n n2 none none #[] #[] ns ms hi hj) ⟨ho,ho2,?_⟩))
 rw[wL]
 exact wpAny_truthy_bool h
theorem zaq (hr:X.A.in1.in1.units<cLine) (hu:us.length=its.length) (hk:∀i,i<its.length->∃a xs n,us.getD i .none=.ref a/\sn.heap.get? a=some { cls:=.type "list",data:=.seq xs n }/\IntsAre xs.toList (κ i)):WS X κ us its sn:=by
 intro h2 E P hP
 have hv:∀v∈us,PySem.W.Looks (model X.prog X.w) sn.heap (typeOf v) (.type "list"):=fun v hv=>by
  obtain⟨i,hi,e⟩:=List.mem_iff_getElem.mp hv
  obtain⟨a,xs,n,e1,ho,_⟩:=hk i (by omega)
  have e2:us.getD i .none=v:=by rw[Ual,Uai hi,e];rfl
  rw[←e2,e1]
  intro A Q E s kp q
  exact wpAny_typeOf (T:="list") ⟨_,kp _ _ ho,rfl⟩ q
 refine PySem.W.kas_kind (T:=Value.type "list") (by omega) hv (by decide) (by rfl) ⟨rfl,?_⟩
 intro Γ p hΓ
 let l:List (List Int):=(List.range its.length).map κ
 let gi:_root_.Fin its.length->Keyed:=fun i=>(.int (rk l (κ i)) i.val,its.getD i .none)
 let gl:_root_.Fin its.length->Keyed:=fun i=>(us.getD i .none,its.getD i .none)
 have hl:∀i:_root_.Fin its.length,κ i∈l:=fun i=>Uaq.mpr ⟨i,Uco.mpr i.isLt,rfl⟩
 have hI:Si.Cmp X.prog X.w Γ sn gi (fun t u=>Vbnlae.less (κ t) (κ u)):=fun t u p=>by
  have:=oneLt_int (prog:=X.prog) (w:=X.w) (A:=X.A.in1.in1) (E:=fun _ _=>False) (s:=sn) (a:=(rk l (κ t):Int)) (b:=(rk l (κ u):Int)) (t:=t.val) (u:=u.val) (Q:=fun r s1=>r=Vbnlae.less (κ t) (κ u)/\s1=sn) ⟨zg2 (hl t),rfl⟩
  exact this Γ p hΓ
 have hL:Si.Cmp X.prog X.w Γ sn gl (fun t u=>Vbnlae.less (κ t) (κ u)):=fun t u p=>by
  obtain⟨a,xs,n,e1,ho,h1⟩:=hk t t.isLt
  obtain⟨b,ys,m,e2,ho2,h3⟩:=hk u u.isLt
  have:=zao (X:=X) (A:=X.A.in1.in1) (E:=fun _ _=>False) (Q:=fun r s1=>r=Vbnlae.less (κ t) (κ u)/\s1=sn) hr ho ho2 h1 h3 ⟨rfl,rfl⟩
  show Sem.wp (model X.prog X.w) Γ (keyLt' oneType' (us.getD t .none) (us.getD u .none)) _ _ p sn
  rw[e1,e2]
  exact this Γ p hΓ
 let t0:Si.TS (_root_.Fin its.length):=⟨(List.finRange its.length).toArray,#[],7⟩
 have zl:(List.finRange its.length).map gl=us.zip its:=by
  rw[v9 _ _ hu,←Q5 its.length,Uau]
  rfl
 have et:SortSt.mk' oneType' (us.toArray.zip its.toArray) #[] 7 none=t0.st gl:=by
  show _=SortSt.mk' oneType' ((List.finRange its.length).toArray.map gl) #[] 7 none
  congr 1
  rw[←Array.toList_inj,Ucn,J1,←zl]
 have zi:(t0.arr.map gi).size=its.length:=by simp [t0]
 have inj:∀a b,gi a=gi b->a=b:=fun a b e=>by
  have e1:=congrArg Prod.fst e
  injection e1 with _ e2
  exact Fin.ext e2
 have hkeys:∀q,q∈(t0.arr.map gi).toList->∃i:_root_.Fin its.length,q=gi i:=fun q hq=>by
  rw[Ucn] at hq
  obtain⟨i,_,rfl⟩:=Uaq.mp hq
  exact⟨i,rfl⟩
 have hint:=G.wpS_sortRunsSt (prog:=X.prog) (w:=X.w) (A:=X.A.in1.in1) (E:=fun _ _=>False) (s:=sn) (κ:=JI Kf) (kd:=oneType') (a₀:=t0.arr.map gi) (st:=t0.st gi)
   (Q:=fun _ st'=>(arrOf st').Perm (t0.arr.map gi)/\failedOf st'=none/\SortedToK (JI Kf) (arrOf st') (t0.arr.map gi).size) zdO (fun q hq=>by
    obtain⟨i,rfl⟩:=hkeys q hq
    exact⟨_,rfl⟩) ⟨Array.Perm.refl _,rfl,rfl⟩ rfl (Stable.refl _) (by omega) fun st' a1 a2 a3 _=>⟨a1,a2,a3⟩
 have hsim:=Si.sim_runs (E:=fun e p s=>E e s) hI hL t0 (fun _ st' _ s'=>s'=sn/\(arrOf st').Perm (t0.arr.map gi)/\failedOf st'=none/\SortedToK (JI Kf) (arrOf st') (t0.arr.map gi).size) p p (hint Γ p hΓ)
 rw[et]
 refine Sem.wp_mono _ _ _ (fun r p1 s1 z=>?_) (fun _ _ _ z=>z) _ _ hsim
 obtain⟨rfl,x,t',p2,rfl,_,q1,q2,q3⟩:=z
 refine hP _ rfl ?_
 have pl:(t'.arr.toList.map gi).Perm ((List.finRange its.length).map gi):=by
  have:=Array.perm_iff_toList_perm.mp q1
  rw[show arrOf (t'.st gi)=t'.arr.map gi from rfl,Ucn,Ucn] at this
  exact this
 obtain⟨m',pm,em⟩:=vK gi pl
 have em':t'.arr.toList=m':=List.map_inj_right (fun a b h=>inj a b h) |>.mp em
 rw[←em'] at pm
 refine⟨t'.arr.toList.map (·.val),?_,?_,?_⟩
 ·rw[←Q5 its.length]
  exact pm.map _
 ·rw[show arrOf (t'.st gl)=t'.arr.map gl from rfl,Ucn,Uau]
  rfl
 ·rw[List.pairwise_map,Ucj]
  intro i j hi hj hij
  have hz:(t'.arr.map gi).size=its.length:=q1.size_eq.trans zi
  have hz':t'.arr.toList.length=its.length:=(Ube ..).trans ((Ucd ..).symm.trans hz)
  have h1:=q3 i j (Ubk hij) (by rw[zi];omega)
  have kk:∀(k:Nat) (hk:k<t'.arr.toList.length),KK (JI Kf) (arrOf (t'.st gi)) k=[(rk l (κ t'.arr.toList[k]):Int)]:=fun k hk=>by
   have e1:(t'.arr.map gi)[k]? = some (gi t'.arr.toList[k]):=by
    rw[Array.getElem?_map,←Ubr,Uai hk];rfl
   unfold KK
   rw[show arrOf (t'.st gi)=t'.arr.map gi from rfl,e1]
   rfl
  rw[kk i hi,kk j hj] at h1
  cases e:Vbnlae.less (κ t'.arr.toList[j]) (κ t'.arr.toList[i]) with
  | false=>rfl
  | true=>
   have:=zeN e (hl t'.arr.toList[j])
   have h1':Vbnlae.less [(rk l (κ t'.arr.toList[j]):Int)] [(rk l (κ t'.arr.toList[i]):Int)]=false:=h1
   simp only[Vbnlae.less,Bool.or_eq_false_iff,decide_eq_false_iff_not] at h1'
   have h3:=h1'.1
   omega
end
end NP
namespace NP
open PySem PySem.Spec PyProof.Rows L2
def zha (X:Cx) (fv:Value) (r:V->Hp->VK->Prop):Prop:=
 ∀(pins:List (Addr×Obj)) (s:Shared) (σ:L2.St) (H:Hp) (x:V) (v:Value) (Q:VK),Inv X pins σ H s->yx x v->r x H Q->wpAny (model X.prog X.w) X.A.in1 (call fv [v]) (EP X pins σ Q) (fun _ _=>False) s
section
variable {X:Cx}{pins:List (Addr×Obj)}{σ:L2.St}
structure zb1 (X:Cx) (pins:List (Addr×Obj)) (σ:L2.St) (I S l:Addr) (i:Nat) (bst:List Value) (H:Hp) (s:Shared):Prop where
 inv:Inv X pins σ H s
 fI:QC X pins H I
 fS:QC X pins H S
 oI:s.heap.IsListIter I l i
 oS:∃e,s.heap.get? S=some (seqObj "list" bst.toArray e)
 ne:S≠I
theorem zb1.call {I S l:Addr}{i:Nat}{bst:List Value}{H:Hp}{s:Shared}{fv v:Value}{x:V}{r:V->Hp->VK->Prop}{Q:V->Hp->Prop} (h:zb1 X pins σ I S l i bst H s) (hk:zha X fv r) (rx:yx x v) (q:r x H Q) :
  wpAny (model X.prog X.w) X.A.in1 (PySem.call fv [v]) (fun k s'=>∃y H',zb1 X pins σ I S l i bst H' s'/\yx y k/\Q y H') (fun _ _=>False) s:=by
 obtain⟨e,oS⟩:=h.oS
 obtain⟨oi,hoi,hoc,hod⟩:=h.oI
 have nc:∀v,oi.data≠.cell v:=fun v z=>by rw[hod] at z;cases z
 have I2:=h.inv.pinned (fp:=[I,S]) (fun b hb=>by
   simp at hb
   rcases hb with rfl | rfl
   ·exact h.fI
   ·exact h.fS) (fun b hb=>by
   simp at hb
   rcases hb with rfl | rfl
   ·exact⟨_,hoi,nc⟩
   ·exact⟨_,oS,Zr⟩)
 refine wpAny_mono (hk _ _ _ _ _ _ Q I2 rx q) (fun k s' z=>?_) fun _ _ z=>z
 obtain⟨y,H',I3,ry,q'⟩:=z
 have pI:=I3.pin _ (Uaz _ (Uaz _ (xD (fp:=[I,S]) (by simp) hoi)))
 have pS:=I3.pin _ (Uaz _ (Uaz _ (xD (fp:=[I,S]) (by simp) oS)))
 exact⟨y,H',⟨I3.unpinned,⟨pI.2.1,h.fI.2⟩,⟨pS.2.1,h.fS.2⟩,⟨oi,pI.1,hoc,hod⟩,⟨e,pS.1⟩,h.ne⟩,ry,q'⟩
theorem zb1.turned {I S l:Addr}{i j:Nat}{bst:List Value}{H:Hp}{s:Shared}{h':Heap}{tk:Nat} (h:zb1 X pins σ I S l i bst H s) (hk:∀b o,b∉[I]->s.heap.get? b=some o->h'.get? b=some o) (hi:h'.IsListIter I l j):zb1 X pins σ I S l j bst H { s with heap:=h',toks:=tk }:=by
 obtain⟨e,oS⟩:=h.oS
 exact⟨h.inv.turnedL (ch:=[I]) hk (fun b hb=>by rw[Uam.mp hb];exact h.fI),h.fI,h.fS,hi,⟨e,hk S _ (by simpa using h.ne) oS⟩,h.ne⟩
theorem zb1.store {I S l:Addr}{i:Nat}{bst bst':List Value}{H:Hp}{s:Shared} (h:zb1 X pins σ I S l i bst H s):zb1 X pins σ I S l i bst' H { s with heap:=s.heap.update S (Obj.mapSeq fun _=>bst'.toArray) }:=by
 obtain⟨e,oS⟩:=h.oS
 obtain⟨oi,hoi,hoc,hod⟩:=h.oI
 have s1:=Heap.SameBut.update s.heap S (Obj.mapSeq fun _=>bst'.toArray)
 refine⟨h.inv.turnedL (t':=s.toks) (ch:=[S]) (fun b o hb z=>(s1.2 b (by simpa using hb)).trans z) (fun b hb=>by rw[Uam.mp hb];exact h.fS),h.fI,h.fS,⟨oi,(s1.2 I h.ne.symm).trans hoi,hoc,hod⟩,⟨_,get?_update_seq oS fun _=>bst'.toArray⟩,h.ne⟩
structure zhc (X:Cx) (xs:List V) (κ:Nat->List Int) (i b:Nat) (bst:List Value) (H:Hp):Prop where
 ex:∃x v k p,bst=[v,k]/\xs[b]? = some x/\yx x v/\k=Value.ref p/\SqL X.K H p ((κ b).map V.int)
 le:∀j,j<i->Vbnlae.less (κ j) (κ b)=false
theorem zhc.same {xs:List V}{κ:Nat->List Int}{i b:Nat}{bst:List Value}{H H':Hp} (h:zhc X xs κ i b bst H) (e:Same H H'):zhc X xs κ i b bst H':=by
 obtain⟨x,v,k,p,h1,h2,h3,h4,h5⟩:=h.ex
 exact⟨⟨x,v,k,p,h1,h2,h3,h4,e.seq h5⟩,h.le⟩
theorem zdF {xs:List V}{l q I S:Addr}{H0:Hp}{κ:Nat->List Int}{r:V->Hp->VK->Prop}{R:Result->Shared->Prop} (hh:X.A.handled=none) (hu:X.A.in1.units<cLine) (hlI:l≠I) (hl:SqL X.K H0 l xs) (hk:zha X (.ref q) r)
  (turn:∀i x H1,xs[i]? = some x->Same H0 H1->r x H1 fun y H2=>Same H1 H2/\∃p,y=.ref p/\H2 p=some (.lst ((κ i).map V.int)))
  (fin:∀b x v Hn sn,xs[b]? = some x->yx x v->(∀j,j<xs.length->Vbnlae.less (κ j) (κ b)=false)->Same H0 Hn->Inv X pins σ Hn sn->R (.ok (.ret v)) sn) :
  ∀(n i b:Nat) (bst:List Value) (H:Hp) (s:Shared),xs.length-i=n->i<=xs.length->Same H0 H->zb1 X pins σ I S l i bst H s->zhc X xs κ i b bst H →
   codeAny (model X.prog X.w) X.A (.builtin "min.loop" ⟨[.ref I,.ref q,.ref S],[]⟩) R s:=by
 have hname:(toString "min"++toString ".loop" : String) = "min.loop":=by decide
 intro n
 induction n with
 | zero=>
  intro i b bst H s hn hi hS h hb
  obtain⟨e,oS⟩:=h.oS
  obtain⟨x,v,k,p,rfl,hx,rv,rfl,hp⟩:=hb.ex
  obtain⟨its,rx,hL,_⟩:=h.inv.list (hS.seq hl)
  have W:=Walks.list (prog:=X.prog) (w:=X.w) (A:=X.A.in1) hh I l hlI its.toArray
  refine codeAny_builtin PySem.F.entry_min_loop ?_
  rw[Around.under_plainId PySem.F.plain_min_loop _]
  show wpAny _ X.A.in1 (seqItems? (.ref S) >>= _) _ _ _
  refine wpAny_bind (wpAny_seqItems oS rfl ?_)
  show wpAny _ X.A.in1 (tryCatch (pyNext (.ref I)) _ >>= _) _ _ _
  have ei:i=its.toArray.size:=by have:=rx.length;simp;omega
  refine wpAny_bind (wpAny_tryCatch (W.done _ _ _ ⟨by rw[←ei];exact h.oI,hL.isList⟩ fun h' tk' hk'=>?_))
  have oS':=hk' S _ (by simpa using h.ne) oS
  show wpAny _ X.A.in1 (updateSeq S (fun _=>#[]) >>= _) _ _ _
  refine wpAny_bind (wpAny_updateSeq oS' rfl (wpAny_bind (wpAny_letGo (wpAny_pure ?_))))
  refine fin b x v H _ hx rv (fun j hj=>hb.le j (by omega)) hS ?_
  have s1:=Heap.SameBut.update h' S (Obj.mapSeq fun _=>(#[]:Array Value))
  have I9:=h.inv.turnedL (h':=h'.update S (Obj.mapSeq fun _=>(#[]:Array Value))) (t':=tk') (ch:=[I,S]) (fun b o hb z=>by
   simp at hb
   exact(s1.2 b hb.2).trans (hk' b o (by simpa using hb.1) z)) (fun b hb=>by
   simp at hb
   rcases hb with rfl | rfl
   ·exact h.fI
   ·exact h.fS)
  exact I9
 | succ n ih=>
  intro i b bst H s hn hi hS h hb
  obtain⟨e,oS⟩:=h.oS
  obtain⟨x,v,k,p,rfl,hx,rv,rfl,hp⟩:=id hb.ex
  obtain⟨its,rx,hL,_⟩:=h.inv.list (hS.seq hl)
  have W:=Walks.list (prog:=X.prog) (w:=X.w) (A:=X.A.in1) hh I l hlI its.toArray
  refine codeAny_builtin PySem.F.entry_min_loop ?_
  rw[Around.under_plainId PySem.F.plain_min_loop _]
  show wpAny _ X.A.in1 (seqItems? (.ref S) >>= _) _ _ _
  refine wpAny_bind (wpAny_seqItems oS rfl ?_)
  show wpAny _ X.A.in1 (tryCatch (pyNext (.ref I)) _ >>= _) _ _ _
  have hlt:i<its.length:=by have:=rx.length;omega
  refine wpAny_bind (wpAny_tryCatch (W.item i _ _ _ (by simpa using hlt) ⟨h.oI,hL.isList⟩ fun v1 h' tk' hP hst' hk'=>?_))
  have hv:its[i]? = some v1:=by simpa using hP
  obtain⟨x1,hx1⟩:∃x,xs[i]? = some x:=⟨_,Uai (by omega)⟩
  obtain⟨v',hv',rv1⟩:=rx.get hx1
  rw[hv] at hv';cases hv'
  have h1:=h.turned (tk:=tk') hk' hst'.1
  show wpAny _ X.A.in1 (tryCatch (holding [v1] (PySem.call (.ref q) [v1])) _ >>= _) _ _ _
  refine wpAny_bind (wpAny_tryCatch (wpAny_holding (wpAny_mono (h1.call hk rv1 (turn i x1 H hx1 hS)) (fun k1 s2 z=>?_) fun _ _ hF=>hF.elim)))
  obtain⟨y,H2,h2,ry,hS2,p1,rfl,hp1⟩:=z
  cases ry
  have hb2:=hb.same hS2
  obtain⟨e2,oS2⟩:=h2.oS
  obtain⟨x0,v0,k0,p0,e0,hx0,rv0,ek0,hp0⟩:=hb2.ex
  cases e0;cases ek0
  show wpAny _ X.A.in1 (tryCatch (holding [v1,.ref p1] (richCompare .Lt (.ref p1) (.ref p) >>= _)) _ >>= _) _ _ _
  refine wpAny_bind (wpAny_tryCatch (wpAny_holding (wpAny_bind (V5 h2.inv hu (SqL.of hp1) hp0 ?_))))
  refine wpAny_bind (wpAny_holding (wpAny_truthy_bool ?_))
  refine wpAny_bind (wpAny_letGo (wpAny_pure ?_))
  cases hc:Vbnlae.less (κ i) (κ b) with
  | true=>
   simp only[if_true]
   refine wpAny_bind (wpAny_updateSeq oS2 rfl (wpAny_bind (wpAny_letGo ?_)))
   rw[hname]
   refine wpAny_pure ⟨plainId_quiet PySem.F.plain_min_loop _,ih (i+1) i [v1,.ref p1] H2 _ (by omega) (by omega) (hS.trans hS2) h2.store ⟨⟨x1,v1,_,p1,rfl,hx1,rv1,rfl,SqL.of hp1⟩,fun j hj=>?_⟩⟩
   by_cases ej:j=i
   ·rw[ej];exact NB.yo _
   ·exact NB.x6 _ _ _ (hb.le j (by omega)) (NB.y6 _ _ hc)
  | false=>
   simp only[Ucb,if_false]
   refine wpAny_bind (wpAny_letGo ?_)
   rw[hname]
   refine wpAny_pure ⟨plainId_quiet PySem.F.plain_min_loop _,ih (i+1) b _ H2 _ (by omega) (by omega) (hS.trans hS2) h2 ⟨hb2.ex,fun j hj=>?_⟩⟩
   by_cases ej:j=i
   ·rw[ej];exact hc
   ·exact hb.le j (by omega)
theorem zeG {H:Hp}{s:Shared}{q l:Addr}{r:V->Hp->VK->Prop}{xs:List V}{κ:Nat->List Int}{Q:VK} (I:Inv X pins σ H s) (hh:X.A.handled=none) (hu:X.A.in1.units<cLine) (hl:SqL X.K H l xs) (hne:0<xs.length) (hk:zha X (.ref q) r)
  (turn:∀i x H1,xs[i]? = some x->Same H H1->r x H1 fun y H2=>Same H1 H2/\∃p,y=.ref p/\H2 p=some (.lst ((κ i).map V.int)))
  (fin:∀b x Hn,xs[b]? = some x->(∀j,j<xs.length->Vbnlae.less (κ j) (κ b)=false)->Same H Hn->Q x Hn) :
  wpAny (model X.prog X.w) X.A (PySem.call (.builtin "min") [.ref l] [(Str.ofString "key",.ref q)]) (EP X pins σ Q) X.xe s:=by
 have hname:(toString "min"++toString ".loop" : String) = "min.loop":=by decide
 obtain⟨its,rx,hL,_⟩:=I.list hl
 have hll:=hL.lt
 refine kmk_tree PySem.F.kind_min PySem.F.plain_min PySem.F.entry_min (kmk_min_key _ _) ?_
 show wpAny _ X.A.in1 (Builtin.Builtins.bindParams "min" ["key", "default"] 0 ⟨[],[(Str.ofString "key",.ref q)]⟩ >>= _) _ _ s
 refine wpAny_bind (wpAny_of_eq (show Builtin.Builtins.bindParams "min" ["key", "default"] 0 ⟨[],[(Str.ofString "key",.ref q)]⟩=pure [some (.ref q),none] from rfl) ?_)
 refine wpAny_bind (wpAny_pure ?_)
 refine wpAny_bind (wpAny_pyIter_list hL.isList ?_)
 refine wpAny_bind (wpAny_newList ?_ (Uax _))
 rw[hname]
 refine wpAny_pure ⟨plainId_quiet PySem.F.plain_min_loop _,?_⟩
 have hS:(s.heap.push { cls:=.type "list_iterator",data:=.fields #[.ref l,.int 0 0] }).objs.size=s.heap.objs.size+1:=size_push' ..
 have gI:((s.heap.push { cls:=.type "list_iterator",data:=.fields #[.ref l,.int 0 0] }).push (seqObj "list" #[] 0)).get? s.heap.objs.size=some { cls:=.type "list_iterator",data:=.fields #[.ref l,.int 0 0] }:=
  Heap.get?_push_of_some _ (Heap.get?_push_size _ rfl)
 have gS:((s.heap.push { cls:=.type "list_iterator",data:=.fields #[.ref l,.int 0 0] }).push (seqObj "list" #[] 0)).get? (s.heap.objs.size+1)=some (seqObj "list" #[] 0):=by
  rw[←hS];exact Heap.get?_push_size _ rfl
 have keep:∀b o,s.heap.get? b=some o->((s.heap.push { cls:=.type "list_iterator",data:=.fields #[.ref l,.int 0 0] }).push (seqObj "list" #[] 0)).get? b=some o:=fun b o e=>Heap.get?_push_of_some _ (Heap.get?_push_of_some _ e)
 have h0:zb1 X pins σ s.heap.objs.size (s.heap.objs.size+1) l 0 [] H { s with heap:=(s.heap.push { cls:=.type "list_iterator",data:=.fields #[.ref l,.int 0 0] }).push (seqObj "list" #[] 0) }:=
  ⟨I.kept (t':=s.toks) keep,I.fpOk (Uag _) (I.hok.fresh (Uag _)),I.fpOk (Nat.le_succ _) (I.hok.fresh (Nat.le_succ _)),⟨_,gI,rfl,rfl⟩,⟨0,gS⟩,Nat.ne_of_gt (Ucg _)⟩
 have hlI:l≠s.heap.objs.size:=Uba hll
 have W:=Walks.list (prog:=X.prog) (w:=X.w) (A:=X.A.in1) hh s.heap.objs.size l hlI its.toArray
 show codeAny _ X.A (.builtin "min.loop" ⟨[.ref s.heap.objs.size,.ref q,.ref (s.heap.push { cls:=.type "list_iterator",data:=.fields #[.ref l,.int 0 0] }).objs.size],[]⟩) _ { s with heap:=(s.heap.push { cls:=.type "list_iterator",data:=.fields #[.ref l,.int 0 0] }).push (seqObj "list" #[] 0) }
 rw[hS]
 refine codeAny_builtin PySem.F.entry_min_loop ?_
 rw[Around.under_plainId PySem.F.plain_min_loop _]
 show wpAny _ X.A.in1 (seqItems? (.ref (s.heap.objs.size+1)) >>= _) _ _ _
 refine wpAny_bind (wpAny_seqItems gS rfl ?_)
 show wpAny _ X.A.in1 (tryCatch (pyNext (.ref s.heap.objs.size)) _ >>= _) _ _ _
 have hlt:0<its.length:=by rw[←rx.length];exact hne
 refine wpAny_bind (wpAny_tryCatch (W.item 0 _ _ _ (by simpa using hlt) ⟨⟨_,gI,rfl,rfl⟩,(hL.keeps keep).isList⟩ fun v1 h' tk' hP hst' hk'=>?_))
 have hv:its[0]? = some v1:=by simpa using hP
 obtain⟨x1,hx1⟩:∃x,xs[0]? = some x:=⟨_,Uai hne⟩
 obtain⟨v',hv',rv1⟩:=rx.get hx1
 rw[hv] at hv';cases hv'
 have h1:=h0.turned (tk:=tk') hk' hst'.1
 show wpAny _ X.A.in1 (tryCatch (holding [v1] (PySem.call (.ref q) [v1])) _ >>= _) _ _ _
 refine wpAny_bind (wpAny_tryCatch (wpAny_holding (wpAny_mono (h1.call hk rv1 (turn 0 x1 H hx1 (Same.refl _))) (fun k1 s2 z=>?_) fun _ _ hF=>hF.elim)))
 obtain⟨y,H2,h2,ry,hS2,p1,rfl,hp1⟩:=z
 cases ry
 obtain⟨e2,oS2⟩:=h2.oS
 show wpAny _ X.A.in1 (updateSeq (s.heap.objs.size+1) (fun _=>#[v1,.ref p1]) >>= _) _ _ _
 refine wpAny_bind (wpAny_updateSeq oS2 rfl ?_)
 rw[hname]
 refine wpAny_pure ⟨plainId_quiet PySem.F.plain_min_loop _,zdF hh hu hlI hl hk turn ?_ _ 1 0 [v1,.ref p1] H2 _ rfl hne hS2 h2.store ⟨⟨x1,v1,_,p1,rfl,hx1,rv1,rfl,SqL.of hp1⟩,fun j hj=>?_⟩⟩
 ·intro b x v Hn sn hb rb hle hSn In
  exact⟨x,Hn,In,rb,fin b x Hn hb hle hSn⟩
 ·rw[show j=0 by omega];exact NB.yo _
end
end NP
namespace NP
open PySem
def VL (xs:Array Nat):Prop:=xs.toList.Pairwise (· < ·)
theorem zcV (xs:Array Nat) (j:Nat) (hr:VL xs):∀(fuel lo hi:Nat),hi-lo<=fuel->lo<=hi->hi<=xs.size->(∀k (h:k<xs.size),k<lo->xs[k]<j)->(∀k (h:k<xs.size),hi<=k->j<=xs[k]) →
  ∃r,SetTable.below.go xs j fuel lo hi=r/\r<=xs.size/\(∀k (h:k<xs.size),k<r->xs[k]<j)/\(∀k (h:k<xs.size),r<=k->j<=xs[k]):=by
 have mono:∀a b (ha:a<xs.size) (hb:b<xs.size),a<=b->xs[a]<=xs[b]:=fun a b ha hb h=>by
  rcases Nat.lt_or_eq_of_le h with h | h
  ·have:=Ucj.mp hr a b (by simpa using ha) (by simpa using hb) h
   simpa using Ubk this
  ·subst h;exact Uag _
 intro fuel
 induction fuel with
 | zero=>
  intro lo hi hf hle hs h1 h2
  have:lo=hi:=by omega
  subst this
  exact⟨lo,rfl,hs,h1,h2⟩
 | succ fuel ih=>
  intro lo hi hf hle hs h1 h2
  unfold SetTable.below.go
  by_cases hlt:lo<hi
  ·rw[if_pos hlt]
   dsimp only
   have hm:(lo+hi) / 2<xs.size:=by omega
   have hg:xs.getD ((lo+hi) / 2) j=xs[(lo+hi) / 2]:=by
    rw[Array.getD_eq_getD_getElem?,Ucv hm];rfl
   rw[hg]
   by_cases hc:xs[(lo+hi) / 2]<j
   ·rw[if_pos hc]
    exact ih _ _ (by omega) (by omega) hs (fun k hk hk2=>Ubp (mono k _ hk hm (by omega)) hc) h2
   ·rw[if_neg hc]
    exact ih _ _ (by omega) (by omega) (by omega) h1 (fun k hk hk2=>Ubb (by omega) (mono _ k hm hk (by omega)))
  ·rw[if_neg hlt]
   have:lo=hi:=by omega
   subst this
   exact⟨lo,rfl,hs,h1,h2⟩
theorem WU {xs:Array Nat} (j:Nat) (hr:VL xs):SetTable.below xs j<=xs.size/\(∀k (h:k<xs.size),k<SetTable.below xs j->xs[k]<j)/\(∀k (h:k<xs.size),SetTable.below xs j<=k->j<=xs[k]):=by
 obtain⟨r,e,h⟩:=zcV xs j hr xs.size 0 xs.size (by omega) (Uax _) (Uag _) (fun k _ h=>absurd h (Nat.not_lt_zero _)) (fun k h h'=>absurd h (by omega))
 have:SetTable.below xs j=r:=e
 rw[this];exact h
theorem VO {xs:Array Nat}{j:Nat} (hr:VL xs) (hn:xs[SetTable.below xs j]?≠some j):VL (SetTable.insertAt xs (SetTable.below xs j) j):=by
 obtain⟨h0,h1,h2⟩:=WU j hr
 unfold VL
 rw[SetTable.toList_insertAt]
 have hpw:(xs.toList.take (SetTable.below xs j)++xs.toList.drop (SetTable.below xs j)).Pairwise (· < ·):=by rw[List.take_append_drop];exact hr
 rw[List.pairwise_append] at hpw
 have lt1:∀a∈xs.toList.take (SetTable.below xs j),a<j:=fun a ha=>by
  obtain⟨k,hk,rfl⟩:=List.mem_iff_getElem.mp ha
  rw[Ubl] at hk
  simp only[List.getElem_take]
  have:=h1 k (by simp at hk;omega) (by omega)
  simpa using this
 have lt2:∀a∈xs.toList.drop (SetTable.below xs j),j<a:=fun a ha=>by
  obtain⟨k,hk,rfl⟩:=List.mem_iff_getElem.mp ha
  rw[Uby] at hk
  simp only[List.getElem_drop]
  have hk':SetTable.below xs j+k<xs.size:=by simp at hk;omega
  have hle:=h2 (SetTable.below xs j+k) hk' (by omega)
  have hne:xs[SetTable.below xs j+k]≠j:=by
   intro e
   rcases Nat.eq_zero_or_pos k with hk0 | hk0
   ·subst hk0
    exact hn (by rw[Ucv (by omega)];simpa using e)
   ·have hlt:=Ucj.mp hr (SetTable.below xs j) (SetTable.below xs j+k) (by simp;omega) (by simp;omega) (by omega)
    have hle0:=h2 (SetTable.below xs j) (by omega) (Uag _)
    simp at hlt
    omega
  have:xs.toList[SetTable.below xs j+k]=xs[SetTable.below xs j+k]:=by simp
  omega
 rw[List.pairwise_append]
 refine⟨hpw.1,Uao.mpr ⟨lt2,hpw.2.1⟩,fun a ha b hb=>?_⟩
 rcases Uaf.mp hb with rfl | hb
 ·exact lt1 a ha
 ·have:=lt1 a ha;have:=lt2 b hb;omega
theorem kH (n:Nat):VL (Array.range n):=by
 unfold VL
 rw[Array.toList_range]
 exact List.pairwise_lt_range
theorem QH {t:SetTable}{j:Nat} (h:t.slot j=.empty\/t.slot j=.dummy):t.place[SetTable.below t.place j]?≠some j:=by
 intro e
 unfold SetTable.slot at h
 dsimp only at h
 rw[if_pos (by rw[e];simp)] at h
 rcases h with h | h <;> cases h
theorem J5 {t:SetTable}{ha:Nat->Int}{h:Int}:∀(fuel:Nat) (p:SetTable.Probe) (j:Nat) (dm:Option Nat),SetTable.probe.go t ha h fuel p=some (.empty j dm)->(t.slot j=.empty)/\∀d,dm=some d->p.dummy=some d\/t.slot d=.dummy
 | 0,p,j,dm,e=>by simp [SetTable.probe.go] at e
 | fuel+1,p,j,dm,e=>by
  unfold SetTable.probe.go at e
  have adv:∀q:SetTable.Probe,(t.advance q).dummy=q.dummy:=fun q=>by
   unfold SetTable.advance;split <;> rfl
  cases hs:t.slot p.j with
  | empty=>
   rw[hs] at e
   dsimp only at e
   injection e with e
   injection e with e1 e2
   subst e1 e2
   exact⟨hs,fun d hd=>.inl hd⟩
  | dummy=>
   rw[hs] at e
   dsimp only at e
   obtain⟨h1,h2⟩:=J5 fuel _ j dm e
   refine⟨h1,fun d hd=>?_⟩
   rcases h2 d hd with h3 | h3
   ·rw[adv] at h3
    injection h3 with h3
    subst h3
    exact .inr hs
   ·exact .inr h3
  | live i=>
   rw[hs] at e
   dsimp only at e
   by_cases hc:(ha i == h)=true
   ·rw[if_pos hc] at e;cases e
   ·rw[if_neg hc] at e
    obtain⟨h1,h2⟩:=J5 fuel _ j dm e
    refine⟨h1,fun d hd=>?_⟩
    rcases h2 d hd with h3 | h3
    ·rw[adv] at h3;exact .inl h3
    ·exact .inr h3
theorem zb7 {t:SetTable}{h:Int}{s:Nat}{d:Bool} (e:t.freeSlot h=some (s,d)):t.place[SetTable.below t.place s]?≠some s:=by
 unfold SetTable.freeSlot at e
 split at e
 ·rename_i j dm hp
  injection e with e
  injection e with e1 _
  unfold SetTable.probe at hp
  obtain⟨h1,h2⟩:=J5 _ _ j dm hp
  cases dm with
  | none=>exact QH (.inl (by rw[←e1];exact h1))
  | some d=>
   rcases h2 d rfl with h3 | h3
   ·cases h3
   ·exact QH (.inr (by rw[←e1];exact h3))
 ·cases e
theorem VT {t:SetTable} (hr:VL t.place) (es:Array (Int×Value)) (h:Int) (x:Value):VL (layNew t es h x).2.1.place/\(layNew t es h x).2.1.led=t.led:=by
 unfold layNew
 cases e:t.freeSlot h with
 | none=>exact⟨kH _,rfl⟩
 | some p=>
  obtain⟨s,d⟩:=p
  dsimp only
  unfold SetTable.orStandIn
  split
  ·exact⟨VO hr (zb7 e),rfl⟩
  ·exact⟨kH _,rfl⟩
theorem Qy (t:SetTable) (hr:VL t.place) (es:Array (Int×Value)) (n:Nat):VL (relayAll t es n).2.1.place/\(relayAll t es n).2.1.led=t.led:=by
 unfold relayAll
 cases e:t.relaid (es.map (·.1)) n with
 | none=>exact⟨kH _,rfl⟩
 | some p=>
  obtain⟨t',o⟩:=p
  dsimp only
  split
  ·unfold SetTable.relaid SetTable.laid at e
   cases e2:SetTable.layClean (SetTable.sizeAbove n-1) (es.map (·.1)) with
   | none=>rw[e2] at e;cases e
   | some owner=>
    rw[e2] at e
    simp only[Option.bind_eq_bind,Option.bind_some,Option.pure_def,Option.some.injEq,Prod.mk.injEq] at e
    obtain⟨rfl,_⟩:=e
    refine⟨?_,rfl⟩
    unfold VL
    simp only[List.toList_toArray]
    have hp:((List.range (SetTable.sizeAbove n-1+1)).filterMap fun j=>(owner.getD j none).map (j,·)).Pairwise fun a b=>a.1<b.1:=by
     refine List.Pairwise.filterMap _ ?_ (List.pairwise_lt_range (n:=SetTable.sizeAbove n-1+1))
     intro a b hab x hx y hy
     cases h1:owner.getD a none with
     | none=>rw[h1] at hx;cases hx
     | some u=>
      cases h2:owner.getD b none with
      | none=>rw[h2] at hy;cases hy
      | some v=>
       rw[h1] at hx;rw[h2] at hy
       cases hx;cases hy
       exact hab
    exact List.pairwise_map.mpr hp
  ·exact⟨kH _,rfl⟩
end NP
namespace NP
open PySem PySem.Spec PyProof.Rows L2
section
variable {X:Cx}{pins:List (Addr×Obj)}{σ:L2.St}
theorem zcL {A':Around}{H:Hp}{s:Shared}{k:Nat}{f:Addr}{fd:FuncData}{ps:List Str}{sp:Sp}{Q:VK}{us:List Value}{vs:List V} (F:Z1 X.prog X.w X.K X.mg X.base CX0 k f fd ps sp) (hr:Room k A') (he:zbe X.prog X.w X.K X.mg X.base A' X.stack s H) (hb:qg X.K fd ps [])
  (I:Inv X pins σ H s) (r:ym vs us) (h:sp vs H Q E0):codeAny (model X.prog X.w) A' (.call (.ref f) ⟨us,[]⟩) (fun rr s'=>match rr with | .ok (.ret u)=>EP X pins σ Q u s' | _=>False) s:=by
 have hl:us.length=ps.length:=by rw[←r.length];exact F.len _ _ _ _ h
 have hb':=hb s us I.kIn (by rw[Ubo];exact hl)
 rw[Ubo] at hb'
 refine codeAny_mono (F.run A' X.stack s H ⟨us,[]⟩ us vs Q E0 hr he hb' r h) fun r s' hq=>?_
 cases r with
 | error e=>exact False.elim hq
 | ok fl=>
  cases fl with
  | ret u=>exact I.after hq
  | next=>exact False.elim hq
  | brk=>exact False.elim hq
  | cont=>exact False.elim hq
theorem Zf {A':Around}{f v:Value}{Q:Value->Shared->Prop}{E:Value->Shared->Prop}{s:Shared} (h:codeAny (model X.prog X.w) A' (.call f ⟨[v],[]⟩) (fun rr s'=>match rr with | .ok (.ret u)=>Q u s' | _=>False) s):wpAny (model X.prog X.w) A' (PySem.call f [v]) Q E s:=by
 refine wpAny_call (codeAny_mono h fun r s' hq=>?_)
 cases r with
 | error e=>exact False.elim hq
 | ok fl=>
  cases fl with
  | ret u=>exact hq
  | next=>exact False.elim hq
  | brk=>exact False.elim hq
  | cont=>exact False.elim hq
theorem zeK {k:Nat}{f:Addr}{fd:FuncData}{ps:List Str}{sp:Sp} (F:Z1 X.prog X.w X.K X.mg X.base CX0 k f fd ps sp) (hr:Room (k+2) X.A) (hb:qg X.K fd ps []):zgi X (.ref f) fun x H Q=>sp [x] H Q E0:=
 fun pins s σ H x v Q I rx h=>Zf (zcL F hr.in1.in1 I.env0.in1.in1 hb I (.cons rx .nil) h)
theorem zdh {k:Nat}{f:Addr}{fd:FuncData}{ps:List Str}{sp:Sp}{a q:Addr} (F:Z1 X.prog X.w X.K X.mg X.base CX0 k f fd ps sp) (hr:Room (k+2) X.A) (hb:qg X.K fd ps []):zgi X (.ref q) fun x H Q=>H q=some (.met f a)/\sp [.ref a,x] H Q E0:=
 fun pins s σ H x v Q I rx h=>Zf (PySem.W.method_call (I.hok _ _ h.1) (zcL (us:=[.ref a,v]) (vs:=[.ref a,x]) F hr.in1.in1 I.env0.in1.in1 hb I (.cons rfl (.cons rx .nil)) h.2))
theorem zdn {k:Nat}{f:Addr}{fd:FuncData}{ps:List Str}{sp:Sp}{a q:Addr} (F:Z1 X.prog X.w X.K X.mg X.base CX0 k f fd ps sp) (hr:Room (k+2) X.A) (hb:qg X.K fd ps []):zha X (.ref q) fun x H Q=>H q=some (.met f a)/\sp [.ref a,x] H Q E0:=
 fun pins s σ H x v Q I rx h=>Zf (PySem.W.method_call (I.hok _ _ h.1) (zcL (us:=[.ref a,v]) (vs:=[.ref a,x]) F (hr.mono (Nat.le_succ _):Room (k+1) X.A).in1 I.env0.in1 hb I (.cons rfl (.cons rx .nil)) h.2))
end
def zc9 (κ:Nat->List Int) (H:Hp) (i:Nat) (ks:List V) (H1:Hp):Prop:=Same H H1/\ks.length=i/\∀j,j<i->∃p,ks[j]? = some (.ref p)/\H1 p=some (.tup ((κ j).map V.int))
def zdP (κ:Nat->List Int) (H:Hp) (i:Nat) (ks:List V) (H1:Hp):Prop:=Same H H1/\ks.length=i/\∀j,j<i->∃p,ks[j]? = some (.ref p)/\H1 p=some (.lst ((κ j).map V.int))
theorem za2 {xs:List V}:∀{us:List Value}{i:Nat}{x:V},ym xs us->xs[i]? = some x->∃u,us[i]? = some u/\yx x u:=by
 intro us i x r h
 induction r generalizing i with
 | nil=>simp at h
 | cons a b ih=>
  cases i with
  | zero=>exact⟨_,rfl,by simp at h;exact h▸a⟩
  | succ i=>simpa using ih (by simpa using h)
theorem zcr {us:List Value}{i:Nat}{u:Value} (h:us[i]? = some u):us.getD i .none=u:=by rw[Ual,h];rfl
section
variable {X:Cx}{pins:List (Addr×Obj)}{σ:L2.St}
def zf5 (f:Addr) (sp:Sp):List V->List V->Hp->VK->Prop:=fun xs zs H Q=>∃(l:Addr) (ys:List V) (κ:Nat->List Int),xs=[.ref l]/\zs=[.ref f]/\H l=some (.lst ys)/\(∀i,κ i≠[]) ∧
 (∀i y H1 (Q1:VK),ys[i]? = some y->Same H H1->(∀p H2,Same H1 H2->H2 p=some (.tup ((κ i).map V.int))->Q1 (.ref p) H2)->sp [y] H1 Q1 E0) ∧
 ∀(idx:List Nat) (D:Addr) (Hn:Hp),Same H Hn->idx.Perm (List.range ys.length)->idx.Pairwise (fun i j=>Vbnlae.less (κ j) (κ i)=false)->Hn D=none->Q (.ref D) (upd Hn D (.lst (idx.map fun i=>ys.getD i .non)))
theorem Kh {ks:List V}{i:Nat}{y:V}{P:Nat->V->Prop} (hl:ks.length=i) (h:∀j,j<i->∃x,ks[j]? = some x/\P j x) (hy:P i y):(ks++[y]).length=i+1/\∀j,j<i+1->∃x,(ks++[y])[j]? = some x/\P j x:=by
 refine⟨by simp [hl],fun j hj=>?_⟩
 by_cases e:j=i
 ·subst e
  refine⟨y,?_,hy⟩
  rw[←hl];simp
 ·obtain⟨x,hx,hp⟩:=h j (by omega)
  exact⟨x,by rw[List.getElem?_append_left (by omega)];exact hx,hp⟩
theorem zc9.snoc {κ:Nat->List Int}{H H1 H2:Hp}{i:Nat}{ks:List V}{p:Addr} (h:zc9 κ H i ks H1) (s:Same H1 H2) (hp:H2 p=some (.tup ((κ i).map V.int))):zc9 κ H (i+1) (ks++[.ref p]) H2:=by
 obtain⟨s1,hl,hk⟩:=h
 obtain⟨a,b⟩:=Kh (y:=.ref p) (P:=fun j x=>∃p,x=.ref p/\H2 p=some (.tup ((κ j).map V.int))) hl (fun j hj=>let ⟨p,e,z⟩:=hk j hj;⟨_,e,p,rfl,s _ _ z⟩) ⟨p,rfl,hp⟩
 exact⟨s1.trans s,a,fun j hj=>let ⟨x,e,p,z,w⟩:=b j hj;⟨p,z▸e,w⟩⟩
theorem zdP.snoc {κ:Nat->List Int}{H H1 H2:Hp}{i:Nat}{ks:List V}{p:Addr} (h:zdP κ H i ks H1) (s:Same H1 H2) (hp:H2 p=some (.lst ((κ i).map V.int))):zdP κ H (i+1) (ks++[.ref p]) H2:=by
 obtain⟨s1,hl,hk⟩:=h
 obtain⟨a,b⟩:=Kh (y:=.ref p) (P:=fun j x=>∃p,x=.ref p/\H2 p=some (.lst ((κ j).map V.int))) hl (fun j hj=>let ⟨p,e,z⟩:=hk j hj;⟨_,e,p,rfl,s _ _ z⟩) ⟨p,rfl,hp⟩
 exact⟨s1.trans s,a,fun j hj=>let ⟨x,e,p,z,w⟩:=b j hj;⟨p,z▸e,w⟩⟩
theorem zbc {k:Nat}{f:Addr}{fd:FuncData}{ps:List Str}{sp:Sp} (F:Z1 X.prog X.w X.K X.mg X.base CX0 k f fd ps sp) (hr:Room (k+2) X.A) (hb:qg X.K fd ps []):V9 X "sorted" [Str.ofString "key"] (zf5 f sp):=by
 intro pins s σ H xs zs us ws Q I rx rz h
 obtain⟨l,ys,κ,rfl,rfl,hl,hne,turn,fin⟩:=h
 obtain⟨u,rfl,ru⟩:=wo rx
 obtain⟨w,rfl,rw⟩:=wo rz
 cases ru
 cases rw
 refine Jt I (SqL.of hl) (zeK F hr hb) (zc9 κ H) ⟨Same.refl H,rfl,fun j hj=>absurd hj (Nat.not_lt_zero _)⟩ (fun i x ks H1 hx hJ=>turn i x H1 _ hx hJ.1 fun p H2 s2 hp=>hJ.snoc s2 hp) κ (fun ks us its Hn sn pins' hJ I' rk rx' hu=>?_) fun ks Hn idx D hJ p pw hD=>fin idx D Hn hJ.1 p pw hD
 refine zcC hu fun i hi=>?_
 have hi':i<ys.length:=by rw[rx'.length];exact hi
 obtain⟨p,e,hp⟩:=hJ.2.2 i hi'
 obtain⟨u,eu,ru⟩:=za2 rk e
 cases ru
 obtain⟨its2,r2,hT,_⟩:=I'.tuple (SqT.of hp)
 obtain⟨o,ho,hc,n,hd⟩:=hT
 exact⟨p,o,_,n,zcr eu,ho,hc,hd,kL r2,hne i⟩
def zgE (S:Addr->Prop) (f:Addr) (sp:Sp):List V->List V->Hp->VK->Prop:=fun xs zs H Q=>∃(l q a:Addr) (ys:List V) (κ:Nat->List Int),xs=[.ref l]/\zs=[.ref q]/\H q=some (.met f a)/\H l=some (.lst ys) ∧
 (∀i y H1 (Q1:VK),ys[i]? = some y->Same H H1->(∀p H2,Same H1 H2->H2 p=some (.lst ((κ i).map V.int))->Q1 (.ref p) H2)->sp [.ref a,y] H1 Q1 E0) ∧
 ∀(idx:List Nat) (D:Addr) (Hn:Hp),Same H Hn->idx.Perm (List.range ys.length)->idx.Pairwise (fun i j=>Vbnlae.less (κ j) (κ i)=false)->Hn D=none->Q (.ref D) (upd Hn D (.lst (idx.map fun i=>ys.getD i .non)))
theorem zdM {S:Addr->Prop}{k:Nat}{f:Addr}{fd:FuncData}{ps:List Str}{sp:Sp} (F:Z1 X.prog X.w X.K X.mg X.base CX0 k f fd ps sp) (hr:Room (k+2) X.A) (hb:qg X.K fd ps []):V9 X "sorted" [Str.ofString "key"] (zgE S f sp):=by
 intro pins s σ H xs zs us ws Q I rx rz h
 obtain⟨l,q,a,ys,κ,rfl,rfl,hq,hl,turn,fin⟩:=h
 obtain⟨u,rfl,ru⟩:=wo rx
 obtain⟨w,rfl,rw⟩:=wo rz
 cases ru
 cases rw
 refine Jt I (SqL.of hl) (zdh (a:=a) F hr hb) (zdP κ H) ⟨Same.refl H,rfl,fun j hj=>absurd hj (Nat.not_lt_zero _)⟩ (fun i x ks H1 hx hJ=>⟨hJ.1 _ _ hq,turn i x H1 _ hx hJ.1 fun p H2 s2 hp=>hJ.snoc s2 hp⟩) κ (fun ks us its Hn sn pins' hJ I' rk rx' hu=>?_) fun ks Hn idx D hJ p pw hD=>fin idx D Hn hJ.1 p pw hD
 refine zaq (hr.in1.in1.units0) hu fun i hi=>?_
 have hi':i<ys.length:=by rw[rx'.length];exact hi
 obtain⟨p,e,hp⟩:=hJ.2.2 i hi'
 obtain⟨u,eu,ru⟩:=za2 rk e
 cases ru
 obtain⟨_,its2,n,r2,_,ho⟩:=I'.lstM hp
 exact⟨p,_,n,zcr eu,ho,kL r2⟩
def zh9 (f:Addr) (sp:Sp):List V->List V->Hp->VK->Prop:=fun xs zs H Q=>∃(l q a:Addr) (ys:List V) (κ:Nat->List Int),xs=[.ref l]/\zs=[.ref q]/\H q=some (.met f a)/\H l=some (.lst ys)/\0<ys.length ∧
 (∀i y H1 (Q1:VK),ys[i]? = some y->Same H H1->(∀p H2,Same H1 H2->H2 p=some (.lst ((κ i).map V.int))->Q1 (.ref p) H2)->sp [.ref a,y] H1 Q1 E0) ∧
 ∀(b:Nat) (x:V) (Hn:Hp),ys[b]? = some x->(∀j,j<ys.length->Vbnlae.less (κ j) (κ b)=false)->Same H Hn->Q x Hn
theorem zfd {k:Nat}{f:Addr}{fd:FuncData}{ps:List Str}{sp:Sp} (F:Z1 X.prog X.w X.K X.mg X.base CX0 k f fd ps sp) (hr:Room (k+2) X.A) (hb:qg X.K fd ps []):V9 X "min" [Str.ofString "key"] (zh9 f sp):=by
 intro pins s σ H xs zs us ws Q I rx rz h
 obtain⟨l,q,a,ys,κ,rfl,rfl,hq,hl,hne,turn,fin⟩:=h
 obtain⟨u,rfl,ru⟩:=wo rx
 obtain⟨w,rfl,rw⟩:=wo rz
 cases ru
 cases rw
 exact zeG I hr.hd hr.in1.units0 (SqL.of hl) hne (zdn (a:=a) F hr hb) (fun i x H1 hx s1=>⟨s1 _ _ hq,turn i x H1 _ hx s1 fun p H2 s2 hp=>⟨s2,p,rfl,hp⟩⟩) fin
theorem xx {K:PySem.W.Frag}{H:Hp}:∀ns:List Int,DpAll K H (ns.map V.int) (ns.map PyData.int)
 | []=>.nil
 | n::ns=>.cons (.int n) (xx ns)
theorem qi:∀ns ms:List Int,PyData.eqvAll (ns.map PyData.int) (ms.map PyData.int)=decide (ns=ms)
 | [],[]=>rfl
 | [],_::_=>rfl
 | _::_,[]=>rfl
 | n::ns,m::ms=>by
  show (PyData.eqv (.int n) (.int m)&&PyData.eqvAll (ns.map PyData.int) (ms.map PyData.int))=_
  rw[qi ns ms]
  show ((n == m)&&_)=_
  by_cases h1:n=m <;> by_cases h2:ns=ms <;> simp [h1,h2]
theorem J3:∀ns:List Int,PyData.canLayAll0 (ns.map PyData.int)=true
 | []=>rfl
 | n::ns=>by
  show (PyData.canLay0 (.int n)&&PyData.canLayAll0 (ns.map PyData.int))=true
  rw[J3 ns]
  rfl
theorem Zs:∀ns:List Int,PyData.depthAll (ns.map PyData.int)=0
 | []=>rfl
 | n::ns=>by
  show max (PyData.depth (.int n)) (PyData.depthAll (ns.map PyData.int))=0
  rw[Zs ns]
  rfl
theorem YH (ns:List Int):SeqAt.shaped (.list (ns.map PyData.int))=true:=by
 show (PyData.canLayAll0 (ns.map PyData.int)&&decide (PyData.depthAll (ns.map PyData.int)+1<=64))=true
 rw[J3,Zs]
 rfl
theorem kQ (ns:List Int):SeqAt.shaped (.tuple (ns.map PyData.int))=true:=by
 show (PyData.canLayAll0 (ns.map PyData.int)&&decide (PyData.depthAll (ns.map PyData.int)+1<=64))=true
 rw[J3,Zs]
 rfl
def zin (K:PySem.W.Frag):R2:=fun x y H Q=>∃(a b:Addr) (ns ms:List Int),x=.ref a/\y=.ref b/\SqL K H a (ns.map V.int)/\SqL K H b (ms.map V.int)/\Q (.bl (decide (ns=ms))) H
def ziA (K:PySem.W.Frag):R2:=fun x y H Q=>∃(a b:Addr) (ns ms:List Int),x=.ref a/\y=.ref b/\SqT K H a (ns.map V.int)/\SqT K H b (ms.map V.int)/\Q (.bl (decide (ns=ms))) H
def zim (K:PySem.W.Frag):R2:=fun x y H Q=>∃(a b:Addr) (ns ms:List Int),x=.ref a/\y=.ref b/\SqT K H a (ns.map V.int)/\SqT K H b (ms.map V.int)/\Q (.bl (!decide (ns=ms))) H
theorem zfP {k:Nat} (hr:Room k X.A):OpR X (compareOp .Eq) (zin X.K):=by
 intro pins s σ H x y v u Q I rx ry h
 obtain⟨a,b,ns,ms,rfl,rfl,ha,hb,q⟩:=h
 rw[←qi] at q
 exact zdV hr.units pins s σ H _ _ v u Q I rx ry ⟨_,_,.lst ha (xx ns),.lst hb (xx ms),YH ns,YH ms,q⟩
theorem zgg {k:Nat} (hr:Room k X.A):OpR X (compareOp .Eq) (ziA X.K):=by
 intro pins s σ H x y v u Q I rx ry h
 obtain⟨a,b,ns,ms,rfl,rfl,ha,hb,q⟩:=h
 rw[←qi] at q
 exact zdV hr.units pins s σ H _ _ v u Q I rx ry ⟨_,_,.tup ha (xx ns),.tup hb (xx ms),kQ ns,kQ ms,q⟩
theorem zfR {k:Nat} (hr:Room k X.A):OpR X (compareOp .NotEq) (zim X.K):=by
 intro pins s σ H x y v u Q I rx ry h
 obtain⟨a,b,ns,ms,rfl,rfl,ha,hb,q⟩:=h
 rw[←qi] at q
 exact zfL hr.units pins s σ H _ _ v u Q I rx ry ⟨_,_,.tup ha (xx ns),.tup hb (xx ms),kQ ns,kQ ms,q⟩
end
def VwO (r d:Addr):HO:=.ext fun h=>h.IsValuesView r d
def KwO (r d:Addr):HO:=.ext fun h=>PySem.W.KdlKeysView h r d
def zhZ (ob:Addr->Addr->HO) (td:TE):TE:=fun σ H Q=>td σ H fun x H1=>∃d kvs,x=.ref d/\Rd H1 d (.dK kvs)/\∀r,H1 r=none->Q (.ref r) (upd H1 r (ob r d))
section
variable {X:Cx}{e:Expr}{td:TE}{apos cpos:Pos}
theorem Yp (he:PE X e td) (hbase:attributeBase e "values" X.env (eval e X.env)=eval e X.env:=by rfl) (hline:(apos.endLine == cpos.line)=true:=by rfl):PE X (.Call (.Attribute e "values" apos) [] [] cpos) (zhZ VwO td):=by
 intro pins s σ H Q I h
 refine wpAny_Call_method (T:="dict") (id:="dict.values") hbase rfl hline F.plainAttrs_dict F.slot_dict_values F.type_dict_values (thn (he pins s σ H _ I h) fun u s1 ⟨x,H1,I1,rx,d,kvs,ex,hd,q⟩=>?_)
 subst ex
 obtain rfl:u=Value.ref d:=rx
 obtain⟨hz,hs,vs,kv,hm⟩:=Zn I1.hok hd
 refine⟨hm.typeIs,hm.mapOf.noDict,?_⟩
 have fin:EP X pins σ Q (.ref s1.heap.objs.size) { s1 with heap:=s1.heap.push { cls:=.type "dict_values",data:=.fields #[.ref d] } }:=by
  refine⟨.ref s1.heap.objs.size,_,I1.laid (t':=s1.toks) (o:=VwO s1.heap.objs.size d) (fun b u q=>Heap.get?_push_of_some _ q) (Uag _) ⟨⟨_,Heap.get?_push_size _ rfl,rfl,rfl⟩,⟨_,Heap.get?_push_size _ rfl⟩,?_⟩,rfl,q _ (I1.hok.fresh (Uag _))⟩
  rintro h1 h2 ⟨o,ho,x⟩ k
  exact⟨o,k o ho,x⟩
 show wpAny _ _ (callWith cpos (.builtin "dict.values") [.ref d] [] []) _ X.xe s1
 exact method_meetsIn F.slot_dict_values F.entry_dict_values rfl (PySem.evalArgs_none ⟨rfl,hm.typeIs,F.args_dict_values_1 _,_,meets_dict_values (zI X.prog X.w) d hs,⟨vs,hm⟩,fin⟩)
theorem VZ (he:PE X e td) (hbase:attributeBase e "keys" X.env (eval e X.env)=eval e X.env:=by rfl) (hline:(apos.endLine == cpos.line)=true:=by rfl):PE X (.Call (.Attribute e "keys" apos) [] [] cpos) (zhZ KwO td):=by
 intro pins s σ H Q I h
 refine wpAny_Call_method (T:="dict") (id:="dict.keys") hbase rfl hline F.plainAttrs_dict F.slot_dict_keys F.type_dict_keys (thn (he pins s σ H _ I h) fun u s1 ⟨x,H1,I1,rx,d,kvs,ex,hd,q⟩=>?_)
 subst ex
 obtain rfl:u=Value.ref d:=rx
 obtain⟨hz,hs,vs,kv,hm⟩:=Zn I1.hok hd
 refine⟨hm.typeIs,hm.mapOf.noDict,?_⟩
 have fin:EP X pins σ Q (.ref s1.heap.objs.size) { s1 with heap:=s1.heap.push { cls:=.type "dict_keys",data:=.fields #[.ref d] } }:=by
  refine⟨.ref s1.heap.objs.size,_,I1.laid (t':=s1.toks) (o:=KwO s1.heap.objs.size d) (fun b u q=>Heap.get?_push_of_some _ q) (Uag _) ⟨⟨_,Heap.get?_push_size _ rfl,rfl,rfl⟩,⟨_,Heap.get?_push_size _ rfl⟩,?_⟩,rfl,q _ (I1.hok.fresh (Uag _))⟩
  rintro h1 h2 ⟨o,ho,x⟩ k
  exact⟨o,k o ho,x⟩
 show wpAny _ _ (callWith cpos (.builtin "dict.keys") [.ref d] [] []) _ X.xe s1
 exact method_meetsIn F.slot_dict_keys F.entry_dict_keys rfl (PySem.evalArgs_none ⟨rfl,hm.typeIs,F.args_dict_keys_1 _,_,PySem.W.kdl_meets_keys (zI X.prog X.w) d hs,⟨vs,hm⟩,fin⟩)
end
section
variable {X:Cx}
theorem zfp {kvs:List (Key×V)}:∀{vs:List (Key×Value)}{us:List Value},KV kvs vs->us=vs.map (·.2)->ym (kvs.map (·.2)) us:=by
 intro vs us r e
 subst e
 induction r with
 | nil=>exact .nil
 | cons a b ih=>exact .cons a.2 ih
theorem zff:∀{kvs:List (Key×V)}{vs:List (Key×Value)}{ns:List Int}{us:List Value}{P:Program}{w:World},KV kvs vs->kvs.map (·.1)=ns.map Sum.inl->us.length=vs.length->(∀(j:Nat) (v:Value),us[j]? = some v->∃(k:Key) (x:Value),vs[j]? = some (k,x)/\(zI P w).is k v=true)->IntsAre us ns:=by
 intro kvs vs ns us P w r e hl h
 induction r generalizing ns us with
 | nil=>
  cases ns with
  | nil=>
   cases us with
   | nil=>exact .nil
   | cons _ _=>simp at hl
  | cons _ _=>simp at e
 | @cons p q ps qs a b ih=>
  cases ns with
  | nil=>simp at e
  | cons n ns=>
   cases us with
   | nil=>simp at hl
   | cons u us=>
    simp only[Uas,List.cons.injEq] at e
    obtain⟨k,x,e1,hk⟩:=h 0 u rfl
    simp only[List.getElem?_cons_zero,Option.some.injEq] at e1
    have ek:k=Sum.inl n:=by
     rw[←e.1,a.1,e1]
    subst ek
    obtain⟨t,rfl⟩:∃t,u=Value.int n t:=by
     rcases yj (show VP (.inl n) u=true from hk) with ⟨i,t,e1,e2⟩ | ⟨x,t,e1,e2⟩
     ·cases e1
      exact⟨t,e2⟩
     ·cases e1
    exact .cons n t (ih e.2 (by simpa using hl) fun j v hv=>by simpa using h (j+1) v (by simpa using hv))
theorem wV (hc:X.calm=true):kY X (.type "list") (fun xs H Q=>∃(r d:Addr) (kvs:List (Key×V)),xs=[.ref r]/\H r=some (VwO r d)/\Rd H d (.dK kvs)/\∀l,H l=none->Q (.ref l) (upd H l (.lst (kvs.map (·.2))))):=by
 intro pins s σ H xs us Q I r h
 obtain⟨r',d,kvs,rfl,hr,hd,q⟩:=h
 obtain⟨u,rfl,rx⟩:=wo r
 cases rx
 obtain⟨hz,hs,vs,kv,hm⟩:=Zn I.hok hd
 have hv:s.heap.IsValuesView r' d:=(I.hok _ _ hr).1
 obtain⟨o,es,ep,hm⟩:=hm
 have hl:kvs.length=vs.length:=Paired.length kv
 refine PySem.W.kdl_call (PySem.W.kdl_values (knd:=zI X.prog X.w) (kvs:=vs) (ep:=ep) (r:=r') (d:=d)) (I.ok.hd hc) ⟨hv,o,es,hm⟩ (by omega) fun h' tk acc c hk hD hacc=>?_
 have e:=PySem.W.kdl_vals_eq (kvs:=vs) acc.toList (by rw[Ube];exact hacc.1) fun j v e=>hacc.2 j v (by rw[←Ubr];exact e)
 exact⟨.ref s.heap.objs.size,_,I.laid (t':=tk) (o:=.lst (kvs.map (·.2))) hk (Uag _) ⟨by rw[Uaa];exact hz,acc.toList,c,zfp kv e,by rw[Array.toArray_toList];exact hD⟩,rfl,q _ (I.hok.fresh (Uag _))⟩
theorem qG (hc:X.calm=true):kY X (.builtin "sorted") (fun xs H Q=>∃(r d:Addr) (kvs:List (Key×V)) (ns:List Int),xs=[.ref r]/\H r=some (KwO r d)/\Rd H d (.dK kvs)/\kvs.map (·.1)=ns.map Sum.inl/\ns.length<64 ∧
  ∀(l:Addr) (ms:List Int),H l=none->ms.Perm ns->ms.Pairwise (·<=·)->Q (.ref l) (upd H l (.lst (ms.map V.int)))):=by
 intro pins s σ H xs us Q I r h
 obtain⟨r',d,kvs,ns,rfl,hr,hd,hns,h64,q⟩:=h
 obtain⟨u,rfl,rx⟩:=wo r
 cases rx
 obtain⟨hz,hs,vs,kv,hm⟩:=Zn I.hok hd
 have hv:PySem.W.KdlKeysView s.heap r' d:=(I.hok _ _ hr).1
 obtain⟨o,es,ep,hm⟩:=hm
 have hl:kvs.length=vs.length:=Paired.length kv
 refine PySem.Calls.call_function_entry kind_sorted plain_sorted entry_sorted (args_sorted1 _) ?_
 unfold Builtin.«sorted»
 refine wpAny_bind (m:=checkCount "sorted" 1 1 _) (wpAny_pure ?_)
 refine wpAny_bind (PySem.W.kdu_collect (A:=X.A.in1) (PySem.W.kdl_keys (knd:=zI X.prog X.w) (kvs:=vs) (ep:=ep) (r:=r') (d:=d)) (I.ok.hd hc) ⟨hv,o,es,hm⟩ (by omega) fun h' tk acc hk hacc=>?_)
 have hla:acc.toList.length=vs.length:=by rw[Ube];exact hacc.1
 refine wpAny_bind (wpAny_newList ?_ (by rw[hla];omega))
 have hi:IntsAre acc.toList ns:=zff kv hns hla fun j v e=>hacc.2 j v (by rw[←Ubr];exact e)
 have I1:Inv X pins σ H { s with heap:=h',toks:=tk }:=I.kept hk
 have hob:(h'.push { cls:=.type "list",data:=.seq acc.toList.toArray }).get? h'.objs.size=some { cls:=.type "list",data:=.seq acc.toList.toArray }:=Heap.get?_push_size _ rfl
 refine wpAny_bind (wpAny_holding (wpAny_call_entry PyProof.Rows.slot_list_sort ⟨_,hob,rfl⟩ PyProof.Rows.entry_list_sort
  (PyProof.Rows.list_sort_tree hob hi (by rw[hi.length];exact h64) fun out ns' h1 h2 h3=>⟨.none,rfl,?_⟩) (PyProof.Rows.args_list_sort _)))
 refine wpAny_pure ⟨_,rfl,?_⟩
 obtain⟨ep',he'⟩:=PyProof.Rows.sortedHeap_at (vs:=acc.toList) (out:=out) hob
 have hlen:(ns'.map V.int).length<=sizeLine:=by rw[Uaa,h2.length_eq];exact Vk h64
 refine⟨.ref h'.objs.size,upd H h'.objs.size (.lst (ns'.map V.int)),I1.laid (t':=tk) (fun b u hu=>?_) (Uag _) ⟨hlen,out.toList,ep',qX h1,he'⟩,rfl,q _ ns' (I1.hok.fresh (Uag _)) h2 h3⟩
 have hlt:=Heap.lt_size hu
 rw[PyProof.Rows.sortedHeap_old (Uba hlt) (by rw[size_push'];exact Ubv hlt),Heap.get?_push_ne _ _ _ (Uba hlt)]
 exact hu
end
end NP
namespace NP
open PySem PySem.Spec PyProof.Rows
def xj (w:World):Bool:=w.params.followText "set-order"
def zfG (prog:Program) (w:World) (es:Array (Int×Value)) (t:SetTable) (ms:List Int):Prop:=
 ElemsOf (intKind prog w) es.toList/\IntsAre (es.toList.map (·.2)) ms/\ms.Nodup/\es.size<scanBound/\t.fits es.size=true/\VL t.place/\(xj w=false->t.led=true)
def QB (prog:Program) (w:World) (h:Heap) (a:Addr) (ms:List Int):Prop:=∃o es ep t,h.get? a=some o/\o.ExactSet/\o.data=.set es ep t/\zfG prog w es t ms
theorem QB.keep {prog:Program}{w:World}{h h':Heap}{a:Addr}{ms:List Int} (x:QB prog w h a ms) (k:∀o,h.get? a=some o->h'.get? a=some o):QB prog w h' a ms:=let ⟨o,es,ep,t,ho,r⟩:=x;⟨o,es,ep,t,k o ho,r⟩
theorem YG {l l':List Value} (p:l.Perm l'):∀{ms:List Int},IntsAre l' ms->∃ms',IntsAre l ms'/\ms'.Perm ms:=by
 induction p with
 | nil=>intro ms h;exact⟨ms,h,.refl _⟩
 | cons x _ ih=>
  intro ms h
  cases h with
  | cons n t h=>
   obtain⟨ms',h1,h2⟩:=ih h
   exact⟨n::ms',.cons n t h1,h2.cons _⟩
 | swap x y l=>
  intro ms h
  cases h with
  | cons n t h=>
   cases h with
   | cons m u h=>exact⟨m::n::_,.cons m u (.cons n t h),.swap _ _ _⟩
 | trans _ _ ih1 ih2=>
  intro ms h
  obtain⟨m1,h1,p1⟩:=ih2 h
  obtain⟨m2,h2,p2⟩:=ih1 h1
  exact⟨m2,h2,p2.trans p1⟩
theorem zcF {l:List Value}{ms:List Int} (h:IntsAre l ms) (n:Int) (t:Tok):IntsAre (l++[.int n t]) (ms++[n]):=by
 induction h with
 | nil=>exact .cons n t .nil
 | cons m u _ ih=>exact .cons m u ih
theorem zdm {l:List Value}{ms:List Int} (h:IntsAre l ms) {k:Int}:k∈ms↔∃v∈l,∃t,v=.int k t:=by
 induction h with
 | nil=>simp
 | @cons n t vs ns _ ih=>
  constructor
  ·intro hk
   rcases Uaf.mp hk with rfl | hk
   ·exact⟨_,Uak,t,rfl⟩
   ·obtain⟨v,hv,e⟩:=ih.mp hk
    exact⟨v,Uad _ hv,e⟩
  ·rintro⟨v,hv,t',e⟩
   rcases Uaf.mp hv with rfl | hv
   ·cases e;exact Uak
   ·exact Uad _ (ih.mpr ⟨v,hv,t',e⟩)
theorem zfT {prog:Program}{w:World}{k:Int}{v:Value} (h:(intKind prog w).is k v=true):∃t,v=.int k t:=Value.isInt_shape h
section
variable {prog:Program}{w:World}{A:Around}{E:Value->Shared->Prop}{s:Shared}
theorem Jm {h:Heap}{a:Addr}{o:Obj}{es:Array (Int×Value)}{ep:Nat}{t:SetTable} (ho:h.get? a=some o) (hex:o.ExactSet) (hd:o.data=.set es ep t) {es':Array (Int×Value)}{t':SetTable}{ms:List Int} (D:zfG prog w es' t' ms) :
  (h.update a (Obj.putSet es' t')).get? a=some { o with data:=.set es' (ep+1) t' }/\QB prog w (h.update a (Obj.putSet es' t')) a ms:=by
 have hg:(h.update a (Obj.putSet es' t')).get? a=some { o with data:=.set es' (ep+1) t' }:=by
  have:=Heap.get?_update_self (Obj.putSet es' t') ho (by rw[putSet_of es' t' hd];rfl)
  rw[putSet_of es' t' hd] at this;exact this
 exact⟨hg,_,es',ep+1,t',hg,hex,rfl,D⟩
theorem W9 {g:Bool->Sem Unit} (hg:∀(b:Bool) (s₁:Shared) (Q':Unit->Shared->Prop),Q' () s₁->wpAny (model prog w) A (g b) Q' E s₁)
  {a:Addr}{o:Obj}{es:Array (Int×Value)}{ep:Nat}{t:SetTable} (ho:s.heap.get? a=some o) (hex:o.ExactSet) (hd:o.data=.set es ep t)
  {es1:Array (Int×Value)}{t2:SetTable}{ms:List Int} (D:zfG prog w es1 t2 ms) {wasDummy:Bool}{R:Option Bool->Shared->Prop}
  (h:∀h' ms',Heap.SameBut a s.heap h'->QB prog w h' a ms'->ms'.Perm ms->R (some true) { s with heap:=h' }) :
  wpAny (model prog w) A (do
    storeSet a es1 t2
    if (!wasDummy&&t2.tooFull)=true then do
      g (relayAll t2 es1 (SetTable.grown es1.size)).2.2
      storeSet a (relayAll t2 es1 (SetTable.grown es1.size)).1 (relayAll t2 es1 (SetTable.grown es1.size)).2.1
      pure (some true)
     else pure (some true)) R E s:=by
 obtain⟨d1,d2,d3,d4,d5,d6,d7⟩:=id D
 refine wpAny_bind (wpAny_storeSet_of ho hd ?_ (fits_of_scanBound d4))
 obtain⟨ho1,hS1⟩:=Jm (prog:=prog) (w:=w) ho hex hd D
 have hsb1:=Heap.SameBut.update s.heap a (Obj.putSet es1 t2)
 split
 ·have hp:=relayAll_perm t2 es1 (SetTable.grown es1.size)
  have hfr:=relayAll_fits t2 es1 (SetTable.grown es1.size)
  obtain⟨hr1,hr2⟩:=Qy t2 d6 es1 (SetTable.grown es1.size)
  generalize hRl:relayAll t2 es1 (SetTable.grown es1.size)=Rl at hp hfr hr1 hr2 ⊢
  obtain⟨es2,t3,gave2⟩:=Rl
  dsimp only at hp hfr hr1 hr2 ⊢
  have hsz:es2.size=es1.size:=by rw[←Ube,hp.length_eq,Ube]
  obtain⟨ms2,i2,p2⟩:=YG (hp.map (·.2)) d2
  have D2:zfG prog w es2 t3 ms2:=⟨d1.perm hp,i2,p2.nodup_iff.mpr d3,by rw[hsz];exact d4,hfr,hr1,fun q=>by rw[hr2];exact d7 q⟩
  refine wpAny_bind (hg _ _ _ ?_)
  refine wpAny_bind (wpAny_storeSet_of ho1 rfl ?_ (fits_of_scanBound (by rw[hsz];exact d4)))
  obtain⟨_,hS2⟩:=Jm (prog:=prog) (w:=w) ho1 hex rfl D2
  exact wpAny_pure (h _ ms2 (hsb1.trans (Heap.SameBut.update _ a _)) hS2 p2)
 ·exact wpAny_pure (h _ ms hsb1 hS1 (.refl _))
theorem zc4 {a:Addr}{ms:List Int}{k:Int}{tok:Tok}{Q:Bool->Shared->Prop} (hS:QB prog w s.heap a ms) (hroom:ms.length+1<scanBound)
  (h:∀b h' ms',Heap.SameBut a s.heap h'->QB prog w h' a ms'->(∀z,z∈ms'↔z∈ms\/z=k)->ms'.length<=ms.length+1->Q b { s with heap:=h' }) :
  wpAny (model prog w) A (setAddHashed a (.int k tok) ((intKind prog w).hash k)) Q E s:=by
 obtain⟨o,es,ep,t,ho,hex,hd,D⟩:=hS
 obtain⟨hel,hint,hnd,hb,hf,hri,hled⟩:=D
 have hsc:(Value.int k tok).scannable=true:=rfl
 have hkey:(intKind prog w).is k (.int k tok)=true:=intKind_is _ _ _ _
 have hlen:es.size=ms.length:=by have:=hint.length;simpa using this
 unfold setAddHashed setAddHashedIn
 refine wpAny_holding (wpAny_bind (wpAny_setState_of ho hd hf ?_))
 dsimp only
 rw[byScan_of hsc hb hel]
 simp only[↓reduceIte]
 unfold setAddByScan
 refine wpAny_bind ?_
 refine wpAny_bind (wpAny_rule ?_)
 refine wpAny_bind (wpAny_setScan_of hkey ho hd hf hel ?_)
 have hin:k∈ms↔∃e∈es.toList,(intKind prog w).is k e.2=true:=by
  rw[zdm hint]
  constructor
  ·rintro⟨v,hv,t',rfl⟩
   obtain⟨e,he,e2⟩:=Uaq.mp hv
   exact⟨e,he,by rw[e2];exact intKind_is _ _ _ _⟩
  ·rintro⟨e,he,hq⟩
   obtain⟨t',e2⟩:=zfT hq
   exact⟨_,Ubg he,t',e2⟩
 cases hr:List.findIdx? (fun e=>(intKind prog w).is k e.2) es.toList with
 | some j=>
  dsimp only
  obtain⟨hj,hpj,_⟩:=List.findIdx?_eq_some_iff_getElem.mp hr
  have hk:k∈ms:=hin.mpr ⟨es.toList[j],List.getElem_mem hj,hpj⟩
  refine wpAny_pure (wpAny_pure ?_)
  have e:s={ s with heap:=s.heap }:=by cases s;rfl
  rw[e]
  exact h _ s.heap ms (Heap.SameBut.refl a s.heap) ⟨o,es,ep,t,ho,hex,hd,hel,hint,hnd,hb,hf,hri,hled⟩ (fun z=>⟨.inl,fun q=>q.elim id fun e=>e▸hk⟩) (Nat.le_succ _)
 | none=>
  dsimp only
  have hk:k∉ms:=fun q=>by
   obtain⟨e,he,hp⟩:=hin.mp q
   have:=List.findIdx?_eq_none_iff.mp hr e he
   rw[hp] at this
   cases this
  have hgw:∀(b:Bool) {s₁:Shared}{Q':Unit->Shared->Prop},Q' () s₁->wpAny (model prog w) A (match b with | true=>rule "set.scan.the-table-gave-way" | false=>pure ()) Q' E s₁:=
   fun b s₁ Q' hq=>by cases b <;> first | exact wpAny_pure hq | exact wpAny_rule hq
  have hperm:=layNew_perm t es ((intKind prog w).hash k) (.int k tok)
  have hfits:=layNew_fits t es ((intKind prog w).hash k) (.int k tok)
  obtain⟨hr1,hr2⟩:=VT hri es ((intKind prog w).hash k) (.int k tok)
  generalize hL:layNew t es ((intKind prog w).hash k) (.int k tok)=L at hperm hfits hr1 hr2 ⊢
  obtain⟨es1,t1,wasDummy,gave⟩:=L
  dsimp only at hperm hfits hr1 hr2 ⊢
  rw[Array.toList_push] at hperm
  have hsz1:es1.size=es.size+1:=by rw[←Ube,hperm.length_eq,Uaj,Ube];rfl
  have hpm:(es1.toList.map (·.2)).Perm (es.toList.map (·.2)++[.int k tok]):=by
   have:=hperm.map (·.2)
   rwa [Ubc] at this
  obtain⟨ms1,i1,p1⟩:=YG hpm (zcF hint k tok)
  have nd1:ms1.Nodup:=p1.nodup_iff.mpr (by
   rw[List.nodup_append]
   refine⟨hnd,by simp,fun x hx y hy=>?_⟩
   rw[Uam.mp hy]
   exact fun q=>hk (q▸hx))
  have D1:zfG prog w es1 t1 ms1:=⟨(hel.push hkey hsc).perm hperm,i1,nd1,by rw[hsz1,hlen];exact hroom,hfits,hr1,fun q=>by rw[hr2];exact hled q⟩
  have fin:∀h' ms',Heap.SameBut a s.heap h'->QB prog w h' a ms'->ms'.Perm ms1->Q true { s with heap:=h' }:=fun h' ms' hsb hS' hp=>by
   refine h true h' ms' hsb hS' (fun z=>?_) ?_
   ·rw[hp.mem_iff,p1.mem_iff,Ubd,Uam]
   ·rw[hp.length_eq,p1.length_eq,Uaj];exact Uag _
  refine wpAny_bind (hgw _ ?_)
  split
  ·refine wpAny_bind ?_
   rw[hashByValue_scannable 8 hsc]
   refine wpAny_pure ?_
   simp only[plainKind,↓reduceIte]
   refine W9 ?_ ho hex hd D1 ?_
   ·intro b s₁ Q' hq;cases b <;> first | exact wpAny_pure hq | exact wpAny_rule hq
   ·intro h' ms' hsb hS' hp;dsimp only;exact wpAny_pure (fin h' ms' hsb hS' hp)
  ·refine wpAny_bind (wpAny_pure ?_)
   simp only[↓reduceIte]
   refine W9 ?_ ho hex hd D1 ?_
   ·intro b s₁ Q' hq;cases b <;> first | exact wpAny_pure hq | exact wpAny_rule hq
   ·intro h' ms' hsb hS' hp;dsimp only;exact wpAny_pure (fin h' ms' hsb hS' hp)
end
section
variable {prog:Program}{w:World}{A:Around}{E:Value->Shared->Prop}{s:Shared}{R:Result->Shared->Prop}{I:Addr}{fp wr:List Addr}{n:Nat}{P:Nat->Value->Prop}{St:Nat->Heap->Prop}
theorem VM (W:Walks prog w A.in1 I fp wr n P St) (S:Addr) (hSf:S∉fp) (val:Nat->Int) (hval:∀i v,P i v->∃t,v=.int (val i) t) (hb:n+1<scanBound) :
  ∀(k i:Nat) (s:Shared) (ms:List Int),n-i=k->i<=n->St i s.heap->QB prog w s.heap S ms->ms.length<=i->(∀z,z∈ms↔∃j,j<i/\val j=z) →
   (∀h' tk ms',(∀b o,b≠S->b∉wr->s.heap.get? b=some o->h'.get? b=some o)->QB prog w h' S ms'->ms'.length<=n->(∀z,z∈ms'↔∃j,j<n/\val j=z)->R (.ok (.ret .none)) { s with heap:=h',toks:=tk }) →
   codeAny (model prog w) A (.builtin "set.update.loop" ⟨[.ref S,.ref I],[]⟩) R s:=by
 have hSw:S∉wr:=fun h=>hSf (W.sub _ h)
 intro k
 induction k with
 | zero=>
  intro i s ms hk hi hst hS hl hm hR
  have hin:i=n:=by omega
  subst hin
  refine codeAny_builtin F.entry_set_update_loop ?_
  rw[Around.under_plainId F.plain_set_update_loop _]
  show wpAny _ A.in1 (pyNext (.ref I) >>= _) _ _ s
  refine wpAny_bind (W.done s _ _ hst fun h' tk hk'=>?_)
  show wpAny _ A.in1 (ret Value.none) _ _ _
  exact wpAny_pure (hR h' tk ms (fun b o _ hb e=>hk' b o hb e) (hS.keep fun o e=>hk' S o hSw e) hl hm)
 | succ k ih=>
  intro i s ms hk hi hst hS hl hm hR
  have hlt:i<n:=by omega
  refine codeAny_builtin F.entry_set_update_loop ?_
  rw[Around.under_plainId F.plain_set_update_loop _]
  show wpAny _ A.in1 (pyNext (.ref I) >>= _) _ _ s
  refine wpAny_bind (W.item i s _ _ hlt hst fun v h1 tk1 hP hst1 hk1=>?_)
  obtain⟨t,rfl⟩:=hval i v hP
  have hS1:QB prog w h1 S ms:=hS.keep fun o e=>hk1 S o hSw e
  show wpAny _ A.in1 (holding [Value.int (val i) t] (setAdd S (.int (val i) t)) >>= _) _ _ _
  refine wpAny_bind (wpAny_holding ?_)
  unfold setAdd
  refine wpAny_holding ?_
  refine wpAny_bind ((intKind prog w).pyHash (k:=val i) (intKind_is _ _ _ _) ?_)
  refine zc4 (s:={ s with heap:=h1,toks:=tk1+1 }) hS1 (by omega) fun b h2 ms2 hsb hS2 hm2 hl2=>?_
  refine wpAny_pure ⟨plainId_quiet F.plain_set_update_loop _,ih (i+1) _ ms2 (by omega) hlt (W.frame _ _ _ hst1 fun b hb o e=>?_) hS2 (by omega) (fun z=>?_) fun h' tk ms' hk' hS' hl' hm'=>?_⟩
  ·rw[hsb.2 b (fun h:b=S=>hSf (by rw[←h];exact hb))];exact e
  ·rw[hm2,hm]
   constructor
   ·rintro (⟨j,hj,e⟩ | e)
    ·exact⟨j,by omega,e⟩
    ·exact⟨i,by omega,e.symm⟩
   ·rintro⟨j,hj,e⟩
    by_cases q:j=i
    ·exact .inr (by rw[←e,q])
    ·exact .inl ⟨j,by omega,e⟩
  ·refine hR h' tk ms' (fun b o hbS hbw e=>hk' b o hbS hbw ?_) hS' hl' hm'
   show h2.get? b=some o
   rw[hsb.2 b hbS]
   exact hk1 b o hbw e
end
section
variable {prog:Program}{w:World}{A:Around}{E:Value->Shared->Prop}{s:Shared}
theorem zeC (a:Value) {Q₁:Value->Shared->Prop}
  (h:Q₁ (.ref s.heap.objs.size) { s with heap:=s.heap.push { cls:=.type "set",dict:=none,data:=.set #[] 0 (.fresh 0 0 (!xj w)) } }) :
  codeAny (model prog w) A (.call (.builtin "set.__new__") ⟨[.type "set",a],[]⟩) (wants Q₁ E) s:=by
 refine codeAny_of_tree ?_
 show wpAny _ A.in1 (do checkBuiltinCall "set.__new__" ⟨[.type "set",a],[]⟩;again (.builtin "set.__new__" ⟨[.type "set",a],[]⟩)) _ _ s
 refine wpAny_bind (wpAny_of_eq (PySem.F.newCall_set_1 a) (wpAny_pure ⟨plainId_quiet PySem.F.plain_set_new _,codeAny_builtin PySem.F.entry_set_new ?_⟩))
 rw[Around.under_plainId PySem.F.plain_set_new _]
 unfold Builtin.«set.__new__» Builtin.Frozenset.newClass
 have hsub:=sub_set_self
 obtain⟨hp,g,d,tk,os⟩:=s
 dsimp only
 wp_walk
 refine wpAny_askSetting (wpAny_pure ?_)
 dsimp only
 simp only[newObj]
 refine wpAny_bind (wpAny_alloc (wpAny_pure ?_))
 exact wpAny_pure h
theorem zaE {h:Heap}{a:Addr}{led:Bool} (hg:h.get? a=some { cls:=.type "set",dict:=none,data:=.set #[] 0 (.fresh 0 0 led) }) (hl:xj w=false->led=true):QB prog w h a []:=
 ⟨_,#[],0,_,hg,⟨rfl,rfl,rfl⟩,rfl,fun e he=>by simp at he,.nil,.nil,by decide,rfl,.nil,hl⟩
theorem VJ {l:Addr}{items:Array Value}{ns:List Int}{Q:Value->Shared->Prop}
  (hh:A.handled=none) (hl:s.heap.IsList l items) (hi:IntsAre items.toList ns) (hb:items.size+1<scanBound)
  (h:∀(h':Heap) (tk:Nat) (ms:List Int),QB prog w h' s.heap.objs.size ms->ms.length<=ns.length->(∀z,z∈ms↔z∈ns) →
   (∀b o,b<s.heap.objs.size->s.heap.get? b=some o->h'.get? b=some o)->Q (.ref s.heap.objs.size) { s with heap:=h',toks:=tk }) :
  wpAny (model prog w) A (call (.type "set") [.ref l]) Q E s:=by
 obtain⟨c,tl,hmro⟩:=PySem.F.called_set.mro
 have hmade:=PySem.F.called_set.made
 have hsub:=PySem.F.called_set.sub
 refine wpAny_call (codeAny_of_tree ?_)
 show wpAny _ _ (callAny (.type "set") _) _ _ _
 refine wpAny_pure ⟨Code.quiet_builtin _ (by decide +kernel),codeAny_builtin PySem.F.entry_type_call ?_⟩
 rw[Around.under_plain (weight_type_call_type "set" [.ref l] []) rfl]
 have h1:=PySem.F.called_set.notType
 have h2:=PySem.F.called_set.canCreate
 have hct:=PySem.F.typeCall_set_1 (.ref l)
 repeat (any_goals (first | assumption | wp_step))
 refine codeAny_mono (zeC (.ref l) (E:=E) (Q₁:=fun obj s₁=>obj=.ref s.heap.objs.size/\s₁={ s with heap:=s.heap.push { cls:=.type "set",dict:=none,data:=.set #[] 0 (.fresh 0 0 (!xj w)) } }) ⟨rfl,rfl⟩) fun r s₁ hr=>?_
 cases r with
 | error e=>exact hr
 | ok fl=>
  cases fl with
  | ret obj=>
   obtain⟨rfl,rfl⟩:=hr
   have hS:(s.heap.push { cls:=.type "set",dict:=none,data:=.set #[] 0 (.fresh 0 0 (!xj w)) }).get? s.heap.objs.size=some { cls:=.type "set",dict:=none,data:=.set #[] 0 (.fresh 0 0 (!xj w)) }:=Heap.get?_push_size _ rfl
   have hT:Shared.TypeIs { s with heap:=s.heap.push { cls:=.type "set",dict:=none,data:=.set #[] 0 (.fresh 0 0 (!xj w)) } } (.ref s.heap.objs.size) "set":=⟨_,hS,rfl⟩
   have hli:=PySem.F.called_set.init.lookup
   have hbi:=PySem.F.called_set.init.bind (.ref s.heap.objs.size)
   repeat (any_goals (first | assumption | wp_step))
   refine codeAny_mono (codeAny_call_builtin (R:=wants (fun r s₂=>r=.none/\∃h' tk ms,s₂={ s with heap:=h',toks:=tk }/\QB prog w h' s.heap.objs.size ms/\ms.length<=ns.length/\(∀z,z∈ms↔z∈ns) ∧
     (∀b o,b<s.heap.objs.size->s.heap.get? b=some o->h'.get? b=some o)) E) PySem.F.called_set.init.plain PySem.F.entry_set_init (check_set_init_1 hT ?_)) fun r₂ s₂ hr₂=>?_
   ·obtain⟨ol,hol,hcl,nl,hdl⟩:=hl
    obtain⟨ocls,odict,odata,oslots⟩:=ol
    simp only at hcl hdl
    subst hcl;subst hdl
    have hol':(s.heap.push { cls:=.type "set",dict:=none,data:=.set #[] 0 (.fresh 0 0 (!xj w)) }).get? l=some { cls:=.type "list",dict:=odict,data:=.seq items nl,slots:=oslots }:=Heap.get?_push_of_some _ hol
    have hsls:=PySem.F.sub_list_set
    have hslf:=PySem.F.sub_list_frozenset
    have hne:(Value.type "list" == Value.type "dict")=false:=by decide
    have hl1:(s.heap.push { cls:=.type "set",dict:=none,data:=.set #[] 0 (.fresh 0 0 (!xj w)) }).IsList l items:=⟨_,hol',rfl,nl,rfl⟩
    unfold Builtin.«set.__init__» noKeywords Builtin.Frozenset.updateFrom
    generalize hPI:pyIter=PI
    repeat (first | with_reducible (first | refine wpAny_pure ?_ | refine wpAny_bind ?_ | refine wpAny_rule ?_ | refine wpAny_letGo ?_ | refine wpAny_of_eq (by assumption) ?_ | refine wpAny_typeOf (by assumption) ?_ | refine wpAny_isInstance_val (by assumption) (by assumption) ?_ | refine wpAny_isInstance (by assumption) (by assumption) ?_ | refine wpAny_runValue ?_) | ((with_reducible apply wpAny_load');focus (heap_get;done)) | ((with_reducible apply wpAny_loadPart');focus (heap_get;done)) | ((with_reducible apply wpAny_ite_false);focus (rfl;done)) | ((with_reducible apply wpAny_ite_true);focus (rfl;done)) | ((with_reducible apply wpAny_ite_false);focus (simp [*];done)) | ((with_reducible apply wpAny_ite_true);focus (simp [*];done)) | wp_delta)
    subst hPI
    refine wpAny_pyIter_list hl1 ?_
    refine wpAny_bind (wpAny_runValue ?_)
    have hlS:l<s.heap.objs.size:=Heap.lt_size hol
    have hh3:A.in1.in1.in1.handled=none:=by simp [hh]
    have hneI:l≠(s.heap.push { cls:=.type "set",dict:=none,data:=.set #[] 0 (.fresh 0 0 (!xj w)) }).objs.size:=by
     rw[Heap.size_push];exact Uba (Ubv hlS)
    have hSf:s.heap.objs.size∉[(s.heap.push { cls:=.type "set",dict:=none,data:=.set #[] 0 (.fresh 0 0 (!xj w)) }).objs.size,l]:=by
     rw[Heap.size_push];simp only[Uaf,Uam,Ucl,or_false,not_or]
     exact⟨Uba (Ucg _),Nat.ne_of_gt hlS⟩
    have hval:∀(i:Nat) (v:Value),items[i]? = some v->∃t,v=.int ((fun i=>ns.getD i 0) i) t:=fun i v hv=>
     IntsAre.int_at hi i v (by rw[Ubr];exact hv)
    have hnl:items.size=ns.length:=by rw[←Ube];exact hi.length
    refine VM (Walks.list hh3 _ l hneI items) s.heap.objs.size hSf (fun i=>ns.getD i 0) hval hb (items.size-0) 0 _ [] (by omega) (Uax _)
     ⟨⟨_,Heap.get?_push_size _ rfl,rfl,rfl⟩,(hl1.push _)⟩ (zaE (Heap.get?_push_of_some _ hS) (fun q=>by rw[q];rfl)) (Uag _) (fun z=>⟨fun q=>by simp at q,fun ⟨j,hj,_⟩=>absurd hj (Nat.not_lt_zero _)⟩) ?hR
    intro h' tk ms hk hS' hlm hmm
    show wpAny _ _ _ _ _ _
    refine wpAny_pure ?_
    show wpAny _ _ (ret Value.none) _ _ _
    refine wpAny_pure ⟨rfl,h',tk,ms,rfl,hS',by omega,fun z=>?_,fun b o hb e=>?_⟩
    ·rw[hmm]
     constructor
     ·rintro⟨j,hj,e⟩
      rw[←e]
      have hj':j<ns.length:=by omega
      show ns.getD j 0∈ns
      rw[Ual,Uai hj']
      exact List.getElem_mem hj'
     ·intro hz
      obtain⟨j,hj,e⟩:=List.getElem_of_mem hz
      refine⟨j,by omega,?_⟩
      show ns.getD j 0=z
      rw[Ual,Uai hj,e]
      rfl
    ·have hb1:b≠s.heap.objs.size:=Uba hb
     have hb2:b≠(s.heap.push { cls:=.type "set",dict:=none,data:=.set #[] 0 (.fresh 0 0 (!xj w)) }).objs.size:=by
      rw[Heap.size_push];exact Uba (Ubv hb)
     exact hk b o hb1 (by simpa using hb2) (Heap.get?_push_of_some _ (Heap.get?_push_of_some _ e))
   ·cases r₂ with
    | error e=>exact hr₂
    | ok fl₂=>
     cases fl₂ with
     | ret r=>
      obtain⟨rfl,h',tk,ms,rfl,hS',hlm,hmm,hk'⟩:=hr₂
      repeat (any_goals (first | assumption | wp_step))
      exact h _ _ ms hS' hlm hmm hk'
     | _=>exact hr₂.elim
  | _=>exact hr.elim
end
theorem Zi {α:Type}:∀{l:List α}{i:Nat} (h:i<l.length),(l[i]::l.eraseIdx i).Perm l
 | x::l,0,_=>.refl _
 | x::l,i+1,h=>by
  have hi:i<l.length:=by simpa using h
  have ih:=Zi (l:=l) (i:=i) hi
  show (l[i]::x::l.eraseIdx i).Perm (x::l)
  exact(List.Perm.swap _ _ _).trans (ih.cons x)
section
variable {prog:Program}{w:World}{A:Around}{E:Value->Shared->Prop}{s:Shared}{a:Addr}{o:Obj}{es:Array (Int×Value)}{ep:Nat}{t:SetTable}
theorem wB {Q:Bool->Shared->Prop} (h:Q (xj w) s):wpAny (model prog w) A setsByText Q E s:=by
 unfold setsByText
 exact wpAny_bind (wpAny_askSetting (wpAny_pure h))
theorem zfQ {Q:Array (Int×Value)->Shared->Prop} (ho:s.heap.get? a=some o) (hd:o.data=.set es ep t) (hf:t.fits es.size=true) (hT:xj w=true) (h:Q (pickOrder (w.params.setOrder a ep) es) s):wpAny (model prog w) A (setWalk a) Q E s:=by
 unfold setWalk
 refine wpAny_bind (wpAny_setState_of ho hd hf ?_)
 dsimp only
 refine wpAny_bind (wB ?_)
 rw[if_pos hT]
 exact wpAny_bind (wpAny_askSetting (wpAny_pure h))
theorem zd6 {slot given:Nat}{Q:Option (Value×Nat)->Shared->Prop} (ho:s.heap.get? a=some o) (hd:o.data=.set es ep t) (hf:t.fits es.size=true) (hT:xj w=true) (h:Q (((pickOrder (w.params.setOrder a ep) es)[given]?).map fun e=>(e.2,slot)) s):wpAny (model prog w) A (setNext a slot given ep) Q E s:=by
 unfold setNext
 refine wpAny_bind (wpAny_setState_of ho hd hf ?_)
 dsimp only
 refine wpAny_bind (wB ?_)
 rw[if_pos hT,if_neg (by simp)]
 exact wpAny_bind (zfQ ho hd hf hT (wpAny_pure h))
theorem zd4 {slot given:Nat}{Q:Option (Value×Nat)->Shared->Prop} (ho:s.heap.get? a=some o) (hd:o.data=.set es ep t) (hf:t.fits es.size=true) (hT:xj w=false) (hn:(!t.plain&&decide (es.size > 1))=false) (hl:t.led=true)
  (h:Q (match es[SetTable.below t.place slot]?,t.place[SetTable.below t.place slot]? with | some (_,x),some j=>some (x,j+1) | _,_=>none) s):wpAny (model prog w) A (setNext a slot given ep) Q E s:=by
 unfold setNext
 refine wpAny_bind (wpAny_setState_of ho hd hf ?_)
 dsimp only
 refine wpAny_bind (wB ?_)
 rw[if_neg (by rw[hT];decide)]
 show wpAny _ _ (if (!t.plain&&decide (es.size > 1))=true then _ else _) _ _ _
 rw[if_neg (by rw[hn];decide)]
 refine wpAny_bind ?_
 show wpAny _ _ (if (!t.led&&!es.isEmpty)=true then _ else _) _ _ _
 rw[if_neg (by rw[hl];simp)]
 refine wpAny_pure ?_
 exact wpAny_pure h
theorem zf2 {place:Nat}{x:Int×Value}{Q:Value->Shared->Prop} (ho:s.heap.get? a=some o) (hd:o.data=.set es ep t) (hf:t.fits es.size=true) (hx:es[place]? = some x) (h:Q x.2 s):wpAny (model prog w) A (setNextDrawn a place ep) Q E s:=by
 unfold setNextDrawn
 refine wpAny_bind (wpAny_setState_of ho hd hf ?_)
 dsimp only
 rw[if_neg (by simp)]
 rw[hx]
 exact wpAny_pure h
theorem zb5 {src:Source}{n:Nat}{Q:Nat->Shared->Prop} (hn:n≠0) (h:∀i d,i<n->Q i { s with drawn:=d }):wpAny (model prog w) A (choose src n) Q E s:=fun _ _ _=>⟨hn,h _ _ (Nat.mod_lt _ (Nat.pos_of_ne_zero hn))⟩
theorem zcz {α:Type}:∀(n:Nat) (xs:List α) (s:Shared) {Q:List α->Shared->Prop},n=xs.length->(∀ys d,ys.Perm xs->Q ys { s with drawn:=d })->wpAny (model prog w) A (drawOrder n xs) Q E s
 | 0,xs,s,Q,hn,h=>by
  have:xs=[]:=List.eq_nil_of_length_eq_zero hn.symm
  subst this
  exact wpAny_pure (by have:=h [] s.drawn (.refl _);exact this)
 | n+1,[],s,Q,hn,h=>by simp at hn
 | n+1,x::xs,s,Q,hn,h=>by
  show wpAny _ _ (choose .order (x::xs).length >>= _) _ _ _
  refine wpAny_bind (zb5 (by simp) fun i d hi=>?_)
  rw[Uai hi]
  show wpAny _ _ (drawOrder n ((x::xs).eraseIdx i) >>= _) _ _ _
  refine wpAny_bind (zcz n _ _ (by rw[List.length_eraseIdx_of_lt hi];omega) fun ys d' hp=>?_)
  refine wpAny_pure (h _ d' ?_)
  exact(hp.cons _).trans (Zi hi)
end
theorem KH {α:Type} (next:Nat->Nat):∀(fuel k:Nat) (left:List α) (out:Array α),fuel=left.length->(pickOrder.go next fuel k left out).toList.Perm (out.toList++left)
 | 0,k,left,out,h=>by
  have:left=[]:=List.eq_nil_of_length_eq_zero h.symm
  subst this
  unfold pickOrder.go
  simp
 | fuel+1,k,left,out,h=>by
  unfold pickOrder.go
  have hlt:next k % left.length<left.length:=Nat.mod_lt _ (by omega)
  rw[Uai hlt]
  dsimp only
  refine(KH next fuel (k+1) _ _ (by rw[List.length_eraseIdx_of_lt hlt];omega)).trans ?_
  rw[Array.toList_push,Ucs]
  refine List.Perm.append_left _ ?_
  exact Zi hlt
theorem jG {α:Type} (next:Nat->Nat) (xs:Array α):(pickOrder next xs).toList.Perm xs.toList:=by
 unfold pickOrder
 have:=KH next xs.size 0 xs.toList #[] (by simp)
 simpa using this
theorem XS:entryFor table "set.__iter__" = some Builtin.«frozenset.__iter__»:=entryFor_alias (id':="frozenset.__iter__") (by rw[fastTable_eq_tree];kernel_rfl) rfl (by decide +kernel) (by rw[fastTable_eq_tree];kernel_rfl)
theorem zR:Slot "set_iterator" "__next__" "set_iterator.__next__":=
 .of (owner:="set_iterator") (n:="__next__") (by rw[typeLookup_type,builtinLookup_eq_fast];kernel_rfl) (by decide +kernel) (by decide +kernel) (by decide +kernel)
  (by first | exact .inl (by decide +kernel) | exact .inr (by decide +kernel)) (by rw[isSubtype_type];kernel_rfl)
theorem x8:entryFor table "set_iterator.__next__" = some Builtin.«set_iterator.__next__»:=entryFor_of_tree (by kernel_rfl)
theorem W5:Manifest.owners.lookup (String.ofList ['r', 'o', 't', 'a', 'r', 'e', 't', 'i', '_', 't', 'e', 's'].reverse)=some Manifest.sig_set_iterator:=by kernel_rfl
theorem jx (a:Value):argsOk "set_iterator.__next__" ⟨[a],[]⟩:=by
 unfold argsOk;rw[signature?_of (id:="set_iterator.__next__") (n:=['_', '_', 't', 'x', 'e', 'n', '_', '_']) (o:=['r', 'o', 't', 'a', 'r', 'e', 't', 'i', '_', 't', 'e', 's']) (by kernel_rfl) W5];kernel_rfl
theorem Zy:Slot "set_iterator" "__iter__" "set_iterator.__iter__":=
 .of (owner:="set_iterator") (n:="__iter__") (by rw[typeLookup_type,builtinLookup_eq_fast];kernel_rfl) (by decide +kernel) (by decide +kernel) (by decide +kernel)
  (by first | exact .inl (by decide +kernel) | exact .inr (by decide +kernel)) (by rw[isSubtype_type];kernel_rfl)
theorem JQ:entryFor table "set_iterator.__iter__" = some Builtin.«dict_keyiterator.__iter__»:=entryFor_alias (id':="dict_keyiterator.__iter__") (by rw[fastTable_eq_tree];kernel_rfl) rfl (by decide +kernel) (by rw[fastTable_eq_tree];kernel_rfl)
theorem Kc (a:Value):argsOk "set_iterator.__iter__" ⟨[a],[]⟩:=by
 unfold argsOk;rw[signature?_of (id:="set_iterator.__iter__") (n:=['_', '_', 'r', 'e', 't', 'i', '_', '_']) (o:=['r', 'o', 't', 'a', 'r', 'e', 't', 'i', '_', 't', 'e', 's']) (by kernel_rfl) W5];kernel_rfl
def zbA (h:Heap) (I:Addr) (first:Value) (i:Nat) (a:Addr) (n ep:Nat):Prop:=∃oi,h.get? I=some oi/\oi.cls=.type "set_iterator"/\oi.data=.fields #[first,.int i 0,.ref a,.int n 0,.int ep 0]
theorem zbA.typeIs {s:Shared}{I:Addr}{first:Value}{i:Nat}{a:Addr}{n ep:Nat} (x:zbA s.heap I first i a n ep):s.TypeIs (.ref I) "set_iterator":=let ⟨o,ho,hc,_⟩:=x;⟨o,ho,hc⟩
section
variable {prog:Program}{w:World}{A:Around}{E:Value->Shared->Prop}{s:Shared}{a I:Addr}{o:Obj}{es:Array (Int×Value)}{ep:Nat}{t:SetTable}
theorem zb4 {first:Value}{i n:Nat}{Q:Value->Shared->Prop} (hit:zbA s.heap I first i a n ep) (h:Q (.ref I) s):wpAny (model prog w) A (pyIter (.ref I)) Q E s:=by
 refine wpAny_pyIter_slot hit.typeIs Zy (wpAny_call_entry Zy hit.typeIs JQ ?_ (Kc _))
 show wpAny _ _ (ret (.ref I)) _ _ s
 exact wpAny_pure ⟨_,rfl, "set_iterator",_,hit.typeIs,zR.lookup,h⟩
theorem jY {Q:Array (Int×Value)->Shared->Prop} (ho:s.heap.get? a=some o) (hd:o.data=.set es ep t) (hf:t.fits es.size=true) (h:Q es s):wpAny (model prog w) A (setEntries a) Q E s:=by
 unfold setEntries
 exact wpAny_bind (wpAny_setState_of ho hd hf (wpAny_pure h))
theorem zbJ {slot i nx:Nat}{x:Value}{Q:Option Value->Shared->Prop} (hit:zbA s.heap I (.int slot 0) i a es.size ep) (ho:s.heap.get? a=some o) (hd:o.data=.set es ep t) (hf:t.fits es.size=true)
  (hs:∀(A:Around) (E:Value->Shared->Prop) (Q:Option (Value×Nat)->Shared->Prop),Q (some (x,nx)) s->wpAny (model prog w) A (setNext a slot i ep) Q E s)
  (hQ:∀h',zbA h' I (.int nx 0) (i+1) a es.size ep->Heap.SameBut I s.heap h'->Q (some x) { s with heap:=h' }):wpAny (model prog w) A (pyNext (.ref I)) Q E s:=by
 obtain⟨oi,hoi,hc,hdi⟩:=id hit
 unfold pyNext
 refine wpAny_bind (wpAny_attempt (wpAny_callSpecial?_slot (name:=Str.ofString "__next__") hit.typeIs zR
  (wpAny_call_entry zR hit.typeIs x8 ?_ (jx _))))
 unfold Builtin.«set_iterator.__next__»
 refine wpAny_bind (m:=slotArgs "__next__" 0 _) (wpAny_pure ?_)
 refine wpAny_bind (wpAny_fieldsOf hoi hdi ?_)
 show wpAny _ _ (setEntries a >>= _) _ _ _
 refine wpAny_bind (jY ho hd hf ?_)
 rw[if_neg (by simp)]
 show wpAny _ _ (setNext a ((slot:Int)).toNat ((i:Int)).toNat ((ep:Int)).toNat >>= _) _ _ _
 rw[Ubs,Ubs,Ubs]
 refine wpAny_bind (hs _ _ _ ?_)
 dsimp only
 refine wpAny_bind (wpAny_setField hoi hdi (by simp) ?_)
 have ho1:=Heap.get?_update_self (Obj.mapFields (·.setIfInBounds 0 (rawInt nx))) hoi (Obj.isFreed_of_fields (Obj.data_mapFields hdi _))
 have hd1:=Obj.data_mapFields hdi (·.setIfInBounds 0 (rawInt nx))
 refine wpAny_bind (wpAny_setField ho1 hd1 (by simp) ?_)
 have ho2:=Heap.get?_update_self (Obj.mapFields (·.setIfInBounds 1 (rawInt ((i:Int)+1)))) ho1 (Obj.isFreed_of_fields (Obj.data_mapFields hd1 _))
 refine wpAny_pure ⟨_,rfl,wpAny_pure (hQ _ ⟨_,ho2,?_,?_⟩ ((Heap.SameBut.update ..).trans (Heap.SameBut.update ..)))⟩
 ·rw[Obj.cls_mapFields,Obj.cls_mapFields];exact hc
 ·rw[Obj.data_mapFields hd1];simp [rawInt]
theorem zdG {slot i:Nat}{Q:Option Value->Shared->Prop} (hh:A.handled=none) (hit:zbA s.heap I (.int slot 0) i a es.size ep) (ho:s.heap.get? a=some o) (hd:o.data=.set es ep t) (hf:t.fits es.size=true)
  (hs:∀(A:Around) (E:Value->Shared->Prop) (Q:Option (Value×Nat)->Shared->Prop),Q none s->wpAny (model prog w) A (setNext a slot i ep) Q E s)
  (hQ:∀h',Heap.ExtBut I s.heap h'->Q none { s with heap:=h' }):wpAny (model prog w) A (pyNext (.ref I)) Q E s:=by
 obtain⟨oi,hoi,hc,hdi⟩:=id hit
 unfold pyNext
 refine wpAny_bind (wpAny_attempt (wpAny_callSpecial?_slot (name:=Str.ofString "__next__") hit.typeIs zR
  (wpAny_call_entry zR hit.typeIs x8 ?_ (jx _))))
 unfold Builtin.«set_iterator.__next__»
 refine wpAny_bind (m:=slotArgs "__next__" 0 _) (wpAny_pure ?_)
 refine wpAny_bind (wpAny_fieldsOf hoi hdi ?_)
 show wpAny _ _ (setEntries a >>= _) _ _ _
 refine wpAny_bind (jY ho hd hf ?_)
 rw[if_neg (by simp)]
 show wpAny _ _ (setNext a ((slot:Int)).toNat ((i:Int)).toNat ((ep:Int)).toNat >>= _) _ _ _
 rw[Ubs,Ubs,Ubs]
 refine wpAny_bind (hs _ _ _ ?_)
 dsimp only
 refine wpAny_bind (wpAny_setField hoi hdi (by simp) ?_)
 show wpAny _ _ (newExc (.type "StopIteration") [] >>= _) _ _ _
 refine wpAny_bind ?_
 simp only[newExc,newTuple]
 refine wpAny_bind (wpAny_newObj_type ?_ (by size_fits))
 refine wpAny_bind (m:=firstArgMember _ _) (wpAny_of_eq (a:=Value.none) (by first | rfl | (simp only[firstArgMember];rfl)) ?_)
 refine wpAny_newObj_type ?_ (by size_fits)
 simp only[raiseNew]
 refine wpAny_bind (wpAny_handled ?_)
 rw[show A.in1.handled=none from hh]
 refine wpAny_bind (wpAny_pure (wpAny_throw ?_))
 refine wpAny_bind (wpAny_isInstance (T:="StopIteration") (b:=true) ⟨_,Heap.get?_push_size _ rfl,rfl⟩ isSubtype_stop ?_)
 exact wpAny_pure (hQ _ (((Heap.SameBut.update ..).extBut.push _).push _))
end
section
variable {prog:Program}{w:World}{A:Around}{E:Value->Shared->Prop}{s:Shared}{a I T:Addr}{o oT:Obj}{es:Array (Int×Value)}{ep:Nat}{t:SetTable}
theorem zak {i pl nT:Nat}{tk:Tok}{x:Int×Value}{its:Array Value}{Q:Option Value->Shared->Prop} (hit:zbA s.heap I (.ref T) i a es.size ep) (ho:s.heap.get? a=some o) (hd:o.data=.set es ep t) (hf:t.fits es.size=true) (hT:s.heap.get? T=some oT) (hTd:oT.data=.seq its nT)
  (hp:its[i]? = some (.int pl tk)) (hx:es[pl]? = some x) (hQ:∀h',zbA h' I (.ref T) (i+1) a es.size ep->Heap.SameBut I s.heap h'->Q (some x.2) { s with heap:=h' }):wpAny (model prog w) A (pyNext (.ref I)) Q E s:=by
 obtain⟨oi,hoi,hc,hdi⟩:=id hit
 unfold pyNext
 refine wpAny_bind (wpAny_attempt (wpAny_callSpecial?_slot (name:=Str.ofString "__next__") hit.typeIs zR
  (wpAny_call_entry zR hit.typeIs x8 ?_ (jx _))))
 unfold Builtin.«set_iterator.__next__»
 refine wpAny_bind (m:=slotArgs "__next__" 0 _) (wpAny_pure ?_)
 refine wpAny_bind (wpAny_fieldsOf hoi hdi ?_)
 show wpAny _ _ (setEntries a >>= _) _ _ _
 refine wpAny_bind (jY ho hd hf ?_)
 rw[if_neg (by simp)]
 show wpAny _ _ (seqItems? (.ref T) >>= _) _ _ _
 refine wpAny_bind (wpAny_seqItems hT hTd ?_)
 dsimp only
 rw[Ubs,hp]
 dsimp only
 rw[Ubs,Ubs]
 refine wpAny_bind (zf2 ho hd hf hx ?_)
 refine wpAny_bind (wpAny_setField hoi hdi (by simp) ?_)
 have ho1:=Heap.get?_update_self (Obj.mapFields (·.setIfInBounds 1 (rawInt ((i:Int)+1)))) hoi (Obj.isFreed_of_fields (Obj.data_mapFields hdi _))
 refine wpAny_pure ⟨_,rfl,wpAny_pure (hQ _ ⟨_,ho1,?_,?_⟩ (Heap.SameBut.update ..))⟩
 ·rw[Obj.cls_mapFields];exact hc
 ·rw[Obj.data_mapFields hdi];simp [rawInt]
theorem zbT {i nT:Nat}{its:Array Value}{Q:Option Value->Shared->Prop} (hh:A.handled=none) (hit:zbA s.heap I (.ref T) i a es.size ep) (ho:s.heap.get? a=some o) (hd:o.data=.set es ep t) (hf:t.fits es.size=true) (hT:s.heap.get? T=some oT) (hTd:oT.data=.seq its nT)
  (hp:its[i]? = none) (hQ:∀h',Heap.ExtBut I s.heap h'->Q none { s with heap:=h' }):wpAny (model prog w) A (pyNext (.ref I)) Q E s:=by
 obtain⟨oi,hoi,hc,hdi⟩:=id hit
 unfold pyNext
 refine wpAny_bind (wpAny_attempt (wpAny_callSpecial?_slot (name:=Str.ofString "__next__") hit.typeIs zR
  (wpAny_call_entry zR hit.typeIs x8 ?_ (jx _))))
 unfold Builtin.«set_iterator.__next__»
 refine wpAny_bind (m:=slotArgs "__next__" 0 _) (wpAny_pure ?_)
 refine wpAny_bind (wpAny_fieldsOf hoi hdi ?_)
 show wpAny _ _ (setEntries a >>= _) _ _ _
 refine wpAny_bind (jY ho hd hf ?_)
 rw[if_neg (by simp)]
 show wpAny _ _ (seqItems? (.ref T) >>= _) _ _ _
 refine wpAny_bind (wpAny_seqItems hT hTd ?_)
 dsimp only
 rw[Ubs,hp]
 dsimp only
 refine wpAny_bind (wpAny_setField hoi hdi (by simp) ?_)
 have ho1:=Heap.get?_update_self (Obj.mapFields (·.setIfInBounds 0 (rawInt 0))) hoi (Obj.isFreed_of_fields (Obj.data_mapFields hdi _))
 have hd1:=Obj.data_mapFields hdi (·.setIfInBounds 0 (rawInt 0))
 refine wpAny_bind (wpAny_setField ho1 hd1 (by simp) ?_)
 show wpAny _ _ (newExc (.type "StopIteration") [] >>= _) _ _ _
 refine wpAny_bind ?_
 simp only[newExc,newTuple]
 refine wpAny_bind (wpAny_newObj_type ?_ (by size_fits))
 refine wpAny_bind (m:=firstArgMember _ _) (wpAny_of_eq (a:=Value.none) (by first | rfl | (simp only[firstArgMember];rfl)) ?_)
 refine wpAny_newObj_type ?_ (by size_fits)
 simp only[raiseNew]
 refine wpAny_bind (wpAny_handled ?_)
 rw[show A.in1.handled=none from hh]
 refine wpAny_bind (wpAny_pure (wpAny_throw ?_))
 refine wpAny_bind (wpAny_isInstance (T:="StopIteration") (b:=true) ⟨_,Heap.get?_push_size _ rfl,rfl⟩ isSubtype_stop ?_)
 exact wpAny_pure (hQ _ ((((Heap.SameBut.update ..).trans (Heap.SameBut.update ..)).extBut.push _).push _))
theorem zd1 (hh:A.handled=none) (hne:a≠I) (hd:o.data=.set es ep t) (hf:t.fits es.size=true) (ord:List (Int×Value)) (hlo:ord.length=es.size) (slot:Nat->Nat)
  (hs:∀i e (s:Shared) (A:Around) (E:Value->Shared->Prop) (Q:Option (Value×Nat)->Shared->Prop),s.heap.get? a=some o->ord[i]? = some e->Q (some (e.2,slot (i+1))) s->wpAny (model prog w) A (setNext a (slot i) i ep) Q E s)
  (hz:∀(s:Shared) (A:Around) (E:Value->Shared->Prop) (Q:Option (Value×Nat)->Shared->Prop),s.heap.get? a=some o->Q none s->wpAny (model prog w) A (setNext a (slot es.size) es.size ep) Q E s) :
  Walks prog w A I [I,a] [I] es.size (fun i v=>∃e,ord[i]? = some e/\e.2=v) (fun i h=>zbA h I (.int (slot i) 0) i a es.size ep/\h.get? a=some o) where
 sub:=fun b hb=>by simp at hb;simp [hb]
 frame:=fun i h h' st hk=>⟨let ⟨oi,e,r⟩:=st.1;⟨oi,hk I (by simp) oi e,r⟩,hk a (by simp) o st.2⟩
 item:=fun i s Q E hi st hQ=>by
  have he:ord[i]? = some (ord[i]'(by omega)):=Uai (by omega)
  refine zbJ st.1 st.2 hd hf (fun A E Q q=>hs i _ s A E Q st.2 he q) fun h' hit' hs'=>?_
  exact hQ _ h' s.toks ⟨_,he,rfl⟩ ⟨hit',by rw[hs'.2 a hne];exact st.2⟩ fun b o hb e=>by rw[hs'.2 b (by simpa using hb)];exact e
 done:=fun s Q E st hQ=>zdG hh st.1 st.2 hd hf (fun A E Q q=>hz s A E Q st.2 q) fun h' he'=>hQ h' s.toks fun b o hb e=>he' b o (by simpa using hb) e
 self:=fun _ _ _ _ st hQ=>zb4 st.1 hQ
theorem zgR (hh:A.handled=none) (hne:a≠I) (hTI:T≠I) (hd:o.data=.set es ep t) (hf:t.fits es.size=true) (ord:List (Int×Value)) (hlo:ord.length=es.size) {its:Array Value}{nT:Nat} (hTd:oT.data=.seq its nT) (hTs:its.size=es.size)
  (hp:∀(i:Nat) (e:Int×Value),ord[i]? = some e->∃(pl:Nat) (tk:Tok),its[i]? = some (Value.int (pl:Int) tk)/\es[pl]? = some e) :
  Walks prog w A I [I,a,T] [I] es.size (fun i v=>∃e,ord[i]? = some e/\e.2=v) (fun i h=>zbA h I (.ref T) i a es.size ep/\h.get? a=some o/\h.get? T=some oT) where
 sub:=fun b hb=>by simp at hb;simp [hb]
 frame:=fun i h h' st hk=>⟨let ⟨oi,e,r⟩:=st.1;⟨oi,hk I (by simp) oi e,r⟩,hk a (by simp) o st.2.1,hk T (by simp) oT st.2.2⟩
 item:=fun i s Q E hi st hQ=>by
  have he:ord[i]? = some (ord[i]'(by omega)):=Uai (by omega)
  obtain⟨pl,tk,h1,h2⟩:=hp i _ he
  refine zak st.1 st.2.1 hd hf st.2.2 hTd h1 h2 fun h' hit' hs'=>?_
  exact hQ _ h' s.toks ⟨_,he,rfl⟩ ⟨hit',by rw[hs'.2 a hne];exact st.2.1,by rw[hs'.2 T hTI];exact st.2.2⟩ fun b o hb e=>by rw[hs'.2 b (by simpa using hb)];exact e
 done:=fun s Q E st hQ=>zbT hh st.1 st.2.1 hd hf st.2.2 hTd (Array.getElem?_eq_none (by omega)) fun h' he'=>hQ h' s.toks fun b o hb e=>he' b o (by simpa using hb) e
 self:=fun _ _ _ _ st hQ=>zb4 st.1 hQ
theorem Ws {xs:Array Nat} (hr:VL xs) {i j:Nat} (hi:i<=xs.size) (h1:∀k (h:k<xs.size),k<i->xs[k]<j) (h2:∀k (h:k<xs.size),i<=k->j<=xs[k]):SetTable.below xs j=i:=by
 obtain⟨b1,b2,b3⟩:=WU j hr
 rcases Nat.lt_trichotomy (SetTable.below xs j) i with h | h | h
 ·have hk:SetTable.below xs j<xs.size:=by omega
  have:=b3 _ hk (Uag _)
  have:=h1 _ hk h
  omega
 ·exact h
 ·have hk:i<xs.size:=by omega
  have:=b2 _ hk h
  have:=h2 _ hk (Uag _)
  omega
def zdJ (t:SetTable):Nat->Nat
 | 0=>0
 | i+1=>t.place.getD i 0+1
theorem X2 {t:SetTable} (hr:VL t.place) {i:Nat} (hi:i<=t.place.size):SetTable.below t.place (zdJ t i)=i:=by
 have up:∀{x y:Nat} (hx:x<t.place.size) (hy:y<t.place.size),x<y->t.place[x]<t.place[y]:=fun {x y} hx hy hxy=>by
  have:=Ucj.mp hr x y (by simpa using hx) (by simpa using hy) hxy
  simpa using this
 cases i with
 | zero=>exact Ws hr (Uax _) (fun k h hk=>absurd hk (Nat.not_lt_zero _)) (fun k h _=>Uax _)
 | succ i=>
  have hlt:i<t.place.size:=by omega
  have e:zdJ t (i+1)=t.place[i]+1:=by
   show t.place.getD i 0+1=_
   simp [Array.getD,hlt]
  rw[e]
  refine Ws hr hi (fun k h hk=>?_) (fun k h hk=>?_)
  ·rcases Nat.lt_or_ge k i with q | q
   ·have:=up h hlt q;omega
   ·have:k=i:=by omega
    subst this;omega
  ·have:=up hlt h (by omega);omega
end
theorem zcW {α:Type}{idx:List Nat}{l:List α}{a:α} (h:idx.Perm (List.range l.length)):(idx.map fun i=>l.getD i a).Perm l:=by
 have e:(List.range l.length).map (fun i=>l.getD i a)=l:=by
  apply List.ext_getElem
  ·simp
  ·intro i h1 h2
   simp [Ual,Uai h2]
 have:=h.map (fun i=>l.getD i a)
 rw[e] at this
 exact this
section
variable {prog:Program}{w:World}{A:Around}{E:Value->Shared->Prop}{s:Shared}{a:Addr}{ms:List Int}
def zhx (prog:Program) (w:World) (A:Around) (s:Shared) (a:Addr) (es:Array (Int×Value)) (it:Value) (s1:Shared):Prop:=
 ∃(I:Addr) (fp:List Addr) (ord:List (Int×Value)) (St:Nat->Heap->Prop) (h1:Heap) (d1:Drawn),it=.ref I/\s1={ s with heap:=h1,drawn:=d1 }/\s.heap.objs.size<=I/\(∀b∈fp,b=a\/s.heap.objs.size<=b)/\ord.Perm es.toList ∧
  Walks prog w A I fp [I] es.size (fun i v=>∃e,ord[i]? = some e/\e.2=v) St/\St 0 h1/\∀b o,s.heap.get? b=some o->h1.get? b=some o
theorem zc2 {o:Obj}{es:Array (Int×Value)}{ep:Nat}{t:SetTable}{Q:Value->Shared->Prop} (hh:A.handled=none) (ho:s.heap.get? a=some o) (hex:o.ExactSet) (hd:o.data=.set es ep t) (D:zfG prog w es t ms)
  (hQ:∀it s1,zhx prog w A s a es it s1->Q it s1):wpAny (model prog w) A (pyIter (.ref a)) Q E s:=by
 obtain⟨hel,hint,hnd,hb,hf,hri,hled⟩:=D
 have hT:s.TypeIs (.ref a) "set":=⟨o,ho,hex.1⟩
 have hps:t.place.size=es.size:=by
  simp only[SetTable.fits,Uat,beq_iff_eq] at hf
  exact hf.1
 have hlt:a<s.heap.objs.size:=Heap.lt_size ho
 refine wpAny_pyIter_slot hT PySem.F.slot_set_iter (wpAny_call_entry PySem.F.slot_set_iter hT XS ?_ (PySem.F.args_set_iter_1 _))
 unfold Builtin.«frozenset.__iter__» Builtin.Frozenset.slot0 Builtin.Frozenset.sizeOf
 refine wpAny_bind (wpAny_bind (m:=slotArgs "__iter__" 0 _) (wpAny_pure ?_))
 refine wpAny_pure ?_
 refine wpAny_bind (wpAny_bind (jY ho hd hf (wpAny_pure ?_)))
 refine wpAny_bind ?_
 unfold setDrawn
 refine wpAny_bind (wpAny_setState_of ho hd hf ?_)
 dsimp only
 refine wpAny_bind (wB (wpAny_pure ?_))
 show wpAny _ _ (if (!xj w&&(!t.plain&&decide (es.size > 1)))=true then _ else _) _ _ _
 have flat:∀ord:List (Int×Value),ord.Perm es.toList->ord.length=es.size:=fun ord p=>by rw[p.length_eq,Ube]
 by_cases hm:(!xj w&&(!t.plain&&decide (es.size > 1)))=true
 ·rw[if_pos hm]
  refine wpAny_bind (zcz es.size (List.range es.size) s (by simp) fun ys d hp=>?_)
  have hyl:ys.length=es.size:=by rw[hp.length_eq,List.length_range]
  have hys:∀i∈ys,i<es.size:=fun i hi=>Uco.mp (hp.mem_iff.mp hi)
  unfold newTuple
  refine wpAny_bind (wpAny_newObj_type ?_ (by show (ys.map _).length<=_;rw[Uaa,hyl];exact fits_of_scanBound hb))
  have hT1:(s.heap.push { cls:=.type "tuple",data:=.seq (ys.map fun (i:Nat)=>rawInt i).toArray }).get? s.heap.objs.size=some { cls:=.type "tuple",data:=.seq (ys.map fun (i:Nat)=>rawInt i).toArray }:=Heap.get?_push_size _ rfl
  have ho1:(s.heap.push { cls:=.type "tuple",data:=.seq (ys.map fun (i:Nat)=>rawInt i).toArray }).get? a=some o:=Heap.get?_push_of_some _ ho
  refine wpAny_bind (wpAny_setEpoch_of (s:={ s with heap:=s.heap.push { cls:=.type "tuple",data:=.seq (ys.map fun (i:Nat)=>rawInt i).toArray },drawn:=d }) ho1 hd hf ?_)
  unfold newFields
  refine wpAny_bind (wpAny_newObj_type ?_ (by size_fits))
  have hsz:(s.heap.push { cls:=.type "tuple",data:=.seq (ys.map fun (i:Nat)=>rawInt i).toArray }).objs.size=s.heap.objs.size+1:=size_push' ..
  have hI:((s.heap.push { cls:=.type "tuple",data:=.seq (ys.map fun (i:Nat)=>rawInt i).toArray }).push { cls:=.type "set_iterator",data:=.fields #[.ref s.heap.objs.size,rawInt 0,.ref a,rawInt es.size,rawInt ep] }).get? (s.heap.push { cls:=.type "tuple",data:=.seq (ys.map fun (i:Nat)=>rawInt i).toArray }).objs.size=some { cls:=.type "set_iterator",data:=.fields #[.ref s.heap.objs.size,rawInt 0,.ref a,rawInt es.size,rawInt ep] }:=Heap.get?_push_size _ rfl
  refine wpAny_pure ⟨_,rfl, "set_iterator",_,⟨_,hI,rfl⟩,zR.lookup,hQ _ _ ?_⟩
  have hpo:(ys.map fun i=>es.toList.getD i (0,.none)).Perm es.toList:=zcW (by rw[Ube];exact hp)
  refine⟨_,_,ys.map fun i=>es.toList.getD i (0,.none),_,_,d,rfl,rfl,by rw[hsz];exact Nat.le_succ _,?_,hpo,zgR (T:=s.heap.objs.size) hh (by rw[hsz];exact Uba (Ubv hlt)) (by rw[hsz];exact Uba (Ucg _)) hd hf _ (flat _ hpo) (oT:={ cls:=.type "tuple",data:=.seq (ys.map fun (i:Nat)=>rawInt i).toArray }) rfl (by simp [hyl]) ?_,
   ⟨⟨_,hI,rfl,rfl⟩,Heap.get?_push_of_some _ ho1,Heap.get?_push_of_some _ hT1⟩,fun b o e=>Heap.get?_push_of_some _ (Heap.get?_push_of_some _ e)⟩
  ·intro b hb
   simp only[Uaf,Ucl,or_false] at hb
   rcases hb with rfl | rfl | rfl
   ·exact .inr (by rw[hsz];exact Nat.le_succ _)
   ·exact .inl rfl
   ·exact .inr (Uag _)
  ·intro i e he
   rw[Ubw] at he
   obtain⟨j,hj,rfl⟩:=Ubz.mp he
   have hjl:j<es.size:=hys j (Uaw hj)
   refine⟨j,0,?_,?_⟩
   ·simp [hj,rawInt]
   ·rw[Ucv hjl]
    simp [Ual,hjl]
 ·rw[if_neg hm]
  refine wpAny_bind (wpAny_pure ?_)
  refine wpAny_bind (wpAny_setEpoch_of ho hd hf ?_)
  unfold newFields
  refine wpAny_bind (wpAny_newObj_type ?_ (by size_fits))
  have hI:(s.heap.push { cls:=.type "set_iterator",data:=.fields #[rawInt 0,rawInt 0,.ref a,rawInt es.size,rawInt ep] }).get? s.heap.objs.size=some { cls:=.type "set_iterator",data:=.fields #[rawInt 0,rawInt 0,.ref a,rawInt es.size,rawInt ep] }:=Heap.get?_push_size _ rfl
  refine wpAny_pure ⟨_,rfl, "set_iterator",_,⟨_,hI,rfl⟩,zR.lookup,hQ _ _ ?_⟩
  cases hbt:xj w with
  | true=>
   refine⟨s.heap.objs.size,_,(pickOrder (w.params.setOrder a ep) es).toList,_,_,s.drawn,rfl,rfl,Uag _,?_,jG _ es,zd1 hh (Uba hlt) hd hf _ (flat _ (jG _ es)) (fun _=>0) ?_ ?_,⟨⟨_,hI,rfl,rfl⟩,Heap.get?_push_of_some _ ho⟩,fun b o e=>Heap.get?_push_of_some _ e⟩
   ·intro b hb
    simp only[Uaf,Ucl,or_false] at hb
    rcases hb with rfl | rfl
    ·exact .inr (Uag _)
    ·exact .inl rfl
   ·intro i e s' A' E' Q' ho' he q
    refine zd6 ho' hd hf hbt ?_
    rw[←Ubr,he]
    exact q
   ·intro s' A' E' Q' ho' q
    refine zd6 ho' hd hf hbt ?_
    rw[Array.getElem?_eq_none (by rw[←Ube,flat _ (jG _ es)];exact Uag _)]
    exact q
  | false=>
   have hn:(!t.plain&&decide (es.size > 1))=false:=by
    rw[hbt] at hm
    simpa using hm
   refine⟨s.heap.objs.size,_,es.toList,_,_,s.drawn,rfl,rfl,Uag _,?_,.refl _,zd1 hh (Uba hlt) hd hf _ (by simp) (zdJ t) ?_ ?_,⟨⟨_,hI,rfl,rfl⟩,Heap.get?_push_of_some _ ho⟩,fun b o e=>Heap.get?_push_of_some _ e⟩
   ·intro b hb
    simp only[Uaf,Ucl,or_false] at hb
    rcases hb with rfl | rfl
    ·exact .inr (Uag _)
    ·exact .inl rfl
   ·intro i e s' A' E' Q' ho' he q
    have hi:i<es.size:=by
     have:=(Ubh.mp he).1
     simpa using this
    refine zd4 ho' hd hf hbt hn (hled hbt) ?_
    rw[X2 hri (by omega),←Ubr,he,Ucv (by omega:i<t.place.size)]
    have e2:zdJ t (i+1)=t.place[i]'(by omega)+1:=by
     show t.place.getD i 0+1=_
     simp [Array.getD,show i<t.place.size by omega]
    rw[e2] at q
    exact q
   ·intro s' A' E' Q' ho' q
    refine zd4 ho' hd hf hbt hn (hled hbt) ?_
    rw[X2 hri (by omega),Array.getElem?_eq_none (Uag _)]
    exact q
end
section
variable {prog:Program}{w:World}{A:Around}{E:Value->Shared->Prop}{s:Shared}{a:Addr}{ms:List Int}
theorem zcZ {r:Addr}{Q:Bool->Shared->Prop} (hT:s.TypeIs (.ref r) "set") (h:Q false s):wpAny (model prog w) A (Builtin.List.listLengthHint (.ref r)) Q E s:=by
 unfold Builtin.List.listLengthHint
 refine wpAny_bind (wpAny_specialOf hT PySem.F.slot_set_len.lookup ?_)
 generalize hid:("set.__len__" : String)=id0
 wp_delta
 rw[show splitId id0=some ("set", "__len__") from by subst hid;decide +kernel]
 subst hid
 refine wpAny_bind (wpAny_isInstance (T:="set") (b:=true) hT (by rw[isSubtype_type];kernel_rfl) ?_)
 refine wpAny_ite_split (fun hab=>absurd hab (by decide)) (fun _=>?_)
 refine wpAny_ite_split (fun _=>?_) (fun hab=>absurd (by decide +kernel) hab)
 refine wpAny_bind (wpAny_typeOf hT ?_)
 exact wpAny_pure h
theorem zdl {es:Array (Int×Value)}{ord:List (Int×Value)}{acc:Array Value} (hp:ord.Perm es.toList) (hi:IntsAre (es.toList.map (·.2)) ms) (h:ItemsOf (fun i v=>∃e,ord[i]? = some e/\e.2=v) acc es.size):∃ms',IntsAre acc.toList ms'/\ms'.Perm ms:=by
 have hlo:ord.length=es.size:=by rw[hp.length_eq,Ube]
 have e:acc.toList=ord.map (·.2):=by
  apply List.ext_getElem
  ·rw[Ube,h.1,Uaa,hlo]
  ·intro i h1 h2
   obtain⟨e,h3,h4⟩:=h.2 i acc.toList[i] (by rw[←Ubr,Uai h1])
   rw[List.getElem_map,←h4]
   rw[Uai (by simpa using h2)] at h3
   cases h3;rfl
 rw[e]
 exact YG (hp.map (·.2)) hi
theorem zaI {R:Result->Shared->Prop} (hh:A.handled=none) (hS:QB prog w s.heap a ms) (S:Addr) (hSa:S≠a) (res:Value) (hSS:s.heap.get? S=some { cls:=.type "list",data:=.seq #[] })
  (hR:∀h' tk d acc' c' ms',(∀b o,b≠S->s.heap.get? b=some o->h'.get? b=some o)->h'.get? S=some { cls:=.type "list",dict:=none,data:=.seq acc' c',slots:=#[] }->IntsAre acc'.toList ms'->ms'.Perm ms->R (.ok (.ret res)) { s with heap:=h',toks:=tk,drawn:=d }) :
  wpAny (model prog w) A.in1 (Builtin.List.listExtendWith (.ref S) (.ref a) res)
   (fun fin s'=>match fin with | .done f=>R (.ok f) s' | .again c'=>c'.quiet=true/\codeAny (model prog w) A c' R s') (fun e s'=>R (.error e) s') s:=by
 obtain⟨o,es,ep,t,ho,hex,hd,D⟩:=hS
 obtain⟨hel,hint,hnd,hb,hf,hri,hled⟩:=id D
 have hT:s.TypeIs (.ref a) "set":=⟨o,ho,hex.1⟩
 have hn:es.size<=sizeLine:=fits_of_scanBound hb
 unfold Builtin.List.listExtendWith
 refine wpAny_bind (wpAny_typeOf (T:="set") hT ?_)
 have h1:Builtin.List.listSameRef (.ref S) (.ref a)=false:=by simp [Builtin.List.listSameRef,hSa]
 have h2:(Value.type "set" == Value.type "list")=false:=by decide +kernel
 have h3:(Value.type "set" == Value.type "tuple")=false:=by decide +kernel
 simp only[h1,h2,h3,Bool.or_false,Ucb,if_false]
 refine wpAny_bind (zc2 (ms:=ms) hh ho hex hd D ?_)
 rintro it s1 ⟨I,fp,ord,St,h0,d1,rfl,rfl,hI,hfp,hp,W,st,hk0⟩
 have hSI:S<s.heap.objs.size:=Heap.lt_size hSS
 have hSf:S∉fp:=fun q=>by
  rcases hfp S q with e | e
  ·exact hSa e
  ·exact absurd e (Nat.not_le.mpr hSI)
 have key:∀(h:Heap) (c₁ tk:Nat),St 0 h->(∀b o,b≠S->s.heap.get? b=some o->h.get? b=some o) →
   h.get? S=some { cls:=.type "list",data:=.seq #[] c₁ }->codeAny (model prog w) A (.builtin "list.extend.loop" ⟨[.ref S,.ref I,res],[]⟩) R { s with heap:=h,toks:=tk,drawn:=d1 }:=by
  intro h c₁ tk hst hk hS₁
  refine codeAny_extend_loopS W.toS hn S hSf res es.size 0 _ #[] c₁ rfl (Uax _) hst hS₁ (ItemsOf.nil _) fun s' acc' c' hm hS' hacc=>?_
  rw[Moved.eq_with hm]
  obtain⟨ms',i1,i2⟩:=zdl hp hint hacc
  refine hR s'.heap s'.toks d1 acc' c' ms' (fun b o hb e=>hm.heap b o (fun hmem=>?_) (hk b o hb e)) hS' i1 i2
  rcases Uaf.mp hmem with e' | hmem
  ·exact hb e'
  ·exact absurd (Heap.lt_size e) (by rw[Uam.mp hmem];exact Nat.not_lt.mpr hI)
 have hS₁:=hk0 _ _ hSS
 refine wpAny_bind (wpAny_holding (zcZ ⟨o,hk0 _ _ ho,hex.1⟩ ?_))
 refine wpAny_ite_split (fun _=>?_) (fun _=>wpAny_pure ⟨plainId_quiet PySem.F.plain_extend_loop _,key _ 0 _ st (fun b o _ e=>hk0 _ _ e) hS₁⟩)
 refine wpAny_bind (wpAny_rule ?_)
 refine wpAny_bind ?_
 show wpAny _ _ (updateSeq S (·.push .none) >>= fun _=>updateSeq S (·.pop)) _ _ _
 refine wpAny_bind (wpAny_updateSeq hS₁ rfl ?_)
 have hS₂:=Heap.get?_update_self (Obj.mapSeq (·.push Value.none)) hS₁ rfl
 refine wpAny_updateSeq (hz:=by seq_fits) hS₂ rfl ?_
 have hS₃:=Heap.get?_update_self (Obj.mapSeq (·.pop)) hS₂ rfl
 refine wpAny_pure ⟨plainId_quiet PySem.F.plain_extend_loop _,key _ _ _ ?_ (fun b o hb e=>?_) hS₃⟩
 ·refine W.frame 0 _ _ st fun b hb o e=>?_
  have hbS:b≠S:=fun h=>hSf (h▸hb)
  exact(Heap.get?_update_other _ _ (Ne.symm hbS)).trans ((Heap.get?_update_other _ _ (Ne.symm hbS)).trans e)
 ·exact(Heap.get?_update_other _ _ (Ne.symm hb)).trans ((Heap.get?_update_other _ _ (Ne.symm hb)).trans (hk0 _ _ e))
theorem VF {R:List Value->Shared->Prop} (hh:A.handled=none) (hS:QB prog w s.heap a ms)
  (h:∀(h':Heap) (tk:Nat) (d:Drawn) (vs:List Value) (ms':List Int),(∀b o,s.heap.get? b=some o->h'.get? b=some o)->IntsAre vs ms'->ms'.Perm ms->R vs { s with heap:=h',toks:=tk,drawn:=d }) :
  wpAny (model prog w) A (collect (.ref a)) R E s:=by
 have hlt:a<s.heap.objs.size:=let ⟨o,_,_,_,ho,_⟩:=hS;Heap.lt_size ho
 unfold collect
 refine wpAny_bind (wpAny_runValue (codeAny_builtin entry_proto_collect' ?_))
 rw[Around.under_plainId PySem.F.plain_proto_collect _]
 show wpAny _ A.in1 (newList [] >>= fun l=>again (.builtin "list.__iadd__" ⟨[l,.ref a],[]⟩)) _ _ s
 refine wpAny_bind (wpAny_newObj_type ?_)
 refine wpAny_pure ⟨plainId_quiet PySem.F.plain_list_iadd _,codeAny_builtin entry_list_iadd' ?_⟩
 rw[Around.under_plainId PySem.F.plain_list_iadd _]
 have hS₁:(s.heap.push { cls:=.type "list",data:=.seq ([]:List Value).toArray }).get? s.heap.objs.size=some { cls:=.type "list",data:=.seq #[] }:=Heap.get?_push_size _ rfl
 show wpAny _ A.in1 (Builtin.List.listExtendWith (.ref s.heap.objs.size) (.ref a) (.ref s.heap.objs.size)) _ _ _
 have key:=zaI (A:=A) (s:={ s with heap:=s.heap.push { cls:=.type "list",data:=.seq ([]:List Value).toArray } })
  (R:=fun (q:Result) (s':Shared)=>∃(h':Heap) (tk:Nat) (d:Drawn) (acc':Array Value) (c':Nat) (ms':List Int),q=.ok (.ret (.ref s.heap.objs.size))/\s'={ s with heap:=h',toks:=tk,drawn:=d } ∧
   (∀b o,s.heap.get? b=some o->h'.get? b=some o)/\h'.get? s.heap.objs.size=some { cls:=.type "list",dict:=none,data:=.seq acc' c',slots:=#[] }/\IntsAre acc'.toList ms'/\ms'.Perm ms)
  hh (hS.keep fun o e=>Heap.get?_push_of_some _ e) s.heap.objs.size (Nat.ne_of_gt hlt) (.ref s.heap.objs.size) hS₁
  (fun h' tk d acc' c' ms' hk hS' i1 i2=>⟨h',tk,d,acc',c',ms',rfl,rfl,fun b o e=>hk b o (Uba (Heap.lt_size e)) (Heap.get?_push_of_some _ e),hS',i1,i2⟩)
 refine wpAny_mono key (fun fin s' x=>?_) fun e s' x=>?_
 ·cases fin with
  | done f=>
   obtain⟨h',tk,d,acc',c',ms',e,rfl,hk,hS',i1,i2⟩:=x
   cases e
   show wpAny _ A (load s.heap.objs.size >>= _) _ _ _
   refine wpAny_bind (wpAny_load hS' ?_)
   exact wpAny_pure (h h' tk d _ ms' hk i1 i2)
  | again c₁=>
   refine⟨x.1,codeAny_mono x.2 fun q s₂ y=>?_⟩
   obtain⟨h',tk,d,acc',c',ms',rfl,rfl,hk,hS',i1,i2⟩:=y
   show wpAny _ A (load s.heap.objs.size >>= _) _ _ _
   refine wpAny_bind (wpAny_load hS' ?_)
   exact wpAny_pure (h h' tk d _ ms' hk i1 i2)
 ·obtain⟨_,_,_,_,_,_,e',_⟩:=x
  cases e'
end
end NP
namespace NP
open PySem PySem.Spec PyProof.Rows L2
def zhp (P:Program) (w:World) (a:Addr) (ms:List Int):HO:=.ext fun h=>QB P w h a ms
section
variable {X:Cx}
theorem zbh (hc:X.calm=true):kY X (.type "set") (fun xs H Q=>∃(l:Addr) (ns:List Int),xs=[.ref l]/\H l=some (.lst (ns.map V.int))/\ns.length<1000 ∧
  ∀(a:Addr) (ms:List Int),H a=none->ms.Nodup->ms.length<=ns.length->(∀z,z∈ms↔z∈ns)->Q (.ref a) (upd H a (zhp X.prog X.w a ms))):=by
 intro pins s σ H xs us Q I r h
 obtain⟨l,ns,rfl,hl,hn,q⟩:=h
 obtain⟨u,rfl,rx⟩:=wo r
 cases rx
 obtain⟨hz,its,nn,hv,hob⟩:=I.hok _ _ hl
 have hi:IntsAre its ns:=ym.ints hv
 refine VJ (I.ok.hd hc) ⟨_,hob,rfl,nn,rfl⟩ (items:=its.toArray) (ns:=ns) (by simpa using hi) (by rw[Uav,hi.length];exact Ubf (Nat.succ_lt_succ hn) (by decide)) fun h' tk ms hS hlm hm hk=>?_
 have hnd:ms.Nodup:=let ⟨_,_,_,_,_,_,_,D⟩:=hS;D.2.2.1
 have hg:∃o,h'.get? s.heap.objs.size=some o:=let ⟨o,_,_,_,e,_⟩:=hS;⟨o,e⟩
 exact⟨.ref s.heap.objs.size,upd H s.heap.objs.size (zhp X.prog X.w s.heap.objs.size ms),I.laid (t':=tk) (fun b u hu=>hk b u (Heap.lt_size hu) hu) (Uag _) ⟨hS,hg,fun h1 h2 x k=>x.keep k⟩,rfl,q _ ms (I.hok.fresh (Uag _)) hnd hlm hm⟩
theorem Xq (hc:X.calm=true):kY X (.builtin "sorted") (fun xs H Q=>∃(r:Addr) (ns:List Int),xs=[.ref r]/\H r=some (zhp X.prog X.w r ns)/\ns.length<64 ∧
  ∀(l:Addr) (ms:List Int),H l=none->ms.Perm ns->ms.Pairwise (·<=·)->Q (.ref l) (upd H l (.lst (ms.map V.int)))):=by
 intro pins s σ H xs us Q I r h
 obtain⟨r',ns0,rfl,hr,h64,q⟩:=h
 obtain⟨u,rfl,rx⟩:=wo r
 cases rx
 have hS:QB X.prog X.w s.heap r' ns0:=(I.hok _ _ hr).1
 refine PySem.Calls.call_function_entry kind_sorted plain_sorted entry_sorted (args_sorted1 _) ?_
 unfold Builtin.«sorted»
 refine wpAny_bind (m:=checkCount "sorted" 1 1 _) (wpAny_pure ?_)
 refine wpAny_bind (VF (A:=X.A.in1) (I.ok.hd hc) hS fun h' tk d vs ns hk hi hpm=>?_)
 have hln:ns.length=ns0.length:=hpm.length_eq
 refine wpAny_bind (wpAny_newList ?_ (by rw[hi.length,hln];exact Vk h64))
 have I1:Inv X pins σ H { s with heap:=h',toks:=tk,drawn:=d }:=I.call (g':=s.gens) (t':=tk) (d':=d) (ch:=[]) (Un.kept hk) (I.hok.kept hk) I.bare fun _ z=>nomatch z
 have hob:(h'.push { cls:=.type "list",data:=.seq vs.toArray }).get? h'.objs.size=some { cls:=.type "list",data:=.seq vs.toArray }:=Heap.get?_push_size _ rfl
 refine wpAny_bind (wpAny_holding (wpAny_call_entry PyProof.Rows.slot_list_sort ⟨_,hob,rfl⟩ PyProof.Rows.entry_list_sort
  (PyProof.Rows.list_sort_tree hob hi (by rw[hi.length];omega) fun out ns' h1 h2 h3=>⟨.none,rfl,?_⟩) (PyProof.Rows.args_list_sort _)))
 refine wpAny_pure ⟨_,rfl,?_⟩
 obtain⟨ep',he'⟩:=PyProof.Rows.sortedHeap_at (vs:=vs) (out:=out) hob
 have hlen:(ns'.map V.int).length<=sizeLine:=by rw[Uaa,h2.length_eq,hln];exact Vk h64
 refine⟨.ref h'.objs.size,upd H h'.objs.size (.lst (ns'.map V.int)),I1.laid (t':=tk) (fun b u hu=>?_) (Uag _) ⟨hlen,out.toList,ep',qX h1,he'⟩,rfl,q _ ns' (I1.hok.fresh (Uag _)) (h2.trans hpm) h3⟩
 have hlt:=Heap.lt_size hu
 rw[PyProof.Rows.sortedHeap_old (Uba hlt) (by rw[size_push'];exact Ubv hlt),Heap.get?_push_ne _ _ _ (Uba hlt)]
 exact hu
end
def zcP (K:PySem.W.Frag) (a:Addr) (xs:List V):Prop:=∃(o:Obj) (its:Array Value) (n:Nat),K.lookup a=some o/\o.cls=.type "tuple"/\o.data=.seq its n/\its.size<=sizeLine/\ym xs its.toList
theorem zcP.sq {K:PySem.W.Frag}{a:Addr}{xs:List V} (h:zcP K a xs) (H:Hp):SqT K H a xs:=.inr h
inductive YI (K:PySem.W.Frag):List DictEntry->List (Int×List V)->Prop
 | nil:YI K [] []
 | cons {n:Int}{t:Tok}{b:Addr}{xs:List V}{es:List DictEntry}{D:List (Int×List V)}:zcP K b xs->YI K es D->YI K (⟨hashInt n,.int n t,.ref b⟩::es) ((n,xs)::D)
def GD (K:PySem.W.Frag) (mg:Str->Option Value) (x:Str) (D:List (Int×List V)):Prop:=
 ∃a o es ep,mg x=some (.ref a)/\K.lookup a=some o/\o.ExactDict/\o.data=.dict es ep/\YI K es.toList D/\(D.map (·.1)).Nodup
theorem YI.keys {K:PySem.W.Frag}{P:Program}{w:World}{es:List DictEntry}{D:List (Int×List V)} (h:YI K es D):∀e∈es,∃k,(zI P w).is k e.key=true/\e.hash=(zI P w).hash k:=by
 induction h with
 | nil=>intro e he;simp at he
 | @cons n t b xs es D hb r ih=>
  intro e he
  rcases Uaf.mp he with rfl | he
  ·exact⟨.inl n,ww n t,rfl⟩
  ·exact ih e he
theorem YI.pairs {K:PySem.W.Frag}{P:Program}{w:World}{es:List DictEntry}{D:List (Int×List V)} (h:YI K es D):∃kvs:List (Key×Value),PySem.Pairs (zI P w) es kvs/\kvs.map (·.1)=D.map (fun p=>Sum.inl p.1) ∧
  ∀n xs,D.lookup n=some xs->∃b,zcP K b xs/\valueAt kvs (.inl n)=some (.ref b):=by
 induction h with
 | nil=>exact⟨[],.nil,rfl,fun n xs h=>by simp at h⟩
 | @cons n t b xs es D hb r ih=>
  obtain⟨kvs,p,e,l⟩:=ih
  refine⟨(.inl n,.ref b)::kvs,.cons (ww n t) rfl p,by simp [e],fun m ys h=>?_⟩
  rw[Uch] at h
  by_cases hm:m=n
  ·subst hm
   simp at h
   subst h
   exact⟨b,hb,by unfold valueAt;simp⟩
  ·rw[Ubi.mpr hm] at h
   obtain⟨b',h1,h2⟩:=l m ys h
   refine⟨b',h1,?_⟩
   unfold valueAt at h2 ⊢
   rw[Uar,Uab (fun q=>hm (Sum.inl.inj q).symm)]
   exact h2
theorem zhO {X:Cx}{x:Str}{D:List (Int×List V)}{p pos:Pos}{i:Expr}{ti:TE} (h:GD X.K X.mg x D) (hi:PE X i ti) (hsl:zhi i) (hg:Gl X x:=by rfl) (hd:(x == ("__debug__" : Str))=false:=by decide) :
  PE X (.Subscript (.Name x p) i pos) (fun σ H Q=>ti σ H fun y H1=>∃n xs,y=.int n/\D.lookup n=some xs/\∀b,SqT X.K H1 b xs->Q (.ref b) H1):=by
 intro pins s σ H Q I h'
 obtain⟨a,o,es,ep,hm,hl,hx,hdt,hD,hn⟩:=h
 refine zcK PySem.F.slot_dict_getitem.lookup hsl (vo I hg hm ?_ hd)
 refine thn (hi pins s σ H _ I h') fun iv s2 ⟨y,H2,I2,ry,n,xs,ey,hlk,q⟩=>?_
 subst ey
 obtain⟨t,rfl⟩:=ry
 have hga:s2.heap.get? a=some o:=I2.kIn _ _ hl
 obtain⟨kvs,pr,ek,l⟩:=hD.pairs (P:=X.prog) (w:=X.w)
 obtain⟨b,hb,hv⟩:=l n xs hlk
 have dd:s2.heap.DictOf (zI X.prog X.w) a kvs:=⟨o,es,ep,hga,hx,hdt,fun e he=>hD.keys e (by simpa using he),pr,by
  rw[ek]
  have:=hn
  rw[show D.map (fun p=>(Sum.inl p.1:Key))=(D.map (·.1)).map Sum.inl by rw[Uau];rfl]
  exact List.Pairwise.map _ (fun a b h q=>h (Sum.inl.inj q)) this⟩
 refine⟨dd.typeIs,wpAny_getItem_of (ww n t) dd.mapOf hv ?_⟩
 exact⟨.ref b,H2,I2.tok _,rfl,q b (hb.sq H2)⟩
theorem zfj {d:Addr}{o:Obj}{kvs:List (Key×V)}{g:TG}{tt:TT}{te:TE}{vs:List Nat}{σ:L2.St}{H1:Hp}{D:Addr}{Qd:Hp->Prop} (Pv:Nat->Hp->Prop) (h0:Pv 0 (upd H1 D (.lst []))) (hl:∀i H,i<=kvs.length->Pv i H->H d=some (.frz o (.dK kvs)))
  (hs:∀i k x H,kvs[i]? = some (k,x)->Pv i H->g x (y9 σ vs) H fun σ2 H2=>y9 σ2 vs=y9 σ vs/\tt σ2 H2 fun b H3=>
   if b=true then te σ2 H3 fun y H4=>∃acc,H4 D=some (.lst acc)/\acc.length<sizeLine/\Pv (i+1) (upd H4 D (.lst (acc++[y]))) else Pv (i+1) H3) (hd:∀H,Pv kvs.length H->Qd H) :
  ∃W:Nat->Nat->Hp->Prop,(∃m,W 0 m (upd H1 D (.lst [])))/\∀i m H,W i m H →
   ((Itd d o kvs).stop i H/\Qd H)\/((Itd d o kvs).go i H/\∃Nx:Hp->Prop,(∀H',Nx H'->∃m',m'<m/\W (i+1) m' H')/\∀x H',(Itd d o kvs).yld i H x H'->g x (y9 σ vs) H' fun σ2 H2=>y9 σ2 vs=y9 σ vs/\tt σ2 H2 fun b H3=>
    if b=true then te σ2 H3 fun y H4=>∃acc,H4 D=some (.lst acc)/\acc.length<sizeLine/\Nx (upd H4 D (.lst (acc++[y]))) else Nx H3):=by
 refine⟨fun i m H=>i<=kvs.length/\m=kvs.length-i/\Pv i H,⟨kvs.length,Uax _,rfl,h0⟩,fun i m H ⟨hi,hm,hP⟩=>?_⟩
 by_cases e:i=kvs.length
 ·subst e
  exact .inl ⟨⟨hl _ _ (Uag _) hP,Uag _⟩,hd H hP⟩
 ·have hlt:i<kvs.length:=by omega
  refine .inr ⟨⟨hl _ _ hi hP,hlt⟩,Pv (i+1),fun H' h=>⟨kvs.length-(i+1),by omega,by omega,rfl,h⟩,fun x H' ⟨eH,k,ek⟩=>?_⟩
  subst eH
  exact hs i k x _ ek hP
def CF (K:PySem.W.Frag) (C:Addr) (f:Str):Prop:=Cls K C/\kr K C f
section
variable {K:PySem.W.Frag}{σ:L2.St}{H:Hp}{Q:VK}{QT:Bool->Hp->Prop}{QA:List V->Hp->Prop}{D:KS}{t u:TS}{c c':TT}{ta tb tc td ty tx:TE}{tl tr:TA}{r r':R2}{v:V}{f:Str}{g:TG}{wi:TI}
theorem zhy (h:t { D with nx:=u D } σ H):ziy t u D σ H:=h
theorem zhR (h:c σ H fun b H1=>if b=true then t D σ H1 else u D σ H1):ziM c t u D σ H:=h
theorem zhP (h:ta σ H D.rt):ziI ta D σ H:=h
theorem zic {n:L2.St->Hp->Prop}{rt:VK}{bk ct:L2.St->Hp->Prop} (h:n σ H):KS.nx { nx:=n,rt:=rt,bk:=bk,ct:=ct } σ H:=h
theorem zhv {n:L2.St->Hp->Prop}{rt:VK}{bk ct:L2.St->Hp->Prop} (h:rt v H):KS.rt { nx:=n,rt:=rt,bk:=bk,ct:=ct } v H:=h
theorem zif {n:L2.St->Hp->Prop}{rt:VK}{bk ct:L2.St->Hp->Prop} (h:ct σ H):KS.ct { nx:=n,rt:=rt,bk:=bk,ct:=ct } σ H:=h
theorem zgb (h:D.nx σ H):zgC D σ H:=h
theorem zg8 (h:D.ct σ H):zfV D σ H:=h
theorem zgl (h:ta σ H fun _ H1=>D.nx σ H1):zfZ ta D σ H:=h
theorem zh1 (h:ta σ H fun x H1=>g x σ H1 D.nx):zgz ta g D σ H:=h
theorem ziN {i:Nat}{QG:L2.St->Hp->Prop} (h:QG (σ.set i (some v)) H):kU i v σ H QG:=h
theorem zii {i:Nat} (e:σ[i]? = some (some v)) (h:Q v H):zhk i σ H Q:=⟨v,e,h⟩
theorem r_c (h:Q v H):tC v σ H Q:=h
theorem zhM (h:ta σ H fun x H1=>∃a C dx fs v,x=.ref a/\H1 a=some (.ins C dx fs)/\Cls K C/\kr K C f/\fs.lookup f=some v/\Q v H1):zhl K ta f σ H Q:=h
theorem zhr {a C dx:Addr}{fs:List (Str×V)}{F:V->Prop} (e:H a=some (.ins C dx fs)) (c:CF K C f) (l:fs.lookup f=some v) (h:F v):∃a' C dx fs v,V.ref a=.ref a'/\H a'=some (.ins C dx fs)/\Cls K C/\kr K C f/\fs.lookup f=some v/\F v:=⟨a,C,dx,fs,v,rfl,e,c.1,c.2,l,h⟩
theorem zgv (h:tb σ H fun y H1=>ta σ H1 fun x H2=>∃a C dx fs,x=.ref a/\H2 a=some (.ins C dx fs)/\Cls K C/\kr K C f/\fs.length<1000/\D.nx σ (upd H2 a (.ins C dx (xN f y fs)))):zhX K ta tb f D σ H:=h
theorem zdS {a C dx:Addr}{fs:List (Str×V)}{QN:Hp->Prop} (e:H a=some (.ins C dx fs)) (c:CF K C f) (l:fs.length<1000) (h:QN (upd H a (.ins C dx (xN f v fs)))):∃a' C dx fs,V.ref a=.ref a'/\H a'=some (.ins C dx fs)/\Cls K C/\kr K C f/\fs.length<1000/\QN (upd H a' (.ins C dx (xN f v fs))):=⟨a,C,dx,fs,rfl,e,c.1,c.2,l,h⟩
theorem ziT (h:ta σ H fun x H1=>tb σ H1 fun y H2=>r x y H2 Q):tOp r ta tb σ H Q:=h
theorem zi6 {f:Int->Int->V}{i j:Int} (h:Q (f i j) H):rI0 f (.int i) (.int j) H Q:=⟨i,j,rfl,rfl,h⟩
theorem zga {i j:Int}:decide (V.int i=V.int j)=decide (i=j):=by
 by_cases e:i=j
 ·subst e;simp
 ·rw[Uab e,Uab fun q=>e (V.int.inj q)]
theorem zh0 {i j:Str}:decide (V.str i=V.str j)=decide (i=j):=by
 by_cases e:i=j
 ·subst e;simp
 ·rw[Uab e,Uab fun q=>e (V.str.inj q)]
theorem zhW {i j:Int} (h:Q (.bl (decide (i=j))) H):rEq (.int i) (.int j) H Q:=⟨rfl,by rw[zga];exact h⟩
theorem zh7 {i j:Int} (h:Q (.bl (!decide (i=j))) H):rNe (.int i) (.int j) H Q:=⟨rfl,by rw[zga];exact h⟩
theorem zhu {i j:Str} (h:Q (.bl (decide (i=j))) H):rEq (.str i) (.str j) H Q:=⟨rfl,by rw[zh0];exact h⟩
theorem zgs (h:ta σ H fun x H'=>∃k,x=.bl k/\QT k H'):zg4 ta σ H QT:=h
theorem zi8 (h:ta σ H fun x H'=>∃k,x=.bl k/\QT k H'):tB ta σ H QT:=h
theorem ziV {P:Bool->Prop}{b:Bool} (h:P b):∃k,V.bl b=.bl k/\P k:=⟨b,rfl,h⟩
theorem zhn (h:c σ H fun b H1=>if b=true then c' σ H1 QT else QT false H1):ziK c c' σ H QT:=h
theorem zi3 (h:c σ H fun b H1=>if b=true then QT true H1 else c' σ H1 QT):tOr c c' σ H QT:=h
theorem zh5 (h:c σ H fun b H1=>QT (!b) H1):ziL c σ H QT:=h
theorem zf7 (h:ta σ H fun x H1=>∃k,x=.bl k/\if k=true then tb σ H1 Q else Q (.bl false) H1):zgA ta tb σ H Q:=h
theorem zhN (h:ta σ H fun x H1=>∃k,x=.bl k/\if k=true then Q (.bl true) H1 else tb σ H1 Q):ziE ta tb σ H Q:=h
theorem zhJ (h:c σ H fun b H1=>if b=true then ta σ H1 Q else tb σ H1 Q):tIf c ta tb σ H Q:=h
theorem zfn (h:ta σ H fun x H1=>tb σ H1 fun y H2=>r x y H2 fun z H3=>∃k,z=.bl k/\if k=true then tc σ H3 fun w' H4=>r' y w' H4 Q else Q (.bl false) H3):zeu r r' ta tb tc σ H Q:=h
theorem zh8 (h:QA [] H):zfI σ H QA:=h
theorem zgO (h:ta σ H fun x H1=>tr σ H1 fun xs H2=>QA (x::xs) H2):zc3 ta tr σ H QA:=h
theorem zg3 {sp:Sp} (h:tl σ H fun vs H1=>sp vs H1 Q E0):zdD sp [] E0 tl σ H Q:=by
 show tl σ H fun vs H1=>sp (vs++[]) H1 Q E0
 have e:(fun (vs:List V) (H1:Hp)=>sp (vs++[]) H1 Q E0)=fun vs H1=>sp vs H1 Q E0:=by
  funext vs H1
  rw[Ubo]
 rw[e]
 exact h
theorem ziX {S:Addr->Prop}{m:Str}{sp:Sp} (h:ta σ H fun x H1=>∃a C dx fs,x=.ref a/\S C/\H1 a=some (.ins C dx fs)/\fs.lookup m=none/\tl σ H1 fun vs H2=>sp (x::vs) H2 Q E0):tMP S m sp ta tl σ H Q:=h
theorem zi9 {S:Addr->Prop}{m:Str}{F:Prop}{a C dx:Addr}{fs:List (Str×V)} (e:H a=some (.ins C dx fs)) (s:S C) (l:fs.lookup m=none) (h:F):∃a' C dx fs,V.ref a=.ref a'/\S C/\H a'=some (.ins C dx fs)/\fs.lookup m=none/\F:=⟨a,C,dx,fs,rfl,s,e,l,h⟩
theorem zjd {rr:List V->Hp->VK->Prop} (h:tl σ H fun vs H1=>rr vs H1 Q):tCB rr tl σ H Q:=h
theorem zhF {rr:List V->List V->Hp->VK->Prop}{tk:TA} (h:tl σ H fun vs H1=>tk σ H1 fun zs H2=>rr vs zs H2 Q):ziG rr tl tk σ H Q:=h
theorem zi5 {T:String}{rr:V->List V->Hp->VK->Prop} (h:ta σ H fun x H1=>tyV K T x H1/\tl σ H1 fun xs H2=>rr x xs H2 Q):tBM K T rr ta tl σ H Q:=h
theorem Y1 {a:Addr}{xs:List V}{P:Prop} (e:H a=some (.lst xs)) (h:P):tyV K "list" (.ref a) H/\P:=⟨.inl ⟨rfl,xs,SqL.of e⟩,h⟩
theorem zhz (h:tl σ H fun xs H1=>xs.length<=sizeLine/\∀p,H1 p=none->Q (.ref p) (upd H1 p (.lst xs))):zit tl σ H Q:=h
theorem zhU (h:tl σ H fun xs H1=>xs.length<=sizeLine/\∀p,H1 p=none->Q (.ref p) (upd H1 p (.tup xs))):ziJ tl σ H Q:=h
theorem zf9 (h:td σ H fun x H1=>ty σ H1 fun y H2=>∃a v,x=.ref a/\Qw H2 a y (some v)/\Q v H2):zgS td ty σ H Q:=h
theorem xM {a:Addr}{kvs:List (Key×V)}{n:Int}{F:V->Prop} (e:Rd H a (.dK kvs)) (l:xr kvs (.inl n)=some v) (h:F v):∃a' v,V.ref a=.ref a'/\Qw H a' (.int n) (some v)/\F v:=⟨a,v,rfl,.inl ⟨kvs,.inl n,e,rfl,l.symm⟩,h⟩
theorem zh2 (h:ty σ H fun y H1=>td σ H1 fun x H2=>∃a o,x=.ref a/\Qw H2 a y o/\Q (.bl o.isSome) H2):ziu ty td σ H Q:=h
theorem zdj (h:ty σ H fun y H1=>td σ H1 fun x H2=>∃a o,x=.ref a/\Qw H2 a y o/\Q (.bl (!o.isSome)) H2):zcc ty td σ H Q:=h
theorem qB {a:Addr}{kvs:List (Key×V)}{n:Int}{F:Option V->Prop} (e:Rd H a (.dK kvs)) (h:F (xr kvs (.inl n))):∃a' o,V.ref a=.ref a'/\Qw H a' (.int n) o/\F o:=⟨a,_,rfl,.inl ⟨kvs,.inl n,e,rfl,rfl⟩,h⟩
theorem zfA (h:td σ H fun x H1=>∃a,x=.ref a/\IsD H1 a/\ty σ H1 fun y H2=>∃o,Qw H2 a y o/\Q (o.getD .non) H2):zd0 td ty σ H Q:=h
theorem zeW (h:td σ H fun x H1=>∃a,x=.ref a/\IsD H1 a/\ty σ H1 fun y H2=>tx σ H2 fun z H3=>∃o,Qw H3 a y o/\Q (o.getD z) H3):zd5 td ty tx σ H Q:=h
theorem zar {a:Addr}{kvs:List (Key×V)}{P:Addr->Prop} (e:Rd H a (.dK kvs)) (h:P a):∃a',V.ref a=.ref a'/\IsD H a'/\P a':=⟨a,rfl,.inl ⟨kvs,e⟩,h⟩
theorem YK {a:Addr}{kvs:List (Key×V)}{n:Int}{F:Option V->Prop} (e:Rd H a (.dK kvs)) (h:F (xr kvs (.inl n))):∃o,Qw H a (.int n) o/\F o:=⟨_,.inl ⟨kvs,.inl n,e,rfl,rfl⟩,h⟩
theorem zhH {ob:Addr->Addr->HO} (h:td σ H fun x H1=>∃d kvs,x=.ref d/\Rd H1 d (.dK kvs)/\∀r,H1 r=none->Q (.ref r) (upd H1 r (ob r d))):zhZ ob td σ H Q:=h
theorem zgF (h:tb σ H fun v H1=>td σ H1 fun x H2=>ty σ H2 fun y H3=>∃a H4,x=.ref a/\zhe H3 a y v H4/\D.nx σ H4):zgr td ty tb D σ H:=h
theorem Zz {a:Addr}{kvs:List (Key×V)}{n:Int}{QN:Hp->Prop} (e:H a=some (.dK kvs)) (l:kvs.length<sizeLine) (h:QN (upd H a (.dK (Qn kvs (.inl n) v)))):∃a' H4,V.ref a=.ref a'/\zhe H a' (.int n) v H4/\QN H4:=⟨a,_,rfl,.inl ⟨kvs,.inl n,e,rfl,l,rfl⟩,h⟩
theorem zfU (h:∀p,H p=none->Q (.ref p) (upd H p (.dK []))):zd2 σ H Q:=h
theorem ziZ {rr:V->Option Int->Option Int->Hp->VK->Prop}{lo hi:TO} (h:ta σ H fun x H1=>lo σ H1 fun l H2=>hi σ H2 fun u H3=>rr x l u H3 Q):tSl rr ta lo hi σ H Q:=h
theorem zhL {QO:Option Int->Hp->Prop} (h:QO none H):zbL σ H QO:=h
theorem zg5 {QO:Option Int->Hp->Prop} (h:ta σ H fun x H1=>∃i,x=.int i/\QO (some i) H1):zfN ta σ H QO:=h
theorem zid {P:Int->Prop}{i:Int} (h:P i):∃k,V.int i=.int k/\P k:=⟨i,rfl,h⟩
theorem yX {a:Addr}{xs:List V}{i:Nat} (e:SqL K H a xs) (l:xs[i]? = some v) (h:Q v H):zhh K (.ref a) (.int (i:Int)) H Q:=⟨a,xs,i,v,rfl,rfl,e,za0 l,h⟩
theorem Qu {a:Addr}{xs:List V}{i:Nat} (e:SqT K H a xs) (l:xs[i]? = some v) (h:Q v H):zih K (.ref a) (.int (i:Int)) H Q:=⟨a,xs,i,v,rfl,rfl,e,za0 l,h⟩
theorem ql {a b:Addr}{xs ys:List V} (e:H a=some (.lst xs)) (e':H b=some (.lst ys)) (l:xs.length+ys.length<=sizeLine) (h:∀p,H p=none->Q (.ref p) (upd H p (.lst (xs++ys)))):zik (.ref a) (.ref b) H Q:=⟨a,b,xs,ys,rfl,rfl,e,e',l,h⟩
theorem XG {a b:Addr}{xs ys:List V} (e:H a=some (.lst xs)) (e':H b=some (.lst ys)) (l:xs.length+ys.length<=sizeLine) (h:Q .non (upd H a (.lst (xs++ys)))):Vu (.ref a) [.ref b] H Q:=⟨a,b,xs,ys,rfl,rfl,e,e',l,h⟩
theorem zh3 {a:Addr}{xs:List V} (e:H a=some (.lst xs)) (l:xs.length<sizeLine) (h:Q .non (upd H a (.lst (xs++[v])))):Vp (.ref a) [v] H Q:=⟨a,xs,v,rfl,rfl,e,l,h⟩
theorem zfJ {C:Addr}{sp:Sp} (h:tl σ H fun vs H1=>∀x dx,H1 x=none->H1 dx=none->dx≠x->sp (.ref x::vs) (upd (upd H1 dx (.own x)) x (.ins C dx [])) (fun v H2=>v=.non/\Q (.ref x) H2) E0):zbq C sp [] E0 tl σ H Q:=by
 show tl σ H fun vs H1=>∀x dx,H1 x=none->H1 dx=none->dx≠x->sp (.ref x::(vs++[])) (upd (upd H1 dx (.own x)) x (.ins C dx [])) (fun v H2=>v=.non/\Q (.ref x) H2) E0
 have e:(fun (vs:List V) (H1:Hp)=>∀x dx,H1 x=none->H1 dx=none->dx≠x->sp (.ref x::(vs++[])) (upd (upd H1 dx (.own x)) x (.ins C dx [])) (fun v H2=>v=.non/\Q (.ref x) H2) E0) =
   fun vs H1=>∀x dx,H1 x=none->H1 dx=none->dx≠x->sp (.ref x::vs) (upd (upd H1 dx (.own x)) x (.ins C dx [])) (fun v H2=>v=.non/\Q (.ref x) H2) E0:=by
  funext vs H1
  rw[Ubo]
 rw[e]
 exact h
theorem ziS {vs:List Nat} (h:wi σ H fun J H1=>∀D,H1 D=none->∃W:Nat->Nat->Hp->Prop,(∃m,W 0 m (upd H1 D (.lst [])))/\∀i m H,W i m H →
 (J.stop i H/\Q (.ref D) H)\/(J.go i H/\∃Nx:Hp->Prop,(∀H',Nx H'->∃m',m'<m/\W (i+1) m' H')/\∀x H',J.yld i H x H'->g x (y9 σ vs) H' fun σ2 H2=>y9 σ2 vs=y9 σ vs/\c σ2 H2 fun b H3=>
  if b=true then ta σ2 H3 fun y H4=>∃acc,H4 D=some (.lst acc)/\acc.length<sizeLine/\Nx (upd H4 D (.lst (acc++[y]))) else Nx H3)):tLc wi g c ta vs σ H Q:=h
theorem zhI (h:QT true H):ziw σ H QT:=h
end
theorem zS {H:Hp}{a p:Addr}{o u:HO} (h:H a=some o) (hp:H p=none):upd H p u a=some o:=by rw[zh (zm h hp)];exact h
theorem _root_.L2.Same.new {H:Hp}{p:Addr}{u:HO} (hp:H p=none):Same H (upd H p u):=fun _ _ h=>zS h hp
theorem _root_.L2.Same.upd {H H':Hp}{p:Addr}{u:HO} (s:Same H H') (hp:H' p=none):Same H (L2.upd H' p u):=s.trans (Same.new hp)
theorem _root_.L2.Same.rd {H H':Hp}{a:Addr}{o:HO} (s:Same H H') (h:Rd H a o):Rd H' a o:=by
 rcases h with h | ⟨f,h⟩
 ·exact .inl (s _ _ h)
 ·exact .inr ⟨f,s _ _ h⟩
def zv (d:Addr) (H H':Hp):Prop:=∀b o,b≠d->H b=some o->H' b=some o
theorem _root_.L2.Same.x {d:Addr}{H H':Hp} (s:Same H H'):zv d H H':=fun b o _ h=>s b o h
theorem zv.refl (d:Addr) (H:Hp):zv d H H:=fun _ _ _ h=>h
theorem zv.trans {d:Addr}{H H1 H2:Hp} (a:zv d H H1) (b:zv d H1 H2):zv d H H2:=fun c o n h=>b c o n (a c o n h)
structure Cs where
 (nm ge sp ac bk vw tl cl rd:Addr)
def Jw (C:Cs) (a:Addr):Prop:=a=C.ge\/a=C.sp
def K1 (C:Cs) (a:Addr):Prop:=a=C.ge
def JY (C:Cs) (a:Addr):Prop:=a=C.sp
def zie (C:Cs) (a:Addr):Prop:=a=C.ac
def xR (C:Cs) (a:Addr):Prop:=a=C.bk
def yH (C:Cs) (a:Addr):Prop:=a=C.vw
def wG (C:Cs) (a:Addr):Prop:=a=C.tl
def zgU (C:Cs) (a:Addr):Prop:=a=C.cl
def xl (C:Cs) (a:Addr):Prop:=a=C.rd
def GT (K:PySem.W.Frag) (mg:Str->Option Value) (x:Str) (ns:List Int):Prop:=∃a,mg x=some (.ref a)/\zcP K a (ns.map V.int)
def tGT (K:PySem.W.Frag) (ns:List Int):TE:=fun _ H Q=>∀a,zcP K a (ns.map V.int)->Q (.ref a) H
theorem zhA {X:Cx}{x:Str}{ns:List Int}{pos:Pos} (h:GT X.K X.mg x ns) (hg:Gl X x:=by rfl) (hd:(x == ("__debug__" : Str))=false:=by decide):PE X (.Name x pos) (tGT X.K ns):=
 let ⟨a,hm,t⟩:=h
 fun pins s σ H Q I q=>vo I hg hm ⟨.ref a,H,I,rfl,q a t⟩ hd
theorem V0 {K:PySem.W.Frag}{ns:List Int}{σ:L2.St}{H:Hp}{Q:VK} (h:∀a,zcP K a (ns.map V.int)->Q (.ref a) H):tGT K ns σ H Q:=h
section
variable {X:Cx}
theorem zd (K:PySem.W.Frag) {e:Expr}{ta:TE}{f:Str}{pos:Pos} (he:PE X e ta) (hb:attributeBase e f X.env (eval e X.env)=eval e X.env) (hK:X.K=K:=by rfl):PE X (.Attribute e f pos) (zhl K ta f):=by subst hK;exact zgk he hb
theorem zF (K:PySem.W.Frag) {o value:Expr}{ta tv:TE}{f:Str}{pos pos':Pos} (ha:PE X o ta) (hv:PE X value tv) (hs:swapsWith value (some (.Attribute o f pos')) pos.line X.env=pure false) (hK:X.K=K:=by rfl):PS X (.Assign [.Attribute o f pos'] value pos) (zhX K ta tv f):=by subst hK;exact zgK ha hv hs
theorem zeg (K:PySem.W.Frag) {e:Expr}{m:Str}{pos:Pos}{ta:TE} (he:PE X e ta) (hb:attributeBase e m X.env (eval e X.env)=eval e X.env:=by rfl) (hK:X.K=K:=by rfl):PE X (.Attribute e m pos) (tMV K m ta):=by subst hK;exact zhs he hb
theorem zcG (K:PySem.W.Frag) {k:Nat} (hr:Room k X.A) (hK:X.K=K:=by rfl):OpR X (compareOp .Eq) (zin K):=by subst hK;exact zfP hr
theorem YX (K:PySem.W.Frag) {k:Nat} (hr:Room k X.A) (hK:X.K=K:=by rfl):OpR X (compareOp .Eq) (ziA K):=by subst hK;exact zgg hr
theorem VS (K:PySem.W.Frag) {k:Nat} (hr:Room k X.A) (hK:X.K=K:=by rfl):OpR X (compareOp .NotEq) (zim K):=by subst hK;exact zfR hr
theorem zeS (K:PySem.W.Frag) (hu:X.A.units<cLine) (hK:X.K=K:=by rfl):OpR X (compareOp .Lt) (zij K):=by subst hK;exact zgn hu
theorem Wb (K:PySem.W.Frag) (hK:X.K=K:=by rfl):OpR X (compareOp .In) (rIn K false):=by subst hK;exact zcq
theorem zcB (K:PySem.W.Frag) (hK:X.K=K:=by rfl):OpR X (compareOp .NotIn) (rIn K true):=by subst hK;exact Kg
theorem zA (K:PySem.W.Frag) (hK:X.K=K:=by rfl):IxR X (zhh K):=by subst hK;exact zfo
theorem qm (K:PySem.W.Frag) (hK:X.K=K:=by rfl):IxR X (zih K):=by subst hK;exact zgh
theorem WB (K:PySem.W.Frag) (hK:X.K=K:=by rfl):SlR X (ziF K):=by subst hK;exact zfs
theorem jz (K:PySem.W.Frag) {x:Str}{ns:List Int}{pos:Pos} (h:GT K X.mg x ns) (hg:Gl X x:=by rfl) (hd:(x == ("__debug__" : Str))=false:=by decide) (hK:X.K=K:=by rfl):PE X (.Name x pos) (tGT K ns):=by subst hK;exact zhA h hg hd
def tMD (K:PySem.W.Frag) (D:List (Int×List V)) (ti:TE):TE:=fun σ H Q=>ti σ H fun y H1=>∃n xs,y=.int n/\D.lookup n=some xs/\∀b,SqT K H1 b xs->Q (.ref b) H1
theorem zec (K:PySem.W.Frag) {x:Str}{D:List (Int×List V)}{p pos:Pos}{i:Expr}{ti:TE} (h:GD K X.mg x D) (hi:PE X i ti) (hsl:zhi i) (hg:Gl X x:=by rfl) (hd:(x == ("__debug__" : Str))=false:=by decide) (hK:X.K=K:=by rfl):PE X (.Subscript (.Name x p) i pos) (tMD K D ti):=by subst hK;exact zhO h hi hsl hg hd
theorem ziz {K:PySem.W.Frag}{D:List (Int×List V)}{ti:TE}{σ:L2.St}{H:Hp}{Q:VK} (h:ti σ H fun y H1=>∃n xs,y=.int n/\D.lookup n=some xs/\∀b,SqT K H1 b xs->Q (.ref b) H1):tMD K D ti σ H Q:=h
theorem zP (K:PySem.W.Frag) {tg l:Expr}{tl:TE} (hl:PE X l tl) (hK:X.K=K:=by rfl):PI X tg l (zaF K tl):=by subst hK;exact zex hl
theorem ze0 (K:PySem.W.Frag) (hc:X.calm=true) (hK:X.K=K:=by rfl):kY X (.builtin "any") (zil K):=by subst hK;exact zgV hc
theorem VY (K:PySem.W.Frag) (hc:X.calm=true) (hK:X.K=K:=by rfl):kY X (.builtin "all") (zir K):=by subst hK;exact zgH hc
def ziO (K:PySem.W.Frag):List V->Hp->VK->Prop:=fun xs H Q=>∃(p:Addr) (ys:List V),xs=[.ref p]/\(SqL K H p ys\/SqT K H p ys)/\Q (.int ys.length) H
theorem xQ (K:PySem.W.Frag) (hK:X.K=K:=by rfl):kY X (.builtin "len") (ziO K):=by subst hK;exact KP
def zfi (K:PySem.W.Frag):List V->Hp->VK->Prop:=fun xs H Q=>∃(p:Addr) (ys:List V),xs=[.ref p]/\(SqL K H p ys\/SqT K H p ys)/\∀l,H l=none->Q (.ref l) (upd H l (.lst ys))
theorem XZ (K:PySem.W.Frag) (hK:X.K=K:=by rfl):kY X (.type "list") (zfi K):=by subst hK;exact KD
theorem zd8 (K:PySem.W.Frag) {T:String}{r:V->List V->Hp->VK->Prop}{e:Expr}{to:TE}{t:TA} (h:PE X e (tBM X.K T r to t)) (hK:X.K=K:=by rfl):PE X e (tBM K T r to t):=by subst hK;exact h
end
def MtT (K:PySem.W.Frag) (S:Addr->Prop) (m qual:Str) (st:Stmt):Prop:=∃f fd,Fun K m qual st f fd/\∀C,S C->zfl K C m f
def InT (K:PySem.W.Frag) (mg:Str->Option Value) (C:Addr) (x qual:Str) (st:Stmt):Prop:=∃f fd,Fun K "__init__" qual st f fd/\Mk K C f/\CI K C f/\mg x=some (.ref C)
structure InO (P:Program) (w:World) (K:PySem.W.Frag) (mg:Str->Option Value) (base:Heap) (C:Addr) (x:Str) (k:Nat) (ps:List Str) (sp:Sp):Prop where
 ex:∃f fd,mg x=some (.ref C)/\Mk K C f/\CI K C f/\qg K fd ps []/\Z1 P w K mg base CX0 k f fd ps sp
section
variable {P:Program}{w:World}{K:PySem.W.Frag}{mg:Str->Option Value}{base:Heap}
theorem MtT.ok {S:Addr->Prop}{m qual:Str}{st:Stmt}{N ps:List Str}{k:Nat}{sp:Sp} (D:MtT K S m qual st) (hc:∀C,S C->Cls K C) (Sc:zk N ps (zg st))
  (hbody:∀(f:Addr) (cdv:Value) (A:Around) (outer:List Env) (s:Shared) (H:Hp) (vs:List V) (Q:VK) (E:XK),Room k (A.deeper (envOfC qual (zg st) s.heap.objs.size f cdv))->sp vs H Q E →
   ∃t,PSs (zdt CX0 P w K mg base N qual (zg st) f cdv A outer s H E).nox (zH st) t/\t { nx:=fun _ H'=>Q .non H',rt:=Q } (start N vs) H)
  (hb:∀(kV doc pm:Value) (an:Option Addr) (cdv ct:Value) (us:List Value),us.length=ps.length->bindArgs (PySem.W.fnOf m qual (jj st) (zH st) (zg st) .none kV doc pm an cdv ct) ⟨us,[]⟩=pure (ps.zip us):=by
   intro _ _ _ _ _ _ us hl
   first | (obtain⟨_,rfl⟩:=NP.ln1 hl;rfl) | (obtain⟨_,_,rfl⟩:=NP.ln2 hl;rfl) | (obtain⟨_,_,_,rfl⟩:=NP.ln3 hl;rfl) | (obtain⟨_,_,_,_,rfl⟩:=NP.ln4 hl;rfl) | (obtain⟨_,_,_,_,_,rfl⟩:=NP.ln5 hl;rfl) | (obtain⟨_,_,_,_,_,_,rfl⟩:=NP.ln6 hl;rfl) | (obtain⟨_,_,_,_,_,_,_,rfl⟩:=NP.ln7 hl;rfl))
  (len:∀vs H Q E,sp vs H Q E->vs.length=ps.length:=by
   intro vs H Q E h
   first | (cases h;subst_vars;rfl) | (repeat (first | (obtain⟨e,_⟩:=h;subst e;rfl) | (obtain⟨_,h⟩:=h)))):MO P w K mg base S m (k+1) ps sp:=
 let ⟨f,fd,F,hm⟩:=D
 ⟨fun C hC=>⟨f,fd,hc C hC,hm C hC,F.binds hb,F.ok Sc len fun cdv A outer s H vs Q E hr h=>hbody f cdv A outer s H vs Q E hr h⟩⟩
theorem InT.ok {C:Addr}{x qual:Str}{st:Stmt}{N ps:List Str}{k:Nat}{sp:Sp} (D:InT K mg C x qual st) (Sc:zk N ps (zg st))
  (hbody:∀(f:Addr) (cdv:Value) (A:Around) (outer:List Env) (s:Shared) (H:Hp) (vs:List V) (Q:VK) (E:XK),Room k (A.deeper (envOfC qual (zg st) s.heap.objs.size f cdv))->sp vs H Q E →
   ∃t,PSs (zdt CX0 P w K mg base N qual (zg st) f cdv A outer s H E).nox (zH st) t/\t { nx:=fun _ H'=>Q .non H',rt:=Q } (start N vs) H)
  (hb:∀(kV doc pm:Value) (an:Option Addr) (cdv ct:Value) (us:List Value),us.length=ps.length->bindArgs (PySem.W.fnOf "__init__" qual (jj st) (zH st) (zg st) .none kV doc pm an cdv ct) ⟨us,[]⟩=pure (ps.zip us):=by
   intro _ _ _ _ _ _ us hl
   first | (obtain⟨_,rfl⟩:=NP.ln1 hl;rfl) | (obtain⟨_,_,rfl⟩:=NP.ln2 hl;rfl) | (obtain⟨_,_,_,rfl⟩:=NP.ln3 hl;rfl) | (obtain⟨_,_,_,_,rfl⟩:=NP.ln4 hl;rfl) | (obtain⟨_,_,_,_,_,rfl⟩:=NP.ln5 hl;rfl) | (obtain⟨_,_,_,_,_,_,rfl⟩:=NP.ln6 hl;rfl) | (obtain⟨_,_,_,_,_,_,_,rfl⟩:=NP.ln7 hl;rfl))
  (len:∀vs H Q E,sp vs H Q E->vs.length=ps.length:=by
   intro vs H Q E h
   first | (cases h;subst_vars;rfl) | (repeat (first | (obtain⟨e,_⟩:=h;subst e;rfl) | (obtain⟨_,h⟩:=h)))):InO P w K mg base C x (k+1) ps sp:=
 let ⟨f,fd,F,hm,hi,hx⟩:=D
 ⟨⟨f,fd,hx,hm,hi,F.binds hb,F.ok Sc len fun cdv A outer s H vs Q E hr h=>hbody f cdv A outer s H vs Q E hr h⟩⟩
theorem InO.io {C:Addr}{x:Str}{k:Nat}{ps:List Str}{sp:Sp} (h:InO P w K mg base C x k ps sp):IO P w K mg base x k ps sp:=
 let ⟨f,fd,a,_,c,d,e⟩:=h.ex
 ⟨⟨C,f,fd,a,c,d,e⟩⟩
end
theorem wf {X:Cx}{C:Addr}{x:Str}{k:Nat}{ps:List Str}{sp:Sp}{p pos:Pos}{e:Expr}{es:List Expr}{t:TA} (F:InO X.prog X.w X.K X.mg X.base C x k ps sp) (hr:Room (k+1) X.A) (ha:PA X (e::es) t) (hg:Gl X x:=by rfl) (hdb:(x == ("__debug__" : Str))=false:=by decide)
  (he:starEach (e::es) X.env=(false,eval e X.env)::starEach es X.env:=by rfl) (hpl:(backTo pos (starEach es X.env)).any (·.1)=false:=by rfl):PE X (.Call (.Name x p) (e::es) [] pos) (zbq C sp [] E0 t):=
 let ⟨_,_,hm,hk,_,hb,F⟩:=F.ex
 zeO hk F hr hg hm hb .nil zai ha hdb he hpl
theorem zgJ {X:Cx}{C:Addr}{x:Str}{k:Nat}{ps:List Str}{sp:Sp}{p pos:Pos} (F:InO X.prog X.w X.K X.mg X.base C x k ps sp) (hr:Room (k+1) X.A) (hg:Gl X x:=by rfl) (hdb:(x == ("__debug__" : Str))=false:=by decide):PE X (.Call (.Name x p) [] [] pos) (zbq C sp [] E0 zfI):=
 let ⟨_,_,hm,hk,_,hb,F⟩:=F.ex
 zc7 hk F hr hg hm hb .nil zai hdb
theorem sC {N P:List Str}{sc:Scope} (kind:sc.kind=.function:=by rfl) (co:sc.isCoroutine=false:=by rfl) (gen:sc.isGenerator=false:=by rfl) (nd:N.Nodup:=by decide +kernel) (pre:N.take P.length=P:=by rfl)
  (par:∀x∈P,sc.names.lookup x=some .local\/sc.names.lookup x=some .cell:=by decide +kernel) (nofree:∀y∈sc.names,y.2≠.free:=by decide +kernel):zk N P sc:=⟨kind,co,gen,nd,pre,par,nofree⟩
theorem bC {N:List Str}{sc scope:Scope}{own:List (Str×Nat)} (kind:scope.kind=.function:=by rfl) (uniq:∀y∈scope.names,scope.names.lookup y.1=some y.2:=by decide +kernel) (ix:∀p∈own,N[p.2]? = some p.1:=by decide +kernel)
  (free:∀y∈scope.names,y.2=.free->sc.names.lookup y.1=some .cell\/sc.names.lookup y.1=some .free:=by decide +kernel) (ow:∀y∈scope.names,y.2=.local\/y.2=.cell->y.1∈own.map (·.1)\/y.1∉N:=by decide +kernel):jI N sc scope own:=⟨kind,uniq,ix,free,ow⟩
theorem _root_.L2.Room.m {j k:Nat}{A:Around} (r:Room k A) (h:j<=k:=by decide):Room j A:=r.mono h
section
variable {X:Cx}
theorem pS (i:Nat) {x:Str}{e:Expr}{te:TE}{pos pos':Pos} (hN:X.N.Nodup) (he:PE X e te) (hi:X.N[i]? = some x:=by rfl) (hx:Loc X.env.scope x:=by first | exact Or.inl rfl | exact Or.inr rfl) (hs:swapsWith e (some (.Name x pos')) pos.line X.env=pure false:=by rfl)
  (hf:X.fn x=true\/X.env.scope.names.lookup x=some .local:=by first | exact .inl rfl | exact .inr rfl | assumption):PS X (.Assign [.Name x pos'] e pos) (zgz te (kU i)):=zf6 hN hi hx he hs hf
theorem pBa (K:PySem.W.Frag) {o e:Expr}{es:List Expr}{to:TE}{t:TA}{apos cpos:Pos} (ho:PE X o to) (ha:PA X (e::es) t) (hbase:attributeBase o "append" X.env (eval o X.env)=eval o X.env:=by rfl)
  (hfew:((backTo cpos (starEach (e::es) X.env)).all (fun x=>!x.1)&&(backToKw cpos (keywordEach [] X.env)).all (fun x=>x.1.isSome)&&decide ((e::es).length+([]:List Keyword).length+(if ([]:List Keyword).isEmpty then 0 else 1)<30))=true:=by rfl)
  (hline:(apos.endLine == cpos.line)=true:=by rfl) (hs:starEach (e::es) X.env=(false,eval e X.env)::starEach es X.env:=by rfl) (hplain:(backTo cpos (starEach es X.env)).any (·.1)=false:=by rfl) (hK:X.K=K:=by rfl) :
  PE X (.Call (.Attribute o "append" apos) (e::es) [] cpos) (tBM K "list" Vp to t):=zd8 K (zgd PySem.F.plainAttrs_list PySem.F.slot_list_append PySem.F.type_list_append zcI ho ha hbase hfew hline hs hplain) hK
theorem pBe (K:PySem.W.Frag) {o e:Expr}{es:List Expr}{to:TE}{t:TA}{apos cpos:Pos} (ho:PE X o to) (ha:PA X (e::es) t) (hbase:attributeBase o "extend" X.env (eval o X.env)=eval o X.env:=by rfl)
  (hfew:((backTo cpos (starEach (e::es) X.env)).all (fun x=>!x.1)&&(backToKw cpos (keywordEach [] X.env)).all (fun x=>x.1.isSome)&&decide ((e::es).length+([]:List Keyword).length+(if ([]:List Keyword).isEmpty then 0 else 1)<30))=true:=by rfl)
  (hline:(apos.endLine == cpos.line)=true:=by rfl) (hs:starEach (e::es) X.env=(false,eval e X.env)::starEach es X.env:=by rfl) (hplain:(backTo cpos (starEach es X.env)).any (·.1)=false:=by rfl) (hK:X.K=K:=by rfl) :
  PE X (.Call (.Attribute o "extend" apos) (e::es) [] cpos) (tBM K "list" Vu to t):=zd8 K (zgd PySem.F.plainAttrs_list PySem.F.slot_list_extend PySem.F.type_list_extend zbo ho ha hbase hfew hline hs hplain) hK
end
def ZJ:List (Int×List V):=[(1,[.str "species",.str "genus"]),(2,[.str "genus",.str "genus"]),(3,[.str "genus",.str "none"]),(4,[.str "either",.str "none"]),(5,[.str "either",.str "none"]),(6,[.str "species",.str "species"]),(7,[.str "species",.str "none"])]
def Wh:List (Int×List V):=[(0,[.int 2,.int 0]),(1,[.int 4,.int 1]),(2,[.int 4,.int 3]),(3,[.int 4,.int 0]),(4,[.int 4,.int 0]),(5,[.int 3,.int 0]),(6,[.int 4,.int 0]),(7,[.int 4,.int 0]),(8,[.int 4,.int 0]),(9,[.int 3,.int 0]),(10,[.int 2,.int 0]),(11,[.int 2,.int 0]),(12,[.int 2,.int 0]),(13,[.int 2,.int 0]),(14,[.int 2,.int 0]),(15,[.int 2,.int 0]),(16,[.int 2,.int 0]),(17,[.int 2,.int 0]),(18,[.int 3,.int 0]),(19,[.int 3,.int 0]),(20,[.int 1,.int 0]),(21,[.int 1,.int 1]),(22,[.int 1,.int 0]),(23,[.int 0,.int 0])]
structure Txt (K:PySem.W.Frag) (mg:Str->Option Value) (C:Cs):Prop where
 i_Name:InT K mg C.nm "Name" "Name.__init__" (zo (top 1) 0)
 i_GenusName:InT K mg C.ge "GenusName" "GenusName.__init__" (zo (top 2) 0)
 i_SpeciesName:InT K mg C.sp "SpeciesName" "SpeciesName.__init__" (zo (top 3) 0)
 i_Act:InT K mg C.ac "Act" "Act.__init__" (zo (top 4) 0)
 i_Book:InT K mg C.bk "Book" "Book.__init__" (zo (top 6) 0)
 i_View:InT K mg C.vw "View" "View.__init__" (zo (top 84) 0)
 i_Timeline:InT K mg C.tl "Timeline" "Timeline.__init__" (zo (top 86) 0)
 i_Call:InT K mg C.cl "Call" "Call.__init__" (zo (top 114) 0)
 i_Reader:InT K mg C.rd "Reader" "Reader.__init__" (zo (top 115) 0)
 nb_len:mg "len" = none
 nb_ord:mg "ord" = none
 nb_any:mg "any" = none
 nb_all:mg "all" = none
 nb_list:mg "list" = none
 nb_sorted:mg "sorted" = none
 nb_min:mg "min" = none
 nb_set:mg "set" = none
 nb_range:mg "range" = none
 g_PLACE:GI mg "PLACE" (1)
 g_SINK:GI mg "SINK" (2)
 g_REVIVE:GI mg "REVIVE" (3)
 g_STATUS:GI mg "STATUS" (4)
 g_ADVANCE:GI mg "ADVANCE" (5)
 g_REPLACED:GI mg "REPLACED" (6)
 g_LIFT:GI mg "LIFT" (7)
 g_NO_REFUSAL:GI mg "NO_REFUSAL" (0)
 g_NOT_A_TEXT:GI mg "NOT_A_TEXT" (-1)
 g_BAD_KEY:GI mg "BAD_KEY" (-4)
 g_KEY_TAKEN:GI mg "KEY_TAKEN" (-5)
 g_NOT_THERE:GI mg "NOT_THERE" (-6)
 g_FULL:GI mg "FULL" (-8)
 g_OUT_OF_RANGE:GI mg "OUT_OF_RANGE" (-9)
 g_BOTH_THE_SAME:GI mg "BOTH_THE_SAME" (-10)
 g_LAST_KEY:GI mg "LAST_KEY" (1000000000)
 g_LAST_DAY:GI mg "LAST_DAY" (474814)
 g_LAST_PAGE:GI mg "LAST_PAGE" (1000000)
 g_MOST_ACTS:GI mg "MOST_ACTS" (80)
 g_FEWEST_LETTERS:GI mg "FEWEST_LETTERS" (2)
 g_MOST_LETTERS:GI mg "MOST_LETTERS" (30)
 g_MOST_WORKS:GI mg "MOST_WORKS" (60)
 g_MOST_GENERA:GI mg "MOST_GENERA" (24)
 g_MOST_SPECIES:GI mg "MOST_SPECIES" (40)
 g_SAME_TEXT:GI mg "SAME_TEXT" (1)
 g_SAME_FIRST_GENUS:GI mg "SAME_FIRST_GENUS" (2)
 g_EARLY_REPLACEMENT:GI mg "EARLY_REPLACEMENT" (3)
 g_SAME_HOME:GI mg "SAME_HOME" (4)
 g_FIRST_LATE_DAY:GI mg "FIRST_LATE_DAY" (95328)
 g_BLANK:GI mg "BLANK" (32)
 g_FIRST_ACT_CALL:GI mg "FIRST_ACT_CALL" (3)
 g_LAST_ACT_CALL:GI mg "LAST_ACT_CALL" (9)
 g_FROM_CALL_TO_KIND:GI mg "FROM_CALL_TO_KIND" (2)
 g_LAST_NAME_CALL:GI mg "LAST_NAME_CALL" (17)
 g_STATUSES:GT K mg "STATUSES" [0,1,2]
 g_GENDERS:GT K mg "GENDERS" [0,1,2]
 g_NO_BAR:GT K mg "NO_BAR" [0,0]
 g_COUNTING_STATUSES:GT K mg "COUNTING_STATUSES" [0,1]
 g_NAMES_TOLD:GD K mg "NAMES_TOLD" ZJ
 g_SHAPES:GD K mg "SHAPES" Wh
 f_ge_key:CF K C.ge "key"
 f_ge_work:CF K C.ge "work"
 f_ge_day:CF K C.ge "day"
 f_ge_page:CF K C.ge "page"
 f_ge_gender:CF K C.ge "gender"
 f_ge_letters:CF K C.ge "letters"
 f_sp_key:CF K C.sp "key"
 f_sp_work:CF K C.sp "work"
 f_sp_day:CF K C.sp "day"
 f_sp_page:CF K C.sp "page"
 f_sp_first_genus:CF K C.sp "first_genus"
 f_sp_forms:CF K C.sp "forms"
 f_ac_key:CF K C.ac "key"
 f_ac_kind:CF K C.ac "kind"
 f_ac_work:CF K C.ac "work"
 f_ac_day:CF K C.ac "day"
 f_ac_a:CF K C.ac "a"
 f_ac_b:CF K C.ac "b"
 f_bk_work_days:CF K C.bk "work_days"
 f_bk_genera:CF K C.bk "genera"
 f_bk_species:CF K C.bk "species"
 f_bk_acts:CF K C.bk "acts"
 f_vw_book:CF K C.vw "book"
 f_vw_d:CF K C.vw "d"
 f_vw_statuses:CF K C.vw "statuses"
 f_vw_given_days:CF K C.vw "given_days"
 f_vw_placements:CF K C.vw "placements"
 f_vw_sunk_into:CF K C.vw "sunk_into"
 f_tl_book:CF K C.tl "book"
 f_tl_acts:CF K C.tl "acts"
 f_tl_views:CF K C.tl "views"
 f_cl_number:CF K C.cl "number"
 f_cl_numbers:CF K C.cl "numbers"
 f_cl_rows:CF K C.cl "rows"
 f_rd_calls:CF K C.rd "calls"
 f_rd_place:CF K C.rd "place"
 c_Name:∀a,Jw C a->Cls K a
 c_GenusName:∀a,K1 C a->Cls K a
 c_SpeciesName:∀a,JY C a->Cls K a
 c_Act:∀a,zie C a->Cls K a
 c_Book:∀a,xR C a->Cls K a
 c_View:∀a,yH C a->Cls K a
 c_Timeline:∀a,wG C a->Cls K a
 c_Call:∀a,zgU C a->Cls K a
 c_Reader:∀a,xl C a->Cls K a
 m_Name_is_out:MtT K (Jw C) "is_out" "Name.is_out" (zo (top 1) 1)
 d_act_order:yF K mg "act_order" (top 5)
 m_Book_keep_work:MtT K (xR C) "keep_work" "Book.keep_work" (zo (top 6) 1)
 m_Book_keep_genus:MtT K (xR C) "keep_genus" "Book.keep_genus" (zo (top 6) 2)
 m_Book_keep_species:MtT K (xR C) "keep_species" "Book.keep_species" (zo (top 6) 3)
 m_Book_keep_act:MtT K (xR C) "keep_act" "Book.keep_act" (zo (top 6) 4)
 m_Book_has_name:MtT K (xR C) "has_name" "Book.has_name" (zo (top 6) 5)
 m_Book_find_name:MtT K (xR C) "find_name" "Book.find_name" (zo (top 6) 6)
 m_Book_all_names:MtT K (xR C) "all_names" "Book.all_names" (zo (top 6) 7)
 m_Book_has_act:MtT K (xR C) "has_act" "Book.has_act" (zo (top 6) 8)
 d_is_key:yF K mg "is_key" (top 26)
 d_is_day:yF K mg "is_day" (top 27)
 d_is_page:yF K mg "is_page" (top 28)
 d_is_told_name:yF K mg "is_told_name" (top 33)
 d_are_told_names:yF K mg "are_told_names" (top 34)
 d_is_x_in_range:yF K mg "is_x_in_range" (top 35)
 d_refuse_act:yF K mg "refuse_act" (top 36)
 d_add_act:yF K mg "add_act" (top 37)
 d_is_out_among:yF K mg "is_out_among" (top 39)
 d_refuse_name_at:yF K mg "refuse_name_at" (top 40)
 d_refuse_two_at:yF K mg "refuse_two_at" (top 41)
 d_is_capital:yF K mg "is_capital" (top 45)
 d_is_small:yF K mg "is_small" (top 46)
 d_has_name_length:yF K mg "has_name_length" (top 47)
 d_is_genus_text:yF K mg "is_genus_text" (top 48)
 d_is_form:yF K mg "is_form" (top 49)
 d_refuse_work:yF K mg "refuse_work" (top 55)
 d_add_work:yF K mg "add_work" (top 56)
 d_refuse_genus:yF K mg "refuse_genus" (top 57)
 d_add_genus:yF K mg "add_genus" (top 58)
 d_refuse_species:yF K mg "refuse_species" (top 59)
 d_add_species:yF K mg "add_species" (top 60)
 d_are_alike:yF K mg "are_alike" (top 68)
 d_is_able_to_bar:yF K mg "is_able_to_bar" (top 69)
 d_pair_of:yF K mg "pair_of" (top 70)
 d_namesakes_of:yF K mg "namesakes_of" (top 71)
 d_genus_bar:yF K mg "genus_bar" (top 72)
 d_does_bar_by_first_genus:yF K mg "does_bar_by_first_genus" (top 73)
 d_first_genus_bar:yF K mg "first_genus_bar" (top 74)
 d_does_bar_in_home:yF K mg "does_bar_in_home" (top 75)
 d_home_bar:yF K mg "home_bar" (top 76)
 d_holds_for_ever:yF K mg "holds_for_ever" (top 77)
 d_replacement_bar:yF K mg "replacement_bar" (top 78)
 d_species_bar:yF K mg "species_bar" (top 79)
 d_bar_of:yF K mg "bar_of" (top 80)
 d_is_usable:yF K mg "is_usable" (top 81)
 m_View_follow:MtT K (yH C) "follow" "View.follow" (zo (top 84) 1)
 m_View_sink_genus:MtT K (yH C) "sink_genus" "View.sink_genus" (zo (top 84) 2)
 m_View_leads_to:MtT K (yH C) "leads_to" "View.leads_to" (zo (top 84) 3)
 m_View_head:MtT K (yH C) "head" "View.head" (zo (top 84) 4)
 m_View_placed_in:MtT K (yH C) "placed_in" "View.placed_in" (zo (top 84) 5)
 m_View_home:MtT K (yH C) "home" "View.home" (zo (top 84) 6)
 m_View_status:MtT K (yH C) "status" "View.status" (zo (top 84) 7)
 m_View_counts:MtT K (yH C) "counts" "View.counts" (zo (top 84) 8)
 m_View_precedence:MtT K (yH C) "precedence" "View.precedence" (zo (top 84) 9)
 m_View_is_before:MtT K (yH C) "is_before" "View.is_before" (zo (top 84) 10)
 m_View_names_in_order:MtT K (yH C) "names_in_order" "View.names_in_order" (zo (top 84) 11)
 m_Timeline_at_day:MtT K (wG C) "at_day" "Timeline.at_day" (zo (top 86) 1)
 d_ask_what_if:yF K mg "ask_what_if" (top 88)
 d_united:yF K mg "united" (top 89)
 d_newly_barred:yF K mg "newly_barred" (top 90)
 d_ask_unite:yF K mg "ask_unite" (top 91)
 d_told_row:yF K mg "told_row" (top 93)
 d_told_works:yF K mg "told_works" (top 94)
 d_told_genera:yF K mg "told_genera" (top 95)
 d_told_species:yF K mg "told_species" (top 96)
 d_told_acts:yF K mg "told_acts" (top 97)
 d_tell_all:yF K mg "tell_all" (top 98)
 d_ask_status:yF K mg "ask_status" (top 101)
 d_ask_precedence:yF K mg "ask_precedence" (top 102)
 d_ask_usable:yF K mg "ask_usable" (top 103)
 d_ask_bar:yF K mg "ask_bar" (top 104)
 d_ask_home:yF K mg "ask_home" (top 105)
 d_ask_text:yF K mg "ask_text" (top 106)
 d_keys_in_order:yF K mg "keys_in_order" (top 107)
 d_species_at_home:yF K mg "species_at_home" (top 108)
 d_ask_group:yF K mg "ask_group" (top 109)
 d_species_homonyms:yF K mg "species_homonyms" (top 110)
 d_ask_homonyms:yF K mg "ask_homonyms" (top 111)
 m_Reader_is_done:MtT K (xl C) "is_done" "Reader.is_done" (zo (top 115) 1)
 m_Reader_take_numbers:MtT K (xl C) "take_numbers" "Reader.take_numbers" (zo (top 115) 2)
 m_Reader_take_number:MtT K (xl C) "take_number" "Reader.take_number" (zo (top 115) 3)
 m_Reader_take_row:MtT K (xl C) "take_row" "Reader.take_row" (zo (top 115) 4)
 m_Reader_take_call:MtT K (xl C) "take_call" "Reader.take_call" (zo (top 115) 5)
 d_ask_barred:yF K mg "ask_barred" (top 117)
 d_ask_first:yF K mg "ask_first" (top 118)
 d_days_from:yF K mg "days_from" (top 119)
 d_ask_history:yF K mg "ask_history" (top 120)
 d_answer_entry:yF K mg "answer_entry" (top 126)
 d_ask_about_name:yF K mg "ask_about_name" (top 127)
 d_answer_about_name:yF K mg "answer_about_name" (top 128)
 d_answer_question:yF K mg "answer_question" (top 129)
 d_answer_call:yF K mg "answer_call" (top 130)
 d_answers:yF K mg "answers" (top 131)
 bm:∀f,zfl K C.vw "precedence" f->BM K f
theorem Txt.cfN {K:PySem.W.Frag}{mg:Str->Option Value}{C:Cs}{a:Addr} (T:Txt K mg C) (h:Jw C a):CF K a "key"/\CF K a "work"/\CF K a "day"/\CF K a "page":=by
 rcases h with rfl | rfl
 ·exact⟨T.f_ge_key,T.f_ge_work,T.f_ge_day,T.f_ge_page⟩
 ·exact⟨T.f_sp_key,T.f_sp_work,T.f_sp_day,T.f_sp_page⟩
end NP
namespace NP
open PySem PySem.Spec PyProof.Rows L2
open PySem.W (nsIn findIn isFn keepIn codeIn mg_of mg_none_of)
section
variable {K:PySem.W.Frag}{h:Heap}{mg:Str->Option Value}
theorem v2i {a b:Int}{t u:Tok}:ym [.int a,.int b] [.int a t,.int b u]:=.cons ⟨t,rfl⟩ (.cons ⟨u,rfl⟩ .nil)
theorem v3i {a b c:Int}{t u v:Tok}:ym [.int a,.int b,.int c] [.int a t,.int b u,.int c v]:=.cons ⟨t,rfl⟩ (.cons ⟨u,rfl⟩ (.cons ⟨v,rfl⟩ .nil))
theorem v2s {a b:Str}{t u:Tok}:ym [.str a,.str b] [.str a t,.str b u]:=.cons ⟨t,rfl⟩ (.cons ⟨u,rfl⟩ .nil)
theorem ze4 {K:PySem.W.Frag}{hv n:Int}{t:Tok}{b:Addr}{xs:List V}{es:List DictEntry}{D:List (Int×List V)} (hh:hv=hashInt n) (k:zcP K b xs) (r:YI K es D):YI K (⟨hv,.int n t,.ref b⟩::es) ((n,xs)::D):=by subst hh;exact .cons k r
theorem yQ {x:Str}{i:Int}{t:Tok} (X:K.In h) (G:h.Ns mainGlobals mg) (e:nsIn K mainGlobals x=some (some (.int i t)):=by (try dsimp only);k_is):GI mg x i:=⟨t,mg_of X G e⟩
theorem zeo {a:Addr}{od:Option Addr}{its:Array Value}{n:Nat}{sl:Array (Option Value)}{xs:List V} (l:K.lookup a=some ⟨.type "tuple",od,.seq its n,sl⟩:=by (try dsimp only);k_is) (hs:its.size<=sizeLine:=by decide) (hv:ym xs its.toList:=by first | exact NP.v2i | exact NP.v2s | exact NP.v3i):zcP K a xs:=⟨_,its,n,l,rfl,rfl,hs,hv⟩
theorem zc0 {x:Str}{a:Addr}{ns:List Int} (X:K.In h) (G:h.Ns mainGlobals mg) (e:nsIn K mainGlobals x=some (some (.ref a)):=by (try dsimp only);k_is) (t:zcP K a (ns.map V.int):=by exact NP.zeo):GT K mg x ns:=⟨a,mg_of X G e,t⟩
theorem zgN {x:Str}{a:Addr}{es:Array DictEntry}{ep:Nat}{D:List (Int×List V)} (X:K.In h) (G:h.Ns mainGlobals mg) (e:nsIn K mainGlobals x=some (some (.ref a)):=by (try dsimp only);k_is) (l:K.lookup a=some ⟨.type "dict",none,.dict es ep,#[]⟩:=by (try dsimp only);k_is) (d:YI K es.toList D:=by
   dsimp only
   repeat refine NP.ze4 rfl NP.zeo ?_
   exact .nil) (nd:(D.map (·.1)).Nodup:=by decide):GD K mg x D:=⟨a,_,es,ep,mg_of X G e,l,⟨rfl,rfl,rfl⟩,rfl,d,nd⟩
theorem zw {x:Str}{st:Stmt}{f:Addr}{oc:Value}{od an:Option Addr}{osl:Array (Option Value)}{kV doc pm cdv ct:Value} (X:K.In h) (G:h.Ns mainGlobals mg) (a:nsIn K mainGlobals x=some (some (.ref f)):=by (try dsimp only);k_is)
  (l:K.lookup f=some ⟨oc,od,.func (PySem.W.fnOf x x (jj st) (zH st) (zg st) .none kV doc pm an cdv ct),osl⟩:=by (try dsimp only);k_is) (c:codeIn K cdv x=true:=by (try dsimp only);k_is) (k:keepIn K (.ref f)=true:=by (try dsimp only);k_is):yF K mg x st:=⟨f,_,Ww l c k,mg_of X G a⟩
theorem yz {C:Addr}{m qual:Str}{st:Stmt}{f:Addr}{oc:Value}{od an:Option Addr}{osl:Array (Option Value)}{kV doc pm cdv ct:Value} (a:findIn K (.ref C) m=some (some (.ref f)):=by (try dsimp only);k_is) (i:isFn K (.ref f)=true:=by (try dsimp only);k_is)
  (l:K.lookup f=some ⟨oc,od,.func (PySem.W.fnOf m qual (jj st) (zH st) (zg st) .none kV doc pm an cdv ct),osl⟩:=by (try dsimp only);k_is) (c:codeIn K cdv qual=true:=by (try dsimp only);k_is) (k:keepIn K (.ref f)=true:=by (try dsimp only);k_is):MtT K (fun z=>z=C) m qual st:=⟨f,_,Ww l c k,fun _ e=>e▸⟨a,i,k⟩⟩
theorem zfh {C C':Addr}{m qual:Str}{st:Stmt}{f:Addr}{oc:Value}{od an:Option Addr}{osl:Array (Option Value)}{kV doc pm cdv ct:Value} (a:findIn K (.ref C) m=some (some (.ref f)):=by (try dsimp only);k_is) (a':findIn K (.ref C') m=some (some (.ref f)):=by (try dsimp only);k_is) (i:isFn K (.ref f)=true:=by (try dsimp only);k_is)
  (l:K.lookup f=some ⟨oc,od,.func (PySem.W.fnOf m qual (jj st) (zH st) (zg st) .none kV doc pm an cdv ct),osl⟩:=by (try dsimp only);k_is) (c:codeIn K cdv qual=true:=by (try dsimp only);k_is) (k:keepIn K (.ref f)=true:=by (try dsimp only);k_is):MtT K (fun z=>z=C\/z=C') m qual st:=
 ⟨f,_,Ww l c k,fun _ e=>by rcases e with rfl | rfl;exact⟨a,i,k⟩;exact⟨a',i,k⟩⟩
theorem JM {C:Addr}{x qual:Str}{st:Stmt}{f:Addr}{oc:Value}{od an:Option Addr}{osl:Array (Option Value)}{kV doc pm cdv ct:Value} (X:K.In h) (G:h.Ns mainGlobals mg) (n:nsIn K mainGlobals x=some (some (.ref C)):=by (try dsimp only);k_is) (a:findIn K (.ref C) "__init__" = some (some (.ref f)):=by (try dsimp only);k_is) (i:isFn K (.ref f)=true:=by (try dsimp only);k_is)
  (l:K.lookup f=some ⟨oc,od,.func (PySem.W.fnOf "__init__" qual (jj st) (zH st) (zg st) .none kV doc pm an cdv ct),osl⟩:=by (try dsimp only);k_is) (c:codeIn K cdv qual=true:=by (try dsimp only);k_is) (k:keepIn K (.ref f)=true:=by (try dsimp only);k_is) (mk:PySem.W.makesIn K C=true:=by (try dsimp only);k_is) (kc:keepIn K (.ref C)=true:=by (try dsimp only);k_is)
  (rd:PySem.W.readsIn K C (.type "type")=true:=by (try dsimp only);k_is) (fi:PySem.W.findCls K (.ref C) (.type "type") "__init__" = some (.val (.ref f)):=by (try dsimp only);k_is) (ga:PySem.W.specialIn K (.ref C) "__getattribute__" = some (some (.builtin "type.__getattribute__")):=by (try dsimp only);k_is):InT K mg C x qual st:=⟨f,_,Ww l c k,⟨mk,a,i,kc⟩,⟨rd,fi,ga,k⟩,mg_of X G n⟩
theorem zib {C f:Addr} (a:findIn K (.ref C) "precedence" = some (some (.ref f)):=by (try dsimp only);k_is) (g:PySem.W.specialIn K (.ref f) "__get__" = some (some (.builtin "function.__get__")):=by (try dsimp only);k_is) (t:PySem.W.takesIn K (.ref f)=some false:=by (try dsimp only);k_is):∀f,zfl K C "precedence" f->BM K f:=fun f' m=>by
 have e:=m.at_.symm.trans a
 cases e
 exact⟨g,t⟩
theorem WD {C:Addr} (pg:PySem.W.plainGet K C Str.empty=true:=by (try dsimp only);k_is) (hd:PySem.W.hasDictIn K C=true:=by (try dsimp only);k_is) (po:PySem.W.plainOver K C=true:=by (try dsimp only);k_is) (sa:findIn K (.ref C) "__setattr__" = some (some (.builtin "object.__setattr__")):=by (try dsimp only);k_is):Cls K C:=⟨pg,hd,po,sa⟩
theorem yE {C:Addr}{f:Str} (n:findIn K (.ref C) f=some none:=by (try dsimp only);k_is) (c:Cls K C:=by exact NP.WD):CF K C f:=⟨c,n⟩
theorem JJ {x:Str} (X:K.In h) (G:h.Ns mainGlobals mg) (e:nsIn K mainGlobals x=some none:=by (try dsimp only);k_is):mg x=none:=mg_none_of X G e
theorem ZG {C:Addr} (h:Cls K C:=by exact NP.WD):∀a,a=C->Cls K a:=fun _ e=>e▸h
theorem zgP {C C':Addr} (h:Cls K C:=by exact NP.WD) (h':Cls K C':=by exact NP.WD):∀a,(a=C\/a=C')->Cls K a:=fun _ e=>e.elim (fun e=>e▸h) fun e=>e▸h'
end
inductive qQ (K:PySem.W.Frag) (vs:List V) (H:Hp) (Q:VK) (E:XK):Prop
 | mk (lc:Addr) (ls:List Int) (z1:vs=[.ref lc]) (z2:SqL K H lc (ls.map V.int)) (z3:PyVbnlae.answers_asked ls=true) (z4:∀H' p,H' p=some (.lst ((PyVbnlae.answers ls).map V.int))->Q (.ref p) H'):qQ K vs H Q E
end NP
structure PySem.W.Fast:Prop where
 (tw14795326182575416933 tw16278347567155941563 tw13233361074136182624 tw5066178574485945509 tw11378270569474741421 tw4342430456354237516 tw5193294687542668808 tw10529477580367681567 tw5408636420574551987 tw9469022966693269921 tw2136033894812670999 tw2966702671866676614 tw10878333282378254929 tw14968368259507916384 tw18387147603286688468 tw13721915114185653998 tw8575990261038654990 tw5906796482268080374 tw16697554003325939647 tw3548736855740536449 tw2991949928555461147 tw16985773680612283995 tw1814597081387918567 tw6293755783990474063 tw4441584426046438579 tw8301120462178290804 tw7028444743083927154 tw13215015087417458249 tw14377496695116710071 tw13096316865065863840 tw422600205781078423 tw16950569704680617585 tw17225468170786307490 tw7149718917359435740 tw1993749582253589565 tw4017148802314998136 tw2185922935345252798 tw18000226872036541679 tw16167815708621630502 tw5233827637922880782 tw9932296627820600012 tw7088431182136229437 tw8593241404160350461 tw10142057846558856658 tw15585030245479659747 tw13456651812989839904 tw15700448553041361208 tw4279884281274568146 tw7989926194121194800 tw7598971725453436028 tw9648403815344541969 tw9797968678690199475 tw1226877935184165923 tw380288336724597541 tw18161890578944941797 tw5460743714640393907 tw17537998759625535611 tw8810071344049901019 tw2114723108517336865 tw16633146943417570303 tw7335273280396148289 tw13347696461729936511 tw10224014555704206978 tw6487266547184976978 tw3270017601947046820 tw6309411045496276474 tw14688427756926819657 tw8776448524286352977 tw9737704219036344211 tw12455732565534110182 tw6475238318525516079 tw7982226061419974336 tw13373454700157654611 tw703163688206936738 tw9800635311039709382 tw7170681986317359973 tw8085602133607943040 tw825225166227614631 tw1681734538704518984 tw11575129549764640452 tw9346343862613071066 tw1531992900920534349 tw13730662458294946350 tw918726098079021028 tw11480374017552964726 tw15489300654070718097 tw15672848202983591228 tw14701023294113568727 tw1069057997205981945 tw16635428109862474558 tw12249445517995409923 tw13433337201742365404 tw11940173109796393072 tw7100001075964002303 tw2572431276683304591 tw10475444883710431735 tw17287826743207392388 tw205204815327890001 tw4344966710368006228 tw7150301613210653068 tw4245024487790850837 tw5047590709969447913 tw12987543271879758929 tw589580337321418060 tw16968226510378528567 tw13502912867895895198 tw14057104402169632396 tw17984735322784671266 tw2557806985356835656 tw154015457851948855 tw17307066630175887950 tw10034605528544603400 tw8860648148730809027 tw2319793837775111436 tw4189083739118224822 tw11560883925295220383 tw18281214004067664707 tw16756463928781025203 tw12121604715538499534 tw2789206914721210077 tw13534550760821731668 tw1896392721701787214 tw5403721174423478202 tw4661259035107824229 tw15041510713895888268 tw12419100646335848859 tw17427866431845454752 tw5029161788185323363 tw61062148218223907 tw10043302564300144634 tw12389533476029668055 tw8457608503890831556 tw5625785011329806421 tw9712769741002866086 tw4936513759014663609 tw8142243591397286845 tw17862454431803339489 tw1094642071195686956 tw12700565479518283964 tw4855389722495005684 tw16143997061872629266 tw7210947672242799519 tw17942904873613306882 tw6789681626173439831 tw7581555598597300537 tw16343226233529607725 tw17620572666536535490 tw17494437970961134614 tw12980291774022352777 tw1574334340588212792 tw942619219884535482 tw16240898583499367241 tw252312008738460134 tw16039353268290998183 tw15187918571083462203 tw251269229167160520 tw15795802188208972616 tw16241506654968679892 tw9742883337547409907 tw9840305874222627622 tw16827042503624287938 tw11746030439276624940 tw15496284507702288011 tw17920229526010133648 tw5053987823084958129 tw10159757480804859096 tw18349167590339452753 tw106258389527215485 tw11641972540358840942 tw2541648759718096246 tw13833333043153502077 tw1172015358698427617 tw7676876782950160799 tw7213393969199033677 tw5086116919492128737 tw9756686235255417567 tw2984084731693584051 tw2434033882252139342 tw13266966596006861402 tw10818958886874193224 tw4956497707709007352 tw5133572674698949705 tw1702053431807077038 tw6610179998687621203 tw11326007162962533730 tw943589998887318506 tw2172570624469394937 tw7609268561999889313 tw8547156100258248662 tw1266765660286244293 tw10146534554722067281 tw6892807737008890526 tw13060684179478632325 tw13966309170274855857 tw13742288598705728122 tw6664643107201079120 tw11105238552570220716 tw8718922259650341711 tw16596875305397754269 tw9546458945478413934 tw2567542376058464129 tw7373099695397366821 tw7369430579216925283 tw1176825651779088715 tw1450033260679484313 tw10981993382334688392 tw2103397709873870469 tw8446678592472619094 tw5621614919737161260 tw18189650490530625000 tw8712046166656592689 tw12569475822304165178 tw17455347740025298464 tw12808873015301300549 tw2824775311356414941 tw6010954811700336718 tw16219950020115228167 tw11472920617320948921 tw2902662393564251595 tw3924894843161705262 tw15456119794901738702 tw5226815238864412578 tw2470899152509051850 tw9983860834083415084 tw7115428235747156608 tw5861111658410687693 tw1196865401427934256 tw12507588233611001115 tw7238063082435451267 tw10633954587072037026 tw5676360992138117929 tw4380031017621559719 tw8367537144634339230 tw4048420595876298654 tw8892966845366130258 tw16037781536001708437 tw7267365841597744961 tw5759429505804786563 tw2368708103119427371 tw16990095099439665790 tw11368963420076071377 tw6568846935641514018 tw2680842389291057456 tw3924379953185513288 tw10649346756999943396 tw1720937805703072462 tw7351331002833056684 tw2962035114875186100 tw15870911905116123674 tw1290701475757073611 tw13620848588596257956 tw5672975997960803604 tw17507153985868023768 tw16250462982864473776 tw10967925623590748313 tw17776824849829674584 tw18277118614198583356 tw14284965440218810336 tw13726186640634513162 tw10403363353391544174 tw18415856503555742888 tw18115073351566589446 tw7586161372362387647 tw7015972043435224066 tw17935237935227062590 tw2154590455695087584 tw14459214078239206178 tw2242709212191988905 tw14362488280110250839 tw13092700031161643469 tw11863779217700626279 tw12165699603084043831 tw363966044846953046 tw7444642053783153655 tw15036386231405397098 tw15627609862772514024 tw3408807779549473493 tw12628079796916005052 tw4471458436075264608 tw2560891518239463266 tw2459084718902520553 tw12355904625624875967 tw14801539856782206535 tw5219433848157836423 tw11850955833724911862 tw9163831271550139093 tw14107217589897733010 tw4526056627656529834 tw362543684481159740 tw1295664880690619948 tw2115371467556444942 tw2653093936237775973 tw562736237896650238 tw15338130436060635670 tw1432094344649065899 tw10437635583075260080 tw15345341629756102109 tw2725330920057687218 tw10107999747823020962 tw7731521571379726330 tw13869127216729833527 tw10694576936848569208 tw10325130298374928221 tw17852682249252033127 tw9256723390772084063 tw9319730827848786321 tw11911421534077697745 tw6422650431338173539 tw7669656747517795157 tw12764876931367329778 tw16478178303800230599 tw5392143986075145223 tw6174245826058148523 tw2349303028085533742 tw7759357318395192817 tw13895391843220075940 tw276376073885601969 tw12340911205699364583 tw9838818974284048101 tw3491343205213241580 tw7908967759563567567 tw8094452320836396069 tw15843618918588989306 tw7896435381342142415 tw12892370796596776974 tw16483819277297512111 tw8353017706556404719 tw16218955528918124602 tw11173543935530395176 tw11991988242371089257 tw5620402490791130606 tw13018082663482680940 tw9560086532705784259 tw1477808922414928310 tw18060314767677839388 tw9199876324381212987 tw15997969310625466383 tw13842657406797899709 tw14343085111738207359 tw4154167950464118679 tw11703644706132815280 tw12868677270405346843 tw13269964560497343025 tw8626350989574774752 tw9398489990679391138 tw11689434925424901960 tw9314317262611275469 tw6140664907501403553 tw2175945607561216939 tw2077930824863277550 tw13567213035431360493 tw13774365697620196914 tw17716750694492563394 tw3874000830179691381 tw8529960971868712476 tw10079320176556615334 tw12895475604003858005 tw8871828740433549703 tw17225262424432556877 tw14492707317329281917 tw3646976564054219798 tw1508219844518845115 tw13514046945919962239 tw18375238890311924198 tw18346374472088605418 tw1600917122340387034 tw682206390669028349 tw15877656567333679547 tw7363731049216404135 tw9097116924140589405 tw16551219413213582403 tw18314743725410295003 tw16491942683839100573 tw11453817903991520501 tw4308299934089480113 tw13328272867609734782 tw17563201540293712616 tw12597066610503781673 tw4989948773134438874 tw14484955946756775158:True)
section
open PySem PySem.W PyProof.Rows
def NP.All:Prop:=∀{P:Program}{w:World}{K:PySem.W.Frag}{mg:Str->Option Value}{C:NP.Cs}{fa:Addr} (_:NP.Txt K mg C) (_:mg "answers" = some (.ref fa)),
  ∃fd:FuncData,(∀(s:Shared) (us:List Value),us.length=(["calls"]:List Str).length->BindsTo s fd ⟨us,[]⟩ ((["calls"]:List Str).zip us))/\∀base:Heap,K.In base->base.Ns mainGlobals mg->L2.Z1 P w K mg base L2.CX0 16 fa fd ["calls"] (NP.qQ K)
theorem NP.snd (_:NP.All) (h:PySem.Challenge.rw_namebars_s01_answers.Holds):PySem.Challenge.rw_namebars_s01_answers.Holds:=h
set_option maxRecDepth 100000 in
set_option maxHeartbeats 0 in
theorem NP.hd:NP.All->PySem.Challenge.rw_namebars_s01_answers.Holds:=clear% NP.hd;by
 simp +contextual (disch:=assumption) only[NP.snd ?all (by
  w_on;k_headS;(case hw=>exact⟨[.list [.int 23]],by decide +kernel,by decide +kernel⟩)
  k_fillS
  refine(fun key:NP.All=>?rest) ?all
  refine L2.zae (r:=PySem.Challenge.rw_namebars_s01_answers) (k:=16) (CX:=L2.CX0) (ps:=["calls"]) (sp:=NP.qQ) (by decide +kernel) rfl rfl ⟨rfl,by decide,by decide⟩ (fun w h Y=>PySem.W.kIn_of Y) ?F ?S (fun _ _ _ _ z=>z)
  case F=>
   intro w mg fa h Y KX G hmg
   clear Y
   have T:∃C,NP.Txt _ mg C:=
    ⟨⟨_,_,_,_,_,_,_,_,_⟩,⟨NP.JM KX G,NP.JM KX G,NP.JM KX G,NP.JM KX G,NP.JM KX G,NP.JM KX G,NP.JM KX G,NP.JM KX G,NP.JM KX G,NP.JJ KX G,NP.JJ KX G,NP.JJ KX G,NP.JJ KX G,NP.JJ KX G,NP.JJ KX G,NP.JJ KX G,NP.JJ KX G,NP.JJ KX G,NP.yQ KX G,NP.yQ KX G,NP.yQ KX G,NP.yQ KX G,NP.yQ KX G,NP.yQ KX G,NP.yQ KX G,NP.yQ KX G,NP.yQ KX G,NP.yQ KX G,NP.yQ KX G,NP.yQ KX G,NP.yQ KX G,NP.yQ KX G,NP.yQ KX G,NP.yQ KX G,NP.yQ KX G,NP.yQ KX G,NP.yQ KX G,NP.yQ KX G,NP.yQ KX G,NP.yQ KX G,NP.yQ KX G,NP.yQ KX G,NP.yQ KX G,NP.yQ KX G,NP.yQ KX G,NP.yQ KX G,NP.yQ KX G,NP.yQ KX G,NP.yQ KX G,NP.yQ KX G,NP.yQ KX G,NP.yQ KX G,NP.zc0 KX G,NP.zc0 KX G,NP.zc0 KX G,NP.zc0 KX G,NP.zgN KX G,NP.zgN KX G,NP.yE,NP.yE,NP.yE,NP.yE,NP.yE,NP.yE,NP.yE,NP.yE,NP.yE,NP.yE,NP.yE,NP.yE,NP.yE,NP.yE,NP.yE,NP.yE,NP.yE,NP.yE,NP.yE,NP.yE,NP.yE,NP.yE,NP.yE,NP.yE,NP.yE,NP.yE,NP.yE,NP.yE,NP.yE,NP.yE,NP.yE,NP.yE,NP.yE,NP.yE,NP.yE,NP.yE,NP.zgP,NP.ZG,NP.ZG,NP.ZG,NP.ZG,NP.ZG,NP.ZG,NP.ZG,NP.ZG,NP.zfh,NP.zw KX G,NP.yz,NP.yz,NP.yz,NP.yz,NP.yz,NP.yz,NP.yz,NP.yz,NP.zw KX G,NP.zw KX G,NP.zw KX G,NP.zw KX G,NP.zw KX G,NP.zw KX G,NP.zw KX G,NP.zw KX G,NP.zw KX G,NP.zw KX G,NP.zw KX G,NP.zw KX G,NP.zw KX G,NP.zw KX G,NP.zw KX G,NP.zw KX G,NP.zw KX G,NP.zw KX G,NP.zw KX G,NP.zw KX G,NP.zw KX G,NP.zw KX G,NP.zw KX G,NP.zw KX G,NP.zw KX G,NP.zw KX G,NP.zw KX G,NP.zw KX G,NP.zw KX G,NP.zw KX G,NP.zw KX G,NP.zw KX G,NP.zw KX G,NP.zw KX G,NP.zw KX G,NP.zw KX G,NP.yz,NP.yz,NP.yz,NP.yz,NP.yz,NP.yz,NP.yz,NP.yz,NP.yz,NP.yz,NP.yz,NP.yz,NP.zw KX G,NP.zw KX G,NP.zw KX G,NP.zw KX G,NP.zw KX G,NP.zw KX G,NP.zw KX G,NP.zw KX G,NP.zw KX G,NP.zw KX G,NP.zw KX G,NP.zw KX G,NP.zw KX G,NP.zw KX G,NP.zw KX G,NP.zw KX G,NP.zw KX G,NP.zw KX G,NP.zw KX G,NP.zw KX G,NP.zw KX G,NP.yz,NP.yz,NP.yz,NP.yz,NP.yz,NP.zw KX G,NP.zw KX G,NP.zw KX G,NP.zw KX G,NP.zw KX G,NP.zw KX G,NP.zw KX G,NP.zw KX G,NP.zw KX G,NP.zw KX G,NP.zib⟩⟩
   obtain⟨C,T⟩:=T
   exact key T hmg
  case S=>
   intro K H xs a hO hwi hask hx
   cases hx with
   | cons h1 h2=>
    cases h2
    cases h1 with
    | lst hs ha=>
     have e:=L2.zcy a.1 _ ha
     subst e
     exact⟨_,a.1,rfl,hs,hask,fun H' p hp=>.lst (L2.SqL.of hp) (L2.zbF _)⟩)]
 exact fun _=>trivial
end
namespace NP
open PySem PySem.Spec PyProof.Rows L2
set_option hygiene false in
local macro_rules | `(tactic| fail "hp_")=>`(tactic| first | assumption | exact zc | (refine zS ?_ (by assumption);first | assumption | exact zc))
set_option hygiene false in
local macro_rules | `(tactic| fail "cf")=>`(tactic| assumption)
set_option hygiene false in
local macro_rules | `(tactic| fail "st")=>`(tactic| with_reducible first
 | (show KS.nx _ _ _;refine zic ?_) | (show KS.rt _ _ _;refine zhv ?_) | (show KS.ct _ _ _;refine zif ?_) | refine zhy ?_ | refine zhR ?_ | refine zhP ?_ | refine zgb ?_ | refine zg8 ?_ | refine zgl ?_ | refine zh1 ?_ | refine ziN ?_
 | refine r_c ?_ | refine zhM ?_ | refine zgv ?_ | refine ziT ?_ | refine zi6 ?_ | refine zhW ?_ | refine zh7 ?_ | refine zhu ?_ | refine zgs ?_ | refine zi8 ?_ | refine ziV ?_
 | refine zhn ?_ | refine zi3 ?_ | refine zh5 ?_ | refine zf7 ?_ | refine zhN ?_ | refine r_notV ?_ | refine zhJ ?_ | refine zfn ?_ | refine zh8 ?_ | refine zgO ?_
 | refine zg3 ?_ | refine ziX ?_ | refine zjd ?_ | refine zhF ?_ | refine zi5 ?_ | refine zhz ?_ | refine zhU ?_ | refine zf9 ?_ | refine zh2 ?_ | refine zdj ?_ | refine zhH ?_ | refine zeW ?_ | refine zfA ?_ | refine zgF ?_ | refine zfU ?_
 | refine ziZ ?_ | refine zhL ?_ | refine zg5 ?_ | refine zid ?_ | refine zfJ ?_ | refine zhI ?_)
set_option hygiene false in
local macro_rules | `(tactic| fail "sv")=>`(tactic| ((with_reducible refine zii (v:=?_) ?_ ?_);rotate_left 1;exact rfl))
set_option hygiene false in
local macro_rules | `(tactic| fail "sf")=>`(tactic| ((with_reducible refine zhr (C:=?_) (dx:=?_) (fs:=?_) (v:=?_) ?_ ?_ ?_ ?_);rotate_left 4;fail "hp_";fail "cf";(first | rfl | assumption)))
set_option hygiene false in
local macro_rules | `(tactic| fail "sm")=>`(tactic| ((with_reducible refine zi9 (C:=?_) (dx:=?_) (fs:=?_) ?_ ?_ ?_ ?_);rotate_left 3;fail "hp_";(first | rfl | assumption | (exact .inl rfl) | (exact .inr rfl));(first | rfl | assumption)))
set_option hygiene false in
local macro_rules | `(tactic| fail "rd")=>`(tactic| repeat (first | fail "st" | fail "sv" | fail "sf" | fail "sm"))
set_option hygiene false in
local macro_rules | `(tactic| fail "cf")=>`(tactic| with_reducible first | exact Txt.f_ge_key (by assumption) | exact Txt.f_ge_work (by assumption) | exact Txt.f_ge_day (by assumption) | exact Txt.f_ge_page (by assumption) | exact Txt.f_ge_gender (by assumption) | exact Txt.f_ge_letters (by assumption) | exact Txt.f_sp_key (by assumption) | exact Txt.f_sp_work (by assumption) | exact Txt.f_sp_day (by assumption) | exact Txt.f_sp_page (by assumption) | exact Txt.f_sp_first_genus (by assumption) | exact Txt.f_sp_forms (by assumption) | exact Txt.f_ac_key (by assumption) | exact Txt.f_ac_kind (by assumption) | exact Txt.f_ac_work (by assumption) | exact Txt.f_ac_day (by assumption) | exact Txt.f_ac_a (by assumption) | exact Txt.f_ac_b (by assumption) | exact Txt.f_bk_work_days (by assumption) | exact Txt.f_bk_genera (by assumption) | exact Txt.f_bk_species (by assumption) | exact Txt.f_bk_acts (by assumption) | exact Txt.f_vw_book (by assumption) | exact Txt.f_vw_d (by assumption) | exact Txt.f_vw_statuses (by assumption) | exact Txt.f_vw_given_days (by assumption) | exact Txt.f_vw_placements (by assumption) | exact Txt.f_vw_sunk_into (by assumption) | exact Txt.f_tl_book (by assumption) | exact Txt.f_tl_acts (by assumption) | exact Txt.f_tl_views (by assumption) | exact Txt.f_cl_number (by assumption) | exact Txt.f_cl_numbers (by assumption) | exact Txt.f_cl_rows (by assumption) | exact Txt.f_rd_calls (by assumption) | exact Txt.f_rd_place (by assumption) | exact(Txt.cfN (by assumption) (by assumption)).1 | exact(Txt.cfN (by assumption) (by assumption)).2.1 | exact(Txt.cfN (by assumption) (by assumption)).2.2.1 | exact(Txt.cfN (by assumption) (by assumption)).2.2.2)
set_option Elab.async false
set_option maxRecDepth 100000
set_option maxHeartbeats 4000000
open PySem PySem.Spec PyProof.Rows L2
theorem je {α:Type}:∀{l:List α}{i:Nat}{x:α},l[i]? = some x->l.take (i+1)=l.take i++[x]
 | [],i,x,h=>by simp at h
 | a::l,0,x,h=>by
  have e:a=x:=Option.some.inj h
  subst e
  rfl
 | a::l,i+1,x,h=>by
  have ih:=je (l:=l) (i:=i) (x:=x) h
  show a::l.take (i+1)=a::l.take i++[x]
  rw[ih]
  rfl
theorem x3 {α β:Type}{f:α->β}{ys:List α}{i:Nat}{x:β} (h:(ys.map f)[i]? = some x):∃y,ys[i]? = some y/\x=f y:=by
 rw[Ubw] at h
 obtain⟨y,a,b⟩:=Ubz.mp h
 exact⟨y,a,b.symm⟩
section
variable {α:Type}{K:PySem.W.Frag}{tt:TT}{te:TE}{vs:List Nat}{σ:L2.St}{H1:Hp}{Q:VK}{j:Nat}
def Jl (tt:TT) (te:TE) (σ:L2.St) (H1:Hp) (keep:Bool) (val:V):Prop:=
 ∀H,Same H1 H->(∀QT:Bool->Hp->Prop,(∀H',Same H H'->QT keep H')->tt σ H QT)/\(keep=true->∀Q:VK,(∀H',Same H H'->Q val H')->te σ H Q)
theorem zbz {D:Addr}{ys:List α}{keep:α->Bool}{val:α->V}{i:Nat}{y:α}{x:V}{H:Hp} (hlen:ys.length<=sizeLine) (hw:∀x,y9 ((y9 σ vs).set j (some x)) vs=y9 σ vs) (hy:ys[i]? = some y)
  (hi:Jl tt te ((y9 σ vs).set j (some x)) H1 (keep y) (val y)) (hs:Same H1 H) (hD0:H1 D=none) (hD:H D=some (.lst (((ys.take i).filter keep).map val))) :
  kU j x (y9 σ vs) H fun σ2 H2=>y9 σ2 vs=y9 σ vs/\tt σ2 H2 fun b H3=>
   if b=true then te σ2 H3 fun z H4=>∃acc,H4 D=some (.lst acc)/\acc.length<sizeLine/\(Same H1 (upd H4 D (.lst (acc++[z])))/\(upd H4 D (.lst (acc++[z]))) D=some (.lst (((ys.take (i+1)).filter keep).map val)))
   else Same H1 H3/\H3 D=some (.lst (((ys.take (i+1)).filter keep).map val)):=by
 refine⟨hw x,(hi H hs).1 _ fun H3 s3=>?_⟩
 have e:=je hy
 cases hk:keep y with
 | true=>
  refine zQ ((hi H3 (hs.trans s3)).2 hk _ fun H4 s4=>⟨_,s4 _ _ (s3 _ _ hD),?_,?_,?_⟩)
  ·rw[Uaa]
   have h1:((ys.take i).filter keep).length<=(ys.take i).length:=Uan _ _
   have h2:i<ys.length:=(Ubh.mp hy).1
   rw[Ubl] at h1
   omega
  ·intro b o hb
   have hn:b≠D:=fun q=>by rw[q,hD0] at hb;cases hb
   rw[zh hn]
   exact s4 _ _ (s3 _ _ (hs _ _ hb))
  ·rw[zc,e,Ubx,Ubc,Uay,if_pos hk,Ucq]
   rfl
 | false=>
  refine zL ⟨hs.trans s3,?_⟩
  rw[s3 _ _ hD,e,Ubx,Uay,if_neg (by rw[hk];exact Uap),Ucq,Ubo]
theorem zaN {ta:TE}{H0:Hp}{a:Addr} (ys:List α) (enc:α->V) (keep:α->Bool) (val:α->V) (hl:SqL K H1 a (ys.map enc)) (hlen:ys.length<=sizeLine) (hta:∀R:VK,R (.ref a) H1->ta σ H0 R) (hw:∀x,y9 ((y9 σ vs).set j (some x)) vs=y9 σ vs)
  (hi:∀y∈ys,Jl tt te ((y9 σ vs).set j (some (enc y))) H1 (keep y) (val y)) (hq:∀D H',Same H1 H'->H1 D=none->H' D=some (.lst ((ys.filter keep).map val))->Q (.ref D) H') :
  tLc (zaF K ta) (kU j) tt te vs σ H0 Q:=by
 refine hta _ ⟨a,rfl,⟨_,hl⟩,fun D hD=>zeJ (xs:=ys.map enc) (fun i H=>Same H1 H/\H D=some (.lst (((ys.take i).filter keep).map val))) ⟨Same.new hD,by rw[zc];rfl⟩ (fun i H _ h=>h.1.seq hl) (fun i x H hx h=>?_) fun H h=>hq D H h.1 hD ?_⟩
 ·obtain⟨y,hy,rfl⟩:=x3 hx
  exact zbz hlen hw hy (hi y (Uaw hy)) h.1 hD h.2
 ·have:=h.2
  rw[Uaa,Ubu] at this
  exact this
theorem zcE {ta:TE}{H0:Hp} (G:Addr->Hp->Prop) (ys:List α) (enc:α->V) (keep:α->Bool) (val:α->V) (hl:∀a H1,G a H1->SqL K H1 a (ys.map enc)) (hlen:ys.length<=sizeLine) (hta:∀R:VK,(∀a H1,G a H1->R (.ref a) H1)->ta σ H0 R) (hw:∀x,y9 ((y9 σ vs).set j (some x)) vs=y9 σ vs)
  (hi:∀a H1,G a H1->∀y∈ys,Jl tt te ((y9 σ vs).set j (some (enc y))) H1 (keep y) (val y)) (hq:∀a H1 D H',G a H1->Same H1 H'->H1 D=none->H' D=some (.lst ((ys.filter keep).map val))->Q (.ref D) H') :
  tLc (zaF K ta) (kU j) tt te vs σ H0 Q:=
 hta _ fun a H1 g=>zaN (ta:=tC (.ref a)) (H0:=H1) (Q:=Q) ys enc keep val (hl a H1 g) hlen (fun R q=>q) hw (hi a H1 g) fun D H' s h1 h2=>hq a H1 D H' g s h1 h2
theorem zgI {td:TE}{H0:Hp}{d:Addr}{o:Obj}{kvs:List (Key×V)} (ys:List α) (enc:α->V) (keep:α->Bool) (val:α->V) (hd:H1 d=some (.frz o (.dK kvs))) (hk:kvs.map (·.2)=ys.map enc) (hlen:ys.length<=sizeLine) (htd:∀R:VK,R (.ref d) H1->td σ H0 R) (hw:∀x,y9 ((y9 σ vs).set j (some x)) vs=y9 σ vs)
  (hi:∀y∈ys,Jl tt te ((y9 σ vs).set j (some (enc y))) H1 (keep y) (val y)) (hq:∀D H',Same H1 H'->H1 D=none->H' D=some (.lst ((ys.filter keep).map val))->Q (.ref D) H') :
  tLc (zdc td) (kU j) tt te vs σ H0 Q:=by
 refine htd _ ⟨d,o,kvs,rfl,hd,fun D hD=>zfj (fun i H=>Same H1 H/\H D=some (.lst (((ys.take i).filter keep).map val))) ⟨Same.new hD,by rw[zc];rfl⟩ (fun i H _ h=>h.1 _ _ hd) (fun i k x H hx h=>?_) fun H h=>hq D H h.1 hD ?_⟩
 ·have hx':(ys.map enc)[i]? = some x:=by rw[←hk,Ubw,hx];rfl
  obtain⟨y,hy,rfl⟩:=x3 hx'
  exact zbz hlen hw hy (hi y (Uaw hy)) h.1 hD h.2
 ·have:=h.2
  have e:kvs.length=ys.length:=by have:=congrArg List.length hk;simpa using this
  rw[e,Ubu] at this
  exact this
end
theorem zgQ {H:Hp}{d:Addr}{o:Obj}{u:HO} (hd:H d=some u) {b:Addr}{z:HO} (hb:b≠d) (h:H b=some z):upd H d (.frz o u) b=some z:=by rw[zh hb];exact h
theorem Yy {H H':Hp}{d:Addr}{o:Obj}{u:HO} (hd:H d=some u) (s:Same (upd H d (.frz o u)) H'):Same H (upd H' d u):=fun b z h=>by
 by_cases e:b=d
 ·subst e
  rw[hd] at h
  cases h
  exact zc
 ·rw[zh e]
  exact s b z (zgQ hd e h)
theorem Qc {α:Type}{tt:TT}{te td:TE}{vs:List Nat}{σ:L2.St}{H:Hp}{Q:VK}{j:Nat}{d:Addr}{kvs:List (Key×V)} (ys:List α) (enc:α->V) (keep:α->Bool) (val:α->V) (hd:H d=some (.dK kvs)) (hk:kvs.map (·.2)=ys.map enc) (hlen:ys.length<=sizeLine)
  (htd:∀o (R:VK),R (.ref d) (upd H d (.frz o (.dK kvs)))->td σ (upd H d (.frz o (.dK kvs))) R) (hw:∀x,y9 ((y9 σ vs).set j (some x)) vs=y9 σ vs)
  (hi:∀o,∀y∈ys,Jl tt te ((y9 σ vs).set j (some (enc y))) (upd H d (.frz o (.dK kvs))) (keep y) (val y)) (hq:∀D H',Same H H'->H D=none->H' D=some (.lst ((ys.filter keep).map val))->Q (.ref D) H') :
  zei (tLc (zdc td) (kU j) tt te vs) σ H Q:=by
 refine⟨d,.dK kvs,hd,trivial,fun o=>zgI ys enc keep val zc hk hlen (htd o) hw (hi o) fun D H' s hD h=>⟨s _ _ zc,?_⟩⟩
 have hne:D≠d:=fun q=>by rw[q,zc] at hD;cases hD
 refine hq D _ (Yy hd s) (by rw[zh hne] at hD;exact hD) (by rw[zh hne];exact h)
theorem Ky {α:Type}{tt:TT}{te td:TE}{vs:List Nat}{σ:L2.St}{H:Hp}{D:KS}{i j:Nat}{d:Addr}{kvs:List (Key×V)} (ys:List α) (enc:α->V) (keep:α->Bool) (val:α->V) (hd:H d=some (.dK kvs)) (hk:kvs.map (·.2)=ys.map enc) (hlen:ys.length<=sizeLine)
  (htd:∀o (R:VK),R (.ref d) (upd H d (.frz o (.dK kvs)))->td σ (upd H d (.frz o (.dK kvs))) R) (hw:∀x,y9 ((y9 σ vs).set j (some x)) vs=y9 σ vs)
  (hi:∀o,∀y∈ys,Jl tt te ((y9 σ vs).set j (some (enc y))) (upd H d (.frz o (.dK kvs))) (keep y) (val y)) (hq:∀l H',Same H H'->H l=none->H' l=some (.lst ((ys.filter keep).map val))->D.nx (σ.set i (some (.ref l))) H') :
  zfO (zgz (tLc (zdc td) (kU j) tt te vs) (kU i)) D σ H:=by
 refine⟨d,.dK kvs,hd,trivial,fun o=>zgI (Q:=fun x H1=>kU i x σ H1 fun σ' H'=>H' d=some (.frz o (.dK kvs))/\D.nx σ' (upd H' d (.dK kvs))) ys enc keep val zc hk hlen (htd o) hw (hi o) fun l H' s hD h=>⟨s _ _ zc,?_⟩⟩
 have hne:l≠d:=fun q=>by rw[q,zc] at hD;cases hD
 exact hq l _ (Yy hd s) (by rw[zh hne] at hD;exact hD) (by rw[zh hne];exact h)
theorem zdE {K:PySem.W.Frag}{a:Addr}{xs:List V}{ta:TE}{tb:TS}{D:KS}{σ:L2.St}{H0 H1:Hp}{j:Nat} (Pv:Nat->L2.St->Hp->Prop) (hta:∀R:VK,R (.ref a) H1->ta σ H0 R) (h0:Pv 0 σ H1) (hl:∀i σ H,i<=xs.length->Pv i σ H->SqL K H a xs)
  (hs:∀i x σ H,xs[i]? = some x->Pv i σ H->tb { D with nx:=Pv (i+1),ct:=Pv (i+1),bk:=D.nx } (σ.set j (some x)) H) (hd:∀σ H,Pv xs.length σ H->D.nx σ H):zhK (zaF K ta) (kU j) tb D σ H0:=
 hta _ ⟨a,rfl,⟨xs,hl 0 σ H1 (Uax _) h0⟩,Wq Pv h0 hl (fun i x σ H hx h=>hs i x σ H hx h) hd⟩
theorem Xf {K:PySem.W.Frag}{xs:List V}{ta:TE}{tb:TS}{D:KS}{σ:L2.St}{H0:Hp}{j:Nat} (G:Addr->Hp->Prop) (Pv:Addr->Nat->L2.St->Hp->Prop) (hta:∀R:VK,(∀a H1,G a H1->R (.ref a) H1)->ta σ H0 R) (h0:∀a H1,G a H1->Pv a 0 σ H1) (hl:∀a i σ H,i<=xs.length->Pv a i σ H->SqL K H a xs)
  (hs:∀a i x σ H,xs[i]? = some x->Pv a i σ H->tb { D with nx:=Pv a (i+1),ct:=Pv a (i+1),bk:=D.nx } (σ.set j (some x)) H) (hd:∀a σ H,Pv a xs.length σ H->D.nx σ H):zhK (zaF K ta) (kU j) tb D σ H0:=
 hta _ fun a H1 g=>⟨a,rfl,⟨xs,hl a 0 σ H1 (Uax _) (h0 a H1 g)⟩,Wq (Pv a) (h0 a H1 g) (hl a) (fun i x σ H hx h=>hs a i x σ H hx h) (hd a)⟩
theorem zhm {A:Prop}{a b:Bool}{F:Bool->Prop} (hA:F b->A) (h:F (a&&b)):if a=true then A else F false:=by
 cases a with
 | true=>exact zQ (hA h)
 | false=>exact zL h
theorem ziR {A:Prop}{a b:Bool}{F:Bool->Prop} (hA:F b->A) (h:F (a||b)):if a=true then F true else A:=by
 cases a with
 | true=>exact zQ h
 | false=>exact zL (hA h)
theorem Zx {A:Prop}{a b:Bool}{H:Hp}{Q:VK} (hA:Q (.bl b) H->A) (h:Q (.bl (a&&b)) H):if a=true then A else Q (.bl false) H:=zhm (F:=fun c=>Q (.bl c) H) hA h
theorem zh4 {A:Prop}{a b:Bool}{H:Hp}{Q:VK} (hA:Q (.bl b) H->A) (h:Q (.bl (a||b)) H):if a=true then Q (.bl true) H else A:=ziR (F:=fun c=>Q (.bl c) H) hA h
theorem zee {A B T:Prop}{a b:Bool} (hA:(if b=true then A else B)->T) (h:if (a&&b)=true then A else B):if a=true then T else (if false=true then A else B):=by
 cases a with
 | true=>exact zQ (hA h)
 | false=>exact zL h
theorem VX {A B T:Prop}{a b:Bool} (hA:(if b=true then A else B)->T) (h:if (a||b)=true then A else B):if a=true then (if true=true then A else B) else T:=by
 cases a with
 | true=>exact zQ h
 | false=>exact zL (hA h)
section
variable {P:Program}{w:World}{K:PySem.W.Frag}{mg:Str->Option Value}{base:Heap}{C:Cs}
inductive zeU (p:Int->Bool) (vs:List V) (H:Hp) (Q:VK) (E:XK):Prop
 | mk (n:Int) (z1:vs=[.int n]) (z2:Q (.bl (p n)) H):zeU p vs H Q E
theorem Vj {p:Int->Bool}{n:Int}{H:Hp}{Q:VK}{E:XK} (h:Q (.bl (p n)) H):zeU p [.int n] H Q E:=⟨n,rfl,h⟩
theorem zaU:zk ["number"] ["number"] (zg (top 26)):=sC
theorem wx (T:Txt K mg C):FO P w K mg base "is_key" 1 ["number"] (zeU Vbnlae.keyOk):=by
 refine T.d_is_key.ok zaU fun f cdv A outer s H vs Q E hr h=>?_
 ·obtain⟨n,rfl,k⟩:=h
  refine⟨_,(ze (zj (kN qW qW zq (pv 0) (zC T.g_LAST_KEY)))),?_⟩
  fail "rd"
  refine Zx (fun z=>?_) k
  fail "rd"
  exact z
theorem zbs:zk ["number"] ["number"] (zg (top 27)):=sC
theorem jV (T:Txt K mg C):FO P w K mg base "is_day" 1 ["number"] (zeU Vbnlae.dayOk):=by
 refine T.d_is_day.ok zbs fun f cdv A outer s H vs Q E hr h=>?_
 ·obtain⟨n,rfl,k⟩:=h
  refine⟨_,(ze (zj (kN qW qW zq (pv 0) (zC T.g_LAST_DAY)))),?_⟩
  fail "rd"
  refine Zx (fun z=>?_) k
  fail "rd"
  exact z
theorem zaJ:zk ["number"] ["number"] (zg (top 28)):=sC
theorem JA (T:Txt K mg C):FO P w K mg base "is_page" 1 ["number"] (zeU fun n=>Vbnlae.within n 1 Vbnlae.MOSTPAGE):=by
 refine T.d_is_page.ok zaJ fun f cdv A outer s H vs Q E hr h=>?_
 ·obtain⟨n,rfl,k⟩:=h
  refine⟨_,(ze (zj (kN qW qW zq (pv 0) (zC T.g_LAST_PAGE)))),?_⟩
  fail "rd"
  refine Zx (fun z=>?_) k
  fail "rd"
  exact z
theorem JD:zk ["byte"] ["byte"] (zg (top 45)):=sC
theorem Qp (T:Txt K mg C):FO P w K mg base "is_capital" 1 ["byte"] (zeU fun n=>Vbnlae.within n 65 90):=by
 refine T.d_is_capital.ok JD fun f cdv A outer s H vs Q E hr h=>?_
 ·obtain⟨n,rfl,k⟩:=h
  refine⟨_,(ze (zj (kN qW qW (zG Z7 rfl T.nb_ord PyProof.Rows.boot_ord (za Yg zf)) (pv 0) (zG Z7 rfl T.nb_ord PyProof.Rows.boot_ord (za Yg zf))))),?_⟩
  fail "rd"
  refine⟨_,rfl,rfl,?_⟩
  fail "rd"
  refine Zx (fun z=>?_) k
  fail "rd"
  refine⟨_,rfl,rfl,?_⟩
  fail "rd"
  exact z
theorem VQ:zk ["byte"] ["byte"] (zg (top 46)):=sC
theorem YM (T:Txt K mg C):FO P w K mg base "is_small" 1 ["byte"] (zeU Vbnlae.low):=by
 refine T.d_is_small.ok VQ fun f cdv A outer s H vs Q E hr h=>?_
 ·obtain⟨n,rfl,k⟩:=h
  refine⟨_,(ze (zj (kN qW qW (zG Z7 rfl T.nb_ord PyProof.Rows.boot_ord (za Yg zf)) (pv 0) (zG Z7 rfl T.nb_ord PyProof.Rows.boot_ord (za Yg zf))))),?_⟩
  fail "rd"
  refine⟨_,rfl,rfl,?_⟩
  fail "rd"
  refine Zx (fun z=>?_) k
  fail "rd"
  refine⟨_,rfl,rfl,?_⟩
  fail "rd"
  exact z
inductive zhb (p:List Int->Bool) (vs:List V) (H:Hp) (Q:VK) (E:XK):Prop
 | mk (a:Addr) (ns:List Int) (z1:vs=[.ref a]) (z2:H a=some (.lst (ns.map V.int))) (z3:ns.length<=sizeLine) (z4:∀H',Same H H'->Q (.bl (p ns)) H'):zhb p vs H Q E
def KZ (ns:List Int):Bool:=decide (2<=ns.length)&&decide (ns.length<=30)
theorem vG:zk ["row"] ["row"] (zg (top 47)):=sC
theorem jv (T:Txt K mg C):FO P w K mg base "has_name_length" 1 ["row"] (zhb KZ):=by
 refine T.d_has_name_length.ok vG fun f cdv A outer s H vs Q E hr h=>?_
 ·obtain⟨a,ns,rfl,ha,hl,k⟩:=h
  refine⟨_,(ze (zj (kN qW qW (zC T.g_FEWEST_LETTERS) (zG (xQ K) rfl T.nb_len PySem.boot_len (za (pv 0) zf)) (zC T.g_MOST_LETTERS)))),?_⟩
  fail "rd"
  refine⟨a,_,rfl,.inl (SqL.of ha),?_⟩
  fail "rd"
  have k:=k H (Same.refl H)
  refine Zx (b:=decide (ns.length<=30)) (fun z=>?_) ?_
  ·fail "rd"
   have e:decide (((ns.map V.int).length:Int)<=30)=decide (ns.length<=30):=by rw[Uaa];simp only[decide_eq_decide];omega
   rw[e]
   exact z
  ·have e:decide ((2:Int)<=((ns.map V.int).length:Int))=decide (2<=ns.length):=by rw[Uaa];simp only[decide_eq_decide];omega
   rw[e]
   exact k
theorem kn {α:Type} (l:List α):l.filter (fun _=>true)=l:=List.filter_eq_self.mpr fun _ _=>rfl
theorem X6 (ns:List Int):(ns.map Vbnlae.low).all id=ns.all Vbnlae.low:=by rw[List.all_map];rfl
theorem wQ:zk ["row", "byte"] ["row"] (zg (top 49)):=sC
def Qz:Scope:=match zH (top 49) with
 | ((.Return (some (.BoolOp _ (_::(.Call _ ((.ListComp _ _ sc _)::_) _ _)::_) _)) _)::_)=>sc
 | _=>zg (top 49)
theorem QU:jI ["row", "byte"] (zg (top 49)) Qz [("byte",1)]:=bC
theorem zaK (T:Txt K mg C):FO P w K mg base "is_form" 2 ["row"] (zhb Vbnlae.epithet):=by
 refine T.d_is_form.ok wQ fun f cdv A outer s H vs Q E hr h=>?_
 ·obtain⟨a,ns,rfl,ha,hl,k⟩:=h
  refine⟨_,(ze (zj (vc (zV (jv T) hr.m (za (pv 0) zf)) (va (zG (VY K rfl) rfl T.nb_all PyProof.Rows.boot_all (za (XH rfl wQ.nd (zP K (pv 0)) QU (fun _ _ _ _ _=>zN (i:=1) wQ.nd rfl (Or.inl rfl)) (fun _ _ _ _ _=>Zd) (fun _ _ _ _ _=>(zV (YM T) hr.m (za (pv 1) zf)))) zf)))))),?_⟩
  fail "rd"
  refine⟨a,ns,rfl,ha,hl,fun H1 s1=>?_⟩
  fail "rd"
  have e:Vbnlae.epithet ns=(KZ ns&&ns.all Vbnlae.low):=by unfold Vbnlae.epithet KZ;rw[Bool.and_assoc]
  cases hc:KZ ns with
  | false=>
   refine zL ?_
   have k:=k H1 s1
   rw[e,hc] at k
   exact k
  | true=>
   refine zQ ?_
   fail "rd"
   refine zaN ns V.int (fun _=>true) (fun n=>.bl (Vbnlae.low n)) (SqL.of (s1 _ _ ha)) hl (fun R q=>by fail "rd";exact q) (fun _=>rfl) ?_ fun D H2 s2 _ hD=>?_
   ·refine fun y _ H2 s2=>⟨fun QT q=>q H2 (Same.refl _),fun _ Q q=>?_⟩
    fail "rd"
    exact Vj (q H2 (Same.refl _))
   ·fail "rd"
    rw[kn] at hD
    have hD':H2 D=some (.lst ((ns.map Vbnlae.low).map V.bl)):=by rw[hD,Uau];rfl
    refine⟨D,_,rfl,SqL.of hD',?_⟩
    have k:=k H2 (s1.trans s2)
    rw[e,hc,Bool.true_and,←X6] at k
    exact k
theorem xZ:zk ["row", "byte"] ["row"] (zg (top 48)):=sC
def vD:Scope:=match zH (top 48) with
 | ((.Return (some (.BoolOp _ (_::_::(.Call _ ((.ListComp _ _ sc _)::_) _ _)::_) _)) _)::_)=>sc
 | _=>zg (top 48)
theorem we:jI ["row", "byte"] (zg (top 48)) vD [("byte",1)]:=bC
theorem KG (ns:List Int):Vbnlae.genusText ns=(KZ ns&&(match ns with | []=>false | c::r=>Vbnlae.within c 65 90&&r.all Vbnlae.low)):=by
 cases ns with
 | nil=>rfl
 | cons c r=>
  unfold Vbnlae.genusText KZ
  simp only[Uae]
  have e1:decide (2<=r.length+1)=decide (1<=r.length):=by simp only[decide_eq_decide];omega
  have e2:decide (r.length+1<=30)=decide (r.length<=29):=by simp only[decide_eq_decide];omega
  rw[e1,e2]
  cases Vbnlae.within c 65 90 <;> cases decide (1<=r.length) <;> cases decide (r.length<=29) <;> cases r.all Vbnlae.low <;> rfl
theorem zjc {c:V}{r:List V}:zcO (c::r) (some 1) none=r:=by
 unfold zcO
 have e1:HT.sIx (c::r).length 0 (some 1)=1:=by
  unfold HT.sIx
  simp
 have e2:HT.sIx (c::r).length (c::r).length none=(c::r).length:=rfl
 rw[e1,e2]
 simp
theorem ZP (T:Txt K mg C):FO P w K mg base "is_genus_text" 2 ["row"] (zhb Vbnlae.genusText):=by
 refine T.d_is_genus_text.ok xZ fun f cdv A outer s H vs Q E hr h=>?_
 ·obtain⟨a,ns,rfl,ha,hl,k⟩:=h
  refine⟨_,(ze (zj (vc (zV (jv T) hr.m (za (pv 0) zf)) (vc (zV (Qp T) hr.m (za (yr (zA K) (pv 0) zq (fun _ _=>rfl)) zf)) (va (zG (VY K rfl) rfl T.nb_all PyProof.Rows.boot_all (za (XH rfl xZ.nd (zP K (WV (WB K) (pv 0) (Vn zq) zfb)) we (fun _ _ _ _ _=>zN (i:=1) xZ.nd rfl (Or.inl rfl)) (fun _ _ _ _ _=>Zd) (fun _ _ _ _ _=>(zV (YM T) hr.m (za (pv 1) zf)))) zf))))))),?_⟩
  fail "rd"
  refine⟨a,ns,rfl,ha,hl,fun H1 s1=>?_⟩
  fail "rd"
  have e:=KG ns
  cases hc:KZ ns with
  | false=>
   refine zL ?_
   have k:=k H1 s1
   rw[e,hc] at k
   exact k
  | true=>
   refine zQ ?_
   cases ns with
   | nil=>cases hc
   | cons c r=>
    rw[hc,Bool.true_and] at e
    replace e:Vbnlae.genusText (c::r)=(Vbnlae.within c 65 90&&r.all Vbnlae.low):=e
    fail "rd"
    refine yX (i:=0) (SqL.of (s1 _ _ ha)) rfl ?_
    fail "rd"
    refine Vj ?_
    fail "rd"
    cases hw:Vbnlae.within c 65 90 with
    | false=>
     refine zL ?_
     have k:=k H1 s1
     rw[e,hw] at k
     exact k
    | true=>
     refine zQ ?_
     fail "rd"
     refine zcE (fun p H2=>Same H1 H2/\H2 p=some (.lst (r.map V.int))) r V.int (fun _=>true) (fun n=>.bl (Vbnlae.low n)) (fun p H2 g=>SqL.of g.2) (by simp at hl;omega) (fun R q=>?_) (fun _=>rfl) ?_ fun p H0 D H2 g s2 _ hD=>?_
     ·fail "rd"
      refine⟨a,_,rfl,SqL.of (s1 _ _ ha),fun p hp=>q p _ ⟨Same.new hp,?_⟩⟩
      rw[zc,show zcO ((c::r).map V.int) (some 1) none=r.map V.int from zjc]
     ·refine fun _ _ _ y _ H2 s2=>⟨fun QT q=>q H2 (Same.refl _),fun _ Q q=>?_⟩
      fail "rd"
      exact Vj (q H2 (Same.refl _))
     ·fail "rd"
      rw[kn] at hD
      have hD':H2 D=some (.lst ((r.map Vbnlae.low).map V.bl)):=by rw[hD,Uau];rfl
      refine⟨D,_,rfl,SqL.of hD',?_⟩
      have k:=k H2 ((s1.trans g.1).trans s2)
      rw[e,hw,Bool.true_and,←X6] at k
      exact k
end
open Vbnlae (State Genus Species Work)
theorem qd {α:Type} (f:α->Int) (v:α->V):∀(l:List α) (k:Int),xr (l.map fun x=>((Sum.inl (f x):Key),v x)) (.inl k)=(l.find? fun x=>f x == k).map v
 | [],k=>rfl
 | a::l,k=>by
  have ih:=qd f v l k
  unfold xr at ih ⊢
  rw[Uas,Uar,Uar]
  by_cases e:f a=k
  ·subst e
   simp
  ·have h1:decide ((Sum.inl (f a):Key)=Sum.inl k)=false:=Uab fun q=>e (Sum.inl.inj q)
   have h2:(f a == k)=false:=Ubi.mpr e
   rw[h1,h2]
   exact ih
def zio (k w d p g:Int) (l:Addr):List (Str×V):=[("key",.int k),("work",.int w),("day",.int d),("page",.int p),("gender",.int g),("letters",.ref l)]
def spF (k w d p g:Int) (l:Addr):List (Str×V):=[("key",.int k),("work",.int w),("day",.int d),("page",.int p),("first_genus",.int g),("forms",.ref l)]
def zho (k c w d a b:Int):List (Str×V):=[("key",.int k),("kind",.int c),("work",.int w),("day",.int d),("a",.int a),("b",.int b)]
def XC (w g s l:Addr):List (Str×V):=[("work_days",.ref w),("genera",.ref g),("species",.ref s),("acts",.ref l)]
def zdI (b:Addr) (d:Int) (st gd pl su:Addr):List (Str×V):=[("book",.ref b),("d",.int d),("statuses",.ref st),("given_days",.ref gd),("placements",.ref pl),("sunk_into",.ref su)]
def tlF (b l v:Addr):List (Str×V):=[("book",.ref b),("acts",.ref l),("views",.ref v)]
def zfK (n:Int) (a r:Addr):List (Str×V):=[("number",.int n),("numbers",.ref a),("rows",.ref r)]
def V3 (l:Addr) (p:Int):List (Str×V):=[("calls",.ref l),("place",.int p)]
def kz (t:State):List (Key×V):=t.works.map fun x=>(Sum.inl x.key,V.int x.day)
def wF (na:Int->Addr) (t:State):List (Key×V):=t.genera.map fun x=>(Sum.inl x.key,V.ref (na x.key))
def vj (na:Int->Addr) (t:State):List (Key×V):=t.species.map fun x=>(Sum.inl x.key,V.ref (na x.key))
theorem WJ (t:State) (k:Int):xr (kz t) (.inl k)=(Vbnlae.workOf t k).map fun x=>V.int x.day:=qd _ _ _ _
theorem Yk (na:Int->Addr) (t:State) (k:Int):xr (wF na t) (.inl k)=(Vbnlae.genusOf t k).map fun x=>V.ref (na x.key):=qd _ _ _ _
theorem YS (na:Int->Addr) (t:State) (k:Int):xr (vj na t) (.inl k)=(Vbnlae.speciesOf t k).map fun x=>V.ref (na x.key):=qd _ _ _ _
theorem Yj (t:State) (k:Int):(xr (kz t) (.inl k)).isSome=Vbnlae.isWork t k:=by rw[WJ,Ucr];rfl
theorem ZB (na:Int->Addr) (t:State) (k:Int):(xr (wF na t) (.inl k)).isSome=Vbnlae.isGenus t k:=by rw[Yk,Ucr];rfl
theorem zdY (na:Int->Addr) (t:State) (k:Int):(xr (vj na t) (.inl k)).isSome=Vbnlae.isSpecies t k:=by rw[YS,Ucr];rfl
theorem jN {t:State} (W:NB.WF t) (na:Int->Addr) {g:Genus} (h:g∈t.genera):xr (wF na t) (.inl g.key)=some (V.ref (na g.key)):=by rw[Yk,W.genusOf h];rfl
theorem Zp {t:State} (W:NB.WF t) (na:Int->Addr) {n:Species} (h:n∈t.species):xr (vj na t) (.inl n.key)=some (V.ref (na n.key)):=by rw[YS,W.speciesOf h];rfl
inductive wZ (C:Cs) (H:Hp) (a:Addr) (g:Genus):Prop
 | mk (dx l) (z1:H a=some (.ins C.ge dx (zio g.key g.work g.day g.page g.gender l))) (z2:H l=some (.lst (g.text.map V.int))):wZ C H a g
inductive qH (C:Cs) (H:Hp) (a:Addr) (n:Species):Prop
 | mk (dx fo f0 f1 f2) (z1:H a=some (.ins C.sp dx (spF n.key n.work n.day n.page n.genus fo))) (z2:H fo=some (.lst [.ref f0,.ref f1,.ref f2])/\H f0=some (.lst (n.masc.map V.int))/\H f1=some (.lst (n.fem.map V.int))/\H f2=some (.lst (n.neut.map V.int))):qH C H a n
inductive Qk (C:Cs) (H:Hp) (a:Addr) (k w d p:Int):Prop
 | mk (Cl dx fs) (z1:Jw C Cl) (z2:H a=some (.ins Cl dx fs)) (z3:fs.lookup ("key" : Str)=some (V.int k)/\fs.lookup ("work" : Str)=some (V.int w)/\fs.lookup ("day" : Str)=some (V.int d)/\fs.lookup ("page" : Str)=some (V.int p)/\fs.lookup ("is_out" : Str)=none):Qk C H a k w d p
theorem wZ.nm {C:Cs}{H:Hp}{a:Addr}{g:Genus} (h:wZ C H a g):Qk C H a g.key g.work g.day g.page:=
 let ⟨dx,_,e,_⟩:=h
 ⟨C.ge,dx,_,.inl rfl,e,rfl,rfl,rfl,rfl,rfl⟩
theorem qH.nm {C:Cs}{H:Hp}{a:Addr}{n:Species} (h:qH C H a n):Qk C H a n.key n.work n.day n.page:=
 let ⟨dx,_,_,_,_,e,_⟩:=h
 ⟨C.sp,dx,_,.inr rfl,e,rfl,rfl,rfl,rfl,rfl⟩
inductive ZT (C:Cs) (H:Hp) (a:Addr) (x:Vbnlae.Act):Prop
 | mk (dx) (z1:H a=some (.ins C.ac dx (zho x.key x.kind x.work x.day x.a x.b))):ZT C H a x
inductive zaS (C:Cs) (H:Hp) (a:Addr) (x:Vbnlae.Act):Prop
 | mk (dx k w) (z1:H a=some (.ins C.ac dx (zho k x.kind w x.day x.a x.b))):zaS C H a x
theorem ZT.v {C:Cs}{H:Hp}{a:Addr}{x:Vbnlae.Act} (h:ZT C H a x):zaS C H a x:=let ⟨dx,e⟩:=h;⟨dx,_,_,e⟩
def NoD (u:HO):Prop:=∀kvs,u≠.dK kvs
structure Wk (av:List Addr) (H H':Hp):Prop where
 o:∀a u,NoD u->H a=some u->H' a=some u
 d:∀a kvs,a∉av->Rd H a (.dK kvs)->Rd H' a (.dK kvs)
theorem xh {C dx:Addr}{fs:List (Str×V)}:NoD (.ins C dx fs):=fun _ h=>nomatch h
theorem xB {xs:List V}:NoD (.lst xs):=fun _ h=>nomatch h
section
variable {av:List Addr}{H H' H'':Hp}
theorem Wk.trans (a:Wk av H H') (b:Wk av H' H''):Wk av H H'':=⟨fun x u n h=>b.o x u n (a.o x u n h),fun x kvs n h=>b.d x kvs n (a.d x kvs n h)⟩
theorem _root_.L2.Same.wk (s:Same H H'):Wk av H H':=⟨fun a u _ h=>s a u h,fun a kvs _ h=>s.rd h⟩
theorem xz {d:Addr}{kvs:List (Key×V)}{o:Obj} (hd:H d=some (.dK kvs)):Wk av H (upd H d (.frz o (.dK kvs))):=by
 refine⟨fun a u n h=>?_,fun a kv _ h=>?_⟩
 ·rw[zh (fun q=>by rw[q,hd] at h;cases h;exact n _ rfl)]
  exact h
 ·by_cases e:a=d
  ·subst e
   rcases h with h | ⟨o',h⟩
   ·rw[hd] at h
    cases h
    exact .inr ⟨o,zc⟩
   ·rw[hd] at h
    cases h
  ·rcases h with h | ⟨o',h⟩
   ·exact .inl (by rw[zh e];exact h)
   ·exact .inr ⟨o',by rw[zh e];exact h⟩
theorem zv.wk {vd:Addr}{kvs:List (Key×V)} (s:zv vd H H') (hv:H vd=some (.dK kvs)) (m:vd∈av):Wk av H H':=by
 refine⟨fun a u n h=>s a u (fun q=>?_) h,fun a kv hn h=>?_⟩
 ·rw[q,hv] at h
  cases h
  exact n _ rfl
 ·have e:a≠vd:=fun q=>hn (q▸m)
  rcases h with h | ⟨o',h⟩
  ·exact .inl (s _ _ e h)
  ·exact .inr ⟨o',s _ _ e h⟩
theorem Wk.gen {C:Cs}{a:Addr}{g:Genus} (w:Wk av H H') (h:wZ C H a g):wZ C H' a g:=let ⟨dx,l,h1,h2⟩:=h;⟨dx,l,w.o _ _ xh h1,w.o _ _ xB h2⟩
theorem Wk.spe {C:Cs}{a:Addr}{n:Species} (w:Wk av H H') (h:qH C H a n):qH C H' a n:=
 let ⟨dx,fo,f0,f1,f2,h1,h2,h3,h4,h5⟩:=h
 ⟨dx,fo,f0,f1,f2,w.o _ _ xh h1,w.o _ _ xB h2,w.o _ _ xB h3,w.o _ _ xB h4,w.o _ _ xB h5⟩
theorem Wk.nm {C:Cs}{a:Addr}{k x d p:Int} (w:Wk av H H') (h:Qk C H a k x d p):Qk C H' a k x d p:=let ⟨Cl,dx,fs,h0,h1,h2⟩:=h;⟨Cl,dx,fs,h0,w.o _ _ xh h1,h2⟩
theorem Wk.act {C:Cs}{a:Addr}{x:Vbnlae.Act} (w:Wk av H H') (h:ZT C H a x):ZT C H' a x:=let ⟨dx,h1⟩:=h;⟨dx,w.o _ _ xh h1⟩
theorem Wk.actV {C:Cs}{a:Addr}{x:Vbnlae.Act} (w:Wk av H H') (h:zaS C H a x):zaS C H' a x:=let ⟨dx,k,u,h1⟩:=h;⟨dx,k,u,w.o _ _ xh h1⟩
theorem Wk.lst {a:Addr}{xs:List V} (w:Wk av H H') (h:H a=some (.lst xs)):H' a=some (.lst xs):=w.o _ _ xB h
theorem Wk.ins {a C dx:Addr}{fs:List (Str×V)} (w:Wk av H H') (h:H a=some (.ins C dx fs)):H' a=some (.ins C dx fs):=w.o _ _ xh h
end
theorem zE {α β:Type}{R S:α->β->Prop} (h:∀a b,R a b->S a b) {xs:List α}{ys:List β} (p:Paired R xs ys):Paired S xs ys:=by
 induction p with
 | nil=>exact .nil
 | cons a b ih=>exact .cons (h _ _ a) ih
theorem KI {α β:Type}{R:α->β->Prop}{xs:List α}{ys:List β} (p:Paired R xs ys):∀{i:Nat}{x:α},xs[i]? = some x->∃y,ys[i]? = some y/\R x y:=by
 induction p with
 | nil=>intro i x h;simp at h
 | cons a b ih=>
  intro i x h
  cases i with
  | zero=>simp at h;subst h;exact⟨_,rfl,a⟩
  | succ i=>simpa using ih (by simpa using h)
inductive ziC (C:Cs) (na:Int->Addr) (av:List Addr) (H:Hp) (b:Addr) (t:State):Prop
 | mk (dx w g s l) (z1:H b=some (.ins C.bk dx (XC w g s l))) (z2:Rd H g (.dK (wF na t))) (z3:Rd H s (.dK (vj na t))) (z4:g∉av/\s∉av):ziC C na av H b t
structure BkN (C:Cs) (na:Int->Addr) (av:List Addr) (H:Hp) (b:Addr) (t:State):Prop where
 ex:ziC C na av H b t
 gen:∀x∈t.genera,wZ C H (na x.key) x
 spe:∀x∈t.species,qH C H (na x.key) x
inductive ziH (C:Cs) (na:Int->Addr) (av:List Addr) (H:Hp) (b:Addr) (t:State):Prop
 | mk (dx w g s l) (z1:H b=some (.ins C.bk dx (XC w g s l))) (z2:H g=some (.dK (wF na t))) (z3:H s=some (.dK (vj na t))) (z4:g∉av/\s∉av):ziH C na av H b t
structure BkP (C:Cs) (na:Int->Addr) (av:List Addr) (H:Hp) (b:Addr) (t:State):Prop where
 ex:ziH C na av H b t
 gen:∀x∈t.genera,wZ C H (na x.key) x
 spe:∀x∈t.species,qH C H (na x.key) x
inductive ziB (C:Cs) (na:Int->Addr) (H:Hp) (b:Addr) (t:State) (ps:List Addr):Prop
 | mk (dx w g s l) (z1:H b=some (.ins C.bk dx (XC w g s l))) (z2:H w=some (.dK (kz t))) (z3:H g=some (.dK (wF na t))) (z4:H s=some (.dK (vj na t))) (z5:H l=some (.lst (ps.map V.ref))) (z6:w≠g/\w≠s/\g≠s):ziB C na H b t ps
structure BkW (C:Cs) (na:Int->Addr) (H:Hp) (b:Addr) (t:State) (ps:List Addr):Prop where
 ex:ziB C na H b t ps
 gen:∀x∈t.genera,wZ C H (na x.key) x
 spe:∀x∈t.species,qH C H (na x.key) x
 act:Paired (ZT C H) ps t.acts
section
variable {C:Cs}{na:Int->Addr}{av:List Addr}{H H':Hp}{b:Addr}{t:State}{ps:List Addr}
theorem BkW.p (h:BkW C na H b t ps):BkP C na [] H b t:=let ⟨dx,w,g,s,l,h1,_,h2,h3,_,_⟩:=h.ex;⟨⟨dx,w,g,s,l,h1,h2,h3,by simp,by simp⟩,h.gen,h.spe⟩
theorem BkP.n (h:BkP C na av H b t):BkN C na av H b t:=let ⟨dx,w,g,s,l,h1,h2,h3,h4⟩:=h.ex;⟨⟨dx,w,g,s,l,h1,.inl h2,.inl h3,h4⟩,h.gen,h.spe⟩
theorem BkN.wk (h:BkN C na av H b t) (k:Wk av H H'):BkN C na av H' b t:=
 let ⟨dx,w,g,s,l,h1,h2,h3,h4,h5⟩:=h.ex
 ⟨⟨dx,w,g,s,l,k.ins h1,k.d _ _ h4 h2,k.d _ _ h5 h3,h4,h5⟩,fun x hx=>k.gen (h.gen x hx),fun x hx=>k.spe (h.spe x hx)⟩
theorem BkP.same (h:BkP C na av H b t) (k:Same H H'):BkP C na av H' b t:=
 let ⟨dx,w,g,s,l,h1,h2,h3,h4⟩:=h.ex
 ⟨⟨dx,w,g,s,l,k _ _ h1,k _ _ h2,k _ _ h3,h4⟩,fun x hx=>(k.wk (av:=[])).gen (h.gen x hx),fun x hx=>(k.wk (av:=[])).spe (h.spe x hx)⟩
theorem BkP.samex {vd:Addr}{kvs:List (Key×V)} (h:BkP C na av H b t) (k:zv vd H H') (hv:H vd=some (.dK kvs)) (m:vd∈av):BkP C na av H' b t:=
 let ⟨dx,w,g,s,l,h1,h2,h3,h4,h5⟩:=h.ex
 ⟨⟨dx,w,g,s,l,(k.wk hv m).ins h1,k _ _ (fun q=>h4 (q▸m)) h2,k _ _ (fun q=>h5 (q▸m)) h3,h4,h5⟩,fun x hx=>(k.wk hv m).gen (h.gen x hx),fun x hx=>(k.wk hv m).spe (h.spe x hx)⟩
theorem BkW.same (h:BkW C na H b t ps) (k:Same H H'):BkW C na H' b t ps:=
 let ⟨dx,w,g,s,l,h1,h2,h3,h4,h5,h6⟩:=h.ex
 ⟨⟨dx,w,g,s,l,k _ _ h1,k _ _ h2,k _ _ h3,k _ _ h4,k _ _ h5,h6⟩,fun x hx=>(k.wk (av:=[])).gen (h.gen x hx),fun x hx=>(k.wk (av:=[])).spe (h.spe x hx),zE (fun _ _ z=>(k.wk (av:=[])).act z) h.act⟩
theorem BkP.more {vd:Addr} (h:BkP C na av H b t) (hv:H vd=none):BkP C na (vd::av) H b t:=
 let ⟨dx,w,g,s,l,h1,h2,h3,h4,h5⟩:=h.ex
 ⟨⟨dx,w,g,s,l,h1,h2,h3,by simp only[Uaf,not_or];exact⟨zm h2 hv,h4⟩,by simp only[Uaf,not_or];exact⟨zm h3 hv,h5⟩⟩,h.gen,h.spe⟩
theorem BkN.nm (h:BkN C na av H b t) {k:Int}{p:Int×Int×Int} (hp:Vbnlae.placeOf t k=some p):Qk C H (na k) k p.2.1 p.1 p.2.2:=by
 unfold Vbnlae.placeOf at hp
 cases e:Vbnlae.genusOf t k with
 | some g=>
  rw[e] at hp
  obtain⟨m,rfl⟩:=NB.zx e
  cases hp
  exact(h.gen g m).nm
 | none=>
  rw[e] at hp
  obtain⟨n,e2,rfl⟩:=Ubz.mp hp
  obtain⟨m,rfl⟩:=NB.zx e2
  exact(h.spe n m).nm
end
set_option hygiene false in
local macro_rules | `(tactic| fail "lt1k")=>`(tactic| first | exact(by decide:0<1000) | exact(by decide:1<1000) | exact(by decide:2<1000) | exact(by decide:3<1000) | exact(by decide:4<1000) | exact(by decide:5<1000) | exact(by decide:6<1000))
set_option hygiene false in
local macro_rules | `(tactic| fail "sw")=>`(tactic| ((with_reducible refine zdS (C:=?_) (dx:=?_) (fs:=?_) ?_ ?_ ?_ ?_);rotate_left 3;fail "hp_";fail "cf";fail "lt1k"))
set_option hygiene false in
local macro_rules | `(tactic| k_go)=>`(tactic| repeat (first | fail "st" | fail "sv" | fail "sf" | fail "sm" | fail "sw"))
theorem zv.set {p:Addr}{H:Hp}{u:HO}:zv p H (L2.upd H p u):=fun b o n h=>by rw[zh n];exact h
section
variable {P:Program}{w:World}{K:PySem.W.Frag}{mg:Str->Option Value}{base:Heap}{C:Cs}
def nmF (k w d p:Int):List (Str×V):=[("key",.int k),("work",.int w),("day",.int d),("page",.int p)]
inductive zbn (C:Cs) (vs:List V) (H:Hp) (Q:VK) (E:XK):Prop
 | mk (p:Addr) (k w d g:Int) (z1:vs=[.ref p,.int k,.int w,.int d,.int g]) (Cl dx) (z2:Jw C Cl) (z3:H p=some (.ins Cl dx [])) (z4:∀H',H' p=some (.ins Cl dx (nmF k w d g))->zv p H H'->Q .non H'):zbn C vs H Q E
theorem ZX:zk ["self", "key", "work", "day", "page"] ["self", "key", "work", "day", "page"] (zg (zo (top 1) 0)):=sC
theorem ze6 (T:Txt K mg C):InO P w K mg base C.nm "Name" 1 ["self", "key", "work", "day", "page"] (zbn C):=by
 refine T.i_Name.ok ZX fun f cdv A outer s H vs Q E hr h=>?_
 ·obtain⟨p,k,w,d,g,rfl,Cl,dx,hS,hp,q⟩:=h
  refine⟨_,(zb (zF K (pv 0) (pv 1) rfl) (zb (zF K (pv 0) (pv 2) rfl) (zb (zF K (pv 0) (pv 3) rfl) (ze (zF K (pv 0) (pv 4) rfl))))),?_⟩
  k_go
  exact q _ zc (zv.set.trans (zv.set.trans (zv.set.trans zv.set)))
theorem zbQ (T:Txt K mg C):IO P w K mg base "Name" 1 ["self", "key", "work", "day", "page"] (zbn C):=(ze6 T).io
inductive K4 (C:Cs) (vs:List V) (H:Hp) (Q:VK) (E:XK):Prop
 | mk (p:Addr) (k w d g e:Int) (l:Addr) (z1:vs=[.ref p,.int k,.int w,.int d,.int g,.int e,.ref l]) (dx) (z2:H p=some (.ins C.ge dx [])) (z3:∀H',H' p=some (.ins C.ge dx (zio k w d g e l))->zv p H H'->Q .non H'):K4 C vs H Q E
theorem qY:zk ["self", "key", "work", "day", "page", "gender", "letters"] ["self", "key", "work", "day", "page", "gender", "letters"] (zg (zo (top 2) 0)):=sC
theorem Q7 (T:Txt K mg C):InO P w K mg base C.ge "GenusName" 2 ["self", "key", "work", "day", "page", "gender", "letters"] (K4 C):=by
 refine T.i_GenusName.ok qY fun f cdv A outer s H vs Q E hr h=>?_
 ·obtain⟨p,k,w,d,g,e,l,rfl,dx,hp,q⟩:=h
  refine⟨_,(zb (yu (zcJ (zbQ T) hr.m (za (pv 0) (za (pv 1) (za (pv 2) (za (pv 3) (za (pv 4) zf))))))) (zb (zF K (pv 0) (pv 5) rfl) (ze (zF K (pv 0) (pv 6) rfl)))),?_⟩
  k_go
  refine⟨p,k,w,d,g,rfl,C.ge,dx,.inl rfl,hp,fun H1 h1 s1=>?_⟩
  k_go
  exact q _ zc (s1.trans (zv.set.trans zv.set))
inductive YU (C:Cs) (vs:List V) (H:Hp) (Q:VK) (E:XK):Prop
 | mk (p:Addr) (k w d g e:Int) (l:Addr) (z1:vs=[.ref p,.int k,.int w,.int d,.int g,.int e,.ref l]) (dx) (z2:H p=some (.ins C.sp dx [])) (z3:∀H',H' p=some (.ins C.sp dx (spF k w d g e l))->zv p H H'->Q .non H'):YU C vs H Q E
theorem qf:zk ["self", "key", "work", "day", "page", "first_genus", "forms"] ["self", "key", "work", "day", "page", "first_genus", "forms"] (zg (zo (top 3) 0)):=sC
theorem Xm (T:Txt K mg C):InO P w K mg base C.sp "SpeciesName" 2 ["self", "key", "work", "day", "page", "first_genus", "forms"] (YU C):=by
 refine T.i_SpeciesName.ok qf fun f cdv A outer s H vs Q E hr h=>?_
 ·obtain⟨p,k,w,d,g,e,l,rfl,dx,hp,q⟩:=h
  refine⟨_,(zb (yu (zcJ (zbQ T) hr.m (za (pv 0) (za (pv 1) (za (pv 2) (za (pv 3) (za (pv 4) zf))))))) (zb (zF K (pv 0) (pv 5) rfl) (ze (zF K (pv 0) (pv 6) rfl)))),?_⟩
  k_go
  refine⟨p,k,w,d,g,rfl,C.sp,dx,.inr rfl,hp,fun H1 h1 s1=>?_⟩
  k_go
  exact q _ zc (s1.trans (zv.set.trans zv.set))
inductive zfB (C:Cs) (vs:List V) (H:Hp) (Q:VK) (E:XK):Prop
 | mk (p:Addr) (k c w d a b:Int) (z1:vs=[.ref p,.int k,.int c,.int w,.int d,.int a,.int b]) (dx) (z2:H p=some (.ins C.ac dx [])) (z3:∀H',H' p=some (.ins C.ac dx (zho k c w d a b))->zv p H H'->Q .non H'):zfB C vs H Q E
theorem Y5:zk ["self", "key", "kind", "work", "day", "a", "b"] ["self", "key", "kind", "work", "day", "a", "b"] (zg (zo (top 4) 0)):=sC
theorem zf8 (T:Txt K mg C):InO P w K mg base C.ac "Act" 1 ["self", "key", "kind", "work", "day", "a", "b"] (zfB C):=by
 refine T.i_Act.ok Y5 fun f cdv A outer s H vs Q E hr h=>?_
 ·obtain⟨p,k,c,w,d,a,b,rfl,dx,hp,q⟩:=h
  refine⟨_,(zb (zF K (pv 0) (pv 1) rfl) (zb (zF K (pv 0) (pv 2) rfl) (zb (zF K (pv 0) (pv 3) rfl) (zb (zF K (pv 0) (pv 4) rfl) (zb (zF K (pv 0) (pv 5) rfl) (ze (zF K (pv 0) (pv 6) rfl))))))),?_⟩
  k_go
  exact q _ zc (zv.set.trans (zv.set.trans (zv.set.trans (zv.set.trans (zv.set.trans zv.set)))))
inductive zbr (C:Cs) (vs:List V) (H:Hp) (Q:VK) (E:XK):Prop
 | mk (p:Addr) (n:Int) (a r:Addr) (z1:vs=[.ref p,.int n,.ref a,.ref r]) (dx) (z2:H p=some (.ins C.cl dx [])) (z3:∀H',H' p=some (.ins C.cl dx (zfK n a r))->zv p H H'->Q .non H'):zbr C vs H Q E
theorem ZL:zk ["self", "number", "numbers", "rows"] ["self", "number", "numbers", "rows"] (zg (zo (top 114) 0)):=sC
theorem zeH (T:Txt K mg C):InO P w K mg base C.cl "Call" 1 ["self", "number", "numbers", "rows"] (zbr C):=by
 refine T.i_Call.ok ZL fun f cdv A outer s H vs Q E hr h=>?_
 ·obtain⟨p,n,a,r,rfl,dx,hp,q⟩:=h
  refine⟨_,(zb (zF K (pv 0) (pv 1) rfl) (zb (zF K (pv 0) (pv 2) rfl) (ze (zF K (pv 0) (pv 3) rfl)))),?_⟩
  k_go
  exact q _ zc (zv.set.trans (zv.set.trans zv.set))
inductive JP (C:Cs) (vs:List V) (H:Hp) (Q:VK) (E:XK):Prop
 | mk (p:Addr) (a:Addr) (z1:vs=[.ref p,.ref a]) (dx) (z2:H p=some (.ins C.rd dx [])) (z3:∀H',H' p=some (.ins C.rd dx (V3 a 0))->zv p H H'->Q .non H'):JP C vs H Q E
theorem vL:zk ["self", "calls"] ["self", "calls"] (zg (zo (top 115) 0)):=sC
theorem zbC (T:Txt K mg C):InO P w K mg base C.rd "Reader" 1 ["self", "calls"] (JP C):=by
 refine T.i_Reader.ok vL fun f cdv A outer s H vs Q E hr h=>?_
 ·obtain⟨p,a,rfl,dx,hp,q⟩:=h
  refine⟨_,(zb (zF K (pv 0) (pv 1) rfl) (ze (zF K (pv 0) zq rfl))),?_⟩
  k_go
  exact q _ zc (zv.set.trans zv.set)
inductive zhB (C:Cs) (vs:List V) (H:Hp) (Q:VK) (E:XK):Prop
 | mk (p b l:Addr) (z1:vs=[.ref p,.ref b,.ref l]) (dx) (z2:H p=some (.ins C.tl dx [])) (z3:∀H' vd,H vd=none->H' p=some (.ins C.tl dx (tlF b l vd))->H' vd=some (.dK [])->zv p H H'->Q .non H'):zhB C vs H Q E
theorem kR:zk ["self", "book", "acts"] ["self", "book", "acts"] (zg (zo (top 86) 0)):=sC
theorem VD (T:Txt K mg C):InO P w K mg base C.tl "Timeline" 1 ["self", "book", "acts"] (zhB C):=by
 refine T.i_Timeline.ok kR fun f cdv A outer s H vs Q E hr h=>?_
 ·obtain⟨p,b,l,rfl,dx,hp,q⟩:=h
  refine⟨_,(zb (zF K (pv 0) (pv 1) rfl) (zb (zF K (pv 0) (pv 2) rfl) (ze (zF K (pv 0) jC rfl)))),?_⟩
  k_go
  intro vd hv
  have hne:p≠vd:=zm zc hv
  have h0:H vd=none:=by
   rw[zh hne.symm,zh hne.symm] at hv
   exact hv
  k_go
  refine q _ vd h0 zc (by rw[zh hne.symm];exact zc) ?_
  exact(zv.set.trans zv.set).trans ((Same.new hv).x.trans zv.set)
inductive za7 (C:Cs) (vs:List V) (H:Hp) (Q:VK) (E:XK):Prop
 | mk (p:Addr) (z1:vs=[.ref p]) (dx) (z2:H p=some (.ins C.bk dx [])) (z3:∀H',(∀na,BkW C na H' p {} [])->zv p H H'->Q .non H'):za7 C vs H Q E
theorem ZV:zk ["self"] ["self"] (zg (zo (top 6) 0)):=sC
theorem zeE (T:Txt K mg C):InO P w K mg base C.bk "Book" 1 ["self"] (za7 C):=by
 refine T.i_Book.ok ZV fun f cdv A outer s H vs Q E hr h=>?_
 ·obtain⟨p,rfl,dx,hp,q⟩:=h
  refine⟨_,(zb (zF K (pv 0) jC rfl) (zb (zF K (pv 0) jC rfl) (zb (zF K (pv 0) jC rfl) (ze (zF K (pv 0) (zD zf) rfl))))),?_⟩
  k_go
  intro w hw
  have n1:p≠w:=zm hp hw
  have e1:upd H w (.dK []) p=some (.ins C.bk dx []):=by rw[zh n1];exact hp
  k_go
  intro g hg
  have n2:p≠g:=zm zc hg
  have w1:upd (upd H w (.dK [])) p (.ins C.bk dx (xN "work_days" (.ref w) [])) w=some (.dK []):=by rw[zh n1.symm];exact zc
  have m1:w≠g:=zm w1 hg
  have e2:upd (upd (upd H w (.dK [])) p (.ins C.bk dx (xN "work_days" (.ref w) []))) g (.dK []) p=some (.ins C.bk dx (xN "work_days" (.ref w) [])):=by rw[zh n2];exact zc
  k_go
  intro s hs
  have n3:p≠s:=zm zc hs
  have g1:upd (upd (upd (upd H w (.dK [])) p (.ins C.bk dx (xN "work_days" (.ref w) []))) g (.dK [])) p (.ins C.bk dx (xN "genera" (.ref g) (xN "work_days" (.ref w) []))) g=some (.dK []):=by rw[zh n2.symm];exact zc
  have w2:upd (upd (upd (upd H w (.dK [])) p (.ins C.bk dx (xN "work_days" (.ref w) []))) g (.dK [])) p (.ins C.bk dx (xN "genera" (.ref g) (xN "work_days" (.ref w) []))) w=some (.dK []):=by rw[zh n1.symm,zh m1];exact w1
  have m2:g≠s:=zm g1 hs
  have m3:w≠s:=zm w2 hs
  generalize hH3:upd (upd (upd (upd H w (.dK [])) p (.ins C.bk dx (xN "work_days" (.ref w) []))) g (.dK [])) p (.ins C.bk dx (xN "genera" (.ref g) (xN "work_days" (.ref w) [])))=H3 at hs g1 w2 ⊢
  have e3:upd H3 s (.dK []) p=some (.ins C.bk dx (xN "genera" (.ref g) (xN "work_days" (.ref w) []))):=by rw[zh n3,←hH3];exact zc
  k_go
  refine⟨Uax _,fun l hl=>?_⟩
  have n4:p≠l:=zm zc hl
  have e4:upd (upd (upd H3 s (.dK [])) p (.ins C.bk dx (xN "species" (.ref s) (xN "genera" (.ref g) (xN "work_days" (.ref w) []))))) l (.lst []) p=some (.ins C.bk dx (xN "species" (.ref s) (xN "genera" (.ref g) (xN "work_days" (.ref w) [])))):=by rw[zh n4];exact zc
  k_go
  have sS:upd (upd H3 s (.dK [])) p (.ins C.bk dx (xN "species" (.ref s) (xN "genera" (.ref g) (xN "work_days" (.ref w) [])))) s=some (.dK []):=by rw[zh n3.symm];exact zc
  have sG:upd (upd H3 s (.dK [])) p (.ins C.bk dx (xN "species" (.ref s) (xN "genera" (.ref g) (xN "work_days" (.ref w) [])))) g=some (.dK []):=by rw[zh n2.symm,zh m2];exact g1
  have sW:upd (upd H3 s (.dK [])) p (.ins C.bk dx (xN "species" (.ref s) (xN "genera" (.ref g) (xN "work_days" (.ref w) [])))) w=some (.dK []):=by rw[zh n1.symm,zh m3];exact w2
  have l1:=zm sS hl
  have l2:=zm sG hl
  have l3:=zm sW hl
  refine q _ (fun na=>⟨⟨dx,w,g,s,l,zc,?_,?_,?_,?_,m1,m3,m2⟩,fun x hx=>by simp at hx,fun x hx=>by simp at hx,.nil⟩) ?_
  ·rw[zh n1.symm,zh l3];exact sW
  ·rw[zh n2.symm,zh l2];exact sG
  ·rw[zh n3.symm,zh l1];exact sS
  ·rw[zh n4.symm];exact zc
  ·refine zv.trans ?_ zv.set
   refine zv.trans ?_ (Same.new hl).x
   refine zv.trans ?_ zv.set
   refine zv.trans ?_ (Same.new hs).x
   rw[←hH3]
   refine zv.trans ?_ zv.set
   refine zv.trans ?_ (Same.new hg).x
   refine zv.trans ?_ zv.set
   exact(Same.new hw).x
theorem QL:zk ["act"] ["act"] (zg (top 5)):=sC
inductive zaY (C:Cs) (vs:List V) (H:Hp) (Q:VK) (E:XK):Prop
 | mk (a:Addr) (z1:vs=[.ref a]) (x) (z2:ZT C H a x) (z3:∀p H',Same H H'->H' p=some (.tup ((NB.ve x).map V.int))->Q (.ref p) H'):zaY C vs H Q E
theorem QS (T:Txt K mg C):FO P w K mg base "act_order" 1 ["act"] (zaY C):=by
 refine T.d_act_order.ok QL fun f cdv A outer s H vs Q E hr h=>?_
 ·obtain⟨a,rfl,x,⟨dx,ha⟩,q⟩:=h
  refine⟨_,(ze (zj (Wx (za (zd K (pv 0) rfl) (za (zd K (pv 0) rfl) zf))))),?_⟩
  k_go
  exact⟨by show 2<=sizeLine;decide,fun p hp=>q p _ (Same.new hp) zc⟩
end
theorem vH {kvs:List (Key×V)}{k:Key}{v:V} (h:xr kvs k=none):Qn kvs k v=kvs++[(k,v)]:=by
 unfold Qn
 rw[if_neg]
 intro q
 obtain⟨p,hp,e⟩:=List.any_eq_true.mp q
 exact WN h (Uaq.mpr ⟨p,hp,of_decide_eq_true e⟩)
def yT (b:Addr) (H H':Hp):Prop:=∀a o,a≠b->NoD o->H a=some o->H' a=some o
theorem _root_.L2.Same.b {b:Addr}{H H':Hp} (s:Same H H'):yT b H H':=fun a o _ _ h=>s a o h
theorem yT.trans {b:Addr}{H H1 H2:Hp} (s:yT b H H1) (s':yT b H1 H2):yT b H H2:=fun a o n d h=>s' a o n d (s a o n d h)
theorem yT.dict {b d:Addr}{H:Hp}{kvs:List (Key×V)}{u:HO} (h:H d=some (.dK kvs)):yT b H (L2.upd H d u):=fun a o _ n e=>by
 rw[zh (fun q=>by rw[q,h] at e;cases e;exact n _ rfl)]
 exact e
theorem yT.at {b:Addr}{H:Hp}{u:HO}:yT b H (L2.upd H b u):=fun a o n _ e=>by rw[zh n];exact e
section
variable {b:Addr}{H H':Hp}{C:Cs}{w g s l dx:Addr}
theorem yT.gen {x:Genus}{a:Addr} (k:yT b H H') (hb:H b=some (.ins C.bk dx (XC w g s l))) (h:wZ C H a x):wZ C H' a x:=by
 obtain⟨d,l',h1,h2⟩:=h
 exact⟨d,l',k _ _ (zT h1 hb (by intro z;injection z with _ _ z;injection z with z;injection z with z;exact absurd z (by decide))) xh h1,k _ _ (zT h2 hb (by intro z;cases z)) xB h2⟩
theorem yT.spe {x:Species}{a:Addr} (k:yT b H H') (hb:H b=some (.ins C.bk dx (XC w g s l))) (h:qH C H a x):qH C H' a x:=by
 obtain⟨d,fo,f0,f1,f2,h1,h2,h3,h4,h5⟩:=h
 exact⟨d,fo,f0,f1,f2,k _ _ (zT h1 hb (by intro z;injection z with _ _ z;injection z with z;injection z with z;exact absurd z (by decide))) xh h1,k _ _ (zT h2 hb (by intro z;cases z)) xB h2,k _ _ (zT h3 hb (by intro z;cases z)) xB h3,
  k _ _ (zT h4 hb (by intro z;cases z)) xB h4,k _ _ (zT h5 hb (by intro z;cases z)) xB h5⟩
theorem yT.act {x:Vbnlae.Act}{a:Addr} (k:yT b H H') (hb:H b=some (.ins C.bk dx (XC w g s l))) (h:ZT C H a x):ZT C H' a x:=by
 obtain⟨d,h1⟩:=h
 exact⟨d,k _ _ (zT h1 hb (by intro z;injection z with _ _ z;injection z with z;injection z with z;exact absurd z (by decide))) xh h1⟩
end
section
variable {P:Program}{w:World}{K:PySem.W.Frag}{mg:Str->Option Value}{base:Heap}{C:Cs}
inductive zbX (C:Cs) (vs:List V) (H:Hp) (Q:VK) (E:XK):Prop
 | mk (a:Addr) (d:Int) (z1:vs=[.ref a,.int d]) (k w e p) (z2:Qk C H a k w e p) (z3:Q (.bl (decide (e<=d))) H):zbX C vs H Q E
theorem Xn:zk ["self", "d"] ["self", "d"] (zg (zo (top 1) 1)):=sC
theorem xI (T:Txt K mg C):MO P w K mg base (Jw C) "is_out" 1 ["self", "d"] (zbX C):=by
 refine MtT.ok T.m_Name_is_out T.c_Name Xn fun f cdv A outer s H vs Q E hr h=>?_
 ·obtain⟨a,d,rfl,k,w,e,p,⟨Cl,dx,fs,hS,ha,l1,l2,l3,l4,l5⟩,q⟩:=h
  refine⟨_,(ze (zj (jL qW (zd K (pv 0) rfl) (pv 1) (zu _)))),?_⟩
  k_go
  exact q
inductive X7 (C:Cs) (vs:List V) (H:Hp) (Q:VK) (E:XK):Prop
 | mk (b:Addr) (k d:Int) (z1:vs=[.ref b,.int k,.int d]) (na t ps) (z2:BkW C na H b t ps) (z3:Vbnlae.isWork t k=false) (z4:t.works.length<1000) (z5:∀H',BkW C na H' b { t with works:=t.works++[⟨k,d⟩] } ps->yT b H H'->Q .non H'):X7 C vs H Q E
theorem Zu:zk ["self", "key", "day"] ["self", "key", "day"] (zg (zo (top 6) 1)):=sC
theorem Zo (T:Txt K mg C):MO P w K mg base (xR C) "keep_work" 1 ["self", "key", "day"] (X7 C):=by
 refine MtT.ok T.m_Book_keep_work T.c_Book Zu fun f cdv A outer s H vs Q E hr h=>?_
 ·obtain⟨b,k,d,rfl,na,t,ps,B,h5,hl,q⟩:=h
  obtain⟨dx,w,g,s,l,hb,hw,hg,hs,hL,n1,n2,n3⟩:=B.ex
  refine⟨_,(ze (qM (ya hr) (zd K (pv 0) rfl) (pv 1) (pv 2) rfl)),?_⟩
  k_go
  refine Zz hw (by unfold kz;rw[Uaa];exact yN (Ubk hl)) ?_
  have hv:xr (kz t) (.inl k)=none:=by
   have:=Yj t k
   rw[h5] at this
   exact Option.isNone_iff_eq_none.mp (by rw[Option.isNone_iff_eq_none];exact Option.not_isSome_iff_eq_none.mp (by rw[this];exact Uap))
  rw[vH hv]
  have S:yT b H (upd H w (.dK (kz t++[(.inl k,.int d)]))):=yT.dict hw
  refine q _ ⟨⟨dx,w,g,s,l,?_,?_,?_,?_,?_,n1,n2,n3⟩,fun x hx=>S.gen hb (B.gen x hx),fun x hx=>S.spe hb (B.spe x hx),zE (fun _ _ z=>S.act hb z) B.act⟩ S
  ·rw[zh (zT hb hw (by intro z;cases z))];exact hb
  ·rw[zc];unfold kz;rw[Ubc];rfl
  ·rw[zh n1.symm];exact hg
  ·rw[zh n2.symm];exact hs
  ·rw[zh (zT hL hw (by intro z;cases z))];exact hL
def zaP (na:Int->Addr) (k:Int) (a:Addr):Int->Addr:=fun i=>if i=k then a else na i
theorem vR {na:Int->Addr}{k:Int}{a:Addr}:zaP na k a k=a:=if_pos rfl
theorem Zb {na:Int->Addr}{k i:Int}{a:Addr} (h:i≠k):zaP na k a i=na i:=if_neg h
theorem noN {t:State}{k:Int} (h:Vbnlae.isName t k=false):(∀x∈t.genera,x.key≠k)/\(∀x∈t.species,x.key≠k):=by
 obtain⟨h1,h2⟩:=NB.zbB h
 exact⟨fun x hx e=>h1 (e▸Ubg hx),fun x hx e=>h2 (e▸Ubg hx)⟩
theorem Wv {na:Int->Addr}{t:State}{k:Int}{a:Addr} (h:∀x∈t.genera,x.key≠k):wF (zaP na k a) t=wF na t:=by
 unfold wF
 refine List.map_congr_left fun x hx=>?_
 rw[Zb (h x hx)]
theorem WH {na:Int->Addr}{t:State}{k:Int}{a:Addr} (h:∀x∈t.species,x.key≠k):vj (zaP na k a) t=vj na t:=by
 unfold vj
 refine List.map_congr_left fun x hx=>?_
 rw[Zb (h x hx)]
inductive Yw (C:Cs) (vs:List V) (H:Hp) (Q:VK) (E:XK):Prop
 | mk (b a:Addr) (z1:vs=[.ref b,.ref a]) (na t ps x) (z2:BkW C na H b t ps) (z3:wZ C H a x) (z4:Vbnlae.isName t x.key=false) (z5:t.genera.length<1000) (z6:∀H',BkW C (zaP na x.key a) H' b { t with genera:=t.genera++[x] } ps->yT b H H'->Q .non H'):Yw C vs H Q E
theorem vZ:zk ["self", "name"] ["self", "name"] (zg (zo (top 6) 2)):=sC
theorem v8 (T:Txt K mg C):MO P w K mg base (xR C) "keep_genus" 1 ["self", "name"] (Yw C):=by
 refine MtT.ok T.m_Book_keep_genus T.c_Book vZ fun f cdv A outer s H vs Q E hr h=>?_
 ·obtain⟨b,a,rfl,na,t,ps,x,B,G,h5,hl,q⟩:=h
  obtain⟨dx,w,g,s,l,hb,hw,hg,hs,hL,n1,n2,n3⟩:=B.ex
  obtain⟨dg,lt,ha,hlt⟩:=G
  have G:wZ C H a x:=⟨dg,lt,ha,hlt⟩
  refine⟨_,(ze (qM (ya hr) (zd K (pv 0) rfl) (zd K (pv 1) rfl) (pv 1) rfl)),?_⟩
  k_go
  refine Zz hg (by unfold wF;rw[Uaa];exact yN (Ubk hl)) ?_
  obtain⟨m1,m2⟩:=noN h5
  have hv:xr (wF na t) (.inl x.key)=none:=by
   rw[Yk]
   cases e:Vbnlae.genusOf t x.key with
   | none=>rfl
   | some y=>
    obtain⟨p,e⟩:=NB.zx e
    exact absurd e (m1 y p)
  rw[vH hv]
  have S:yT b H (upd H g (.dK (wF na t++[(.inl x.key,.ref a)]))):=yT.dict hg
  refine q _ ⟨⟨dx,w,g,s,l,?_,?_,?_,?_,?_,n1,n2,n3⟩,fun y hy=>?_,fun y hy=>?_,zE (fun _ _ z=>S.act hb z) B.act⟩ S
  ·rw[zh (zT hb hg (by intro z;cases z))];exact hb
  ·rw[zh n1];exact hw
  ·rw[zc]
   show _=some (HO.dK (List.map _ (t.genera++[x])))
   rw[Ubc]
   show _=some (HO.dK (wF (zaP na x.key a) t++[(Sum.inl x.key,V.ref (zaP na x.key a x.key))]))
   rw[Wv m1,vR]
  ·rw[zh n3.symm]
   show _=some (HO.dK (vj (zaP na x.key a) t))
   rw[WH m2]
   exact hs
  ·rw[zh (zT hL hg (by intro z;cases z))];exact hL
  ·rcases Ubd.mp hy with hy | hy
   ·rw[Zb (m1 y hy)]
    exact S.gen hb (B.gen y hy)
   ·rw[Uam.mp hy,vR]
    exact S.gen hb G
  ·rw[Zb (m2 y hy)]
   exact S.spe hb (B.spe y hy)
inductive vJ (C:Cs) (vs:List V) (H:Hp) (Q:VK) (E:XK):Prop
 | mk (b a:Addr) (z1:vs=[.ref b,.ref a]) (na t ps x) (z2:BkW C na H b t ps) (z3:qH C H a x) (z4:Vbnlae.isName t x.key=false) (z5:t.species.length<1000) (z6:∀H',BkW C (zaP na x.key a) H' b { t with species:=t.species++[x] } ps->yT b H H'->Q .non H'):vJ C vs H Q E
theorem k8:zk ["self", "name"] ["self", "name"] (zg (zo (top 6) 3)):=sC
theorem kZ (T:Txt K mg C):MO P w K mg base (xR C) "keep_species" 1 ["self", "name"] (vJ C):=by
 refine MtT.ok T.m_Book_keep_species T.c_Book k8 fun f cdv A outer s H vs Q E hr h=>?_
 ·obtain⟨b,a,rfl,na,t,ps,x,B,G,h5,hl,q⟩:=h
  obtain⟨dx,w,g,s,l,hb,hw,hg,hs,hL,n1,n2,n3⟩:=B.ex
  obtain⟨dg,fo,f0,f1,f2,ha,hfs⟩:=G
  have G:qH C H a x:=⟨dg,fo,f0,f1,f2,ha,hfs⟩
  refine⟨_,(ze (qM (ya hr) (zd K (pv 0) rfl) (zd K (pv 1) rfl) (pv 1) rfl)),?_⟩
  k_go
  refine Zz hs (by unfold vj;rw[Uaa];exact yN (Ubk hl)) ?_
  obtain⟨m1,m2⟩:=noN h5
  have hv:xr (vj na t) (.inl x.key)=none:=by
   rw[YS]
   cases e:Vbnlae.speciesOf t x.key with
   | none=>rfl
   | some y=>
    obtain⟨p,e⟩:=NB.zx e
    exact absurd e (m2 y p)
  rw[vH hv]
  have S:yT b H (upd H s (.dK (vj na t++[(.inl x.key,.ref a)]))):=yT.dict hs
  refine q _ ⟨⟨dx,w,g,s,l,?_,?_,?_,?_,?_,n1,n2,n3⟩,fun y hy=>?_,fun y hy=>?_,zE (fun _ _ z=>S.act hb z) B.act⟩ S
  ·rw[zh (zT hb hs (by intro z;cases z))];exact hb
  ·rw[zh n2];exact hw
  ·rw[zh n3]
   show _=some (HO.dK (wF (zaP na x.key a) t))
   rw[Wv m1]
   exact hg
  ·rw[zc]
   show _=some (HO.dK (List.map _ (t.species++[x])))
   rw[Ubc]
   show _=some (HO.dK (vj (zaP na x.key a) t++[(Sum.inl x.key,V.ref (zaP na x.key a x.key))]))
   rw[WH m2,vR]
  ·rw[zh (zT hL hs (by intro z;cases z))];exact hL
  ·rw[Zb (m1 y hy)]
   exact S.gen hb (B.gen y hy)
  ·rcases Ubd.mp hy with hy | hy
   ·rw[Zb (m2 y hy)]
    exact S.spe hb (B.spe y hy)
   ·rw[Uam.mp hy,vR]
    exact S.spe hb G
end
theorem WQ {α β:Type}{f:α->β}{l:List α}{i:Nat}{a:α}{b:β} (h:i<l.length):(l.map f).getD i b=f (l.getD i a):=by
 rw[Ual,Ual,Ubw,Uai h]
 rfl
theorem Kw {α:Type}{idx:List Nat}{l:List α}{a:α} (h:idx.Perm (List.range l.length)):(idx.map fun i=>l.getD i a).Perm l:=by
 have e:(List.range l.length).map (fun i=>l.getD i a)=l:=by
  apply List.ext_getElem
  ·simp
  ·intro i h1 h2
   simp [Ual,Uai h2]
 have:=h.map (fun i=>l.getD i a)
 rw[e] at this
 exact this
theorem kI {α β:Type}{R:α->β->Prop}{xs:List α}{ys:List β} (p:Paired R xs ys):xs.length=ys.length:=by
 induction p with
 | nil=>rfl
 | cons a b ih=>simp [ih]
theorem qt {α β:Type}{R:α->β->Prop}{xs:List α}{ys:List β}{x:α}{y:β} (p:Paired R xs ys) (h:R x y):Paired R (xs++[x]) (ys++[y]):=by
 induction p with
 | nil=>exact .cons h .nil
 | cons a b ih=>exact .cons a ih
theorem Jr {α β:Type}{R:α->β->Prop}{xs:List α}{ys:List β}{a:α}{b:β} (p:Paired R xs ys):∀(idx:List Nat),(∀i∈idx,i<xs.length)->Paired R (idx.map fun i=>xs.getD i a) (idx.map fun i=>ys.getD i b)
 | [],_=>.nil
 | i::idx,h=>by
  have hi:=h i Uak
  obtain⟨y,e,r⟩:=KI p (Uai hi)
  refine .cons ?_ (Jr p idx fun j hj=>h j (Uad _ hj))
  show R (xs.getD i a) (ys.getD i b)
  rw[Ual,Ual,e,Uai hi]
  exact r
section
variable {P:Program}{w:World}{K:PySem.W.Frag}{mg:Str->Option Value}{base:Heap}{C:Cs}
inductive Kj (C:Cs) (vs:List V) (H:Hp) (Q:VK) (E:XK):Prop
 | mk (b a:Addr) (z1:vs=[.ref b,.ref a]) (na t ps x) (z2:BkW C na H b t ps) (z3:ZT C H a x) (z4:(∀y∈t.acts,y.key≠x.key)) (z5:(t.acts.Pairwise fun x y=>Vbnlae.later y x=true)) (z6:t.acts.length<1000) (z7:∀H' ps',BkW C na H' b { t with acts:=Vbnlae.putAct x t.acts } ps'->yT b H H'->Q .non H'):Kj C vs H Q E
theorem ZW:zk ["self", "act"] ["self", "act"] (zg (zo (top 6) 4)):=sC
theorem ZS (T:Txt K mg C):MO P w K mg base (xR C) "keep_act" 4 ["self", "act"] (Kj C):=by
 refine MtT.ok T.m_Book_keep_act T.c_Book ZW fun f cdv A outer s H vs Q E hr h=>?_
 ·obtain⟨b,a,rfl,na,t,ps,x,B,A0,hk,ho,hl,q⟩:=h
  obtain⟨dx,wd,g,s',l,hb,hw,hg,hs,hL,n1,n2,n3⟩:=B.ex
  obtain⟨fk,fdk,hm,kp,hbk,F⟩:=(QS (P:=P) (w:=w) (base:=base) T).ex
  have hb:=hb
  refine⟨_,(ze (zF K (pv 0) (Y4 (zbc F (hr.mono (by decide)) hbk) T.nb_sorted PyProof.Rows.boot_sorted (za (jM xn (zd K (pv 0) rfl) (zD (za (pv 1) zf))) zf) (Vx (zbY (v:=.ref fk) rfl hm rfl) zcA)) rfl)),?_⟩
  k_go
  have hlen:ps.length=t.acts.length:=kI B.act
  refine⟨by show 1<=sizeLine;decide,fun p1 hp1=>?_⟩
  refine ql (zS hL hp1) zc (by rw[Uaa,hlen];have:sizeLine=16777216:=sizeLine_eq;simp only[Uae,Ubt];omega) fun p2 hp2=>?_
  have s2:Same H (upd (upd H p1 (.lst [.ref a])) p2 (.lst (ps.map V.ref++[.ref a]))):=(Same.new hp1).upd hp2
  generalize hH2:upd (upd H p1 (.lst [.ref a])) p2 (.lst (ps.map V.ref++[.ref a]))=H2 at s2 ⊢
  have e2:H2 p2=some (.lst ((ps++[a]).map V.ref)):=by rw[←hH2,zc,Ubc];rfl
  k_go
  have P2:Paired (ZT C H2) (ps++[a]) (t.acts++[x]):=zE (fun _ _ z=>(s2.wk (av:=[])).act z) (qt B.act A0)
  refine⟨p2,_,fun i=>NB.ve ((t.acts++[x]).getD i x),rfl,rfl,e2,fun i h=>(by cases h),fun i y H1 Q1 hy s3 hq=>?_,fun idx D Hn s3 hp hpw hD=>?_⟩
  ·obtain⟨ai,hai,rfl⟩:=x3 hy
   obtain⟨xi,hxi,r⟩:=KI P2 hai
   refine⟨ai,rfl,xi,(s3.wk (av:=[])).act r,fun p H3 s4 e4=>hq p H3 s4 ?_⟩
   show _=some (HO.tup ((NB.ve ((t.acts++[x]).getD i x)).map V.int))
   rw[e4,Ual,hxi]
   rfl
  ·have hidx:∀i∈idx,i<(ps++[a]).length:=fun i hi=>by
    have:=Uco.mp (hp.mem_iff.mp hi)
    simpa using this
   have hp':idx.Perm (List.range (t.acts++[x]).length):=by
    have:((ps++[a]).map V.ref).length=(t.acts++[x]).length:=by simp [hlen]
    rw[←this]
    exact hp
   have ea:(idx.map fun i=>(t.acts++[x]).getD i x)=Vbnlae.putAct x t.acts:=by
    refine NB.zav hk ho (Kw hp') ?_
    exact List.Pairwise.map _ (fun i j h=>h) hpw
   have el:(idx.map fun i=>((ps++[a]).map V.ref).getD i .non)=(idx.map fun i=>(ps++[a]).getD i a).map V.ref:=by
    rw[Uau]
    refine List.map_congr_left fun i hi=>?_
    exact WQ (hidx i hi)
   have s4:Same H Hn:=s2.trans s3
   have hbn:=s4 _ _ hb
   have nbD:b≠D:=zm hbn hD
   fail "rd"
   refine zdS (zS hbn hD) T.f_bk_acts (by exact(by decide:4<1000)) ?_
   have S:yT b H (upd (upd Hn D (.lst (idx.map fun i=>((ps++[a]).map V.ref).getD i .non))) b (.ins C.bk dx (xN "acts" (.ref D) (XC wd g s' l)))):=(s4.upd hD).b.trans yT.at
   refine q _ (idx.map fun i=>(ps++[a]).getD i a) ⟨⟨dx,wd,g,s',D,zc,?_,?_,?_,?_,n1,n2,n3⟩,fun y hy=>S.gen hb (B.gen y hy),fun y hy=>S.spe hb (B.spe y hy),?_⟩ S
   ·rw[zh (zT hw hb (by intro z;cases z))];exact s4.upd hD _ _ hw
   ·rw[zh (zT hg hb (by intro z;cases z))];exact s4.upd hD _ _ hg
   ·rw[zh (zT hs hb (by intro z;cases z))];exact s4.upd hD _ _ hs
   ·rw[zh nbD.symm,zc,el]
   ·show Paired _ _ (Vbnlae.putAct x t.acts)
    rw[←ea]
    exact Jr (zE (fun _ _ z=>S.act hb z) (qt B.act A0)) idx hidx
inductive KA (C:Cs) (vs:List V) (H:Hp) (Q:VK) (E:XK):Prop
 | mk (b:Addr) (k:Int) (z1:vs=[.ref b,.int k]) (na av t) (z2:BkN C na av H b t) (z3:Q (.bl (Vbnlae.isName t k)) H):KA C vs H Q E
theorem ZK:zk ["self", "key"] ["self", "key"] (zg (zo (top 6) 5)):=sC
theorem xV (T:Txt K mg C):MO P w K mg base (xR C) "has_name" 1 ["self", "key"] (KA C):=by
 refine MtT.ok T.m_Book_has_name T.c_Book ZK fun f cdv A outer s H vs Q E hr h=>?_
 ·obtain⟨b,k,rfl,na,av,t,B,q⟩:=h
  obtain⟨dx,w,g,s,l,hb,hg,hs,_⟩:=B.ex
  refine⟨_,(ze (zj (zhT (Kb (qy (ya hr) (pv 1) (zd K (pv 0) rfl))) (va (Kb (qy (ya hr) (pv 1) (zd K (pv 0) rfl))))))),?_⟩
  k_go
  refine qB hg ?_
  rw[ZB]
  k_go
  refine zh4 (fun z=>?_) q
  k_go
  refine qB hs ?_
  rw[zdY]
  exact z
inductive Jd (C:Cs) (vs:List V) (H:Hp) (Q:VK) (E:XK):Prop
 | mk (b:Addr) (k:Int) (z1:vs=[.ref b,.int k]) (na av t) (z2:BkN C na av H b t) (z3:Q (if Vbnlae.isName t k=true then .ref (na k) else .non) H):Jd C vs H Q E
theorem Zg:zk ["self", "key"] ["self", "key"] (zg (zo (top 6) 6)):=sC
theorem j6 (T:Txt K mg C):MO P w K mg base (xR C) "find_name" 1 ["self", "key"] (Jd C):=by
 refine MtT.ok T.m_Book_find_name T.c_Book Zg fun f cdv A outer s H vs Q E hr h=>?_
 ·obtain⟨b,k,rfl,na,av,t,B,q⟩:=h
  obtain⟨dx,w,g,s,l,hb,hg,hs,_⟩:=B.ex
  refine⟨_,(ze (zj (ZY (ya hr) (zd K (pv 0) rfl) (pv 1) (zdp (ya hr) (zd K (pv 0) rfl) (pv 1) ⟨rfl,rfl,rfl,rfl⟩) ⟨rfl,rfl,rfl,rfl⟩))),?_⟩
  k_go
  refine zar hg ?_
  k_go
  refine zar hs ?_
  k_go
  refine YK hs ?_
  refine YK hg ?_
  rw[Yk,YS]
  unfold Vbnlae.isName Vbnlae.isGenus Vbnlae.isSpecies at q
  cases e:Vbnlae.genusOf t k with
  | some y=>
   obtain⟨_,rfl⟩:=NB.zx e
   rw[e] at q
   exact q
  | none=>
   rw[e] at q
   cases e2:Vbnlae.speciesOf t k with
   | some y=>
    obtain⟨_,rfl⟩:=NB.zx e2
    rw[e2] at q
    exact q
   | none=>
    rw[e2] at q
    exact q
inductive Jf (C:Cs) (vs:List V) (H:Hp) (Q:VK) (E:XK):Prop
 | mk (b:Addr) (z1:vs=[.ref b]) (na av t) (z2:BkN C na av H b t) (z3:t.genera.length+t.species.length<1000) (z4:∀p H',Same H H'->H' p=some (.lst ((Vbnlae.allKeys t).map fun k=>V.ref (na k)))->Q (.ref p) H'):Jf C vs H Q E
theorem wO:zk ["self"] ["self"] (zg (zo (top 6) 7)):=sC
theorem j4 (T:Txt K mg C):MO P w K mg base (xR C) "all_names" 1 ["self"] (Jf C):=by
 refine MtT.ok T.m_Book_all_names T.c_Book wO fun f cdv A outer s H vs Q E hr h=>?_
 ·obtain⟨b,rfl,na,av,t,B,hl,q⟩:=h
  obtain⟨dx,w,g,s,l,hb,hg,hs,_⟩:=B.ex
  refine⟨_,(ze (zj (jM xn (j5 (wV rfl) rfl T.nb_list PyProof.Rows.boot_list (za (Yp (zd K (pv 0) rfl)) zf)) (j5 (wV rfl) rfl T.nb_list PyProof.Rows.boot_list (za (Yp (zd K (pv 0) rfl)) zf))))),?_⟩
  k_go
  refine⟨g,_,rfl,hg,fun r1 h1=>?_⟩
  k_go
  have s1:Same H (upd H r1 (VwO r1 g)):=Same.new h1
  refine⟨r1,g,_,rfl,zc,s1.rd hg,fun p1 h2=>?_⟩
  have s2:=s1.upd (u:=.lst ((wF na t).map (·.2))) h2
  generalize hH2:upd (upd H r1 (VwO r1 g)) p1 (.lst ((wF na t).map (·.2)))=H2 at s2 ⊢
  have e2:H2 p1=some (.lst ((wF na t).map (·.2))):=by rw[←hH2];exact zc
  have hb2:=s2 _ _ hb
  k_go
  refine⟨s,_,rfl,s2.rd hs,fun r2 h3=>?_⟩
  k_go
  have s3:Same H2 (upd H2 r2 (VwO r2 s)):=Same.new h3
  refine⟨r2,s,_,rfl,zc,s3.rd (s2.rd hs),fun p2 h4=>?_⟩
  have s4:=s3.upd (u:=.lst ((vj na t).map (·.2))) h4
  refine ql (s4 _ _ e2) zc ?_ fun p3 h5=>q p3 _ (s2.trans (s4.upd h5)) ?_
  ·rw[Uaa,Uaa]
   unfold wF vj
   rw[Uaa,Uaa]
   exact Ubk (yN (Ubk hl))
  ·rw[zc]
   unfold wF vj Vbnlae.allKeys
   rw[Ubc,Uau,Uau,Uau,Uau]
   rfl
inductive W3 (C:Cs) (vs:List V) (H:Hp) (Q:VK) (E:XK):Prop
 | mk (b:Addr) (k:Int) (z1:vs=[.ref b,.int k]) (na t ps) (z2:BkW C na H b t ps) (z3:t.acts.length<1000) (z4:∀H',Same H H'->Q (.bl (t.acts.any fun y=>y.key == k)) H'):W3 C vs H Q E
theorem jk:zk ["self", "key", "act"] ["self", "key"] (zg (zo (top 6) 8)):=sC
def wc:Scope:=match zH (zo (top 6) 8) with
 | ((.Return (some (.Call _ ((.ListComp _ _ sc _)::_) _ _)) _)::_)=>sc
 | _=>zg (zo (top 6) 8)
theorem w9:jI ["self", "key", "act"] (zg (zo (top 6) 8)) wc [("act",2)]:=bC
theorem jd {α β:Type}{R:α->β->Prop}{xs:List α}{ys:List β} (p:Paired R xs ys):∃zs:List (α×β),xs=zs.map (·.1)/\ys=zs.map (·.2)/\∀z∈zs,R z.1 z.2:=by
 induction p with
 | nil=>exact⟨[],rfl,rfl,fun z h=>by simp at h⟩
 | @cons a b as bs r _ ih=>
  obtain⟨zs,rfl,rfl,h⟩:=ih
  refine⟨(a,b)::zs,rfl,rfl,fun z hz=>?_⟩
  rcases Uaf.mp hz with rfl | hz
  ·exact r
  ·exact h z hz
theorem Yx (T:Txt K mg C):MO P w K mg base (xR C) "has_act" 1 ["self", "key"] (W3 C):=by
 refine MtT.ok T.m_Book_has_act T.c_Book jk fun f cdv A outer s H vs Q E hr h=>?_
 ·obtain⟨b,k,rfl,na,t,ps,B,hl,q⟩:=h
  obtain⟨dx,w,g,s,l,hb,hw,hg,hs,hL,n1,n2,n3⟩:=B.ex
  obtain⟨zs,e1,e2,hz⟩:=jd B.act
  refine⟨_,(ze (zj (zG (ze0 K rfl) rfl T.nb_any PyProof.Rows.boot_any (za (XH rfl jk.nd (zP K (zd K (pv 0) rfl)) w9 (fun _ _ _ _ _=>zN (i:=2) jk.nd rfl (Or.inl rfl)) (fun _ _ _ _ _=>Zd) (fun _ _ _ _ _=>(jL yA (zd K (pv 2) rfl) (pv 1) (zu _)))) zf)))),?_⟩
  k_go
  have hlen:zs.length<1000:=by have:=congrArg List.length e2;simp at this;omega
  refine zaN (H1:=H) (a:=l) zs (fun z=>V.ref z.1) (fun _=>true) (fun z=>.bl (decide (z.2.key=k))) (SqL.of (by rw[hL,e1,Uau];rfl)) (Ubk (yN (Ubk hlen))) (fun R z=>?_) (fun _=>rfl) (fun z hz' H1 s1=>⟨fun QT q=>q H1 (Same.refl _),fun _ Q q=>?_⟩) fun D H1 s1 _ hD=>?_
  ·k_go
   exact z
  ·obtain⟨da,ha⟩:=(s1.wk (av:=[])).act (hz z hz')
   k_go
   exact q H1 (Same.refl _)
  ·k_go
   rw[kn] at hD
   refine⟨D,zs.map fun z=>decide (z.2.key=k),rfl,SqL.of (by rw[hD,Uau];rfl),?_⟩
   have q:=q H1 s1
   rw[e2,List.any_map] at q
   rw[List.any_map]
   exact q
end
section
variable {P:Program}{w:World}{K:PySem.W.Frag}{mg:Str->Option Value}{base:Heap}{C:Cs}
def zdH (t:State) (x:Str) (k:Int):Bool:=if x = "genus" then Vbnlae.isGenus t k else if x = "species" then Vbnlae.isSpecies t k else if x = "either" then Vbnlae.isName t k else true
inductive zdX (C:Cs) (vs:List V) (H:Hp) (Q:VK) (E:XK):Prop
 | mk (b:Addr) (x:Str) (k:Int) (z1:vs=[.ref b,.str x,.int k]) (na av t) (z2:BkN C na av H b t) (z3:Q (.bl (zdH t x k)) H):zdX C vs H Q E
theorem YD:zk ["book", "wanted", "key"] ["book", "wanted", "key"] (zg (top 33)):=sC
theorem ko (T:Txt K mg C):FO P w K mg base "is_told_name" 2 ["book", "wanted", "key"] (zdX C):=by
 refine T.d_is_told_name.ok YD fun f cdv A outer s H vs Q E hr h=>?_
 ·obtain⟨b,x,k,rfl,na,av,t,B,q⟩:=h
  obtain⟨dx,wd,g,sd,l,hb,hg,hs,_⟩:=B.ex
  refine⟨_,(zb (zy (zp yA (pv 1) Yg (zu _)) (ze (zj (Kb (qy (ya hr) (pv 2) (zd K (pv 0) rfl))))) zn) (zb (zy (zp yA (pv 1) Yg (zu _)) (ze (zj (Kb (qy (ya hr) (pv 2) (zd K (pv 0) rfl))))) zn) (zb (zy (zp yA (pv 1) Yg (zu _)) (ze (zj (xb (xV T) hr.m (pv 0) (za (pv 2) zf)))) zn) (ze (zj za9))))),?_⟩
  unfold zdH at q
  k_go
  by_cases h1:x = "genus"
  ·rw[if_pos h1] at q
   rw[Uac h1]
   refine zQ ?_
   k_go
   refine qB hg ?_
   rw[ZB]
   exact q
  ·rw[if_neg h1] at q
   rw[Uab h1]
   refine zL ?_
   k_go
   by_cases h2:x = "species"
   ·rw[if_pos h2] at q
    rw[Uac h2]
    refine zQ ?_
    k_go
    refine qB hs ?_
    rw[zdY]
    exact q
   ·rw[if_neg h2] at q
    rw[Uab h2]
    refine zL ?_
    k_go
    by_cases h3:x = "either"
    ·rw[if_pos h3] at q
     rw[Uac h3]
     refine zQ ?_
     k_go
     exact⟨b,k,rfl,na,av,t,B,q⟩
    ·rw[if_neg h3] at q
     rw[Uab h3]
     refine zL ?_
     k_go
     exact q
inductive YZ (C:Cs) (vs:List V) (H:Hp) (Q:VK) (E:XK):Prop
 | mk (b:Addr) (c a k:Int) (z1:vs=[.ref b,.int c,.int a,.int k]) (na av t x) (z2:BkN C na av H b t) (z3:x.kind=c) (z4:x.a=a) (z5:x.b=k) (z6:Vbnlae.within c 1 7=true) (z7:Q (.bl (Vbnlae.namesOk t x)) H):YZ C vs H Q E
theorem Vg {c:Int} (h:Vbnlae.within c 1 7=true):∃x y:Str,ZJ.lookup c=some [.str x,.str y]/\∀(t:State) (z:Vbnlae.Act),z.kind=c->Vbnlae.namesOk t z=(zdH t x z.a&&zdH t y z.b):=by
 unfold Vbnlae.within at h
 rw[Uat,Ubm,Ubm] at h
 have h7:c=1\/c=2\/c=3\/c=4\/c=5\/c=6\/c=7:=by omega
 rcases h7 with rfl | rfl | rfl | rfl | rfl | rfl | rfl
 all_goals refine⟨_,_,rfl,fun t z hz=>?_⟩
 all_goals unfold Vbnlae.namesOk
 all_goals rw[hz]
 ·show (Vbnlae.isSpecies t z.a&&Vbnlae.isGenus t z.b)=_
  rfl
 ·show (Vbnlae.isGenus t z.a&&Vbnlae.isGenus t z.b)=_
  rfl
 ·show Vbnlae.isGenus t z.a=(Vbnlae.isGenus t z.a&&true)
  rw[Ucy]
 ·show Vbnlae.isName t z.a=(Vbnlae.isName t z.a&&true)
  rw[Ucy]
 ·show Vbnlae.isName t z.a=(Vbnlae.isName t z.a&&true)
  rw[Ucy]
 ·show (Vbnlae.isSpecies t z.a&&Vbnlae.isSpecies t z.b)=_
  rfl
 ·show Vbnlae.isSpecies t z.a=(Vbnlae.isSpecies t z.a&&true)
  rw[Ucy]
theorem jT:zk ["book", "kind", "a", "b", "wanted"] ["book", "kind", "a", "b"] (zg (top 34)):=sC
theorem wN (T:Txt K mg C):FO P w K mg base "are_told_names" 3 ["book", "kind", "a", "b"] (YZ C):=by
 refine T.d_are_told_names.ok jT fun f cdv A outer s H vs Q E hr h=>?_
 ·obtain⟨b,c,a,k,rfl,na,av,t,x,B,rfl,rfl,rfl,hw,q⟩:=h
  obtain⟨y1,y2,hl,hn⟩:=Vg hw
  rw[hn t x rfl] at q
  refine⟨_,(zb (pS 4 jT.nd (zec K T.g_NAMES_TOLD (pv 1) (fun _ _=>rfl))) (ze (zj (vc (zV (ko T) hr.m (za (pv 0) (za (yr (qm K) (pv 4) zq (fun _ _=>rfl)) (za (pv 2) zf)))) (va (zV (ko T) hr.m (za (pv 0) (za (yr (qm K) (pv 4) zq (fun _ _=>rfl)) (za (pv 3) zf))))))))),?_⟩
  k_go
  refine ziz ?_
  k_go
  refine⟨_,_,rfl,hl,fun tb htb=>?_⟩
  k_go
  refine Qu (i:=0) htb rfl ?_
  k_go
  refine⟨b,y1,x.a,rfl,na,av,t,B,?_⟩
  k_go
  refine Zx (fun z=>?_) q
  k_go
  refine Qu (i:=1) htb rfl ?_
  k_go
  exact⟨b,y2,x.b,rfl,na,av,t,B,z⟩
inductive W1 (vs:List V) (H:Hp) (Q:VK) (E:XK):Prop
 | mk (c b:Int) (z1:vs=[.int c,.int b]) (x:Vbnlae.Act) (z2:x.kind=c) (z3:x.b=b) (z4:Q (.bl (Vbnlae.rangeOk x)) H):W1 vs H Q E
theorem zg9 (n:Int):inV (.int n) ([0,1,2].map V.int)=Vbnlae.within n 0 2:=by
 unfold inV Vbnlae.within
 simp only[Uas,Ucx,Uci,List.any_nil,Bool.or_false]
 show (((0:Int) == n)||(((1:Int) == n)||((2:Int) == n)))=_
 rw[Uck]
 simp only[Bool.or_eq_true,beq_iff_eq,Uat,Ubm]
 omega
theorem zi4 {n:Int} (h:0<=n):inV (.int n) ([0,1].map V.int)=decide (n<=1):=by
 unfold inV
 simp only[Uas,Ucx,Uci,List.any_nil,Bool.or_false]
 show (((0:Int) == n)||((1:Int) == n))=_
 rw[Uck]
 simp only[Bool.or_eq_true,beq_iff_eq,Uat,Ubm]
 omega
theorem zc6 (ns:List Int):(ns.map V.int).all JK=true:=by
 rw[List.all_eq_true]
 intro x hx
 obtain⟨n,_,rfl⟩:=Uaq.mp hx
 rfl
theorem ZN:zk ["kind", "x"] ["kind", "x"] (zg (top 35)):=sC
theorem ZR (T:Txt K mg C):FO P w K mg base "is_x_in_range" 2 ["kind", "x"] W1:=by
 refine T.d_is_x_in_range.ok ZN fun f cdv A outer s H vs Q E hr h=>?_
 ·obtain⟨c,b,rfl,x,rfl,rfl,q⟩:=h
  refine⟨_,(zb (zy (zp yA (pv 0) (zC T.g_STATUS) (zu _)) (ze (zj (jL (Wb K) (pv 1) (jz K T.g_STATUSES) rfl))) zn) (zb (zy (zp yA (pv 0) (zC T.g_ADVANCE) (zu _)) (ze (zj (zV (jV T) hr.m (za (pv 1) zf)))) zn) (ze (zj za9)))),?_⟩
  unfold Vbnlae.rangeOk at q
  k_go
  by_cases h1:x.kind=4
  ·rw[if_pos h1] at q
   rw[Uac h1]
   refine zQ ?_
   k_go
   refine V0 fun a ha=>?_
   refine⟨a,_,rfl,.inr (ha.sq H),rfl,zc6 _,?_⟩
   rw[zg9]
   exact q
  ·rw[if_neg h1] at q
   rw[Uab h1]
   refine zL ?_
   k_go
   by_cases h2:x.kind=5
   ·rw[if_pos h2] at q
    rw[Uac h2]
    refine zQ ?_
    k_go
    exact Vj q
   ·rw[if_neg h2] at q
    rw[Uab h2]
    refine zL ?_
    k_go
    exact q
inductive YB (C:Cs) (vs:List V) (H:Hp) (Q:VK) (E:XK):Prop
 | mk (b:Addr) (c k v a d:Int) (z1:vs=[.ref b,.int c,.int k,.int v,.int a,.int d]) (na t ps x) (z2:BkW C na H b t ps) (z3:t.acts.length<1000) (z4:x.kind=c) (z5:x.key=k) (z6:x.work=v) (z7:x.a=a) (z8:x.b=d) (z9:Vbnlae.within c 1 7=true) (z10:∀H',Same H H'->Q (.int (Vbnlae.actFault t x)) H'):YB C vs H Q E
theorem ziP (n:Int):inV (.int n) [.int 2,.int 6]=(decide (n=2)||decide (n=6)):=by
 unfold inV
 simp only[Uci,List.any_nil,Bool.or_false]
 show (((2:Int) == n)||((6:Int) == n))=_
 rw[Uck]
 simp only[Bool.or_eq_true,beq_iff_eq,Ubm]
 omega
theorem J9:zk ["book", "kind", "key", "work", "a", "b"] ["book", "kind", "key", "work", "a", "b"] (zg (top 36)):=sC
theorem JO (T:Txt K mg C):FO P w K mg base "refuse_act" 4 ["book", "kind", "key", "work", "a", "b"] (YB C):=by
 refine T.d_refuse_act.ok J9 fun f cdv A outer s H vs Q E hr h=>?_
 ·obtain⟨b,c,k,v,a,d,rfl,na,t,ps,x,B,hl,rfl,rfl,rfl,rfl,rfl,hw,q⟩:=h
  obtain⟨dx,wd,g,sd,l,hb,hwd,hg,hs,hL,n1,n2,n3⟩:=B.ex
  refine⟨_,(zb (zy (xw (zU (zV (wx T) hr.m (za (pv 2) zf)))) (ze (zj (zC T.g_BAD_KEY))) zn) (zb (zy (xw (zU (zV (ZR T) hr.m (za (pv 1) (za (pv 5) zf))))) (ze (zj (zC T.g_OUT_OF_RANGE))) zn) (zb (zy (zU (xb (Yx T) hr.m (pv 0) (za (pv 2) zf))) (ze (zj (zC T.g_KEY_TAKEN))) zn) (zb (zy (PW.pt (Vm (jS (jU (ya hr) (pv 3) (zd K (pv 0) rfl))) (YW (xw (zU (zV (wN T) hr.m (za (pv 0) (za (pv 1) (za (pv 4) (za (pv 5) zf)))))))))) (ze (zj (zC T.g_NOT_THERE))) zn) (zb (zy (PW.pt (Js (zp (Wb K) (pv 1) (Wx (za (zC T.g_SINK) (za (zC T.g_REPLACED) zf))) rfl) (Y9 (zp yA (pv 4) (pv 5) (zu _))))) (ze (zj (zC T.g_BOTH_THE_SAME))) zn) (zb (zy (zp Vh (zG (xQ K) rfl T.nb_len PySem.boot_len (za (zd K (pv 0) rfl) zf)) (zC T.g_MOST_ACTS) (zu _)) (ze (zj (zC T.g_FULL))) zn) (ze (zj (zC T.g_NO_REFUSAL))))))))),?_⟩
  unfold Vbnlae.actFault at q
  k_go
  refine Vj ?_
  k_go
  cases h1:Vbnlae.keyOk x.key with
  | false=>
   rw[if_pos h1] at q
   refine zQ ?_
   k_go
   exact q H (Same.refl _)
  | true=>
   rw[if_neg (by rw[h1];decide)] at q
   refine zL ?_
   k_go
   refine⟨x.kind,x.b,rfl,x,rfl,rfl,?_⟩
   k_go
   cases h2:Vbnlae.rangeOk x with
   | false=>
    rw[if_pos h2] at q
    refine zQ ?_
    k_go
    exact q H (Same.refl _)
   | true=>
    rw[if_neg (by rw[h2];decide)] at q
    refine zL ?_
    k_go
    refine⟨b,x.key,rfl,na,t,ps,B,hl,fun H1 s1=>?_⟩
    k_go
    cases h3:t.acts.any (fun y=>y.key == x.key) with
    | true=>
     rw[if_pos h3] at q
     refine zQ ?_
     k_go
     exact q H1 s1
    | false=>
     rw[if_neg (by rw[h3];decide)] at q
     refine zL ?_
     have hb1:=s1 _ _ hb
     k_go
     refine qB (.inl (s1 _ _ hwd)) ?_
     rw[Yj]
     k_go
     have B1:=B.same s1
     refine VX (b:=!Vbnlae.namesOk t x) (fun z=>?_) ?_
     ·k_go
      refine⟨b,x.kind,x.a,x.b,rfl,na,[],t,x,B1.p.n,rfl,rfl,rfl,hw,?_⟩
      k_go
      exact z
     ·rw[←Bool.not_and]
      cases h4:(Vbnlae.isWork t x.work&&Vbnlae.namesOk t x) with
      | false=>
       rw[if_pos h4] at q
       refine zQ ?_
       k_go
       exact q H1 s1
      | true=>
       rw[if_neg (by rw[h4];decide)] at q
       refine zL ?_
       k_go
       refine⟨by show 2<=sizeLine;decide,fun p hp=>?_⟩
       refine⟨p,_,rfl,.inr (SqT.of zc),rfl,rfl,?_⟩
       rw[show (if false=true then !inV (.int x.kind) [.int 2,.int 6] else inV (.int x.kind) [.int 2,.int 6])=inV (.int x.kind) [.int 2,.int 6] from rfl,ziP]
       have s2:=s1.upd (u:=.tup [.int 2,.int 6]) hp
       have hb2:=s2 _ _ hb
       have hL2:=s2 _ _ hL
       k_go
       refine zee (b:=decide (x.a=x.b)) (fun z=>?_) ?_
       ·k_go
        exact z
       ·by_cases h5:(x.kind=2\/x.kind=6)/\x.a=x.b
        ·rw[if_pos h5] at q
         have e5:((decide (x.kind=2)||decide (x.kind=6))&&decide (x.a=x.b))=true:=by simpa using h5
         rw[e5]
         refine zQ ?_
         k_go
         exact q _ s2
        ·rw[if_neg h5] at q
         have e5:((decide (x.kind=2)||decide (x.kind=6))&&decide (x.a=x.b))=false:=by
          cases e:((decide (x.kind=2)||decide (x.kind=6))&&decide (x.a=x.b)) with
          | false=>rfl
          | true=>exact absurd (by simpa using e) h5
         rw[e5]
         refine zL ?_
         k_go
         refine⟨l,_,rfl,.inl (SqL.of hL2),?_⟩
         k_go
         have hlen:ps.length=t.acts.length:=kI B.act
         rw[Uaa,hlen]
         by_cases h6:Vbnlae.ACTS<=t.acts.length
         ·rw[if_pos h6] at q
          rw[Uac (show (80:Int)<=(t.acts.length:Int) by unfold Vbnlae.ACTS at h6;omega)]
          refine zQ ?_
          k_go
          exact q _ s2
         ·rw[if_neg h6] at q
          rw[Uab (show ¬(80:Int)<=(t.acts.length:Int) by unfold Vbnlae.ACTS at h6;omega)]
          refine zL ?_
          k_go
          exact q _ s2
end
inductive wC (C:Cs) (H:Hp) (c:Addr) (n:Int) (ns:List Int) (rows:List (List Int)):Prop
 | mk (dx la lr rs) (z1:H c=some (.ins C.cl dx (zfK n la lr))) (z2:H la=some (.lst (ns.map V.int))) (z3:H lr=some (.lst (rs.map V.ref))) (z4:Paired (fun a r=>H a=some (.lst (r.map V.int))) rs rows):wC C H c n ns rows
theorem made {H H':Hp}{x dx C:Addr} (hx:H x=none) (hd:H dx=none) (s:zv x (upd (upd H dx (.own x)) x (.ins C dx [])) H'):Same H H':=fun b o h=>s b o (zm h hx) (by rw[zh (zm h hx),zh (zm h hd)];exact h)
theorem zK:(1:Nat)<=sizeLine:=by decide
theorem JN {t:State}{x:Vbnlae.Act} (h:Vbnlae.actFault t x=0):(∀y∈t.acts,y.key≠x.key)/\Vbnlae.isWork t x.work=true:=by
 unfold Vbnlae.actFault at h
 split at h
 ·exact absurd h (by decide)
 ·split at h
  ·exact absurd h (by decide)
  ·split at h
   ·exact absurd h (by decide)
   ·rename_i h3
    split at h
    ·exact absurd h (by decide)
    ·rename_i h4
     refine⟨fun y hy e=>h3 (List.any_eq_true.mpr ⟨y,hy,by rw[e];exact beq_self_eq_true _⟩),?_⟩
     cases e:Vbnlae.isWork t x.work with
     | true=>rfl
     | false=>rw[e] at h4;exact absurd rfl h4
theorem qu {t:State}{k:Int} (h:Vbnlae.isWork t k=true):xr (kz t) (.inl k)=some (.int (Vbnlae.dayOf t k)):=by
 rw[WJ]
 unfold Vbnlae.dayOf
 unfold Vbnlae.isWork at h
 cases e:Vbnlae.workOf t k with
 | none=>rw[e] at h;cases h
 | some x=>rfl
section
variable {P:Program}{w:World}{K:PySem.W.Frag}{mg:Str->Option Value}{base:Heap}{C:Cs}
theorem zew (T:Txt K mg C):InO P w K mg base C.ac "Act" 1 ["self", "key", "kind", "work", "day", "a", "b"] (zfB C):=zf8 T
theorem KC (T:Txt K mg C):InO P w K mg base C.ge "GenusName" 2 ["self", "key", "work", "day", "page", "gender", "letters"] (K4 C):=Q7 T
theorem XA (T:Txt K mg C):InO P w K mg base C.sp "SpeciesName" 2 ["self", "key", "work", "day", "page", "first_genus", "forms"] (YU C):=Xm T
def zaR (t:State) (c:Int) (k v a d:Int):Vbnlae.Act:=⟨k,Vbnlae.dayOf t v,c,v,a,d⟩
def zfH (t:State) (x:Vbnlae.Act):State:=if Vbnlae.actFault t x=0 then { t with acts:=Vbnlae.putAct x t.acts } else t
inductive Wg (C:Cs) (vs:List V) (H:Hp) (Q:VK) (E:XK):Prop
 | mk (b c:Addr) (n:Int) (z1:vs=[.ref b,.int n,.ref c]) (na t ps m ns rows k v a d) (z2:BkW C na H b t ps) (z3:wC C H c m ns rows) (z4:(t.acts.Pairwise fun x y=>Vbnlae.later y x=true)) (z5:t.acts.length<1000) (z6:(ns=[k,v,a,d]\/(ns=[k,v,a]/\d=0))) (z7:Vbnlae.within n 1 7=true) (z8:∀H' p ps',BkW C na H' b (zfH t (zaR t n k v a d)) ps'->yT b H H'->H' p=some (.lst ([Vbnlae.actFault t (zaR t n k v a d)].map V.int))->Q (.ref p) H'):Wg C vs H Q E
theorem jb:zk ["book", "kind", "call", "key", "work", "a", "b", "refusal"] ["book", "kind", "call"] (zg (top 37)):=sC
theorem zap (T:Txt K mg C):FO P w K mg base "add_act" 5 ["book", "kind", "call"] (Wg C):=by
 refine T.d_add_act.ok jb fun f cdv A outer s H vs Q E hr h=>?_
 ·obtain⟨b,c,n,rfl,na,t,ps,m,ns,rows,k,v,a,d,B,⟨dc,la,lr,rs,hc,hla,hlr,hrs⟩,ho,hl,hns,hn,q⟩:=h
  obtain⟨dx,wd,g,sd,l,hb,hwd,hg,hs,hL,n1,n2,n3⟩:=B.ex
  refine⟨_,(zb (pS 3 jb.nd (yr (zA K) (zd K (pv 2) rfl) zq (fun _ _=>rfl))) (zb (pS 4 jb.nd (yr (zA K) (zd K (pv 2) rfl) zq (fun _ _=>rfl))) (zb (pS 5 jb.nd (yr (zA K) (zd K (pv 2) rfl) zq (fun _ _=>rfl))) (zb (pS 6 jb.nd (Wr (zp zf0 (zG (xQ K) rfl T.nb_len PySem.boot_len (za (zd K (pv 2) rfl) zf)) zq (zu _)) (yr (zA K) (zd K (pv 2) rfl) zq (fun _ _=>rfl)) zq)) (zb (pS 7 jb.nd (zV (JO T) hr.m (za (pv 0) (za (pv 1) (za (pv 3) (za (pv 4) (za (pv 5) (za (pv 6) zf)))))))) (zb (zy (zp yA (pv 7) (zC T.g_NO_REFUSAL) (zu _)) (ze (yu (xb (ZS T) hr.m (pv 0) (za (wf (zew T) hr.m (za (pv 3) (za (pv 1) (za (pv 4) (za (yS (ya hr) (zd K (pv 0) rfl) (pv 4) (fun _ _=>rfl)) (za (pv 5) (za (pv 6) zf))))))) zf)))) zn) (ze (zj (zD (za (pv 7) zf)))))))))),?_⟩
  have i0:(ns.map V.int)[0]? = some (.int k):=by rcases hns with rfl | ⟨rfl,_⟩ <;> rfl
  have i1:(ns.map V.int)[1]? = some (.int v):=by rcases hns with rfl | ⟨rfl,_⟩ <;> rfl
  have i2:(ns.map V.int)[2]? = some (.int a):=by rcases hns with rfl | ⟨rfl,_⟩ <;> rfl
  k_go
  refine yX (i:=0) (SqL.of hla) i0 ?_
  k_go
  refine yX (i:=1) (SqL.of hla) i1 ?_
  k_go
  refine yX (i:=2) (SqL.of hla) i2 ?_
  k_go
  refine⟨la,_,rfl,.inl (SqL.of hla),?_⟩
  k_go
  have key:∀(R:VK),R (.int d) H->(if decide ((3:Int)<((ns.map V.int).length:Int))=true then tOp (zhh K) (zhl K (zhk 2) "numbers") (tC (.int 3)) [some (.ref b),some (.int n),some (.ref c),some (.int k),some (.int v),some (.int a),none,none] H R else tC (.int 0) [some (.ref b),some (.int n),some (.ref c),some (.int k),some (.int v),some (.int a),none,none] H R):=by
   intro R r
   rcases hns with rfl | ⟨rfl,rfl⟩
   ·refine zQ ?_
    k_go
    exact yX (i:=3) (SqL.of hla) rfl r
   ·exact zL r
  refine key _ ?_
  k_go
  refine⟨b,n,k,v,a,d,rfl,na,t,ps,zaR t n k v a d,B,hl,rfl,rfl,rfl,rfl,rfl,hn,fun H1 s1=>?_⟩
  k_go
  have hb1:=s1 _ _ hb
  by_cases hf:Vbnlae.actFault t (zaR t n k v a d)=0
  ·rw[Uac hf]
   refine zQ ?_
   obtain⟨hk,hW⟩:=JN hf
   k_go
   refine xM (.inl (s1 _ _ hwd)) (qu hW) ?_
   k_go
   intro x dy hx hdy hne
   refine⟨x,k,n,v,_,a,d,rfl,dy,zc,fun H2 h2 s2=>⟨rfl,?_⟩⟩
   have s3:Same H1 H2:=made hx hdy s2
   have B2:=B.same (s1.trans s3)
   refine⟨b,x,rfl,na,t,ps,zaR t n k v a d,B2,⟨dy,h2⟩,hk,ho,hl,fun H3 ps' B3 s4=>?_⟩
   k_go
   refine⟨zK,fun p hp=>?_⟩
   have e:zfH t (zaR t n k v a d)={ t with acts:=Vbnlae.putAct (zaR t n k v a d) t.acts }:=if_pos hf
   rw[e] at q
   exact q _ p ps' (B3.same (Same.new hp)) (((s1.trans s3).b.trans s4).trans (Same.new hp).b) zc
  ·rw[Uab hf]
   refine zL ?_
   k_go
   refine⟨zK,fun p hp=>?_⟩
   have e:zfH t (zaR t n k v a d)=t:=if_neg hf
   rw[e] at q
   exact q _ p ps (B.same (s1.upd hp)) (s1.upd hp).b zc
def zfW (C:Cs) (H:Hp) (d:Addr) (k:Int) (o:Option Int):Prop:=∃kvs,Rd H d (.dK kvs)/\((xr kvs (.inl k)=none/\o=none)\/∃a j v e p,xr kvs (.inl k)=some (.ref a)/\Qk C H a j v e p/\o=some e)
def Z6 (o:Option Int) (d:Int):Bool:=match o with
 | none=>false
 | some e=>decide (e<=d)
inductive zb2 (C:Cs) (vs:List V) (H:Hp) (Q:VK) (E:XK):Prop
 | mk (a:Addr) (d k:Int) (z1:vs=[.ref a,.int d,.int k]) (o) (z2:zfW C H a k o) (z3:Q (.bl (Z6 o d)) H):zb2 C vs H Q E
theorem Z9:zk ["names", "d", "key"] ["names", "d", "key"] (zg (top 39)):=sC
theorem xc (T:Txt K mg C):FO P w K mg base "is_out_among" 2 ["names", "d", "key"] (zb2 C):=by
 refine T.d_is_out_among.ok Z9 fun f cdv A outer s H vs Q E hr h=>?_
 ·obtain⟨a,d,k,rfl,o,⟨kvs,hd,ho⟩,q⟩:=h
  refine⟨_,(ze (zj (vc (Kb (qy (ya hr) (pv 2) (pv 0))) (va (xb (xI T) hr.m (yS (ya hr) (pv 0) (pv 2) (fun _ _=>rfl)) (za (pv 1) zf)))))),?_⟩
  k_go
  refine qB hd ?_
  rcases ho with ⟨hv,rfl⟩ | ⟨n,j,v,e,p,hv,hN,rfl⟩
  ·rw[hv]
   k_go
   exact zL q
  ·rw[hv]
   k_go
   refine zQ ?_
   obtain⟨Cl,dx,fs,hS,hn,l1,l2,l3,l4,l5⟩:=hN
   k_go
   refine xM hd hv ?_
   k_go
   exact⟨n,d,rfl,j,v,e,p,⟨Cl,dx,fs,hS,hn,l1,l2,l3,l4,l5⟩,q⟩
theorem BkN.outG {na:Int->Addr}{av:List Addr}{H:Hp}{b:Addr}{t:State} (B:BkN C na av H b t) {dx wd g sd l:Addr} (hb:H b=some (.ins C.bk dx (XC wd g sd l))) (hg:Rd H g (.dK (wF na t))) (k:Int):zfW C H g k ((Vbnlae.genusOf t k).map (·.day)):=by
 refine⟨_,hg,?_⟩
 rw[Yk]
 cases e:Vbnlae.genusOf t k with
 | none=>exact .inl ⟨rfl,rfl⟩
 | some x=>exact .inr ⟨_,_,_,_,_,rfl,(B.gen x (NB.zx e).1).nm,rfl⟩
theorem BkN.outS {na:Int->Addr}{av:List Addr}{H:Hp}{b:Addr}{t:State} (B:BkN C na av H b t) {dx wd g sd l:Addr} (hb:H b=some (.ins C.bk dx (XC wd g sd l))) (hs:Rd H sd (.dK (vj na t))) (k:Int):zfW C H sd k ((Vbnlae.speciesOf t k).map (·.day)):=by
 refine⟨_,hs,?_⟩
 rw[YS]
 cases e:Vbnlae.speciesOf t k with
 | none=>exact .inl ⟨rfl,rfl⟩
 | some x=>exact .inr ⟨_,_,_,_,_,rfl,(B.spe x (NB.zx e).1).nm,rfl⟩
theorem zdg {t:State} (W:NB.WF t) (d k:Int):Vbnlae.isOut t d k=(Z6 ((Vbnlae.genusOf t k).map (·.day)) d||Z6 ((Vbnlae.speciesOf t k).map (·.day)) d):=by
 unfold Vbnlae.isOut Vbnlae.placeOf
 cases e:Vbnlae.genusOf t k with
 | none=>
  cases e2:Vbnlae.speciesOf t k with
  | none=>rfl
  | some y=>rfl
 | some x=>
  cases e2:Vbnlae.speciesOf t k with
  | none=>exact(Bool.or_false _).symm
  | some y=>
   obtain⟨hx,ex⟩:=NB.zx e
   obtain⟨hy,ey⟩:=NB.zx e2
   exact absurd (ex.trans ey.symm) (W.dis x hx y hy)
def yL (t:State) (d k:Int):Int:=if Vbnlae.dayOk d=false then -9 else if Vbnlae.isOut t d k=true then 0 else -6
inductive WW (C:Cs) (vs:List V) (H:Hp) (Q:VK) (E:XK):Prop
 | mk (b:Addr) (d k:Int) (z1:vs=[.ref b,.int d,.int k]) (na av t) (z2:BkN C na av H b t) (z3:NB.WF t) (z4:Q (.int (yL t d k)) H):WW C vs H Q E
theorem Zq:zk ["book", "d", "key"] ["book", "d", "key"] (zg (top 40)):=sC
theorem wK (T:Txt K mg C):FO P w K mg base "refuse_name_at" 3 ["book", "d", "key"] (WW C):=by
 refine T.d_refuse_name_at.ok Zq fun f cdv A outer s H vs Q E hr h=>?_
 ·obtain⟨b,d,k,rfl,na,av,t,B,W,q⟩:=h
  obtain⟨dx,wd,g,sd,l,hb,hg,hs,_⟩:=B.ex
  refine⟨_,(zb (zy (xw (zU (zV (jV T) hr.m (za (pv 1) zf)))) (ze (zj (zC T.g_OUT_OF_RANGE))) zn) (zb (zy (PW.pt (Vm (zU (zV (xc T) hr.m (za (zd K (pv 0) rfl) (za (pv 1) (za (pv 2) zf))))) (YW (zU (zV (xc T) hr.m (za (zd K (pv 0) rfl) (za (pv 1) (za (pv 2) zf)))))))) (ze (zj (zC T.g_NO_REFUSAL))) zn) (ze (zj (zC T.g_NOT_THERE))))),?_⟩
  unfold yL at q
  k_go
  refine Vj ?_
  k_go
  cases h1:Vbnlae.dayOk d with
  | false=>
   rw[if_pos h1] at q
   refine zQ ?_
   k_go
   exact q
  | true=>
   rw[if_neg (by rw[h1];decide),zdg W] at q
   refine zL ?_
   k_go
   refine⟨g,d,k,rfl,_,B.outG hb hg k,?_⟩
   k_go
   refine VX (b:=Z6 ((Vbnlae.speciesOf t k).map (·.day)) d) (fun z=>?_) ?_
   ·k_go
    refine⟨sd,d,k,rfl,_,B.outS hb hs k,?_⟩
    k_go
    exact z
   ·cases h2:(Z6 ((Vbnlae.genusOf t k).map (·.day)) d||Z6 ((Vbnlae.speciesOf t k).map (·.day)) d) with
    | true=>
     rw[if_pos h2] at q
     refine zQ ?_
     k_go
     exact q
    | false=>
     rw[if_neg (by rw[h2];decide)] at q
     refine zL ?_
     k_go
     exact q
def yO (d:Int) (o o':Option Int):Int:=if Vbnlae.dayOk d=false then -9 else if (Z6 o d&&Z6 o' d)=true then 0 else -6
inductive zbu (C:Cs) (vs:List V) (H:Hp) (Q:VK) (E:XK):Prop
 | mk (d a:Int) (A:Addr) (b:Int) (B:Addr) (z1:vs=[.int d,.int a,.ref A,.int b,.ref B]) (o o') (z2:zfW C H A a o) (z3:zfW C H B b o') (z4:Q (.int (yO d o o')) H):zbu C vs H Q E
theorem ZQ:zk ["d", "a", "a_names", "b", "b_names"] ["d", "a", "a_names", "b", "b_names"] (zg (top 41)):=sC
theorem qz (T:Txt K mg C):FO P w K mg base "refuse_two_at" 3 ["d", "a", "a_names", "b", "b_names"] (zbu C):=by
 refine T.d_refuse_two_at.ok ZQ fun f cdv A outer s H vs Q E hr h=>?_
 ·obtain⟨d,a,A,b,B,rfl,o,o',hA,hB,q⟩:=h
  refine⟨_,(zb (zy (xw (zU (zV (jV T) hr.m (za (pv 0) zf)))) (ze (zj (zC T.g_OUT_OF_RANGE))) zn) (zb (zy (PW.pt (Js (zU (zV (xc T) hr.m (za (pv 2) (za (pv 0) (za (pv 1) zf))))) (Y9 (zU (zV (xc T) hr.m (za (pv 4) (za (pv 0) (za (pv 3) zf)))))))) (ze (zj (zC T.g_NO_REFUSAL))) zn) (ze (zj (zC T.g_NOT_THERE))))),?_⟩
  unfold yO at q
  k_go
  refine Vj ?_
  k_go
  cases h1:Vbnlae.dayOk d with
  | false=>
   rw[if_pos h1] at q
   refine zQ ?_
   k_go
   exact q
  | true=>
   rw[if_neg (by rw[h1];decide)] at q
   refine zL ?_
   k_go
   refine⟨A,d,a,rfl,_,hA,?_⟩
   k_go
   refine zee (b:=Z6 o' d) (fun z=>?_) ?_
   ·k_go
    refine⟨B,d,b,rfl,_,hB,?_⟩
    k_go
    exact z
   ·cases h2:(Z6 o d&&Z6 o' d) with
    | true=>
     rw[if_pos h2] at q
     refine zQ ?_
     k_go
     exact q
    | false=>
     rw[if_neg (by rw[h2];decide)] at q
     refine zL ?_
     k_go
     exact q
end
section
variable {P:Program}{w:World}{K:PySem.W.Frag}{mg:Str->Option Value}{base:Heap}{C:Cs}
def yW (t:State) (k d:Int):Int:=if Vbnlae.keyOk k=false then -4 else if Vbnlae.dayOk d=false then -9 else if Vbnlae.isWork t k=true then -5 else if Vbnlae.WORKS<=t.works.length then -8 else 0
def zas (t:State) (k d:Int):State:=if yW t k d=0 then { t with works:=t.works++[⟨k,d⟩] } else t
inductive ZC (C:Cs) (vs:List V) (H:Hp) (Q:VK) (E:XK):Prop
 | mk (b:Addr) (k d:Int) (z1:vs=[.ref b,.int k,.int d]) (na t ps) (z2:BkW C na H b t ps) (z3:Q (.int (yW t k d)) H):ZC C vs H Q E
theorem XD:zk ["book", "key", "day"] ["book", "key", "day"] (zg (top 55)):=sC
theorem XQ (T:Txt K mg C):FO P w K mg base "refuse_work" 2 ["book", "key", "day"] (ZC C):=by
 refine T.d_refuse_work.ok XD fun f cdv A outer s H vs Q E hr h=>?_
 ·obtain⟨b,k,d,rfl,na,t,ps,B,q⟩:=h
  obtain⟨dx,wd,g,sd,l,hb,hwd,hg,hs,hL,n1,n2,n3⟩:=B.ex
  refine⟨_,(zb (zy (xw (zU (zV (wx T) hr.m (za (pv 1) zf)))) (ze (zj (zC T.g_BAD_KEY))) zn) (zb (zy (xw (zU (zV (jV T) hr.m (za (pv 2) zf)))) (ze (zj (zC T.g_OUT_OF_RANGE))) zn) (zb (zy (jS (qy (ya hr) (pv 1) (zd K (pv 0) rfl))) (ze (zj (zC T.g_KEY_TAKEN))) zn) (zb (zy (zp Vh (zG j7 rfl T.nb_len PySem.boot_len (za (zd K (pv 0) rfl) zf)) (zC T.g_MOST_WORKS) (zu _)) (ze (zj (zC T.g_FULL))) zn) (ze (zj (zC T.g_NO_REFUSAL))))))),?_⟩
  unfold yW at q
  k_go
  refine Vj ?_
  k_go
  cases h1:Vbnlae.keyOk k with
  | false=>
   rw[if_pos h1] at q
   refine zQ ?_
   k_go
   exact q
  | true=>
   rw[if_neg (by rw[h1];decide)] at q
   refine zL ?_
   k_go
   refine Vj ?_
   k_go
   cases h2:Vbnlae.dayOk d with
   | false=>
    rw[if_pos h2] at q
    refine zQ ?_
    k_go
    exact q
   | true=>
    rw[if_neg (by rw[h2];decide)] at q
    refine zL ?_
    k_go
    refine qB (.inl hwd) ?_
    rw[Yj]
    k_go
    cases h3:Vbnlae.isWork t k with
    | true=>
     rw[if_pos h3] at q
     refine zQ ?_
     k_go
     exact q
    | false=>
     rw[if_neg (by rw[h3];decide)] at q
     refine zL ?_
     k_go
     refine⟨wd,_,rfl,hwd,?_⟩
     k_go
     have e:((kz t).length:Int)=(t.works.length:Int):=by unfold kz;rw[Uaa]
     rw[e]
     by_cases h4:Vbnlae.WORKS<=t.works.length
     ·rw[if_pos h4] at q
      rw[Uac (show (60:Int)<=(t.works.length:Int) by unfold Vbnlae.WORKS at h4;omega)]
      refine zQ ?_
      k_go
      exact q
     ·rw[if_neg h4] at q
      rw[Uab (show ¬(60:Int)<=(t.works.length:Int) by unfold Vbnlae.WORKS at h4;omega)]
      refine zL ?_
      k_go
      exact q
theorem XJ {t:State}{k d:Int} (h:yW t k d=0):Vbnlae.isWork t k=false/\t.works.length<60:=by
 unfold yW at h
 split at h
 ·exact absurd h (by decide)
 ·split at h
  ·exact absurd h (by decide)
  ·split at h
   ·exact absurd h (by decide)
   ·rename_i h3
    split at h
    ·exact absurd h (by decide)
    ·rename_i h4
     exact⟨(Ucm _).mp h3,by unfold Vbnlae.WORKS at h4;omega⟩
inductive QX (C:Cs) (vs:List V) (H:Hp) (Q:VK) (E:XK):Prop
 | mk (b c:Addr) (z1:vs=[.ref b,.ref c]) (na t ps m rows k d) (z2:BkW C na H b t ps) (z3:wC C H c m [k,d] rows) (z4:∀H' p,BkW C na H' b (zas t k d) ps->yT b H H'->H' p=some (.lst ([yW t k d].map V.int))->Q (.ref p) H'):QX C vs H Q E
theorem qv:zk ["book", "call", "key", "day", "refusal"] ["book", "call"] (zg (top 56)):=sC
theorem Va (T:Txt K mg C):FO P w K mg base "add_work" 3 ["book", "call"] (QX C):=by
 refine T.d_add_work.ok qv fun f cdv A outer s H vs Q E hr h=>?_
 ·obtain⟨b,c,rfl,na,t,ps,m,rows,k,d,B,⟨dc,la,lr,rs,hc,hla,hlr,hrs⟩,q⟩:=h
  obtain⟨dx,wd,g,sd,l,hb,hwd,hg,hs,hL,n1,n2,n3⟩:=B.ex
  refine⟨_,(zb (pS 2 qv.nd (yr (zA K) (zd K (pv 1) rfl) zq (fun _ _=>rfl))) (zb (pS 3 qv.nd (yr (zA K) (zd K (pv 1) rfl) zq (fun _ _=>rfl))) (zb (pS 4 qv.nd (zV (XQ T) hr.m (za (pv 0) (za (pv 2) (za (pv 3) zf))))) (zb (zy (zp yA (pv 4) (zC T.g_NO_REFUSAL) (zu _)) (ze (yu (xb (Zo T) hr.m (pv 0) (za (pv 2) (za (pv 3) zf))))) zn) (ze (zj (zD (za (pv 4) zf)))))))),?_⟩
  k_go
  refine yX (i:=0) (SqL.of hla) rfl ?_
  k_go
  refine yX (i:=1) (SqL.of hla) rfl ?_
  k_go
  refine⟨b,k,d,rfl,na,t,ps,B,?_⟩
  k_go
  by_cases hf:yW t k d=0
  ·rw[Uac hf]
   refine zQ ?_
   obtain⟨h5,hl⟩:=XJ hf
   k_go
   refine⟨b,k,d,rfl,na,t,ps,B,h5,by omega,fun H1 B1 s1=>?_⟩
   k_go
   refine⟨zK,fun p hp=>?_⟩
   have e:zas t k d={ t with works:=t.works++[⟨k,d⟩] }:=if_pos hf
   rw[e] at q
   exact q _ p (B1.same (Same.new hp)) (s1.trans (Same.new hp).b) zc
  ·rw[Uab hf]
   refine zL ?_
   k_go
   refine⟨zK,fun p hp=>?_⟩
   have e:zas t k d=t:=if_neg hf
   rw[e] at q
   exact q _ p (B.same (Same.new hp)) (Same.new hp).b zc
def yB (t:State) (k v page gender:Int) (txt:List Int):Int:=
 if Vbnlae.keyOk k=false then -4 else if (Vbnlae.within page 1 Vbnlae.MOSTPAGE&&Vbnlae.within gender 0 2)=false then -9 else if Vbnlae.genusText txt=false then -1
 else if Vbnlae.isName t k=true then -5 else if Vbnlae.isWork t v=false then -6 else if Vbnlae.GENERA<=t.genera.length then -8 else 0
inductive wA (C:Cs) (vs:List V) (H:Hp) (Q:VK) (E:XK):Prop
 | mk (b:Addr) (k v page gender:Int) (l:Addr) (z1:vs=[.ref b,.int k,.int v,.int page,.int gender,.ref l]) (na t ps txt) (z2:BkW C na H b t ps) (z3:H l=some (.lst (txt.map V.int))) (z4:txt.length<=sizeLine) (z5:∀H',Same H H'->Q (.int (yB t k v page gender txt)) H'):wA C vs H Q E
theorem Yt:zk ["book", "key", "work", "page", "gender", "letters"] ["book", "key", "work", "page", "gender", "letters"] (zg (top 57)):=sC
theorem Yc (T:Txt K mg C):FO P w K mg base "refuse_genus" 3 ["book", "key", "work", "page", "gender", "letters"] (wA C):=by
 refine T.d_refuse_genus.ok Yt fun f cdv A outer s H vs Q E hr h=>?_
 ·obtain⟨b,k,v,page,gender,lt,rfl,na,t,ps,txt,B,hlt,htl,q⟩:=h
  obtain⟨dx,wd,g,sd,l,hb,hwd,hg,hs,hL,n1,n2,n3⟩:=B.ex
  refine⟨_,(zb (zy (xw (zU (zV (wx T) hr.m (za (pv 1) zf)))) (ze (zj (zC T.g_BAD_KEY))) zn) (zb (zy (PW.pt (Vm (xw (zU (zV (JA T) hr.m (za (pv 3) zf)))) (YW (zp (zcB K) (pv 4) (jz K T.g_GENDERS) rfl)))) (ze (zj (zC T.g_OUT_OF_RANGE))) zn) (zb (zy (xw (zU (zV (ZP T) hr.m (za (pv 5) zf)))) (ze (zj (zC T.g_NOT_A_TEXT))) zn) (zb (zy (zU (xb (xV T) hr.m (pv 0) (za (pv 1) zf))) (ze (zj (zC T.g_KEY_TAKEN))) zn) (zb (zy (jS (jU (ya hr) (pv 2) (zd K (pv 0) rfl))) (ze (zj (zC T.g_NOT_THERE))) zn) (zb (zy (zp Vh (zG j7 rfl T.nb_len PySem.boot_len (za (zd K (pv 0) rfl) zf)) (zC T.g_MOST_GENERA) (zu _)) (ze (zj (zC T.g_FULL))) zn) (ze (zj (zC T.g_NO_REFUSAL))))))))),?_⟩
  unfold yB at q
  k_go
  refine Vj ?_
  k_go
  cases h1:Vbnlae.keyOk k with
  | false=>
   rw[if_pos h1] at q
   refine zQ ?_
   k_go
   exact q H (Same.refl _)
  | true=>
   rw[if_neg (by rw[h1];decide)] at q
   refine zL ?_
   k_go
   refine Vj ?_
   k_go
   refine VX (b:=!Vbnlae.within gender 0 2) (fun z=>?_) ?_
   ·k_go
    refine V0 fun a ha=>?_
    refine⟨a,_,rfl,.inr (ha.sq H),rfl,zc6 _,?_⟩
    k_go
    rw[zg9]
    exact z
   ·rw[←Bool.not_and]
    cases h2:(Vbnlae.within page 1 Vbnlae.MOSTPAGE&&Vbnlae.within gender 0 2) with
    | false=>
     rw[if_pos h2] at q
     refine zQ ?_
     k_go
     exact q H (Same.refl _)
    | true=>
     rw[if_neg (by rw[h2];decide)] at q
     refine zL ?_
     k_go
     refine⟨lt,txt,rfl,hlt,htl,fun H1 s1=>?_⟩
     k_go
     cases h3:Vbnlae.genusText txt with
     | false=>
      rw[if_pos h3] at q
      refine zQ ?_
      k_go
      exact q H1 s1
     | true=>
      rw[if_neg (by rw[h3];decide)] at q
      refine zL ?_
      have hb1:=s1 _ _ hb
      have B1:=B.same s1
      k_go
      refine⟨b,k,rfl,na,[],t,B1.p.n,?_⟩
      k_go
      cases h4:Vbnlae.isName t k with
      | true=>
       rw[if_pos h4] at q
       refine zQ ?_
       k_go
       exact q H1 s1
      | false=>
       rw[if_neg (by rw[h4];decide)] at q
       refine zL ?_
       k_go
       refine qB (.inl (s1 _ _ hwd)) ?_
       rw[Yj]
       k_go
       cases h5:Vbnlae.isWork t v with
       | false=>
        rw[if_pos h5] at q
        refine zQ ?_
        k_go
        exact q H1 s1
       | true=>
        rw[if_neg (by rw[h5];decide)] at q
        refine zL ?_
        k_go
        refine⟨g,_,rfl,s1 _ _ hg,?_⟩
        k_go
        have e:((wF na t).length:Int)=(t.genera.length:Int):=by unfold wF;rw[Uaa]
        rw[e]
        by_cases h6:Vbnlae.GENERA<=t.genera.length
        ·rw[if_pos h6] at q
         rw[Uac (show (24:Int)<=(t.genera.length:Int) by unfold Vbnlae.GENERA at h6;omega)]
         refine zQ ?_
         k_go
         exact q H1 s1
        ·rw[if_neg h6] at q
         rw[Uab (show ¬(24:Int)<=(t.genera.length:Int) by unfold Vbnlae.GENERA at h6;omega)]
         refine zL ?_
         k_go
         exact q H1 s1
theorem Yl {t:State}{k v page gender:Int}{txt:List Int} (h:yB t k v page gender txt=0):Vbnlae.isName t k=false/\Vbnlae.isWork t v=true/\t.genera.length<24:=by
 unfold yB at h
 split at h
 ·exact absurd h (by decide)
 ·split at h
  ·exact absurd h (by decide)
  ·split at h
   ·exact absurd h (by decide)
   ·split at h
    ·exact absurd h (by decide)
    ·rename_i h4
     split at h
     ·exact absurd h (by decide)
     ·rename_i h5
      split at h
      ·exact absurd h (by decide)
      ·rename_i h6
       exact⟨(Ucm _).mp h4,(Bool.not_eq_false _).mp h5,by unfold Vbnlae.GENERA at h6;omega⟩
def zbO (t:State) (k v page gender:Int) (txt:List Int):Genus:=⟨k,Vbnlae.dayOf t v,v,page,gender,txt⟩
def XW (t:State) (k v page gender:Int) (txt:List Int):State:=if yB t k v page gender txt=0 then { t with genera:=t.genera++[zbO t k v page gender txt] } else t
inductive Jv (C:Cs) (vs:List V) (H:Hp) (Q:VK) (E:XK):Prop
 | mk (b c:Addr) (z1:vs=[.ref b,.ref c]) (na t ps m txt k v page gender) (z2:BkW C na H b t ps) (z3:wC C H c m [k,v,page,gender] [txt]) (z4:txt.length<=sizeLine) (z5:∀H' p na',BkW C na' H' b (XW t k v page gender txt) ps->yT b H H'->H' p=some (.lst ([yB t k v page gender txt].map V.int))->Q (.ref p) H'):Jv C vs H Q E
theorem yJ:zk ["book", "call", "key", "work", "page", "gender", "letters", "refusal"] ["book", "call"] (zg (top 58)):=sC
theorem Km (T:Txt K mg C):FO P w K mg base "add_genus" 4 ["book", "call"] (Jv C):=by
 refine T.d_add_genus.ok yJ fun f cdv A outer s H vs Q E hr h=>?_
 ·obtain⟨b,c,rfl,na,t,ps,m,txt,k,v,page,gender,B,⟨dc,la,lr,rs,hc,hla,hlr,hrs⟩,htl,q⟩:=h
  obtain⟨dx,wd,g,sd,l,hb,hwd,hg,hs,hL,n1,n2,n3⟩:=B.ex
  cases hrs with
  | @cons r0 _ rs _ hr0 hrs=>
  cases hrs
  refine⟨_,(zb (pS 2 yJ.nd (yr (zA K) (zd K (pv 1) rfl) zq (fun _ _=>rfl))) (zb (pS 3 yJ.nd (yr (zA K) (zd K (pv 1) rfl) zq (fun _ _=>rfl))) (zb (pS 4 yJ.nd (yr (zA K) (zd K (pv 1) rfl) zq (fun _ _=>rfl))) (zb (pS 5 yJ.nd (yr (zA K) (zd K (pv 1) rfl) zq (fun _ _=>rfl))) (zb (pS 6 yJ.nd (yr (zA K) (zd K (pv 1) rfl) zq (fun _ _=>rfl))) (zb (pS 7 yJ.nd (zV (Yc T) hr.m (za (pv 0) (za (pv 2) (za (pv 3) (za (pv 4) (za (pv 5) (za (pv 6) zf)))))))) (zb (zy (zp yA (pv 7) (zC T.g_NO_REFUSAL) (zu _)) (ze (yu (xb (v8 T) hr.m (pv 0) (za (wf (KC T) hr.m (za (pv 2) (za (pv 3) (za (yS (ya hr) (zd K (pv 0) rfl) (pv 3) (fun _ _=>rfl)) (za (pv 4) (za (pv 5) (za (pv 6) zf))))))) zf)))) zn) (ze (zj (zD (za (pv 7) zf))))))))))),?_⟩
  k_go
  refine yX (i:=0) (SqL.of hla) rfl ?_
  k_go
  refine yX (i:=1) (SqL.of hla) rfl ?_
  k_go
  refine yX (i:=2) (SqL.of hla) rfl ?_
  k_go
  refine yX (i:=3) (SqL.of hla) rfl ?_
  k_go
  refine yX (i:=0) (SqL.of hlr) rfl ?_
  k_go
  refine⟨b,k,v,page,gender,r0,rfl,na,t,ps,txt,B,hr0,htl,fun H1 s1=>?_⟩
  k_go
  have hb1:=s1 _ _ hb
  by_cases hf:yB t k v page gender txt=0
  ·rw[Uac hf]
   refine zQ ?_
   obtain⟨h4,hW,h6⟩:=Yl hf
   k_go
   refine xM (.inl (s1 _ _ hwd)) (qu hW) ?_
   k_go
   intro x dy hx hdy hne
   refine⟨x,k,v,_,page,gender,r0,rfl,dy,zc,fun H2 h2 s2=>⟨rfl,?_⟩⟩
   have s3:Same H1 H2:=made hx hdy s2
   have B2:=B.same (s1.trans s3)
   refine⟨b,x,rfl,na,t,ps,zbO t k v page gender txt,B2,⟨dy,r0,h2,(s1.trans s3) _ _ hr0⟩,h4,by omega,fun H3 B3 s4=>?_⟩
   k_go
   refine⟨zK,fun p hp=>?_⟩
   have e:XW t k v page gender txt={ t with genera:=t.genera++[zbO t k v page gender txt] }:=if_pos hf
   rw[e] at q
   exact q _ p _ (B3.same (Same.new hp)) (((s1.trans s3).b.trans s4).trans (Same.new hp).b) zc
  ·rw[Uab hf]
   refine zL ?_
   k_go
   refine⟨zK,fun p hp=>?_⟩
   have e:XW t k v page gender txt=t:=if_neg hf
   rw[e] at q
   exact q _ p na (B.same (s1.upd hp)) (s1.upd hp).b zc
def zY (t:State) (k v page gen:Int) (m f n:List Int):Int:=
 if Vbnlae.keyOk k=false then -4 else if Vbnlae.within page 1 Vbnlae.MOSTPAGE=false then -9 else if (Vbnlae.epithet m&&(Vbnlae.epithet f&&Vbnlae.epithet n))=false then -1
 else if Vbnlae.isName t k=true then -5 else if (Vbnlae.isWork t v&&Vbnlae.isGenus t gen)=false then -6 else if Vbnlae.SPECIES<=t.species.length then -8 else 0
inductive kh (C:Cs) (vs:List V) (H:Hp) (Q:VK) (E:XK):Prop
 | mk (b:Addr) (k v page gen:Int) (l:Addr) (z1:vs=[.ref b,.int k,.int v,.int page,.int gen,.ref l]) (na t ps m f n rs) (z2:BkW C na H b t ps) (z3:H l=some (.lst (rs.map V.ref))) (z4:Paired (fun a r=>H a=some (.lst (r.map V.int))) rs [m,f,n]) (z5:(m.length<=sizeLine/\f.length<=sizeLine/\n.length<=sizeLine)) (z6:∀H',Same H H'->Q (.int (zY t k v page gen m f n)) H'):kh C vs H Q E
theorem xA:zk ["book", "key", "work", "page", "first_genus", "forms", "form"] ["book", "key", "work", "page", "first_genus", "forms"] (zg (top 59)):=sC
def k7:Scope:=match zH (top 59) with
 | (_::_::(.If (.UnaryOp _ (.Call _ ((.ListComp _ _ sc _)::_) _ _) _) _ _ _)::_)=>sc
 | _=>zg (top 59)
theorem vt:jI ["book", "key", "work", "page", "first_genus", "forms", "form"] (zg (top 59)) k7 [("form",6)]:=bC
theorem wM (T:Txt K mg C):FO P w K mg base "refuse_species" 3 ["book", "key", "work", "page", "first_genus", "forms"] (kh C):=by
 refine T.d_refuse_species.ok xA fun f cdv A outer s H vs Q E hr h=>?_
 ·obtain⟨b,k,v,page,gen,lt,rfl,na,t,ps,m,fe,n,rs,B,hlt,hrs,hln,q⟩:=h
  obtain⟨dx,wd,g,sd,l,hb,hwd,hg,hs,hL,n1,n2,n3⟩:=B.ex
  refine⟨_,(zb (zy (xw (zU (zV (wx T) hr.m (za (pv 1) zf)))) (ze (zj (zC T.g_BAD_KEY))) zn) (zb (zy (xw (zU (zV (JA T) hr.m (za (pv 3) zf)))) (ze (zj (zC T.g_OUT_OF_RANGE))) zn) (zb (zy (xw (zU (zG (VY K rfl) rfl T.nb_all PyProof.Rows.boot_all (za (XH rfl xA.nd (zP K (pv 5)) vt (fun _ _ _ _ _=>zN (i:=6) xA.nd rfl (Or.inl rfl)) (fun _ _ _ _ _=>Zd) (fun _ _ _ _ _=>(zV (zaK T) hr.m (za (pv 6) zf)))) zf)))) (ze (zj (zC T.g_NOT_A_TEXT))) zn) (zb (zy (zU (xb (xV T) hr.m (pv 0) (za (pv 1) zf))) (ze (zj (zC T.g_KEY_TAKEN))) zn) (zb (zy (PW.pt (Vm (jS (jU (ya hr) (pv 2) (zd K (pv 0) rfl))) (YW (jS (jU (ya hr) (pv 4) (zd K (pv 0) rfl)))))) (ze (zj (zC T.g_NOT_THERE))) zn) (zb (zy (zp Vh (zG j7 rfl T.nb_len PySem.boot_len (za (zd K (pv 0) rfl) zf)) (zC T.g_MOST_SPECIES) (zu _)) (ze (zj (zC T.g_FULL))) zn) (ze (zj (zC T.g_NO_REFUSAL))))))))),?_⟩
  unfold zY at q
  k_go
  refine Vj ?_
  k_go
  cases h1:Vbnlae.keyOk k with
  | false=>
   rw[if_pos h1] at q
   refine zQ ?_
   k_go
   exact q H (Same.refl _)
  | true=>
   rw[if_neg (by rw[h1];decide)] at q
   refine zL ?_
   k_go
   refine Vj ?_
   k_go
   cases h2:Vbnlae.within page 1 Vbnlae.MOSTPAGE with
   | false=>
    rw[if_pos h2] at q
    refine zQ ?_
    k_go
    exact q H (Same.refl _)
   | true=>
    rw[if_neg (by rw[h2];decide)] at q
    refine zL ?_
    k_go
    obtain⟨zs,e1,e2,hz⟩:=jd hrs
    have hzl:zs.length=3:=by have:=congrArg List.length e2;simpa using this.symm
    refine zaN (H1:=H) (a:=lt) zs (fun z=>V.ref z.1) (fun _=>true) (fun z=>.bl (Vbnlae.epithet z.2)) (SqL.of (by rw[hlt,e1,Uau];rfl)) (by rw[hzl];decide) (fun R z=>?_) (fun _=>rfl) (fun z hz' H1 s1=>⟨fun QT q=>q H1 (Same.refl _),fun _ Q q=>?_⟩) fun D H1 s1 _ hD=>?_
    ·k_go
     exact z
    ·k_go
     refine⟨z.1,z.2,rfl,s1 _ _ (hz z hz'),?_,q⟩
     have:z.2∈[m,fe,n]:=by rw[e2];exact Ubg hz'
     simp only[Uaf,Ucl,or_false] at this
     rcases this with h | h | h <;> rw[h]
     ·exact hln.1
     ·exact hln.2.1
     ·exact hln.2.2
    ·k_go
     rw[kn] at hD
     refine⟨D,zs.map fun z=>Vbnlae.epithet z.2,rfl,SqL.of (by rw[hD,Uau];rfl),?_⟩
     k_go
     have ea:(zs.map fun z=>Vbnlae.epithet z.2).all id=(Vbnlae.epithet m&&(Vbnlae.epithet fe&&Vbnlae.epithet n)):=by
      have:(zs.map fun z=>Vbnlae.epithet z.2)=[m,fe,n].map Vbnlae.epithet:=by rw[e2,Uau];rfl
      rw[this]
      show (Vbnlae.epithet m&&(Vbnlae.epithet fe&&(Vbnlae.epithet n&&true)))=_
      rw[Ucy]
     rw[ea]
     cases h3:(Vbnlae.epithet m&&(Vbnlae.epithet fe&&Vbnlae.epithet n)) with
     | false=>
      rw[if_pos h3] at q
      refine zQ ?_
      k_go
      exact q H1 s1
     | true=>
      rw[if_neg (by rw[h3];decide)] at q
      refine zL ?_
      have hb1:=s1 _ _ hb
      have B1:=B.same s1
      k_go
      refine⟨b,k,rfl,na,[],t,B1.p.n,?_⟩
      k_go
      cases h4:Vbnlae.isName t k with
      | true=>
       rw[if_pos h4] at q
       refine zQ ?_
       k_go
       exact q H1 s1
      | false=>
       rw[if_neg (by rw[h4];decide)] at q
       refine zL ?_
       k_go
       refine qB (.inl (s1 _ _ hwd)) ?_
       rw[Yj]
       k_go
       refine VX (b:=!Vbnlae.isGenus t gen) (fun z=>?_) ?_
       ·k_go
        refine qB (.inl (s1 _ _ hg)) ?_
        rw[ZB]
        k_go
        exact z
       ·rw[←Bool.not_and]
        cases h5:(Vbnlae.isWork t v&&Vbnlae.isGenus t gen) with
        | false=>
         rw[if_pos h5] at q
         refine zQ ?_
         k_go
         exact q H1 s1
        | true=>
         rw[if_neg (by rw[h5];decide)] at q
         refine zL ?_
         k_go
         refine⟨sd,_,rfl,s1 _ _ hs,?_⟩
         k_go
         have e:((vj na t).length:Int)=(t.species.length:Int):=by unfold vj;rw[Uaa]
         rw[e]
         by_cases h6:Vbnlae.SPECIES<=t.species.length
         ·rw[if_pos h6] at q
          rw[Uac (show (40:Int)<=(t.species.length:Int) by unfold Vbnlae.SPECIES at h6;omega)]
          refine zQ ?_
          k_go
          exact q H1 s1
         ·rw[if_neg h6] at q
          rw[Uab (show ¬(40:Int)<=(t.species.length:Int) by unfold Vbnlae.SPECIES at h6;omega)]
          refine zL ?_
          k_go
          exact q H1 s1
theorem Zl {t:State}{k v page gen:Int}{m f n:List Int} (h:zY t k v page gen m f n=0):Vbnlae.isName t k=false/\Vbnlae.isWork t v=true/\t.species.length<40:=by
 unfold zY at h
 split at h
 ·exact absurd h (by decide)
 ·split at h
  ·exact absurd h (by decide)
  ·split at h
   ·exact absurd h (by decide)
   ·split at h
    ·exact absurd h (by decide)
    ·rename_i h4
     split at h
     ·exact absurd h (by decide)
     ·rename_i h5
      split at h
      ·exact absurd h (by decide)
      ·rename_i h6
       have h5':=(Bool.not_eq_false _).mp h5
       rw[Uat] at h5'
       exact⟨(Ucm _).mp h4,h5'.1,by unfold Vbnlae.SPECIES at h6;omega⟩
def Z3 (t:State) (k v page gen:Int) (m f n:List Int):Species:=⟨k,Vbnlae.dayOf t v,v,page,gen,m,f,n⟩
def kG (t:State) (k v page gen:Int) (m f n:List Int):State:=if zY t k v page gen m f n=0 then { t with species:=t.species++[Z3 t k v page gen m f n] } else t
inductive ZF (C:Cs) (vs:List V) (H:Hp) (Q:VK) (E:XK):Prop
 | mk (b c:Addr) (z1:vs=[.ref b,.ref c]) (na t ps i m f n k v page gen) (z2:BkW C na H b t ps) (z3:wC C H c i [k,v,page,gen] [m,f,n]) (z4:(m.length<=sizeLine/\f.length<=sizeLine/\n.length<=sizeLine)) (z5:∀H' p na',BkW C na' H' b (kG t k v page gen m f n) ps->yT b H H'->H' p=some (.lst ([zY t k v page gen m f n].map V.int))->Q (.ref p) H'):ZF C vs H Q E
theorem yp:zk ["book", "call", "key", "work", "page", "first_genus", "forms", "refusal"] ["book", "call"] (zg (top 60)):=sC
theorem Xs (T:Txt K mg C):FO P w K mg base "add_species" 4 ["book", "call"] (ZF C):=by
 refine T.d_add_species.ok yp fun f cdv A outer s H vs Q E hr h=>?_
 ·obtain⟨b,c,rfl,na,t,ps,i,m,fe,n,k,v,page,gen,B,⟨dc,la,lr,rs,hc,hla,hlr,hrs⟩,hln,q⟩:=h
  obtain⟨dx,wd,g,sd,l,hb,hwd,hg,hs,hL,n1,n2,n3⟩:=B.ex
  refine⟨_,(zb (pS 2 yp.nd (yr (zA K) (zd K (pv 1) rfl) zq (fun _ _=>rfl))) (zb (pS 3 yp.nd (yr (zA K) (zd K (pv 1) rfl) zq (fun _ _=>rfl))) (zb (pS 4 yp.nd (yr (zA K) (zd K (pv 1) rfl) zq (fun _ _=>rfl))) (zb (pS 5 yp.nd (yr (zA K) (zd K (pv 1) rfl) zq (fun _ _=>rfl))) (zb (pS 6 yp.nd (zd K (pv 1) rfl)) (zb (pS 7 yp.nd (zV (wM T) hr.m (za (pv 0) (za (pv 2) (za (pv 3) (za (pv 4) (za (pv 5) (za (pv 6) zf)))))))) (zb (zy (zp yA (pv 7) (zC T.g_NO_REFUSAL) (zu _)) (ze (yu (xb (kZ T) hr.m (pv 0) (za (wf (XA T) hr.m (za (pv 2) (za (pv 3) (za (yS (ya hr) (zd K (pv 0) rfl) (pv 3) (fun _ _=>rfl)) (za (pv 4) (za (pv 5) (za (pv 6) zf))))))) zf)))) zn) (ze (zj (zD (za (pv 7) zf))))))))))),?_⟩
  k_go
  refine yX (i:=0) (SqL.of hla) rfl ?_
  k_go
  refine yX (i:=1) (SqL.of hla) rfl ?_
  k_go
  refine yX (i:=2) (SqL.of hla) rfl ?_
  k_go
  refine yX (i:=3) (SqL.of hla) rfl ?_
  k_go
  refine⟨b,k,v,page,gen,lr,rfl,na,t,ps,m,fe,n,rs,B,hlr,hrs,hln,fun H1 s1=>?_⟩
  k_go
  have hb1:=s1 _ _ hb
  by_cases hf:zY t k v page gen m fe n=0
  ·rw[Uac hf]
   refine zQ ?_
   obtain⟨h4,hW,h6⟩:=Zl hf
   k_go
   refine xM (.inl (s1 _ _ hwd)) (qu hW) ?_
   k_go
   intro x dy hx hdy hne
   refine⟨x,k,v,_,page,gen,lr,rfl,dy,zc,fun H2 h2 s2=>⟨rfl,?_⟩⟩
   have s3:Same H1 H2:=made hx hdy s2
   have s13:=s1.trans s3
   have B2:=B.same s13
   have G:qH C H2 x (Z3 t k v page gen m fe n):=by
    cases hrs with
    | @cons r0 _ rs _ hr0 hrs=>
    cases hrs with
    | @cons r1 _ rs _ hr1 hrs=>
    cases hrs with
    | @cons r2 _ rs _ hr2 hrs=>
    cases hrs
    exact⟨dy,lr,r0,r1,r2,h2,s13 _ _ hlr,s13 _ _ hr0,s13 _ _ hr1,s13 _ _ hr2⟩
   refine⟨b,x,rfl,na,t,ps,Z3 t k v page gen m fe n,B2,G,h4,by omega,fun H3 B3 s4=>?_⟩
   k_go
   refine⟨zK,fun p hp=>?_⟩
   have e:kG t k v page gen m fe n={ t with species:=t.species++[Z3 t k v page gen m fe n] }:=if_pos hf
   rw[e] at q
   exact q _ p _ (B3.same (Same.new hp)) ((s13.b.trans s4).trans (Same.new hp).b) zc
  ·rw[Uab hf]
   refine zL ?_
   k_go
   refine⟨zK,fun p hp=>?_⟩
   have e:kG t k v page gen m fe n=t:=if_neg hf
   rw[e] at q
   exact q _ p na (B.same (s1.upd hp)) (s1.upd hp).b zc
end
theorem zck (kvs:List (Key×V)) (k j:Key):xr (JU kvs k) j=if j=k then none else xr kvs j:=by
 unfold xr JU
 induction kvs with
 | nil=>simp
 | cons p r ih=>
  rw[Uay]
  by_cases e:p.1=k
  ·rw[if_neg (by simp [e])]
   rw[ih,Uar]
   by_cases ej:j=k
   ·rw[if_pos ej,if_pos ej]
   ·rw[if_neg ej,if_neg ej,Uab (fun q=>ej (q.symm.trans e))]
  ·rw[if_pos (by simp [e]),Uar,Uar]
   by_cases ep:p.1=j
   ·rw[Uac ep]
    have:¬j=k:=fun q=>e (ep.trans q)
    rw[if_neg this]
   ·rw[Uab ep]
    exact ih
def qw (ku:List (Key×V)) (f:Int->Option Int):Prop:=∀k:Int,xr ku (.inl k)=(f k).map V.int
theorem qw.put {ku:List (Key×V)}{f:Int->Option Int} (h:qw ku f) (a b:Int):qw (Qn ku (.inl a) (.int b)) fun k=>if k=a then some b else f k:=fun k=>by
 rw[WI]
 show _=Option.map V.int (if k=a then some b else f k)
 by_cases e:k=a
 ·rw[if_pos (by rw[e]),if_pos e];rfl
 ·rw[if_neg (fun q=>e (Sum.inl.inj q)),if_neg e];exact h k
theorem qw.drop {ku:List (Key×V)}{f:Int->Option Int} (h:qw ku f) (a:Int):qw (JU ku (.inl a)) fun k=>if k=a then none else f k:=fun k=>by
 rw[zck]
 show _=Option.map V.int (if k=a then none else f k)
 by_cases e:k=a
 ·rw[if_pos (by rw[e]),if_pos e];rfl
 ·rw[if_neg (fun q=>e (Sum.inl.inj q)),if_neg e];exact h k
section
variable {P:Program}{w:World}{K:PySem.W.Frag}{mg:Str->Option Value}{base:Heap}{C:Cs}
def zch (C:Cs) (H:Hp) (v su:Addr) (ps:Vbnlae.Parents):Prop:=∃dx b d st gd pl ku,H v=some (.ins C.vw dx (zdI b d st gd pl su))/\Rd H su (.dK ku)/\qw ku (NB.par ps)
inductive zcM (C:Cs) (vs:List V) (H:Hp) (Q:VK) (E:XK):Prop
 | mk (v:Addr) (s g:Int) (z1:vs=[.ref v,.int s,.int g]) (su ps h n) (z2:zch C H v su ps) (z3:NB.kP (Vbnlae.without ps g) s h n) (z4:Q (.bl (decide (h=g))) H):zcM C vs H Q E
theorem xS:zk ["self", "start", "goal", "key"] ["self", "start", "goal"] (zg (zo (top 84) 3)):=sC
theorem ZO (T:Txt K mg C):MO P w K mg base (yH C) "leads_to" 1 ["self", "start", "goal"] (zcM C):=by
 refine MtT.ok T.m_View_leads_to T.c_View xS fun f cdv A outer s H vs Q E hr h=>?_
 ·obtain⟨v,s,g,rfl,su,ps,h,n,⟨dx,b,d,st,gd,pl,ku,hv,hs,ht⟩,hg,q⟩:=h
  refine⟨_,(zb (pS 3 xS.nd (pv 1)) (zb (Qh PassesOwn.never (PW.pt (Js (zp V4 (pv 3) (pv 2) (zu _)) (Y9 (jS (qy (ya hr) (pv 3) (zd K (pv 0) rfl)))))) (ze (pS 3 xS.nd (yS (ya hr) (zd K (pv 0) rfl) (pv 3) (fun _ _=>rfl))))) (ze (zj (jL yA (pv 3) (pv 2) (zu _)))))),?_⟩
  k_go
  refine⟨fun m σ H'=>H'=H/\∃k,σ=[some (.ref v),some (.int s),some (.int g),some (.int k)]/\NB.kP (Vbnlae.without ps g) k h m,⟨n,rfl,s,rfl,hg⟩,?_⟩
  rintro m σ H' ⟨rfl,k,rfl,hk⟩
  k_go
  by_cases e:k=g
  ·rw[Uac e]
   refine zL (zL ?_)
   k_go
   have:h=k:=by
    cases hk with
    | stop _=>rfl
    | step hp _=>rw[e,NB.yb,if_pos rfl] at hp;cases hp
   rw[this] at q
   exact q
  ·rw[Uab e]
   refine zQ ?_
   k_go
   refine qB hs ?_
   rw[ht k]
   have hp:NB.par (Vbnlae.without ps g) k=NB.par ps k:=by rw[NB.yb,if_neg e]
   cases hk with
   | stop hn=>
    rw[hp] at hn
    rw[hn]
    k_go
    refine zL ?_
    k_go
    exact q
   | @step _ j _ m' hn hk'=>
    rw[hp] at hn
    have hv2:=ht k
    rw[hn] at hv2 ⊢
    k_go
    refine zQ ⟨fun σ' H''=>H''=H'/\σ'=[some (.ref v),some (.int s),some (.int g),some (.int j)],?_,?_⟩
    ·rintro σ' H'' ⟨rfl,rfl⟩
     exact⟨m',Ucg _,rfl,j,rfl,hk'⟩
    ·k_go
     refine xM hs hv2 ?_
     exact⟨rfl,rfl⟩
inductive zdU (C:Cs) (vs:List V) (H:Hp) (Q:VK) (E:XK):Prop
 | mk (v:Addr) (s:Int) (z1:vs=[.ref v,.int s]) (su ps h n) (z2:zch C H v su ps) (z3:NB.kP ps s h n) (z4:Q (.int h) H):zdU C vs H Q E
theorem qO:zk ["self", "genus_key", "key"] ["self", "genus_key"] (zg (zo (top 84) 4)):=sC
theorem jw (T:Txt K mg C):MO P w K mg base (yH C) "head" 1 ["self", "genus_key"] (zdU C):=by
 refine MtT.ok T.m_View_head T.c_View qO fun f cdv A outer s H vs Q E hr h=>?_
 ·obtain⟨v,s,rfl,su,ps,h,n,⟨dx,b,d,st,gd,pl,ku,hv,hs,ht⟩,hg,q⟩:=h
  refine⟨_,(zb (pS 2 qO.nd (pv 1)) (zb (Qh PassesOwn.never (jS (qy (ya hr) (pv 2) (zd K (pv 0) rfl))) (ze (pS 2 qO.nd (yS (ya hr) (zd K (pv 0) rfl) (pv 2) (fun _ _=>rfl))))) (ze (zj (pv 2))))),?_⟩
  k_go
  refine⟨fun m σ H'=>H'=H/\∃k,σ=[some (.ref v),some (.int s),some (.int k)]/\NB.kP ps k h m,⟨n,rfl,s,rfl,hg⟩,?_⟩
  rintro m σ H' ⟨rfl,k,rfl,hk⟩
  k_go
  refine qB hs ?_
  have hv2:=ht k
  rw[hv2]
  cases hk with
  | stop hn=>
   rw[hn]
   k_go
   refine zL ?_
   k_go
   exact q
  | @step _ j _ m' hn hk'=>
   rw[hn] at hv2 ⊢
   k_go
   refine zQ ⟨fun σ' H''=>H''=H'/\σ'=[some (.ref v),some (.int s),some (.int j)],?_,?_⟩
   ·rintro σ' H'' ⟨rfl,rfl⟩
    exact⟨m',Ucg _,rfl,j,rfl,hk'⟩
   ·k_go
    refine xM hs hv2 ?_
    exact⟨rfl,rfl⟩
inductive zet (C:Cs) (vs:List V) (H:Hp) (Q:VK) (E:XK):Prop
 | mk (v:Addr) (a b:Int) (z1:vs=[.ref v,.int a,.int b]) (dx bk d st gd pl su ku ps h n) (z2:H v=some (.ins C.vw dx (zdI bk d st gd pl su))) (z3:H su=some (.dK ku)) (z4:qw ku (NB.par ps)) (z5:ku.length<1000) (z6:NB.kP (Vbnlae.without ps a) b h n) (z7:∀H' ku',H' su=some (.dK ku')->qw ku' (NB.par (if h=a then ps else (a,b)::Vbnlae.without ps a))->ku'.length<=ku.length+1->zv su H H'->Q .non H'):zet C vs H Q E
theorem wz:zk ["self", "a", "b"] ["self", "a", "b"] (zg (zo (top 84) 2)):=sC
theorem wn (T:Txt K mg C):MO P w K mg base (yH C) "sink_genus" 2 ["self", "a", "b"] (zet C):=by
 refine MtT.ok T.m_View_sink_genus T.c_View wz fun f cdv A outer s H vs Q E hr h=>?_
 ·obtain⟨v,a,b,rfl,dx,bk,d,st,gd,pl,su,ku,ps,h,n,hv,hs,ht,hl,hg,q⟩:=h
  refine⟨_,(ze (zy (xw (zU (xb (ZO T) hr.m (pv 0) (za (pv 2) (za (pv 1) zf))))) (ze (qM (ya hr) (zd K (pv 0) rfl) (pv 1) (pv 2) rfl)) zn)),?_⟩
  k_go
  refine⟨v,b,a,rfl,su,ps,h,n,⟨dx,bk,d,st,gd,pl,ku,hv,.inl hs,ht⟩,hg,?_⟩
  k_go
  by_cases e:h=a
  ·rw[if_pos e] at q
   rw[Uac e]
   refine zL ?_
   k_go
   exact q H ku hs ht (Nat.le_succ _) (zv.refl _ _)
  ·rw[if_neg e] at q
   rw[Uab e]
   refine zQ ?_
   k_go
   refine Zz hs (yN (Ubk hl)) ?_
   refine q _ _ zc ?_ (xE _ _ _) zv.set
   have e2:(fun k=>if k=a then some b else NB.par ps k)=NB.par ((a,b)::Vbnlae.without ps a):=by
    funext k
    rw[NB.JZ,NB.yb]
    by_cases q:k=a
    ·rw[if_pos q,if_pos q]
    ·rw[if_neg q,if_neg q,if_neg q]
   rw[←e2]
   exact ht.put a b
def Q6 (l:List Vbnlae.Act) (kind a:Int):Option Vbnlae.Act:=(l.filter fun x=>x.kind == kind&&x.a == a).getLast?
def Wz (l:List Vbnlae.Act) (kind:Int):Int->Option Int:=fun k=>(Q6 l kind k).map (·.b)
def zdu (l:List Vbnlae.Act):Int->Option Int:=NB.par (l.foldl Vbnlae.sinkOne [])
theorem VV {l:List Vbnlae.Act}{x:Vbnlae.Act}{kind:Int} (h:x.kind=kind):Wz (l++[x]) kind=fun k=>if k=x.a then some x.b else Wz l kind k:=by
 funext k
 unfold Wz Q6
 rw[Ubx,Uay]
 by_cases e:k=x.a
 ·rw[if_pos e,if_pos (by simp [h,e])]
  simp
 ·rw[if_neg e,if_neg (by simp [h];exact fun q=>e q.symm)]
  simp
theorem xX {l:List Vbnlae.Act}{x:Vbnlae.Act}{kind:Int} (h:x.kind≠kind):Wz (l++[x]) kind=Wz l kind:=by
 funext k
 unfold Wz Q6
 rw[Ubx,Uay,if_neg (by simp [h])]
 simp
theorem Ym (l:List Vbnlae.Act) (x:Vbnlae.Act):zdu (l++[x])=NB.par (Vbnlae.sinkOne (l.foldl Vbnlae.sinkOne []) x):=by
 unfold zdu
 rw[List.foldl_append]
 rfl
theorem Qm {l:List Vbnlae.Act}{x:Vbnlae.Act} (h2:x.kind≠2) (h3:x.kind≠3):zdu (l++[x])=zdu l:=by
 have e:Vbnlae.sinkOne (l.foldl Vbnlae.sinkOne []) x=l.foldl Vbnlae.sinkOne []:=by
  show (if x.kind=2 then _ else if x.kind=3 then _ else _)=_
  rw[if_neg h2,if_neg h3]
 rw[Ym,e]
 rfl
theorem zer {l:List Vbnlae.Act}{x:Vbnlae.Act} (h3:x.kind=3):zdu (l++[x])=fun k=>if k=x.a then none else zdu l k:=by
 have e:Vbnlae.sinkOne (l.foldl Vbnlae.sinkOne []) x=Vbnlae.without (l.foldl Vbnlae.sinkOne []) x.a:=by
  show (if x.kind=2 then _ else if x.kind=3 then _ else _)=_
  rw[if_neg (by rw[h3];decide),if_pos h3]
 rw[Ym,e]
 funext k
 rw[NB.yb]
 rfl
structure VwB (C:Cs) (H:Hp) (v b:Addr) (d:Int) (dx st gd pl su:Addr) (l:List Vbnlae.Act):Prop where
 o:H v=some (.ins C.vw dx (zdI b d st gd pl su))
 s:∃ks,H st=some (.dK ks)/\qw ks (Wz l 4)/\ks.length<=l.length
 g:∃ks,H gd=some (.dK ks)/\qw ks (Wz l 5)/\ks.length<=l.length
 p:∃ks,H pl=some (.dK ks)/\qw ks (Wz l 1)/\ks.length<=l.length
 u:∃ks,H su=some (.dK ks)/\qw ks (zdu l)/\ks.length<=l.length
 ne:st≠gd/\st≠pl/\st≠su/\gd≠pl/\gd≠su/\pl≠su
def Zj (a b c d:Addr) (H H':Hp):Prop:=∀x o,x≠a->x≠b->x≠c->x≠d->H x=some o->H' x=some o
theorem Zj.refl (a b c d:Addr) (H:Hp):Zj a b c d H H:=fun _ _ _ _ _ _ h=>h
theorem Zj.trans {a b c d:Addr}{H H1 H2:Hp} (h:Zj a b c d H H1) (k:Zj a b c d H1 H2):Zj a b c d H H2:=fun x o h1 h2 h3 h4 e=>k x o h1 h2 h3 h4 (h x o h1 h2 h3 h4 e)
section
variable {H:Hp}{v b:Addr}{d:Int}{dx st gd pl su:Addr}{l:List Vbnlae.Act}{x:Vbnlae.Act}
theorem VwB.vne (B:VwB C H v b d dx st gd pl su l):v≠st/\v≠gd/\v≠pl/\v≠su:=
 let ⟨_,h1,_⟩:=B.s
 let ⟨_,h2,_⟩:=B.g
 let ⟨_,h3,_⟩:=B.p
 let ⟨_,h4,_⟩:=B.u
 ⟨zT B.o h1 (by intro z;cases z),zT B.o h2 (by intro z;cases z),zT B.o h3 (by intro z;cases z),zT B.o h4 (by intro z;cases z)⟩
theorem xP {α:Type}{l:List α}{x:α}{n:Nat} (h:n<=l.length):n<=(l++[x]).length:=by rw[Uaj];omega
theorem YA {α:Type}{l:List α}{x:α}{n m:Nat} (h:n<=l.length) (k:m<=n+1):m<=(l++[x]).length:=by rw[Uaj,Ucp];omega
theorem VwB.stay (B:VwB C H v b d dx st gd pl su l) (h:x.kind≠1/\x.kind≠2/\x.kind≠3/\x.kind≠4/\x.kind≠5):VwB C H v b d dx st gd pl su (l++[x]):=by
 obtain⟨h1,h2,h3,h4,h5⟩:=h
 refine⟨B.o,?_,?_,?_,?_,B.ne⟩
 ·rw[xX h4];obtain⟨ks,a,b,c⟩:=B.s;exact⟨ks,a,b,xP c⟩
 ·rw[xX h5];obtain⟨ks,a,b,c⟩:=B.g;exact⟨ks,a,b,xP c⟩
 ·rw[xX h1];obtain⟨ks,a,b,c⟩:=B.p;exact⟨ks,a,b,xP c⟩
 ·rw[Qm h2 h3];obtain⟨ks,a,b,c⟩:=B.u;exact⟨ks,a,b,xP c⟩
theorem VwB.put4 (B:VwB C H v b d dx st gd pl su l) (h:x.kind=4) {ks:List (Key×V)} (e:H st=some (.dK ks)):VwB C (upd H st (.dK (Qn ks (.inl x.a) (.int x.b)))) v b d dx st gd pl su (l++[x]):=by
 obtain⟨n1,n2,n3,n4⟩:=B.vne
 obtain⟨m1,m2,m3,m4,m5,m6⟩:=B.ne
 refine⟨by rw[zh n1];exact B.o,?_,?_,?_,?_,B.ne⟩
 ·rw[VV h];obtain⟨ks',a,b,c⟩:=B.s;cases e.symm.trans a;exact⟨_,zc,b.put _ _,YA c (xE _ _ _)⟩
 ·rw[xX (by rw[h];decide),zh m1.symm];obtain⟨ks,a,b,c⟩:=B.g;exact⟨ks,a,b,xP c⟩
 ·rw[xX (by rw[h];decide),zh m2.symm];obtain⟨ks,a,b,c⟩:=B.p;exact⟨ks,a,b,xP c⟩
 ·rw[Qm (by rw[h];decide) (by rw[h];decide),zh m3.symm];obtain⟨ks,a,b,c⟩:=B.u;exact⟨ks,a,b,xP c⟩
theorem VwB.put5 (B:VwB C H v b d dx st gd pl su l) (h:x.kind=5) {ks:List (Key×V)} (e:H gd=some (.dK ks)):VwB C (upd H gd (.dK (Qn ks (.inl x.a) (.int x.b)))) v b d dx st gd pl su (l++[x]):=by
 obtain⟨n1,n2,n3,n4⟩:=B.vne
 obtain⟨m1,m2,m3,m4,m5,m6⟩:=B.ne
 refine⟨by rw[zh n2];exact B.o,?_,?_,?_,?_,B.ne⟩
 ·rw[xX (by rw[h];decide),zh m1];obtain⟨ks,a,b,c⟩:=B.s;exact⟨ks,a,b,xP c⟩
 ·rw[VV h];obtain⟨ks',a,b,c⟩:=B.g;cases e.symm.trans a;exact⟨_,zc,b.put _ _,YA c (xE _ _ _)⟩
 ·rw[xX (by rw[h];decide),zh m4.symm];obtain⟨ks,a,b,c⟩:=B.p;exact⟨ks,a,b,xP c⟩
 ·rw[Qm (by rw[h];decide) (by rw[h];decide),zh m5.symm];obtain⟨ks,a,b,c⟩:=B.u;exact⟨ks,a,b,xP c⟩
theorem VwB.put1 (B:VwB C H v b d dx st gd pl su l) (h:x.kind=1) {ks:List (Key×V)} (e:H pl=some (.dK ks)):VwB C (upd H pl (.dK (Qn ks (.inl x.a) (.int x.b)))) v b d dx st gd pl su (l++[x]):=by
 obtain⟨n1,n2,n3,n4⟩:=B.vne
 obtain⟨m1,m2,m3,m4,m5,m6⟩:=B.ne
 refine⟨by rw[zh n3];exact B.o,?_,?_,?_,?_,B.ne⟩
 ·rw[xX (by rw[h];decide),zh m2];obtain⟨ks,a,b,c⟩:=B.s;exact⟨ks,a,b,xP c⟩
 ·rw[xX (by rw[h];decide),zh m4];obtain⟨ks,a,b,c⟩:=B.g;exact⟨ks,a,b,xP c⟩
 ·rw[VV h];obtain⟨ks',a,b,c⟩:=B.p;cases e.symm.trans a;exact⟨_,zc,b.put _ _,YA c (xE _ _ _)⟩
 ·rw[Qm (by rw[h];decide) (by rw[h];decide),zh m6.symm];obtain⟨ks,a,b,c⟩:=B.u;exact⟨ks,a,b,xP c⟩
theorem VwB.sunk {H':Hp}{ku:List (Key×V)} (B:VwB C H v b d dx st gd pl su l) (h:x.kind=2\/x.kind=3) (e:H' su=some (.dK ku)) (t:qw ku (zdu (l++[x]))) (hl:ku.length<=(l++[x]).length) (s:zv su H H'):VwB C H' v b d dx st gd pl su (l++[x]):=by
 obtain⟨n1,n2,n3,n4⟩:=B.vne
 obtain⟨m1,m2,m3,m4,m5,m6⟩:=B.ne
 have k4:x.kind≠4:=by rcases h with h | h <;> rw[h] <;> decide
 have k5:x.kind≠5:=by rcases h with h | h <;> rw[h] <;> decide
 have k1:x.kind≠1:=by rcases h with h | h <;> rw[h] <;> decide
 refine⟨s _ _ n4 B.o,?_,?_,?_,⟨ku,e,t,hl⟩,B.ne⟩
 ·rw[xX k4];obtain⟨ks,a,b,c⟩:=B.s;exact⟨ks,s _ _ m3 a,b,xP c⟩
 ·rw[xX k5];obtain⟨ks,a,b,c⟩:=B.g;exact⟨ks,s _ _ m5 a,b,xP c⟩
 ·rw[xX k1];obtain⟨ks,a,b,c⟩:=B.p;exact⟨ks,s _ _ m6 a,b,xP c⟩
end
inductive W7 (C:Cs) (vs:List V) (H:Hp) (Q:VK) (E:XK):Prop
 | mk (v a:Addr) (z1:vs=[.ref v,.ref a]) (b d dx st gd pl su l x G) (z2:VwB C H v b d dx st gd pl su l) (z3:zaS C H a x) (z4:NB.Ok G (l.foldl Vbnlae.sinkOne [])) (z5:G.length<=Vbnlae.GENERA) (z6:l.length<1000) (z7:∀H',VwB C H' v b d dx st gd pl su (l++[x])->Zj st gd pl su H H'->Q .non H'):W7 C vs H Q E
theorem zeF {σ:L2.St}{H:Hp}{Q:VK}{td ty tx:TE} (h:td σ H fun x H1=>∃a,x=.ref a/\IsD H1 a/\ty σ H1 fun y H2=>tx σ H2 fun z H3=>∃kvs k,H3 a=some (.dK kvs)/\y=kV k/\(∀v,xr kvs k=some v->Q v (upd H3 a (.dK (JU kvs k))))/\(xr kvs k=none->Q z H3)):zen td ty tx σ H Q:=h
theorem Xr:zk ["self", "act"] ["self", "act"] (zg (zo (top 84) 1)):=sC
theorem Xt (T:Txt K mg C):MO P w K mg base (yH C) "follow" 3 ["self", "act"] (W7 C):=by
 refine MtT.ok T.m_View_follow T.c_View Xr fun f cdv A outer s H vs Q E hr h=>?_
 ·obtain⟨v,a,rfl,b,d,dx,st,gd,pl,su,l,x,G,B,⟨da,ka,wa,ha⟩,hO,hG,hl,q⟩:=h
  have hv:=B.o
  obtain⟨ks,es,ts,ls⟩:=B.s
  obtain⟨kg,eg,tg,lg⟩:=B.g
  obtain⟨kp,ep,tp,lp⟩:=B.p
  obtain⟨ku,eu,tu,lu⟩:=B.u
  have sm:∀{n:Nat},n<=l.length->n<sizeLine:=fun h=>yN (Ubk (Ubp h hl))
  have k4:∀{y:Addr}{u:HO},(y=st\/y=gd\/y=pl\/y=su)->Zj st gd pl su H (upd H y u):=fun hy z o h1 h2 h3 h4 e=>by
   rw[zh]
   ·exact e
   ·rcases hy with rfl | rfl | rfl | rfl <;> assumption
  refine⟨_,(ze (zy (zp yA (zd K (pv 1) rfl) (zC T.g_PLACE) (zu _)) (ze (qM (ya hr) (zd K (pv 0) rfl) (zd K (pv 1) rfl) (zd K (pv 1) rfl) rfl)) (ze (zy (zp yA (zd K (pv 1) rfl) (zC T.g_SINK) (zu _)) (ze (yu (xb (wn T) hr.m (pv 0) (za (zd K (pv 1) rfl) (za (zd K (pv 1) rfl) zf))))) (ze (zy (zp yA (zd K (pv 1) rfl) (zC T.g_REVIVE) (zu _)) (ze (yu (zdb (zd K (pv 0) rfl) (zd K (pv 1) rfl) zeh ⟨rfl,rfl,rfl,rfl⟩))) (ze (zy (zp yA (zd K (pv 1) rfl) (zC T.g_STATUS) (zu _)) (ze (qM (ya hr) (zd K (pv 0) rfl) (zd K (pv 1) rfl) (zd K (pv 1) rfl) rfl)) (ze (zy (zp yA (zd K (pv 1) rfl) (zC T.g_ADVANCE) (zu _)) (ze (qM (ya hr) (zd K (pv 0) rfl) (zd K (pv 1) rfl) (zd K (pv 1) rfl) rfl)) zn)))))))))),?_⟩
  k_go
  by_cases h1:x.kind=1
  ·rw[Uac h1]
   refine zQ ?_
   k_go
   refine Zz ep (sm lp) ?_
   exact q _ (B.put1 h1 ep) (k4 (.inr (.inr (.inl rfl))))
  rw[Uab h1]
  refine zL ?_
  k_go
  by_cases h2:x.kind=2
  ·rw[Uac h2]
   refine zQ ?_
   obtain⟨n,hn,hg⟩:=(hO.drop x.a).goes hG x.b
   k_go
   refine⟨v,x.a,x.b,rfl,dx,b,d,st,gd,pl,su,ku,_,_,n,hv,eu,tu,Ubp lu hl,hg,fun H' ku' e' t' l' s'=>?_⟩
   k_go
   refine q _ (B.sunk (.inl h2) e' ?_ (YA lu l') s') fun z o h1 h2 h3 h4 e=>s' z o h4 e
   rw[Ym]
   unfold Vbnlae.sinkOne
   rw[if_pos h2]
   exact t'
  rw[Uab h2]
  refine zL ?_
  k_go
  by_cases h3:x.kind=3
  ·rw[Uac h3]
   refine zQ ?_
   k_go
   refine zeF ?_
   k_go
   refine zar (.inl eu) ?_
   k_go
   refine⟨ku,.inl x.a,eu,rfl,fun z hz=>?_,fun hz=>?_⟩
   ·k_go
    refine q _ (B.sunk (.inr h3) zc ?_ (YA lu (Nat.le_succ_of_le (Wd _ _))) zv.set) (k4 (.inr (.inr (.inr rfl))))
    rw[zer h3]
    exact tu.drop _
   ·k_go
    refine q _ (B.sunk (.inr h3) eu ?_ (xP lu) (zv.refl _ _)) (Zj.refl _ _ _ _ _)
    rw[zer h3]
    intro k
    show _=Option.map V.int (if k=x.a then none else zdu l k)
    by_cases e:k=x.a
    ·rw[if_pos e,e];exact hz
    ·rw[if_neg e];exact tu k
  rw[Uab h3]
  refine zL ?_
  k_go
  by_cases h4:x.kind=4
  ·rw[Uac h4]
   refine zQ ?_
   k_go
   refine Zz es (sm ls) ?_
   exact q _ (B.put4 h4 es) (k4 (.inl rfl))
  rw[Uab h4]
  refine zL ?_
  k_go
  by_cases h5:x.kind=5
  ·rw[Uac h5]
   refine zQ ?_
   k_go
   refine Zz eg (sm lg) ?_
   exact q _ (B.put5 h5 eg) (k4 (.inr (.inl rfl)))
  rw[Uab h5]
  refine zL ?_
  k_go
  exact q _ (B.stay ⟨h1,h2,h3,h4,h5⟩) (Zj.refl _ _ _ _ _)
end
theorem zby (t:State) (d kind a:Int):Q6 (Vbnlae.actsBy t d) kind a=Vbnlae.lastAct t d kind a:=by
 unfold Q6 Vbnlae.lastAct Vbnlae.actsBy
 rw[Ubq]
 congr 2
 funext x
 exact Bool.and_comm _ _
inductive zix (C:Cs) (av:List Addr) (H:Hp) (v b:Addr) (t:State) (d:Int):Prop
 | mk (dx st gd pl su ks kg kp ku) (z1:H v=some (.ins C.vw dx (zdI b d st gd pl su))) (z2:Rd H st (.dK ks)) (z3:Rd H gd (.dK kg)) (z4:Rd H pl (.dK kp)) (z5:Rd H su (.dK ku)) (z6:(st∉av/\gd∉av/\pl∉av/\su∉av)) (z7:qw ks (Wz (Vbnlae.actsBy t d) 4)/\qw kg (Wz (Vbnlae.actsBy t d) 5)/\qw kp (Wz (Vbnlae.actsBy t d) 1)/\qw ku (NB.par (Vbnlae.parents t d))):zix C av H v b t d
structure VwD (C:Cs) (av:List Addr) (H:Hp) (v b:Addr) (t:State) (d:Int):Prop where
 ex:zix C av H v b t d
theorem VwD.wk {C:Cs}{av:List Addr}{H H':Hp}{v b:Addr}{t:State}{d:Int} (h:VwD C av H v b t d) (k:Wk av H H'):VwD C av H' v b t d:=
 let ⟨dx,st,gd,pl,su,ks,kg,kp,ku,h1,h2,h3,h4,h5,⟨n1,n2,n3,n4⟩,h6⟩:=h.ex
 ⟨⟨dx,st,gd,pl,su,ks,kg,kp,ku,k.ins h1,k.d _ _ n1 h2,k.d _ _ n2 h3,k.d _ _ n3 h4,k.d _ _ n4 h5,⟨n1,n2,n3,n4⟩,h6⟩⟩
theorem VwD.same {C:Cs}{av:List Addr}{H H':Hp}{v b:Addr}{t:State}{d:Int} (h:VwD C av H v b t d) (k:Same H H'):VwD C av H' v b t d:=h.wk k.wk
theorem VwD.sunk {C:Cs}{av:List Addr}{H:Hp}{v b:Addr}{t:State}{d:Int} (h:VwD C av H v b t d):∃su,zch C H v su (Vbnlae.parents t d):=
 let ⟨dx,st,gd,pl,su,_,_,_,ku,h1,_,_,_,h5,_,_,_,_,h6⟩:=h.ex
 ⟨su,dx,b,d,st,gd,pl,ku,h1,h5,h6⟩
inductive NmK (C:Cs) (na:Int->Addr) (H:Hp) (t:State) (k:Int):Prop
 | mk (p) (z1:Vbnlae.placeOf t k=some p) (z2:Qk C H (na k) k p.2.1 p.1 p.2.2):NmK C na H t k
theorem NmK.wk {C:Cs}{na:Int->Addr}{av:List Addr}{H H':Hp}{t:State}{k:Int} (h:NmK C na H t k) (w:Wk av H H'):NmK C na H' t k:=let ⟨p,h1,h2⟩:=h;⟨p,h1,w.nm h2⟩
theorem NmK.same {C:Cs}{na:Int->Addr}{H H':Hp}{t:State}{k:Int} (h:NmK C na H t k) (s:Same H H'):NmK C na H' t k:=h.wk (s.wk (av:=[]))
theorem BkN.nmk {C:Cs}{na:Int->Addr}{av:List Addr}{H:Hp}{b:Addr}{t:State} (B:BkN C na av H b t) {k:Int} (h:(Vbnlae.placeOf t k).isSome=true):NmK C na H t k:=by
 obtain⟨p,hp⟩:=Option.isSome_iff_exists.mp h
 exact⟨p,hp,B.nm hp⟩
section
variable {P:Program}{w:World}{K:PySem.W.Frag}{mg:Str->Option Value}{base:Heap}{C:Cs}
inductive zcp (C:Cs) (vs:List V) (H:Hp) (Q:VK) (E:XK):Prop
 | mk (p b la:Addr) (d:Int) (z1:vs=[.ref p,.ref b,.ref la,.int d]) (dx ps t) (z2:H p=some (.ins C.vw dx [])) (z3:H la=some (.lst (ps.map V.ref))) (z4:Paired (zaS C H) ps t.acts) (z5:NB.WF t) (z6:∀H' st gd pl su,H st=none->H gd=none->H pl=none->H su=none->VwB C H' p b d dx st gd pl su (Vbnlae.actsBy t d)->zv p H H'->Q .non H'):zcp C vs H Q E
theorem zhY {t:State} (W:NB.WF t) {l:List Vbnlae.Act} (h:∀x∈l,x∈t.acts):NB.Ok (NB.Xy t) (l.foldl Vbnlae.sinkOne []):=by
 refine NB.K2 W.glen _ _ (fun x hx h2=>?_) (NB.Ok.nil _)
 obtain⟨⟨g,hg,e⟩,g',hg',e'⟩:=(W.act x (h x hx)).k2 h2
 exact⟨e▸Ubg hg,e'▸Ubg hg'⟩
theorem qx:zk ["self", "book", "acts", "d", "act"] ["self", "book", "acts", "d"] (zg (zo (top 84) 0)):=sC
theorem zft (T:Txt K mg C):InO P w K mg base C.vw "View" 4 ["self", "book", "acts", "d"] (zcp C):=by
 refine T.i_View.ok qx fun f cdv A outer s H vs Q E hr h=>?_
 ·obtain⟨p,b,la,d,rfl,dx,ps,t,hp,hla,hps,W,q⟩:=h
  refine⟨_,(zb (zF K (pv 0) (pv 1) rfl) (zb (zF K (pv 0) (pv 3) rfl) (zb (zF K (pv 0) jC rfl) (zb (zF K (pv 0) jC rfl) (zb (zF K (pv 0) jC rfl) (zb (zF K (pv 0) jC rfl) (ze (kx PassesOwn.never rfl (zP K (pv 2)) (zN (i:=4) qx.nd rfl (Or.inl rfl)) (ze (zy (zp qW (zd K (pv 4) rfl) (pv 3) (zu _)) (ze (yu (xb (Xt T) hr.m (pv 0) (za (pv 4) zf)))) zn)))))))))),?_⟩
  k_go
  intro st hst
  have n1:p≠st:=zm zc hst
  k_go
  intro gd hgd
  have n2:p≠gd:=zm zc hgd
  have m1:st≠gd:=zm (o:=.dK []) (by rw[zh n1.symm];exact zc) hgd
  k_go
  intro pl hpl
  have n3:p≠pl:=zm zc hpl
  have m4:gd≠pl:=zm (o:=.dK []) (by rw[zh n2.symm];exact zc) hpl
  have m2:st≠pl:=zm (o:=.dK []) (by rw[zh n1.symm,zh m1,zh n1.symm];exact zc) hpl
  k_go
  intro su hsu
  have n4:p≠su:=zm zc hsu
  have m6:pl≠su:=zm (o:=.dK []) (by rw[zh n3.symm];exact zc) hsu
  have m5:gd≠su:=zm (o:=.dK []) (by rw[zh n2.symm,zh m4,zh n2.symm];exact zc) hsu
  have m3:st≠su:=zm (o:=.dK []) (by rw[zh n1.symm,zh m2,zh n1.symm,zh m1,zh n1.symm];exact zc) hsu
  k_go
  have z1:H st=none:=by rw[zh n1.symm,zh n1.symm] at hst;exact hst
  have z2:H gd=none:=by rw[zh n2.symm,zh m1.symm,zh n2.symm,zh n2.symm] at hgd;exact hgd
  have z3:H pl=none:=by rw[zh n3.symm,zh m4.symm,zh n3.symm,zh m2.symm,zh n3.symm,zh n3.symm] at hpl;exact hpl
  have z4:H su=none:=by rw[zh n4.symm,zh m6.symm,zh n4.symm,zh m5.symm,zh n4.symm,zh m3.symm,zh n4.symm,zh n4.symm] at hsu;exact hsu
  generalize hH4:upd (upd (upd _ _ _) su _) p _=H4
  have S4:zv p H H4:=by
   rw[←hH4]
   refine zv.trans ?_ zv.set
   refine zv.trans ?_ (Same.new hsu).x
   refine zv.trans ?_ zv.set
   refine zv.trans ?_ (Same.new hpl).x
   refine zv.trans ?_ zv.set
   refine zv.trans ?_ (Same.new hgd).x
   refine zv.trans ?_ zv.set
   refine zv.trans ?_ (Same.new hst).x
   exact zv.set.trans zv.set
  have B4:VwB C H4 p b d dx st gd pl su []:=by
   rw[←hH4]
   refine⟨zc,⟨[],?_,fun k=>rfl,Uag _⟩,⟨[],?_,fun k=>rfl,Uag _⟩,⟨[],?_,fun k=>rfl,Uag _⟩,⟨[],?_,fun k=>rfl,Uag _⟩,m1,m2,m3,m4,m5,m6⟩
   ·rw[zh n1.symm,zh m3,zh n1.symm,zh m2,zh n1.symm,zh m1,zh n1.symm];exact zc
   ·rw[zh n2.symm,zh m5,zh n2.symm,zh m4,zh n2.symm];exact zc
   ·rw[zh n3.symm,zh m6,zh n3.symm];exact zc
   ·rw[zh n4.symm];exact zc
  have hla4:=S4 _ _ (zT hla hp (by intro z;cases z)) hla
  have hps4:Paired (zaS C H4) ps t.acts:=zE (fun y x ⟨da,ka,wa,e⟩=>⟨da,ka,wa,S4 _ _ (zT e hp (by intro z;injection z with _ _ z;cases z)) e⟩) hps
  obtain⟨zs,e1,e2,hz⟩:=jd hps4
  have keepO:∀{Hn:Hp}{y:Addr}{o:HO},Zj st gd pl su H4 Hn->NoD o->H4 y=some o->Hn y=some o:=fun k n e=>by
   obtain⟨k1,a1,_⟩:=B4.s
   obtain⟨k2,a2,_⟩:=B4.g
   obtain⟨k3,a3,_⟩:=B4.p
   obtain⟨k4,a4,_⟩:=B4.u
   refine k _ _ ?_ ?_ ?_ ?_ e
   ·exact fun q=>n k1 (by rw[q,a1] at e;cases e;rfl)
   ·exact fun q=>n k2 (by rw[q,a2] at e;cases e;rfl)
   ·exact fun q=>n k3 (by rw[q,a3] at e;cases e;rfl)
   ·exact fun q=>n k4 (by rw[q,a4] at e;cases e;rfl)
  refine zdE (a:=la) (xs:=zs.map fun z=>V.ref z.1) (H1:=H4) (fun i σ Hn=>∃v5:Option V,σ=[some (.ref p),some (.ref b),some (.ref la),some (.int d),v5]/\Zj st gd pl su H4 Hn/\VwB C Hn p b d dx st gd pl su ((t.acts.take i).filter fun x=>decide (x.day<=d)))
   (fun R r=>?_) ⟨none,rfl,Zj.refl _ _ _ _ _,B4⟩ (fun i σ Hn _ ⟨_,_,k,_⟩=>SqL.of (keepO k xB (by rw[hla4,e1,Uau];rfl))) ?_ ?_
  ·k_go
   exact r
  ·rintro i y σ Hn hy ⟨v5,rfl,k,B⟩
   obtain⟨z,hz1,rfl⟩:=x3 hy
   have hx:t.acts[i]? = some z.2:=by rw[e2,Ubw,hz1];rfl
   obtain⟨da,ka,wa,ha⟩:=hz z (Uaw hz1)
   have ha':=keepO k xh ha
   have ht:=je hx
   have hv:=B.o
   k_go
   by_cases hd:z.2.day<=d
   ·rw[Uac hd]
    refine zQ ?_
    k_go
    have hlen:((t.acts.take i).filter fun x=>decide (x.day<=d)).length<1000:=by
     have h1:((t.acts.take i).filter fun x=>decide (x.day<=d)).length<=(t.acts.take i).length:=Uan _ _
     have h2:=W.al
     rw[Ubl] at h1
     unfold Vbnlae.ACTS at h2
     omega
    refine⟨p,z.1,rfl,b,d,dx,st,gd,pl,su,_,z.2,NB.Xy t,B,⟨da,ka,wa,ha'⟩,zhY W (fun x hx=>List.mem_of_mem_take (Uah.mp hx).1),W.glen,hlen,fun Hm Bm km=>?_⟩
    refine⟨_,rfl,k.trans km,?_⟩
    rw[ht,Ubx,Uay,if_pos (Uac hd),Ucq]
    exact Bm
   ·rw[Uab hd]
    refine zL ?_
    k_go
    refine⟨_,rfl,k,?_⟩
    rw[ht,Ubx,Uay,if_neg (by rw[Uab hd];decide),Ucq,Ubo]
    exact B
  ·rintro σ Hn ⟨v5,rfl,k,B⟩
   have el:(zs.map fun z=>V.ref z.1).length=t.acts.length:=by rw[Uaa,e2,Uaa]
   rw[el,Ubu] at B
   refine q Hn st gd pl su z1 z2 z3 z4 B fun y o hn e=>?_
   have e4:=S4 _ _ hn e
   exact k _ _ (zm e z1) (zm e z2) (zm e z3) (zm e z4) e4
end
theorem Ql {ks:List (Key×V)}{t:State}{d kind:Int} (h:qw ks (Wz (Vbnlae.actsBy t d) kind)) (k:Int):xr ks (.inl k)=(Vbnlae.lastAct t d kind k).map fun x=>V.int x.b:=by
 rw[h k]
 unfold Wz
 rw[zby,Option.map_map]
 rfl
theorem zis {K:PySem.W.Frag}{m:Str}{ta:TE}{σ:L2.St}{H:Hp}{Q:VK} (h:ta σ H fun x H1=>∃a C dx fs g,x=.ref a/\H1 a=some (.ins C dx fs)/\Cls K C/\zfl K C m g/\BM K g/\PySem.W.copiedNames.contains m=false/\fs.lookup m=none/\∀p,H1 p=none->Q (.ref p) (upd H1 p (.met g a))):tMV K m ta σ H Q:=h
section
variable {P:Program}{w:World}{K:PySem.W.Frag}{mg:Str->Option Value}{base:Heap}{C:Cs}
inductive WZ (C:Cs) (vs:List V) (H:Hp) (Q:VK) (E:XK):Prop
 | mk (v a:Addr) (z1:vs=[.ref v,.ref a]) (av b t d n) (z2:VwD C av H v b t d) (z3:qH C H a n) (z4:Q (.int (Vbnlae.placed t d n)) H):WZ C vs H Q E
theorem Zm:zk ["self", "species"] ["self", "species"] (zg (zo (top 84) 5)):=sC
theorem jX (T:Txt K mg C):MO P w K mg base (yH C) "placed_in" 1 ["self", "species"] (WZ C):=by
 refine MtT.ok T.m_View_placed_in T.c_View Zm fun f cdv A outer s H vs Q E hr h=>?_
 ·obtain⟨v,a,rfl,av,b,t,d,n,Vw,⟨da,fo,f0,f1,f2,ha,_⟩,q⟩:=h
  obtain⟨dx,st,gd,pl,su,ks,kg,kp,ku,hv,h1,h2,h3,h4,_,t1,t2,t3,t4⟩:=Vw.ex
  refine⟨_,(ze (zj (ZY (ya hr) (zd K (pv 0) rfl) (zd K (pv 1) rfl) (zd K (pv 1) rfl) ⟨rfl,rfl,rfl,rfl⟩))),?_⟩
  k_go
  refine zar h3 ?_
  k_go
  refine YK h3 ?_
  rw[Ql t3]
  unfold Vbnlae.placed at q
  cases e:Vbnlae.lastAct t d 1 n.key with
  | none=>rw[e] at q;exact q
  | some x=>rw[e] at q;exact q
inductive zes (C:Cs) (vs:List V) (H:Hp) (Q:VK) (E:XK):Prop
 | mk (v a:Addr) (z1:vs=[.ref v,.ref a]) (av b t d n) (z2:VwD C av H v b t d) (z3:qH C H a n) (z4:NB.WF t) (z5:Q (.int (Vbnlae.home t d n)) H):zes C vs H Q E
theorem QF:zk ["self", "species"] ["self", "species"] (zg (zo (top 84) 6)):=sC
theorem yI (T:Txt K mg C):MO P w K mg base (yH C) "home" 2 ["self", "species"] (zes C):=by
 refine MtT.ok T.m_View_home T.c_View QF fun f cdv A outer s H vs Q E hr h=>?_
 ·obtain⟨v,a,rfl,av,b,t,d,n,Vw,hn,W,q⟩:=h
  obtain⟨dx,st,gd,pl,su,ks,kg,kp,ku,hv,h1,h2,h3,h4,_,t1,t2,t3,t4⟩:=Vw.ex
  obtain⟨su',hS⟩:=Vw.sunk
  obtain⟨m,_,hg⟩:=W.goes d (Vbnlae.placed t d n)
  refine⟨_,(ze (zj (xb (jw T) hr.m (pv 0) (za (xb (jX T) hr.m (pv 0) (za (pv 1) zf)) zf)))),?_⟩
  k_go
  refine⟨v,a,rfl,av,b,t,d,n,Vw,hn,?_⟩
  k_go
  exact⟨v,_,rfl,su',_,_,m,hS,hg,q⟩
inductive V7 (C:Cs) (vs:List V) (H:Hp) (Q:VK) (E:XK):Prop
 | mk (v a:Addr) (z1:vs=[.ref v,.ref a]) (av b t d k j e p) (z2:VwD C av H v b t d) (z3:Qk C H a k j e p) (z4:Q (.int (Vbnlae.status t d k)) H):V7 C vs H Q E
theorem Xp:zk ["self", "name"] ["self", "name"] (zg (zo (top 84) 7)):=sC
theorem jH (T:Txt K mg C):MO P w K mg base (yH C) "status" 1 ["self", "name"] (V7 C):=by
 refine MtT.ok T.m_View_status T.c_View Xp fun f cdv A outer s H vs Q E hr h=>?_
 ·obtain⟨v,a,rfl,av,b,t,d,k,j,e,p,Vw,⟨Cl,da,fs,hS,ha,l1,l2,l3,l4,l5⟩,q⟩:=h
  obtain⟨dx,st,gd,pl,su,ks,kg,kp,ku,hv,h1,h2,h3,h4,_,t1,t2,t3,t4⟩:=Vw.ex
  refine⟨_,(ze (zj (ZY (ya hr) (zd K (pv 0) rfl) (zd K (pv 1) rfl) zq ⟨rfl,rfl,rfl,rfl⟩))),?_⟩
  k_go
  refine zar h1 ?_
  k_go
  refine YK h1 ?_
  rw[Ql t1]
  unfold Vbnlae.status at q
  cases e:Vbnlae.lastAct t d 4 k with
  | none=>rw[e] at q;exact q
  | some x=>rw[e] at q;exact q
inductive V8 (C:Cs) (vs:List V) (H:Hp) (Q:VK) (E:XK):Prop
 | mk (v a:Addr) (z1:vs=[.ref v,.ref a]) (av b t d k p) (z2:VwD C av H v b t d) (z3:Vbnlae.placeOf t k=some p) (z4:Qk C H a k p.2.1 p.1 p.2.2) (z5:NB.WF t) (z6:Q (.bl (Vbnlae.counts t d k)) H):V8 C vs H Q E
theorem Z0 {t:State}{d k:Int}{p:Int×Int×Int} (h:Vbnlae.placeOf t k=some p):Vbnlae.isOut t d k=decide (p.1<=d):=by unfold Vbnlae.isOut;rw[h]
theorem Xl:zk ["self", "name"] ["self", "name"] (zg (zo (top 84) 8)):=sC
theorem XL (T:Txt K mg C):MO P w K mg base (yH C) "counts" 2 ["self", "name"] (V8 C):=by
 refine MtT.ok T.m_View_counts T.c_View Xl fun f cdv A outer s H vs Q E hr h=>?_
 ·obtain⟨v,a,rfl,av,b,t,d,k,p,Vw,hp,hN,W,q⟩:=h
  obtain⟨dx,st,gd,pl,su,ks,kg,kp,ku,hv,h1,h2,h3,h4,_,t1,t2,t3,t4⟩:=Vw.ex
  obtain⟨Cl,da,fs,hS,ha,l1,l2,l3,l4,l5⟩:=hN
  have hN:Qk C H a k p.2.1 p.1 p.2.2:=⟨Cl,da,fs,hS,ha,l1,l2,l3,l4,l5⟩
  unfold Vbnlae.counts at q
  rw[Z0 hp] at q
  refine⟨_,(ze (zj (vc (xb (xI T) hr.m (pv 1) (za (zd K (pv 0) rfl) zf)) (va (jL (Wb K) (xb (jH T) hr.m (pv 0) (za (pv 1) zf)) (jz K T.g_COUNTING_STATUSES) rfl))))),?_⟩
  k_go
  refine⟨a,d,rfl,k,_,_,_,hN,?_⟩
  k_go
  refine Zx (fun z=>?_) q
  k_go
  refine⟨v,a,rfl,av,b,t,d,k,_,_,_,Vw,hN,?_⟩
  k_go
  refine V0 fun c hc=>?_
  refine⟨c,_,rfl,.inr (hc.sq H),rfl,zc6 _,?_⟩
  rw[zi4 (W.status_ge d k)]
  exact z
inductive zel (C:Cs) (vs:List V) (H:Hp) (Q:VK) (E:XK):Prop
 | mk (v a:Addr) (z1:vs=[.ref v,.ref a]) (av b t d k p) (z2:VwD C av H v b t d) (z3:Vbnlae.placeOf t k=some p) (z4:Qk C H a k p.2.1 p.1 p.2.2) (z5:∀l H',Same H H'->H' l=some (.lst ((Vbnlae.moment t d k).map V.int))->Q (.ref l) H'):zel C vs H Q E
theorem jB:zk ["self", "name", "given_day"] ["self", "name"] (zg (zo (top 84) 9)):=sC
theorem yi (T:Txt K mg C):MO P w K mg base (yH C) "precedence" 1 ["self", "name"] (zel C):=by
 refine MtT.ok T.m_View_precedence T.c_View jB fun f cdv A outer s H vs Q E hr h=>?_
 ·obtain⟨v,a,rfl,av,b,t,d,k,p,Vw,hp,⟨Cl,da,fs,hS,ha,l1,l2,l3,l4,l5⟩,q⟩:=h
  obtain⟨dx,st,gd,pl,su,ks,kg,kp,ku,hv,h1,h2,h3,h4,_,t1,t2,t3,t4⟩:=Vw.ex
  refine⟨_,(zb (pS 2 jB.nd (ZY (ya hr) (zd K (pv 0) rfl) (zd K (pv 1) rfl) (zd K (pv 1) rfl) ⟨rfl,rfl,rfl,rfl⟩)) (ze (zj (zD (za (pv 2) (za (zd K (pv 1) rfl) (za (zd K (pv 1) rfl) (za (zd K (pv 1) rfl) (za (zd K (pv 1) rfl) zf))))))))),?_⟩
  k_go
  refine zar h2 ?_
  k_go
  refine YK h2 ?_
  rw[Ql t2]
  unfold Vbnlae.moment at q
  rw[hp] at q
  have fin:∀g:Int,(match Vbnlae.lastAct t d 5 k with | some x=>x.b | none=>p.1)=g->Option.getD (Option.map (fun x=>V.int x.b) (Vbnlae.lastAct t d 5 k)) (V.int p.1)=V.int g:=fun g hg=>by
   cases e:Vbnlae.lastAct t d 5 k with
   | none=>rw[e] at hg;rw[←hg];rfl
   | some x=>rw[e] at hg;rw[←hg];rfl
  rw[fin _ rfl]
  k_go
  exact⟨by show 5<=sizeLine;decide,fun l hl=>q l _ (Same.new hl) zc⟩
inductive W4 (C:Cs) (vs:List V) (H:Hp) (Q:VK) (E:XK):Prop
 | mk (v a a':Addr) (z1:vs=[.ref v,.ref a,.ref a']) (av b t d k p k' p') (z2:VwD C av H v b t d) (z3:Vbnlae.placeOf t k=some p) (z4:Qk C H a k p.2.1 p.1 p.2.2) (z5:Vbnlae.placeOf t k'=some p') (z6:Qk C H a' k' p'.2.1 p'.1 p'.2.2) (z7:∀H',Same H H'->Q (.bl (Vbnlae.before t d k k')) H'):W4 C vs H Q E
theorem Zt:zk ["self", "one", "other"] ["self", "one", "other"] (zg (zo (top 84) 10)):=sC
theorem Zc (T:Txt K mg C):MO P w K mg base (yH C) "is_before" 2 ["self", "one", "other"] (W4 C):=by
 refine MtT.ok T.m_View_is_before T.c_View Zt fun f cdv A outer s H vs Q E hr h=>?_
 ·obtain⟨v,a,a',rfl,av,b,t,d,k,p,k',p',Vw,hp,hN,hp',hN',q⟩:=h
  obtain⟨dx,st,gd,pl,su,ks,kg,kp,ku,hv,h1,h2,h3,h4,_,t1,t2,t3,t4⟩:=Vw.ex
  refine⟨_,(ze (zj (jL (zeS K hr.units0) (xb (yi T) hr.m (pv 0) (za (pv 1) zf)) (xb (yi T) hr.m (pv 0) (za (pv 2) zf)) (zu _)))),?_⟩
  k_go
  refine⟨v,a,rfl,av,b,t,d,k,p,Vw,hp,hN,fun l1 H1 s1 e1=>?_⟩
  have hv1:=s1 _ _ hv
  k_go
  refine⟨v,a',rfl,av,b,t,d,k',p',Vw.same s1,hp',(s1.wk (av:=[])).nm hN',fun l2 H2 s2 e2=>?_⟩
  exact⟨l1,l2,_,_,rfl,rfl,SqL.of (s2 _ _ e1),SqL.of e2,q H2 (s1.trans s2)⟩
def qA (na:Int->Addr) (ks:List Int):List V:=ks.map fun k=>V.ref (na k)
inductive W8 (C:Cs) (vs:List V) (H:Hp) (Q:VK) (E:XK):Prop
 | mk (v l:Addr) (z1:vs=[.ref v,.ref l]) (av b t d na ks) (z2:VwD C av H v b t d) (z3:H l=some (.lst (qA na ks))) (z4:(∀k∈ks,NmK C na H t k)) (z5:ks.length<1000) (z6:∀p H',Same H H'->H p=none->H' p=some (.lst (qA na (Vbnlae.byPrecedence t d (ks.filter fun k=>Vbnlae.isOut t d k))))->Q (.ref p) H'):W8 C vs H Q E
theorem yD:zk ["self", "names", "name"] ["self", "names"] (zg (zo (top 84) 11)):=sC
def jJ:Scope:=match zH (zo (top 84) 11) with
 | ((.Return (some (.Call _ ((.ListComp _ _ sc _)::_) _ _)) _)::_)=>sc
 | _=>zg (zo (top 84) 11)
theorem jW:jI ["self", "names", "name"] (zg (zo (top 84) 11)) jJ [("name",2)]:=bC
theorem ye (T:Txt K mg C):MO P w K mg base (yH C) "names_in_order" 4 ["self", "names"] (W8 C):=by
 refine MtT.ok T.m_View_names_in_order T.c_View yD fun f cdv A outer s H vs Q E hr h=>?_
 ·obtain⟨v,l,rfl,av,b,t,d,na,ks,Vw,hl,hN,hlen,q⟩:=h
  obtain⟨dx,st,gd,pl,su,ks1,kg,kp,ku,hv,h1,h2,h3,h4,_,t1,t2,t3,t4⟩:=Vw.ex
  obtain⟨fk,fdk,clk,hmk,hbk,F⟩:=(yi (P:=P) (w:=w) (base:=base) T).ex C.vw rfl
  refine⟨_,(ze (zj (Y4 (zdM (S:=fun _=>True) F hr.m hbk) T.nb_sorted PyProof.Rows.boot_sorted (za (XH rfl yD.nd (zP K (pv 1)) jW (fun _ _ _ _ _=>zN (i:=2) yD.nd rfl (Or.inl rfl)) (fun _ _ _ _ _=>(jF (zU (xb (xI T) hr.m (pv 2) (za (zd K (pv 0) rfl) zf))))) (fun _ _ _ _ _=>(pv 2))) zf) (Vx (zeg K (pv 0)) zcA)))),?_⟩
  k_go
  refine zaN (H1:=H) (a:=l) ks (fun k=>V.ref (na k)) (fun k=>Vbnlae.isOut t d k) (fun k=>V.ref (na k)) (SqL.of hl) (Ubk (yN (Ubk hlen))) (fun R z=>?_) (fun _=>rfl) (fun k hk H1 s1=>?_) fun D H1 s1 _ hD=>?_
  ·k_go
   exact z
  ·obtain⟨p,hp,hN⟩:=(hN k hk).same s1
   obtain⟨Cl,da,fs,hS,ha,l1,l2,l3,l4,l5⟩:=hN
   have hN:Qk C H1 (na k) k p.2.1 p.1 p.2.2:=⟨Cl,da,fs,hS,ha,l1,l2,l3,l4,l5⟩
   have hv1:=s1 _ _ hv
   refine⟨fun QT q=>?_,fun _ Q q=>?_⟩
   ·k_go
    refine⟨na k,d,rfl,k,_,_,_,hN,?_⟩
    k_go
    have:=q H1 (Same.refl _)
    rw[Z0 hp] at this
    exact this
   ·k_go
    exact q H1 (Same.refl _)
  ·have hv1:=s1 _ _ hv
   k_go
   refine zis ?_
   k_go
   refine⟨v,C.vw,dx,_,fk,rfl,hv1,clk,hmk,T.bm fk hmk,by decide,rfl,fun m hm=>?_⟩
   k_go
   have s2:=s1.upd (u:=.met fk v) hm
   have hks:∀k∈ks.filter (fun k=>Vbnlae.isOut t d k),NmK C na H t k:=fun k hk=>hN k (Uah.mp hk).1
   refine⟨D,m,v,_,fun i=>Vbnlae.moment t d ((ks.filter fun k=>Vbnlae.isOut t d k).getD i 0),rfl,rfl,zc,zS hD hm,fun i y H2 Q1 hy s3 hq=>?_,fun idx D2 Hn s3 hp hpw hD2=>?_⟩
   ·obtain⟨k,hk,rfl⟩:=x3 hy
    obtain⟨p,hp,hN⟩:=(hks k (Uaw hk)).same (s2.trans s3)
    refine⟨v,na k,rfl,av,b,t,d,k,p,Vw.same (s2.trans s3),hp,hN,fun l2 H3 s4 e4=>hq l2 H3 s4 ?_⟩
    show _=some (HO.lst ((Vbnlae.moment t d ((ks.filter fun k=>Vbnlae.isOut t d k).getD i 0)).map V.int))
    rw[e4,Ual,hk]
    rfl
   ·have hp':idx.Perm (List.range (ks.filter fun k=>Vbnlae.isOut t d k).length):=by rw[Uaa] at hp;exact hp
    have hidx:∀i∈idx,i<(ks.filter fun k=>Vbnlae.isOut t d k).length:=fun i hi=>Uco.mp (hp'.mem_iff.mp hi)
    have eb:Vbnlae.byPrecedence t d (ks.filter fun k=>Vbnlae.isOut t d k)=idx.map fun i=>(ks.filter fun k=>Vbnlae.isOut t d k).getD i 0:=by
     refine NB.jf (fun a b ha _ h=>NB.ja (by obtain⟨p,hp,_⟩:=hks a ha;rw[hp];rfl) h) (Kw hp') ?_
     exact List.Pairwise.map _ (fun i j h=>h) hpw
    refine q D2 _ ((s2.trans s3).upd hD2) ((s2.trans s3).free hD2) ?_
    rw[zc,eb]
    unfold qA
    rw[Uau]
    refine congrArg (fun z=>some (HO.lst z)) (List.map_congr_left fun i hi=>?_)
    exact WQ (hidx i hi)
end
theorem zb6 {a b:List Int}:(a == b)=decide (a=b):=by
 by_cases h:a=b
 ·rw[Uac h];exact beq_iff_eq.mpr h
 ·rw[Uab h];exact Ubi.mpr h
theorem Qr {a b:Int}:(a == b)=decide (a=b):=by
 by_cases h:a=b
 ·rw[Uac h];exact beq_iff_eq.mpr h
 ·rw[Uab h];exact Ubi.mpr h
section
variable {P:Program}{w:World}{K:PySem.W.Frag}{mg:Str->Option Value}{base:Heap}{C:Cs}
theorem Vc {H:Hp}{fo f0 f1 f2:Addr}{n:Species}{g:Int} (hg:0<=g/\g<=2) (h0:H f0=some (.lst (n.masc.map V.int))) (h1:H f1=some (.lst (n.fem.map V.int))) (h2:H f2=some (.lst (n.neut.map V.int))) :
  ∃(i:Nat) (f:Addr),g=(i:Int)/\[V.ref f0,.ref f1,.ref f2][i]? = some (.ref f)/\H f=some (.lst ((Vbnlae.form g n).map V.int)):=by
 have:g=0\/g=1\/g=2:=by omega
 rcases this with rfl | rfl | rfl
 ·exact⟨0,f0,rfl,rfl,h0⟩
 ·exact⟨1,f1,rfl,rfl,h1⟩
 ·exact⟨2,f2,rfl,rfl,h2⟩
inductive zbj (C:Cs) (vs:List V) (H:Hp) (Q:VK) (E:XK):Prop
 | mk (a b:Addr) (g:Int) (z1:vs=[.ref a,.ref b,.int g]) (n m) (z2:qH C H a n) (z3:qH C H b m) (z4:(0<=g/\g<=2)) (z5:Q (.bl (Vbnlae.alike g n m)) H):zbj C vs H Q E
theorem QW:zk ["one", "other", "gender"] ["one", "other", "gender"] (zg (top 68)):=sC
theorem qZ (T:Txt K mg C):FO P w K mg base "are_alike" 1 ["one", "other", "gender"] (zbj C):=by
 refine T.d_are_alike.ok QW fun f cdv A outer s H vs Q E hr h=>?_
 ·obtain⟨a,b,g,rfl,n,m,⟨da,fo,f0,f1,f2,ha,hfo,h0,h1,h2⟩,⟨db,go,g0,g1,g2,hb,hgo,k0,k1,k2⟩,hg,q⟩:=h
  obtain⟨i,fi,ei,li,hi⟩:=Vc (fo:=fo) hg h0 h1 h2
  obtain⟨j,gj,ej,lj,hj⟩:=Vc (fo:=go) hg k0 k1 k2
  refine⟨_,(ze (zj (jL (zcG K hr) (yr (zA K) (zd K (pv 0) rfl) (pv 2) (fun _ _=>rfl)) (yr (zA K) (zd K (pv 1) rfl) (pv 2) (fun _ _=>rfl)) (zu _)))),?_⟩
  k_go
  rw[ei]
  refine yX (i:=i) (SqL.of hfo) li ?_
  k_go
  rw[←ei,ej]
  refine yX (i:=j) (SqL.of hgo) lj ?_
  refine⟨fi,gj,_,_,rfl,rfl,SqL.of hi,SqL.of hj,?_⟩
  unfold Vbnlae.alike at q
  rw[zb6] at q
  exact q
inductive zem (C:Cs) (vs:List V) (H:Hp) (Q:VK) (E:XK):Prop
 | mk (v a a':Addr) (z1:vs=[.ref v,.ref a,.ref a']) (av b t d k p k' p') (z2:VwD C av H v b t d) (z3:Vbnlae.placeOf t k=some p) (z4:Qk C H a k p.2.1 p.1 p.2.2) (z5:Vbnlae.placeOf t k'=some p') (z6:Qk C H a' k' p'.2.1 p'.1 p'.2.2) (z7:NB.WF t) (z8:∀H',Same H H'->Q (.bl (Vbnlae.counts t d k&&Vbnlae.before t d k k')) H'):zem C vs H Q E
theorem wR:zk ["view", "other", "name"] ["view", "other", "name"] (zg (top 69)):=sC
theorem xC (T:Txt K mg C):FO P w K mg base "is_able_to_bar" 3 ["view", "other", "name"] (zem C):=by
 refine T.d_is_able_to_bar.ok wR fun f cdv A outer s H vs Q E hr h=>?_
 ·obtain⟨v,a,a',rfl,av,b,t,d,k,p,k',p',Vw,hp,hN,hp',hN',W,q⟩:=h
  obtain⟨dx,st,gd,pl,su,ks,kg,kp,ku,hv,h1,h2,h3,h4,_,t1,t2,t3,t4⟩:=Vw.ex
  refine⟨_,(ze (zj (vc (xb (XL T) hr.m (pv 0) (za (pv 1) zf)) (va (xb (Zc T) hr.m (pv 0) (za (pv 1) (za (pv 2) zf))))))),?_⟩
  k_go
  refine⟨v,a,rfl,av,b,t,d,k,p,Vw,hp,hN,W,?_⟩
  k_go
  cases hc:Vbnlae.counts t d k with
  | false=>
   rw[hc] at q
   exact zL (q H (Same.refl _))
  | true=>
   rw[hc] at q
   refine zQ ?_
   k_go
   exact⟨v,a,a',rfl,av,b,t,d,k,p,k',p',Vw,hp,hN,hp',hN',q⟩
def vb (t:State) (d c:Int):List Int->Int×Int
 | []=>(0,0)
 | x::r=>(c,Vbnlae.firstBy t d (x::r))
def vQ (K:PySem.W.Frag) (H:Hp) (p:Addr) (b:Int×Int):Prop:=SqT K H p ([b.1,b.2].map V.int)
inductive zep (K:PySem.W.Frag) (C:Cs) (vs:List V) (H:Hp) (Q:VK) (E:XK):Prop
 | mk (v l:Addr) (c:Int) (z1:vs=[.ref v,.int c,.ref l]) (av b t d na ks) (z2:VwD C av H v b t d) (z3:H l=some (.lst (qA na ks))) (z4:(∀k∈ks,NmK C na H t k)) (z5:∀p H',Same H H'->vQ K H' p (vb t d c ks)->Q (.ref p) H'):zep K C vs H Q E
theorem zaz:zk ["view", "kind", "barring"] ["view", "kind", "barring"] (zg (top 70)):=sC
theorem Ze (T:Txt K mg C):FO P w K mg base "pair_of" 4 ["view", "kind", "barring"] (zep K C):=by
 refine T.d_pair_of.ok zaz fun f cdv A outer s H vs Q E hr h=>?_
 ·obtain⟨v,l,c,rfl,av,b,t,d,na,ks,Vw,hl,hN,q⟩:=h
  obtain⟨dx,st,gd,pl,su,ks1,kg,kp,ku,hv,h1,h2,h3,h4,_,t1,t2,t3,t4⟩:=Vw.ex
  obtain⟨fk,fdk,clk,hmk,hbk,F⟩:=(yi (P:=P) (w:=w) (base:=base) T).ex C.vw rfl
  refine⟨_,(zb (zy (zp yA (zG (xQ K) rfl T.nb_len PySem.boot_len (za (pv 2) zf)) zq (zu _)) (ze (zj (jz K T.g_NO_BAR))) zn) (ze (zj (Wx (za (pv 1) (za (zd K (Y4 (zfd F hr.m hbk) T.nb_min PyProof.Rows.boot_min (za (pv 2) zf) (Vx (zeg K (pv 0)) zcA)) rfl) zf)))))),?_⟩
  k_go
  refine⟨l,_,rfl,.inl (SqL.of hl),?_⟩
  k_go
  cases ks with
  | nil=>
   refine zQ ?_
   k_go
   refine V0 fun a ha=>?_
   exact q a H (Same.refl _) (ha.sq H)
  | cons x r=>
   have hlen:decide ((((qA na (x::r)).length:Nat):Int)=0)=false:=Uab (by unfold qA;rw[Uaa,Uae];omega)
   rw[hlen]
   refine zL ?_
   k_go
   refine zis ?_
   k_go
   refine⟨v,C.vw,dx,_,fk,rfl,hv,clk,hmk,T.bm fk hmk,by decide,rfl,fun m hm=>?_⟩
   k_go
   have s1:Same H (upd H m (.met fk v)):=Same.new hm
   refine⟨l,m,v,_,fun i=>Vbnlae.moment t d ((x::r).getD i 0),rfl,rfl,zc,zS hl hm,by unfold qA;simp,fun i y H2 Q1 hy s3 hq=>?_,fun i y Hn hy hmin s3=>?_⟩
   ·obtain⟨k,hk,rfl⟩:=x3 hy
    obtain⟨p,hp,hN⟩:=(hN k (Uaw hk)).same (s1.trans s3)
    refine⟨v,na k,rfl,av,b,t,d,k,p,Vw.same (s1.trans s3),hp,hN,fun l2 H3 s4 e4=>hq l2 H3 s4 ?_⟩
    show _=some (HO.lst ((Vbnlae.moment t d ((x::r).getD i 0)).map V.int))
    rw[e4,Ual,hk]
    rfl
   ·obtain⟨k,hk,rfl⟩:=x3 hy
    have hkm:=Uaw hk
    obtain⟨p,hp,Cl,da,fs,hS,ha,l1,l2,l3,l4,l5⟩:=(hN k hkm).same (s1.trans s3)
    have eb:Vbnlae.firstBy t d (x::r)=k:=by
     refine NB.Zk (fun a b ha _ h=>NB.ja (by obtain⟨p,hp,_⟩:=hN a ha;rw[hp];rfl) h) hkm fun z hz=>?_
     obtain⟨j,hj,ej⟩:=List.getElem_of_mem hz
     have:=hmin j (by unfold qA;rw[Uaa];exact hj)
     have e1:(x::r).getD j 0=z:=by rw[Ual,Uai hj,ej];rfl
     have e2:(x::r).getD i 0=k:=by rw[Ual,hk];rfl
     simp only[e1,e2] at this
     exact this
    k_go
    refine⟨by show 2<=sizeLine;decide,fun p2 hp2=>q p2 _ ((s1.trans s3).upd hp2) ?_⟩
    show SqT _ _ _ ([c,Vbnlae.firstBy t d (x::r)].map V.int)
    rw[eb]
    exact SqT.of zc
def jg (t:State) (p:Genus->Bool):List Int:=(t.genera.filter p).map fun h=>h.key
inductive zbR (C:Cs) (vs:List V) (H:Hp) (Q:VK) (E:XK):Prop
 | mk (v a:Addr) (z1:vs=[.ref v,.ref a]) (av b t d na g) (z2:VwD C av H v b t d) (z3:BkP C na av H b t) (z4:wZ C H a g) (z5:NB.WF t) (z6:∀p H',Same H H'->H' p=some (.lst (qA na (jg t fun h=>h.text == g.text)))->Q (.ref p) H'):zbR C vs H Q E
theorem jp:zk ["view", "genus", "other"] ["view", "genus"] (zg (top 71)):=sC
def vO:Scope:=match zH (top 71) with
 | ((.Return (some (.ListComp _ _ sc _)) _)::_)=>sc
 | _=>zg (top 71)
theorem Zh:jI ["view", "genus", "other"] (zg (top 71)) vO [("other",2)]:=bC
theorem qP (T:Txt K mg C):FO P w K mg base "namesakes_of" 1 ["view", "genus"] (zbR C):=by
 refine T.d_namesakes_of.ok jp fun f cdv A outer s H vs Q E hr h=>?_
 ·obtain⟨v,a,rfl,av,b,t,d,na,g,Vw,B,⟨da,lt,ha,hlt⟩,W,q⟩:=h
  obtain⟨dx,st,gd,pl,su,ks,kg,kp,ku,hv,h1,h2,h3,h4,_,t1,t2,t3,t4⟩:=Vw.ex
  obtain⟨db,wd,gg,sd,l,hb,hg,hs,_⟩:=B.ex
  refine⟨_,(ze (zj (VN (XH rfl jp.nd (qJ (zd K (zd K (pv 0) rfl) rfl)) Zh (fun _ _ _ _ _=>zN (i:=2) jp.nd rfl (Or.inl rfl)) (fun _ _ _ _ _=>(jF (zp (zcG K hr) (zd K (pv 2) rfl) (zd K (pv 1) rfl) (zu _)))) (fun _ _ _ _ _=>(pv 2)))))),?_⟩
  k_go
  refine Qc (d:=gg) t.genera (fun x=>V.ref (na x.key)) (fun x=>x.text == g.text) (fun x=>V.ref (na x.key)) hg (by unfold wF;rw[Uau];rfl) (by have:=W.gl;unfold Vbnlae.GENERA at this;rw[sizeLine_eq];omega) (fun o R z=>?_) (fun _=>rfl) (fun o x hx H1 s1=>?_) fun D H1 s1 _ hD=>?_
  ·have hv1:=(xz (av:=av) (o:=o) hg).ins hv
   have hb1:=(xz (av:=av) (o:=o) hg).ins hb
   k_go
   exact z
  ·have wk:Wk av H H1:=(xz (o:=o) hg).trans s1.wk
   obtain⟨dg,lx,hx1,hlx⟩:=wk.gen (B.gen x hx)
   have ha1:=wk.ins ha
   refine⟨fun QT q=>?_,fun _ Q q=>?_⟩
   ·k_go
    refine⟨lx,lt,_,_,rfl,rfl,SqL.of hlx,SqL.of (wk.lst hlt),?_⟩
    k_go
    have:=q H1 (Same.refl _)
    rw[zb6] at this
    exact this
   ·k_go
    exact q H1 (Same.refl _)
  ·refine q D H1 s1 ?_
   rw[hD]
   unfold qA jg
   rw[Uau]
   rfl
inductive XU (K:PySem.W.Frag) (C:Cs) (vs:List V) (H:Hp) (Q:VK) (E:XK):Prop
 | mk (v a:Addr) (z1:vs=[.ref v,.ref a]) (av b t d na g) (z2:VwD C av H v b t d) (z3:BkP C na av H b t) (z4:g∈t.genera) (z5:a=na g.key) (z6:NB.WF t) (z7:∀p H',Same H H'->vQ K H' p (vb t d 1 (Vbnlae.genusBars t d g))->Q (.ref p) H'):XU K C vs H Q E
theorem KQ (t:State) (d:Int) (g:Genus):Vbnlae.genusBars t d g=(jg t fun h=>h.text == g.text).filter fun k=>Vbnlae.counts t d k&&Vbnlae.before t d k g.key:=by
 unfold Vbnlae.genusBars jg
 rw[List.filter_map,Ubq]
 congr 2
 funext h
 show _=((Vbnlae.counts t d h.key&&Vbnlae.before t d h.key g.key)&&(h.text == g.text))
 cases Vbnlae.counts t d h.key <;> cases (h.text == g.text) <;> cases Vbnlae.before t d h.key g.key <;> rfl
theorem qT:zk ["view", "genus", "barring", "other"] ["view", "genus"] (zg (top 72)):=sC
def YF:Scope:=match zH (top 72) with
 | ((.Assign _ (.ListComp _ _ sc _) _)::_)=>sc
 | _=>zg (top 72)
theorem Xu:jI ["view", "genus", "barring", "other"] (zg (top 72)) YF [("other",3)]:=bC
theorem Ks (T:Txt K mg C):FO P w K mg base "genus_bar" 5 ["view", "genus"] (XU K C):=by
 refine T.d_genus_bar.ok qT fun f cdv A outer s H vs Q E hr h=>?_
 ·obtain⟨v,a,rfl,av,b,t,d,na,g,Vw,B,hg,rfl,W,q⟩:=h
  refine⟨_,(zb (kK (i:=2) rfl qT.nd rfl rfl (Zv rfl rfl rfl rfl) (zP K (zV (qP T) hr.m (za (pv 0) (za (pv 1) zf)))) Xu (fun _ _ _ _ _=>zN (i:=3) qT.nd rfl (Or.inl rfl)) (fun _ _ _ _ _=>(jF (zU (zV (xC T) hr.m (za (pv 0) (za (pv 3) (za (pv 1) zf))))))) (fun _ _ _ _ _=>(pv 3))) (ze (zj (zV (Ze T) hr.m (za (pv 0) (za (zC T.g_SAME_TEXT) (za (pv 2) zf))))))),?_⟩
  k_go
  refine zcE (fun p H1=>Same H H1/\H1 p=some (.lst (qA na (jg t fun h=>h.text == g.text)))) (jg t fun h=>h.text == g.text) (fun k=>V.ref (na k)) (fun k=>Vbnlae.counts t d k&&Vbnlae.before t d k g.key) (fun k=>V.ref (na k)) (fun p H1 h=>SqL.of h.2)
   (by
    unfold jg
    rw[Uaa]
    have h1:(t.genera.filter fun h=>h.text == g.text).length<=t.genera.length:=Uan _ _
    have h2:=W.gl
    unfold Vbnlae.GENERA at h2
    rw[sizeLine_eq]
    omega) (fun R z=>?_) (fun _=>rfl) (fun p H1 h k hk H2 s2=>?_) fun p H1 D H2 h s2 _ hD=>?_
  ·k_go
   exact⟨v,na g.key,rfl,av,b,t,d,na,g,Vw,B,B.gen g hg,W,fun p H' s e=>z p H' ⟨s,e⟩⟩
  ·have s:=h.1.trans s2
   obtain⟨x,hx,rfl⟩:=Uaq.mp hk
   have hx:=(Uah.mp hx).1
   refine⟨fun QT q=>?_,fun _ Q q=>?_⟩
   ·k_go
    refine⟨v,na x.key,na g.key,rfl,av,b,t,d,x.key,_,g.key,_,Vw.same s,W.placeG hx,((B.same s).gen x hx).nm,W.placeG hg,((B.same s).gen g hg).nm,W,fun H3 s3=>?_⟩
    k_go
    exact q H3 s3
   ·k_go
    exact q H2 (Same.refl _)
  ·k_go
   have s:=h.1.trans s2
   refine⟨v,D,1,rfl,av,b,t,d,na,_,Vw.same s,hD,fun k hk=>?_,fun p2 H3 s3 hp=>q p2 H3 (s.trans s3) ?_⟩
   ·obtain⟨x,hx,rfl⟩:=Uaq.mp (Uah.mp hk).1
    exact(B.same s).n.nmk (NB.jn (Uah.mp hx).1)
   ·rw[KQ]
    exact hp
end
theorem Y7 {t:State} (W:NB.WF t) {g:Genus} (h:g∈t.genera):Vbnlae.genderOf t g.key=g.gender:=by unfold Vbnlae.genderOf;rw[W.genusOf h]
section
variable {P:Program}{w:World}{K:PySem.W.Frag}{mg:Str->Option Value}{base:Heap}{C:Cs}
def zdL (t:State) (d:Int) (m n:Species):Bool:=Vbnlae.counts t d m.key&&Vbnlae.before t d m.key n.key
def Yi (t:State) (d:Int) (n m:Species):Bool:=(m.genus == n.genus)&&(Vbnlae.alike (Vbnlae.genderOf t n.genus) m n&&zdL t d m n)
inductive Q0 (C:Cs) (vs:List V) (H:Hp) (Q:VK) (E:XK):Prop
 | mk (v a a':Addr) (z1:vs=[.ref v,.ref a,.ref a']) (av b t d na m n) (z2:VwD C av H v b t d) (z3:BkN C na av H b t) (z4:m∈t.species) (z5:a=na m.key) (z6:n∈t.species) (z7:a'=na n.key) (z8:NB.WF t) (z9:∀H',Same H H'->Q (.bl (Yi t d n m)) H'):Q0 C vs H Q E
theorem yR:zk ["view", "other", "name", "gender"] ["view", "other", "name"] (zg (top 73)):=sC
theorem ju (T:Txt K mg C):FO P w K mg base "does_bar_by_first_genus" 4 ["view", "other", "name"] (Q0 C):=by
 refine T.d_does_bar_by_first_genus.ok yR fun f cdv A outer s H vs Q E hr h=>?_
 ·obtain⟨v,a,a',rfl,av,b,t,d,na,m,n,Vw,B,hm,rfl,hn,rfl,W,q⟩:=h
  obtain⟨dx,st,gd,pl,su,ks,kg,kp,ku,hv,h1,h2,h3,h4,_,t1,t2,t3,t4⟩:=Vw.ex
  obtain⟨db,wd,gg,sd,l,hb,hg,hs,_⟩:=B.ex
  have hM:=B.spe m hm
  have hN:=B.spe n hn
  obtain⟨d1,fo,f0,f1,f2,e1,_⟩:=B.spe m hm
  obtain⟨d2,go,g0,g1,g2,e2,_⟩:=B.spe n hn
  obtain⟨⟨g,hgm,eg⟩,_⟩:=W.spe n hn
  obtain⟨dg,lg,e3,_⟩:=B.gen g hgm
  refine⟨_,(zb (zy (zp V4 (zd K (pv 1) rfl) (zd K (pv 2) rfl) (zu _)) (ze (zj za9)) zn) (zb (pS 3 yR.nd (zd K (yS (ya hr) (zd K (zd K (pv 0) rfl) rfl) (zd K (pv 2) rfl) (fun _ _=>rfl)) rfl)) (ze (zj (vc (zV (qZ T) hr.m (za (pv 1) (za (pv 2) (za (pv 3) zf)))) (va (zV (xC T) hr.m (za (pv 0) (za (pv 1) (za (pv 2) zf)))))))))),?_⟩
  unfold Yi at q
  rw[Qr] at q
  k_go
  by_cases e:m.genus=n.genus
  ·rw[Uac e] at q ⊢
   refine zL ?_
   k_go
   refine xM (v:=.ref (na g.key)) hg (by rw[←eg];exact jN W na hgm) ?_
   k_go
   have eG:Vbnlae.genderOf t n.genus=g.gender:=by rw[←eg];exact Y7 W hgm
   rw[eG] at q
   refine⟨na m.key,na n.key,g.gender,rfl,m,n,hM,hN,(W.gen g hgm).1,?_⟩
   k_go
   cases ha:Vbnlae.alike g.gender m n with
   | false=>
    rw[ha] at q
    exact zL (q H (Same.refl _))
   | true=>
    rw[ha] at q
    refine zQ ?_
    k_go
    exact⟨v,na m.key,na n.key,rfl,av,b,t,d,m.key,_,n.key,_,Vw,W.placeS hm,hM.nm,W.placeS hn,hN.nm,W,q⟩
  ·rw[Uab e] at q ⊢
   refine zQ ?_
   k_go
   exact q H (Same.refl _)
theorem k9 (t:State) (d:Int) (n:Species):Vbnlae.primaryBars t d n=(t.species.filter (Yi t d n)).map fun m=>m.key:=by
 unfold Vbnlae.primaryBars Vbnlae.speciesKeys
 congr 2
 funext m
 unfold Yi zdL
 cases Vbnlae.counts t d m.key <;> cases (m.genus == n.genus) <;> cases Vbnlae.alike (Vbnlae.genderOf t n.genus) m n <;> cases Vbnlae.before t d m.key n.key <;> rfl
inductive Jq (K:PySem.W.Frag) (C:Cs) (vs:List V) (H:Hp) (Q:VK) (E:XK):Prop
 | mk (v a:Addr) (z1:vs=[.ref v,.ref a]) (av b t d na n) (z2:VwD C av H v b t d) (z3:BkP C na av H b t) (z4:n∈t.species) (z5:a=na n.key) (z6:NB.WF t) (z7:∀p H',Same H H'->vQ K H' p (vb t d 2 (Vbnlae.primaryBars t d n))->Q (.ref p) H'):Jq K C vs H Q E
theorem zhd {t:State} (W:NB.WF t):t.species.length<=sizeLine:=by have:=W.sl;unfold Vbnlae.SPECIES at this;rw[sizeLine_eq];omega
theorem Z4 (na:Int->Addr) (t:State):(vj na t).map (·.2)=t.species.map fun x=>V.ref (na x.key):=by unfold vj;rw[Uau];rfl
theorem xq:zk ["view", "name", "barring", "other"] ["view", "name"] (zg (top 74)):=sC
def kf:Scope:=match zH (top 74) with
 | ((.Assign _ (.ListComp _ _ sc _) _)::_)=>sc
 | _=>zg (top 74)
theorem kT:jI ["view", "name", "barring", "other"] (zg (top 74)) kf [("other",3)]:=bC
theorem vT (T:Txt K mg C):FO P w K mg base "first_genus_bar" 5 ["view", "name"] (Jq K C):=by
 refine T.d_first_genus_bar.ok xq fun f cdv A outer s H vs Q E hr h=>?_
 ·obtain⟨v,a,rfl,av,b,t,d,na,n,Vw,B,hn,rfl,W,q⟩:=h
  obtain⟨dx,st,gd,pl,su,ks,kg,kp,ku,hv,h1,h2,h3,h4,_,t1,t2,t3,t4⟩:=Vw.ex
  obtain⟨db,wd,gg,sd,l,hb,hg,hs,_⟩:=B.ex
  refine⟨_,(zb (Vz (kK (i:=2) rfl xq.nd rfl rfl (Zv rfl rfl rfl rfl) (qJ (zd K (zd K (pv 0) rfl) rfl)) kT (fun _ _ _ _ _=>zN (i:=3) xq.nd rfl (Or.inl rfl)) (fun _ _ _ _ _=>(jF (zU (zV (ju T) hr.m (za (pv 0) (za (pv 3) (za (pv 1) zf))))))) (fun _ _ _ _ _=>(pv 3)))) (ze (zj (zV (Ze T) hr.m (za (pv 0) (za (zC T.g_SAME_FIRST_GENUS) (za (pv 2) zf))))))),?_⟩
  k_go
  refine Ky (d:=sd) t.species (fun x=>V.ref (na x.key)) (Yi t d n) (fun x=>V.ref (na x.key)) hs (Z4 na t) (zhd W) (fun o R z=>?_) (fun _=>rfl) (fun o x hx H1 s1=>?_) fun D H1 s1 _ hD=>?_
  ·have hv1:=(xz (av:=av) (o:=o) hs).ins hv
   have hb1:=(xz (av:=av) (o:=o) hs).ins hb
   k_go
   exact z
  ·have wk:Wk av H H1:=(xz (o:=o) hs).trans s1.wk
   refine⟨fun QT q=>?_,fun _ Q q=>?_⟩
   ·k_go
    refine⟨v,na x.key,na n.key,rfl,av,b,t,d,na,x,n,Vw.wk wk,B.n.wk wk,hx,rfl,hn,rfl,W,fun H2 s2=>?_⟩
    k_go
    exact q H2 s2
   ·k_go
    exact q H1 (Same.refl _)
  ·k_go
   have hD':H1 D=some (.lst (qA na (Vbnlae.primaryBars t d n))):=by
    rw[hD,k9]
    unfold qA
    rw[Uau]
    rfl
   refine⟨v,D,2,rfl,av,b,t,d,na,_,Vw.same s1,hD',fun k hk=>?_,fun p H2 s2 hp=>q p H2 (s1.trans s2) hp⟩
   rw[k9] at hk
   obtain⟨x,hx,rfl⟩:=Uaq.mp hk
   exact(B.same s1).n.nmk (NB.yh (Uah.mp hx).1)
def YL (t:State) (d hd:Int) (n m:Species):Bool:=decide (Vbnlae.home t d m=hd)&&(Vbnlae.alike (Vbnlae.genderOf t hd) m n&&zdL t d m n)
inductive WE (C:Cs) (vs:List V) (H:Hp) (Q:VK) (E:XK):Prop
 | mk (v a:Addr) (hd:Int) (a':Addr) (z1:vs=[.ref v,.ref a,.int hd,.ref a']) (av b t d na m n) (z2:VwD C av H v b t d) (z3:BkN C na av H b t) (z4:m∈t.species) (z5:a=na m.key) (z6:n∈t.species) (z7:a'=na n.key) (z8:NB.WF t) (z9:∀H',Same H H'->Q (.bl (YL t d hd n m)) H'):WE C vs H Q E
theorem ji:zk ["view", "other", "home", "name", "gender"] ["view", "other", "home", "name"] (zg (top 75)):=sC
theorem jo (T:Txt K mg C):FO P w K mg base "does_bar_in_home" 4 ["view", "other", "home", "name"] (WE C):=by
 refine T.d_does_bar_in_home.ok ji fun f cdv A outer s H vs Q E hr h=>?_
 ·obtain⟨v,a,hd,a',rfl,av,b,t,d,na,m,n,Vw,B,hm,rfl,hn,rfl,W,q⟩:=h
  obtain⟨dx,st,gd,pl,su,ks,kg,kp,ku,hv,h1,h2,h3,h4,_,t1,t2,t3,t4⟩:=Vw.ex
  obtain⟨db,wd,gg,sd,l,hb,hg,hs,_⟩:=B.ex
  have hM:=B.spe m hm
  have hN:=B.spe n hn
  refine⟨_,(zb (zy (zp V4 (xb (yI T) hr.m (pv 0) (za (pv 1) zf)) (pv 2) (zu _)) (ze (zj za9)) zn) (zb (pS 4 ji.nd (zd K (yS (ya hr) (zd K (zd K (pv 0) rfl) rfl) (pv 2) (fun _ _=>rfl)) rfl)) (ze (zj (vc (zV (qZ T) hr.m (za (pv 1) (za (pv 3) (za (pv 4) zf)))) (va (zV (xC T) hr.m (za (pv 0) (za (pv 1) (za (pv 3) zf)))))))))),?_⟩
  unfold YL at q
  k_go
  refine⟨v,na m.key,rfl,av,b,t,d,m,Vw,hM,W,?_⟩
  k_go
  by_cases e:Vbnlae.home t d m=hd
  ·rw[Uac e] at q ⊢
   refine zL ?_
   obtain⟨g,hgm,eg⟩:=Uaq.mp (W.home_mem d hm)
   obtain⟨dg,lg,e3,_⟩:=B.gen g hgm
   k_go
   refine xM (v:=.ref (na g.key)) hg (by rw[←e,←eg];exact jN W na hgm) ?_
   k_go
   have eG:Vbnlae.genderOf t hd=g.gender:=by rw[←e,←eg];exact Y7 W hgm
   rw[eG] at q
   refine⟨na m.key,na n.key,g.gender,rfl,m,n,hM,hN,(W.gen g hgm).1,?_⟩
   k_go
   cases ha:Vbnlae.alike g.gender m n with
   | false=>
    rw[ha] at q
    exact zL (q H (Same.refl _))
   | true=>
    rw[ha] at q
    refine zQ ?_
    k_go
    exact⟨v,na m.key,na n.key,rfl,av,b,t,d,m.key,_,n.key,_,Vw,W.placeS hm,hM.nm,W.placeS hn,hN.nm,W,q⟩
  ·rw[Uab e] at q ⊢
   refine zQ ?_
   k_go
   exact q H (Same.refl _)
theorem Kn {t:State}{d hd:Int}{n m:Species}:(m.key != n.key&&(Vbnlae.alike (Vbnlae.genderOf t hd) m n&&(Vbnlae.counts t d m.key&&(Vbnlae.homeBy (Vbnlae.parents t d) t d m == hd&&Vbnlae.before t d m.key n.key))))=YL t d hd n m:=by
 unfold YL zdL
 rw[Qr]
 show _=(decide (Vbnlae.homeBy (Vbnlae.parents t d) t d m=hd)&&_)
 cases hb:Vbnlae.before t d m.key n.key with
 | false=>cases (m.key != n.key) <;> cases Vbnlae.alike (Vbnlae.genderOf t hd) m n <;> cases Vbnlae.counts t d m.key <;> cases decide (Vbnlae.homeBy (Vbnlae.parents t d) t d m=hd) <;> rfl
 | true=>
  have:(m.key != n.key)=true:=by
   rw[bne_iff_ne]
   intro e
   rw[e] at hb
   unfold Vbnlae.before at hb
   rw[NB.yo] at hb
   cases hb
  rw[this]
  cases Vbnlae.alike (Vbnlae.genderOf t hd) m n <;> cases Vbnlae.counts t d m.key <;> cases decide (Vbnlae.homeBy (Vbnlae.parents t d) t d m=hd) <;> rfl
theorem xY (t:State) (d:Int) (n:Species) (hd:Int):Vbnlae.secondaryBars t d n hd=(t.species.filter (YL t d hd n)).map fun m=>m.key:=by
 unfold Vbnlae.secondaryBars Vbnlae.speciesKeys
 show List.map _ (List.filter (fun m=>_) _)=_
 congr 2
 funext m
 exact Kn
inductive KL (K:PySem.W.Frag) (C:Cs) (vs:List V) (H:Hp) (Q:VK) (E:XK):Prop
 | mk (v:Addr) (hd:Int) (a:Addr) (z1:vs=[.ref v,.int hd,.ref a]) (av b t d na n) (z2:VwD C av H v b t d) (z3:BkP C na av H b t) (z4:n∈t.species) (z5:a=na n.key) (z6:NB.WF t) (z7:∀p H',Same H H'->vQ K H' p (vb t d 4 (Vbnlae.secondaryBars t d n hd))->Q (.ref p) H'):KL K C vs H Q E
theorem vA:zk ["view", "home", "name", "barring", "other"] ["view", "home", "name"] (zg (top 76)):=sC
def XN:Scope:=match zH (top 76) with
 | ((.Assign _ (.ListComp _ _ sc _) _)::_)=>sc
 | _=>zg (top 76)
theorem Qt:jI ["view", "home", "name", "barring", "other"] (zg (top 76)) XN [("other",4)]:=bC
theorem V1 (T:Txt K mg C):FO P w K mg base "home_bar" 5 ["view", "home", "name"] (KL K C):=by
 refine T.d_home_bar.ok vA fun f cdv A outer s H vs Q E hr h=>?_
 ·obtain⟨v,hd,a,rfl,av,b,t,d,na,n,Vw,B,hn,rfl,W,q⟩:=h
  obtain⟨dx,st,gd,pl,su,ks,kg,kp,ku,hv,h1,h2,h3,h4,_,t1,t2,t3,t4⟩:=Vw.ex
  obtain⟨db,wd,gg,sd,l,hb,hg,hs,_⟩:=B.ex
  refine⟨_,(zb (Vz (kK (i:=3) rfl vA.nd rfl rfl (Zv rfl rfl rfl rfl) (qJ (zd K (zd K (pv 0) rfl) rfl)) Qt (fun _ _ _ _ _=>zN (i:=4) vA.nd rfl (Or.inl rfl)) (fun _ _ _ _ _=>(jF (zU (zV (jo T) hr.m (za (pv 0) (za (pv 4) (za (pv 1) (za (pv 2) zf)))))))) (fun _ _ _ _ _=>(pv 4)))) (ze (zj (zV (Ze T) hr.m (za (pv 0) (za (zC T.g_SAME_HOME) (za (pv 3) zf))))))),?_⟩
  k_go
  refine Ky (d:=sd) t.species (fun x=>V.ref (na x.key)) (YL t d hd n) (fun x=>V.ref (na x.key)) hs (Z4 na t) (zhd W) (fun o R z=>?_) (fun _=>rfl) (fun o x hx H1 s1=>?_) fun D H1 s1 _ hD=>?_
  ·have hv1:=(xz (av:=av) (o:=o) hs).ins hv
   have hb1:=(xz (av:=av) (o:=o) hs).ins hb
   k_go
   exact z
  ·have wk:Wk av H H1:=(xz (o:=o) hs).trans s1.wk
   refine⟨fun QT q=>?_,fun _ Q q=>?_⟩
   ·k_go
    refine⟨v,na x.key,hd,na n.key,rfl,av,b,t,d,na,x,n,Vw.wk wk,B.n.wk wk,hx,rfl,hn,rfl,W,fun H2 s2=>?_⟩
    k_go
    exact q H2 s2
   ·k_go
    exact q H1 (Same.refl _)
  ·k_go
   have hD':H1 D=some (.lst (qA na (Vbnlae.secondaryBars t d n hd))):=by
    rw[hD,xY]
    unfold qA
    rw[Uau]
    rfl
   refine⟨v,D,4,rfl,av,b,t,d,na,_,Vw.same s1,hD',fun k hk=>?_,fun p H2 s2 hp=>q p H2 (s1.trans s2) hp⟩
   rw[xY] at hk
   obtain⟨x,hx,rfl⟩:=Uaq.mp hk
   exact(B.same s1).n.nmk (NB.yh (Uah.mp hx).1)
end
inductive TLE (C:Cs) (na:Int->Addr) (av:List Addr) (ds:List Int) (H:Hp) (tl:Addr) (t:State) (vd:Addr):Prop
 | mk (dx b l ps kvs) (z1:H tl=some (.ins C.tl dx (tlF b l vd))) (z2:BkP C na av H b t) (z3:H l=some (.lst (ps.map V.ref))) (z4:Paired (zaS C H) ps t.acts) (z5:H vd=some (.dK kvs)) (z6:(kvs.map (·.1)).Nodup) (z7:∀kv∈kvs,∃d v,d∈ds/\kv=(.inl d,.ref v)/\VwD C av H v b t d):TLE C na av ds H tl t vd
structure TL (C:Cs) (na:Int->Addr) (av:List Addr) (ds:List Int) (H:Hp) (tl:Addr) (t:State) (vd:Addr):Prop where
 ex:TLE C na av ds H tl t vd
 m:vd∈av
 avs:∀x∈av,∃kvs,H x=some (.dK kvs)
theorem _root_.L2.Same.tl {C:Cs}{na:Int->Addr}{av:List Addr}{ds:List Int}{H H':Hp}{tl:Addr}{t:State}{vd:Addr} (s:Same H H') (h:TL C na av ds H tl t vd):TL C na av ds H' tl t vd:=
 let ⟨dx,b,l,ps,kvs,h1,h2,h3,h4,h5,h6,h7⟩:=h.ex
 ⟨⟨dx,b,l,ps,kvs,s _ _ h1,h2.same s,s _ _ h3,zE (fun _ _ z=>(s.wk (av:=[])).actV z) h4,s _ _ h5,h6,fun kv hkv=>let ⟨d,v,a,b,c⟩:=h7 kv hkv;⟨d,v,a,b,c.same s⟩⟩,h.m,fun x hx=>let ⟨k,e⟩:=h.avs x hx;⟨k,s _ _ e⟩⟩
theorem TL.other {C:Cs}{na:Int->Addr}{av:List Addr}{ds:List Int}{H H':Hp}{tl:Addr}{t:State}{vd vd':Addr} (h:TL C na av ds H tl t vd) (s:zv vd' H H') (m:vd'∈av) (hn:vd≠vd') (e:∃k,H' vd'=some (.dK k)):TL C na av ds H' tl t vd:=by
 obtain⟨dx,b,l,ps,kvs,h1,h2,h3,h4,h5,h6,h7⟩:=h.ex
 obtain⟨k,hk⟩:=h.avs vd' m
 have w:Wk av H H':=s.wk hk m
 refine⟨⟨dx,b,l,ps,kvs,w.ins h1,h2.samex s hk m,w.lst h3,zE (fun _ _ z=>w.actV z) h4,s _ _ hn h5,h6,fun kv hkv=>let ⟨d,v,a,b,c⟩:=h7 kv hkv;⟨d,v,a,b,c.wk w⟩⟩,h.m,fun x hx=>?_⟩
 by_cases q:x=vd'
 ·rw[q];exact e
 ·obtain⟨k,e⟩:=h.avs x hx
  exact⟨k,s _ _ q e⟩
theorem TL.vd {C:Cs}{na:Int->Addr}{av:List Addr}{ds:List Int}{H:Hp}{tl:Addr}{t:State}{vd:Addr} (h:TL C na av ds H tl t vd):∃k,H vd=some (.dK k):=let ⟨_,_,_,_,k,_,_,_,_,e,_,_⟩:=h.ex;⟨k,e⟩
theorem TL.wk {C:Cs}{na:Int->Addr}{av:List Addr}{ds:List Int}{H H':Hp}{tl:Addr}{t:State}{vd:Addr} (h:TL C na av ds H tl t vd) (s:zv vd H H'):Wk av H H':=let ⟨_,e⟩:=h.vd;s.wk e h.m
theorem TL.bkp {C:Cs}{na:Int->Addr}{av:List Addr}{ds:List Int}{H H':Hp}{tl b:Addr}{t:State}{vd:Addr} (h:TL C na av ds H tl t vd) (s:zv vd H H') (B:BkP C na av H b t):BkP C na av H' b t:=let ⟨_,e⟩:=h.vd;B.samex s e h.m
theorem TL.sqT {C:Cs}{K:PySem.W.Frag}{na:Int->Addr}{av:List Addr}{ds:List Int}{H H':Hp}{tl:Addr}{t:State}{vd:Addr} (h:TL C na av ds H tl t vd) (s:zv vd H H') {p:Addr}{xs:List V} (e:SqT K H p xs):SqT K H' p xs:=by
 obtain⟨k,hk⟩:=h.vd
 rcases e with (e | ⟨o,e⟩) | e
 ·exact .inl (.inl (s _ _ (zT e hk (by intro z;cases z)) e))
 ·exact .inl (.inr ⟨o,s _ _ (zT e hk (by intro z;cases z)) e⟩)
 ·exact .inr e
theorem zdR {kvs:List (Key×V)}{ds:List Int} (nd:(kvs.map (·.1)).Nodup) (h:∀kv∈kvs,∃d,d∈ds/\kv.1=Sum.inl d):kvs.length<=ds.length:=by
 have:=List.Nodup.length_le_of_subset nd (l₂:=ds.map Sum.inl) fun x hx=>by
  obtain⟨kv,hkv,rfl⟩:=Uaq.mp hx
  obtain⟨d,hd,e⟩:=h kv hkv
  rw[e]
  exact Ubg hd
 simpa using this
theorem zdz {kvs:List (Key×V)}{k:Key}{v:V} (h:xr kvs k=some v):(k,v)∈kvs:=by
 unfold xr at h
 obtain⟨p,hp,rfl⟩:=Ubz.mp h
 have h1:=List.mem_of_find?_eq_some hp
 have h2:=List.find?_some hp
 have h2:=of_decide_eq_true h2
 rw[←h2]
 exact h1
theorem wu {kvs:List (Key×V)}{k:Key}{v:V} (h:xr kvs k=none):xr (kvs++[(k,v)]) k=some v:=by
 rw[←vH h,WI,if_pos rfl]
section
variable {P:Program}{w:World}{K:PySem.W.Frag}{mg:Str->Option Value}{base:Heap}{C:Cs}
theorem ze9 (T:Txt K mg C):InO P w K mg base C.vw "View" 4 ["self", "book", "acts", "d"] (zcp C):=zft T
theorem y3 (T:Txt K mg C):InO P w K mg base C.tl "Timeline" 1 ["self", "book", "acts"] (zhB C):=VD T
inductive zbm (C:Cs) (vs:List V) (H:Hp) (Q:VK) (E:XK):Prop
 | mk (tl:Addr) (d:Int) (z1:vs=[.ref tl,.int d]) (na av ds t vd) (z2:TL C na av ds H tl t vd) (z3:d∈ds) (z4:ds.length<1000) (z5:NB.WF t) (z6:∀H' v b,zv vd H H'->TL C na av ds H' tl t vd->VwD C av H' v b t d->BkP C na av H' b t->Q (.ref v) H'):zbm C vs H Q E
theorem wv:zk ["self", "d"] ["self", "d"] (zg (zo (top 86) 1)):=sC
theorem zt (T:Txt K mg C):MO P w K mg base (wG C) "at_day" 6 ["self", "d"] (zbm C):=by
 refine MtT.ok T.m_Timeline_at_day T.c_Timeline wv fun f cdv A outer s H vs Q E hr h=>?_
 ·obtain⟨tl,d,rfl,na,av,ds,t,vd,L,hd,hds,W,q⟩:=h
  obtain⟨dx,b,l,ps,kvs,htl,B,hl,hps,hvd,hnd,hk⟩:=L.ex
  refine⟨_,(zb (zy (jS (jU (ya hr) (pv 1) (zd K (pv 0) rfl))) (ze (qM (ya hr) (zd K (pv 0) rfl) (pv 1) (wf (ze9 T) hr.m (za (zd K (pv 0) rfl) (za (zd K (pv 0) rfl) (za (pv 1) zf)))) rfl)) zn) (ze (zj (yS (ya hr) (zd K (pv 0) rfl) (pv 1) (fun _ _=>rfl))))),?_⟩
  k_go
  refine qB (.inl hvd) ?_
  cases e:xr kvs (.inl d) with
  | some v=>
   k_go
   refine zL ?_
   k_go
   refine xM (.inl hvd) e ?_
   obtain⟨d',v',_,e2,Vw⟩:=hk _ (zdz e)
   injection e2 with e2 e3
   cases e2
   subst e3
   exact q H v' b (zv.refl _ _) L Vw B
  | none=>
   k_go
   refine zQ ?_
   k_go
   intro x dy hx hdy hne
   have hlH:(upd (upd H dy (.own x)) x (.ins C.vw dy [])) l=some (.lst (ps.map V.ref)):=by rw[zh (zm hl hx),zh (zm hl hdy)];exact hl
   have hpsH:Paired (zaS C (upd (upd H dy (.own x)) x (.ins C.vw dy []))) ps t.acts:=zE (fun y z ⟨da,ka,wa,e⟩=>⟨da,ka,wa,by rw[zh (zm e hx),zh (zm e hdy)];exact e⟩) hps
   refine⟨x,b,l,d,rfl,dy,ps,t,zc,hlH,hpsH,W,fun H2 st gd pl su z1 z2 z3 z4 VB s2=>⟨rfl,?_⟩⟩
   have s12:Same H H2:=made hx hdy s2
   have htl2:=s12 _ _ htl
   have hvd2:=s12 _ _ hvd
   k_go
   have hlen:kvs.length<=ds.length:=zdR hnd fun kv hkv=>let ⟨d,v,a,b,_⟩:=hk kv hkv;⟨d,a,by rw[b]⟩
   refine Zz hvd2 (yN (by omega)) ?_
   rw[vH e]
   have sx:zv vd H2 (upd H2 vd (.dK (kvs++[(.inl d,.ref x)]))):=zv.set
   have sX:zv vd H (upd H2 vd (.dK (kvs++[(.inl d,.ref x)]))):=s12.x.trans sx
   have wk:=L.wk sX
   have wk2:Wk av H2 (upd H2 vd (.dK (kvs++[(.inl d,.ref x)]))):=(s12.tl L).wk sx
   have hav:∀{y:Addr},(upd (upd H dy (.own x)) x (.ins C.vw dy [])) y=none->y∉av:=fun hy m=>by
    obtain⟨k,ek⟩:=L.avs _ m
    rw[zh (zm ek hx),zh (zm ek hdy),ek] at hy
    cases hy
   have V2:VwD C av H2 x b t d:=by
    obtain⟨ks,a1,b1,_⟩:=VB.s
    obtain⟨kg,a2,b2,_⟩:=VB.g
    obtain⟨kp,a3,b3,_⟩:=VB.p
    obtain⟨ku,a4,b4,_⟩:=VB.u
    exact⟨⟨dy,st,gd,pl,su,ks,kg,kp,ku,VB.o,.inl a1,.inl a2,.inl a3,.inl a4,⟨hav z1,hav z2,hav z3,hav z4⟩,b1,b2,b3,b4⟩⟩
   have B3:=L.bkp sX B
   have L3:TL C na av ds (upd H2 vd (.dK (kvs++[(.inl d,.ref x)]))) tl t vd:=by
    refine⟨⟨dx,b,l,ps,_,wk.ins htl,B3,wk.lst hl,zE (fun _ _ z=>wk.actV z) hps,zc,?_,fun kv hkv=>?_⟩,L.m,fun y hy=>?_⟩
    ·rw[Ubc,List.nodup_append]
     refine⟨hnd,by simp,fun a ha b hb=>?_⟩
     simp only[Uas,Ucx,Uam] at hb
     subst hb
     intro q
     exact WN e (q▸ha)
    ·rcases Ubd.mp hkv with hkv | hkv
     ·obtain⟨d',v',a,b',c⟩:=hk kv hkv
      exact⟨d',v',a,b',c.wk wk⟩
     ·rw[Uam.mp hkv]
      exact⟨d,x,hd,rfl,V2.wk wk2⟩
    ·by_cases ey:y=vd
     ·rw[ey];exact⟨_,zc⟩
     ·obtain⟨k,ek⟩:=L.avs y hy
      exact⟨k,sX _ _ ey ek⟩
   have htl3:=wk.ins htl
   k_go
   refine xM (.inl zc) (wu e) ?_
   exact q _ x b sX L3 (V2.wk wk2) B3
theorem QR {l:List Species}{p:Species->Bool}{m:Species} (nd:(l.map (·.key)).Nodup) (h:m∈l):((l.filter p).map fun x=>x.key).contains m.key=p m:=by
 cases e:p m with
 | true=>
  rw[List.contains_iff_mem]
  exact Uaq.mpr ⟨m,Uah.mpr ⟨h,e⟩,rfl⟩
 | false=>
  cases c:((l.filter p).map fun x=>x.key).contains m.key with
  | false=>rfl
  | true=>
   rw[List.contains_iff_mem] at c
   obtain⟨x,hx,ex⟩:=Uaq.mp c
   obtain⟨hx,hp⟩:=Uah.mp hx
   have h1:=NB.vy nd h
   have h2:=NB.vy nd hx
   rw[ex,h1] at h2
   cases h2
   rw[e] at hp
   cases hp
def K5 (t:State) (n:Species) (x:Vbnlae.Act):Bool:=decide (x.day<Vbnlae.LIMIT)&&(Vbnlae.isOut t x.day n.key&&(Vbnlae.secondaryBars t x.day n (Vbnlae.home t x.day n)).contains x.b)
inductive zea (C:Cs) (vs:List V) (H:Hp) (Q:VK) (E:XK):Prop
 | mk (tl a a':Addr) (z1:vs=[.ref tl,.ref a,.ref a']) (na av ds t vd x n) (z2:TL C na av ds H tl t vd) (z3:zaS C H a x) (z4:x∈t.acts) (z5:x.kind=6) (z6:x.day∈ds) (z7:n∈t.species) (z8:a'=na n.key) (z9:ds.length<1000) (z10:NB.WF t) (z11:∀H',zv vd H H'->TL C na av ds H' tl t vd->Q (.bl (K5 t n x)) H'):zea C vs H Q E
theorem j9:zk ["timeline", "act", "name", "view"] ["timeline", "act", "name"] (zg (top 77)):=sC
theorem wT (T:Txt K mg C):FO P w K mg base "holds_for_ever" 7 ["timeline", "act", "name"] (zea C):=by
 refine T.d_holds_for_ever.ok j9 fun f cdv A outer s H vs Q E hr h=>?_
 ·obtain⟨tl,a,a',rfl,na,av,ds,t,vd,x,n,L,⟨da,ka,wa,ha⟩,hx,h6,hd,hn,rfl,hds,W,q⟩:=h
  obtain⟨dx,b,l,ps,kvs,htl,B,hl,hps,hvd,hnd,hk⟩:=L.ex
  obtain⟨Cl,dn,fs,hS,hna,l1,l2,l3,l4,l5⟩:=(B.spe n hn).nm
  have hN:Qk C H (na n.key) n.key n.work n.day n.page:=⟨Cl,dn,fs,hS,hna,l1,l2,l3,l4,l5⟩
  obtain⟨_,m,hm,em⟩:=(W.act x hx).k6 h6
  refine⟨_,(zb (zy (PW.pt (Vm (zp Vh (zd K (pv 1) rfl) (zC T.g_FIRST_LATE_DAY) (zu _)) (YW (xw (zU (xb (xI T) hr.m (pv 2) (za (zd K (pv 1) rfl) zf))))))) (ze (zj za9)) zn) (zb (pS 3 j9.nd (xb (zt T) hr.m (pv 0) (za (zd K (pv 1) rfl) zf))) (ze (zj (zV (jo T) hr.m (za (pv 3) (za (yS (ya hr) (zd K (zd K (pv 3) rfl) rfl) (zd K (pv 1) rfl) (fun _ _=>rfl)) (za (xb (yI T) hr.m (pv 3) (za (pv 2) zf)) (za (pv 2) zf))))))))),?_⟩
  unfold K5 at q
  rw[Z0 (W.placeS hn)] at q
  k_go
  refine VX (b:=!decide (n.day<=x.day)) (fun z=>?_) ?_
  ·k_go
   refine⟨na n.key,x.day,rfl,_,_,_,_,hN,?_⟩
   k_go
   exact z
  ·have e1:decide ((95328:Int)<=x.day)=!decide (x.day<Vbnlae.LIMIT):=by
    show _=!decide (x.day<95328)
    by_cases h:x.day<95328
    ·rw[Uac h,Uab (by omega)];rfl
    ·rw[Uab h,Uac (by omega)];rfl
   rw[e1,←Bool.not_and]
   rw[←Bool.and_assoc] at q
   cases hc:(decide (x.day<Vbnlae.LIMIT)&&decide (n.day<=x.day)) with
   | false=>
    rw[hc] at q
    refine zQ ?_
    k_go
    exact q H (zv.refl _ _) L
   | true=>
    rw[hc] at q
    refine zL ?_
    k_go
    refine⟨tl,x.day,rfl,na,av,ds,t,vd,L,hd,hds,W,fun H1 v b1 s1 L1 Vw B1=>?_⟩
    obtain⟨dv,st,gd,pl,su,ks,kg,kp,ku,hv,_⟩:=Vw.ex
    obtain⟨db,wd,gg,sd,lb,hb,hg,hs,_⟩:=B1.ex
    have wk:=L.wk s1
    have ha1:=wk.ins ha
    k_go
    refine xM (.inl hs) (show xr (vj na t) (.inl x.b)=some (.ref (na m.key)) by rw[←em];exact Zp W na hm) ?_
    k_go
    refine⟨v,na n.key,rfl,av,b1,t,x.day,n,Vw,B1.spe n hn,W,?_⟩
    k_go
    refine⟨v,na m.key,_,na n.key,rfl,av,b1,t,x.day,na,m,n,Vw,B1.n,hm,rfl,hn,rfl,W,fun H2 s2=>?_⟩
    have e2:(Vbnlae.secondaryBars t x.day n (Vbnlae.home t x.day n)).contains x.b=YL t x.day (Vbnlae.home t x.day n) n m:=by
     rw[xY,←em]
     exact QR W.snd hm
    rw[e2] at q
    exact q H2 (s1.trans s2.x) (s2.tl L1)
end
def ZE:Option Vbnlae.Act->Int×Int
 | none=>(0,0)
 | some x=>(3,x.b)
def ZM (n:Species):Vbnlae.Act->Bool:=fun y=>y.kind == 7&&y.a == n.key
def Qv (t:State) (n:Species) (l:List Vbnlae.Act):Option Vbnlae.Act:=l.foldl (NB.vM (Vbnlae.sealed_ t n) (ZM n)) none
theorem Jp (t:State) (n:Species) (l:List Vbnlae.Act) (x:Vbnlae.Act):Qv t n (l++[x])=NB.vM (Vbnlae.sealed_ t n) (ZM n) (Qv t n l) x:=by unfold Qv;rw[List.foldl_append];rfl
theorem Vt {t:State}{n:Species}{x:Vbnlae.Act}{o:Option Vbnlae.Act} (h:x.a≠n.key\/(x.kind≠6/\x.kind≠7)):NB.vM (Vbnlae.sealed_ t n) (ZM n) o x=o:=by
 have h1:ZM n x=false:=by
  unfold ZM
  rcases h with h | ⟨_,h⟩
  ·rw[Ubi.mpr h,Bool.and_false]
  ·rw[Ubi.mpr h];rfl
 have h2:Vbnlae.sealed_ t n x=false:=by
  unfold Vbnlae.sealed_
  rcases h with h | ⟨h,_⟩
  ·rw[Ubi.mpr h,Bool.false_and,Bool.and_false]
  ·rw[Ubi.mpr h];rfl
 unfold NB.vM
 rw[h1,h2]
 rfl
theorem zaD {t:State}{n:Species}{x:Vbnlae.Act}{o:Option Vbnlae.Act} (h:x.a=n.key) (h7:x.kind=7):NB.vM (Vbnlae.sealed_ t n) (ZM n) o x=none:=by
 have h1:ZM n x=true:=by unfold ZM;rw[h,h7];simp
 unfold NB.vM
 rw[h1]
 rfl
theorem VE {t:State}{n:Species}{x:Vbnlae.Act}{o:Option Vbnlae.Act} (h:x.a=n.key) (h6:x.kind=6):NB.vM (Vbnlae.sealed_ t n) (ZM n) o x=if (K5 t n x&&o.isNone)=true then some x else o:=by
 have h1:ZM n x=false:=by unfold ZM;rw[h6];rfl
 have h2:Vbnlae.sealed_ t n x=K5 t n x:=by unfold Vbnlae.sealed_ K5;rw[h,h6];simp
 unfold NB.vM
 rw[h1,h2]
 rfl
theorem VH (o:Option Vbnlae.Act):decide ([(ZE o).1,(ZE o).2]=([0,0]:List Int))=o.isNone:=by
 cases o with
 | none=>rfl
 | some x=>exact Uab (by intro h;injection h with h;exact absurd (show (3:Int)=0 from h) (by decide))
section
variable {P:Program}{w:World}{K:PySem.W.Frag}{mg:Str->Option Value}{base:Heap}{C:Cs}
inductive zdT (K:PySem.W.Frag) (C:Cs) (vs:List V) (H:Hp) (Q:VK) (E:XK):Prop
 | mk (tl:Addr) (d:Int) (a:Addr) (z1:vs=[.ref tl,.int d,.ref a]) (na av ds t vd n) (z2:TL C na av ds H tl t vd) (z3:(∀x∈t.acts,x.day∈ds)) (z4:n∈t.species) (z5:a=na n.key) (z6:ds.length<1000) (z7:NB.WF t) (z8:∀p H',zv vd H H'->TL C na av ds H' tl t vd->vQ K H' p (ZE (Vbnlae.early t d n))->Q (.ref p) H'):zdT K C vs H Q E
theorem yg:zk ["timeline", "d", "name", "bar", "act"] ["timeline", "d", "name"] (zg (top 78)):=sC
theorem vX (T:Txt K mg C):FO P w K mg base "replacement_bar" 8 ["timeline", "d", "name"] (zdT K C):=by
 refine T.d_replacement_bar.ok yg fun f cdv A outer s H vs Q E hr h=>?_
 ·obtain⟨tl,d,a,rfl,na,av,ds,t,vd,n,L,hD,hn,rfl,hds,W,q⟩:=h
  obtain⟨dx,b,l,ps,kvs,htl,B,hl,hps,hvd,hnd,hk⟩:=L.ex
  obtain⟨zs,e1,e2,hz⟩:=jd hps
  refine⟨_,(zb (pS 3 yg.nd (jz K T.g_NO_BAR)) (zb (kx PassesOwn.never rfl (zP K (zd K (pv 0) rfl)) (zN (i:=4) yg.nd rfl (Or.inl rfl)) (zb (zy (PW.pt (Vm (zp zf0 (zd K (pv 4) rfl) (pv 1) (zu _)) (YW (zp V4 (zd K (pv 4) rfl) (zd K (pv 2) rfl) (zu _))))) (ze Vs) zn) (ze (zy (zp yA (zd K (pv 4) rfl) (zC T.g_LIFT) (zu _)) (ze (pS 3 yg.nd (jz K T.g_NO_BAR))) (ze (zy (PW.pt (Js (zp yA (zd K (pv 4) rfl) (zC T.g_REPLACED) (zu _)) (Js (zp (YX K hr) (pv 3) (jz K T.g_NO_BAR) (zu _)) (Y9 (zU (zV (wT T) hr.m (za (pv 0) (za (pv 4) (za (pv 2) zf))))))))) (ze (pS 3 yg.nd (Wx (za (zC T.g_EARLY_REPLACEMENT) (za (zd K (pv 4) rfl) zf))))) zn)))))) (ze (zj (pv 3))))),?_⟩
  k_go
  refine V0 fun pb0 hpb0=>?_
  k_go
  refine zdE (a:=l) (xs:=zs.map fun z=>V.ref z.1) (H1:=H) (fun i σ Hn=>∃(pb:Addr) (v5:Option V),σ=[some (.ref tl),some (.int d),some (.ref (na n.key)),some (.ref pb),v5]/\zv vd H Hn/\TL C na av ds Hn tl t vd/\vQ K Hn pb (ZE (Qv t n ((t.acts.take i).filter fun x=>decide (x.day<=d)))))
   (fun R r=>?_) ⟨pb0,none,rfl,zv.refl _ _,L,hpb0.sq H⟩ (fun i σ Hn _ ⟨_,_,_,s,_⟩=>SqL.of ((L.wk s).lst (by rw[hl,e1,Uau];rfl))) ?_ ?_
  ·k_go
   exact r
  ·rintro i y σ Hn hy ⟨pb,v5,rfl,sn,Ln,hp⟩
   obtain⟨z,hz1,rfl⟩:=x3 hy
   have hx:t.acts[i]? = some z.2:=by rw[e2,Ubw,hz1];rfl
   have hxm:=Uaw hx
   have wk:=L.wk sn
   obtain⟨da,ka,wa,ha⟩:=wk.actV (hz z (Uaw hz1))
   obtain⟨Cl,dn,fs,hS,hna,l1,l2,l3,l4,l5⟩:=wk.nm (B.spe n hn).nm
   have ht:=je hx
   have skip:(d<z.2.day\/z.2.a≠n.key\/(z.2.kind≠6/\z.2.kind≠7))->Qv t n ((t.acts.take (i+1)).filter fun x=>decide (x.day<=d))=Qv t n ((t.acts.take i).filter fun x=>decide (x.day<=d)):=fun h=>by
    rw[ht,Ubx,Uay]
    by_cases hd:z.2.day<=d
    ·rw[if_pos (Uac hd),Ucq,Jp,Vt]
     rcases h with h | h
     ·omega
     ·exact h
    ·rw[if_neg (by rw[Uab hd];decide),Ucq,Ubo]
   have step:z.2.day<=d->Qv t n ((t.acts.take (i+1)).filter fun x=>decide (x.day<=d))=NB.vM (Vbnlae.sealed_ t n) (ZM n) (Qv t n ((t.acts.take i).filter fun x=>decide (x.day<=d))) z.2:=fun hd=>by
    rw[ht,Ubx,Uay,if_pos (Uac hd),Ucq,Jp]
   k_go
   refine VX (b:=!decide (z.2.a=n.key)) (fun z=>?_) ?_
   ·k_go
    exact z
   by_cases hc:d<z.2.day\/z.2.a≠n.key
   ·have ec:(decide (d<z.2.day)||!decide (z.2.a=n.key))=true:=by
     rcases hc with h | h
     ·rw[Uac h];rfl
     ·rw[Uab h];exact Bool.or_true _
    rw[ec]
    refine zQ ?_
    k_go
    refine⟨pb,_,rfl,sn,Ln,?_⟩
    rw[skip (hc.imp_right .inl)]
    exact hp
   have hd:z.2.day<=d:=Int.not_lt.mp fun h=>hc (.inl h)
   have hak:z.2.a=n.key:=Classical.not_not.mp fun h=>hc (.inr h)
   rw[Uab (by omega:¬d<z.2.day),Uac hak]
   refine zL ?_
   k_go
   by_cases h7:z.2.kind=7
   ·rw[Uac h7]
    refine zQ ?_
    k_go
    refine V0 fun pb1 hpb1=>?_
    k_go
    refine⟨pb1,_,rfl,sn,Ln,?_⟩
    rw[step hd,zaD hak h7]
    exact hpb1.sq Hn
   rw[Uab h7]
   refine zL ?_
   k_go
   by_cases h6:z.2.kind=6
   ·rw[Uac h6]
    refine zQ ?_
    k_go
    refine V0 fun pb1 hpb1=>?_
    refine⟨pb,pb1,_,_,rfl,rfl,hp,hpb1.sq Hn,?_⟩
    k_go
    rw[VH]
    cases ho:Qv t n ((t.acts.take i).filter fun x=>decide (x.day<=d)) with
    | some u=>
     refine zL (zL ?_)
     k_go
     refine⟨pb,_,rfl,sn,Ln,?_⟩
     rw[step hd,VE hak h6,ho]
     rw[ho] at hp
     cases K5 t n z.2 <;> exact hp
    | none=>
     refine zQ ?_
     k_go
     refine⟨tl,z.1,na n.key,rfl,na,av,ds,t,vd,z.2,n,Ln,⟨da,ka,wa,ha⟩,hxm,h6,hD _ hxm,hn,rfl,hds,W,fun H2 s2 L2=>?_⟩
     k_go
     cases hE:K5 t n z.2 with
     | false=>
      refine zL ?_
      k_go
      refine⟨pb,_,rfl,sn.trans s2,L2,?_⟩
      rw[step hd,VE hak h6,ho,hE]
      rw[ho] at hp
      exact Ln.sqT s2 hp
     | true=>
      refine zQ ?_
      have ha2:=(Ln.wk s2).ins ha
      k_go
      refine⟨by show 2<=sizeLine;decide,fun p2 hp2=>?_⟩
      k_go
      refine⟨p2,_,rfl,(sn.trans s2).trans (Same.new hp2).x,(Same.new hp2).tl L2,?_⟩
      rw[step hd,VE hak h6,ho,hE]
      exact SqT.of zc
   ·rw[Uab h6]
    refine zL (zL ?_)
    k_go
    refine⟨pb,_,rfl,sn,Ln,?_⟩
    rw[skip (.inr (.inr ⟨h6,h7⟩))]
    exact hp
  ·rintro σ Hn ⟨pb,v5,rfl,sn,Ln,hp⟩
   have el:(zs.map fun z=>V.ref z.1).length=t.acts.length:=by rw[Uaa,e2,Uaa]
   rw[el,Ubu] at hp
   k_go
   refine q pb Hn sn Ln ?_
   rw[NB.zaO W]
   exact hp
theorem js (b:Int×Int):decide ([b.1,b.2]=([0,0]:List Int))=decide (b=(0,0)):=by
 obtain⟨x,y⟩:=b
 by_cases h:x=0/\y=0
 ·obtain⟨rfl,rfl⟩:=h;rfl
 ·rw[Uab (fun e=>h (by injection e with e1 e2;injection e2 with e2 e3;exact⟨e1,e2⟩)),Uab (fun e=>h (by injection e with e1 e2;exact⟨e1,e2⟩))]
inductive zbG (K:PySem.W.Frag) (C:Cs) (vs:List V) (H:Hp) (Q:VK) (E:XK):Prop
 | mk (tl:Addr) (d hd:Int) (a:Addr) (z1:vs=[.ref tl,.int d,.int hd,.ref a]) (na av ds t vd n) (z2:TL C na av ds H tl t vd) (z3:(∀x∈t.acts,x.day∈ds)) (z4:d∈ds) (z5:n∈t.species) (z6:a=na n.key) (z7:ds.length<1000) (z8:NB.WF t) (z9:∀p H',zv vd H H'->TL C na av ds H' tl t vd->vQ K H' p (Vbnlae.barIn t d n hd)->Q (.ref p) H'):zbG K C vs H Q E
theorem zc8 (t:State) (d:Int) (n:Species) (hd:Int):Vbnlae.barIn t d n hd=if vb t d 2 (Vbnlae.primaryBars t d n)=(0,0) then (if ZE (Vbnlae.early t d n)=(0,0) then vb t d 4 (Vbnlae.secondaryBars t d n hd) else ZE (Vbnlae.early t d n)) else vb t d 2 (Vbnlae.primaryBars t d n):=by
 unfold Vbnlae.barIn
 cases h1:Vbnlae.primaryBars t d n with
 | cons x r=>rw[if_neg (by intro h;injection h with h;exact absurd h (by decide))];rfl
 | nil=>
  rw[if_pos (show vb t d 2 []=(0,0) from rfl)]
  cases h2:Vbnlae.early t d n with
  | some x=>rw[if_neg (by intro h;injection h with h;exact absurd h (by decide))];rfl
  | none=>
   rw[if_pos (show ZE none=(0,0) from rfl)]
   cases h3:Vbnlae.secondaryBars t d n hd with
   | nil=>rfl
   | cons x r=>rfl
theorem yV:zk ["timeline", "d", "home", "name", "view", "bar"] ["timeline", "d", "home", "name"] (zg (top 79)):=sC
theorem vf (T:Txt K mg C):FO P w K mg base "species_bar" 9 ["timeline", "d", "home", "name"] (zbG K C):=by
 refine T.d_species_bar.ok yV fun f cdv A outer s H vs Q E hr h=>?_
 ·obtain⟨tl,d,hd,a,rfl,na,av,ds,t,vd,n,L,hD,hdd,hn,rfl,hds,W,q⟩:=h
  obtain⟨dx,b,l,ps,kvs,htl,B,hl,hps,hvd,hnd,hk⟩:=L.ex
  refine⟨_,(zb (pS 4 yV.nd (xb (zt T) hr.m (pv 0) (za (pv 1) zf))) (zb (pS 5 yV.nd (zV (vT T) hr.m (za (pv 4) (za (pv 3) zf)))) (zb (zy (zp (YX K hr) (pv 5) (jz K T.g_NO_BAR) (zu _)) (ze (pS 5 yV.nd (zV (vX T) hr.m (za (pv 0) (za (pv 1) (za (pv 3) zf)))))) zn) (zb (zy (zp (YX K hr) (pv 5) (jz K T.g_NO_BAR) (zu _)) (ze (pS 5 yV.nd (zV (V1 T) hr.m (za (pv 4) (za (pv 2) (za (pv 3) zf)))))) zn) (ze (zj (pv 5))))))),?_⟩
  rw[zc8] at q
  k_go
  refine⟨tl,d,rfl,na,av,ds,t,vd,L,hdd,hds,W,fun H1 v b1 s1 L1 Vw1 B1=>?_⟩
  k_go
  refine⟨v,na n.key,rfl,av,b1,t,d,na,n,Vw1,B1,hn,rfl,W,fun p2 H2 s2 hp2=>?_⟩
  have L2:=s2.tl L1
  have s12:=s1.trans (s2.x (d:=vd))
  k_go
  refine V0 fun pb hpb=>?_
  refine⟨p2,pb,_,_,rfl,rfl,hp2,hpb.sq H2,?_⟩
  k_go
  rw[js]
  by_cases h1:vb t d 2 (Vbnlae.primaryBars t d n)=(0,0)
  ·rw[if_pos h1] at q
   rw[Uac h1]
   refine zQ ?_
   k_go
   refine⟨tl,d,na n.key,rfl,na,av,ds,t,vd,n,L2,hD,hn,rfl,hds,W,fun p3 H3 s3 L3 hp3=>?_⟩
   k_go
   refine V0 fun pb hpb=>?_
   refine⟨p3,pb,_,_,rfl,rfl,hp3,hpb.sq H3,?_⟩
   k_go
   rw[js]
   by_cases h2:ZE (Vbnlae.early t d n)=(0,0)
   ·rw[if_pos h2] at q
    rw[Uac h2]
    refine zQ ?_
    k_go
    have wk:=L2.wk s3
    refine⟨v,hd,na n.key,rfl,av,b1,t,d,na,n,(Vw1.same s2).wk wk,L2.bkp s3 (B1.same s2),hn,rfl,W,fun p4 H4 s4 hp4=>?_⟩
    k_go
    exact q p4 H4 ((s12.trans s3).trans s4.x) (s4.tl L3) hp4
   ·rw[if_neg h2] at q
    rw[Uab h2]
    refine zL ?_
    k_go
    exact q p3 H3 (s12.trans s3) L3 hp3
  ·rw[if_neg h1] at q
   rw[Uab h1]
   refine zL ?_
   k_go
   refine V0 fun pb hpb=>?_
   refine⟨p2,pb,_,_,rfl,rfl,hp2,hpb.sq H2,?_⟩
   k_go
   rw[js,Uab h1]
   refine zL ?_
   k_go
   exact q p2 H2 s12 L2 hp2
inductive zgM (K:PySem.W.Frag) (C:Cs) (vs:List V) (H:Hp) (Q:VK) (E:XK):Prop
 | mk (tl:Addr) (d:Int) (a:Addr) (z1:vs=[.ref tl,.int d,.ref a]) (na av ds t vd k) (z2:TL C na av ds H tl t vd) (z3:(∀x∈t.acts,x.day∈ds)) (z4:d∈ds) (z5:(Vbnlae.placeOf t k).isSome=true) (z6:a=na k) (z7:ds.length<1000) (z8:NB.WF t) (z9:∀p H',zv vd H H'->TL C na av ds H' tl t vd->vQ K H' p (Vbnlae.bar t d k)->Q (.ref p) H'):zgM K C vs H Q E
theorem za3 {t:State} (W:NB.WF t) (d:Int) {g:Genus} (h:g∈t.genera):Vbnlae.bar t d g.key=vb t d 1 (Vbnlae.genusBars t d g):=by
 unfold Vbnlae.bar
 rw[W.genusOf h]
 simp only
 cases Vbnlae.genusBars t d g with
 | nil=>rfl
 | cons x r=>rfl
theorem K7 {t:State} (W:NB.WF t) (d:Int) {n:Species} (h:n∈t.species):Vbnlae.bar t d n.key=Vbnlae.barIn t d n (Vbnlae.home t d n):=by
 unfold Vbnlae.bar
 rw[W.noGenus h,W.speciesOf h]
theorem kF {t:State}{k:Int} (h:(Vbnlae.placeOf t k).isSome=true):(∃g∈t.genera,g.key=k/\Vbnlae.genusOf t k=some g)\/(∃n∈t.species,n.key=k/\Vbnlae.genusOf t k=none/\Vbnlae.speciesOf t k=some n):=by
 unfold Vbnlae.placeOf at h
 cases e:Vbnlae.genusOf t k with
 | some g=>
  obtain⟨m,e2⟩:=NB.zx e
  exact .inl ⟨g,m,e2,rfl⟩
 | none=>
  rw[e] at h
  cases e3:Vbnlae.speciesOf t k with
  | none=>rw[e3] at h;cases h
  | some n=>
   obtain⟨m,e2⟩:=NB.zx e3
   exact .inr ⟨n,m,e2,rfl,rfl⟩
theorem QI:zk ["timeline", "d", "name", "view"] ["timeline", "d", "name"] (zg (top 80)):=sC
theorem j0 (T:Txt K mg C):FO P w K mg base "bar_of" 10 ["timeline", "d", "name"] (zgM K C):=by
 refine T.d_bar_of.ok QI fun f cdv A outer s H vs Q E hr h=>?_
 ·obtain⟨tl,d,a,rfl,na,av,ds,t,vd,k,L,hD,hdd,hk0,rfl,hds,W,q⟩:=h
  obtain⟨dx,b,l,ps,kvs,htl,B,hl,hps,hvd,hnd,hk⟩:=L.ex
  refine⟨_,(zb (pS 3 QI.nd (xb (zt T) hr.m (pv 0) (za (pv 1) zf))) (zb (zy (jS (qy (ya hr) (zd K (pv 2) rfl) (zd K (zd K (pv 3) rfl) rfl))) (ze (zj (zV (Ks T) hr.m (za (pv 3) (za (pv 2) zf))))) zn) (ze (zj (zV (vf T) hr.m (za (pv 0) (za (pv 1) (za (xb (yI T) hr.m (pv 3) (za (pv 2) zf)) (za (pv 2) zf))))))))),?_⟩
  k_go
  refine⟨tl,d,rfl,na,av,ds,t,vd,L,hdd,hds,W,fun H1 v b1 s1 L1 Vw1 B1=>?_⟩
  obtain⟨dv,st,gd,pl,su,ks,kg,kp,ku,hv,_⟩:=Vw1.ex
  obtain⟨db,wd,gg,sd,lb,hb,hg,hs,_⟩:=B1.ex
  obtain⟨p,hp,Cl,dn,fs,hS,hna,l1,l2,l3,l4,l5⟩:=B1.n.nmk hk0
  k_go
  refine qB (.inl hg) ?_
  rw[ZB]
  k_go
  rcases kF hk0 with ⟨g,hgm,rfl,eg⟩ | ⟨n,hnm,rfl,eg,en⟩
  ·have:Vbnlae.isGenus t g.key=true:=by unfold Vbnlae.isGenus;rw[eg];rfl
   rw[this]
   refine zQ ?_
   k_go
   refine⟨v,na g.key,rfl,av,b1,t,d,na,g,Vw1,B1,hgm,rfl,W,fun p2 H2 s2 hp2=>?_⟩
   rw[za3 W d hgm] at q
   exact q p2 H2 (s1.trans s2.x) (s2.tl L1) hp2
  ·have:Vbnlae.isGenus t n.key=false:=by unfold Vbnlae.isGenus;rw[eg];rfl
   rw[this]
   refine zL ?_
   k_go
   refine⟨v,na n.key,rfl,av,b1,t,d,n,Vw1,B1.spe n hnm,W,?_⟩
   k_go
   refine⟨tl,d,_,na n.key,rfl,na,av,ds,t,vd,n,L1,hD,hdd,hnm,rfl,hds,W,fun p2 H2 s2 L2 hp2=>?_⟩
   rw[K7 W d hnm] at q
   exact q p2 H2 (s1.trans s2) L2 hp2
inductive Wj (C:Cs) (vs:List V) (H:Hp) (Q:VK) (E:XK):Prop
 | mk (tl:Addr) (d:Int) (a:Addr) (z1:vs=[.ref tl,.int d,.ref a]) (na av ds t vd k) (z2:TL C na av ds H tl t vd) (z3:(∀x∈t.acts,x.day∈ds)) (z4:d∈ds) (z5:(Vbnlae.placeOf t k).isSome=true) (z6:a=na k) (z7:ds.length<1000) (z8:NB.WF t) (z9:∀H',zv vd H H'->TL C na av ds H' tl t vd->Q (.bl (decide (Vbnlae.status t d k=0)&&decide ((Vbnlae.bar t d k).1=0))) H'):Wj C vs H Q E
theorem zeR (t:State) (d k:Int):decide ((Vbnlae.bar t d k).1=0)=decide (Vbnlae.bar t d k=(0,0)):=by
 by_cases h:Vbnlae.bar t d k=(0,0)
 ·rw[Uac h,h];rfl
 ·rw[Uab h,Uab fun e=>h (NB.Wt.mp e)]
theorem KB:zk ["timeline", "d", "name"] ["timeline", "d", "name"] (zg (top 81)):=sC
theorem ZI (T:Txt K mg C):FO P w K mg base "is_usable" 11 ["timeline", "d", "name"] (Wj C):=by
 refine T.d_is_usable.ok KB fun f cdv A outer s H vs Q E hr h=>?_
 ·obtain⟨tl,d,a,rfl,na,av,ds,t,vd,k,L,hD,hdd,hk0,rfl,hds,W,q⟩:=h
  obtain⟨dx,b,l,ps,kvs,htl,B,hl,hps,hvd,hnd,hk⟩:=L.ex
  refine⟨_,(ze (zj (vc (jL yA (xb (jH T) hr.m (xb (zt T) hr.m (pv 0) (za (pv 1) zf)) (za (pv 2) zf)) zq (zu _)) (va (jL (YX K hr) (zV (j0 T) hr.m (za (pv 0) (za (pv 1) (za (pv 2) zf)))) (jz K T.g_NO_BAR) (zu _)))))),?_⟩
  k_go
  refine⟨tl,d,rfl,na,av,ds,t,vd,L,hdd,hds,W,fun H1 v b1 s1 L1 Vw1 B1=>?_⟩
  obtain⟨dv,st,gd,pl,su,ks,kg,kp,ku,hv,_⟩:=Vw1.ex
  obtain⟨p,hp,hN⟩:=B1.n.nmk hk0
  k_go
  refine⟨v,na k,rfl,av,b1,t,d,k,_,_,_,Vw1,hN,?_⟩
  k_go
  rw[zeR] at q
  by_cases h0:Vbnlae.status t d k=0
  ·rw[Uac h0] at q ⊢
   refine zQ ?_
   k_go
   refine⟨tl,d,na k,rfl,na,av,ds,t,vd,k,L1,hD,hdd,hk0,rfl,hds,W,fun p2 H2 s2 L2 hp2=>?_⟩
   k_go
   refine V0 fun pb hpb=>?_
   refine⟨p2,pb,_,_,rfl,rfl,hp2,hpb.sq H2,?_⟩
   rw[js]
   exact q H2 (s1.trans s2) L2
  ·rw[Uab h0] at q ⊢
   exact zL (q H1 s1 L1)
end
def Qb (t:State) (d k:Int):List Int:=[Vbnlae.status t d k]
def zba (t:State) (d k:Int):List Int:=0::Vbnlae.moment t d k
def Y2 (t:State) (d k:Int):List Int:=[Vbnlae.truth (Vbnlae.usable t d k)]
def zhg (t:State) (d k:Int):List Int:=[0,(Vbnlae.bar t d k).1,(Vbnlae.bar t d k).2]
def KU (t:State) (d k:Int):List Int:=match Vbnlae.speciesOf t k with
 | some n=>[0,Vbnlae.placed t d n,Vbnlae.home t d n]
 | none=>[0,k,Vbnlae.headOf t d k]
def Vb (t:State) (d k:Int):List Int:=0::Vbnlae.textOf t d k
def Jn (t:State) (d k:Int):List Int:=if Vbnlae.isGenus t k=true then 0::Vbnlae.group t d (Vbnlae.headOf t d k) else [-6]
def zfE (t:State) (d k:Int):List Int:=0::Vbnlae.homonyms t d k
inductive Xo (C:Cs) (f:State->Int->Int->List Int) (vs:List V) (H:Hp) (Q:VK) (E:XK):Prop
 | mk (tl:Addr) (d:Int) (a:Addr) (z1:vs=[.ref tl,.int d,.ref a]) (na av ds t vd k) (z2:TL C na av ds H tl t vd) (z3:(∀x∈t.acts,x.day∈ds)) (z4:d∈ds) (z5:(Vbnlae.placeOf t k).isSome=true) (z6:Vbnlae.isOut t d k=true) (z7:a=na k) (z8:ds.length<1000) (z9:NB.WF t) (z10:∀p H',zv vd H H'->H' p=some (.lst ((f t d k).map V.int))->Q (.ref p) H'):Xo C f vs H Q E
theorem zB {n m:Nat} (h:n+m<=100000):n+m<=sizeLine:=by rw[sizeLine_eq];omega
section
variable {P:Program}{w:World}{K:PySem.W.Frag}{mg:Str->Option Value}{base:Heap}{C:Cs}
theorem Qe:zk ["timeline", "d", "name"] ["timeline", "d", "name"] (zg (top 101)):=sC
theorem J4 (T:Txt K mg C):FO P w K mg base "ask_status" 7 ["timeline", "d", "name"] (Xo C Qb):=by
 refine T.d_ask_status.ok Qe fun f cdv A outer s H vs Q E hr h=>?_
 ·obtain⟨tl,d,a,rfl,na,av,ds,t,vd,k,L,hD,hdd,hk0,ho,rfl,hds,W,q⟩:=h
  refine⟨_,(ze (zj (zD (za (xb (jH T) hr.m (xb (zt T) hr.m (pv 0) (za (pv 1) zf)) (za (pv 2) zf)) zf)))),?_⟩
  obtain⟨dx,b,l,ps,kvs,htl,_⟩:=L.ex
  k_go
  refine⟨tl,d,rfl,na,av,ds,t,vd,L,hdd,hds,W,fun H1 v b1 s1 L1 Vw1 B1=>?_⟩
  obtain⟨dv,st,gd,pl,su,ks,kg,kp,ku,hv,_⟩:=Vw1.ex
  obtain⟨p,hp,hN⟩:=B1.n.nmk hk0
  k_go
  refine⟨v,na k,rfl,av,b1,t,d,k,_,_,_,Vw1,hN,?_⟩
  k_go
  exact⟨zK,fun p hp=>q p _ (s1.trans (Same.new hp).x) zc⟩
theorem wU:zk ["timeline", "d", "name"] ["timeline", "d", "name"] (zg (top 102)):=sC
theorem w4 (T:Txt K mg C):FO P w K mg base "ask_precedence" 7 ["timeline", "d", "name"] (Xo C zba):=by
 refine T.d_ask_precedence.ok wU fun f cdv A outer s H vs Q E hr h=>?_
 ·obtain⟨tl,d,a,rfl,na,av,ds,t,vd,k,L,hD,hdd,hk0,ho,rfl,hds,W,q⟩:=h
  refine⟨_,(ze (zj (jM xn (zD (za zq zf)) (xb (yi T) hr.m (xb (zt T) hr.m (pv 0) (za (pv 1) zf)) (za (pv 2) zf))))),?_⟩
  obtain⟨dx,b,l,ps,kvs,htl,_⟩:=L.ex
  k_go
  refine⟨zK,fun p0 hp0=>?_⟩
  have s0:Same H (upd H p0 (.lst [.int 0])):=Same.new hp0
  have htl0:=s0 _ _ htl
  k_go
  refine⟨tl,d,rfl,na,av,ds,t,vd,s0.tl L,hdd,hds,W,fun H1 v b1 s1 L1 Vw1 B1=>?_⟩
  obtain⟨dv,st,gd,pl,su,ks,kg,kp,ku,hv,_⟩:=Vw1.ex
  obtain⟨p,hp,hN⟩:=B1.n.nmk hk0
  have e0:=((s0.tl L).wk s1).lst (zc:upd H p0 (.lst [.int 0]) p0=_)
  k_go
  refine⟨v,na k,rfl,av,b1,t,d,k,p,Vw1,hp,hN,fun l2 H2 s2 e2=>?_⟩
  have hm:(Vbnlae.moment t d k).length=5:=by unfold Vbnlae.moment;rw[hp];rfl
  refine ql (s2 _ _ e0) e2 (zB (by rw[Uaa,hm];simp)) fun p3 hp3=>q p3 _ ((s0.x.trans s1).trans (s2.upd hp3).x) ?_
  rw[zc]
  rfl
theorem Qi:zk ["timeline", "d", "name"] ["timeline", "d", "name"] (zg (top 103)):=sC
theorem J6 (T:Txt K mg C):FO P w K mg base "ask_usable" 12 ["timeline", "d", "name"] (Xo C Y2):=by
 refine T.d_ask_usable.ok Qi fun f cdv A outer s H vs Q E hr h=>?_
 ·obtain⟨tl,d,a,rfl,na,av,ds,t,vd,k,L,hD,hdd,hk0,ho,rfl,hds,W,q⟩:=h
  refine⟨_,(ze (zj (zD (za (Wr (zU (zV (ZI T) hr.m (za (pv 0) (za (pv 1) (za (pv 2) zf))))) zq zq) zf)))),?_⟩
  unfold Y2 Vbnlae.usable at q
  rw[ho,Bool.true_and] at q
  k_go
  refine⟨tl,d,na k,rfl,na,av,ds,t,vd,k,L,hD,hdd,hk0,rfl,hds,W,fun H1 s1 L1=>?_⟩
  k_go
  cases e:(decide (Vbnlae.status t d k=0)&&decide ((Vbnlae.bar t d k).1=0)) with
  | true=>
   rw[e] at q
   refine zQ ?_
   k_go
   exact⟨zK,fun p hp=>q p _ (s1.trans (Same.new hp).x) zc⟩
  | false=>
   rw[e] at q
   refine zL ?_
   k_go
   exact⟨zK,fun p hp=>q p _ (s1.trans (Same.new hp).x) zc⟩
theorem zab:zk ["timeline", "d", "name"] ["timeline", "d", "name"] (zg (top 104)):=sC
theorem zaH (T:Txt K mg C):FO P w K mg base "ask_bar" 11 ["timeline", "d", "name"] (Xo C zhg):=by
 refine T.d_ask_bar.ok zab fun f cdv A outer s H vs Q E hr h=>?_
 ·obtain⟨tl,d,a,rfl,na,av,ds,t,vd,k,L,hD,hdd,hk0,ho,rfl,hds,W,q⟩:=h
  refine⟨_,(ze (zj (jM xn (zD (za zq zf)) (j5 (XZ K) rfl T.nb_list PyProof.Rows.boot_list (za (zV (j0 T) hr.m (za (pv 0) (za (pv 1) (za (pv 2) zf)))) zf))))),?_⟩
  k_go
  refine⟨zK,fun p0 hp0=>?_⟩
  have s0:Same H (upd H p0 (.lst [.int 0])):=Same.new hp0
  k_go
  refine⟨tl,d,na k,rfl,na,av,ds,t,vd,k,s0.tl L,hD,hdd,hk0,rfl,hds,W,fun p2 H1 s1 L1 hp2=>?_⟩
  have e0:=((s0.tl L).wk s1).lst (zc:upd H p0 (.lst [.int 0]) p0=_)
  k_go
  refine⟨p2,_,rfl,.inr hp2,fun p3 hp3=>?_⟩
  refine ql (zS e0 hp3) zc (zB (by simp)) fun p4 hp4=>q p4 _ ((s0.x.trans s1).trans ((Same.new hp3).upd hp4).x) ?_
  rw[zc]
  rfl
theorem Xk:zk ["timeline", "d", "name", "view"] ["timeline", "d", "name"] (zg (top 105)):=sC
theorem VC (T:Txt K mg C):FO P w K mg base "ask_home" 7 ["timeline", "d", "name"] (Xo C KU):=by
 refine T.d_ask_home.ok Xk fun f cdv A outer s H vs Q E hr h=>?_
 ·obtain⟨tl,d,a,rfl,na,av,ds,t,vd,k,L,hD,hdd,hk0,ho,rfl,hds,W,q⟩:=h
  obtain⟨dx,b,l,ps,kvs,htl,_⟩:=L.ex
  refine⟨_,(zb (pS 3 Xk.nd (xb (zt T) hr.m (pv 0) (za (pv 1) zf))) (zb (zy (jS (qy (ya hr) (zd K (pv 2) rfl) (zd K (zd K (pv 3) rfl) rfl))) (ze (zj (zD (za zq (za (zd K (pv 2) rfl) (za (xb (jw T) hr.m (pv 3) (za (zd K (pv 2) rfl) zf)) zf)))))) zn) (ze (zj (zD (za zq (za (xb (jX T) hr.m (pv 3) (za (pv 2) zf)) (za (xb (yI T) hr.m (pv 3) (za (pv 2) zf)) zf)))))))),?_⟩
  k_go
  refine⟨tl,d,rfl,na,av,ds,t,vd,L,hdd,hds,W,fun H1 v b1 s1 L1 Vw1 B1=>?_⟩
  obtain⟨dv,st,gd,pl,su,ks,kg,kp,ku,hv,_⟩:=Vw1.ex
  obtain⟨db,wd,gg,sd,lb,hb,hg,hs,_⟩:=B1.ex
  obtain⟨p,hp,Cl,dn,fs,hS,hna,l1,l2,l3,l4,l5⟩:=B1.n.nmk hk0
  k_go
  refine qB (.inl hg) ?_
  rw[ZB]
  k_go
  rcases kF hk0 with ⟨g,hgm,rfl,eg⟩ | ⟨n,hnm,rfl,eg,en⟩
  ·have e1:Vbnlae.isGenus t g.key=true:=by unfold Vbnlae.isGenus;rw[eg];rfl
   have e2:Vbnlae.speciesOf t g.key=none:=by
    cases e:Vbnlae.speciesOf t g.key with
    | none=>rfl
    | some y=>exact absurd (NB.zx e).2.symm (W.dis g hgm y (NB.zx e).1)
   unfold KU at q
   rw[e2] at q
   rw[e1]
   refine zQ ?_
   obtain⟨su',hS'⟩:=Vw1.sunk
   obtain⟨m,_,hgo⟩:=W.goes d g.key
   k_go
   refine⟨v,g.key,rfl,su',_,_,m,hS',hgo,?_⟩
   k_go
   exact⟨by show 3<=sizeLine;decide,fun p hp=>q p _ (s1.trans (Same.new hp).x) zc⟩
  ·have e1:Vbnlae.isGenus t n.key=false:=by unfold Vbnlae.isGenus;rw[eg];rfl
   unfold KU at q
   rw[en] at q
   rw[e1]
   refine zL ?_
   k_go
   refine⟨v,na n.key,rfl,av,b1,t,d,n,Vw1,B1.spe n hnm,?_⟩
   k_go
   refine⟨v,na n.key,rfl,av,b1,t,d,n,Vw1,B1.spe n hnm,W,?_⟩
   k_go
   exact⟨by show 3<=sizeLine;decide,fun p hp=>q p _ (s1.trans (Same.new hp).x) zc⟩
theorem vh:zk ["timeline", "d", "name", "view", "home"] ["timeline", "d", "name"] (zg (top 106)):=sC
theorem K9 (T:Txt K mg C):FO P w K mg base "ask_text" 7 ["timeline", "d", "name"] (Xo C Vb):=by
 refine T.d_ask_text.ok vh fun f cdv A outer s H vs Q E hr h=>?_
 ·obtain⟨tl,d,a,rfl,na,av,ds,t,vd,k,L,hD,hdd,hk0,ho,rfl,hds,W,q⟩:=h
  obtain⟨dx,b,l,ps,kvs,htl,_⟩:=L.ex
  refine⟨_,(zb (pS 3 vh.nd (xb (zt T) hr.m (pv 0) (za (pv 1) zf))) (zb (zy (jS (qy (ya hr) (zd K (pv 2) rfl) (zd K (zd K (pv 3) rfl) rfl))) (ze (zj (jM xn (zD (za zq zf)) (zd K (pv 2) rfl)))) zn) (zb (pS 4 vh.nd (yS (ya hr) (zd K (zd K (pv 3) rfl) rfl) (xb (yI T) hr.m (pv 3) (za (pv 2) zf)) (fun _ _=>rfl))) (ze (zj (jM xn (jM xn (jM xn (zD (za zq zf)) (zd K (pv 4) rfl)) (zD (za (zC T.g_BLANK) zf))) (yr (zA K) (zd K (pv 2) rfl) (zd K (pv 4) rfl) (fun _ _=>rfl)))))))),?_⟩
  k_go
  refine⟨tl,d,rfl,na,av,ds,t,vd,L,hdd,hds,W,fun H1 v b1 s1 L1 Vw1 B1=>?_⟩
  obtain⟨dv,st,gd,pl,su,ks,kg,kp,ku,hv,_⟩:=Vw1.ex
  obtain⟨db,wd,gg,sd,lb,hb,hg,hs,_⟩:=B1.ex
  obtain⟨p,hp,Cl,dn,fs,hS,hna,l1,l2,l3,l4,l5⟩:=B1.n.nmk hk0
  k_go
  refine qB (.inl hg) ?_
  rw[ZB]
  k_go
  rcases kF hk0 with ⟨g,hgm,rfl,eg⟩ | ⟨n,hnm,rfl,eg,en⟩
  ·have e1:Vbnlae.isGenus t g.key=true:=by unfold Vbnlae.isGenus;rw[eg];rfl
   unfold Vb Vbnlae.textOf at q
   rw[eg] at q
   rw[e1]
   refine zQ ?_
   obtain⟨dg,lt,hga,hlt⟩:=B1.gen g hgm
   k_go
   refine⟨zK,fun p0 hp0=>?_⟩
   k_go
   refine ql zc (zS hlt hp0) (zB (by have:=(W.gen g hgm).2.1;rw[Uaa];simp;omega)) fun p1 hp1=>q p1 _ (s1.trans ((Same.new hp0).upd hp1).x) ?_
   rw[zc]
   rfl
  ·have e1:Vbnlae.isGenus t n.key=false:=by unfold Vbnlae.isGenus;rw[eg];rfl
   rw[e1]
   refine zL ?_
   obtain⟨g,hgm,eg2⟩:=Uaq.mp (W.home_mem d hnm)
   unfold Vb Vbnlae.textOf Vbnlae.genderOf at q
   rw[eg,en] at q
   simp only[←eg2,W.genusOf hgm] at q
   obtain⟨dg,lt,hga,hlt⟩:=B1.gen g hgm
   obtain⟨ds',fo,f0,f1,f2,hsa,hfo,h0,h1,h2⟩:=B1.spe n hnm
   obtain⟨i,fi,ei,li,hi⟩:=Vc (fo:=fo) (W.gen g hgm).1 h0 h1 h2
   k_go
   refine⟨v,na n.key,rfl,av,b1,t,d,n,Vw1,B1.spe n hnm,W,?_⟩
   k_go
   refine xM (v:=.ref (na g.key)) (.inl hg) (by rw[←eg2];exact jN W na hgm) ?_
   k_go
   refine⟨zK,fun p0 hp0=>?_⟩
   k_go
   have hgl:=(W.gen g hgm).2.1
   refine ql zc (zS hlt hp0) (zB (by rw[Uaa];simp;omega)) fun p1 hp1=>?_
   have s3:=(Same.new hp0 (u:=.lst [.int 0])).upd (u:=.lst ([.int 0]++g.text.map V.int)) hp1
   generalize hH3:upd (upd H1 p0 (.lst [.int 0])) p1 (.lst ([.int 0]++g.text.map V.int))=H3 at s3 ⊢
   have e3:H3 p1=some (.lst ([.int 0]++g.text.map V.int)):=by rw[←hH3];exact zc
   k_go
   refine⟨zK,fun p2 hp2=>?_⟩
   refine ql (zS e3 hp2) zc (zB (by simp;omega)) fun p4 hp4=>?_
   have s5:=(s3.upd (u:=.lst [.int 32]) hp2).upd (u:=.lst ([.int 0]++g.text.map V.int++[.int 32])) hp4
   generalize hH5:upd (upd H3 p2 (.lst [.int 32])) p4 (.lst ([.int 0]++g.text.map V.int++[.int 32]))=H5 at s5 ⊢
   have e5:H5 p4=some (.lst ([.int 0]++g.text.map V.int++[.int 32])):=by rw[←hH5];exact zc
   have hsa5:=s5 _ _ hsa
   have hga5:=s5 _ _ hga
   k_go
   rw[ei]
   refine yX (i:=i) (SqL.of (s5 _ _ hfo)) li ?_
   have hfl:(Vbnlae.form g.gender n).length<=40:=by
    obtain⟨_,⟨m1,m2,m3⟩,_⟩:=W.spe n hnm
    unfold Vbnlae.form
    split
    ·exact m1
    ·split
     ·exact m2
     ·exact m3
   refine ql e5 (s5 _ _ hi) (zB (by simp;omega)) fun p6 hp6=>q p6 _ (s1.trans (s5.upd hp6).x) ?_
   rw[zc]
   simp
end
theorem yf (t:State) (d:Int) (l:List Int):(Vbnlae.byPrecedence t d l).length=l.length:=(NB.y0 t d l).length_eq
theorem kC {t:State}{d:Int}{l:List Int}{k:Int} (h:k∈Vbnlae.byPrecedence t d l):k∈l:=(NB.y0 t d l).mem_iff.mp h
section
variable {P:Program}{w:World}{K:PySem.W.Frag}{mg:Str->Option Value}{base:Heap}{C:Cs}
inductive zeq (C:Cs) (vs:List V) (H:Hp) (Q:VK) (E:XK):Prop
 | mk (v l:Addr) (z1:vs=[.ref v,.ref l]) (av b t d na ks) (z2:VwD C av H v b t d) (z3:H l=some (.lst (qA na ks))) (z4:(∀k∈ks,NmK C na H t k)) (z5:ks.length<1000) (z6:∀p H',Same H H'->H' p=some (.lst ((Vbnlae.byPrecedence t d (ks.filter fun k=>Vbnlae.isOut t d k)).map V.int))->Q (.ref p) H'):zeq C vs H Q E
theorem Z5 {ks:List Int}{p:Int->Bool}{n:Nat} (h:ks.length<n):(ks.filter p).length<n:=Ubp (Uan _ _) h
theorem xT:zk ["view", "names", "name"] ["view", "names"] (zg (top 107)):=sC
def vE:Scope:=match zH (top 107) with
 | ((.Return (some (.ListComp _ _ sc _)) _)::_)=>sc
 | _=>zg (top 107)
theorem wb:jI ["view", "names", "name"] (zg (top 107)) vE [("name",2)]:=bC
theorem xW (T:Txt K mg C):FO P w K mg base "keys_in_order" 5 ["view", "names"] (zeq C):=by
 refine T.d_keys_in_order.ok xT fun f cdv A outer s H vs Q E hr h=>?_
 ·obtain⟨v,l,rfl,av,b,t,d,na,ks,Vw,hl,hN,hlen,q⟩:=h
  obtain⟨dv,st,gd,pl,su,ks1,kg,kp,ku,hv,_⟩:=Vw.ex
  refine⟨_,(ze (zj (XH rfl xT.nd (zP K (xb (ye T) hr.m (pv 0) (za (pv 1) zf))) wb (fun _ _ _ _ _=>zN (i:=2) xT.nd rfl (Or.inl rfl)) (fun _ _ _ _ _=>Zd) (fun _ _ _ _ _=>(zd K (pv 2) rfl))))),?_⟩
  k_go
  refine zcE (fun p H1=>Same H H1/\H1 p=some (.lst (qA na (Vbnlae.byPrecedence t d (ks.filter fun k=>Vbnlae.isOut t d k))))) (Vbnlae.byPrecedence t d (ks.filter fun k=>Vbnlae.isOut t d k)) (fun k=>V.ref (na k)) (fun _=>true) V.int (fun p H1 h=>SqL.of h.2)
   (by rw[yf];exact Ubk (yN (Ubk (Z5 hlen)))) (fun R z=>?_) (fun _=>rfl) (fun p H1 h k hk H2 s2=>?_) fun p H1 D H2 h s2 _ hD=>?_
  ·k_go
   exact⟨v,l,rfl,av,b,t,d,na,ks,Vw,hl,hN,hlen,fun p H' s _ e=>z p H' ⟨s,e⟩⟩
  ·have s:=h.1.trans s2
   obtain⟨p,hp,Cl,dn,fs,hS,hna,l1,l2,l3,l4,l5⟩:=(hN k (Uah.mp (kC hk)).1).same s
   refine⟨fun QT q=>?_,fun _ Q q=>?_⟩
   ·k_go
    exact q H2 (Same.refl _)
   ·k_go
    exact q H2 (Same.refl _)
  ·rw[kn] at hD
   exact q D H2 (h.1.trans s2) hD
def jA (t:State) (d hd:Int):List Species:=t.species.filter fun n=>decide (Vbnlae.home t d n=hd)
inductive WR (C:Cs) (vs:List V) (H:Hp) (Q:VK) (E:XK):Prop
 | mk (v:Addr) (hd:Int) (z1:vs=[.ref v,.int hd]) (av b t d na) (z2:VwD C av H v b t d) (z3:BkP C na av H b t) (z4:NB.WF t) (z5:∀p H',Same H H'->H' p=some (.lst ((jA t d hd).map fun n=>V.ref (na n.key)))->Q (.ref p) H'):WR C vs H Q E
theorem xp:zk ["view", "home", "name"] ["view", "home"] (zg (top 108)):=sC
def qL:Scope:=match zH (top 108) with
 | ((.Return (some (.ListComp _ _ sc _)) _)::_)=>sc
 | _=>zg (top 108)
theorem kW:jI ["view", "home", "name"] (zg (top 108)) qL [("name",2)]:=bC
theorem jy (T:Txt K mg C):FO P w K mg base "species_at_home" 3 ["view", "home"] (WR C):=by
 refine T.d_species_at_home.ok xp fun f cdv A outer s H vs Q E hr h=>?_
 ·obtain⟨v,hd,rfl,av,b,t,d,na,Vw,B,W,q⟩:=h
  obtain⟨dx,st,gd,pl,su,ks,kg,kp,ku,hv,h1,h2,h3,h4,_,t1,t2,t3,t4⟩:=Vw.ex
  obtain⟨db,wd,gg,sd,l,hb,hg,hs,_⟩:=B.ex
  refine⟨_,(ze (zj (VN (XH rfl xp.nd (qJ (zd K (zd K (pv 0) rfl) rfl)) kW (fun _ _ _ _ _=>zN (i:=2) xp.nd rfl (Or.inl rfl)) (fun _ _ _ _ _=>(jF (zp yA (xb (yI T) hr.m (pv 0) (za (pv 2) zf)) (pv 1) (zu _)))) (fun _ _ _ _ _=>(pv 2)))))),?_⟩
  k_go
  refine Qc (d:=sd) t.species (fun x=>V.ref (na x.key)) (fun n=>decide (Vbnlae.home t d n=hd)) (fun x=>V.ref (na x.key)) hs (Z4 na t) (zhd W) (fun o R z=>?_) (fun _=>rfl) (fun o x hx H1 s1=>?_) fun D H1 s1 _ hD=>q D H1 s1 hD
  ·have hv1:=(xz (av:=av) (o:=o) hs).ins hv
   have hb1:=(xz (av:=av) (o:=o) hs).ins hb
   k_go
   exact z
  ·have wk:Wk av H H1:=(xz (o:=o) hs).trans s1.wk
   have hv1:=wk.ins hv
   refine⟨fun QT q=>?_,fun _ Q q=>?_⟩
   ·k_go
    refine⟨v,na x.key,rfl,av,b,t,d,x,Vw.wk wk,wk.spe (B.spe x hx),W,?_⟩
    k_go
    exact q H1 (Same.refl _)
   ·k_go
    exact q H1 (Same.refl _)
theorem zdr (t:State) (d hd:Int):Vbnlae.group t d hd=Vbnlae.byPrecedence t d (((jA t d hd).map fun n=>n.key).filter fun k=>Vbnlae.isOut t d k):=by
 unfold Vbnlae.group Vbnlae.speciesKeys jA
 rw[List.filter_map,Ubq]
 show Vbnlae.byPrecedence t d _=_
 congr 3
theorem Yo (na:Int->Addr) (l:List Species):(l.map fun n=>V.ref (na n.key))=qA na (l.map fun n=>n.key):=by unfold qA;rw[Uau];rfl
theorem ZD:zk ["timeline", "d", "name", "view"] ["timeline", "d", "name"] (zg (top 109)):=sC
theorem QK (T:Txt K mg C):FO P w K mg base "ask_group" 7 ["timeline", "d", "name"] (Xo C Jn):=by
 refine T.d_ask_group.ok ZD fun f cdv A outer s H vs Q E hr h=>?_
 ·obtain⟨tl,d,a,rfl,na,av,ds,t,vd,k,L,hD,hdd,hk0,ho,rfl,hds,W,q⟩:=h
  obtain⟨dx,b,l,ps,kvs,htl,_⟩:=L.ex
  refine⟨_,(zb (pS 3 ZD.nd (xb (zt T) hr.m (pv 0) (za (pv 1) zf))) (zb (zy (jS (jU (ya hr) (zd K (pv 2) rfl) (zd K (zd K (pv 3) rfl) rfl))) (ze (zj (zD (za (zC T.g_NOT_THERE) zf)))) zn) (ze (zj (jM xn (zD (za zq zf)) (zV (xW T) hr.m (za (pv 3) (za (zV (jy T) hr.m (za (pv 3) (za (xb (jw T) hr.m (pv 3) (za (zd K (pv 2) rfl) zf)) zf))) zf)))))))),?_⟩
  unfold Jn at q
  k_go
  refine⟨tl,d,rfl,na,av,ds,t,vd,L,hdd,hds,W,fun H1 v b1 s1 L1 Vw1 B1=>?_⟩
  obtain⟨dv,st,gd,pl,su,ks,kg,kp,ku,hv,_⟩:=Vw1.ex
  obtain⟨db,wd,gg,sd,lb,hb,hg,hs,_⟩:=B1.ex
  obtain⟨p,hp,Cl,dn,fs,hS,hna,l1,l2,l3,l4,l5⟩:=B1.n.nmk hk0
  k_go
  refine qB (.inl hg) ?_
  rw[ZB]
  k_go
  cases hG:Vbnlae.isGenus t k with
  | false=>
   rw[if_neg (by rw[hG];decide)] at q
   refine zQ ?_
   k_go
   exact⟨zK,fun p hp=>q p _ (s1.trans (Same.new hp).x) zc⟩
  | true=>
   rw[if_pos hG] at q
   refine zL ?_
   k_go
   refine⟨zK,fun p0 hp0=>?_⟩
   have s0:Same H1 (upd H1 p0 (.lst [.int 0])):=Same.new hp0
   have hv0:=s0 _ _ hv
   have hna0:=s0 _ _ hna
   obtain⟨su',hS'⟩:=(Vw1.same s0).sunk
   obtain⟨m,_,hgo⟩:=W.goes d k
   k_go
   refine⟨v,k,rfl,su',_,_,m,hS',hgo,?_⟩
   k_go
   refine⟨v,_,rfl,av,b1,t,d,na,Vw1.same s0,B1.same s0,W,fun p2 H2 s2 e2=>?_⟩
   k_go
   rw[Yo] at e2
   have s02:=s0.trans s2
   have hl:((jA t d (Vbnlae.headOf t d k)).map fun n=>n.key).length<1000:=by
    rw[Uaa]
    refine Ubp (Uan _ _) ?_
    have:=W.sl
    unfold Vbnlae.SPECIES at this
    omega
   refine⟨v,p2,rfl,av,b1,t,d,na,_,Vw1.same s02,e2,fun j hj=>?_,hl,fun p3 H3 s3 e3=>?_⟩
   ·obtain⟨n,hn,rfl⟩:=Uaq.mp hj
    exact(B1.same s02).n.nmk (NB.yh (Uah.mp hn).1)
   ·rw[zdr] at q
    refine ql (s3 _ _ (s2 _ _ zc)) e3 (zB ?_) fun p4 hp4=>q p4 _ (s1.trans ((s02.trans s3).upd hp4).x) ?_
    ·rw[Uaa,yf]
     have:=Z5 (p:=fun k=>Vbnlae.isOut t d k) hl
     simp only[Uae,Ubt]
     omega
    ·rw[zc]
     rfl
def zdy (t:State) (d:Int) (n:Species):List Species:=(jA t d (Vbnlae.home t d n)).filter fun m=>Vbnlae.alike (Vbnlae.genderOf t (Vbnlae.home t d n)) m n
inductive zbp (C:Cs) (vs:List V) (H:Hp) (Q:VK) (E:XK):Prop
 | mk (v a:Addr) (z1:vs=[.ref v,.ref a]) (av b t d na n) (z2:VwD C av H v b t d) (z3:BkP C na av H b t) (z4:n∈t.species) (z5:a=na n.key) (z6:NB.WF t) (z7:∀p H',Same H H'->H' p=some (.lst ((zdy t d n).map fun n=>V.ref (na n.key)))->Q (.ref p) H'):zbp C vs H Q E
theorem yc:zk ["view", "name", "home", "gender", "other"] ["view", "name"] (zg (top 110)):=sC
def qC:Scope:=match zH (top 110) with
 | (_::_::(.Return (some (.ListComp _ _ sc _)) _)::_)=>sc
 | _=>zg (top 110)
theorem qU:jI ["view", "name", "home", "gender", "other"] (zg (top 110)) qC [("other",4)]:=bC
theorem vv (T:Txt K mg C):FO P w K mg base "species_homonyms" 4 ["view", "name"] (zbp C):=by
 refine T.d_species_homonyms.ok yc fun f cdv A outer s H vs Q E hr h=>?_
 ·obtain⟨v,a,rfl,av,b,t,d,na,n,Vw,B,hn,rfl,W,q⟩:=h
  obtain⟨dx,st,gd,pl,su,ks,kg,kp,ku,hv,h1,h2,h3,h4,_,t1,t2,t3,t4⟩:=Vw.ex
  obtain⟨db,wd,gg,sd,l,hb,hg,hs,_⟩:=B.ex
  obtain⟨g,hgm,eg⟩:=Uaq.mp (W.home_mem d hn)
  obtain⟨dg,lg,hga,_⟩:=B.gen g hgm
  refine⟨_,(zb (pS 2 yc.nd (xb (yI T) hr.m (pv 0) (za (pv 1) zf))) (zb (pS 3 yc.nd (zd K (yS (ya hr) (zd K (zd K (pv 0) rfl) rfl) (pv 2) (fun _ _=>rfl)) rfl)) (ze (zj (XH rfl yc.nd (zP K (zV (jy T) hr.m (za (pv 0) (za (pv 2) zf)))) qU (fun _ _ _ _ _=>zN (i:=4) yc.nd rfl (Or.inl rfl)) (fun _ _ _ _ _=>(jF (zU (zV (qZ T) hr.m (za (pv 4) (za (pv 1) (za (pv 3) zf))))))) (fun _ _ _ _ _=>(pv 4))))))),?_⟩
  k_go
  refine⟨v,na n.key,rfl,av,b,t,d,n,Vw,B.spe n hn,W,?_⟩
  k_go
  refine xM (v:=.ref (na g.key)) (.inl hg) (by rw[←eg];exact jN W na hgm) ?_
  k_go
  have eG:Vbnlae.genderOf t (Vbnlae.home t d n)=g.gender:=by rw[←eg];exact Y7 W hgm
  refine zcE (fun p H1=>Same H H1/\H1 p=some (.lst ((jA t d (Vbnlae.home t d n)).map fun n=>V.ref (na n.key)))) (jA t d (Vbnlae.home t d n)) (fun m=>V.ref (na m.key)) (fun m=>Vbnlae.alike (Vbnlae.genderOf t (Vbnlae.home t d n)) m n) (fun m=>V.ref (na m.key)) (fun p H1 h=>SqL.of h.2)
   (Ubb (Uan _ _) (zhd W)) (fun R z=>?_) (fun _=>rfl) (fun p H1 h m hm H2 s2=>?_) fun p H1 D H2 h s2 _ hD=>q D H2 (h.1.trans s2) hD
  ·k_go
   exact⟨v,_,rfl,av,b,t,d,na,Vw,B,W,fun p H' s e=>z p H' ⟨s,e⟩⟩
  ·have s:=h.1.trans s2
   have hmm:=(Uah.mp hm).1
   rw[eG]
   refine⟨fun QT q=>?_,fun _ Q q=>?_⟩
   ·k_go
    refine⟨na m.key,na n.key,g.gender,rfl,m,n,(B.same s).spe m hmm,(B.same s).spe n hn,(W.gen g hgm).1,?_⟩
    k_go
    exact q H2 (Same.refl _)
   ·k_go
    exact q H2 (Same.refl _)
theorem zcn {t:State} (W:NB.WF t) (d:Int) {g:Genus} (h:g∈t.genera):Vbnlae.homonyms t d g.key=Vbnlae.byPrecedence t d ((jg t fun h=>h.text == g.text).filter fun k=>Vbnlae.isOut t d k):=by
 unfold Vbnlae.homonyms jg
 rw[W.genusOf h,List.filter_map,Ubq]
 rfl
theorem KW {t:State} (W:NB.WF t) (d:Int) {n:Species} (h:n∈t.species):Vbnlae.homonyms t d n.key=Vbnlae.byPrecedence t d (((zdy t d n).map fun m=>m.key).filter fun k=>Vbnlae.isOut t d k):=by
 unfold Vbnlae.homonyms zdy jA Vbnlae.speciesKeys
 rw[W.noGenus h,W.speciesOf h,List.filter_map,Ubq,Ubq]
 show Vbnlae.byPrecedence t d (List.map _ (List.filter _ _))=_
 congr 3
 funext m
 show (Vbnlae.isOut t d m.key&&(Vbnlae.home t d m == Vbnlae.home t d n&&Vbnlae.alike (Vbnlae.genderOf t (Vbnlae.home t d n)) m n))=((Vbnlae.isOut t d m.key&&Vbnlae.alike (Vbnlae.genderOf t (Vbnlae.home t d n)) m n)&&decide (Vbnlae.home t d m=Vbnlae.home t d n))
 rw[Qr]
 cases Vbnlae.isOut t d m.key <;> cases decide (Vbnlae.home t d m=Vbnlae.home t d n) <;> cases Vbnlae.alike (Vbnlae.genderOf t (Vbnlae.home t d n)) m n <;> rfl
theorem kq:zk ["timeline", "d", "name", "view"] ["timeline", "d", "name"] (zg (top 111)):=sC
theorem YR (T:Txt K mg C):FO P w K mg base "ask_homonyms" 7 ["timeline", "d", "name"] (Xo C zfE):=by
 refine T.d_ask_homonyms.ok kq fun f cdv A outer s H vs Q E hr h=>?_
 ·obtain⟨tl,d,a,rfl,na,av,ds,t,vd,k,L,hD,hdd,hk0,ho,rfl,hds,W,q⟩:=h
  obtain⟨dx,b,l,ps,kvs,htl,_⟩:=L.ex
  refine⟨_,(zb (pS 3 kq.nd (xb (zt T) hr.m (pv 0) (za (pv 1) zf))) (zb (zy (jS (qy (ya hr) (zd K (pv 2) rfl) (zd K (zd K (pv 3) rfl) rfl))) (ze (zj (jM xn (zD (za zq zf)) (zV (xW T) hr.m (za (pv 3) (za (zV (qP T) hr.m (za (pv 3) (za (pv 2) zf))) zf)))))) zn) (ze (zj (jM xn (zD (za zq zf)) (zV (xW T) hr.m (za (pv 3) (za (zV (vv T) hr.m (za (pv 3) (za (pv 2) zf))) zf)))))))),?_⟩
  unfold zfE at q
  k_go
  refine⟨tl,d,rfl,na,av,ds,t,vd,L,hdd,hds,W,fun H1 v b1 s1 L1 Vw1 B1=>?_⟩
  obtain⟨dv,st,gd,pl,su,ks,kg,kp,ku,hv,_⟩:=Vw1.ex
  obtain⟨db,wd,gg,sd,lb,hb,hg,hs,_⟩:=B1.ex
  obtain⟨p,hp,Cl,dn,fs,hS,hna,l1,l2,l3,l4,l5⟩:=B1.n.nmk hk0
  k_go
  refine qB (.inl hg) ?_
  rw[ZB]
  k_go
  rcases kF hk0 with ⟨g,hgm,rfl,eg⟩ | ⟨n,hnm,rfl,eg,en⟩
  ·have e1:Vbnlae.isGenus t g.key=true:=by unfold Vbnlae.isGenus;rw[eg];rfl
   rw[e1]
   refine zQ ?_
   k_go
   refine⟨zK,fun p0 hp0=>?_⟩
   have s0:Same H1 (upd H1 p0 (.lst [.int 0])):=Same.new hp0
   k_go
   refine⟨v,na g.key,rfl,av,b1,t,d,na,g,Vw1.same s0,B1.same s0,(B1.same s0).gen g hgm,W,fun p2 H2 s2 e2=>?_⟩
   k_go
   have s02:=s0.trans s2
   have hl:(jg t fun h=>h.text == g.text).length<1000:=by
    unfold jg
    rw[Uaa]
    refine Ubp (Uan _ _) ?_
    have:=W.gl
    unfold Vbnlae.GENERA at this
    omega
   refine⟨v,p2,rfl,av,b1,t,d,na,_,Vw1.same s02,e2,fun j hj=>?_,hl,fun p3 H3 s3 e3=>?_⟩
   ·obtain⟨x,hx,rfl⟩:=Uaq.mp hj
    exact(B1.same s02).n.nmk (NB.jn (Uah.mp hx).1)
   ·rw[zcn W d hgm] at q
    refine ql (s3 _ _ (s2 _ _ zc)) e3 (zB ?_) fun p4 hp4=>q p4 _ (s1.trans ((s02.trans s3).upd hp4).x) ?_
    ·rw[Uaa,yf]
     have:=Z5 (p:=fun k=>Vbnlae.isOut t d k) hl
     simp only[Uae,Ubt]
     omega
    ·rw[zc]
     rfl
  ·have e1:Vbnlae.isGenus t n.key=false:=by unfold Vbnlae.isGenus;rw[eg];rfl
   rw[e1]
   refine zL ?_
   k_go
   refine⟨zK,fun p0 hp0=>?_⟩
   have s0:Same H1 (upd H1 p0 (.lst [.int 0])):=Same.new hp0
   k_go
   refine⟨v,na n.key,rfl,av,b1,t,d,na,n,Vw1.same s0,B1.same s0,hnm,rfl,W,fun p2 H2 s2 e2=>?_⟩
   k_go
   rw[Yo] at e2
   have s02:=s0.trans s2
   have hl:((zdy t d n).map fun m=>m.key).length<1000:=by
    rw[Uaa]
    refine Ubp (Ubb (Uan _ _) (Uan _ _)) ?_
    have:=W.sl
    unfold Vbnlae.SPECIES at this
    omega
   refine⟨v,p2,rfl,av,b1,t,d,na,_,Vw1.same s02,e2,fun j hj=>?_,hl,fun p3 H3 s3 e3=>?_⟩
   ·obtain⟨x,hx,rfl⟩:=Uaq.mp hj
    exact(B1.same s02).n.nmk (NB.yh (Uah.mp (Uah.mp hx).1).1)
   ·rw[KW W d hnm] at q
    refine ql (s3 _ _ (s2 _ _ zc)) e3 (zB ?_) fun p4 hp4=>q p4 _ (s1.trans ((s02.trans s3).upd hp4).x) ?_
    ·rw[Uaa,yf]
     have:=Z5 (p:=fun k=>Vbnlae.isOut t d k) hl
     simp only[Uae,Ubt]
     omega
    ·rw[zc]
     rfl
end
theorem zd7 {H H1 H2:Hp}{vd:Addr} (s:Same H H1) (hv:H vd=none) (x:zv vd H1 H2):Same H H2:=fun b o h=>x b o (zm h hv) (s b o h)
theorem jl {H:Hp}{x dx vd C:Addr} (hne:dx≠x) (h:(upd (upd H dx (.own x)) x (.ins C dx [])) vd=none):H vd=none:=by
 have n1:vd≠x:=fun q=>by rw[q,zc] at h;cases h
 have n2:vd≠dx:=fun q=>by rw[q,zh hne,zc] at h;cases h
 rw[zh n1,zh n2] at h
 exact h
section
variable {C:Cs}{na:Int->Addr}
theorem zeA {H H':Hp}{b l x dy vd:Addr}{t:State}{ps:List Addr}{av:List Addr} (ds:List Int) (B:BkP C na av H b t) (hl:H l=some (.lst (ps.map V.ref))) (hps:Paired (zaS C H) ps t.acts) (ha:∀z∈av,∃k,H z=some (.dK k)) (s:Same H H') (hv:H vd=none) (e1:H' x=some (.ins C.tl dy (tlF b l vd))) (e2:H' vd=some (.dK [])):TL C na (vd::av) ds H' x t vd:=
 ⟨⟨dy,b,l,ps,[],e1,(B.more hv).same s,s _ _ hl,zE (fun _ _ z=>(s.wk (av:=[])).actV z) hps,e2,.nil,fun kv h=>by simp at h⟩,Uak,fun z hz=>by
  rcases Uaf.mp hz with rfl | hz
  ·exact⟨_,e2⟩
  ·obtain⟨k,e⟩:=ha z hz
   exact⟨k,s _ _ e⟩⟩
theorem VwD.more {av:List Addr}{H:Hp}{v b vd:Addr}{t:State}{d:Int} (h:VwD C av H v b t d) (hv:H vd=none):VwD C (vd::av) H v b t d:=by
 obtain⟨dx,st,gd,pl,su,ks,kg,kp,ku,h1,h2,h3,h4,h5,⟨n1,n2,n3,n4⟩,h6⟩:=h.ex
 have ne:∀{a:Addr}{kv:List (Key×V)},Rd H a (.dK kv)->a≠vd:=fun h q=>by
  rcases h with h | ⟨o,h⟩ <;> rw[q,hv] at h <;> cases h
 exact⟨⟨dx,st,gd,pl,su,ks,kg,kp,ku,h1,h2,h3,h4,h5,⟨Ucf (ne h2) n1,Ucf (ne h3) n2,Ucf (ne h4) n3,Ucf (ne h5) n4⟩,h6⟩⟩
theorem TL.more {av:List Addr}{ds:List Int}{H H':Hp}{tl:Addr}{t:State}{vd vd2:Addr} (h:TL C na av ds H tl t vd) (s:Same H H') (hv:H vd2=none) (e:∃k,H' vd2=some (.dK k)):TL C na (vd2::av) ds H' tl t vd:=by
 obtain⟨dx,b,l,ps,kvs,h1,h2,h3,h4,h5,h6,h7⟩:=h.ex
 refine⟨⟨dx,b,l,ps,kvs,s _ _ h1,(h2.more hv).same s,s _ _ h3,zE (fun _ _ z=>(s.wk (av:=[])).actV z) h4,s _ _ h5,h6,fun kv hkv=>let ⟨d,v,a,b,c⟩:=h7 kv hkv;⟨d,v,a,b,(c.more hv).same s⟩⟩,Uad _ h.m,fun z hz=>?_⟩
 rcases Uaf.mp hz with rfl | hz
 ·exact e
 ·obtain⟨k,e⟩:=h.avs z hz
  exact⟨k,s _ _ e⟩
end
theorem Ji {C:Cs}{H:Hp}{ps:List Addr}{l:List Vbnlae.Act} (h:Paired (ZT C H) ps l):Paired (zaS C H) ps l:=zE (fun _ _ z=>z.v) h
def vY (t:State) (d:Int):List Int:=d::t.acts.map (·.day)
theorem jE {t:State} (W:NB.WF t) (d:Int):(vY t d).length<1000:=by
 unfold vY
 rw[Uae,Uaa]
 have:=W.al
 unfold Vbnlae.ACTS at this
 omega
theorem jP (t:State) (d:Int):∀x∈t.acts,x.day∈vY t d:=fun x hx=>Uad _ (Ubg hx)
theorem vI (t:State) (d:Int):d∈vY t d:=Uak
inductive spQ (C:Cs) (ok:State->List Int->List (List Int)->Prop) (f:State->List Int->List (List Int)->List Int) (vs:List V) (H:Hp) (Q:VK) (E:XK):Prop
 | mk (b c:Addr) (z1:vs=[.ref b,.ref c]) (na t ps m ns rows) (z2:BkW C na H b t ps) (z3:wC C H c m ns rows) (z4:NB.WF t) (z5:ok t ns rows) (z6:∀p H',Same H H'->H' p=some (.lst ((f t ns rows).map V.int))->Q (.ref p) H'):spQ C ok f vs H Q E
section
variable {P:Program}{w:World}{K:PySem.W.Frag}{mg:Str->Option Value}{base:Heap}{C:Cs}
def J8 (t:State) (d a g:Int):List Int:=
 if Vbnlae.dayOk d=false then [-9] else match Vbnlae.speciesOf t a with
 | none=>[-6]
 | some n=>if (Vbnlae.isOut t d a&&(Vbnlae.isGenus t g&&Vbnlae.isOut t d g))=false then [-6] else [0,(Vbnlae.barIn t d n (Vbnlae.headOf t d g)).1,(Vbnlae.barIn t d n (Vbnlae.headOf t d g)).2]
def nth (ns:List Int) (i:Nat):Int:=ns.getD i 0
theorem outS {t:State} (W:NB.WF t) {d a:Int}{n:Species} (h:Vbnlae.speciesOf t a=some n):Vbnlae.isOut t d a=Z6 ((Vbnlae.speciesOf t a).map (·.day)) d:=by
 obtain⟨m,rfl⟩:=NB.zx h
 rw[Z0 (W.placeS m),h]
 rfl
theorem outG {t:State} (d g:Int):(Vbnlae.isGenus t g&&Vbnlae.isOut t d g)=Z6 ((Vbnlae.genusOf t g).map (·.day)) d:=by
 unfold Vbnlae.isGenus Vbnlae.isOut Vbnlae.placeOf
 cases e:Vbnlae.genusOf t g with
 | none=>rfl
 | some x=>rfl
theorem qI {d:Int}{o o':Option Int} (h:Vbnlae.dayOk d=true):yO d o o'=if (Z6 o d&&Z6 o' d)=true then 0 else -6:=by unfold yO;rw[if_neg (by rw[h];decide)]
theorem vx {d:Int}{o o':Option Int} (h:Vbnlae.dayOk d=false):yO d o o'=-9:=by unfold yO;rw[if_pos h]
theorem ZH {d:Int}{o o':Option Int} (h:yO d o o'=0):(Z6 o d&&Z6 o' d)=true:=by
 cases h1:Vbnlae.dayOk d with
 | false=>rw[vx h1] at h;exact absurd h (by decide)
 | true=>
  rw[qI h1] at h
  cases e:(Z6 o d&&Z6 o' d) with
  | true=>rfl
  | false=>rw[e] at h;exact absurd h (by decide)
def zbU (t:State) (d a g:Int):List Int:=match Vbnlae.speciesOf t a with
 | none=>[]
 | some n=>[0,(Vbnlae.barIn t d n (Vbnlae.headOf t d g)).1,(Vbnlae.barIn t d n (Vbnlae.headOf t d g)).2]
theorem Qg {t:State} (W:NB.WF t) (d a g:Int):J8 t d a g=if yO d ((Vbnlae.speciesOf t a).map (·.day)) ((Vbnlae.genusOf t g).map (·.day))=0 then zbU t d a g else [yO d ((Vbnlae.speciesOf t a).map (·.day)) ((Vbnlae.genusOf t g).map (·.day))]:=by
 cases h1:Vbnlae.dayOk d with
 | false=>
  rw[vx h1,if_neg (by decide)]
  unfold J8
  rw[if_pos h1]
 | true=>
  rw[qI h1]
  unfold J8
  rw[if_neg (by rw[h1];decide)]
  cases e:Vbnlae.speciesOf t a with
  | none=>rfl
  | some n=>
   have e2:=outS W (d:=d) e
   rw[e] at e2
   simp only
   rw[e2,outG]
   unfold zbU
   rw[e]
   cases (Z6 (Option.map (fun x=>x.day) (some n)) d&&Z6 (Option.map (fun x=>x.day) (Vbnlae.genusOf t g)) d) <;> rfl
theorem yk:zk ["book", "call", "d", "a", "g", "refusal", "timeline", "home"] ["book", "call"] (zg (top 88)):=sC
theorem XR (T:Txt K mg C):FO P w K mg base "ask_what_if" 10 ["book", "call"] (spQ C (fun _ ns _=>ns.length=3) fun t ns _=>J8 t (nth ns 0) (nth ns 1) (nth ns 2)):=by
 refine T.d_ask_what_if.ok yk fun f cdv A outer s H vs Q E hr h=>?_
 ·obtain⟨b,c,rfl,na,t,ps,m,ns,rows,B,⟨dc,la,lr,rs,hc,hla,hlr,hrs⟩,W,hok,q⟩:=h
  match ns,hok with
  | [d,a,g],_=>
  replace q:∀p H',Same H H'->H' p=some (.lst ((J8 t d a g).map V.int))->Q (.ref p) H':=q
  obtain⟨dx,wd,gg,sd,l,hb,hwd,hg,hs,hL,n1,n2,n3⟩:=B.ex
  refine⟨_,(zb (pS 2 yk.nd (yr (zA K) (zd K (pv 1) rfl) zq (fun _ _=>rfl))) (zb (pS 3 yk.nd (yr (zA K) (zd K (pv 1) rfl) zq (fun _ _=>rfl))) (zb (pS 4 yk.nd (yr (zA K) (zd K (pv 1) rfl) zq (fun _ _=>rfl))) (zb (pS 5 yk.nd (zV (qz T) hr.m (za (pv 2) (za (pv 3) (za (zd K (pv 0) rfl) (za (pv 4) (za (zd K (pv 0) rfl) zf))))))) (zb (zy (zp V4 (pv 5) (zC T.g_NO_REFUSAL) (zu _)) (ze (zj (zD (za (pv 5) zf)))) zn) (zb (pS 6 yk.nd (wf (y3 T) hr.m (za (pv 0) (za (zd K (pv 0) rfl) zf)))) (zb (pS 7 yk.nd (xb (jw T) hr.m (xb (zt T) hr.m (pv 6) (za (pv 2) zf)) (za (pv 4) zf))) (ze (zj (jM xn (zD (za zq zf)) (j5 (XZ K) rfl T.nb_list PyProof.Rows.boot_list (za (zV (vf T) hr.m (za (pv 6) (za (pv 2) (za (pv 7) (za (yS (ya hr) (zd K (pv 0) rfl) (pv 3) (fun _ _=>rfl)) zf))))) zf)))))))))))),?_⟩
  rw[Qg W] at q
  k_go
  refine yX (i:=0) (SqL.of hla) rfl ?_
  k_go
  refine yX (i:=1) (SqL.of hla) rfl ?_
  k_go
  refine yX (i:=2) (SqL.of hla) rfl ?_
  k_go
  refine⟨d,a,sd,g,gg,rfl,_,_,B.p.n.outS hb (.inl hs) a,B.p.n.outG hb (.inl hg) g,?_⟩
  k_go
  by_cases hf:yO d ((Vbnlae.speciesOf t a).map (·.day)) ((Vbnlae.genusOf t g).map (·.day))=0
  ·rw[if_pos hf] at q
   rw[Uac hf]
   refine zL ?_
   cases e:Vbnlae.speciesOf t a with
   | none=>
    rw[e] at hf
    exact absurd (ZH hf) (by intro h;cases h)
   | some n=>
    unfold zbU at q
    rw[e] at q
    obtain⟨hn,rfl⟩:=NB.zx e
    k_go
    intro x dy hx hdy hne
    refine⟨x,b,l,rfl,dy,zc,fun H1 vd hv e1 e2 s1=>⟨rfl,?_⟩⟩
    have s1:Same H H1:=made hx hdy s1
    have hv:=jl hne hv
    have L1:TL C na [vd] (vY t d) H1 x t vd:=zeA (vY t d) B.p hL (Ji B.act) (fun z hz=>by simp at hz) s1 hv e1 e2
    k_go
    refine⟨x,d,rfl,na,[vd],vY t d,t,vd,L1,vI t d,jE W d,W,fun H2 v b1 s2 L2 Vw2 B2=>?_⟩
    obtain⟨dv,st,gd,pl,su,ks,kg,kp,ku,hvv,_⟩:=Vw2.ex
    obtain⟨su',hS'⟩:=Vw2.sunk
    obtain⟨m2,_,hgo⟩:=W.goes d g
    have s02:Same H H2:=zd7 s1 hv s2
    have hb2:=s02 _ _ hb
    k_go
    refine⟨v,g,rfl,su',_,_,m2,hS',hgo,?_⟩
    k_go
    refine⟨zK,fun p0 hp0=>?_⟩
    have s3:Same H2 (upd H2 p0 (.lst [.int 0])):=Same.new hp0
    have hb3:=s3 _ _ hb2
    k_go
    refine xM (v:=.ref (na n.key)) (.inl (s3 _ _ (s02 _ _ hs))) (Zp W na hn) ?_
    k_go
    refine⟨x,d,_,na n.key,rfl,na,[vd],vY t d,t,vd,n,s3.tl L2,jP t d,vI t d,hn,rfl,jE W d,W,fun p4 H4 s4 L4 hp4=>?_⟩
    k_go
    have e0:=((s3.tl L2).wk s4).lst (zc:upd H2 p0 (.lst [.int 0]) p0=_)
    refine⟨p4,_,rfl,.inr hp4,fun p5 hp5=>?_⟩
    have s04:Same H H4:=zd7 (s02.trans s3) hv s4
    refine ql (zS e0 hp5) zc (zB (by simp)) fun p6 hp6=>q p6 _ ((s04.upd hp5).upd hp6) ?_
    rw[zc]
    rfl
  ·rw[if_neg hf] at q
   rw[Uab hf]
   refine zQ ?_
   k_go
   exact⟨zK,fun p hp=>q p _ (Same.new hp) zc⟩
inductive Wm (C:Cs) (vs:List V) (H:Hp) (Q:VK) (E:XK):Prop
 | mk (bk:Addr) (d a b:Int) (z1:vs=[.ref bk,.int d,.int a,.int b]) (na t ps) (z2:BkW C na H bk t ps) (z3:NB.WF t) (z4:∀H' tl vd,Same H H'->H vd=none->(∃k,H' vd=some (.dK k))->(∀av ds,(∀x∈av,∃k,H x=some (.dK k))->BkP C na av H bk t->TL C na (vd::av) ds H' tl (NB.yw t d a b) vd)->Q (.ref tl) H'):Wm C vs H Q E
theorem Ys:zk ["book", "d", "a", "b", "past", "act"] ["book", "d", "a", "b"] (zg (top 89)):=sC
def QV:Scope:=match zH (top 89) with
 | ((.Assign _ (.ListComp _ _ sc _) _)::_)=>sc
 | _=>zg (top 89)
theorem Vv:jI ["book", "d", "a", "b", "past", "act"] (zg (top 89)) QV [("act",5)]:=bC
theorem Qj {α β:Type}{R:α->β->Prop}:∀{zs:List (α×β)}{p:β->Bool},(∀z∈zs,R z.1 z.2)->Paired R ((zs.filter fun z=>p z.2).map (·.1)) ((zs.map (·.2)).filter p):=by
 intro zs p h
 induction zs with
 | nil=>exact .nil
 | cons z zs ih=>
  have ih:=ih fun x hx=>h x (Uad _ hx)
  rw[Uay,Uas,Uay]
  cases p z.2 with
  | true=>exact .cons (h z Uak) ih
  | false=>exact ih
theorem zbw (T:Txt K mg C):FO P w K mg base "united" 3 ["book", "d", "a", "b"] (Wm C):=by
 refine T.d_united.ok Ys fun f cdv A outer s H vs Q E hr h=>?_
 ·obtain⟨bk,d,a,b,rfl,na,t,ps,B,W,q⟩:=h
  obtain⟨dx,wd,gg,sd,l,hb,hwd,hg,hs,hL,n1,n2,n3⟩:=B.ex
  obtain⟨zs,z1,z2,hz⟩:=jd B.act
  have hzl:zs.length<1000:=by have h1:=congrArg List.length z2;have h2:=W.al;unfold Vbnlae.ACTS at h2;simp at h1;omega
  refine⟨_,(zb (kK (i:=4) rfl Ys.nd rfl rfl (Zv rfl rfl rfl rfl) (zP K (zd K (pv 0) rfl)) Vv (fun _ _ _ _ _=>zN (i:=5) Ys.nd rfl (Or.inl rfl)) (fun _ _ _ _ _=>(jF (zp qW (zd K (pv 5) rfl) (pv 1) (zu _)))) (fun _ _ _ _ _=>(pv 5))) (ze (zj (wf (y3 T) hr.m (za (pv 0) (za (jM xn (pv 4) (zD (za (wf (zew T) hr.m (za zq (za (zC T.g_SINK) (za zq (za (pv 1) (za (pv 2) (za (pv 3) zf))))))) zf))) zf)))))),?_⟩
  k_go
  refine zaN (H1:=H) (a:=l) zs (fun z=>V.ref z.1) (fun z=>decide (z.2.day<=d)) (fun z=>V.ref z.1) (SqL.of (by rw[hL,z1,Uau];rfl)) (Ubk (yN (Ubk hzl))) (fun R z=>?_) (fun _=>rfl) (fun z hz' H1 s1=>?_) fun D H1 s1 hD0 hD=>?_
  ·k_go
   exact z
  ·obtain⟨da,ha⟩:=(s1.wk (av:=[])).act (hz z hz')
   refine⟨fun QT q=>?_,fun _ Q q=>?_⟩
   ·k_go
    exact q H1 (Same.refl _)
   ·k_go
    exact q H1 (Same.refl _)
  ·have hb1:=s1 _ _ hb
   k_go
   intro xa dya hxa hdya hnea
   refine⟨xa,0,2,0,d,a,b,rfl,dya,zc,fun H2 e2 s2=>⟨rfl,?_⟩⟩
   have s2:Same H1 H2:=made hxa hdya s2
   k_go
   refine⟨zK,fun p3 hp3=>?_⟩
   have hlen:((zs.filter fun z=>decide (z.2.day<=d)).map fun z=>V.ref z.1).length<1000:=by rw[Uaa];exact Ubp (Uan _ _) hzl
   refine ql (zS (s2 _ _ hD) hp3) zc (zB (by simp only[Uae,Ubt];omega)) fun p4 hp4=>?_
   have s4:Same H (upd (upd H2 p3 (.lst [.ref xa])) p4 (.lst (((zs.filter fun z=>decide (z.2.day<=d)).map fun z=>V.ref z.1)++[.ref xa]))):=(((s1.trans s2).upd hp3).upd hp4)
   have s24:Same H2 (upd (upd H2 p3 (.lst [.ref xa])) p4 (.lst (((zs.filter fun z=>decide (z.2.day<=d)).map fun z=>V.ref z.1)++[.ref xa]))):=(Same.new hp3).upd hp4
   generalize hH4:upd (upd H2 p3 (.lst [.ref xa])) p4 (.lst (((zs.filter fun z=>decide (z.2.day<=d)).map fun z=>V.ref z.1)++[.ref xa]))=H4 at s4 s24 ⊢
   have e4:H4 p4=some (.lst ((((zs.filter fun z=>decide (z.2.day<=d)).map (·.1))++[xa]).map V.ref)):=by
    rw[←hH4,zc,Ubc,Uau]
    rfl
   k_go
   intro x dy hx hdy hne
   refine⟨x,bk,p4,rfl,dy,zc,fun H5 vd hv e5 e6 s5=>⟨rfl,?_⟩⟩
   have s5:Same H4 H5:=made hx hdy s5
   have hv4:=jl hne hv
   have hv:=s4.free hv4
   refine q H5 x vd (s4.trans s5) hv ⟨_,e6⟩ fun av ds hav Bv=>?_
   refine zeA (t:=NB.yw t d a b) (ps:=((zs.filter fun z=>decide (z.2.day<=d)).map (·.1))++[xa]) ds ?_ e4 ?_ (fun z hz=>let ⟨k,e⟩:=hav z hz;⟨k,s4 _ _ e⟩) s5 hv4 e5 e6
   ·exact let B':=Bv.same s4;let ⟨dx,w,g,s,l,z1,z2,z3,z4⟩:=B'.ex;⟨⟨dx,w,g,s,l,z1,z2,z3,z4⟩,B'.gen,B'.spe⟩
   ·show Paired _ _ (Vbnlae.actsBy t d++[NB.xf d a b])
    refine qt ?_ ⟨dya,0,0,s24 _ _ e2⟩
    unfold Vbnlae.actsBy
    rw[z2]
    exact Qj (p:=fun x=>decide (x.day<=d)) fun z hz'=>(s4.wk (av:=[])).actV (hz z hz').v
end
def yU (av:List Addr) (H H':Hp):Prop:=∀b o,b∉av->H b=some o->H' b=some o
theorem yU.trans {av:List Addr}{H H1 H2:Hp} (a:yU av H H1) (b:yU av H1 H2):yU av H H2:=fun x o n h=>b x o n (a x o n h)
theorem zv.v {av:List Addr}{vd:Addr}{H H':Hp} (s:zv vd H H') (m:vd∈av):yU av H H':=fun b o n h=>s b o (fun q=>n (q▸m)) h
theorem _root_.L2.Same.v {av:List Addr}{H H':Hp} (s:Same H H'):yU av H H':=fun b o _ h=>s b o h
theorem Jo {H H1 H2:Hp}{av:List Addr} (s:Same H H1) (hv:∀x∈av,H x=none) (x:yU av H1 H2):Same H H2:=fun b o h=>x b o (fun m=>by rw[hv b m] at h;cases h) (s b o h)
theorem yU.set {av:List Addr}{H H':Hp}{p:Addr}{u:HO} (s:yU av H H') (hp:H p=none):yU av H (upd H' p u):=fun b o n h=>by rw[zh (zm h hp)];exact s b o n h
section
variable {C:Cs}{na:Int->Addr}{av:List Addr}{ds:List Int}{H H':Hp}{tl vd b p:Addr}{t:State}{d:Int}
theorem zgG (h:∀x∈av,∃k,H x=some (.dK k)) {a:Addr}{u:HO} (n:NoD u) (e:H a=some u):a∉av:=fun m=>by
 obtain⟨k,hk⟩:=h a m
 rw[hk] at e
 cases e
 exact n _ rfl
theorem yU.o (s:yU av H H') (h:∀x∈av,∃k,H x=some (.dK k)) {a:Addr}{u:HO} (n:NoD u) (e:H a=some u):H' a=some u:=s _ _ (zgG h n e) e
theorem yU.wk (s:yU av H H') (h:∀x∈av,∃k,H x=some (.dK k)):Wk av H H':=⟨fun a u n e=>s.o h n e,fun a kvs hn e=>by
 rcases e with e | ⟨o,e⟩
 ·exact .inl (s _ _ hn e)
 ·exact .inr ⟨o,s _ _ hn e⟩⟩
theorem BkP.samev (B:BkP C na av H b t) (s:yU av H H') (h:∀x∈av,∃k,H x=some (.dK k)):BkP C na av H' b t:=
 let ⟨dx,w,g,sd,l,h1,h2,h3,h4,h5⟩:=B.ex
 ⟨⟨dx,w,g,sd,l,s.o h xh h1,s _ _ h4 h2,s _ _ h5 h3,h4,h5⟩,fun x hx=>(s.wk h).gen (B.gen x hx),fun x hx=>(s.wk h).spe (B.spe x hx)⟩
theorem VwD.lst {v:Addr}{xs ys:List V} (h:VwD C av H v b t d) (hp:H p=some (.lst xs)):VwD C av (upd H p (.lst ys)) v b t d:=by
 obtain⟨dx,st,gd,pl,su,ks,kg,kp,ku,h1,h2,h3,h4,h5,h6,h7⟩:=h.ex
 have r:∀{a:Addr}{kv:List (Key×V)},Rd H a (.dK kv)->Rd (upd H p (.lst ys)) a (.dK kv):=fun h=>by
  rcases h with h | ⟨o,h⟩
  ·exact .inl (by rw[zh (zT h hp (by intro z;cases z))];exact h)
  ·exact .inr ⟨o,by rw[zh (zT h hp (by intro z;cases z))];exact h⟩
 exact⟨⟨dx,st,gd,pl,su,ks,kg,kp,ku,by rw[zh (zT h1 hp (by intro z;cases z))];exact h1,r h2,r h3,r h4,r h5,h6,h7⟩⟩
theorem TL.lst {xs ys:List V} (T0:TL C na av ds H tl t vd) (s:yU av H H') (T:TL C na av ds H' tl t vd) (hp:H p=none) (hp':H' p=some (.lst xs)):TL C na av ds (upd H' p (.lst ys)) tl t vd:=by
 obtain⟨dx,b,l,ps,kvs,h1,h2,h3,h4,h5,h6,h7⟩:=T0.ex
 obtain⟨dx',b',l',ps',kvs',g1,g2,g3,g4,g5,g6,g7⟩:=T.ex
 have e:=(s.o T0.avs xh h1).symm.trans g1
 injection e with e
 injection e with _ _ e
 injection e with e1 e2
 injection e1 with _ e1
 injection e1 with e1
 subst e1
 have sv:yU av H (upd H' p (.lst ys)):=s.set hp
 have w:=sv.wk T0.avs
 refine⟨⟨dx,b,l,ps,kvs',w.ins h1,h2.samev sv T0.avs,w.lst h3,zE (fun _ _ z=>w.actV z) h4,by rw[zh (zT g5 hp' (by intro z;cases z))];exact g5,g6,fun kv hkv=>let ⟨d,v,a,b,c⟩:=g7 kv hkv;⟨d,v,a,b,c.lst hp'⟩⟩,T.m,fun x hx=>?_⟩
 obtain⟨k,e⟩:=T.avs x hx
 exact⟨k,by rw[zh (zT e hp' (by intro z;cases z))];exact e⟩
end
theorem jq {α β:Type}{l:List α}{i:Nat}{x:α} (f:α->List β) (h:l[i]? = some x):(l.take (i+1)).flatMap f=(l.take i).flatMap f++f x:=by
 rw[je h,List.flatMap_append]
 simp
theorem yZ {α β:Type} (f:α->List β) {n m:Nat}:∀{l:List α},l.length<=n->(∀x,(f x).length<=m)->(l.flatMap f).length<=n*m
 | [],_,_=>Uax _
 | x::l,h,hf=>by
  rw[Uca,Uaj]
  cases n with
  | zero=>simp at h
  | succ n=>
   have ih:=yZ f (n:=n) (m:=m) (l:=l) (by simpa using h) hf
   have:=hf x
   rw[Nat.succ_mul]
   omega
section
variable {P:Program}{w:World}{K:PySem.W.Frag}{mg:Str->Option Value}{base:Heap}{C:Cs}
def vP (t:State):List Int:=t.species.map fun n=>n.key
def qE (t:State) (d:Int):List Int:=Vbnlae.byPrecedence t d ((vP t).filter fun k=>Vbnlae.isOut t d k)
def QD (t u:State) (d:Int) (k:Int):List Int:=if (!decide (Vbnlae.bar u d k=(0,0))&&decide (Vbnlae.bar t d k=(0,0)))=true then [k,(Vbnlae.bar u d k).2] else []
theorem JE (t u:State) (d k:Int):(QD t u d k).length<=2:=by unfold QD;split <;> simp
inductive zgu (C:Cs) (vs:List V) (H:Hp) (Q:VK) (E:XK):Prop
 | mk (bk:Addr) (d:Int) (tl tl2:Addr) (z1:vs=[.ref bk,.int d,.ref tl,.ref tl2]) (na t u av ds vd vd2) (z2:BkP C na av H bk t) (z3:TL C na av ds H tl t vd) (z4:TL C na av ds H tl2 u vd2) (z5:vd≠vd2) (z6:(∀k,Vbnlae.placeOf u k=Vbnlae.placeOf t k)) (z7:NB.WF t) (z8:NB.WF u) (z9:(∀x∈t.acts,x.day∈ds)) (z10:(∀x∈u.acts,x.day∈ds)) (z11:d∈ds) (z12:ds.length<1000) (z13:∀p H',yU av H H'->H' p=some (.lst (((qE t d).flatMap (QD t u d)).map V.int))->Q (.ref p) H'):zgu C vs H Q E
theorem xo:zk ["book", "d", "now", "then", "found", "name", "bar"] ["book", "d", "now", "then"] (zg (top 90)):=sC
theorem Xg (T:Txt K mg C):FO P w K mg base "newly_barred" 11 ["book", "d", "now", "then"] (zgu C):=by
 refine T.d_newly_barred.ok xo fun f cdv A outer s H vs Q E hr h=>?_
 ·obtain⟨bk,d,tl,tl2,rfl,na,t,u,av,ds,vd,vd2,B,L1,L2,hne,hpl,W,W2,hD,hD2,hdd,hds,q⟩:=h
  obtain⟨dx,wd,gg,sd,lb,hb,hg,hs,hgv,hsv⟩:=B.ex
  obtain⟨dt,bt,lt,pt,kt,htl,_⟩:=L1.ex
  refine⟨_,(zb (pS 4 xo.nd (zD zf)) (zb (kx PassesOwn.never rfl (zP K (xb (ye T) hr.m (xb (zt T) hr.m (pv 2) (za (pv 1) zf)) (za (j5 (wV rfl) rfl T.nb_list PyProof.Rows.boot_list (za (Yp (zd K (pv 0) rfl)) zf)) zf))) (zN (i:=5) xo.nd rfl (Or.inl rfl)) (zb (pS 6 xo.nd (zV (j0 T) hr.m (za (pv 3) (za (pv 1) (za (pv 5) zf))))) (ze (zy (PW.pt (Js (zp (VS K hr) (pv 6) (jz K T.g_NO_BAR) (zu _)) (Y9 (zp (YX K hr) (zV (j0 T) hr.m (za (pv 2) (za (pv 1) (za (pv 5) zf)))) (jz K T.g_NO_BAR) (zu _))))) (ze (yu (pBe K (pv 4) (za (zD (za (zd K (pv 5) rfl) (za (yr (qm K) (pv 6) zq (fun _ _=>rfl)) zf))) zf)))) zn)))) (ze (zj (pv 4))))),?_⟩
  k_go
  refine⟨Uax _,fun pf hpf=>?_⟩
  have s1:Same H (upd H pf (.lst [])):=Same.new hpf
  have e1:upd H pf (.lst []) pf=some (.lst []):=zc
  generalize upd H pf (.lst [])=H1 at s1 e1
  have hlen:(vP t).length<=40:=by unfold vP;rw[Uaa];exact W.sl
  have hol:(qE t d).length<=40:=by unfold qE;rw[yf];exact Ubb (Uan _ _) hlen
  have hpk:∀k∈vP t,(Vbnlae.placeOf t k).isSome=true:=fun k hk=>by
   obtain⟨n,hn,rfl⟩:=Uaq.mp hk
   exact NB.yh hn
  k_go
  refine Xf (xs:=qA na (qE t d)) (fun a Hn=>yU av H Hn/\TL C na av ds Hn tl t vd/\TL C na av ds Hn tl2 u vd2/\Hn pf=some (.lst [])/\Hn a=some (.lst (qA na (qE t d)))/\a≠pf)
   (fun a i σ Hn=>∃v5 v6:Option V,σ=[some (.ref bk),some (.int d),some (.ref tl),some (.ref tl2),some (.ref pf),v5,v6]/\yU av H Hn/\TL C na av ds Hn tl t vd/\TL C na av ds Hn tl2 u vd2/\Hn pf=some (.lst ((((qE t d).take i).flatMap (QD t u d)).map V.int))/\Hn a=some (.lst (qA na (qE t d)))/\a≠pf)
   (fun R r=>?_) (fun a Hn ⟨g1,g2,g3,g4,g5,g6⟩=>⟨none,none,rfl,g1,g2,g3,g4,g5,g6⟩) (fun a i σ Hn _ ⟨_,_,_,_,_,_,_,e,_⟩=>SqL.of e) ?_ ?_
  ·have htl1:=s1 _ _ htl
   k_go
   refine⟨tl,d,rfl,na,av,ds,t,vd,s1.tl L1,hdd,hds,W,fun H2 v b2 s2 L12 Vw2 B2=>?_⟩
   have sv2:yU av H1 H2:=s2.v L1.m
   have sv02:yU av H H2:=s1.v.trans sv2
   have L22:TL C na av ds H2 tl2 u vd2:=(s1.tl L2).other s2 L1.m hne.symm L12.vd
   obtain⟨dv,st,gd,pl,su,ks,kg,kp,ku,hv,_⟩:=Vw2.ex
   have hb2:=sv02.o L1.avs xh hb
   have hs2:=sv02 _ _ hsv hs
   have f2:=(s1.tl L1).wk s2 |>.lst e1
   k_go
   refine⟨sd,_,rfl,.inl hs2,fun r1 h1=>?_⟩
   k_go
   have s3:Same H2 (upd H2 r1 (VwO r1 sd)):=Same.new h1
   refine⟨r1,sd,_,rfl,zc,.inl (s3 _ _ hs2),fun p4 h4=>?_⟩
   have s4:=s3.upd (u:=.lst ((vj na t).map (·.2))) h4
   have e4:upd (upd H2 r1 (VwO r1 sd)) p4 (.lst ((vj na t).map (·.2))) p4=some (.lst (qA na (vP t))):=by
    rw[zc,Z4,Yo]
    rfl
   generalize upd (upd H2 r1 (VwO r1 sd)) p4 (.lst ((vj na t).map (·.2)))=H4 at s4 e4
   k_go
   refine⟨v,p4,rfl,av,b2,t,d,na,vP t,Vw2.same s4,e4,fun k hk=>(B2.same s4).n.nmk (hpk k hk),by omega,fun p5 H5 s5 h5 e5=>?_⟩
   have s25:=s4.trans s5
   have f4:=s4 _ _ f2
   exact r p5 H5 ⟨sv02.trans s25.v,s25.tl L12,s25.tl L22,s5 _ _ f4,e5,(zm f4 h5).symm⟩
  ·rintro a i y σ Hn hy ⟨v5,v6,rfl,sn,Ln1,Ln2,hf,ha,hapf⟩
   obtain⟨k,hk,rfl⟩:=x3 hy
   have hkm:=Uaw hk
   have hks:k∈vP t:=(Uah.mp (kC hkm)).1
   have hk0:=hpk k hks
   have hfl:=yZ (QD t u d) (n:=40) (m:=2) (l:=(qE t d).take i) (by rw[Ubl];omega) (JE t u d)
   rw[jq (QD t u d) hk]
   k_go
   refine⟨tl2,d,na k,rfl,na,av,ds,u,vd2,k,Ln2,hD2,hdd,by rw[hpl];exact hk0,rfl,hds,W2,fun p2 H2 s2 L22 hp2=>?_⟩
   have sv2:yU av Hn H2:=s2.v L2.m
   have L12:TL C na av ds H2 tl t vd:=Ln1.other s2 L2.m hne L22.vd
   have f2:=(Ln2.wk s2).lst hf
   have a2:=(Ln2.wk s2).lst ha
   k_go
   refine V0 fun pb hpb=>?_
   refine⟨p2,pb,_,_,rfl,rfl,hp2,hpb.sq H2,?_⟩
   k_go
   rw[js]
   by_cases h1:Vbnlae.bar u d k=(0,0)
   ·rw[Uac h1]
    refine zL (zL ?_)
    k_go
    have e:QD t u d k=[]:=by unfold QD;rw[Uac h1];rfl
    rw[e,Ubo]
    exact⟨_,_,rfl,sn.trans sv2,L12,L22,f2,a2,hapf⟩
   ·rw[Uab h1]
    refine zQ ?_
    k_go
    refine⟨tl,d,na k,rfl,na,av,ds,t,vd,k,L12,hD,hdd,hk0,rfl,hds,W,fun p3 H3 s3 L13 hp3=>?_⟩
    have sv3:yU av H2 H3:=s3.v L1.m
    have L23:TL C na av ds H3 tl2 u vd2:=L22.other s3 L1.m hne.symm L13.vd
    have f3:=(L12.wk s3).lst f2
    have a3:=(L12.wk s3).lst a2
    have hp2':=L12.sqT s3 hp2
    have sn3:=(sn.trans sv2).trans sv3
    k_go
    refine V0 fun pb hpb=>?_
    refine⟨p3,pb,_,_,rfl,rfl,hp3,hpb.sq H3,?_⟩
    k_go
    rw[js]
    by_cases h2:Vbnlae.bar t d k=(0,0)
    ·rw[Uac h2]
     refine zQ ?_
     have e:QD t u d k=[k,(Vbnlae.bar u d k).2]:=by unfold QD;rw[Uab h1,Uac h2];rfl
     obtain⟨pk,hpk',Cl,dn,fs,hS,hna,l1,l2,l3,l4,l5⟩:=(B.samev sn3 L1.avs).n.nmk hk0
     k_go
     refine Y1 f3 ?_
     k_go
     refine Qu (i:=1) hp2' rfl ?_
     k_go
     refine⟨by show 2<=sizeLine;decide,fun p4 hp4=>?_⟩
     k_go
     refine XG (zS f3 hp4) zc ?_ ?_
     ·rw[Uaa]
      show _+2<=_
      exact zB (by omega)
     have s4:Same H3 (upd H3 p4 (.lst [.int k,.int (Vbnlae.bar u d k).2])):=Same.new hp4
     have f4:=s4 _ _ f3
     have a4:=s4 _ _ a3
     have L14:=s4.tl L13
     have L24:=s4.tl L23
     have sn4:=sn3.trans s4.v
     generalize upd H3 p4 (.lst [.int k,.int (Vbnlae.bar u d k).2])=H4 at s4 f4 a4 L14 L24 sn4
     k_go
     refine⟨_,_,rfl,sn4.set hpf,L1.lst sn4 L14 hpf f4,L2.lst sn4 L24 hpf f4,?_,?_,hapf⟩
     ·rw[zc,e,Ubc]
      rfl
     ·rw[zh hapf]
      exact a4
    ·rw[Uab h2]
     refine zL ?_
     k_go
     have e:QD t u d k=[]:=by unfold QD;rw[Uab h2,Bool.and_false];rfl
     rw[e,Ubo]
     exact⟨_,_,rfl,sn3,L13,L23,f3,a3,hapf⟩
  ·rintro a σ Hn ⟨v5,v6,rfl,sn,Ln1,Ln2,hf,ha,hapf⟩
   have el:(qA na (qE t d)).length=(qE t d).length:=by unfold qA;rw[Uaa]
   rw[el,Ubu] at hf
   k_go
   exact q pf Hn sn hf
end
section
variable {P:Program}{w:World}{K:PySem.W.Frag}{mg:Str->Option Value}{base:Heap}{C:Cs}
def wD (t:State) (d a b:Int):List Int:=
 if Vbnlae.dayOk d=false then [-9] else if (Vbnlae.isGenus t a&&(Vbnlae.isOut t d a&&(Vbnlae.isGenus t b&&Vbnlae.isOut t d b)))=false then [-6]
 else if a=b then [-10] else 0::(qE t d).flatMap (QD t (NB.yw t d a b) d)
theorem zcj (t:State) (d a b:Int):wD t d a b=if yO d ((Vbnlae.genusOf t a).map (·.day)) ((Vbnlae.genusOf t b).map (·.day))=0 then (if a=b then [-10] else 0::(qE t d).flatMap (QD t (NB.yw t d a b) d)) else [yO d ((Vbnlae.genusOf t a).map (·.day)) ((Vbnlae.genusOf t b).map (·.day))]:=by
 cases h1:Vbnlae.dayOk d with
 | false=>
  rw[vx h1,if_neg (by decide)]
  unfold wD
  rw[if_pos h1]
 | true=>
  rw[qI h1]
  unfold wD
  rw[if_neg (by rw[h1];decide),←Bool.and_assoc,outG,outG]
  cases (Z6 (Option.map (fun x=>x.day) (Vbnlae.genusOf t a)) d&&Z6 (Option.map (fun x=>x.day) (Vbnlae.genusOf t b)) d) <;> rfl
theorem KO {t:State}{d g:Int} (h:Z6 ((Vbnlae.genusOf t g).map (·.day)) d=true):∃x∈t.genera,x.key=g:=by
 cases e:Vbnlae.genusOf t g with
 | none=>rw[e] at h;cases h
 | some x=>exact⟨x,(NB.zx e).1,(NB.zx e).2⟩
theorem xO:zk ["book", "call", "d", "a", "b", "refusal"] ["book", "call"] (zg (top 91)):=sC
theorem Kl (T:Txt K mg C):FO P w K mg base "ask_unite" 12 ["book", "call"] (spQ C (fun t ns _=>ns.length=3/\t.acts.length<=Vbnlae.ACTS/\∀x∈t.acts,x.key<=Vbnlae.MOSTKEY) fun t ns _=>wD t (nth ns 0) (nth ns 1) (nth ns 2)):=by
 refine T.d_ask_unite.ok xO fun f cdv A outer s H vs Q E hr h=>?_
 ·obtain⟨bk,c,rfl,na,t,ps,m,ns,rows,B,⟨dc,la,lr,rs,hc,hla,hlr,hrs⟩,W,⟨hok,hal,hak⟩,q⟩:=h
  match ns,hok with
  | [d,a,b],_=>
  replace q:∀p H',Same H H'->H' p=some (.lst ((wD t d a b).map V.int))->Q (.ref p) H':=q
  obtain⟨dx,wd,gg,sd,l,hb,hwd,hg,hs,hL,n1,n2,n3⟩:=B.ex
  refine⟨_,(zb (pS 2 xO.nd (yr (zA K) (zd K (pv 1) rfl) zq (fun _ _=>rfl))) (zb (pS 3 xO.nd (yr (zA K) (zd K (pv 1) rfl) zq (fun _ _=>rfl))) (zb (pS 4 xO.nd (yr (zA K) (zd K (pv 1) rfl) zq (fun _ _=>rfl))) (zb (pS 5 xO.nd (zV (qz T) hr.m (za (pv 2) (za (pv 3) (za (zd K (pv 0) rfl) (za (pv 4) (za (zd K (pv 0) rfl) zf))))))) (zb (zy (zp V4 (pv 5) (zC T.g_NO_REFUSAL) (zu _)) (ze (zj (zD (za (pv 5) zf)))) zn) (zb (zy (zp yA (pv 3) (pv 4) (zu _)) (ze (zj (zD (za (zC T.g_BOTH_THE_SAME) zf)))) zn) (ze (zj (jM xn (zD (za zq zf)) (zV (Xg T) hr.m (za (pv 0) (za (pv 2) (za (wf (y3 T) hr.m (za (pv 0) (za (zd K (pv 0) rfl) zf))) (za (zV (zbw T) hr.m (za (pv 0) (za (pv 2) (za (pv 3) (za (pv 4) zf))))) zf)))))))))))))),?_⟩
  rw[zcj] at q
  k_go
  refine yX (i:=0) (SqL.of hla) rfl ?_
  k_go
  refine yX (i:=1) (SqL.of hla) rfl ?_
  k_go
  refine yX (i:=2) (SqL.of hla) rfl ?_
  k_go
  refine⟨d,a,gg,b,gg,rfl,_,_,B.p.n.outG hb (.inl hg) a,B.p.n.outG hb (.inl hg) b,?_⟩
  k_go
  by_cases hf:yO d ((Vbnlae.genusOf t a).map (·.day)) ((Vbnlae.genusOf t b).map (·.day))=0
  ·rw[if_pos hf] at q
   rw[Uac hf]
   refine zL ?_
   k_go
   by_cases hab:a=b
   ·rw[if_pos hab] at q
    rw[Uac hab]
    refine zQ ?_
    k_go
    exact⟨zK,fun p hp=>q p _ (Same.new hp) zc⟩
   ·rw[if_neg hab] at q
    rw[Uab hab]
    refine zL ?_
    have ho:=ZH hf
    rw[Uat] at ho
    have W2:NB.WF (NB.yw t d a b):=W.united hal hak (KO ho.1) (KO ho.2)
    k_go
    refine⟨zK,fun p0 hp0=>?_⟩
    have s0:Same H (upd H p0 (.lst [.int 0])):=Same.new hp0
    have e0:upd H p0 (.lst [.int 0]) p0=some (.lst [.int 0]):=zc
    generalize upd H p0 (.lst [.int 0])=H0 at s0 e0
    have hb0:=s0 _ _ hb
    have B0:=B.same s0
    k_go
    intro x dy hx hdy hne
    refine⟨x,bk,l,rfl,dy,zc,fun H1 vd hv e1 e2 s1=>⟨rfl,?_⟩⟩
    have s1:Same H0 H1:=made hx hdy s1
    have hv:=jl hne hv
    have L1:TL C na [vd] (vY t d) H1 x t vd:=zeA (vY t d) B0.p (s0 _ _ hL) (Ji B0.act) (fun z hz=>by simp at hz) s1 hv e1 e2
    have B1:=B0.same s1
    have B1v:BkP C na [vd] H1 bk t:=(B0.p.more hv).same s1
    k_go
    refine⟨bk,d,a,b,rfl,na,t,ps,B1,W,fun H2 tl2 vd2 s2 hv2 ev2 mk=>?_⟩
    k_go
    have hv2':H0 vd2=none:=s1.free hv2
    have L2:TL C na [vd2,vd] (vY t d) H2 tl2 (NB.yw t d a b) vd2:=mk [vd] (vY t d) L1.avs B1v
    have L12:TL C na [vd2,vd] (vY t d) H2 x t vd:=L1.more s2 hv2 ev2
    obtain⟨kv,ekv⟩:=L1.vd
    refine⟨bk,d,x,tl2,rfl,na,t,NB.yw t d a b,[vd2,vd],vY t d,vd,vd2,(B1v.more hv2).same s2,L12,L2,zm ekv hv2,fun k=>rfl,W,W2,jP t d,fun y hy=>?_,vI t d,jE W d,fun p3 H3 s3 e3=>?_⟩
    ·rcases Ubd.mp hy with hy | hy
     ·exact jP t d y (NB.jQ.mp hy).1
     ·rw[Uam.mp hy]
      exact vI t d
    ·have s03:Same H0 H3:=Jo (s1.trans s2) (fun z hz=>by
      simp only[Uaf,Ucl,or_false] at hz
      rcases hz with rfl | rfl
      ·exact hv2'
      ·exact hv) s3
     have hol:(qE t d).length<=40:=by unfold qE;rw[yf];exact Ubb (Uan _ _) (by unfold vP;rw[Uaa];exact W.sl)
     have hfl:=yZ (QD t (NB.yw t d a b) d) (n:=40) (m:=2) hol (JE _ _ _)
     refine ql (s03 _ _ e0) e3 (zB (by rw[Uaa];show 1+_<=_;omega)) fun p4 hp4=>q p4 _ ((s0.trans s03).upd hp4) ?_
     rw[zc]
     rfl
  ·rw[if_neg hf] at q
   rw[Uab hf]
   refine zQ ?_
   k_go
   exact⟨zK,fun p hp=>q p _ (Same.new hp) zc⟩
def WO (t:State) (d:Int):List Int:=Vbnlae.byPrecedence t d ((Vbnlae.allKeys t).filter fun k=>Vbnlae.isOut t d k)
def zal (t:State) (d k:Int):List Int:=if decide (Vbnlae.bar t d k=(0,0))=true then [] else [k,(Vbnlae.bar t d k).1,(Vbnlae.bar t d k).2]
theorem Wo (t:State) (d k:Int):(zal t d k).length<=3:=by unfold zal;split <;> simp
def vC (t:State) (d:Int):List Int:=if Vbnlae.dayOk d=false then [-9] else 0::(WO t d).flatMap (zal t d)
theorem Yq {t:State} (W:NB.WF t):(Vbnlae.allKeys t).length<=64:=by
 unfold Vbnlae.allKeys
 rw[Uaj,Uaa,Uaa]
 have h1:=W.gl
 have h2:=W.sl
 unfold Vbnlae.GENERA at h1
 unfold Vbnlae.SPECIES at h2
 omega
theorem zdZ {t:State} (W:NB.WF t):t.genera.length+t.species.length<1000:=by
 have h1:=W.gl
 have h2:=W.sl
 unfold Vbnlae.GENERA at h1
 unfold Vbnlae.SPECIES at h2
 omega
theorem yP:zk ["book", "call", "d", "timeline", "answer", "name", "bar"] ["book", "call"] (zg (top 117)):=sC
theorem J7 (T:Txt K mg C):FO P w K mg base "ask_barred" 11 ["book", "call"] (spQ C (fun _ ns _=>ns.length=1) fun t ns _=>vC t (nth ns 0)):=by
 refine T.d_ask_barred.ok yP fun f cdv A outer s H vs Q E hr h=>?_
 ·obtain⟨bk,c,rfl,na,t,ps,m,ns,rows,B,⟨dc,la,lr,rs,hc,hla,hlr,hrs⟩,W,hok,q⟩:=h
  match ns,hok with
  | [d],_=>
  replace q:∀p H',Same H H'->H' p=some (.lst ((vC t d).map V.int))->Q (.ref p) H':=q
  obtain⟨dx,wd,gg,sd,l,hb,hwd,hg,hs,hL,n1,n2,n3⟩:=B.ex
  refine⟨_,(zb (pS 2 yP.nd (yr (zA K) (zd K (pv 1) rfl) zq (fun _ _=>rfl))) (zb (zy (xw (zU (zV (jV T) hr.m (za (pv 2) zf)))) (ze (zj (zD (za (zC T.g_OUT_OF_RANGE) zf)))) zn) (zb (pS 3 yP.nd (wf (y3 T) hr.m (za (pv 0) (za (zd K (pv 0) rfl) zf)))) (zb (pS 4 yP.nd (zD (za zq zf))) (zb (kx PassesOwn.never rfl (zP K (xb (ye T) hr.m (xb (zt T) hr.m (pv 3) (za (pv 2) zf)) (za (VU (j4 T) hr.m (pv 0)) zf))) (zN (i:=5) yP.nd rfl (Or.inl rfl)) (zb (pS 6 yP.nd (zV (j0 T) hr.m (za (pv 3) (za (pv 2) (za (pv 5) zf))))) (ze (zy (zp (VS K hr) (pv 6) (jz K T.g_NO_BAR) (zu _)) (ze (yu (pBe K (pv 4) (za (zD (za (zd K (pv 5) rfl) (za (yr (qm K) (pv 6) zq (fun _ _=>rfl)) (za (yr (qm K) (pv 6) zq (fun _ _=>rfl)) zf)))) zf)))) zn)))) (ze (zj (pv 4)))))))),?_⟩
  unfold vC at q
  k_go
  refine yX (i:=0) (SqL.of hla) rfl ?_
  k_go
  refine Vj ?_
  k_go
  cases h1:Vbnlae.dayOk d with
  | false=>
   rw[if_pos h1] at q
   refine zQ ?_
   k_go
   exact⟨zK,fun p hp=>q p _ (Same.new hp) zc⟩
  | true=>
   rw[if_neg (by rw[h1];decide)] at q
   refine zL ?_
   k_go
   intro x dy hx hdy hne
   refine⟨x,bk,l,rfl,dy,zc,fun H1 vd hv e1 e2 s1=>⟨rfl,?_⟩⟩
   have s1:Same H H1:=made hx hdy s1
   have hv:=jl hne hv
   have L1:TL C na [vd] (vY t d) H1 x t vd:=zeA (vY t d) B.p hL (Ji B.act) (fun z hz=>by simp at hz) s1 hv e1 e2
   have B1v:BkP C na [vd] H1 bk t:=(B.p.more hv).same s1
   k_go
   refine⟨zK,fun pf hpf=>?_⟩
   have s2:Same H1 (upd H1 pf (.lst [.int 0])):=Same.new hpf
   have e2':upd H1 pf (.lst [.int 0]) pf=some (.lst [.int 0]):=zc
   generalize upd H1 pf (.lst [.int 0])=H2 at s2 e2'
   have hol:(WO t d).length<=64:=by unfold WO;rw[yf];exact Ubb (Uan _ _) (Yq W)
   have hpk:∀k∈Vbnlae.allKeys t,(Vbnlae.placeOf t k).isSome=true:=NB.xm (⟨.refl _,.refl _,fun _ _=>rfl,W.gnd,W.snd⟩:NB.Sim 0 t t)
   k_go
   refine Xf (xs:=qA na (WO t d)) (fun a Hn=>yU [vd] H1 Hn/\TL C na [vd] (vY t d) Hn x t vd/\Hn pf=some (.lst [.int 0])/\Hn a=some (.lst (qA na (WO t d)))/\a≠pf)
    (fun a i σ Hn=>∃v5 v6:Option V,σ=[some (.ref bk),some (.ref c),some (.int d),some (.ref x),some (.ref pf),v5,v6]/\yU [vd] H1 Hn/\TL C na [vd] (vY t d) Hn x t vd/\Hn pf=some (.lst ((0::((WO t d).take i).flatMap (zal t d)).map V.int))/\Hn a=some (.lst (qA na (WO t d)))/\a≠pf)
    (fun R r=>?_) (fun a Hn ⟨g1,g2,g4,g5,g6⟩=>⟨none,none,rfl,g1,g2,g4,g5,g6⟩) (fun a i σ Hn _ ⟨_,_,_,_,_,_,e,_⟩=>SqL.of e) ?_ ?_
   ·k_go
    obtain⟨dt,bt,lt,pt,kt,htl,_⟩:=(s2.tl L1).ex
    k_go
    refine⟨x,d,rfl,na,[vd],vY t d,t,vd,s2.tl L1,vI t d,jE W d,W,fun H3 v b3 s3 L3 Vw3 B3=>?_⟩
    have sv3:yU [vd] H2 H3:=s3.v L1.m
    obtain⟨dv,st,gd,pl,su,ks,kg,kp,ku,hvv,_⟩:=Vw3.ex
    have f3:=((s2.tl L1).wk s3).lst e2'
    have B13:=(s2.tl L1).bkp s3 (B1v.same s2)
    obtain⟨dx',wd',gg',sd',l',hb',_⟩:=B13.ex
    k_go
    refine⟨bk,rfl,na,[vd],t,B13.n,zdZ W,fun p4 H4 s4 e4=>?_⟩
    k_go
    refine⟨v,p4,rfl,[vd],b3,t,d,na,Vbnlae.allKeys t,Vw3.same s4,e4,fun k hk=>(B3.same s4).n.nmk (hpk k hk),Ubp (Yq W) (by decide),fun p5 H5 s5 h5 e5=>?_⟩
    have s35:=s4.trans s5
    exact r p5 H5 ⟨(s2.v.trans sv3).trans s35.v,s35.tl L3,s35 _ _ f3,e5,(zm (s4 _ _ f3) h5).symm⟩
   ·rintro a i y σ Hn hy ⟨v5,v6,rfl,sn,Ln,hf,ha,hapf⟩
    obtain⟨k,hk,rfl⟩:=x3 hy
    have hkm:=Uaw hk
    have hk0:=hpk k (Uah.mp (kC hkm)).1
    have hfl:=yZ (zal t d) (n:=64) (m:=3) (l:=(WO t d).take i) (by rw[Ubl];omega) (Wo t d)
    rw[jq (zal t d) hk]
    k_go
    refine⟨x,d,na k,rfl,na,[vd],vY t d,t,vd,k,Ln,jP t d,vI t d,hk0,rfl,jE W d,W,fun p2 H3 s3 L3 hp2=>?_⟩
    have sv3:yU [vd] Hn H3:=s3.v L1.m
    have f3:=(Ln.wk s3).lst hf
    have a3:=(Ln.wk s3).lst ha
    have sn3:=sn.trans sv3
    k_go
    refine V0 fun pb hpb=>?_
    refine⟨p2,pb,_,_,rfl,rfl,hp2,hpb.sq H3,?_⟩
    k_go
    rw[js]
    by_cases h1:Vbnlae.bar t d k=(0,0)
    ·rw[Uac h1]
     refine zL ?_
     k_go
     have e:zal t d k=[]:=by unfold zal;rw[Uac h1];rfl
     rw[e,Ubo]
     exact⟨_,_,rfl,sn3,L3,f3,a3,hapf⟩
    ·rw[Uab h1]
     refine zQ ?_
     have e:zal t d k=[k,(Vbnlae.bar t d k).1,(Vbnlae.bar t d k).2]:=by unfold zal;rw[Uab h1];rfl
     obtain⟨pk,hpk',Cl,dn,fs,hS,hna,l1,l2,l3,l4,l5⟩:=(B1v.samev sn3 L1.avs).n.nmk hk0
     k_go
     refine Y1 f3 ?_
     k_go
     refine Qu (i:=0) hp2 rfl ?_
     k_go
     refine Qu (i:=1) hp2 rfl ?_
     k_go
     refine⟨by show 3<=sizeLine;decide,fun p4 hp4=>?_⟩
     k_go
     refine XG (zS f3 hp4) zc ?_ ?_
     ·rw[Uaa,Uae]
      show _+3<=_
      exact zB (by omega)
     have s4:Same H3 (upd H3 p4 (.lst [.int k,.int (Vbnlae.bar t d k).1,.int (Vbnlae.bar t d k).2])):=Same.new hp4
     have f4:=s4 _ _ f3
     have a4:=s4 _ _ a3
     have L4:=s4.tl L3
     have sn4:=sn3.trans s4.v
     generalize upd H3 p4 (.lst [.int k,.int (Vbnlae.bar t d k).1,.int (Vbnlae.bar t d k).2])=H4 at s4 f4 a4 L4 sn4
     k_go
     refine⟨_,_,rfl,sn4.set hpf,L1.lst sn4 L4 hpf f4,?_,?_,hapf⟩
     ·rw[zc,e]
      show _=some (HO.lst (((0::((WO t d).take i).flatMap (zal t d))++[k,(Vbnlae.bar t d k).1,(Vbnlae.bar t d k).2]).map V.int))
      rw[Ubc]
      rfl
     ·rw[zh hapf]
      exact a4
   ·rintro a σ Hn ⟨v5,v6,rfl,sn,Ln,hf,ha,hapf⟩
    have el:(qA na (WO t d)).length=(WO t d).length:=by unfold qA;rw[Uaa]
    rw[el,Ubu] at hf
    k_go
    exact q pf Hn (Jo s1 (fun z hz=>by rw[Uam.mp hz];exact hv) sn) hf
def Y8 (t:State) (set:List Int):List Int:=(Vbnlae.allKeys t).filter fun k=>set.contains k
def QE (t:State) (d:Int) (set:List Int):List Int:=Vbnlae.byPrecedence t d ((Y8 t set).filter fun k=>Vbnlae.isOut t d k)
def Xb (t:State) (d:Int) (set:List Int):List Int:=if Vbnlae.dayOk d=false then [-9] else [((QE t d set).find? fun k=>Vbnlae.usable t d k).getD 0]
theorem ze3 (k:Int) (l:List Int):inV (.int k) (l.map V.int)=l.contains k:=by
 unfold inV
 rw[List.any_map]
 rw[Uck,List.any_eq_true,List.contains_iff_mem]
 constructor
 ·rintro⟨y,hy,e⟩
  have:y=k:=by simpa [eqV] using e
  exact this▸hy
 ·intro h
  exact⟨k,h,by simp [eqV]⟩
theorem yG:zk ["book", "call", "d", "wanted", "timeline", "names", "name"] ["book", "call"] (zg (top 118)):=sC
def Yr:Scope:=match zH (top 118) with
 | (_::_::_::_::(.Assign _ (.ListComp _ _ sc _) _)::_)=>sc
 | _=>zg (top 118)
theorem Xv:jI ["book", "call", "d", "wanted", "timeline", "names", "name"] (zg (top 118)) Yr [("name",6)]:=bC
theorem Q2 (T:Txt K mg C):FO P w K mg base "ask_first" 12 ["book", "call"] (spQ C (fun _ ns rows=>ns.length=1/\∃set,rows=[set]) fun t ns rows=>Xb t (nth ns 0) (rows.getD 0 [])):=by
 refine T.d_ask_first.ok yG fun f cdv A outer s H vs Q E hr h=>?_
 ·obtain⟨bk,c,rfl,na,t,ps,m,ns,rows,B,⟨dc,la,lr,rs,hc,hla,hlr,hrs⟩,W,⟨hok,set,rfl⟩,q⟩:=h
  match ns,hok with
  | [d],_=>
  replace q:∀p H',Same H H'->H' p=some (.lst ((Xb t d set).map V.int))->Q (.ref p) H':=q
  cases hrs with
  | @cons r0 _ rs _ hr0 hrs=>
  cases hrs
  obtain⟨dx,wd,gg,sd,l,hb,hwd,hg,hs,hL,n1,n2,n3⟩:=B.ex
  refine⟨_,(zb (pS 2 yG.nd (yr (zA K) (zd K (pv 1) rfl) zq (fun _ _=>rfl))) (zb (pS 3 yG.nd (yr (zA K) (zd K (pv 1) rfl) zq (fun _ _=>rfl))) (zb (zy (xw (zU (zV (jV T) hr.m (za (pv 2) zf)))) (ze (zj (zD (za (zC T.g_OUT_OF_RANGE) zf)))) zn) (zb (pS 4 yG.nd (wf (y3 T) hr.m (za (pv 0) (za (zd K (pv 0) rfl) zf)))) (zb (kK (i:=5) rfl yG.nd rfl rfl (Zv rfl rfl rfl rfl) (zP K (VU (j4 T) hr.m (pv 0))) Xv (fun _ _ _ _ _=>zN (i:=6) yG.nd rfl (Or.inl rfl)) (fun _ _ _ _ _=>(jF (zp (Wb K) (zd K (pv 6) rfl) (pv 3) rfl))) (fun _ _ _ _ _=>(pv 6))) (zb (kx PassesOwn.never rfl (zP K (xb (ye T) hr.m (xb (zt T) hr.m (pv 4) (za (pv 2) zf)) (za (pv 5) zf))) (zN (i:=6) yG.nd rfl (Or.inl rfl)) (ze (zy (zU (zV (ZI T) hr.m (za (pv 4) (za (pv 2) (za (pv 6) zf))))) (ze (zj (zD (za (zd K (pv 6) rfl) zf)))) zn))) (ze (zj (zD (za zq zf)))))))))),?_⟩
  unfold Xb at q
  k_go
  refine yX (i:=0) (SqL.of hla) rfl ?_
  k_go
  refine yX (i:=0) (SqL.of hlr) rfl ?_
  k_go
  refine Vj ?_
  k_go
  cases h1:Vbnlae.dayOk d with
  | false=>
   rw[if_pos h1] at q
   refine zQ ?_
   k_go
   exact⟨zK,fun p hp=>q p _ (Same.new hp) zc⟩
  | true=>
   rw[if_neg (by rw[h1];decide)] at q
   refine zL ?_
   k_go
   intro x dy hx hdy hne
   refine⟨x,bk,l,rfl,dy,zc,fun H1 vd hv e1 e2 s1=>⟨rfl,?_⟩⟩
   have s1:Same H H1:=made hx hdy s1
   have hv:=jl hne hv
   have L1:TL C na [vd] (vY t d) H1 x t vd:=zeA (vY t d) B.p hL (Ji B.act) (fun z hz=>by simp at hz) s1 hv e1 e2
   have B1v:BkP C na [vd] H1 bk t:=(B.p.more hv).same s1
   have hb1:=s1 _ _ hb
   have hpk:∀k∈Vbnlae.allKeys t,(Vbnlae.placeOf t k).isSome=true:=NB.xm (⟨.refl _,.refl _,fun _ _=>rfl,W.gnd,W.snd⟩:NB.Sim 0 t t)
   k_go
   refine zcE (fun p H2=>Same H1 H2/\H2 p=some (.lst (qA na (Vbnlae.allKeys t)))) (Vbnlae.allKeys t) (fun k=>V.ref (na k)) (fun k=>set.contains k) (fun k=>V.ref (na k)) (fun p H2 h=>SqL.of h.2) (Ubb (Yq W) (by decide)) (fun R z=>?_) (fun _=>rfl) (fun p H2 h k hk H3 s3=>?_) fun p H2 D H3 h s3 _ hD=>?_
   ·k_go
    exact⟨bk,rfl,na,[vd],t,B1v.n,zdZ W,fun p H' s e=>z p H' ⟨s,e⟩⟩
   ·have s:=h.1.trans s3
    obtain⟨pk,hpk',Cl,dn,fs,hS,hna,l1,l2,l3,l4,l5⟩:=(B1v.same s).n.nmk (hpk k hk)
    refine⟨fun QT q=>?_,fun _ Q q=>?_⟩
    ·k_go
     refine⟨r0,_,rfl,.inl (SqL.of (s _ _ (s1 _ _ hr0))),rfl,zc6 _,?_⟩
     k_go
     rw[ze3]
     exact q H3 (Same.refl _)
    ·k_go
     exact q H3 (Same.refl _)
   ·have s13:=h.1.trans s3
    have hD':H3 D=some (.lst (qA na (Y8 t set))):=hD
    have hsl:(Y8 t set).length<=64:=Ubb (Uan _ _) (Yq W)
    have L3:=s13.tl L1
    obtain⟨dt,bt,lt,pt,kt,htl,_⟩:=L3.ex
    have hol:(QE t d set).length<=64:=by unfold QE;rw[yf];exact Ubb (Uan _ _) hsl
    have hpF:∀k∈QE t d set,(Vbnlae.placeOf t k).isSome=true/\Vbnlae.isOut t d k=true:=fun k hk=>by
     have:=Uah.mp (kC hk)
     exact⟨hpk k (Uah.mp this.1).1,this.2⟩
    k_go
    refine Xf (xs:=qA na (QE t d set)) (fun a Hn=>yU [vd] H1 Hn/\TL C na [vd] (vY t d) Hn x t vd/\Hn a=some (.lst (qA na (QE t d set))))
     (fun a i σ Hn=>∃v6:Option V,σ=[some (.ref bk),some (.ref c),some (.int d),some (.ref r0),some (.ref x),some (.ref D),v6]/\yU [vd] H1 Hn/\TL C na [vd] (vY t d) Hn x t vd/\Hn a=some (.lst (qA na (QE t d set)))/\((QE t d set).take i).find? (fun k=>Vbnlae.usable t d k)=none)
     (fun R r=>?_) (fun a Hn ⟨g1,g2,g5⟩=>⟨none,rfl,g1,g2,g5,rfl⟩) (fun a i σ Hn _ ⟨_,_,_,_,e,_⟩=>SqL.of e) ?_ ?_
    ·k_go
     refine⟨x,d,rfl,na,[vd],vY t d,t,vd,L3,vI t d,jE W d,W,fun H4 v b4 s4 L4 Vw4 B4=>?_⟩
     obtain⟨dv,st,gd,pl,su,ks,kg,kp,ku,hvv,_⟩:=Vw4.ex
     have hD4:=(L3.wk s4).lst hD'
     k_go
     refine⟨v,D,rfl,[vd],b4,t,d,na,Y8 t set,Vw4,hD4,fun k hk=>B4.n.nmk (hpk k (Uah.mp hk).1),by omega,fun p5 H5 s5 h5 e5=>?_⟩
     exact r p5 H5 ⟨(s13.v.trans (s4.v L1.m)).trans s5.v,s5.tl L4,e5⟩
    ·rintro a i y σ Hn hy ⟨v6,rfl,sn,Ln,ha,hfd⟩
     obtain⟨k,hk,rfl⟩:=x3 hy
     obtain⟨hk0,hko⟩:=hpF k (Uaw hk)
     k_go
     refine⟨x,d,na k,rfl,na,[vd],vY t d,t,vd,k,Ln,jP t d,vI t d,hk0,rfl,jE W d,W,fun H4 s4 L4=>?_⟩
     have eu:(decide (Vbnlae.status t d k=0)&&decide ((Vbnlae.bar t d k).1=0))=Vbnlae.usable t d k:=by unfold Vbnlae.usable;rw[hko,Bool.true_and]
     rw[eu]
     have sn4:=sn.trans (s4.v L1.m)
     k_go
     cases hu:Vbnlae.usable t d k with
     | true=>
      refine zQ ?_
      obtain⟨pk,hpk',Cl,dn,fs,hS,hna,l1,l2,l3,l4,l5⟩:=(B1v.samev sn4 L1.avs).n.nmk hk0
      k_go
      refine⟨zK,fun p hp=>q p _ ((Jo s1 (fun z hz=>by rw[Uam.mp hz];exact hv) sn4).upd hp) ?_⟩
      have ef:(QE t d set).find? (fun k=>Vbnlae.usable t d k)=some k:=by
       have hi:i<(QE t d set).length:=(Ubh.mp hk).1
       have e1:QE t d set=(QE t d set).take i++(QE t d set).drop i:=(List.take_append_drop _ _).symm
       have e2:(QE t d set).drop i=k::(QE t d set).drop (i+1):=by
        rw[Ucu hi]
        congr 1
        exact(Ubh.mp hk).2
       rw[e1,List.find?_append,hfd,e2,Uar,hu]
       rfl
      rw[zc,ef]
      rfl
     | false=>
      refine zL ?_
      k_go
      refine⟨_,rfl,sn4,L4,(Ln.wk s4).lst ha,?_⟩
      rw[je hk,List.find?_append,hfd,Uar,hu]
      rfl
    ·rintro a σ Hn ⟨v6,rfl,sn,Ln,ha,hfd⟩
     have el:(qA na (QE t d set)).length=(QE t d set).length:=by unfold qA;rw[Uaa]
     rw[el,Ubu] at hfd
     rw[hfd] at q
     k_go
     exact⟨zK,fun p hp=>q p _ ((Jo s1 (fun z hz=>by rw[Uam.mp hz];exact hv) sn).upd hp) zc⟩
end
theorem _root_.L2.Same.put {H H':Hp}{p:Addr}{u:HO} (s:Same H H') (hp:H p=none):Same H (L2.upd H' p u):=fun b o h=>by rw[zh (zm h hp)];exact s b o h
def qo (l:List Int):List Int:=NB.srt (fun x=>[x]) l
theorem Qo {l ms:List Int} (p:ms.Perm l) (h:ms.Pairwise (·<=·)):ms=qo l:=by
 refine NB.XY (p.trans (NB.x4 _ l).symm) h ((NB.jZ (fun x:Int=>[x]) l).imp fun {a b} hab=>?_)
 have:Vbnlae.less [b] [a]=false:=hab
 unfold Vbnlae.less at this
 simp [Vbnlae.less] at this
 omega
theorem JL {l:List Int}{k:Int} (h:k∈qo l):k∈l:=(NB.x4 _ l).mem_iff.mp h
theorem kJ (l:List Int):(qo l).length=l.length:=(NB.x4 _ l).length_eq
theorem vS {α β:Type} (f:α->List β) {n m:Nat}:∀{l:List α},l.length<=n->(∀x∈l,(f x).length<=m)->(l.flatMap f).length<=n*m
 | [],_,_=>Uax _
 | x::l,h,hf=>by
  rw[Uca,Uaj]
  cases n with
  | zero=>simp at h
  | succ n=>
   have ih:=vS f (n:=n) (m:=m) (l:=l) (by simpa using h) fun y hy=>hf y (Uad _ hy)
   have:=hf x Uak
   rw[Nat.succ_mul]
   omega
section
variable {P:Program}{w:World}{K:PySem.W.Frag}{mg:Str->Option Value}{base:Heap}{C:Cs}
inductive zgc (vs:List V) (H:Hp) (Q:VK) (E:XK):Prop
 | mk (a:Addr) (z1:vs=[.ref a]) (ns:List Int) (z2:H a=some (.lst (ns.map V.int))) (z3:ns.length<=1000) (z4:∀p H',Same H H'->H' p=some (.lst ((Vbnlae.row ns).map V.int))->Q (.ref p) H'):zgc vs H Q E
theorem Vd:zk ["row"] ["row"] (zg (top 93)):=sC
theorem Ye (T:Txt K mg C):FO P w K mg base "told_row" 1 ["row"] zgc:=by
 refine T.d_told_row.ok Vd fun f cdv A outer s H vs Q E hr h=>?_
 ·obtain⟨a,rfl,ns,ha,hl,q⟩:=h
  refine⟨_,(ze (zj (jM xn (zD (za (zG (xQ K) rfl T.nb_len PySem.boot_len (za (pv 0) zf)) zf)) (pv 0)))),?_⟩
  k_go
  refine⟨a,_,rfl,.inl (SqL.of ha),?_⟩
  k_go
  refine⟨zK,fun p hp=>?_⟩
  k_go
  refine ql zc (zS ha hp) (zB (by rw[Uaa];simp;omega)) fun p2 hp2=>q p2 _ ((Same.new hp).upd hp2) ?_
  rw[zc,Uaa]
  rfl
inductive XX (C:Cs) (f:State->List Int) (vs:List V) (H:Hp) (Q:VK) (E:XK):Prop
 | mk (b:Addr) (z1:vs=[.ref b]) (na t ps) (z2:BkW C na H b t ps) (z3:NB.WF t) (z4:∀p H',Same H H'->H' p=some (.lst ((f t).map V.int))->Q (.ref p) H'):XX C f vs H Q E
def zdC (t:State) (k:Int):List Int:=[k,Vbnlae.dayOf t k]
def y8 (t:State):List Int:=(t.works.length:Int)::(qo (t.works.map (·.key))).flatMap (zdC t)
theorem zah {t:State} (W:NB.WF t) {k:Int} (h:k∈t.works.map (·.key)):Vbnlae.isWork t k=true:=by
 obtain⟨x,hx,rfl⟩:=Uaq.mp h
 unfold Vbnlae.isWork Vbnlae.workOf
 rw[NB.vy W.wnd hx]
 rfl
theorem qa:zk ["book", "told", "key"] ["book"] (zg (top 94)):=sC
theorem Qq (T:Txt K mg C):FO P w K mg base "told_works" 1 ["book"] (XX C y8):=by
 refine T.d_told_works.ok qa fun f cdv A outer s H vs Q E hr h=>?_
 ·obtain⟨b,rfl,na,t,ps,B,W,q⟩:=h
  obtain⟨dx,wd,gg,sd,l,hb,hwd,hg,hs,hL,n1,n2,n3⟩:=B.ex
  refine⟨_,(zb (pS 1 qa.nd (zD (za (zG j7 rfl T.nb_len PySem.boot_len (za (zd K (pv 0) rfl) zf)) zf))) (zb (kx PassesOwn.never rfl (zP K (zG (qG rfl) rfl T.nb_sorted PyProof.Rows.boot_sorted (za (VZ (zd K (pv 0) rfl)) zf))) (zN (i:=2) qa.nd rfl (Or.inl rfl)) (ze (yu (pBe K (pv 1) (za (zD (za (pv 2) (za (yS (ya hr) (zd K (pv 0) rfl) (pv 2) (fun _ _=>rfl)) zf))) zf))))) (ze (zj (pv 1))))),?_⟩
  k_go
  refine⟨wd,_,rfl,hwd,?_⟩
  k_go
  refine⟨zK,fun pt hpt=>?_⟩
  have s1:Same H (upd H pt (.lst [.int ((kz t).length:Int)])):=Same.new hpt
  have e1:upd H pt (.lst [.int ((kz t).length:Int)]) pt=some (.lst [.int (t.works.length:Int)]):=by rw[zc];unfold kz;rw[Uaa]
  generalize upd H pt (.lst [.int ((kz t).length:Int)])=H1 at s1 e1
  have hl:(qo (t.works.map (·.key))).length<=60:=by rw[kJ,Uaa];exact W.wl
  k_go
  refine Xf (xs:=(qo (t.works.map (·.key))).map V.int) (fun a Hn=>Same H Hn/\Hn pt=some (.lst [.int (t.works.length:Int)])/\Hn a=some (.lst ((qo (t.works.map (·.key))).map V.int))/\a≠pt)
   (fun a i σ Hn=>∃v2:Option V,σ=[some (.ref b),some (.ref pt),v2]/\Same H Hn/\Hn pt=some (.lst (((t.works.length:Int)::((qo (t.works.map (·.key))).take i).flatMap (zdC t)).map V.int))/\Hn a=some (.lst ((qo (t.works.map (·.key))).map V.int))/\a≠pt)
   (fun R r=>?_) (fun a Hn ⟨g1,g2,g3,g4⟩=>⟨none,rfl,g1,g2,g3,g4⟩) (fun a i σ Hn _ ⟨_,_,_,_,e,_⟩=>SqL.of e) ?_ ?_
  ·have hb1:=s1 _ _ hb
   k_go
   refine⟨wd,_,rfl,.inl (s1 _ _ hwd),fun r1 h1=>?_⟩
   have s2:Same H1 (upd H1 r1 (KwO r1 wd)):=Same.new h1
   k_go
   refine⟨r1,wd,_,t.works.map (·.key),rfl,zc,.inl (s2 _ _ (s1 _ _ hwd)),?_,?_,fun l2 ms h2 hp hw=>?_⟩
   ·unfold kz
    rw[Uau,Uau]
    rfl
   ·rw[Uaa]
    have:=W.wl
    unfold Vbnlae.WORKS at this
    omega
   ·rw[Qo hp hw]
    exact r l2 _ ⟨(s1.trans s2).upd h2,(s2.upd h2) _ _ e1,zc,(zm (s2 _ _ e1) h2).symm⟩
  ·rintro a i y σ Hn hy ⟨v2,rfl,sn,ht,ha,hne⟩
   obtain⟨k,hk,rfl⟩:=x3 hy
   have hkm:=JL (Uaw hk)
   have hbn:=sn _ _ hb
   have hfl:=yZ (zdC t) (n:=60) (m:=2) (l:=(qo (t.works.map (·.key))).take i) (by rw[Ubl];omega) (fun x=>Uag _)
   rw[jq (zdC t) hk]
   k_go
   refine Y1 ht ?_
   k_go
   refine xM (.inl (sn _ _ hwd)) (qu (zah W hkm)) ?_
   k_go
   refine⟨by show 2<=sizeLine;decide,fun p4 hp4=>?_⟩
   k_go
   refine XG (zS ht hp4) zc ?_ ?_
   ·rw[Uaa,Uae]
    show _+2<=_
    exact zB (by omega)
   ·k_go
    refine⟨_,rfl,(sn.upd hp4).put hpt,?_,?_,hne⟩
    ·rw[zc]
     show _=some (HO.lst (((((t.works.length:Int)::((qo (t.works.map (·.key))).take i).flatMap (zdC t))++zdC t k).map V.int)))
     rw[Ubc]
     rfl
    ·rw[zh hne]
     exact zS ha hp4
  ·rintro a σ Hn ⟨v2,rfl,sn,ht,ha,hne⟩
   rw[Uaa,Ubu] at ht
   k_go
   exact q pt Hn sn ht
def Ko (t:State) (k:Int):List Int:=match Vbnlae.genusOf t k with
 | some g=>[k,g.work,g.page,g.gender]++Vbnlae.row g.text
 | none=>[]
def y4 (t:State):List Int:=(t.genera.length:Int)::(qo (t.genera.map (·.key))).flatMap (Ko t)
theorem Wc {t:State} (W:NB.WF t) (k:Int):(Ko t k).length<=45:=by
 unfold Ko
 cases e:Vbnlae.genusOf t k with
 | none=>exact Uax _
 | some g=>
  have:=(W.gen g (NB.zx e).1).2.1
  unfold Vbnlae.row
  simp only[Uaj,Uae,Ubt]
  omega
theorem xG:zk ["book", "told", "key", "name"] ["book"] (zg (top 95)):=sC
theorem XT (T:Txt K mg C):FO P w K mg base "told_genera" 2 ["book"] (XX C y4):=by
 refine T.d_told_genera.ok xG fun f cdv A outer s H vs Q E hr h=>?_
 ·obtain⟨b,rfl,na,t,ps,B,W,q⟩:=h
  obtain⟨dx,wd,gg,sd,l,hb,hwd,hg,hs,hL,n1,n2,n3⟩:=B.ex
  refine⟨_,(zb (pS 1 xG.nd (zD (za (zG j7 rfl T.nb_len PySem.boot_len (za (zd K (pv 0) rfl) zf)) zf))) (zb (kx PassesOwn.never rfl (zP K (zG (qG rfl) rfl T.nb_sorted PyProof.Rows.boot_sorted (za (VZ (zd K (pv 0) rfl)) zf))) (zN (i:=2) xG.nd rfl (Or.inl rfl)) (zb (pS 3 xG.nd (yS (ya hr) (zd K (pv 0) rfl) (pv 2) (fun _ _=>rfl))) (zb (yu (pBe K (pv 1) (za (zD (za (pv 2) (za (zd K (pv 3) rfl) (za (zd K (pv 3) rfl) (za (zd K (pv 3) rfl) zf))))) zf))) (ze (yu (pBe K (pv 1) (za (zV (Ye T) hr.m (za (zd K (pv 3) rfl) zf)) zf))))))) (ze (zj (pv 1))))),?_⟩
  k_go
  refine⟨gg,_,rfl,hg,?_⟩
  k_go
  refine⟨zK,fun pt hpt=>?_⟩
  have s1:Same H (upd H pt (.lst [.int ((wF na t).length:Int)])):=Same.new hpt
  have e1:upd H pt (.lst [.int ((wF na t).length:Int)]) pt=some (.lst [.int (t.genera.length:Int)]):=by rw[zc];unfold wF;rw[Uaa]
  generalize upd H pt (.lst [.int ((wF na t).length:Int)])=H1 at s1 e1
  have hl:(qo (t.genera.map (·.key))).length<=24:=by rw[kJ,Uaa];exact W.gl
  k_go
  refine Xf (xs:=(qo (t.genera.map (·.key))).map V.int) (fun a Hn=>Same H Hn/\Hn pt=some (.lst [.int (t.genera.length:Int)])/\Hn a=some (.lst ((qo (t.genera.map (·.key))).map V.int))/\a≠pt)
   (fun a i σ Hn=>∃v2 v3:Option V,σ=[some (.ref b),some (.ref pt),v2,v3]/\Same H Hn/\Hn pt=some (.lst (((t.genera.length:Int)::((qo (t.genera.map (·.key))).take i).flatMap (Ko t)).map V.int))/\Hn a=some (.lst ((qo (t.genera.map (·.key))).map V.int))/\a≠pt)
   (fun R r=>?_) (fun a Hn ⟨g1,g2,g3,g4⟩=>⟨none,none,rfl,g1,g2,g3,g4⟩) (fun a i σ Hn _ ⟨_,_,_,_,_,e,_⟩=>SqL.of e) ?_ ?_
  ·have hb1:=s1 _ _ hb
   k_go
   refine⟨gg,_,rfl,.inl (s1 _ _ hg),fun r1 h1=>?_⟩
   have s2:Same H1 (upd H1 r1 (KwO r1 gg)):=Same.new h1
   k_go
   refine⟨r1,gg,_,t.genera.map (·.key),rfl,zc,.inl (s2 _ _ (s1 _ _ hg)),?_,?_,fun l2 ms h2 hp hw=>?_⟩
   ·unfold wF
    rw[Uau,Uau]
    rfl
   ·rw[Uaa]
    have:=W.gl
    unfold Vbnlae.GENERA at this
    omega
   ·rw[Qo hp hw]
    exact r l2 _ ⟨(s1.trans s2).upd h2,(s2.upd h2) _ _ e1,zc,(zm (s2 _ _ e1) h2).symm⟩
  ·rintro a i y σ Hn hy ⟨v2,v3,rfl,sn,ht,ha,hne⟩
   obtain⟨k,hk,rfl⟩:=x3 hy
   obtain⟨g,hgm,rfl⟩:=Uaq.mp (JL (Uaw hk))
   have hbn:=sn _ _ hb
   have hfl:=vS (Ko t) (n:=24) (m:=45) (l:=(qo (t.genera.map (·.key))).take i) (by rw[Ubl];omega) (fun x _=>Wc W x)
   have eg:Ko t g.key=[g.key,g.work,g.page,g.gender]++Vbnlae.row g.text:=by unfold Ko;rw[W.genusOf hgm]
   have htl:=(W.gen g hgm).2.1
   rw[jq (Ko t) hk]
   k_go
   refine xM (.inl (sn _ _ hg)) (jN W na hgm) ?_
   obtain⟨dg,lt,hga,hlt⟩:=(B.same sn).gen g hgm
   k_go
   refine Y1 ht ?_
   k_go
   refine⟨by show 4<=sizeLine;decide,fun p4 hp4=>?_⟩
   k_go
   refine XG (zS ht hp4) zc ?_ ?_
   ·rw[Uaa,Uae]
    show _+4<=_
    exact zB (by omega)
   ·have s5:=(sn.upd (u:=.lst [.int g.key,.int g.work,.int g.page,.int g.gender]) hp4).put (u:=.lst (((t.genera.length:Int)::((qo (t.genera.map (·.key))).take i).flatMap (Ko t)).map V.int++[.int g.key,.int g.work,.int g.page,.int g.gender])) hpt
    have a5:upd (upd Hn p4 (.lst [.int g.key,.int g.work,.int g.page,.int g.gender])) pt (.lst (((t.genera.length:Int)::((qo (t.genera.map (·.key))).take i).flatMap (Ko t)).map V.int++[.int g.key,.int g.work,.int g.page,.int g.gender])) a=some (.lst ((qo (t.genera.map (·.key))).map V.int)):=by rw[zh hne];exact zS ha hp4
    have f5:upd (upd Hn p4 (.lst [.int g.key,.int g.work,.int g.page,.int g.gender])) pt (.lst (((t.genera.length:Int)::((qo (t.genera.map (·.key))).take i).flatMap (Ko t)).map V.int++[.int g.key,.int g.work,.int g.page,.int g.gender])) pt=some (.lst (((t.genera.length:Int)::((qo (t.genera.map (·.key))).take i).flatMap (Ko t)).map V.int++[.int g.key,.int g.work,.int g.page,.int g.gender])):=zc
    generalize upd (upd Hn p4 (.lst [.int g.key,.int g.work,.int g.page,.int g.gender])) pt (.lst (((t.genera.length:Int)::((qo (t.genera.map (·.key))).take i).flatMap (Ko t)).map V.int++[.int g.key,.int g.work,.int g.page,.int g.gender]))=H5 at s5 a5 f5
    obtain⟨dg5,lt5,hga5,hlt5⟩:=(B.same s5).gen g hgm
    k_go
    refine Y1 f5 ?_
    k_go
    refine⟨lt5,rfl,g.text,hlt5,by omega,fun p6 H6 s6 e6=>?_⟩
    k_go
    refine XG (s6 _ _ f5) e6 ?_ ?_
    ·simp only[Uaj,Uaa,Uae,Ubt,Vbnlae.row]
     exact zB (by omega)
    ·k_go
     refine⟨_,_,rfl,(s5.trans s6).put hpt,?_,?_,hne⟩
     ·rw[zc,eg]
      show _=some (HO.lst ((((t.genera.length:Int)::((qo (t.genera.map (·.key))).take i).flatMap (Ko t))++([g.key,g.work,g.page,g.gender]++Vbnlae.row g.text)).map V.int))
      rw[Ubc,Ubc,←Ucs]
      rfl
     ·rw[zh hne]
      exact s6 _ _ a5
  ·rintro a σ Hn ⟨v2,v3,rfl,sn,ht,ha,hne⟩
   rw[Uaa,Ubu] at ht
   k_go
   exact q pt Hn sn ht
def zaT (t:State) (k:Int):List Int:=match Vbnlae.speciesOf t k with
 | some n=>[k,n.work,n.page,n.genus]++(Vbnlae.row n.masc++(Vbnlae.row n.fem++Vbnlae.row n.neut))
 | none=>[]
def xH (t:State):List Int:=(t.species.length:Int)::(qo (t.species.map (·.key))).flatMap (zaT t)
theorem WX {t:State} (W:NB.WF t) (k:Int):(zaT t k).length<=127:=by
 unfold zaT
 cases e:Vbnlae.speciesOf t k with
 | none=>exact Uax _
 | some n=>
  obtain⟨_,⟨m1,m2,m3⟩,_⟩:=W.spe n (NB.zx e).1
  simp only[Uaj,Uae,Ubt,Vbnlae.row]
  omega
theorem yK:zk ["book", "told", "key", "name", "form"] ["book"] (zg (top 96)):=sC
theorem YC (T:Txt K mg C):FO P w K mg base "told_species" 2 ["book"] (XX C xH):=by
 refine T.d_told_species.ok yK fun f cdv A outer s H vs Q E hr h=>?_
 ·obtain⟨b,rfl,na,t,ps,B,W,q⟩:=h
  obtain⟨dx,wd,gg,sd,l,hb,hwd,hg,hs,hL,n1,n2,n3⟩:=B.ex
  refine⟨_,(zb (pS 1 yK.nd (zD (za (zG j7 rfl T.nb_len PySem.boot_len (za (zd K (pv 0) rfl) zf)) zf))) (zb (kx PassesOwn.never rfl (zP K (zG (qG rfl) rfl T.nb_sorted PyProof.Rows.boot_sorted (za (VZ (zd K (pv 0) rfl)) zf))) (zN (i:=2) yK.nd rfl (Or.inl rfl)) (zb (pS 3 yK.nd (yS (ya hr) (zd K (pv 0) rfl) (pv 2) (fun _ _=>rfl))) (zb (yu (pBe K (pv 1) (za (zD (za (pv 2) (za (zd K (pv 3) rfl) (za (zd K (pv 3) rfl) (za (zd K (pv 3) rfl) zf))))) zf))) (ze (kx PassesOwn.never rfl (zP K (zd K (pv 3) rfl)) (zN (i:=4) yK.nd rfl (Or.inl rfl)) (ze (yu (pBe K (pv 1) (za (zV (Ye T) hr.m (za (pv 4) zf)) zf))))))))) (ze (zj (pv 1))))),?_⟩
  k_go
  refine⟨sd,_,rfl,hs,?_⟩
  k_go
  refine⟨zK,fun pt hpt=>?_⟩
  have s1:Same H (upd H pt (.lst [.int ((vj na t).length:Int)])):=Same.new hpt
  have e1:upd H pt (.lst [.int ((vj na t).length:Int)]) pt=some (.lst [.int (t.species.length:Int)]):=by rw[zc];unfold vj;rw[Uaa]
  generalize upd H pt (.lst [.int ((vj na t).length:Int)])=H1 at s1 e1
  have hl:(qo (t.species.map (·.key))).length<=40:=by rw[kJ,Uaa];exact W.sl
  k_go
  refine Xf (xs:=(qo (t.species.map (·.key))).map V.int) (fun a Hn=>Same H Hn/\Hn pt=some (.lst [.int (t.species.length:Int)])/\Hn a=some (.lst ((qo (t.species.map (·.key))).map V.int))/\a≠pt)
   (fun a i σ Hn=>∃v2 v3 v4:Option V,σ=[some (.ref b),some (.ref pt),v2,v3,v4]/\Same H Hn/\Hn pt=some (.lst (((t.species.length:Int)::((qo (t.species.map (·.key))).take i).flatMap (zaT t)).map V.int))/\Hn a=some (.lst ((qo (t.species.map (·.key))).map V.int))/\a≠pt)
   (fun R r=>?_) (fun a Hn ⟨g1,g2,g3,g4⟩=>⟨none,none,none,rfl,g1,g2,g3,g4⟩) (fun a i σ Hn _ ⟨_,_,_,_,_,_,e,_⟩=>SqL.of e) ?_ ?_
  ·have hb1:=s1 _ _ hb
   k_go
   refine⟨sd,_,rfl,.inl (s1 _ _ hs),fun r1 h1=>?_⟩
   have s2:Same H1 (upd H1 r1 (KwO r1 sd)):=Same.new h1
   k_go
   refine⟨r1,sd,_,t.species.map (·.key),rfl,zc,.inl (s2 _ _ (s1 _ _ hs)),?_,?_,fun l2 ms h2 hp hw=>?_⟩
   ·unfold vj
    rw[Uau,Uau]
    rfl
   ·rw[Uaa]
    have:=W.sl
    unfold Vbnlae.SPECIES at this
    omega
   ·rw[Qo hp hw]
    exact r l2 _ ⟨(s1.trans s2).upd h2,(s2.upd h2) _ _ e1,zc,(zm (s2 _ _ e1) h2).symm⟩
  ·rintro a i y σ Hn hy ⟨v2,v3,v4,rfl,sn,ht,ha,hne⟩
   obtain⟨k,hk,rfl⟩:=x3 hy
   obtain⟨n,hnm,rfl⟩:=Uaq.mp (JL (Uaw hk))
   have hbn:=sn _ _ hb
   have hfl:=vS (zaT t) (n:=40) (m:=127) (l:=(qo (t.species.map (·.key))).take i) (by rw[Ubl];omega) (fun x _=>WX W x)
   have eg:zaT t n.key=[n.key,n.work,n.page,n.genus]++(Vbnlae.row n.masc++(Vbnlae.row n.fem++Vbnlae.row n.neut)):=by unfold zaT;rw[W.speciesOf hnm]
   obtain⟨_,⟨m1,m2,m3⟩,_⟩:=W.spe n hnm
   rw[jq (zaT t) hk]
   k_go
   refine xM (.inl (sn _ _ hs)) (Zp W na hnm) ?_
   obtain⟨dn,fo,f0,f1,f2,hna,hfo,h0,h1,h2⟩:=(B.same sn).spe n hnm
   k_go
   refine Y1 ht ?_
   k_go
   refine⟨by show 4<=sizeLine;decide,fun p4 hp4=>?_⟩
   k_go
   refine XG (zS ht hp4) zc ?_ ?_
   ·rw[Uaa,Uae]
    show _+4<=_
    exact zB (by omega)
   ·generalize hX:(((t.species.length:Int)::((qo (t.species.map (·.key))).take i).flatMap (zaT t)).map V.int++[.int n.key,.int n.work,.int n.page,.int n.genus])=X
    have hXl:X.length<=6000:=by
     rw[←hX]
     simp only[Uaj,Uaa,Uae,Ubt]
     omega
    have s5:=(sn.upd (u:=.lst [.int n.key,.int n.work,.int n.page,.int n.genus]) hp4).put (u:=.lst X) hpt
    have a5:upd (upd Hn p4 (.lst [.int n.key,.int n.work,.int n.page,.int n.genus])) pt (.lst X) a=some (.lst ((qo (t.species.map (·.key))).map V.int)):=by rw[zh hne];exact zS ha hp4
    have f5:upd (upd Hn p4 (.lst [.int n.key,.int n.work,.int n.page,.int n.genus])) pt (.lst X) pt=some (.lst X):=zc
    generalize upd (upd Hn p4 (.lst [.int n.key,.int n.work,.int n.page,.int n.genus])) pt (.lst X)=H5 at s5 a5 f5
    obtain⟨dn5,fo5,g0,g1,g2,hna0,hfo0,k00,k10,k20⟩:=B.spe n hnm
    have hna5:=s5 _ _ hna0
    have hfo5:=s5 _ _ hfo0
    have k0:=s5 _ _ k00
    have k1:=s5 _ _ k10
    have k2:=s5 _ _ k20
    have hfp:fo5≠pt:=zm hfo0 hpt
    k_go
    refine zdE (a:=fo5) (xs:=[.ref g0,.ref g1,.ref g2]) (H1:=H5) (fun j σ Hm=>∃v4:Option V,σ=[some (.ref b),some (.ref pt),some (.int n.key),some (.ref (na n.key)),v4]/\Same H Hm/\Hm a=some (.lst ((qo (t.species.map (·.key))).map V.int))/\Hm fo5=some (.lst [.ref g0,.ref g1,.ref g2])/\Hm g0=some (.lst (n.masc.map V.int))/\Hm g1=some (.lst (n.fem.map V.int))/\Hm g2=some (.lst (n.neut.map V.int))/\(g0≠pt/\g1≠pt/\g2≠pt) ∧
      Hm pt=some (.lst (X++((([n.masc,n.fem,n.neut].take j).flatMap Vbnlae.row).map V.int)))) (fun R r=>?_) ⟨v4,rfl,s5,a5,hfo5,k0,k1,k2,?_,by rw[f5];simp⟩ (fun i σ Hm _ ⟨_,_,_,_,e,_⟩=>SqL.of e) ?_ ?_
    ·k_go
     exact r
    ·exact⟨zm k00 hpt,zm k10 hpt,zm k20 hpt⟩
    ·rintro j y σ Hm hy ⟨v4,rfl,sm,am,fm,c0,c1,c2,⟨p0,p1,p2⟩,tm⟩
     have:∃(g:Addr) (z:List Int),y=.ref g/\Hm g=some (.lst (z.map V.int))/\z.length<=40/\[n.masc,n.fem,n.neut][j]? = some z:=by
      match j,hy with
      | 0,hy=>exact⟨g0,n.masc,(Option.some.inj hy).symm,c0,m1,rfl⟩
      | 1,hy=>exact⟨g1,n.fem,(Option.some.inj hy).symm,c1,m2,rfl⟩
      | 2,hy=>exact⟨g2,n.neut,(Option.some.inj hy).symm,c2,m3,rfl⟩
      | j+3,hy=>simp at hy
     obtain⟨g,z,rfl,hgz,hzl,hzj⟩:=this
     have hfz:(([n.masc,n.fem,n.neut].take j).flatMap Vbnlae.row).length<=3*41:=vS Vbnlae.row (by simp;omega) fun x hx=>by
      have:=List.mem_of_mem_take hx
      unfold Vbnlae.row
      simp only[Uaf,Ucl,or_false] at this
      rw[Uae]
      rcases this with h | h | h <;> rw[h] <;> omega
     rw[jq Vbnlae.row hzj]
     k_go
     refine Y1 tm ?_
     k_go
     refine⟨g,rfl,z,hgz,by omega,fun p6 H6 s6 e6=>?_⟩
     k_go
     refine XG (s6 _ _ tm) e6 ?_ ?_
     ·simp only[Uaj,Uaa,Uae,Vbnlae.row]
      exact zB (by omega)
     ·have hap:fo5≠pt:=hfp
      k_go
      refine⟨_,rfl,(sm.trans s6).put hpt,?_,?_,?_,?_,?_,⟨p0,p1,p2⟩,?_⟩
      ·rw[zh hne];exact s6 _ _ am
      ·rw[zh hap];exact s6 _ _ fm
      ·rw[zh p0];exact s6 _ _ c0
      ·rw[zh p1];exact s6 _ _ c1
      ·rw[zh p2];exact s6 _ _ c2
      ·rw[zc,Ubc,Ucs]
    ·rintro σ Hm ⟨v4,rfl,sm,am,fm,c0,c1,c2,_,tm⟩
     refine⟨_,_,_,rfl,sm,?_,am,hne⟩
     rw[tm,←hX,eg]
     simp
  ·rintro a σ Hn ⟨v2,v3,v4,rfl,sn,ht,ha,hne⟩
   rw[Uaa,Ubu] at ht
   k_go
   exact q pt Hn sn ht
def zez (x:Vbnlae.Act):List Int:=[x.key,x.kind,x.work,x.a,x.b]
def zaV (t:State):List Int:=(t.acts.length:Int)::t.acts.flatMap zez
theorem qV:zk ["book", "told", "act"] ["book"] (zg (top 97)):=sC
theorem QZ (T:Txt K mg C):FO P w K mg base "told_acts" 1 ["book"] (XX C zaV):=by
 refine T.d_told_acts.ok qV fun f cdv A outer s H vs Q E hr h=>?_
 ·obtain⟨b,rfl,na,t,ps,B,W,q⟩:=h
  obtain⟨dx,wd,gg,sd,l,hb,hwd,hg,hs,hL,n1,n2,n3⟩:=B.ex
  obtain⟨zs,z1,z2,hz⟩:=jd B.act
  have hal:t.acts.length<=81:=W.al
  refine⟨_,(zb (pS 1 qV.nd (zD (za (zG (xQ K) rfl T.nb_len PySem.boot_len (za (zd K (pv 0) rfl) zf)) zf))) (zb (kx PassesOwn.never rfl (zP K (zd K (pv 0) rfl)) (zN (i:=2) qV.nd rfl (Or.inl rfl)) (ze (yu (pBe K (pv 1) (za (zD (za (zd K (pv 2) rfl) (za (zd K (pv 2) rfl) (za (zd K (pv 2) rfl) (za (zd K (pv 2) rfl) (za (zd K (pv 2) rfl) zf)))))) zf))))) (ze (zj (pv 1))))),?_⟩
  k_go
  refine⟨l,_,rfl,.inl (SqL.of hL),?_⟩
  k_go
  refine⟨zK,fun pt hpt=>?_⟩
  have s1:Same H (upd H pt (.lst [.int ((ps.map V.ref).length:Int)])):=Same.new hpt
  have e1:upd H pt (.lst [.int ((ps.map V.ref).length:Int)]) pt=some (.lst [.int (t.acts.length:Int)]):=by rw[zc,Uaa,kI B.act]
  generalize upd H pt (.lst [.int ((ps.map V.ref).length:Int)])=H1 at s1 e1
  k_go
  refine zdE (a:=l) (xs:=zs.map fun z=>V.ref z.1) (H1:=H1) (fun i σ Hn=>∃v2:Option V,σ=[some (.ref b),some (.ref pt),v2]/\Same H Hn/\Hn pt=some (.lst (((t.acts.length:Int)::(t.acts.take i).flatMap zez).map V.int)))
   (fun R r=>?_) ⟨none,rfl,s1,e1⟩ (fun i σ Hn _ ⟨_,_,s,_⟩=>SqL.of (s _ _ (by rw[hL,z1,Uau];rfl))) ?_ ?_
  ·have hb1:=s1 _ _ hb
   k_go
   exact r
  ·rintro i y σ Hn hy ⟨v2,rfl,sn,ht⟩
   obtain⟨z,hz1,rfl⟩:=x3 hy
   have hx:t.acts[i]? = some z.2:=by rw[z2,Ubw,hz1];rfl
   obtain⟨da,ha⟩:=(sn.wk (av:=[])).act (hz z (Uaw hz1))
   have hfl:=yZ zez (n:=81) (m:=5) (l:=t.acts.take i) (by rw[Ubl];omega) (fun x=>Uag _)
   rw[jq zez hx]
   k_go
   refine Y1 ht ?_
   k_go
   refine⟨by show 5<=sizeLine;decide,fun p4 hp4=>?_⟩
   k_go
   refine XG (zS ht hp4) zc ?_ ?_
   ·rw[Uaa,Uae]
    show _+5<=_
    exact zB (by omega)
   ·k_go
    refine⟨_,rfl,(sn.upd hp4).put hpt,?_⟩
    rw[zc]
    show _=some (HO.lst (((((t.acts.length:Int)::(t.acts.take i).flatMap zez)++zez z.2).map V.int)))
    rw[Ubc]
    rfl
  ·rintro σ Hn ⟨v2,rfl,sn,ht⟩
   have el:(zs.map fun z=>V.ref z.1).length=t.acts.length:=by rw[Uaa,z2,Uaa]
   rw[el,Ubu] at ht
   k_go
   exact q pt Hn sn ht
def zfk (t:State):List Int:=[0]++y8 t++y4 t++xH t++zaV t
theorem Wn {t:State} (W:NB.WF t):(y8 t).length<=121/\(y4 t).length<=1081/\(xH t).length<=5081/\(zaV t).length<=406:=by
 have h1:t.works.length<=60:=W.wl
 have h2:t.genera.length<=24:=W.gl
 have h3:t.species.length<=40:=W.sl
 have h4:t.acts.length<=81:=W.al
 refine⟨?_,?_,?_,?_⟩
 ·unfold y8
  have:=yZ (zdC t) (n:=60) (m:=2) (l:=qo (t.works.map (·.key))) (by rw[kJ,Uaa];exact h1) (fun x=>Uag _)
  rw[Uae]
  omega
 ·unfold y4
  have:=yZ (Ko t) (n:=24) (m:=45) (l:=qo (t.genera.map (·.key))) (by rw[kJ,Uaa];exact h2) (Wc W)
  rw[Uae]
  omega
 ·unfold xH
  have:=yZ (zaT t) (n:=40) (m:=127) (l:=qo (t.species.map (·.key))) (by rw[kJ,Uaa];exact h3) (WX W)
  rw[Uae]
  omega
 ·unfold zaV
  have:=yZ zez (n:=81) (m:=5) (l:=t.acts) h4 (fun x=>Uag _)
  rw[Uae]
  omega
theorem KY:zk ["book"] ["book"] (zg (top 98)):=sC
theorem Vl (T:Txt K mg C):FO P w K mg base "tell_all" 3 ["book"] (XX C zfk):=by
 refine T.d_tell_all.ok KY fun f cdv A outer s H vs Q E hr h=>?_
 ·obtain⟨b,rfl,na,t,ps,B,W,q⟩:=h
  obtain⟨l1,l2,l3,l4⟩:=Wn W
  refine⟨_,(ze (zj (jM xn (jM xn (jM xn (jM xn (zD (za zq zf)) (zV (Qq T) hr.m (za (pv 0) zf))) (zV (XT T) hr.m (za (pv 0) zf))) (zV (YC T) hr.m (za (pv 0) zf))) (zV (QZ T) hr.m (za (pv 0) zf))))),?_⟩
  k_go
  refine⟨zK,fun p0 h0=>?_⟩
  have s0:Same H (upd H p0 (.lst [.int 0])):=Same.new h0
  k_go
  refine⟨b,rfl,na,t,ps,B.same s0,W,fun p1 H1 s1 e1=>?_⟩
  refine ql (s1 _ _ zc) e1 (zB (by rw[Uaa];show 1+_<=_;omega)) fun p2 h2=>?_
  have s2:=(s0.trans s1).upd (u:=.lst ([.int 0]++(y8 t).map V.int)) h2
  have f2:upd H1 p2 (.lst ([.int 0]++(y8 t).map V.int)) p2=some (.lst (([0]++y8 t).map V.int)):=by rw[zc,Ubc];rfl
  generalize upd H1 p2 (.lst ([.int 0]++(y8 t).map V.int))=H2 at s2 f2
  k_go
  refine⟨b,rfl,na,t,ps,B.same s2,W,fun p3 H3 s3 e3=>?_⟩
  refine ql (s3 _ _ f2) e3 (zB (by rw[Uaa,Uaa,Uaj];show 1+_+_<=_;omega)) fun p4 h4=>?_
  have s4:=(s2.trans s3).upd (u:=.lst (([0]++y8 t).map V.int++(y4 t).map V.int)) h4
  have f4:upd H3 p4 (.lst (([0]++y8 t).map V.int++(y4 t).map V.int)) p4=some (.lst (([0]++y8 t++y4 t).map V.int)):=by rw[zc,Ubc (l₁:=[0]++y8 t)]
  generalize upd H3 p4 (.lst (([0]++y8 t).map V.int++(y4 t).map V.int))=H4 at s4 f4
  k_go
  refine⟨b,rfl,na,t,ps,B.same s4,W,fun p5 H5 s5 e5=>?_⟩
  refine ql (s5 _ _ f4) e5 (zB (by rw[Uaa,Uaa,Uaj,Uaj];show 1+_+_+_<=_;omega)) fun p6 h6=>?_
  have s6:=(s4.trans s5).upd (u:=.lst (([0]++y8 t++y4 t).map V.int++(xH t).map V.int)) h6
  have f6:upd H5 p6 (.lst (([0]++y8 t++y4 t).map V.int++(xH t).map V.int)) p6=some (.lst (([0]++y8 t++y4 t++xH t).map V.int)):=by rw[zc,Ubc (l₁:=[0]++y8 t++y4 t)]
  generalize upd H5 p6 (.lst (([0]++y8 t++y4 t).map V.int++(xH t).map V.int))=H6 at s6 f6
  k_go
  refine⟨b,rfl,na,t,ps,B.same s6,W,fun p7 H7 s7 e7=>?_⟩
  refine ql (s7 _ _ f6) e7 (zB (by rw[Uaa,Uaa,Uaj,Uaj,Uaj];show 1+_+_+_+_<=_;omega)) fun p8 h8=>q p8 _ ((s6.trans s7).upd h8) ?_
  rw[zc]
  unfold zfk
  rw[Ubc (l₁:=[0]++y8 t++y4 t++xH t)]
end
def RdO (C:Cs) (H:Hp) (r dx lc:Addr) (p:Nat):Prop:=H r=some (.ins C.rd dx (V3 lc (p:Int)))
theorem kM {K:PySem.W.Frag}{H H':Hp}{r a C dx:Addr}{fs:List (Str×V)}{xs:List V} (h:SqL K H a xs) (hr:H r=some (.ins C dx fs)) (s:zv r H H'):SqL K H' a xs:=by
 rcases h with (h | ⟨o,h⟩) | h
 ·exact .inl (.inl (s _ _ (zT h hr (by intro z;cases z)) h))
 ·exact .inl (.inr ⟨o,s _ _ (zT h hr (by intro z;cases z)) h⟩)
 ·exact .inr h
theorem zfY {ls:List Int}{p m:Nat} (h:p+m<=ls.length):zcO (ls.map V.int) (some (p:Int)) (some ((p:Int)+(m:Int)))=((ls.drop p).take m).map V.int:=by
 unfold zcO
 have e:((p:Int)+(m:Int))=((p+m:Nat):Int):=by omega
 rw[e,HT.sIx_nat,HT.sIx_nat,Uaa,Nat.min_eq_left (by omega),Nat.min_eq_left (by omega),←List.map_drop,←List.map_take]
 congr 2
 omega
section
variable {P:Program}{w:World}{K:PySem.W.Frag}{mg:Str->Option Value}{base:Heap}{C:Cs}
inductive zd9 (K:PySem.W.Frag) (C:Cs) (vs:List V) (H:Hp) (Q:VK) (E:XK):Prop
 | mk (r:Addr) (z1:vs=[.ref r]) (dx lc:Addr) (p:Nat) (ls:List Int) (z2:RdO C H r dx lc p) (z3:SqL K H lc (ls.map V.int)) (z4:Q (.bl (decide (ls.length<=p))) H):zd9 K C vs H Q E
theorem w6:zk ["self"] ["self"] (zg (zo (top 115) 1)):=sC
theorem wX (T:Txt K mg C):MO P w K mg base (xl C) "is_done" 1 ["self"] (zd9 K C):=by
 refine MtT.ok T.m_Reader_is_done T.c_Reader w6 fun f cdv A outer s H vs Q E hr h=>?_
 ·obtain⟨r,rfl,dx,lc,p,ls,hr0,hs,q⟩:=h
  unfold RdO at hr0
  refine⟨_,(ze (zj (jL Vh (zd K (pv 0) rfl) (zG (xQ K) rfl T.nb_len PySem.boot_len (za (zd K (pv 0) rfl) zf)) (zu _)))),?_⟩
  k_go
  refine⟨lc,_,rfl,.inl hs,?_⟩
  k_go
  have e:decide (((ls.map V.int).length:Int)<=(p:Int))=decide (ls.length<=p):=by rw[Uaa];simp only[decide_eq_decide];omega
  rw[e]
  exact q
inductive zcD (K:PySem.W.Frag) (C:Cs) (vs:List V) (H:Hp) (Q:VK) (E:XK):Prop
 | mk (r:Addr) (n:Int) (z1:vs=[.ref r,.int n]) (dx lc:Addr) (p:Nat) (ls:List Int) (m:Nat) (z2:n=((m:Nat):Int)) (z3:RdO C H r dx lc p) (z4:SqL K H lc (ls.map V.int)) (z5:p+m<=ls.length) (z6:∀q H',RdO C H' r dx lc (p+m)->zv r H H'->H q=none->H' q=some (.lst (((ls.drop p).take m).map V.int))->Q (.ref q) H'):zcD K C vs H Q E
theorem xu:zk ["self", "how_many", "start"] ["self", "how_many"] (zg (zo (top 115) 2)):=sC
theorem yC (T:Txt K mg C):MO P w K mg base (xl C) "take_numbers" 1 ["self", "how_many"] (zcD K C):=by
 refine MtT.ok T.m_Reader_take_numbers T.c_Reader xu fun f cdv A outer s H vs Q E hr h=>?_
 ·obtain⟨r,n,rfl,dx,lc,p,ls,m,rfl,hr0,hs,hl,q⟩:=h
  unfold RdO at hr0
  refine⟨_,(zb (pS 2 xu.nd (zd K (pv 0) rfl)) (zb (zF K (pv 0) (jM zf4 (pv 2) (pv 1)) rfl) (ze (zj (WV (WB K) (zd K (pv 0) rfl) (Vn (pv 2)) (Vn (zd K (pv 0) rfl))))))),?_⟩
  k_go
  have s1:zv r H (upd H r (.ins C.rd dx (xN "place" (.int ((p:Int)+(m:Int))) (V3 lc (p:Int))))):=zv.set
  have e1:upd H r (.ins C.rd dx (xN "place" (.int ((p:Int)+(m:Int))) (V3 lc (p:Int)))) r=some (.ins C.rd dx (V3 lc ((p+m:Nat):Int))):=by rw[zc];rfl
  have hs1:=kM hs hr0 s1
  have fr:∀y,upd H r (.ins C.rd dx (xN "place" (.int ((p:Int)+(m:Int))) (V3 lc (p:Int)))) y=none->H y=none:=fun y hy=>by
   have:y≠r:=fun q=>by rw[q,zc] at hy;cases hy
   rw[zh this] at hy
   exact hy
  generalize upd H r (.ins C.rd dx (xN "place" (.int ((p:Int)+(m:Int))) (V3 lc (p:Int))))=H1 at s1 e1 hs1 fr
  k_go
  refine⟨lc,_,rfl,hs1,fun y hy=>q y _ (zS e1 hy) (s1.trans (Same.new hy).x) (fr y hy) ?_⟩
  rw[zc]
  show some (HO.lst (zcO (ls.map V.int) (some (p:Int)) (some ((p+m:Nat):Int))))=_
  rw[←zfY hl]
  congr 3
inductive zcd (K:PySem.W.Frag) (C:Cs) (vs:List V) (H:Hp) (Q:VK) (E:XK):Prop
 | mk (r:Addr) (z1:vs=[.ref r]) (dx lc:Addr) (p:Nat) (ls:List Int) (x:Int) (rest:List Int) (z2:RdO C H r dx lc p) (z3:SqL K H lc (ls.map V.int)) (z4:ls.drop p=x::rest) (z5:∀H',RdO C H' r dx lc (p+1)->zv r H H'->Q (.int x) H'):zcd K C vs H Q E
theorem ke:zk ["self"] ["self"] (zg (zo (top 115) 3)):=sC
theorem xK (T:Txt K mg C):MO P w K mg base (xl C) "take_number" 2 ["self"] (zcd K C):=by
 refine MtT.ok T.m_Reader_take_number T.c_Reader ke fun f cdv A outer s H vs Q E hr h=>?_
 ·obtain⟨r,rfl,dx,lc,p,ls,x,rest,hr0,hs,hd,q⟩:=h
  have hr1:=hr0
  unfold RdO at hr1
  refine⟨_,(ze (zj (yr (zA K) (xb (yC T) hr.m (pv 0) (za zq zf)) zq (fun _ _=>rfl)))),?_⟩
  k_go
  refine⟨r,1,rfl,dx,lc,p,ls,1,rfl,hr0,hs,(NB.q0 hd).1,fun y H1 h1 s1 _ e1=>?_⟩
  k_go
  rw[hd] at e1
  refine yX (i:=0) (SqL.of e1) rfl ?_
  exact q H1 h1 s1
inductive zb9 (K:PySem.W.Frag) (C:Cs) (vs:List V) (H:Hp) (Q:VK) (E:XK):Prop
 | mk (r:Addr) (z1:vs=[.ref r]) (dx lc:Addr) (p:Nat) (ls x s:List Int) (z2:RdO C H r dx lc p) (z3:SqL K H lc (ls.map V.int)) (z4:PyFlat.row (ls.drop p)=some (x,s)) (z5:∀y H' p',RdO C H' r dx lc p'->ls.drop p'=s->zv r H H'->H y=none->H' y=some (.lst (x.map V.int))->Q (.ref y) H'):zb9 K C vs H Q E
theorem wg:zk ["self"] ["self"] (zg (zo (top 115) 4)):=sC
theorem wy (T:Txt K mg C):MO P w K mg base (xl C) "take_row" 3 ["self"] (zb9 K C):=by
 refine MtT.ok T.m_Reader_take_row T.c_Reader wg fun f cdv A outer s H vs Q E hr h=>?_
 ·obtain⟨r,rfl,dx,lc,p,ls,x,s',hr0,hs,hrow,q⟩:=h
  have hr1:=hr0
  unfold RdO at hr1
  obtain⟨n,rest,hd,hn,hl,rfl,rfl⟩:=NB.Wl hrow
  obtain⟨hlt,_,hd1⟩:=NB.q0 hd
  refine⟨_,(ze (zj (xb (yC T) hr.m (pv 0) (za (VU (xK T) hr.m (pv 0)) zf)))),?_⟩
  k_go
  refine⟨r,rfl,dx,lc,p,ls,n,rest,hr0,hs,hd,fun H1 h1 s1=>?_⟩
  k_go
  have hlen:p+1+n.toNat<=ls.length:=by
   have:=congrArg List.length hd1
   rw[Uby] at this
   omega
  have fr:∀y,H1 y=none->H y=none:=fun y hy=>by
   cases e:H y with
   | none=>rfl
   | some o=>
    have:y≠r:=fun q=>by rw[q] at hy;unfold RdO at h1;rw[h1] at hy;cases hy
    rw[s1 _ _ this e] at hy
    cases hy
  refine⟨r,n,rfl,dx,lc,p+1,ls,n.toNat,by omega,h1,kM hs hr1 s1,hlen,fun y H2 h2 s2 hy e2=>q y H2 _ h2 ?_ (s1.trans s2) (fr y hy) ?_⟩
  ·rw[←hd1,List.drop_drop]
  ·rw[e2,hd1]
theorem ze7 (T:Txt K mg C):InO P w K mg base C.cl "Call" 1 ["self", "number", "numbers", "rows"] (zbr C):=zeH T
theorem Ku {p:Int}{n k:Nat} (h:PyVbnlae.shape p=some (n,k)):Wh.lookup p=some [.int (n:Int),.int (k:Int)]/\n<=4/\k<=3:=by
 rcases NB.vi h with h | h | h | h | h | h | h | h | h | h | h | h | h | h | h | h | h | h | h | h | h | h | h | h
 all_goals (obtain⟨rfl,rfl,rfl⟩:=h;exact⟨rfl,by omega,by omega⟩)
inductive zcb (K:PySem.W.Frag) (C:Cs) (vs:List V) (H:Hp) (Q:VK) (E:XK):Prop
 | mk (r:Addr) (z1:vs=[.ref r]) (dx lc:Addr) (p:Nat) (ls:List Int) (n:Int) (nums:List Int) (rows:List (List Int)) (t:List Int) (z2:RdO C H r dx lc p) (z3:SqL K H lc (ls.map V.int)) (z4:PyFlat.call PyVbnlae.shape (ls.drop p)=some ((n::nums)::rows,t)) (z5:∀c H' p',RdO C H' r dx lc p'->ls.drop p'=t->zv r H H'->wC C H' c n nums rows->Q (.ref c) H'):zcb K C vs H Q E
theorem zM:zk ["self", "number", "shape", "numbers", "rows", "turn"] ["self"] (zg (zo (top 115) 5)):=sC
def qD:Scope:=match zH (zo (top 115) 5) with
 | (_::_::_::(.Assign _ (.ListComp _ _ sc _) _)::_)=>sc
 | _=>zg (zo (top 115) 5)
theorem qS:jI ["self", "number", "shape", "numbers", "rows", "turn"] (zg (zo (top 115) 5)) qD [("turn",5)]:=bC
theorem vp (T:Txt K mg C):MO P w K mg base (xl C) "take_call" 4 ["self"] (zcb K C):=by
 refine MtT.ok T.m_Reader_take_call T.c_Reader zM fun f cdv A outer s H vs Q E hr h=>?_
 ·obtain⟨r,rfl,dx,lc,p,ls,num,nums,rows,t,hr0,hs,hcall,q⟩:=h
  have hr1:=hr0
  unfold RdO at hr1
  cases hd:ls.drop p with
  | nil=>rw[hd] at hcall;cases hcall
  | cons x0 rest=>
  rw[hd] at hcall
  obtain⟨n,k,xs,hsh,hn,hrows,e⟩:=NB.Y6 hcall
  injection e with e1 e2
  injection e1 with e3 e4
  subst e2 e3 e4
  obtain⟨hlk,hn4,hk3⟩:=Ku hsh
  obtain⟨hlt,_,hd1⟩:=NB.q0 hd
  refine⟨_,(zb (pS 1 zM.nd (VU (xK T) hr.m (pv 0))) (zb (pS 2 zM.nd (zec K T.g_SHAPES (pv 1) (fun _ _=>rfl))) (zb (pS 3 zM.nd (xb (yC T) hr.m (pv 0) (za (yr (qm K) (pv 2) zq (fun _ _=>rfl)) zf))) (zb (kK (i:=4) rfl zM.nd rfl rfl (Zv rfl rfl rfl rfl) (zcv rfl T.nb_range (za (yr (qm K) (pv 2) zq (fun _ _=>rfl)) zf)) qS (fun _ _ _ _ _=>zN (i:=5) zM.nd rfl (Or.inl rfl)) (fun _ _ _ _ _=>Zd) (fun _ _ _ _ _=>(VU (wy T) hr.m (pv 0)))) (ze (zj (wf (ze7 T) hr.m (za (pv 1) (za (pv 3) (za (pv 4) zf)))))))))),?_⟩
  k_go
  refine⟨r,rfl,dx,lc,p,ls,num,rest,hr0,hs,hd,fun H1 h1 s1=>?_⟩
  have h1':=h1
  unfold RdO at h1'
  have hs1:=kM hs hr1 s1
  k_go
  refine ziz ?_
  k_go
  refine⟨_,_,rfl,hlk,fun tb htb=>?_⟩
  k_go
  refine Qu (i:=0) htb rfl ?_
  k_go
  have hlen:p+1+n<=ls.length:=by
   have:=congrArg List.length hd1
   rw[Uby] at this
   omega
  refine⟨r,n,rfl,dx,lc,p+1,ls,n,rfl,h1,hs1,hlen,fun a2 H2 h2 s2 hf2 e2=>?_⟩
  have htb2:SqT K H2 tb [.int (n:Int),.int (k:Int)]:=by
   rcases htb with (htb | ⟨o,htb⟩) | htb
   ·exact .inl (.inl (s2 _ _ (zT htb h1' (by intro z;cases z)) htb))
   ·exact .inl (.inr ⟨o,s2 _ _ (zT htb h1' (by intro z;cases z)) htb⟩)
   ·exact .inr htb
  have h2':=h2
  unfold RdO at h2'
  have hs2:=kM hs1 h1' s2
  rw[hd1] at e2
  have hd2:ls.drop (p+1+n)=rest.drop n:=by rw[←hd1,List.drop_drop]
  k_go
  refine ziS ?_
  show zc3 _ _ _ _ _
  k_go
  refine Qu (i:=1) htb2 rfl ?_
  k_go
  refine⟨(k:Int),rfl,by omega,by omega,fun D hD=>?_⟩
  refine zdv (n:=((k:Int)).toNat) (fun i Hn=>∃(rs:List Addr) (p':Nat),Hn D=some (.lst (rs.map V.ref))/\Paired (fun a r=>a≠D/\Hn a=some (.lst (r.map V.int))) rs (rows.take i)/\RdO C Hn r dx lc p'/\PyFlat.rows (k-i) (ls.drop p')=some (rows.drop i,t)/\zv r H2 Hn)
   ⟨[],p+1+n,zc,.nil,zS h2' hD,by rw[hd2];exact hrows,(Same.new hD).x⟩ (fun i Hn hi ⟨rs,p',g1,g2,g3,g4,g5⟩=>⟨rfl,?_⟩) fun Hn ⟨rs,p',g1,g2,g3,g4,g5⟩=>?_
  ·have hi':i<k:=by omega
   obtain⟨m,em⟩:∃m,k-i=m+1:=⟨k-i-1,by omega⟩
   rw[em] at g4
   obtain⟨x,s',ys,f1,f2,f3⟩:=NB.YQ g4
   have g3':=g3
   unfold RdO at g3'
   k_go
   refine zQ ?_
   k_go
   refine⟨r,rfl,dx,lc,p',ls,x,s',g3,kM hs2 h2' g5,f1,fun y Hm p2 k1 k2 k3 k4 k5=>⟨_,k3 _ _ (zT g1 g3' (by intro z;cases z)) g1,?_,rs++[y],p2,?_,?_,?_,?_,?_⟩⟩
   ·have:rs.length<=3:=by
     have:=kI g2
     rw[Ubl] at this
     omega
    rw[Uaa,sizeLine_eq]
    omega
   ·rw[zc,Ubc]
    rfl
   ·have hx:rows[i]? = some x:=by
     have:=congrArg (fun z=>z[0]?) f3
     simpa using this
    have hyD:y≠D:=(zm g1 k4).symm
    have hDm:Hm D=some (.lst (rs.map V.ref)):=k3 _ _ (zT g1 g3' (by intro z;cases z)) g1
    rw[je hx]
    refine qt (zE (fun a z e=>⟨e.1,?_⟩) g2) ⟨hyD,by rw[zh hyD];exact k5⟩
    rw[zh e.1]
    exact k3 _ _ (zT e.2 g3' (by intro z;cases z)) e.2
   ·unfold RdO at k1 ⊢
    rw[zh (zT k1 (k3 _ _ (zT g1 g3' (by intro z;cases z)) g1) (by intro z;cases z))]
    exact k1
   ·rw[show k-(i+1)=m by omega,k2,←List.drop_drop,f3]
    exact f2
   ·intro b o hb e
    rw[zh (zm e hD)]
    exact k3 _ _ hb (g5 _ _ hb e)
  ·have ek:((k:Int)).toNat=k:=by omega
   rw[ek] at g2 g4
   rw[Nat.sub_self] at g4
   have hrl:=NB.ZZ hrows
   rw[List.take_of_length_le (by omega)] at g2
   have ht:ls.drop p'=t:=by
    have:=g4
    rw[PyFlat.rows] at this
    have:=Option.some.inj this
    injection this
   have g3':=g3
   unfold RdO at g3'
   k_go
   intro x dy hx hdy hne
   refine⟨x,num,a2,D,rfl,dy,zc,fun H5 e5 s5=>⟨rfl,?_⟩⟩
   have s5:Same Hn H5:=made hx hdy s5
   refine q x H5 p' (s5 _ _ g3') ht (((s1.trans s2).trans g5).trans s5.x) ⟨dy,a2,D,rs,e5,s5 _ _ (g5 _ _ (zT e2 h2' (by intro z;cases z)) e2),s5 _ _ g1,zE (fun a z e=>s5 _ _ e.2) g2⟩
end
section
variable {P:Program}{w:World}{K:PySem.W.Frag}{mg:Str->Option Value}{base:Heap}{C:Cs}
def zO (t:State) (d:Int):List Int:=(Vbnlae.days t).filter fun x=>decide (d<=x)
theorem qc (t:State) (d:Int):(zO t d).Pairwise (· < ·):=List.Pairwise.sublist Ucw (NB.zb0 t)
theorem xJ {t:State}{d z:Int}:z∈zO t d↔(z∈t.works.map fun x=>x.day)/\d<=z:=by
 unfold zO
 rw[Uah,NB.WL];simp
theorem zh6 {l:List Int} (h:l.Pairwise (·<=·)) (n:l.Nodup):l.Pairwise (· < ·):=by
 induction l with
 | nil=>exact .nil
 | cons a l ih=>
  rw[Uao] at h ⊢
  rw[Uce] at n
  refine⟨fun z hz=>?_,ih h.2 n.2⟩
  have h1:=h.1 z hz
  have h2:a≠z:=fun q=>n.1 (q▸hz)
  omega
theorem qF {t:State} (W:NB.WF t) (d:Int):(zO t d).length<=60:=by
 have nd:(zO t d).Nodup:=(qc t d).imp fun h=>by omega
 have hs:zO t d ⊆ t.works.map fun x=>x.day:=fun z hz=>(xJ.mp hz).1
 have:=List.Nodup.length_le_of_subset nd hs
 rw[Uaa] at this
 exact Ubb this W.wl
inductive X3 (C:Cs) (vs:List V) (H:Hp) (Q:VK) (E:XK):Prop
 | mk (b:Addr) (d:Int) (z1:vs=[.ref b,.int d]) (t w g s l dx) (z2:H b=some (.ins C.bk dx (XC w g s l))) (z3:H w=some (.dK (kz t))) (z4:NB.WF t) (z5:∀p H',Same H H'->H p=none->H' p=some (.lst ((zO t d).map V.int))->Q (.ref p) H'):X3 C vs H Q E
theorem qK:zk ["book", "first_day", "day"] ["book", "first_day"] (zg (top 119)):=sC
def Yh:Scope:=match zH (top 119) with
 | ((.Return (some (.Call _ ((.Call _ ((.ListComp _ _ sc _)::_) _ _)::_) _ _)) _)::_)=>sc
 | _=>zg (top 119)
theorem Xx:jI ["book", "first_day", "day"] (zg (top 119)) Yh [("day",2)]:=bC
theorem Ke (T:Txt K mg C):FO P w K mg base "days_from" 1 ["book", "first_day"] (X3 C):=by
 refine T.d_days_from.ok qK fun f cdv A outer s H vs Q E hr h=>?_
 ·obtain⟨b,d,rfl,t,wd,g,s,l,dx,hb,hw,W,q⟩:=h
  refine⟨_,(ze (zj (zG (Xq rfl) rfl T.nb_sorted PyProof.Rows.boot_sorted (za (j5 (zbh rfl) rfl T.nb_set PyProof.Rows.boot_set (za (VN (XH rfl qK.nd (qJ (zd K (pv 0) rfl)) Xx (fun _ _ _ _ _=>zN (i:=2) qK.nd rfl (Or.inl rfl)) (fun _ _ _ _ _=>(jF (zp Vh (pv 2) (pv 1) (zu _)))) (fun _ _ _ _ _=>(pv 2)))) zf)) zf)))),?_⟩
  have hwl:t.works.length<=60:=W.wl
  k_go
  refine Qc (d:=wd) t.works (fun x=>V.int x.day) (fun x=>decide (d<=x.day)) (fun x=>V.int x.day) hw (by unfold kz;rw[Uau];rfl) (by rw[sizeLine_eq];omega) (fun o R z=>?_) (fun _=>rfl) (fun o x hx H1 s1=>?_) fun D H1 s1 hD0 hD=>?_
  ·have hb1:=(xz (av:=[]) (o:=o) hw).ins hb
   k_go
   exact z
  ·refine⟨fun QT q=>?_,fun _ Q q=>?_⟩
   ·k_go
    exact q H1 (Same.refl _)
   ·k_go
    exact q H1 (Same.refl _)
  ·have hfl:(t.works.filter fun x=>decide (d<=x.day)).length<=60:=Ubb (Uan _ _) hwl
   k_go
   refine⟨D,(t.works.filter fun x=>decide (d<=x.day)).map (fun x=>x.day),rfl,by rw[hD,Uau];rfl,by rw[Uaa];omega,fun a ms ha nd hlm hm=>?_⟩
   k_go
   rw[Uaa] at hlm
   refine⟨a,ms,rfl,zc,by omega,fun l2 ms2 hl2 p2 s2=>?_⟩
   have e:ms2=zO t d:=by
    refine NB.zej (zh6 s2 (p2.nodup_iff.mpr nd)) (qc t d) fun z=>?_
    rw[p2.mem_iff,hm,xJ,Uaq,Uaq]
    constructor
    ·rintro⟨x,hx,rfl⟩
     rw[Uah] at hx
     exact⟨⟨x,hx.1,rfl⟩,of_decide_eq_true hx.2⟩
    ·rintro⟨⟨x,hx,rfl⟩,h⟩
     exact⟨x,Uah.mpr ⟨hx,Uac h⟩,rfl⟩
   subst e
   exact q l2 _ ((s1.upd ha).upd hl2) (s1.free ((Same.new ha).free hl2)) zc
end
section
variable {P:Program}{w:World}{K:PySem.W.Frag}{mg:Str->Option Value}{base:Heap}{C:Cs}
def K8 (t:State) (k:Int):List Int:=match Vbnlae.placeOf t k with
 | none=>[-6]
 | some p=>0::NB.wP (fun d=>Vbnlae.bar t d k) p.1 (0,0) (zO t p.1)
def dsH (t:State) (d:Int):List Int:=zO t d++t.acts.map (·.day)
theorem zfC {t:State} (W:NB.WF t) (d:Int):(dsH t d).length<1000:=by
 unfold dsH
 rw[Uaj,Uaa]
 have h1:=W.al
 have h2:=qF W d
 unfold Vbnlae.ACTS at h1
 omega
theorem zdq (t:State) (d:Int):∀x∈t.acts,x.day∈dsH t d:=fun x hx=>Uaz _ (Ubg hx)
theorem zhS {t:State}{d x:Int} (h:x∈zO t d):x∈dsH t d:=Ubj _ h
theorem zeX {H:Hp}{p pf:Addr}{xs ys zs:List V} (e:SqT K H p xs) (h:H pf=some (.lst ys)):SqT K (upd H pf (.lst zs)) p xs:=by
 rcases e with (e | ⟨o,e⟩) | e
 ·exact .inl (.inl (by rw[zh (fun q=>by rw[q,h] at e;cases e)];exact e))
 ·exact .inl (.inr ⟨o,by rw[zh (fun q=>by rw[q,h] at e;cases e)];exact e⟩)
 ·exact .inr e
theorem zcS {H H':Hp}{p:Addr}{xs:List V} (e:SqT K H p xs) (s:Same H H'):SqT K H' p xs:=by
 rcases e with (e | ⟨o,e⟩) | e
 ·exact .inl (.inl (s _ _ e))
 ·exact .inl (.inr ⟨o,s _ _ e⟩)
 ·exact .inr e
theorem wS (t:State) (k:Int):Vbnlae.isName t k=(Vbnlae.placeOf t k).isSome:=by
 unfold Vbnlae.isName Vbnlae.isGenus Vbnlae.isSpecies Vbnlae.placeOf
 cases Vbnlae.genusOf t k with
 | some g=>rfl
 | none=>simp
theorem ze2 (b c:Int×Int):decide ([b.1,b.2]=[c.1,c.2])=decide (b=c):=by
 obtain⟨x,y⟩:=b
 obtain⟨u,v⟩:=c
 by_cases h:x=u/\y=v
 ·obtain⟨rfl,rfl⟩:=h;simp
 ·rw[Uab (fun e=>h (by injection e with e1 e2;injection e2 with e2 e3;exact⟨e1,e2⟩)),Uab (fun e=>h (by injection e with e1 e2;exact⟨e1,e2⟩))]
theorem Ju (f:Int->Int×Int) (d0:Int) (b:Int×Int) (d:Int) (r:List Int):NB.wP f d0 b (d::r)=(if d=d0\/f d≠b then [d,(f d).1,(f d).2] else [])++NB.wP f d0 (f d) r:=rfl
theorem KM (f:Int->Int×Int) (d0:Int) (b:Int×Int):NB.wP f d0 b []=[]:=rfl
theorem zZ:zk ["book", "call", "name", "timeline", "answer", "bar_before", "d", "bar"] ["book", "call"] (zg (top 120)):=sC
theorem XE (T:Txt K mg C):FO P w K mg base "ask_history" 11 ["book", "call"] (spQ C (fun _ ns _=>ns.length=1) fun t ns _=>K8 t (nth ns 0)):=by
 refine T.d_ask_history.ok zZ fun f cdv A outer s H vs Q E hr h=>?_
 ·obtain⟨bk,c,rfl,na,t,ps,m,ns,rows,B,⟨dc,la,lr,rs,hc,hla,hlr,hrs⟩,W,hok,q⟩:=h
  match ns,hok with
  | [k],_=>
  replace q:∀p H',Same H H'->H' p=some (.lst ((K8 t k).map V.int))->Q (.ref p) H':=q
  obtain⟨dx,wd,gg,sd,l,hb,hwd,hg,hs,hL,n1,n2,n3⟩:=B.ex
  refine⟨_,(zb (pS 2 zZ.nd (xb (j6 T) hr.m (pv 0) (za (yr (zA K) (zd K (pv 1) rfl) zq (fun _ _=>rfl)) zf))) (zb (zy (zp zgZ (pv 2) zeh (zu _)) (ze (zj (zD (za (zC T.g_NOT_THERE) zf)))) zn) (zb (pS 3 zZ.nd (wf (y3 T) hr.m (za (pv 0) (za (zd K (pv 0) rfl) zf)))) (zb (pS 4 zZ.nd (zD (za zq zf))) (zb (pS 5 zZ.nd (jz K T.g_NO_BAR)) (zb (kx PassesOwn.never rfl (zP K (zV (Ke T) hr.m (za (pv 0) (za (zd K (pv 2) rfl) zf)))) (zN (i:=6) zZ.nd rfl (Or.inl rfl)) (zb (pS 7 zZ.nd (zV (j0 T) hr.m (za (pv 3) (za (pv 6) (za (pv 2) zf))))) (zb (zy (PW.pt (Vm (zp yA (pv 6) (zd K (pv 2) rfl) (zu _)) (YW (zp (VS K hr) (pv 7) (pv 5) (zu _))))) (ze (yu (pBe K (pv 4) (za (zD (za (pv 6) (za (yr (qm K) (pv 7) zq (fun _ _=>rfl)) (za (yr (qm K) (pv 7) zq (fun _ _=>rfl)) zf)))) zf)))) zn) (ze (pS 5 zZ.nd (pv 7)))))) (ze (zj (pv 4))))))))),?_⟩
  unfold K8 at q
  k_go
  refine yX (i:=0) (SqL.of hla) rfl ?_
  k_go
  refine⟨bk,k,rfl,na,[],t,B.p.n,?_⟩
  rw[wS]
  cases hp:Vbnlae.placeOf t k with
  | none=>
   rw[hp] at q
   k_go
   refine⟨rfl,?_⟩
   k_go
   refine zQ ?_
   k_go
   exact⟨zK,fun p hp=>q p _ (Same.new hp) zc⟩
  | some p=>
   rw[hp] at q
   have hk0:(Vbnlae.placeOf t k).isSome=true:=by rw[hp];rfl
   rw[if_pos (show (some p).isSome=true from rfl)]
   k_go
   refine⟨rfl,?_⟩
   k_go
   refine zL ?_
   k_go
   intro x dy hx hdy hne
   refine⟨x,bk,l,rfl,dy,zc,fun H1 vd hv e1 e2 s1=>⟨rfl,?_⟩⟩
   have s1:Same H H1:=made hx hdy s1
   have hv:=jl hne hv
   have L1:TL C na [vd] (dsH t p.1) H1 x t vd:=zeA (dsH t p.1) B.p hL (Ji B.act) (fun z hz=>by simp at hz) s1 hv e1 e2
   have B1v:BkP C na [vd] H1 bk t:=(B.p.more hv).same s1
   k_go
   refine⟨zK,fun pf hpf=>?_⟩
   have s2:Same H1 (upd H1 pf (.lst [.int 0])):=Same.new hpf
   have e2':upd H1 pf (.lst [.int 0]) pf=some (.lst [.int 0]):=zc
   generalize upd H1 pf (.lst [.int 0])=H2 at s2 e2'
   k_go
   refine V0 fun pb0 hpb0=>?_
   k_go
   have B2v:=B1v.same s2
   obtain⟨pk,hpk',Cl,dn,fs,hS,hna,l1,l2,l3,l4,l5⟩:=B2v.n.nmk hk0
   rw[hp] at hpk'
   cases hpk'
   have hb2:=s2 _ _ (s1 _ _ hb)
   have hw2:=s2 _ _ (s1 _ _ hwd)
   refine Xf (xs:=(zO t p.1).map V.int) (fun a Hn=>Same H2 Hn/\Hn a=some (.lst ((zO t p.1).map V.int))/\a≠pf)
    (fun a i σ Hn=>∃(pb:Addr) (v6 v7:Option V) (b:Int×Int) (acc:List Int),σ=[some (.ref bk),some (.ref c),some (.ref (na k)),some (.ref x),some (.ref pf),some (.ref pb),v6,v7]/\yU [vd] H1 Hn/\TL C na [vd] (dsH t p.1) Hn x t vd/\Hn pf=some (.lst ((0::acc).map V.int))/\Hn a=some (.lst ((zO t p.1).map V.int))/\a≠pf/\vQ K Hn pb b/\acc.length<=3*i ∧
     acc++NB.wP (fun d=>Vbnlae.bar t d k) p.1 b ((zO t p.1).drop i)=NB.wP (fun d=>Vbnlae.bar t d k) p.1 (0,0) (zO t p.1))
    (fun R r=>?_) (fun a Hn ⟨g1,g2,g3⟩=>⟨pb0,none,none,(0,0),[],rfl,s2.v.trans g1.v,g1.tl (s2.tl L1),g1 _ _ e2',g2,g3,hpb0.sq Hn,Uax _,rfl⟩) (fun a i σ Hn _ ⟨_,_,_,_,_,_,_,_,_,e,_⟩=>SqL.of e) ?_ ?_
   ·k_go
    refine⟨bk,p.1,rfl,t,wd,gg,sd,l,dx,hb2,hw2,W,fun a H3 s3 ha e3=>r a H3 ⟨s3,e3,(zm e2' ha).symm⟩⟩
   ·rintro a i y σ Hn hy ⟨pb,v6,v7,b,acc,rfl,sn,Ln,hf,ha,hapf,hpb,hal,hac⟩
    obtain⟨d,hd,rfl⟩:=x3 hy
    have hdm:=Uaw hd
    have hil:i<(zO t p.1).length:=(Ubh.mp hd).1
    have hdl:=qF W p.1
    have hdr:(zO t p.1).drop i=d::(zO t p.1).drop (i+1):=by
     rw[Ucu hil]
     rw[Uai hil] at hd
     rw[Option.some.inj hd]
    rw[hdr] at hac
    rw[Ju] at hac
    k_go
    refine⟨x,d,na k,rfl,na,[vd],dsH t p.1,t,vd,k,Ln,zdq t p.1,zhS hdm,hk0,rfl,zfC W p.1,W,fun p2 H3 s3 L3 hp2=>?_⟩
    have sv3:yU [vd] Hn H3:=s3.v L1.m
    have f3:=(Ln.wk s3).lst hf
    have a3:=(Ln.wk s3).lst ha
    have sn3:=sn.trans sv3
    have hpb3:SqT K H3 pb ([b.1,b.2].map V.int):=Ln.sqT s3 hpb
    obtain⟨pk,hpk',Cl3,dn3,fs3,hS3,hna3,m1,m2,m3,m4,m5⟩:=(B1v.samev sn3 L1.avs).n.nmk hk0
    rw[hp] at hpk'
    cases hpk'
    k_go
    refine VX (b:=!decide (Vbnlae.bar t d k=b)) (fun z=>?_) ?_
    ·k_go
     refine⟨p2,pb,_,_,rfl,rfl,hp2,hpb3,?_⟩
     k_go
     rw[ze2]
     exact z
    by_cases hcc:d=p.1\/Vbnlae.bar t d k≠b
    ·have ec:(decide (d=p.1)||!decide (Vbnlae.bar t d k=b))=true:=by
      rcases hcc with h | h
      ·rw[Uac h];rfl
      ·rw[Uab h];exact Bool.or_true _
     rw[ec]
     refine zQ ?_
     rw[if_pos hcc] at hac
     k_go
     refine Y1 f3 ?_
     k_go
     refine Qu (i:=0) hp2 rfl ?_
     k_go
     refine Qu (i:=1) hp2 rfl ?_
     k_go
     refine⟨by show 3<=sizeLine;decide,fun p4 hp4=>?_⟩
     k_go
     refine XG (zS f3 hp4) zc ?_ ?_
     ·rw[Uaa,Uae]
      show _+3<=_
      exact zB (by omega)
     have s4:Same H3 (upd H3 p4 (.lst [.int d,.int (Vbnlae.bar t d k).1,.int (Vbnlae.bar t d k).2])):=Same.new hp4
     have f4:=s4 _ _ f3
     have a4:=s4 _ _ a3
     have L4:=s4.tl L3
     have sn4:=sn3.trans s4.v
     have hp4':=zcS hp2 s4
     generalize upd H3 p4 (.lst [.int d,.int (Vbnlae.bar t d k).1,.int (Vbnlae.bar t d k).2])=H4 at s4 f4 a4 L4 sn4 hp4'
     k_go
     refine⟨p2,_,_,Vbnlae.bar t d k,acc++[d,(Vbnlae.bar t d k).1,(Vbnlae.bar t d k).2],rfl,sn4.set hpf,L1.lst sn4 L4 hpf f4,?_,?_,hapf,zeX hp4' f4,?_,?_⟩
     ·rw[zc]
      show _=some (HO.lst (((0::acc)++[d,(Vbnlae.bar t d k).1,(Vbnlae.bar t d k).2]).map V.int))
      rw[Ubc]
      rfl
     ·rw[zh hapf]
      exact a4
     ·rw[Uaj];show _+3<=_;omega
     ·rw[Ucs]
      exact hac
    ·have ec:(decide (d=p.1)||!decide (Vbnlae.bar t d k=b))=false:=by
      rw[Uab fun h=>hcc (.inl h),Uac (Classical.not_not.mp fun h=>hcc (.inr h))];rfl
     rw[ec]
     refine zL ?_
     rw[if_neg hcc,List.nil_append] at hac
     k_go
     refine⟨p2,_,_,Vbnlae.bar t d k,acc,rfl,sn3,L3,f3,a3,hapf,hp2,by omega,hac⟩
   ·rintro a σ Hn ⟨pb,v6,v7,b,acc,rfl,sn,Ln,hf,ha,hapf,hpb,hal,hac⟩
    rw[Uaa,List.drop_length] at hac
    rw[KM,Ubo] at hac
    k_go
    refine q pf Hn (Jo s1 (fun z hz=>by rw[Uam.mp hz];exact hv) sn) ?_
    rw[hf,hac]
end
section
variable {P:Program}{w:World}{K:PySem.W.Frag}{mg:Str->Option Value}{base:Heap}{C:Cs}
def zca (t:State) (n:Int) (ns:List Int) (rows:List (List Int)):State×List Int:=
 if n=0 then (zas t (nth ns 0) (nth ns 1),[yW t (nth ns 0) (nth ns 1)])
 else if n=1 then (XW t (nth ns 0) (nth ns 1) (nth ns 2) (nth ns 3) (rows.getD 0 []),[yB t (nth ns 0) (nth ns 1) (nth ns 2) (nth ns 3) (rows.getD 0 [])])
 else (kG t (nth ns 0) (nth ns 1) (nth ns 2) (nth ns 3) (rows.getD 0 []) (rows.getD 1 []) (rows.getD 2 []),[zY t (nth ns 0) (nth ns 1) (nth ns 2) (nth ns 3) (rows.getD 0 []) (rows.getD 1 []) (rows.getD 2 [])])
def Yz (n:Int) (ns:List Int) (rows:List (List Int)):Prop:=(n=0/\ns.length=2)\/(n=1/\ns.length=4/\∃x,rows=[x]/\x.length<=sizeLine)\/(n=2/\ns.length=4/\∃x y z,rows=[x,y,z]/\x.length<=sizeLine/\y.length<=sizeLine/\z.length<=sizeLine)
inductive spW (C:Cs) (ok:State->Int->List Int->List (List Int)->Prop) (f:State->Int->List Int->List (List Int)->State×List Int) (vs:List V) (H:Hp) (Q:VK) (E:XK):Prop
 | mk (b c:Addr) (z1:vs=[.ref b,.ref c]) (na t ps n ns rows) (z2:BkW C na H b t ps) (z3:wC C H c n ns rows) (z4:NB.WF t) (z5:ok t n ns rows) (z6:∀H' p na' ps',BkW C na' H' b (f t n ns rows).1 ps'->yT b H H'->H' p=some (.lst ((f t n ns rows).2.map V.int))->Q (.ref p) H'):spW C ok f vs H Q E
theorem Xi:zk ["book", "call"] ["book", "call"] (zg (top 126)):=sC
theorem YV (T:Txt K mg C):FO P w K mg base "answer_entry" 5 ["book", "call"] (spW C (fun _=>Yz) zca):=by
 refine T.d_answer_entry.ok Xi fun f cdv A outer s H vs Q E hr h=>?_
 ·obtain⟨b,c,rfl,na,t,ps,n,ns,rows,B,CA,W,hok,q⟩:=h
  obtain⟨dc,la,lr,rs,hc,_⟩:=id CA
  refine⟨_,(zb (zy (zp yA (zd K (pv 1) rfl) zq (zu _)) (ze (zj (zV (Va T) hr.m (za (pv 0) (za (pv 1) zf))))) zn) (zb (zy (zp yA (zd K (pv 1) rfl) zq (zu _)) (ze (zj (zV (Km T) hr.m (za (pv 0) (za (pv 1) zf))))) zn) (ze (zj (zV (Xs T) hr.m (za (pv 0) (za (pv 1) zf))))))),?_⟩
  k_go
  rcases hok with ⟨rfl,h2⟩ | ⟨rfl,h4,x,rfl,hx⟩ | ⟨rfl,h4,x,y,z,rfl,hx⟩
  ·match ns,h2 with
   | [k,d],_=>
   refine zQ ?_
   k_go
   exact⟨b,c,rfl,na,t,ps,_,_,k,d,B,CA,fun H' p B' s e=>q H' p na ps B' s e⟩
  ·match ns,h4 with
   | [k,v,pg,g],_=>
   refine zL ?_
   k_go
   refine zQ ?_
   k_go
   exact⟨b,c,rfl,na,t,ps,_,x,k,v,pg,g,B,CA,hx,fun H' p na' B' s e=>q H' p na' ps B' s e⟩
  ·match ns,h4 with
   | [k,v,pg,g],_=>
   refine zL ?_
   k_go
   refine zL ?_
   k_go
   exact⟨b,c,rfl,na,t,ps,_,x,y,z,k,v,pg,g,B,CA,hx,fun H' p na' B' s e=>q H' p na' ps B' s e⟩
def aN (n:Int):State->Int->Int->List Int:=if n=10 then Qb else if n=11 then zba else if n=12 then Y2 else if n=13 then zhg else if n=14 then KU else if n=15 then Vb else if n=16 then Jn else zfE
inductive zcx (C:Cs) (vs:List V) (H:Hp) (Q:VK) (E:XK):Prop
 | mk (n:Int) (tl:Addr) (d:Int) (a:Addr) (z1:vs=[.int n,.ref tl,.int d,.ref a]) (z2:Xo C (aN n) [.ref tl,.int d,.ref a] H Q E0):zcx C vs H Q E
theorem Za:zk ["number", "timeline", "d", "name"] ["number", "timeline", "d", "name"] (zg (top 127)):=sC
theorem wJ (T:Txt K mg C):FO P w K mg base "ask_about_name" 13 ["number", "timeline", "d", "name"] (zcx C):=by
 refine T.d_ask_about_name.ok Za fun f cdv A outer s H vs Q E hr h=>?_
 ·obtain⟨n,tl,d,a,rfl,S⟩:=h
  refine⟨_,(zb (zy (zp yA (pv 0) zq (zu _)) (ze (zj (zV (J4 T) hr.m (za (pv 1) (za (pv 2) (za (pv 3) zf)))))) zn) (zb (zy (zp yA (pv 0) zq (zu _)) (ze (zj (zV (w4 T) hr.m (za (pv 1) (za (pv 2) (za (pv 3) zf)))))) zn) (zb (zy (zp yA (pv 0) zq (zu _)) (ze (zj (zV (J6 T) hr.m (za (pv 1) (za (pv 2) (za (pv 3) zf)))))) zn) (zb (zy (zp yA (pv 0) zq (zu _)) (ze (zj (zV (zaH T) hr.m (za (pv 1) (za (pv 2) (za (pv 3) zf)))))) zn) (zb (zy (zp yA (pv 0) zq (zu _)) (ze (zj (zV (VC T) hr.m (za (pv 1) (za (pv 2) (za (pv 3) zf)))))) zn) (zb (zy (zp yA (pv 0) zq (zu _)) (ze (zj (zV (K9 T) hr.m (za (pv 1) (za (pv 2) (za (pv 3) zf)))))) zn) (zb (zy (zp yA (pv 0) zq (zu _)) (ze (zj (zV (QK T) hr.m (za (pv 1) (za (pv 2) (za (pv 3) zf)))))) zn) (ze (zj (zV (YR T) hr.m (za (pv 1) (za (pv 2) (za (pv 3) zf))))))))))))),?_⟩
  unfold aN at S
  k_go
  by_cases h0:n=10
  ·rw[if_pos h0] at S
   rw[Uac h0]
   refine zQ ?_
   k_go
   exact S
  rw[if_neg h0] at S
  rw[Uab h0]
  refine zL ?_
  k_go
  by_cases h1:n=11
  ·rw[if_pos h1] at S
   rw[Uac h1]
   refine zQ ?_
   k_go
   exact S
  rw[if_neg h1] at S
  rw[Uab h1]
  refine zL ?_
  k_go
  by_cases h2:n=12
  ·rw[if_pos h2] at S
   rw[Uac h2]
   refine zQ ?_
   k_go
   exact S
  rw[if_neg h2] at S
  rw[Uab h2]
  refine zL ?_
  k_go
  by_cases h3:n=13
  ·rw[if_pos h3] at S
   rw[Uac h3]
   refine zQ ?_
   k_go
   exact S
  rw[if_neg h3] at S
  rw[Uab h3]
  refine zL ?_
  k_go
  by_cases h4:n=14
  ·rw[if_pos h4] at S
   rw[Uac h4]
   refine zQ ?_
   k_go
   exact S
  rw[if_neg h4] at S
  rw[Uab h4]
  refine zL ?_
  k_go
  by_cases h5:n=15
  ·rw[if_pos h5] at S
   rw[Uac h5]
   refine zQ ?_
   k_go
   exact S
  rw[if_neg h5] at S
  rw[Uab h5]
  refine zL ?_
  k_go
  by_cases h6:n=16
  ·rw[if_pos h6] at S
   rw[Uac h6]
   refine zQ ?_
   k_go
   exact S
  rw[if_neg h6] at S
  rw[Uab h6]
  refine zL ?_
  k_go
  exact S
def Xd (n:Int) (t:State) (d k:Int):List Int:=if yL t d k=0 then aN n t d k else [yL t d k]
theorem Xz {t:State}{d k:Int} (h:yL t d k=0):Vbnlae.dayOk d=true/\Vbnlae.isOut t d k=true:=by
 unfold yL at h
 split at h
 ·cases h
 ·rename_i h1
  split at h
  ·rename_i h2;exact⟨by simpa using h1,h2⟩
  ·cases h
theorem zbN {t:State}{d k:Int} (h:Vbnlae.isOut t d k=true):(Vbnlae.placeOf t k).isSome=true:=by
 unfold Vbnlae.isOut at h
 cases e:Vbnlae.placeOf t k with
 | none=>rw[e] at h;cases h
 | some p=>rfl
inductive spN (C:Cs) (ok:State->Int->List Int->List (List Int)->Prop) (f:State->Int->List Int->List (List Int)->List Int) (vs:List V) (H:Hp) (Q:VK) (E:XK):Prop
 | mk (b c:Addr) (z1:vs=[.ref b,.ref c]) (na t ps n ns rows) (z2:BkW C na H b t ps) (z3:wC C H c n ns rows) (z4:NB.WF t) (z5:ok t n ns rows) (z6:∀p H',Same H H'->H' p=some (.lst ((f t n ns rows).map V.int))->Q (.ref p) H'):spN C ok f vs H Q E
theorem yq:zk ["book", "call", "d", "a", "refusal"] ["book", "call"] (zg (top 128)):=sC
theorem kX (T:Txt K mg C):FO P w K mg base "answer_about_name" 14 ["book", "call"] (spN C (fun _ _ ns _=>ns.length=2) fun t n ns _=>Xd n t (nth ns 0) (nth ns 1)):=by
 refine T.d_answer_about_name.ok yq fun f cdv A outer s H vs Q E hr h=>?_
 ·obtain⟨bk,c,rfl,na,t,ps,n,ns,rows,B,⟨dc,la,lr,rs,hc,hla,hlr,hrs⟩,W,hok,q⟩:=h
  match ns,hok with
  | [d,k],_=>
  replace q:∀p H',Same H H'->H' p=some (.lst ((Xd n t d k).map V.int))->Q (.ref p) H':=q
  obtain⟨dx,wd,gg,sd,l,hb,hwd,hg,hs,hL,n1,n2,n3⟩:=B.ex
  refine⟨_,(zb (pS 2 yq.nd (yr (zA K) (zd K (pv 1) rfl) zq (fun _ _=>rfl))) (zb (pS 3 yq.nd (yr (zA K) (zd K (pv 1) rfl) zq (fun _ _=>rfl))) (zb (pS 4 yq.nd (zV (wK T) hr.m (za (pv 0) (za (pv 2) (za (pv 3) zf))))) (zb (zy (zp V4 (pv 4) (zC T.g_NO_REFUSAL) (zu _)) (ze (zj (zD (za (pv 4) zf)))) zn) (ze (zj (zV (wJ T) hr.m (za (zd K (pv 1) rfl) (za (wf (y3 T) hr.m (za (pv 0) (za (zd K (pv 0) rfl) zf))) (za (pv 2) (za (xb (j6 T) hr.m (pv 0) (za (pv 3) zf)) zf))))))))))),?_⟩
  unfold Xd at q
  k_go
  refine yX (i:=0) (SqL.of hla) rfl ?_
  k_go
  refine yX (i:=1) (SqL.of hla) rfl ?_
  k_go
  refine⟨bk,d,k,rfl,na,[],t,B.p.n,W,?_⟩
  k_go
  by_cases hf:yL t d k=0
  ·rw[if_pos hf] at q
   obtain⟨hd,ho⟩:=Xz hf
   have hk0:=zbN ho
   rw[Uac hf]
   refine zL ?_
   k_go
   intro x dy hx hdy hne
   refine⟨x,bk,l,rfl,dy,zc,fun H1 vd hv e1 e2 s1=>⟨rfl,?_⟩⟩
   have s1:Same H H1:=made hx hdy s1
   have hv:=jl hne hv
   have L1:TL C na [vd] (vY t d) H1 x t vd:=zeA (vY t d) B.p hL (Ji B.act) (fun z hz=>by simp at hz) s1 hv e1 e2
   have B1v:BkP C na [vd] H1 bk t:=(B.p.more hv).same s1
   have hb1:=s1 _ _ hb
   k_go
   refine⟨bk,k,rfl,na,[vd],t,B1v.n,?_⟩
   rw[wS,if_pos hk0]
   k_go
   exact⟨n,x,d,na k,rfl,x,d,na k,rfl,na,[vd],vY t d,t,vd,k,L1,jP t d,vI t d,hk0,ho,rfl,jE W d,W,fun p H2 s2 e2=>q p H2 (Jo s1 (fun z hz=>by rw[Uam.mp hz];exact hv) (s2.v L1.m)) e2⟩
  ·rw[if_neg hf] at q
   rw[Uab hf]
   refine zQ ?_
   k_go
   exact⟨zK,fun p hp=>q p _ (Same.new hp) zc⟩
def qN (t:State) (n:Int) (ns:List Int) (rows:List (List Int)):List Int:=
 if n=18 then J8 t (nth ns 0) (nth ns 1) (nth ns 2) else if n=19 then wD t (nth ns 0) (nth ns 1) (nth ns 2) else if n=20 then vC t (nth ns 0)
 else if n=21 then Xb t (nth ns 0) (rows.getD 0 []) else if n=22 then K8 t (nth ns 0) else zfk t
def okQ (n:Int) (ns:List Int) (rows:List (List Int)):Prop:=((n=18\/n=19)/\ns.length=3)\/((n=20\/n=22)/\ns.length=1)\/(n=21/\ns.length=1/\∃set,rows=[set])\/n=23
theorem okQ.l3 {n:Int}{ns:List Int}{rows:List (List Int)} (h:okQ n ns rows) (e:n=18\/n=19):ns.length=3:=by
 rcases h with h | h | h | h
 ·exact h.2
 ·have:=h.1;omega
 ·have:=h.1;omega
 ·omega
theorem okQ.l1 {n:Int}{ns:List Int}{rows:List (List Int)} (h:okQ n ns rows) (e:n=20\/n=22):ns.length=1:=by
 rcases h with h | h | h | h
 ·have:=h.1;omega
 ·exact h.2
 ·have:=h.1;omega
 ·omega
theorem okQ.l21 {n:Int}{ns:List Int}{rows:List (List Int)} (h:okQ n ns rows) (e:n=21):ns.length=1/\∃set,rows=[set]:=by
 rcases h with h | h | h | h
 ·have:=h.1;omega
 ·have:=h.1;omega
 ·exact h.2
 ·omega
def zed (t:State):Prop:=t.acts.length<=Vbnlae.ACTS/\∀x∈t.acts,x.key<=Vbnlae.MOSTKEY
theorem wj:zk ["book", "call"] ["book", "call"] (zg (top 129)):=sC
theorem wq (T:Txt K mg C):FO P w K mg base "answer_question" 13 ["book", "call"] (spN C (fun t n ns rows=>zed t/\okQ n ns rows) qN):=by
 refine T.d_answer_question.ok wj fun f cdv A outer s H vs Q E hr h=>?_
 ·obtain⟨b,c,rfl,na,t,ps,n,ns,rows,B,CA,W,⟨⟨hal,hak⟩,hok⟩,q⟩:=h
  obtain⟨dc,la,lr,rs,hc,_⟩:=id CA
  refine⟨_,(zb (zy (zp yA (zd K (pv 1) rfl) zq (zu _)) (ze (zj (zV (XR T) hr.m (za (pv 0) (za (pv 1) zf))))) zn) (zb (zy (zp yA (zd K (pv 1) rfl) zq (zu _)) (ze (zj (zV (Kl T) hr.m (za (pv 0) (za (pv 1) zf))))) zn) (zb (zy (zp yA (zd K (pv 1) rfl) zq (zu _)) (ze (zj (zV (J7 T) hr.m (za (pv 0) (za (pv 1) zf))))) zn) (zb (zy (zp yA (zd K (pv 1) rfl) zq (zu _)) (ze (zj (zV (Q2 T) hr.m (za (pv 0) (za (pv 1) zf))))) zn) (zb (zy (zp yA (zd K (pv 1) rfl) zq (zu _)) (ze (zj (zV (XE T) hr.m (za (pv 0) (za (pv 1) zf))))) zn) (ze (zj (zV (Vl T) hr.m (za (pv 0) zf))))))))),?_⟩
  unfold qN at q
  k_go
  by_cases h0:n=18
  ·rw[if_pos h0] at q
   rw[Uac h0]
   refine zQ ?_
   k_go
   exact⟨b,c,rfl,na,t,ps,n,ns,rows,B,CA,W,hok.l3 (.inl h0),q⟩
  rw[if_neg h0] at q
  rw[Uab h0]
  refine zL ?_
  k_go
  by_cases h1:n=19
  ·rw[if_pos h1] at q
   rw[Uac h1]
   refine zQ ?_
   k_go
   exact⟨b,c,rfl,na,t,ps,n,ns,rows,B,CA,W,⟨hok.l3 (.inr h1),hal,hak⟩,q⟩
  rw[if_neg h1] at q
  rw[Uab h1]
  refine zL ?_
  k_go
  by_cases h2:n=20
  ·rw[if_pos h2] at q
   rw[Uac h2]
   refine zQ ?_
   k_go
   exact⟨b,c,rfl,na,t,ps,n,ns,rows,B,CA,W,hok.l1 (.inl h2),q⟩
  rw[if_neg h2] at q
  rw[Uab h2]
  refine zL ?_
  k_go
  by_cases h3:n=21
  ·rw[if_pos h3] at q
   rw[Uac h3]
   refine zQ ?_
   k_go
   exact⟨b,c,rfl,na,t,ps,n,ns,rows,B,CA,W,hok.l21 h3,q⟩
  rw[if_neg h3] at q
  rw[Uab h3]
  refine zL ?_
  k_go
  by_cases h4:n=22
  ·rw[if_pos h4] at q
   rw[Uac h4]
   refine zQ ?_
   k_go
   exact⟨b,c,rfl,na,t,ps,n,ns,rows,B,CA,W,hok.l1 (.inr h4),q⟩
  rw[if_neg h4] at q
  rw[Uab h4]
  refine zL ?_
  k_go
  exact⟨b,rfl,na,t,ps,B,W,q⟩
def ziq (t:State) (n:Int) (ns:List Int):Vbnlae.Act:=zaR t (n-2) (nth ns 0) (nth ns 1) (nth ns 2) (nth ns 3)
def dsk (t:State) (n:Int) (ns:List Int) (rows:List (List Int)):State×List Int:=
 if n<3 then zca t n ns rows else if n<=9 then (zfH t (ziq t n ns),[Vbnlae.actFault t (ziq t n ns)])
 else if n<=17 then (t,Xd n t (nth ns 0) (nth ns 1)) else (t,qN t n ns rows)
def okC (n:Int) (ns:List Int) (rows:List (List Int)):Prop:=Yz n ns rows\/(3<=n/\n<=9/\(ns.length=4\/ns.length=3))\/(10<=n/\n<=17/\ns.length=2)\/okQ n ns rows
theorem Yz.n {n:Int}{ns:List Int}{rows:List (List Int)} (h:Yz n ns rows):n<3:=by rcases h with ⟨h,_⟩ | ⟨h,_⟩ | ⟨h,_⟩ <;> omega
theorem okQ.n {n:Int}{ns:List Int}{rows:List (List Int)} (h:okQ n ns rows):18<=n:=by rcases h with ⟨h,_⟩ | ⟨h,_⟩ | ⟨h,_⟩ | h <;> omega
theorem okC.e {n:Int}{ns:List Int}{rows:List (List Int)} (h:okC n ns rows) (e:n<3):Yz n ns rows:=by
 rcases h with h | h | h | h
 ·exact h
 ·have:=h.1;omega
 ·have:=h.1;omega
 ·have:=h.n;omega
theorem okC.a {n:Int}{ns:List Int}{rows:List (List Int)} (h:okC n ns rows) (e:¬n<3) (e':n<=9):ns.length=4\/ns.length=3:=by
 rcases h with h | h | h | h
 ·have:=h.n;omega
 ·exact h.2.2
 ·have:=h.1;omega
 ·have:=h.n;omega
theorem okC.m {n:Int}{ns:List Int}{rows:List (List Int)} (h:okC n ns rows) (e:¬n<=9) (e':n<=17):ns.length=2:=by
 rcases h with h | h | h | h
 ·have:=h.n;omega
 ·have:=h.2.1;omega
 ·exact h.2.2
 ·have:=h.n;omega
theorem okC.q {n:Int}{ns:List Int}{rows:List (List Int)} (h:okC n ns rows) (e:¬n<=17):okQ n ns rows:=by
 rcases h with h | h | h | h
 ·have:=h.n;omega
 ·have:=h.2.1;omega
 ·have:=h.2.1;omega
 ·exact h
theorem XI:zk ["book", "call"] ["book", "call"] (zg (top 130)):=sC
theorem XF (T:Txt K mg C):FO P w K mg base "answer_call" 15 ["book", "call"] (spW C (fun t n ns rows=>zed t/\okC n ns rows) dsk):=by
 refine T.d_answer_call.ok XI fun f cdv A outer s H vs Q E hr h=>?_
 ·obtain⟨b,c,rfl,na,t,ps,n,ns,rows,B,CA,W,⟨⟨hal,hak⟩,hok⟩,q⟩:=h
  obtain⟨dc,la,lr,rs,hc,_⟩:=id CA
  refine⟨_,(zb (zy (zp zhq (zd K (pv 1) rfl) (zC T.g_FIRST_ACT_CALL) (zu _)) (ze (zj (zV (YV T) hr.m (za (pv 0) (za (pv 1) zf))))) zn) (zb (zy (zp qW (zd K (pv 1) rfl) (zC T.g_LAST_ACT_CALL) (zu _)) (ze (zj (zV (zap T) hr.m (za (pv 0) (za (jM zfS (zd K (pv 1) rfl) (zC T.g_FROM_CALL_TO_KIND)) (za (pv 1) zf)))))) zn) (zb (zy (zp qW (zd K (pv 1) rfl) (zC T.g_LAST_NAME_CALL) (zu _)) (ze (zj (zV (kX T) hr.m (za (pv 0) (za (pv 1) zf))))) zn) (ze (zj (zV (wq T) hr.m (za (pv 0) (za (pv 1) zf)))))))),?_⟩
  unfold dsk at q
  k_go
  by_cases h0:n<3
  ·rw[if_pos h0] at q
   rw[Uac h0]
   refine zQ ?_
   k_go
   exact⟨b,c,rfl,na,t,ps,n,ns,rows,B,CA,W,hok.e h0,q⟩
  rw[if_neg h0] at q
  rw[Uab h0]
  refine zL ?_
  k_go
  by_cases h1:n<=9
  ·rw[if_pos h1] at q
   rw[Uac h1]
   refine zQ ?_
   k_go
   have hw:Vbnlae.within (n-2) 1 7=true:=by unfold Vbnlae.within;rw[Uat,Ubm,Ubm];omega
   have hlen:ns.length=4\/ns.length=3:=hok.a h0 h1
   refine⟨b,c,n-2,rfl,na,t,ps,n,ns,rows,nth ns 0,nth ns 1,nth ns 2,nth ns 3,B,CA,W.ord,by unfold Vbnlae.ACTS at hal;omega,?_,hw,fun H' p ps' B' s e=>q H' p na ps' B' s e⟩
   rcases hlen with h | h
   ·match ns,h with
    | [_,_,_,_],_=>exact .inl rfl
   ·match ns,h with
    | [_,_,_],_=>exact .inr ⟨rfl,rfl⟩
  rw[if_neg h1] at q
  rw[Uab h1]
  refine zL ?_
  k_go
  by_cases h2:n<=17
  ·rw[if_pos h2] at q
   rw[Uac h2]
   refine zQ ?_
   k_go
   exact⟨b,c,rfl,na,t,ps,n,ns,rows,B,CA,W,hok.m h1 h2,fun p H' s e=>q H' p na ps (B.same s) s.b e⟩
  rw[if_neg h2] at q
  rw[Uab h2]
  refine zL ?_
  k_go
  exact⟨b,c,rfl,na,t,ps,n,ns,rows,B,CA,W,⟨⟨hal,hak⟩,hok.q h2⟩,fun p H' s e=>q H' p na ps (B.same s) s.b e⟩
end
section
variable {s t:State}
def Meets (s:State) (c:Vbnlae.Call) (r:State×List Int):Prop:=(Vbnlae.step s c).2=r.2/\NB.Rel (Vbnlae.step s c).1 r.1
theorem zfr (R:NB.Rel s t) (k d:Int):Meets s (.work k d) (zas t k d,[yW t k d]):=by
 unfold Meets zas yW
 simp only[Vbnlae.step]
 rw[←R.isWork,←R.w.length_eq]
 by_cases h1:Vbnlae.keyOk k=false
 ·simp only[if_pos h1];exact⟨trivial,R⟩
 simp only[if_neg h1]
 by_cases h2:Vbnlae.dayOk d=false
 ·simp only[if_pos h2];exact⟨trivial,R⟩
 simp only[if_neg h2]
 by_cases h3:Vbnlae.isWork s k=true
 ·simp only[if_pos h3];exact⟨trivial,R⟩
 simp only[if_neg h3]
 by_cases h4:Vbnlae.WORKS<=s.works.length
 ·simp only[if_pos h4];exact⟨trivial,R⟩
 simp only[if_neg h4]
 exact⟨trivial,R.addWork (by simpa using h3) h4⟩
theorem zdK (R:NB.Rel s t) (k v p g:Int) (x:List Int) (hx:x.length<=40):Meets s (.genus k v p g x) (XW t k v p g x,[yB t k v p g x]):=by
 unfold Meets XW yB
 simp only[Vbnlae.step]
 rw[←R.isWork,←(R.sim 0).isName,←R.g.length_eq]
 by_cases h1:Vbnlae.keyOk k=false
 ·simp only[if_pos h1];exact⟨trivial,R⟩
 simp only[if_neg h1]
 by_cases h2:(Vbnlae.within p 1 Vbnlae.MOSTPAGE&&Vbnlae.within g 0 2)=false
 ·simp only[if_pos h2];exact⟨trivial,R⟩
 simp only[if_neg h2]
 by_cases h3:Vbnlae.genusText x=false
 ·simp only[if_pos h3];exact⟨trivial,R⟩
 simp only[if_neg h3]
 by_cases h4:Vbnlae.isName s k=true
 ·simp only[if_pos h4];exact⟨trivial,R⟩
 simp only[if_neg h4]
 by_cases h5:Vbnlae.isWork s v=false
 ·simp only[if_pos h5];exact⟨trivial,R⟩
 simp only[if_neg h5]
 by_cases h6:Vbnlae.GENERA<=s.genera.length
 ·simp only[if_pos h6];exact⟨trivial,R⟩
 simp only[if_neg h6]
 rw[Bool.not_eq_false,Uat] at h2
 exact⟨trivial,R.addGenus h2.2 hx (by simpa using h4) (by simpa using h5) h6⟩
theorem zad (R:NB.Rel s t) (k v p g:Int) (x y z:List Int) (hx:x.length<=40) (hy:y.length<=40) (hz:z.length<=40):Meets s (.species k v p g x y z) (kG t k v p g x y z,[zY t k v p g x y z]):=by
 unfold Meets kG zY
 simp only[Vbnlae.step]
 rw[←R.isWork,←(R.sim 0).isName,←(R.sim 0).isGenus,←R.n.length_eq]
 by_cases h1:Vbnlae.keyOk k=false
 ·simp only[if_pos h1];exact⟨trivial,R⟩
 simp only[if_neg h1]
 by_cases h2:Vbnlae.within p 1 Vbnlae.MOSTPAGE=false
 ·simp only[if_pos h2];exact⟨trivial,R⟩
 simp only[if_neg h2]
 by_cases h3:(Vbnlae.epithet x&&(Vbnlae.epithet y&&Vbnlae.epithet z))=false
 ·simp only[if_pos h3];exact⟨trivial,R⟩
 simp only[if_neg h3]
 by_cases h4:Vbnlae.isName s k=true
 ·simp only[if_pos h4];exact⟨trivial,R⟩
 simp only[if_neg h4]
 by_cases h5:(Vbnlae.isWork s v&&Vbnlae.isGenus s g)=false
 ·simp only[if_pos h5];exact⟨trivial,R⟩
 simp only[if_neg h5]
 by_cases h6:Vbnlae.SPECIES<=s.species.length
 ·simp only[if_pos h6];exact⟨trivial,R⟩
 simp only[if_neg h6]
 rw[Bool.not_eq_false,Uat] at h5
 exact⟨trivial,R.addSpecies hx hy hz (by simpa using h4) h5.1 h5.2 h6⟩
theorem Kr (R:NB.Rel s t) (x:Vbnlae.Act):Vbnlae.actFault s x=Vbnlae.actFault t x:=by
 unfold Vbnlae.actFault Vbnlae.namesOk
 simp only[R.a,R.isWork,(R.sim 0).isName,(R.sim 0).isGenus,(R.sim 0).isSpecies]
theorem Yv (R:NB.Rel s t) (c k v a b b':Int) (hb:(if c=3\/c=7 then 0 else b)=b'):Meets s (.act c k v a b) (zfH t (zaR t c k v a b'),[Vbnlae.actFault t (zaR t c k v a b')]):=by
 unfold Meets zfH zaR
 simp only[Vbnlae.step]
 rw[hb,←R.dayOf,Kr R]
 by_cases h:Vbnlae.actFault t ⟨k,Vbnlae.dayOf s v,c,v,a,b'⟩=0
 ·rw[if_neg (fun q=>q h),if_pos h,h]
  exact⟨rfl,R.addAct (by rw[Kr R];exact h)⟩
 ·rw[if_pos h,if_neg h]
  exact⟨rfl,R⟩
theorem zbZ (R:NB.Rel s t) (d k:Int) (a:List Int) (f:State->Int->Int->List Int) (h:a=f t d k):(Vbnlae.ask s d k a).2=(if yL t d k=0 then f t d k else [yL t d k])/\NB.Rel (Vbnlae.ask s d k a).1 t:=by
 unfold Vbnlae.ask yL
 rw[(R.sim 0).isOut]
 cases Vbnlae.dayOk d with
 | false=>exact⟨rfl,R⟩
 | true=>
  cases Vbnlae.isOut t d k with
  | false=>exact⟨rfl,R⟩
  | true=>exact⟨h,R⟩
theorem vq (R:NB.Rel s t) (n:Int) (d k:Int) (c:Vbnlae.Call) (f:State->Int->Int->List Int) (hf:aN n=f) (h:∃a,Vbnlae.step s c=Vbnlae.ask s d k a/\a=f t d k):Meets s c (t,Xd n t d k):=by
 obtain⟨a,e,ha⟩:=h
 unfold Meets Xd
 rw[e,hf]
 exact zbZ R d k a f ha
theorem zdi (R:NB.Rel s t) (d k:Int):Meets s (.group d k) (t,Xd 16 t d k):=by
 unfold Meets Xd yL
 rw[show aN 16=Jn from rfl]
 unfold Jn
 simp only[Vbnlae.step]
 rw[(R.sim 0).isOut,(R.sim 0).isGenus,(R.sim d).group (Ubn _),(R.sim d).headOf (Ubn _)]
 cases Vbnlae.dayOk d with
 | false=>exact⟨rfl,R⟩
 | true=>
  cases Vbnlae.isGenus t k with
  | false=>
   cases Vbnlae.isOut t d k with
   | false=>exact⟨rfl,R⟩
   | true=>exact⟨rfl,R⟩
  | true=>
   cases Vbnlae.isOut t d k with
   | false=>exact⟨rfl,R⟩
   | true=>exact⟨rfl,R⟩
theorem zeZ (R:NB.Rel s t) (d k:Int):Meets s (.home d k) (t,Xd 14 t d k):=by
 refine vq R 14 d k _ KU rfl ?_
 simp only[Vbnlae.step]
 rw[(R.sim 0).speciesOf]
 unfold KU
 cases Vbnlae.speciesOf t k with
 | some n=>exact⟨_,rfl,by rw[(R.sim d).placed (Ubn _),(R.sim d).home (Ubn _)]⟩
 | none=>exact⟨_,rfl,by rw[(R.sim d).headOf (Ubn _)]⟩
theorem zfe (R:NB.Rel s t) (d a g:Int):Meets s (.whatIf d a g) (t,J8 t d a g):=by
 unfold Meets J8
 simp only[Vbnlae.step]
 rw[(R.sim 0).speciesOf,(R.sim 0).isOut,(R.sim 0).isOut,(R.sim 0).isGenus]
 cases Vbnlae.dayOk d with
 | false=>exact⟨rfl,R⟩
 | true=>
  cases Vbnlae.speciesOf t a with
  | none=>exact⟨rfl,R⟩
  | some n=>
   dsimp only
   rw[(R.sim d).barIn (Ubn _),(R.sim d).headOf (Ubn _)]
   cases (Vbnlae.isOut t d a&&(Vbnlae.isGenus t g&&Vbnlae.isOut t d g)) with
   | false=>exact⟨rfl,R⟩
   | true=>exact⟨rfl,R⟩
theorem zdB (t:State) (p:Int->Bool):Vbnlae.speciesKeys t (fun n=>p n.key)=(vP t).filter p:=by
 unfold Vbnlae.speciesKeys vP
 rw[List.filter_map]
 rfl
theorem VR (t:State):∀k∈vP t,(Vbnlae.placeOf t k).isSome=true:=fun k hk=>by
 obtain⟨n,hn,rfl⟩:=Uaq.mp hk
 exact NB.yh hn
theorem zcN (t:State) (d k:Int):decide ((Vbnlae.bar t d k).1=0)=decide (Vbnlae.bar t d k=(0,0)):=by
 rw[decide_eq_decide];exact NB.Wt
theorem zc1 (R:NB.Rel s t) (d a b:Int):(Vbnlae.wouldBar s d a b).flatMap (fun p=>[p.1,p.2])=(qE t d).flatMap (QD t (NB.yw t d a b) d):=by
 unfold Vbnlae.wouldBar qE
 have U:=R.simU d a b
 have hu:∀k,Vbnlae.bar (Vbnlae.withSink s d a b) d k=Vbnlae.bar (NB.yw t d a b) d k:=fun k=>U.bar (Ubn _) k
 have hb:∀k,Vbnlae.bar s d k=Vbnlae.bar t d k:=fun k=>(R.sim d).bar (Ubn _) k
 dsimp only
 rw[List.flatMap_map]
 have e1:=NB.jm (s:=s) (t:=t) (d:=d) (fun k=>(R.sim d).moment (Ubn _) k)
  ((R.sim d).speciesKeys (p:=fun n=>Vbnlae.isOut s d n.key&&(decide ((Vbnlae.bar s d n.key).1=0)&&decide ((Vbnlae.bar (Vbnlae.withSink s d a b) d n.key).1≠0))) (q:=fun n=>(fun k=>Vbnlae.isOut t d k&&(decide (Vbnlae.bar t d k=(0,0))&&!decide (Vbnlae.bar (NB.yw t d a b) d k=(0,0)))) n.key) fun m=>by
   dsimp only
   rw[(R.sim 0).isOut,hb,hu,zcN,decide_not,zcN]) (NB.j3 (R.sim d) _)
 have e3:=zdB t (fun k=>Vbnlae.isOut t d k&&(decide (Vbnlae.bar t d k=(0,0))&&!decide (Vbnlae.bar (NB.yw t d a b) d k=(0,0))))
 dsimp only at e1 e3
 rw[e1,e3]
 have e2:(vP t).filter (fun k=>Vbnlae.isOut t d k&&(decide (Vbnlae.bar t d k=(0,0))&&!decide (Vbnlae.bar (NB.yw t d a b) d k=(0,0))))=((vP t).filter fun k=>Vbnlae.isOut t d k).filter fun k=>(decide (Vbnlae.bar t d k=(0,0))&&!decide (Vbnlae.bar (NB.yw t d a b) d k=(0,0))):=by
  rw[Ubq]
  exact List.filter_congr fun k _=>Bool.and_comm _ _
 rw[e2,NB.qp _ fun k hk=>VR t k (Uah.mp hk).1,NB.xF]
 congr 1
 funext k
 unfold QD
 rw[hu,Bool.and_comm]
theorem zds (R:NB.Rel s t) (d a b:Int):Meets s (.unite d a b) (t,wD t d a b):=by
 unfold Meets wD
 simp only[Vbnlae.step]
 rw[(R.sim 0).isOut,(R.sim 0).isOut,(R.sim 0).isGenus,(R.sim 0).isGenus,zc1 R]
 by_cases h1:Vbnlae.dayOk d=false
 ·rw[if_pos h1,if_pos h1];exact⟨rfl,R⟩
 rw[if_neg h1,if_neg h1]
 by_cases h2:(Vbnlae.isGenus t a&&(Vbnlae.isOut t d a&&(Vbnlae.isGenus t b&&Vbnlae.isOut t d b)))=false
 ·rw[if_pos h2,if_pos h2];exact⟨rfl,R⟩
 rw[if_neg h2,if_neg h2]
 by_cases h3:a=b
 ·rw[if_pos h3,if_pos h3];exact⟨rfl,R⟩
 rw[if_neg h3,if_neg h3]
 exact⟨rfl,R⟩
theorem Kx (t:State) (W:NB.WF t):∀k∈Vbnlae.allKeys t,(Vbnlae.placeOf t k).isSome=true:=NB.xm (⟨.refl _,.refl _,fun _ _=>rfl,W.gnd,W.snd⟩:NB.Sim 0 t t)
theorem zcs (R:NB.Rel s t) (d:Int):Meets s (.barred d) (t,vC t d):=by
 unfold Meets vC
 simp only[Vbnlae.step]
 by_cases h1:Vbnlae.dayOk d=false
 ·rw[if_pos h1,if_pos h1];exact⟨rfl,R⟩
 rw[if_neg h1,if_neg h1]
 refine⟨?_,R⟩
 dsimp only
 rw[(R.sim d).barredKeys (Ubn _)]
 unfold WO Vbnlae.outKeys
 rw[NB.qp _ fun k hk=>Kx t R.W k (Uah.mp hk).1,NB.xF]
 congr 2
 funext k
 unfold zal
 rw[(R.sim d).bar (Ubn _),decide_not,zcN]
 cases decide (Vbnlae.bar t d k=(0,0)) <;> rfl
theorem zcU (R:NB.Rel s t) (d:Int) (set:List Int):Meets s (.first d set) (t,Xb t d set):=by
 unfold Meets Xb
 simp only[Vbnlae.step]
 by_cases h1:Vbnlae.dayOk d=false
 ·rw[if_pos h1,if_pos h1];exact⟨rfl,R⟩
 rw[if_neg h1,if_neg h1]
 refine⟨?_,R⟩
 dsimp only
 rw[(R.sim d).usableFirst (Ubn _)]
 unfold QE Vbnlae.usableFirst Y8
 rw[←NB.zax (fun k=>Vbnlae.usable t d k) fun k hk=>Kx t R.W k (Uah.mp (Uah.mp hk).1).1]
 congr 2
 rw[Ubq,Ubq]
 refine List.filter_congr fun k _=>?_
 unfold Vbnlae.usable
 cases set.contains k <;> cases Vbnlae.isOut t d k <;> simp
theorem zbl {l:List Int}{d:Int} (h:l.Pairwise (· < ·)) (hd:d∈l) (hm:∀z∈l,d<=z):∃r,l=d::r:=by
 cases l with
 | nil=>simp at hd
 | cons a r=>
  rw[Uao] at h
  have h1:=hm a Uak
  rcases Uaf.mp hd with e | e
  ·exact⟨r,by rw[e]⟩
  ·have:=h.1 d e;omega
theorem zaM (W:NB.WF t) {k:Int}{p:Int×Int×Int} (h:Vbnlae.placeOf t k=some p):p.1∈t.works.map fun x=>x.day:=by
 unfold Vbnlae.placeOf at h
 cases e:Vbnlae.genusOf t k with
 | some g=>
  rw[e] at h
  cases h
  obtain⟨_,_,w,hw,_,e2⟩:=W.gen g (NB.zx (f:=fun x:Genus=>x.key) e).1
  exact Uaq.mpr ⟨w,hw,e2⟩
 | none=>
  rw[e] at h
  obtain⟨n,hn,rfl⟩:=Ubz.mp h
  obtain⟨_,_,w,hw,_,e2⟩:=W.spe n (NB.zx (f:=fun x:Species=>x.key) hn).1
  exact Uaq.mpr ⟨w,hw,e2⟩
theorem zfq (R:NB.Rel s t) (k:Int):Meets s (.history k) (t,K8 t k):=by
 unfold Meets K8
 simp only[Vbnlae.step]
 rw[(R.sim 0).isName,wS]
 cases e:Vbnlae.placeOf t k with
 | none=>exact⟨rfl,R⟩
 | some p=>
  refine⟨?_,R⟩
  show 0::(Vbnlae.history s k).flatMap (fun p=>[p.1,p.2.1,p.2.2])=0::NB.wP (fun d=>Vbnlae.bar t d k) p.1 (0,0) (zO t p.1)
  obtain⟨r,hr⟩:=zbl (qc t p.1) (xJ.mpr ⟨zaM R.W e,Ubn _⟩) fun z hz=>(xJ.mp hz).2
  rw[hr,NB.JV (s:=s) (k:=k) (day0:=p.1) (l:=r) (0,0) (hr▸qc t p.1) (fun d=>?_) fun z=>?_]
  ·congr 1
   congr 1
   funext d
   exact(R.sim d).bar (Ubn _) k
  ·rw[(R.sim 0).isOut]
   unfold Vbnlae.isOut
   rw[e]
  ·rw[←hr,xJ,NB.WL,(R.w.map _).mem_iff]
theorem kO {α β:Type}{f g:α->List β}:∀{l:List α},(∀x∈l,f x=g x)->l.flatMap f=l.flatMap g
 | [],_=>rfl
 | x::l,h=>by rw[Uca,Uca,h x Uak,kO fun y hy=>h y (Uad _ hy)]
theorem ze8 {α:Type}{f:α->Int}{l m:List α} (p:l.Perm m) (h:l.Pairwise fun x y=>f x<f y):qo (m.map f)=l.map f:=
 (Qo (p.map f) (by rw[List.pairwise_map];exact h.imp fun h=>by omega)).symm
theorem zfc (R:NB.Rel s t):Meets s .told (t,zfk t):=by
 refine⟨?_,R⟩
 show 0::Vbnlae.told s=zfk t
 unfold Vbnlae.told zfk y8 y4 xH zaV
 rw[ze8 R.w R.ws,ze8 R.g R.gs,ze8 R.n R.ns,List.flatMap_map,List.flatMap_map,List.flatMap_map,R.w.length_eq,R.g.length_eq,R.n.length_eq,R.a]
 have e1:s.works.flatMap (fun x=>zdC t x.key)=s.works.flatMap fun w=>[w.key,w.day]:=kO fun x hx=>by
  unfold zdC Vbnlae.dayOf Vbnlae.workOf
  rw[NB.vy (f:=fun x:Work=>x.key) R.W.wnd (R.w.mem_iff.mp hx)]
 have e2:s.genera.flatMap (fun x=>Ko t x.key)=s.genera.flatMap fun g=>[g.key,g.work,g.page,g.gender]++Vbnlae.row g.text:=kO fun x hx=>by
  unfold Ko
  rw[R.W.genusOf (R.g.mem_iff.mp hx)]
 have e3:s.species.flatMap (fun x=>zaT t x.key)=s.species.flatMap fun n=>[n.key,n.work,n.page,n.genus]++(Vbnlae.row n.masc++(Vbnlae.row n.fem++Vbnlae.row n.neut)):=kO fun x hx=>by
  unfold zaT
  rw[R.W.speciesOf (R.n.mem_iff.mp hx)]
 rw[e1,e2,e3]
 rfl
end
section
variable {s t:State}
def zhC (s t:State) (n:Int) (ns:List Int) (rows:List (List Int)):Prop:=(VbnlaeNeutral.step s ((n::ns)::rows)).2=(dsk t n ns rows).2/\NB.Rel (VbnlaeNeutral.step s ((n::ns)::rows)).1 (dsk t n ns rows).1/\okC n ns rows
theorem zX {n:Int}{ns:List Int}{rows:List (List Int)}{c:Vbnlae.Call}{r:State×List Int} (h:Meets s c r) (e:VbnlaeNeutral.step s ((n::ns)::rows)=Vbnlae.step s c) (er:dsk t n ns rows=r) (ok:okC n ns rows):zhC s t n ns rows:=by
 unfold zhC
 rw[e,er]
 exact⟨h.1,h.2,ok⟩
theorem t40 {x:List Int} (h:VbnlaeNeutral.text40 x=true):x.length<=40:=by
 unfold VbnlaeNeutral.text40 at h
 rw[Uat,Ubm] at h
 exact h.1
theorem s40 {x:List Int} (h:x.length<=40):x.length<=sizeLine:=by rw[sizeLine_eq];omega
theorem zcR (R:NB.Rel s t) {n:Int}{ns:List Int}{rows:List (List Int)}{a b:Nat} (hs:PyVbnlae.shape n=some (a,b)) (ha:ns.length=a) (hb:rows.length=b) (hk:VbnlaeNeutral.asked1 ((n::ns)::rows)=true):zhC s t n ns rows:=by
 rcases NB.vi hs with ⟨rfl,rfl,rfl⟩ | ⟨rfl,rfl,rfl⟩ | ⟨rfl,rfl,rfl⟩ | ⟨rfl,rfl,rfl⟩ | ⟨rfl,rfl,rfl⟩ | ⟨rfl,rfl,rfl⟩ | ⟨rfl,rfl,rfl⟩ | ⟨rfl,rfl,rfl⟩ | ⟨rfl,rfl,rfl⟩ | ⟨rfl,rfl,rfl⟩ | ⟨rfl,rfl,rfl⟩ | ⟨rfl,rfl,rfl⟩ | ⟨rfl,rfl,rfl⟩ | ⟨rfl,rfl,rfl⟩ | ⟨rfl,rfl,rfl⟩ | ⟨rfl,rfl,rfl⟩ | ⟨rfl,rfl,rfl⟩ | ⟨rfl,rfl,rfl⟩ | ⟨rfl,rfl,rfl⟩ | ⟨rfl,rfl,rfl⟩ | ⟨rfl,rfl,rfl⟩ | ⟨rfl,rfl,rfl⟩ | ⟨rfl,rfl,rfl⟩ | ⟨rfl,rfl,rfl⟩
 ·match ns,ha,rows,hb with
  | [k,d],_,[],_=>
   exact zX (zfr R k d) rfl rfl (.inl (.inl ⟨rfl,rfl⟩))
 ·match ns,ha,rows,hb with
  | [k,v,p,g],_,[x],_=>
   have hk:(VbnlaeNeutral.whole k&&(VbnlaeNeutral.whole v&&(VbnlaeNeutral.whole p&&(VbnlaeNeutral.whole g&&VbnlaeNeutral.text40 x))))=true:=hk
   simp only[Uat] at hk
   have hx:=t40 hk.2.2.2.2
   exact zX (zdK R k v p g x hx) rfl rfl (.inl (.inr (.inl ⟨rfl,rfl,x,rfl,s40 hx⟩)))
 ·match ns,ha,rows,hb with
  | [k,v,p,g],_,[x,y,z],_=>
   have hk:(VbnlaeNeutral.whole k&&(VbnlaeNeutral.whole v&&(VbnlaeNeutral.whole p&&(VbnlaeNeutral.whole g&&(VbnlaeNeutral.text40 x&&(VbnlaeNeutral.text40 y&&VbnlaeNeutral.text40 z))))))=true:=hk
   simp only[Uat] at hk
   have hx:=t40 hk.2.2.2.2.1
   have hy:=t40 hk.2.2.2.2.2.1
   have hz:=t40 hk.2.2.2.2.2.2
   exact zX (zad R k v p g x y z hx hy hz) rfl rfl (.inl (.inr (.inr ⟨rfl,rfl,x,y,z,rfl,s40 hx,s40 hy,s40 hz⟩)))
 ·match ns,ha,rows,hb with
  | [k,v,x,y],_,[],_=>
   exact zX (Yv R 1 k v x y y rfl) rfl rfl (.inr (.inl ⟨by decide,by decide,.inl rfl⟩))
 ·match ns,ha,rows,hb with
  | [k,v,x,y],_,[],_=>
   exact zX (Yv R 2 k v x y y rfl) rfl rfl (.inr (.inl ⟨by decide,by decide,.inl rfl⟩))
 ·match ns,ha,rows,hb with
  | [k,v,x],_,[],_=>
   exact zX (Yv R 3 k v x 0 0 rfl) rfl rfl (.inr (.inl ⟨by decide,by decide,.inr rfl⟩))
 ·match ns,ha,rows,hb with
  | [k,v,x,y],_,[],_=>
   exact zX (Yv R 4 k v x y y rfl) rfl rfl (.inr (.inl ⟨by decide,by decide,.inl rfl⟩))
 ·match ns,ha,rows,hb with
  | [k,v,x,y],_,[],_=>
   exact zX (Yv R 5 k v x y y rfl) rfl rfl (.inr (.inl ⟨by decide,by decide,.inl rfl⟩))
 ·match ns,ha,rows,hb with
  | [k,v,x,y],_,[],_=>
   exact zX (Yv R 6 k v x y y rfl) rfl rfl (.inr (.inl ⟨by decide,by decide,.inl rfl⟩))
 ·match ns,ha,rows,hb with
  | [k,v,x],_,[],_=>
   exact zX (Yv R 7 k v x 0 0 rfl) rfl rfl (.inr (.inl ⟨by decide,by decide,.inr rfl⟩))
 ·match ns,ha,rows,hb with
  | [d,k],_,[],_=>
   exact zX (vq R 10 d k (.status d k) Qb rfl ⟨_,rfl,by unfold Qb;rw[(R.sim d).status (Ubn _)]⟩) rfl rfl (.inr (.inr (.inl ⟨by decide,by decide,rfl⟩)))
 ·match ns,ha,rows,hb with
  | [d,k],_,[],_=>
   exact zX (vq R 11 d k (.moment d k) zba rfl ⟨_,rfl,by unfold zba;rw[(R.sim d).moment (Ubn _)]⟩) rfl rfl (.inr (.inr (.inl ⟨by decide,by decide,rfl⟩)))
 ·match ns,ha,rows,hb with
  | [d,k],_,[],_=>
   exact zX (vq R 12 d k (.usable d k) Y2 rfl ⟨_,rfl,by unfold Y2;rw[(R.sim d).usable (Ubn _)]⟩) rfl rfl (.inr (.inr (.inl ⟨by decide,by decide,rfl⟩)))
 ·match ns,ha,rows,hb with
  | [d,k],_,[],_=>
   exact zX (vq R 13 d k (.bar d k) zhg rfl ⟨_,rfl,by unfold zhg;rw[(R.sim d).bar (Ubn _)]⟩) rfl rfl (.inr (.inr (.inl ⟨by decide,by decide,rfl⟩)))
 ·match ns,ha,rows,hb with
  | [d,k],_,[],_=>
   exact zX (zeZ R d k) rfl rfl (.inr (.inr (.inl ⟨by decide,by decide,rfl⟩)))
 ·match ns,ha,rows,hb with
  | [d,k],_,[],_=>
   exact zX (vq R 15 d k (.text d k) Vb rfl ⟨_,rfl,by unfold Vb;rw[(R.sim d).textOf (Ubn _)]⟩) rfl rfl (.inr (.inr (.inl ⟨by decide,by decide,rfl⟩)))
 ·match ns,ha,rows,hb with
  | [d,k],_,[],_=>
   exact zX (zdi R d k) rfl rfl (.inr (.inr (.inl ⟨by decide,by decide,rfl⟩)))
 ·match ns,ha,rows,hb with
  | [d,k],_,[],_=>
   exact zX (vq R 17 d k (.homonyms d k) zfE rfl ⟨_,rfl,by unfold zfE;rw[(R.sim d).homonyms (Ubn _)]⟩) rfl rfl (.inr (.inr (.inl ⟨by decide,by decide,rfl⟩)))
 ·match ns,ha,rows,hb with
  | [d,x,y],_,[],_=>
   exact zX (zfe R d x y) rfl rfl (.inr (.inr (.inr (.inl ⟨.inl rfl,rfl⟩))))
 ·match ns,ha,rows,hb with
  | [d,x,y],_,[],_=>
   exact zX (zds R d x y) rfl rfl (.inr (.inr (.inr (.inl ⟨.inr rfl,rfl⟩))))
 ·match ns,ha,rows,hb with
  | [d],_,[],_=>
   exact zX (zcs R d) rfl rfl (.inr (.inr (.inr (.inr (.inl ⟨.inl rfl,rfl⟩)))))
 ·match ns,ha,rows,hb with
  | [d],_,[x],_=>
   exact zX (zcU R d x) rfl rfl (.inr (.inr (.inr (.inr (.inr (.inl ⟨rfl,rfl,x,rfl⟩))))))
 ·match ns,ha,rows,hb with
  | [d],_,[],_=>
   exact zX (zfq R d) rfl rfl (.inr (.inr (.inr (.inr (.inl ⟨.inr rfl,rfl⟩)))))
 ·match ns,ha,rows,hb with
  | [],_,[],_=>
   exact zX (zfc R) rfl rfl (.inr (.inr (.inr (.inr (.inr (.inr rfl))))))
theorem KR (f:Int->Int×Int) (d0:Int):∀(l:List Int) (b:Int×Int),(NB.wP f d0 b l).length<=3*l.length
 | [],_=>by rw[KM];exact Uax _
 | d::r,b=>by
  have ih:=KR f d0 r (f d)
  rw[Ju,Uaj,Uae]
  split
  ·show 3+_<=_;omega
  ·show 0+_<=_;omega
theorem zdf (W:NB.WF t) (d k:Int):(Vbnlae.textOf t d k).length<=81:=by
 unfold Vbnlae.textOf
 cases e:Vbnlae.genusOf t k with
 | some g=>
  have:=(W.gen g (NB.zx (f:=fun x:Genus=>x.key) e).1).2.1
  show g.text.length<=81
  omega
 | none=>
  cases e2:Vbnlae.speciesOf t k with
  | none=>exact Uax _
  | some n=>
   have hn:=(W.spe n (NB.zx (f:=fun x:Species=>x.key) e2).1).2.1
   have h1:(((Vbnlae.genusOf t (Vbnlae.home t d n)).map fun g=>g.text).getD []).length<=40:=by
    cases e3:Vbnlae.genusOf t (Vbnlae.home t d n) with
    | none=>exact Uax _
    | some g=>exact(W.gen g (NB.zx (f:=fun x:Genus=>x.key) e3).1).2.1
   have h2:∀x,(Vbnlae.form x n).length<=40:=fun x=>by
    unfold Vbnlae.form
    split
    ·exact hn.1
    ·split
     ·exact hn.2.1
     ·exact hn.2.2
   have h3:=h2 (Vbnlae.genderOf t (Vbnlae.home t d n))
   show (_++(32::_)).length<=81
   rw[Uaj,Uae]
   omega
theorem zef (W:NB.WF t) (p:Species->Bool):(Vbnlae.speciesKeys t p).length<=40:=by
 unfold Vbnlae.speciesKeys
 rw[Uaa]
 exact Ubb (Uan _ _) W.sl
theorem zfw (W:NB.WF t) (d k:Int):(Vbnlae.homonyms t d k).length<=40:=by
 unfold Vbnlae.homonyms
 rw[yf]
 cases Vbnlae.genusOf t k with
 | some g=>
  dsimp only
  rw[Uaa]
  have:=Uan (fun h:Genus=>Vbnlae.isOut t d h.key&&h.text == g.text) t.genera
  have h2:=W.gl
  unfold Vbnlae.GENERA at h2
  omega
 | none=>
  cases Vbnlae.speciesOf t k with
  | none=>exact Uax _
  | some n=>exact zef W _
theorem zg0 (W:NB.WF t) (n d k:Int):(aN n t d k).length<=100:=by
 unfold aN
 split
 ·exact(by decide:1<=100)
 split
 ·unfold zba Vbnlae.moment
  cases Vbnlae.placeOf t k with
  | none=>exact(by decide:1<=100)
  | some p=>exact(by decide:6<=100)
 split
 ·exact(by decide:1<=100)
 split
 ·exact(by decide:3<=100)
 split
 ·unfold KU
  cases Vbnlae.speciesOf t k with
  | none=>exact(by decide:3<=100)
  | some p=>exact(by decide:3<=100)
 split
 ·unfold Vb
  have:=zdf W d k
  rw[Uae];omega
 split
 ·unfold Jn
  split
  ·have:(Vbnlae.group t d (Vbnlae.headOf t d k)).length<=40:=by unfold Vbnlae.group;rw[yf];exact zef W _
   rw[Uae];omega
  ·exact(by decide:1<=100)
 ·unfold zfE
  have:=zfw W d k
  rw[Uae];omega
theorem zf1 (W:NB.WF t) (n:Int) (ns:List Int) (rows:List (List Int)):(qN t n ns rows).length<=7000:=by
 unfold qN
 split
 ·unfold J8
  split
  ·exact(by decide:1<=7000)
  split
  ·exact(by decide:1<=7000)
  split
  ·exact(by decide:1<=7000)
  ·exact(by decide:3<=7000)
 split
 ·unfold wD
  split
  ·exact(by decide:1<=7000)
  split
  ·exact(by decide:1<=7000)
  split
  ·exact(by decide:1<=7000)
  ·have hol:(qE t (nth ns 0)).length<=40:=by unfold qE;rw[yf];exact Ubb (Uan _ _) (by unfold vP;rw[Uaa];exact W.sl)
   have hfl:=yZ (QD t (NB.yw t (nth ns 0) (nth ns 1) (nth ns 2)) (nth ns 0)) (n:=40) (m:=2) hol (JE _ _ _)
   rw[Uae];omega
 split
 ·unfold vC
  split
  ·exact(by decide:1<=7000)
  ·have hol:(WO t (nth ns 0)).length<=64:=by unfold WO;rw[yf];exact Ubb (Uan _ _) (Yq W)
   have hfl:=yZ (zal t (nth ns 0)) (n:=64) (m:=3) hol (Wo _ _)
   rw[Uae];omega
 split
 ·unfold Xb
  split
  ·exact(by decide:1<=7000)
  ·exact(by decide:1<=7000)
 split
 ·unfold K8
  split
  ·exact(by decide:1<=7000)
  ·rename_i p _
   have h1:=KR (fun d=>Vbnlae.bar t d (nth ns 0)) p.1 (zO t p.1) (0,0)
   have h2:=qF W p.1
   rw[Uae];omega
 ·obtain⟨h1,h2,h3,h4⟩:=Wn W
  unfold zfk
  simp only[Uaj,Ucp]
  omega
theorem zeP (W:NB.WF t) (n:Int) (ns:List Int) (rows:List (List Int)):(dsk t n ns rows).2.length<=7000:=by
 unfold dsk
 split
 ·unfold zca
  split
  ·exact(by decide:1<=7000)
  split
  ·exact(by decide:1<=7000)
  ·exact(by decide:1<=7000)
 split
 ·exact(by decide:1<=7000)
 split
 ·show (Xd n t (nth ns 0) (nth ns 1)).length<=7000
  unfold Xd
  split
  ·exact Ubb (zg0 W n _ _) (by decide)
  ·exact(by decide:1<=7000)
 ·exact zf1 W n ns rows
end
section
variable {P:Program}{w:World}{K:PySem.W.Frag}{mg:Str->Option Value}{base:Heap}{C:Cs}
theorem ze5 (T:Txt K mg C):InO P w K mg base C.bk "Book" 1 ["self"] (za7 C):=zeE T
theorem zbi (T:Txt K mg C):InO P w K mg base C.rd "Reader" 1 ["self", "calls"] (JP C):=zbC T
theorem JX {H H':Hp}{p:Addr}{xs:List V} (e:SqL K H p xs) (s:Same H H'):SqL K H' p xs:=by
 rcases e with (e | ⟨o,e⟩) | e
 ·exact .inl (.inl (s _ _ e))
 ·exact .inl (.inr ⟨o,s _ _ e⟩)
 ·exact .inr e
theorem zig {H H':Hp}{b p C dx:Addr}{xs:List V}{fs:List (Str×V)} (e:SqL K H p xs) (hb:H b=some (.ins C dx fs)) (s:yT b H H'):SqL K H' p xs:=by
 rcases e with (e | ⟨o,e⟩) | e
 ·exact .inl (.inl (s _ _ (zT e hb (by intro z;cases z)) xB e))
 ·exact .inl (.inr ⟨o,s _ _ (zT e hb (by intro z;cases z)) (fun _ z=>nomatch z) e⟩)
 ·exact .inr e
theorem VI {ls:List Int} (h:PyVbnlae.answers_asked ls=true):∃cs,PyFlat.calls PyVbnlae.shape ls.length ls=some cs/\(∀c∈cs,VbnlaeNeutral.asked1 c=true)/\cs.length<=250/\PyVbnlae.answers ls=PyFlat.told (PyFlat.played VbnlaeNeutral.step VbnlaeNeutral.start cs):=by
 unfold PyVbnlae.answers_asked at h
 unfold PyVbnlae.answers
 cases e:PyVbnlae.calls ls with
 | none=>rw[e] at h;cases h
 | some cs=>
  rw[e] at h
  dsimp only at h ⊢
  unfold VbnlaeNeutral.asked PyFlat.atMost at h
  rw[Uat,Uat,Ubm,List.all_eq_true] at h
  exact⟨cs,NB.zdd e,h.2.1,h.1,rfl⟩
theorem zbg {na:Int->Addr}{H H':Hp}{b r dx lc:Addr}{p:Nat}{t:State}{ps:List Addr} (B:BkW C na H b t ps) (hr:RdO C H r dx lc p) (s:zv r H H'):BkW C na H' b t ps:=by
 unfold RdO at hr
 obtain⟨d0,wd,g,sd,l,hb,hwd,hg,hs,hL,n⟩:=B.ex
 have kd:∀{a:Addr}{kvs:List (Key×V)},H a=some (.dK kvs)->H' a=some (.dK kvs):=fun h=>s _ _ (zT h hr (by intro z;cases z)) h
 have kl:∀{a:Addr}{xs:List V},H a=some (.lst xs)->H' a=some (.lst xs):=fun h=>s _ _ (zT h hr (by intro z;cases z)) h
 have ki:∀{a c d:Addr}{fs':List (Str×V)},fs'.lookup ("calls" : Str)=none->H a=some (.ins c d fs')->H' a=some (.ins c d fs'):=fun hn h=>s _ _ (zT h hr (by
  intro z
  injection z with _ _ z
  rw[z] at hn
  cases hn)) h
 refine⟨⟨d0,wd,g,sd,l,ki rfl hb,kd hwd,kd hg,kd hs,kl hL,n⟩,fun x hx=>?_,fun x hx=>?_,zE (fun _ _ z=>?_) B.act⟩
 ·obtain⟨d1,l1,h1,h2⟩:=B.gen x hx
  exact⟨d1,l1,ki rfl h1,kl h2⟩
 ·obtain⟨d1,fo,f0,f1,f2,h1,h2,h3,h4,h5⟩:=B.spe x hx
  exact⟨d1,fo,f0,f1,f2,ki rfl h1,kl h2,kl h3,kl h4,kl h5⟩
 ·obtain⟨d1,h1⟩:=z
  exact⟨d1,ki rfl h1⟩
def Pl:HO->Prop
 | .lst _=>True
 | .dK _=>True
 | .ins _ _ _=>True
 | _=>False
theorem BkW.to {na:Int->Addr}{H H':Hp}{b:Addr}{t:State}{ps:List Addr} (B:BkW C na H b t ps) (k:∀a o,Pl o->H a=some o->H' a=some o):BkW C na H' b t ps:=by
 obtain⟨d0,wd,g,sd,l,hb,hwd,hg,hs,hL,n⟩:=B.ex
 refine⟨⟨d0,wd,g,sd,l,k _ _ trivial hb,k _ _ trivial hwd,k _ _ trivial hg,k _ _ trivial hs,k _ _ trivial hL,n⟩,fun x hx=>?_,fun x hx=>?_,zE (fun _ _ z=>?_) B.act⟩
 ·obtain⟨d1,l1,h1,h2⟩:=B.gen x hx
  exact⟨d1,l1,k _ _ trivial h1,k _ _ trivial h2⟩
 ·obtain⟨d1,fo,f0,f1,f2,h1,h2,h3,h4,h5⟩:=B.spe x hx
  exact⟨d1,fo,f0,f1,f2,k _ _ trivial h1,k _ _ trivial h2,k _ _ trivial h3,k _ _ trivial h4,k _ _ trivial h5⟩
 ·obtain⟨d1,h1⟩:=z
  exact⟨d1,k _ _ trivial h1⟩
theorem BkW.off {na:Int->Addr}{H:Hp}{b g:Addr}{t:State}{ps:List Addr}{u v:HO} (B:BkW C na (upd H g v) b t ps) (nv:¬Pl v):BkW C na (upd H g u) b t ps:=B.to fun a o po e=>by
 by_cases q:a=g
 ·subst q
  rw[zc] at e
  cases e
  exact absurd po nv
 ·rw[zh q] at e ⊢
  exact e
theorem zeb {H H':Hp}{lc g:Addr}{xs:List V} (h:SqL K H lc xs) (o:lc≠g\/∀H,SqL K H lc xs) (k:∀a o,a≠g->H a=some o->H' a=some o):SqL K H' lc xs:=by
 rcases o with o | o
 ·rcases h with (h | ⟨ob,h⟩) | h
  ·exact .inl (.inl (k _ _ o h))
  ·exact .inl (.inr ⟨ob,k _ _ o h⟩)
  ·exact .inr h
 ·exact o H'
theorem zcf:∀{k:Nat}{l t:List Int}{xs:List (List Int)},PyFlat.rows k l=some (xs,t)->t.length<=l.length
 | 0,l,t,xs,h=>by
  rw[PyFlat.rows] at h
  have h:=Option.some.inj h
  injection h with _ h2
  subst h2;exact Uag _
 | k+1,l,t,xs,h=>by
  obtain⟨x,s,ys,h1,h2,rfl⟩:=NB.YQ h
  obtain⟨n,r,rfl,_,_,_,rfl⟩:=NB.Wl h1
  have:=zcf h2
  rw[Uby] at this
  rw[Uae];omega
structure Lp (K:PySem.W.Frag) (C:Cs) (ls:List Int) (lc b r g:Addr) (m:Nat) (H:Hp):Prop where
 ex:∃s t na ps dx p given cs f,BkW C na (upd H g (.own 0)) b t ps/\NB.Rel s t/\RdO C H r dx lc p/\SqL K H lc (ls.map V.int)/\H g=some (.lst (given.map V.int))/\m=ls.length-p ∧
  PyFlat.calls PyVbnlae.shape f (ls.drop p)=some cs/\(∀c∈cs,VbnlaeNeutral.asked1 c=true)/\given.length+7001*cs.length<=7001*250/\given++PyFlat.told (PyFlat.played VbnlaeNeutral.step s cs)=PyVbnlae.answers ls
theorem j2:zk ["calls", "book", "reader", "given", "answer"] ["calls"] (zg (top 131)):=sC
theorem zaB {f:Addr}{fd:FuncData} (F:Fun K "answers" "answers" (top 131) f fd) (T:Txt K mg C):Z1 P w K mg base CX0 16 f fd ["calls"] (qQ K):=by
 refine F.ok j2 (fun vs H Q E h=>?_) (fun cdv A outer s H vs Q E hr h=>?_)
 ·obtain⟨_,_,e,_⟩:=h
  subst e
  rfl
 ·obtain⟨lc,ls,rfl,hs,hask,q⟩:=h
  obtain⟨cs,hcs,hall,h250,hans⟩:=VI hask
  refine⟨_,(zb (pS 1 j2.nd (zgJ (ze5 T) hr.m)) (zb (pS 2 j2.nd (wf (zbi T) hr.m (za (pv 0) zf))) (zb (pS 3 j2.nd (zD zf)) (zb (Qh PassesOwn.never (xw (zU (VU (wX T) hr.m (pv 2)))) (zb (Vz (pS 4 j2.nd (zV (XF T) hr.m (za (pv 1) (za (VU (vp T) hr.m (pv 2)) zf))))) (zb (yu (pBa K (pv 3) (za (zG (xQ K) rfl T.nb_len PySem.boot_len (za (pv 4) zf)) zf))) (ze (yu (pBe K (pv 3) (za (pv 4) zf))))))) (ze (zj (pv 3))))))),?_⟩
  k_go
  intro b dy hb hdy hne
  refine⟨b,rfl,dy,zc,fun H1 B1 s1=>⟨rfl,?_⟩⟩
  have s1:Same H H1:=made hb hdy s1
  have hs1:=JX hs s1
  k_go
  intro r dz hr0 hdz hne2
  refine⟨r,lc,rfl,dz,zc,fun H2 e2 s2=>⟨rfl,?_⟩⟩
  have s2:Same H1 H2:=made hr0 hdz s2
  have hs2:=JX hs1 s2
  have B2:BkW C (fun _=>0) H2 b {} []:=(B1 _).same s2
  k_go
  refine⟨Uax _,fun g hg=>?_⟩
  have s3:Same H2 (upd H2 g (.lst [])):=Same.new hg
  have hoff:lc≠g\/∀H,SqL K H lc (ls.map V.int):=by
   rcases hs2 with (h | ⟨o,h⟩) | h
   ·exact .inl (zm h hg)
   ·exact .inl (zm h hg)
   ·exact .inr fun H=>.inr h
  have L0:Lp K C ls lc b r g ls.length (upd H2 g (.lst [])):=⟨_,{},_,[],dz,0,[],cs,ls.length,by rw[JT];exact B2.same (Same.new hg),NB.zco,s3 _ _ e2,JX hs2 s3,zc,rfl,hcs,hall,by simp only[Ubt];omega,by rw[List.nil_append,hans];rfl⟩
  generalize upd H2 g (.lst [])=H3 at s3 L0
  k_go
  refine⟨fun m σ H'=>Lp K C ls lc b r g m H'/\∃v4:Option V,σ=[some (.ref lc),some (.ref b),some (.ref r),some (.ref g),v4],⟨_,L0,none,rfl⟩,?_⟩
  rintro m σ Hn ⟨L,v4,rfl⟩
  obtain⟨s0,t,na,ps,dx,p,given,cs1,f1,B,R,hr,hsq,hgv,hm,hc,ha,hl,hd⟩:=L.ex
  have hr':=hr
  unfold RdO at hr'
  k_go
  refine⟨r,rfl,dx,lc,p,ls,hr,hsq,?_⟩
  k_go
  by_cases hend:ls.length<=p
  ·rw[Uac hend]
   refine zL ?_
   k_go
   rw[List.drop_eq_nil_of_le hend] at hc
   have e:cs1=[]:=by
    cases f1 <;> (rw[PyFlat.calls] at hc;exact(Option.some.inj hc).symm)
   subst e
   have e2:given++[]=PyVbnlae.answers ls:=hd
   rw[Ubo] at e2
   exact q Hn g (by rw[hgv,e2])
  ·rw[Uab hend]
   cases hdr:ls.drop p with
   | nil=>
    have h0:=congrArg List.length hdr
    rw[Uby,Ubt] at h0
    omega
   | cons x rest=>
   rw[hdr] at hc
   obtain⟨c,t1,cs',f',hc1,hc2,rfl⟩:=NB.Je hc
   obtain⟨n,k,xs,hsh,hn,hrows,rfl⟩:=NB.Y6 hc1
   obtain⟨D1,D2,D3⟩:=zcR R hsh (by rw[Ubl];omega) (NB.ZZ hrows) (ha _ Uak)
   refine zQ ⟨fun σ' H'=>∃m',m'<m/\Lp K C ls lc b r g m' H'/\∃v4:Option V,σ'=[some (.ref lc),some (.ref b),some (.ref r),some (.ref g),v4],fun σ' H' h=>h,?_⟩
   k_go
   refine⟨g,.lst (given.map V.int),hgv,trivial,fun od=>?_⟩
   have hrg:r≠g:=zT hr' hgv (by intro z;cases z)
   have B4:BkW C na (upd Hn g (.frz od (.lst (given.map V.int)))) b t ps:=B.off (fun z=>z)
   have hr4:RdO C (upd Hn g (.frz od (.lst (given.map V.int)))) r dx lc p:=by unfold RdO;rw[zh hrg];exact hr'
   have hsq4:SqL K (upd Hn g (.frz od (.lst (given.map V.int)))) lc (ls.map V.int):=zeb hsq hoff fun a o n e=>by rw[zh n];exact e
   have hg4:upd Hn g (.frz od (.lst (given.map V.int))) g=some (.frz od (.lst (given.map V.int))):=zc
   generalize upd Hn g (.frz od (.lst (given.map V.int)))=H4 at B4 hr4 hsq4 hg4
   have hr4':=hr4
   unfold RdO at hr4'
   k_go
   refine⟨r,rfl,dx,lc,p,ls,x,rest.take n,xs,t1,hr4,hsq4,by rw[hdr];exact hc1,fun c H5 p' hr5 hp' s5 CA=>?_⟩
   have B5:=zbg B4 hr4 s5
   have hg5:H5 g=some (.frz od (.lst (given.map V.int))):=s5 _ _ hrg.symm hg4
   have hsq5:=kM hsq4 hr4' s5
   obtain⟨d5,w5,gg5,sd5,l5,hb5,_⟩:=B5.ex
   have hr5':=hr5
   unfold RdO at hr5'
   have hrb:r≠b:=zT hr5' hb5 (by
    intro z
    injection z with _ _ z
    have:=congrArg (fun fs=>fs.lookup ("calls" : Str)) z
    cases this)
   k_go
   refine⟨b,c,rfl,na,t,ps,x,rest.take n,xs,B5,CA,R.W,⟨⟨R.al,R.ak⟩,D3⟩,fun H6 pa na' ps' B6 sb e6=>?_⟩
   have hg6:H6 g=some (.frz od (.lst (given.map V.int))):=sb _ _ (zT hg5 hb5 (by intro z;cases z)) (fun _ z=>nomatch z) hg5
   have hr6:RdO C H6 r dx lc p':=sb _ _ hrb xh hr5'
   have hsq6:=zig hsq5 hb5 sb
   have hpg:pa≠g:=zT e6 hg6 (by intro z;cases z)
   have hal:=zeP R.W x (rest.take n) xs
   have B6':BkW C na' (upd H6 g (.own 0)) b (dsk t x (rest.take n) xs).1 ps':=B6.to fun a o po e=>by
    rw[zh (fun z=>by rw[z,hg6] at e;cases e;exact po)]
    exact e
   rw[←D1] at e6 hal
   generalize hst:VbnlaeNeutral.step s0 ((x::rest.take n)::xs)=sa at D2 e6 hal
   k_go
   refine⟨hg6,?_⟩
   have hg7:upd H6 g (.lst (given.map V.int)) g=some (.lst (given.map V.int)):=zc
   have e7:upd H6 g (.lst (given.map V.int)) pa=some (.lst (sa.2.map V.int)):=by rw[zh hpg];exact e6
   have hgl:given.length+7001<=1750250:=by
    rw[Uae] at hl
    omega
   k_go
   refine Y1 hg7 ?_
   k_go
   refine⟨pa,_,rfl,.inl (SqL.of e7),?_⟩
   k_go
   refine zh3 hg7 (by rw[Uaa,sizeLine_eq];omega) ?_
   k_go
   refine Y1 zc ?_
   k_go
   refine XG zc (by rw[zh hpg];exact e7) (by rw[Uaj,Uaa,Uaa,sizeLine_eq];show given.length+1+_<=_;omega) ?_
   k_go
   have hll:ls.length-p'=t1.length:=by rw[←hp',Uby]
   have hlp:ls.length-p=rest.length+1:=by rw[←Uby,hdr,Uae]
   refine⟨ls.length-p',?_,⟨sa.1,(dsk t x (rest.take n) xs).1,na',ps',dx,p',given++(((sa.2.length:Nat):Int)::sa.2),cs',f',?_,D2,?_,?_,?_,rfl,by rw[hp'];exact hc2,fun c hc=>ha c (Uad _ hc),?_,?_⟩,_,rfl⟩
   ·rw[hm,hll,hlp]
    have h0:=zcf hrows
    rw[Uby] at h0
    omega
   ·rw[JT,JT,JT]
    exact B6'
   ·unfold RdO
    rw[zh hrg,zh hrg,zh hrg]
    exact hr6
   ·exact zeb hsq6 hoff fun a o n e=>by rw[zh n,zh n,zh n];exact e
   ·rw[zc,Ubc,Uas,Uaa,Ucs]
    rfl
   ·rw[Uae] at hl
    rw[Uaj,Uae]
    omega
   ·rw[NB.Vq,hst] at hd
    rw[←hd,Ucs]
end
theorem zhw {P:Program}{w:World}{K:PySem.W.Frag}{mg:Str->Option Value}{C:Cs}{fa:Addr} (T:Txt K mg C) (hfa:mg "answers" = some (.ref fa)) :
  ∃fd:FuncData,(∀(s:Shared) (us:List Value),us.length=(["calls"]:List Str).length->BindsTo s fd ⟨us,[]⟩ ((["calls"]:List Str).zip us))/\∀base:Heap,K.In base->base.Ns mainGlobals mg->Z1 P w K mg base CX0 16 fa fd ["calls"] (qQ K):=by
 obtain⟨f,fd,F,hm⟩:=T.d_answers.ex
 have e:=hfa.symm.trans hm
 cases e
 refine⟨fd,?_,fun base _ _=>zaB F T⟩
 obtain⟨oc,od,kV,doc,pm,an,cdv,ct,osl,rfl,lk,hcd⟩:=F.ex
 exact fun s us hu=>match us,hu with | [_],_=>.of_eq rfl
end NP
theorem PySem.Challenge.cw_namebars_s01_answers_holds : PySem.Challenge.rw_namebars_s01_answers.Holds := by
 exact NP.hd fun T h=>NP.zhw T h
