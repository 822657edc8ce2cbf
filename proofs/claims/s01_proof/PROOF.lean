import PyProof.Rows.All
import Wide.All
import OpenK.AllK
import Wide.FinOn
import PyProof.EqAt
import PyProof.EqKinds
import PyProof.TupleCall
import KE.BitLaws
import KE.OsGo
import Open.SpecLaws
import PySem.Challenge.RW_sixteenbits_s01_answers
set_option Elab.async false
set_option linter.all false
set_option maxRecDepth 100000
set_option maxHeartbeats 4000000
set_option compiler.extract_closed false
section
open PySem PySem.W PyProof.Rows
set_option Elab.async false
set_option linter.all false
set_option maxRecDepth 100000
set_option maxHeartbeats 0
def PySem.W.Fast.tw17839971929296575859:=Nat
abbrev rr := PySem.Challenge.rw_sixteenbits_s01_answers
theorem w1 : looksOpen rr.prog = true := by k_qdec
theorem w2 : rr.prog.boundNames.contains rr.name = true := by first | k_qdec | decide +kernel
theorem w3 : (!startupNames.contains rr.name) = true := by first | k_qdec | decide +kernel
theorem w4 : specDef rr.prog rr.name rr.args.length = true := by first | k_qdec | decide +kernel
theorem w5 : rr.args.all Codec.fits = true := by first | k_qdec | decide +kernel
theorem w6 : rr.ret.ok = true := by first | k_qdec | decide +kernel
end
section
namespace L2
open PySem PySem.Spec PyProof.Rows
abbrev Key:=Sum Int Str
def iR:Key→Value→Bool
 |.inl k,v=>Value.isInt k v
 |.inr x,v=>Value.isStrOf x v
def keyH(w:World):Key→Int
 |.inl k=>hashInt k
 |.inr x=>hashStr w x
theorem gQ:∀{k:Key}{v:Value},iR k v=true→(∃ i t,k=Sum.inl i∧v=Value.int i t)∨(∃ x t,k=Sum.inr x∧v=Value.str x t)
 |.inl i,v,h=>by
  obtain⟨t,e⟩:=Value.isInt_shape (k:=i) (v:=v) h
  exact .inl ⟨i,t,rfl,e⟩
 |.inr x,v,h=>by
  obtain⟨t,e⟩:=Value.isStrOf_shape (x:=x) (v:=v) h
  exact .inr ⟨x,t,rfl,e⟩
theorem z6K(i:Int)(t:Tok):iR (.inl i) (.int i t)=true:=by simp[iR,Value.isInt]
theorem z6L(x:Str)(t:Tok):iR (.inr x) (.str x t)=true:=by simp[iR,Value.isStrOf]
theorem y7J(a b:Int):decide ((Sum.inl a:Key)=Sum.inl b)=(a==b):=by
 by_cases e:a=b
 ·subst e;simp
 ·have h:¬(Sum.inl a:Key)=Sum.inl b:=fun q=>e (Sum.inl.inj q)
  rw[decide_eq_false h]
  exact(beq_eq_false_iff_ne.mpr e).symm
theorem y7M(a b:Str):decide ((Sum.inr a:Key)=Sum.inr b)=decide (a=b):=by
 by_cases e:a=b
 ·subst e;simp
 ·have h:¬(Sum.inr a:Key)=Sum.inr b:=fun q=>e (Sum.inr.inj q)
  rw[decide_eq_false h,decide_eq_false e]
theorem y7K(a:Int)(b:Str):decide ((Sum.inl a:Key)=Sum.inr b)=false:=decide_eq_false (fun q=>nomatch q)
theorem y7L(a:Str)(b:Int):decide ((Sum.inr a:Key)=Sum.inl b)=false:=decide_eq_false (fun q=>nomatch q)
def cN(prog:Program)(w:World):PySem.KeyKind prog w Key where
 is:=iR
 hash:=keyH w
 inj:=fun v a b ha hb=>by
  rcases gQ ha with ⟨i,t,rfl,rfl⟩|⟨x,t,rfl,rfl⟩
  ·rcases gQ hb with ⟨j,u,rfl,e⟩|⟨y,u,rfl,e⟩
   ·injection e with e1 _;rw[e1]
   ·exact nomatch e
  ·rcases gQ hb with ⟨j,u,rfl,e⟩|⟨y,u,rfl,e⟩
   ·exact nomatch e
   ·injection e with e1 _;rw[e1]
 byValue:=fun k v h=>by
  rcases gQ h with ⟨i,t,rfl,rfl⟩|⟨x,t,rfl,rfl⟩ <;> rfl
 pyHash:=fun hv h=>by
  rcases gQ hv with ⟨i,t,rfl,rfl⟩|⟨x,t,rfl,rfl⟩
  ·exact wpAny_pyHash_int h
  ·exact wpAny_pyHash_str h
 eqBool:=fun hu hv h=>by
  rcases gQ hu with ⟨i,t,rfl,rfl⟩|⟨x,t,rfl,rfl⟩
  ·rcases gQ hv with ⟨j,u,rfl,rfl⟩|⟨y,u,rfl,rfl⟩
   ·rw[y7J] at h;exact wpAny_eqBool_int h
   ·rw[y7K] at h;exact SeqAt.EqAt.int_str i t y u _ _ _ _ h
  ·rcases gQ hv with ⟨j,u,rfl,rfl⟩|⟨y,u,rfl,rfl⟩
   ·rw[y7L] at h;exact SeqAt.EqAt.str_int x t j u _ _ _ _ h
   ·rw[y7M] at h;exact wpAny_eqBool_str h
 «strs»:=fun k x t v h=>by
  rcases gQ h with ⟨i,u,rfl,e⟩|⟨y,u,rfl,e⟩
  ·exact nomatch e
  ·injection e with e1 _
   subst e1
   cases v <;> rfl
theorem z3r(prog:Program)(w:World)(i:Int)(t:Tok):(cN prog w).is (.inl i) (.int i t)=true:=z6K i t
theorem z3s(prog:Program)(w:World)(x:Str)(t:Tok):(cN prog w).is (.inr x) (.str x t)=true:=z6L x t
end L2
namespace L2
open PySem PySem.Spec PyProof.Rows
inductive V where
 |non|bl (b:Bool)|int (i:Int)|str (x:Str)|byt (b:Array UInt8)|flt (b:UInt64)|ref (a:Addr)|ty (n:String)
 deriving DecidableEq
def RelV:V→Value→Prop
 |.non,u=>u=Value.none
 |.bl b,u=>u=Value.bool b
 |.int i,u=>∃ t,u=Value.int i t
 |.str x,u=>∃ t,u=Value.str x t
 |.byt b,u=>∃ t,u=Value.bytes b t
 |.flt b,u=>∃ t,u=Value.float b t
 |.ref a,u=>u=Value.ref a
 |.ty n,u=>u=Value.type n
abbrev Vals:List V→List Value→Prop:=Paired RelV
theorem Vals.length{xs:List V}{us:List Value}(r:Vals xs us):xs.length=us.length:=Paired.length r
theorem Vals.get:∀{xs:List V}{us:List Value}{i:Nat}{x:V},Vals xs us→xs[i]?=some x→∃ u,us[i]?=some u∧RelV x u
 |_,_,_,_,.nil,e=>by simp at e
 |_,_,0,_,.cons r _,e=>by simp at e;subst e;exact⟨_,rfl,r⟩
 |_,_,i+1,x,.cons _ t,e=>by
  obtain⟨u,h1,h2⟩:=Vals.get (i:=i) (x:=x) t (by simpa using e)
  exact⟨u,by simpa using h1,h2⟩
theorem Vals.set{x:V}{u:Value}(r:RelV x u):∀{xs:List V}{us:List Value} (i:Nat),Vals xs us→Vals (xs.set i x) (us.set i u)
 |_,_,_,.nil=>.nil
 |_,_,0,.cons _ t=>.cons r t
 |_,_,i+1,.cons q t=>.cons q (Vals.set r i t)
theorem Vals.append:∀{xs ys:List V}{us ws:List Value},Vals xs us→Vals ys ws→Vals (xs++ys) (us++ws)
 |_,_,_,_,.nil,s=>s
 |_,_,_,_,.cons r t,s=>.cons r (Vals.append t s)
theorem Vals.take:∀{xs:List V}{us:List Value} (n:Nat),Vals xs us→Vals (xs.take n) (us.take n)
 |_,_,0,_=>.nil
 |_,_,_+1,.nil=>.nil
 |_,_,n+1,.cons r t=>.cons r (Vals.take n t)
theorem Vals.drop:∀{xs:List V}{us:List Value} (n:Nat),Vals xs us→Vals (xs.drop n) (us.drop n)
 |_,_,0,r=>r
 |_,_,_+1,.nil=>.nil
 |_,_,n+1,.cons _ t=>Vals.drop n t
def RelO:Option V→Option Value→Prop
 |some v,some u=>RelV v u
 |none,none=>True
 |_,_=>False
def KV{κ:Type}:List (κ×V)→List (κ×Value)→Prop:=Paired fun(p:κ×V) (q:κ×Value)=>p.1=q.1∧RelV p.2 q.2
def kV:Key→V
 |.inl i=>.int i
 |.inr x=>.str x
inductive HO where
 |lst (xs:List V)
 |tup (xs:List V)
 |dK (kvs:List (Key×V))|dT (kvs:List (List Key×V))
 |set (S:Int→Bool) (n:Nat)
 |ins (C dx:Addr) (fs:List (Str×V))
 |own (x:Addr)
 |xd (fs:List (Str×V))
 |met (f x:Addr)
 |rng (lo hi:Int)
 |frz (o:Obj) (u:HO)
 |tbl (ps:Array Value)
 |ext (φ:Heap→Prop)
abbrev Hp:=Addr→Option HO
def upd(H:Hp)(a:Addr)(o:HO):Hp:=fun b=>if b=a then some o else H b
theorem aH{H:Hp}{a:Addr}{o:HO}:upd H a o a=some o:=by unfold upd;rw[if_pos rfl]
theorem aC{H:Hp}{a b:Addr}{o:HO}(h:b≠a):upd H a o b=H b:=by unfold upd;rw[if_neg h]
theorem y4m{H:Hp}{a:Addr}{o u:HO}:upd (upd H a o) a u=upd H a u:=by
 funext b;unfold upd;split <;> rfl
theorem aX{H:Hp}{a b:Addr}{o u:HO}(h:H a=some o)(h':H b=some u)(d:o≠u):a≠b:=by
 intro e;subst e;rw[h] at h';exact d (Option.some.inj h')
theorem aJ{H:Hp}{a b:Addr}{o:HO}(h:H a=some o)(h':H b=none):a≠b:=by
 intro e;subst e;rw[h] at h';cases h'
section
variable(P:Program)(w:World)
def ObjOk(H:Hp)(h:Heap)(a:Addr):HO→Prop
 |.lst xs=>xs.length≤sizeLine∧∃(its:List Value) (n:Nat),Vals xs its∧h.get? a=some { cls:=.type "list",data:=.seq its.toArray n }
 |.tup xs=>xs.length≤sizeLine∧∃ its:List Value,Vals xs its∧IsTup h a its.toArray
 |.dK kvs=>kvs.length≤sizeLine∧(a==sysModules)=false∧∃ vs,KV kvs vs∧h.DictOf (cN P w) a vs
 |.dT kvs=>kvs.length≤sizeLine∧(a==sysModules)=false∧∃ xs:List (List Key×Addr×Value),
   Paired (fun(p:List Key×V) (q:List Key×Addr×Value)=>p.1=q.1∧H q.2.1=some (.tup (p.1.map kV))∧RelV p.2 q.2.2) kvs xs ∧
   ∃ o es ep,h.get? a=some o∧o.ExactDict∧o.data=.dict es ep∧es.toList=xs.map (entryOfKey (tupleKind (cN P w)))∧(xs.map (·.1)).Nodup
 |.set S n=>h.SetOf (intKind P w) a S n
 |.ins C dx fs=>H dx=some (.own a)∧fs.length≤1000∧dx≠a∧h.get? a=some (PySem.W.instObj C dx) ∧
   ∃ mA,h.Ns1 dx mA∧(∀ f,RelO (fs.lookup f) (mA f))∧PySem.Within mA (fs.map (·.1))
 |.own _=>∃ o,h.get? a=some o
 |.xd fs=>∃ mA,h.Ns1 a mA∧∀ f,RelO (fs.lookup f) (mA f)
 |.rng lo hi=>∃ t u v,h.get? a=some { cls:=.type "range",data:=.fields #[.int lo t,.int hi u,.int 1 v] }
 |.frz o u=>h.get? a=some o∧ObjOk H h a u
 |.tbl ps=>h.get? a=some { cls:=.none,data:=.fields ps }
 |.met f x=>h.get? a=some (PySem.W.methodObj (.ref f) (.ref x))
 |.ext φ=>φ h∧(∃ o,h.get? a=some o)∧∀ h1 h2:Heap,φ h1→(∀ o,h1.get? a=some o→h2.get? a=some o)→φ h2
def HOk(H:Hp)(h:Heap):Prop:=∀ a o,H a=some o→ObjOk P w H h a o
end
section
variable{P:Program}{w:World}{H H':Hp}{h h':Heap}{a:Addr}{o:HO}
theorem ObjOk.lt(x:ObjOk P w H h a o):a<h.objs.size:=by
 cases o with
 |lst xs=>obtain⟨_,_,_,_,e⟩:=x;exact Heap.lt_size e
 |tup xs=>obtain⟨_,_,_,p⟩:=x;exact p.lt
 |dK kvs=>obtain⟨_,_,_,_,o,_,_,e,_⟩:=x;exact Heap.lt_size e
 |dT kvs=>obtain⟨_,_,_,_,o,_,_,e,_⟩:=x;exact Heap.lt_size e
 |set S n=>obtain⟨o,_,_,_,e,_⟩:=x;exact Heap.lt_size e
 |ins C dx fs=>obtain⟨_,_,_,e,_⟩:=x;exact Heap.lt_size e
 |own y=>obtain⟨_,e⟩:=x;exact Heap.lt_size e
 |xd fs=>obtain⟨_,⟨_,_,_,e,_⟩,_⟩:=x;exact Heap.lt_size e
 |rng lo hi=>obtain⟨_,_,_,e⟩:=x;exact Heap.lt_size e
 |frz ob u=>obtain⟨e,_⟩:=x;exact Heap.lt_size e
 |tbl ps=>exact Heap.lt_size (show h.get? a=some _ from x)
 |met f y=>exact Heap.lt_size (show h.get? a=some _ from x)
 |ext φ=>obtain⟨_,⟨_,e⟩,_⟩:=x;exact Heap.lt_size e
theorem Paired.mapP{α β:Type}{F G:α→β→Prop}:∀{l₁:List α}{l₂:List β},Paired F l₁ l₂→(∀ a b,F a b→G a b)→Paired G l₁ l₂
 |_,_,.nil,_=>.nil
 |_,_,.cons r t,f=>.cons (f _ _ r) (Paired.mapP t f)
theorem ObjOk.stay (x:ObjOk P w H h a o) (k:∀ b u,(b=a∨H b=some (.own a))→h.get? b=some u→h'.get? b=some u)
  (ho:∀ b,H b=some (.own a)→H' b=some (.own a)) (ht:∀ b xs,H b=some (.tup xs)→H' b=some (.tup xs)):ObjOk P w H' h' a o:=by
 induction o with
 |lst xs=>obtain⟨z,its,n,r,e⟩:=x;exact⟨z,its,n,r,k _ _ (.inl rfl) e⟩
 |tup xs=>obtain⟨z,its,r,ob,e,c⟩:=x;exact⟨z,its,r,ob,k _ _ (.inl rfl) e,c⟩
 |dK kvs=>obtain⟨z,y,vs,r,ob,es,ep,e,c⟩:=x;exact⟨z,y,vs,r,ob,es,ep,k _ _ (.inl rfl) e,c⟩
 |dT kvs=>
  obtain⟨z,y,xs,r,ob,es,ep,e,c⟩:=x
  exact⟨z,y,xs,Paired.mapP r fun p q z=>⟨z.1,ht _ _ z.2.1,z.2.2⟩,ob,es,ep,k _ _ (.inl rfl) e,c⟩
 |set S n=>obtain⟨ob,es,ep,t,e,c⟩:=x;exact⟨ob,es,ep,t,k _ _ (.inl rfl) e,c⟩
 |ins C dx fs=>
  obtain⟨d,z,ne,e,mA,⟨od,es,ep,e2,c⟩,r⟩:=x
  exact⟨ho _ d,z,ne,k _ _ (.inl rfl) e,mA,⟨od,es,ep,k _ _ (.inr d) e2,c⟩,r⟩
 |own y=>obtain⟨ob,e⟩:=x;exact⟨ob,k _ _ (.inl rfl) e⟩
 |xd fs=>obtain⟨mA,⟨od,es,ep,e,c⟩,r⟩:=x;exact⟨mA,⟨od,es,ep,k _ _ (.inl rfl) e,c⟩,r⟩
 |rng lo hi=>obtain⟨t,u,v,e⟩:=x;exact⟨t,u,v,k _ _ (.inl rfl) e⟩
 |frz ob u ih=>obtain⟨e,q⟩:=x;exact⟨k _ _ (.inl rfl) e,ih q⟩
 |tbl ps=>
  have e:h.get? a=some { cls:=.none,data:=.fields ps }:=x
  show h'.get? a=some { cls:=.none,data:=.fields ps }
  exact k a _ (.inl rfl) e
 |met f y=>
  have e:h.get? a=some (PySem.W.methodObj (.ref f) (.ref y)):=x
  show h'.get? a=some (PySem.W.methodObj (.ref f) (.ref y))
  exact k a _ (.inl rfl) e
 |ext φ=>obtain⟨p,⟨o,e⟩,st⟩:=x;exact⟨st _ _ p fun o q=>k _ _ (.inl rfl) q,⟨o,k _ _ (.inl rfl) e⟩,st⟩
theorem HOk.lt(x:HOk P w H h)(e:H a=some o):a<h.objs.size:=(x a o e).lt
theorem HOk.fresh(x:HOk P w H h)(e:h.objs.size≤a):H a=none:=by
 cases q:H a with
 |none=>rfl
 |some u=>exact absurd (Nat.lt_of_lt_of_le (x.lt q) e) (Nat.lt_irrefl _)
theorem HOk.kept(x:HOk P w H h)(k:∀ b u,h.get? b=some u→h'.get? b=some u):HOk P w H h':=fun a o e=>
 (x a o e).stay (fun b u _ q=>k b u q) (fun _ q=>q) fun _ _ q=>q
theorem HOk.laid(x:HOk P w H h)(k:∀ b u,h.get? b=some u→h'.get? b=some u)(hp:h.objs.size≤a)(new:ObjOk P w (upd H a o) h' a o):HOk P w (upd H a o) h':=fun b u e=>by
 have hn:=x.fresh hp
 by_cases hb:b=a
 ·subst hb;rw[aH] at e;cases e;exact new
 ·rw[aC hb] at e
  exact(x b u e).stay (fun c v _ q=>k c v q) (fun c q=>by rw[aC (aJ q hn)];exact q) fun c xs q=>by rw[aC (aJ q hn)];exact q
end
def Rd(H:Hp)(a:Addr)(u:HO):Prop:=H a=some u∨∃ o,H a=some (.frz o u)
theorem Rd.ok{P:Program}{w:World}{H:Hp}{h:Heap}{a:Addr}{u:HO}(r:Rd H a u)(x:HOk P w H h):ObjOk P w H h a u:=by
 rcases r with r|⟨o,r⟩
 ·exact x a u r
 ·obtain⟨_,q⟩:=x a _ r
  exact q
def Mut:Option HO→Prop
 |some (.lst _)=>True
 |some (.dK _)=>True
 |some (.dT _)=>True
 |some (.set _ _)=>True
 |some (.ins _ _ _)=>True
 |some (.ext _)=>True
 |_=>False
section
variable{P:Program}{w:World}{H:Hp}{h h':Heap}{x e:Addr}{o':HO}
theorem HOk.write (ok:HOk P w H h) (mu:Mut (H x)) (he:e=x∨H e=some (.own x)) (k:∀ b u,b≠e→h.get? b=some u→h'.get? b=some u) (heo:∃ u,h'.get? e=some u)
  (new:ObjOk P w (upd H x o') h' x o'):HOk P w (upd H x o') h':=fun b u q=>by
 have nown:∀ c y,H c=some (.own y)→c≠x:=fun c y r z=>by subst z;rw[r] at mu;exact mu
 have ntup:∀ c xs,H c=some (.tup xs)→c≠x:=fun c xs r z=>by subst z;rw[r] at mu;exact mu
 by_cases hb:b=x
 ·subst hb;rw[aH] at q;cases q;exact new
 ·rw[aC hb] at q
  by_cases hbe:b=e
  ·have q':H b=some (.own x):=by
    rcases he with z|z
    ·exact absurd (hbe.trans z) hb
    ·rw[hbe];exact z
   rw[q] at q';cases q'
   obtain⟨v,hv⟩:=heo
   exact⟨v,by rw[hbe];exact hv⟩
  ·refine(ok b u q).stay (fun c v hc r=>k c v ?_ r) (fun c r=>by rw[aC (nown c b r)];exact r) fun c xs r=>by rw[aC (ntup c xs r)];exact r
   rcases hc with rfl|hc
   ·exact hbe
   ·rintro rfl
    rcases he with z|z
    ·exact nown c b hc z
    ·rw[hc] at z;cases z;exact hb rfl
end
structure Un(fs ex:List Addr)(H H':Hp)(h h':Heap):Prop where
 keep:∀ b o,h.get? b=some o→H b=none→b∉fs→b∉ex→h'.get? b=some o
 slot:∀ b o,h.get? b=some o→H b=none→b∈fs→b∉ex→∃ sl,h'.get? b=some { o with slots:=sl }
 free:∀ b o,h.get? b=some o→H b=none→b∉ex→H' b=none
 there:∀ b o,h.get? b=some o→b∉ex→∃ o',h'.get? b=some o'
 tups:∀ b xs,H b=some (.tup xs)→H' b=some (.tup xs)
 frzs:∀ b o u,H b=some (.frz o u)→H' b=some (.frz o u)
 tbls:∀ b ps,H b=some (.tbl ps)→∃ more,H' b=some (.tbl (ps++more))
section
variable{fs fs' ex ex':List Addr}{H H1 H2:Hp}{h h1 h2 h':Heap}{a x e:Addr}{o:HO}
theorem Un.any(u:Un fs ex H H1 h h1){b:Addr}{ob:Obj}(q:h.get? b=some ob)(n:H b=none)(hx:b∉ex):∃ sl,h1.get? b=some { ob with slots:=sl }:=by
 by_cases hb:b∈fs
 ·exact u.slot b ob q n hb hx
 ·exact⟨ob.slots,u.keep b ob q n hb hx⟩
theorem Un.kept(k:∀ b u,h.get? b=some u→h'.get? b=some u):Un fs ex H H h h':=
 ⟨fun b ob q _ _ _=>k b ob q,fun b ob q _ _ _=>⟨ob.slots,k b ob q⟩,fun _ _ _ n _=>n,fun b ob q _=>⟨ob,k b ob q⟩,fun _ _ q=>q,fun _ _ _ q=>q,fun _ ps q=>⟨#[],by rw[q];simp⟩⟩
theorem Un.refl:Un fs ex H H h h:=Un.kept fun _ _ q=>q
theorem Un.laid(k:∀ b u,h.get? b=some u→h'.get? b=some u)(hp:h.objs.size≤a)(hn:H a=none):Un fs ex H (upd H a o) h h' where
 keep:=fun b u q _ _ _=>k b u q
 slot:=fun b u q _ _ _=>⟨u.slots,k b u q⟩
 free:=fun b u q n _=>by rw[aC (Nat.ne_of_lt (Nat.lt_of_lt_of_le (Heap.lt_size q) hp))];exact n
 there:=fun b u q _=>⟨u,k b u q⟩
 tups:=fun b xs q=>by rw[aC (aJ q hn)];exact q
 frzs:=fun b u xs q=>by rw[aC (aJ q hn)];exact q
 tbls:=fun b ps q=>⟨#[],by rw[aC (aJ q hn),q];simp⟩
theorem Un.write(mu:Mut (H x))(he:e=x∨H e=some (.own x))(k:∀ b u,b≠e→h.get? b=some u→h'.get? b=some u)(heo:∃ u,h'.get? e=some u):Un fs ex H (upd H x o) h h':=by
 have hx:∀ b,H b=none→b≠x:=fun b n z=>by subst z;rw[n] at mu;exact mu
 have hb:∀ b,H b=none→b≠e:=fun b n z=>by
  subst z
  rcases he with r|r
  ·exact hx b n r
  ·rw[n] at r;cases r
 have hm:∀ b u,H b=some u→¬ Mut (some u)→b≠x:=fun b u q nm z=>by subst z;rw[q] at mu;exact nm mu
 refine⟨fun b u q n _ _=>k b u (hb b n) q,fun b u q n _ _=>⟨u.slots,k b u (hb b n) q⟩,fun b u q n _=>by rw[aC (hx b n)];exact n,fun b u q _=>?_,
  fun b xs q=>by rw[aC (hm b _ q fun z=>z)];exact q,fun b u xs q=>by rw[aC (hm b _ q fun z=>z)];exact q,fun b ps q=>⟨#[],by rw[aC (hm b _ q fun z=>z),q];simp⟩⟩
 by_cases hbe:b=e
 ·subst hbe;exact heo
 ·exact⟨u,k b u hbe q⟩
end
def trk(h:Heap)(H:Hp):List Addr:=(List.range h.objs.size).filter fun a=>(H a).isSome
def hJ(h:Heap)(H:Hp):Heap:=PySem.W.hideAll h (trk h H)
theorem z6I(h:Heap)(H:Hp):(hJ h H).objs.size=h.objs.size:=PySem.W.hideAll_size _ _
theorem z9a{h:Heap}{H:Hp}{b:Addr}{o:Obj}(e:h.get? b=some o)(n:H b=none):(hJ h H).get? b=some o:=
 PySem.W.hideAll_get _ e fun hm=>by
  have q:(H b).isSome=true:=(List.mem_filter.mp hm).2
  rw[n] at q;simp at q
theorem y3f{h:Heap}{H:Hp}{b:Addr}{o:Obj}(e:(hJ h H).get? b=some o):h.get? b=some o∧H b=none:=by
 have e':h.get? b=some o:=PySem.W.of_hideAll (trk h H) e
 refine⟨e',?_⟩
 cases q:H b with
 |none=>rfl
 |some x=>
  have hm:b∈trk h H:=List.mem_filter.mpr ⟨List.mem_range.mpr (Heap.lt_size e'),by simp[q]⟩
  have z:(hJ h H).get? b=none:=PySem.W.hideAll_none (trk h H) hm
  rw[z] at e;cases e
end L2
namespace L2
open PySem PySem.Spec PyProof.Rows
structure Mod(K:PySem.W.Frag)(mg:Str→Option Value)(base:Heap):Prop where
 kin:K.In base
 glob:base.Ns mainGlobals mg
 blt:∃ mb,base.Ns builtinsNs mb∧∀ x:Str,x≠"__name__"→mb x=bootBuiltins x
 nolimit:base.NoLimit
structure Cx where
 prog:Program
 w:World
 K:PySem.W.Frag
 mg:Str→Option Value
 base:Heap
 A:Around
 N:List Str
 s₀:Shared
 H₀:Hp
 env:Env
 outer:List Env
 stack:List Env
 ex:List Addr
 fn:Str→Bool
 calm:Bool
 pn:List (Addr×Obj)
 xe:Value→Shared→Prop
def frs(l:List Env):List Addr:=l.filterMap (·.frame)
abbrev Cx.fs(X:Cx):List Addr:=frs X.outer
def Vis(sc:Scope)(x:Str):Prop:=sc.names.lookup x=some .local∨sc.names.lookup x=some .cell∨sc.names.lookup x=some .free
def Loc(sc:Scope)(x:Str):Prop:=sc.names.lookup x=some .local∨sc.names.lookup x=some .cell
def Look(env:Env)(h:Heap)(m:Str→Option Value)(x:Str)(u:Value):Prop:=
 (env.kindOf x=some .local∧m x=some u)∨((env.kindOf x=some .cell∨env.kindOf x=some .free)∧∃ c,env.cells.lookup x=some c∧h.IsCell c (some u))
structure Cx.Ok(X:Cx):Prop where
 mod:Mod X.K X.mg X.base
 kind:X.env.scope.kind=.function
 glob:X.env.globals=mainGlobals
 blt:X.env.builtins=builtinsNs
 above:X.s₀.heap.objs.size≤X.env.locals
 inj:∀ x y c,X.env.cells.lookup x=some c→X.env.cells.lookup y=some c→x=y
 has:∀ x,(X.env.kindOf x=some .cell∨X.env.kindOf x=some .free)→∃ c,X.env.cells.lookup x=some c
 cab:∀ x c,X.fn x=true→X.env.cells.lookup x=some c→X.s₀.heap.objs.size≤c
 hd:X.calm=true→X.A.handled=none
 frames:X.A.frames=some X.stack
 stk:X.stack=X.outer∨(X.stack=X.env::X.outer∧X.env.frame=some X.env.locals)
 exf:∀ b∈X.ex,b≠X.env.locals∧∀ x c,X.env.cells.lookup x=some c→c≠b
 bs:∀ b o,X.base.get? b=some o→X.s₀.heap.get? b=some o∧X.H₀ b=none
 bsz:X.base.objs.size≤X.s₀.heap.objs.size
 noex:∀ b o,X.base.get? b=some o→b∉X.ex
 exfs:∀ b∈X.ex,b∉X.fs
 funs:X.s₀.heap.FunFrames X.base X.outer
 frf:∀ b∈X.fs,X.H₀ b=none
structure Inv(X:Cx)(pins:List (Addr×Obj))(σ:List (Option V))(H:Hp)(s:Shared):Prop where
 ok:X.Ok
 os:s.os=X.s₀.os
 bare:AllBare s.gens
 base:Un X.fs X.ex X.H₀ H X.s₀.heap s.heap
 loc:∃ m,s.heap.Ns X.env.locals m∧∀(i:Nat) (x:Str) (v:V),X.N[i]?=some x→σ[i]?=some (some v)→Vis X.env.scope x→∃ u,RelV v u∧Look X.env s.heap m x u
 cell:∀ x c,X.env.cells.lookup x=some c→∃ v,s.heap.IsCell c v
 free:H X.env.locals=none
 freeC:∀ x c,X.env.cells.lookup x=some c→H c=none
 pin:∀ p∈X.pn++pins,s.heap.get? p.1=some p.2∧H p.1=none∧p.1≠X.env.locals∧p.1∉X.fs∧∀ v,p.2.data≠.cell v
 hok:HOk X.prog X.w H s.heap
 len:σ.length=X.N.length
section
variable{X:Cx}{pins:List (Addr×Obj)}{σ:List (Option V)}{H H':Hp}{s:Shared}{h':Heap}
theorem Cx.Ok.nofr(ok:X.Ok){b:Addr}{o:Obj}(e:X.base.get? b=some o):b∉X.fs:=fun hb=>by
 have:=(ok.funs.mem hb).1
 rw[e] at this;cases this
theorem Inv.bs(I:Inv X pins σ H s):∀ b o,X.base.get? b=some o→s.heap.get? b=some o∧H b=none:=fun b o e=>
 ⟨I.base.keep b o (I.ok.bs b o e).1 (I.ok.bs b o e).2 (I.ok.nofr e) (I.ok.noex b o e),I.base.free b o (I.ok.bs b o e).1 (I.ok.bs b o e).2 (I.ok.noex b o e)⟩
theorem Inv.bk(I:Inv X pins σ H s):∀ b o,X.base.get? b=some o→s.heap.get? b=some o:=fun b o e=>(I.bs b o e).1
theorem Inv.mod(I:Inv X pins σ H s):Mod X.K X.mg X.base:=I.ok.mod
theorem Inv.kIn(I:Inv X pins σ H s):X.K.In s.heap:=I.ok.mod.kin.keeps I.bk
theorem Inv.fr(I:Inv X pins σ H s):∃ m,Fr X.base X.env.locals s.heap m:=
 let ⟨m,hn,_⟩:=I.loc
 ⟨m,hn,I.bk,Nat.le_trans I.ok.bsz I.ok.above⟩
theorem Inv.lt(I:Inv X pins σ H s):X.env.locals<s.heap.objs.size:=let ⟨_,hn,_⟩:=I.loc;hn.lt
theorem Inv.sz(I:Inv X pins σ H s):X.s₀.heap.objs.size≤s.heap.objs.size:=Nat.le_trans I.ok.above (Nat.le_of_lt I.lt)
theorem Inv.nofs(I:Inv X pins σ H s){a:Addr}(h:s.heap.objs.size≤a):a∉X.fs:=fun hb=>by
 obtain⟨_,o,ho,_⟩:=I.ok.funs.mem hb
 exact absurd (Nat.lt_of_lt_of_le (Heap.lt_size ho) (Nat.le_trans I.sz h)) (Nat.lt_irrefl _)
theorem Inv.cne(I:Inv X pins σ H s):∀ x c,X.env.cells.lookup x=some c→c≠X.env.locals:=fun x c e z=>by
 obtain⟨v,o,ho,hd⟩:=I.cell x c e
 obtain⟨m,⟨o',es,ep,ho',hd',_⟩,_⟩:=I.loc
 rw[z,ho'] at ho;cases ho;rw[hd'] at hd;cases hd
theorem Inv.funs(I:Inv X pins σ H s):s.heap.FunFrames X.base X.outer:=by
 have all:∀(l:List Env),(∀ b∈frs l,b∈X.fs)→X.s₀.heap.FunFrames X.base l→s.heap.FunFrames X.base l:=by
  intro l
  induction l with
  |nil=>intro _ _;trivial
  |cons env r ih=>
   intro hs hl
   obtain⟨hk,⟨L,o,hf,hn,ho,hd⟩,hr⟩:=hl
   have hL:L∈X.fs:=hs L (by unfold frs;rw[List.filterMap_cons,hf];exact List.mem_cons_self)
   obtain⟨sl,e⟩:=I.base.slot L o ho (I.ok.frf L hL) hL fun z=>I.ok.exfs L z hL
   exact⟨hk,⟨L,_,hf,hn,e,hd⟩,ih (fun b hb=>hs b (by unfold frs;rw[List.filterMap_cons,hf];exact List.mem_cons_of_mem _ hb)) hr⟩
 exact all X.outer (fun _ hb=>hb) I.ok.funs
theorem Inv.stack(I:Inv X pins σ H s):s.heap.FunFrames X.base X.stack:=by
 rcases I.ok.stk with e|⟨e,hf⟩
 ·rw[e];exact I.funs
 ·rw[e]
  obtain⟨m,hn,_⟩:=I.loc
  refine .cons (by rw[I.ok.kind];decide) hf hn ?_ I.funs
  exact Heap.get?_none_of_le (Nat.le_trans I.ok.bsz I.ok.above)
theorem Inv.stkSub(I:Inv X pins σ H s):∀ b∈frs X.stack,b∈X.env.locals::X.fs:=fun b hb=>by
 rcases I.ok.stk with e|⟨e,hf⟩
 ·rw[e] at hb;exact List.mem_cons_of_mem _ hb
 ·rw[e] at hb
  unfold frs at hb
  rw[List.filterMap_cons,hf] at hb
  exact hb
theorem Inv.stkFree(I:Inv X pins σ H s):∀ b∈frs X.stack,H b=none:=fun b hb=>by
 rcases List.mem_cons.mp (I.stkSub b hb) with e|hb
 ·rw[e];exact I.free
 ·obtain⟨_,o,ho,_⟩:=I.ok.funs.mem hb
  exact I.base.free b o ho (I.ok.frf b hb) fun z=>I.ok.exfs b z hb
theorem Inv.step {g':Array GenState}{t':Nat}{d':Drawn}{ch:List Addr} (I:Inv X pins σ H s)
  (hch:∀ b∈ch,(b∈X.ex∨X.s₀.heap.objs.size≤b)∧b≠X.env.locals∧(∀ x c,X.env.cells.lookup x=some c→c≠b)∧∀ p∈X.pn++pins,p.1≠b)
  (keep:∀ b o,b≠X.env.locals→b∉X.fs→b∉ch→s.heap.get? b=some o→H b=none→h'.get? b=some o)
  (slot:∀ b o,b≠X.env.locals→b∈X.fs→b∉ch→s.heap.get? b=some o→H b=none→∃ sl,h'.get? b=some { o with slots:=sl }) (free:∀ b o,b∉ch→s.heap.get? b=some o→H b=none→H' b=none)
  (there:∀ b o,b∉ch→s.heap.get? b=some o→∃ o',h'.get? b=some o')
  (tups:∀ b xs,H b=some (.tup xs)→H' b=some (.tup xs)) (frzs:∀ b o u,H b=some (.frz o u)→H' b=some (.frz o u)) (tbls:∀ b ps,H b=some (.tbl ps)→∃ more,H' b=some (.tbl (ps++more)))
  (ns:∀ m,s.heap.Ns X.env.locals m→h'.Ns X.env.locals m) (hok:HOk X.prog X.w H' h') (hg:AllBare g') :
  Inv X pins σ H' { s with heap:=h',gens:=g',drawn:=d',toks:=t' }:=by
 have neL:∀ b o,X.s₀.heap.get? b=some o→b≠X.env.locals:=fun b o e=>Nat.ne_of_lt (Nat.lt_of_lt_of_le (Heap.lt_size e) I.ok.above)
 have neC:∀ b o,X.s₀.heap.get? b=some o→b∉X.ex→b∉ch:=fun b o e hx hb=>by
  rcases(hch b hb).1 with z|z
  ·exact hx z
  ·exact absurd (Nat.lt_of_lt_of_le (Heap.lt_size e) z) (Nat.lt_irrefl _)
 have cellK:∀ x c,X.env.cells.lookup x=some c→∀ v,s.heap.IsCell c v→h'.IsCell c v:=fun x c e v ⟨o,ho,hd⟩=>by
  have nch:c∉ch:=fun z=>(hch c z).2.2.1 x c e rfl
  by_cases hc:c∈X.fs
  ·obtain⟨sl,q⟩:=slot c o (I.cne x c e) hc nch ho (I.freeC x c e)
   exact⟨_,q,hd⟩
  ·exact⟨o,keep c o (I.cne x c e) hc nch ho (I.freeC x c e),hd⟩
 refine⟨I.ok,I.os,hg,⟨fun b o e n hb hx=>?_,fun b o e n hb hx=>?_,fun b o e n hx=>?_,fun b o e hx=>?_,fun b xs e=>tups b xs (I.base.tups b xs e),fun b o xs e=>frzs b o xs (I.base.frzs b o xs e),fun b ps e=>?_⟩,?_,fun x c e=>?_,?_,fun x c e=>?_,fun p hp=>?_,hok,I.len⟩
 ·exact keep b o (neL b o e) hb (neC b o e hx) (I.base.keep b o e n hb hx) (I.base.free b o e n hx)
 ·obtain⟨sl,e1⟩:=I.base.slot b o e n hb hx
  obtain⟨sl',e2⟩:=slot b _ (neL b o e) hb (neC b o e hx) e1 (I.base.free b o e n hx)
  exact⟨sl',e2⟩
 ·obtain⟨o',e1⟩:=I.base.there b o e hx
  exact free b o' (neC b o e hx) e1 (I.base.free b o e n hx)
 ·obtain⟨o',e1⟩:=I.base.there b o e hx
  exact there b o' (neC b o e hx) e1
 ·obtain⟨m1,e1⟩:=I.base.tbls b ps e
  obtain⟨m2,e2⟩:=tbls b _ e1
  exact⟨m1++m2,by rw[e2,Array.append_assoc]⟩
 ·obtain⟨m,hn,hl⟩:=I.loc
  refine⟨m,ns m hn,fun i x v e1 e2 e3=>?_⟩
  obtain⟨u,r,l⟩:=hl i x v e1 e2 e3
  refine⟨u,r,?_⟩
  rcases l with l|⟨k,c,e,z⟩
  ·exact .inl l
  ·exact .inr ⟨k,c,e,cellK x c e _ z⟩
 ·obtain⟨v,z⟩:=I.cell x c e
  exact⟨v,cellK x c e v z⟩
 ·obtain⟨m,⟨o,_,_,ho,_⟩,_⟩:=I.loc
  exact free _ o (fun z=>(hch _ z).2.1 rfl) ho I.free
 ·obtain⟨v,o,ho,hd⟩:=I.cell x c e
  exact free c o (fun z=>(hch c z).2.2.1 x c e rfl) ho (I.freeC x c e)
 ·obtain⟨e,n,ne,nf,d⟩:=I.pin p hp
  have nch:p.1∉ch:=fun z=>(hch p.1 z).2.2.2 p hp rfl
  exact⟨keep p.1 p.2 ne nf nch e n,free p.1 p.2 nch e n,ne,nf,d⟩
theorem Inv.un{t':Nat}(I:Inv X pins σ H s)(u:Un X.fs [] H H' s.heap h')(hok:HOk X.prog X.w H' h'):Inv X pins σ H' { s with heap:=h',toks:=t' }:=by
 obtain⟨m,⟨o,es,ep,ho,r⟩,_⟩:=id I.loc
 obtain⟨sl,hL⟩:=u.any ho I.free (by simp)
 exact I.step (g':=s.gens) (d':=s.drawn) (ch:=[]) (fun _ z=>nomatch z) (fun b o _ hb _ e n=>u.keep b o e n hb (by simp)) (fun b o _ hb _ e n=>u.slot b o e n hb (by simp)) (fun b o _ e n=>u.free b o e n (by simp)) (fun b o _ e=>u.there b o e (by simp)) u.tups u.frzs u.tbls (fun m' hm=>by
  obtain⟨o',es',ep',ho',r'⟩:=hm
  rw[ho] at ho';cases ho'
  exact⟨_,es',ep',hL,r'⟩) hok I.bare
theorem Inv.call {g':Array GenState}{t':Nat}{d':Drawn}{ch:List Addr} (I:Inv X pins σ H s) (u:Un (frs X.stack) ch H H' s.heap h') (hok:HOk X.prog X.w H' h') (hg:AllBare g')
  (hch:∀ b∈ch,(b∈X.ex∨X.s₀.heap.objs.size≤b)∧b≠X.env.locals∧(∀ x c,X.env.cells.lookup x=some c→c≠b)∧∀ p∈X.pn++pins,p.1≠b) :
  Inv X pins σ H' { s with heap:=h',gens:=g',drawn:=d',toks:=t' }:=by
 obtain⟨m,⟨o,es,ep,ho,r⟩,_⟩:=id I.loc
 obtain⟨sl,hL⟩:=u.any ho I.free fun z=>(hch _ z).2.1 rfl
 exact I.step (ch:=ch) hch (fun b o hL hb hc e n=>u.keep b o e n (fun z=>(List.mem_cons.mp (I.stkSub b z)).elim hL hb) hc) (fun b o _ _ hc e n=>u.any e n hc) (fun b o hc e n=>u.free b o e n hc) (fun b o hc e=>u.there b o e hc) u.tups u.frzs u.tbls (fun m' hm=>by
  obtain⟨o',es',ep',ho',r'⟩:=hm
  rw[ho] at ho';cases ho'
  exact⟨_,es',ep',hL,r'⟩) hok hg
theorem Inv.turned {t':Nat}{it:Addr} (I:Inv X pins σ H s) (k:∀ b o,b≠it→s.heap.get? b=some o→h'.get? b=some o) (hn:H it=none) (hL:it≠X.env.locals)
  (h1:it∈X.ex∨X.s₀.heap.objs.size≤it) (h2:∀ x c,X.env.cells.lookup x=some c→c≠it) (h3:∀ p∈X.pn++pins,p.1≠it):Inv X pins σ H { s with heap:=h',toks:=t' }:=by
 have nit:∀ b u,H b=some u→b≠it:=fun b u e z=>by rw[z,hn] at e;cases e
 refine I.step (g':=s.gens) (d':=s.drawn) (ch:=[it]) (fun b hb=>?_) (fun b o _ _ hc e _=>k b o (fun z=>hc (by simp[z])) e) (fun b o _ _ hc e _=>⟨o.slots,k b o (fun z=>hc (by simp[z])) e⟩) (fun _ _ _ _ n=>n)
  (fun b o hc e=>⟨o,k b o (fun z=>hc (by simp[z])) e⟩) (fun _ _ e=>e) (fun _ _ _ e=>e) (fun b ps e=>⟨#[],by rw[e];simp⟩) (fun m hm=>?_) (fun b u e=>?_) I.bare
 ·have e:b=it:=by simpa using hb
  subst e
  exact⟨h1,hL,h2,h3⟩
 ·obtain⟨o,es,ep,ho,r⟩:=hm
  exact⟨o,es,ep,k _ o (Ne.symm hL) ho,r⟩
 ·refine(I.hok b u e).stay (fun c v hc q=>k c v ?_ q) (fun _ q=>q) fun _ _ q=>q
  rcases hc with z|z
  ·rw[z];exact nit b u e
  ·exact nit c _ z
theorem Inv.tok(I:Inv X pins σ H s)(t:Nat):Inv X pins σ H { s with toks:=t }:=I.un (h':=s.heap) (t':=t) Un.refl I.hok
theorem Inv.kept{t':Nat}(I:Inv X pins σ H s)(k:∀ b u,s.heap.get? b=some u→h'.get? b=some u):Inv X pins σ H { s with heap:=h',toks:=t' }:=I.un (Un.kept k) (I.hok.kept k)
theorem Inv.laid{a:Addr}{o:HO}{t':Nat}(I:Inv X pins σ H s)(k:∀ b u,s.heap.get? b=some u→h'.get? b=some u)(hp:s.heap.objs.size≤a)(new:ObjOk X.prog X.w (upd H a o) h' a o) :
  Inv X pins σ (upd H a o) { s with heap:=h',toks:=t' }:=I.un (Un.laid k hp (I.hok.fresh hp)) (I.hok.laid k hp new)
theorem Inv.write {x e:Addr}{o:HO}{t':Nat} (I:Inv X pins σ H s) (mu:Mut (H x)) (he:e=x∨H e=some (.own x)) (k:∀ b u,b≠e→s.heap.get? b=some u→h'.get? b=some u) (heo:∃ u,h'.get? e=some u)
  (new:ObjOk X.prog X.w (upd H x o) h' x o):Inv X pins σ (upd H x o) { s with heap:=h',toks:=t' }:=I.un (Un.write mu he k heo) (I.hok.write mu he k heo new)
theorem Inv.weak{σ':List (Option V)}(I:Inv X pins σ H s)(hl:σ'.length=σ.length)(w:∀(i:Nat) v,σ'[i]?=some (some v)→σ[i]?=some (some v)):Inv X pins σ' H s:=
 ⟨I.ok,I.os,I.bare,I.base,let ⟨m,hn,hl'⟩:=I.loc;⟨m,hn,fun i x v e1 e2 e3=>hl' i x v e1 (w i v e2) e3⟩,I.cell,I.free,I.freeC,I.pin,I.hok,hl.trans I.len⟩
theorem Inv.pins_of{pins':List (Addr×Obj)}(I:Inv X pins σ H s)(h:∀ p∈pins',s.heap.get? p.1=some p.2∧H p.1=none∧p.1≠X.env.locals∧p.1∉X.fs∧∀ v,p.2.data≠.cell v):Inv X pins' σ H s:=
 ⟨I.ok,I.os,I.bare,I.base,I.loc,I.cell,I.free,I.freeC,fun p hp=>(List.mem_append.mp hp).elim (fun z=>I.pin p (List.mem_append_left _ z)) (h p),I.hok,I.len⟩
theorem uQ{N:List Str}(hN:N.Nodup){i j:Nat}{x:Str}(a:N[i]?=some x)(b:N[j]?=some x):i=j:=by
 obtain⟨h1,e1⟩:=List.getElem?_eq_some_iff.mp a
 obtain⟨h2,e2⟩:=List.getElem?_eq_some_iff.mp b
 exact(List.getElem_inj hN).mp (e1.trans e2.symm)
theorem z7q {M:Model}{A:Around}{E:Value→Shared→Prop}{i:Nat}{x:Str}{v:V}{u:Value}{Q:Unit→Shared→Prop} (I:Inv X pins σ H s) (hN:X.N.Nodup) (hi:X.N[i]?=some x) (hx:Loc X.env.scope x) (r:RelV v u)
  (h:∀ s',Inv X pins (σ.set i (some v)) H s'→(∃ a,Heap.SameBut a s.heap s'.heap∧(a=X.env.locals∨X.env.cells.lookup x=some a))→Q () s') (hf:X.fn x=true∨X.env.scope.names.lookup x=some .local:=by first|exact .inl rfl|exact .inr rfl|assumption):wpAny M A (storeName X.env x u) Q E s:=by
 obtain⟨m,hn,hl⟩:=id I.loc
 have hcls:(X.env.scope.kind==.class||(X.env.scope.kind==.module&&X.env.locals != X.env.globals))=false:=by rw[I.ok.kind];rfl
 have hiσ:i<σ.length:=by rw[I.len];exact(List.getElem?_eq_some_iff.mp hi).1
 have cne:=I.cne
 have tracked:∀{a:Addr}{h':Heap},(∃ o,s.heap.get? a=some o∧H a=none)→Heap.SameBut a s.heap h'→HOk X.prog X.w H h':=fun {a h'} ha hs b ob e=>by
  obtain⟨_,_,hfree⟩:=ha
  refine(I.hok b ob e).stay (fun c w' hc q=>(hs.2 c ?_).trans q) (fun _ q=>q) fun _ _ q=>q
  rintro rfl
  rcases hc with rfl|hc
  ·rw[hfree] at e;cases e
  ·rw[hfree] at hc;cases hc
 rcases hx with hk|hk
 ·refine wpAny_storeName_local hk hn (fun h' hn' hs=>?_) hcls
  obtain⟨oL,_,_,hoL,_⟩:=id hn
  refine h _ ⟨I.ok,I.os,I.bare,⟨fun b o e n hb hx=>?_,fun b o e n hb hx=>?_,I.base.free,fun b o e hx=>?_,I.base.tups,I.base.frzs,I.base.tbls⟩,⟨_,hn',fun j y v' e1 e2 e3=>?_⟩,fun y c e=>?_,I.free,I.freeC,fun p hp=>?_,tracked ⟨oL,hoL,I.free⟩ hs,by simpa using I.len⟩ ⟨_,hs,.inl rfl⟩
  ·exact(hs.2 b (Nat.ne_of_lt (Nat.lt_of_lt_of_le (Heap.lt_size e) I.ok.above))).trans (I.base.keep b o e n hb hx)
  ·obtain⟨sl,e1⟩:=I.base.slot b o e n hb hx
   exact⟨sl,(hs.2 b (Nat.ne_of_lt (Nat.lt_of_lt_of_le (Heap.lt_size e) I.ok.above))).trans e1⟩
  ·obtain⟨o',e1⟩:=I.base.there b o e hx
   exact⟨o',(hs.2 b (Nat.ne_of_lt (Nat.lt_of_lt_of_le (Heap.lt_size e) I.ok.above))).trans e1⟩
  ·by_cases hj:j=i
   ·subst hj
    rw[hi] at e1;cases e1
    rw[List.getElem?_set_self hiσ] at e2
    cases e2
    exact⟨u,r,.inl ⟨hk,by simp⟩⟩
   ·rw[List.getElem?_set_ne (Ne.symm hj)] at e2
    obtain⟨u',r',q⟩:=hl j y v' e1 e2 e3
    refine⟨u',r',?_⟩
    rcases q with ⟨k,e⟩|⟨k,c,e,z⟩
    ·refine .inl ⟨k,?_⟩
     have:y≠x:=fun e=>hj (uQ hN e1 (e▸hi))
     simp[this,e]
    ·exact .inr ⟨k,c,e,z.sameBut hs (cne y c e)⟩
  ·obtain⟨w',z⟩:=I.cell y c e
   exact⟨w',z.sameBut hs (cne y c e)⟩
  ·obtain⟨e,n,ne,nf,d⟩:=I.pin p hp
   exact⟨(hs.2 p.1 ne).trans e,n,ne,nf,d⟩
 ·have hfn:X.fn x=true:=by
   rcases hf with z|z
   ·exact z
   ·rw[z] at hk;cases hk
  obtain⟨c,hc⟩:=I.ok.has x (.inl hk)
  obtain⟨w',z⟩:=I.cell x c hc
  refine wpAny_storeName_cell I.ok.kind hk hc z (fun h' hc' hs=>?_)
  obtain⟨oc,hoc,hocd⟩:=id z
  refine h { s with heap:=h' } ⟨I.ok,I.os,I.bare,⟨fun b o e n hb hx=>?_,fun b o e n hb hx=>?_,I.base.free,fun b o e hx=>?_,I.base.tups,I.base.frzs,I.base.tbls⟩,⟨m,hn.sameBut hs (Ne.symm (cne x c hc)),fun j y v' e1 e2 e3=>?_⟩,fun y c' e=>?_,I.free,I.freeC,fun p hp=>?_,tracked ⟨oc,hoc,I.freeC x c hc⟩ hs,by simpa using I.len⟩ ⟨c,hs,.inr hc⟩
  ·exact(hs.2 b (Nat.ne_of_lt (Nat.lt_of_lt_of_le (Heap.lt_size e) (I.ok.cab x c hfn hc)))).trans (I.base.keep b o e n hb hx)
  ·obtain⟨sl,e1⟩:=I.base.slot b o e n hb hx
   exact⟨sl,(hs.2 b (Nat.ne_of_lt (Nat.lt_of_lt_of_le (Heap.lt_size e) (I.ok.cab x c hfn hc)))).trans e1⟩
  ·obtain⟨o',e1⟩:=I.base.there b o e hx
   exact⟨o',(hs.2 b (Nat.ne_of_lt (Nat.lt_of_lt_of_le (Heap.lt_size e) (I.ok.cab x c hfn hc)))).trans e1⟩
  ·by_cases hj:j=i
   ·subst hj
    rw[hi] at e1;cases e1
    rw[List.getElem?_set_self hiσ] at e2
    cases e2
    exact⟨u,r,.inr ⟨.inl hk,c,hc,hc'⟩⟩
   ·rw[List.getElem?_set_ne (Ne.symm hj)] at e2
    obtain⟨u',r',q⟩:=hl j y v' e1 e2 e3
    refine⟨u',r',?_⟩
    rcases q with q|⟨k,c',e,z'⟩
    ·exact .inl q
    ·refine .inr ⟨k,c',e,z'.sameBut hs ?_⟩
     rintro rfl
     exact hj (uQ hN e1 (I.ok.inj _ _ _ e hc▸hi))
  ·by_cases hcc:c'=c
   ·subst hcc;exact⟨_,hc'⟩
   ·obtain⟨w2,z2⟩:=I.cell y c' e
    exact⟨w2,z2.sameBut hs hcc⟩
  ·obtain⟨e,n,ne,nf,d⟩:=I.pin p hp
   refine⟨(hs.2 p.1 ?_).trans e,n,ne,nf,d⟩
   intro q
   rw[q,hoc] at e
   have q':oc=p.2:=Option.some.inj e
   exact d w' (by rw[←q'];exact hocd)
theorem vB {M:Model}{A:Around}{E:Value→Shared→Prop}{i:Nat}{x:Str}{v:V}{u:Value}{Q:Unit→Shared→Prop} (I:Inv X pins σ H s) (hN:X.N.Nodup) (hi:X.N[i]?=some x) (hx:Loc X.env.scope x) (r:RelV v u)
  (h:∀ s',Inv X pins (σ.set i (some v)) H s'→Q () s') (hf:X.fn x=true∨X.env.scope.names.lookup x=some .local:=by first|exact .inl rfl|exact .inr rfl|assumption):wpAny M A (storeName X.env x u) Q E s:=
 z7q I hN hi hx r (fun s' I' _=>h s' I') hf
theorem Inv.call' {s':Shared}{ch:List Addr} (I:Inv X pins σ H s) (ho:s'.os=s.os) (u:Un (frs X.stack) ch H H' s.heap s'.heap) (hok:HOk X.prog X.w H' s'.heap) (hg:AllBare s'.gens)
  (hch:∀ b∈ch,(b∈X.ex∨X.s₀.heap.objs.size≤b)∧b≠X.env.locals∧(∀ x c,X.env.cells.lookup x=some c→c≠b)∧∀ p∈X.pn++pins,p.1≠b):Inv X pins σ H' s':=by
 obtain⟨h',g',d',t',o'⟩:=s'
 have e:o'=s.os:=ho
 subst e
 exact I.call (g':=g') (t':=t') (d':=d') u hok hg hch
end
abbrev XK:=Value→Option Addr→Hp→Prop
abbrev St:=List (Option V)
abbrev VK:=V→Hp→Prop
abbrev TE:=St→Hp→VK→Prop
abbrev TT:=St→Hp→(Bool→Hp→Prop)→Prop
abbrev TA:=St→Hp→(List V→Hp→Prop)→Prop
structure Ends where
 nx:St→Hp→Prop
 rt:VK
 bk:St→Hp→Prop:=fun _ _=>False
 ct:St→Hp→Prop:=fun _ _=>False
abbrev TS:=Ends→St→Hp→Prop
def EP(X:Cx)(pins:List (Addr×Obj))(σ:St)(Q:VK)(u:Value)(s':Shared):Prop:=∃ v H',Inv X pins σ H' s'∧RelV v u∧Q v H'
def TP(X:Cx)(pins:List (Addr×Obj))(σ:St)(Q:Bool→Hp→Prop)(b:Bool)(s':Shared):Prop:=∃ H',Inv X pins σ H' s'∧Q b H'
def AP(X:Cx)(pins:List (Addr×Obj))(σ:St)(Q:List V→Hp→Prop)(us:List Value)(s':Shared):Prop:=∃ vs H',Inv X pins σ H' s'∧Vals vs us∧Q vs H'
def SP(X:Cx)(pins:List (Addr×Obj))(D:Ends)(f:Flow)(s':Shared):Prop:=
 match f with
 |.next=>∃ σ' H',Inv X pins σ' H' s'∧D.nx σ' H'
 |.brk=>∃ σ' H',Inv X pins σ' H' s'∧D.bk σ' H'
 |.cont=>∃ σ' H',Inv X pins σ' H' s'∧D.ct σ' H'
 |.ret u=>∃ v σ' H',Inv X pins σ' H' s'∧RelV v u∧D.rt v H'
def PE(X:Cx)(e:Expr)(t:TE):Prop:=
 ∀(pins:List (Addr×Obj)) (s:Shared) (σ:St) (H:Hp) (Q:VK),Inv X pins σ H s→t σ H Q→wpAny (model X.prog X.w) X.A (eval e X.env) (EP X pins σ Q) X.xe s
def PT(X:Cx)(e:Expr)(t:TT):Prop:=
 ∀(pins:List (Addr×Obj)) (s:Shared) (σ:St) (H:Hp) (Q:Bool→Hp→Prop),Inv X pins σ H s→t σ H Q→wpAny (model X.prog X.w) X.A (isTrue e X.env (eval e X.env)) (TP X pins σ Q) X.xe s
def PW(X:Cx)(e:Expr)(t:TT):Prop:=
 ∀(whole:Sem Value) (pins:List (Addr×Obj)) (s:Shared) (σ:St) (H:Hp) (Q:Bool→Hp→Prop),Inv X pins σ H s→t σ H Q→wpAny (model X.prog X.w) X.A (isTrue e X.env whole) (TP X pins σ Q) X.xe s
theorem PW.pt{X:Cx}{e:Expr}{t:TT}(h:PW X e t):PT X e t:=h _
def PA(X:Cx)(es:List Expr)(t:TA):Prop:=
 ∀(pos:Pos) (pins:List (Addr×Obj)) (s:Shared) (σ:St) (H:Hp) (Q:List V→Hp→Prop),Inv X pins σ H s→t σ H Q→wpAny (model X.prog X.w) X.A (spliced (backTo pos (starEach es X.env))) (AP X pins σ Q) X.xe s
def PS(X:Cx)(st:Stmt)(t:TS):Prop:=
 ∀(pins:List (Addr×Obj)) (s:Shared) (σ:St) (H:Hp) (D:Ends),Inv X pins σ H s→t D σ H→wpAny (model X.prog X.w) X.A (exec st X.env) (SP X pins D) X.xe s
def PSs(X:Cx)(st:List Stmt)(t:TS):Prop:=
 ∀(pins:List (Addr×Obj)) (s:Shared) (σ:St) (H:Hp) (D:Ends),Inv X pins σ H s→t D σ H→wpAny (model X.prog X.w) X.A (execs st X.env) (SP X pins D) X.xe s
theorem thn{α:Type}{t:Sem α}{Q Q':α→Shared→Prop}{M:Model}{A:Around}{E:Value→Shared→Prop}{s:Shared}(h:wpAny M A t Q E s)(hQ:∀ a s,Q a s→Q' a s):wpAny M A t Q' E s:=wpAny_mono h hQ fun _ _ x=>x
end L2
namespace L2
open PySem PySem.Spec PyProof.Rows
section
variable{X:Cx}
theorem bin {a b:Expr}{ta tb:TE} (ha:PE X a ta) (hb:PE X b tb) {pins:List (Addr×Obj)}{s:Shared}{σ:St}{H:Hp}{R:V→V→Hp→Prop} (I:Inv X pins σ H s) (h:ta σ H fun x H1=>tb σ H1 fun y H2=>R x y H2)
  {α:Type}{Q:α→Shared→Prop}{f:Value→Value→Sem α}
  (hf:∀ v u s2 x y H2,Inv X pins σ H2 s2→RelV x v→RelV y u→R x y H2→wpAny (model X.prog X.w) X.A (f v u) Q X.xe s2) :
  wpAny (model X.prog X.w) X.A (eval a X.env) (fun v s₁=>wpAny (model X.prog X.w) X.A (eval b X.env) (fun u s₂=>wpAny (model X.prog X.w) X.A (f v u) Q X.xe s₂) X.xe s₁) X.xe s:=by
 refine thn (ha pins s σ H _ I h) fun v s1 h00=>?_
 obtain⟨x,H1,I1,r1,q1⟩:=h00
 refine thn (hb pins s1 σ H1 _ I1 q1) fun u s2 h00=>?_
 obtain⟨y,H2,I2,r2,q2⟩:=h00
 exact hf v u s2 x y H2 I2 r1 r2 q2
def gO(i:Nat):TE:=fun σ H Q=>∃ v,σ[i]?=some (some v)∧Q v H
def tC(v:V):TE:=fun _ H Q=>Q v H
theorem z9I{i:Nat}{x:Str}{pos:Pos}(hN:X.N[i]?=some x)(hv:Vis X.env.scope x)(hd:(x==("__debug__":Str))=false:=by decide)(hcd:(x==("__classdict__":Str))=false:=by decide):PE X (.Name x pos) (gO i):=by
 intro pins s σ H Q I h
 obtain⟨v,e,h⟩:=h
 obtain⟨m,hn,hl⟩:=I.loc
 obtain⟨u,r,l⟩:=hl i x v hN e hv
 have fin:EP X pins σ Q u s:=⟨v,H,I,r,h⟩
 rcases l with ⟨hk,hm⟩|⟨hk,c,hc,hcell⟩
 ·exact wpAny_Name (wpAny_loadName_local I.ok.kind hk hn hm fin) hd
 ·rcases hk with hk|hk
  ·exact wpAny_Name (wpAny_loadName_cell I.ok.kind hk hc hcell fin) hd
  ·exact wpAny_Name (wpAny_loadName_free I.ok.kind hk hc hcell fin hcd) hd
theorem pe_int{i j pos}:PE X (.Constant (.int i) j pos) (tC (.int i)):=fun _ _ _ H _ I h=>wpAny_Constant_int ⟨.int i,H,I.tok _,⟨_,rfl⟩,h⟩
theorem pe_bl{b j pos}:PE X (.Constant (.bool b) j pos) (tC (.bl b)):=fun _ _ _ H _ I h=>Constant_bool ⟨.bl b,H,I,rfl,h⟩
theorem pe_non{j pos}:PE X (.Constant .none j pos) (tC .non):=fun _ _ _ H _ I h=>Constant_none ⟨.non,H,I,rfl,h⟩
theorem z9G{x j pos}:PE X (.Constant (.str x) j pos) (tC (.str x)):=fun _ _ _ H _ I h=>Calls.Constant_str ⟨.str x,H,I.tok _,⟨_,rfl⟩,h⟩
def Gl(X:Cx)(x:Str):Prop:=X.env.kindOf x=some .globalImplicit
theorem lO {E:Value→Shared→Prop}{pins:List (Addr×Obj)}{s:Shared}{σ:St}{H:Hp}{x:Str}{u:Value}{pos:Pos}{Q:Value→Shared→Prop} (I:Inv X pins σ H s) (hg:Gl X x) (hm:X.mg x=some u) (h:Q u s)
  (hd:(x==("__debug__":Str))=false:=by decide):wpAny (model X.prog X.w) X.A (eval (.Name x pos) X.env) Q E s:=
 Calls.Name_function_global I.ok.kind hg (Calls.loadGlobal_global (by rw[I.ok.glob];exact I.mod.glob.keeps I.bk) hm h) hd
theorem kR {E:Value→Shared→Prop}{pins:List (Addr×Obj)}{s:Shared}{σ:St}{H:Hp}{x:Str}{u:Value}{pos:Pos}{Q:Value→Shared→Prop} (I:Inv X pins σ H s) (hg:Gl X x) (hm:X.mg x=none) (hv:bootBuiltins x=some u) (h:Q u s)
  (hn:x≠"__name__":=by decide) (hd:(x==("__debug__":Str))=false:=by decide):wpAny (model X.prog X.w) X.A (eval (.Name x pos) X.env) Q E s:=by
 obtain⟨mb,h1,h2⟩:=I.mod.blt
 exact Calls.Name_function_global I.ok.kind hg (Calls.loadGlobal_builtin (by rw[I.ok.glob];exact I.mod.glob.keeps I.bk) hm (by rw[I.ok.blt];exact h1.keeps I.bk) ((h2 x hn).trans hv) h) hd
theorem aO{x:Str}{v:V}{u:Value}{pos:Pos}(hg:Gl X x)(hm:X.mg x=some u)(r:RelV v u)(hd:(x==("__debug__":Str))=false:=by decide):PE X (.Name x pos) (tC v):=
 fun _ _ _ H _ I h=>lO I hg hm ⟨v,H,I,r,h⟩ hd
variable{a b:Expr}{ta tb:TE}{pos:Pos}
def PC(X:Cx)(op:CmpOp)(a b:Expr)(t:TE):Prop:=
 ∀(pins:List (Addr×Obj)) (s:Shared) (σ:St) (H:Hp) (Q:VK),Inv X pins σ H s→t σ H Q →
  wpAny (model X.prog X.w) X.A (eval a X.env) (fun v s₁=>wpAny (model X.prog X.w) X.A (eval b X.env) (fun u s₂=>wpAny (model X.prog X.w) X.A (compareOp op v u) (EP X pins σ Q) X.xe s₂) X.xe s₁) X.xe s
def tB(t:TE):TT:=fun σ H Q=>t σ H fun x H1=>∃ c,x=.bl c∧Q c H1
theorem z9N{op:CmpOp}{t:TE}(h:PC X op a b t)(h1:behindInMarks op b=false:=by first|exact nobehind _ (by decide) (by decide)|rfl):PT X (.Compare a [op] [b] pos) (tB t):=by
 intro pins s σ H Q I hw
 refine wpAny_isTrue_Compare1 (thn (h pins s σ H _ I hw) fun v s1 h1=>thn h1 fun u s2 h2=>thn h2 fun c s3 h00=>?_) h1
 obtain⟨x,H1,I1,r1,q1⟩:=h00
 obtain⟨d,rfl,q⟩:=q1
 cases r1
 exact wpAny_truthy_bool ⟨H1,I1,q⟩
theorem dD{e:Expr}{t:TE}(h:PE X e t)(he:∀ whole,isTrue e X.env whole=(do let v ← whole;standAt e.pos;holding [v] (truthy v)):=by intro _;rfl):PT X e (tB t):=by
 intro pins s σ H Q I hw
 refine isTrue_plain (thn (h pins s σ H _ I hw) fun v s1 h00=>?_) (he _)
 obtain⟨x,H1,I1,r1,q1⟩:=h00
 obtain⟨d,rfl,q⟩:=q1
 cases r1
 exact wpAny_truthy_bool ⟨H1,I1,q⟩
variable{tA tB':TT}{rest:List Expr}
def qF(t u:TT):TT:=fun σ H Q=>t σ H fun c H1=>if c=true then u σ H1 Q else Q false H1
def tOr(t u:TT):TT:=fun σ H Q=>t σ H fun c H1=>if c=true then Q true H1 else u σ H1 Q
def qI(t:TT):TT:=fun σ H Q=>t σ H fun c H1=>Q (!c) H1
theorem oS(ha:PT X a tA):PW X (.BoolOp .And [a] pos) tA:=by
 intro wh pins s σ H Q I h
 refine isTrue_and (thn (ha pins s σ H Q I h) fun c s1 e=>?_)
 cases c with
 |true=>exact isTrue_and_nil e
 |false=>exact e
theorem z9R(ha:PT X a tA):PW X (.BoolOp .Or [a] pos) tA:=by
 intro wh pins s σ H Q I h
 refine isTrue_or (thn (ha pins s σ H Q I h) fun c s1 e=>?_)
 cases c with
 |false=>exact isTrue_or_nil e
 |true=>exact e
theorem lY(ha:PT X a tA)(hb:PW X (.BoolOp .And (b::rest) pos) tB'):PW X (.BoolOp .And (a::b::rest) pos) (qF tA tB'):=by
 intro wh pins s σ H Q I h
 refine isTrue_and (thn (ha pins s σ H _ I h) fun c s1 h00=>?_)
 obtain⟨H1,I1,q1⟩:=h00
 cases c with
 |true=>exact hb wh pins s1 σ H1 Q I1 q1
 |false=>exact⟨H1,I1,q1⟩
theorem pZ(ha:PT X a tA)(hb:PW X (.BoolOp .Or (b::rest) pos) tB'):PW X (.BoolOp .Or (a::b::rest) pos) (tOr tA tB'):=by
 intro wh pins s σ H Q I h
 refine isTrue_or (thn (ha pins s σ H _ I h) fun c s1 h00=>?_)
 obtain⟨H1,I1,q1⟩:=h00
 cases c with
 |true=>exact⟨H1,I1,q1⟩
 |false=>exact hb wh pins s1 σ H1 Q I1 q1
theorem jW(ha:PT X a tA):PT X (.UnaryOp .Not a pos) (qI tA):=by
 intro pins s σ H Q I h
 exact isTrue_not (ha pins s σ H (fun c H1=>Q (!c) H1) I h)
def x5C(ta tb:TE):TE:=fun σ H Q=>ta σ H fun x H1=>∃ c,x=.bl c∧if c=true then tb σ H1 Q else Q (.bl false) H1
theorem y8o{op}{t:TE}(h:PE X a t):PE X (.BoolOp op [a] pos) t:=fun pins s σ H Q I hw=>BoolOp_one (h pins s σ H Q I hw)
theorem y8m(ha:PE X a ta)(hb:PE X (.BoolOp .And (b::rest) pos) tb):PE X (.BoolOp .And (a::b::rest) pos) (x5C ta tb):=by
 intro pins s σ H Q I h
 refine BoolOp_and (thn (ha pins s σ H _ I h) fun v s1 h00=>?_)
 obtain⟨x,H1,I1,r1,q1⟩:=h00
 obtain⟨c,rfl,q1⟩:=q1
 cases r1
 refine wpAny_truthy_bool ?_
 cases c with
 |true=>exact hb pins s1 σ H1 Q I1 q1
 |false=>exact⟨.bl false,H1,I1,rfl,q1⟩
def tIf(t:TT)(ta tb:TE):TE:=fun σ H Q=>t σ H fun c H1=>if c=true then ta σ H1 Q else tb σ H1 Q
theorem uR{c:Expr}(hc:PT X c tA)(ha:PE X a ta)(hb:PE X b tb):PE X (.IfExp c a b pos) (tIf tA ta tb):=by
 intro pins s σ H Q I h
 refine wpAny_IfExp (thn (hc pins s σ H _ I h) fun d s1 h00=>?_)
 obtain⟨H1,I1,q1⟩:=h00
 cases d with
 |true=>exact ha pins s1 σ H1 Q I1 q1
 |false=>exact hb pins s1 σ H1 Q I1 q1
end
end L2
namespace L2
open PySem PySem.Spec PyProof.Rows
def SqL(K:PySem.W.Frag)(H:Hp)(a:Addr)(xs:List V):Prop:=
 Rd H a (.lst xs) ∨
  ∃(o:Obj) (its:Array Value) (n:Nat),K.lookup a=some o∧o.cls=.type "list"∧o.dict=none∧o.data=.seq its n∧its.size≤sizeLine∧Vals xs its.toList
def SqT(K:PySem.W.Frag)(H:Hp)(a:Addr)(xs:List V):Prop:=
 Rd H a (.tup xs) ∨
  ∃(o:Obj) (its:Array Value) (n:Nat),K.lookup a=some o∧o.cls=.type "tuple"∧o.data=.seq its n∧its.size≤sizeLine∧Vals xs its.toList
def absV:Value→Option V
 |.none=>some .non
 |.bool b=>some (.bl b)
 |.int i _=>some (.int i)
 |.str x _=>some (.str x)
 |.bytes b _=>some (.byt b)
 |.float b _=>some (.flt b)
 |.ref a=>some (.ref a)
 |.type n=>some (.ty n)
 |_=>none
theorem RelV.abs{x:V}{u:Value}(r:RelV x u):absV u=some x:=by
 cases x with
 |non=>cases r;rfl
 |bl _=>cases r;rfl
 |int _=>obtain⟨t,rfl⟩:=r;rfl
 |str _=>obtain⟨t,rfl⟩:=r;rfl
 |byt _=>obtain⟨t,rfl⟩:=r;rfl
 |flt _=>obtain⟨t,rfl⟩:=r;rfl
 |ref _=>cases r;rfl
 |ty _=>cases r;rfl
theorem RelV.inj{x y:V}{u:Value}(r:RelV x u)(q:RelV y u):x=y:=Option.some.inj (r.abs.symm.trans q.abs)
theorem Vals.inj:∀{xs ys:List V}{us:List Value},Vals xs us→Vals ys us→xs=ys
 |_,_,_,.nil,.nil=>rfl
 |_,_,_,.cons r t,.cons r' t'=>by rw[r.inj r',Vals.inj t t']
section
variable{X:Cx}{pins:List (Addr×Obj)}{σ:St}{H:Hp}{s:Shared}{a:Addr}{xs ys:List V}
theorem SqL.of{K:PySem.W.Frag}(h:H a=some (.lst xs)):SqL K H a xs:=.inl (.inl h)
theorem SqT.of{K:PySem.W.Frag}(h:H a=some (.tup xs)):SqT K H a xs:=.inl (.inl h)
theorem Inv.list(I:Inv X pins σ H s)(h:SqL X.K H a xs):∃ its:List Value,Vals xs its∧PlainL s.heap a its.toArray∧xs.length≤sizeLine:=by
 rcases h with h|⟨o,its,n,hk,hc,hd,hs,hz,r⟩
 ·obtain⟨z,its,n,r,e⟩:=h.ok I.hok
  exact⟨its,r,⟨_,n,e,rfl,rfl,rfl⟩,z⟩
 ·refine⟨its.toList,r,⟨o,n,I.kIn a o hk,hc,hd,by simpa using hs⟩,?_⟩
  have e:=r.length
  simp only[Array.length_toList] at e
  omega
theorem Inv.tuple(I:Inv X pins σ H s)(h:SqT X.K H a xs):∃ its:List Value,Vals xs its∧IsTup s.heap a its.toArray∧xs.length≤sizeLine:=by
 rcases h with h|⟨o,its,n,hk,hc,hs,hz,r⟩
 ·obtain⟨z,its,r,p⟩:=h.ok I.hok
  exact⟨its,r,p,z⟩
 ·refine⟨its.toList,r,⟨o,I.kIn a o hk,hc,n,by simpa using hs⟩,?_⟩
  have e:=r.length
  simp only[Array.length_toList] at e
  omega
theorem Inv.list_inj(I:Inv X pins σ H s)(h:SqL X.K H a xs)(h':SqL X.K H a ys):xs=ys:=by
 obtain⟨its,r,⟨o,n,e,_,_,d⟩,_⟩:=I.list h
 obtain⟨its',r',⟨o',n',e',_,_,d'⟩,_⟩:=I.list h'
 rw[e] at e';cases e'
 rw[d] at d'
 injection d' with d1 _
 have:its=its':=by simpa using congrArg Array.toList d1
 subst this
 exact r.inj r'
theorem Inv.tuple_inj(I:Inv X pins σ H s)(h:SqT X.K H a xs)(h':SqT X.K H a ys):xs=ys:=by
 obtain⟨its,r,⟨o,e,_,n,d⟩,_⟩:=I.tuple h
 obtain⟨its',r',⟨o',e',_,n',d'⟩,_⟩:=I.tuple h'
 rw[e] at e';cases e'
 rw[d] at d'
 injection d' with d1 _
 have:its=its':=by simpa using congrArg Array.toList d1
 subst this
 exact r.inj r'
end
abbrev Cx.wish(X:Cx)(E:Value→Shared→Prop):Cx:={ X with xe:=E }
abbrev Cx.nox(X:Cx):Cx:=X.wish fun _ _=>False
theorem Cx.Ok.wish{X:Cx}(ok:X.Ok)(E:Value→Shared→Prop):(X.wish E).Ok:=
 ⟨ok.mod,ok.kind,ok.glob,ok.blt,ok.above,ok.inj,ok.has,ok.cab,ok.hd,ok.frames,ok.stk,ok.exf,ok.bs,ok.bsz,ok.noex,ok.exfs,ok.funs,ok.frf⟩
theorem Cx.Ok.unwish{X:Cx}{E:Value→Shared→Prop}(ok:(X.wish E).Ok):X.Ok:=
 ⟨ok.mod,ok.kind,ok.glob,ok.blt,ok.above,ok.inj,ok.has,ok.cab,ok.hd,ok.frames,ok.stk,ok.exf,ok.bs,ok.bsz,ok.noex,ok.exfs,ok.funs,ok.frf⟩
section
variable{X:Cx}{pins:List (Addr×Obj)}{σ:St}{H:Hp}{s:Shared}{E:Value→Shared→Prop}
theorem Inv.wish(I:Inv X pins σ H s)(E:Value→Shared→Prop):Inv (X.wish E) pins σ H s:=⟨I.ok.wish E,I.os,I.bare,I.base,I.loc,I.cell,I.free,I.freeC,I.pin,I.hok,I.len⟩
theorem Inv.unwish(I:Inv (X.wish E) pins σ H s):Inv X pins σ H s:=⟨I.ok.unwish,I.os,I.bare,I.base,I.loc,I.cell,I.free,I.freeC,I.pin,I.hok,I.len⟩
theorem SP.unwish{D:Ends}{f:Flow}{s':Shared}(h:SP (X.wish E) pins D f s'):SP X pins D f s':=by
 cases f with
 |next=>obtain⟨σ',H',I,q⟩:=h;exact⟨σ',H',I.unwish,q⟩
 |brk=>obtain⟨σ',H',I,q⟩:=h;exact⟨σ',H',I.unwish,q⟩
 |cont=>obtain⟨σ',H',I,q⟩:=h;exact⟨σ',H',I.unwish,q⟩
 |ret u=>obtain⟨v,σ',H',I,r,q⟩:=h;exact⟨v,σ',H',I.unwish,r,q⟩
theorem PSs.nox{st:List Stmt}{t:TS}(h:PSs X.nox st t):PSs X st t:=fun pins s σ H D I hw=>
 wpAny_mono (h pins s σ H D (I.wish _) hw) (fun _ _ q=>q.unwish) fun _ _ z=>False.elim z
end
section
variable{X:Cx}{st:Stmt}{rest:List Stmt}{t u:TS}{e:Expr}{te:TE}{pos:Pos}
def y6R:TS:=fun D σ H=>D.nx σ H
def tSeq(t u:TS):TS:=fun D σ H=>t { D with nx:=u D } σ H
theorem pss_nil:PSs X [] y6R:=fun _ _ σ H _ I h=>wpAny_execs_nil ⟨σ,H,I,h⟩
theorem aF(h1:PS X st t)(h2:PSs X rest u):PSs X (st::rest) (tSeq t u):=by
 intro pins s σ H D I h
 refine wpAny_execs_cons (thn (h1 pins s σ H { D with nx:=u D } I h) fun f s1 q=>?_)
 cases f with
 |next=>
  obtain⟨σ',H',I',q⟩:=q
  exact h2 pins s1 σ' H' D I' q
 |ret v=>exact q
 |brk=>exact q
 |cont=>exact q
theorem aK(h1:PS X st t):PSs X [st] t:=by
 intro pins s σ H D I h
 refine wpAny_execs_cons (thn (h1 pins s σ H D I h) fun f s1 q=>?_)
 cases f with
 |next=>exact wpAny_execs_nil q
 |ret v=>exact q
 |brk=>exact q
 |cont=>exact q
theorem ps_pass:PS X (.Pass pos) y6R:=fun _ _ σ H _ I h=>wpAny_Pass ⟨σ,H,I,h⟩
theorem Inv.quiet{pins:List (Addr×Obj)}{σ:St}{H:Hp}{s:Shared}(I:Inv X pins σ H s):interactive X.env=false:=by simp[interactive,I.ok.kind]
def x5F(te:TE):TS:=fun D σ H=>te σ H fun _ H1=>D.nx σ H1
theorem bV(he:PE X e te)(hs:swapsWith e none pos.line X.env=pure false:=by rfl):PS X (.Expr e pos) (x5F te):=by
 intro pins s σ H D I h
 refine wpAny_Expr_any (thn (he pins s σ H _ I h) fun v s1 h00=>?_) I.quiet hs
 obtain⟨x,H1,I1,r1,q1⟩:=h00
 exact⟨σ,H1,I1,q1⟩
def tRet(te:TE):TS:=fun D σ H=>te σ H D.rt
theorem aS(he:PE X e te):PS X (.Return (some e) pos) (tRet te):=by
 intro pins s σ H D I h
 refine wpAny_Return_some (thn (he pins s σ H _ I h) fun v s1 h00=>?_)
 obtain⟨x,H1,I1,r1,q1⟩:=h00
 exact⟨x,σ,H1,I1,r1,q1⟩
def tIfS(c:TT)(t u:TS):TS:=fun D σ H=>c σ H fun b H1=>if b=true then t D σ H1 else u D σ H1
theorem bW{c:Expr}{a b:List Stmt}{tc:TT}(hc:PT X c tc)(ha:PSs X a t)(hb:PSs X b u):PS X (.If c a b pos) (tIfS tc t u):=by
 intro pins s σ H D I h
 refine wpAny_If (thn (hc pins s σ H _ I h) fun d s1 h00=>?_)
 obtain⟨H1,I1,q1⟩:=h00
 cases d with
 |true=>exact ha pins s1 σ H1 D I1 q1
 |false=>exact hb pins s1 σ H1 D I1 q1
def y8H:TS:=fun _ _ _=>False
theorem z9M:PS X st y8H:=fun _ _ _ _ _ _ h=>h.elim
end
abbrev TG:=V→St→Hp→(St→Hp→Prop)→Prop
abbrev TGs:=List V→St→Hp→(St→Hp→Prop)→Prop
def PG(X:Cx)(target:Expr)(t:TG):Prop:=
 ∀(pins:List (Addr×Obj)) (s:Shared) (σ:St) (H:Hp) (v:V) (u:Value) (Q:St→Hp→Prop),Inv X pins σ H s→RelV v u→t v σ H Q →
  wpAny (model X.prog X.w) X.A (assign target X.env u) (fun _ s'=>∃ σ' H',Inv X pins σ' H' s'∧Q σ' H') X.xe s
def PGs(X:Cx)(ts:List Expr)(t:TGs):Prop:=
 ∀(pins:List (Addr×Obj)) (s:Shared) (σ:St) (H:Hp) (vs:List V) (us:List Value) (Q:St→Hp→Prop),Inv X pins σ H s→Vals vs us→t vs σ H Q →
  wpAny (model X.prog X.w) X.A (assignInOrder ((assignEach ts X.env).map (·.2)) us) (fun _ s'=>∃ σ' H',Inv X pins σ' H' s'∧Q σ' H') X.xe s
abbrev TSet:=V→V→V→Hp→(Hp→Prop)→Prop
def PSet(X:Cx)(t:TSet):Prop:=
 ∀(pins:List (Addr×Obj)) (s:Shared) (σ:St) (H:Hp) (o i v:V) (ov iv u:Value) (Q:Hp→Prop),Inv X pins σ H s→RelV o ov→RelV i iv→RelV v u→t o i v H Q →
  wpAny (model X.prog X.w) X.A (setItem ov iv u) (fun _ s'=>∃ H',Inv X pins σ H' s'∧Q H') X.xe s
abbrev TIp:=V→V→Hp→VK→Prop
def PIp(X:Cx)(op:Operator)(t:TIp):Prop:=
 ∀(pins:List (Addr×Obj)) (s:Shared) (σ:St) (H:Hp) (x y:V) (v u:Value) (Q:VK),Inv X pins σ H s→RelV x v→RelV y u→t x y H Q →
  wpAny (model X.prog X.w) X.A (inplaceOp op v u) (EP X pins σ Q) X.xe s
section
variable{X:Cx}{pos:Pos}
def y6f(i:Nat):TG:=fun v σ H Q=>Q (σ.set i (some v)) H
theorem gJ{i:Nat}{x:Str}(hN:X.N.Nodup)(hi:X.N[i]?=some x)(hx:Loc X.env.scope x)(hf:X.fn x=true∨X.env.scope.names.lookup x=some .local:=by first|exact .inl rfl|exact .inr rfl|assumption):PG X (.Name x pos) (y6f i):=by
 intro pins s σ H v u Q I r h
 exact wpAny_assign_Name (vB I hN hi hx r (fun s' I'=>⟨_,H,I',h⟩) hf)
def gNil:TGs:=fun vs σ H Q=>vs=[]∧Q σ H
def x2A(t:TG)(u:TGs):TGs:=fun vs σ H Q=>∃ v r,vs=v::r∧t v σ H fun σ' H'=>u r σ' H' Q
theorem y3p:PGs X [] gNil:=by
 intro pins s σ H vs us Q I r h
 obtain⟨e,h⟩:=h
 subst e
 cases r
 exact assignInOrder_nil ⟨σ,H,I,h⟩
theorem z3B {e:Expr}{es:List Expr}{t:TG}{u:TGs} (h1:PG X e t) (h2:PGs X es u)
  (hs:(assignEach (e::es) X.env).map (·.2)=assign e X.env::(assignEach es X.env).map (·.2):=by rfl):PGs X (e::es) (x2A t u):=by
 intro pins s σ H vs us Q I r h
 obtain⟨v,vr,e1,h⟩:=h
 subst e1
 cases r with
 |cons r rr=>
  rw[hs]
  refine assignInOrder_cons (thn (h1 pins s σ H _ _ _ I r h) fun _ s1 h00=>?_)
  obtain⟨σ1,H1,I1,q1⟩:=h00
  exact h2 pins s1 σ1 H1 _ _ Q I1 rr q1
def gTup(K:PySem.W.Frag)(n:Nat)(t:TGs):TG:=fun v σ H Q=>∃ a xs,v=.ref a∧SqT K H a xs∧xs.length=n∧t xs σ H Q
theorem y8q {es:List Expr}{k:Nat}{t:TGs}{n:Nat} (hc:X.calm=true) (h:PGs X es t)
  (hn:(assignEach es X.env).length=n:=by rfl) (hst:(assignEach es X.env).findIdx? (·.1)=none:=by rfl):PG X (.Tuple es k pos) (gTup X.K n t):=by
 intro pins s σ H v u Q I r hw
 obtain⟨a,xs,e1,hq,hl,hw⟩:=hw
 subst e1
 cases r
 obtain⟨its,rv,ht,hz⟩:=I.tuple hq
 refine assign_Tuple_tuple (I.ok.hd hc) ht (by simp[hn,←hl,rv.length]) hst fun h' hx=>?_
 have I1:Inv X pins σ H { s with heap:=h' }:=I.kept (t':=s.toks) fun b o e=>hx b o (Nat.ne_of_lt (Heap.lt_size e)) e
 exact h pins _ σ H xs _ Q I1 (by simpa using rv) hw
def gSub(to ti:TE)(t:TSet):TG:=fun v σ H Q=>to σ H fun o H1=>ti σ H1 fun i H2=>t o i v H2 fun H3=>Q σ H3
theorem pC {o i:Expr}{to ti:TE}{t:TSet} (ho:PE X o to) (hi:PE X i ti) (hs:PSet X t)
  (ha:∀ v,assign (.Subscript o i pos) X.env v=(do
   let ov ← holding [v] (eval o X.env)
   let iv ← holding [v,ov] (eval i X.env)
   standAt pos
   holding [v,ov,iv] (setItem ov iv v)
   release [v,ov,iv] []):=by intro _;rfl):PG X (.Subscript o i pos) (gSub to ti t):=by
 intro pins s σ H v u Q I r h
 rw[ha]
 refine wpAny_bind (wpAny_holding (thn (ho pins s σ H _ I h) fun ov s1 h00=>?_))
 obtain⟨x,H1,I1,r1,q1⟩:=h00
 refine wpAny_bind (wpAny_holding (thn (hi pins s1 σ H1 _ I1 q1) fun iv s2 h00=>?_))
 obtain⟨y,H2,I2,r2,q2⟩:=h00
 refine wpAny_bind (wpAny_standAt (wpAny_bind (wpAny_holding (thn (hs pins s2 σ H2 x y v ov iv u _ I2 r1 r2 r q2) fun _ s3 h00=>?_))))
 obtain⟨H3,I3,q3⟩:=h00
 exact wpAny_release ⟨σ,H3,I3,q3⟩
def tAsg(te:TE)(g:TG):TS:=fun D σ H=>te σ H fun x H1=>g x σ H1 D.nx
theorem pD {tg e:Expr}{te:TE}{g:TG} (he:PE X e te) (hg:PG X tg g) (hs:swapsWithSole [tg] e pos.line X.env=pure false:=by rfl) (hw:swappedStores [tg] e X.env=pure none:=by rfl)
  (h1:(assignEach [tg] X.env).map (·.2)=[assign tg X.env]:=by rfl):PS X (.Assign [tg] e pos) (tAsg te g):=by
 intro pins s σ H D I h
 refine wpAny_Assign_stores (thn (he pins s σ H _ I h) fun v s1 h00=>?_) hs hw
 obtain⟨x,H1,I1,r1,q1⟩:=h00
 rw[h1]
 exact thn (hg pins s1 σ H1 x v _ I1 r1 q1) fun _ s2 q=>q
theorem aW{i:Nat}{x:Str}{e:Expr}{te:TE}{pos':Pos}(hN:X.N.Nodup)(hi:X.N[i]?=some x)(hx:Loc X.env.scope x)(he:PE X e te)(hs:swapsWith e (some (.Name x pos')) pos.line X.env=pure false:=by rfl)(hf:X.fn x=true∨X.env.scope.names.lookup x=some .local:=by first|exact .inl rfl|exact .inr rfl|assumption) :
  PS X (.Assign [.Name x pos'] e pos) (tAsg te (y6f i)):=by
 intro pins s σ H D I h
 refine wpAny_Assign_Name (thn (he pins s σ H _ I h) fun v s1 h00=>?_) hs
 obtain⟨y,H1,I1,r1,q1⟩:=h00
 exact vB I1 hN hi hx r1 (fun s2 I2=>⟨_,H1,I2,q1⟩) hf
def tAug(i:Nat)(te:TE)(ti:TIp):TS:=fun D σ H=>∃ x,σ[i]?=some (some x)∧te σ H fun y H1=>ti x y H1 fun z H2=>D.nx (σ.set i (some z)) H2
theorem jV{i:Nat}{x:Str}{e:Expr}{te:TE}{op:Operator}{ti:TIp}{pos':Pos}(hN:X.N.Nodup)(hi:X.N[i]?=some x)(hx:Loc X.env.scope x)(he:PE X e te)(ho:PIp X op ti)(hf:X.fn x=true∨X.env.scope.names.lookup x=some .local:=by first|exact .inl rfl|exact .inr rfl|assumption) :
  PS X (.AugAssign (.Name x pos') op e pos) (tAug i te ti):=by
 intro pins s σ H D I h
 obtain⟨v,e1,h⟩:=h
 obtain⟨m,hn,hl⟩:=I.loc
 have vis:Vis X.env.scope x:=by rcases hx with k|k;exact .inl k;exact .inr (.inl k)
 obtain⟨u,r,l⟩:=hl i x v hi e1 vis
 refine wpAny_AugAssign_Name ?_
 have go:wpAny (model X.prog X.w) X.A (eval e X.env) (fun w s₂=>wpAny (model X.prog X.w) X.A (inplaceOp op u w) (fun r s₃=>wpAny (model X.prog X.w) X.A (storeName X.env x r) (fun _=>SP X pins D .next) X.xe s₃) X.xe s₂) X.xe s:=by
  refine thn (he pins s σ H _ I h) fun w s1 h00=>?_
  obtain⟨y,H1,I1,r1,q1⟩:=h00
  refine thn (ho pins s1 σ H1 v y u w _ I1 r r1 q1) fun z s2 h00=>?_
  obtain⟨zv,H2,I2,r2,q2⟩:=h00
  exact vB I2 hN hi hx r2 (fun s3 I3=>⟨_,H2,I3,q2⟩) hf
 rcases l with ⟨hk,hm⟩|⟨hk,c,hc,hcell⟩
 ·exact wpAny_loadName_local I.ok.kind hk hn hm go
 ·rcases hk with hk|hk
  ·exact wpAny_loadName_cell I.ok.kind hk hc hcell go
  ·rcases hx with k|k
   ·have:X.env.scope.names.lookup x=some .free:=hk
    rw[k] at this;cases this
   ·have:X.env.scope.names.lookup x=some .free:=hk
    rw[k] at this;cases this
def ipI(f:Int→Int→Int):TIp:=fun x y H Q=>∃ i j,x=.int i∧y=.int j∧Q (.int (f i j)) H
theorem jO:PIp X .Add (ipI fun i j=>i+j):=by
 intro pins s σ H x y v u Q I r1 r2 h
 obtain⟨i,j,e1,e2,q⟩:=h
 subst e1;subst e2
 obtain⟨t,rfl⟩:=r1
 obtain⟨t',rfl⟩:=r2
 exact iadd_int ⟨.int _,H,I.tok _,⟨_,rfl⟩,q⟩
end
section
variable{X:Cx}{pos:Pos}
def y8I(c:TT)(tb:TS):TS:=fun D σ H=>∃ W:Nat→St→Hp→Prop,(∃ m,W m σ H)∧∀ m σ H,W m σ H →
 c σ H fun b H1=>if b=true then ∃ N:St→Hp→Prop,(∀ σ' H',N σ' H'→∃ m',m'<m∧W m' σ' H')∧tb { D with nx:=N,ct:=N,bk:=D.nx } σ H1 else D.nx σ H1
theorem z3D{c:Expr}{body:List Stmt}{tc:TT}{tb:TS}(hp:PassesOwn (model X.prog X.w) X.A X.env X.xe)(hc:PT X c tc)(hb:PSs X body tb):PS X (.While c body [] pos) (y8I tc tb):=by
 intro pins s σ H D I h
 obtain⟨W,⟨m0,w0⟩,turn⟩:=h
 refine wpAny_While (codeAny_whileLoop (fun n s'=>∃ σ' H',Inv X pins σ' H' s'∧W n σ' H') ?_ m0 ⟨σ,H,I,w0⟩)
 rintro n s1 ⟨σ1,H1,I1,w1⟩
 refine wpAny_passesOwn hp (thn (hc pins s1 σ1 H1 _ I1 (turn n σ1 H1 w1)) fun b s2 h00=>?_)
 obtain⟨H2,I2,q2⟩:=h00
 cases b with
 |true=>
  obtain⟨N,hN,q2⟩:=q2
  rw[if_pos rfl]
  refine wpAny_passesOwn hp (thn (hb pins s2 σ1 H2 _ I2 q2) fun f s3 q3=>?_)
  cases f with
  |next=>
   obtain⟨σ3,H3,I3,n3⟩:=q3
   obtain⟨m',hm,w3⟩:=hN σ3 H3 n3
   exact⟨m',hm,σ3,H3,I3,w3⟩
  |cont=>
   obtain⟨σ3,H3,I3,n3⟩:=q3
   obtain⟨m',hm,w3⟩:=hN σ3 H3 n3
   exact⟨m',hm,σ3,H3,I3,w3⟩
  |brk=>exact q3
  |ret v=>exact q3
 |false=>
  rw[if_neg Bool.false_ne_true]
  exact wpAny_execs_nil ⟨σ1,H2,I2,q2⟩
end
structure It where
 go:Nat→Hp→Prop
 yld:Nat→Hp→V→Hp→Prop
 stop:Nat→Hp→Prop
def fW(X:Cx)(pins:List (Addr×Obj))(H:Hp)(b:Addr):Prop:=
 H b=none∧b≠X.env.locals∧b∉X.fs∧(b∈X.ex∨X.s₀.heap.objs.size≤b)∧(∀ x c,X.env.cells.lookup x=some c→c≠b)∧∀ p∈X.pn++pins,p.1≠b
theorem Inv.fpOk{X:Cx}{pins:List (Addr×Obj)}{σ:St}{H H':Hp}{s:Shared}{b:Addr}(I:Inv X pins σ H s)(hb:s.heap.objs.size≤b)(hn:H' b=none):fW X pins H' b:=by
 refine⟨hn,Nat.ne_of_gt (Nat.lt_of_lt_of_le I.lt hb),I.nofs hb,.inr (Nat.le_trans I.sz hb),fun x c e z=>?_,fun p hp z=>?_⟩
 ·obtain⟨v,q⟩:=I.cell x c e
  exact absurd (Nat.lt_of_lt_of_le q.lt (by rw[z];exact hb)) (Nat.lt_irrefl _)
 ·exact absurd (Nat.lt_of_lt_of_le (Heap.lt_size (I.pin p hp).1) (by rw[z];exact hb)) (Nat.lt_irrefl _)
structure Turn(P:Program)(w:World)(K:PySem.W.Frag)(tg:Expr)(J:It)(fp:List Addr)(it:Addr)(tn:Nat→Heap→Prop):Prop where
 mem:it∈fp
 obj:∀ i h,tn i h→∀ b∈fp,∃ o,h.get? b=some o∧∀ v,o.data≠.cell v
 keep:∀ i h h',tn i h→(∀ b∈fp,∀ o,h.get? b=some o→h'.get? b=some o)→tn i h'
 item:∀(X:Cx),X.prog=P→X.w=w→X.K=K→X.calm=true→∀(i:Nat) (pins:List (Addr×Obj)) (s:Shared) (σ:St) (H:Hp) (E:Value→Shared→Prop),Inv X pins σ H s→(∀ b∈fp,fW X pins H b)→tn i s.heap→J.go i H →
  wpAny (model P w) X.A (pyNext (.ref it)) (fun r s1=>∃ u,r=some u ∧
   wpAny (model P w) X.A (letOwnedTupleGo tg (.ref it) u) (fun _ s2=>∃ x H',Inv X pins σ H' s2∧RelV x u∧J.yld i H x H'∧tn (i+1) s2.heap∧∀ b∈fp,H' b=none) E s1) E s
 done:∀(X:Cx),X.prog=P→X.w=w→X.K=K→X.calm=true→∀(i:Nat) (pins:List (Addr×Obj)) (s:Shared) (σ:St) (H:Hp) (E:Value→Shared→Prop),Inv X pins σ H s→(∀ b∈fp,fW X pins H b)→tn i s.heap→J.stop i H →
  wpAny (model P w) X.A (pyNext (.ref it)) (fun r s1=>r=none∧Inv X pins σ H s1) E s
 self:∀(A:Around) (i:Nat) (s:Shared) (Q:Value→Shared→Prop) (E:Value→Shared→Prop),tn i s.heap→Q (.ref it) s→wpAny (model P w) A (pyIter (.ref it)) Q E s
abbrev TI:=St→Hp→(It→Hp→Prop)→Prop
def PIE(X:Cx)(pins:List (Addr×Obj))(σ:St)(tg:Expr)(R:It→Hp→Prop)(itv:Value)(s2:Shared):Prop:=
 ∃(it:Addr) (fp:List Addr) (tn:Nat→Heap→Prop) (J:It) (H':Hp),itv=.ref it∧Inv X pins σ H' s2∧Turn X.prog X.w X.K tg J fp it tn∧tn 0 s2.heap∧(∀ b∈fp,fW X pins H' b)∧R J H'
def PI(X:Cx)(tg iter:Expr)(wi:TI):Prop:=
 ∀(pins:List (Addr×Obj)) (s:Shared) (σ:St) (H:Hp) (R:It→Hp→Prop),Inv X pins σ H s→wi σ H R →
  wpAny (model X.prog X.w) X.A (eval iter X.env) (fun v s1=>wpAny (model X.prog X.w) X.A (pyIter v) (PIE X pins σ tg R) X.xe s1) X.xe s
theorem pM {M:Model}{A:Around}{E:Value→Shared→Prop}{s:Shared}{tg:Expr}{it:Addr}{u:Value}{o:Obj}{n:String}{vs:Array Value}{Q:Unit→Shared→Prop} (ho:s.heap.get? it=some o) (hc:o.cls=.type n) (hd:o.data=.fields vs)
  (hn:["enumerate","zip","dict_itemiterator","dict_reverseitemiterator","odict_iterator","itertools.zip_longest","itertools.pairwise"].contains n=false) (hQ:Q () s):wpAny M A (letOwnedTupleGo tg (.ref it) u) Q E s:=by
 unfold letOwnedTupleGo
 cases tg <;> first
  |exact wpAny_pure hQ
  |(cases u <;> first
    |exact wpAny_pure hQ
    |(refine wpAny_bind (wpAny_load ho ?_)
      rw[hc,hd]
      show wpAny M A (if (["enumerate","zip","dict_itemiterator","dict_reverseitemiterator","odict_iterator","itertools.zip_longest","itertools.pairwise"].contains n&&vs[0]?==some (rawInt _))=true then _ else _) Q E s
      rw[if_neg (by intro h;rw[hn,Bool.false_and] at h;cases h)]
      exact wpAny_pure hQ))
def Itl(K:PySem.W.Frag)(a:Addr):It:=
 ⟨fun i H=>∃ xs x,SqL K H a xs∧xs[i]?=some x,fun i H x H'=>H'=H∧∀ xs,SqL K H a xs→xs[i]?=some x,fun i H=>∃ xs,SqL K H a xs∧xs.length≤i⟩
def Itt(K:PySem.W.Frag)(a:Addr):It:=
 ⟨fun i H=>∃ xs x,SqT K H a xs∧xs[i]?=some x,fun i H x H'=>H'=H∧∀ xs,SqT K H a xs→xs[i]?=some x,fun i H=>∃ xs,SqT K H a xs∧xs.length≤i⟩
def Itr(lo:Int)(n:Nat):It:=⟨fun i _=>i<n,fun i H x H'=>H'=H∧x=.int (lo+i),fun i _=>n≤i⟩
theorem z7r{P:Program}{w:World}{K:PySem.W.Frag}{tg:Expr}(a it:Addr):Turn P w K tg (Itl K a) [it] it (fun i h=>h.IsListIter it a i) where
 mem:=by simp
 obj:=fun i h st b hb=>by
  have e:b=it:=by simpa using hb
  subst e
  obtain⟨o,e,c,d⟩:=st
  exact⟨o,e,fun v z=>by rw[d] at z;cases z⟩
 keep:=fun i h h' st k=>st.at fun o e=>k it (by simp) o e
 item:=by
  intro X hP hw hK hc i pins s σ H E I hf st hg
  subst hP hw hK
  obtain⟨xs,x,hq,hx⟩:=hg
  obtain⟨its,rv,p,hz⟩:=I.list hq
  obtain⟨u,hu,ru⟩:=rv.get hx
  obtain⟨f0,f1,f2,f3,f4,f5⟩:=hf it (by simp)
  refine wpAny_pyNext_list_item st p.isList (x:=u) (by simpa using hu) fun h' st' sb=>?_
  have I1:Inv X pins σ H { s with heap:=h' }:=I.turned (t':=s.toks) (fun b o hb e=>(sb.2 b hb).trans e) f0 f1 f3 f4 f5
  obtain⟨o,e,c,d⟩:=id st'
  exact⟨u,rfl,pM (s:={ s with heap:=h' }) e c d (by decide) ⟨x,H,I1,ru,⟨rfl,fun ys hy=>by rw[I.list_inj hy hq];exact hx⟩,st',fun b hb=>(hf b hb).1⟩⟩
 done:=by
  intro X hP hw hK hc i pins s σ H E I hf st hg
  subst hP hw hK
  obtain⟨xs,hq,hx⟩:=hg
  obtain⟨its,rv,p,hz⟩:=I.list hq
  obtain⟨f0,f1,f2,f3,f4,f5⟩:=hf it (by simp)
  have hl:=rv.length
  exact wpAny_pyNext_list_end (I.ok.hd hc) st p.isList (by simp;omega) fun h' eb=>⟨rfl,I.turned (t':=s.toks) (fun b o hb e=>eb b o hb e) f0 f1 f3 f4 f5⟩
 self:=fun _ _ _ _ _ st h=>wpAny_pyIter_listiter st h
theorem z4Z{P:Program}{w:World}{K:PySem.W.Frag}{tg:Expr}(a it:Addr):Turn P w K tg (Itt K a) [it] it (fun i h=>h.IsTupleIter it a i) where
 mem:=by simp
 obj:=fun i h st b hb=>by
  have e:b=it:=by simpa using hb
  subst e
  obtain⟨o,e,c,d⟩:=st
  exact⟨o,e,fun v z=>by rw[d] at z;cases z⟩
 keep:=fun i h h' st k=>st.at fun o e=>k it (by simp) o e
 item:=by
  intro X hP hw hK hc i pins s σ H E I hf st hg
  subst hP hw hK
  obtain⟨xs,x,hq,hx⟩:=hg
  obtain⟨its,rv,p,hz⟩:=I.tuple hq
  obtain⟨u,hu,ru⟩:=rv.get hx
  obtain⟨f0,f1,f2,f3,f4,f5⟩:=hf it (by simp)
  refine wpAny_pyNext_tuple_item st (show s.heap.IsTuple a its.toArray from p) (x:=u) (by simpa using hu) fun h' st' sb=>?_
  have I1:Inv X pins σ H { s with heap:=h' }:=I.turned (t':=s.toks) (fun b o hb e=>(sb.2 b hb).trans e) f0 f1 f3 f4 f5
  obtain⟨o,e,c,d⟩:=id st'
  exact⟨u,rfl,pM (s:={ s with heap:=h' }) e c d (by decide) ⟨x,H,I1,ru,⟨rfl,fun ys hy=>by rw[I.tuple_inj hy hq];exact hx⟩,st',fun b hb=>(hf b hb).1⟩⟩
 done:=by
  intro X hP hw hK hc i pins s σ H E I hf st hg
  subst hP hw hK
  obtain⟨xs,hq,hx⟩:=hg
  obtain⟨its,rv,p,hz⟩:=I.tuple hq
  obtain⟨f0,f1,f2,f3,f4,f5⟩:=hf it (by simp)
  have hl:=rv.length
  exact wpAny_pyNext_tuple_end (I.ok.hd hc) st (show s.heap.IsTuple a its.toArray from p) (by simp;omega) fun h' eb=>⟨rfl,I.turned (t':=s.toks) (fun b o hb e=>eb b o hb e) f0 f1 f3 f4 f5⟩
 self:=fun _ _ _ _ _ st h=>wpAny_pyIter_tupleiter st h
theorem z4Y{P:Program}{w:World}{K:PySem.W.Frag}{tg:Expr}(it:Addr)(lo:Int)(n:Nat):Turn P w K tg (Itr lo n) [it] it (fun i h=>IsRangeIter h it (lo+(i:Nat) * 1) ((n:Int) - (i:Nat)) 1) where
 mem:=by simp
 obj:=fun i h st b hb=>by
  have e:b=it:=by simpa using hb
  subst e
  exact⟨_,st,fun v z=>by
   have z':Data.fields _=Data.cell v:=z
   cases z'⟩
 keep:=fun i h h' st k=>k it (by simp) _ st
 item:=by
  intro X hP hw hK hc i pins s σ H E I hf st hg
  subst hP hw hK
  obtain⟨f0,f1,f2,f3,f4,f5⟩:=hf it (by simp)
  have W:=Walks.range (prog:=X.prog) (w:=X.w) (I.ok.hd hc) it lo 1 n
  refine W.item i s _ _ hg st fun v h' tk hv st' kk=>?_
  obtain⟨t,rfl⟩:=hv
  have I1:Inv X pins σ H { s with heap:=h',toks:=tk }:=I.turned (fun b o hb e=>kk b o (by simpa using hb) e) f0 f1 f3 f4 f5
  refine⟨_,rfl,pM (s:={ s with heap:=h',toks:=tk }) (n:="range_iterator") st' rfl rfl (by decide) ⟨.int (lo+i),H,I1,⟨t,?_⟩,⟨rfl,rfl⟩,st',fun b hb=>(hf b hb).1⟩⟩
  rw[Int.mul_one]
 done:=by
  intro X hP hw hK hc i pins s σ H E I hf st hg
  subst hP hw hK
  obtain⟨f0,f1,f2,f3,f4,f5⟩:=hf it (by simp)
  exact wpAny_pyNext_range_end (I.ok.hd hc) st (by have:n≤i:=hg;omega) fun h' eb=>⟨rfl,I.turned (t':=s.toks) (fun b o hb e=>eb b o hb e) f0 f1 f3 f4 f5⟩
 self:=fun _ _ _ _ _ st h=>wpAny_pyIter_rangeiter st h
end L2
namespace L2
open PySem PySem.Spec PyProof.Rows
section
variable{X:Cx}{tg:Expr}
def x2D(K:PySem.W.Frag)(tl:TE):TI:=fun σ H R=>tl σ H fun x H1=>∃ a,x=.ref a∧(∃ xs,SqL K H1 a xs)∧R (Itl K a) H1
def iTup(K:PySem.W.Frag)(tl:TE):TI:=fun σ H R=>tl σ H fun x H1=>∃ a,x=.ref a∧(∃ xs,SqT K H1 a xs)∧R (Itt K a) H1
theorem z6g{l:Expr}{tl:TE}(hl:PE X l tl):PI X tg l (x2D X.K tl):=by
 intro pins s σ H R I h
 refine thn (hl pins s σ H _ I h) fun v s1 h00=>?_
 obtain⟨x,H1,I1,r1,q1⟩:=h00
 obtain⟨a,e,⟨xs,hq⟩,q⟩:=q1
 subst e
 cases r1
 obtain⟨its,rv,p,hz⟩:=I1.list hq
 refine wpAny_pyIter_list p.isList ?_
 refine⟨s1.heap.objs.size,[s1.heap.objs.size],_,_,H1,rfl,I1.kept (t':=s1.toks) fun b o e=>Heap.get?_push_of_some _ e,z7r a _,⟨_,Heap.get?_push_size _ rfl,rfl,rfl⟩,fun b hb=>?_,q⟩
 have e:b=s1.heap.objs.size:=by simpa using hb
 subst e
 exact I1.fpOk (Nat.le_refl _) (I1.hok.fresh (Nat.le_refl _))
theorem y8s{l:Expr}{tl:TE}(hl:PE X l tl):PI X tg l (iTup X.K tl):=by
 intro pins s σ H R I h
 refine thn (hl pins s σ H _ I h) fun v s1 h00=>?_
 obtain⟨x,H1,I1,r1,q1⟩:=h00
 obtain⟨a,e,⟨xs,hq⟩,q⟩:=q1
 subst e
 cases r1
 obtain⟨its,rv,p,hz⟩:=I1.tuple hq
 refine wpAny_pyIter_tuple (show s1.heap.IsTuple a its.toArray from p) ?_
 refine⟨s1.heap.objs.size,[s1.heap.objs.size],_,_,H1,rfl,I1.kept (t':=s1.toks) fun b o e=>Heap.get?_push_of_some _ e,z4Z a _,⟨_,Heap.get?_push_size _ rfl,rfl,rfl⟩,fun b hb=>?_,q⟩
 have e:b=s1.heap.objs.size:=by simpa using hb
 subst e
 exact I1.fpOk (Nat.le_refl _) (I1.hok.fresh (Nat.le_refl _))
theorem z3S {pins:List (Addr×Obj)}{σ:St}{H:Hp}{s:Shared}{R:It→Hp→Prop}{E:Value→Shared→Prop}{lo hi:Int}{t u v:Tok}{tk:Nat} (I:Inv X pins σ H s) (h1:-(2 ^ 62)≤lo) (h2:lo<2 ^ 62) (h3:-(2 ^ 62)≤hi) (h4:hi<2 ^ 62)
  (q:R (Itr lo (hi - lo).toNat) H):wpAny (model X.prog X.w) X.A (pyIter (.ref s.heap.objs.size)) (PIE X pins σ tg R) E { s with heap:=s.heap.push { cls:=.type "range",data:=.fields #[.int lo t,.int hi u,.int 1 v] },toks:=tk }:=by
 refine wpAny_pyIter_range (IsRange.new ..) (small_one h1 h2 h3 h4) ?_
 have I1:Inv X pins σ H { s with heap:=s.heap.push { cls:=.type "range",data:=.fields #[.int lo t,.int hi u,.int 1 v] },toks:=tk }:=I.kept fun b o e=>Heap.get?_push_of_some _ e
 refine⟨(s.heap.push { cls:=.type "range",data:=.fields #[.int lo t,.int hi u,.int 1 v] }).objs.size,[(s.heap.push { cls:=.type "range",data:=.fields #[.int lo t,.int hi u,.int 1 v] }).objs.size],_,_,H,rfl,
  I1.kept (t':=tk) fun b o e=>Heap.get?_push_of_some _ e,z4Y _ lo (hi - lo).toNat,?_,fun b hb=>?_,q⟩
 ·have e1:lo+((0:Nat):Int) * 1=lo:=by simp
  have e2:(((hi - lo).toNat:Nat):Int) - ((0:Nat):Int)=Builtin.Range.rangeSize lo hi 1:=by rw[rangeSize_one];split <;> omega
  show IsRangeIter _ _ (lo+((0:Nat):Int) * 1) ((((hi - lo).toNat:Nat):Int) - ((0:Nat):Int)) 1
  rw[e1,e2]
  exact Heap.get?_push_size _ rfl
 ·have e:b=(s.heap.push { cls:=.type "range",data:=.fields #[.int lo t,.int hi u,.int 1 v] }).objs.size:=by simpa using hb
  subst e
  exact I1.fpOk (Nat.le_refl _) (I1.hok.fresh (Nat.le_refl _))
def x2E(ta:TA):TI:=fun σ H R=>ta σ H fun vs H1=>∃ j:Int,vs=[.int j]∧-(2 ^ 62)≤j∧j<2 ^ 62∧R (Itr 0 j.toNat) H1
def x2F(ta:TA):TI:=fun σ H R=>ta σ H fun vs H1=>∃ i j:Int,vs=[.int i,.int j]∧(-(2 ^ 62)≤i∧i<2 ^ 62∧-(2 ^ 62)≤j∧j<2 ^ 62)∧R (Itr i (j - i).toNat) H1
theorem z2t{a:Expr}{ta:TA}{p pos:Pos}(hg:Gl X "range")(hm:X.mg "range"=none)(ha:PA X [a] ta)(hs:starEach [a] X.env=[(false,eval a X.env)]:=by rfl):PI X tg (.Call (.Name "range" p) [a] [] pos) (x2E ta):=by
 intro pins s σ H R I h
 refine Call_ (kR I hg hm boot_range (PyProof.Rows.callWith_type1 (thn (ha pos pins s σ H _ I h) fun us s1 h00=>?_) hs rfl))
 obtain⟨vs,H1,I1,r1,q1⟩:=h00
 obtain⟨j,e,q1,q2,q⟩:=q1
 subst e
 cases r1 with
 |cons r rr=>
  cases rr
  obtain⟨t,rfl⟩:=r
  exact call_range_1 (z3S I1 (by omega) (by omega) q1 q2 (by simpa using q))
theorem z6R{a b:Expr}{ta:TA}{p pos:Pos}(hg:Gl X "range")(hm:X.mg "range"=none)(ha:PA X [a,b] ta)(hs:starEach [a,b] X.env=[(false,eval a X.env),(false,eval b X.env)]:=by rfl)(hs2:starEach [b] X.env=[(false,eval b X.env)]:=by rfl) :
  PI X tg (.Call (.Name "range" p) [a,b] [] pos) (x2F ta):=by
 intro pins s σ H R I h
 refine Call_ (kR I hg hm boot_range (PyProof.Rows.callWith_type1 (thn (ha pos pins s σ H _ I h) fun us s1 h00=>?_) (by rw[hs,hs2]) (by rw[hs2];rfl)))
 obtain⟨vs,H1,I1,r1,q1⟩:=h00
 obtain⟨i,j,e,⟨q1,q2,q3,q4⟩,q⟩:=q1
 subst e
 cases r1 with
 |cons r rr=>
  cases rr with
  |cons r' rr=>
   cases rr
   obtain⟨t,rfl⟩:=r
   obtain⟨t',rfl⟩:=r'
   exact call_range_2 (z3S I1 q1 q2 q3 q4 q)
def tFor(wi:TI)(g:TG)(tb:TS):TS:=fun D σ H=>wi σ H fun J H1=>∃ W:Nat→Nat→St→Hp→Prop,(∃ m,W 0 m σ H1)∧∀ i m σ H,W i m σ H →
 (J.stop i H∧D.nx σ H)∨(J.go i H∧∃ N:St→Hp→Prop,(∀ σ' H',N σ' H'→∃ m',m'<m∧W (i+1) m' σ' H')∧∀ x H',J.yld i H x H'→g x σ H' fun σ2 H2=>tb { D with nx:=N,ct:=N,bk:=D.nx } σ2 H2)
def lX(fp:List Addr)(h:Heap):List (Addr×Obj):=fp.filterMap fun b=>(h.get? b).map fun o=>(b,o)
theorem tG{fp:List Addr}{h:Heap}{b:Addr}{o:Obj}(hb:b∈fp)(e:h.get? b=some o):(b,o)∈lX fp h:=List.mem_filterMap.mpr ⟨b,hb,by rw[e];rfl⟩
theorem z6O{fp:List Addr}{h:Heap}{p:Addr×Obj}(hp:p∈lX fp h):p.1∈fp∧h.get? p.1=some p.2:=by
 obtain⟨b,hb,e⟩:=List.mem_filterMap.mp hp
 cases q:h.get? b with
 |none=>rw[q] at e;cases e
 |some o=>
  rw[q] at e
  have e':(b,o)=p:=Option.some.inj e
  subst e'
  exact⟨hb,q⟩
theorem Inv.pinned{pins:List (Addr×Obj)}{σ:St}{H:Hp}{s:Shared}{fp:List Addr}(I:Inv X pins σ H s)(hf:∀ b∈fp,fW X pins H b)(ho:∀ b∈fp,∃ o,s.heap.get? b=some o∧∀ v,o.data≠.cell v):Inv X (pins++lX fp s.heap) σ H s:=
 I.pins_of fun p hp=>(List.mem_append.mp hp).elim (fun z=>I.pin p (List.mem_append_right _ z)) fun z=>by
  obtain⟨hb,e⟩:=z6O z
  obtain⟨f0,f1,f2,_⟩:=hf p.1 hb
  obtain⟨o,e',d⟩:=ho p.1 hb
  rw[e] at e';cases e'
  exact⟨e,f0,f1,f2,d⟩
theorem Inv.unpinned{pins pl:List (Addr×Obj)}{σ:St}{H:Hp}{s:Shared}(I:Inv X (pins++pl) σ H s):Inv X pins σ H s:=I.pins_of fun p hp=>I.pin p (List.mem_append_right _ (List.mem_append_left _ hp))
theorem iO {iter:Expr}{body:List Stmt}{wi:TI}{g:TG}{tb:TS}{pos:Pos} (hp:PassesOwn (model X.prog X.w) X.A X.env X.xe) (hc:X.calm=true) (hi:PI X tg iter wi) (hg:PG X tg g) (hb:PSs X body tb)
  (hs:∀ x,foldedSetIterable iter X.env x=pure x:=by intro _;rfl):PS X (.For tg iter body [] pos) (tFor wi g tb):=by
 intro pins s σ H D I h
 refine wpAny_For (thn (hi pins s σ H _ I h) fun v s1 h1=>thn h1 fun itv s2 h2=>?_) hs
 obtain⟨it,fp,tn,J,H2,e,I2,T,st2,f2,W,⟨m0,w0⟩,turn⟩:=h2
 subst e
 have stat:∀{H':Hp},(∀ b∈fp,H' b=none)→∀ b∈fp,fW X pins H' b:=fun hn b hb=>⟨hn b hb,(f2 b hb).2⟩
 refine codeAny_forLoop_any (fun n s'=>∃ i σ' H',Inv X pins σ' H' s'∧tn i s'.heap∧(∀ b∈fp,H' b=none)∧W i n σ' H') ?_ m0 ⟨0,σ,H2,I2,st2,fun b hb=>(f2 b hb).1,w0⟩
 rintro n s3 ⟨i,σ3,H3,I3,st3,fr3,w3⟩
 rcases turn i n σ3 H3 w3 with ⟨stop,qn⟩|⟨go,N,hN,step⟩
 ·refine wpAny_passesOwn hp (thn (T.done X rfl rfl rfl hc i pins s3 σ3 H3 X.xe I3 (stat fr3) st3 stop) fun r s4 h00=>?_)
  obtain⟨hr,I4⟩:=h00
  subst hr
  exact wpAny_execs_nil ⟨σ3,H3,I4,qn⟩
 ·refine wpAny_passesOwn hp (thn (T.item X rfl rfl rfl hc i pins s3 σ3 H3 X.xe I3 (stat fr3) st3 go) fun r s4 h00=>?_)
  obtain⟨u,hr,h4⟩:=h00
  subst hr
  refine wpAny_passesOwn hp (thn h4 fun _ s5 h00=>?_)
  obtain⟨x,H5,I5,r5,y5,st5,fr5⟩:=h00
  have I5':=I5.pinned (stat fr5) (T.obj _ _ st5)
  refine wpAny_passesOwn hp (thn (hg _ s5 σ3 H5 x u _ I5' r5 (step x H5 y5)) fun _ s6 h00=>?_)
  obtain⟨σ6,H6,I6,q6⟩:=h00
  refine wpAny_passesOwn hp (thn (hb _ s6 σ6 H6 _ I6 q6) fun f s7 q7=>?_)
  have again:∀{σ7:St}{H7:Hp},Inv X (pins++lX fp s5.heap) σ7 H7 s7→N σ7 H7→∃ m,m<n∧∃ i σ' H',Inv X pins σ' H' s7∧tn i s7.heap∧(∀ b∈fp,H' b=none)∧W i m σ' H':=fun {σ7 H7} I7 n7=>by
   obtain⟨m',hm,w7⟩:=hN σ7 H7 n7
   refine⟨m',hm,i+1,σ7,H7,I7.unpinned,T.keep _ _ _ st5 fun b hb o e=>(I7.pin (b,o) (List.mem_append_right _ (List.mem_append_right _ (tG hb e)))).1,fun b hb=>?_,w7⟩
   obtain⟨o,e,d⟩:=T.obj _ _ st5 b hb
   exact(I7.pin (b,o) (List.mem_append_right _ (List.mem_append_right _ (tG hb e)))).2.1
  cases f with
  |next=>obtain⟨σ7,H7,I7,n7⟩:=q7;exact again I7 n7
  |cont=>obtain⟨σ7,H7,I7,n7⟩:=q7;exact again I7 n7
  |brk=>obtain⟨σ7,H7,I7,q7⟩:=q7;exact⟨σ7,H7,I7.unpinned,q7⟩
  |ret v=>obtain⟨x7,σ7,H7,I7,r7,q7⟩:=q7;exact⟨x7,σ7,H7,I7.unpinned,r7,q7⟩
end
theorem z3p {K:PySem.W.Frag}{a:Addr}{xs:List V}{g:TG}{tb:TS}{D:Ends}{σ:St}{H:Hp} (Pv:Nat→St→Hp→Prop) (h0:Pv 0 σ H) (hl:∀ i σ H,i≤xs.length→Pv i σ H→SqL K H a xs)
  (hs:∀ i x σ H,xs[i]?=some x→Pv i σ H→g x σ H fun σ2 H2=>tb { D with nx:=Pv (i+1),ct:=Pv (i+1),bk:=D.nx } σ2 H2) (hd:∀ σ H,Pv xs.length σ H→D.nx σ H) :
  ∃ W:Nat→Nat→St→Hp→Prop,(∃ m,W 0 m σ H)∧∀ i m σ H,W i m σ H →
   ((Itl K a).stop i H∧D.nx σ H)∨((Itl K a).go i H∧∃ N:St→Hp→Prop,(∀ σ' H',N σ' H'→∃ m',m'<m∧W (i+1) m' σ' H')∧∀ x H',(Itl K a).yld i H x H'→g x σ H' fun σ2 H2=>tb { D with nx:=N,ct:=N,bk:=D.nx } σ2 H2):=by
 refine⟨fun i m σ H=>m=xs.length - i∧i≤xs.length∧Pv i σ H,⟨xs.length,by simp,Nat.zero_le _,h0⟩,?_⟩
 rintro i m σ H ⟨rfl,hi,p⟩
 have q:=hl i σ H hi p
 by_cases hlt:i<xs.length
 ·refine .inr ⟨⟨xs,xs[i],q,by simp[hlt]⟩,Pv (i+1),fun σ' H' p'=>⟨xs.length - (i+1),by omega,rfl,hlt,p'⟩,fun x H' y=>?_⟩
  obtain⟨e,y⟩:=y
  subst e
  exact hs i x σ _ (y xs q) p
 ·have e:i=xs.length:=by omega
  subst e
  exact .inl ⟨⟨xs,q,Nat.le_refl _⟩,hd σ H p⟩
theorem y2V {K:PySem.W.Frag}{a:Addr}{xs:List V}{g:TG}{tb:TS}{D:Ends}{σ:St}{H:Hp} (Pv:Nat→St→Hp→Prop) (h0:Pv 0 σ H) (hl:∀ i σ H,i≤xs.length→Pv i σ H→SqT K H a xs)
  (hs:∀ i x σ H,xs[i]?=some x→Pv i σ H→g x σ H fun σ2 H2=>tb { D with nx:=Pv (i+1),ct:=Pv (i+1),bk:=D.nx } σ2 H2) (hd:∀ σ H,Pv xs.length σ H→D.nx σ H) :
  ∃ W:Nat→Nat→St→Hp→Prop,(∃ m,W 0 m σ H)∧∀ i m σ H,W i m σ H →
   ((Itt K a).stop i H∧D.nx σ H)∨((Itt K a).go i H∧∃ N:St→Hp→Prop,(∀ σ' H',N σ' H'→∃ m',m'<m∧W (i+1) m' σ' H')∧∀ x H',(Itt K a).yld i H x H'→g x σ H' fun σ2 H2=>tb { D with nx:=N,ct:=N,bk:=D.nx } σ2 H2):=by
 refine⟨fun i m σ H=>m=xs.length - i∧i≤xs.length∧Pv i σ H,⟨xs.length,by simp,Nat.zero_le _,h0⟩,?_⟩
 rintro i m σ H ⟨rfl,hi,p⟩
 have q:=hl i σ H hi p
 by_cases hlt:i<xs.length
 ·refine .inr ⟨⟨xs,xs[i],q,by simp[hlt]⟩,Pv (i+1),fun σ' H' p'=>⟨xs.length - (i+1),by omega,rfl,hlt,p'⟩,fun x H' y=>?_⟩
  obtain⟨e,y⟩:=y
  subst e
  exact hs i x σ _ (y xs q) p
 ·have e:i=xs.length:=by omega
  subst e
  exact .inl ⟨⟨xs,q,Nat.le_refl _⟩,hd σ H p⟩
theorem z2q {lo:Int}{n:Nat}{g:TG}{tb:TS}{D:Ends}{σ:St}{H:Hp} (Pv:Nat→St→Hp→Prop) (h0:Pv 0 σ H)
  (hs:∀ i σ H,i<n→Pv i σ H→g (.int (lo+i)) σ H fun σ2 H2=>tb { D with nx:=Pv (i+1),ct:=Pv (i+1),bk:=D.nx } σ2 H2) (hd:∀ σ H,Pv n σ H→D.nx σ H) :
  ∃ W:Nat→Nat→St→Hp→Prop,(∃ m,W 0 m σ H)∧∀ i m σ H,W i m σ H →
   ((Itr lo n).stop i H∧D.nx σ H)∨((Itr lo n).go i H∧∃ N:St→Hp→Prop,(∀ σ' H',N σ' H'→∃ m',m'<m∧W (i+1) m' σ' H')∧∀ x H',(Itr lo n).yld i H x H'→g x σ H' fun σ2 H2=>tb { D with nx:=N,ct:=N,bk:=D.nx } σ2 H2):=by
 refine⟨fun i m σ H=>m=n - i∧i≤n∧Pv i σ H,⟨n,by simp,Nat.zero_le _,h0⟩,?_⟩
 rintro i m σ H ⟨rfl,hi,p⟩
 by_cases hlt:i<n
 ·refine .inr ⟨hlt,Pv (i+1),fun σ' H' p'=>⟨n - (i+1),by omega,rfl,hlt,p'⟩,fun x H' y=>?_⟩
  obtain⟨e,y⟩:=y
  subst e y
  exact hs i σ _ hlt p
 ·have e:i=n:=by omega
  subst e
  exact .inl ⟨Nat.le_refl _,hd σ H p⟩
end L2
namespace L2
open PySem PySem.Spec PyProof.Rows
abbrev R2:=V→V→Hp→VK→Prop
def OpR(X:Cx)(f:Value→Value→Sem Value)(r:R2):Prop:=
 ∀(pins:List (Addr×Obj)) (s:Shared) (σ:St) (H:Hp) (x y:V) (v u:Value) (Q:VK),Inv X pins σ H s→RelV x v→RelV y u→r x y H Q →
  wpAny (model X.prog X.w) X.A (f v u) (EP X pins σ Q) X.xe s
def UnR(X:Cx)(f:Value→Sem Value)(r:V→Hp→VK→Prop):Prop:=
 ∀(pins:List (Addr×Obj)) (s:Shared) (σ:St) (H:Hp) (x:V) (v:Value) (Q:VK),Inv X pins σ H s→RelV x v→r x H Q →
  wpAny (model X.prog X.w) X.A (f v) (EP X pins σ Q) X.xe s
def pI(X:Cx)(f:Value)(r:List V→Hp→VK→Prop):Prop:=
 ∀(pins:List (Addr×Obj)) (s:Shared) (σ:St) (H:Hp) (xs:List V) (us:List Value) (Q:VK),Inv X pins σ H s→Vals xs us→r xs H Q →
  wpAny (model X.prog X.w) X.A (call f us) (EP X pins σ Q) X.xe s
def TruR(X:Cx)(r:V→Hp→(Bool→Hp→Prop)→Prop):Prop:=
 ∀(pins:List (Addr×Obj)) (s:Shared) (σ:St) (H:Hp) (x:V) (v:Value) (Q:Bool→Hp→Prop),Inv X pins σ H s→RelV x v→r x H Q →
  wpAny (model X.prog X.w) X.A (truthy v) (TP X pins σ Q) X.xe s
def tOp(r:R2)(ta tb:TE):TE:=fun σ H Q=>ta σ H fun x H1=>tb σ H1 fun y H2=>r x y H2 Q
def tUn(r:V→Hp→VK→Prop)(ta:TE):TE:=fun σ H Q=>ta σ H fun x H1=>r x H1 Q
def rI(C:Int→Int→Prop)(g:Int→Int→V):R2:=fun x y H Q=>∃ i j,x=.int i∧y=.int j∧C i j∧Q (g i j) H
def rI0(g:Int→Int→V):R2:=fun x y H Q=>∃ i j,x=.int i∧y=.int j∧Q (g i j) H
def rU(g:Int→V):V→Hp→VK→Prop:=fun x H Q=>∃ i,x=.int i∧Q (g i) H
section
variable{X:Cx}{a b c:Expr}{ta tb tc:TE}{pos:Pos}
theorem binT (ha:PE X a ta) (hb:PE X b tb) {pins:List (Addr×Obj)}{s:Shared}{σ:St}{H:Hp}{R:V→V→Hp→Prop} (I:Inv X pins σ H s)
  (h:ta σ H fun x H1=>tb σ H1 fun y H2=>R x y H2) {Q:Value→Shared→Prop}{f:Value→Value→Sem Value}
  (hf:∀ v u s2 x y H2,Inv X pins σ H2 s2→RelV x v→RelV y u→R x y H2→wpAny (model X.prog X.w) X.A (f v u) Q X.xe s2) :
  wpAny (model X.prog X.w) X.A (eval a X.env) (fun v s₁=>wpAny (model X.prog X.w) X.A (eval b X.env) (fun u s₂=>wpAny (model X.prog X.w) X.A (f v u) Q X.xe s₂) X.xe s₁) X.xe s:=by
 refine thn (ha pins s σ H _ I h) fun v s1 h00=>?_
 obtain⟨x,H1,I1,r1,q1⟩:=h00
 refine thn (hb pins s1 σ H1 _ I1 q1) fun u s2 h00=>?_
 obtain⟨y,H2,I2,r2,q2⟩:=h00
 exact hf v u s2 x y H2 I2 r1 r2 q2
theorem aT{op:Operator}{r:R2}(ho:OpR X (binaryOp op) r)(ha:PE X a ta)(hb:PE X b tb):PE X (.BinOp a op b pos) (tOp r ta tb):=by
 intro pins s σ H Q I h
 exact wpAny_BinOp (binT ha hb I h fun v u s2 x y H2 I2 rx ry q=>ho pins s2 σ H2 x y v u Q I2 rx ry q)
theorem z9H{op:UnaryOp}{r:V→Hp→VK→Prop}(ho:UnR X (unaryOp op) r)(ha:PE X a ta):PE X (.UnaryOp op a pos) (tUn r ta):=by
 intro pins s σ H Q I h
 refine UnaryOp_ (thn (ha pins s σ H _ I h) fun v s1 h00=>?_)
 obtain⟨x,H1,I1,r1,q1⟩:=h00
 exact ho pins s1 σ H1 x v Q I1 r1 q1
theorem opI {f:Value→Value→Sem Value}{C:Int→Int→Prop}{g:Int→Int→Int}
  (rule:∀(i j:Int) (t u:Tok) (s:Shared) (Q:Value→Shared→Prop) (E:Value→Shared→Prop),C i j→Q (.int (g i j) s.toks) { s with toks:=s.toks+1 }→wpAny (model X.prog X.w) X.A (f (.int i t) (.int j u)) Q E s) :
  OpR X f (rI C fun i j=>.int (g i j)):=by
 intro pins s σ H x y v u Q I rx ry h
 obtain⟨i,j,rfl,rfl,hc,q⟩:=h
 obtain⟨t,rfl⟩:=rx
 obtain⟨t',rfl⟩:=ry
 exact rule i j t t' s _ _ hc ⟨.int (g i j),H,I.tok _,⟨_,rfl⟩,q⟩
theorem nF {f:Value→Value→Sem Value}{g:Int→Int→Int}
  (rule:∀(i j:Int) (t u:Tok) (s:Shared) (Q:Value→Shared→Prop) (E:Value→Shared→Prop),Q (.int (g i j) s.toks) { s with toks:=s.toks+1 }→wpAny (model X.prog X.w) X.A (f (.int i t) (.int j u)) Q E s) :
  OpR X f (rI0 fun i j=>.int (g i j)):=by
 intro pins s σ H x y v u Q I rx ry h
 obtain⟨i,j,rfl,rfl,q⟩:=h
 obtain⟨t,rfl⟩:=rx
 obtain⟨t',rfl⟩:=ry
 exact rule i j t t' s _ _ ⟨.int (g i j),H,I.tok _,⟨_,rfl⟩,q⟩
theorem qD {f:Value→Value→Sem Value}{g:Int→Int→Bool}
  (rule:∀(i j:Int) (t u:Tok) (s:Shared) (Q:Value→Shared→Prop) (E:Value→Shared→Prop),Q (.bool (g i j)) s→wpAny (model X.prog X.w) X.A (f (.int i t) (.int j u)) Q E s) :
  OpR X f (rI0 fun i j=>.bl (g i j)):=by
 intro pins s σ H x y v u Q I rx ry h
 obtain⟨i,j,rfl,rfl,q⟩:=h
 obtain⟨t,rfl⟩:=rx
 obtain⟨t',rfl⟩:=ry
 exact rule i j t t' s _ _ ⟨.bl (g i j),H,I,rfl,q⟩
def CPow(i j:Int):Prop:=0≤j∧j≤1000000∧i.natAbs<2 ^ 64
def CMul(i j:Int):Prop:=(-(2 ^ 64)<i∧i<2 ^ 64)∨(-(2 ^ 64)<j∧j<2 ^ 64)
theorem CMul.ok{i j:Int}(h:CMul i j):IntMulOk i j:=by
 rcases h with ⟨h1,h2⟩|⟨h1,h2⟩
 ·exact .of_left (intBits_le_64 h1 h2)
 ·exact .of_right (intBits_le_64 h1 h2)
theorem z5a(k:Nat):(0:Int)≤2 ^ k:=by
 rw[two_pow_cast]
 exact Int.natCast_nonneg _
theorem fK:OpR X (binaryOp .Add) (rI0 fun i j=>.int (i+j)):=nF fun _ _ _ _ _ _ _ q=>add_int q
theorem pB:OpR X (binaryOp .Sub) (rI0 fun i j=>.int (i - j)):=nF fun _ _ _ _ _ _ _ q=>sub_int q
theorem y8k:OpR X (binaryOp .Mult) (rI CMul fun i j=>.int (i * j)):=opI fun _ _ _ _ _ _ _ hc q=>mul_int q hc.ok
theorem lW:OpR X (binaryOp .LShift) (rI CPow fun i j=>.int (i * 2 ^ j.toNat)):=opI fun _ _ _ _ _ _ _ hc q=>lshift_int_small hc.1 hc.2.1 hc.2.2 q
theorem jU:OpR X (binaryOp .RShift) (rI (fun _ j=>0≤j) fun i j=>.int (i / 2 ^ j.toNat)):=opI fun i j _ _ _ _ _ hc q=>
 rshift_int hc (by rw[Int.fdiv_eq_ediv_of_nonneg i (z5a _)];exact q)
theorem fL:OpR X (binaryOp .BitAnd) (rI0 fun i j=>.int (Builtin.bitAnd i j)):=nF fun _ _ _ _ _ _ _ q=>and_int q
theorem z9A:OpR X (binaryOp .BitOr) (rI0 fun i j=>.int (Builtin.bitOr i j)):=nF fun _ _ _ _ _ _ _ q=>or_int q
theorem y8l:OpR X (binaryOp .BitXor) (rI0 fun i j=>.int (Builtin.bitXor i j)):=nF fun _ _ _ _ _ _ _ q=>xor_int q
theorem unI {f:Value→Sem Value}{g:Int→Int}
  (rule:∀(i:Int) (t:Tok) (s:Shared) (Q:Value→Shared→Prop) (E:Value→Shared→Prop),Q (.int (g i) s.toks) { s with toks:=s.toks+1 }→wpAny (model X.prog X.w) X.A (f (.int i t)) Q E s) :
  UnR X f (rU fun i=>.int (g i)):=by
 intro pins s σ H x v Q I rx h
 obtain⟨i,rfl,q⟩:=h
 obtain⟨t,rfl⟩:=rx
 exact rule i t s _ _ ⟨.int (g i),H,I.tok _,⟨_,rfl⟩,q⟩
theorem y8O:UnR X (unaryOp .USub) (rU fun i=>.int (-i)):=unI fun _ _ _ _ _ q=>neg_int q
theorem y0G:UnR X (unaryOp .Invert) (rU fun i=>.int (Builtin.bitNot i)):=unI fun _ _ _ _ _ q=>invert_int q
end
def scal:V→V→Bool
 |.non,.non=>true|.non,.int _=>true|.int _,.non=>true|.non,.bl _=>true|.bl _,.non=>true|.non,.str _=>true|.str _,.non=>true
 |.int _,.int _=>true|.bl _,.bl _=>true|.str _,.str _=>true|.byt _,.byt _=>true
 |.int _,.str _=>true|.str _,.int _=>true|.bl _,.str _=>true|.str _,.bl _=>true
 |_,_=>false
def rEq:R2:=fun x y H Q=>scal x y=true∧Q (.bl (decide (x=y))) H
theorem y2M{i j:Int}:decide (V.int i=V.int j)=(i==j):=by
 rw[Bool.eq_iff_iff]
 simp
theorem y7w{i j:Bool}:decide (V.bl i=V.bl j)=(i==j):=by
 rw[Bool.eq_iff_iff]
 simp
theorem y2N{i j:Str}:decide (V.str i=V.str j)=(i==j):=by
 rw[Bool.eq_iff_iff]
 simp
theorem y2L{i j:Array UInt8}:decide (V.byt i=V.byt j)=(i.toList==j.toList):=by
 rw[Bool.eq_iff_iff]
 cases i
 cases j
 simp
section
variable{X:Cx}{a b c:Expr}{ta tb tc:TE}{pos:Pos}
theorem dJ{pins:List (Addr×Obj)}{σ:St}{H:Hp}{s:Shared}{Q:VK}{k k':Bool}(I:Inv X pins σ H s)(q:Q (.bl k) H)(e:k=k'):EP X pins σ Q (.bool k') s:=by
 subst e
 exact⟨.bl k,H,I,rfl,q⟩
theorem fV:OpR X (compareOp .Eq) rEq:=by
 intro pins s σ H x y v u Q I rx ry h
 obtain⟨hs,q⟩:=h
 cases x with
 |non=>
  cases rx
  cases y with
  |non=>cases ry;exact PySem.EqNone.eq_none_none (dJ I q (by simp))
  |bl j=>cases ry;exact PySem.EqNone.eq_none_bool (dJ I q (by simp))
  |int j=>obtain⟨t',rfl⟩:=ry;exact PySem.EqNone.eq_none_int (dJ I q (by simp))
  |str j=>obtain⟨t',rfl⟩:=ry;exact PySem.EqNone.eq_none_str (dJ I q (by simp))
  |_=>exact absurd (show false=true from hs) Bool.false_ne_true
 |bl i=>
  cases rx
  cases y with
  |non=>cases ry;exact PySem.EqNone.eq_bool_none (dJ I q (by simp))
  |bl j=>cases ry;exact eq_bool (dJ I q y7w)
  |str j=>obtain⟨t',rfl⟩:=ry;exact PySem.EqMixed.eq_bool_str (dJ I q (by simp))
  |_=>exact absurd (show false=true from hs) Bool.false_ne_true
 |int i=>
  obtain⟨t,rfl⟩:=rx
  cases y with
  |non=>cases ry;exact PySem.EqNone.eq_int_none (dJ I q (by simp))
  |int j=>obtain⟨t',rfl⟩:=ry;exact eq_int (dJ I q y2M)
  |str j=>obtain⟨t',rfl⟩:=ry;exact PySem.EqMixed.eq_int_str (dJ I q (by simp))
  |_=>exact absurd (show false=true from hs) Bool.false_ne_true
 |str i=>
  obtain⟨t,rfl⟩:=rx
  cases y with
  |non=>cases ry;exact PySem.EqNone.eq_str_none (dJ I q (by simp))
  |bl j=>cases ry;exact PySem.EqMixed.eq_str_bool (dJ I q (by simp))
  |int j=>obtain⟨t',rfl⟩:=ry;exact PySem.EqMixed.eq_str_int (dJ I q (by simp))
  |str j=>obtain⟨t',rfl⟩:=ry;exact eq_str (dJ I q y2N)
  |_=>exact absurd (show false=true from hs) Bool.false_ne_true
 |byt i=>
  obtain⟨t,rfl⟩:=rx
  cases y with
  |byt j=>obtain⟨t',rfl⟩:=ry;exact PySem.W.eq_bytes (dJ I q y2L)
  |_=>exact absurd (show false=true from hs) Bool.false_ne_true
 |_=>cases y <;> exact absurd (show false=true from hs) Bool.false_ne_true
theorem pY:OpR X (compareOp .Lt) (rI0 fun i j=>.bl (decide (i<j))):=qD fun _ _ _ _ _ _ _ q=>lt_int q
theorem z9z:OpR X (compareOp .LtE) (rI0 fun i j=>.bl (decide (i≤j))):=qD fun _ _ _ _ _ _ _ q=>le_int q
theorem z9y:OpR X (compareOp .Gt) (rI0 fun i j=>.bl (decide (j<i))):=qD fun _ _ _ _ _ _ _ q=>gt_int q
theorem z9x:OpR X (compareOp .GtE) (rI0 fun i j=>.bl (decide (j≤i))):=qD fun _ _ _ _ _ _ _ q=>ge_int q
theorem y8j:OpR X (compareOp .Is) (fun x y H Q=>y=.non∧Q (.bl (decide (x=.non))) H):=by
 intro pins s σ H x y v u Q I rx ry h
 obtain⟨rfl,q⟩:=h
 cases ry
 refine is_none_gen (dJ I q ?_)
 cases x <;> first
  |(cases rx;rfl)
  |(obtain⟨t,rfl⟩:=rx;rfl)
theorem cA(b:Expr){op:CmpOp}(h:op≠.In:=by decide)(h2:op≠.NotIn:=by decide):behindInMarks op b=false:=by
 have e1:(op==CmpOp.In)=false:=by cases op <;> first|rfl|exact absurd rfl h
 have e2:(op==CmpOp.NotIn)=false:=by cases op <;> first|rfl|exact absurd rfl h2
 cases b <;> simp[behindInMarks,e1,e2]
theorem lP{op:CmpOp}{r:R2}(ho:OpR X (compareOp op) r)(ha:PE X a ta)(hb:PE X b tb)(hm:behindInMarks op b=false):PE X (.Compare a [op] [b] pos) (tOp r ta tb):=by
 intro pins s σ H Q I h
 exact wpAny_Compare1 (binT ha hb I h fun v u s2 x y H2 I2 rx ry q=>ho pins s2 σ H2 x y v u Q I2 rx ry q) hm
def x5H(t:TE):TT:=fun σ H Q=>t σ H fun x H'=>∃ k,x=.bl k∧Q k H'
theorem cQ{op:CmpOp}{r:R2}(ho:OpR X (compareOp op) r)(ha:PE X a ta)(hb:PE X b tb)(hm:behindInMarks op b=false):PT X (.Compare a [op] [b] pos) (x5H (tOp r ta tb)):=by
 intro pins s σ H Q I h
 refine wpAny_isTrue_Compare1 (thn (ha pins s σ H _ I h) fun v s1 h00=>?_) hm
 obtain⟨x,H1,I1,r1,q1⟩:=h00
 refine thn (hb pins s1 σ H1 _ I1 q1) fun u s2 h00=>?_
 obtain⟨y,H2,I2,r2,q2⟩:=h00
 refine thn (ho pins s2 σ H2 x y v u _ I2 r1 r2 q2) fun c s3 h00=>?_
 obtain⟨z,H3,I3,r3,k,e,q3⟩:=h00
 subst e
 cases r3
 exact wpAny_truthy_bool ⟨H3,I3,q3⟩
def nB(K:PySem.W.Frag)(x:V)(H:Hp)(k:Bool):Prop:=
 match x with
 |.non=>k=false
 |.bl b=>k=b
 |.int i=>k=(i != 0)
 |.str y=>y.length≤sizeLine∧k=((y.length:Int) != 0)
 |.byt y=>y.size≤sizeLine∧k=((y.size:Int) != 0)
 |.ref p=>(∃ xs,SqL K H p xs∧k=!xs.isEmpty)∨(∃ xs,SqT K H p xs∧k=!xs.isEmpty)∨∃ kvs,H p=some (.dK kvs)∧k=!kvs.isEmpty
 |_=>False
theorem z4z{κ:Type}{kvs:List (κ×V)}{vs:List (κ×Value)}(r:KV kvs vs):(!vs.isEmpty)=!kvs.isEmpty:=by
 cases r <;> rfl
theorem z1E{xs:List V}{its:List Value}(r:Vals xs its):(!its.toArray.isEmpty)=!xs.isEmpty:=by
 cases r <;> simp
theorem lV:(sizeLine:Nat)<2 ^ 63:=by rw[sizeLine_eq];decide
theorem y0w:TruR X (fun x H Q=>∃ k,nB X.K x H k∧Q k H):=by
 intro pins s σ H x v Q I rx h
 obtain⟨k,e,q⟩:=h
 have hl:=lV
 have hs:sizeLine=16777216:=sizeLine_eq
 cases x with
 |non=>
  cases rx
  have e':k=false:=e
  subst e'
  exact truthy_none ⟨H,I,q⟩
 |bl b=>
  cases rx
  have e':k=b:=e
  subst e'
  exact wpAny_truthy_bool ⟨H,I,q⟩
 |int i=>
  obtain⟨t,rfl⟩:=rx
  have e':k=(i != 0):=e
  subst e'
  exact PySem.P.truthy_int ⟨H,I,q⟩
 |str y=>
  obtain⟨t,rfl⟩:=rx
  obtain⟨hy,e'⟩:y.length≤sizeLine∧k=((y.length:Int) != 0):=e
  subst e'
  exact PySem.P.truthy_str (by omega) ⟨H,I.tok _,q⟩
 |byt y=>
  obtain⟨t,rfl⟩:=rx
  obtain⟨hy,e'⟩:y.size≤sizeLine∧k=((y.size:Int) != 0):=e
  subst e'
  exact PySem.W.truthy_bytes (by omega) ⟨H,I.tok _,q⟩
 |ref p=>
  cases rx
  have e':(∃ xs,SqL X.K H p xs∧k=!xs.isEmpty)∨(∃ xs,SqT X.K H p xs∧k=!xs.isEmpty)∨∃ kvs,H p=some (.dK kvs)∧k=!kvs.isEmpty:=e
  rcases e' with ⟨xs,hx,e'⟩|⟨xs,hx,e'⟩|⟨kvs,hx,e'⟩
  ·subst e'
   obtain⟨its,r,pl,hz⟩:=I.list hx
   have hlen:=r.length
   exact wpAny_truthy_list pl.isList (by simp only[List.size_toArray];omega) ⟨H,I.tok _,by rw[z1E r];exact q⟩
  ·subst e'
   obtain⟨its,r,pl,hz⟩:=I.tuple hx
   have hlen:=r.length
   exact truthy_tuple pl (by simp only[List.size_toArray];omega) ⟨H,I.tok _,by rw[z1E r];exact q⟩
  ·subst e'
   obtain⟨hz,hS,vs,r,m⟩:kvs.length≤sizeLine∧(p==sysModules)=false∧∃ vs,KV kvs vs∧s.heap.DictOf (cN X.prog X.w) p vs:=I.hok p _ hx
   have hlen:kvs.length=vs.length:=Paired.length r
   exact wpAny_truthy_dict hS m (by omega) ⟨H,I.tok _,by rw[z4z r];exact q⟩
 |_=>exact(show False from e).elim
theorem uU(ha:PE X a ta)(he:∀ whole,isTrue a X.env whole=(do let v ← whole;standAt a.pos;holding [v] (truthy v))) :
  PT X a (fun σ H Q=>ta σ H fun x H'=>∃ k,nB X.K x H' k∧Q k H'):=by
 intro pins s σ H Q I h
 refine isTrue_plain (thn (ha pins s σ H _ I h) fun v s1 h00=>?_) (he _)
 obtain⟨x,H1,I1,r1,q1⟩:=h00
 exact y0w pins s1 σ H1 x v Q I1 r1 q1
theorem y0H{x:V}{us:List Value}(r:Vals [x] us):∃ u,us=[u]∧RelV x u:=by
 cases r with
 |cons r1 r2=>cases r2;exact⟨_,rfl,r1⟩
end
end L2
namespace L2
open PySem PySem.Spec PyProof.Rows
structure ObjM(h:Heap)(x dx C:Addr)(mA:Str→Option Value):Prop where
 obj:h.get? x=some (PySem.W.instObj C dx)
 ns:h.Ns1 dx mA
 ne:dx≠x
theorem z6M{h:Heap}{dx:Addr}{mA:Str→Option Value}(n:h.Ns1 dx mA):∃ od,h.get? dx=some od∧∀ name,PySem.W.lookIn name od=some (mA name):=by
 obtain⟨o,es,ep,ho,hd,hk,_,hm⟩:=n
 refine⟨o,ho,fun name=>?_⟩
 have e:=hm name
 unfold nsFind findBy at e
 rw[←Array.find?_toList] at e
 unfold PySem.W.lookIn
 rw[hd]
 dsimp only
 split
 ·rename_i y q
  rw[q] at e
  exact congrArg some e
 ·rename_i q
  rw[q] at e
  have a:es.toList.any (·.refKey)=false:=by
   rw[List.any_eq_false]
   intro y hy
   obtain⟨z,t,hkey⟩:=hk y (Array.mem_toList_iff.mp hy)
   simp[DictEntry.refKey,hkey]
  have a':¬ es.toList.any (·.refKey)=true:=by rw[a];exact Bool.false_ne_true
  rw[if_neg a']
  exact congrArg some e
theorem ObjM.look{h:Heap}{x dx C:Addr}{mA:Str→Option Value}(I:ObjM h x dx C mA):∃ od,PySem.W.InstAt h x (PySem.W.instObj C dx) C (some od)∧∀ name,PySem.W.lookIn name od=some (mA name):=
 let ⟨od,ho,hl⟩:=z6M I.ns
 ⟨od,⟨I.obj,rfl,rfl,ho⟩,hl⟩
section
variable{prog:Program}{w:World}{A:Around}{E:Value→Shared→Prop}{s:Shared}{K:PySem.W.Frag}{x dx C f:Addr}{mA:Str→Option Value}{name:Str}{v:Value}
theorem y2W {expr:Bool}{Q:Value→Shared→Prop} (X:K.In s.heap) (I:ObjM s.heap x dx C mA) (hg:PySem.W.plainGet K C name=true) (hh:PySem.W.hasDictIn K C=true)
  (ha:PySem.W.findIn K (.ref C) name=some none) (hv:mA name=some v) (hv':PySem.W.handedIn v=true) (h:Q v { s with toks:=s.toks+1 }) :
  wpAny (model prog w) A (getAttr (.ref x) name expr) Q E s:=by
 obtain⟨od,J,hl⟩:=I.look
 exact PySem.W.get_value X J (PySem.W.plainGet_of hg).1 (PySem.W.findObj_own hh ha rfl (by rw[hl,hv])) hv' h
theorem z8Z {pl:Sem Bool}{Q:Value×List Value→Shared→Prop} (X:K.In s.heap) (I:ObjM s.heap x dx C mA) (hg:PySem.W.plainGet K C name=true)
  (hf:PySem.W.findIn K (.ref C) name=some (some (.ref f))) (ht:PySem.W.isFn K (.ref f)=true) (hv:mA name=none) (h:Q (.ref f,[.ref x]) s) :
  wpAny (model prog w) A (getMethod (.ref x) name pl) Q E s:=by
 obtain⟨od,J,hl⟩:=I.look
 exact PySem.W.method_fn X J (PySem.W.plainGet_of hg).1 (PySem.W.plainGet_of hg).2 hf (beq_iff_eq.mp ht) (by show (PySem.W.lookIn name od).map (·.isSome)=some false;rw[hl,hv];rfl) h
theorem y3R {ns:List Str}{Q:Unit→Shared→Prop} (X:K.In s.heap) (I:ObjM s.heap x dx C mA)
  (hs:PySem.W.findIn K (.ref C) "__setattr__"=some (some (.builtin "object.__setattr__"))) (hp:PySem.W.plainOver K C=true) (ht:PySem.W.takerIn K C name=some none) (hh:PySem.W.hasDictIn K C=true)
  (hw:PySem.Within mA ns) (hsz:ns.length≤sizeLine)
  (h:∀ h',ObjM h' x dx C (fun y=>if y=name then some v else mA y)→Heap.SameBut dx s.heap h'→Q () { s with heap:=h',toks:=s.toks+2 }) :
  wpAny (model prog w) A (setAttr (.ref x) name v) Q E s:=by
 obtain⟨od,J,hl⟩:=I.look
 refine PySem.W.set_plain X J hs (PySem.W.osa_open (s:={ s with toks:=s.toks+1 }) (r:=none) X J hp ht fun b=>?_)
 obtain⟨cd,hc,hd'⟩:=PySem.W.any_some hh
 have hx:s.heap.get? x=some ⟨.ref C,some dx,.plain,#[]⟩:=I.obj
 refine wpAny_bind (wpAny_pure (wpAny_bind (wpAny_bind (wpAny_loadPart hx (wpAny_bind (PySem.W.Looks.here (s:={ s with toks:=s.toks+1 }) (PySem.W.looks_clsIn X hc) ?_))))))
 rw[hd']
 refine wpAny_pure (a:=some dx) (wpAny_bind (wpAny_pure (wpAny_bind ?_)))
 refine wpAny_nsSet1 (s:={ s with toks:=s.toks+1 }) I.ns fun h' hn2 hs2=>?_
 obtain⟨oD,esD,epD,hoD,hdD,hcD⟩:=hn2.count (PySem.Within.cons name v hw)
 refine wpAny_bind (wpAny_lookBehind hoD (by rw[hdD];exact pastItsLine_dict (Nat.le_trans hcD (by rw[List.length_cons];omega))) ?_)
 exact wpAny_pure (h _ ⟨(hs2.2 _ (Ne.symm I.ne)).trans I.obj,hn2,I.ne⟩ hs2)
theorem z9k {R:Result→Shared→Prop}{vs:List Value}{kw:List (Str×Value)} (X:K.In s.heap) (hm:PySem.W.makesIn K C=true)
  (hi:PySem.W.findIn K (.ref C) "__init__"=some (some (.ref f))) (hf:PySem.W.typeIn K (.ref f)=some (.type "function"))
  (h:codeAny (model prog w) (A.under (.builtin "type.__call__" ⟨.ref C::vs,kw⟩)) (.call (.ref f) ⟨.ref (s.heap.objs.size+1)::vs,kw⟩) (PySem.W.InitBack (s.heap.objs.size+1) R)
   { s with heap:=(s.heap.push PySem.W.emptyDict).push (PySem.W.instObj C s.heap.objs.size) }) :
  codeAny (model prog w) A (.call (.ref C) ⟨vs,kw⟩) R s:=by
 obtain⟨hh,g,d,t,os⟩:=s
 exact PySem.W.make_core (PySem.W.makes_of X hm) (PySem.W.looks_findIn X hi) (fun self=>PySem.W.bind_fn X self hf) (.inl rfl) h
end
def aZ(f:Str)(v:V):List (Str×V)→List (Str×V)
 |[]=>[(f,v)]
 |(g,x)::r=>if g=f then (g,v)::r else (g,x)::aZ f v r
theorem z0Q(f g:Str)(v:V):∀ fs:List (Str×V),(aZ f v fs).lookup g=if g=f then some v else fs.lookup g
 |[]=>by
  show List.lookup g [(f,v)]=_
  by_cases h:g=f
  ·have hb:(g==f)=true:=beq_iff_eq.mpr h
   simp only[List.lookup,hb,if_pos h]
  ·have hb:(g==f)=false:=beq_eq_false_iff_ne.mpr h
   simp only[List.lookup,hb,if_neg h]
 |(k,x)::r=>by
  have ih:=z0Q f g v r
  rw[show aZ f v ((k,x)::r)=(if k=f then (k,v)::r else (k,x)::aZ f v r) from rfl]
  by_cases hk:k=f
  ·rw[if_pos hk]
   by_cases h:g=k
   ·have hb:(g==k)=true:=beq_iff_eq.mpr h
    simp only[List.lookup,hb,if_pos (h.trans hk)]
   ·have hb:(g==k)=false:=beq_eq_false_iff_ne.mpr h
    simp only[List.lookup,hb,if_neg (fun e:g=f=>h (e.trans hk.symm))]
  ·rw[if_neg hk]
   by_cases h:g=k
   ·have hb:(g==k)=true:=beq_iff_eq.mpr h
    simp only[List.lookup,hb,if_neg (fun e:g=f=>hk (h.symm.trans e))]
   ·have hb:(g==k)=false:=beq_eq_false_iff_ne.mpr h
    simp only[List.lookup,hb]
    exact ih
theorem tV(f:Str)(v:V):∀ fs:List (Str×V),f∈(aZ f v fs).map (·.1)∧∀ g,g∈fs.map (·.1)→g∈(aZ f v fs).map (·.1)
 |[]=>⟨by simp[aZ],fun g h=>by simp at h⟩
 |(k,x)::r=>by
  obtain⟨i1,i2⟩:=tV f v r
  rw[show aZ f v ((k,x)::r)=(if k=f then (k,v)::r else (k,x)::aZ f v r) from rfl]
  by_cases hk:k=f
  ·rw[if_pos hk]
   subst hk
   exact⟨by simp,fun g h=>by simpa using h⟩
  ·rw[if_neg hk]
   refine⟨?_,fun g h=>?_⟩
   ·rw[List.map_cons]
    exact List.mem_cons_of_mem _ i1
   ·rw[List.map_cons] at h ⊢
    rcases List.mem_cons.mp h with e|e
    ·exact List.mem_cons.mpr (.inl e)
    ·exact List.mem_cons_of_mem _ (i2 g e)
theorem z0P(f:Str)(v:V):∀ fs:List (Str×V),(aZ f v fs).length≤fs.length+1
 |[]=>by simp[aZ]
 |(k,x)::r=>by
  have ih:=z0P f v r
  rw[show aZ f v ((k,x)::r)=(if k=f then (k,v)::r else (k,x)::aZ f v r) from rfl]
  by_cases hk:k=f
  ·rw[if_pos hk,List.length_cons,List.length_cons];omega
  ·rw[if_neg hk,List.length_cons,List.length_cons];omega
theorem RelO.some_of{v:V}{o:Option Value}(r:RelO (some v) o):∃ u,o=some u∧RelV v u:=by
 cases o with
 |none=>exact(show False from r).elim
 |some u=>exact⟨u,rfl,r⟩
theorem RelO.none_of{o:Option Value}(r:RelO none o):o=none:=by
 cases o with
 |none=>rfl
 |some u=>exact(show False from r).elim
theorem z6H{v:V}{u:Value}(r:RelV v u):PySem.W.handedIn u=true:=by
 cases v with
 |non=>cases (show u=Value.none from r);rfl
 |bl b=>cases (show u=Value.bool b from r);rfl
 |int i=>obtain⟨t,e⟩:=(show ∃ t,u=Value.int i t from r);cases e;rfl
 |str x=>obtain⟨t,e⟩:=(show ∃ t,u=Value.str x t from r);cases e;rfl
 |byt b=>obtain⟨t,e⟩:=(show ∃ t,u=Value.bytes b t from r);cases e;rfl
 |flt b=>obtain⟨t,e⟩:=(show ∃ t,u=Value.float b t from r);cases e;rfl
 |ref a=>cases (show u=Value.ref a from r);rfl
 |ty n=>cases (show u=Value.type n from r);rfl
section
variable{P:Program}{w:World}{H H':Hp}{h h':Heap}{a C dx:Addr}{fs fs':List (Str×V)}
theorem wB(hok:HOk P w H h)(e:H a=some (.ins C dx fs)):∃ mA,ObjM h a dx C mA∧(∀ f,RelO (fs.lookup f) (mA f))∧PySem.Within mA (fs.map (·.1))∧fs.length≤1000∧H dx=some (.own a):=by
 obtain⟨d,z,ne,ob,mA,n,r,q⟩:=(show ObjOk P w H h a (.ins C dx fs) from hok a _ e)
 exact⟨mA,⟨ob,n,ne⟩,r,q,z,d⟩
end
structure Cls(K:PySem.W.Frag)(C:Addr):Prop where
 pg:PySem.W.plainGet K C Str.empty=true
 hd:PySem.W.hasDictIn K C=true
 po:PySem.W.plainOver K C=true
 sa:PySem.W.findIn K (.ref C) "__setattr__"=some (some (.builtin "object.__setattr__"))
theorem Cls.get{K:PySem.W.Frag}{C:Addr}(c:Cls K C)(f:Str):PySem.W.plainGet K C f=true:=c.pg
def NoAttr(K:PySem.W.Frag)(C:Addr)(f:Str):Prop:=PySem.W.findIn K (.ref C) f=some none
theorem NoAttr.taker{K:PySem.W.Frag}{C:Addr}{f:Str}(n:NoAttr K C f):PySem.W.takerIn K C f=some none:=by
 unfold PySem.W.takerIn
 rw[show PySem.W.findIn K (.ref C) f=some none from n]
 rfl
structure Meth(K:PySem.W.Frag)(C:Addr)(m:Str)(f:Addr):Prop where
 at_:PySem.W.findIn K (.ref C) m=some (some (.ref f))
 fn:PySem.W.isFn K (.ref f)=true
 kp:PySem.W.keepIn K (.ref f)=true
section
variable{X:Cx}{pins:List (Addr×Obj)}{σ:St}{H:Hp}{s:Shared}{a C dx:Addr}{fs:List (Str×V)}{f:Str}{v:V}{A:Around}{E:Value→Shared→Prop}
theorem z1D {b:Bool}{Q:Value→Shared→Prop} (I:Inv X pins σ H s) (e:H a=some (.ins C dx fs)) (c:Cls X.K C) (n:NoAttr X.K C f) (l:fs.lookup f=some v)
  (h:∀ u s',Inv X pins σ H s'→RelV v u→Q u s'):wpAny (model X.prog X.w) A (getAttr (.ref a) f b) Q E s:=by
 obtain⟨mA,O,r,_,_,_⟩:=wB I.hok e
 obtain⟨u,hu,ru⟩:=RelO.some_of (v:=v) (o:=mA f) (by rw[←l];exact r f)
 exact y2W I.kIn O (c.get f) c.hd n hu (z6H ru) (h u _ (I.tok _) ru)
theorem tE {m:Str}{g:Addr}{pl:Sem Bool}{Q:Value×List Value→Shared→Prop} (I:Inv X pins σ H s) (e:H a=some (.ins C dx fs)) (c:Cls X.K C) (k:Meth X.K C m g) (l:fs.lookup m=none)
  (h:Q (.ref g,[.ref a]) s):wpAny (model X.prog X.w) A (getMethod (.ref a) m pl) Q E s:=by
 obtain⟨mA,O,r,_,_,_⟩:=wB I.hok e
 have hn:mA m=none:=RelO.none_of (by rw[←l];exact r m)
 exact z8Z I.kIn O (c.get m) k.at_ k.fn hn h
theorem z1K {y:V}{u:Value}{Q:Unit→Shared→Prop} (I:Inv X pins σ H s) (e:H a=some (.ins C dx fs)) (c:Cls X.K C) (n:NoAttr X.K C f) (hl:fs.length<1000) (ry:RelV y u)
  (h:∀ s',Inv X pins σ (upd H a (.ins C dx (aZ f y fs))) s'→Q () s'):wpAny (model X.prog X.w) A (setAttr (.ref a) f u) Q E s:=by
 obtain⟨mA,O,r,wi,_,ho⟩:=wB I.hok e
 have hz:(fs.map (·.1)).length≤sizeLine:=by rw[List.length_map,sizeLine_eq];omega
 refine y3R I.kIn O c.sa c.po n.taker c.hd wi hz fun h' O' sb=>h _ ?_
 have hd:∃ o,h'.get? dx=some o:=let ⟨o,_,_,e',_⟩:=O'.ns;⟨o,e'⟩
 refine I.write (x:=a) (e:=dx) (by rw[e];exact True.intro) (.inr ho) (fun b q hb z=>(sb.2 b hb).trans z) hd ?_
 refine⟨by rw[aC O.ne];exact ho,?_,O.ne,O'.obj,_,O'.ns,fun g=>?_,fun g hg=>?_⟩
 ·have:=z0P f y fs;omega
 ·show RelO ((aZ f y fs).lookup g) (if g=f then some u else mA g)
  rw[z0Q]
  by_cases q:g=f
  ·rw[if_pos q,if_pos q];exact ry
  ·rw[if_neg q,if_neg q];exact r g
 ·by_cases q:g=f
  ·rw[q];exact(tV f y fs).1
  ·refine(tV f y fs).2 g (wi g fun z=>hg ?_)
   show (if g=f then some u else mA g)=none
   rw[if_neg q];exact z
theorem Inv.made(I:Inv X pins σ H s):Inv X pins σ (upd (upd H s.heap.objs.size (.own (s.heap.objs.size+1))) (s.heap.objs.size+1) (.ins C s.heap.objs.size []))
  { s with heap:=(s.heap.push PySem.W.emptyDict).push (PySem.W.instObj C s.heap.objs.size) }:=by
 have e1:(s.heap.push PySem.W.emptyDict).get? s.heap.objs.size=some PySem.W.emptyDict:=Heap.get?_push_size s.heap rfl
 have e2:((s.heap.push PySem.W.emptyDict).push (PySem.W.instObj C s.heap.objs.size)).get? (s.heap.objs.size+1)=some (PySem.W.instObj C s.heap.objs.size):=by
  have:=Heap.get?_push_size (s.heap.push PySem.W.emptyDict) (o:=PySem.W.instObj C s.heap.objs.size) rfl
  rwa [Heap.size_push] at this
 have e3:(s.heap.push PySem.W.emptyDict).Ns s.heap.objs.size (fun _=>none):=⟨PySem.W.emptyDict,#[],_,e1,rfl,(fun e he=>absurd he (by simp)),fun _=>rfl⟩
 have I1:=I.laid (a:=s.heap.objs.size) (o:=.own (s.heap.objs.size+1)) (h':=s.heap.push PySem.W.emptyDict) (t':=s.toks) (fun b u q=>Heap.get?_push_of_some _ q) (Nat.le_refl _) ⟨_,e1⟩
 refine I1.laid (a:=s.heap.objs.size+1) (o:=.ins C s.heap.objs.size []) (t':=s.toks) (fun b u q=>Heap.get?_push_of_some _ q) (Nat.le_of_eq (Heap.size_push _ _)) ?_
 have ne:s.heap.objs.size≠s.heap.objs.size+1:=Nat.ne_of_lt (Nat.lt_succ_self _)
 refine⟨by rw[aC ne,aH],Nat.zero_le _,ne,e2,fun _=>none,(Heap.Ns1.of_empty e3).at fun o q=>Heap.get?_push_of_some _ q,fun _=>True.intro,fun y hy=>absurd rfl hy⟩
theorem y2C {prog:Program}{w:World}{env:Env}{e:Expr}{f:Str}{pos:Pos}{s:Shared}{Q:Value→Shared→Prop} (hb:attributeBase e f env (eval e env)=eval e env)
  (h:wpAny (model prog w) A (eval e env) (fun o s₁=>wpAny (model prog w) A (getAttr o f true) Q E s₁) E s):wpAny (model prog w) A (eval (.Attribute e f pos) env) Q E s:=
 Attribute_any_ h (by rw[arm_eval_Attribute,hb])
end
def qG(K:PySem.W.Frag)(ta:TE)(f:Str):TE:=fun σ H Q=>ta σ H fun x H1=>∃ a C dx fs v,x=.ref a∧H1 a=some (.ins C dx fs)∧Cls K C∧NoAttr K C f∧fs.lookup f=some v∧Q v H1
def sFld(K:PySem.W.Frag)(ta tv:TE)(f:Str):TS:=fun D σ H=>tv σ H fun y H1=>ta σ H1 fun x H2=>∃ a C dx fs,x=.ref a∧H2 a=some (.ins C dx fs)∧Cls K C∧NoAttr K C f∧fs.length<1000 ∧
 D.nx σ (upd H2 a (.ins C dx (aZ f y fs)))
def InOp(X:Cx)(op:Operator)(rd:V→V→Hp→VK→Prop):Prop:=
 ∀(pins:List (Addr×Obj)) (s:Shared) (σ:St) (H:Hp) (x y:V) (u v:Value) (Q:VK),Inv X pins σ H s→RelV x u→RelV y v→rd x y H Q→wpAny (model X.prog X.w) X.A (inplaceOp op u v) (EP X pins σ Q) X.xe s
def y3Q(K:PySem.W.Frag)(ta tv:TE)(rd:V→V→Hp→VK→Prop)(f:Str):TS:=fun D σ H=>ta σ H fun x H1=>∃ a C dx fs v,x=.ref a∧H1 a=some (.ins C dx fs)∧Cls K C∧NoAttr K C f∧fs.lookup f=some v ∧
 tv σ H1 fun y H2=>rd v y H2 fun z H3=>∃ dx' fs',H3 a=some (.ins C dx' fs')∧fs'.length<1000∧D.nx σ (upd H3 a (.ins C dx' (aZ f z fs')))
section
variable{X:Cx}{o e value:Expr}{f:Str}{pos pos' tpos:Pos}{ta tv:TE}
theorem aQ(he:PE X e ta)(hb:attributeBase e f X.env (eval e X.env)=eval e X.env):PE X (.Attribute e f pos) (qG X.K ta f):=by
 intro pins s σ H Q I h
 refine y2C hb (thn (he pins s σ H _ I h) fun u s1 h00=>?_)
 obtain⟨x,H1,I1,rx,a,C,dx,fs,v,ex,ea,c,n,l,q⟩:=h00
 subst ex
 obtain rfl:u=Value.ref a:=rx
 exact z1D I1 ea c n l fun u' s2 I2 ru=>⟨v,H1,I2,ru,q⟩
theorem bD(ha:PE X o ta)(hv:PE X value tv)(hs:swapsWith value (some (.Attribute o f pos')) pos.line X.env=pure false):PS X (.Assign [.Attribute o f pos'] value pos) (sFld X.K ta tv f):=by
 intro pins s σ H D I h
 refine plainObj_wpAny_Assign_Attribute (thn (hv pins s σ H _ I h) fun u s1 h00=>?_) hs
 obtain⟨y,H1,I1,ry,q⟩:=h00
 refine thn (ha pins s1 σ H1 _ I1 q) fun ov s2 h00=>?_
 obtain⟨x,H2,I2,rx,a,C,dx,fs,ex,ea,c,n,l,q2⟩:=h00
 subst ex
 obtain rfl:ov=Value.ref a:=rx
 exact z1K I2 ea c n l ry fun s3 I3=>⟨σ,_,I3,q2⟩
theorem z6S{op:Operator}{rd:V→V→Hp→VK→Prop}(ha:PE X o ta)(hv:PE X value tv)(hop:InOp X op rd):PS X (.AugAssign (.Attribute o f tpos) op value pos) (y3Q X.K ta tv rd f):=by
 intro pins s σ H D I h
 refine wpAny_AugAssign_AttributeAny (thn (ha pins s σ H _ I h) fun ov s1 h00=>?_)
 obtain⟨x,H1,I1,rx,a,C,dx,fs,v,ex,ea,c,n,l,q⟩:=h00
 subst ex
 obtain rfl:ov=Value.ref a:=rx
 refine z1D I1 ea c n l fun u s2 I2 ru=>thn (hv pins s2 σ H1 _ I2 q) fun w3 s3 h00=>?_
 obtain⟨y,H2,I3,ry,q3⟩:=h00
 refine thn (hop pins s3 σ H2 v y u w3 _ I3 ru ry q3) fun w4 s4 h00=>?_
 obtain⟨z,H3,I4,rz,dx',fs',ea',l',q4⟩:=h00
 exact z1K I4 ea' c n l' rz fun s5 I5=>⟨σ,_,I5,q4⟩
def rAdd:V→V→Hp→VK→Prop:=fun x y H Q=>∃ i j,x=.int i∧y=.int j∧Q (.int (i+j)) H
theorem y7G:InOp X .Add rAdd:=by
 rintro pins s σ H x y u v Q I rx ry ⟨i,j,rfl,rfl,q⟩
 obtain⟨t,rfl⟩:=(show ∃ t,u=Value.int i t from rx)
 obtain⟨t',rfl⟩:=(show ∃ t',v=Value.int j t' from ry)
 exact PyProof.Rows.iadd_int ⟨.int (i+j),H,I.tok _,⟨_,rfl⟩,q⟩
theorem y6n {pl:Sem Bool}{m:Str}{apos:Pos}{args:List Expr}{pins:List (Addr×Obj)}{s:Shared}{σ:St}{H:Hp}{Q:Value→Shared→Prop}{te:TE} (he:PE X e te) (I:Inv X pins σ H s)
  (h:te σ H fun x H1=>∃ a C dx fs g,x=.ref a∧H1 a=some (.ins C dx fs)∧Cls X.K C∧Meth X.K C m g∧fs.lookup m=none ∧
   ∀ s1,Inv X pins σ H1 s1→wpAny (model X.prog X.w) X.A (callWith pos (.ref g) [.ref a] (backTo pos (starEach args X.env)) (backToKw pos (keywordEach [] X.env))) Q X.xe s1)
  (ht:eval (.Call (.Attribute e m apos) args [] pos) X.env=(do
   let ov ← eval e X.env
   standAt apos.atName
   let (f,first) ← holding [ov] (getMethod ov m pl)
   callWith pos f first (backTo pos (starEach args X.env)) (backToKw pos (keywordEach [] X.env)))) :
  wpAny (model X.prog X.w) X.A (eval (.Call (.Attribute e m apos) args [] pos) X.env) Q X.xe s:=by
 refine PySem.W.methodCall_KW (pl:=pl) (thn (he pins s σ H _ I h) fun u s1 h00=>?_) ht
 obtain⟨x,H1,I1,rx,a,C,dx,fs,g,ex,ea,c,k,l,q⟩:=h00
 subst ex
 obtain rfl:u=Value.ref a:=rx
 exact tE I1 ea c k l (q s1 I1)
end
end L2
namespace L2
open PySem PySem.Spec PyProof.Rows
structure Room(k:Nat)(A:Around):Prop where
 hd:A.handled=none
 dp:A.depth+3 * k+5<recursionLimit
 un:A.units+16 * k+200<cLine
theorem Room.mono{j k:Nat}{A:Around}(r:Room k A)(h:j≤k):Room j A:=⟨r.hd,by have:=r.dp;omega,by have:=r.un;omega⟩
theorem Room.deeper{k:Nat}{A:Around}(r:Room (k+1) A)(env:Env):Room k (A.deeper env):=
 ⟨r.hd,by have:=r.dp;show A.depth+1+3 * k+5<_;omega,by have:=r.un;show A.units+3+16 * k+200<_;omega⟩
theorem z4A{A:Around}{C:Addr}{us:List Value}{kw:List (Str×Value)}:(A.under (.builtin "type.__call__" ⟨.ref C::us,kw⟩)).depth=A.depth+1:=by
 first|rfl|simp[Around.under,Code.weight,Code.isCreation,Code.isGuard,Code.isCaller,Code.frames,Code.isFrame,guardIds]
theorem z4B{A:Around}{C:Addr}{us:List Value}{kw:List (Str×Value)}:(A.under (.builtin "type.__call__" ⟨.ref C::us,kw⟩)).units=A.units+1:=by
 first|rfl|simp[Around.under,Code.cUnits,Code.frames,Code.isFrame]
theorem Room.make{k:Nat}{A:Around}(r:Room (k+1) A)(C:Addr)(us:List Value)(kw:List (Str×Value)):Room k (A.under (.builtin "type.__call__" ⟨.ref C::us,kw⟩)):=
 ⟨r.hd,by have:=r.dp;rw[z4A];omega,by have:=r.un;rw[z4B];omega⟩
theorem Room.depth{k:Nat}{A:Around}(r:Room k A):A.depth<recursionLimit:=by have:=r.dp;omega
theorem Room.units{k:Nat}{A:Around}(r:Room k A):A.units+64<cLine:=by have:=r.un;omega
def qH:TA:=fun _ H Q=>Q [] H
def x5D(ta:TE)(tr:TA):TA:=fun σ H Q=>ta σ H fun x H1=>tr σ H1 fun xs H2=>Q (x::xs) H2
section
variable{X:Cx}{e:Expr}{es:List Expr}{te:TE}{t:TA}{pos:Pos}
theorem pa_nil:PA X [] qH:=fun _ _ _ _ H Q I h=>Calls.spliced_nil ⟨[],H,I,.nil,h⟩
theorem aD(ha:PE X e te)(hr:PA X es t)(hs:starEach (e::es) X.env=(false,eval e X.env)::starEach es X.env:=by rfl):PA X (e::es) (x5D te t):=by
 intro pos pins s σ H Q I h
 rw[hs]
 show wpAny _ _ (spliced ((false,eval e X.env)::backTo pos (starEach es X.env))) _ _ s
 refine Calls.spliced_cons (thn (ha pins s σ H _ I h) fun u s1 h00=>?_)
 obtain⟨x,H1,I1,r1,q1⟩:=h00
 refine thn (hr pos pins s1 σ H1 _ I1 q1) fun us s2 h00=>?_
 obtain⟨xs,H2,I2,r2,q2⟩:=h00
 exact⟨x::xs,H2,I2,.cons r1 r2,q2⟩
def tTup(t:TA):TE:=fun σ H Q=>t σ H fun xs H1=>xs.length≤sizeLine∧∀ p,H1 p=none→Q (.ref p) (upd H1 p (.tup xs))
def tLst(t:TA):TE:=fun σ H Q=>t σ H fun xs H1=>xs.length≤sizeLine∧∀ p,H1 p=none→Q (.ref p) (upd H1 p (.lst xs))
theorem y8p{x1}(h:PA X es t):PE X (.Tuple es x1 pos) (tTup t):=by
 intro pins s σ H Q I hq
 refine wpAny_Tuple_spliced (thn (h pos pins s σ H _ I hq) fun us s1 h00=>?_)
 obtain⟨xs,H1,I1,r,z,q⟩:=h00
 refine⟨by rw[←r.length];exact z,?_⟩
 have hf:H1 s1.heap.objs.size=none:=I1.hok.fresh (Nat.le_refl _)
 refine⟨.ref s1.heap.objs.size,upd H1 s1.heap.objs.size (.tup xs),I1.laid (t':=s1.toks) (fun b u e=>Heap.get?_push_of_some _ e) (Nat.le_refl _) ?_,rfl,q _ hf⟩
 exact⟨z,us,r,⟨_,Heap.get?_push_size _ rfl,rfl,_,rfl⟩⟩
theorem cF(h:PA X es t):PE X (.List es pos) (tLst t):=by
 intro pins s σ H Q I hq
 refine wpAny_List_spliced (thn (h pos pins s σ H _ I hq) fun us s1 h00=>?_)
 obtain⟨xs,H1,I1,r,z,q⟩:=h00
 refine⟨by rw[←r.length];exact z,?_⟩
 have hf:H1 s1.heap.objs.size=none:=I1.hok.fresh (Nat.le_refl _)
 refine⟨.ref s1.heap.objs.size,upd H1 s1.heap.objs.size (.lst xs),I1.laid (t':=s1.toks) (fun b u e=>Heap.get?_push_of_some _ e) (Nat.le_refl _) ?_,rfl,q _ hf⟩
 exact⟨z,us,0,r,Heap.get?_push_size _ rfl⟩
end
abbrev Sp:=List V→Hp→VK→XK→Prop
abbrev CXT:=List Env→Hp→Shared→XK→Value→Shared→Prop
structure Env0(P:Program)(w:World)(K:PySem.W.Frag)(mg:Str→Option Value)(base:Heap)(A:Around)(outer:List Env)(s:Shared)(H:Hp):Prop where
 frames:A.frames=some outer
 mod:Mod K mg base
 bs:∀ b o,base.get? b=some o→s.heap.get? b=some o∧H b=none
 bsz:base.objs.size≤s.heap.objs.size
 funs:s.heap.FunFrames base outer
 frf:∀ b∈frs outer,H b=none
 hok:HOk P w H s.heap
 bare:AllBare s.gens
def CE(outer:List Env)(P:Program)(w:World)(H:Hp)(s:Shared)(Q:VK)(u:Value)(s':Shared):Prop:=
 ∃ v H',s'.os=s.os∧AllBare s'.gens∧Un (frs outer) [] H H' s.heap s'.heap∧HOk P w H' s'.heap∧RelV v u∧Q v H'
def CR(CX:CXT)(outer:List Env)(P:Program)(w:World)(H:Hp)(s:Shared)(Q:VK)(E:XK)(r:Result)(s':Shared):Prop:=
 match r with
 |.ok (.ret u)=>CE outer P w H s Q u s'
 |.ok _=>False
 |.error e=>CX outer H s E e s'
structure FnOk(P:Program)(w:World)(K:PySem.W.Frag)(mg:Str→Option Value)(base:Heap)(CX:CXT)(k:Nat)(f:Addr)(fd:FuncData)(ps:List Str)(sp:Sp):Prop where
 len:∀ vs H Q E,sp vs H Q E→vs.length=ps.length
 run:∀(A:Around) (outer:List Env) (s:Shared) (H:Hp) (args:Args) (us:List Value) (vs:List V) (Q:VK) (E:XK),Room k A→Env0 P w K mg base A outer s H→BindsTo s fd args (ps.zip us)→Vals vs us→sp vs H Q E →
  codeAny (model P w) A (.call (.ref f) args) (CR CX outer P w H s Q E) s
theorem FnOk.mono{P:Program}{w:World}{K:PySem.W.Frag}{mg:Str→Option Value}{base:Heap}{CX:CXT}{j k:Nat}{f:Addr}{fd:FuncData}{ps:List Str}{sp:Sp}(F:FnOk P w K mg base CX j f fd ps sp)(h:j≤k) :
  FnOk P w K mg base CX k f fd ps sp:=⟨F.len,fun A outer s H args us vs Q E hr=>F.run A outer s H args us vs Q E (hr.mono h)⟩
theorem FnOk.imp {P:Program}{w:World}{K:PySem.W.Frag}{mg:Str→Option Value}{base:Heap}{CX:CXT}{k:Nat}{f:Addr}{fd:FuncData}{ps:List Str}{sp sp':Sp} (F:FnOk P w K mg base CX k f fd ps sp)
  (h:∀ vs H Q E,sp' vs H Q E→sp vs H Q E):FnOk P w K mg base CX k f fd ps sp':=
 ⟨fun vs H Q E q=>F.len vs H Q E (h _ _ _ _ q),fun A outer s H args us vs Q E hr he hb hv hs=>F.run A outer s H args us vs Q E hr he hb hv (h _ _ _ _ hs)⟩
theorem Env0.make{P:Program}{w:World}{K:PySem.W.Frag}{mg:Str→Option Value}{base:Heap}{A:Around}{outer:List Env}{s:Shared}{H:Hp}(e:Env0 P w K mg base A outer s H)(C:Addr)(us:List Value)(kw:List (Str×Value)) :
  Env0 P w K mg base (A.under (.builtin "type.__call__" ⟨.ref C::us,kw⟩)) outer s H:=⟨by first|exact e.frames|(simpa [Around.under,Code.envs,Code.isFrame,pushEnvs] using e.frames),e.mod,e.bs,e.bsz,e.funs,e.frf,e.hok,e.bare⟩
section
variable{X:Cx}{pins:List (Addr×Obj)}{σ:St}{H:Hp}{s s':Shared}
theorem Inv.env0(I:Inv X pins σ H s):Env0 X.prog X.w X.K X.mg X.base X.A X.stack s H:=
 ⟨I.ok.frames,I.ok.mod,I.bs,Nat.le_trans I.ok.bsz I.sz,I.stack,I.stkFree,I.hok,I.bare⟩
theorem Inv.after{Q:VK}{u:Value}(I:Inv X pins σ H s)(h:CE X.stack X.prog X.w H s Q u s'):EP X pins σ Q u s':=by
 obtain⟨v,H',os,bare,un,hok,r,q⟩:=h
 obtain⟨hh,g,d,t,os'⟩:=s'
 obtain rfl:os'=s.os:=os
 exact⟨v,H',I.call (h':=hh) (g':=g) (d':=d) (t':=t) (ch:=[]) un hok bare (fun b z=>absurd z (by simp)),r,q⟩
end
def y6P(sp:Sp)(dvs:List V)(E:XK)(t:TA):TE:=fun σ H Q=>t σ H fun vs H1=>sp (vs++dvs) H1 Q E
def y0s(C:Addr)(m:Str)(sp:Sp)(dvs:List V)(E:XK)(ta:TE)(t:TA):TE:=fun σ H Q=>ta σ H fun x H1=>∃ a dx fs,x=.ref a∧H1 a=some (.ins C dx fs)∧fs.lookup m=none ∧
 t σ H1 fun vs H2=>sp (x::(vs++dvs)) H2 Q E
def y6Q(C:Addr)(sp:Sp)(dvs:List V)(E:XK)(t:TA):TE:=fun σ H Q=>t σ H fun vs H1=>∀ x dx,H1 x=none→H1 dx=none→dx≠x →
 sp (.ref x::(vs++dvs)) (upd (upd H1 dx (.own x)) x (.ins C dx [])) (fun v H2=>v=.non∧Q (.ref x) H2) E
def Binds(K:PySem.W.Frag)(fd:FuncData)(ps:List Str)(ds:List Value):Prop:=
 ∀(s:Shared) (us:List Value),K.In s.heap→(us++ds).length=ps.length→BindsTo s fd ⟨us,[]⟩ (ps.zip (us++ds))
theorem Binds.all{K:PySem.W.Frag}{fd:FuncData}{ps:List Str}(h:∀ us:List Value,us.length=ps.length→bindArgs fd ⟨us,[]⟩=pure (ps.zip us)):Binds K fd ps []:=fun s us _ hl=>by
 rw[List.append_nil] at hl ⊢
 exact .of_eq (h us hl)
def gZ(CX:CXT)(X:Cx)(E:XK):Prop:=∀(pins:List (Addr×Obj)) (σ:St) (H:Hp) (s:Shared) (e:Value) (s':Shared),Inv X pins σ H s→CX X.stack H s E e s'→X.xe e s'
section
variable{X:Cx}{CX:CXT}{k:Nat}{f C:Addr}{fd:FuncData}{ps:List Str}{sp:Sp}{dvs:List V}{ds:List Value}{E:XK}{x m:Str}{p pos apos:Pos}{e o:Expr}{es:List Expr}{ta:TE}{t:TA}
theorem lZ {pins:List (Addr×Obj)}{σ:St}{H:Hp}{s:Shared}{Q:VK}{us:List Value}{vs:List V} (F:FnOk X.prog X.w X.K X.mg X.base CX k f fd ps sp) (hr:Room k X.A) (hb:Binds X.K fd ps ds) (hd:Vals dvs ds) (hx:gZ CX X E)
  (I:Inv X pins σ H s) (r:Vals vs us) (h:sp (vs++dvs) H Q E):wpAny (model X.prog X.w) X.A (call (.ref f) us) (EP X pins σ Q) X.xe s:=by
 have r2:Vals (vs++dvs) (us++ds):=r.append hd
 have hl:(us++ds).length=ps.length:=by rw[←r2.length];exact F.len _ _ _ _ h
 refine wpAny_call (codeAny_mono (F.run X.A X.stack s H ⟨us,[]⟩ (us++ds) (vs++dvs) Q E hr I.env0 (hb s us I.kIn hl) r2 h) fun r s' hq=>?_)
 cases r with
 |error e=>exact hx pins σ H s e s' I hq
 |ok fl=>
  cases fl with
  |ret u=>exact I.after hq
  |next=>exact False.elim hq
  |brk=>exact False.elim hq
  |cont=>exact False.elim hq
theorem cP (F:FnOk X.prog X.w X.K X.mg X.base CX k f fd ps sp) (hr:Room k X.A) (hg:Gl X x) (hm:X.mg x=some (.ref f)) (hk:PySem.W.keepIn X.K (.ref f)=true) (hb:Binds X.K fd ps ds) (hd:Vals dvs ds) (hx:gZ CX X E)
  (ha:PA X (e::es) t) (hdb:(x==("__debug__":Str))=false:=by decide) (he:starEach (e::es) X.env=(false,eval e X.env)::starEach es X.env:=by rfl) (hpl:(backTo pos (starEach es X.env)).any (·.1)=false:=by rfl) :
  PE X (.Call (.Name x p) (e::es) [] pos) (y6P sp dvs E t):=by
 intro pins s σ H Q I h
 refine wpAny_Call_Name_kw (lO I hg hm ?_ hdb)
 refine PySem.W.callWith_K (h₀:=X.base) I.ok.mod.kin hk (thn (ha pos pins s σ H _ I h) fun us s1 h00=>?_) he hpl
 obtain⟨vs,H1,I1,r,q⟩:=h00
 refine⟨I1.kIn,?_⟩
 exact lZ F hr hb hd hx I1 r q
theorem z3y (F:FnOk X.prog X.w X.K X.mg X.base CX k f fd ps sp) (hr:Room k X.A) (hg:Gl X x) (hm:X.mg x=some (.ref f)) (hk:PySem.W.keepIn X.K (.ref f)=true) (hb:Binds X.K fd ps ds) (hd:Vals dvs ds) (hx:gZ CX X E)
  (hdb:(x==("__debug__":Str))=false:=by decide):PE X (.Call (.Name x p) [] [] pos) (y6P sp dvs E qH):=by
 intro pins s σ H Q I h
 refine wpAny_Call_Name_kw (lO I hg hm ?_ hdb)
 exact PySem.W.callWith_K0 I.kIn hk (lZ (us:=[]) F hr hb hd hx I .nil h)
theorem gI {pl:Sem Bool} (he:PE X o ta) (c:Cls X.K C) (hm:Meth X.K C m f) (F:FnOk X.prog X.w X.K X.mg X.base CX k f fd ps sp) (hr:Room k X.A) (hb:Binds X.K fd ps ds) (hd:Vals dvs ds) (hx:gZ CX X E) (ha:PA X (e::es) t)
  (hst:starEach (e::es) X.env=(false,eval e X.env)::starEach es X.env:=by rfl) (hpl:(backTo pos (starEach es X.env)).any (·.1)=false:=by rfl)
  (ht:eval (.Call (.Attribute o m apos) (e::es) [] pos) X.env=(do
   let ov ← eval o X.env
   standAt apos.atName
   let (f,first) ← holding [ov] (getMethod ov m pl)
   callWith pos f first (backTo pos (starEach (e::es) X.env)) (backToKw pos (keywordEach [] X.env))):=by rfl) :
  PE X (.Call (.Attribute o m apos) (e::es) [] pos) (y0s C m sp dvs E ta t):=by
 intro pins s σ H Q I h
 refine PySem.W.methodCall_KW (pl:=pl) (thn (he pins s σ H _ I h) fun u s1 h00=>?_) ht
 obtain⟨x,H1,I1,rx,a,dx,fs,ex,ea,l,q⟩:=h00
 subst ex
 obtain rfl:u=Value.ref a:=rx
 refine tE I1 ea c hm l ?_
 refine PySem.W.callWith_K (first:=[.ref a]) (h₀:=X.base) I.ok.mod.kin hm.kp (thn (ha pos pins s1 σ H1 _ I1 q) fun us s2 h00=>?_) hst hpl
 obtain⟨vs,H2,I2,r,q2⟩:=h00
 refine⟨I2.kIn,?_⟩
 exact lZ (us:=.ref a::us) (vs:=.ref a::vs) F hr hb hd hx I2 (.cons rfl r) q2
theorem iG {pl:Sem Bool} (he:PE X o ta) (c:Cls X.K C) (hm:Meth X.K C m f) (F:FnOk X.prog X.w X.K X.mg X.base CX k f fd ps sp) (hr:Room k X.A) (hb:Binds X.K fd ps ds) (hd:Vals dvs ds) (hx:gZ CX X E)
  (ht:eval (.Call (.Attribute o m apos) [] [] pos) X.env=(do
   let ov ← eval o X.env
   standAt apos.atName
   let (f,first) ← holding [ov] (getMethod ov m pl)
   callWith pos f first (backTo pos (starEach [] X.env)) (backToKw pos (keywordEach [] X.env))):=by rfl) :
  PE X (.Call (.Attribute o m apos) [] [] pos) (y0s C m sp dvs E ta qH):=by
 intro pins s σ H Q I h
 refine PySem.W.methodCall_KW (pl:=pl) (thn (he pins s σ H _ I h) fun u s1 h00=>?_) ht
 obtain⟨x,H1,I1,rx,a,dx,fs,ex,ea,l,q⟩:=h00
 subst ex
 obtain rfl:u=Value.ref a:=rx
 refine tE I1 ea c hm l ?_
 exact PySem.W.callWith_K0 (first:=[.ref a]) I1.kIn hm.kp (lZ (us:=[.ref a]) (vs:=[.ref a]) F hr hb hd hx I1 (.cons rfl .nil) q)
structure Mk(K:PySem.W.Frag)(C f:Addr):Prop where
 makes:PySem.W.makesIn K C=true
 init:PySem.W.findIn K (.ref C) "__init__"=some (some (.ref f))
 fn:PySem.W.isFn K (.ref f)=true
 kp:PySem.W.keepIn K (.ref C)=true
theorem z3T {pins:List (Addr×Obj)}{σ:St}{H:Hp}{s:Shared}{Q:VK}{us:List Value}{vs:List V} (M:Mk X.K C f) (F:FnOk X.prog X.w X.K X.mg X.base CX k f fd ps sp) (hr:Room (k+1) X.A) (hb:Binds X.K fd ps ds) (hd:Vals dvs ds)
  (hx:gZ CX X E) (I:Inv X pins σ H s) (r:Vals vs us)
  (h:∀ x dx,H x=none→H dx=none→dx≠x→sp (.ref x::(vs++dvs)) (upd (upd H dx (.own x)) x (.ins C dx [])) (fun v H2=>v=.non∧Q (.ref x) H2) E) :
  wpAny (model X.prog X.w) X.A (call (.ref C) us) (EP X pins σ Q) X.xe s:=by
 have hq:=h (s.heap.objs.size+1) s.heap.objs.size (I.hok.fresh (Nat.le_succ _)) (I.hok.fresh (Nat.le_refl _)) (Nat.ne_of_lt (Nat.lt_succ_self _))
 have I2:=Inv.made (C:=C) I
 have r2:Vals (V.ref (s.heap.objs.size+1)::(vs++dvs)) (Value.ref (s.heap.objs.size+1)::(us++ds)):=.cons rfl (r.append hd)
 have hl:(Value.ref (s.heap.objs.size+1)::us++ds).length=ps.length:=by
  have e:=r2.length
  rw[F.len _ _ _ _ hq] at e
  exact e.symm
 refine wpAny_call (z9k (f:=f) I.kIn M.makes M.init (beq_iff_eq.mp M.fn) (codeAny_mono (F.run _ X.stack _ _ ⟨Value.ref (s.heap.objs.size+1)::us,[]⟩ (Value.ref (s.heap.objs.size+1)::(us++ds)) _ _ E (hr.make C us [])
  (I2.env0.make C us []) (hb _ (Value.ref (s.heap.objs.size+1)::us) I2.kIn hl) r2 hq) fun r s' hq'=>?_))
 cases r with
 |error e=>exact hx pins σ _ _ e s' I2 hq'
 |ok fl=>
  cases fl with
  |ret u=>
   obtain⟨v,H',I3,rv,ev,q3⟩:=I2.after hq'
   subst ev
   exact⟨rv,⟨V.ref (s.heap.objs.size+1),H',I3,rfl,q3⟩⟩
  |next=>exact False.elim hq'
  |brk=>exact False.elim hq'
  |cont=>exact False.elim hq'
theorem y3o (M:Mk X.K C f) (F:FnOk X.prog X.w X.K X.mg X.base CX k f fd ps sp) (hr:Room (k+1) X.A) (hg:Gl X x) (hm:X.mg x=some (.ref C)) (hb:Binds X.K fd ps ds) (hd:Vals dvs ds) (hx:gZ CX X E)
  (ha:PA X (e::es) t) (hdb:(x==("__debug__":Str))=false:=by decide) (he:starEach (e::es) X.env=(false,eval e X.env)::starEach es X.env:=by rfl) (hpl:(backTo pos (starEach es X.env)).any (·.1)=false:=by rfl) :
  PE X (.Call (.Name x p) (e::es) [] pos) (y6Q C sp dvs E t):=by
 intro pins s σ H Q I h
 refine wpAny_Call_Name_kw (lO I hg hm ?_ hdb)
 refine PySem.W.callWith_K (h₀:=X.base) I.ok.mod.kin M.kp (thn (ha pos pins s σ H _ I h) fun us s1 h00=>?_) he hpl
 obtain⟨vs,H1,I1,r,q⟩:=h00
 refine⟨I1.kIn,?_⟩
 exact z3T M F hr hb hd hx I1 r q
theorem uS (M:Mk X.K C f) (F:FnOk X.prog X.w X.K X.mg X.base CX k f fd ps sp) (hr:Room (k+1) X.A) (hg:Gl X x) (hm:X.mg x=some (.ref C)) (hb:Binds X.K fd ps ds) (hd:Vals dvs ds) (hx:gZ CX X E)
  (hdb:(x==("__debug__":Str))=false:=by decide):PE X (.Call (.Name x p) [] [] pos) (y6Q C sp dvs E qH):=by
 intro pins s σ H Q I h
 refine wpAny_Call_Name_kw (lO I hg hm ?_ hdb)
 exact PySem.W.callWith_K0 I.kIn M.kp (z3T (us:=[]) M F hr hb hd hx I .nil h)
end
structure FnScope(N P:List Str)(sc:Scope):Prop where
 kind:sc.kind=.function
 co:sc.isCoroutine=false
 gen:sc.isGenerator=false
 nd:N.Nodup
 pre:N.take P.length=P
 par:∀ x∈P,sc.names.lookup x=some .local∨sc.names.lookup x=some .cell
 nofree:∀ y∈sc.names,y.2≠.free
theorem z2i{kindOf:Str→Option NameKind}{x:Str}:∀{binds:List (Str×Value)}{m:Str→Option Value},(∀ v,(x,v)∉binds)→bindL kindOf binds m x=m x
 |[],_,_=>rfl
 |(n,v)::r,m,h=>by
  unfold bindL
  rw[z2i fun w hw=>h w (List.mem_cons_of_mem _ hw)]
  split
  ·have:x≠n:=by rintro rfl;exact h v List.mem_cons_self
   simp[this]
  ·rfl
theorem z2g{kindOf:Str→Option NameKind}{x:Str}:∀{binds:List (Str×Value)}{m:Str→Option Value},(∀ v,(x,v)∉binds)→bindC kindOf binds m x=m x
 |[],_,_=>rfl
 |(n,v)::r,m,h=>by
  unfold bindC
  rw[z2g fun w hw=>h w (List.mem_cons_of_mem _ hw)]
  split
  ·rfl
  ·have:x≠n:=by rintro rfl;exact h v List.mem_cons_self
   simp[this]
theorem z2h{kindOf:Str→Option NameKind}{x:Str}{v:Value}:∀{P:List Str}{vs:List Value}{i:Nat}{m:Str→Option Value},P.Nodup→P[i]?=some x→vs[i]?=some v→kindOf x=some .local →
  bindL kindOf (P.zip vs) m x=some v
 |[],_,_,_,_,h,_,_=>by simp at h
 |_::_,[],_,_,_,_,h,_=>by simp at h
 |p::P,w::vs,0,m,nd,h1,h2,hk=>by
  simp at h1 h2;subst h1;subst h2
  show bindL kindOf ((p,w)::P.zip vs) m p=_
  unfold bindL
  rw[z2i fun v hv=>(List.nodup_cons.mp nd).1 (List.of_mem_zip hv).1,if_pos hk]
  simp
 |p::P,w::vs,i+1,m,nd,h1,h2,hk=>by
  show bindL kindOf ((p,w)::P.zip vs) m x=_
  unfold bindL
  exact z2h (i:=i) (List.nodup_cons.mp nd).2 (by simpa using h1) (by simpa using h2) hk
theorem z2f{kindOf:Str→Option NameKind}{x:Str}{v:Value}:∀{P:List Str}{vs:List Value}{i:Nat}{m:Str→Option Value},P.Nodup→P[i]?=some x→vs[i]?=some v→kindOf x≠some .local →
  bindC kindOf (P.zip vs) m x=some v
 |[],_,_,_,_,h,_,_=>by simp at h
 |_::_,[],_,_,_,_,h,_=>by simp at h
 |p::P,w::vs,0,m,nd,h1,h2,hk=>by
  simp at h1 h2;subst h1;subst h2
  show bindC kindOf ((p,w)::P.zip vs) m p=_
  unfold bindC
  rw[z2g fun v hv=>(List.nodup_cons.mp nd).1 (List.of_mem_zip hv).1,if_neg hk]
  simp
 |p::P,w::vs,i+1,m,nd,h1,h2,hk=>by
  show bindC kindOf ((p,w)::P.zip vs) m x=_
  unfold bindC
  exact z2f (i:=i) (List.nodup_cons.mp nd).2 (by simpa using h1) (by simpa using h2) hk
def start(N:List Str)(vs:List V):St:=vs.map some++List.replicate (N.length - vs.length) none
def jX(CX:CXT)(P:Program)(w:World)(K:PySem.W.Frag)(mg:Str→Option Value)(base:Heap)(N:List Str)(qual:Str)(scope:Scope)(f:Addr)(cd:Value)(A:Around)(outer:List Env)(s:Shared)(H:Hp)(E:XK):Cx where
 prog:=P
 w:=w
 K:=K
 mg:=mg
 base:=base
 A:=A.deeper (envOfC qual scope s.heap.objs.size f cd)
 N:=N
 s₀:=s
 H₀:=H
 env:=envOfC qual scope s.heap.objs.size f cd
 outer:=outer
 stack:=envOfC qual scope s.heap.objs.size f cd::outer
 ex:=[]
 calm:=true
 fn:=fun _=>true
 pn:=[]
 xe:=fun e s'=>wpAny (model P w) (A.deeper (envOfC qual scope s.heap.objs.size f cd)) (leaving (envOfC qual scope s.heap.objs.size f cd) e) (fun _ s''=>CX outer H s E e s'') (fun e' s''=>CX outer H s E e' s'') s'
theorem z2U{sc:Scope}{n:Nat}{x:Str}(h:sc.names.lookup x=some .cell):∃ c,(cellsFrom n sc.names []).lookup x=some c:=by
 have q:=PySem.W.cellsFrom_some sc.names n [] (.inl h)
 exact Option.isSome_iff_exists.mp q
theorem z6J {CX:CXT}{P:Program}{w:World}{K:PySem.W.Frag}{mg:Str→Option Value}{base:Heap}{N ps:List Str}{qual:Str}{scope:Scope}{f:Addr}{cd:Value}{A:Around}{outer:List Env}{s s1:Shared}{H:Hp}{E:XK}{us:List Value}{vs:List V}
  (S:FnScope N ps scope) (hd:A.handled=none) (e0:Env0 P w K mg base A outer s H) (hl:vs.length=ps.length) (r:Vals vs us)
  (x:InCallC s s.heap.objs.size (bindL (envOfC qual scope s.heap.objs.size f cd).kindOf (ps.zip us) fun _=>none) (cellsFrom (s.heap.objs.size+1) scope.names []) (bindC (envOfC qual scope s.heap.objs.size f cd).kindOf (ps.zip us) fun _=>none) s1) :
  Inv (jX CX P w K mg base N qual scope f cd A outer s H E) [] (start N vs) H s1:=by
 have hpl:ps.length≤N.length:=by have:=congrArg List.length S.pre;rw[List.length_take] at this;omega
 obtain⟨h1,tk,rfl,hk⟩:=x.done
 have noA:∀ b:Addr,b∉(jX CX P w K mg base N qual scope f cd A outer s H E).ex:=fun b z=>absurd (show b∈([]:List Addr) from z) (by simp)
 refine⟨⟨e0.mod,S.kind,rfl,rfl,Nat.le_refl _,fun y z c h1 h2=>?_,fun y hy=>?_,fun y c _ h=>?_,fun _=>hd,Around.frames_deeper e0.frames,.inr ⟨rfl,rfl⟩,fun b z=>absurd z (noA b),e0.bs,e0.bsz,fun b _ _=>noA b,fun b z=>absurd z (noA b),e0.funs,e0.frf⟩,
  rfl,e0.bare,Un.kept hk,⟨_,x.toInCall.ns,fun i y v h1 h2 h3=>?_⟩,fun y c h=>⟨_,x.cell y c h⟩,e0.hok.fresh (Nat.le_refl _),fun y c h=>?_,fun p hp=>absurd (show p∈([]:List (Addr×Obj)) from hp) (by simp),e0.hok.kept hk,?_⟩
 ·exact name_of_addr x.apart (PySem.mem_of_lookup h1) (PySem.mem_of_lookup h2)
 ·have hy:scope.names.lookup y=some .cell∨scope.names.lookup y=some .free:=hy
  rcases hy with hy|hy
  ·exact z2U hy
  ·exact absurd rfl (S.nofree _ (PySem.mem_of_lookup hy))
 ·exact Nat.le_of_lt (x.above y c (PySem.mem_of_lookup h))
 ·have hi:i<vs.length:=by
   unfold start at h2
   by_cases hi:i<vs.length
   ·exact hi
   ·rw[List.getElem?_append_right (by simpa using hi)] at h2
    rw[List.getElem?_replicate] at h2
    split at h2 <;> cases h2
  have ha:vs[i]?=some v:=by
   unfold start at h2
   rw[List.getElem?_append_left (by simpa using hi),List.getElem?_map] at h2
   cases e:vs[i]? with
   |none=>rw[e] at h2;cases h2
   |some a=>rw[e] at h2;cases h2;rfl
  obtain⟨u,hu,rv⟩:=r.get ha
  have hp:ps[i]?=some y:=by
   rw[←S.pre,List.getElem?_take_of_lt (by omega)];exact h1
  have ndP:ps.Nodup:=by rw[←S.pre];exact S.nd.sublist (List.take_sublist _ _)
  refine⟨u,rv,?_⟩
  rcases S.par y (List.mem_of_getElem? hp) with k|k
  ·exact .inl ⟨k,z2h ndP hp hu k⟩
  ·obtain⟨c,e⟩:=z2U (n:=s.heap.objs.size+1) k
   refine .inr ⟨.inl k,c,e,?_⟩
   have q:=x.cell y c e
   rw[z2f ndP hp hu (by show scope.names.lookup y≠_;rw[k];decide)] at q
   exact q
 ·exact e0.hok.fresh (Nat.le_of_lt (x.above y c (PySem.mem_of_lookup h)))
 ·unfold start
  show _=N.length
  rw[List.length_append,List.length_map,List.length_replicate]
  omega
theorem x2z {CX:CXT}{P:Program}{w:World}{K:PySem.W.Frag}{mg:Str→Option Value}{base:Heap}{k:Nat}{f:Addr}{name qual:Str}{params:Arguments}{body:List Stmt}{scope:Scope}{dV kV doc pm cdv ct oc:Value}{an od:Option Addr}
  {osl:Array (Option Value)}{N ps:List Str}{sp:Sp} (lk:K.lookup f=some ⟨oc,od,.func (PySem.W.fnOf name qual params body scope dV kV doc pm an cdv ct),osl⟩) (hcd:PySem.W.codeIn K cdv qual=true) (S:FnScope N ps scope)
  (len:∀ vs H Q E,sp vs H Q E→vs.length=ps.length)
  (hbody:∀(A:Around) (outer:List Env) (s:Shared) (H:Hp) (vs:List V) (Q:VK) (E:XK),Room k (A.deeper (envOfC qual scope s.heap.objs.size f cdv))→sp vs H Q E →
   ∃ t,PSs (jX CX P w K mg base N qual scope f cdv A outer s H E) body t∧t { nx:=fun _ H'=>Q .non H',rt:=Q } (start N vs) H) :
  FnOk P w K mg base CX (k+1) f (PySem.W.fnOf name qual params body scope dV kV doc pm an cdv ct) ps sp:=by
 refine⟨len,fun A outer s H args us vs Q E hr e0 hb r hsp=>?_⟩
 have hl:=len _ _ _ _ hsp
 have KX:K.In s.heap:=e0.mod.kin.keeps fun b o e=>(e0.bs b o e).1
 have lim:s.heap.NoLimit:=e0.mod.nolimit.keeps fun b o e=>(e0.bs b o e).1
 have hkind:∀ y∈ps.zip us,scope.names.lookup y.1=some .local∨(scope.names.lookup y.1=some .cell∧((cellsFrom (s.heap.objs.size+1) scope.names []).lookup y.1).isSome=true):=fun⟨n,v⟩ hy=>by
  rcases S.par n (List.of_mem_zip hy).1 with q|q
  ·exact .inl q
  ·exact .inr ⟨q,PySem.W.cellsFrom_some _ _ _ (.inl q)⟩
 refine codeAny_call_function hr.depth (KX _ _ lk) rfl S.co S.gen rfl (PySem.W.codeRec_of KX hcd) (hb _ _ _ _ ?_)
 refine wpAny_newFunctionEnv_cells S.kind hkind fun env he s1 x=>?_
 subst he
 refine⟨lim.keeps x.toInCall.keep,codeAny_func ?_⟩
 obtain⟨t,ht,hq⟩:=hbody A outer s H vs Q E (hr.deeper _) hsp
 have I:Inv (jX CX P w K mg base N qual scope f cdv A outer s H E) [] (start N vs) H s1:=z6J S hr.hd e0 hl r x
 refine wpAny_mono (ht [] s1 (start N vs) H _ I hq) (fun fl s' hs=>?_) fun e s' hs=>hs
 have fin:∀{σ':St}{H':Hp}{v:V}{u:Value},Inv (jX CX P w K mg base N qual scope f cdv A outer s H E) [] σ' H' s'→RelV v u→Q v H'→CE outer P w H s Q u s':=
  fun {σ' H' v u} J rv q=>⟨v,H',J.os,J.bare,J.base,J.hok,rv,q⟩
 cases fl with
 |ret u=>
  obtain⟨v,σ',H',J,rv,q⟩:=hs
  exact fin J rv q
 |next=>
  obtain⟨σ',H',J,q⟩:=hs
  exact fin (v:=V.non) (u:=Value.none) J rfl q
 |brk=>
  obtain⟨_,_,_,q⟩:=hs
  exact False.elim q
 |cont=>
  obtain⟨_,_,_,q⟩:=hs
  exact False.elim q
end L2
namespace L2
open PySem PySem.Spec PyProof.Rows
section
variable{X:Cx}{x:Str}{p pos:Pos}{e:Expr}{es:List Expr}{t:TA}{id T:String}{r:List V→Hp→VK→Prop}
def tCB(r:List V→Hp→VK→Prop)(t:TA):TE:=fun σ H Q=>t σ H fun vs H1=>r vs H1 Q
theorem z3z (hc:pI X (.builtin id) r) (hg:Gl X x) (hm:X.mg x=none) (hv:bootBuiltins x=some (.builtin id)) (ha:PA X (e::es) t) (hn:x≠"__name__":=by decide) (hdb:(x==("__debug__":Str))=false:=by decide)
  (he:starEach (e::es) X.env=(false,eval e X.env)::starEach es X.env:=by rfl) (hpl:(backTo pos (starEach es X.env)).any (·.1)=false:=by rfl):PE X (.Call (.Name x p) (e::es) [] pos) (tCB r t):=by
 intro pins s σ H Q I h
 refine wpAny_Call_Name_kw (kR I hg hm hv ?_ hn hdb)
 refine PyProof.Rows.callWith_builtin1 (thn (ha pos pins s σ H _ I h) fun us s1 h00=>?_) he hpl
 obtain⟨vs,H1,I1,r1,q1⟩:=h00
 exact hc pins s1 σ H1 vs us Q I1 r1 q1
theorem gD (hc:pI X (.type T) r) (hg:Gl X x) (hm:X.mg x=none) (hv:bootBuiltins x=some (.type T)) (ha:PA X (e::es) t) (hn:x≠"__name__":=by decide) (hdb:(x==("__debug__":Str))=false:=by decide)
  (he:starEach (e::es) X.env=(false,eval e X.env)::starEach es X.env:=by rfl) (hpl:(backTo pos (starEach es X.env)).any (·.1)=false:=by rfl):PE X (.Call (.Name x p) (e::es) [] pos) (tCB r t):=by
 intro pins s σ H Q I h
 refine wpAny_Call_Name_kw (kR I hg hm hv ?_ hn hdb)
 refine PyProof.Rows.callWith_type1 (thn (ha pos pins s σ H _ I h) fun us s1 h00=>?_) he hpl
 obtain⟨vs,H1,I1,r1,q1⟩:=h00
 exact hc pins s1 σ H1 vs us Q I1 r1 q1
end
end L2
namespace HT
open PySem PyProof.Rows
section
open PySem.SeqAt
open PySem.AutoSeq1 (wpAny_loadPart')
open PySem.MeetsSeq PySem.MeetsSeq2 PySem.MeetsSeq3
end
section
variable{prog:Program}{w:World}{A:Around}{E:Value→Shared→Prop}{s:Shared}
def sIx(n d:Nat):Option Int→Nat
 |none=>d
 |some v=>if v<0 then (v+(n:Int)).toNat else min v.toNat n
theorem sIx_nat(n d k:Nat):sIx n d (some (k:Int))=min k n:=by
 show (if (k:Int)<0 then ((k:Int)+(n:Int)).toNat else min (k:Int).toNat n)=min k n
 rw[if_neg (by omega),Int.toNat_natCast]
end
end HT
namespace L2
open PySem PySem.Spec PyProof.Rows
abbrev TO:=St→Hp→(Option Int→Hp→Prop)→Prop
def PO(X:Cx)(e:Option Expr)(t:TO):Prop:=
 ∀(pins:List (Addr×Obj)) (s:Shared) (σ:St) (H:Hp) (Q:Option Int→Hp→Prop),Inv X pins σ H s→t σ H Q →
  wpAny (model X.prog X.w) X.A (evalPart e X.env) (fun u s'=>∃ o H',Inv X pins σ H' s'∧IsPart u o∧Q o H') X.xe s
def x5G(t:TE):TO:=fun σ H Q=>t σ H fun x H1=>∃ i,x=.int i∧Q (some i) H1
section
variable{X:Cx}{e:Expr}{te:TE}{lo hi:Option Expr}{tl th:TO}{pos p2:Pos}
theorem z6h(h:PE X e te):PO X (some e) (x5G te):=by
 intro pins s σ H Q I hw
 rw[evalPart_some]
 refine thn (h pins s σ H _ I hw) fun u s1 h00=>?_
 obtain⟨x,H1,I1,r1,q1⟩:=h00
 obtain⟨i,rfl,q⟩:=q1
 obtain⟨t,rfl⟩:=r1
 exact⟨some i,H1,I1,.int i t,q⟩
def SlR(X:Cx)(r:V→Option Int→Option Int→Hp→VK→Prop):Prop:=
 ∀(pins:List (Addr×Obj)) (s:Shared) (σ:St) (H:Hp) (x:V) (v vl vu:Value) (lo hi:Option Int) (sl:Addr) (Q:VK),Inv X pins σ H s→RelV x v→s.heap.IsSliceOf sl vl vu .none→IsPart vl lo→IsPart vu hi→r x lo hi H Q →
  ∃ T id,typeLookup (.type T) "__getitem__"=pure (some (.builtin id))∧s.TypeIs v T∧wpAny (model X.prog X.w) X.A (getItem v (.ref sl)) (EP X pins σ Q) X.xe s
def tSl(r:V→Option Int→Option Int→Hp→VK→Prop)(te:TE)(tl th:TO):TE:=fun σ H Q=>te σ H fun x H1=>tl σ H1 fun l H2=>th σ H2 fun u H3=>r x l u H3 Q
theorem z9F{r:V→Option Int→Option Int→Hp→VK→Prop}(hr:SlR X r)(he:PE X e te)(hl:PO X lo tl)(hu:PO X hi th):PE X (.Subscript e (.Slice lo hi none p2) pos) (tSl r te tl th):=by
 intro pins s σ H Q I h
 refine Subscript_ (thn (he pins s σ H _ I h) fun v s1 h00=>?_)
 obtain⟨x,H1,I1,r1,q1⟩:=h00
 refine wpAny_Slice (thn (hl pins s1 σ H1 _ I1 q1) fun vl s2 h00=>?_)
 obtain⟨l,H2,I2,pl,q2⟩:=h00
 refine thn (hu pins s2 σ H2 _ I2 q2) fun vu s3 h00=>?_
 obtain⟨u,H3,I3,pu,q3⟩:=h00
 rw[evalPart_none]
 refine wpAny_pure ?_
 have I4:Inv X pins σ H3 { s3 with heap:=s3.heap.push { cls:=.type "slice",data:=.fields #[vl,vu,.none] } }:=I3.kept (t':=s3.toks) fun b ob q=>Heap.get?_push_of_some _ q
 obtain⟨T,id,hT,ht,hg⟩:=hr pins { s3 with heap:=s3.heap.push { cls:=.type "slice",data:=.fields #[vl,vu,.none] } } σ H3 x v vl vu l u s3.heap.objs.size Q I4 r1 (Heap.IsSliceOf.new ..) pl pu q3
 show wpAny (model X.prog X.w) X.A (subscriptTail e (.Slice lo hi none p2) v (.ref s3.heap.objs.size)) (EP X pins σ Q) X.xe { s3 with heap:=s3.heap.push { cls:=.type "slice",data:=.fields #[vl,vu,.none] } }
 exact tail_any (ops:=[.ref s3.heap.objs.size,v]) ht hT hg (by with_unfolding_all rfl)
def kU(xs:List V)(lo hi:Option Int):List V:=(xs.drop (HT.sIx xs.length 0 lo)).take (HT.sIx xs.length xs.length hi - HT.sIx xs.length 0 lo)
theorem z2X(xs:List V)(lo hi:Option Int):(kU xs lo hi).length≤xs.length:=by
 unfold kU
 rw[List.length_take,List.length_drop]
 omega
end
end L2
namespace L2
open PySem PySem.Spec PyProof.Rows
def ixN(n:Nat)(i:Int):Option Nat:=if 0≤i then (if i<n then some i.toNat else none) else if -(n:Int)≤i then some (i+n).toNat else none
def atI{α:Type}(xs:List α)(i:Int):Option α:=(ixN xs.length i).bind fun j=>xs[j]?
theorem z5V{n:Nat}{i:Int}{j:Nat}(h:ixN n i=some j):seqIndex? i n=some j∧j<n∧-(n:Int)≤i∧i<n:=by
 unfold ixN at h
 by_cases h0:0≤i
 ·rw[if_pos h0] at h
  by_cases h1:i<n
  ·rw[if_pos h1] at h
   have e:i.toNat=j:=Option.some.inj h
   exact⟨by rw[seqIndex_of h0 h1,e],by omega,by omega,h1⟩
  ·rw[if_neg h1] at h;cases h
 ·rw[if_neg h0] at h
  by_cases h1:-(n:Int)≤i
  ·rw[if_pos h1] at h
   have e:(i+n).toNat=j:=Option.some.inj h
   exact⟨by rw[seqIndex_neg (by omega) h1,e],by omega,h1,by omega⟩
  ·rw[if_neg h1] at h;cases h
theorem z5F{α:Type}{xs:List α}{i:Int}{v:α}(h:atI xs i=some v):∃ j,seqIndex? i xs.length=some j∧xs[j]?=some v∧j<xs.length∧-(xs.length:Int)≤i∧i<xs.length:=by
 unfold atI at h
 cases e:ixN xs.length i with
 |none=>rw[e] at h;cases h
 |some j=>
  rw[e] at h
  obtain⟨h1,h2,h3,h4⟩:=z5V e
  exact⟨j,h1,h,h2,h3,h4⟩
theorem y2B{α:Type}{xs:List α}{j:Nat}{v:α}(h:xs[j]?=some v):atI xs (j:Int)=some v:=by
 have hj:j<xs.length:=(List.getElem?_eq_some_iff.mp h).1
 have e:ixN xs.length (j:Int)=some j:=by
  unfold ixN
  rw[if_pos (by omega),if_pos (by omega)];simp
 unfold atI;rw[e];exact h
def z5l(b:Expr):Prop:=∀ o i,subscripted b false o i=operate [o,i] (getItem o i)
def IxR(X:Cx)(r:R2):Prop:=
 ∀(value slice:Expr) (pins:List (Addr×Obj)) (s:Shared) (σ:St) (H:Hp) (x y:V) (v u:Value) (Q:VK),Inv X pins σ H s→RelV x v→RelV y u→r x y H Q →
  subscripted slice false v u=operate [v,u] (getItem v u)→wpAny (model X.prog X.w) X.A (subscriptTail value slice v u) (EP X pins σ Q) X.xe s
def MtR(X:Cx)(id:String)(r:V→List V→Hp→VK→Prop):Prop:=
 ∀(pins:List (Addr×Obj)) (s:Shared) (σ:St) (H:Hp) (x:V) (xs:List V) (v:Value) (us:List Value) (Q:VK),Inv X pins σ H s→RelV x v→Vals xs us→r x xs H Q →
  wpAny (model X.prog X.w) X.A (call (.builtin id) (v::us)) (EP X pins σ Q) X.xe s
section
variable{X:Cx}{a b:Expr}{ta tb:TE}{pos:Pos}
theorem IxR.or{r r':R2}(h:IxR X r)(h':IxR X r'):IxR X (fun x y H Q=>r x y H Q∨r' x y H Q):=by
 intro value slice pins s σ H x y v u Q I rx ry q hs
 rcases q with q|q
 ·exact h value slice pins s σ H x y v u Q I rx ry q hs
 ·exact h' value slice pins s σ H x y v u Q I rx ry q hs
theorem cE{r:R2}(hr:IxR X r)(ha:PE X a ta)(hb:PE X b tb)(hs:z5l b):PE X (.Subscript a b pos) (tOp r ta tb):=by
 intro pins s σ H Q I h
 exact Subscript_ (binT ha hb I h fun v u s2 x y H2 I2 rx ry q=>hr a b pins s2 σ H2 x y v u Q I2 rx ry q (hs _ _))
def rIxL(K:PySem.W.Frag):R2:=fun x y H Q=>∃ p xs i v,x=.ref p∧y=.int i∧SqL K H p xs∧atI xs i=some v∧Q v H
def rIxT(K:PySem.W.Frag):R2:=fun x y H Q=>∃ p xs i v,x=.ref p∧y=.int i∧SqT K H p xs∧atI xs i=some v∧Q v H
theorem ix_list:IxR X (rIxL X.K):=by
 intro value slice pins s σ H x y v u Q I rx ry h hs
 obtain⟨p,xs,i,z,rfl,rfl,hq,he,q⟩:=h
 cases rx
 obtain⟨t,rfl⟩:=ry
 obtain⟨its,r,pl,hz⟩:=I.list hq
 obtain⟨j,h1,h2,h3,h4,h5⟩:=z5F he
 obtain⟨w,ew,rw'⟩:=r.get h2
 have hl:=r.length
 have hn:=lV
 have fin:EP X pins σ Q w s:=⟨z,H,I,rw',q⟩
 by_cases h0:0≤i
 ·have hj:i.toNat=j:=by
   rw[seqIndex_of h0 h5] at h1
   exact Option.some.inj h1
  exact item_listR pl.isList h0 (by omega) (by rw[hj];simpa using ew) fin hs
 ·have hj:(i+(its.toArray.size:Int)).toNat=j:=by
   rw[seqIndex_neg (by omega) h4] at h1
   rw[List.size_toArray,←hl]
   exact Option.some.inj h1
  exact subscriptTail_builtinR (x:=w) pl.isList.typeIs slot_list_getitem.lookup
   (wpAny_getItem_list_neg (Q:=fun r s'=>r=w∧EP X pins σ Q r s') pl.isList (by omega) (by rw[List.size_toArray] <;> omega) (by omega) (by rw[hj];simpa using ew) ⟨rfl,fin⟩) hs
theorem z9c:IxR X (rIxT X.K):=by
 intro value slice pins s σ H x y v u Q I rx ry h hs
 obtain⟨p,xs,i,z,rfl,rfl,hq,he,q⟩:=h
 cases rx
 obtain⟨t,rfl⟩:=ry
 obtain⟨its,r,pl,hz⟩:=I.tuple hq
 obtain⟨j,h1,h2,h3,h4,h5⟩:=z5F he
 obtain⟨w,ew,rw'⟩:=r.get h2
 have hl:=r.length
 have hn:=lV
 have fin:EP X pins σ Q w s:=⟨z,H,I,rw',q⟩
 exact subscriptTail_builtinR (x:=w) pl.typeIs slot_tuple_getitem.lookup
  (getItem_tuple (j:=j) (Q:=fun r s'=>r=w∧EP X pins σ Q r s') pl (by omega) (by omega) (by rw[List.size_toArray,←hl];exact h1) (by simpa using ew) ⟨rfl,fin⟩) hs
theorem z4C(its:List Value)(n j:Nat)(u:Value):Obj.mapSeq (·.setIfInBounds j u) { cls:=.type "list",data:=.seq its.toArray n }={ cls:=.type "list",data:=.seq (its.set j u).toArray n }:=by
 simp[Obj.mapSeq]
theorem Inv.lst{pins:List (Addr×Obj)}{σ:St}{H:Hp}{s:Shared}{p:Addr}{xs:List V}(I:Inv X pins σ H s)(h:H p=some (.lst xs)) :
  ∃(its:List Value) (n:Nat),Vals xs its∧s.heap.get? p=some { cls:=.type "list",data:=.seq its.toArray n }∧xs.length≤sizeLine:=by
 obtain⟨z,its,n,r,e⟩:=I.hok p _ h
 exact⟨its,n,r,e,z⟩
theorem Inv.lstUpd {pins:List (Addr×Obj)}{σ:St}{H:Hp}{s:Shared}{p:Addr}{xs ys:List V}{its its':List Value}{n n':Nat}{f:Obj→Obj} (I:Inv X pins σ H s) (h:H p=some (.lst xs))
  (ho:s.heap.get? p=some { cls:=.type "list",data:=.seq its.toArray n }) (hf:f { cls:=.type "list",data:=.seq its.toArray n }={ cls:=.type "list",data:=.seq its'.toArray n' }) (r:Vals ys its') (hz:ys.length≤sizeLine) (t:Nat) :
  Inv X pins σ (upd H p (.lst ys)) { s with heap:=s.heap.update p f,toks:=t }:=by
 have e:(s.heap.update p f).get? p=some { cls:=.type "list",data:=.seq its'.toArray n' }:=by
  rw[Heap.get?_update_self f ho (by rw[hf] <;> rfl),hf]
 refine I.write (x:=p) (e:=p) (by rw[h];trivial) (.inl rfl) (fun b u hb q=>(Heap.get?_update_other _ _ (Ne.symm hb)).trans q) ⟨_,e⟩ ?_
 exact⟨hz,its',n',r,e⟩
def y6E:V→V→V→Hp→(Hp→Prop)→Prop:=fun o i v H Q=>∃ p xs k j,o=.ref p∧i=.int k∧H p=some (.lst xs)∧ixN xs.length k=some j∧Q (upd H p (.lst (xs.set j v)))
theorem oF:PSet X y6E:=by
 intro pins s σ H o i v ov iv u Q I ro ri rv h
 obtain⟨p,xs,k,j,rfl,rfl,hp,hj,q⟩:=h
 cases ro
 obtain⟨t,rfl⟩:=ri
 obtain⟨its,n,r,ho,hz⟩:=I.lst hp
 obtain⟨h1,h2,h3,h4⟩:=z5V hj
 have hl:=r.length
 have hn:=lV
 have I':Inv X pins σ (upd H p (.lst (xs.set j v))) { s with heap:=s.heap.update p (Obj.mapSeq (·.setIfInBounds j u)) }:=
  I.lstUpd hp ho (z4C its n j u) (r.set rv j) (by rw[List.length_set];exact hz) s.toks
 by_cases h0:0≤k
 ·have hk:k.toNat=j:=by
   rw[seqIndex_of h0 h4] at h1
   exact Option.some.inj h1
  exact PySem.W.ki_setAt ho h0 (by omega) (by rw[List.size_toArray,←hl];exact h4) (by rw[hk];exact⟨_,I',q⟩)
 ·have hk:(k+(its.toArray.size:Int)).toNat=j:=by
   rw[seqIndex_neg (by omega) h3] at h1
   rw[List.size_toArray,←hl]
   exact Option.some.inj h1
  exact PySem.W.ki_setBack ho (by omega) (by rw[List.size_toArray,←hl];exact h3) (by omega) (by rw[hk];exact⟨_,I',q⟩)
theorem z2L(lo hi:Option Int)(n:Nat):(sliceBounds lo hi none n).1=((HT.sIx n 0 lo:Nat):Int)∧(sliceBounds lo hi none n).2.1=((HT.sIx n n hi:Nat):Int)∧(sliceBounds lo hi none n).2.2=1:=by
 refine⟨?_,?_,rfl⟩
 ·cases lo with
  |none=>simp[sliceBounds,HT.sIx]
  |some i=>
   simp only[sliceBounds,HT.sIx,Option.getD_none,show (1:Int)>0 by decide,if_true]
   by_cases h:i<0
   ·simp only[h,if_true] <;> omega
   ·simp only[h,if_false] <;> omega
 ·cases hi with
  |none=>simp[sliceBounds,HT.sIx]
  |some i=>
   simp only[sliceBounds,HT.sIx,Option.getD_none,show (1:Int)>0 by decide,if_true]
   by_cases h:i<0
   ·simp only[h,if_true] <;> omega
   ·simp only[h,if_false] <;> omega
theorem z1X(its:List Value)(lo hi:Option Int):slicePick its.toArray lo hi none=((its.drop (HT.sIx its.length 0 lo)).take (HT.sIx its.length its.length hi - HT.sIx its.length 0 lo)).toArray:=by
 obtain⟨h1,h2,h3⟩:=z2L lo hi its.toArray.size
 unfold slicePick
 rw[h1,h2,h3]
 simp only[sliceRange_one,pick_run,List.size_toArray] <;> rfl
def rSlL(K:PySem.W.Frag):V→Option Int→Option Int→Hp→VK→Prop:=fun x lo hi H Q=>∃ a xs,x=.ref a∧SqL K H a xs∧∀ p,H p=none→Q (.ref p) (upd H p (.lst (kU xs lo hi)))
theorem y3S:SlR X (rSlL X.K):=by
 intro pins s σ H x v vl vu lo hi sl Q I rx hs pl pu h
 obtain⟨a,xs,rfl,hx,q⟩:=h
 cases rx
 obtain⟨its,r,ht,hz⟩:=I.list hx
 have hlen:=r.length
 refine⟨"list",_,slot_list_getitem.lookup,ht.isList.typeIs,?_⟩
 refine wpAny_getItem_list_slice ht.isList hs pl pu .none (by simp) ?_ (by rw[List.size_toArray] <;> omega)
 rw[z1X,←hlen]
 refine⟨.ref s.heap.objs.size,_,I.laid (t':=s.toks) (o:=.lst (kU xs lo hi)) (fun b ob q=>Heap.get?_push_of_some _ q) (Nat.le_refl _) ?_,rfl,q _ (I.hok.fresh (Nat.le_refl _))⟩
 exact⟨Nat.le_trans (z2X xs lo hi) hz,_,0,(r.drop (HT.sIx xs.length 0 lo)).take (HT.sIx xs.length xs.length hi - HT.sIx xs.length 0 lo),Heap.get?_push_size _ rfl⟩
def iQ:V→Bool
 |.non=>true
 |.bl _=>true
 |.int _=>true
 |.str _=>true
 |_=>false
def eqV:V→V→Bool
 |.non,.non=>true
 |.bl a,.bl b=>a==b
 |.bl a,.int b=>(if a then 1 else 0)==b
 |.int a,.bl b=>a==(if b then 1 else 0)
 |.int a,.int b=>a==b
 |.str a,.str b=>a==b
 |_,_=>false
theorem y7B{A:Around}{s:Shared}{y x:V}{u v:Value}(ry:RelV y u)(rx:RelV x v)(fy:iQ y=true)(fx:iQ x=true):SeqAt.EqAt A s u v (eqV y x):=by
 cases y with
 |non=>
  cases ry
  cases x with
  |non=>cases rx;exact SeqAt.EqAt.same _
  |bl b=>cases rx;exact SeqAt.EqAt.none_bool b
  |int b=>obtain⟨t,rfl⟩:=rx;exact SeqAt.EqAt.none_int b t
  |str b=>obtain⟨t,rfl⟩:=rx;exact SeqAt.EqAt.none_str b t
  |_=>exact absurd (show false=true from fx) Bool.false_ne_true
 |bl a=>
  cases ry
  cases x with
  |non=>cases rx;exact SeqAt.EqAt.bool_none a
  |bl b=>cases rx;exact SeqAt.EqAt.bool_bool a b
  |int b=>obtain⟨t,rfl⟩:=rx;exact SeqAt.EqAt.bool_int a b t
  |str b=>obtain⟨t,rfl⟩:=rx;exact SeqAt.EqAt.bool_str a b t
  |_=>exact absurd (show false=true from fx) Bool.false_ne_true
 |int a=>
  obtain⟨t',rfl⟩:=ry
  cases x with
  |non=>cases rx;exact SeqAt.EqAt.int_none a t'
  |bl b=>cases rx;exact SeqAt.EqAt.int_bool a t' b
  |int b=>obtain⟨t,rfl⟩:=rx;exact SeqAt.EqAt.int_int a t' b t
  |str b=>obtain⟨t,rfl⟩:=rx;exact SeqAt.EqAt.int_str a t' b t
  |_=>exact absurd (show false=true from fx) Bool.false_ne_true
 |str a=>
  obtain⟨t',rfl⟩:=ry
  cases x with
  |non=>cases rx;exact SeqAt.EqAt.str_none a t'
  |bl b=>cases rx;exact SeqAt.EqAt.str_bool a t' b
  |int b=>obtain⟨t,rfl⟩:=rx;exact SeqAt.EqAt.str_int a t' b t
  |str b=>obtain⟨t,rfl⟩:=rx;exact SeqAt.EqAt.str_str a t' b t
  |_=>exact absurd (show false=true from fx) Bool.false_ne_true
 |_=>exact absurd (show false=true from fy) Bool.false_ne_true
def eqU(x:V)(u:Value):Bool:=match u with
 |.none=>eqV .non x
 |.bool b=>eqV (.bl b) x
 |.int i _=>eqV (.int i) x
 |.str z _=>eqV (.str z) x
 |_=>false
theorem z8D{x y:V}{u:Value}(r:RelV y u)(f:iQ y=true):eqU x u=eqV y x:=by
 cases y with
 |non=>cases r;rfl
 |bl b=>cases r;rfl
 |int i=>obtain⟨t,rfl⟩:=r;rfl
 |str z=>obtain⟨t,rfl⟩:=r;rfl
 |_=>exact absurd (show false=true from f) Bool.false_ne_true
theorem vH{x:V}:∀{xs:List V}{us:List Value},Vals xs us→xs.all iQ=true→us.any (eqU x)=xs.any fun y=>eqV y x
 |_,_,.nil,_=>rfl
 |y::xs,u::us,.cons r t,f=>by
  rw[List.all_cons,Bool.and_eq_true] at f
  rw[List.any_cons,List.any_cons,z8D r f.1,vH t f.2]
theorem uP{A:Around}{s:Shared}{x:V}{v:Value}(rx:RelV x v)(fx:iQ x=true):∀{xs:List V}{us:List Value},Vals xs us→xs.all iQ=true→∀ u∈us,SeqAt.EqAt A s u v (eqU x u)
 |_,_,.nil,_=>fun u hu=>by cases hu
 |y::xs,u::us,.cons r t,f=>fun u' hu=>by
  rw[List.all_cons,Bool.and_eq_true] at f
  rcases List.mem_cons.mp hu with rfl|hu
  ·rw[z8D r f.1];exact y7B r rx f.1 fx
  ·exact uP rx fx t f.2 u' hu
def inV(x:V)(xs:List V):Bool:=xs.any fun y=>eqV y x
def rIn(K:PySem.W.Frag)(neg:Bool):R2:=fun x y H Q=>∃ p xs,y=.ref p∧(SqL K H p xs∨SqT K H p xs)∧iQ x=true∧xs.all iQ=true∧Q (.bl (if neg then !inV x xs else inV x xs)) H
theorem z6Q:OpR X (compareOp .In) (rIn X.K false):=by
 intro pins s σ H x y v u Q I rx ry h
 obtain⟨p,xs,rfl,hq,fx,fs,q⟩:=h
 cases ry
 rcases hq with hq|hq
 ·obtain⟨its,r,pl,hz⟩:=I.list hq
  refine SeqAt.in_listAt (eqU x) pl.isList (fun w hw=>uP rx fx r fs w (by simpa using hw)) ⟨.bl _,H,I,rfl,?_⟩
  rw[show its.toArray.any (eqU x)=its.any (eqU x) by simp,vH r fs]
  exact q
 ·obtain⟨its,r,pl,hz⟩:=I.tuple hq
  refine SeqAt.in_tupleAt (eqU x) pl (fun w hw=>uP rx fx r fs w (by simpa using hw)) ⟨.bl _,H,I,rfl,?_⟩
  rw[show its.toArray.any (eqU x)=its.any (eqU x) by simp,vH r fs]
  exact q
theorem z0y:pI X (.builtin "len") (fun xs H Q=>∃ p ys,xs=[.ref p]∧(SqL X.K H p ys∨SqT X.K H p ys)∧Q (.int ys.length) H):=by
 intro pins s σ H xs us Q I r h
 obtain⟨p,ys,rfl,hq,q⟩:=h
 obtain⟨u,rfl,rx⟩:=y0H r
 cases rx
 have hn:=lV
 rcases hq with hq|hq
 ·obtain⟨its,r',pl,hz⟩:=I.list hq
  have hlen:=r'.length
  exact Calls.call_len_list pl.isList (by simp only[List.size_toArray] <;> omega) ⟨.int ys.length,H,I.tok _,⟨s.toks+1,by rw[List.size_toArray,hlen]⟩,q⟩
 ·obtain⟨its,r',pl,hz⟩:=I.tuple hq
  have hlen:=r'.length
  exact len_tuple pl (by simp only[List.size_toArray] <;> omega) ⟨.int ys.length,H,I.tok _,⟨s.toks+1,by rw[List.size_toArray,hlen]⟩,q⟩
def tyV(K:PySem.W.Frag)(T:String)(x:V)(H:Hp):Prop:=match x with
 |.str _=>T="str"
 |.int _=>T="int"
 |.ref p=>(T="list"∧∃ xs,SqL K H p xs)∨(T="tuple"∧∃ o,K.lookup p=some o∧o.cls=.type "tuple"∧o.dict=none) ∨
   (T="dict"∧((∃ kvs,H p=some (.dK kvs))∨∃ kvs,H p=some (.dT kvs)))∨(T="set"∧∃ S n,H p=some (.set S n))
 |_=>False
theorem y8N{pins:List (Addr×Obj)}{σ:St}{H:Hp}{s:Shared}{T:String}{x:V}{v:Value}(I:Inv X pins σ H s)(r:RelV x v)(ty:tyV X.K T x H) :
  s.TypeIs v T∧∀ a,v=.ref a→∃ ob,s.heap.get? a=some ob∧ob.dict=none:=by
 cases x with
 |str z=>
  obtain⟨t,rfl⟩:=r
  cases (show T="str" from ty)
  exact⟨typeIs_str s z t,fun _ e=>nomatch e⟩
 |int i=>
  obtain⟨t,rfl⟩:=r
  cases (show T="int" from ty)
  exact⟨typeIs_int s i t,fun _ e=>nomatch e⟩
 |ref p=>
  cases r
  rcases ty with ⟨rfl,xs,hq⟩|⟨rfl,o,hk,hc,hd⟩|⟨rfl,hk⟩|⟨rfl,S,n,hk⟩
  ·obtain⟨its,_,pl,_⟩:=I.list hq
   refine⟨pl.isList.typeIs,fun a e=>?_⟩
   cases e
   obtain⟨o,n,e,c,hd,_⟩:=pl
   exact⟨o,e,hd⟩
  ·refine⟨⟨o,I.kIn p o hk,hc⟩,fun a e=>?_⟩
   cases e
   exact⟨o,I.kIn _ o hk,hd⟩
  ·have z:∃ o,s.heap.get? p=some o∧o.ExactDict:=by
    rcases hk with ⟨kvs,hk⟩|⟨kvs,hk⟩
    ·obtain⟨_,_,_,_,o,_,_,e,ex,_⟩:=I.hok p _ hk
     exact⟨o,e,ex⟩
    ·obtain⟨_,_,_,_,o,_,_,e,ex,_⟩:=I.hok p _ hk
     exact⟨o,e,ex⟩
   obtain⟨o,e,ex⟩:=z
   refine⟨⟨o,e,ex.1⟩,fun a e2=>?_⟩
   cases e2
   exact⟨o,e,ex.2.1⟩
  ·obtain⟨o,_,_,_,e,ex,_⟩:=I.hok p _ hk
   refine⟨⟨o,e,ex.1⟩,fun a e2=>?_⟩
   cases e2
   exact⟨o,e,ex.2.1⟩
 |_=>exact False.elim ty
def tBM(K:PySem.W.Frag)(T:String)(r:V→List V→Hp→VK→Prop)(to:TE)(t:TA):TE:=fun σ H Q=>to σ H fun x H1=>tyV K T x H1∧t σ H1 fun xs H2=>r x xs H2 Q
variable{o e:Expr}{es:List Expr}{to:TE}{t:TA}{name:Str}{apos cpos:Pos}{T id:String}{r:V→List V→Hp→VK→Prop}
theorem dU (pa:PlainAttrs T) (slot:Slot T name id) (hty:typeOf (.builtin id)=pure (.type "method_descriptor")) (hm:MtR X id r) (ho:PE X o to) (ha:PA X (e::es) t)
  (hbase:attributeBase o name X.env (eval o X.env)=eval o X.env:=by rfl)
  (hfew:((backTo cpos (starEach (e::es) X.env)).all (fun x=>!x.1)&&(backToKw cpos (keywordEach [] X.env)).all (fun x=>x.1.isSome)
   && decide ((e::es).length+([]:List Keyword).length+(if ([]:List Keyword).isEmpty then 0 else 1)<30))=true:=by rfl)
  (hline:(apos.endLine==cpos.line)=true:=by rfl) (hs:starEach (e::es) X.env=(false,eval e X.env)::starEach es X.env:=by rfl) (hplain:(backTo cpos (starEach es X.env)).any (·.1)=false:=by rfl) :
  PE X (.Call (.Attribute o name apos) (e::es) [] cpos) (tBM X.K T r to t):=by
 intro pins s σ H Q I h
 refine wpAny_Call_method_late hbase hfew hline rfl (thn (ho pins s σ H _ I h) fun v s1 h00=>?_)
 obtain⟨x,H1,I1,r1,ty,q1⟩:=h00
 obtain⟨h1,h2⟩:=y8N I1 r1 ty
 refine⟨T,id,pa,slot,hty,h1,h2,?_⟩
 have hA:=ha cpos pins s1 σ H1 _ I1 q1
 rw[hs] at hA ⊢
 refine Calls.callWith_builtin (by show (false||(backTo cpos (starEach es X.env)).any (·.1))=false;rw[hplain] <;> rfl) (Calls.evalArgs_plain ?_)
 refine thn hA fun us s2 h00=>?_
 obtain⟨vs,H2,I2,r2,q2⟩:=h00
 exact hm pins s2 σ H2 x vs v us Q I2 r1 r2 q2
end
end L2
namespace L2
open PySem PySem.Spec PyProof.Rows
def MtM(X:Cx)(id:String)(r:V→List V→Hp→VK→Prop):Prop:=
 ∀(pins:List (Addr×Obj)) (s:Shared) (σ:St) (H:Hp) (x:V) (xs:List V) (v:Value) (us:List Value) (Q:VK),Inv X pins σ H s→RelV x v→Vals xs us→r x xs H Q →
  wpAny (model X.prog X.w) X.A (call (.builtin id) (v::us)) (EP X pins σ Q) X.xe s
theorem Vals.one:∀{x:V}{us:List Value},Vals [x] us→∃ u,us=[u]∧RelV x u
 |_,_,.cons r .nil=>⟨_,rfl,r⟩
theorem Vals.rep{xs:List V}{us:List Value}(h:Vals xs us):∀ k:Nat,Vals (List.replicate k xs).flatten (List.replicate k us).flatten
 |0=>.nil
 |k+1=>by
  rw[List.replicate_succ,List.replicate_succ,List.flatten_cons,List.flatten_cons]
  exact Vals.append h (Vals.rep h k)
theorem z2p(its:List Value):∀(k:Nat) (acc:List Value),
  List.foldl (fun x1 x2=>x1++x2) acc.toArray (List.replicate k its.toArray)=(acc++(List.replicate k its).flatten).toArray
 |0,acc=>by simp
 |k+1,acc=>by
  have e:acc.toArray++its.toArray=(acc++its).toArray:=by simp
  have e2:(acc++its)++(List.replicate k its).flatten=acc++(List.replicate (k+1) its).flatten:=by
   rw[List.replicate_succ,List.flatten_cons,List.append_assoc]
  rw[←e2,←z2p its k (acc++its),←e,List.replicate_succ,List.foldl_cons]
section
variable{X:Cx}{pins:List (Addr×Obj)}{σ:St}{H:Hp}{s:Shared}{l b:Addr}{xs ys zs:List V}
theorem Inv.lset {its its':List Value}{n:Nat}{f:Array Value→Array Value}{t':Nat} (I:Inv X pins σ H s) (hH:H l=some (.lst xs))
  (e:s.heap.get? l=some { cls:=.type "list",data:=.seq its.toArray n }) (hf:f its.toArray=its'.toArray) (hv:Vals ys its') (hz:ys.length≤sizeLine) :
  Inv X pins σ (upd H l (.lst ys)) { s with heap:=s.heap.update l (Obj.mapSeq f),toks:=t' }:=by
 have q:=PySem.IsL.update e f
 rw[hf] at q
 refine I.write (x:=l) (e:=l) (by rw[hH];exact trivial) (.inl rfl) (fun b' u hb hu=>(Heap.get?_update_other s.heap (Obj.mapSeq f) (Ne.symm hb)).trans hu) ⟨_,q⟩ ?_
 exact⟨hz,its',_,hv,q⟩
theorem Inv.lnew{its:List Value}{t':Nat}(I:Inv X pins σ H s)(hv:Vals ys its)(hz:ys.length≤sizeLine) :
  Inv X pins σ (upd H s.heap.objs.size (.lst ys)) { s with heap:=s.heap.push { cls:=.type "list",data:=.seq its.toArray },toks:=t' }:=
 I.laid (fun _ _ q=>Heap.get?_push_of_some _ q) (Nat.le_refl _) ⟨hz,its,0,hv,Heap.get?_push_size _ rfl⟩
theorem Inv.fresh(I:Inv X pins σ H s):H s.heap.objs.size=none:=I.hok.fresh (Nat.le_refl _)
theorem Inv.lstM(I:Inv X pins σ H s)(hH:H l=some (.lst xs)):xs.length≤sizeLine∧∃(its:List Value) (n:Nat),Vals xs its∧xs.length=its.length∧s.heap.get? l=some { cls:=.type "list",data:=.seq its.toArray n }:=by
 obtain⟨z,its,n,r,e⟩:=I.hok l _ hH
 exact⟨z,its,n,r,r.length,e⟩
theorem z3u{n:Nat}(h:n≤sizeLine):Builtin.List.listTooLong n=false:=by
 unfold Builtin.List.listTooLong
 exact decide_eq_false (by omega)
end
section
variable{X:Cx}
def y3w:V→List V→Hp→VK→Prop:=fun x vs H Q=>∃ l xs y,x=.ref l∧vs=[y]∧H l=some (.lst xs)∧xs.length<sizeLine∧Q .non (upd H l (.lst (xs++[y])))
theorem kE:MtM X "list.append" y3w:=by
 intro pins s σ H x vs v us Q I rx rv h
 obtain⟨l,xs,y,rfl,rfl,hH,hz,q⟩:=h
 cases rx
 obtain⟨u,rfl,ru⟩:=rv.one
 obtain⟨z,its,n,r,hl,e⟩:=I.lstM hH
 refine call_meets F.slot_list_append ⟨_,e,rfl⟩ F.entry_list_append (F.args_list_append_2 _ _) (PySem.list_append l its.toArray n u (by rw[List.size_toArray];omega)) ⟨e,?_⟩
 refine⟨.non,_,I.lset (its':=its++[u]) hH e (by simp) (r.append (.cons ru .nil)) ?_,rfl,q⟩
 rw[List.length_append,List.length_singleton]
 omega
def y3x:V→List V→Hp→VK→Prop:=fun x vs H Q=>∃ l b xs zs,x=.ref l∧vs=[.ref b]∧H l=some (.lst xs)∧H b=some (.lst zs)∧xs.length+zs.length≤sizeLine∧Q .non (upd H l (.lst (xs++zs)))
theorem z6N:MtM X "list.extend" y3x:=by
 intro pins s σ H x vs v us Q I rx rv h
 obtain⟨l,b,xs,zs,rfl,rfl,hH,hB,hz,q⟩:=h
 cases rx
 obtain⟨u,rfl,ru⟩:=rv.one
 cases ru
 obtain⟨z,its,n,r,hl,e⟩:=I.lstM hH
 obtain⟨z2,its2,n2,r2,hl2,e2⟩:=I.lstM hB
 have hsz:its.toArray.size+its2.toArray.size≤sizeLine:=by rw[List.size_toArray,List.size_toArray];omega
 have hlong:¬(!its.toArray.isEmpty&&Builtin.List.listTooLong (its.toArray.size+its2.toArray.size))=true:=by
  rw[z3u hsz,Bool.and_false]
  exact Bool.false_ne_true
 refine call_meets F.slot_list_extend ⟨_,e,rfl⟩ F.entry_list_extend (F.args_list_extend_2 _ _)
  (AutoSeq1.list_extend_list_list_0 l its.toArray n b its2.toArray n2 hlong (by rw[List.size_toArray];omega) (by omega)) ⟨e,e2,?_⟩
 refine⟨.non,_,I.lset (its':=its++its2) hH e (by simp) (r.append r2) ?_,rfl,q⟩
 rw[List.length_append]
 omega
def rCat:R2:=fun x y H Q=>∃ l b xs zs,x=.ref l∧y=.ref b∧H l=some (.lst xs)∧H b=some (.lst zs)∧xs.length+zs.length≤sizeLine∧∀ p,H p=none→Q (.ref p) (upd H p (.lst (xs++zs)))
theorem y8i:OpR X (binaryOp .Add) rCat:=by
 intro pins s σ H x y v u Q I rx ry h
 obtain⟨l,b,xs,zs,rfl,rfl,hH,hB,hz,q⟩:=h
 cases rx
 cases ry
 obtain⟨z,its,n,r,hl,e⟩:=I.lstM hH
 obtain⟨z2,its2,n2,r2,hl2,e2⟩:=I.lstM hB
 refine PySem.P.add_list e e2 ?_ (by rw[List.size_toArray,List.size_toArray];omega)
 have ea:its.toArray++its2.toArray=(its++its2).toArray:=by simp
 rw[ea]
 exact⟨.ref _,_,I.lnew (t':=s.toks) (r.append r2) (by rw[List.length_append];omega),rfl,q _ I.fresh⟩
def rRep:R2:=fun x y H Q=>∃ l k xs,x=.ref l∧y=.int k∧H l=some (.lst xs)∧-(2 ^ 63)≤k∧k<2 ^ 63∧xs.length * k.toNat≤sizeLine ∧
 ∀ p,H p=none→Q (.ref p) (upd H p (.lst (List.replicate k.toNat xs).flatten))
theorem y3b{α:Type}(xs:List α)(k:Nat):(List.replicate k xs).flatten.length=k * xs.length:=by
 induction k with
 |zero=>simp
 |succ k ih=>rw[List.replicate_succ,List.flatten_cons,List.length_append,ih,Nat.succ_mul,Nat.add_comm]
theorem pA:OpR X (binaryOp .Mult) rRep:=by
 intro pins s σ H x y v u Q I rx ry h
 obtain⟨l,k,xs,rfl,rfl,hH,h1,h2,hz,q⟩:=h
 cases rx
 obtain⟨t,rfl⟩:=ry
 obtain⟨z,its,n,r,hl,e⟩:=I.lstM hH
 have hlen:its.toArray.size * k.toNat≤sizeLine:=by rw[List.size_toArray,←hl];exact hz
 have hcap:¬ its.toArray.size * k.toNat>(2 ^ 63 - 1) / 8:=by
  have:(sizeLine:Nat)≤(2 ^ 63 - 1) / 8:=by decide
  omega
 have hfit:¬(!Builtin.List.listFitsIndex k)=true:=by
  rw[fitsIndex_both h1 h2]
  exact Bool.false_ne_true
 have hlong:¬ Builtin.List.listTooLong (its.toArray.size * k.toNat)=true:=by
  rw[z3u hlen]
  exact Bool.false_ne_true
 have hnew:List.foldl (fun x1 x2=>x1++x2) #[] (List.replicate (if its.toArray.isEmpty=true then 0 else k.toNat) its.toArray)=(List.replicate k.toNat its).flatten.toArray:=by
  have f0:∀ m:Nat,List.foldl (fun x1 x2=>x1++x2) #[] (List.replicate m its.toArray)=(List.replicate m its).flatten.toArray:=fun m=>by
   have:=z2p its m []
   rw[List.nil_append] at this
   exact this
  rw[f0]
  cases its with
  |nil=>simp
  |cons a r'=>rw[if_neg (by simp)]
 refine wpAny_binaryOp_repeat_ref (T:="list") (U:="int") (by decide) ⟨_,e,rfl⟩ (fun s'=>typeIs_int s' k t) noFill_list_mul F.fills_int_mul F.slot_int_rmul repeat_list F.slot_int_index.lookup
  (call_meets F.slot_int_rmul (typeIs_int s k t) F.entry_int_rmul (F.args_int_rmul_2 _ _) (int___rmul___int_list k t l its.toArray n)
   ⟨e,rfl,⟨_,e,rfl⟩,call_meets F.slot_list_mul ⟨_,e,rfl⟩ F.entry_list_mul (F.args_list_mul_2 _ _) (AutoListH.list___mul___list_int_3 l its.toArray n k t hfit hcap hlong) ⟨e,?_⟩⟩)
 rw[hnew]
 exact⟨.ref _,_,I.lnew (t':=s.toks) (r.rep k.toNat) (by rw[y3b,Nat.mul_comm];exact hz),rfl,q _ I.fresh⟩
end
end L2
namespace L2
open PySem PySem.Spec PyProof.Rows
theorem z2O:∀{us:List Value}{ns:List Int},IntsAre us ns→Vals (ns.map V.int) us
 |_,_,.nil=>by rw[List.map_nil];exact Paired.nil
 |_,_,.cons n t h=>by rw[List.map_cons];exact Paired.cons (show RelV (V.int n) (Value.int n t) from ⟨t,rfl⟩) (z2O h)
end L2
namespace L2
open PySem PySem.Spec PyProof.Rows
abbrev z7J(h:Heap)(c:Addr)(v:Option Value):Prop:=h.IsCell c v
def relS(scope sc:Scope):Scope:=
 { scope with names:=scope.names.map fun(n,k)=>if (k==.free&&sc.kind==.function&&sc.names.lookup n==some .cell) then (n,.cell) else (n,k) }
def cH(cells:List (Str×Addr)):List (Str×NameKind)→List (Str×Addr)→List (Str×Addr)
 |[],acc=>acc
 |(n,k)::r,acc=>if k==.free then cH cells r ((n,(cells.lookup n).getD 0)::acc) else cH cells r acc
theorem z0z (env:Env) (f:Str×NameKind→List (Str×Addr)→Sem (ForInStep (List (Str×Addr))))
  (hf:∀ n k c,f (n,k) c=if k==.free then (do let a ← cellOf env n;pure (.yield ((n,a)::c))) else pure (.yield c)) :
  ∀(names:List (Str×NameKind)) (acc:List (Str×Addr)),(∀ y∈names,y.2=.free→∃ c,env.cells.lookup y.1=some c)→forIn names acc f=pure (cH env.cells names acc)
 |[],acc,_=>by rw[List.forIn_nil];rfl
 |(n,k)::r,acc,h=>by
  rw[List.forIn_cons,hf]
  have ih:=fun acc=>z0z env f hf r acc fun y hy=>h y (List.mem_cons_of_mem _ hy)
  unfold cH
  by_cases hk:(k==NameKind.free)=true
  ·rw[if_pos hk,if_pos hk]
   obtain⟨c,hc⟩:=h (n,k) List.mem_cons_self (by simpa using hk)
   have e:cellOf env n=pure c:=by unfold cellOf;rw[hc]
   rw[e]
   have e2:(env.cells.lookup n).getD 0=c:=by rw[hc];rfl
   rw[e2]
   exact ih _
  ·rw[if_neg hk,if_neg hk]
   exact ih _
theorem z4q{scope:Scope}{env:Env}(h:∀ y∈scope.names,y.2=.free→∃ c,env.cells.lookup y.1=some c):closureFor scope env=pure (cH env.cells scope.names []):=by
 simp only[closureFor]
 rw[z0z env _ (fun n k c=>rfl) scope.names [] h]
 rfl
theorem tF{α:Type}:∀{l:List (Str×α)}{n:Str}{c:α},(n,c)∈l→∃ c',l.lookup n=some c'
 |(k,v)::r,n,c,h=>by
  rw[List.lookup_cons]
  cases hb:n==k with
  |true=>exact⟨_,rfl⟩
  |false=>
   rcases List.mem_cons.mp h with e|h
   ·cases e;simp at hb
   ·exact tF h
theorem nN{cells:List (Str×Addr)}:∀{names:List (Str×NameKind)}{acc:List (Str×Addr)}{n:Str}{c:Addr},(n,c)∈cH cells names acc→(n,c)∈acc∨((n,.free)∈names∧c=(cells.lookup n).getD 0)
 |[],_,_,_,h=>.inl h
 |(m,k)::r,acc,n,c,h=>by
  unfold cH at h
  split at h
  ·rename_i hk
   have hk:k=.free:=by simpa using hk
   rcases nN h with h|⟨h1,h2⟩
   ·rcases List.mem_cons.mp h with e|h
    ·cases e;exact .inr ⟨hk▸List.mem_cons_self,rfl⟩
    ·exact .inl h
   ·exact .inr ⟨List.mem_cons_of_mem _ h1,h2⟩
  ·rcases nN h with h|⟨h1,h2⟩
   ·exact .inl h
   ·exact .inr ⟨List.mem_cons_of_mem _ h1,h2⟩
theorem sK{cells:List (Str×Addr)}:∀{names:List (Str×NameKind)}{acc:List (Str×Addr)}{p:Str×Addr},p∈acc→p∈cH cells names acc
 |[],_,_,h=>h
 |(m,k)::r,acc,p,h=>by
  unfold cH
  split
  ·exact sK (List.mem_cons_of_mem _ h)
  ·exact sK h
theorem sL{cells:List (Str×Addr)}:∀{names:List (Str×NameKind)}{acc:List (Str×Addr)}{n:Str},(n,.free)∈names→(n,(cells.lookup n).getD 0)∈cH cells names acc
 |(m,k)::r,acc,n,h=>by
  unfold cH
  rcases List.mem_cons.mp h with e|h
  ·cases e
   exact sK List.mem_cons_self
  ·split
   ·exact sL h
   ·exact sL h
theorem lE:∀{names:List (Str×NameKind)}{h:Heap}{acc:List (Str×Addr)}{x:Str}{c:Addr},(x,c)∈cellsFrom h.objs.size names acc →
  (x,c)∈acc∨((x,.cell)∈names∧h.objs.size≤c∧z7J (pushCells h names) c none)
 |[],_,_,_,_,h=>.inl h
 |(n,k)::r,h,acc,x,c,hm=>by
  unfold cellsFrom at hm
  unfold pushCells
  split at hm
  ·rename_i hk
   rw[if_pos hk]
   have hk:k=.cell:=by simpa using hk
   rw[←Heap.size_push h { cls:=.type "cell",data:=.cell none }] at hm
   rcases lE hm with hm|⟨h1,h2,h3⟩
   ·rcases List.mem_cons.mp hm with e|hm
    ·cases e
     exact .inr ⟨hk▸List.mem_cons_self,Nat.le_refl _,_,pushCells_keeps r _ _ _ (Heap.get?_push_size _ rfl),rfl⟩
    ·exact .inl hm
   ·rw[Heap.size_push] at h2
    exact .inr ⟨List.mem_cons_of_mem _ h1,Nat.le_of_succ_le h2,h3⟩
  ·rename_i hk
   rw[if_neg hk]
   rcases lE hm with hm|⟨h1,h2,h3⟩
   ·exact .inl hm
   ·exact .inr ⟨List.mem_cons_of_mem _ h1,h2,h3⟩
theorem nT:∀{names:List (Str×NameKind)}{n:Nat}{acc:List (Str×Addr)}{p:Str×Addr},p∈acc→p∈cellsFrom n names acc
 |[],_,_,_,h=>h
 |(m,k)::r,n,acc,p,h=>by
  unfold cellsFrom
  split
  ·exact nT (List.mem_cons_of_mem _ h)
  ·exact nT h
theorem tT:∀{names:List (Str×NameKind)}{n:Nat}{acc:List (Str×Addr)}{x:Str},(x,.cell)∈names→∃ c,(x,c)∈cellsFrom n names acc
 |(m,k)::r,n,acc,x,h=>by
  unfold cellsFrom
  rcases List.mem_cons.mp h with e|h
  ·cases e
   exact⟨n,nT List.mem_cons_self⟩
  ·split
   ·exact tT h
   ·exact tT h
theorem tU:∀{names:List (Str×NameKind)}{h:Heap}{acc:List (Str×Addr)}{x y:Str}{c:Addr},(∀ p∈acc,p.2<h.objs.size)→(∀ x y c,(x,c)∈acc→(y,c)∈acc→x=y) →
  (x,c)∈cellsFrom h.objs.size names acc→(y,c)∈cellsFrom h.objs.size names acc→x=y
 |[],_,_,_,_,_,_,hi,h1,h2=>hi _ _ _ h1 h2
 |(n,k)::r,h,acc,x,y,c,hl,hi,h1,h2=>by
  unfold cellsFrom at h1 h2
  split at h1
  ·rename_i hk
   rw[if_pos hk] at h2
   rw[←Heap.size_push h { cls:=.type "cell",data:=.cell none }] at h1 h2
   refine tU (h:=h.push _) (fun p hp=>?_) (fun x y c a b=>?_) h1 h2
   ·rw[Heap.size_push]
    rcases List.mem_cons.mp hp with rfl|hp
    ·exact Nat.lt_succ_self _
    ·exact Nat.lt_succ_of_lt (hl p hp)
   ·rcases List.mem_cons.mp a with e|a <;> rcases List.mem_cons.mp b with e'|b
    ·cases e;cases e';rfl
    ·cases e;exact absurd (hl _ b) (Nat.lt_irrefl _)
    ·cases e';exact absurd (hl _ a) (Nat.lt_irrefl _)
    ·exact hi _ _ _ a b
  ·rename_i hk
   rw[if_neg hk] at h2
   exact tU hl hi h1 h2
theorem z3t {M:Model}{A:Around}{E:Value→Shared→Prop}{s:Shared}{scope:Scope}{globals:Addr}{closure:List (Str×Addr)}{qual:Str}{func:Option Addr}{code:Value}{around:Env}{builtins:Addr}{Q:Env→Shared→Prop}
  (h:Q (newEnv scope s.heap.objs.size globals (cellsFrom (s.heap.objs.size+1) scope.names closure) qual func code (some around) builtins)
   { s with heap:=pushCells (s.heap.push { cls:=.type "dict",data:=.dict #[] }) scope.names }) :
  wpAny M A (newFunctionEnv scope globals closure [] qual func code (some around) builtins) Q E s:=by
 simp only[newFunctionEnv,Option.isSome_some,if_true]
 refine wpAny_bind (wpAny_alloc ?_)
 refine wpAny_bind (wpAny_layCells _ (fun n k c=>rfl) scope.names closure _ _ ?_)
 rw[show ({ s with heap:=s.heap.push { cls:=.type "dict",data:=.dict #[] } }:Shared).heap.objs.size=s.heap.objs.size+1 from Heap.size_push ..]
 rw[List.forIn_nil]
 exact wpAny_bind (wpAny_pure (wpAny_pure h))
theorem sM{sc:Scope}:∀{names:List (Str×NameKind)}{x:Str}{k:NameKind},
  (names.map fun(n,k)=>if (k==NameKind.free&&sc.kind==.function&&sc.names.lookup n==some .cell) then (n,NameKind.cell) else (n,k)).lookup x=some k →
  ∃ k',names.lookup x=some k'∧(k=k'∨(k'=.free∧k=.cell))
 |[],_,_,h=>by simp at h
 |(n,k₀)::r,x,k,h=>by
  have ih:=@sM sc r x k
  have h':List.lookup x ((if (k₀==NameKind.free&&sc.kind==.function&&sc.names.lookup n==some .cell)=true then (n,NameKind.cell) else (n,k₀))::(r.map _))=some k:=h
  cases hx:x==n with
  |true=>
   simp only[List.lookup_cons,hx]
   by_cases hc:(k₀==NameKind.free&&sc.kind==.function&&sc.names.lookup n==some .cell)=true
   ·rw[if_pos hc] at h'
    simp only[List.lookup_cons,hx] at h'
    cases h'
    simp only[Bool.and_eq_true,beq_iff_eq] at hc
    exact⟨k₀,rfl,.inr ⟨hc.1.1,rfl⟩⟩
   ·rw[if_neg hc] at h'
    simp only[List.lookup_cons,hx] at h'
    cases h'
    exact⟨_,rfl,.inl rfl⟩
  |false=>
   simp only[List.lookup_cons,hx]
   by_cases hc:(k₀==NameKind.free&&sc.kind==.function&&sc.names.lookup n==some .cell)=true
   ·rw[if_pos hc] at h'
    simp only[List.lookup_cons,hx] at h'
    exact ih h'
   ·rw[if_neg hc] at h'
    simp only[List.lookup_cons,hx] at h'
    exact ih h'
structure BlkOk(N:List Str)(sc scope:Scope)(own:List (Str×Nat)):Prop where
 kind:scope.kind=.function
 uniq:∀ y∈scope.names,scope.names.lookup y.1=some y.2
 ix:∀ p∈own,N[p.2]?=some p.1
 free:∀ y∈scope.names,y.2=.free→sc.names.lookup y.1=some .cell∨sc.names.lookup y.1=some .free
 own:∀ y∈scope.names,y.2=.local∨y.2=.cell→y.1∈own.map (·.1)∨y.1∉N
def cT(σ:St):List Nat→St
 |[]=>σ
 |v::vs=>(cT σ vs).set v none
theorem sO(σ:St):∀ vs:List Nat,(cT σ vs).length=σ.length
 |[]=>rfl
 |v::vs=>by unfold cT;rw[List.length_set,sO σ vs]
theorem uC{σ:St}{i:Nat}{x:V}:∀{vs:List Nat},(cT σ vs)[i]?=some (some x)→σ[i]?=some (some x)∧i∉vs
 |[],h=>⟨h,by simp⟩
 |v::vs,h=>by
  unfold cT at h
  by_cases hi:v=i
  ·subst hi
   by_cases hv:v<(cT σ vs).length
   ·rw[List.getElem?_set_self hv] at h;cases h
   ·rw[List.getElem?_eq_none (by simpa using hv)] at h;cases h
  ·rw[List.getElem?_set_ne hi] at h
   obtain⟨h1,h2⟩:=uC h
   exact⟨h1,by simp only[List.mem_cons,not_or];exact⟨fun e=>hi e.symm,h2⟩⟩
abbrev Cx.blk(X:Cx)(s:Shared)(H:Hp)(scope:Scope)(cenv:Env)(fp:List Addr):Cx:={ X with s₀:=s,H₀:=H,env:=cenv,outer:=X.stack,ex:=fp,fn:=fun x=>scope.names.lookup x==some .cell,pn:=[],xe:=fun _ _=>False }
section
variable{X:Cx}{pins:List (Addr×Obj)}{σ:St}{H:Hp}{s:Shared}
theorem z2S{scope:Scope}{own:List (Str×Nat)}{fp:List Addr}(I:Inv X pins σ H s)(ok:BlkOk X.N X.env.scope scope own)(hN:X.N.Nodup)(hfp:∀ b∈fp,fW X pins H b∧b<s.heap.objs.size) :
  Inv (X.blk s H scope (compEnvC scope (cellsFrom (s.heap.objs.size+1) scope.names (cH X.env.cells scope.names [])) s.heap.objs.size X.env) fp) [] (cT σ (own.map (·.2))) H { s with heap:=pushCells (s.heap.push { cls:=.type "dict",data:=.dict #[] }) scope.names }:=by
 have hfree:∀ y∈scope.names,y.2=.free→∃ c,X.env.cells.lookup y.1=some c:=fun y hy e=>by
  rcases ok.free y hy e with k|k
  ·exact I.ok.has _ (.inl k)
  ·exact I.ok.has _ (.inr k)
 generalize hcenv:compEnvC scope (cellsFrom (s.heap.objs.size+1) scope.names (cH X.env.cells scope.names [])) s.heap.objs.size X.env=cenv
 have kp:∀ b o,s.heap.get? b=some o→(pushCells (s.heap.push { cls:=.type "dict",data:=.dict #[] }) scope.names).get? b=some o:=fun b o e=>pushCells_keeps _ _ _ _ (Heap.get?_push_of_some _ e)
 have hL:cenv.locals=s.heap.objs.size:=by rw[←hcenv];rfl
 have hcl:cenv.cells=cellsFrom (s.heap.objs.size+1) scope.names (cH X.env.cells scope.names []):=by rw[←hcenv];rfl
 have hsc:cenv.scope=relS scope X.env.scope:=by rw[←hcenv];rfl
 rw[←Heap.size_push s.heap { cls:=.type "dict",data:=.dict #[] }] at hcl
 have cm:∀{y c},(y,c)∈cH X.env.cells scope.names []→X.env.cells.lookup y=some c∧c<s.heap.objs.size:=fun {y c} hm=>by
  rcases nN hm with hm|⟨h1,rfl⟩
  ·cases hm
  ·obtain⟨c,hc⟩:=hfree _ h1 rfl
   rw[hc]
   obtain⟨w,z⟩:=I.cell _ _ hc
   exact⟨rfl,z.lt⟩
 have mem:∀{y c},cenv.cells.lookup y=some c→(X.env.cells.lookup y=some c∧c<s.heap.objs.size)∨(s.heap.objs.size+1≤c∧z7J (pushCells (s.heap.push { cls:=.type "dict",data:=.dict #[] }) scope.names) c none):=fun {y c} e=>by
  rw[hcl] at e
  rcases lE (PySem.mem_of_lookup e) with hm|⟨_,h2,h3⟩
  ·exact .inl (cm hm)
  ·rw[Heap.size_push] at h2;exact .inr ⟨h2,h3⟩
 have look:∀{y},scope.names.lookup y=some .free→∃ c,cenv.cells.lookup y=some c∧X.env.cells.lookup y=some c:=fun {y} hl=>by
  have hy:(y,NameKind.free)∈scope.names:=PySem.mem_of_lookup hl
  obtain⟨c',e'⟩:=tF (nT (names:=scope.names) (n:=(s.heap.push { cls:=.type "dict",data:=.dict #[] }).objs.size) (sL (cells:=X.env.cells) (acc:=[]) hy))
  rw[←hcl] at e'
  refine⟨c',e',?_⟩
  rw[hcl] at e'
  rcases lE (PySem.mem_of_lookup e') with hm|⟨h1,_,_⟩
  ·exact(cm hm).1
  ·have:=ok.uniq _ h1
   rw[hl] at this;cases this
 have okB:(X.blk s H scope cenv fp).Ok:=by
  refine⟨I.ok.mod,by show cenv.scope.kind=_;rw[hsc];exact ok.kind,by show cenv.globals=_;rw[←hcenv];exact I.ok.glob,by show cenv.builtins=_;rw[←hcenv];exact I.ok.blt,by show s.heap.objs.size≤cenv.locals;rw[hL];exact Nat.le_refl _,
   fun y z c e1 e2=>?_,fun y hy=>?_,fun y c z e=>?_,I.ok.hd,I.ok.frames,.inl rfl,fun b hb=>⟨?_,fun y c e z=>?_⟩,I.bs,Nat.le_trans I.ok.bsz I.sz,fun b o e hb=>?_,fun b hb z=>?_,I.stack,I.stkFree⟩
  ·have e1:cenv.cells.lookup y=some c:=e1
   have e2:cenv.cells.lookup z=some c:=e2
   rw[hcl] at e1 e2
   refine tU (fun p hp=>?_) (fun y z c a b=>I.ok.inj y z c (cm a).1 (cm b).1) (PySem.mem_of_lookup e1) (PySem.mem_of_lookup e2)
   rw[Heap.size_push]
   exact Nat.lt_succ_of_lt (cm (y:=p.1) (c:=p.2) hp).2
  ·show ∃ c,cenv.cells.lookup y=some c
   have key:∀ k,cenv.kindOf y=some k→(k=.cell∨k=.free)→∃ c,cenv.cells.lookup y=some c:=fun k hk hk'=>by
    unfold Env.kindOf at hk
    rw[hsc] at hk
    obtain⟨k',e,r⟩:=sM hk
    have:k'=.cell∨k'=.free:=by
     rcases r with rfl|⟨rfl,_⟩
     ·exact hk'
     ·exact .inr rfl
    rcases this with rfl|rfl
    ·obtain⟨c,hm⟩:=tT (n:=(s.heap.push { cls:=.type "dict",data:=.dict #[] }).objs.size) (acc:=cH X.env.cells scope.names []) (PySem.mem_of_lookup e)
     obtain⟨c',e'⟩:=tF hm
     exact⟨c',by rw[hcl];exact e'⟩
    ·obtain⟨c,h1,_⟩:=look e
     exact⟨c,h1⟩
   rcases hy with hy|hy
   ·exact key _ hy (.inl rfl)
   ·exact key _ hy (.inr rfl)
  ·have z:(scope.names.lookup y==some NameKind.cell)=true:=z
   have z:scope.names.lookup y=some .cell:=by simpa using z
   have e:cenv.cells.lookup y=some c:=e
   rw[hcl] at e
   rcases lE (PySem.mem_of_lookup e) with hm|⟨_,h2,_⟩
   ·rcases nN hm with hm|⟨h1,_⟩
    ·cases hm
    ·have q:=ok.uniq _ h1
     rw[z] at q;cases q
   ·rw[Heap.size_push] at h2
    exact Nat.le_of_succ_le h2
  ·show b≠cenv.locals
   rw[hL];exact Nat.ne_of_lt (hfp b hb).2
  ·have e:cenv.cells.lookup y=some c:=e
   rcases mem e with ⟨h1,_⟩|⟨h1,_⟩
   ·exact(hfp b hb).1.2.2.2.2.1 y c h1 z
   ·have h2:s.heap.objs.size+1≤b:=by rw[←z];exact h1
    exact absurd (Nat.lt_of_lt_of_le (hfp b hb).2 (Nat.le_of_succ_le h2)) (Nat.lt_irrefl _)
  ·rcases(hfp b hb).1.2.2.2.1 with z|z
   ·exact I.ok.noex b o e z
   ·exact absurd (Nat.lt_of_lt_of_le (Heap.lt_size e) (Nat.le_trans I.ok.bsz z)) (Nat.lt_irrefl _)
  ·rcases List.mem_cons.mp (I.stkSub b z) with z|z
   ·exact(hfp b hb).1.2.1 z
   ·exact(hfp b hb).1.2.2.1 z
 refine⟨okB,rfl,I.bare,Un.kept kp,⟨fun _=>none,?_,fun i y av e1 e2 e3=>?_⟩,fun y c e=>?_,?_,fun y c e=>?_,fun p hp=>?_,I.hok.kept kp,by rw[sO];exact I.len⟩
 ·show Heap.Ns _ cenv.locals _
  rw[hL]
  exact Heap.Ns.keeps (Heap.Ns.new ..) fun b o e=>pushCells_keeps _ _ _ _ e
 ·obtain⟨e2,hne⟩:=uC e2
  have hfr:scope.names.lookup y=some .free∧(cenv.kindOf y=some .cell∨cenv.kindOf y=some .free):=by
   have key:∀ k,cenv.scope.names.lookup y=some k→k=.local∨k=.cell∨k=.free→scope.names.lookup y=some .free∧(cenv.kindOf y=some .cell∨cenv.kindOf y=some .free):=fun k hk hk'=>by
    have hk0:=hk
    rw[hsc] at hk
    obtain⟨k',e,r⟩:=sM hk
    have no:¬(k'=.local∨k'=.cell):=fun hh=>by
     rcases ok.own _ (PySem.mem_of_lookup e) hh with e'|e'
     ·obtain⟨p,hp,hpy⟩:=List.mem_map.mp e'
      have e3:=ok.ix p hp
      have:p.1=y:=hpy
      rw[this] at e3
      exact hne (List.mem_map.mpr ⟨p,hp,uQ hN e3 e1⟩)
     ·exact e' (List.mem_of_getElem? e1)
    rcases r with rfl|⟨rfl,rfl⟩
    ·rcases hk' with rfl|rfl|rfl
     ·exact absurd (.inl rfl) no
     ·exact absurd (.inr rfl) no
     ·exact⟨e,.inr hk0⟩
    ·exact⟨e,.inl hk0⟩
   have e3:Vis cenv.scope y:=e3
   rcases e3 with e3|e3|e3
   ·exact key _ e3 (.inl rfl)
   ·exact key _ e3 (.inr (.inl rfl))
   ·exact key _ e3 (.inr (.inr rfl))
  obtain⟨m,hn,hl⟩:=I.loc
  have hvis:Vis X.env.scope y:=(ok.free _ (PySem.mem_of_lookup hfr.1) rfl).elim (fun k=>.inr (.inl k)) (fun k=>.inr (.inr k))
  obtain⟨w,r,q⟩:=hl i y av e1 e2 hvis
  refine⟨w,r,.inr ⟨hfr.2,?_⟩⟩
  obtain⟨c,h1,h2⟩:=look hfr.1
  rcases q with ⟨k,_⟩|⟨_,c',e',z⟩
  ·have k:X.env.scope.names.lookup y=some .local:=k
   rcases ok.free _ (PySem.mem_of_lookup hfr.1) rfl with k'|k' <;> rw[show X.env.scope.names.lookup y=_ from k'] at k <;> cases k
  ·rw[h2] at e';cases e'
   exact⟨c,h1,z.keeps kp⟩
 ·have e:cenv.cells.lookup y=some c:=e
  rcases mem e with ⟨h1,_⟩|⟨_,z⟩
  ·obtain⟨w,z⟩:=I.cell y c h1
   exact⟨w,z.keeps kp⟩
  ·exact⟨_,z⟩
 ·show H cenv.locals=none
  rw[hL];exact I.hok.fresh (Nat.le_refl _)
 ·have e:cenv.cells.lookup y=some c:=e
  rcases mem e with ⟨h1,_⟩|⟨h1,_⟩
  ·exact I.freeC y c h1
  ·exact I.hok.fresh (Nat.le_of_succ_le h1)
 ·exact absurd (show p∈([]:List (Addr×Obj))++[] from hp) (by simp)
theorem y7e {E:Value→Shared→Prop}{D:Addr}{xs:List V}{y:V}{v:Value}{Q:Value→Shared→Prop} (I:Inv X pins σ H s) (hD:H D=some (.lst xs)) (hz:xs.length<sizeLine) (r:RelV y v)
  (h:∀ s',Inv X pins σ (upd H D (.lst (xs++[y]))) s'→Q .none s'):wpAny (model X.prog X.w) X.A (call (.builtin "list.append") [.ref D,v]) Q E s:=by
 obtain⟨hz',its,n,ri,e⟩:=I.hok D _ hD
 have hl:=ri.length
 refine append_at (hsz:=by rw[List.size_toArray];omega) e fun h' sb ho'=>?_
 refine h { s with heap:=h' } (I.write (t':=s.toks) (by rw[hD];trivial) (.inl rfl) (fun b u hb q=>(sb.2 b hb).trans q) ⟨_,ho'⟩ ⟨by rw[List.length_append];exact hz,its++[v],n+1,ri.append (.cons r .nil),?_⟩)
 rw[ho']
 simp
def PTs(X:Cx)(ifs:List Expr)(t:TT):Prop:=
 ∀(pins:List (Addr×Obj)) (s:Shared) (σ:St) (H:Hp) (Q:Bool→Hp→Prop),Inv X pins σ H s→t σ H Q →
  wpAny (model X.prog X.w) X.A (forIn ifs true fun c r=>if r=true then do let ok ← isTrue c X.env (eval c X.env);pure (ForInStep.yield ok) else pure (ForInStep.yield r)) (TP X pins σ Q) X.xe s
def tYes:TT:=fun _ H Q=>Q true H
theorem y3u:PTs X [] tYes:=fun _ _ _ H _ I h=>wpAny_tests_nil ⟨H,I,h⟩
end
theorem lA{α:Type}{t:Sem α}{Q Q':α→Shared→Prop}{M:Model}{A:Around}{E:Value→Shared→Prop}{s:Shared}(h:wpAny M A t Q (fun _ _=>False) s)(hQ:∀ a s,Q a s→Q' a s):wpAny M A t Q' E s:=wpAny_mono h hQ fun _ _ z=>False.elim z
theorem z2E {prog:Program}{w:World}{A:Around}{R:Result→Shared→Prop}{s:Shared}{elt target iter:Expr}{ifs:List Expr}{scope:Scope}{pos:Pos}{it acc:Value}{env:Env} (I:Nat→Shared→Prop)
  (turn:∀ n s,I n s→wpAny (model prog w) A (pyNext it) (fun r s₁=>match r with
   |none=>R (.ok .next) s₁
   |some v=>wpAny (model prog w) A (letOwnedTupleGo target it v) (fun _ s₁'=>wpAny (model prog w) A (assign target env v) (fun _ s₂=>
     wpAny (model prog w) A (forIn ifs true fun c r=>if r=true then do let ok ← isTrue c env (eval c env);pure (ForInStep.yield ok) else pure (ForInStep.yield r)) (fun ok s₃=>
      if ok=true then wpAny (model prog w) A (eval elt env) (fun x s₄=>
       wpAny (model prog w) A (call (.builtin "list.append") [acc,x]) (fun _ s₅=>∃ m,m<n∧I m s₅) (notedBy (model prog w) A env fun e s'=>R (.error e) s') s₄) (notedBy (model prog w) A env fun e s'=>R (.error e) s') s₃
      else ∃ m,m<n∧I m s₃) (notedBy (model prog w) A env fun e s'=>R (.error e) s') s₂) (notedBy (model prog w) A env fun e s'=>R (.error e) s') s₁') (notedBy (model prog w) A env fun e s'=>R (.error e) s') s₁) (notedBy (model prog w) A env fun e s'=>R (.error e) s') s)
  (n:Nat) (h:I n s) :
  codeAny (model prog w) A (.compLoop (.ListComp elt [⟨target,iter,ifs,0⟩] scope pos) 0 it acc env) R s:=by
 refine codeAny_loop rfl I (fun n s hI=>?_) n h
 show wpAny _ A ((compTurn (.ListComp elt [⟨target,iter,ifs,0⟩] scope pos) 0 it acc env).onRaise (fun x=>do noteFrame x env;theTreesLotGoes x)) _ _ s
 refine wpAny_noted ?_
 rw[compTurn_list]
 refine wpAny_bind (wpAny_standAt (wpAny_bind (wpAny_mono (turn n s hI) (fun r s₁ h₁=>?_) fun _ _ h'=>h')))
 cases r with
 |none=>exact wpAny_pure h₁
 |some v=>
  refine wpAny_bind (wpAny_mono h₁ (fun _ s₁' h₁'=>?_) fun _ _ h'=>h')
  refine wpAny_bind (wpAny_mono h₁' (fun _ s₂ h₂=>wpAny_bind (wpAny_mono h₂ (fun ok s₃ h₃=>?_) fun _ _ h'=>h')) fun _ _ h'=>h')
  cases ok with
  |false=>exact wpAny_pure ⟨rfl,h₃⟩
  |true=>
   exact wpAny_bind (wpAny_bind (wpAny_mono h₃ (fun x s₄ h₄=>wpAny_bind (wpAny_mono h₄ (fun _ s₅ h₅=>wpAny_pure (wpAny_pure ⟨rfl,h₅⟩)) fun _ _ h'=>h')) fun _ _ h'=>h'))
section
variable{X:Cx}
def tLc(wi:TI)(g:TG)(tt:TT)(te:TE)(vs:List Nat):TE:=fun σ H Q=>wi σ H fun J H1=>∀ D,H1 D=none→∃ W:Nat→Nat→Hp→Prop,(∃ m,W 0 m (upd H1 D (.lst [])))∧∀ i m H,W i m H →
 (J.stop i H∧Q (.ref D) H)∨(J.go i H∧∃ Nx:Hp→Prop,(∀ H',Nx H'→∃ m',m'<m∧W (i+1) m' H')∧∀ x H',J.yld i H x H'→g x (cT σ vs) H' fun σ2 H2=>cT σ2 vs=cT σ vs∧tt σ2 H2 fun b H3=>
  if b=true then te σ2 H3 fun y H4=>∃ acc,H4 D=some (.lst acc)∧acc.length<sizeLine∧Nx (upd H4 D (.lst (acc++[y]))) else Nx H3)
theorem y3a {pins:List (Addr×Obj)}{s:Shared}{σ:St}{H:Hp}{Q:VK}{elt tg iter:Expr}{ifs:List Expr}{scope:Scope}{own:List (Str×Nat)}{pos pos':Pos}{wi:TI}{g:TG}{tt:TT}{te:TE}{use:Option (Value→Sem Unit)}{Qf:Value→Shared→Prop}
  (hc:X.calm=true) (hN:X.N.Nodup) (I:Inv X pins σ H s) (hi:PI X tg iter wi) (ok:BlkOk X.N X.env.scope scope own)
  (hg:∀(s:Shared) (H:Hp) (C:Addr) (cl:List (Str×Addr)) (fp:List Addr),PG (X.blk s H scope (compEnvC scope cl C X.env) fp) tg g) (ht:∀(s:Shared) (H:Hp) (C:Addr) (cl:List (Str×Addr)) (fp:List Addr),PTs (X.blk s H scope (compEnvC scope cl C X.env) fp) ifs tt)
  (he:∀(s:Shared) (H:Hp) (C:Addr) (cl:List (Str×Addr)) (fp:List Addr),PE (X.blk s H scope (compEnvC scope cl C X.env) fp) elt te) (hs:∀ x,foldedSetIterable iter X.env x=pure x)
  (h:tLc wi g tt te (own.map (·.2)) σ H Q)
  (hRR:∀ D C s' m H',Inv X pins σ H' s'→Q (.ref D) H'→s'.heap.Ns C m→fW X pins H' C→compPost (model X.prog X.w) X.A X.xe use Qf (.ref D) C (.ok .next) s') :
  wpAny (model X.prog X.w) X.A (comprehension (.ListComp elt [⟨tg,iter,ifs,0⟩] scope pos) scope X.env pos' (newList []) false (eval iter X.env) use) Qf X.xe s:=by
 have hfree:∀ y∈scope.names,y.2=.free→∃ c,X.env.cells.lookup y.1=some c:=fun y hy e=>by
  rcases ok.free y hy e with k|k
  ·exact I.ok.has _ (.inl k)
  ·exact I.ok.has _ (.inr k)
 refine wpAny_comprehension_free (use:=use) rfl hs (z4q hfree) ok.kind (fun y hy e=>by rw[ok.uniq y hy,e])
  (thn (hi pins s σ H _ I h) fun xv s1 hx=>thn hx fun itv s2 h2=>?_)
 obtain⟨it,fp,tn,J,H2,e,I2,T,st2,f2,q⟩:=h2
 subst e
 refine wpAny_newObj_type (z3t ?_) (by show 0≤sizeLine;decide)
 generalize hD:s2.heap.objs.size=D
 have hDn:H2 D=none:=I2.hok.fresh (Nat.le_of_eq hD)
 obtain⟨W,⟨m0,w0⟩,turn⟩:=q D hDn
 generalize hs3:({ s2 with heap:=s2.heap.push { cls:=.type "list",data:=.seq ([]:List Value).toArray } }:Shared)=s3
 have I3:Inv X pins σ (upd H2 D (.lst [])) s3:=by
  rw[←hs3]
  refine I2.laid (t':=s2.toks) (fun b o e=>Heap.get?_push_of_some _ e) (Nat.le_of_eq hD) ⟨Nat.zero_le _,[],0,.nil,?_⟩
  rw[←hD]
  exact Heap.get?_push_size _ rfl
 have h3:s3.heap=s2.heap.push { cls:=.type "list",data:=.seq ([]:List Value).toArray }:=by rw[←hs3]
 have sz:∀ b∈fp,b<s2.heap.objs.size:=fun b hb=>by
  obtain⟨o,e,_⟩:=T.obj _ _ st2 b hb
  exact Heap.lt_size e
 have f3:∀ b∈fp,fW X pins (upd H2 D (.lst [])) b∧b<s3.heap.objs.size:=fun b hb=>by
  have hlt:=sz b hb
  refine⟨⟨?_,(f2 b hb).2⟩,by rw[h3,Heap.size_push];exact Nat.lt_succ_of_lt hlt⟩
  rw[aC (by rw[←hD];exact Nat.ne_of_lt hlt)]
  exact(f2 b hb).1
 have st3:tn 0 s3.heap:=T.keep _ _ _ st2 fun b _ o e=>by rw[h3];exact Heap.get?_push_of_some _ e
 have I4:=z2S I3 ok hN f3
 have pg:=hg s3 (upd H2 D (.lst [])) s3.heap.objs.size (cellsFrom (s3.heap.objs.size+1) scope.names (cH X.env.cells scope.names [])) fp
 have pt:=ht s3 (upd H2 D (.lst [])) s3.heap.objs.size (cellsFrom (s3.heap.objs.size+1) scope.names (cH X.env.cells scope.names [])) fp
 have pe:=he s3 (upd H2 D (.lst [])) s3.heap.objs.size (cellsFrom (s3.heap.objs.size+1) scope.names (cH X.env.cells scope.names [])) fp
 show codeAny _ _ (.compStart (.ListComp elt [⟨tg,iter,ifs,0⟩] scope pos) 0 (.ref it) (.ref D) (compEnvC scope (cellsFrom (s3.heap.objs.size+1) scope.names (cH X.env.cells scope.names [])) s3.heap.objs.size X.env)) (compPost (model X.prog X.w) X.A X.xe use Qf (.ref D) s3.heap.objs.size) { s3 with heap:=pushCells (s3.heap.push { cls:=.type "dict",data:=.dict #[] }) scope.names }
 have nfp:∀ b∈fp,(upd H2 D (.lst [])) b=none:=fun b hb=>(f3 b hb).1.1
 generalize hce:compEnvC scope (cellsFrom (s3.heap.objs.size+1) scope.names (cH X.env.cells scope.names [])) s3.heap.objs.size X.env=ce at I4 pg pt pe ⊢
 have cL:ce.locals=s3.heap.objs.size:=by subst hce;rfl
 generalize hH3:upd H2 D (.lst [])=H3 at I3 I4 pg pt pe w0 nfp f3
 generalize hs4:({ s3 with heap:=pushCells (s3.heap.push { cls:=.type "dict",data:=.dict #[] }) scope.names }:Shared)=s4 at I4 ⊢
 have st4:tn 0 s4.heap:=T.keep _ _ _ st3 fun b _ o e=>by rw[←hs4];exact pushCells_keeps _ _ _ _ (Heap.get?_push_of_some _ e)
 have stat:∀{σ':St}{H':Hp}{s':Shared},Inv (X.blk s3 H3 scope ce fp) [] σ' H' s'→(∀ b∈fp,H' b=none)→∀ b∈fp,fW (X.blk s3 H3 scope ce fp) [] H' b:=fun {σ' H' s'} I' hn b hb=>
  ⟨hn b hb,(I'.ok.exf b hb).1,I'.ok.exfs b hb,.inl hb,fun x c e=>(I'.ok.exf b hb).2 x c e,fun p hp=>absurd (show p∈([]:List (Addr×Obj))++[] from hp) (by simp)⟩
 have loop:codeAny (model X.prog X.w) X.A (.compLoop (.ListComp elt [⟨tg,iter,ifs,0⟩] scope pos) 0 (.ref it) (.ref D) ce) (compPost (model X.prog X.w) X.A X.xe use Qf (.ref D) s3.heap.objs.size) s4:=by
  refine z2E (fun n s'=>∃ i H',Inv (X.blk s3 H3 scope ce fp) [] (cT σ (own.map (·.2))) H' s'∧tn i s'.heap∧(∀ b∈fp,H' b=none)∧W i n H') ?_ m0 ⟨0,H3,I4,st4,nfp,w0⟩
  rintro n s5 ⟨i,H5,I5,st5,n5,w5⟩
  rcases turn i n H5 w5 with ⟨stop,qq⟩|⟨go,Nx,hNx,step⟩
  ·have td:=T.done (X.blk s3 H3 scope ce fp) rfl rfl rfl hc i [] s5 _ H5 (fun _ _=>False) I5 (stat I5 n5) st5 stop
   refine lA td fun r s6 h00=>?_
   obtain⟨hr,I6⟩:=h00
   subst hr
   have I7:Inv X pins σ H5 s6:=I3.call' (ch:=fp) I6.os I6.base I6.hok I6.bare fun b hb=>⟨(f3 b hb).1.2.2.2.1,(f3 b hb).1.2.1,(f3 b hb).1.2.2.2.2.1,(f3 b hb).1.2.2.2.2.2⟩
   have nC:H5 s3.heap.objs.size=none:=by
    have z:H5 ce.locals=none:=I6.free
    rw[cL] at z
    exact z
   obtain⟨m,hn,_⟩:=I6.loc
   have hn:s6.heap.Ns ce.locals m:=hn
   rw[cL] at hn
   exact hRR D s3.heap.objs.size s6 m H5 I7 qq hn (I3.fpOk (Nat.le_refl _) nC)
  ·have ti:=T.item (X.blk s3 H3 scope ce fp) rfl rfl rfl hc i [] s5 _ H5 (fun _ _=>False) I5 (stat I5 n5) st5 go
   refine lA ti fun r s6 h00=>?_
   obtain⟨u,hr,h6⟩:=h00
   subst hr
   refine lA h6 fun _ s7 h00=>?_
   obtain⟨x,H7,I7,r7,y7,st7,n7⟩:=h00
   have I7':=I7.pinned (stat I7 n7) (T.obj _ _ st7)
   refine lA (pg _ s7 _ H7 x u _ I7' r7 (step x H7 y7)) fun _ s8 h00=>?_
   obtain⟨σ8,H8,I8,hw8,q8⟩:=h00
   refine lA (pt _ s8 σ8 H8 _ I8 q8) fun b s9 h00=>?_
   obtain⟨H9,I9,q9⟩:=h00
   have fin:∀{s':Shared}{H':Hp},Inv (X.blk s3 H3 scope ce fp) ([]++lX fp s7.heap) σ8 H' s'→Nx H'→∃ m,m<n∧∃ i H',Inv (X.blk s3 H3 scope ce fp) [] (cT σ (own.map (·.2))) H' s'∧tn i s'.heap∧(∀ b∈fp,H' b=none)∧W i m H':=fun {s' H'} I' nx=>by
    obtain⟨m',hm,w'⟩:=hNx H' nx
    have pin':∀ b∈fp,∀ o,s7.heap.get? b=some o→s'.heap.get? b=some o∧H' b=none:=fun b hb o e=>
     let z:=I'.pin (b,o) (List.mem_append_right _ (List.mem_append_right _ (tG hb e)))
     ⟨z.1,z.2.1⟩
    have hl:(cT σ (own.map (·.2))).length=σ8.length:=by rw[←hw8,sO]
    refine⟨m',hm,i+1,H',(I'.unpinned (pins:=[])).weak hl (fun j v e=>?_),T.keep _ _ _ st7 fun b hb o e=>(pin' b hb o e).1,fun b hb=>?_,w'⟩
    ·rw[←hw8] at e
     exact(uC e).1
    ·obtain⟨o,e,_⟩:=T.obj _ _ st7 b hb
     exact(pin' b hb o e).2
   cases b with
   |false=>
    simp only[Bool.false_eq_true,if_false] at q9 ⊢
    exact fin I9 q9
   |true=>
    simp only[if_true] at q9 ⊢
    refine lA (pe _ s9 σ8 H9 _ I9 q9) fun z s10 h00=>?_
    obtain⟨yv,H10,I10,r10,acc,hD10,hz10,nx⟩:=h00
    exact y7e (X:=X.blk s3 H3 scope ce fp) I10 hD10 hz10 r10 fun s11 I11=>fin I11 nx
 exact codeAny_compStart_list loop (T.self X.A 0 _ _ _ st4 loop)
theorem x3E {elt tg iter:Expr}{ifs:List Expr}{scope:Scope}{own:List (Str×Nat)}{pos:Pos}{wi:TI}{g:TG}{tt:TT}{te:TE} (hc:X.calm=true) (hN:X.N.Nodup) (hi:PI X tg iter wi) (ok:BlkOk X.N X.env.scope scope own)
  (hg:∀(s:Shared) (H:Hp) (C:Addr) (cl:List (Str×Addr)) (fp:List Addr),PG (X.blk s H scope (compEnvC scope cl C X.env) fp) tg g) (ht:∀(s:Shared) (H:Hp) (C:Addr) (cl:List (Str×Addr)) (fp:List Addr),PTs (X.blk s H scope (compEnvC scope cl C X.env) fp) ifs tt)
  (he:∀(s:Shared) (H:Hp) (C:Addr) (cl:List (Str×Addr)) (fp:List Addr),PE (X.blk s H scope (compEnvC scope cl C X.env) fp) elt te) (hs:∀ x,foldedSetIterable iter X.env x=pure x:=by intro _;rfl) :
  PE X (.ListComp elt [⟨tg,iter,ifs,0⟩] scope pos) (tLc wi g tt te (own.map (·.2))):=by
 intro pins s σ H Q I h
 rw[eval_ListComp]
 refine y3a hc hN I hi ok hg ht he hs h fun D C s' m H' I' q hn f=>⟨m,hn,fun h'' sb=>?_⟩
 obtain⟨f0,f1,f2,f3,f4,f5⟩:=f
 exact⟨.ref D,H',I'.turned (t':=s'.toks) (fun b o hb e=>(sb.2 b hb).trans e) f0 f1 f3 f4 f5,rfl,q⟩
end
theorem z9g {lo:Int}{n:Nat}{g:TG}{tt:TT}{te:TE}{vs:List Nat}{σ:St}{H1:Hp}{D:Addr}{Qd:Hp→Prop} (Pv:Nat→Hp→Prop) (h0:Pv 0 (upd H1 D (.lst [])))
  (hs:∀ i H,i<n→Pv i H→g (.int (lo+i)) (cT σ vs) H fun σ2 H2=>cT σ2 vs=cT σ vs∧tt σ2 H2 fun b H3=>
   if b=true then te σ2 H3 fun y H4=>∃ acc,H4 D=some (.lst acc)∧acc.length<sizeLine∧Pv (i+1) (upd H4 D (.lst (acc++[y]))) else Pv (i+1) H3) (hd:∀ H,Pv n H→Qd H) :
  ∃ W:Nat→Nat→Hp→Prop,(∃ m,W 0 m (upd H1 D (.lst [])))∧∀ i m H,W i m H →
   ((Itr lo n).stop i H∧Qd H)∨((Itr lo n).go i H∧∃ Nx:Hp→Prop,(∀ H',Nx H'→∃ m',m'<m∧W (i+1) m' H')∧∀ x H',(Itr lo n).yld i H x H'→g x (cT σ vs) H' fun σ2 H2=>cT σ2 vs=cT σ vs∧tt σ2 H2 fun b H3=>
    if b=true then te σ2 H3 fun y H4=>∃ acc,H4 D=some (.lst acc)∧acc.length<sizeLine∧Nx (upd H4 D (.lst (acc++[y]))) else Nx H3):=by
 refine⟨fun i m H=>m=n - i∧i≤n∧Pv i H,⟨n,by simp,Nat.zero_le _,h0⟩,?_⟩
 rintro i m H ⟨rfl,hi,p⟩
 by_cases hlt:i<n
 ·refine .inr ⟨hlt,Pv (i+1),fun H' p'=>⟨n - (i+1),by omega,rfl,hlt,p'⟩,fun x H' y=>?_⟩
  obtain⟨e,y⟩:=y
  subst e y
  exact hs i _ hlt p
 ·have e:i=n:=by omega
  subst e
  exact .inl ⟨Nat.le_refl _,hd H p⟩
def blkC(N:List Str)(sc scope:Scope)(own:List (Str×Nat)):Bool:=
 (match scope.kind with|.function=>true|_=>false)&&(scope.names.all fun y=>decide (scope.names.lookup y.1=some y.2))&&(own.all fun p=>decide (N[p.2]?=some p.1)) &&
  (scope.names.all fun y=>match y.2 with
   |.free=>(match sc.names.lookup y.1 with|some .cell=>true|some .free=>true|_=>false)
   |.local=>decide (y.1∈own.map (·.1))||decide (y.1∉N)
   |.cell=>decide (y.1∈own.map (·.1))||decide (y.1∉N)
   |_=>true)
theorem z8o{N:List Str}{sc scope:Scope}{own:List (Str×Nat)}(h:blkC N sc scope own=true):BlkOk N sc scope own:=by
 unfold blkC at h
 simp only[Bool.and_eq_true,List.all_eq_true,decide_eq_true_eq] at h
 obtain⟨⟨⟨h1,h2⟩,h3⟩,h4⟩:=h
 refine⟨?_,h2,h3,fun y hy e=>?_,fun y hy e=>?_⟩
 ·split at h1
  ·assumption
  ·cases h1
 ·have q:=h4 y hy
  simp only[e] at q
  split at q <;> first|exact .inl (by assumption)|exact .inr (by assumption)|cases q
 ·have q:=h4 y hy
  rcases e with e|e <;> (simp only[e,Bool.or_eq_true,decide_eq_true_eq] at q;exact q)
end L2
namespace L2
open PySem PySem.Spec PyProof.Rows
end L2
namespace L2
open PySem PySem.Spec PyProof.Rows
section
variable{κ:Type}[DecidableEq κ]
def bA(kvs:List (κ×V))(k:κ):Option V:=(kvs.find? fun kv=>decide (kv.1=k)).map (·.2)
def eQ(kvs:List (κ×V))(k:κ)(v:V):List (κ×V):=
 if (kvs.any fun kv=>decide (kv.1=k))=true then kvs.map (fun kv=>if kv.1=k then (kv.1,v) else kv) else kvs++[(k,v)]
theorem lL{p:κ×V}{r:List (κ×V)}{k:κ}(e:p.1=k):bA (p::r) k=some p.2:=by simp[bA,List.find?_cons,e]
theorem lK{p:κ×V}{r:List (κ×V)}{k:κ}(e:¬ p.1=k):bA (p::r) k=bA r k:=by simp[bA,List.find?_cons,e]
theorem z3q(kvs:List (κ×V))(k:κ)(v:V):(eQ kvs k v).length≤kvs.length+1:=by
 unfold eQ
 split
 ·rw[List.length_map];omega
 ·rw[List.length_append,List.length_cons,List.length_nil];omega
theorem RelO.isSome_eq{o:Option V}{u:Option Value}(r:RelO o u):o.isSome=u.isSome:=by
 cases o with
 |none=>cases u with
  |none=>rfl
  |some _=>exact(show False from r).elim
 |some _=>cases u with
  |none=>exact(show False from r).elim
  |some _=>rfl
theorem KV.val{kvs:List (κ×V)}{vs:List (κ×Value)}(r:KV kvs vs)(k:κ):RelO (bA kvs k) (valueAt vs k):=by
 unfold KV at r
 induction r with
 |nil=>exact True.intro
 |@cons p q ps qs h t ih=>
  obtain⟨h1,h2⟩:=h
  by_cases e:p.1=k
  ·have e':q.1=k:=h1.symm.trans e
   have b:valueAt (q::qs) k=some q.2:=by simp[valueAt,List.find?_cons,e']
   rw[lL e,b];exact h2
  ·have e':¬ q.1=k:=fun z=>e (h1.trans z)
   have b:valueAt (q::qs) k=valueAt qs k:=by simp[valueAt,List.find?_cons,e']
   rw[lK e,b];exact ih
theorem KV.any{kvs:List (κ×V)}{vs:List (κ×Value)}(r:KV kvs vs)(k:κ):(kvs.any fun kv=>decide (kv.1=k))=vs.any fun kv=>decide (kv.1=k):=by
 unfold KV at r
 induction r with
 |nil=>rfl
 |cons h t ih=>rw[List.any_cons,List.any_cons,ih,h.1]
theorem KV.repl{kvs:List (κ×V)}{vs:List (κ×Value)}(r:KV kvs vs)(k:κ){y:V}{u:Value}(ry:RelV y u) :
  KV (kvs.map fun kv=>if kv.1=k then (kv.1,y) else kv) (vs.map fun kv=>if kv.1=k then (kv.1,u) else kv):=by
 unfold KV at r ⊢
 induction r with
 |nil=>exact .nil
 |@cons p q ps qs h t ih=>
  rw[List.map_cons,List.map_cons]
  refine .cons ?_ ih
  obtain⟨h1,h2⟩:=h
  by_cases e:p.1=k
  ·rw[if_pos e,if_pos (h1.symm.trans e)];exact⟨h1,ry⟩
  ·rw[if_neg e,if_neg (fun z=>e (h1.trans z))];exact⟨h1,h2⟩
theorem KV.put{kvs:List (κ×V)}{vs:List (κ×Value)}(r:KV kvs vs)(k:κ){y:V}{u:Value}(ry:RelV y u):KV (eQ kvs k y) (stored vs k u):=by
 unfold eQ stored
 rw[r.any k]
 by_cases e:(vs.any fun kv=>decide (kv.1=k))=true
 ·rw[if_pos e,if_pos e];exact r.repl k ry
 ·rw[if_neg e,if_neg e];exact Paired.snoc r ⟨rfl,ry⟩
theorem KV.length{kvs:List (κ×V)}{vs:List (κ×Value)}(r:KV kvs vs):kvs.length=vs.length:=Paired.length r
end
theorem pN{P:Program}{w:World}{k:Key}{u:Value}(r:RelV (kV k) u):(cN P w).is k u=true:=by
 cases k with
 |inl i=>obtain⟨t,e⟩:=(show ∃ t,u=Value.int i t from r);subst e;exact z3r P w i t
 |inr x=>obtain⟨t,e⟩:=(show ∃ t,u=Value.str x t from r);subst e;exact z3s P w x t
theorem z2r{P:Program}{w:World}:∀{ks:List Key}{us:List Value},Vals (ks.map kV) us→ItemsAre (cN P w) ks us
 |[],_,r=>by rw[List.map_nil] at r;cases r;exact .nil
 |k::ks,_,r=>by
  rw[List.map_cons] at r
  cases r with
  |cons h t=>exact .cons (pN h) (z2r t)
abbrev KT(H:Hp):List (List Key×V)→List (List Key×Addr×Value)→Prop:=Paired fun p q=>p.1=q.1∧H q.2.1=some (.tup (p.1.map kV))∧RelV p.2 q.2.2
theorem KT.val{H:Hp}{kvs:List (List Key×V)}{xs:List (List Key×Addr×Value)}(r:KT H kvs xs)(k:List Key):RelO (bA kvs k) ((atKey xs k).map (·.2)):=by
 induction r with
 |nil=>exact True.intro
 |@cons p q ps qs h t ih=>
  obtain⟨h1,_,h2⟩:=h
  by_cases e:p.1=k
  ·have e':q.1=k:=h1.symm.trans e
   have b:atKey (q::qs) k=some q.2:=by simp[atKey,List.find?_cons,e']
   rw[lL e,b];exact h2
  ·have e':¬ q.1=k:=fun z=>e (h1.trans z)
   have b:atKey (q::qs) k=atKey qs k:=by simp[atKey,List.find?_cons,e']
   rw[lK e,b];exact ih
section
variable{P:Program}{w:World}{H:Hp}{h:Heap}{a:Addr}
theorem y6F{u:HO}(ok:HOk P w H h)(e:Rd H a u):ObjOk P w H h a u:=e.ok ok
theorem pL{kvs:List (Key×V)}(ok:HOk P w H h)(e:Rd H a (.dK kvs)):kvs.length≤sizeLine∧(a==sysModules)=false∧∃ vs,KV kvs vs∧h.DictOf (cN P w) a vs:=
 show ObjOk P w H h a (.dK kvs) from y6F ok e
theorem y4D{kvs:List (Key×V)}(ok:HOk P w H h)(e:H a=some (.dK kvs)):kvs.length≤sizeLine∧(a==sysModules)=false∧∃ vs,KV kvs vs∧h.DictOf (cN P w) a vs:=pL ok (.inl e)
theorem wR{ks:List Key}(ok:HOk P w H h)(e:H a=some (.tup (ks.map kV))):(tupleKind (cN P w)).is h ks a:=by
 obtain⟨_,its,r,o,h1,h2,n,h3⟩:=(show ObjOk P w H h a (.tup (ks.map kV)) from ok a _ e)
 exact⟨o,its.toArray,n,h1,h2,h3,by simpa using z2r r⟩
theorem z8C{kvs:List (List Key×V)}(ok:HOk P w H h)(e:Rd H a (.dT kvs)):kvs.length≤sizeLine∧(a==sysModules)=false ∧
  ∃ xs,KT H kvs xs∧h.DictOfH (tupleKind (cN P w)) a xs:=by
 obtain⟨z,y,xs,r,o,es,ep,h1,h2,h3,h4,h5⟩:=(show ObjOk P w H h a (.dT kvs) from y6F ok e)
 refine⟨z,y,xs,r,o,es,ep,h1,h2,h3,h4,fun x hx=>?_,h5⟩
 have all:∀{l:List (List Key×V)}{m:List (List Key×Addr×Value)},KT H l m→∀ x∈m,(tupleKind (cN P w)).is h x.1 x.2.1:=by
  intro l m q
  induction q with
  |nil=>intro x hx;exact nomatch hx
  |@cons p q ps qs hq t ih=>
   intro x hx
   rcases List.mem_cons.mp hx with e|hx
   ·subst e
    exact wR ok (by rw[←hq.1];exact hq.2.1)
   ·exact ih x hx
 exact all r x hx
end
def DGet(H:Hp)(a:Addr)(y:V)(r:Option V):Prop:=
 (∃ kvs k,Rd H a (.dK kvs)∧y=kV k∧r=bA kvs k)∨∃ kvs k b,Rd H a (.dT kvs)∧y=.ref b∧H b=some (.tup (k.map kV))∧r=bA kvs k
theorem DGet.k{H:Hp}{a:Addr}{kvs:List (Key×V)}{k:Key}(e:H a=some (.dK kvs)):DGet H a (kV k) (bA kvs k):=.inl ⟨kvs,k,.inl e,rfl,rfl⟩
section
variable{X:Cx}{pins:List (Addr×Obj)}{σ:St}{H:Hp}{s:Shared}{a:Addr}{y v:V}{u r:Value}{o:Option V}{A:Around}{E:Value→Shared→Prop}
theorem Inv.big(I:Inv X pins σ H s):sysModules<s.heap.objs.size:=by
 have h:mainGlobals<s.heap.objs.size:=(I.mod.glob.keeps I.bk).lt
 exact Nat.lt_trans (by decide) h
theorem z6z{Q:Value→Shared→Prop}(hu:A.units+1<cLine)(I:Inv X pins σ H s)(g:DGet H a y (some v))(ry:RelV y u)(h:∀ w' s',Inv X pins σ H s'→RelV v w'→Q w' s') :
  wpAny (model X.prog X.w) A (getItem (.ref a) u) Q E s:=by
 rcases g with ⟨kvs,k,e,ey,l⟩|⟨kvs,k,b,e,ey,eb,l⟩
 ·subst ey
  obtain⟨z,hd,vs,rel,dd⟩:=pL I.hok e
  obtain⟨w',hw,rw'⟩:=RelO.some_of (v:=v) (o:=valueAt vs k) (by rw[l];exact rel.val k)
  exact wpAny_getItem_of (pN ry) dd.mapOf hw (h w' _ (I.tok _) rw')
 ·subst ey
  cases (show u=Value.ref b from ry)
  obtain⟨z,hd,xs,rel,dd⟩:=z8C I.hok e
  obtain⟨w',hw,rw'⟩:=RelO.some_of (v:=v) (o:=(atKey xs k).map (·.2)) (by rw[l];exact rel.val k)
  obtain⟨p,hp,hp2⟩:=Option.map_eq_some_iff.mp hw
  refine wpAny_getItem_heap (tupleKind_room_in1 hu) (wR I.hok eb) dd hp ?_
  rw[hp2]
  exact h w' _ (I.tok _) rw'
theorem d_in{Q:Value→Shared→Prop}(hu:A.units+1<cLine)(I:Inv X pins σ H s)(g:DGet H a y o)(ry:RelV y u)(h:∀ s',Inv X pins σ H s'→Q (.bool o.isSome) s') :
  wpAny (model X.prog X.w) A (compareOp .In u (.ref a)) Q E s:=by
 rcases g with ⟨kvs,k,e,ey,l⟩|⟨kvs,k,b,e,ey,eb,l⟩
 ·subst ey
  obtain⟨z,hd,vs,rel,dd⟩:=pL I.hok e
  refine wpAny_in_of (pN ry) hd dd.mapOf ?_
  rw[←(rel.val k).isSome_eq,←l]
  exact h _ (I.tok _)
 ·subst ey
  cases (show u=Value.ref b from ry)
  obtain⟨z,hd,xs,rel,dd⟩:=z8C I.hok e
  refine wpAny_in_heap (tupleKind_room_in1 hu) (wR I.hok eb) hd dd ?_
  have q:=(rel.val k).isSome_eq
  rw[Option.isSome_map] at q
  rw[←q,←l]
  exact h _ (I.tok _)
theorem y2J{h':Heap}{t':Nat}{ob:HO}(I:Inv X pins σ H s)(mu:Mut (H a))(hs:Heap.SameBut a s.heap h')(he:∃ q,h'.get? a=some q)(new:ObjOk X.prog X.w (upd H a ob) h' a ob) :
  Inv X pins σ (upd H a ob) { s with heap:=h',toks:=t' }:=
 I.write (x:=a) (e:=a) mu (.inl rfl) (fun b q hb z=>(hs.2 b hb).trans z) he new
theorem z8z{P:Program}{w:World}{H':Hp}{h':Heap}{kvs:List (Key×V)}{vs:List (Key×Value)}(z:kvs.length≤sizeLine)(hd:(a==sysModules)=false)(rel:KV kvs vs)(dd:h'.DictOf (cN P w) a vs) :
  ObjOk P w H' h' a (.dK kvs):=⟨z,hd,vs,rel,dd⟩
end
def NoSl(i:Expr):Prop:=∀ ov iv,subscripted i false ov iv=operate [ov,iv] (getItem ov iv)
theorem z6p {prog:Program}{w:World}{A:Around}{E:Value→Shared→Prop}{s:Shared}{env:Env}{value slice:Expr}{pos:Pos}{T id:String}{Q:Value→Shared→Prop}
  (hl:typeLookup (.type T) "__getitem__"=pure (some (.builtin id))) (hs:NoSl slice)
  (h:wpAny (model prog w) A (eval value env) (fun o s₁=>wpAny (model prog w) A (eval slice env) (fun i s₂=>s₂.TypeIs o T∧wpAny (model prog w) A (getItem o i) Q E s₂) E s₁) E s) :
  wpAny (model prog w) A (eval (.Subscript value slice pos) env) Q E s:=by
 refine Subscript_ (wpAny_mono h (fun o s₁ h₁=>wpAny_mono h₁ (fun i s₂ h₂=>?_) fun _ _ x=>x) fun _ _ x=>x)
 obtain⟨hT,h₂⟩:=h₂
 unfold subscriptTail
 refine wpAny_bind ?_
 rw[getitemInPython_of_ne hT.not_modules]
 refine wpAny_bind (wpAny_specialOf hT hl ?_)
 have fin:wpAny (model prog w) A (subscripted slice false o i) (fun r s₃=>wpAny (model prog w) A (letTemporaryGo value o r>>=fun _=>pure r) Q E s₃) E s₂:=by
  rw[hs o i]
  exact wpAny_operating (wpAny_mono h₂ (fun r s₃ h₃=>wpAny_bind (wpAny_letTemporaryGo (wpAny_pure h₃))) fun _ _ x=>x)
 first
  |exact wpAny_pure (wpAny_bind fin)
  |exact wpAny_bind (wpAny_pure (wpAny_bind fin))
  |exact wpAny_bind fin
theorem z2Y{X:Cx}{pins:List (Addr×Obj)}{σ:St}{H:Hp}{s:Shared}{a:Addr}{y:V}{o:Option V}(I:Inv X pins σ H s)(g:DGet H a y o):s.TypeIs (.ref a) "dict":=by
 rcases g with ⟨kvs,k,e,_,_⟩|⟨kvs,k,b,e,_,_,_⟩
 ·obtain⟨_,_,vs,_,dd⟩:=pL I.hok e
  exact dd.typeIs
 ·obtain⟨_,_,xs,_,dd⟩:=z8C I.hok e
  exact dd.typeIs
def x5E(td ty:TE):TE:=fun σ H Q=>td σ H fun x H1=>ty σ H1 fun y H2=>∃ a v,x=.ref a∧DGet H2 a y (some v)∧Q v H2
def tDIn(ty td:TE):TE:=fun σ H Q=>ty σ H fun y H1=>td σ H1 fun x H2=>∃ a o,x=.ref a∧DGet H2 a y o∧Q (.bl o.isSome) H2
section
variable{X:Cx}{o i e value:Expr}{pos pos' tpos:Pos}{td ty tv:TE}
theorem wE(hu:X.A.units+1<cLine)(ho:PE X o td)(hi:PE X i ty)(hs:NoSl i):PE X (.Subscript o i pos) (x5E td ty):=by
 intro pins s σ H Q I h
 refine z6p PySem.F.slot_dict_getitem.lookup hs (thn (ho pins s σ H _ I h) fun u s1 h00=>?_)
 obtain⟨x,H1,I1,rx,q1⟩:=h00
 refine thn (hi pins s1 σ H1 _ I1 q1) fun iv s2 h00=>?_
 obtain⟨y,H2,I2,ry,a,v,ex,g,q2⟩:=h00
 subst ex
 obtain rfl:u=Value.ref a:=rx
 exact⟨z2Y I2 g,z6z hu I2 g ry fun w' s3 I3 rw'=>⟨v,H2,I3,rw',q2⟩⟩
theorem z9C(hu:X.A.units+1<cLine)(hi:PE X i ty)(ho:PE X o td):PC X .In i o (tDIn ty td):=by
 intro pins s σ H Q I h
 refine thn (hi pins s σ H _ I h) fun iv s1 h00=>?_
 obtain⟨y,H1,I1,ry,q1⟩:=h00
 refine thn (ho pins s1 σ H1 _ I1 q1) fun u s2 h00=>?_
 obtain⟨x,H2,I2,rx,a,ov,ex,g,q2⟩:=h00
 subst ex
 obtain rfl:u=Value.ref a:=rx
 exact d_in hu I2 g ry fun s3 I3=>⟨.bl ov.isSome,H2,I3,rfl,q2⟩
end
def aG(kvs more:List (Key×V)):List (Key×V):=more.foldl (fun acc kv=>eQ acc kv.1 kv.2) kvs
theorem KV.merge:∀{more:List (Key×V)}{rs:List (Key×Value)}{kvs:List (Key×V)}{vs:List (Key×Value)},KV more rs→KV kvs vs→KV (aG kvs more) (merged vs rs):=by
 intro more rs kvs vs r
 unfold KV at r
 induction r generalizing kvs vs with
 |nil=>intro q;exact q
 |@cons p q ps qs h t ih=>
  intro r0
  have e:KV (eQ kvs p.1 p.2) (stored vs q.1 q.2):=by
   have:=r0.put p.1 h.2
   rw[←h.1];exact this
  exact ih e
theorem z0s:∀(more kvs:List (Key×V)),(aG kvs more).length≤kvs.length+more.length
 |[],kvs=>by show kvs.length≤kvs.length+0;omega
 |p::r,kvs=>by
  have h1:=z0s r (eQ kvs p.1 p.2)
  have h2:=z3q kvs p.1 p.2
  show (aG (eQ kvs p.1 p.2) r).length≤_
  rw[List.length_cons];omega
end L2
namespace L2
open PySem PySem.Spec PyProof.Rows
end L2
namespace L2
open PySem PySem.Spec PyProof.Rows
section
variable{X:Cx}{pins:List (Addr×Obj)}{σ:St}{H:Hp}{s:Shared}{h':Heap}
theorem Inv.turnedNew {t':Nat}{ch:List Addr}{T:Addr}{ob:HO} (I:Inv X pins σ H s) (k:∀ b o,b∉ch→s.heap.get? b=some o→h'.get? b=some o) (hf:∀ b∈ch,fW X pins H b) (hT:s.heap.objs.size≤T)
  (new:ObjOk X.prog X.w (upd H T ob) h' T ob):Inv X pins σ (upd H T ob) { s with heap:=h',toks:=t' }:=by
 have hn:H T=none:=I.hok.fresh hT
 have nit:∀ b u,H b=some u→b∉ch:=fun b u e z=>by
  have q:=(hf b z).1
  rw[q] at e;cases e
 refine I.step (g':=s.gens) (d':=s.drawn) (ch:=ch) (fun b hb=>⟨(hf b hb).2.2.2.1,(hf b hb).2.1,(hf b hb).2.2.2.2.1,(hf b hb).2.2.2.2.2⟩) (fun b o _ _ hc e _=>k b o hc e) (fun b o _ _ hc e _=>⟨o.slots,k b o hc e⟩)
  (fun b o _ e n=>?_) (fun b o hc e=>⟨o,k b o hc e⟩) (fun b xs e=>?_) (fun b o u e=>?_) (fun b ps e=>⟨#[],?_⟩) (fun m hm=>?_) (fun b u e=>?_) I.bare
 ·rw[aC (Nat.ne_of_lt (Nat.lt_of_lt_of_le (Heap.lt_size e) hT))];exact n
 ·rw[aC (aJ e hn)];exact e
 ·rw[aC (aJ e hn)];exact e
 ·rw[aC (aJ e hn),e];simp
 ·obtain⟨o,es,ep,ho,r⟩:=hm
  exact⟨o,es,ep,k _ o (fun z=>(hf _ z).2.1 rfl) ho,r⟩
 ·by_cases hb:b=T
  ·subst hb
   rw[aH] at e
   cases e
   exact new
  ·rw[aC hb] at e
   refine(I.hok b u e).stay (fun c v hc q=>k c v ?_ q) (fun c q=>by rw[aC (aJ q hn)];exact q) fun c xs q=>by rw[aC (aJ q hn)];exact q
   rcases hc with z|z
   ·rw[z];exact nit b u e
   ·exact nit c _ z
end
section
variable{X:Cx}
theorem y8r {tg:Expr}{pins:List (Addr×Obj)}{σ:St}{H:Hp}{s:Shared}{R:It→Hp→Prop}{J:It}{tn:Nat→Heap→Prop}{tk:Nat} (I:Inv X pins σ H s) (o:Obj)
  (T:Turn X.prog X.w X.K tg J [s.heap.objs.size] s.heap.objs.size tn) (st:tn 0 (s.heap.push o)) (q:R J H):PIE X pins σ tg R (.ref s.heap.objs.size) { s with heap:=s.heap.push o,toks:=tk }:=by
 refine⟨s.heap.objs.size,[s.heap.objs.size],tn,J,H,rfl,I.kept fun b ob e=>Heap.get?_push_of_some _ e,T,st,fun b hb=>?_,q⟩
 have e:b=s.heap.objs.size:=by simpa using hb
 subst e
 exact I.fpOk (Nat.le_refl _) (I.hok.fresh (Nat.le_refl _))
end
def Itc(lo c:Int)(n:Nat):It:=⟨fun i _=>i<n,fun i H x H'=>H'=H∧x=.int (lo+(i:Nat) * c),fun i _=>n≤i⟩
theorem z3Z{P:Program}{w:World}{K:PySem.W.Frag}{tg:Expr}(it:Addr)(lo c:Int)(n:Nat):Turn P w K tg (Itc lo c n) [it] it (fun i h=>IsRangeIter h it (lo+(i:Nat) * c) ((n:Int) - (i:Nat)) c) where
 mem:=by simp
 obj:=fun i h st b hb=>by
  have e:b=it:=by simpa using hb
  subst e
  exact⟨_,st,fun v z=>nomatch z⟩
 keep:=fun i h h' st k=>k it (by simp) _ st
 item:=by
  intro X hP hw hK hc i pins s σ H E I hf st hg
  subst hP hw hK
  obtain⟨f0,f1,f2,f3,f4,f5⟩:=hf it (by simp)
  have W:=Walks.range (prog:=X.prog) (w:=X.w) (I.ok.hd hc) it lo c n
  refine W.item i s _ _ hg st fun v h' tk hv st' kk=>?_
  obtain⟨t,rfl⟩:=hv
  have I1:Inv X pins σ H { s with heap:=h',toks:=tk }:=I.turned (fun b o hb e=>kk b o (by simpa using hb) e) f0 f1 f3 f4 f5
  exact⟨_,rfl,pM (s:={ s with heap:=h',toks:=tk }) (n:="range_iterator") st' rfl rfl (by decide) ⟨.int (lo+(i:Nat) * c),H,I1,⟨t,rfl⟩,⟨rfl,rfl⟩,st',fun b hb=>(hf b hb).1⟩⟩
 done:=by
  intro X hP hw hK hc i pins s σ H E I hf st hg
  subst hP hw hK
  obtain⟨f0,f1,f2,f3,f4,f5⟩:=hf it (by simp)
  exact wpAny_pyNext_range_end (I.ok.hd hc) st (by have:n≤i:=hg;omega) fun h' eb=>⟨rfl,I.turned (t':=s.toks) (fun b o hb e=>eb b o hb e) f0 f1 f3 f4 f5⟩
 self:=fun A i s Q E st h=>wpAny_pyIter_rangeiter st h
def RgC(i j c:Int)(n:Nat):Prop:=c≠0∧c.natAbs<1073741824∧Builtin.Range.small i j c=true∧Builtin.Range.rangeSize i j c=n
def x2G(ta:TA):TI:=fun σ H R=>ta σ H fun vs H1=>∃(i j c:Int) (n:Nat),vs=[.int i,.int j,.int c]∧RgC i j c n∧R (Itc i c n) H1
section
variable{X:Cx}{tg:Expr}
theorem z2u {a b c:Expr}{ta:TA}{p pos:Pos} (hg:Gl X "range") (hm:X.mg "range"=none) (ha:PA X [a,b,c] ta)
  (hs:starEach [a,b,c] X.env=(false,eval a X.env)::starEach [b,c] X.env:=by rfl) (hpl:(backTo pos (starEach [b,c] X.env)).any (·.1)=false:=by rfl) :
  PI X tg (.Call (.Name "range" p) [a,b,c] [] pos) (x2G ta):=by
 intro pins s σ H R I h
 refine Call_ (kR I hg hm boot_range (PyProof.Rows.callWith_type1 (thn (ha pos pins s σ H _ I h) fun us s1 h00=>?_) hs hpl))
 obtain⟨vs,H1,I1,r1,q1⟩:=h00
 obtain⟨i,j,k,n,e,⟨c0,c1,c2,c3⟩,q⟩:=q1
 subst e
 cases r1 with
 |cons r rr=>
  cases rr with
  |cons r' rr=>
   cases rr with
   |cons r'' rr=>
    cases rr
    obtain⟨t,rfl⟩:=r
    obtain⟨t',rfl⟩:=r'
    obtain⟨t'',rfl⟩:=r''
    refine call_range_3 c0 ?_ (.inl (PyProof.noPylong_small c1))
    refine wpAny_pyIter_range (IsRange.new ..) c2 ?_
    have I2:Inv X pins σ H1 { s1 with heap:=s1.heap.push { cls:=.type "range",data:=.fields #[.int i t,.int j t',.int k t''] } }:=I1.kept (t':=s1.toks) fun b o e=>Heap.get?_push_of_some _ e
    refine y8r (tk:=s1.toks) I2 _ (z3Z _ i k n) ?_ q
    have e1:i+((0:Nat):Int) * k=i:=by simp
    have e2:(n:Int) - ((0:Nat):Int)=Builtin.Range.rangeSize i j k:=by rw[c3];simp
    show IsRangeIter _ _ (i+((0:Nat):Int) * k) ((n:Int) - ((0:Nat):Int)) k
    rw[e1,e2]
    exact Heap.get?_push_size _ rfl
end
theorem z1C {lo c:Int}{n:Nat}{g:TG}{tb:TS}{D:Ends}{σ:St}{H:Hp} (Pv:Nat→St→Hp→Prop) (h0:Pv 0 σ H)
  (hs:∀ i σ H,i<n→Pv i σ H→g (.int (lo+(i:Nat) * c)) σ H fun σ2 H2=>tb { D with nx:=Pv (i+1),ct:=Pv (i+1),bk:=D.nx } σ2 H2) (hd:∀ σ H,Pv n σ H→D.nx σ H) :
  ∃ W:Nat→Nat→St→Hp→Prop,(∃ m,W 0 m σ H)∧∀ i m σ H,W i m σ H →
   ((Itc lo c n).stop i H∧D.nx σ H)∨((Itc lo c n).go i H∧∃ N:St→Hp→Prop,(∀ σ' H',N σ' H'→∃ m',m'<m∧W (i+1) m' σ' H')∧∀ x H',(Itc lo c n).yld i H x H'→g x σ H' fun σ2 H2=>tb { D with nx:=N,ct:=N,bk:=D.nx } σ2 H2):=by
 refine⟨fun i m σ H=>m=n - i∧i≤n∧Pv i σ H,⟨n,by simp,Nat.zero_le _,h0⟩,?_⟩
 rintro i m σ H ⟨rfl,hi,p⟩
 by_cases hlt:i<n
 ·refine .inr ⟨hlt,Pv (i+1),fun σ' H' p'=>⟨n - (i+1),by omega,rfl,hlt,p'⟩,fun x H' y=>?_⟩
  obtain⟨e,y⟩:=y
  subst e y
  exact hs i σ _ hlt p
 ·have e:i=n:=by omega
  subst e
  exact .inl ⟨Nat.le_refl _,hd σ H p⟩
end L2
section
namespace Bits
open PySem PyProof.Rows
theorem z1g(k:Nat):∀ a b:Nat,a<2 ^ k→a&&&(b * 2 ^ k)=0:=by
 induction k with
 |zero=>
  intro a b h
  have h0:a=0:=by
   rw[Nat.pow_zero] at h
   omega
  subst h0
  simp
 |succ k ih=>
  intro a b h
  have hm:(b * 2 ^ (k+1))=(b * 2 ^ k) * 2:=by rw[Nat.pow_succ,Nat.mul_assoc]
  have hlt:a / 2<2 ^ k:=by
   rw[Nat.pow_succ] at h
   generalize 2 ^ k=m at h ⊢
   omega
  have i:=ih (a / 2) b hlt
  rw[hm]
  generalize b * 2 ^ k=B at i ⊢
  have e:(a&&&(B * 2)) / 2=a / 2&&&(B * 2) / 2:=Nat.and_div_two
  have e2:(B * 2) / 2=B:=by omega
  have o:=@Nat.and_mod_two_eq_one a (B * 2)
  rw[e2,i] at e
  omega
theorem z1f(m k:Nat):(m:Int) * 2 ^ k=((m * 2 ^ k:Nat):Int):=by
 rw[two_pow_cast]
 first
  |exact(Int.natCast_mul _ _).symm
  |simp
theorem z4p{a b:Int}{k:Nat}(h0:0≤a)(h1:a<2 ^ k)(hb:0≤b):Builtin.bitOr a (b * 2 ^ k)=a+b * 2 ^ k:=by
 obtain⟨n,rfl⟩:=Int.eq_ofNat_of_zero_le h0
 obtain⟨m,rfl⟩:=Int.eq_ofNat_of_zero_le hb
 have hn:n<2 ^ k:=by
  rw[two_pow_cast] at h1
  omega
 have e:Builtin.bitAnd (n:Int) ((m * 2 ^ k:Nat):Int)=0:=by
  rw[bitAnd_pp (by omega) (by omega),Int.toNat_natCast,Int.toNat_natCast,z1g k n m hn] <;> rfl
 rw[z1f,bitOr_and,e]
 omega
theorem bitOr_join'{a b:Int}{k:Nat}(h0:0≤a)(h1:a<2 ^ k)(hb:0≤b):Builtin.bitOr (b * 2 ^ k) a=a+b * 2 ^ k:=by
 rw[bitOr_comm]
 exact z4p h0 h1 hb
theorem bitAnd_mask{x:Int}(k:Nat)(hx:0≤x):Builtin.bitAnd x (2 ^ k - 1)=x % 2 ^ k:=by
 obtain⟨n,rfl⟩:=Int.eq_ofNat_of_zero_le hx
 have hp:0<2 ^ k:=Nat.two_pow_pos k
 rw[two_pow_cast]
 have e:((2 ^ k:Nat):Int) - 1=((2 ^ k - 1:Nat):Int):=by
  generalize (2:Nat) ^ k=m at hp
  omega
 rw[e,bitAnd_pp (by omega) (by omega),Int.toNat_natCast,Int.toNat_natCast,Nat.and_two_pow_sub_one_eq_mod]
 first
  |rfl
  |exact Int.natCast_emod _ _
  |simp
theorem nat_xor_add_and(m:Nat):∀ n:Nat,(m^^^n)+2 * (m&&&n)=m+n:=by
 induction m using Nat.strongRecOn with
 |_ m ih=>
  intro n
  by_cases h0:m=0
  ·subst h0
   simp
  ·have ih':=ih (m / 2) (by omega) (n / 2)
   rw[←Nat.xor_div_two,←Nat.and_div_two] at ih'
   have e:(m^^^n) % 2+2 * ((m&&&n) % 2)=m % 2+n % 2:=by
    rw[show (m^^^n) % 2=m % 2^^^n % 2 from Nat.xor_mod_two_pow (n:=1),show (m&&&n) % 2=m % 2&&&n % 2 from Nat.and_mod_two_pow (n:=1)]
    rcases Nat.mod_two_eq_zero_or_one m with h|h <;> rcases Nat.mod_two_eq_zero_or_one n with k|k <;> rw[h,k] <;> rfl
   omega
theorem bitXor_pp{x y:Int}(hx:0≤x)(hy:0≤y):Builtin.bitXor x y=((x.toNat^^^y.toNat:Nat):Int):=by
 have e:=nat_xor_add_and x.toNat y.toNat
 rw[bitXor_and,bitAnd_pp hx hy]
 omega
theorem bitOr_pp{x y:Int}(hx:0≤x)(hy:0≤y):Builtin.bitOr x y=((x.toNat|||y.toNat:Nat):Int):=by
 have e:=nat_or_add_and x.toNat y.toNat
 rw[bitOr_and,bitAnd_pp hx hy]
 omega
end Bits
end
section
namespace TL
open PySem PySem.Builtin PySem.Builtin.Str PySem.StrLaws
abbrev tl(x:Str):List Nat:=x.cps.toList
theorem jQ(x:Str):x.length=(tl x).length:=by simp[tl,Str.length]
theorem y7C{x y:Str}(h:tl x=tl y):x=y:=Str.ext' (Array.toList_inj.mp h)
def pre(S l:List Nat):Bool:=l.take S.length==S
def spl(S:List Nat):Nat→List Nat→List Nat→List (List Nat)
 |_,acc,[]=>[acc]
 |0,acc,c::r=>if pre S (c::r)=true then acc::spl S (S.length - 1) [] r else spl S 0 (acc++[c]) r
 |k+1,acc,_::r=>spl S k acc r
theorem wK(S:List Nat)(k:Nat)(acc:List Nat):spl S k acc []=[acc]:=by cases k <;> rfl
theorem y3U{S acc r:List Nat}{c:Nat}(h:pre S (c::r)=true):spl S 0 acc (c::r)=acc::spl S (S.length - 1) [] r:=by
 show (if pre S (c::r)=true then acc::spl S (S.length - 1) [] r else spl S 0 (acc++[c]) r)=_
 rw[if_pos h]
theorem y0p{S acc r:List Nat}{c:Nat}(h:pre S (c::r)=false):spl S 0 acc (c::r)=spl S 0 (acc++[c]) r:=by
 show (if pre S (c::r)=true then acc::spl S (S.length - 1) [] r else spl S 0 (acc++[c]) r)=_
 rw[if_neg (by rw[h];exact Bool.false_ne_true)]
theorem z3X(S:List Nat):∀(k:Nat) (acc l:List Nat),spl S k acc l=spl S 0 acc (l.drop k)
 |0,_,_=>by rw[List.drop_zero]
 |k+1,acc,[]=>by rw[List.drop_nil,wK,wK]
 |k+1,acc,c::r=>by
  show spl S k acc r=spl S 0 acc (r.drop k)
  exact z3X S k acc r
theorem y3t{S:List Nat}(hS:S≠[]):pre S []=false:=by
 cases S with
 |nil=>exact absurd rfl hS
 |cons s S=>rfl
theorem z0B{L:List Nat}{a:Nat}(h:a<L.length):∃ c,L.drop a=c::L.drop (a+1):=⟨L[a],List.drop_eq_getElem_cons h⟩
theorem wL(S L:List Nat):∀(m a:Nat) (acc:List Nat),a+m≤L.length→(∀ k,a≤k→k<a+m→pre S (L.drop k)=false) →
  spl S 0 acc (L.drop a)=spl S 0 (acc++(L.drop a).take m) (L.drop (a+m))
 |0,a,acc,_,_=>by rw[List.take_zero,List.append_nil,Nat.add_zero]
 |m+1,a,acc,h,hn=>by
  have hlt:a<L.length:=by omega
  obtain⟨c,e⟩:=z0B hlt
  have h0:=hn a (Nat.le_refl _) (by omega)
  have ih:=wL S L m (a+1) (acc++[c]) (by omega) (fun k h1 h2=>hn k (by omega) (by omega))
  have e2:a+1+m=a+(m+1):=by omega
  rw[e2] at ih
  rw[e] at h0
  rw[e,y0p h0,ih,List.take_succ_cons,List.append_assoc] <;> rfl
theorem z8B(L:List Nat)(a b:Nat):(L.drop a).drop b=L.drop (a+b):=by
 first
  |rw[List.drop_drop]
  |rw[List.drop_drop,Nat.add_comm]
theorem y8D{S L:List Nat}(hS:S≠[]){c:Nat}{acc:List Nat}(h:pre S (L.drop c)=true):spl S 0 acc (L.drop c)=acc::spl S 0 [] (L.drop (c+S.length)):=by
 rw[←z8B]
 cases e:L.drop c with
 |nil=>rw[e,y3t hS] at h;cases h
 |cons d r=>
  rw[e] at h
  rw[y3U h,z3X]
  cases S with
  |nil=>exact absurd rfl hS
  |cons s S=>rfl
theorem z7Z{x y:Str}(hy:tl y≠[])(i:Nat):At x y x.length i↔pre (tl y) ((tl x).drop i)=true:=by
 have hx:=jQ x
 have hl:=jQ y
 constructor
 ·intro h
  have h2:=h.2
  rw[subAt_eq,hl] at h2
  exact h2
 ·intro h
  have e:((tl x).drop i).take (tl y).length=tl y:=eq_of_beq h
  have e1:=congrArg List.length e
  rw[List.length_take,List.length_drop] at e1
  have e2:0<(tl y).length:=List.length_pos_iff.mpr hy
  refine⟨by omega,?_⟩
  rw[subAt_eq,hl]
  exact h
theorem y6p{x y:Str}(hy:tl y≠[]){i:Nat}(h:¬ At x y x.length i):pre (tl y) ((tl x).drop i)=false:=by
 cases hp:pre (tl y) ((tl x).drop i) with
 |false=>rfl
 |true=>exact absurd ((z7Z hy i).mpr hp) h
theorem len1{y:Str}(hy:tl y≠[]):1≤y.length:=by
 have e2:0<(tl y).length:=List.length_pos_iff.mpr hy
 rw[jQ y]
 exact e2
theorem z2z(x:Str)(i j:Nat):tl (strSub x i j)=((tl x).drop i).take (j - i):=strSub_toList x i j
theorem z1Y(x:Str)(i:Nat):tl (strSub x i x.length)=(tl x).drop i:=by
 rw[z2z,jQ x]
 exact List.take_of_length_le (by rw[List.length_drop] <;> omega)
theorem z2s{x y:Str}(hy:tl y≠[]):∀(cuts:List Nat) (a f:Nat),a≤(tl x).length→ChainG x y x.length a cuts f→(∀ k,f≤k→¬ At x y x.length k) →
  (partsFrom x y.length a cuts).map tl=spl (tl y) 0 [] ((tl x).drop a)
 |[],a,f,ha,h,hn=>by
  have e:f=a:=h
  subst e
  show [tl (strSub x f x.length)]=_
  have run:=wL (tl y) (tl x) ((tl x).length - f) f [] (by omega) (fun k h1 _=>y6p hy (hn k h1))
  have e2:f+((tl x).length - f)=(tl x).length:=by omega
  rw[e2,List.drop_length,wK,List.nil_append,List.take_of_length_le (by rw[List.length_drop] <;> omega)] at run
  rw[run,z1Y]
 |c::r,a,f,ha,h,hn=>by
  obtain⟨h1,h2,h3,h4⟩:=h
  have hc:c+y.length≤x.length:=h2.1
  have hx:=jQ x
  have hl:=jQ y
  have ih:=z2s hy r (c+y.length) f (by omega) h4 hn
  show tl (strSub x a c)::(partsFrom x y.length (c+y.length) r).map tl=_
  have run:=wL (tl y) (tl x) (c - a) a [] (by omega) (fun k k1 k2=>y6p hy (h3 k k1 (by omega)))
  have e2:a+(c - a)=c:=by omega
  rw[e2,List.nil_append,y8D hy ((z7Z hy c).mp h2)] at run
  rw[run,ih,z2z,hl]
theorem z2y(x y:Str)(hy:tl y≠[])(hk:¬ Builtin.Str.strKind x<Builtin.Str.strKind y):(Txt.split x y).map tl=spl (tl y) 0 [] (tl x):=by
 obtain⟨f,g,hn⟩:=occ_tight x y (len1 hy)
 have key:=z2s hy _ 0 f (Nat.zero_le _) g hn
 rw[List.drop_zero] at key
 have none_case:occurrences x y 0 x.length (x.length+1)=[]→[x].map tl=spl (tl y) 0 [] (tl x):=fun ho=>by
  rw[ho] at key
  rw[←key]
  show [tl x]=[tl (strSub x 0 x.length)]
  rw[sub_whole]
 unfold Txt.split
 by_cases h1:(decide (x.length<y.length)||decide (Builtin.Str.strKind x<Builtin.Str.strKind y))=true
 ·rw[if_pos h1]
  have hlt:x.length<y.length:=by
   simp only[Bool.or_eq_true,decide_eq_true_eq] at h1
   rcases h1 with h|h
   ·exact h
   ·exact absurd h hk
  refine none_case ?_
  cases ho:occurrences x y 0 x.length (x.length+1) with
  |nil=>rfl
  |cons c r=>
   rw[ho] at g
   have hc:c+y.length≤x.length:=g.2.1.1
   omega
 ·rw[if_neg h1]
  by_cases h2:(occurrences x y 0 x.length (x.length+1)).isEmpty=true
  ·rw[if_pos h2]
   exact none_case (List.isEmpty_iff.mp h2)
  ·rw[if_neg h2,partsBetween_eq]
   exact key
theorem z5W{x y:Str}(h:y.cps.all (·<256)=true):¬ Builtin.Str.strKind x<Builtin.Str.strKind y:=by
 have e:Builtin.Str.strKind y=1:=by unfold PySem.Builtin.Str.strKind;rw[if_pos h]
 rw[e]
 unfold PySem.Builtin.Str.strKind
 split
 ·omega
 ·split <;> omega
end TL
end
namespace L2
open PySem PySem.Spec PyProof.Rows
theorem z2B:∀ l:List (Str×Tok),Vals ((l.map (·.1)).map V.str) (strValues l)
 |[]=>.nil
 |p::r=>.cons ⟨p.2,rfl⟩ (z2B r)
def uW(ys:List Str):Hp→VK→Prop:=fun H Q=>∀ p,H p=none→Q (.ref p) (upd H p (.lst (ys.map V.str)))
section
variable{X:Cx}{pins:List (Addr×Obj)}{σ:St}{H:Hp}{s:Shared}{Q:VK}
theorem tW{l:List (Str×Tok)}{ys:List Str}{k:Nat}(I:Inv X pins σ H s)(e:l.map (·.1)=ys)(hz:ys.length≤sizeLine)(h:uW ys H Q) :
  EP X pins σ Q (.ref s.heap.objs.size) { s with toks:=k,heap:=s.heap.push { cls:=.type "list",data:=.seq (strValues l).toArray } }:=by
 have hp:=I.hok.fresh (Nat.le_refl _)
 refine⟨.ref s.heap.objs.size,upd H s.heap.objs.size (.lst (ys.map V.str)),I.laid (fun b u q=>Heap.get?_push_of_some _ q) (Nat.le_refl _) ⟨by rw[List.length_map];exact hz,strValues l,_,?_,Heap.get?_push_size _ rfl⟩,rfl,h _ hp⟩
 rw[←e]
 exact z2B l
end
section
variable{X:Cx}
theorem z9m:MtR X "str.split" (fun x xs H Q=>∃ a b,x=.str a∧xs=[.str b]∧(b.length==0)=false∧a.length+2≤sizeLine∧uW (Txt.split a b) H Q):=by
 intro pins s σ H x xs v us Q I rx rs h
 obtain⟨a,b,rfl,rfl,hb,hz,h⟩:=h
 obtain⟨t,rfl⟩:=rx
 cases rs with
 |cons r1 rs=>
  cases rs
  obtain⟨u,rfl⟩:=r1
  have hl:(Txt.split a b).length≤sizeLine:=Nat.le_trans (PyProof.Rows.split_le a b) hz
  have hn:(Builtin.Str.partsBetween a (Builtin.Str.occurrences a b 0 a.length (a.length+1)) b.length).length≤sizeLine:=by
   have e1:=StrLaws.occ_length_le a b 0 a.length (a.length+1)
   rw[length_partsBetween];omega
  cases h1:(decide (a.length<b.length)||decide (Builtin.Str.strKind a<Builtin.Str.strKind b))
  ·cases hf:(Builtin.Str.occurrences a b 0 a.length (a.length+1)).isEmpty
   ·refine call_meets F.slot_str_split (typeIs_str _ _ _) F.entry_str_split (F.args_str_split_2 _ _) (meets_str_split_sep a b t u h1 hb hf (by omega) hn) ?_
    show EP X pins σ Q (.ref s.heap.objs.size) { s with toks:=_,heap:=s.heap.push { cls:=.type "list",data:=.seq (strsFrom s.toks (Builtin.Str.partsBetween a (Builtin.Str.occurrences a b 0 a.length (a.length+1)) b.length)).toArray } }
    rw[strsFrom_eq]
    exact tW (ys:=Txt.split a b) I ((numbered_texts _ _).trans ((if_neg (ne_true_of_eq_false h1)).trans (if_neg (ne_true_of_eq_false hf))).symm) hl h
   ·refine call_meets F.slot_str_split (typeIs_str _ _ _) F.entry_str_split (F.args_str_split_2 _ _) (meets_str_split_not_found a b t u h1 hb hf) ?_
    exact tW (l:=[(a,t)]) (ys:=Txt.split a b) (k:=s.toks) I ((if_neg (ne_true_of_eq_false h1)).trans (if_pos hf)).symm hl h
  ·refine call_meets F.slot_str_split (typeIs_str _ _ _) F.entry_str_split (F.args_str_split_2 _ _) (meets_str_split_cannot_occur a b t u h1) ?_
   exact tW (l:=[(a,t)]) (ys:=Txt.split a b) (k:=s.toks) I (if_pos h1).symm hl h
end
section
variable{X:Cx}{o e:Expr}{to te:TE}
def tM1(r:V→List V→Hp→VK→Prop)(to te:TE):TE:=fun σ H Q=>to σ H fun x H1=>(∃ a,x=.str a)∧te σ H1 fun y H2=>r x [y] H2 Q
theorem x3F {id:String}{name:Str}{apos pos:Pos}{r:V→List V→Hp→VK→Prop} (slot:Slot "str" name id) (ty:typeOf (.builtin id)=pure (.type "method_descriptor")) (rule:MtR X id r) (ho:PE X o to) (he:PE X e te)
  (hs:starEach [e] X.env=[(false,eval e X.env)]:=by rfl) (hbase:attributeBase o name X.env (eval o X.env)=eval o X.env:=by rfl) (hline:(apos.endLine==pos.line)=true:=by rfl) :
  PE X (.Call (.Attribute o name apos) [e] [] pos) (tM1 r to te):=by
 intro pins s σ H Q I h
 refine PySem.Call_method1 hbase hs hline (thn (ho pins s σ H _ I h) fun v s1 h00=>?_)
 obtain⟨x,H1,I1,r1,q1⟩:=h00
 obtain⟨⟨a,rfl⟩,q1⟩:=q1
 obtain⟨t,rfl⟩:=_root_.id r1
 refine⟨"str",_,F.plainAttrs_str,slot,ty,typeIs_str _ _ _,(fun _ e=>nomatch e),Calls.callWith_builtin rfl (Calls.evalArgs_plain (Calls.spliced_cons ?_))⟩
 refine thn (he pins s1 σ H1 _ I1 q1) fun u s2 h00=>?_
 obtain⟨y,H2,I2,r2,q2⟩:=h00
 exact Calls.spliced_nil (rule pins s2 σ H2 _ [y] _ [u] Q I2 r1 (.cons r2 .nil) q2)
theorem z3A{apos pos:Pos}(ho:PE X o to)(he:PE X e te)(hs:starEach [e] X.env=[(false,eval e X.env)]:=by rfl)(hbase:attributeBase o "split" X.env (eval o X.env)=eval o X.env:=by rfl)(hline:(apos.endLine==pos.line)=true:=by rfl) :
  PE X (.Call (.Attribute o "split" apos) [e] [] pos) (tM1 (fun x xs H Q=>∃ a b,x=.str a∧xs=[.str b]∧(b.length==0)=false∧a.length+2≤sizeLine∧uW (Txt.split a b) H Q) to te):=
 x3F F.slot_str_split F.type_str_split z9m ho he hs hbase hline
end
end L2
namespace L2
open PySem PySem.Spec PyProof.Rows
end L2
namespace Att
open PySem PySem.W PySem.Calls PyProof.Rows
theorem ints_of_wellAll{P:Params}{h:Heap}:∀(ns:List Int) (vs:List Value),WellAll P h vs (ns.map WData.int)→IntsAre vs ns:=by
 intro ns
 induction ns with
 |nil=>
  intro vs w
  rw[List.map_nil] at w
  cases w
  exact .nil
 |cons n ns ih=>
  intro vs w
  rw[List.map_cons] at w
  cases w with
  |cons a b=>
   cases a
   exact .cons _ _ (ih _ b)
end Att
namespace L2
open PySem PySem.Spec PyProof.Rows
theorem z2A:∀{vs:List Value}{ns:List Int},IntsAre vs ns→Vals (ns.map V.int) vs
 |_,_,.nil=>.nil
 |_,_,.cons n t h=>.cons ⟨t,rfl⟩ (z2A h)
def nA(H:Hp):Prop:=∀ b,H b=none∨∃ o xs,H b=some (.frz o (.lst xs))
end L2
namespace L2
open PySem PySem.Spec PyProof.Rows
end L2
namespace L2
open PySem PySem.Spec PyProof.Rows
def inClass(s:Stmt)(j:Nat):Stmt:=match s with
 |.ClassDef _ _ _ body _ _ _ _ _ _ _=>body.getD j (.Pass ⟨0,0,0,0⟩)
 |_=>.Pass ⟨0,0,0,0⟩
def dB(s:Stmt):Arguments:=match s with
 |.FunctionDef _ a _ _ _ _ _ _ _ _=>a
 |_=>{ posonlyargs:=[],args:=[],vararg:=none,kwonlyargs:=[],kw_defaults:=[],kwarg:=none,defaults:=[] }
def dP(s:Stmt):List Stmt:=match s with
 |.FunctionDef _ _ b _ _ _ _ _ _ _=>b
 |_=>[]
def aL(s:Stmt):Scope:=match s with
 |.FunctionDef _ _ _ _ _ _ sc _ _ _=>sc
 |_=>{ kind:=.function,names:=[],isGenerator:=false,isCoroutine:=false }
abbrev CX0:CXT:=fun _ _ _ _ _ _=>False
abbrev E0:XK:=fun _ _ _=>False
theorem aR{X:Cx}:gZ CX0 X E0:=fun _ _ _ _ _ _ _ h=>h.elim
structure Fun(K:PySem.W.Frag)(x qual:Str)(st:Stmt)(f:Addr)(fd:FuncData):Prop where
 ex:∃(oc:Value) (od:Option Addr) (kV doc pm:Value) (an:Option Addr) (cdv ct:Value) (osl:Array (Option Value)),
  fd=PySem.W.fnOf x qual (dB st) (dP st) (aL st) .none kV doc pm an cdv ct∧K.lookup f=some ⟨oc,od,.func fd,osl⟩∧PySem.W.codeIn K cdv qual=true
 kp:PySem.W.keepIn K (.ref f)=true
section
variable{P:Program}{w:World}{K:PySem.W.Frag}{mg:Str→Option Value}{base:Heap}
theorem Fun.ok {x qual:Str}{st:Stmt}{f:Addr}{fd:FuncData}{N ps:List Str}{k:Nat}{sp:Sp} (F:Fun K x qual st f fd) (S:FnScope N ps (aL st)) (len:∀ vs H Q E,sp vs H Q E→vs.length=ps.length)
  (hbody:∀(cdv:Value) (A:Around) (outer:List Env) (s:Shared) (H:Hp) (vs:List V) (Q:VK) (E:XK),Room k (A.deeper (envOfC qual (aL st) s.heap.objs.size f cdv))→sp vs H Q E →
   ∃ t,PSs (jX CX0 P w K mg base N qual (aL st) f cdv A outer s H E).nox (dP st) t∧t { nx:=fun _ H'=>Q .non H',rt:=Q } (start N vs) H):FnOk P w K mg base CX0 (k+1) f fd ps sp:=by
 obtain⟨oc,od,kV,doc,pm,an,cdv,ct,osl,rfl,lk,hcd⟩:=F.ex
 refine x2z lk hcd S len fun A outer s H vs Q E hr hsp=>?_
 obtain⟨t,h,q⟩:=hbody cdv A outer s H vs Q E hr hsp
 exact⟨t,h.nox,q⟩
theorem Fun.binds {x qual:Str}{st:Stmt}{f:Addr}{fd:FuncData}{ps:List Str} (F:Fun K x qual st f fd)
  (h:∀(kV doc pm:Value) (an:Option Addr) (cdv ct:Value) (us:List Value),us.length=ps.length→bindArgs (PySem.W.fnOf x qual (dB st) (dP st) (aL st) .none kV doc pm an cdv ct) ⟨us,[]⟩=pure (ps.zip us)):Binds K fd ps []:=by
 obtain⟨oc,od,kV,doc,pm,an,cdv,ct,osl,rfl,lk,hcd⟩:=F.ex
 exact .all (h kV doc pm an cdv ct)
theorem z8Y {x qual:Str}{st:Stmt}{f:Addr}{oc:Value}{od an:Option Addr}{osl:Array (Option Value)}{kV doc pm cdv ct:Value} (l:K.lookup f=some ⟨oc,od,.func (PySem.W.fnOf x qual (dB st) (dP st) (aL st) .none kV doc pm an cdv ct),osl⟩)
  (c:PySem.W.codeIn K cdv qual=true) (k:PySem.W.keepIn K (.ref f)=true):Fun K x qual st f (PySem.W.fnOf x qual (dB st) (dP st) (aL st) .none kV doc pm an cdv ct):=⟨⟨oc,od,kV,doc,pm,an,cdv,ct,osl,rfl,l,c⟩,k⟩
end
theorem y6g{A:Around}{k:Nat}(hr:Room k A):A.units+1<cLine:=Nat.lt_of_le_of_lt (Nat.add_le_add_left (by decide:1≤64) _) hr.units
theorem z7l{n:Nat}(h:n≤1000):n<sizeLine:=Nat.lt_of_le_of_lt h (by decide)
section
variable{X:Cx}
theorem pv (i:Nat) {x:Str}{pos:Pos} (hN:X.N[i]?=some x:=by rfl) (hv:Vis X.env.scope x:=by first|exact Or.inl rfl|exact Or.inr (Or.inl rfl)|exact Or.inr (Or.inr rfl)) (hd:(x==("__debug__":Str))=false:=by decide)
  (hcd:(x==("__classdict__":Str))=false:=by decide):PE X (.Name x pos) (gO i):=z9I hN hv hd hcd
end
theorem cV{A B:Prop}(h:B):if false=true then A else B:=by
 rw[if_neg Bool.false_ne_true]
 exact h
theorem cW{A B:Prop}(h:A):if true=true then A else B:=by
 rw[if_pos rfl]
 exact h
theorem aM{c A B:Prop}[Decidable c](h1:c→A)(h2:¬ c→B):if c then A else B:=by
 by_cases h:c
 ·rw[if_pos h]
  exact h1 h
 ·rw[if_neg h]
  exact h2 h
theorem bF{xs:List V}{z:Int}{j:Nat}{v:V}(e:z=(j:Int))(h:xs[j]?=some v):atI xs z=some v:=by
 rw[e]
 exact y2B h
end L2
end
section
namespace Q
open Ql49
structure Ok(m:St):Prop where
 a:m.a<65536
 x:m.x<65536
 y:m.y<65536
 d:m.d<65536
 s:m.s<65536
 pc:m.pc<65536
 pb:m.pb<256
 db:m.db<256
 mem:∀ j,m.mem j<256
 nx:m.fx=true→m.x<256∧m.y<256
 em:m.emu=true→m.fm=true∧m.fx=true∧256≤m.s∧m.s<512
structure Ok0(m:St):Prop where
 a:m.a<65536
 x:m.x<65536
 y:m.y<65536
 d:m.d<65536
 s:m.s<65536
 pc:m.pc<65536
 pb:m.pb<256
 db:m.db<256
 mem:∀ j,m.mem j<256
theorem Ok.ok0{m:St}(h:Ok m):Ok0 m:=⟨h.a,h.x,h.y,h.d,h.s,h.pc,h.pb,h.db,h.mem⟩
theorem iX{m:St}(h:∀ j,m.mem j<256)(k:Nat):m.rd k<256:=h _
theorem pE{m:St}(h:∀ j,m.mem j<256)(p:Place):m.rd2 p<65536:=by
 have h1:=iX h p.at_
 have h2:=iX h p.next.at_
 unfold St.rd2
 omega
theorem y8t{m:St}(h:∀ j,m.mem j<256)(p:Place):m.rd3 p<16777216:=by
 have h1:=pE h p
 have h2:=iX h p.next.next.at_
 unfold St.rd3
 omega
theorem gG{m:St}(h:∀ j,m.mem j<256)(k:Nat):m.code k<256:=iX h _
theorem nZ{m:St}(h:∀ j,m.mem j<256):m.code2<65536:=by
 have h1:=gG h 0
 have h2:=gG h 1
 unfold St.code2
 omega
theorem z2W{m:St}(h:∀ j,m.mem j<256):m.code3<16777216:=by
 have h1:=nZ h
 have h2:=gG h 2
 unfold St.code3
 omega
theorem eN{m:St}(h:Ok0 m):Ok m.tidy:=by
 obtain⟨ha,hx,hy,hd,hs,hpc,hpb,hdb,hm⟩:=h
 obtain⟨a,x,y,d,s,pc,pb,db,fn,fv,fm,fx,fd,fi,fz,fc,emu,waits,stopped,nmi,irq,mem,why⟩:=m
 simp only at ha hx hy hd hs hpc hpb hdb hm
 unfold St.tidy
 cases emu <;> cases fx <;> simp <;> constructor <;> simp <;> (try omega) <;> (try assumption)
theorem mW{m:St}(h:Ok m)(k v:Nat):Ok (m.wr k v):=by
 refine⟨h.a,h.x,h.y,h.d,h.s,h.pc,h.pb,h.db,?_,h.nx,h.em⟩
 intro j
 show (if j=k % ALL then v % 256 else m.mem j)<256
 split
 ·omega
 ·exact h.mem j
theorem y7W{m:St}(h:Ok0 m)(k v:Nat):Ok0 (m.wr k v):=by
 refine⟨h.a,h.x,h.y,h.d,h.s,h.pc,h.pb,h.db,?_⟩
 intro j
 show (if j=k % ALL then v % 256 else m.mem j)<256
 split
 ·omega
 ·exact h.mem j
theorem ok_set{m:St}(h:Ok m)(wide:Bool)(p:Place)(v:Nat):Ok (m.set wide p v):=by
 unfold St.set
 split
 ·exact mW (mW h _ _) _ _
 ·exact mW h _ _
theorem eZ{m:St}(h:Ok m){v:Nat}(hv:v<65536):Ok { m with pc:=v }:=⟨h.a,h.x,h.y,h.d,h.s,hv,h.pb,h.db,h.mem,h.nx,h.em⟩
theorem oO{m:St}(h:Ok m){v b:Nat}(hv:v<65536)(hb:b<256):Ok { m with pc:=v,pb:=b }:=⟨h.a,h.x,h.y,h.d,h.s,hv,hb,h.db,h.mem,h.nx,h.em⟩
theorem ok_skip{m:St}(h:Ok m)(k:Nat):Ok (m.skip k):=eZ h (by unfold W;omega)
theorem dI{m:St}(h:Ok m)(v:Nat):Ok (m.push v):=by
 refine eN ?_
 have hw:=y7W h.ok0 (m.s % W) v
 exact⟨hw.a,hw.x,hw.y,hw.d,by show (m.s+65535) % W<65536;unfold W;omega,hw.pc,hw.pb,hw.db,hw.mem⟩
theorem gE{m:St}(h:Ok m)(v:Nat):Ok (m.push2 v):=dI (dI h _) _
theorem cJ{m:St}(h:Ok m):Ok m.pull.2:=by
 refine eN ?_
 exact⟨h.a,h.x,h.y,h.d,by show (m.s+1) % W<65536;unfold W;omega,h.pc,h.pb,h.db,h.mem⟩
theorem pull_lt{m:St}(h:Ok m):m.pull.1<256:=iX (cJ h).mem _
theorem fE{m:St}(h:Ok m):Ok m.pull2.2:=cJ (cJ h)
theorem pull2_lt{m:St}(h:Ok m):m.pull2.1<65536:=by
 have h1:=pull_lt h
 have h2:=pull_lt (cJ h)
 show m.pull.1+256 * m.pull.2.pull.1<65536
 omega
theorem nO{m:St}(h:Ok m)(wide:Bool):Ok (m.pullWide wide).2:=by
 unfold St.pullWide
 split
 ·exact fE h
 ·exact cJ h
theorem sN{m:St}(h:Ok m)(wide:Bool)(v:Nat):Ok (m.pushWide wide v):=by
 unfold St.pushWide
 split
 ·exact gE h _
 ·exact dI h _
theorem cS{m:St}(h:Ok m)(wide:Bool)(v:Nat):Ok (m.nz wide v):=⟨h.a,h.x,h.y,h.d,h.s,h.pc,h.pb,h.db,h.mem,h.nx,h.em⟩
theorem kX{m:St}(h:Ok m){v:Nat}(hv:v<65536):Ok { m with a:=v }:=⟨hv,h.x,h.y,h.d,h.s,h.pc,h.pb,h.db,h.mem,h.nx,h.em⟩
theorem dL{m:St}(h:Ok m)(b:Bool):Ok { m with fc:=b }:=⟨h.a,h.x,h.y,h.d,h.s,h.pc,h.pb,h.db,h.mem,h.nx,h.em⟩
theorem jH{m:St}(h:Ok m)(p:Nat):Ok (m.flags p):=eN ⟨h.a,h.x,h.y,h.d,h.s,h.pc,h.pb,h.db,h.mem⟩
theorem oZ{wide:Bool}{r v:Nat}:low wide r v<65536:=by
 unfold low W
 split <;> omega
theorem jS{m:St}(h:Ok m)(v:Nat):Ok (m.lda v):=cS (kX h oZ) _ _
theorem span_le(wide:Bool):span wide≤65536:=by unfold span;split <;> omega
theorem z3W(wide:Bool):0<span wide:=by unfold span;split <;> omega
theorem y6C{m:St}(h:Ok m)(v:Nat):Ok { m with x:=v % span (!m.fx) }:=by
 have h1:=Nat.mod_lt v (z3W (!m.fx))
 have h2:=span_le (!m.fx)
 refine⟨h.a,by show v % span (!m.fx)<65536;omega,h.y,h.d,h.s,h.pc,h.pb,h.db,h.mem,fun e=>?_,h.em⟩
 have e':m.fx=true:=e
 refine⟨?_,(h.nx e').2⟩
 show v % span (!m.fx)<256
 rw[e']
 exact Nat.mod_lt _ (by decide)
theorem y6D{m:St}(h:Ok m)(v:Nat):Ok { m with y:=v % span (!m.fx) }:=by
 have h1:=Nat.mod_lt v (z3W (!m.fx))
 have h2:=span_le (!m.fx)
 refine⟨h.a,h.x,by show v % span (!m.fx)<65536;omega,h.d,h.s,h.pc,h.pb,h.db,h.mem,fun e=>?_,h.em⟩
 have e':m.fx=true:=e
 refine⟨(h.nx e').1,?_⟩
 show v % span (!m.fx)<256
 rw[e']
 exact Nat.mod_lt _ (by decide)
theorem jT{m:St}(h:Ok m)(v:Nat):Ok (m.ldx v):=cS (y6C h v) _ _
theorem kT{m:St}(h:Ok m)(v:Nat):Ok (m.ldy v):=cS (y6D h v) _ _
theorem y7X{m:St}(h:Ok m)(wide:Bool)(v:Nat):Ok (m.adc wide v):=by
 unfold St.adc
 refine cS ?_ _ _
 exact⟨oZ,h.x,h.y,h.d,h.s,h.pc,h.pb,h.db,h.mem,h.nx,h.em⟩
theorem y8h{m:St}(h:Ok m)(wide:Bool)(v:Nat):Ok (m.sbc wide v):=by
 unfold St.sbc
 refine cS ?_ _ _
 exact⟨oZ,h.x,h.y,h.d,h.s,h.pc,h.pb,h.db,h.mem,h.nx,h.em⟩
theorem wW{m:St}(h:Ok m)(wide:Bool)(r v:Nat):Ok (m.cmp wide r v):=cS (dL h _) _ _
theorem eK{m:St}(h:Ok m)(wide:Bool)(w:String):Ok (m.number wide w).2:=by
 unfold St.number
 split
 ·split
  ·exact ok_skip h _
  ·exact ok_skip h _
 ·split
  ·exact ok_skip h _
  ·exact h
theorem iF{m:St}(h:Ok m)(w:String)(f:St→Bool→Nat→St×Nat)(hf:∀ n b v,Ok n→Ok (f n b v).1):Ok (m.change w f):=by
 unfold St.change
 split
 ·exact ok_set (hf _ _ _ (ok_skip h _)) _ _ _
 ·exact kX (hf _ _ _ h) oZ
theorem gU{m:St}(h:Ok m)(t:Bool):Ok (m.branch t):=by
 unfold St.branch
 split
 ·exact ok_skip (ok_skip h _) _
 ·exact ok_skip h _
theorem nK{m:St}(h:Ok m)(a b:Nat)(soft:Bool):Ok (m.interrupt a b soft):=by
 unfold St.interrupt
 have h1:Ok (if m.emu=true then m else m.push m.pb):=by
  split
  ·exact h
  ·exact dI h _
 have h2:=dI (gE h1 m.pc) (if m.emu=true then (if soft=true then m.p else m.p - 16) else m.p)
 exact⟨h2.a,h2.x,h2.y,h2.d,h2.s,pE h2.mem _,(by show 0<256;decide),h2.db,h2.mem,h2.nx,h2.em⟩
theorem p_lt(m:St):m.p<256:=by
 have hb:∀(b:Bool) (v:Nat),bit b v≤v:=fun b v=>by cases b <;> simp[bit]
 have h1:=hb m.fn 128
 have h2:=hb m.fv 64
 have h3:=hb m.fm 32
 have h4:=hb m.fx 16
 have h5:=hb m.fd 8
 have h6:=hb m.fi 4
 have h7:=hb m.fz 2
 have h8:=hb m.fc 1
 unfold St.p
 omega
theorem mV{m:St}(h:Ok m)(b:Bool):Ok { m with fz:=b }:=⟨h.a,h.x,h.y,h.d,h.s,h.pc,h.pb,h.db,h.mem,h.nx,h.em⟩
theorem y8b{m:St}(h:Ok m)(a b c:Bool):Ok { m with fz:=a,fn:=b,fv:=c }:=⟨h.a,h.x,h.y,h.d,h.s,h.pc,h.pb,h.db,h.mem,h.nx,h.em⟩
theorem z6f{m:St}(h:Ok m)(a b:Nat):m.rd a+256 * m.rd b<65536:=by
 have h1:=iX h.mem a
 have h2:=iX h.mem b
 omega
theorem y6B{m:St}(h:Ok m)(k v x y a p:Nat)(hp:p<65536):Ok { m.wr k v with x:=x % span (!m.fx),y:=y % span (!m.fx),a:=a % W,db:=m.code 0,pc:=p }:=by
 have hw:=mW h k v
 have hx:=y6C hw x
 have hy:=y6D hx y
 exact⟨Nat.mod_lt _ (by decide),hy.x,hy.y,hy.d,hy.s,hp,hy.pb,gG h.mem 0,hy.mem,hy.nx,hy.em⟩
theorem dS{α:Type}{P:α→Prop}{f s:String}{x:α}{e:¬ f=s→α}(h1:P x)(h2:∀ h,P (e h)):P (dite (f=s) (fun h=>@Eq.ndrec String s (fun _=>α) x f (Eq.symm h)) e):=by
 by_cases h:f=s
 ·subst h
  rw[dif_pos rfl]
  exact h1
 ·rw[dif_neg h]
  exact h2 h
theorem dS2{α:Type}{R:α→α→Prop}{f s:String}{x y:α}{e e':¬ f=s→α}(h1:R x y)(h2:∀ h,R (e h) (e' h)):R (dite (f=s) (fun h=>@Eq.ndrec String s (fun _=>α) x f (Eq.symm h)) e) (dite (f=s) (fun h=>@Eq.ndrec String s (fun _=>α) y f (Eq.symm h)) e'):=by
 by_cases h:f=s
 ·subst h
  rw[dif_pos rfl,dif_pos rfl]
  exact h1
 ·rw[dif_neg h,dif_neg h]
  exact h2 h
theorem dO{f s:String}{x:St}{e:¬ f=s→St}(h1:Ok x)(h2:∀ h,Ok (e h)):Ok (dite (f=s) (fun h=>@Eq.ndrec String s (fun _=>St) x f (Eq.symm h)) e):=dS (P:=Ok) h1 h2
theorem z9q{m:St}(h:Ok m)(f w:String):Ok (m.act f w):=by
 unfold St.act
 delta St.act.match_1
 dsimp only
 refine dO (jS (eK h _ _) _) fun _=>?_
 refine dO (jS (eK h _ _) _) fun _=>?_
 refine dO (jS (eK h _ _) _) fun _=>?_
 refine dO (jS (eK h _ _) _) fun _=>?_
 refine dO (y7X (eK h _ _) _ _) fun _=>?_
 refine dO (y8h (eK h _ _) _ _) fun _=>?_
 refine dO (wW (eK h _ _) _ _ _) fun _=>?_
 refine dO (wW (eK h _ _) _ _ _) fun _=>?_
 refine dO (wW (eK h _ _) _ _ _) fun _=>?_
 refine dO (jT (eK h _ _) _) fun _=>?_
 refine dO (kT (eK h _ _) _) fun _=>?_
 refine dO ?_ fun _=>?_
 ·skip
  split
  ·exact mV (eK h _ _) _
  ·exact y8b (eK h _ _) _ _ _
 refine dO ?_ fun _=>?_
 ·split
  ·exact ok_set (ok_skip h _) _ _ _
  ·exact h
 refine dO ?_ fun _=>?_
 ·split
  ·exact ok_set (ok_skip h _) _ _ _
  ·exact h
 refine dO ?_ fun _=>?_
 ·split
  ·exact ok_set (ok_skip h _) _ _ _
  ·exact h
 refine dO ?_ fun _=>?_
 ·split
  ·exact ok_set (ok_skip h _) _ _ _
  ·exact h
 refine dO (iF h _ _ fun n b v hn=>cS (dL hn _) _ _) fun _=>?_
 refine dO (iF h _ _ fun n b v hn=>cS (dL hn _) _ _) fun _=>?_
 refine dO (iF h _ _ fun n b v hn=>cS (dL hn _) _ _) fun _=>?_
 refine dO (iF h _ _ fun n b v hn=>cS (dL hn _) _ _) fun _=>?_
 refine dO (iF h _ _ fun n b v hn=>cS hn _ _) fun _=>?_
 refine dO (iF h _ _ fun n b v hn=>cS hn _ _) fun _=>?_
 refine dO (iF h _ _ fun n b v hn=>mV hn _) fun _=>?_
 refine dO (iF h _ _ fun n b v hn=>mV hn _) fun _=>?_
 refine dO (jT h _) fun _=>?_
 refine dO (kT h _) fun _=>?_
 refine dO (jT h _) fun _=>?_
 refine dO (kT h _) fun _=>?_
 refine dO (jT h _) fun _=>?_
 refine dO (kT h _) fun _=>?_
 refine dO (jS h _) fun _=>?_
 refine dO (jS h _) fun _=>?_
 refine dO (kT h _) fun _=>?_
 refine dO (jT h _) fun _=>?_
 refine dO (jT h _) fun _=>?_
 refine dO (eN ⟨h.a,h.x,h.y,h.d,h.x,h.pc,h.pb,h.db,h.mem⟩) fun _=>?_
 refine dO (eN ⟨h.a,h.x,h.y,h.d,h.a,h.pc,h.pb,h.db,h.mem⟩) fun _=>?_
 refine dO (cS (kX h h.s) _ _) fun _=>?_
 refine dO ?_ fun _=>?_
 ·refine cS ?_ _ _
  exact⟨h.a,h.x,h.y,h.a,h.s,h.pc,h.pb,h.db,h.mem,h.nx,h.em⟩
 refine dO (cS (kX h h.d) _ _) fun _=>?_
 refine dO ?_ fun _=>?_
 ·have:=h.a
  exact cS (kX h (by omega)) _ _
 refine dO (eN ⟨h.a,h.x,h.y,h.d,h.s,h.pc,h.pb,h.db,h.mem⟩) fun _=>?_
 refine dO (dL h _) fun _=>?_
 refine dO (dL h _) fun _=>?_
 refine dO (⟨h.a,h.x,h.y,h.d,h.s,h.pc,h.pb,h.db,h.mem,h.nx,h.em⟩) fun _=>?_
 refine dO (⟨h.a,h.x,h.y,h.d,h.s,h.pc,h.pb,h.db,h.mem,h.nx,h.em⟩) fun _=>?_
 refine dO (⟨h.a,h.x,h.y,h.d,h.s,h.pc,h.pb,h.db,h.mem,h.nx,h.em⟩) fun _=>?_
 refine dO (⟨h.a,h.x,h.y,h.d,h.s,h.pc,h.pb,h.db,h.mem,h.nx,h.em⟩) fun _=>?_
 refine dO (⟨h.a,h.x,h.y,h.d,h.s,h.pc,h.pb,h.db,h.mem,h.nx,h.em⟩) fun _=>?_
 refine dO (jH (ok_skip h _) _) fun _=>?_
 refine dO (jH (ok_skip h _) _) fun _=>?_
 refine dO (gU h _) fun _=>?_
 refine dO (gU h _) fun _=>?_
 refine dO (gU h _) fun _=>?_
 refine dO (gU h _) fun _=>?_
 refine dO (gU h _) fun _=>?_
 refine dO (gU h _) fun _=>?_
 refine dO (gU h _) fun _=>?_
 refine dO (gU h _) fun _=>?_
 refine dO (gU h _) fun _=>?_
 refine dO (ok_skip (ok_skip h _) _) fun _=>?_
 refine dO ?_ fun _=>?_
 ·refine eZ h ?_
  split
  ·exact nZ h.mem
  ·split
   ·exact pE h.mem _
   ·exact z6f h _ _
 refine dO ?_ fun _=>?_
 ·have hc:=z2W h.mem
  have hr:=y8t h.mem (zero m.code2)
  skip
  refine oO h (Nat.mod_lt _ (by decide)) ?_
  unfold W
  split <;> omega
 refine dO ?_ fun _=>?_
 ·refine eZ (gE h _) ?_
  split
  ·exact nZ h.mem
  ·exact z6f h _ _
 refine dO ?_ fun _=>?_
 ·have hc:=z2W h.mem
  refine oO (gE (dI h _) _) (Nat.mod_lt _ (by decide)) ?_
  unfold W
  omega
 refine dO (eZ (fE h) (Nat.mod_lt _ (by decide))) fun _=>?_
 refine dO (oO (cJ (fE h)) (Nat.mod_lt _ (by decide)) (pull_lt (fE h))) fun _=>?_
 refine dO ?_ fun _=>?_
 ·have h1:=jH (cJ h) m.pull.1
  skip
  split
  ·exact eZ (fE h1) (pull2_lt h1)
  ·exact oO (cJ (fE h1)) (pull2_lt h1) (pull_lt (fE h1))
 refine dO (sN h _ _) fun _=>?_
 refine dO (sN h _ _) fun _=>?_
 refine dO (sN h _ _) fun _=>?_
 refine dO (dI h _) fun _=>?_
 refine dO (gE h _) fun _=>?_
 refine dO (dI h _) fun _=>?_
 refine dO (dI h _) fun _=>?_
 refine dO (jS (nO h _) _) fun _=>?_
 refine dO (jT (nO h _) _) fun _=>?_
 refine dO (kT (nO h _) _) fun _=>?_
 refine dO (jH (cJ h) _) fun _=>?_
 refine dO ?_ fun _=>?_
 ·have h1:=fE h
  refine cS ?_ _ _
  exact⟨h1.a,h1.x,h1.y,pull2_lt h,h1.s,h1.pc,h1.pb,h1.db,h1.mem,h1.nx,h1.em⟩
 refine dO ?_ fun _=>?_
 ·have h1:=cJ h
  refine cS ?_ _ _
  exact⟨h1.a,h1.x,h1.y,h1.d,h1.s,h1.pc,h1.pb,pull_lt h,h1.mem,h1.nx,h1.em⟩
 refine dO (gE (ok_skip h _) _) fun _=>?_
 refine dO (gE (ok_skip h _) _) fun _=>?_
 refine dO (gE (ok_skip h _) _) fun _=>?_
 refine dO (nK (ok_skip h _) _ _ _) fun _=>?_
 refine dO (nK (ok_skip h _) _ _ _) fun _=>?_
 refine dO (ok_skip h _) fun _=>?_
 refine dO (⟨h.a,h.x,h.y,h.d,h.s,h.pc,h.pb,h.db,h.mem,h.nx,h.em⟩) fun _=>?_
 refine dO (⟨h.a,h.x,h.y,h.d,h.s,h.pc,h.pb,h.db,h.mem,h.nx,h.em⟩) fun _=>?_
 refine dO (y6B h _ _ _ _ _ _ (by split <;> exact Nat.mod_lt _ (by decide))) fun _=>?_
 refine dO (y6B h _ _ _ _ _ _ (by split <;> exact Nat.mod_lt _ (by decide))) fun _=>?_
 ·exact h
theorem z6e{m t:St}(h:Ok m)(e:m.step=.ok t):Ok t:=by
 unfold St.step at e
 split at e
 ·cases e
 ·split at e
  ·cases e
   refine nK ?_ _ _ _
   exact⟨h.a,h.x,h.y,h.d,h.s,h.pc,h.pb,h.db,h.mem,h.nx,h.em⟩
  ·split at e
   ·cases e
    refine nK ?_ _ _ _
    exact⟨h.a,h.x,h.y,h.d,h.s,h.pc,h.pb,h.db,h.mem,h.nx,h.em⟩
   ·split at e
    ·cases e
    ·cases e
     refine z9q (ok_skip ?_ _) _ _
     exact⟨h.a,h.x,h.y,h.d,h.s,h.pc,h.pb,h.db,h.mem,h.nx,h.em⟩
theorem ok_why{m:St}(h:Ok m)(k:Nat):Ok { m with why:=k }:=⟨h.a,h.x,h.y,h.d,h.s,h.pc,h.pb,h.db,h.mem,h.nx,h.em⟩
theorem ok_steps:∀(k:Nat) {m:St},Ok m→Ok (steps k m).1
 |0,m,h=>ok_why h _
 |k+1,m,h=>by
  unfold steps
  cases e:m.step with
  |ok t=>exact ok_steps k (z6e h e)
  |error e=>exact ok_why h _
theorem ok_blank:Ok blank:=⟨by decide,by decide,by decide,by decide,by decide,by decide,by decide,by decide,fun _=>by show 0<256;decide,fun _=>⟨by decide,by decide⟩,fun _=>⟨rfl,rfl,by decide,by decide⟩⟩
theorem ok_reset{m:St}(h:Ok m):Ok m.reset:=eN ⟨h.a,h.x,h.y,by show 0<65536;decide,h.s,pE h.mem _,by show 0<256;decide,by show 0<256;decide,h.mem⟩
end Q
end
section
namespace Q
open Ql49
theorem row_at{l:List Int}{j:Nat}{x s:List Int}(h:PyFlat.row (l.drop j)=some (x,s)) :
  ∃ n:Nat,l[j]?=some (n:Int)∧x=(l.drop (j+1)).take n∧s=l.drop (j+1+n)∧j+1+n≤l.length∧x.length=n:=by
 cases e:l.drop j with
 |nil=>rw[e] at h;cases h
 |cons n r=>
  rw[e] at h
  have hj:j<l.length:=by
   rcases Nat.lt_or_ge j l.length with q|q
   ·exact q
   ·rw[List.drop_eq_nil_of_le q] at e;cases e
  have e1:l[j]?=some n:=by
   have:=List.head?_drop (l:=l) (i:=j)
   rw[e] at this
   exact this.symm
  have e2:r=l.drop (j+1):=by
   have:=List.tail_drop (l:=l) (i:=j)
   rw[e] at this
   exact this
  have h':(if 0≤n∧n.toNat≤r.length then some (r.take n.toNat,r.drop n.toNat) else none)=some (x,s):=h
  split at h'
  ·rename_i hc
   obtain⟨rfl,rfl⟩:=Prod.mk.inj (Option.some.inj h')
   have hl:r.length=l.length - (j+1):=by rw[e2,List.length_drop]
   refine⟨n.toNat,by rw[e1];congr 1;omega,by rw[e2],by rw[e2,List.drop_drop],by omega,?_⟩
   rw[List.length_take]
   omega
  ·cases h'
structure Rest(l:List Int)(i:Nat)(m:St)(out:List Int):Prop where
 ex:∃(f:Nat) (cs:List (List (List Int))),PyWide.calls f (l.drop i)=some cs∧cs.all Ql49Neutral.asked1=true∧out++PyFlat.told (PyFlat.played Ql49Neutral.step m cs)=PyQl49.answers l
theorem rest_start{l:List Int}(h:PyQl49.answers_asked l=true):Rest l 0 blank []∧(PyQl49.answers l).length≤10000000:=by
 unfold PyQl49.answers_asked at h
 cases e:PyQl49.calls l with
 |none=>rw[e] at h;cases h
 |some cs=>
  rw[e] at h
  have h':(PyFlat.atMost 300 cs&&Ql49Neutral.asked cs&&PyFlat.short 10000000 (PyQl49.answers l))=true:=h
  simp only[Bool.and_eq_true] at h'
  obtain⟨⟨_,h2⟩,h3⟩:=h'
  have h2':(cs.all Ql49Neutral.asked1&&((cs.head?).map Ql49Neutral.begins).getD false)=true:=h2
  simp only[Bool.and_eq_true] at h2'
  refine⟨⟨l.length,cs,?_,h2'.1,?_⟩,of_decide_eq_true h3⟩
  ·rw[List.drop_zero];exact e
  ·show []++_=PyQl49.answers l
   rw[List.nil_append]
   unfold PyQl49.answers
   rw[e]
   rfl
theorem rest_end{l:List Int}{i:Nat}{m:St}{out:List Int}(h:Rest l i m out)(hi:l.length≤i):out=PyQl49.answers l:=by
 obtain⟨f,cs,h1,h2,h3⟩:=h.ex
 rw[List.drop_eq_nil_of_le hi] at h1
 have e:cs=[]:=by
  cases f <;> exact(Option.some.inj h1).symm
 subst e
 rw[←h3]
 simp[PyFlat.played,PyFlat.told]
structure CallAt(l:List Int)(i:Nat)(p:Int)(ns:List Int)(xs:List (List Int))(j:Nat):Prop where
 hp:l[i]?=some p
 hn:l[i+1]?=some (ns.length:Int)
 hns:ns=(l.drop (i+2)).take ns.length
 hl:i+2+ns.length<l.length
 hk:l[i+2+ns.length]?=some (xs.length:Int)
 rows:PyFlat.rows xs.length (l.drop (i+3+ns.length))=some (xs,l.drop j)
 hj:j≤l.length
 lt:i<j
theorem z6j:∀{k:Nat}{l:List Int}{i:Nat}{xs:List (List Int)}{u:List Int},i≤l.length→PyFlat.rows k (l.drop i)=some (xs,u)→∃ j,u=l.drop j∧i≤j∧j≤l.length∧xs.length=k
 |0,l,i,xs,u,hi,h=>by
  obtain⟨rfl,rfl⟩:=Prod.mk.inj (Option.some.inj h)
  exact⟨i,rfl,Nat.le_refl _,hi,rfl⟩
 |k+1,l,i,xs,u,hi,h=>by
  unfold PyFlat.rows at h
  cases e:PyFlat.row (l.drop i) with
  |none=>rw[e] at h;cases h
  |some q=>
   obtain⟨x,s⟩:=q
   rw[e] at h
   obtain⟨n,_,_,hs,hn,_⟩:=row_at e
   subst hs
   cases e2:PyFlat.rows k (l.drop (i+1+n)) with
   |none=>
    have h':(match PyFlat.rows k (l.drop (i+1+n)) with|none=>none|some (xs,t)=>some (x::xs,t))=some (xs,u):=h
    rw[e2] at h';cases h'
   |some q2=>
    obtain⟨ys,t⟩:=q2
    have h':(match PyFlat.rows k (l.drop (i+1+n)) with|none=>none|some (xs,t)=>some (x::xs,t))=some (xs,u):=h
    rw[e2] at h'
    obtain⟨rfl,rfl⟩:=Prod.mk.inj (Option.some.inj h')
    obtain⟨j,h1,h2,h3,h4⟩:=z6j hn e2
    exact⟨j,h1,by omega,h3,by rw[List.length_cons,h4]⟩
theorem rest_turn{l:List Int}{i:Nat}{m:St}{out:List Int}(h:Rest l i m out)(hi:i<l.length) :
  ∃ p ns xs j,CallAt l i p ns xs j∧Ql49Neutral.asked1 ((p::ns)::xs)=true ∧
   Rest l j (Ql49Neutral.step m ((p::ns)::xs)).1 (out++((Ql49Neutral.step m ((p::ns)::xs)).2.length:Int)::(Ql49Neutral.step m ((p::ns)::xs)).2):=by
 obtain⟨f,cs,h1,h2,h3⟩:=h.ex
 have e0:l.drop i=l[i]::l.drop (i+1):=List.drop_eq_getElem_cons hi
 rw[e0] at h1
 cases f with
 |zero=>cases h1
 |succ f=>
  unfold PyWide.calls at h1
  cases ec:PyWide.call (l[i]::l.drop (i+1)) with
  |none=>rw[ec] at h1;cases h1
  |some q=>
   obtain⟨c,t⟩:=q
   have h1':(match PyWide.calls f t with|none=>none|some cs=>some (c::cs))=some cs:=by
    rw[ec] at h1;exact h1
   cases e2:PyWide.calls f t with
   |none=>rw[e2] at h1';cases h1'
   |some ds=>
    rw[e2] at h1'
    have e3:c::ds=cs:=Option.some.inj h1'
    subst e3
    unfold PyWide.call at ec
    dsimp only at ec
    cases e4:PyFlat.row (l.drop (i+1)) with
    |none=>rw[e4] at ec;cases ec
    |some q4=>
     obtain⟨ns,s⟩:=q4
     rw[e4] at ec
     obtain⟨n,a1,a2,a3,a4,a5⟩:=row_at e4
     cases e5:l.drop (i+1+1+n) with
     |nil=>
      rw[a3,e5] at ec
      cases ec
     |cons k t4=>
      rw[a3,e5] at ec
      have hk:i+1+1+n<l.length:=by
       rcases Nat.lt_or_ge (i+1+1+n) l.length with q|q
       ·exact q
       ·rw[List.drop_eq_nil_of_le q] at e5;cases e5
      have e6:l[i+1+1+n]?=some k:=by
       have:=List.head?_drop (l:=l) (i:=i+1+1+n)
       rw[e5] at this
       exact this.symm
      have e7:t4=l.drop (i+1+1+n+1):=by
       have:=List.tail_drop (l:=l) (i:=i+1+1+n)
       rw[e5] at this
       exact this
      have ec':(if 0≤k then (match PyFlat.rows k.toNat t4 with|none=>none|some (xs,u)=>some ((l[i]::ns)::xs,u)) else none)=some (c,t):=ec
      split at ec'
      ·rename_i hk0
       cases e8:PyFlat.rows k.toNat t4 with
       |none=>rw[e8] at ec';cases ec'
       |some q8=>
        obtain⟨xs,u⟩:=q8
        rw[e8] at ec'
        obtain⟨rfl,rfl⟩:=Prod.mk.inj (Option.some.inj ec')
        rw[e7] at e8
        obtain⟨j,b1,b2,b3,b4⟩:=z6j (by omega) e8
        have hall:(Ql49Neutral.asked1 ((l[i]::ns)::xs)&&ds.all Ql49Neutral.asked1)=true:=h2
        simp only[Bool.and_eq_true] at hall
        refine⟨l[i],ns,xs,j,⟨List.getElem?_eq_getElem hi,by rw[a1,a5],by rw[a5];exact a2,by rw[a5];omega,?_,?_,b3,by omega⟩,hall.1,⟨f,ds,?_,hall.2,?_⟩⟩
        ·rw[a5,show i+2+n=i+1+1+n by omega,e6,b4]
         congr 1
         omega
        ·rw[a5,b4,show i+3+n=i+1+1+n+1 by omega,e8,b1]
        ·rw[←b1];exact e2
        ·rw[←h3]
         simp[PyFlat.played,PyFlat.told]
      ·cases ec'
end Q
end
section
namespace Q
open Ql49 Ql49Neutral
theorem natural_iff{z:Int}{b:Nat}:natural z b=true↔0≤z∧z<2 ^ b:=by
 unfold natural
 simp only[Bool.and_eq_true,decide_eq_true_eq]
inductive Form:List (List Int)→Prop where
 |begin_:Form [[0]]
 |load0 (a n:Nat):a<4294967296→n<4294967296→(n=0∨65536<n)→Form [[1,(a:Int),(n:Int)]]
 |load (a:Nat) (b:List Nat):a<4294967296→1≤b.length→b.length≤65536→(∀ x∈b,x<256)→Form [[1,(a:Int),(b.length:Int)],b.map fun(x:Nat)=>(x:Int)]
 |look (a n:Nat):a<4294967296→n<4294967296→Form [[2,(a:Int),(n:Int)]]
 |ask (k:Nat):k<4294967296→Form [[3,(k:Int)]]
 |run (n:Nat):n<4294967296→Form [[4,(n:Int)]]
 |why:Form [[5]]
 |get (k:Nat):k<4294967296→Form [[6,(k:Int)]]
 |set (k v:Nat):k<4294967296→v<4294967296→Form [[7,(k:Int),(v:Int)]]
theorem iN{z:Int}(h:natural z 32=true):∃ n:Nat,z=(n:Int)∧n<4294967296:=by
 obtain⟨h1,h2⟩:=natural_iff.mp h
 have e:(2:Int) ^ 32=4294967296:=by decide
 rw[e] at h2
 exact⟨z.toNat,by omega,by omega⟩
theorem z8r{l:List Int}(h:l.all (fun(z:Int)=>natural z 8)=true):∃ b:List Nat,l=b.map (fun(x:Nat)=>(x:Int))∧∀ x∈b,x<256:=by
 induction l with
 |nil=>exact⟨[],rfl,by simp⟩
 |cons z r ih=>
  simp only[List.all_cons,Bool.and_eq_true] at h
  obtain⟨h1,h2⟩:=natural_iff.mp h.1
  have e:(2:Int) ^ 8=256:=by decide
  rw[e] at h2
  obtain⟨b,rfl,hb⟩:=ih h.2
  refine⟨z.toNat::b,?_,?_⟩
  ·rw[List.map_cons]
   congr 1
   omega
  ·intro x hx
   rcases List.mem_cons.mp hx with q|q
   ·omega
   ·exact hb x q
theorem dG{c:List (List Int)}(e:asked1 c=false)(h:asked1 c=true):Form c:=by
 rw[e] at h
 cases h
theorem y2A{l:List Int}{r:List (List Int)}(h:asked1 ((1::l)::r)=true):Form ((1::l)::r):=by
 cases l with
 |nil=>exact dG rfl h
 |cons p l=>
 cases l with
 |nil=>exact dG rfl h
 |cons n l=>
 cases l with
 |cons _ _=>exact dG rfl h
 |nil=>
 cases r with
 |nil=>
  have h:(natural p 32&&(natural n 32&&!NeutralIO.within n 1 65536))=true:=h
  simp only[Bool.and_eq_true] at h
  obtain⟨a,rfl,ha⟩:=iN h.1
  obtain⟨k,rfl,hk⟩:=iN h.2.1
  refine .load0 a k ha hk ?_
  have:=h.2.2
  unfold NeutralIO.within at this
  simp only[Bool.not_eq_true',Bool.and_eq_false_iff,decide_eq_false_iff_not] at this
  omega
 |cons b r=>
 cases r with
 |cons _ _=>exact dG rfl h
 |nil=>
  have h:(natural p 32&&(NeutralIO.within n 1 65536&&((b.all fun z=>natural z 8)&&long b n 1 65536)))=true:=h
  simp only[Bool.and_eq_true] at h
  obtain⟨a,rfl,ha⟩:=iN h.1
  obtain⟨b',rfl,hb⟩:=z8r h.2.2.1
  have h1:=h.2.1
  unfold NeutralIO.within at h1
  simp only[Bool.and_eq_true,decide_eq_true_eq] at h1
  have h2:=h.2.2.2
  unfold long at h2
  simp only[decide_eq_true_eq,List.length_map] at h2
  rw[if_pos h1] at h2
  subst h2
  exact .load a b' ha (by omega) (by omega) hb
theorem z2P{z:Int}{l:List Int}{r:List (List Int)}(h:asked1 ((z::l)::r)=true)(c1:∀ a l r,asked1 ((z::a::l)::r)=false)(c2:∀ b r,asked1 ([z]::b::r)=false)(k:Form [[z]]):Form ((z::l)::r):=by
 cases l with
 |cons _ _=>exact dG (c1 _ _ _) h
 |nil=>
 cases r with
 |cons _ _=>exact dG (c2 _ _) h
 |nil=>exact k
theorem uE{z:Int}{l:List Int}{r:List (List Int)}(h:asked1 ((z::l)::r)=true)(c0:∀ r,asked1 ([z]::r)=false)(c1:∀ a b l r,asked1 ((z::a::b::l)::r)=false)(c2:∀ a b r,asked1 ([z,a]::b::r)=false)(k:∀ a,asked1 [[z,a]]=true→Form [[z,a]]):Form ((z::l)::r):=by
 cases l with
 |nil=>exact dG (c0 _) h
 |cons a l=>
 cases l with
 |cons _ _=>exact dG (c1 _ _ _ _) h
 |nil=>
 cases r with
 |cons _ _=>exact dG (c2 _ _ _) h
 |nil=>exact k a h
theorem z2Q{z:Int}{l:List Int}{r:List (List Int)}(h:asked1 ((z::l)::r)=true)(c0:∀ r,asked1 ([z]::r)=false)(c1:∀ a r,asked1 ([z,a]::r)=false)(c2:∀ a b d l r,asked1 ((z::a::b::d::l)::r)=false)(c3:∀ a b d r,asked1 ([z,a,b]::d::r)=false)(k:∀ a b,asked1 [[z,a,b]]=true→Form [[z,a,b]]):Form ((z::l)::r):=by
 cases l with
 |nil=>exact dG (c0 _) h
 |cons a l=>
 cases l with
 |nil=>exact dG (c1 _ _) h
 |cons b l=>
 cases l with
 |cons _ _=>exact dG (c2 _ _ _ _ _) h
 |nil=>
 cases r with
 |cons _ _=>exact dG (c3 _ _ _ _) h
 |nil=>exact k a b h
theorem z5E{P:Int→Int→Prop}{p n:Int}(h:(natural p 32&&natural n 32)=true)(k:∀ a b:Nat,a<4294967296→b<4294967296→P a b):P p n:=by
 simp only[Bool.and_eq_true] at h
 obtain⟨a,rfl,ha⟩:=iN h.1
 obtain⟨b,rfl,hb⟩:=iN h.2
 exact k a b ha hb
theorem form_of{c:List (List Int)}(h:asked1 c=true):Form c:=by
 cases c with
 |nil=>exact dG rfl h
 |cons l r=>
 cases l with
 |nil=>exact dG rfl h
 |cons z l=>
 by_cases e0:z=0
 ·subst e0
  exact z2P h (fun _ _ _=>rfl) (fun _ _=>rfl) .begin_
 by_cases e1:z=1
 ·subst e1
  exact y2A h
 by_cases e2:z=2
 ·subst e2
  exact z2Q h (fun _=>rfl) (fun _ _=>rfl) (fun _ _ _ _ _=>rfl) (fun _ _ _ _=>rfl) fun p n h=>z5E (P:=fun p n=>Form [[2,p,n]]) h .look
 by_cases e3:z=3
 ·subst e3
  refine uE h (fun _=>rfl) (fun _ _ _ _=>rfl) (fun _ _ _=>rfl) fun a h=>?_
  obtain⟨k,rfl,hk⟩:=iN h
  exact .ask k hk
 by_cases e4:z=4
 ·subst e4
  refine uE h (fun _=>rfl) (fun _ _ _ _=>rfl) (fun _ _ _=>rfl) fun a h=>?_
  obtain⟨k,rfl,hk⟩:=iN h
  exact .run k hk
 by_cases e5:z=5
 ·subst e5
  exact z2P h (fun _ _ _=>rfl) (fun _ _=>rfl) .why
 by_cases e6:z=6
 ·subst e6
  refine uE h (fun _=>rfl) (fun _ _ _ _=>rfl) (fun _ _ _=>rfl) fun a h=>?_
  obtain⟨k,rfl,hk⟩:=iN h
  exact .get k hk
 by_cases e7:z=7
 ·subst e7
  exact z2Q h (fun _=>rfl) (fun _ _=>rfl) (fun _ _ _ _ _=>rfl) (fun _ _ _ _=>rfl) fun p n h=>z5E (P:=fun p n=>Form [[7,p,n]]) h .set
 refine dG ?_ h
 unfold asked1
 delta Ql49Neutral.callOf.match_1
 show (dite (z=0) _ _:Bool)=false
 rw[dif_neg e0,dif_neg e1,dif_neg e2,dif_neg e3,dif_neg e4,dif_neg e5,dif_neg e6,dif_neg e7]
noncomputable def out(r:St×Ans):St×List Int:=(r.1,r.2.value::byteInts r.2.bytes)
theorem room_no{a n:Nat}:room a n=false↔16777216<a+n:=by
 unfold room ALL
 rw[decide_eq_false_iff_not]
 omega
theorem z2x{m:St}{a n:Nat}{l:List UInt8}:spec m (.load a l n)=if 65536<n∨16777216<a+n then (m,only (-1)) else (putAll m a l,only 0):=by
 show (if 65536<n∨room a n=false then _ else _)=_
 by_cases h:65536<n∨16777216<a+n
 ·rw[if_pos h,if_pos (h.imp id room_no.mpr)]
 ·rw[if_neg h,if_neg (fun q=>h (q.imp id room_no.mp))]
theorem z7o{m:St}{a n:Nat}:spec m (.look a n)=if 65536<n∨16777216<a+n then (m,only (-1)) else (m,⟨0,(List.range n).map fun i=>UInt8.ofNat (m.mem (a+i))⟩):=by
 show (if 65536<n∨room a n=false then _ else _)=_
 by_cases h:65536<n∨16777216<a+n
 ·rw[if_pos h,if_pos (h.imp id room_no.mpr)]
 ·rw[if_neg h,if_neg (fun q=>h (q.imp id room_no.mp))]
theorem step_load0{m:St}{a n:Nat}:step m [[1,(a:Int),(n:Int)]]=(if 65536<n∨16777216<a+n then (m,[-1]) else (putAll m a [],[0])):=by
 show out (spec m (.load a [] n))=_
 rw[z2x]
 split <;> rfl
theorem putAll_nil(m:St)(a:Nat):putAll m a []=m:=by
 unfold putAll
 have:(fun j=>if a≤j∧j<a+([]:List UInt8).length then (([]:List UInt8)[j - a]?.map UInt8.toNat).getD 0 else m.mem j)=m.mem:=by
  funext j
  rw[if_neg]
  simp only[List.length_nil]
  omega
 rw[this]
noncomputable def lay(mem:Nat→Nat)(a:Nat)(b:List Nat):Nat→Nat:=fun j=>if a≤j∧j<a+b.length then b.getD (j - a) 0 else mem j
theorem z4D(b:List Nat)(hb:∀ x∈b,x<256)(k:Nat):(((octets (b.map fun(x:Nat)=>(x:Int)))[k]?).map UInt8.toNat).getD 0=b.getD k 0:=by
 unfold octets
 rw[List.map_map,List.getElem?_map,List.getD_eq_getElem?_getD]
 cases e:b[k]? with
 |none=>rfl
 |some x=>
  have hx:=hb x (List.mem_of_getElem? e)
  show (UInt8.ofNat x).toNat=x
  rw[UInt8.toNat_ofNat']
  exact Nat.mod_eq_of_lt hx
theorem step_load{m:St}{a:Nat}{b:List Nat}(hb:∀ x∈b,x<256)(hl:b.length≤65536) :
  step m [[1,(a:Int),(b.length:Int)],b.map fun(x:Nat)=>(x:Int)]=(if 16777216<a+b.length then (m,[-1]) else ({ m with mem:=lay m.mem a b },[0])):=by
 show out (spec m (.load a (octets (b.map fun(x:Nat)=>(x:Int))) b.length))=_
 rw[z2x]
 by_cases h:16777216<a+b.length
 ·rw[if_pos h,if_pos (.inr h)]
  rfl
 ·rw[if_neg h,if_neg (by omega)]
  refine Prod.ext ?_ rfl
  show putAll m a _=_
  unfold putAll lay
  have el:(octets (b.map fun(x:Nat)=>(x:Int))).length=b.length:=by
   unfold octets
   simp
  simp only[el,z4D b hb]
theorem step_look{m:St}(hm:∀ j,m.mem j<256){a n:Nat}:step m [[2,(a:Int),(n:Int)]]=(if 65536<n∨16777216<a+n then (m,[-1]) else (m,0::(List.range n).map fun i=>((m.mem (a+i):Nat):Int))):=by
 show out (spec m (.look a n))=_
 rw[z7o]
 split
 ·rfl
 ·refine Prod.ext rfl ?_
  show (0:Int)::byteInts ((List.range n).map fun i=>UInt8.ofNat (m.mem (a+i)))=_
  unfold byteInts
  rw[List.map_map]
  congr 1
  refine List.map_congr_left fun i _=>?_
  show (((UInt8.ofNat (m.mem (a+i))).toNat:Nat):Int)=_
  rw[UInt8.toNat_ofNat',Nat.mod_eq_of_lt (hm _)]
theorem step_ask{m:St}{k:Nat}:step m [[3,(k:Int)]]=(if k=0 then (m.reset,[0]) else if k=1 then ({ m with nmi:=true },[0]) else if k=2 then ({ m with irq:=true },[0]) else if k=3 then ({ m with irq:=false },[0]) else (m,[-1])):=by
 show out (spec m (.ask k))=_
 have e:spec m (.ask k)=(if k=0 then (m.reset,only 0) else if k=1 then ({ m with nmi:=true },only 0) else if k=2 then ({ m with irq:=true },only 0) else if k=3 then ({ m with irq:=false },only 0) else (m,only (-1))):=rfl
 rw[e]
 repeat' split
 all_goals rfl
theorem step_run{m:St}{n:Nat}:step m [[4,(n:Int)]]=(if 10000000<n then (m,[-1]) else ((steps n m).1,[((steps n m).2:Int)])):=by
 show out (if RUN<n then _ else _)=_
 unfold RUN
 split <;> rfl
theorem step_get{m:St}{k:Nat}:step m [[6,(k:Int)]]=(match m.tell k with|some x=>(m,[(x:Int)])|none=>(m,[-1])):=by
 show out (match m.tell k with|some x=>(m,only x)|none=>(m,only (-1)))=_
 cases m.tell k <;> rfl
theorem step_set{m:St}{k v:Nat}:step m [[7,(k:Int),(v:Int)]]=(match m.change_ k v with|some t=>(t,[0])|none=>(m,[-1])):=by
 show out (match m.change_ k v with|some t=>(t,only 0)|none=>(m,only (-1)))=_
 cases m.change_ k v <;> rfl
end Q
end
section
namespace EV
open PySem L2
inductive U where
 |non|bl (b:Bool)|int (i:Int)|pair (i j:Int)|cpu|mem|banks|bank (b:Nat)
structure M where
 a:Int
 x:Int
 y:Int
 d:Int
 s:Int
 pc:Int
 pb:Int
 db:Int
 flags:Int
 emu:Bool
 waits:Bool
 stopped:Bool
 nmi:Bool
 irq:Bool
 why:Int
 mem:Nat→Int
noncomputable def M.get(m:M):Nat→Option U
 |0=>some .mem
 |1=>some .banks
 |2=>some (.int m.a)
 |3=>some (.int m.x)
 |4=>some (.int m.y)
 |5=>some (.int m.d)
 |6=>some (.int m.s)
 |7=>some (.int m.pc)
 |8=>some (.int m.pb)
 |9=>some (.int m.db)
 |10=>some (.int m.flags)
 |11=>some (.bl m.emu)
 |12=>some (.bl m.waits)
 |13=>some (.bl m.stopped)
 |14=>some (.bl m.nmi)
 |15=>some (.bl m.irq)
 |16=>some (.int m.why)
 |_=>none
noncomputable def M.put(m:M):Nat→U→Option M
 |2,.int i=>some { m with a:=i }
 |3,.int i=>some { m with x:=i }
 |4,.int i=>some { m with y:=i }
 |5,.int i=>some { m with d:=i }
 |6,.int i=>some { m with s:=i }
 |7,.int i=>some { m with pc:=i }
 |8,.int i=>some { m with pb:=i }
 |9,.int i=>some { m with db:=i }
 |10,.int i=>some { m with flags:=i }
 |11,.bl b=>some { m with emu:=b }
 |12,.bl b=>some { m with waits:=b }
 |13,.bl b=>some { m with stopped:=b }
 |14,.bl b=>some { m with nmi:=b }
 |15,.bl b=>some { m with irq:=b }
 |16,.int i=>some { m with why:=i }
 |_,_=>none
noncomputable def M.wr(m:M)(at_:Nat)(v:Int):M:={ m with mem:=fun j=>if j=at_ then v else m.mem j }
inductive Bop where
 |add|sub|mul|and|or|xor|shl|shr
inductive Cop where
 |lt|le|gt|ge|eq
inductive P where
 |loc (i:Nat)
 |int (i:Int)
 |bl (b:Bool)
 |non
 |neg (i:Int)
 |glob (i:Int)
 |fld (f:Nat)
 |bin (op:Bop) (a b:P)
 |inv (a:P)
 |cmp (op:Cop) (a b:P)
 |no (a:P)
 |ife (c a b:P)
 |ix (a i:P)
mutual
inductive E where
 |p (a:P)
 |bin (op:Bop) (a b:E)
 |cmp (op:Cop) (a b:E)
 |inv (a:E)
 |pair (a b:P)
 |call (f:Nat) (as:Es)
 |meth (f:Nat) (as:Es)
 |put (a b:E)
inductive Es where
 |nil
 |cons (e:E) (r:Es)
end
mutual
inductive S where
 |set (i:Nat) (e:E)
 |setB (i:Nat) (p:P)
 |fld (f:Nat) (e:E)
 |aug (i:Nat) (e:E)
 |ex (e:E)
 |ret (e:E)
 |ife (c:P) (a b:Ss)
 |b0 (i j:Nat)
 |pass
inductive Ss where
 |nil
 |cons (s:S) (r:Ss)
end
noncomputable abbrev Env:=List (Option U)
noncomputable def tru:U→Option Bool
 |.non=>some false
 |.bl b=>some b
 |.int i=>some (i != 0)
 |_=>none
noncomputable def bop:Bop→Int→Int→Option Int
 |.add,i,j=>some (i+j)
 |.sub,i,j=>some (i - j)
 |.mul,i,j=>if -(2 ^ 64)<i∧i<2 ^ 64 then some (i * j) else none
 |.and,i,j=>some (Builtin.bitAnd i j)
 |.or,i,j=>some (Builtin.bitOr i j)
 |.xor,i,j=>some (Builtin.bitXor i j)
 |.shl,i,j=>if 0≤j∧j≤1000000∧i.natAbs<2 ^ 64 then some (i * 2 ^ j.toNat) else none
 |.shr,i,j=>if 0≤j then some (i / 2 ^ j.toNat) else none
noncomputable def cop:Cop→Int→Int→Bool
 |.lt,i,j=>decide (i<j)
 |.le,i,j=>decide (i≤j)
 |.gt,i,j=>decide (j<i)
 |.ge,i,j=>decide (j≤i)
 |.eq,i,j=>decide (i=j)
noncomputable def hasCpu(us:Env):Bool:=match us with
 |some .cpu::_=>true
 |_=>false
noncomputable def item(m:M):U→U→Option U
 |.banks,.int b=>if 0≤b∧b<256 then some (.bank b.toNat) else none
 |.bank b,.int o=>if 0≤o∧o<65536 then some (.int (m.mem (b * 65536+o.toNat))) else none
 |.pair i _,.int 0=>some (.int i)
 |.pair _ j,.int 1=>some (.int j)
 |_,_=>none
noncomputable def evP(us:Env)(m:M):P→Option U
 |.loc i=>(us[i]?).join
 |.int i=>some (.int i)
 |.bl b=>some (.bl b)
 |.non=>some .non
 |.neg i=>some (.int (-i))
 |.glob i=>some (.int i)
 |.fld f=>if hasCpu us then m.get f else none
 |.bin op a b=>match evP us m a,evP us m b with
  |some (.int i),some (.int j)=>(bop op i j).map .int
  |_,_=>none
 |.inv a=>match evP us m a with
  |some (.int i)=>some (.int (Builtin.bitNot i))
  |_=>none
 |.cmp op a b=>match evP us m a,evP us m b with
  |some (.int i),some (.int j)=>some (.bl (cop op i j))
  |_,_=>none
 |.no a=>match evP us m a with
  |some u=>(tru u).map fun b=>.bl (!b)
  |none=>none
 |.ife c a b=>match evP us m c with
  |some u=>(match tru u with
   |some true=>evP us m a
   |some false=>evP us m b
   |none=>none)
  |none=>none
 |.ix a i=>match evP us m a,evP us m i with
  |some u,some v=>item m u v
  |_,_=>none
noncomputable def U.stays:U→Bool
 |.bank _=>false
 |_=>true
noncomputable def stay:Env→Bool
 |[]=>true
 |none::r=>stay r
 |some u::r=>u.stays&&stay r
noncomputable abbrev Fns:=Nat→List U→M→Option (U×M)
mutual
noncomputable def evE(fn:Fns)(us:Env)(m:M):E→Option (U×M)
 |.p a=>match evP us m a with
  |some u=>if u.stays then some (u,m) else none
  |none=>none
 |.bin op a b=>if stay us then (match evE fn us m a with
  |some (.int i,m1)=>(match evE fn us m1 b with
   |some (.int j,m2)=>(match bop op i j with
    |some z=>some (.int z,m2)
    |none=>none)
   |_=>none)
  |_=>none) else none
 |.cmp op a b=>if stay us then (match evE fn us m a with
  |some (.int i,m1)=>(match evE fn us m1 b with
   |some (.int j,m2)=>some (.bl (cop op i j),m2)
   |_=>none)
  |_=>none) else none
 |.inv a=>match evE fn us m a with
  |some (.int i,m1)=>some (.int (Builtin.bitNot i),m1)
  |_=>none
 |.pair a b=>match evP us m a,evP us m b with
  |some (.int i),some (.int j)=>some (.pair i j,m)
  |_,_=>none
 |.call f as=>if stay us then (match evEs fn us m as with
  |some (vs,m1)=>fn f vs m1
  |none=>none) else none
 |.meth f as=>if (hasCpu us&&stay us)=true then (match evEs fn us m as with
  |some (vs,m1)=>fn f (.cpu::vs) m1
  |none=>none) else none
 |.put a b=>if (hasCpu us&&stay us)=true then (match evE fn us m a with
  |some (.int i,m1)=>(match evE fn us m1 b with
   |some (.int j,m2)=>if 0≤i∧i<16777216 then some (.non,m2.wr i.toNat j) else none
   |_=>none)
  |_=>none) else none
noncomputable def evEs(fn:Fns)(us:Env)(m:M):Es→Option (List U×M)
 |.nil=>some ([],m)
 |.cons e r=>match evE fn us m e with
  |some (u,m1)=>if u.stays then (match evEs fn us m1 r with
   |some (vs,m2)=>some (u::vs,m2)
   |none=>none) else none
  |none=>none
end
mutual
noncomputable def evS(fn:Fns)(us:Env)(m:M)(k:Env→M→Option (U×M)):S→Option (U×M)
 |.set i e=>if (decide (i<us.length)&&stay us)=true then (match evE fn us m e with
  |some (u,m1)=>k (us.set i (some u)) m1
  |none=>none) else none
 |.setB i p=>if i<us.length then (match evP us m p with
  |some u=>k (us.set i (some u)) m
  |none=>none) else none
 |.fld f e=>if (hasCpu us&&stay us)=true then (match evE fn us m e with
  |some (u,m1)=>(match m1.put f u with
   |some m2=>k us m2
   |none=>none)
  |none=>none) else none
 |.aug i e=>if stay us then (match (us[i]?).join with
  |some (.int z)=>(match evE fn us m e with
   |some (.int j,m1)=>k (us.set i (some (.int (z+j)))) m1
   |_=>none)
  |_=>none) else none
 |.ex e=>if stay us then (match evE fn us m e with
  |some (_,m1)=>k us m1
  |none=>none) else none
 |.ret e=>evE fn us m e
 |.ife c a b=>match evP us m c with
  |some u=>(match tru u with
   |some true=>evSs fn us m k a
   |some false=>evSs fn us m k b
   |none=>none)
  |none=>none
 |.b0 i j=>if (hasCpu us&&stay us)=true then (match (us[i]?).join,(us[j]?).join with
  |some (.int o),some (.int v)=>if 0≤o∧o<65536 then k us (m.wr o.toNat v) else none
  |_,_=>none) else none
 |.pass=>k us m
noncomputable def evSs(fn:Fns)(us:Env)(m:M)(k:Env→M→Option (U×M)):Ss→Option (U×M)
 |.nil=>k us m
 |.cons s r=>evS fn us m (fun us' m'=>evSs fn us' m' k r) s
end
end EV
end
section
namespace EV
open PySem L2
noncomputable def fnames:List Str:=["memory","banks","a","x","y","d","s","pc","pb","db","flags","emulation","waiting","stopped","nmi_asked","irq_asked","why"]
noncomputable def GC0:List (String×Int):=[("MEMORY_SIZE",16777216),("BANK_SIZE",65536),("BANK_COUNT",256),("NEGATIVE",128),("OVERFLOW",64),("NARROW_A",32),("NARROW_X",16),("DECIMAL",8),("IRQ_OFF",4),("ZERO",2),("CARRY",1),
 ("STACK_PAGE",256),("FIRST_STACK",511),("RESET_VECTOR",65532),("ASK_RESET",0),("ASK_NMI",1),("ASK_IRQ",2),("ASK_NO_IRQ",3),("WHY_ALL_DONE",0),("WHY_WAITING",1),("WHY_STOPPED",2),
 ("COP_VECTOR",65508),("BRK_VECTOR",65510),("NMI_VECTOR",65514),("IRQ_VECTOR",65518),("EMULATION_COP_VECTOR",65524),("EMULATION_NMI_VECTOR",65530),("EMULATION_BRK_VECTOR",65534),("EMULATION_IRQ_VECTOR",65534),
 ("ALL_BUT_N_Z",125),("MOVE_LENGTH",3),("LAST_PLACE",16777215),("CPU_BEGIN",0),("CPU_LOAD",1),("CPU_LOOK",2),("CPU_ASK",3),("CPU_RUN",4),("CPU_WHY",5),("CPU_GET",6),("CPU_SET",7),
 ("DONE",0),("REFUSED",-1),("MOST_BYTES",65536),("MOST_STEPS",10000000),("REGISTER_COUNT",10)]
noncomputable def GC:List (Str×Int):=GC0.map fun p=>(Str.ofString p.1,p.2)
structure FR where
 name:Str
 qual:Str
 meth:Bool
 ps:List Str
 N:List Str
 st:Stmt
 body:Ss
 prim:Option (List U→M→Option (U×M)):=none
noncomputable def mJ:Bop→Operator→Bool
 |.add,.Add=>true
 |.sub,.Sub=>true
 |.mul,.Mult=>true
 |.and,.BitAnd=>true
 |.or,.BitOr=>true
 |.xor,.BitXor=>true
 |.shl,.LShift=>true
 |.shr,.RShift=>true
 |_,_=>false
noncomputable def mK:Cop→CmpOp→Bool
 |.lt,.Lt=>true
 |.le,.LtE=>true
 |.gt,.Gt=>true
 |.ge,.GtE=>true
 |.eq,.Eq=>true
 |_,_=>false
noncomputable def dR(N:List Str)(sc:Scope)(i:Nat)(x:Str):Bool:=
 decide (N[i]?=some x)&&decide (sc.names.lookup x=some .local)&&!(x==("__debug__":Str))&&!(x==("__classdict__":Str))
noncomputable def oX(sc:Scope)(x:Str):Bool:=decide (sc.names.lookup x=some .globalImplicit)&&!(x==("__debug__":Str))
noncomputable def kL:P→Bool
 |.no a=>kL a
 |.ife _ _ _=>false
 |_=>true
noncomputable def aV(N:List Str)(sc:Scope):P→Expr→Bool
 |.loc i=>fun e=>match e with
  |.Name x _=>dR N sc i x
  |_=>false
 |.int i=>fun e=>match e with
  |.Constant (.int j) _ _=>decide (i=j)
  |_=>false
 |.bl i=>fun e=>match e with
  |.Constant (.bool j) _ _=>decide (i=j)
  |_=>false
 |.non=>fun e=>match e with
  |.Constant .none _ _=>true
  |_=>false
 |.neg i=>fun e=>match e with
  |.UnaryOp .USub (.Constant (.int j) _ _) _=>decide (i=j)
  |_=>false
 |.glob i=>fun e=>match e with
  |.Name x _=>oX sc x&&decide (GC.lookup x=some i)
  |_=>false
 |.fld f=>fun e=>match e with
  |.Attribute (.Name x _) a _=>dR N sc 0 x&&decide (fnames[f]?=some a)
  |_=>false
 |.bin op a b=>fun e=>match e with
  |.BinOp l o r _=>mJ op o&&aV N sc a l&&aV N sc b r
  |_=>false
 |.inv a=>fun e=>match e with
  |.UnaryOp .Invert x _=>aV N sc a x
  |_=>false
 |.cmp op a b=>fun e=>match e with
  |.Compare l [o] [r] _=>mK op o&&aV N sc a l&&aV N sc b r
  |_=>false
 |.no a=>fun e=>match e with
  |.UnaryOp .Not x _=>aV N sc a x
  |_=>false
 |.ife c a b=>fun e=>match e with
  |.IfExp x l r _=>kL c&&aV N sc c x&&aV N sc a l&&aV N sc b r
  |_=>false
 |.ix a b=>fun e=>match e with
  |.Subscript l r _=>aV N sc a l&&aV N sc b r
  |_=>false
mutual
noncomputable def bQ(FT:List FR)(N:List Str)(sc:Scope):E→Expr→Bool
 |.p a=>fun e=>aV N sc a e
 |.bin op a b=>fun e=>match e with
  |.BinOp l o r _=>mJ op o&&bQ FT N sc a l&&bQ FT N sc b r
  |_=>false
 |.cmp op a b=>fun e=>match e with
  |.Compare l [o] [r] _=>mK op o&&bQ FT N sc a l&&bQ FT N sc b r
  |_=>false
 |.inv a=>fun e=>match e with
  |.UnaryOp .Invert x _=>bQ FT N sc a x
  |_=>false
 |.pair a b=>fun e=>match e with
  |.Tuple [l,r] _ _=>aV N sc a l&&aV N sc b r
  |_=>false
 |.call f as=>fun e=>match e with
  |.Call (.Name x _) es [] _=>oX sc x&&(match FT[f]? with
   |some r=>!r.meth&&decide (r.name=x)
   |none=>false)&&fO FT N sc as es&&!es.isEmpty
  |_=>false
 |.meth f as=>fun e=>match e with
  |.Call (.Attribute (.Name x _) a ap) es [] cp=>dR N sc 0 x&&(ap.endLine==cp.line)&&decide (es.length<30)&&(match FT[f]? with
   |some r=>r.meth&&decide (r.name=a)&&!(fnames.contains a)
   |none=>false)&&fO FT N sc as es
  |_=>false
 |.put a b=>fun e=>match e with
  |.Call (.Attribute (.Attribute (.Name x _) y _) z ap) [l,r] [] cp=>dR N sc 0 x&&(ap.endLine==cp.line)&&decide (y="memory")&&decide (z="put")&&bQ FT N sc a l&&bQ FT N sc b r
  |_=>false
noncomputable def fO(FT:List FR)(N:List Str)(sc:Scope):Es→List Expr→Bool
 |.nil=>fun es=>match es with
  |[]=>true
  |_=>false
 |.cons a r=>fun es=>match es with
  |e::es=>bQ FT N sc a e&&fO FT N sc r es
  |_=>false
end
theorem nof{p:Prop}(h:false=true):p:=nomatch h
noncomputable def dQ:Expr→Option Str
 |.Name x _=>some x
 |_=>none
noncomputable def wO:Expr→Option (Str×Str)
 |.Attribute o y _=>(dQ o).map fun x=>(x,y)
 |_=>none
noncomputable def xA:Expr→Option (Expr×Str)
 |.Subscript b z _=>(dQ z).map fun x=>(b,x)
 |_=>none
noncomputable def hG:List Expr→Option Expr
 |[]=>none
 |e::r=>match r with
  |[]=>some e
  |_::_=>none
theorem lH{e:Expr}{x:Str}(h:dQ e=some x):∃ p,e=.Name x p:=by
 cases e with
 |Name y p=>cases h;exact⟨p,rfl⟩
 |_=>cases h
theorem z6x{e:Expr}{o:Str×Str}(h:wO e=some o):∃ p q,e=.Attribute (.Name o.1 p) o.2 q:=by
 cases e with
 |Attribute b y q=>
  cases z:dQ b with
  |none=>
   have h':(dQ b).map (fun x=>(x,y))=some o:=h
   rw[z] at h'
   cases h'
  |some x=>
   have h':(dQ b).map (fun x=>(x,y))=some o:=h
   rw[z] at h'
   cases h'
   obtain⟨p,rfl⟩:=lH z
   exact⟨p,q,rfl⟩
 |_=>cases h
theorem z7X{e:Expr}{o:Expr×Str}(h:xA e=some o):∃ p q,e=.Subscript o.1 (.Name o.2 p) q:=by
 cases e with
 |Subscript b y q=>
  cases z:dQ y with
  |none=>
   have h':(dQ y).map (fun x=>(b,x))=some o:=h
   rw[z] at h'
   cases h'
  |some x=>
   have h':(dQ y).map (fun x=>(b,x))=some o:=h
   rw[z] at h'
   cases h'
   obtain⟨p,rfl⟩:=lH z
   exact⟨p,q,rfl⟩
 |_=>cases h
theorem nY{α:Type}{f:Expr→Option α}{l:List Expr}{x:α}(h:(hG l).bind f=some x):∃ e,l=[e]∧f e=some x:=by
 cases l with
 |nil=>cases h
 |cons e r=>
  cases r with
  |nil=>exact⟨e,rfl,h⟩
  |cons _ _=>cases h
mutual
noncomputable def fX(FT:List FR)(N:List Str)(sc:Scope):S→Stmt→Bool
 |.set i a=>fun s=>match s with
  |.Assign tg e _=>(match (hG tg).bind dQ with
   |some x=>dR N sc i x&&bQ FT N sc a e
   |none=>false)
  |_=>false
 |.setB i a=>fun s=>match s with
  |.Assign tg e _=>(match (hG tg).bind dQ with
   |some x=>dR N sc i x&&aV N sc a e
   |none=>false)
  |_=>false
 |.fld f a=>fun s=>match s with
  |.Assign tg e _=>(match (hG tg).bind wO with
   |some o=>dR N sc 0 o.1&&decide (fnames[f]?=some o.2)&&bQ FT N sc a e
   |none=>false)
  |_=>false
 |.aug i a=>fun s=>match s with
  |.AugAssign (.Name x _) .Add e _=>dR N sc i x&&bQ FT N sc a e
  |_=>false
 |.ex a=>fun s=>match s with
  |.Expr e _=>bQ FT N sc a e
  |_=>false
 |.ret a=>fun s=>match s with
  |.Return (some e) _=>bQ FT N sc a e
  |_=>false
 |.ife c a b=>fun s=>match s with
  |.If e t u _=>kL c&&aV N sc c e&&fU FT N sc a t&&fU FT N sc b u
  |_=>false
 |.b0 i j=>fun s=>match s with
  |.Assign tg e _=>(match (hG tg).bind xA with
   |some o=>(match dQ e with
    |some v=>aV N sc (.ix (.fld 1) (.int 0)) o.1&&dR N sc i o.2&&dR N sc j v
    |none=>false)
   |none=>false)
  |_=>false
 |.pass=>fun s=>match s with
  |.Pass _=>true
  |_=>false
noncomputable def fU(FT:List FR)(N:List Str)(sc:Scope):Ss→List Stmt→Bool
 |.nil=>fun ss=>match ss with
  |[]=>true
  |_=>false
 |.cons a r=>fun ss=>match ss with
  |s::ss=>fX FT N sc a s&&fU FT N sc r ss
  |_=>false
end
structure Lay where
 c:Addr
 dc:Addr
 mm:Addr
 dm:Addr
 bl:Addr
 wl:Addr
 ba:Nat→Addr
 wr:Nat→Bool
structure Tx where
 CC:Addr
 CM:Addr
 fa:Nat→Addr
 fd:Nat→FuncData
 pa:Addr
 pd:FuncData
noncomputable def vals(L:Lay)(m:M):List V:=[.ref L.mm,.ref L.bl,.int m.a,.int m.x,.int m.y,.int m.d,.int m.s,.int m.pc,.int m.pb,.int m.db,.int m.flags,.bl m.emu,.bl m.waits,.bl m.stopped,.bl m.nmi,.bl m.irq,.int m.why]
noncomputable def mU(L:Lay):List (Str×V):=[("banks",.ref L.bl),("written",.ref L.wl)]
structure At(t:Tx)(L:Lay)(H:Hp)(m:M):Prop where
 c:H L.c=some (.ins t.CC L.dc (fnames.zip (vals L m)))
 mm:H L.mm=some (.ins t.CM L.dm (mU L))
 bl:H L.bl=some (.lst ((List.range 256).map fun b=>.ref (L.ba b)))
 wl:H L.wl=some (.lst ((List.range 256).map fun b=>.bl (L.wr b)))
 bk:∀ b,b<256→∃ xs:List V,H (L.ba b)=some (.lst xs)∧xs.length=65536∧∀ o,o<65536→xs[o]?=some (.int (m.mem (b * 65536+o)))
 inj:∀ b b',b<256→b'<256→L.wr b=true→L.ba b=L.ba b'→b=b'
 w0:L.wr 0=true
 nl:∀ b,b<256→L.ba b≠L.bl∧L.ba b≠L.wl
 bw:L.bl≠L.wl
 cm:L.c≠L.mm
 z:∀ b,b<256→L.wr b=false→∀ o,o<65536→m.mem (b * 65536+o)=0
noncomputable def hC(L:Lay)(b:Addr):Prop:=b=L.mm∨b=L.bl∨b=L.wl∨∃ i,i<256∧b=L.ba i
noncomputable def bK(L:Lay)(b:Addr):Prop:=b=L.c∨hC L b
structure Ext(L:Lay)(H:Hp)(L':Lay)(H':Hp):Prop where
 c:L'.c=L.c
 mm:L'.mm=L.mm
 bl:L'.bl=L.bl
 wl:L'.wl=L.wl
 keep:∀ b o,H b=some o→¬ bK L b→H' b=some o
 foot:∀ b,bK L' b→bK L b∨H b=none
 tup:∀ b xs,H b=some (.tup xs)→H' b=some (.tup xs)
theorem Ext.refl(L:Lay)(H:Hp):Ext L H L H:=⟨rfl,rfl,rfl,rfl,fun _ _ h _=>h,fun _ h=>.inl h,fun _ _ h=>h⟩
theorem Ext.trans{L L1 L2:Lay}{H H1 H2:Hp}(a:Ext L H L1 H1)(b:Ext L1 H1 L2 H2):Ext L H L2 H2:=by
 refine⟨b.c.trans a.c,b.mm.trans a.mm,b.bl.trans a.bl,b.wl.trans a.wl,fun x o h n=>?_,fun x f=>?_,fun x xs h=>b.tup _ _ (a.tup _ _ h)⟩
 ·refine b.keep x o (a.keep x o h n) fun f=>?_
  rcases a.foot x f with f|f
  ·exact n f
  ·rw[h] at f;cases f
 ·rcases b.foot x f with f|f
  ·exact a.foot x f
  ·by_cases n:bK L x
   ·exact .inl n
   ·right
    cases e:H x with
    |none=>rfl
    |some o=>rw[a.keep x o e n] at f;cases f
noncomputable def RU(L:Lay)(H:Hp):U→V→Prop
 |.non,v=>v=.non
 |.bl b,v=>v=.bl b
 |.int i,v=>v=.int i
 |.pair i j,v=>∃ p,v=.ref p∧H p=some (.tup [.int i,.int j])
 |.cpu,v=>v=.ref L.c
 |.mem,v=>v=.ref L.mm
 |.banks,v=>v=.ref L.bl
 |.bank b,v=>b<256∧v=.ref (L.ba b)
theorem RU.ext{L L':Lay}{H H':Hp}{v:V}(e:Ext L H L' H'):∀{u:U},u.stays=true→RU L H u v→RU L' H' u v
 |.non,_,h=>h
 |.bl _,_,h=>h
 |.int _,_,h=>h
 |.pair i j,_,⟨p,h1,h2⟩=>⟨p,h1,e.tup _ _ h2⟩
 |.cpu,_,h=>by show v=.ref L'.c;rw[e.c];exact h
 |.mem,_,h=>by show v=.ref L'.mm;rw[e.mm];exact h
 |.banks,_,h=>by show v=.ref L'.bl;rw[e.bl];exact h
 |.bank b,q,_=>absurd q Bool.false_ne_true
structure RS(L:Lay)(H:Hp)(us:Env)(σ:St):Prop where
 len:us.length=σ.length
 at_:∀(i:Nat) (u:U),us[i]?=some (some u)→∃ v,σ[i]?=some (some v)∧RU L H u v
theorem wM:∀{us:Env},stay us=true→∀{i:Nat}{u:U},us[i]?=some (some u)→u.stays=true
 |[],_,_,_,e=>by simp at e
 |none::r,h,0,_,e=>by simp at e
 |none::r,h,i+1,_,e=>wM (us:=r) h (by simpa using e)
 |some w::r,h,0,u,e=>by
  have e':w=u:=by simpa using e
  subst e'
  exact(Bool.and_eq_true_iff.mp h).1
 |some w::r,h,i+1,_,e=>wM (us:=r) (Bool.and_eq_true_iff.mp h).2 (by simpa using e)
theorem RS.ext{L L':Lay}{H H':Hp}{us:Env}{σ:St}(r:RS L H us σ)(s:stay us=true)(e:Ext L H L' H'):RS L' H' us σ:=
 ⟨r.len,fun i u h=>let ⟨v,h1,h2⟩:=r.at_ i u h;⟨v,h1,h2.ext e (wM s h)⟩⟩
theorem RS.set{L:Lay}{H:Hp}{us:Env}{σ:St}(r:RS L H us σ)(i:Nat){u:U}{v:V}(h:RU L H u v):RS L H (us.set i (some u)) (σ.set i (some v)):=by
 refine⟨by simp[r.len],fun j w e=>?_⟩
 by_cases q:i=j
 ·subst q
  by_cases hl:i<us.length
  ·rw[List.getElem?_set_self hl] at e
   cases e
   exact⟨v,by rw[List.getElem?_set_self (by rw[←r.len];exact hl)],h⟩
  ·rw[List.getElem?_eq_none (by simp;omega)] at e
   cases e
 ·rw[List.getElem?_set_ne q] at e
  obtain⟨v',h1,h2⟩:=r.at_ j w e
  exact⟨v',by rw[List.getElem?_set_ne q];exact h1,h2⟩
theorem RS.same{L:Lay}{H H':Hp}{us:Env}{σ:St}(r:RS L H us σ)(e:∀ b xs,H b=some (.tup xs)→H' b=some (.tup xs)):RS L H' us σ:=
 ⟨r.len,fun i u h=>by
  obtain⟨v,h1,h2⟩:=r.at_ i u h
  refine⟨v,h1,?_⟩
  cases u with
  |pair i j=>obtain⟨p,h3,h4⟩:=h2;exact⟨p,h3,e _ _ h4⟩
  |_=>exact h2⟩
theorem nU:fnames.Nodup:=by decide +kernel
theorem nS:∀{N:List Str}{vs:List V}{i:Nat}{x:Str}{v:V},N.Nodup→N[i]?=some x→vs[i]?=some v→(N.zip vs).lookup x=some v
 |[],_,_,_,_,_,h,_=>by simp at h
 |_::_,[],_,_,_,_,_,h=>by simp at h
 |n::N,w::vs,0,x,v,_,h1,h2=>by
  simp at h1 h2;subst h1;subst h2
  simp[List.lookup_cons]
 |n::N,w::vs,i+1,x,v,nd,h1,h2=>by
  have nd':=List.nodup_cons.mp nd
  have h1':N[i]?=some x:=by simpa using h1
  have ne:(x==n)=false:=by
   apply beq_false_of_ne
   rintro rfl
   exact nd'.1 (List.mem_of_getElem? h1')
  rw[List.zip_cons_cons,List.lookup_cons,ne]
  exact nS nd'.2 h1' (by simpa using h2)
theorem z6t:∀{N:List Str}{vs:List V}{i:Nat}{x:Str} (v:V),N.Nodup→N[i]?=some x→i<vs.length→aZ x v (N.zip vs)=N.zip (vs.set i v)
 |[],_,_,_,_,_,h,_=>by simp at h
 |_::_,[],_,_,_,_,_,h=>by simp at h
 |n::N,w::vs,0,x,v,_,h1,h2=>by
  simp at h1;subst h1
  rw[List.zip_cons_cons,List.set_cons_zero,List.zip_cons_cons]
  show (if n=n then _ else _)=_
  rw[if_pos rfl]
 |n::N,w::vs,i+1,x,v,nd,h1,h2=>by
  have nd':=List.nodup_cons.mp nd
  have h1':N[i]?=some x:=by simpa using h1
  have ne:¬ n=x:=by
   rintro rfl
   exact nd'.1 (List.mem_of_getElem? h1')
  rw[List.zip_cons_cons,List.set_cons_succ,List.zip_cons_cons]
  show (if n=x then _ else (n,w)::aZ x v (N.zip vs))=_
  rw[if_neg ne,z6t v nd'.2 h1' (by simpa using h2)]
theorem vF:∀{N:List Str}{vs:List V}{x:Str},N.contains x=false→(N.zip vs).lookup x=none
 |[],_,_,_=>by simp
 |_::_,[],_,_=>by simp
 |n::N,w::vs,x,h=>by
  have h':(x==n)=false∧N.contains x=false:=by
   rw[List.contains_cons] at h
   simpa [Bool.or_eq_false_iff] using h
  rw[List.zip_cons_cons,List.lookup_cons,h'.1]
  exact vF h'.2
theorem y7E{L:Lay}{H:Hp}{m:M}:∀{f:Nat}{u:U},m.get f=some u→∃ v,(vals L m)[f]?=some v∧RU L H u v
 |0,_,h|1,_,h|2,_,h|3,_,h|4,_,h|5,_,h|6,_,h|7,_,h|8,_,h|9,_,h|10,_,h|11,_,h|12,_,h|13,_,h|14,_,h|15,_,h|16,_,h=>by cases h;exact⟨_,rfl,rfl⟩
 |n+17,u,h=>by cases h
section
variable{L:Lay}{H:Hp}{m m':M}{f:Nat}{u:U}{v:V}{F:U→Option M}
theorem pv_i{g:Int→M}(p:∀ i,F (.int i)=some (g i))(e:∀ i,vals L (g i)=(vals L m).set f (.int i)∧f<17∧(g i).mem=m.mem)(h:F u=some m')(r:RU L H u v)(n:∀ i,F (.bl i)=none)(n0:F .non=none)(n1:∀ i j,F (.pair i j)=none)(n2:F .cpu=none)(n3:F .mem=none)(n4:F .banks=none)(n5:∀ b,F (.bank b)=none):vals L m'=(vals L m).set f v∧f<17∧m'.mem=m.mem:=by
 cases u with
 |int i=>rw[p i] at h;cases h;cases r;exact e i
 |non=>rw[n0] at h;cases h
 |bl i=>rw[n i] at h;cases h
 |pair i j=>rw[n1] at h;cases h
 |cpu=>rw[n2] at h;cases h
 |mem=>rw[n3] at h;cases h
 |banks=>rw[n4] at h;cases h
 |bank b=>rw[n5] at h;cases h
theorem pv_b{g:Bool→M}(p:∀ i,F (.bl i)=some (g i))(e:∀ i,vals L (g i)=(vals L m).set f (.bl i)∧f<17∧(g i).mem=m.mem)(h:F u=some m')(r:RU L H u v)(n:∀ i,F (.int i)=none)(n0:F .non=none)(n1:∀ i j,F (.pair i j)=none)(n2:F .cpu=none)(n3:F .mem=none)(n4:F .banks=none)(n5:∀ b,F (.bank b)=none):vals L m'=(vals L m).set f v∧f<17∧m'.mem=m.mem:=by
 cases u with
 |bl i=>rw[p i] at h;cases h;cases r;exact e i
 |non=>rw[n0] at h;cases h
 |int i=>rw[n i] at h;cases h
 |pair i j=>rw[n1] at h;cases h
 |cpu=>rw[n2] at h;cases h
 |mem=>rw[n3] at h;cases h
 |banks=>rw[n4] at h;cases h
 |bank b=>rw[n5] at h;cases h
end
theorem x3H{p:Prop}{m':M}(h:none=some m'):p:=by cases h
theorem z9Q{L:Lay}{H:Hp}{m m':M}{f:Nat}{u:U}{v:V}(h:m.put f u=some m')(r:RU L H u v):vals L m'=(vals L m).set f v∧f<17∧m'.mem=m.mem:=by
 rcases f with _|_|_|_|_|_|_|_|_|_|_|_|_|_|_|_|_|f
 all_goals first|exact x3H h|exact pv_i (F:=m.put _) (fun _=>rfl) (by exact fun _=>⟨rfl,by decide,rfl⟩) h r (fun _=>rfl) rfl (fun _ _=>rfl) rfl rfl rfl fun _=>rfl|exact pv_b (F:=m.put _) (fun _=>rfl) (by exact fun _=>⟨rfl,by decide,rfl⟩) h r (fun _=>rfl) rfl (fun _ _=>rfl) rfl rfl rfl fun _=>rfl
end EV
end
section
namespace EV
open PySem L2
structure Cok(X:Cx)(N:List Str)(sc:Scope):Prop where
 hN:X.N=N
 nd:N.Nodup
 scn:X.env.scope.names=sc.names
 kd:∀ x,X.env.kindOf x=sc.names.lookup x
 fn:∀ x,X.fn x=true
structure Tok0(K:PySem.W.Frag)(mg:Str→Option Value)(t:Tx):Prop where
 cc:Cls K t.CC
 nf:∀ x,x∈fnames→NoAttr K t.CC x
 gc:∀ x i,GC.lookup x=some i→∃ k,mg x=some (.int i k)
theorem _root_.L2.PE.weak{X:Cx}{e:Expr}{t t':TE}(h:PE X e t)(w:∀ σ H Q,t' σ H Q→t σ H Q):PE X e t':=fun pins s σ H Q I q=>h pins s σ H Q I (w σ H Q q)
theorem _root_.L2.PT.weak{X:Cx}{e:Expr}{t t':TT}(h:PT X e t)(w:∀ σ H Q,t' σ H Q→t σ H Q):PT X e t':=fun pins s σ H Q I q=>h pins s σ H Q I (w σ H Q q)
theorem _root_.L2.PA.weak{X:Cx}{e:List Expr}{t t':TA}(h:PA X e t)(w:∀ σ H Q,t' σ H Q→t σ H Q):PA X e t':=fun pos pins s σ H Q I q=>h pos pins s σ H Q I (w σ H Q q)
theorem _root_.L2.PS.weak{X:Cx}{e:Stmt}{t t':TS}(h:PS X e t)(w:∀ D σ H,t' D σ H→t D σ H):PS X e t':=fun pins s σ H D I q=>h pins s σ H D I (w D σ H q)
theorem _root_.L2.PSs.weak{X:Cx}{e:List Stmt}{t t':TS}(h:PSs X e t)(w:∀ D σ H,t' D σ H→t D σ H):PSs X e t':=fun pins s σ H D I q=>h pins s σ H D I (w D σ H q)
open PySem.Spec PyProof.Rows in
theorem y8n{X:Cx}{a:Expr}{ta:TE}{pos:Pos}(ha:PE X a ta):PE X (.UnaryOp .Not a pos) (fun σ H Q=>ta σ H fun x H1=>∃ k,nB X.K x H1 k∧Q (.bl (!k)) H1):=by
 intro pins s σ H Q I h
 refine UnaryOp_ (thn (ha pins s σ H _ I h) fun v s1 h00=>?_)
 obtain⟨x,H1,I1,r1,q1⟩:=h00
 obtain⟨k,tk,q⟩:=q1
 refine not_of (thn (y0w pins s1 σ H1 x v (fun b H2=>b=k∧H2=H1∧Q (.bl (!k)) H1) I1 r1 ⟨k,tk,rfl,rfl,q⟩) fun b s2 h00=>?_)
 obtain⟨H2,I2,e1,e2,q2⟩:=h00
 subst e1
 subst e2
 exact⟨.bl (!b),H2,I2,rfl,q2⟩
noncomputable def eP:Expr→Bool
 |.Starred _ _=>false
 |.Slice _ _ _ _=>false
 |.ListComp _ _ _ _=>false
 |.SetComp _ _ _ _=>false
 |.DictComp _ _ _ _ _=>false
 |_=>true
theorem z9L{b:Expr}(h:eP b=true):z5l b:=by
 cases b <;> first|exact fun _ _=>rfl|exact nof h
theorem gC{e:Expr}{es:List Expr}{env:PySem.Env}(h:eP e=true):starEach (e::es) env=(false,eval e env)::starEach es env:=by
 cases e <;> first|rfl|exact nof h
theorem nR{e:Expr}{o:Option Expr}{l:Nat}{env:PySem.Env}(h:eP e=true):swapsWith e o l env=pure false:=by
 cases e <;> first|rfl|exact nof h
theorem lQ{N:List Str}{sc:Scope}{p:P}{e:Expr}(h:aV N sc p e=true):eP e=true:=by
 cases e <;> first|rfl|(cases p <;> exact nof h)
section
variable{X:Cx}{N:List Str}{sc:Scope}{t:Tx}
theorem jR(C:Cok X N sc){i:Nat}{x:Str}{pos:Pos}(h:dR N sc i x=true):PE X (.Name x pos) (gO i):=by
 simp only[dR,Bool.and_eq_true,decide_eq_true_eq,Bool.not_eq_true'] at h
 obtain⟨⟨⟨h1,h2⟩,h3⟩,h4⟩:=h
 exact z9I (by rw[C.hN];exact h1) (.inl (by rw[C.scn];exact h2)) h3 h4
theorem z5U(C:Cok X N sc){x:Str}(h:oX sc x=true):Gl X x∧(x==("__debug__":Str))=false:=by
 simp only[oX,Bool.and_eq_true,decide_eq_true_eq,Bool.not_eq_true'] at h
 exact⟨(C.kd x).trans h.1,h.2⟩
noncomputable def TPv(t:Tx)(p:P):TE:=fun σ H Q=>∃(L:Lay) (m:M) (us:Env) (u:U),At t L H m∧RS L H us σ∧evP us m p=some u∧∀ v,RU L H u v→Q v H
noncomputable def TTv(t:Tx)(p:P):TT:=fun σ H Q=>∃(L:Lay) (m:M) (us:Env) (u:U) (b:Bool),At t L H m∧RS L H us σ∧evP us m p=some u∧tru u=some b∧Q b H
theorem y0v{K:PySem.W.Frag}{L:Lay}{H:Hp}{u:U}{v:V}{b:Bool}(h:tru u=some b)(r:RU L H u v):nB K v H b:=by
 cases u with
 |non=>cases h;cases r;rfl
 |bl c=>cases h;cases r;rfl
 |int i=>cases h;cases r;rfl
 |_=>cases h
theorem gF{p:P}{e:Expr}(h:PE X e (TPv t p))(he:∀ whole,isTrue e X.env whole=(do let v ← whole;standAt e.pos;holding [v] (truthy v))):PT X e (TTv t p):=
 (uU h he).weak fun σ H Q ⟨L,m,us,u,b,A,R,ev,hb,q⟩=>⟨L,m,us,u,A,R,ev,fun v r=>⟨b,y0v hb r,q⟩⟩
theorem RS.cpu{L:Lay}{H:Hp}{us:Env}{σ:St}(r:RS L H us σ)(h:hasCpu us=true):σ[0]?=some (some (.ref L.c)):=by
 cases us with
 |nil=>cases h
 |cons o us=>
  cases o with
  |none=>cases h
  |some u=>
   cases u with
   |cpu=>
    obtain⟨v,h1,h2⟩:=r.at_ 0 .cpu rfl
    have h2':v=.ref L.c:=h2
    rw[h1,h2']
   |_=>cases h
theorem z8W(C:Cok X N sc)(T:Tok0 X.K X.mg t){x a:Str}{f:Nat}{p0 pos:Pos}(hx:dR N sc 0 x=true)(ha:fnames[f]?=some a):PE X (.Attribute (.Name x p0) a pos) (TPv t (.fld f)):=by
 refine(aQ (jR C hx) rfl).weak fun σ H Q h00=>?_
 obtain⟨L,m,us,u,A,R,ev,q⟩:=h00
 have ev':(if hasCpu us=true then m.get f else none)=some u:=ev
 by_cases hc:hasCpu us=true
 ·rw[if_pos hc] at ev'
  obtain⟨v,hv,rv⟩:=y7E (L:=L) (H:=H) ev'
  exact⟨_,R.cpu hc,L.c,t.CC,L.dc,_,v,rfl,A.c,T.cc,T.nf a (List.mem_of_getElem? ha),nS nU ha hv,q v rv⟩
 ·rw[if_neg hc] at ev';cases ev'
theorem gW{α:Type}{f:Nat→α}{n:Nat}{i:Nat}(h:i<n):((List.range n).map f)[i]?=some (f i):=by
 rw[List.getElem?_map,List.getElem?_range h];rfl
theorem y2Z{K:PySem.W.Frag}{L:Lay}{H:Hp}{m:M}{u w z:U}{x y:V}{Q:VK}(A:At t L H m)(e:item m u w=some z)(r1:RU L H u x)(r2:RU L H w y)(q:∀ v,RU L H z v→Q v H) :
  (rIxL K x y H Q∨rIxT K x y H Q):=by
 unfold item at e
 split at e
 ·rename_i b
  by_cases hb:0≤b∧b<256
  ·rw[if_pos hb] at e
   cases e
   cases r1;cases r2
   refine .inl ⟨L.bl,_,b,.ref (L.ba b.toNat),rfl,rfl,SqL.of A.bl,bF (j:=b.toNat) (by omega) (gW (by omega)),q _ ⟨by omega,rfl⟩⟩
  ·rw[if_neg hb] at e;cases e
 ·rename_i b o
  by_cases ho:0≤o∧o<65536
  ·rw[if_pos ho] at e
   cases e
   obtain⟨hb,r1⟩:=r1
   cases r1;cases r2
   obtain⟨xs,h1,h2,h3⟩:=A.bk b hb
   exact .inl ⟨L.ba b,xs,o,_,rfl,rfl,SqL.of h1,bF (j:=o.toNat) (by omega) (h3 o.toNat (by omega)),q _ rfl⟩
  ·rw[if_neg ho] at e;cases e
 ·cases e
  obtain⟨p,rfl,hp⟩:=r1
  cases r2
  exact .inr ⟨p,_,0,_,rfl,rfl,SqT.of hp,bF (j:=0) rfl rfl,q _ rfl⟩
 ·cases e
  obtain⟨p,rfl,hp⟩:=r1
  cases r2
  exact .inr ⟨p,_,1,_,rfl,rfl,SqT.of hp,bF (j:=1) rfl rfl,q _ rfl⟩
 ·cases e
theorem wZ{a b:P}{us:Env}{m:M}{L:Lay}{σ:St}{H:Hp}{i j:Int}{R:V→V→Hp→Prop}(A:At t L H m)(S:RS L H us σ)(ea:evP us m a=some (.int i))(eb:evP us m b=some (.int j))(q:R (.int i) (.int j) H) :
  TPv t a σ H fun x H1=>TPv t b σ H1 fun y H2=>R x y H2:=
 ⟨L,m,us,.int i,A,S,ea,fun v rv=>⟨L,m,us,.int j,A,S,eb,fun v' rv'=>by
  have e1:v=.int i:=rv
  have e2:v'=.int j:=rv'
  rw[e1,e2];exact q⟩⟩
theorem y2E{op:Bop}{a b:P}{us:Env}{m:M}{u:U}(h:evP us m (.bin op a b)=some u):∃ i j z,evP us m a=some (.int i)∧evP us m b=some (.int j)∧bop op i j=some z∧u=.int z:=by
 unfold evP at h
 split at h
 ·rename_i i j e1 e2
  cases e:bop op i j with
  |none=>rw[e] at h;cases h
  |some z=>rw[e] at h;cases h;exact⟨i,j,z,e1,e2,e,rfl⟩
 ·cases h
theorem z5K{op:Cop}{a b:P}{us:Env}{m:M}{u:U}(h:evP us m (.cmp op a b)=some u):∃ i j,evP us m a=some (.int i)∧evP us m b=some (.int j)∧u=.bl (cop op i j):=by
 unfold evP at h
 split at h
 ·rename_i i j e1 e2
  cases h;exact⟨i,j,e1,e2,rfl⟩
 ·cases h
theorem z8p{op:Bop}{o:Operator}(h:mJ op o=true):∃ r:R2,OpR X (binaryOp o) r∧∀ i j z H Q,bop op i j=some z→Q (.int z) H→r (.int i) (.int j) H Q:=by
 cases op <;> cases o <;> first|exact nof h|skip
 ·exact⟨_,fK,fun i j z H Q e q=>by cases e;exact⟨_,_,rfl,rfl,q⟩⟩
 ·exact⟨_,pB,fun i j z H Q e q=>by cases e;exact⟨_,_,rfl,rfl,q⟩⟩
 ·refine⟨_,y8k,fun i j z H Q e q=>?_⟩
  replace e:(if -(2 ^ 64)<i∧i<2 ^ 64 then some (i * j) else none)=some z:=e
  by_cases c:-(2 ^ 64)<i∧i<2 ^ 64
  ·rw[if_pos c] at e;cases e;exact⟨_,_,rfl,rfl,.inl c,q⟩
  ·rw[if_neg c] at e;cases e
 ·exact⟨_,fL,fun i j z H Q e q=>by cases e;exact⟨_,_,rfl,rfl,q⟩⟩
 ·exact⟨_,z9A,fun i j z H Q e q=>by cases e;exact⟨_,_,rfl,rfl,q⟩⟩
 ·exact⟨_,y8l,fun i j z H Q e q=>by cases e;exact⟨_,_,rfl,rfl,q⟩⟩
 ·refine⟨_,lW,fun i j z H Q e q=>?_⟩
  replace e:(if 0≤j∧j≤1000000∧i.natAbs<2 ^ 64 then some (i * 2 ^ j.toNat) else none)=some z:=e
  by_cases c:0≤j∧j≤1000000∧i.natAbs<2 ^ 64
  ·rw[if_pos c] at e;cases e;exact⟨_,_,rfl,rfl,c,q⟩
  ·rw[if_neg c] at e;cases e
 ·refine⟨_,jU,fun i j z H Q e q=>?_⟩
  replace e:(if 0≤j then some (i / 2 ^ j.toNat) else none)=some z:=e
  by_cases c:0≤j
  ·rw[if_pos c] at e;cases e;exact⟨_,_,rfl,rfl,c,q⟩
  ·rw[if_neg c] at e;cases e
theorem z8y{op:Cop}{o:CmpOp}(h:mK op o=true):∃ r:R2,OpR X (compareOp o) r∧(∀ i j H Q,Q (.bl (cop op i j)) H→r (.int i) (.int j) H Q)∧∀ b,behindInMarks o b=false:=by
 cases op <;> cases o <;> first|exact nof h|skip
 ·exact⟨_,pY,fun i j H Q q=>⟨_,_,rfl,rfl,q⟩,fun b=>cA b⟩
 ·exact⟨_,z9z,fun i j H Q q=>⟨_,_,rfl,rfl,q⟩,fun b=>cA b⟩
 ·exact⟨_,z9y,fun i j H Q q=>⟨_,_,rfl,rfl,q⟩,fun b=>cA b⟩
 ·exact⟨_,z9x,fun i j H Q q=>⟨_,_,rfl,rfl,q⟩,fun b=>cA b⟩
 ·refine⟨_,fV,fun i j H Q q=>⟨rfl,?_⟩,fun b=>cA b⟩
  have e:decide (V.int i=V.int j)=decide (i=j):=by
   by_cases z:i=j
   ·subst z;simp
   ·rw[decide_eq_false z,decide_eq_false (fun w=>z (V.int.inj w))]
  rw[e];exact q
noncomputable def gK(X:Cx)(e:Expr):Prop:=∀ whole,isTrue e X.env whole=(do let v ← whole;standAt e.pos;holding [v] (truthy v))
theorem kM(C:Cok X N sc)(T:Tok0 X.K X.mg t):∀(p:P),(∀ e,aV N sc p e=true→PE X e (TPv t p))∧(kL p=true→∀ e,aV N sc p e=true→PT X e (TTv t p)):=by
 intro p
 induction p with
 |loc i=>
  have g:∀ e,aV N sc (.loc i) e=true→PE X e (TPv t (.loc i))∧gK X e:=fun e h=>by
   cases e with
   |Name x pos=>
    refine⟨?_,fun _=>rfl⟩
    refine(jR C h).weak fun σ H Q h00=>?_
    obtain⟨L,m,us,u,A,R,ev,q⟩:=h00
    have ev':(us[i]?).join=some u:=ev
    have e2:us[i]?=some (some u):=by
     cases z:us[i]? with
     |none=>rw[z] at ev';cases ev'
     |some o=>rw[z] at ev';exact congrArg some ev'
    obtain⟨v,h1,h2⟩:=R.at_ i u e2
    exact⟨v,h1,q v h2⟩
   |_=>exact nof h
  exact⟨fun e h=>(g e h).1,fun _ e h=>gF (g e h).1 (g e h).2⟩
 |int i=>
  have g:∀ e,aV N sc (.int i) e=true→PE X e (TPv t (.int i))∧gK X e:=fun e h=>by
   cases e with
   |Constant c k pos=>
    refine⟨?_,fun _=>rfl⟩
    cases c with
    |int j=>
     have h':i=j:=of_decide_eq_true h
     subst h'
     exact pe_int.weak fun σ H Q h00=>by obtain⟨L,m,us,u,A,R,ev,q⟩:=h00;cases ev;exact q _ rfl
    |_=>exact nof h
   |_=>exact nof h
  exact⟨fun e h=>(g e h).1,fun _ e h=>gF (g e h).1 (g e h).2⟩
 |bl i=>
  have g:∀ e,aV N sc (.bl i) e=true→PE X e (TPv t (.bl i))∧gK X e:=fun e h=>by
   cases e with
   |Constant c k pos=>
    refine⟨?_,fun _=>rfl⟩
    cases c with
    |bool j=>
     have h':i=j:=of_decide_eq_true h
     subst h'
     exact pe_bl.weak fun σ H Q h00=>by obtain⟨L,m,us,u,A,R,ev,q⟩:=h00;cases ev;exact q _ rfl
    |_=>exact nof h
   |_=>exact nof h
  exact⟨fun e h=>(g e h).1,fun _ e h=>gF (g e h).1 (g e h).2⟩
 |non=>
  have g:∀ e,aV N sc .non e=true→PE X e (TPv t .non)∧gK X e:=fun e h=>by
   cases e with
   |Constant c k pos=>
    refine⟨?_,fun _=>rfl⟩
    cases c with
    |none=>exact pe_non.weak fun σ H Q ⟨L,m,us,u,A,R,ev,q⟩=>by cases ev;exact q _ rfl
    |_=>exact nof h
   |_=>exact nof h
  exact⟨fun e h=>(g e h).1,fun _ e h=>gF (g e h).1 (g e h).2⟩
 |neg i=>
  have g:∀ e,aV N sc (.neg i) e=true→PE X e (TPv t (.neg i))∧gK X e:=fun e h=>by
   cases e with
   |UnaryOp o x pos=>
    cases o <;> cases x <;> first|exact nof h|skip
    refine⟨?_,fun _=>rfl⟩
    rename_i c k p
    cases c with
    |int j=>
     have h':i=j:=of_decide_eq_true h
     subst h'
     exact(z9H y8O pe_int).weak fun σ H Q h00=>by obtain⟨L,m,us,u,A,R,ev,q⟩:=h00;cases ev;exact⟨_,rfl,q _ rfl⟩
    |_=>exact nof h
   |_=>exact nof h
  exact⟨fun e h=>(g e h).1,fun _ e h=>gF (g e h).1 (g e h).2⟩
 |glob i=>
  have g:∀ e,aV N sc (.glob i) e=true→PE X e (TPv t (.glob i))∧gK X e:=fun e h=>by
   cases e with
   |Name x pos=>
    refine⟨?_,fun _=>rfl⟩
    have h':=Bool.and_eq_true_iff.mp h
    obtain⟨g1,g2⟩:=z5U C h'.1
    obtain⟨k,hk⟩:=T.gc x i (of_decide_eq_true h'.2)
    exact(aO (v:=.int i) g1 hk ⟨k,rfl⟩ g2).weak fun σ H Q h00=>by obtain⟨L,m,us,u,A,R,ev,q⟩:=h00;cases ev;exact q _ rfl
   |_=>exact nof h
  exact⟨fun e h=>(g e h).1,fun _ e h=>gF (g e h).1 (g e h).2⟩
 |fld f=>
  have g:∀ e,aV N sc (.fld f) e=true→PE X e (TPv t (.fld f))∧gK X e:=fun e h=>by
   cases e with
   |Attribute o a pos=>
    refine⟨?_,fun _=>rfl⟩
    cases o with
    |Name x p0=>
     have h':=Bool.and_eq_true_iff.mp h
     exact z8W C T h'.1 (of_decide_eq_true h'.2)
    |_=>exact nof h
   |_=>exact nof h
  exact⟨fun e h=>(g e h).1,fun _ e h=>gF (g e h).1 (g e h).2⟩
 |bin op a b iha ihb=>
  have g:∀ e,aV N sc (.bin op a b) e=true→PE X e (TPv t (.bin op a b))∧gK X e:=fun e h=>by
   cases e with
   |BinOp l o r pos=>
    refine⟨?_,fun _=>rfl⟩
    have h':(mJ op o&&aV N sc a l&&aV N sc b r)=true:=h
    simp only[Bool.and_eq_true] at h'
    obtain⟨⟨h1,h2⟩,h3⟩:=h'
    obtain⟨rr,ho,hq⟩:=z8p (X:=X) h1
    refine(aT ho (iha.1 l h2) (ihb.1 r h3)).weak fun σ H Q h00=>?_
    obtain⟨L,m,us,u,A,R,ev,q⟩:=h00
    obtain⟨i,j,z,e1,e2,e3,rfl⟩:=y2E ev
    exact wZ A R e1 e2 (hq i j z H Q e3 (q _ rfl))
   |_=>exact nof h
  exact⟨fun e h=>(g e h).1,fun _ e h=>gF (g e h).1 (g e h).2⟩
 |inv a iha=>
  have g:∀ e,aV N sc (.inv a) e=true→PE X e (TPv t (.inv a))∧gK X e:=fun e h=>by
   cases e with
   |UnaryOp o x pos=>
    cases o <;> first|exact nof h|skip
    refine⟨?_,fun _=>rfl⟩
    refine(z9H y0G (iha.1 x h)).weak fun σ H Q h00=>?_
    obtain⟨L,m,us,u,A,R,ev,q⟩:=h00
    unfold evP at ev
    split at ev
    ·rename_i i e1
     cases ev
     exact⟨L,m,us,_,A,R,e1,fun v rv=>⟨i,rv,q _ rfl⟩⟩
    ·cases ev
   |_=>exact nof h
  exact⟨fun e h=>(g e h).1,fun _ e h=>gF (g e h).1 (g e h).2⟩
 |cmp op a b iha ihb=>
  have g:∀ e,aV N sc (.cmp op a b) e=true→PE X e (TPv t (.cmp op a b))∧PT X e (TTv t (.cmp op a b)):=fun e h=>by
   cases e with
   |Compare l os rs pos=>
    cases os with
    |nil=>exact nof h
    |cons o os=>
     cases os with
     |cons o2 os=>exact nof h
     |nil=>
      cases rs with
      |nil=>exact nof h
      |cons r rs=>
       cases rs with
       |cons r2 rs=>exact nof h
       |nil=>
        have h':(mK op o&&aV N sc a l&&aV N sc b r)=true:=h
        simp only[Bool.and_eq_true] at h'
        obtain⟨⟨h1,h2⟩,h3⟩:=h'
        obtain⟨rr,ho,hq,hm⟩:=z8y (X:=X) h1
        constructor
        ·refine(lP ho (iha.1 l h2) (ihb.1 r h3) (hm r)).weak fun σ H Q h00=>?_
         obtain⟨L,m,us,u,A,R,ev,q⟩:=h00
         obtain⟨i,j,e1,e2,rfl⟩:=z5K ev
         exact wZ A R e1 e2 (hq i j H Q (q _ rfl))
        ·refine(cQ ho (iha.1 l h2) (ihb.1 r h3) (hm r)).weak fun σ H Q h00=>?_
         obtain⟨L,m,us,u,c,A,R,ev,hc,q⟩:=h00
         obtain⟨i,j,e1,e2,rfl⟩:=z5K ev
         cases hc
         exact wZ (R:=fun x y H2=>rr x y H2 fun x H'=>∃ k,x=.bl k∧Q k H') A R e1 e2 (hq i j H _ ⟨_,rfl,q⟩)
   |_=>exact nof h
  exact⟨fun e h=>(g e h).1,fun _ e h=>(g e h).2⟩
 |no a iha=>
  refine⟨fun e h=>?_,fun ht e h=>?_⟩
  ·cases e with
   |UnaryOp o x pos=>
    cases o <;> first|exact nof h|skip
    refine(y8n (iha.1 x h)).weak fun σ H Q h00=>?_
    obtain⟨L,m,us,u,A,R,ev,q⟩:=h00
    unfold evP at ev
    split at ev
    ·rename_i w e1
     cases e2:tru w with
     |none=>rw[e2] at ev;cases ev
     |some b=>
      rw[e2] at ev
      cases ev
      exact⟨L,m,us,_,A,R,e1,fun v rv=>⟨b,y0v e2 rv,q _ rfl⟩⟩
    ·cases ev
   |_=>exact nof h
  ·cases e with
   |UnaryOp o x pos=>
    cases o <;> first|exact nof h|skip
    refine(jW (iha.2 ht x h)).weak fun σ H Q h00=>?_
    obtain⟨L,m,us,u,c,A,R,ev,hc,q⟩:=h00
    unfold evP at ev
    split at ev
    ·rename_i w e1
     cases e2:tru w with
     |none=>rw[e2] at ev;cases ev
     |some b=>
      rw[e2] at ev
      cases ev
      cases hc
      exact⟨L,m,us,_,b,A,R,e1,e2,q⟩
    ·cases ev
   |_=>exact nof h
 |ife c a b ihc iha ihb=>
  refine⟨fun e h=>?_,fun ht=>absurd ht Bool.false_ne_true⟩
  cases e with
  |IfExp x l r pos=>
   have h':(kL c&&aV N sc c x&&aV N sc a l&&aV N sc b r)=true:=h
   simp only[Bool.and_eq_true] at h'
   obtain⟨⟨⟨h0,h1⟩,h2⟩,h3⟩:=h'
   refine(uR (ihc.2 h0 x h1) (iha.1 l h2) (ihb.1 r h3)).weak fun σ H Q h00=>?_
   obtain⟨L,m,us,u,A,R,ev,q⟩:=h00
   unfold evP at ev
   split at ev
   ·rename_i w e1
    split at ev
    ·rename_i e2
     exact⟨L,m,us,w,true,A,R,e1,e2,cW ⟨L,m,us,u,A,R,ev,q⟩⟩
    ·rename_i e2
     exact⟨L,m,us,w,false,A,R,e1,e2,cV ⟨L,m,us,u,A,R,ev,q⟩⟩
    ·cases ev
   ·cases ev
  |_=>exact nof h
 |ix a b iha ihb=>
  have g:∀ e,aV N sc (.ix a b) e=true→PE X e (TPv t (.ix a b))∧gK X e:=fun e h=>by
   cases e with
   |Subscript l r pos=>
    refine⟨?_,fun _=>rfl⟩
    have h':=Bool.and_eq_true_iff.mp h
    refine(cE (ix_list.or z9c) (iha.1 l h'.1) (ihb.1 r h'.2) (z9L (lQ h'.2))).weak fun σ H Q h00=>?_
    obtain⟨L,m,us,u,A,R,ev,q⟩:=h00
    unfold evP at ev
    split at ev
    ·rename_i w z e1 e2
     exact⟨L,m,us,w,A,R,e1,fun x rx=>⟨L,m,us,z,A,R,e2,fun y ry=>y2Z A ev rx ry q⟩⟩
    ·cases ev
   |_=>exact nof h
  exact⟨fun e h=>(g e h).1,fun _ e h=>gF (g e h).1 (g e h).2⟩
end
end EV
end
section
namespace EV
open PySem L2
section
variable{t:Tx}{L:Lay}{H H':Hp}{m m':M}
theorem At.same(A:At t L H m)(e:∀ b o,H b=some o→H' b=some o):At t L H' m:=
 ⟨e _ _ A.c,e _ _ A.mm,e _ _ A.bl,e _ _ A.wl,fun b hb=>let ⟨xs,h1,h2⟩:=A.bk b hb;⟨xs,e _ _ h1,h2⟩,A.inj,A.w0,A.nl,A.bw,A.cm,A.z⟩
theorem Ext.same(e:∀ b o,H b=some o→H' b=some o):Ext L H L H':=⟨rfl,rfl,rfl,rfl,fun b o h _=>e b o h,fun _ h=>.inl h,fun b xs h=>e b _ h⟩
theorem aY{p:Addr}{o:HO}(h:H p=none):∀ b u,H b=some u→upd H p o b=some u:=fun b u e=>by rw[aC (aJ e h)];exact e
theorem At.fld(A:At t L H m){f:Nat}{u:U}{v:V}{a:Str}(e:m.put f u=some m')(r:RU L H u v)(ha:fnames[f]?=some a) :
  At t L (upd H L.c (.ins t.CC L.dc (aZ a v (fnames.zip (vals L m))))) m'∧Ext L H L (upd H L.c (.ins t.CC L.dc (aZ a v (fnames.zip (vals L m))))):=by
 obtain⟨h1,h2,h3⟩:=z9Q (L:=L) (H:=H) e r
 have n1:L.bl≠L.c:=aX A.bl A.c (by intro z;cases z)
 have n2:L.wl≠L.c:=aX A.wl A.c (by intro z;cases z)
 refine⟨⟨?_,?_,?_,?_,fun b hb=>?_,A.inj,A.w0,A.nl,A.bw,A.cm,by rw[h3];exact A.z⟩,rfl,rfl,rfl,rfl,fun b o h n=>?_,fun _ h=>.inl h,fun b xs h=>?_⟩
 ·rw[aH,z6t v nU ha (show f<(vals L m).length from h2),h1]
 ·rw[aC (Ne.symm A.cm)];exact A.mm
 ·rw[aC n1];exact A.bl
 ·rw[aC n2];exact A.wl
 ·obtain⟨xs,g1,g2,g3⟩:=A.bk b hb
  exact⟨xs,by rw[aC (aX g1 A.c (by intro z;cases z))];exact g1,g2,by rw[h3];exact g3⟩
 ·rw[aC (fun z=>n (.inl z))];exact h
 ·rw[aC (aX h A.c (by intro z;cases z))];exact h
theorem kK{b b' o o':Nat}(ho:o<65536)(ho':o'<65536):b * 65536+o=b' * 65536+o'↔b=b'∧o=o':=by omega
theorem At.wrote(A:At t L H m){b o:Nat}{v:Int}{xs:List V}(hb:b<256)(ho:o<65536)(hw:L.wr b=true)(hx:H (L.ba b)=some (.lst xs)) :
  At t L (upd H (L.ba b) (.lst (xs.set o (.int v)))) (m.wr (b * 65536+o) v)∧Ext L H L (upd H (L.ba b) (.lst (xs.set o (.int v)))):=by
 have n1:L.c≠L.ba b:=aX A.c hx (by intro z;cases z)
 have n2:L.mm≠L.ba b:=aX A.mm hx (by intro z;cases z)
 obtain⟨n3,n4⟩:=A.nl b hb
 refine⟨⟨?_,?_,?_,?_,fun b' hb'=>?_,A.inj,A.w0,A.nl,A.bw,A.cm,fun b' hb' hz o' ho'=>?_⟩,rfl,rfl,rfl,rfl,fun a u h n=>?_,fun _ h=>.inl h,fun a ys h=>?_⟩
 ·rw[aC n1];exact A.c
 ·rw[aC n2];exact A.mm
 ·rw[aC (Ne.symm n3)];exact A.bl
 ·rw[aC (Ne.symm n4)];exact A.wl
 ·obtain⟨ys,g1,g2,g3⟩:=A.bk b' hb'
  by_cases q:b'=b
  ·subst q
   rw[hx] at g1
   cases g1
   refine⟨xs.set o (.int v),aH,by rw[List.length_set];exact g2,fun o' ho'=>?_⟩
   show _=some (V.int (if b' * 65536+o'=b' * 65536+o then v else m.mem (b' * 65536+o')))
   by_cases z:o'=o
   ·subst z
    rw[List.getElem?_set_self (by rw[g2];exact ho),if_pos rfl]
   ·rw[List.getElem?_set_ne (Ne.symm z),if_neg (fun w=>z ((kK ho' ho).mp w).2)]
    exact g3 o' ho'
  ·have ne:L.ba b'≠L.ba b:=fun z=>q (A.inj b b' hb hb' hw z.symm).symm
   refine⟨ys,by rw[aC ne];exact g1,g2,fun o' ho'=>?_⟩
   show _=some (V.int (if b' * 65536+o'=b * 65536+o then v else m.mem (b' * 65536+o')))
   rw[if_neg (fun w=>q ((kK ho' ho).mp w).1)]
   exact g3 o' ho'
 ·have q:b'≠b:=fun w=>by rw[w,hw] at hz;cases hz
  show (if b' * 65536+o'=b * 65536+o then v else m.mem (b' * 65536+o'))=0
  rw[if_neg (fun w=>q ((kK ho' ho).mp w).1)]
  exact A.z b' hb' hz o' ho'
 ·rw[aC (fun z=>n (.inr (.inr (.inr (.inr ⟨b,hb,z⟩)))))];exact h
 ·rw[aC (aX h hx (by intro z;cases z))];exact h
end
noncomputable def spF(t:Tx)(g:List U→M→Option (U×M))(n:Nat):Sp:=fun vs H Q _=>∃(L:Lay) (m:M) (us:List U) (u:U) (m':M),At t L H m∧Paired (RU L H) us vs∧us.length=n∧g us m=some (u,m') ∧
 ∀ L' H' v,At t L' H' m'→Ext L H L' H'→RU L' H' u v→Q v H'
noncomputable def qA(t:Tx):Sp:=fun vs H Q _=>∃(L:Lay) (m:M) (i j:Int),At t L H m∧vs=[.ref L.mm,.int i,.int j]∧0≤i∧i<16777216∧∀ L' H',At t L' H' (m.wr i.toNat j)→Ext L H L' H'→Q .non H'
structure Tok(FT:List FR)(K:PySem.W.Frag)(mg:Str→Option Value)(t:Tx):Prop extends Tok0 K mg t where
 bi:∀(f:Nat) (r:FR),FT[f]?=some r→Binds K (t.fd f) r.ps []
 gl:∀(f:Nat) (r:FR),FT[f]?=some r→r.meth=false→mg r.name=some (.ref (t.fa f))∧PySem.W.keepIn K (.ref (t.fa f))=true
 mt:∀(f:Nat) (r:FR),FT[f]?=some r→r.meth=true→Meth K t.CC r.name (t.fa f)
 cm:Cls K t.CM
 pm:Meth K t.CM "put" t.pa
 pb:Binds K t.pd ["self","at","byte"] []
structure Fok(FT:List FR)(P:Program)(w:World)(K:PySem.W.Frag)(mg:Str→Option Value)(base:Heap)(t:Tx)(k:Nat)(fn:Fns):Prop where
 fns:∀(f:Nat) (r:FR),FT[f]?=some r→FnOk P w K mg base CX0 k (t.fa f) (t.fd f) r.ps (spF t (fn f) r.ps.length)
 ar:∀(f:Nat) (r:FR) (us:List U) (m:M) (x:U×M),FT[f]?=some r→fn f us m=some x→us.length=r.ps.length
 put:FnOk P w K mg base CX0 k t.pa t.pd ["self","at","byte"] (qA t)
theorem Paired.len{α β:Type}{F:α→β→Prop}:∀{l₁:List α}{l₂:List β},Paired F l₁ l₂→l₁.length=l₂.length
 |_,_,.nil=>rfl
 |_,_,.cons _ t=>congrArg Nat.succ (Paired.len t)
theorem jL{FT:List FR}{N:List Str}{sc:Scope}{a:E}{e:Expr}(h:bQ FT N sc a e=true):eP e=true:=by
 cases e
 all_goals first
  |rfl
  |(cases a with
    |p a=>exact lQ (by unfold bQ at h;exact h)
    |_=>(unfold bQ at h;exact nof h))
theorem uT{FT:List FR}{N:List Str}{sc:Scope}:∀{a:Es}{es:List Expr},fO FT N sc a es=true→es.all eP=true
 |.nil,[],_=>rfl
 |.nil,_::_,h=>by unfold fO at h;exact nof h
 |.cons a r,[],h=>by unfold fO at h;exact nof h
 |.cons a r,e::es,h=>by
  unfold fO at h
  obtain⟨h1,h2⟩:=Bool.and_eq_true_iff.mp h
  rw[List.all_cons,jL h1,uT h2];rfl
theorem oI{pos:Pos}{env:PySem.Env}:∀{es:List Expr},es.all eP=true→(backTo pos (starEach es env)).any (·.1)=false
 |[],_=>rfl
 |e::es,h=>by
  rw[List.all_cons] at h
  obtain⟨h1,h2⟩:=Bool.and_eq_true_iff.mp h
  rw[gC h1]
  show (false||(backTo pos (starEach es env)).any (·.1))=false
  rw[oI h2];rfl
theorem z3Y{pos:Pos}{env:PySem.Env}:∀{es:List Expr},es.all eP=true→(backTo pos (starEach es env)).all (fun x=>!x.1)=true
 |[],_=>rfl
 |e::es,h=>by
  rw[List.all_cons] at h
  obtain⟨h1,h2⟩:=Bool.and_eq_true_iff.mp h
  rw[gC h1]
  show (true&&(backTo pos (starEach es env)).all (fun x=>!x.1))=true
  rw[z3Y h2];rfl
theorem tX{o:Expr}{name:Str}{apos pos:Pos}{es:List Expr}{env:PySem.Env}(hb:attributeBase o name env (eval o env)=eval o env)(hp:es.all eP=true)(hl:es.length<30)(hpos:(apos.endLine==pos.line)=true) :
  eval (.Call (.Attribute o name apos) es [] pos) env=(do
   let ov ← eval o env
   standAt apos.atName
   let (f,first) ← holding [ov] (getMethod ov name (do return (← importBound o env).getD true))
   callWith pos f first (backTo pos (starEach es env)) (backToKw pos (keywordEach [] env))):=by
 have form:methodCallForm (es.length+0) (backTo pos (starEach es env)) (backToKw pos (keywordEach [] env))=true:=by
  show ((backTo pos (starEach es env)).all (fun x=>!x.1)&&true&&decide (es.length+0+0<30))=true
  rw[z3Y hp]
  simpa using hl
 show (do
  let ov ← attributeBase o name env (eval o env)
  standAt apos.atName
  methodCall o name apos pos env ov (es.length+0) (backTo pos (starEach es env)) (backToKw pos (keywordEach [] env)))=_
 rw[hb]
 have hm:∀ ov,methodCall o name apos pos env ov (es.length+0) (backTo pos (starEach es env)) (backToKw pos (keywordEach [] env))=(do
   let (f,first) ← holding [ov] (getMethod ov name (do return (← importBound o env).getD true))
   callWith pos f first (backTo pos (starEach es env)) (backToKw pos (keywordEach [] env))):=by
  intro ov
  unfold methodCall calleeOf methodCallPos
  rw[form]
  simp only[Bool.not_true,Bool.false_or,hpos,if_true]
  rfl
 simp only[hm]
section
variable{X:Cx}{FT:List FR}{N:List Str}{sc:Scope}{t:Tx}{k:Nat}{fn:Fns}
noncomputable def TEv(t:Tx)(g:Env→M→Option (U×M)):TE:=fun σ H Q=>∃(L:Lay) (m:M) (us:Env) (u:U) (m':M),At t L H m∧RS L H us σ∧g us m=some (u,m')∧∀ L' H' v,At t L' H' m'→Ext L H L' H'→RU L' H' u v→Q v H'
noncomputable def TAv(t:Tx)(g:Env→M→Option (List U×M)):TA:=fun σ H Q=>∃(L:Lay) (m:M) (us:Env) (ws:List U) (m':M),At t L H m∧RS L H us σ∧stay us=true∧g us m=some (ws,m')∧∀ L' H' vs,At t L' H' m'→Ext L H L' H'→Paired (RU L' H') ws vs→Q vs H'
mutual
theorem eO(C:Cok X N sc)(T:Tok FT X.K X.mg t)(F:Fok FT X.prog X.w X.K X.mg X.base t k fn)(hr:Room k X.A):∀(a:E) (e:Expr),bQ FT N sc a e=true→PE X e (TEv t fun us m=>evE fn us m a)
 |.p a,e,h=>by
  unfold bQ at h
  refine((kM C T.toTok0 a).1 e h).weak fun σ H Q h00=>?_
  obtain⟨L,m,us,u,m',A,R,ev,q⟩:=h00
  dsimp only at ev
  unfold evE at ev
  split at ev
  ·rename_i w e1
   split at ev
   ·cases ev
    exact⟨L,m,us,u,A,R,e1,fun v rv=>q L H v A (Ext.refl L H) rv⟩
   ·cases ev
  ·cases ev
 |.bin op a b,e,h=>by
  unfold bQ at h
  cases e with
  |BinOp l o r pos=>
   replace h:(mJ op o&&bQ FT N sc a l&&bQ FT N sc b r)=true:=h
   simp only[Bool.and_eq_true] at h
   obtain⟨⟨h1,h2⟩,h3⟩:=h
   obtain⟨rr,ho,hq⟩:=z8p (X:=X) h1
   refine(aT ho (eO C T F hr a l h2) (eO C T F hr b r h3)).weak fun σ H Q h00=>?_
   obtain⟨L,m,us,u,m',A,R,ev,q⟩:=h00
   dsimp only at ev
   unfold evE at ev
   split at ev
   ·rename_i hs
    split at ev
    ·rename_i i m1 e1
     split at ev
     ·rename_i j m2 e2
      split at ev
      ·rename_i z e3
       cases ev
       refine⟨L,m,us,_,_,A,R,e1,fun L1 H1 v A1 X1 rv=>⟨L1,m1,us,_,_,A1,R.ext hs X1,e2,fun L2 H2 v' A2 X2 rv'=>?_⟩⟩
       have e4:v=.int i:=rv
       have e5:v'=.int j:=rv'
       rw[e4,e5]
       exact hq i j z H2 Q e3 (q L2 H2 _ A2 (X1.trans X2) rfl)
      ·cases ev
     ·cases ev
    ·cases ev
   ·cases ev
  |_=>exact nof h
 |.cmp op a b,e,h=>by
  unfold bQ at h
  cases e with
  |Compare l os rs pos=>
   match os,rs,h with
   |[],_,h=>exact nof h
   |_::_::_,_,h=>exact nof h
   |[_],[],h=>exact nof h
   |[_],_::_::_,h=>exact nof h
   |[o],[r],h=>
    replace h:(mK op o&&bQ FT N sc a l&&bQ FT N sc b r)=true:=h
    simp only[Bool.and_eq_true] at h
    obtain⟨⟨h1,h2⟩,h3⟩:=h
    obtain⟨rr,ho,hq,hm⟩:=z8y (X:=X) h1
    refine(lP ho (eO C T F hr a l h2) (eO C T F hr b r h3) (hm r)).weak fun σ H Q h00=>?_
    obtain⟨L,m,us,u,m',A,R,ev,q⟩:=h00
    dsimp only at ev
    unfold evE at ev
    split at ev
    ·rename_i hs
     split at ev
     ·rename_i i m1 e1
      split at ev
      ·rename_i j m2 e2
       cases ev
       refine⟨L,m,us,_,_,A,R,e1,fun L1 H1 v A1 X1 rv=>⟨L1,m1,us,_,_,A1,R.ext hs X1,e2,fun L2 H2 v' A2 X2 rv'=>?_⟩⟩
       have e4:v=.int i:=rv
       have e5:v'=.int j:=rv'
       rw[e4,e5]
       exact hq i j H2 Q (q L2 H2 _ A2 (X1.trans X2) rfl)
      ·cases ev
     ·cases ev
    ·cases ev
  |_=>exact nof h
 |.inv a,e,h=>by
  unfold bQ at h
  cases e with
  |UnaryOp o x pos=>
   cases o <;> first|exact nof h|skip
   refine(z9H y0G (eO C T F hr a x h)).weak fun σ H Q h00=>?_
   obtain⟨L,m,us,u,m',A,R,ev,q⟩:=h00
   dsimp only at ev
   unfold evE at ev
   split at ev
   ·rename_i i m1 e1
    cases ev
    exact⟨L,m,us,_,_,A,R,e1,fun L1 H1 v A1 X1 rv=>⟨i,rv,q L1 H1 _ A1 X1 rfl⟩⟩
   ·cases ev
  |_=>exact nof h
 |.pair a b,e,h=>by
  unfold bQ at h
  cases e with
  |Tuple es kk pos=>
   match es,h with
   |[],h=>exact nof h
   |[_],h=>exact nof h
   |_::_::_::_,h=>exact nof h
   |[l,r],h=>
    obtain⟨h1,h2⟩:=Bool.and_eq_true_iff.mp h
    refine(y8p (aD ((kM C T.toTok0 a).1 l h1) (aD ((kM C T.toTok0 b).1 r h2) pa_nil (gC (lQ h2))) (gC (lQ h1)))).weak fun σ H Q h00=>?_
    obtain⟨L,m,us,u,m',A,R,ev,q⟩:=h00
    dsimp only at ev
    unfold evE at ev
    split at ev
    ·rename_i i j e1 e2
     cases ev
     refine⟨L,m,us,_,A,R,e1,fun v rv=>⟨L,m,us,_,A,R,e2,fun v' rv'=>⟨by show 2≤sizeLine;decide,fun p hp=>?_⟩⟩⟩
     have e4:v=.int i:=rv
     have e5:v'=.int j:=rv'
     subst e4
     subst e5
     exact q L _ _ (A.same (aY hp)) (Ext.same (aY hp)) ⟨p,rfl,aH⟩
    ·cases ev
  |_=>exact nof h
 |.call f as,e,h=>by
  unfold bQ at h
  cases e with
  |Call g es kws pos=>
   cases g with
   |Name x p=>
    cases kws with
    |cons _ _=>exact nof h
    |nil=>
     cases es with
     |nil=>simp at h
     |cons e1 es=>
      cases hf:FT[f]? with
      |none=>simp[hf] at h
      |some r=>
       simp only[hf,Bool.and_eq_true,decide_eq_true_eq,Bool.not_eq_true'] at h
       obtain⟨⟨⟨h1,h2,h3⟩,h4⟩,_⟩:=h
       subst h3
       obtain⟨g1,g2⟩:=z5U C h1
       obtain⟨m1,m2⟩:=T.gl f r hf h2
       have hp:=uT h4
       rw[List.all_cons] at hp
       obtain⟨hp1,hp2⟩:=Bool.and_eq_true_iff.mp hp
       refine(cP (F.fns f r hf) hr g1 m1 m2 (T.bi f r hf) .nil aR (vA C T F hr as (e1::es) h4) g2 (gC hp1) (oI hp2)).weak fun σ H Q h00=>?_
       obtain⟨L,m,us,u,m',A,R,ev,q⟩:=h00
       dsimp only at ev
       unfold evE at ev
       split at ev
       ·rename_i hs
        split at ev
        ·rename_i ws m2 e2
         refine⟨L,m,us,ws,m2,A,R,hs,e2,fun L1 H1 vs A1 X1 rv=>⟨L1,m2,ws,u,m',A1,by rw[List.append_nil];exact rv,F.ar f r _ _ _ hf ev,ev,fun L2 H2 v A2 X2 rv2=>q L2 H2 v A2 (X1.trans X2) rv2⟩⟩
        ·cases ev
       ·cases ev
   |_=>exact nof h
  |_=>exact nof h
 |.meth f as,e,h=>by
  unfold bQ at h
  cases e with
  |Call g es kws pos=>
   cases g with
   |Attribute o y ap=>
    cases o with
    |Name x p=>
     cases kws with
     |cons _ _=>exact nof h
     |nil=>
      cases hf:FT[f]? with
      |none=>simp[hf] at h
      |some r=>
       simp only[hf,Bool.and_eq_true,decide_eq_true_eq,Bool.not_eq_true'] at h
       obtain⟨⟨⟨⟨h1,hl⟩,hz⟩,⟨h2,h3⟩,h5⟩,h4⟩:=h
       subst h3
       have hp:=uT h4
       have key:∀(σ:L2.St) (H:Hp) (Q:VK),TEv t (fun us m=>evE fn us m (.meth f as)) σ H Q→y0s t.CC r.name (spF t (fn f) r.ps.length) [] E0 (gO 0) (TAv t fun us m=>evEs fn us m as) σ H Q:=fun σ H Q ⟨L,m,us,u,m',A,R,ev,q⟩=>by
        dsimp only at ev
        unfold evE at ev
        split at ev
        ·rename_i hs
         obtain⟨hc,hs⟩:=Bool.and_eq_true_iff.mp hs
         split at ev
         ·rename_i ws m2 e2
          refine⟨_,R.cpu hc,L.c,L.dc,_,rfl,A.c,vF h5,L,m,us,ws,m2,A,R,hs,e2,fun L1 H1 vs A1 X1 rv=>⟨L1,m2,.cpu::ws,u,m',A1,.cons (by show V.ref L.c=.ref L1.c;rw[X1.c]) (by rw[List.append_nil];exact rv),F.ar f r _ _ _ hf ev,ev,fun L2 H2 v A2 X2 rv2=>q L2 H2 v A2 (X1.trans X2) rv2⟩⟩
         ·cases ev
        ·cases ev
       cases es with
       |nil=>
        cases as with
        |cons _ _=>unfold fO at h4;exact absurd h4 Bool.false_ne_true
        |nil=>
         refine(iG (jR C h1) T.cc (T.mt f r hf h2) (F.fns f r hf) hr (T.bi f r hf) .nil aR (tX rfl hp hz hl)).weak fun σ H Q q=>?_
         obtain⟨v,hv,a,dx,fs,e1,e2,e3,L,m,us,ws,m',A,R,hs,ev,q⟩:=key σ H Q q
         dsimp only at ev
         unfold evEs at ev
         cases ev
         exact⟨v,hv,a,dx,fs,e1,e2,e3,q L H [] A (Ext.refl L H) .nil⟩
       |cons e1 es=>
        have hp':=hp
        rw[List.all_cons] at hp'
        obtain⟨hp1,hp2⟩:=Bool.and_eq_true_iff.mp hp'
        exact(gI (jR C h1) T.cc (T.mt f r hf h2) (F.fns f r hf) hr (T.bi f r hf) .nil aR (vA C T F hr as (e1::es) h4) (gC hp1) (oI hp2) (tX rfl hp hz hl)).weak key
    |_=>exact nof h
   |_=>exact nof h
  |_=>exact nof h
 |.put a b,e,h=>by
  unfold bQ at h
  cases e with
  |Call g es kws pos=>
   cases g with
   |Attribute o z ap=>
    cases o with
    |Attribute o y yp=>
     cases o with
     |Name x p=>
      match es,kws,h with
      |[],_,h=>exact nof h
      |[_],_,h=>exact nof h
      |_::_::_::_,_,h=>exact nof h
      |[l,r],_::_,h=>exact nof h
      |[l,r],[],h=>
       simp only[Bool.and_eq_true,decide_eq_true_eq] at h
       obtain⟨⟨⟨⟨⟨h1,hl⟩,h2⟩,h3⟩,h4⟩,h5⟩:=h
       subst h2
       subst h3
       have p1:=jL h4
       have p2:=jL h5
       have hp:[l,r].all eP=true:=by
        show (eP l&&(eP r&&true))=true
        rw[p1,p2];rfl
       refine(gI (z8W (f:=0) C T.toTok0 h1 rfl) T.cm T.pm F.put hr T.pb .nil aR (aD (eO C T F hr a l h4) (aD (eO C T F hr b r h5) pa_nil (gC p2)) (gC p1)) (gC p1)
        (oI (by show (eP r&&true)=true;rw[p2];rfl)) (tX rfl hp (by show 2<30;decide) hl)).weak fun σ H Q ⟨L,m,us,u,m',A,R,ev,q⟩=>?_
       dsimp only at ev
       unfold evE at ev
       split at ev
       ·rename_i hs
        obtain⟨hc,hs⟩:=Bool.and_eq_true_iff.mp hs
        split at ev
        ·rename_i i m1 e1
         split at ev
         ·rename_i j m2 e2
          split at ev
          ·rename_i hi
           cases ev
           refine⟨L,m,us,.mem,A,R,by show (if hasCpu us=true then m.get 0 else none)=_;rw[if_pos hc];rfl,fun v0 r0=>⟨L.mm,L.dm,_,r0,A.mm,rfl,L,m,us,_,_,A,R,e1,fun L1 H1 v A1 X1 rv=>⟨L1,m1,us,_,_,A1,R.ext hs X1,e2,fun L2 H2 v' A2 X2 rv'=>?_⟩⟩⟩
           have e3:v0=.ref L.mm:=r0
           have e4:v=.int i:=rv
           have e5:v'=.int j:=rv'
           subst e3
           subst e4
           subst e5
           refine⟨L2,m2,i,j,A2,?_,hi.1,hi.2,fun L' H' A' X'=>q L' H' .non A' ((X1.trans X2).trans X') rfl⟩
           rw[X2.mm,X1.mm];rfl
          ·cases ev
         ·cases ev
        ·cases ev
       ·cases ev
     |_=>exact nof h
    |_=>exact nof h
   |_=>exact nof h
  |_=>exact nof h
theorem vA(C:Cok X N sc)(T:Tok FT X.K X.mg t)(F:Fok FT X.prog X.w X.K X.mg X.base t k fn)(hr:Room k X.A):∀(a:Es) (es:List Expr),fO FT N sc a es=true→PA X es (TAv t fun us m=>evEs fn us m a)
 |.nil,es,h=>by
  unfold fO at h
  cases es with
  |cons _ _=>exact nof h
  |nil=>
   refine pa_nil.weak fun σ H Q h00=>?_
   obtain⟨L,m,us,ws,m',A,R,hs,ev,q⟩:=h00
   dsimp only at ev
   unfold evEs at ev
   cases ev
   exact q L H [] A (Ext.refl L H) .nil
 |.cons a r,es,h=>by
  unfold fO at h
  cases es with
  |nil=>exact nof h
  |cons e es=>
   obtain⟨h1,h2⟩:=Bool.and_eq_true_iff.mp h
   refine(aD (eO C T F hr a e h1) (vA C T F hr r es h2) (gC (jL h1))).weak fun σ H Q h00=>?_
   obtain⟨L,m,us,ws,m',A,R,hs,ev,q⟩:=h00
   dsimp only at ev
   unfold evEs at ev
   split at ev
   ·rename_i u m1 e1
    split at ev
    ·rename_i hu
     split at ev
     ·rename_i vs m2 e2
      cases ev
      exact⟨L,m,us,_,_,A,R,e1,fun L1 H1 v A1 X1 rv=>⟨L1,m1,us,_,_,A1,R.ext hs X1,hs,e2,fun L2 H2 vs A2 X2 rvs=>q L2 H2 _ A2 (X1.trans X2) (.cons (rv.ext X2 hu) rvs)⟩⟩
     ·cases ev
    ·cases ev
   ·cases ev
end
end
end EV
end
section
namespace EV
open PySem L2
section
variable{X:Cx}{FT:List FR}{N:List Str}{sc:Scope}{t:Tx}{k:Nat}{fn:Fns}
noncomputable def TSv(t:Tx)(g:Env→M→(Env→M→Option (U×M))→Option (U×M)):TS:=fun D σ H=>∃(L:Lay) (m:M) (us:Env) (kk:Env→M→Option (U×M)) (u:U) (m':M),At t L H m∧RS L H us σ∧g us m kk=some (u,m') ∧
 (∀ L' H' us' m1 σ',At t L' H' m1→Ext L H L' H'→RS L' H' us' σ'→kk us' m1=some (u,m')→D.nx σ' H')∧∀ L' H' v,At t L' H' m'→Ext L H L' H'→RU L' H' u v→D.rt v H'
theorem wT(C:Cok X N sc){i:Nat}{x:Str}(h:dR N sc i x=true):X.N[i]?=some x∧Loc X.env.scope x:=by
 simp only[dR,Bool.and_eq_true,decide_eq_true_eq,Bool.not_eq_true'] at h
 obtain⟨⟨⟨h1,h2⟩,h3⟩,h4⟩:=h
 exact⟨by rw[C.hN];exact h1,.inl (by rw[C.scn];exact h2)⟩
theorem y7H{us:Env}{i:Nat}{u:U}(h:(us[i]?).join=some u):us[i]?=some (some u):=by
 cases z:us[i]? with
 |none=>rw[z] at h;cases h
 |some o=>rw[z] at h;exact congrArg some h
theorem wS{L:Lay}{H:Hp}{us:Env}{σ:L2.St}(R:RS L H us σ){i:Nat}{z:Int}(h:(us[i]?).join=some (.int z)):σ[i]?=some (some (.int z)):=by
 obtain⟨v,h1,h2⟩:=R.at_ i _ (y7H h)
 have h2':v=.int z:=h2
 rw[h1,h2']
mutual
theorem y3T(C:Cok X N sc)(T:Tok FT X.K X.mg t)(F:Fok FT X.prog X.w X.K X.mg X.base t k fn)(hr:Room k X.A):∀(a:S) (s:Stmt),fX FT N sc a s=true→PS X s (TSv t fun us m kk=>evS fn us m kk a)
 |.set i a,s,h=>by
  unfold fX at h
  cases s with
  |Assign tgs e pos=>
   cases e0:(hG tgs).bind dQ with
   |none=>
    dsimp only at h
    rw[e0] at h
    exact nof h
   |some x=>
    dsimp only at h
    rw[e0] at h
    obtain⟨tg,rfl,e0⟩:=nY e0
    obtain⟨p,rfl⟩:=lH e0
    obtain⟨h1,h2⟩:=Bool.and_eq_true_iff.mp h
    obtain⟨l1,l2⟩:=wT C h1
    refine(aW (i:=i) (by rw[C.hN];exact C.nd) l1 l2 (eO C T F hr a e h2) (nR (jL h2)) (.inl (C.fn x))).weak fun D σ H h00=>?_
    obtain⟨L,m,us,kk,u,m',A,R,ev,qn,qr⟩:=h00
    dsimp only at ev
    unfold evS at ev
    split at ev
    ·rename_i hi
     split at ev
     ·rename_i w m1 e1
      exact⟨L,m,us,w,m1,A,R,e1,fun L1 H1 v A1 X1 rv=>qn L1 H1 _ m1 _ A1 X1 ((R.ext (Bool.and_eq_true_iff.mp hi).2 X1).set i rv) ev⟩
     ·cases ev
    ·cases ev
  |_=>exact nof h
 |.setB i a,s,h=>by
  unfold fX at h
  cases s with
  |Assign tgs e pos=>
   cases e0:(hG tgs).bind dQ with
   |none=>
    dsimp only at h
    rw[e0] at h
    exact nof h
   |some x=>
    dsimp only at h
    rw[e0] at h
    obtain⟨tg,rfl,e0⟩:=nY e0
    obtain⟨p,rfl⟩:=lH e0
    obtain⟨h1,h2⟩:=Bool.and_eq_true_iff.mp h
    obtain⟨l1,l2⟩:=wT C h1
    refine(aW (i:=i) (by rw[C.hN];exact C.nd) l1 l2 ((kM C T.toTok0 a).1 e h2) (nR (lQ h2)) (.inl (C.fn x))).weak fun D σ H h00=>?_
    obtain⟨L,m,us,kk,u,m',A,R,ev,qn,qr⟩:=h00
    dsimp only at ev
    unfold evS at ev
    split at ev
    ·rename_i hi
     split at ev
     ·rename_i w e1
      exact⟨L,m,us,w,A,R,e1,fun v rv=>qn L H _ m _ A (Ext.refl L H) (R.set i rv) ev⟩
     ·cases ev
    ·cases ev
  |_=>exact nof h
 |.fld f a,s,h=>by
  unfold fX at h
  cases s with
  |Assign tgs e pos=>
   cases e0:(hG tgs).bind wO with
   |none=>
    dsimp only at h
    rw[e0] at h
    exact nof h
   |some xy=>
    dsimp only at h
    rw[e0] at h
    obtain⟨x,y⟩:=xy
    obtain⟨tg,rfl,e0⟩:=nY e0
    obtain⟨p,yp,rfl⟩:=z6x e0
    simp only[Bool.and_eq_true,decide_eq_true_eq] at h
    obtain⟨⟨h1,h2⟩,h3⟩:=h
    refine(bD (jR C h1) (eO C T F hr a e h3) (nR (jL h3))).weak fun D σ H h00=>?_
    obtain⟨L,m,us,kk,u,m',A,R,ev,qn,qr⟩:=h00
    dsimp only at ev
    unfold evS at ev
    split at ev
    ·rename_i hs
     obtain⟨hc,hs⟩:=Bool.and_eq_true_iff.mp hs
     split at ev
     ·rename_i w m1 e1
      split at ev
      ·rename_i m2 e2
       refine⟨L,m,us,w,m1,A,R,e1,fun L1 H1 v A1 X1 rv=>?_⟩
       have R1:=R.ext hs X1
       obtain⟨A2,X2⟩:=A1.fld e2 rv h2
       exact⟨_,R1.cpu hc,L1.c,t.CC,L1.dc,_,rfl,A1.c,T.cc,T.nf y (List.mem_of_getElem? h2),(by show 17<1000;decide),qn L1 _ us m2 σ A2 (X1.trans X2) (R1.same X2.tup) ev⟩
      ·cases ev
     ·cases ev
    ·cases ev
  |_=>exact nof h
 |.aug i a,s,h=>by
  unfold fX at h
  cases s with
  |AugAssign tg op e pos=>
   cases tg with
   |Name x p=>
    cases op <;> first|exact nof h|skip
    obtain⟨h1,h2⟩:=Bool.and_eq_true_iff.mp h
    obtain⟨l1,l2⟩:=wT C h1
    refine(jV (i:=i) (by rw[C.hN];exact C.nd) l1 l2 (eO C T F hr a e h2) jO (.inl (C.fn x))).weak fun D σ H h00=>?_
    obtain⟨L,m,us,kk,u,m',A,R,ev,qn,qr⟩:=h00
    dsimp only at ev
    unfold evS at ev
    split at ev
    ·rename_i hs
     split at ev
     ·rename_i z ez
      split at ev
      ·rename_i j m1 e1
       refine⟨_,wS R ez,L,m,us,_,m1,A,R,e1,fun L1 H1 v A1 X1 rv=>?_⟩
       have e2:v=.int j:=rv
       subst e2
       exact⟨z,j,rfl,rfl,qn L1 H1 _ m1 _ A1 X1 ((R.ext hs X1).set (u:=.int (z+j)) i rfl) ev⟩
      ·cases ev
     ·cases ev
    ·cases ev
   |_=>exact nof h
  |_=>exact nof h
 |.ex a,s,h=>by
  unfold fX at h
  cases s with
  |Expr e pos=>
   refine(bV (eO C T F hr a e h) (nR (jL h))).weak fun D σ H h00=>?_
   obtain⟨L,m,us,kk,u,m',A,R,ev,qn,qr⟩:=h00
   dsimp only at ev
   unfold evS at ev
   split at ev
   ·rename_i hs
    split at ev
    ·rename_i w m1 e1
     exact⟨L,m,us,w,m1,A,R,e1,fun L1 H1 v A1 X1 rv=>qn L1 H1 us m1 σ A1 X1 (R.ext hs X1) ev⟩
    ·cases ev
   ·cases ev
  |_=>exact nof h
 |.ret a,s,h=>by
  unfold fX at h
  cases s with
  |Return v pos=>
   cases v with
   |none=>exact nof h
   |some e=>
    refine(aS (eO C T F hr a e h)).weak fun D σ H h00=>?_
    obtain⟨L,m,us,kk,u,m',A,R,ev,qn,qr⟩:=h00
    dsimp only at ev
    unfold evS at ev
    exact⟨L,m,us,u,m',A,R,ev,qr⟩
  |_=>exact nof h
 |.ife c a b,s,h=>by
  unfold fX at h
  cases s with
  |If e t1 t2 pos=>
   replace h:(kL c&&aV N sc c e&&fU FT N sc a t1&&fU FT N sc b t2)=true:=h
   simp only[Bool.and_eq_true] at h
   obtain⟨⟨⟨h0,h1⟩,h2⟩,h3⟩:=h
   refine(bW ((kM C T.toTok0 c).2 h0 e h1) (oG C T F hr a t1 h2) (oG C T F hr b t2 h3)).weak fun D σ H h00=>?_
   obtain⟨L,m,us,kk,u,m',A,R,ev,qn,qr⟩:=h00
   dsimp only at ev
   unfold evS at ev
   split at ev
   ·rename_i w e1
    split at ev
    ·rename_i e2
     exact⟨L,m,us,w,true,A,R,e1,e2,cW ⟨L,m,us,kk,u,m',A,R,ev,qn,qr⟩⟩
    ·rename_i e2
     exact⟨L,m,us,w,false,A,R,e1,e2,cV ⟨L,m,us,kk,u,m',A,R,ev,qn,qr⟩⟩
    ·cases ev
   ·cases ev
  |_=>exact nof h
 |.b0 i j,s,h=>by
  unfold fX at h
  cases s with
  |Assign tgs e pos=>
   cases e0:(hG tgs).bind xA with
   |none=>
    dsimp only at h
    rw[e0] at h
    exact nof h
   |some xy=>
   cases e9:dQ e with
   |none=>
    dsimp only at h
    rw[e0] at h
    dsimp only at h
    rw[e9] at h
    exact nof h
   |some v=>
    dsimp only at h
    rw[e0] at h
    dsimp only at h
    rw[e9] at h
    obtain⟨bk,z⟩:=xy
    obtain⟨tg,rfl,e0⟩:=nY e0
    obtain⟨p5,p6,rfl⟩:=z7X e0
    obtain⟨p7,rfl⟩:=lH e9
    simp only[Bool.and_eq_true] at h
    obtain⟨⟨h1,h3⟩,h4⟩:=h
    have g:PE X bk (TPv t (.ix (.fld 1) (.int 0))):=(kM C T.toTok0 (.ix (.fld 1) (.int 0))).1 _ h1
    refine(pD (jR C h4) (pC g (jR C h3) oF)).weak fun D σ H h00=>?_
    obtain⟨L,m,us,kk,u,m',A,R,ev,qn,qr⟩:=h00
    dsimp only at ev
    unfold evS at ev
    split at ev
    ·rename_i hs
     obtain⟨hc,hs⟩:=Bool.and_eq_true_iff.mp hs
     split at ev
     ·rename_i o w e1 e2
      split at ev
      ·rename_i ho
       obtain⟨xs,g1,g2,g3⟩:=A.bk 0 (by decide)
       obtain⟨A2,X2⟩:=A.wrote (b:=0) (o:=o.toNat) (v:=w) (by decide) (by omega) A.w0 g1
       have eb:0 * 65536+o.toNat=o.toNat:=by omega
       rw[eb] at A2
       refine⟨_,wS R e2,L,m,us,.bank 0,A,R,?_,fun b rb=>?_⟩
       ·show (match (if hasCpu us=true then m.get 1 else none),some (U.int 0) with
         |some u,some v=>item m u v
         |_,_=>none)=_
        rw[if_pos hc];rfl
       ·obtain⟨_,rb⟩:=rb
        have hk:ixN xs.length o=some o.toNat:=by
         unfold ixN
         rw[g2,if_pos ho.1,if_pos (show o<((65536:Nat):Int) by omega)]
        exact⟨_,wS R e1,L.ba 0,xs,o,o.toNat,rb,rfl,g1,hk,qn L _ us _ σ A2 X2 (R.same X2.tup) ev⟩
      ·cases ev
     ·cases ev
    ·cases ev
  |_=>exact nof h
 |.pass,s,h=>by
  unfold fX at h
  cases s with
  |Pass pos=>
   refine ps_pass.weak fun D σ H h00=>?_
   obtain⟨L,m,us,kk,u,m',A,R,ev,qn,qr⟩:=h00
   dsimp only at ev
   unfold evS at ev
   exact qn L H us m σ A (Ext.refl L H) R ev
  |_=>exact nof h
theorem oG(C:Cok X N sc)(T:Tok FT X.K X.mg t)(F:Fok FT X.prog X.w X.K X.mg X.base t k fn)(hr:Room k X.A):∀(a:Ss) (ss:List Stmt),fU FT N sc a ss=true→PSs X ss (TSv t fun us m kk=>evSs fn us m kk a)
 |.nil,ss,h=>by
  unfold fU at h
  cases ss with
  |cons _ _=>exact nof h
  |nil=>
   refine pss_nil.weak fun D σ H h00=>?_
   obtain⟨L,m,us,kk,u,m',A,R,ev,qn,qr⟩:=h00
   dsimp only at ev
   unfold evSs at ev
   exact qn L H us m σ A (Ext.refl L H) R ev
 |.cons a r,ss,h=>by
  unfold fU at h
  cases ss with
  |nil=>exact nof h
  |cons s ss=>
   obtain⟨h1,h2⟩:=Bool.and_eq_true_iff.mp h
   refine(aF (y3T C T F hr a s h1) (oG C T F hr r ss h2)).weak fun D σ H h00=>?_
   obtain⟨L,m,us,kk,u,m',A,R,ev,qn,qr⟩:=h00
   dsimp only at ev
   unfold evSs at ev
   exact⟨L,m,us,_,u,m',A,R,ev,fun L1 H1 us1 m1 σ1 A1 X1 R1 e1=>⟨L1,m1,us1,kk,u,m',A1,R1,e1,fun L2 H2 us2 m2 σ2 A2 X2 R2 e2=>qn L2 H2 us2 m2 σ2 A2 (X1.trans X2) R2 e2,fun L2 H2 v A2 X2 rv=>qr L2 H2 v A2 (X1.trans X2) rv⟩,qr⟩
end
end
end EV
end
section
namespace EV
open PySem L2
noncomputable def mL(n:Nat)(us:List U):Env:=us.map some++List.replicate (n - us.length) none
noncomputable def evF(FT:List FR):Nat→Fns
 |0=>fun _ _ _=>none
 |k+1=>fun f us m=>match FT[f]? with
  |some r=>if us.length=r.ps.length then (match r.prim with
   |some g=>g us m
   |none=>evSs (evF FT k) (mL r.N.length us) m (fun _ m'=>some (.non,m')) r.body) else none
  |none=>none
theorem y0f{L:Lay}{H:Hp}{N:List Str}{us:List U}{vs:List V}(p:Paired (RU L H) us vs)(hl:us.length≤N.length):RS L H (mL N.length us) (L2.start N vs):=by
 have e:=Paired.len p
 refine⟨by unfold mL L2.start;simp[e],fun i u h=>?_⟩
 unfold mL at h
 by_cases hi:i<us.length
 ·rw[List.getElem?_append_left (by simpa using hi),List.getElem?_map] at h
  have h':us[i]?=some u:=by
   cases z:us[i]? with
   |none=>rw[z] at h;cases h
   |some a=>rw[z] at h;cases h;rfl
  have key:∀{us:List U}{vs:List V}{i:Nat}{u:U},Paired (RU L H) us vs→us[i]?=some u→∃ v,vs[i]?=some v∧RU L H u v:=by
   intro us vs i u p
   induction p generalizing i with
   |nil=>intro h;simp at h
   |cons a b ih=>
    intro h
    cases i with
    |zero=>simp at h;subst h;exact⟨_,rfl,a⟩
    |succ i=>obtain⟨v,h1,h2⟩:=ih (i:=i) (by simpa using h);exact⟨v,by simpa using h1,h2⟩
  obtain⟨v,h1,h2⟩:=key p h'
  refine⟨v,?_,h2⟩
  unfold L2.start
  rw[List.getElem?_append_left (by simpa [←e] using hi),List.getElem?_map,h1];rfl
 ·rw[List.getElem?_append_right (by simpa using hi),List.getElem?_replicate] at h
  split at h <;> cases h
structure Held(FT:List FR)(K:PySem.W.Frag)(mg:Str→Option Value)(t:Tx):Prop where
 fu:∀(f:Nat) (r:FR),FT[f]?=some r→Fun K r.name r.qual r.st (t.fa f) (t.fd f)
 sc:∀(f:Nat) (r:FR),FT[f]?=some r→r.prim=none→FnScope r.N r.ps (aL r.st)
 ck:∀(f:Nat) (r:FR),FT[f]?=some r→r.prim=none→fU FT r.N (aL r.st) r.body (dP r.st)=true
theorem fok {FT:List FR}{P:Program}{w:World}{K:PySem.W.Frag}{mg:Str→Option Value}{base:Heap}{t:Tx} (T:Tok FT K mg t) (Z:Held FT K mg t)
  (pr:∀(f:Nat) (r:FR) (g:List U→M→Option (U×M)),FT[f]?=some r→r.prim=some g→FnOk P w K mg base CX0 2 (t.fa f) (t.fd f) r.ps (spF t g r.ps.length))
  (pu:FnOk P w K mg base CX0 2 t.pa t.pd ["self","at","byte"] (qA t)):∀ k:Nat,Fok FT P w K mg base t (k+2) (evF FT k)
 |0=>by
  refine⟨fun f r hf=>⟨fun vs H Q E h=>?_,fun A outer s H args us vs Q E hr he hb hv h=>?_⟩,fun f r us m x hf h=>?_,pu⟩
  ·obtain⟨L,m,us,u,m',A,p,hl,h,q⟩:=h
   cases h
  ·obtain⟨L,m,us,u,m',A,p,hl,h,q⟩:=h
   cases h
  ·cases h
 |k+1=>by
  have IH:=fok T Z pr pu k
  refine⟨fun f r hf=>?_,fun f r us m x hf h=>?_,pu.mono (by omega)⟩
  ·cases hp:r.prim with
   |some g=>
    refine((pr f r g hf hp).mono (by omega)).imp fun vs H Q E h=>?_
    obtain⟨L,m,us,u,m',A,p,hl,h,q⟩:=h
    refine⟨L,m,us,u,m',A,p,hl,?_,q⟩
    unfold evF at h
    simp only[hf,hl,if_true,hp] at h
    exact h
   |none=>
    have S:=Z.sc f r hf hp
    have hpl:r.ps.length≤r.N.length:=by
     have:=congrArg List.length S.pre
     rw[List.length_take] at this
     omega
    refine(Z.fu f r hf).ok S (fun vs H Q E h=>?_) (fun cdv A outer s H vs Q E hr h=>?_)
    ·obtain⟨L,m,us,u,m',A,p,hl,h,q⟩:=h
     rw[←Paired.len p];exact hl
    ·obtain⟨L,m,us,u,m',At_,p,hl,h,q⟩:=h
     unfold evF at h
     simp only[hf,hl,if_true,hp] at h
     refine⟨_,oG (X:=(jX CX0 P w K mg base r.N r.qual (aL r.st) (t.fa f) cdv A outer s H E).nox) (N:=r.N) (sc:=aL r.st) ⟨rfl,S.nd,rfl,fun _=>rfl,fun _=>rfl⟩ T IH hr r.body (dP r.st) (Z.ck f r hf hp),?_⟩
     exact⟨L,m,mL r.N.length us,fun _ m'=>some (.non,m'),u,m',At_,y0f p (by rw[hl];exact hpl),h,fun L' H' us' m1 σ' A' X' R' e=>by
      cases e
      exact q L' H' .non A' X' rfl,q⟩
  ·unfold evF at h
   simp only[hf] at h
   split at h
   ·rename_i e;exact e
   ·cases h
end EV
end
section
namespace EV
open PySem L2
noncomputable def top(i:Nat):Stmt:=PySem.Challenge.pw_sixteenbits_s01_answers.main.body.getD i (.Pass ⟨0,0,0,0⟩)
noncomputable def dsF(a b:Int):Nat→Nat→Int→Int→Int
 |0,i,t,c=>t+c * 2 ^ (4 * i)
 |n+1,i,t,c=>
  dsF a b n (i+1) (t+Builtin.bitAnd (if 9<Builtin.bitAnd (a / 2 ^ (4 * i)) 15+Builtin.bitAnd (b / 2 ^ (4 * i)) 15+c then Builtin.bitAnd (a / 2 ^ (4 * i)) 15+Builtin.bitAnd (b / 2 ^ (4 * i)) 15+c+6 else Builtin.bitAnd (a / 2 ^ (4 * i)) 15+Builtin.bitAnd (b / 2 ^ (4 * i)) 15+c) 15 * 2 ^ (4 * i))
   (if 9<Builtin.bitAnd (a / 2 ^ (4 * i)) 15+Builtin.bitAnd (b / 2 ^ (4 * i)) 15+c then 1 else 0)
noncomputable def ddF(a b:Int):Nat→Nat→Int→Int→Int
 |0,i,t,c=>t+c * 2 ^ (4 * i)
 |n+1,i,t,c=>
  ddF a b n (i+1) (t+Builtin.bitAnd (if Builtin.bitAnd (a / 2 ^ (4 * i)) 15 - Builtin.bitAnd (b / 2 ^ (4 * i)) 15 - 1+c<0 then Builtin.bitAnd (a / 2 ^ (4 * i)) 15 - Builtin.bitAnd (b / 2 ^ (4 * i)) 15 - 1+c+10 else Builtin.bitAnd (a / 2 ^ (4 * i)) 15 - Builtin.bitAnd (b / 2 ^ (4 * i)) 15 - 1+c) 15 * 2 ^ (4 * i))
   (if Builtin.bitAnd (a / 2 ^ (4 * i)) 15 - Builtin.bitAnd (b / 2 ^ (4 * i)) 15 - 1+c<0 then 0 else 1)
noncomputable def jN:Int→Option Nat
 |8=>some 2
 |16=>some 4
 |_=>none
noncomputable def iM:List U→M→Option (U×M):=fun us m=>match us with
 |[.int a,.int b,.int c,.int n]=>match jN n with
  |some d=>if c=0∨c=1 then some (.int (dsF a b d 0 0 c),m) else none
  |none=>none
 |_=>none
noncomputable def iJ:List U→M→Option (U×M):=fun us m=>match us with
 |[.int a,.int b,.int c,.int n]=>match jN n with
  |some d=>if c=0∨c=1 then some (.int (ddF a b d 0 0 c),m) else none
  |none=>none
 |_=>none
noncomputable def tI:Ss:=(.cons (.ife (.cmp .eq (.loc 1) (.glob 0)) (.cons (.ex (.meth 1 .nil)) .nil) (.cons (.ife (.cmp .eq (.loc 1) (.glob 1)) (.cons (.fld 14 (.p (.bl true))) .nil) (.cons (.ife (.cmp .eq (.loc 1) (.glob 2)) (.cons (.fld 15 (.p (.bl true))) .nil) (.cons (.ife (.cmp .eq (.loc 1) (.glob 3)) (.cons (.fld 15 (.p (.bl false))) .nil) (.cons (.ret (.p (.bl false))) .nil)) .nil)) .nil)) .nil)) (.cons (.ret (.p (.bl true))) .nil))
noncomputable def nV:FR:=⟨"ask","Cpu.ask",true,["self","k"],["self","k"],inClass (top 24) 1,tI,none⟩
noncomputable def rZ:Ss:=(.cons (.ex (.meth 2 (.cons (.p (.bl true)) .nil))) (.cons (.fld 5 (.p (.int 0))) (.cons (.fld 9 (.p (.int 0))) (.cons (.fld 8 (.p (.int 0))) (.cons (.fld 10 (.p (.bin .and (.bin .or (.fld 10) (.glob 4)) (.inv (.glob 8))))) (.cons (.fld 12 (.p (.bl false))) (.cons (.fld 13 (.p (.bl false))) (.cons (.fld 14 (.p (.bl false))) (.cons (.fld 7 (.meth 8 (.cons (.p (.glob 65532)) .nil))) .nil)))))))))
noncomputable def z3G:FR:=⟨"reset","Cpu.reset",true,["self"],["self"],inClass (top 24) 2,rZ,none⟩
noncomputable def qL:Ss:=(.cons (.fld 11 (.p (.loc 1))) (.cons (.ex (.meth 3 (.cons (.p (.fld 10)) .nil))) (.cons (.ex (.meth 4 (.cons (.p (.fld 6)) .nil))) .nil)))
noncomputable def z0o:FR:=⟨"set_emulation","Cpu.set_emulation",true,["self","emulation"],["self","emulation"],inClass (top 24) 3,qL,none⟩
noncomputable def qY:Ss:=(.cons (.ife (.fld 11) (.cons (.setB 1 (.bin .or (.bin .or (.loc 1) (.glob 32)) (.glob 16))) .nil) .nil) (.cons (.fld 10 (.p (.loc 1))) (.cons (.ife (.bin .and (.loc 1) (.glob 16)) (.cons (.fld 3 (.p (.bin .and (.fld 3) (.int 255)))) (.cons (.fld 4 (.p (.bin .and (.fld 4) (.int 255)))) .nil)) .nil) .nil)))
noncomputable def z1l:FR:=⟨"set_flags","Cpu.set_flags",true,["self","flags"],["self","flags"],inClass (top 24) 4,qY,none⟩
noncomputable def nM:Ss:=(.cons (.ife (.fld 11) (.cons (.fld 6 (.p (.bin .add (.glob 256) (.bin .and (.loc 1) (.int 255))))) .nil) (.cons (.fld 6 (.p (.bin .and (.loc 1) (.int 65535)))) .nil)) .nil)
noncomputable def z3H:FR:=⟨"set_s","Cpu.set_s",true,["self","s"],["self","s"],inClass (top 24) 5,nM,none⟩
noncomputable def qZ:Ss:=(.cons (.setB 1 (.fld 7)) (.cons (.fld 7 (.p (.bin .and (.bin .add (.loc 1) (.int 1)) (.int 65535)))) (.cons (.ret (.p (.ix (.ix (.fld 1) (.fld 8)) (.loc 1)))) .nil)))
noncomputable def z1m:FR:=⟨"take_byte","Cpu.take_byte",true,["self"],["self","pc"],inClass (top 24) 6,qZ,none⟩
noncomputable def rB:Ss:=(.cons (.setB 1 (.fld 7)) (.cons (.fld 7 (.p (.bin .and (.bin .add (.loc 1) (.int 2)) (.int 65535)))) (.cons (.setB 2 (.ix (.fld 1) (.fld 8))) (.cons (.ret (.p (.bin .add (.ix (.loc 2) (.loc 1)) (.bin .shl (.ix (.loc 2) (.bin .and (.bin .add (.loc 1) (.int 1)) (.int 65535))) (.int 8))))) .nil))))
noncomputable def z1o:FR:=⟨"take_word","Cpu.take_word",true,["self"],["self","pc","bank"],inClass (top 24) 7,rB,none⟩
noncomputable def rA:Ss:=(.cons (.set 1 (.meth 6 .nil)) (.cons (.ret (.bin .add (.p (.loc 1)) (.bin .shl (.meth 5 .nil) (.p (.int 16))))) .nil))
noncomputable def z1n:FR:=⟨"take_long","Cpu.take_long",true,["self"],["self","word"],inClass (top 24) 8,rA,none⟩
noncomputable def qP:Ss:=(.cons (.setB 2 (.ix (.fld 1) (.int 0))) (.cons (.ret (.p (.bin .add (.ix (.loc 2) (.bin .and (.loc 1) (.int 65535))) (.bin .shl (.ix (.loc 2) (.bin .and (.bin .add (.loc 1) (.int 1)) (.int 65535))) (.int 8))))) .nil))
noncomputable def z0D:FR:=⟨"bank_0_word","Cpu.bank_0_word",true,["self","at"],["self","at","bank"],inClass (top 24) 9,qP,none⟩
noncomputable def qO:Ss:=(.cons (.ret (.bin .add (.meth 8 (.cons (.p (.loc 1)) .nil)) (.p (.bin .shl (.ix (.ix (.fld 1) (.int 0)) (.bin .and (.bin .add (.loc 1) (.int 2)) (.int 65535))) (.int 16))))) .nil)
noncomputable def z0C:FR:=⟨"bank_0_long","Cpu.bank_0_long",true,["self","at"],["self","at"],inClass (top 24) 10,qO,none⟩
noncomputable def qW:Ss:=(.cons (.setB 2 (.fld 6)) (.cons (.b0 2 1) (.cons (.fld 6 (.p (.ife (.fld 11) (.bin .add (.glob 256) (.bin .and (.bin .sub (.loc 2) (.int 1)) (.int 255))) (.bin .and (.bin .sub (.loc 2) (.int 1)) (.int 65535))))) .nil)))
noncomputable def z1j:FR:=⟨"push_byte","Cpu.push_byte",true,["self","byte"],["self","byte","s"],inClass (top 24) 11,qW,none⟩
noncomputable def qX:Ss:=(.cons (.ex (.meth 10 (.cons (.p (.bin .shr (.loc 1) (.int 8))) .nil))) (.cons (.ex (.meth 10 (.cons (.p (.bin .and (.loc 1) (.int 255))) .nil))) .nil))
noncomputable def z1k:FR:=⟨"push_word","Cpu.push_word",true,["self","word"],["self","word"],inClass (top 24) 12,qX,none⟩
noncomputable def qU:Ss:=(.cons (.ex (.meth 4 (.cons (.p (.bin .add (.fld 6) (.int 1))) .nil))) (.cons (.ret (.p (.ix (.ix (.fld 1) (.int 0)) (.fld 6)))) .nil))
noncomputable def z1h:FR:=⟨"pull_byte","Cpu.pull_byte",true,["self"],["self"],inClass (top 24) 13,qU,none⟩
noncomputable def qV:Ss:=(.cons (.set 1 (.meth 12 .nil)) (.cons (.ret (.bin .add (.p (.loc 1)) (.bin .shl (.meth 12 .nil) (.p (.int 8))))) .nil))
noncomputable def z1i:FR:=⟨"pull_word","Cpu.pull_word",true,["self"],["self","low"],inClass (top 24) 14,qV,none⟩
noncomputable def sA:Ss:=(.cons (.ife (.no (.fld 11)) (.cons (.ex (.meth 10 (.cons (.p (.fld 8)) .nil))) .nil) .nil) (.cons (.ex (.meth 11 (.cons (.p (.fld 7)) .nil))) (.cons (.ex (.meth 10 (.cons (.p (.loc 1)) .nil))) (.cons (.fld 10 (.p (.bin .and (.bin .or (.fld 10) (.glob 4)) (.inv (.glob 8))))) (.cons (.fld 8 (.p (.int 0))) (.cons (.fld 7 (.meth 8 (.cons (.p (.loc 2)) .nil))) .nil))))))
noncomputable def z3I:FR:=⟨"interrupt","interrupt",false,["cpu","pushed_flags","vector"],["cpu","pushed_flags","vector"],top 34,sA,none⟩
noncomputable def qM:Ss:=(.cons (.ife (.fld 11) (.cons (.ex (.call 14 (.cons (.p (.loc 0)) (.cons (.p (.bin .and (.fld 10) (.inv (.glob 16)))) (.cons (.p (.loc 2)) .nil))))) .nil) (.cons (.ex (.call 14 (.cons (.p (.loc 0)) (.cons (.p (.fld 10)) (.cons (.p (.loc 1)) .nil))))) .nil)) .nil)
noncomputable def z0p:FR:=⟨"interrupt_outside","interrupt_outside",false,["cpu","vector","emulation_vector"],["cpu","vector","emulation_vector"],top 35,qM,none⟩
noncomputable def yM:Ss:=(.cons (.ex (.call 15 (.cons (.p (.loc 0)) (.cons (.p (.glob 65514)) (.cons (.p (.glob 65530)) .nil))))) .nil)
noncomputable def mY:FR:=⟨"nmi","nmi",false,["cpu"],["cpu"],top 36,yM,none⟩
noncomputable def yE:Ss:=(.cons (.ex (.call 15 (.cons (.p (.loc 0)) (.cons (.p (.glob 65518)) (.cons (.p (.glob 65534)) .nil))))) .nil)
noncomputable def mX:FR:=⟨"irq","irq",false,["cpu"],["cpu"],top 37,yE,none⟩
noncomputable def xL:Ss:=(.cons (.ex (.meth 5 .nil)) (.cons (.ex (.call 14 (.cons (.p (.loc 0)) (.cons (.p (.fld 10)) (.cons (.p (.ife (.fld 11) (.glob 65534) (.glob 65510))) .nil))))) .nil))
noncomputable def x3R:FR:=⟨"brk","brk",false,["cpu"],["cpu"],top 38,xL,none⟩
noncomputable def xU:Ss:=(.cons (.ex (.meth 5 .nil)) (.cons (.ex (.call 14 (.cons (.p (.loc 0)) (.cons (.p (.fld 10)) (.cons (.p (.ife (.fld 11) (.glob 65524) (.glob 65508))) .nil))))) .nil))
noncomputable def x4a:FR:=⟨"cop","cop",false,["cpu"],["cpu"],top 39,xU,none⟩
noncomputable def zI:Ss:=(.cons (.ex (.meth 3 (.cons (.meth 12 .nil) .nil))) (.cons (.fld 7 (.meth 13 .nil)) (.cons (.ife (.no (.fld 11)) (.cons (.fld 8 (.meth 12 .nil)) .nil) .nil) .nil)))
noncomputable def x4M:FR:=⟨"rti","rti",false,["cpu"],["cpu"],top 40,zI,none⟩
noncomputable def uG:Ss:=(.cons (.setB 2 (.bin .add (.fld 7) (.int 1))) (.cons (.ife (.loc 1) (.cons (.setB 3 (.ix (.ix (.fld 1) (.fld 8)) (.fld 7))) (.cons (.fld 7 (.p (.bin .and (.bin .add (.loc 2) (.ife (.cmp .lt (.loc 3) (.int 128)) (.loc 3) (.bin .sub (.loc 3) (.int 256)))) (.int 65535)))) .nil)) (.cons (.fld 7 (.p (.bin .and (.loc 2) (.int 65535)))) .nil)) .nil))
noncomputable def z9T:FR:=⟨"branch","branch",false,["cpu","taken"],["cpu","taken","behind","away"],top 43,uG,none⟩
noncomputable def xJ:Ss:=(.cons (.ex (.call 21 (.cons (.p (.loc 0)) (.cons (.p (.no (.bin .and (.fld 10) (.glob 128)))) .nil)))) .nil)
noncomputable def x3P:FR:=⟨"bpl","bpl",false,["cpu"],["cpu"],top 44,xJ,none⟩
noncomputable def xH:Ss:=(.cons (.ex (.call 21 (.cons (.p (.loc 0)) (.cons (.p (.bin .and (.fld 10) (.glob 128))) .nil)))) .nil)
noncomputable def x3N:FR:=⟨"bmi","bmi",false,["cpu"],["cpu"],top 45,xH,none⟩
noncomputable def xN:Ss:=(.cons (.ex (.call 21 (.cons (.p (.loc 0)) (.cons (.p (.no (.bin .and (.fld 10) (.glob 64)))) .nil)))) .nil)
noncomputable def x3T:FR:=⟨"bvc","bvc",false,["cpu"],["cpu"],top 46,xN,none⟩
noncomputable def xO:Ss:=(.cons (.ex (.call 21 (.cons (.p (.loc 0)) (.cons (.p (.bin .and (.fld 10) (.glob 64))) .nil)))) .nil)
noncomputable def x3U:FR:=⟨"bvs","bvs",false,["cpu"],["cpu"],top 47,xO,none⟩
noncomputable def xD:Ss:=(.cons (.ex (.call 21 (.cons (.p (.loc 0)) (.cons (.p (.no (.bin .and (.fld 10) (.glob 1)))) .nil)))) .nil)
noncomputable def x3K:FR:=⟨"bcc","bcc",false,["cpu"],["cpu"],top 48,xD,none⟩
noncomputable def xE:Ss:=(.cons (.ex (.call 21 (.cons (.p (.loc 0)) (.cons (.p (.bin .and (.fld 10) (.glob 1))) .nil)))) .nil)
noncomputable def x3L:FR:=⟨"bcs","bcs",false,["cpu"],["cpu"],top 49,xE,none⟩
noncomputable def xI:Ss:=(.cons (.ex (.call 21 (.cons (.p (.loc 0)) (.cons (.p (.no (.bin .and (.fld 10) (.glob 2)))) .nil)))) .nil)
noncomputable def x3O:FR:=⟨"bne","bne",false,["cpu"],["cpu"],top 50,xI,none⟩
noncomputable def xF:Ss:=(.cons (.ex (.call 21 (.cons (.p (.loc 0)) (.cons (.p (.bin .and (.fld 10) (.glob 2))) .nil)))) .nil)
noncomputable def x3M:FR:=⟨"beq","beq",false,["cpu"],["cpu"],top 51,xF,none⟩
noncomputable def xK:Ss:=(.cons (.ex (.call 21 (.cons (.p (.loc 0)) (.cons (.p (.bl true)) .nil)))) .nil)
noncomputable def x3Q:FR:=⟨"bra","bra",false,["cpu"],["cpu"],top 52,xK,none⟩
noncomputable def xM:Ss:=(.cons (.set 1 (.meth 6 .nil)) (.cons (.fld 7 (.p (.bin .and (.bin .add (.fld 7) (.loc 1)) (.int 65535)))) .nil))
noncomputable def x3S:FR:=⟨"brl","brl",false,["cpu"],["cpu","away"],top 53,xM,none⟩
noncomputable def qR:Ss:=(.cons (.set 1 (.bin .add (.meth 6 .nil) (.p (.fld 3)))) (.cons (.setB 2 (.ix (.fld 1) (.fld 8))) (.cons (.ret (.p (.bin .add (.ix (.loc 2) (.bin .and (.loc 1) (.int 65535))) (.bin .shl (.ix (.loc 2) (.bin .and (.bin .add (.loc 1) (.int 1)) (.int 65535))) (.int 8))))) .nil)))
noncomputable def z0K:FR:=⟨"indexed_target","indexed_target",false,["cpu"],["cpu","at","bank"],top 54,qR,none⟩
noncomputable def uH:Ss:=(.cons (.fld 8 (.p (.bin .shr (.loc 1) (.int 16)))) (.cons (.fld 7 (.p (.bin .and (.loc 1) (.int 65535)))) .nil))
noncomputable def z9U:FR:=⟨"go_far","go_far",false,["cpu","target"],["cpu","target"],top 55,uH,none⟩
noncomputable def vM:Ss:=(.cons (.fld 7 (.meth 6 .nil)) .nil)
noncomputable def y3D:FR:=⟨"jmp_a","jmp_a",false,["cpu"],["cpu"],top 56,vM,none⟩
noncomputable def uJ:Ss:=(.cons (.fld 7 (.meth 8 (.cons (.meth 6 .nil) .nil))) .nil)
noncomputable def z9W:FR:=⟨"jmp_ai","jmp_ai",false,["cpu"],["cpu"],top 57,uJ,none⟩
noncomputable def tL:Ss:=(.cons (.fld 7 (.call 32 (.cons (.p (.loc 0)) .nil))) .nil)
noncomputable def z6Y:FR:=⟨"jmp_aix","jmp_aix",false,["cpu"],["cpu"],top 58,tL,none⟩
noncomputable def uI:Ss:=(.cons (.ex (.call 33 (.cons (.p (.loc 0)) (.cons (.meth 7 .nil) .nil)))) .nil)
noncomputable def z9V:FR:=⟨"jml_al","jml_al",false,["cpu"],["cpu"],top 59,uI,none⟩
noncomputable def tK:Ss:=(.cons (.ex (.call 33 (.cons (.p (.loc 0)) (.cons (.meth 9 (.cons (.meth 6 .nil) .nil)) .nil)))) .nil)
noncomputable def z6X:FR:=⟨"jml_al2","jml_al2",false,["cpu"],["cpu"],top 60,tK,none⟩
noncomputable def qS:Ss:=(.cons (.ex (.meth 11 (.cons (.p (.bin .and (.bin .sub (.fld 7) (.int 1)) (.int 65535))) .nil))) .nil)
noncomputable def z0L:FR:=⟨"push_last_byte","push_last_byte",false,["cpu"],["cpu"],top 61,qS,none⟩
noncomputable def vN:Ss:=(.cons (.set 1 (.meth 6 .nil)) (.cons (.ex (.call 39 (.cons (.p (.loc 0)) .nil))) (.cons (.fld 7 (.p (.loc 1))) .nil)))
noncomputable def y3E:FR:=⟨"jsr_a","jsr_a",false,["cpu"],["cpu","target"],top 62,vN,none⟩
noncomputable def tN:Ss:=(.cons (.set 1 (.call 32 (.cons (.p (.loc 0)) .nil))) (.cons (.ex (.call 39 (.cons (.p (.loc 0)) .nil))) (.cons (.fld 7 (.p (.loc 1))) .nil)))
noncomputable def z6Z:FR:=⟨"jsr_aix","jsr_aix",false,["cpu"],["cpu","target"],top 63,tN,none⟩
noncomputable def yF:Ss:=(.cons (.set 1 (.meth 7 .nil)) (.cons (.ex (.meth 10 (.cons (.p (.fld 8)) .nil))) (.cons (.ex (.call 39 (.cons (.p (.loc 0)) .nil))) (.cons (.ex (.call 33 (.cons (.p (.loc 0)) (.cons (.p (.loc 1)) .nil)))) .nil))))
noncomputable def x4k:FR:=⟨"jsl","jsl",false,["cpu"],["cpu","target"],top 64,yF,none⟩
noncomputable def zK:Ss:=(.cons (.fld 7 (.bin .and (.bin .add (.meth 13 .nil) (.p (.int 1))) (.p (.int 65535)))) .nil)
noncomputable def x4O:FR:=⟨"rts","rts",false,["cpu"],["cpu"],top 65,zK,none⟩
noncomputable def zJ:Ss:=(.cons (.fld 7 (.bin .and (.bin .add (.meth 13 .nil) (.p (.int 1))) (.p (.int 65535)))) (.cons (.fld 8 (.meth 12 .nil)) .nil))
noncomputable def x4N:FR:=⟨"rtl","rtl",false,["cpu"],["cpu"],top 66,zJ,none⟩
noncomputable def sC:Ss:=(.cons (.fld 10 (.p (.bin .or (.bin .or (.bin .and (.fld 10) (.glob 125)) (.bin .and (.loc 1) (.glob 128))) (.ife (.loc 1) (.int 0) (.glob 2))))) .nil)
noncomputable def z3K:FR:=⟨"note_byte","note_byte",false,["cpu","number"],["cpu","number"],top 70,sC,none⟩
noncomputable def sD:Ss:=(.cons (.fld 10 (.p (.bin .or (.bin .or (.bin .and (.fld 10) (.glob 125)) (.bin .and (.bin .shr (.loc 1) (.int 8)) (.glob 128))) (.ife (.loc 1) (.int 0) (.glob 2))))) .nil)
noncomputable def z3L:FR:=⟨"note_word","note_word",false,["cpu","number"],["cpu","number"],top 71,sD,none⟩
noncomputable def rX:Ss:=(.cons (.fld 10 (.p (.ife (.loc 1) (.bin .or (.fld 10) (.glob 1)) (.bin .and (.fld 10) (.inv (.glob 1)))))) .nil)
noncomputable def z2K:FR:=⟨"note_carry","note_carry",false,["cpu","carry"],["cpu","carry"],top 72,rX,none⟩
noncomputable def vP:Ss:=(.cons (.ife (.loc 2) (.cons (.setB 1 (.bin .and (.loc 1) (.int 255))) (.cons (.fld 10 (.p (.bin .or (.bin .or (.bin .and (.fld 10) (.glob 125)) (.bin .and (.loc 1) (.glob 128))) (.ife (.loc 1) (.int 0) (.glob 2))))) .nil)) (.cons (.setB 1 (.bin .and (.loc 1) (.int 65535))) (.cons (.fld 10 (.p (.bin .or (.bin .or (.bin .and (.fld 10) (.glob 125)) (.bin .and (.bin .shr (.loc 1) (.int 8)) (.glob 128))) (.ife (.loc 1) (.int 0) (.glob 2))))) .nil))) (.cons (.ret (.p (.loc 1))) .nil))
noncomputable def y3G:FR:=⟨"noted","noted",false,["cpu","number","narrow"],["cpu","number","narrow"],top 73,vP,none⟩
noncomputable def tP:Ss:=(.cons (.ret (.p (.ife (.loc 0) (.int 255) (.int 65535)))) .nil)
noncomputable def z7b:FR:=⟨"mask_of","mask_of",false,["narrow"],["narrow"],top 74,tP,none⟩
noncomputable def rP:Ss:=(.cons (.ret (.p (.ife (.bin .and (.fld 10) (.glob 32)) (.bin .and (.fld 2) (.int 255)) (.fld 2)))) .nil)
noncomputable def z1W:FR:=⟨"worked_on_a","worked_on_a",false,["cpu"],["cpu"],top 75,rP,none⟩
noncomputable def uK:Ss:=(.cons (.ife (.bin .and (.fld 10) (.glob 32)) (.cons (.fld 2 (.bin .or (.p (.bin .and (.fld 2) (.int 65280))) (.call 48 (.cons (.p (.loc 0)) (.cons (.p (.loc 1)) (.cons (.p (.bl true)) .nil)))))) .nil) (.cons (.fld 2 (.call 48 (.cons (.p (.loc 0)) (.cons (.p (.loc 1)) (.cons (.p (.bl false)) .nil))))) .nil)) .nil)
noncomputable def z9X:FR:=⟨"keep_a","keep_a",false,["cpu","number"],["cpu","number"],top 76,uK,none⟩
noncomputable def rO:Ss:=(.cons (.setB 3 (.ix (.loc 1) (.int 0))) (.cons (.setB 4 (.fld 1)) (.cons (.ife (.loc 2) (.cons (.ret (.p (.ix (.ix (.loc 4) (.bin .shr (.loc 3) (.int 16))) (.bin .and (.loc 3) (.int 65535))))) .nil) .nil) (.cons (.setB 5 (.ix (.loc 1) (.int 1))) (.cons (.ret (.p (.bin .add (.ix (.ix (.loc 4) (.bin .shr (.loc 3) (.int 16))) (.bin .and (.loc 3) (.int 65535))) (.bin .shl (.ix (.ix (.loc 4) (.bin .shr (.loc 5) (.int 16))) (.bin .and (.loc 5) (.int 65535))) (.int 8))))) .nil)))))
noncomputable def z1V:FR:=⟨"read_number","read_number",false,["cpu","place","narrow"],["cpu","place","narrow","low","banks","high"],top 77,rO,none⟩
noncomputable def rJ:Ss:=(.cons (.ex (.put (.p (.ix (.loc 1) (.int 0))) (.p (.bin .and (.loc 2) (.int 255))))) (.cons (.ife (.no (.loc 3)) (.cons (.ex (.put (.p (.ix (.loc 1) (.int 1))) (.p (.bin .shr (.loc 2) (.int 8))))) .nil) .nil) .nil))
noncomputable def z1I:FR:=⟨"write_number","write_number",false,["cpu","place","number","narrow"],["cpu","place","number","narrow"],top 78,rJ,none⟩
noncomputable def yG:Ss:=(.cons (.ex (.call 51 (.cons (.p (.loc 0)) (.cons (.call 52 (.cons (.p (.loc 0)) (.cons (.p (.loc 1)) (.cons (.p (.bin .and (.fld 10) (.glob 32))) .nil)))) .nil)))) .nil)
noncomputable def x4l:FR:=⟨"lda","lda",false,["cpu","place"],["cpu","place"],top 80,yG,none⟩
noncomputable def yH:Ss:=(.cons (.setB 2 (.bin .and (.fld 10) (.glob 16))) (.cons (.fld 3 (.call 48 (.cons (.p (.loc 0)) (.cons (.call 52 (.cons (.p (.loc 0)) (.cons (.p (.loc 1)) (.cons (.p (.loc 2)) .nil)))) (.cons (.p (.loc 2)) .nil))))) .nil))
noncomputable def x4m:FR:=⟨"ldx","ldx",false,["cpu","place"],["cpu","place","narrow"],top 81,yH,none⟩
noncomputable def yI:Ss:=(.cons (.setB 2 (.bin .and (.fld 10) (.glob 16))) (.cons (.fld 4 (.call 48 (.cons (.p (.loc 0)) (.cons (.call 52 (.cons (.p (.loc 0)) (.cons (.p (.loc 1)) (.cons (.p (.loc 2)) .nil)))) (.cons (.p (.loc 2)) .nil))))) .nil))
noncomputable def x4n:FR:=⟨"ldy","ldy",false,["cpu","place"],["cpu","place","narrow"],top 82,yI,none⟩
noncomputable def zQ:Ss:=(.cons (.ex (.call 53 (.cons (.p (.loc 0)) (.cons (.p (.loc 1)) (.cons (.p (.fld 2)) (.cons (.p (.bin .and (.fld 10) (.glob 32))) .nil)))))) .nil)
noncomputable def x4U:FR:=⟨"sta","sta",false,["cpu","place"],["cpu","place"],top 83,zQ,none⟩
noncomputable def zS:Ss:=(.cons (.ex (.call 53 (.cons (.p (.loc 0)) (.cons (.p (.loc 1)) (.cons (.p (.fld 3)) (.cons (.p (.bin .and (.fld 10) (.glob 16))) .nil)))))) .nil)
noncomputable def x4W:FR:=⟨"stx","stx",false,["cpu","place"],["cpu","place"],top 84,zS,none⟩
noncomputable def zT:Ss:=(.cons (.ex (.call 53 (.cons (.p (.loc 0)) (.cons (.p (.loc 1)) (.cons (.p (.fld 4)) (.cons (.p (.bin .and (.fld 10) (.glob 16))) .nil)))))) .nil)
noncomputable def x4X:FR:=⟨"sty","sty",false,["cpu","place"],["cpu","place"],top 85,zT,none⟩
noncomputable def zU:Ss:=(.cons (.ex (.call 53 (.cons (.p (.loc 0)) (.cons (.p (.loc 1)) (.cons (.p (.int 0)) (.cons (.p (.bin .and (.fld 10) (.glob 32))) .nil)))))) .nil)
noncomputable def x4Y:FR:=⟨"stz","stz",false,["cpu","place"],["cpu","place"],top 86,zU,none⟩
noncomputable def yO:Ss:=(.cons (.ex (.call 51 (.cons (.p (.loc 0)) (.cons (.bin .or (.p (.fld 2)) (.call 52 (.cons (.p (.loc 0)) (.cons (.p (.loc 1)) (.cons (.p (.bin .and (.fld 10) (.glob 32))) .nil))))) .nil)))) .nil)
noncomputable def x4s:FR:=⟨"ora","ora",false,["cpu","place"],["cpu","place"],top 87,yO,none⟩
noncomputable def vI:Ss:=(.cons (.ex (.call 51 (.cons (.p (.loc 0)) (.cons (.bin .and (.p (.fld 2)) (.call 52 (.cons (.p (.loc 0)) (.cons (.p (.loc 1)) (.cons (.p (.bin .and (.fld 10) (.glob 32))) .nil))))) .nil)))) .nil)
noncomputable def y3z:FR:=⟨"and_a","and_a",false,["cpu","place"],["cpu","place"],top 88,vI,none⟩
noncomputable def yA:Ss:=(.cons (.ex (.call 51 (.cons (.p (.loc 0)) (.cons (.bin .xor (.p (.fld 2)) (.call 52 (.cons (.p (.loc 0)) (.cons (.p (.loc 1)) (.cons (.p (.bin .and (.fld 10) (.glob 32))) .nil))))) .nil)))) .nil)
noncomputable def x4g:FR:=⟨"eor","eor",false,["cpu","place"],["cpu","place"],top 89,yA,none⟩
noncomputable def tJ:Ss:=(.cons (.set 4 (.bin .sub (.p (.loc 1)) (.call 52 (.cons (.p (.loc 0)) (.cons (.p (.loc 2)) (.cons (.p (.loc 3)) .nil)))))) (.cons (.ex (.call 47 (.cons (.p (.loc 0)) (.cons (.p (.cmp .ge (.loc 4) (.int 0))) .nil)))) (.cons (.ex (.call 48 (.cons (.p (.loc 0)) (.cons (.p (.loc 4)) (.cons (.p (.loc 3)) .nil))))) .nil)))
noncomputable def z6W:FR:=⟨"compare","compare",false,["cpu","kept","place","narrow"],["cpu","kept","place","narrow","difference"],top 90,tJ,none⟩
noncomputable def xT:Ss:=(.cons (.ex (.call 64 (.cons (.p (.loc 0)) (.cons (.call 50 (.cons (.p (.loc 0)) .nil)) (.cons (.p (.loc 1)) (.cons (.p (.bin .and (.fld 10) (.glob 32))) .nil)))))) .nil)
noncomputable def x3Z:FR:=⟨"cmp","cmp",false,["cpu","place"],["cpu","place"],top 91,xT,none⟩
noncomputable def xV:Ss:=(.cons (.ex (.call 64 (.cons (.p (.loc 0)) (.cons (.p (.fld 3)) (.cons (.p (.loc 1)) (.cons (.p (.bin .and (.fld 10) (.glob 16))) .nil)))))) .nil)
noncomputable def x4b:FR:=⟨"cpx","cpx",false,["cpu","place"],["cpu","place"],top 92,xV,none⟩
noncomputable def xW:Ss:=(.cons (.ex (.call 64 (.cons (.p (.loc 0)) (.cons (.p (.fld 4)) (.cons (.p (.loc 1)) (.cons (.p (.bin .and (.fld 10) (.glob 16))) .nil)))))) .nil)
noncomputable def x4c:FR:=⟨"cpy","cpy",false,["cpu","place"],["cpu","place"],top 93,xW,none⟩
noncomputable def qN:Ss:=(.cons (.ife (.bin .and (.fld 2) (.loc 1)) (.cons (.fld 10 (.p (.bin .and (.fld 10) (.inv (.glob 2))))) .nil) (.cons (.fld 10 (.p (.bin .or (.fld 10) (.glob 2)))) .nil)) .nil)
noncomputable def z0w:FR:=⟨"note_common_bits","note_common_bits",false,["cpu","number"],["cpu","number"],top 94,qN,none⟩
noncomputable def xG:Ss:=(.cons (.set 2 (.call 52 (.cons (.p (.loc 0)) (.cons (.p (.loc 1)) (.cons (.p (.bin .and (.fld 10) (.glob 32))) .nil))))) (.cons (.ex (.call 68 (.cons (.p (.loc 0)) (.cons (.p (.loc 2)) .nil)))) (.cons (.setB 3 (.ife (.bin .and (.fld 10) (.glob 32)) (.loc 2) (.bin .shr (.loc 2) (.int 8)))) (.cons (.fld 10 (.p (.bin .or (.bin .and (.fld 10) (.inv (.bin .or (.glob 128) (.glob 64)))) (.bin .and (.loc 3) (.bin .or (.glob 128) (.glob 64)))))) .nil))))
noncomputable def r_bit:FR:=⟨"bit","bit",false,["cpu","place"],["cpu","place","number","highest"],top 95,xG,none⟩
noncomputable def uF:Ss:=(.cons (.ex (.call 68 (.cons (.p (.loc 0)) (.cons (.call 52 (.cons (.p (.loc 0)) (.cons (.p (.loc 1)) (.cons (.p (.bin .and (.fld 10) (.glob 32))) .nil)))) .nil)))) .nil)
noncomputable def z9S:FR:=⟨"bit_im","bit_im",false,["cpu","place"],["cpu","place"],top 96,uF,none⟩
noncomputable def z8b:Ss:=(.cons (.set 2 (.call 52 (.cons (.p (.loc 0)) (.cons (.p (.loc 1)) (.cons (.p (.bin .and (.fld 10) (.glob 32))) .nil))))) (.cons (.ex (.call 68 (.cons (.p (.loc 0)) (.cons (.p (.loc 2)) .nil)))) (.cons (.ex (.call 53 (.cons (.p (.loc 0)) (.cons (.p (.loc 1)) (.cons (.p (.bin .or (.loc 2) (.fld 2))) (.cons (.p (.bin .and (.fld 10) (.glob 32))) .nil)))))) .nil)))
noncomputable def x5f:FR:=⟨"tsb","tsb",false,["cpu","place"],["cpu","place","number"],top 97,z8b,none⟩
noncomputable def z8a:Ss:=(.cons (.set 2 (.call 52 (.cons (.p (.loc 0)) (.cons (.p (.loc 1)) (.cons (.p (.bin .and (.fld 10) (.glob 32))) .nil))))) (.cons (.ex (.call 68 (.cons (.p (.loc 0)) (.cons (.p (.loc 2)) .nil)))) (.cons (.ex (.call 53 (.cons (.p (.loc 0)) (.cons (.p (.loc 1)) (.cons (.p (.bin .and (.loc 2) (.inv (.fld 2)))) (.cons (.p (.bin .and (.fld 10) (.glob 32))) .nil)))))) .nil)))
noncomputable def x5e:FR:=⟨"trb","trb",false,["cpu","place"],["cpu","place","number"],top 98,z8a,none⟩
noncomputable def sB:Ss:=(.cons (.set 2 (.meth 5 .nil)) (.cons (.set 3 (.meth 5 .nil)) (.cons (.ex (.put (.p (.bin .add (.bin .shl (.loc 2) (.int 16)) (.fld 4))) (.p (.ix (.ix (.fld 1) (.loc 3)) (.fld 3))))) (.cons (.set 4 (.call 49 (.cons (.p (.bin .and (.fld 10) (.glob 16))) .nil))) (.cons (.fld 3 (.p (.bin .and (.bin .add (.fld 3) (.loc 1)) (.loc 4)))) (.cons (.fld 4 (.p (.bin .and (.bin .add (.fld 4) (.loc 1)) (.loc 4)))) (.cons (.fld 9 (.p (.loc 2))) (.cons (.ife (.fld 2) (.cons (.fld 7 (.p (.bin .and (.bin .sub (.fld 7) (.glob 3)) (.int 65535)))) .nil) .nil) (.cons (.fld 2 (.p (.bin .and (.bin .sub (.fld 2) (.int 1)) (.int 65535)))) .nil)))))))))
noncomputable def z3J:FR:=⟨"move_byte","move_byte",false,["cpu","more"],["cpu","more","bank_to","bank_from","mask"],top 102,sB,none⟩
noncomputable def yK:Ss:=(.cons (.ex (.call 73 (.cons (.p (.loc 0)) (.cons (.p (.int 1)) .nil)))) .nil)
noncomputable def x4p:FR:=⟨"mvn","mvn",false,["cpu"],["cpu"],top 103,yK,none⟩
noncomputable def yL:Ss:=(.cons (.ex (.call 73 (.cons (.p (.loc 0)) (.cons (.p (.neg 1)) .nil)))) .nil)
noncomputable def x4q:FR:=⟨"mvp","mvp",false,["cpu"],["cpu"],top 104,yL,none⟩
noncomputable def z8k:Ss:=(.cons (.ex (.meth 5 .nil)) .nil)
noncomputable def x5o:FR:=⟨"wdm","wdm",false,["cpu"],["cpu"],top 105,z8k,none⟩
noncomputable def yN:Ss:=(.cons .pass .nil)
noncomputable def x4r:FR:=⟨"nop","nop",false,["cpu"],["cpu"],top 106,yN,none⟩
noncomputable def z8j:Ss:=(.cons (.fld 12 (.p (.bl true))) .nil)
noncomputable def x5n:FR:=⟨"wai","wai",false,["cpu"],["cpu"],top 107,z8j,none⟩
noncomputable def zR:Ss:=(.cons (.fld 13 (.p (.bl true))) .nil)
noncomputable def x4V:FR:=⟨"stp","stp",false,["cpu"],["cpu"],top 108,zR,none⟩
noncomputable def tR:Ss:=(.cons (.set 1 (.bin .add (.p (.fld 5)) (.meth 5 .nil))) (.cons (.ret (.pair (.bin .and (.loc 1) (.int 65535)) (.bin .and (.bin .add (.loc 1) (.int 1)) (.int 65535)))) .nil))
noncomputable def z7d:FR:=⟨"place_d","place_d",false,["cpu"],["cpu","at"],top 112,tR,none⟩
noncomputable def sW:Ss:=(.cons (.set 1 (.bin .add (.bin .add (.p (.fld 5)) (.meth 5 .nil)) (.p (.fld 3)))) (.cons (.ret (.pair (.bin .and (.loc 1) (.int 65535)) (.bin .and (.bin .add (.loc 1) (.int 1)) (.int 65535)))) .nil))
noncomputable def z4Q:FR:=⟨"place_dx","place_dx",false,["cpu"],["cpu","at"],top 113,sW,none⟩
noncomputable def sX:Ss:=(.cons (.set 1 (.bin .add (.bin .add (.p (.fld 5)) (.meth 5 .nil)) (.p (.fld 4)))) (.cons (.ret (.pair (.bin .and (.loc 1) (.int 65535)) (.bin .and (.bin .add (.loc 1) (.int 1)) (.int 65535)))) .nil))
noncomputable def z4R:FR:=⟨"place_dy","place_dy",false,["cpu"],["cpu","at"],top 114,sX,none⟩
noncomputable def sU:Ss:=(.cons (.set 1 (.bin .add (.p (.bin .shl (.fld 9) (.int 16))) (.meth 8 (.cons (.bin .add (.p (.fld 5)) (.meth 5 .nil)) .nil)))) (.cons (.ret (.pair (.bin .and (.loc 1) (.glob 16777215)) (.bin .and (.bin .add (.loc 1) (.int 1)) (.glob 16777215)))) .nil))
noncomputable def z4O:FR:=⟨"place_di","place_di",false,["cpu"],["cpu","at"],top 115,sU,none⟩
noncomputable def sF:Ss:=(.cons (.set 1 (.bin .add (.p (.bin .shl (.fld 9) (.int 16))) (.meth 8 (.cons (.bin .add (.bin .add (.p (.fld 5)) (.meth 5 .nil)) (.p (.fld 3))) .nil)))) (.cons (.ret (.pair (.bin .and (.loc 1) (.glob 16777215)) (.bin .and (.bin .add (.loc 1) (.int 1)) (.glob 16777215)))) .nil))
noncomputable def z3N:FR:=⟨"place_dix","place_dix",false,["cpu"],["cpu","at"],top 116,sF,none⟩
noncomputable def sG:Ss:=(.cons (.set 1 (.bin .add (.bin .add (.p (.bin .shl (.fld 9) (.int 16))) (.meth 8 (.cons (.bin .add (.p (.fld 5)) (.meth 5 .nil)) .nil))) (.p (.fld 4)))) (.cons (.ret (.pair (.bin .and (.loc 1) (.glob 16777215)) (.bin .and (.bin .add (.loc 1) (.int 1)) (.glob 16777215)))) .nil))
noncomputable def z3O:FR:=⟨"place_diy","place_diy",false,["cpu"],["cpu","at"],top 117,sG,none⟩
noncomputable def sV:Ss:=(.cons (.set 1 (.meth 9 (.cons (.bin .add (.p (.fld 5)) (.meth 5 .nil)) .nil))) (.cons (.ret (.pair (.bin .and (.loc 1) (.glob 16777215)) (.bin .and (.bin .add (.loc 1) (.int 1)) (.glob 16777215)))) .nil))
noncomputable def z4P:FR:=⟨"place_dl","place_dl",false,["cpu"],["cpu","at"],top 118,sV,none⟩
noncomputable def sH:Ss:=(.cons (.set 1 (.bin .add (.meth 9 (.cons (.bin .add (.p (.fld 5)) (.meth 5 .nil)) .nil)) (.p (.fld 4)))) (.cons (.ret (.pair (.bin .and (.loc 1) (.glob 16777215)) (.bin .and (.bin .add (.loc 1) (.int 1)) (.glob 16777215)))) .nil))
noncomputable def z3P:FR:=⟨"place_dly","place_dly",false,["cpu"],["cpu","at"],top 119,sH,none⟩
noncomputable def tQ:Ss:=(.cons (.set 1 (.bin .add (.p (.bin .shl (.fld 9) (.int 16))) (.meth 6 .nil))) (.cons (.ret (.pair (.bin .and (.loc 1) (.glob 16777215)) (.bin .and (.bin .add (.loc 1) (.int 1)) (.glob 16777215)))) .nil))
noncomputable def z7c:FR:=⟨"place_a","place_a",false,["cpu"],["cpu","at"],top 120,tQ,none⟩
noncomputable def sS:Ss:=(.cons (.set 1 (.bin .add (.bin .add (.p (.bin .shl (.fld 9) (.int 16))) (.meth 6 .nil)) (.p (.fld 3)))) (.cons (.ret (.pair (.bin .and (.loc 1) (.glob 16777215)) (.bin .and (.bin .add (.loc 1) (.int 1)) (.glob 16777215)))) .nil))
noncomputable def z4M:FR:=⟨"place_ax","place_ax",false,["cpu"],["cpu","at"],top 121,sS,none⟩
noncomputable def sT:Ss:=(.cons (.set 1 (.bin .add (.bin .add (.p (.bin .shl (.fld 9) (.int 16))) (.meth 6 .nil)) (.p (.fld 4)))) (.cons (.ret (.pair (.bin .and (.loc 1) (.glob 16777215)) (.bin .and (.bin .add (.loc 1) (.int 1)) (.glob 16777215)))) .nil))
noncomputable def z4N:FR:=⟨"place_ay","place_ay",false,["cpu"],["cpu","at"],top 122,sT,none⟩
noncomputable def sQ:Ss:=(.cons (.set 1 (.meth 7 .nil)) (.cons (.ret (.pair (.bin .and (.loc 1) (.glob 16777215)) (.bin .and (.bin .add (.loc 1) (.int 1)) (.glob 16777215)))) .nil))
noncomputable def z4L:FR:=⟨"place_al","place_al",false,["cpu"],["cpu","at"],top 123,sQ,none⟩
noncomputable def sE:Ss:=(.cons (.set 1 (.bin .add (.meth 7 .nil) (.p (.fld 3)))) (.cons (.ret (.pair (.bin .and (.loc 1) (.glob 16777215)) (.bin .and (.bin .add (.loc 1) (.int 1)) (.glob 16777215)))) .nil))
noncomputable def z3M:FR:=⟨"place_alx","place_alx",false,["cpu"],["cpu","at"],top 124,sE,none⟩
noncomputable def tD:Ss:=(.cons (.set 1 (.bin .add (.p (.fld 6)) (.meth 5 .nil))) (.cons (.ret (.pair (.bin .and (.loc 1) (.int 65535)) (.bin .and (.bin .add (.loc 1) (.int 1)) (.int 65535)))) .nil))
noncomputable def z4U:FR:=⟨"place_sr","place_sr",false,["cpu"],["cpu","at"],top 125,tD,none⟩
noncomputable def sI:Ss:=(.cons (.set 1 (.bin .add (.bin .add (.p (.bin .shl (.fld 9) (.int 16))) (.meth 8 (.cons (.bin .add (.p (.fld 6)) (.meth 5 .nil)) .nil))) (.p (.fld 4)))) (.cons (.ret (.pair (.bin .and (.loc 1) (.glob 16777215)) (.bin .and (.bin .add (.loc 1) (.int 1)) (.glob 16777215)))) .nil))
noncomputable def z3Q:FR:=⟨"place_siy","place_siy",false,["cpu"],["cpu","at"],top 126,sI,none⟩
noncomputable def sY:Ss:=(.cons (.ret (.call 97 (.cons (.p (.loc 0)) (.cons (.p (.ife (.bin .and (.fld 10) (.glob 32)) (.int 1) (.int 2))) .nil)))) .nil)
noncomputable def z4S:FR:=⟨"place_im","place_im",false,["cpu"],["cpu"],top 127,sY,none⟩
noncomputable def sZ:Ss:=(.cons (.ret (.call 97 (.cons (.p (.loc 0)) (.cons (.p (.ife (.bin .and (.fld 10) (.glob 16)) (.int 1) (.int 2))) .nil)))) .nil)
noncomputable def z4T:FR:=⟨"place_ix","place_ix",false,["cpu"],["cpu"],top 128,sZ,none⟩
noncomputable def rF:Ss:=(.cons (.setB 2 (.fld 7)) (.cons (.fld 7 (.p (.bin .and (.bin .add (.loc 2) (.loc 1)) (.int 65535)))) (.cons (.setB 3 (.bin .shl (.fld 8) (.int 16))) (.cons (.ret (.pair (.bin .add (.loc 3) (.loc 2)) (.bin .add (.loc 3) (.bin .and (.bin .add (.loc 2) (.int 1)) (.int 65535))))) .nil))))
noncomputable def z1G:FR:=⟨"behind_first","behind_first",false,["cpu","width"],["cpu","width","pc","bank"],top 129,rF,none⟩
noncomputable def rG:Ss:=(.cons (.setB 3 (.bin .add (.bin .shl (.loc 1) (.int 1)) (.loc 2))) (.cons (.ex (.call 47 (.cons (.p (.loc 0)) (.cons (.cmp .gt (.p (.loc 3)) (.call 49 (.cons (.p (.bin .and (.fld 10) (.glob 32))) .nil))) .nil)))) (.cons (.ret (.p (.loc 3))) .nil)))
noncomputable def z1H:FR:=⟨"shifted_left","shifted_left",false,["cpu","number","carry"],["cpu","number","carry","shifted"],top 132,rG,none⟩
noncomputable def rD:Ss:=(.cons (.ex (.call 47 (.cons (.p (.loc 0)) (.cons (.p (.bin .and (.loc 1) (.int 1))) .nil)))) (.cons (.ife (.loc 2) (.cons (.aug 1 (.bin .add (.call 49 (.cons (.p (.bin .and (.fld 10) (.glob 32))) .nil)) (.p (.int 1)))) .nil) .nil) (.cons (.ret (.p (.bin .shr (.loc 1) (.int 1)))) .nil)))
noncomputable def z1q:FR:=⟨"shifted_right","shifted_right",false,["cpu","number","carry"],["cpu","number","carry"],top 133,rD,none⟩
noncomputable def tS:Ss:=(.cons (.ret (.call 52 (.cons (.p (.loc 0)) (.cons (.p (.loc 1)) (.cons (.p (.bin .and (.fld 10) (.glob 32))) .nil))))) .nil)
noncomputable def z7e:FR:=⟨"read_at","read_at",false,["cpu","place"],["cpu","place"],top 134,tS,none⟩
noncomputable def tO:Ss:=(.cons (.setB 3 (.bin .and (.fld 10) (.glob 32))) (.cons (.ex (.call 53 (.cons (.p (.loc 0)) (.cons (.p (.loc 1)) (.cons (.call 48 (.cons (.p (.loc 0)) (.cons (.p (.loc 2)) (.cons (.p (.loc 3)) .nil)))) (.cons (.p (.loc 3)) .nil)))))) .nil))
noncomputable def z7a:FR:=⟨"keep_at","keep_at",false,["cpu","place","number"],["cpu","place","number","narrow"],top 135,tO,none⟩
noncomputable def xC:Ss:=(.cons (.ex (.call 101 (.cons (.p (.loc 0)) (.cons (.p (.loc 1)) (.cons (.call 98 (.cons (.p (.loc 0)) (.cons (.call 100 (.cons (.p (.loc 0)) (.cons (.p (.loc 1)) .nil))) (.cons (.p (.int 0)) .nil)))) .nil))))) .nil)
noncomputable def x3J:FR:=⟨"asl","asl",false,["cpu","place"],["cpu","place"],top 136,xC,none⟩
noncomputable def zG:Ss:=(.cons (.ex (.call 101 (.cons (.p (.loc 0)) (.cons (.p (.loc 1)) (.cons (.call 98 (.cons (.p (.loc 0)) (.cons (.call 100 (.cons (.p (.loc 0)) (.cons (.p (.loc 1)) .nil))) (.cons (.p (.bin .and (.fld 10) (.glob 1))) .nil)))) .nil))))) .nil)
noncomputable def x4K:FR:=⟨"rol","rol",false,["cpu","place"],["cpu","place"],top 137,zG,none⟩
noncomputable def yJ:Ss:=(.cons (.ex (.call 101 (.cons (.p (.loc 0)) (.cons (.p (.loc 1)) (.cons (.call 99 (.cons (.p (.loc 0)) (.cons (.call 100 (.cons (.p (.loc 0)) (.cons (.p (.loc 1)) .nil))) (.cons (.p (.int 0)) .nil)))) .nil))))) .nil)
noncomputable def x4o:FR:=⟨"lsr","lsr",false,["cpu","place"],["cpu","place"],top 138,yJ,none⟩
noncomputable def zH:Ss:=(.cons (.ex (.call 101 (.cons (.p (.loc 0)) (.cons (.p (.loc 1)) (.cons (.call 99 (.cons (.p (.loc 0)) (.cons (.call 100 (.cons (.p (.loc 0)) (.cons (.p (.loc 1)) .nil))) (.cons (.p (.bin .and (.fld 10) (.glob 1))) .nil)))) .nil))))) .nil)
noncomputable def x4L:FR:=⟨"ror","ror",false,["cpu","place"],["cpu","place"],top 139,zH,none⟩
noncomputable def yB:Ss:=(.cons (.ex (.call 101 (.cons (.p (.loc 0)) (.cons (.p (.loc 1)) (.cons (.bin .add (.call 100 (.cons (.p (.loc 0)) (.cons (.p (.loc 1)) .nil))) (.p (.int 1))) .nil))))) .nil)
noncomputable def x4h:FR:=⟨"inc","inc",false,["cpu","place"],["cpu","place"],top 140,yB,none⟩
noncomputable def xX:Ss:=(.cons (.ex (.call 101 (.cons (.p (.loc 0)) (.cons (.p (.loc 1)) (.cons (.bin .sub (.call 100 (.cons (.p (.loc 0)) (.cons (.p (.loc 1)) .nil))) (.p (.int 1))) .nil))))) .nil)
noncomputable def x4d:FR:=⟨"dec","dec",false,["cpu","place"],["cpu","place"],top 141,xX,none⟩
noncomputable def vJ:Ss:=(.cons (.ex (.call 51 (.cons (.p (.loc 0)) (.cons (.call 98 (.cons (.p (.loc 0)) (.cons (.call 50 (.cons (.p (.loc 0)) .nil)) (.cons (.p (.int 0)) .nil)))) .nil)))) .nil)
noncomputable def y3A:FR:=⟨"asl_a","asl_a",false,["cpu"],["cpu"],top 142,vJ,none⟩
noncomputable def vQ:Ss:=(.cons (.ex (.call 51 (.cons (.p (.loc 0)) (.cons (.call 98 (.cons (.p (.loc 0)) (.cons (.call 50 (.cons (.p (.loc 0)) .nil)) (.cons (.p (.bin .and (.fld 10) (.glob 1))) .nil)))) .nil)))) .nil)
noncomputable def y3H:FR:=⟨"rol_a","rol_a",false,["cpu"],["cpu"],top 143,vQ,none⟩
noncomputable def vO:Ss:=(.cons (.ex (.call 51 (.cons (.p (.loc 0)) (.cons (.call 99 (.cons (.p (.loc 0)) (.cons (.call 50 (.cons (.p (.loc 0)) .nil)) (.cons (.p (.int 0)) .nil)))) .nil)))) .nil)
noncomputable def y3F:FR:=⟨"lsr_a","lsr_a",false,["cpu"],["cpu"],top 144,vO,none⟩
noncomputable def vR:Ss:=(.cons (.ex (.call 51 (.cons (.p (.loc 0)) (.cons (.call 99 (.cons (.p (.loc 0)) (.cons (.call 50 (.cons (.p (.loc 0)) .nil)) (.cons (.p (.bin .and (.fld 10) (.glob 1))) .nil)))) .nil)))) .nil)
noncomputable def y3I:FR:=⟨"ror_a","ror_a",false,["cpu"],["cpu"],top 145,vR,none⟩
noncomputable def vL:Ss:=(.cons (.ex (.call 51 (.cons (.p (.loc 0)) (.cons (.p (.bin .add (.fld 2) (.int 1))) .nil)))) .nil)
noncomputable def y3C:FR:=⟨"inc_a","inc_a",false,["cpu"],["cpu"],top 146,vL,none⟩
noncomputable def vK:Ss:=(.cons (.ex (.call 51 (.cons (.p (.loc 0)) (.cons (.p (.bin .sub (.fld 2) (.int 1))) .nil)))) .nil)
noncomputable def y3B:FR:=⟨"dec_a","dec_a",false,["cpu"],["cpu"],top 147,vK,none⟩
noncomputable def yC:Ss:=(.cons (.fld 3 (.call 48 (.cons (.p (.loc 0)) (.cons (.p (.bin .add (.fld 3) (.int 1))) (.cons (.p (.bin .and (.fld 10) (.glob 16))) .nil))))) .nil)
noncomputable def x4i:FR:=⟨"inx","inx",false,["cpu"],["cpu"],top 148,yC,none⟩
noncomputable def yD:Ss:=(.cons (.fld 4 (.call 48 (.cons (.p (.loc 0)) (.cons (.p (.bin .add (.fld 4) (.int 1))) (.cons (.p (.bin .and (.fld 10) (.glob 16))) .nil))))) .nil)
noncomputable def x4j:FR:=⟨"iny","iny",false,["cpu"],["cpu"],top 149,yD,none⟩
noncomputable def xY:Ss:=(.cons (.fld 3 (.call 48 (.cons (.p (.loc 0)) (.cons (.p (.bin .sub (.fld 3) (.int 1))) (.cons (.p (.bin .and (.fld 10) (.glob 16))) .nil))))) .nil)
noncomputable def x4e:FR:=⟨"dex","dex",false,["cpu"],["cpu"],top 150,xY,none⟩
noncomputable def xZ:Ss:=(.cons (.fld 4 (.call 48 (.cons (.p (.loc 0)) (.cons (.p (.bin .sub (.fld 4) (.int 1))) (.cons (.p (.bin .and (.fld 10) (.glob 16))) .nil))))) .nil)
noncomputable def x4f:FR:=⟨"dey","dey",false,["cpu"],["cpu"],top 151,xZ,none⟩
noncomputable def rM:Ss:=(.cons (.ife (.loc 2) (.cons (.ex (.meth 10 (.cons (.p (.loc 1)) .nil))) .nil) (.cons (.ex (.meth 11 (.cons (.p (.loc 1)) .nil))) .nil)) .nil)
noncomputable def z1U:FR:=⟨"push_number","push_number",false,["cpu","number","narrow"],["cpu","number","narrow"],top 155,rM,none⟩
noncomputable def rK:Ss:=(.cons (.ife (.loc 1) (.cons (.ret (.meth 12 .nil)) .nil) .nil) (.cons (.ret (.meth 13 .nil)) .nil))
noncomputable def z1T:FR:=⟨"pull_number","pull_number",false,["cpu","narrow"],["cpu","narrow"],top 156,rK,none⟩
noncomputable def yS:Ss:=(.cons (.ex (.call 118 (.cons (.p (.loc 0)) (.cons (.call 50 (.cons (.p (.loc 0)) .nil)) (.cons (.p (.bin .and (.fld 10) (.glob 32))) .nil))))) .nil)
noncomputable def x4w:FR:=⟨"pha","pha",false,["cpu"],["cpu"],top 157,yS,none⟩
noncomputable def yX:Ss:=(.cons (.ex (.call 118 (.cons (.p (.loc 0)) (.cons (.p (.fld 3)) (.cons (.p (.bin .and (.fld 10) (.glob 16))) .nil))))) .nil)
noncomputable def x4B:FR:=⟨"phx","phx",false,["cpu"],["cpu"],top 158,yX,none⟩
noncomputable def yY:Ss:=(.cons (.ex (.call 118 (.cons (.p (.loc 0)) (.cons (.p (.fld 4)) (.cons (.p (.bin .and (.fld 10) (.glob 16))) .nil))))) .nil)
noncomputable def x4C:FR:=⟨"phy","phy",false,["cpu"],["cpu"],top 159,yY,none⟩
noncomputable def yZ:Ss:=(.cons (.ex (.call 51 (.cons (.p (.loc 0)) (.cons (.call 119 (.cons (.p (.loc 0)) (.cons (.p (.bin .and (.fld 10) (.glob 32))) .nil))) .nil)))) .nil)
noncomputable def x4D:FR:=⟨"pla","pla",false,["cpu"],["cpu"],top 160,yZ,none⟩
noncomputable def zD:Ss:=(.cons (.setB 1 (.bin .and (.fld 10) (.glob 16))) (.cons (.fld 3 (.call 48 (.cons (.p (.loc 0)) (.cons (.call 119 (.cons (.p (.loc 0)) (.cons (.p (.loc 1)) .nil))) (.cons (.p (.loc 1)) .nil))))) .nil))
noncomputable def x4H:FR:=⟨"plx","plx",false,["cpu"],["cpu","narrow"],top 161,zD,none⟩
noncomputable def zE:Ss:=(.cons (.setB 1 (.bin .and (.fld 10) (.glob 16))) (.cons (.fld 4 (.call 48 (.cons (.p (.loc 0)) (.cons (.call 119 (.cons (.p (.loc 0)) (.cons (.p (.loc 1)) .nil))) (.cons (.p (.loc 1)) .nil))))) .nil))
noncomputable def x4I:FR:=⟨"ply","ply",false,["cpu"],["cpu","narrow"],top 162,zE,none⟩
noncomputable def yW:Ss:=(.cons (.ex (.meth 10 (.cons (.p (.fld 10)) .nil))) .nil)
noncomputable def x4A:FR:=⟨"php","php",false,["cpu"],["cpu"],top 163,yW,none⟩
noncomputable def zC:Ss:=(.cons (.ex (.meth 3 (.cons (.meth 12 .nil) .nil))) .nil)
noncomputable def x4G:FR:=⟨"plp","plp",false,["cpu"],["cpu"],top 164,zC,none⟩
noncomputable def yU:Ss:=(.cons (.ex (.meth 11 (.cons (.p (.fld 5)) .nil))) .nil)
noncomputable def x4y:FR:=⟨"phd","phd",false,["cpu"],["cpu"],top 165,yU,none⟩
noncomputable def zB:Ss:=(.cons (.fld 5 (.meth 13 .nil)) (.cons (.ex (.call 46 (.cons (.p (.loc 0)) (.cons (.p (.fld 5)) .nil)))) .nil))
noncomputable def x4F:FR:=⟨"pld","pld",false,["cpu"],["cpu"],top 166,zB,none⟩
noncomputable def yT:Ss:=(.cons (.ex (.meth 10 (.cons (.p (.fld 9)) .nil))) .nil)
noncomputable def x4x:FR:=⟨"phb","phb",false,["cpu"],["cpu"],top 167,yT,none⟩
noncomputable def zA:Ss:=(.cons (.fld 9 (.meth 12 .nil)) (.cons (.ex (.call 45 (.cons (.p (.loc 0)) (.cons (.p (.fld 9)) .nil)))) .nil))
noncomputable def x4E:FR:=⟨"plb","plb",false,["cpu"],["cpu"],top 168,zA,none⟩
noncomputable def yV:Ss:=(.cons (.ex (.meth 10 (.cons (.p (.fld 8)) .nil))) .nil)
noncomputable def x4z:FR:=⟨"phk","phk",false,["cpu"],["cpu"],top 169,yV,none⟩
noncomputable def yP:Ss:=(.cons (.ex (.meth 11 (.cons (.meth 6 .nil) .nil))) .nil)
noncomputable def x4t:FR:=⟨"pea","pea",false,["cpu"],["cpu"],top 170,yP,none⟩
noncomputable def yQ:Ss:=(.cons (.ex (.meth 11 (.cons (.call 52 (.cons (.p (.loc 0)) (.cons (.p (.loc 1)) (.cons (.p (.bl false)) .nil)))) .nil))) .nil)
noncomputable def x4u:FR:=⟨"pei","pei",false,["cpu","place"],["cpu","place"],top 171,yQ,none⟩
noncomputable def yR:Ss:=(.cons (.set 1 (.meth 6 .nil)) (.cons (.ex (.meth 11 (.cons (.p (.bin .and (.bin .add (.fld 7) (.loc 1)) (.int 65535))) .nil))) .nil))
noncomputable def x4v:FR:=⟨"per","per",false,["cpu"],["cpu","away"],top 172,yR,none⟩
noncomputable def z1O:Ss:=.nil
noncomputable def rR:FR:=⟨"decimal_sum","decimal_sum",false,["one","other","carry","bits"],["one","other","carry","bits","total","shift","digit"],top 176,z1O,some iM⟩
noncomputable def z0d:Ss:=.nil
noncomputable def qK:FR:=⟨"decimal_difference","decimal_difference",false,["one","other","carry","bits"],["one","other","carry","bits","total","shift","digit"],top 177,z0d,some iJ⟩
noncomputable def rW:Ss:=(.cons (.setB 4 (.bin .or (.bin .and (.fld 10) (.inv (.bin .or (.glob 64) (.glob 1)))) (.bin .shr (.loc 1) (.loc 2)))) (.cons (.fld 10 (.p (.ife (.loc 3) (.bin .or (.loc 4) (.glob 64)) (.loc 4)))) (.cons (.ex (.call 51 (.cons (.p (.loc 0)) (.cons (.p (.loc 1)) .nil)))) .nil)))
noncomputable def z2J:FR:=⟨"keep_total","keep_total",false,["cpu","total","bits","overflow"],["cpu","total","bits","overflow","flags"],top 178,rW,none⟩
noncomputable def xB:Ss:=(.cons (.setB 2 (.bin .and (.fld 10) (.glob 32))) (.cons (.setB 3 (.ife (.loc 2) (.int 8) (.int 16))) (.cons (.set 4 (.call 50 (.cons (.p (.loc 0)) .nil))) (.cons (.set 5 (.call 52 (.cons (.p (.loc 0)) (.cons (.p (.loc 1)) (.cons (.p (.loc 2)) .nil))))) (.cons (.setB 6 (.bin .and (.fld 10) (.glob 1))) (.cons (.setB 7 (.bin .add (.bin .add (.loc 4) (.loc 5)) (.loc 6))) (.cons (.setB 8 (.bin .and (.bin .and (.inv (.bin .xor (.loc 4) (.loc 5))) (.bin .xor (.loc 4) (.loc 7))) (.bin .shl (.int 1) (.bin .sub (.loc 3) (.int 1))))) (.cons (.ife (.bin .and (.fld 10) (.glob 8)) (.cons (.set 7 (.call 136 (.cons (.p (.loc 4)) (.cons (.p (.loc 5)) (.cons (.p (.loc 6)) (.cons (.p (.loc 3)) .nil)))))) .nil) .nil) (.cons (.ex (.call 138 (.cons (.p (.loc 0)) (.cons (.p (.loc 7)) (.cons (.p (.loc 3)) (.cons (.p (.loc 8)) .nil)))))) .nil)))))))))
noncomputable def x3I:FR:=⟨"adc","adc",false,["cpu","place"],["cpu","place","narrow","bits","one","other","carry","total","overflow"],top 179,xB,none⟩
noncomputable def zL:Ss:=(.cons (.setB 2 (.bin .and (.fld 10) (.glob 32))) (.cons (.setB 3 (.ife (.loc 2) (.int 8) (.int 16))) (.cons (.set 4 (.call 50 (.cons (.p (.loc 0)) .nil))) (.cons (.set 5 (.call 52 (.cons (.p (.loc 0)) (.cons (.p (.loc 1)) (.cons (.p (.loc 2)) .nil))))) (.cons (.setB 6 (.bin .and (.fld 10) (.glob 1))) (.cons (.setB 7 (.bin .add (.bin .sub (.bin .sub (.bin .add (.bin .shl (.int 1) (.loc 3)) (.loc 4)) (.loc 5)) (.int 1)) (.loc 6))) (.cons (.setB 8 (.bin .and (.bin .and (.bin .xor (.loc 4) (.loc 5)) (.bin .xor (.loc 4) (.loc 7))) (.bin .shl (.int 1) (.bin .sub (.loc 3) (.int 1))))) (.cons (.ife (.bin .and (.fld 10) (.glob 8)) (.cons (.set 7 (.call 137 (.cons (.p (.loc 4)) (.cons (.p (.loc 5)) (.cons (.p (.loc 6)) (.cons (.p (.loc 3)) .nil)))))) .nil) .nil) (.cons (.ex (.call 138 (.cons (.p (.loc 0)) (.cons (.p (.loc 7)) (.cons (.p (.loc 3)) (.cons (.p (.loc 8)) .nil)))))) .nil)))))))))
noncomputable def x4P:FR:=⟨"sbc","sbc",false,["cpu","place"],["cpu","place","narrow","bits","one","other","carry","total","overflow"],top 180,zL,none⟩
noncomputable def zV:Ss:=(.cons (.fld 3 (.call 48 (.cons (.p (.loc 0)) (.cons (.p (.fld 2)) (.cons (.p (.bin .and (.fld 10) (.glob 16))) .nil))))) .nil)
noncomputable def x4Z:FR:=⟨"tax","tax",false,["cpu"],["cpu"],top 183,zV,none⟩
noncomputable def zW:Ss:=(.cons (.fld 4 (.call 48 (.cons (.p (.loc 0)) (.cons (.p (.fld 2)) (.cons (.p (.bin .and (.fld 10) (.glob 16))) .nil))))) .nil)
noncomputable def x5a:FR:=⟨"tay","tay",false,["cpu"],["cpu"],top 184,zW,none⟩
noncomputable def z8d:Ss:=(.cons (.fld 3 (.call 48 (.cons (.p (.loc 0)) (.cons (.p (.fld 6)) (.cons (.p (.bin .and (.fld 10) (.glob 16))) .nil))))) .nil)
noncomputable def x5h:FR:=⟨"tsx","tsx",false,["cpu"],["cpu"],top 185,z8d,none⟩
noncomputable def z8g:Ss:=(.cons (.fld 4 (.call 48 (.cons (.p (.loc 0)) (.cons (.p (.fld 3)) (.cons (.p (.bin .and (.fld 10) (.glob 16))) .nil))))) .nil)
noncomputable def x5k:FR:=⟨"txy","txy",false,["cpu"],["cpu"],top 186,z8g,none⟩
noncomputable def z8i:Ss:=(.cons (.fld 3 (.call 48 (.cons (.p (.loc 0)) (.cons (.p (.fld 4)) (.cons (.p (.bin .and (.fld 10) (.glob 16))) .nil))))) .nil)
noncomputable def x5m:FR:=⟨"tyx","tyx",false,["cpu"],["cpu"],top 187,z8i,none⟩
noncomputable def z8e:Ss:=(.cons (.ex (.call 51 (.cons (.p (.loc 0)) (.cons (.p (.fld 3)) .nil)))) .nil)
noncomputable def x5i:FR:=⟨"txa","txa",false,["cpu"],["cpu"],top 188,z8e,none⟩
noncomputable def z8h:Ss:=(.cons (.ex (.call 51 (.cons (.p (.loc 0)) (.cons (.p (.fld 4)) .nil)))) .nil)
noncomputable def x5l:FR:=⟨"tya","tya",false,["cpu"],["cpu"],top 189,z8h,none⟩
noncomputable def z8f:Ss:=(.cons (.ex (.meth 4 (.cons (.p (.fld 3)) .nil))) .nil)
noncomputable def x5j:FR:=⟨"txs","txs",false,["cpu"],["cpu"],top 190,z8f,none⟩
noncomputable def zY:Ss:=(.cons (.ex (.meth 4 (.cons (.p (.fld 2)) .nil))) .nil)
noncomputable def x5c:FR:=⟨"tcs","tcs",false,["cpu"],["cpu"],top 191,zY,none⟩
noncomputable def z8c:Ss:=(.cons (.fld 2 (.p (.fld 6))) (.cons (.ex (.call 46 (.cons (.p (.loc 0)) (.cons (.p (.fld 2)) .nil)))) .nil))
noncomputable def x5g:FR:=⟨"tsc","tsc",false,["cpu"],["cpu"],top 192,z8c,none⟩
noncomputable def zX:Ss:=(.cons (.fld 5 (.p (.fld 2))) (.cons (.ex (.call 46 (.cons (.p (.loc 0)) (.cons (.p (.fld 5)) .nil)))) .nil))
noncomputable def x5b:FR:=⟨"tcd","tcd",false,["cpu"],["cpu"],top 193,zX,none⟩
noncomputable def zZ:Ss:=(.cons (.fld 2 (.p (.fld 5))) (.cons (.ex (.call 46 (.cons (.p (.loc 0)) (.cons (.p (.fld 2)) .nil)))) .nil))
noncomputable def x5d:FR:=⟨"tdc","tdc",false,["cpu"],["cpu"],top 194,zZ,none⟩
noncomputable def z8l:Ss:=(.cons (.fld 2 (.p (.bin .add (.bin .mul (.bin .and (.fld 2) (.int 255)) (.int 256)) (.bin .shr (.fld 2) (.int 8))))) (.cons (.ex (.call 45 (.cons (.p (.loc 0)) (.cons (.p (.bin .and (.fld 2) (.int 255))) .nil)))) .nil))
noncomputable def x5p:FR:=⟨"xba","xba",false,["cpu"],["cpu"],top 195,z8l,none⟩
noncomputable def z8m:Ss:=(.cons (.setB 1 (.cmp .eq (.bin .and (.fld 10) (.glob 1)) (.glob 1))) (.cons (.ex (.call 47 (.cons (.p (.loc 0)) (.cons (.p (.fld 11)) .nil)))) (.cons (.ex (.meth 2 (.cons (.p (.loc 1)) .nil))) .nil)))
noncomputable def x5q:FR:=⟨"xce","xce",false,["cpu"],["cpu","emulation"],top 196,z8m,none⟩
noncomputable def xP:Ss:=(.cons (.fld 10 (.p (.bin .and (.fld 10) (.inv (.glob 1))))) .nil)
noncomputable def x3V:FR:=⟨"clc","clc",false,["cpu"],["cpu"],top 197,xP,none⟩
noncomputable def zM:Ss:=(.cons (.fld 10 (.p (.bin .or (.fld 10) (.glob 1)))) .nil)
noncomputable def x4Q:FR:=⟨"sec","sec",false,["cpu"],["cpu"],top 198,zM,none⟩
noncomputable def xR:Ss:=(.cons (.fld 10 (.p (.bin .and (.fld 10) (.inv (.glob 4))))) .nil)
noncomputable def x3X:FR:=⟨"cli","cli",false,["cpu"],["cpu"],top 199,xR,none⟩
noncomputable def zO:Ss:=(.cons (.fld 10 (.p (.bin .or (.fld 10) (.glob 4)))) .nil)
noncomputable def x4S:FR:=⟨"sei","sei",false,["cpu"],["cpu"],top 200,zO,none⟩
noncomputable def xQ:Ss:=(.cons (.fld 10 (.p (.bin .and (.fld 10) (.inv (.glob 8))))) .nil)
noncomputable def x3W:FR:=⟨"cld","cld",false,["cpu"],["cpu"],top 201,xQ,none⟩
noncomputable def zN:Ss:=(.cons (.fld 10 (.p (.bin .or (.fld 10) (.glob 8)))) .nil)
noncomputable def x4R:FR:=⟨"sed","sed",false,["cpu"],["cpu"],top 202,zN,none⟩
noncomputable def xS:Ss:=(.cons (.fld 10 (.p (.bin .and (.fld 10) (.inv (.glob 64))))) .nil)
noncomputable def x3Y:FR:=⟨"clv","clv",false,["cpu"],["cpu"],top 203,xS,none⟩
noncomputable def zF:Ss:=(.cons (.ex (.meth 3 (.cons (.bin .and (.p (.fld 10)) (.inv (.meth 5 .nil))) .nil))) .nil)
noncomputable def x4J:FR:=⟨"rep","rep",false,["cpu"],["cpu"],top 204,zF,none⟩
noncomputable def zP:Ss:=(.cons (.ex (.meth 3 (.cons (.bin .or (.p (.fld 10)) (.meth 5 .nil)) .nil))) .nil)
noncomputable def x4T:FR:=⟨"sep","sep",false,["cpu"],["cpu"],top 205,zP,none⟩
noncomputable def vS:Ss:=(.cons (.fld 2 (.p (.bin .and (.loc 1) (.int 65535)))) .nil)
noncomputable def y3J:FR:=⟨"set_a","set_a",false,["cpu","value"],["cpu","value"],top 216,vS,none⟩
noncomputable def vV:Ss:=(.cons (.fld 3 (.bin .and (.p (.loc 1)) (.call 49 (.cons (.p (.bin .and (.fld 10) (.glob 16))) .nil)))) .nil)
noncomputable def y3M:FR:=⟨"set_x","set_x",false,["cpu","value"],["cpu","value"],top 217,vV,none⟩
noncomputable def vW:Ss:=(.cons (.fld 4 (.bin .and (.p (.loc 1)) (.call 49 (.cons (.p (.bin .and (.fld 10) (.glob 16))) .nil)))) .nil)
noncomputable def y3N:FR:=⟨"set_y","set_y",false,["cpu","value"],["cpu","value"],top 218,vW,none⟩
noncomputable def vT:Ss:=(.cons (.fld 5 (.p (.bin .and (.loc 1) (.int 65535)))) .nil)
noncomputable def y3K:FR:=⟨"set_d","set_d",false,["cpu","value"],["cpu","value"],top 219,vT,none⟩
noncomputable def vU:Ss:=(.cons (.ex (.meth 4 (.cons (.p (.loc 1)) .nil))) .nil)
noncomputable def y3L:FR:=⟨"set_s","set_s",false,["cpu","value"],["cpu","value"],top 220,vU,none⟩
noncomputable def uN:Ss:=(.cons (.fld 7 (.p (.bin .and (.loc 1) (.int 65535)))) .nil)
noncomputable def y0a:FR:=⟨"set_pc","set_pc",false,["cpu","value"],["cpu","value"],top 221,uN,none⟩
noncomputable def uM:Ss:=(.cons (.fld 8 (.p (.bin .and (.loc 1) (.int 255)))) .nil)
noncomputable def z9Z:FR:=⟨"set_pb","set_pb",false,["cpu","value"],["cpu","value"],top 222,uM,none⟩
noncomputable def uL:Ss:=(.cons (.fld 9 (.p (.bin .and (.loc 1) (.int 255)))) .nil)
noncomputable def z9Y:FR:=⟨"set_db","set_db",false,["cpu","value"],["cpu","value"],top 223,uL,none⟩
noncomputable def sJ:Ss:=(.cons (.ex (.meth 3 (.cons (.p (.bin .and (.loc 1) (.int 255))) .nil))) .nil)
noncomputable def z3R:FR:=⟨"set_flags","set_flags",false,["cpu","value"],["cpu","value"],top 224,sJ,none⟩
noncomputable def rC:Ss:=(.cons (.ex (.meth 2 (.cons (.p (.cmp .eq (.bin .and (.loc 1) (.int 1)) (.int 1))) .nil))) .nil)
noncomputable def z1p:FR:=⟨"set_emulation","set_emulation",false,["cpu","value"],["cpu","value"],top 225,rC,none⟩
noncomputable def FT:List FR:=[nV,z3G,z0o,z1l,z3H,z1m,z1o,z1n,z0D,z0C,z1j,z1k,z1h,z1i,z3I,z0p,mY,mX,x3R,x4a,x4M,z9T,x3P,x3N,x3T,x3U,x3K,x3L,x3O,x3M,x3Q,x3S,z0K,z9U,y3D,z9W,z6Y,z9V,z6X,z0L,y3E,z6Z,x4k,x4O,x4N,z3K,z3L,z2K,y3G,z7b,z1W,z9X,z1V,z1I,x4l,x4m,x4n,x4U,x4W,x4X,x4Y,x4s,y3z,x4g,z6W,x3Z,x4b,x4c,z0w,r_bit,z9S,x5f,x5e,z3J,x4p,x4q,x5o,x4r,x5n,x4V,z7d,z4Q,z4R,z4O,z3N,z3O,z4P,z3P,z7c,z4M,z4N,z4L,z3M,z4U,z3Q,z4S,z4T,z1G,z1H,z1q,z7e,z7a,x3J,x4K,x4o,x4L,x4h,x4d,y3A,y3H,y3F,y3I,y3C,y3B,x4i,x4j,x4e,x4f,z1U,z1T,x4w,x4B,x4C,x4D,x4H,x4I,x4A,x4G,x4y,x4F,x4x,x4E,x4z,x4t,x4u,x4v,rR,qK,z2J,x3I,x4P,x4Z,x5a,x5h,x5k,x5m,x5i,x5l,x5j,x5c,x5g,x5b,x5d,x5p,x5q,x3V,x4Q,x3X,x4S,x3W,x4R,x3Y,x4J,x4T,y3J,y3M,y3N,y3K,y3L,y0a,z9Z,z9Y,z3R,z1p]
noncomputable abbrev rN:Env→M→Option (U×M):=fun _ m'=>some (.non,m')
section
variable(k:Nat)(a0 a1 a2 a3 a4 a5:U)(m:M)
theorem z7s:evF FT (k+1) 0 [a0,a1] m=evSs (evF FT k) [some a0,some a1] m rN tI:=rfl
theorem z4a:evF FT (k+1) 1 [a0] m=evSs (evF FT k) [some a0] m rN rZ:=rfl
theorem z0q:evF FT (k+1) 2 [a0,a1] m=evSs (evF FT k) [some a0,some a1] m (fun _ m'=>some (.non,m')) qL:=rfl
theorem z1v:evF FT (k+1) 3 [a0,a1] m=evSs (evF FT k) [some a0,some a1] m rN qY:=rfl
theorem z0S:evF FT (k+1) 4 [a0,a1] m=evSs (evF FT k) [some a0,some a1] m rN nM:=rfl
theorem z1w:evF FT (k+1) 5 [a0] m=evSs (evF FT k) [some a0,none] m rN qZ:=rfl
theorem z1y:evF FT (k+1) 6 [a0] m=evSs (evF FT k) [some a0,none,none] m rN rB:=rfl
theorem z1x:evF FT (k+1) 7 [a0] m=evSs (evF FT k) [some a0,none] m rN rA:=rfl
theorem z0F:evF FT (k+1) 8 [a0,a1] m=evSs (evF FT k) [some a0,some a1,none] m rN qP:=rfl
theorem z0E:evF FT (k+1) 9 [a0,a1] m=evSs (evF FT k) [some a0,some a1] m rN qO:=rfl
theorem z1t:evF FT (k+1) 10 [a0,a1] m=evSs (evF FT k) [some a0,some a1,none] m rN qW:=rfl
theorem z1u:evF FT (k+1) 11 [a0,a1] m=evSs (evF FT k) [some a0,some a1] m rN qX:=rfl
theorem z1r:evF FT (k+1) 12 [a0] m=evSs (evF FT k) [some a0] m rN qU:=rfl
theorem z1s:evF FT (k+1) 13 [a0] m=evSs (evF FT k) [some a0,none] m rN qV:=rfl
theorem z4b:evF FT (k+1) 14 [a0,a1,a2] m=evSs (evF FT k) [some a0,some a1,some a2] m rN sA:=rfl
theorem z0r:evF FT (k+1) 15 [a0,a1,a2] m=evSs (evF FT k) [some a0,some a1,some a2] m rN qM:=rfl
theorem x6u:evF FT (k+1) 16 [a0] m=evSs (evF FT k) [some a0] m rN yM:=rfl
theorem x6m:evF FT (k+1) 17 [a0] m=evSs (evF FT k) [some a0] m rN yE:=rfl
theorem x5T:evF FT (k+1) 18 [a0] m=evSs (evF FT k) [some a0] m rN xL:=rfl
theorem x6c:evF FT (k+1) 19 [a0] m=evSs (evF FT k) [some a0] m rN xU:=rfl
theorem x6Q:evF FT (k+1) 20 [a0] m=evSs (evF FT k) [some a0] m rN zI:=rfl
theorem y0y:evF FT (k+1) 21 [a0,a1] m=evSs (evF FT k) [some a0,some a1,none,none] m rN uG:=rfl
theorem x5R:evF FT (k+1) 22 [a0] m=evSs (evF FT k) [some a0] m rN xJ:=rfl
theorem x5P:evF FT (k+1) 23 [a0] m=evSs (evF FT k) [some a0] m rN xH:=rfl
theorem x5V:evF FT (k+1) 24 [a0] m=evSs (evF FT k) [some a0] m rN xN:=rfl
theorem x5W:evF FT (k+1) 25 [a0] m=evSs (evF FT k) [some a0] m rN xO:=rfl
theorem x5L:evF FT (k+1) 26 [a0] m=evSs (evF FT k) [some a0] m rN xD:=rfl
theorem x5M:evF FT (k+1) 27 [a0] m=evSs (evF FT k) [some a0] m rN xE:=rfl
theorem x5Q:evF FT (k+1) 28 [a0] m=evSs (evF FT k) [some a0] m rN xI:=rfl
theorem x5N:evF FT (k+1) 29 [a0] m=evSs (evF FT k) [some a0] m rN xF:=rfl
theorem x5S:evF FT (k+1) 30 [a0] m=evSs (evF FT k) [some a0] m rN xK:=rfl
theorem x5U:evF FT (k+1) 31 [a0] m=evSs (evF FT k) [some a0,none] m rN xM:=rfl
theorem z0M:evF FT (k+1) 32 [a0] m=evSs (evF FT k) [some a0,none,none] m rN qR:=rfl
theorem y0z:evF FT (k+1) 33 [a0,a1] m=evSs (evF FT k) [some a0,some a1] m rN uH:=rfl
theorem y4b:evF FT (k+1) 34 [a0] m=evSs (evF FT k) [some a0] m rN vM:=rfl
theorem y0B:evF FT (k+1) 35 [a0] m=evSs (evF FT k) [some a0] m rN uJ:=rfl
theorem z7v:evF FT (k+1) 36 [a0] m=evSs (evF FT k) [some a0] m rN tL:=rfl
theorem y0A:evF FT (k+1) 37 [a0] m=evSs (evF FT k) [some a0] m rN uI:=rfl
theorem z7u:evF FT (k+1) 38 [a0] m=evSs (evF FT k) [some a0] m rN tK:=rfl
theorem z0N:evF FT (k+1) 39 [a0] m=evSs (evF FT k) [some a0] m rN qS:=rfl
theorem y4c:evF FT (k+1) 40 [a0] m=evSs (evF FT k) [some a0,none] m rN vN:=rfl
theorem z7w:evF FT (k+1) 41 [a0] m=evSs (evF FT k) [some a0,none] m rN tN:=rfl
theorem x6n:evF FT (k+1) 42 [a0] m=evSs (evF FT k) [some a0,none] m rN yF:=rfl
theorem x6S:evF FT (k+1) 43 [a0] m=evSs (evF FT k) [some a0] m rN zK:=rfl
theorem x6R:evF FT (k+1) 44 [a0] m=evSs (evF FT k) [some a0] m rN zJ:=rfl
theorem z4d:evF FT (k+1) 45 [a0,a1] m=evSs (evF FT k) [some a0,some a1] m rN sC:=rfl
theorem z4e:evF FT (k+1) 46 [a0,a1] m=evSs (evF FT k) [some a0,some a1] m rN sD:=rfl
theorem z2N:evF FT (k+1) 47 [a0,a1] m=evSs (evF FT k) [some a0,some a1] m rN rX:=rfl
theorem y4e:evF FT (k+1) 48 [a0,a1,a2] m=evSs (evF FT k) [some a0,some a1,some a2] m rN vP:=rfl
theorem z7y:evF FT (k+1) 49 [a0] m=evSs (evF FT k) [some a0] m rN tP:=rfl
theorem z2d:evF FT (k+1) 50 [a0] m=evSs (evF FT k) [some a0] m rN rP:=rfl
theorem y0C:evF FT (k+1) 51 [a0,a1] m=evSs (evF FT k) [some a0,some a1] m rN uK:=rfl
theorem z2c:evF FT (k+1) 52 [a0,a1,a2] m=evSs (evF FT k) [some a0,some a1,some a2,none,none,none] m rN rO:=rfl
theorem z1N:evF FT (k+1) 53 [a0,a1,a2,a3] m=evSs (evF FT k) [some a0,some a1,some a2,some a3] m rN rJ:=rfl
theorem x6o:evF FT (k+1) 54 [a0,a1] m=evSs (evF FT k) [some a0,some a1] m rN yG:=rfl
theorem x6p:evF FT (k+1) 55 [a0,a1] m=evSs (evF FT k) [some a0,some a1,none] m rN yH:=rfl
theorem x6q:evF FT (k+1) 56 [a0,a1] m=evSs (evF FT k) [some a0,some a1,none] m rN yI:=rfl
theorem x6Y:evF FT (k+1) 57 [a0,a1] m=evSs (evF FT k) [some a0,some a1] m rN zQ:=rfl
theorem x7a:evF FT (k+1) 58 [a0,a1] m=evSs (evF FT k) [some a0,some a1] m rN zS:=rfl
theorem x7b:evF FT (k+1) 59 [a0,a1] m=evSs (evF FT k) [some a0,some a1] m rN zT:=rfl
theorem x7c:evF FT (k+1) 60 [a0,a1] m=evSs (evF FT k) [some a0,some a1] m rN zU:=rfl
theorem x6w:evF FT (k+1) 61 [a0,a1] m=evSs (evF FT k) [some a0,some a1] m rN yO:=rfl
theorem y3X:evF FT (k+1) 62 [a0,a1] m=evSs (evF FT k) [some a0,some a1] m rN vI:=rfl
theorem x6i:evF FT (k+1) 63 [a0,a1] m=evSs (evF FT k) [some a0,some a1] m rN yA:=rfl
theorem z7t:evF FT (k+1) 64 [a0,a1,a2,a3] m=evSs (evF FT k) [some a0,some a1,some a2,some a3,none] m rN tJ:=rfl
theorem x6b:evF FT (k+1) 65 [a0,a1] m=evSs (evF FT k) [some a0,some a1] m rN xT:=rfl
theorem x6d:evF FT (k+1) 66 [a0,a1] m=evSs (evF FT k) [some a0,some a1] m rN xV:=rfl
theorem x6e:evF FT (k+1) 67 [a0,a1] m=evSs (evF FT k) [some a0,some a1] m rN xW:=rfl
theorem z0x:evF FT (k+1) 68 [a0,a1] m=evSs (evF FT k) [some a0,some a1] m rN qN:=rfl
theorem x5O:evF FT (k+1) 69 [a0,a1] m=evSs (evF FT k) [some a0,some a1,none,none] m rN xG:=rfl
theorem y0x:evF FT (k+1) 70 [a0,a1] m=evSs (evF FT k) [some a0,some a1] m rN uF:=rfl
theorem x7j:evF FT (k+1) 71 [a0,a1] m=evSs (evF FT k) [some a0,some a1,none] m rN z8b:=rfl
theorem x7i:evF FT (k+1) 72 [a0,a1] m=evSs (evF FT k) [some a0,some a1,none] m rN z8a:=rfl
theorem z4c:evF FT (k+1) 73 [a0,a1] m=evSs (evF FT k) [some a0,some a1,none,none,none] m rN sB:=rfl
theorem x6s:evF FT (k+1) 74 [a0] m=evSs (evF FT k) [some a0] m rN yK:=rfl
theorem x6t:evF FT (k+1) 75 [a0] m=evSs (evF FT k) [some a0] m rN yL:=rfl
theorem x7s:evF FT (k+1) 76 [a0] m=evSs (evF FT k) [some a0] m rN z8k:=rfl
theorem x6v:evF FT (k+1) 77 [a0] m=evSs (evF FT k) [some a0] m rN yN:=rfl
theorem x7r:evF FT (k+1) 78 [a0] m=evSs (evF FT k) [some a0] m rN z8j:=rfl
theorem x6Z:evF FT (k+1) 79 [a0] m=evSs (evF FT k) [some a0] m rN zR:=rfl
theorem z7A:evF FT (k+1) 80 [a0] m=evSs (evF FT k) [some a0,none] m rN tR:=rfl
theorem z5g:evF FT (k+1) 81 [a0] m=evSs (evF FT k) [some a0,none] m rN sW:=rfl
theorem z5h:evF FT (k+1) 82 [a0] m=evSs (evF FT k) [some a0,none] m rN sX:=rfl
theorem z5e:evF FT (k+1) 83 [a0] m=evSs (evF FT k) [some a0,none] m rN sU:=rfl
theorem z4g:evF FT (k+1) 84 [a0] m=evSs (evF FT k) [some a0,none] m rN sF:=rfl
theorem z4h:evF FT (k+1) 85 [a0] m=evSs (evF FT k) [some a0,none] m rN sG:=rfl
theorem z5f:evF FT (k+1) 86 [a0] m=evSs (evF FT k) [some a0,none] m rN sV:=rfl
theorem z4i:evF FT (k+1) 87 [a0] m=evSs (evF FT k) [some a0,none] m rN sH:=rfl
theorem z7z:evF FT (k+1) 88 [a0] m=evSs (evF FT k) [some a0,none] m rN tQ:=rfl
theorem z5c:evF FT (k+1) 89 [a0] m=evSs (evF FT k) [some a0,none] m rN sS:=rfl
theorem z5d:evF FT (k+1) 90 [a0] m=evSs (evF FT k) [some a0,none] m rN sT:=rfl
theorem z5b:evF FT (k+1) 91 [a0] m=evSs (evF FT k) [some a0,none] m rN sQ:=rfl
theorem z4f:evF FT (k+1) 92 [a0] m=evSs (evF FT k) [some a0,none] m rN sE:=rfl
theorem z5k:evF FT (k+1) 93 [a0] m=evSs (evF FT k) [some a0,none] m rN tD:=rfl
theorem z4j:evF FT (k+1) 94 [a0] m=evSs (evF FT k) [some a0,none] m rN sI:=rfl
theorem z5i:evF FT (k+1) 95 [a0] m=evSs (evF FT k) [some a0] m rN sY:=rfl
theorem z5j:evF FT (k+1) 96 [a0] m=evSs (evF FT k) [some a0] m rN sZ:=rfl
theorem z1L:evF FT (k+1) 97 [a0,a1] m=evSs (evF FT k) [some a0,some a1,none,none] m rN rF:=rfl
theorem z1M:evF FT (k+1) 98 [a0,a1,a2] m=evSs (evF FT k) [some a0,some a1,some a2,none] m rN rG:=rfl
theorem z1A:evF FT (k+1) 99 [a0,a1,a2] m=evSs (evF FT k) [some a0,some a1,some a2] m rN rD:=rfl
theorem z7B:evF FT (k+1) 100 [a0,a1] m=evSs (evF FT k) [some a0,some a1] m rN tS:=rfl
theorem z7x:evF FT (k+1) 101 [a0,a1,a2] m=evSs (evF FT k) [some a0,some a1,some a2,none] m rN tO:=rfl
theorem x5K:evF FT (k+1) 102 [a0,a1] m=evSs (evF FT k) [some a0,some a1] m rN xC:=rfl
theorem x6O:evF FT (k+1) 103 [a0,a1] m=evSs (evF FT k) [some a0,some a1] m rN zG:=rfl
theorem x6r:evF FT (k+1) 104 [a0,a1] m=evSs (evF FT k) [some a0,some a1] m rN yJ:=rfl
theorem x6P:evF FT (k+1) 105 [a0,a1] m=evSs (evF FT k) [some a0,some a1] m rN zH:=rfl
theorem x6j:evF FT (k+1) 106 [a0,a1] m=evSs (evF FT k) [some a0,some a1] m rN yB:=rfl
theorem x6f:evF FT (k+1) 107 [a0,a1] m=evSs (evF FT k) [some a0,some a1] m rN xX:=rfl
theorem y3Y:evF FT (k+1) 108 [a0] m=evSs (evF FT k) [some a0] m rN vJ:=rfl
theorem y4f:evF FT (k+1) 109 [a0] m=evSs (evF FT k) [some a0] m rN vQ:=rfl
theorem y4d:evF FT (k+1) 110 [a0] m=evSs (evF FT k) [some a0] m rN vO:=rfl
theorem y4g:evF FT (k+1) 111 [a0] m=evSs (evF FT k) [some a0] m rN vR:=rfl
theorem y4a:evF FT (k+1) 112 [a0] m=evSs (evF FT k) [some a0] m rN vL:=rfl
theorem y3Z:evF FT (k+1) 113 [a0] m=evSs (evF FT k) [some a0] m rN vK:=rfl
theorem x6k:evF FT (k+1) 114 [a0] m=evSs (evF FT k) [some a0] m rN yC:=rfl
theorem x6l:evF FT (k+1) 115 [a0] m=evSs (evF FT k) [some a0] m rN yD:=rfl
theorem x6g:evF FT (k+1) 116 [a0] m=evSs (evF FT k) [some a0] m rN xY:=rfl
theorem x6h:evF FT (k+1) 117 [a0] m=evSs (evF FT k) [some a0] m rN xZ:=rfl
theorem z2b:evF FT (k+1) 118 [a0,a1,a2] m=evSs (evF FT k) [some a0,some a1,some a2] m rN rM:=rfl
theorem z2a:evF FT (k+1) 119 [a0,a1] m=evSs (evF FT k) [some a0,some a1] m rN rK:=rfl
theorem x6A:evF FT (k+1) 120 [a0] m=evSs (evF FT k) [some a0] m rN yS:=rfl
theorem x6F:evF FT (k+1) 121 [a0] m=evSs (evF FT k) [some a0] m rN yX:=rfl
theorem x6G:evF FT (k+1) 122 [a0] m=evSs (evF FT k) [some a0] m rN yY:=rfl
theorem x6H:evF FT (k+1) 123 [a0] m=evSs (evF FT k) [some a0] m rN yZ:=rfl
theorem x6L:evF FT (k+1) 124 [a0] m=evSs (evF FT k) [some a0,none] m rN zD:=rfl
theorem x6M:evF FT (k+1) 125 [a0] m=evSs (evF FT k) [some a0,none] m rN zE:=rfl
theorem x6E:evF FT (k+1) 126 [a0] m=evSs (evF FT k) [some a0] m rN yW:=rfl
theorem x6K:evF FT (k+1) 127 [a0] m=evSs (evF FT k) [some a0] m rN zC:=rfl
theorem x6C:evF FT (k+1) 128 [a0] m=evSs (evF FT k) [some a0] m rN yU:=rfl
theorem x6J:evF FT (k+1) 129 [a0] m=evSs (evF FT k) [some a0] m rN zB:=rfl
theorem x6B:evF FT (k+1) 130 [a0] m=evSs (evF FT k) [some a0] m rN yT:=rfl
theorem x6I:evF FT (k+1) 131 [a0] m=evSs (evF FT k) [some a0] m rN zA:=rfl
theorem x6D:evF FT (k+1) 132 [a0] m=evSs (evF FT k) [some a0] m rN yV:=rfl
theorem x6x:evF FT (k+1) 133 [a0] m=evSs (evF FT k) [some a0] m rN yP:=rfl
theorem x6y:evF FT (k+1) 134 [a0,a1] m=evSs (evF FT k) [some a0,some a1] m rN yQ:=rfl
theorem x6z:evF FT (k+1) 135 [a0] m=evSs (evF FT k) [some a0,none] m rN yR:=rfl
theorem z1Z(k:Nat)(us:List U)(m:M):evF FT (k+1) 136 us m=if us.length=4 then iM us m else none:=rfl
theorem z0j(k:Nat)(us:List U)(m:M):evF FT (k+1) 137 us m=if us.length=4 then iJ us m else none:=rfl
theorem z2M:evF FT (k+1) 138 [a0,a1,a2,a3] m=evSs (evF FT k) [some a0,some a1,some a2,some a3,none] m rN rW:=rfl
theorem x5J:evF FT (k+1) 139 [a0,a1] m=evSs (evF FT k) [some a0,some a1,none,none,none,none,none,none,none] m rN xB:=rfl
theorem x6T:evF FT (k+1) 140 [a0,a1] m=evSs (evF FT k) [some a0,some a1,none,none,none,none,none,none,none] m rN zL:=rfl
theorem x7d:evF FT (k+1) 141 [a0] m=evSs (evF FT k) [some a0] m rN zV:=rfl
theorem x7e:evF FT (k+1) 142 [a0] m=evSs (evF FT k) [some a0] m rN zW:=rfl
theorem x7l:evF FT (k+1) 143 [a0] m=evSs (evF FT k) [some a0] m rN z8d:=rfl
theorem x7o:evF FT (k+1) 144 [a0] m=evSs (evF FT k) [some a0] m rN z8g:=rfl
theorem x7q:evF FT (k+1) 145 [a0] m=evSs (evF FT k) [some a0] m rN z8i:=rfl
theorem x7m:evF FT (k+1) 146 [a0] m=evSs (evF FT k) [some a0] m rN z8e:=rfl
theorem x7p:evF FT (k+1) 147 [a0] m=evSs (evF FT k) [some a0] m rN z8h:=rfl
theorem x7n:evF FT (k+1) 148 [a0] m=evSs (evF FT k) [some a0] m rN z8f:=rfl
theorem x7g:evF FT (k+1) 149 [a0] m=evSs (evF FT k) [some a0] m rN zY:=rfl
theorem x7k:evF FT (k+1) 150 [a0] m=evSs (evF FT k) [some a0] m rN z8c:=rfl
theorem x7f:evF FT (k+1) 151 [a0] m=evSs (evF FT k) [some a0] m rN zX:=rfl
theorem x7h:evF FT (k+1) 152 [a0] m=evSs (evF FT k) [some a0] m rN zZ:=rfl
theorem x7t:evF FT (k+1) 153 [a0] m=evSs (evF FT k) [some a0] m rN z8l:=rfl
theorem x7u:evF FT (k+1) 154 [a0] m=evSs (evF FT k) [some a0,none] m rN z8m:=rfl
theorem x5X:evF FT (k+1) 155 [a0] m=evSs (evF FT k) [some a0] m rN xP:=rfl
theorem x6U:evF FT (k+1) 156 [a0] m=evSs (evF FT k) [some a0] m rN zM:=rfl
theorem x5Z:evF FT (k+1) 157 [a0] m=evSs (evF FT k) [some a0] m rN xR:=rfl
theorem x6W:evF FT (k+1) 158 [a0] m=evSs (evF FT k) [some a0] m rN zO:=rfl
theorem x5Y:evF FT (k+1) 159 [a0] m=evSs (evF FT k) [some a0] m rN xQ:=rfl
theorem x6V:evF FT (k+1) 160 [a0] m=evSs (evF FT k) [some a0] m rN zN:=rfl
theorem x6a:evF FT (k+1) 161 [a0] m=evSs (evF FT k) [some a0] m rN xS:=rfl
theorem x6N:evF FT (k+1) 162 [a0] m=evSs (evF FT k) [some a0] m rN zF:=rfl
theorem x6X:evF FT (k+1) 163 [a0] m=evSs (evF FT k) [some a0] m rN zP:=rfl
theorem y4h:evF FT (k+1) 164 [a0,a1] m=evSs (evF FT k) [some a0,some a1] m rN vS:=rfl
theorem y4k:evF FT (k+1) 165 [a0,a1] m=evSs (evF FT k) [some a0,some a1] m rN vV:=rfl
theorem y4l:evF FT (k+1) 166 [a0,a1] m=evSs (evF FT k) [some a0,some a1] m rN vW:=rfl
theorem y4i:evF FT (k+1) 167 [a0,a1] m=evSs (evF FT k) [some a0,some a1] m rN vT:=rfl
theorem y4j:evF FT (k+1) 168 [a0,a1] m=evSs (evF FT k) [some a0,some a1] m rN vU:=rfl
theorem y0F:evF FT (k+1) 169 [a0,a1] m=evSs (evF FT k) [some a0,some a1] m rN uN:=rfl
theorem y0E:evF FT (k+1) 170 [a0,a1] m=evSs (evF FT k) [some a0,some a1] m rN uM:=rfl
theorem y0D:evF FT (k+1) 171 [a0,a1] m=evSs (evF FT k) [some a0,some a1] m rN uL:=rfl
theorem z4k:evF FT (k+1) 172 [a0,a1] m=evSs (evF FT k) [some a0,some a1] m rN sJ:=rfl
theorem z1z:evF FT (k+1) 173 [a0,a1] m=evSs (evF FT k) [some a0,some a1] m rN rC:=rfl
end
noncomputable abbrev lF:Nat:=0
noncomputable abbrev z3a:Nat:=1
noncomputable abbrev z0l:Nat:=2
noncomputable abbrev z0b:Nat:=3
noncomputable abbrev z0O:Nat:=4
noncomputable abbrev z1b:Nat:=5
noncomputable abbrev z1d:Nat:=6
noncomputable abbrev z1c:Nat:=7
noncomputable abbrev qQ:Nat:=8
noncomputable abbrev z0A:Nat:=9
noncomputable abbrev z0Z:Nat:=10
noncomputable abbrev z1a:Nat:=11
noncomputable abbrev z0X:Nat:=12
noncomputable abbrev z0Y:Nat:=13
noncomputable abbrev z3c:Nat:=14
noncomputable abbrev z0m:Nat:=15
noncomputable abbrev mO:Nat:=16
noncomputable abbrev mM:Nat:=17
noncomputable abbrev y4O:Nat:=18
noncomputable abbrev y4W:Nat:=19
noncomputable abbrev y5B:Nat:=20
noncomputable abbrev z8F:Nat:=21
noncomputable abbrev y4M:Nat:=22
noncomputable abbrev y4K:Nat:=23
noncomputable abbrev y4Q:Nat:=24
noncomputable abbrev y4R:Nat:=25
noncomputable abbrev y4G:Nat:=26
noncomputable abbrev y4H:Nat:=27
noncomputable abbrev y4L:Nat:=28
noncomputable abbrev y4I:Nat:=29
noncomputable abbrev y4N:Nat:=30
noncomputable abbrev y4P:Nat:=31
noncomputable abbrev z0I:Nat:=32
noncomputable abbrev z8K:Nat:=33
noncomputable abbrev z5P:Nat:=34
noncomputable abbrev z3e:Nat:=35
noncomputable abbrev z2n:Nat:=36
noncomputable abbrev z3d:Nat:=37
noncomputable abbrev z2m:Nat:=38
noncomputable abbrev z0J:Nat:=39
noncomputable abbrev z5Q:Nat:=40
noncomputable abbrev z2o:Nat:=41
noncomputable abbrev y5d:Nat:=42
noncomputable abbrev y5D:Nat:=43
noncomputable abbrev y5C:Nat:=44
noncomputable abbrev z3g:Nat:=45
noncomputable abbrev z3h:Nat:=46
noncomputable abbrev z2G:Nat:=47
noncomputable abbrev oM:Nat:=48
noncomputable abbrev lG:Nat:=49
noncomputable abbrev z1S:Nat:=50
noncomputable abbrev z8L:Nat:=51
noncomputable abbrev rQ:Nat:=52
noncomputable abbrev lB:Nat:=53
noncomputable abbrev z8M:Nat:=54
noncomputable abbrev z8N:Nat:=55
noncomputable abbrev z8O:Nat:=56
noncomputable abbrev y5I:Nat:=57
noncomputable abbrev y5K:Nat:=58
noncomputable abbrev y5L:Nat:=59
noncomputable abbrev y5M:Nat:=60
noncomputable abbrev z8P:Nat:=61
noncomputable abbrev wA:Nat:=62
noncomputable abbrev z8J:Nat:=63
noncomputable abbrev z6A:Nat:=64
noncomputable abbrev z8G:Nat:=65
noncomputable abbrev z8H:Nat:=66
noncomputable abbrev z8I:Nat:=67
noncomputable abbrev z0u:Nat:=68
noncomputable abbrev y4J:Nat:=69
noncomputable abbrev z3b:Nat:=70
noncomputable abbrev y5T:Nat:=71
noncomputable abbrev y5S:Nat:=72
noncomputable abbrev z3f:Nat:=73
noncomputable abbrev y5f:Nat:=74
noncomputable abbrev y5g:Nat:=75
noncomputable abbrev y6c:Nat:=76
noncomputable abbrev y5h:Nat:=77
noncomputable abbrev y6b:Nat:=78
noncomputable abbrev y5J:Nat:=79
noncomputable abbrev z6D:Nat:=80
noncomputable abbrev z4w:Nat:=81
noncomputable abbrev z4x:Nat:=82
noncomputable abbrev z4u:Nat:=83
noncomputable abbrev z3j:Nat:=84
noncomputable abbrev z3k:Nat:=85
noncomputable abbrev z4v:Nat:=86
noncomputable abbrev z3l:Nat:=87
noncomputable abbrev z6C:Nat:=88
noncomputable abbrev z4s:Nat:=89
noncomputable abbrev z4t:Nat:=90
noncomputable abbrev z4r:Nat:=91
noncomputable abbrev z3i:Nat:=92
noncomputable abbrev z4y:Nat:=93
noncomputable abbrev z3m:Nat:=94
noncomputable abbrev gS:Nat:=95
noncomputable abbrev lD:Nat:=96
noncomputable abbrev z1B:Nat:=97
noncomputable abbrev z0g:Nat:=98
noncomputable abbrev z0c:Nat:=99
noncomputable abbrev z6E:Nat:=100
noncomputable abbrev z6B:Nat:=101
noncomputable abbrev y4F:Nat:=102
noncomputable abbrev y5z:Nat:=103
noncomputable abbrev y5e:Nat:=104
noncomputable abbrev y5A:Nat:=105
noncomputable abbrev y5a:Nat:=106
noncomputable abbrev y4X:Nat:=107
noncomputable abbrev z5M:Nat:=108
noncomputable abbrev z5S:Nat:=109
noncomputable abbrev z5R:Nat:=110
noncomputable abbrev z5T:Nat:=111
noncomputable abbrev z5O:Nat:=112
noncomputable abbrev z5N:Nat:=113
noncomputable abbrev y5b:Nat:=114
noncomputable abbrev y5c:Nat:=115
noncomputable abbrev y4Y:Nat:=116
noncomputable abbrev y4Z:Nat:=117
noncomputable abbrev z1R:Nat:=118
noncomputable abbrev z1Q:Nat:=119
noncomputable abbrev y5l:Nat:=120
noncomputable abbrev y5q:Nat:=121
noncomputable abbrev y5r:Nat:=122
noncomputable abbrev y5s:Nat:=123
noncomputable abbrev y5w:Nat:=124
noncomputable abbrev y5x:Nat:=125
noncomputable abbrev y5p:Nat:=126
noncomputable abbrev y5v:Nat:=127
noncomputable abbrev y5n:Nat:=128
noncomputable abbrev y5u:Nat:=129
noncomputable abbrev y5m:Nat:=130
noncomputable abbrev y5t:Nat:=131
noncomputable abbrev y5o:Nat:=132
noncomputable abbrev y5i:Nat:=133
noncomputable abbrev y5j:Nat:=134
noncomputable abbrev y5k:Nat:=135
noncomputable abbrev z1P:Nat:=136
noncomputable abbrev z0f:Nat:=137
noncomputable abbrev z2F:Nat:=138
noncomputable abbrev z8E:Nat:=139
noncomputable abbrev z8R:Nat:=140
noncomputable abbrev y5N:Nat:=141
noncomputable abbrev y5O:Nat:=142
noncomputable abbrev y5V:Nat:=143
noncomputable abbrev y5Y:Nat:=144
noncomputable abbrev y6a:Nat:=145
noncomputable abbrev y5W:Nat:=146
noncomputable abbrev y5Z:Nat:=147
noncomputable abbrev y5X:Nat:=148
noncomputable abbrev y5Q:Nat:=149
noncomputable abbrev y5U:Nat:=150
noncomputable abbrev y5P:Nat:=151
noncomputable abbrev y5R:Nat:=152
noncomputable abbrev y6d:Nat:=153
noncomputable abbrev y6e:Nat:=154
noncomputable abbrev y4S:Nat:=155
noncomputable abbrev y5E:Nat:=156
noncomputable abbrev y4U:Nat:=157
noncomputable abbrev y5G:Nat:=158
noncomputable abbrev y4T:Nat:=159
noncomputable abbrev y5F:Nat:=160
noncomputable abbrev y4V:Nat:=161
noncomputable abbrev y5y:Nat:=162
noncomputable abbrev y5H:Nat:=163
noncomputable abbrev jK:Nat:=164
noncomputable abbrev y2T:Nat:=165
noncomputable abbrev y2U:Nat:=166
noncomputable abbrev y2R:Nat:=167
noncomputable abbrev y2S:Nat:=168
noncomputable abbrev z8U:Nat:=169
noncomputable abbrev z8T:Nat:=170
noncomputable abbrev z8S:Nat:=171
noncomputable abbrev z3n:Nat:=172
noncomputable abbrev z1e:Nat:=173
end EV
end
section
namespace EV
open PySem L2
noncomputable def scopeOk(N ps:List Str)(sc:Scope):Bool:=
 decide (sc.kind=.function)&&!sc.isCoroutine&&!sc.isGenerator&&decide N.Nodup&&decide (N.take ps.length=ps)&&ps.all (fun x=>decide (sc.names.lookup x=some .local))&&sc.names.all (fun y=>decide (y.2≠.free))
theorem scopeOk.of{N ps:List Str}{sc:Scope}(h:scopeOk N ps sc=true):FnScope N ps sc:=by
 simp only[scopeOk,Bool.and_eq_true,decide_eq_true_eq,Bool.not_eq_true',List.all_eq_true] at h
 obtain⟨⟨⟨⟨⟨⟨h1,h2⟩,h3⟩,h4⟩,h5⟩,h6⟩,h7⟩:=h
 exact⟨h1,h2,h3,h4,h5,fun x hx=>.inl (h6 x hx),h7⟩
theorem y9t:(FT.all fun r=>r.prim.isSome||scopeOk r.N r.ps (aL r.st))=true:=by decide +kernel
theorem y7s:(FT.all fun r=>r.prim.isSome||fU FT r.N (aL r.st) r.body (dP r.st))=true:=by decide +kernel
theorem z7V{p:FR→Bool}(h:FT.all p=true){f:Nat}{r:FR}(e:FT[f]?=some r):p r=true:=List.all_eq_true.mp h r (List.mem_of_getElem? e)
theorem h_sc{f:Nat}{r:FR}(e:FT[f]?=some r)(h:r.prim=none):FnScope r.N r.ps (aL r.st):=by
 have:=z7V y9t e
 rw[h] at this
 exact scopeOk.of this
theorem h_ck{f:Nat}{r:FR}(e:FT[f]?=some r)(h:r.prim=none):fU FT r.N (aL r.st) r.body (dP r.st)=true:=by
 have:=z7V y7s e
 rw[h] at this
 exact this
end EV
end
section
namespace EV
open PySem L2
section
variable{α β:Type}
noncomputable def bU(o:Option U)(f:U→Option α):Option α:=match o with
 |some u=>f u
 |none=>none
noncomputable def bI(o:Option U)(f:Int→Option α):Option α:=match o with
 |some (.int i)=>f i
 |_=>none
noncomputable def bE(o:Option (U×M))(f:U→M→Option α):Option α:=match o with
 |some (u,m)=>f u m
 |none=>none
noncomputable def bJ(o:Option (U×M))(f:Int→M→Option α):Option α:=match o with
 |some (.int i,m)=>f i m
 |_=>none
noncomputable def bB(o:Option Bool)(a b:Option α):Option α:=match o with
 |some true=>a
 |some false=>b
 |none=>none
noncomputable def bO(o:Option α)(f:α→Option β):Option β:=match o with
 |some x=>f x
 |none=>none
noncomputable def wh(b:Bool)(o:Option α):Option α:=match b with
 |true=>o
 |false=>none
noncomputable def whI(lo hi i:Int)(o:Option α):Option α:=if lo≤i∧i<hi then o else none
theorem eX{u:U}{f:U→Option α}:bU (some u) f=f u:=(bU.eq_def _ _).trans rfl
theorem y7f{i:Int}{f:Int→Option α}:bI (some (.int i)) f=f i:=(bI.eq_def _ _).trans rfl
theorem jJ{u:U}{m:M}{f:U→M→Option α}:bE (some (u,m)) f=f u m:=(bE.eq_def _ _).trans rfl
theorem y7g{i:Int}{m:M}{f:Int→M→Option α}:bJ (some (.int i,m)) f=f i m:=(bJ.eq_def _ _).trans rfl
theorem bB_t{a b:Option α}:bB (some true) a b=a:=(bB.eq_def _ _ _).trans rfl
theorem bB_f{a b:Option α}:bB (some false) a b=b:=(bB.eq_def _ _ _).trans rfl
theorem y2D{x:α}{f:α→Option β}:bO (some x) f=f x:=(bO.eq_def _ _).trans rfl
theorem wh_t{o:Option α}:wh true o=o:=(wh.eq_def _ _).trans rfl
theorem y6T{lo hi i:Int}{o:Option α}(h:lo≤i∧i<hi):whI lo hi i o=o:=by unfold whI;rw[if_pos h]
theorem ite_wh{b:Bool}{o:Option α}:(if b=true then o else none)=wh b o:=by cases b <;> rfl
end
section
variable{fn:Fns}{us:Env}{m:M}{kk:Env→M→Option (U×M)}
theorem x2W:evSs fn us m kk .nil=kk us m:=(evSs.eq_def _ _ _ _ _).trans rfl
theorem y7N{s:S}{r:Ss}:evSs fn us m kk (.cons s r)=evS fn us m (fun us' m'=>evSs fn us' m' kk r) s:=(evSs.eq_def _ _ _ _ _).trans rfl
theorem x2Y{i:Nat}{e:E}:evS fn us m kk (.set i e)=wh (decide (i<us.length)&&stay us) (bE (evE fn us m e) fun u m1=>kk (us.set i (some u)) m1):=(evS.eq_def _ _ _ _ _).trans ite_wh
theorem y7P{i:Nat}{p:P}:evS fn us m kk (.setB i p)=wh (decide (i<us.length)) (bU (evP us m p) fun u=>kk (us.set i (some u)) m):=(evS.eq_def _ _ _ _ _).trans (by by_cases h:i<us.length <;> simp[h,wh] <;> rfl)
theorem x2U{f:Nat}{e:E}:evS fn us m kk (.fld f e)=wh (hasCpu us&&stay us) (bE (evE fn us m e) fun u m1=>bO (m1.put f u) fun m2=>kk us m2):=(evS.eq_def _ _ _ _ _).trans (by
 show (if _ then _ else _)=_
 rw[ite_wh]
 congr 1
 cases evE fn us m e with
 |none=>rfl
 |some x=>
  obtain⟨u,m1⟩:=x
  show _=bO (m1.put f u) _
  cases h:m1.put f u <;> simp[h,bO])
theorem x2T{i:Nat}{e:E}:evS fn us m kk (.aug i e)=wh (stay us) (bI (us[i]?).join fun z=>bJ (evE fn us m e) fun j m1=>kk (us.set i (some (.int (z+j)))) m1):=(evS.eq_def _ _ _ _ _).trans (by
 show (if _ then _ else _)=_
 rw[ite_wh]
 congr 1)
theorem l_ex{e:E}:evS fn us m kk (.ex e)=wh (stay us) (bE (evE fn us m e) fun _ m1=>kk us m1):=(evS.eq_def _ _ _ _ _).trans ite_wh
theorem x2X{e:E}:evS fn us m kk (.ret e)=evE fn us m e:=(evS.eq_def _ _ _ _ _).trans rfl
theorem x2V{c:P}{a b:Ss}:evS fn us m kk (.ife c a b)=bU (evP us m c) fun u=>bB (tru u) (evSs fn us m kk a) (evSs fn us m kk b):=(evS.eq_def _ _ _ _ _).trans rfl
theorem l_b0{i j:Nat}:evS fn us m kk (.b0 i j)=wh (hasCpu us&&stay us) (bI (us[i]?).join fun o=>bI (us[j]?).join fun v=>whI 0 65536 o (kk us (m.wr o.toNat v))):=(evS.eq_def _ _ _ _ _).trans (by
 rw[←ite_wh]
 show (if _ then _ else _)=_
 split
 ·cases h1:(us[i]?).join with
  |none=>rfl
  |some u=>cases u <;> first|rfl|(cases h2:(us[j]?).join with
   |none=>rfl
   |some w=>cases w <;> rfl)
 ·rfl)
theorem y7O:evS fn us m kk .pass=kk us m:=(evS.eq_def _ _ _ _ _).trans rfl
theorem e_p{a:P}:evE fn us m (.p a)=bU (evP us m a) fun u=>wh u.stays (some (u,m)):=(evE.eq_def _ _ _ _).trans (by
 show (match evP us m a with
  |some u=>if u.stays=true then some (u,m) else none
  |none=>none)=_
 cases evP us m a with
 |none=>rfl
 |some u=>exact ite_wh)
theorem x2u{op:Bop}{a b:E}:evE fn us m (.bin op a b)=wh (stay us) (bJ (evE fn us m a) fun i m1=>bJ (evE fn us m1 b) fun j m2=>bO (bop op i j) fun z=>some (.int z,m2)):=(evE.eq_def _ _ _ _).trans (by
 show (if _ then _ else _)=_
 rw[ite_wh]
 congr 1
 cases evE fn us m a with
 |none=>rfl
 |some x=>
  obtain⟨u,m1⟩:=x
  cases u <;> first|rfl|(rename_i i;show _=bJ (evE fn us m1 b) _;cases h:evE fn us m1 b with
  |none=>simp[h,bJ]
  |some y=>
   obtain⟨w,m2⟩:=y
   cases w <;> simp[h,bJ]
   rename_i j;cases h2:bop op i j <;> simp[bO]))
theorem x2v{op:Cop}{a b:E}:evE fn us m (.cmp op a b)=wh (stay us) (bJ (evE fn us m a) fun i m1=>bJ (evE fn us m1 b) fun j m2=>some (.bl (cop op i j),m2)):=(evE.eq_def _ _ _ _).trans (by
 show (if _ then _ else _)=_
 rw[ite_wh]
 congr 1)
theorem x2w{a:E}:evE fn us m (.inv a)=bJ (evE fn us m a) fun i m1=>some (.int (Builtin.bitNot i),m1):=(evE.eq_def _ _ _ _).trans rfl
theorem y7A{a b:P}:evE fn us m (.pair a b)=bI (evP us m a) fun i=>bI (evP us m b) fun j=>some (.pair i j,m):=(evE.eq_def _ _ _ _).trans (by
 show (match evP us m a,evP us m b with
  |some (.int i),some (.int j)=>some (U.pair i j,m)
  |_,_=>none)=_
 cases evP us m a with
 |none=>rfl
 |some u=>cases u <;> first|rfl|(cases evP us m b with
  |none=>rfl
  |some w=>cases w <;> rfl))
theorem y7x{f:Nat}{as:Es}:evE fn us m (.call f as)=wh (stay us) (bO (evEs fn us m as) fun x=>fn f x.1 x.2):=(evE.eq_def _ _ _ _).trans (ite_wh.trans (by cases evEs fn us m as <;> rfl))
theorem y7z{f:Nat}{as:Es}:evE fn us m (.meth f as)=wh (hasCpu us&&stay us) (bO (evEs fn us m as) fun x=>fn f (.cpu::x.1) x.2):=(evE.eq_def _ _ _ _).trans (ite_wh.trans (by cases evEs fn us m as <;> rfl))
theorem x2y{a b:E}:evE fn us m (.put a b)=wh (hasCpu us&&stay us) (bJ (evE fn us m a) fun i m1=>bJ (evE fn us m1 b) fun j m2=>whI 0 16777216 i (some (.non,m2.wr i.toNat j))):=(evE.eq_def _ _ _ _).trans (by
 show (if _ then _ else _)=_
 rw[ite_wh]
 congr 1)
theorem x2x:evEs fn us m .nil=some ([],m):=(evEs.eq_def _ _ _ _).trans rfl
theorem y7y{e:E}{r:Es}:evEs fn us m (.cons e r)=bE (evE fn us m e) fun u m1=>wh u.stays (bO (evEs fn us m1 r) fun x=>some (u::x.1,x.2)):=(evEs.eq_def _ _ _ _).trans (by
 show (match evE fn us m e with
  |some (u,m1)=>if u.stays=true then (match evEs fn us m1 r with
   |some (vs,m2)=>some (u::vs,m2)
   |none=>none) else none
  |none=>none)=_
 cases evE fn us m e with
 |none=>rfl
 |some x=>
  obtain⟨u,m1⟩:=x
  show (if u.stays=true then _ else _)=_
  rw[ite_wh]
  show _=wh u.stays _
  congr 1
  cases evEs fn us m1 r <;> rfl)
theorem x3o{i:Nat}:evP us m (.loc i)=(us[i]?).join:=(evP.eq_def _ _ _).trans rfl
theorem x3m{i:Int}:evP us m (.int i)=some (.int i):=(evP.eq_def _ _ _).trans rfl
theorem o_bl{b:Bool}:evP us m (.bl b)=some (.bl b):=(evP.eq_def _ _ _).trans rfl
theorem x3q{i:Int}:evP us m (.neg i)=some (.int (-i)):=(evP.eq_def _ _ _).trans rfl
theorem y7V{i:Int}:evP us m (.glob i)=some (.int i):=(evP.eq_def _ _ _).trans rfl
theorem x3j{f:Nat}:evP us m (.fld f)=wh (hasCpu us) (m.get f):=(evP.eq_def _ _ _).trans ite_wh
theorem x3f{op:Bop}{a b:P}:evP us m (.bin op a b)=bI (evP us m a) fun i=>bI (evP us m b) fun j=>bO (bop op i j) fun z=>some (.int z):=(evP.eq_def _ _ _).trans (by
 show (match evP us m a,evP us m b with
  |some (.int i),some (.int j)=>(bop op i j).map U.int
  |_,_=>none)=_
 cases evP us m a with
 |none=>rfl
 |some u=>cases u <;> first|rfl|(cases evP us m b with
  |none=>rfl
  |some w=>cases w <;> first|rfl|(rename_i i j;show (bop op i j).map U.int=_;cases h:bop op i j <;> simp[bI,bO,h])))
theorem x3n{a:P}:evP us m (.inv a)=bI (evP us m a) fun i=>some (.int (Builtin.bitNot i)):=(evP.eq_def _ _ _).trans rfl
theorem x3h{op:Cop}{a b:P}:evP us m (.cmp op a b)=bI (evP us m a) fun i=>bI (evP us m b) fun j=>some (.bl (cop op i j)):=(evP.eq_def _ _ _).trans (by
 show (match evP us m a,evP us m b with
  |some (.int i),some (.int j)=>some (U.bl (cop op i j))
  |_,_=>none)=_
 cases evP us m a with
 |none=>rfl
 |some u=>cases u <;> first|rfl|(cases evP us m b with
  |none=>rfl
  |some w=>cases w <;> rfl))
theorem o_no{a:P}:evP us m (.no a)=bU (evP us m a) fun u=>bO (tru u) fun b=>some (.bl (!b)):=(evP.eq_def _ _ _).trans (by
 show (match evP us m a with
  |some u=>(tru u).map fun b=>U.bl (!b)
  |none=>none)=_
 cases evP us m a with
 |none=>rfl
 |some u=>show (tru u).map _=_;cases h:tru u <;> simp[bU,bO,h])
theorem x3k{c a b:P}:evP us m (.ife c a b)=bU (evP us m c) fun u=>bB (tru u) (evP us m a) (evP us m b):=(evP.eq_def _ _ _).trans rfl
theorem o_ix{a i:P}:evP us m (.ix a i)=bU (evP us m a) fun u=>bU (evP us m i) fun v=>item m u v:=(evP.eq_def _ _ _).trans (by
 show (match evP us m a,evP us m i with
  |some u,some v=>item m u v
  |_,_=>none)=_
 cases evP us m a with
 |none=>rfl
 |some u=>cases evP us m i <;> rfl)
theorem x3b{r:Env}:hasCpu (some .cpu::r)=true:=(hasCpu.eq_def _).trans rfl
theorem x3c:stay []=true:=(stay.eq_def _).trans rfl
theorem y7S{r:Env}:stay (none::r)=stay r:=(stay.eq_def _).trans rfl
theorem y7U{u:U}{r:Env}:stay (some u::r)=(u.stays&&stay r):=(stay.eq_def _).trans rfl
theorem bX{i:Int}:(U.int i).stays=true:=(U.stays.eq_def _).trans rfl
theorem hU{i:Bool}:(U.bl i).stays=true:=(U.stays.eq_def _).trans rfl
theorem x3d:(U.non).stays=true:=(U.stays.eq_def _).trans rfl
theorem y7T{i j:Int}:(U.pair i j).stays=true:=(U.stays.eq_def _).trans rfl
theorem y7R:(U.cpu).stays=true:=(U.stays.eq_def _).trans rfl
theorem y7Q{b:Nat}:(U.bank b).stays=false:=(U.stays.eq_def _).trans rfl
end
end EV
end
section
namespace SM
open PySem EV Ql49 Q
open PyProof.Rows (bitAnd_m8 bitAnd_m16)
noncomputable abbrev pp(n v m x d i z c:Bool):Int:=((bit n 128+(bit v 64+(bit m 32+(bit x 16+(bit d 8+(bit i 4+(bit z 2+bit c 1)))))):Nat):Int)
noncomputable def aA(m:St):M where
 a:=m.a
 x:=m.x
 y:=m.y
 d:=m.d
 s:=m.s
 pc:=m.pc
 pb:=m.pb
 db:=m.db
 flags:=pp m.fn m.fv m.fm m.fx m.fd m.fi m.fz m.fc
 emu:=m.emu
 waits:=m.waits
 stopped:=m.stopped
 nmi:=m.nmi
 irq:=m.irq
 why:=m.why
 mem:=fun j=>(m.mem j:Int)
theorem y9r(a b:Nat):(a:Int)+b=((a+b:Nat):Int):=by omega
theorem y7l(a:Nat):(a:Int)+1=((a+1:Nat):Int):=by omega
theorem y7m(a:Nat):(a:Int)+2=((a+2:Nat):Int):=by omega
theorem z8s(a:Nat):(256:Int)+a=((256+a:Nat):Int):=by omega
theorem y7n(a:Nat):Builtin.bitAnd (a:Int) 255=((a % 256:Nat):Int):=by rw[bitAnd_m8];omega
theorem y2G(a:Nat):Builtin.bitAnd (a:Int) 65535=((a % 65536:Nat):Int):=by rw[bitAnd_m16];omega
theorem y7r(a:Nat):Builtin.bitAnd ((a:Int) - 1) 255=(((a+255) % 256:Nat):Int):=by rw[bitAnd_m8];omega
theorem y2I(a:Nat):Builtin.bitAnd ((a:Int) - 1) 65535=(((a+65535) % 65536:Nat):Int):=by rw[bitAnd_m16];omega
theorem lU{a:Nat}(h:a<65536):bop .shl (a:Int) 8=some ((a * 256:Nat):Int):=by
 show (if (0:Int)≤8∧(8:Int)≤1000000∧(a:Int).natAbs<2 ^ 64 then some ((a:Int) * 2 ^ (8:Int).toNat) else none)=_
 rw[if_pos ⟨by decide,by decide,by omega⟩]
 show some ((a:Int) * 256)=_
 congr 1
theorem fG{a:Nat}(h:a<65536):bop .shl (a:Int) 16=some ((a * 65536:Nat):Int):=by
 show (if (0:Int)≤16∧(16:Int)≤1000000∧(a:Int).natAbs<2 ^ 64 then some ((a:Int) * 2 ^ (16:Int).toNat) else none)=_
 rw[if_pos ⟨by decide,by decide,by omega⟩]
 show some ((a:Int) * 65536)=_
 congr 1
theorem z8x(a:Nat):bop .shr (a:Int) 8=some ((a / 256:Nat):Int):=by
 show some ((a:Int) / 256)=_
 congr 1
theorem z5J(a:Nat):bop .shr (a:Int) 16=some ((a / 65536:Nat):Int):=by
 show some ((a:Int) / 65536)=_
 congr 1
theorem y9k(i j:Int):bop .add i j=some (i+j):=Eq.trans rfl rfl
theorem y9n(i j:Int):bop .sub i j=some (i - j):=Eq.trans rfl rfl
theorem y9l(i j:Int):bop .and i j=some (Builtin.bitAnd i j):=Eq.trans rfl rfl
theorem b_or(i j:Int):bop .or i j=some (Builtin.bitOr i j):=Eq.trans rfl rfl
theorem y9o(i j:Int):bop .xor i j=some (Builtin.bitXor i j):=Eq.trans rfl rfl
theorem iK{b:Nat}{z:M}(h:b<256):item z .banks (.int (b:Int))=some (.bank b):=by
 show (if 0≤(b:Int)∧(b:Int)<256 then some (U.bank (b:Int).toNat) else none)=_
 rw[if_pos ⟨by omega,by omega⟩];rfl
theorem z9b{z:M}:item z .banks (.int 0)=some (.bank 0):=Eq.trans rfl rfl
theorem fJ{b o:Nat}{z:M}(h:o<65536):item z (.bank b) (.int (o:Int))=some (.int (z.mem (b * 65536+o))):=by
 show (if 0≤(o:Int)∧(o:Int)<65536 then some (U.int (z.mem (b * 65536+(o:Int).toNat))) else none)=_
 rw[if_pos ⟨by omega,by omega⟩];rfl
theorem y2X{i j:Int}{z:M}:item z (.pair i j) (.int 0)=some (.int i):=Eq.trans rfl rfl
theorem y2Y{i j:Int}{z:M}:item z (.pair i j) (.int 1)=some (.int j):=Eq.trans rfl rfl
theorem dY(a:Nat):a % 65536<65536:=Nat.mod_lt _ (by decide)
theorem lt8(a:Nat):a % 256<65536:=by omega
theorem f_n:∀ n v m x d i z c:Bool,Builtin.bitAnd (pp n v m x d i z c) 128=((bit n 128:Nat):Int):=by decide +kernel
theorem f_v:∀ n v m x d i z c:Bool,Builtin.bitAnd (pp n v m x d i z c) 64=((bit v 64:Nat):Int):=by decide +kernel
theorem f_m:∀ n v m x d i z c:Bool,Builtin.bitAnd (pp n v m x d i z c) 32=((bit m 32:Nat):Int):=by decide +kernel
theorem f_x:∀ n v m x d i z c:Bool,Builtin.bitAnd (pp n v m x d i z c) 16=((bit x 16:Nat):Int):=by decide +kernel
theorem f_d:∀ n v m x d i z c:Bool,Builtin.bitAnd (pp n v m x d i z c) 8=((bit d 8:Nat):Int):=by decide +kernel
theorem f_i:∀ n v m x d i z c:Bool,Builtin.bitAnd (pp n v m x d i z c) 4=((bit i 4:Nat):Int):=by decide +kernel
theorem f_z:∀ n v m x d i z c:Bool,Builtin.bitAnd (pp n v m x d i z c) 2=((bit z 2:Nat):Int):=by decide +kernel
theorem f_c:∀ n v m x d i z c:Bool,Builtin.bitAnd (pp n v m x d i z c) 1=((bit c 1:Nat):Int):=by decide +kernel
theorem qC:∀ n v m x d i z c n' z':Bool,Builtin.bitOr (Builtin.bitOr (Builtin.bitAnd (pp n v m x d i z c) 125) ((bit n' 128:Nat):Int)) ((bit z' 2:Nat):Int)=pp n' v m x d i z' c:=by decide +kernel
theorem wV{a:Nat}(h:a<256):Builtin.bitAnd (a:Int) 128=((bit (decide (128≤a)) 128:Nat):Int):=by
 have:∀ a:Fin 256,Builtin.bitAnd ((a:Nat):Int) 128=((bit (decide (128≤(a:Nat))) 128:Nat):Int):=by decide +kernel
 exact this ⟨a,h⟩
section
variable{z:M}{i:Int}{b:Bool}
theorem g0:z.get 0=some .mem:=Eq.trans rfl rfl
theorem g1:z.get 1=some .banks:=Eq.trans rfl rfl
theorem g2:z.get 2=some (.int z.a):=Eq.trans rfl rfl
theorem g3:z.get 3=some (.int z.x):=Eq.trans rfl rfl
theorem g4:z.get 4=some (.int z.y):=Eq.trans rfl rfl
theorem g5:z.get 5=some (.int z.d):=Eq.trans rfl rfl
theorem g6:z.get 6=some (.int z.s):=Eq.trans rfl rfl
theorem g7:z.get 7=some (.int z.pc):=Eq.trans rfl rfl
theorem g8:z.get 8=some (.int z.pb):=Eq.trans rfl rfl
theorem g9:z.get 9=some (.int z.db):=Eq.trans rfl rfl
theorem g10:z.get 10=some (.int z.flags):=Eq.trans rfl rfl
theorem g11:z.get 11=some (.bl z.emu):=Eq.trans rfl rfl
theorem p2:z.put 2 (.int i)=some { z with a:=i }:=Eq.trans rfl rfl
theorem p3:z.put 3 (.int i)=some { z with x:=i }:=Eq.trans rfl rfl
theorem p4:z.put 4 (.int i)=some { z with y:=i }:=Eq.trans rfl rfl
theorem p5:z.put 5 (.int i)=some { z with d:=i }:=Eq.trans rfl rfl
theorem p6:z.put 6 (.int i)=some { z with s:=i }:=Eq.trans rfl rfl
theorem p7:z.put 7 (.int i)=some { z with pc:=i }:=Eq.trans rfl rfl
end
section
variable{m:St}{i:Nat}{b:Bool}
theorem s2:(aA m).put 2 (.int (i:Int))=some (aA { m with a:=i }):=Eq.trans rfl rfl
theorem s3:(aA m).put 3 (.int (i:Int))=some (aA { m with x:=i }):=Eq.trans rfl rfl
theorem s4:(aA m).put 4 (.int (i:Int))=some (aA { m with y:=i }):=Eq.trans rfl rfl
theorem s5:(aA m).put 5 (.int (i:Int))=some (aA { m with d:=i }):=Eq.trans rfl rfl
theorem s6:(aA m).put 6 (.int (i:Int))=some (aA { m with s:=i }):=Eq.trans rfl rfl
theorem s7:(aA m).put 7 (.int (i:Int))=some (aA { m with pc:=i }):=Eq.trans rfl rfl
theorem s8:(aA m).put 8 (.int (i:Int))=some (aA { m with pb:=i }):=Eq.trans rfl rfl
theorem s9:(aA m).put 9 (.int (i:Int))=some (aA { m with db:=i }):=Eq.trans rfl rfl
theorem s50:(aA m).put 5 (.int 0)=some (aA { m with d:=0 }):=Eq.trans rfl rfl
theorem s80:(aA m).put 8 (.int 0)=some (aA { m with pb:=0 }):=Eq.trans rfl rfl
theorem s90:(aA m).put 9 (.int 0)=some (aA { m with db:=0 }):=Eq.trans rfl rfl
theorem s10{n v mm x d i z c:Bool}:(aA m).put 10 (.int (pp n v mm x d i z c))=some (aA { m with fn:=n,fv:=v,fm:=mm,fx:=x,fd:=d,fi:=i,fz:=z,fc:=c }):=Eq.trans rfl rfl
theorem s11:(aA m).put 11 (.bl b)=some (aA { m with emu:=b }):=Eq.trans rfl rfl
theorem s12:(aA m).put 12 (.bl b)=some (aA { m with waits:=b }):=Eq.trans rfl rfl
theorem s13:(aA m).put 13 (.bl b)=some (aA { m with stopped:=b }):=Eq.trans rfl rfl
theorem s14:(aA m).put 14 (.bl b)=some (aA { m with nmi:=b }):=Eq.trans rfl rfl
theorem s15:(aA m).put 15 (.bl b)=some (aA { m with irq:=b }):=Eq.trans rfl rfl
theorem t2:(aA m).a=m.a:=Eq.trans rfl rfl
theorem t3:(aA m).x=m.x:=Eq.trans rfl rfl
theorem t4:(aA m).y=m.y:=Eq.trans rfl rfl
theorem t5:(aA m).d=m.d:=Eq.trans rfl rfl
theorem t6:(aA m).s=m.s:=Eq.trans rfl rfl
theorem t7:(aA m).pc=m.pc:=Eq.trans rfl rfl
theorem t8:(aA m).pb=m.pb:=Eq.trans rfl rfl
theorem t9:(aA m).db=m.db:=Eq.trans rfl rfl
theorem t10:(aA m).flags=pp m.fn m.fv m.fm m.fx m.fd m.fi m.fz m.fc:=Eq.trans rfl rfl
theorem t11:(aA m).emu=m.emu:=Eq.trans rfl rfl
theorem tm{j:Nat}:(aA m).mem j=(m.mem j:Int):=Eq.trans rfl rfl
theorem tw{at_ v:Nat}(h:at_<16777216)(hv:v<256):(aA m).wr at_ (v:Int)=aA (m.wr at_ v):=by
 have e:(fun j=>if j=at_ then (v:Int) else (m.mem j:Int))=fun j=>((if j=at_ % ALL then v % 256 else m.mem j:Nat):Int):=by
  funext j
  rw[Nat.mod_eq_of_lt (show at_<ALL from h),Nat.mod_eq_of_lt hv]
  split <;> rfl
 unfold M.wr aA St.wr
 rw[←e]
end
theorem r_bit{b:Bool}{n:Nat}:tru (.int ((bit b (n+1):Nat):Int))=some b:=by cases b <;> rfl
theorem q128{b:Bool}:tru (.int ((bit b 128:Nat):Int))=some b:=r_bit
theorem q64{b:Bool}:tru (.int ((bit b 64:Nat):Int))=some b:=r_bit
theorem q32{b:Bool}:tru (.int ((bit b 32:Nat):Int))=some b:=r_bit
theorem q16{b:Bool}:tru (.int ((bit b 16:Nat):Int))=some b:=r_bit
theorem q8{b:Bool}:tru (.int ((bit b 8:Nat):Int))=some b:=r_bit
theorem q4{b:Bool}:tru (.int ((bit b 4:Nat):Int))=some b:=r_bit
theorem q2{b:Bool}:tru (.int ((bit b 2:Nat):Int))=some b:=r_bit
theorem q1{b:Bool}:tru (.int ((bit b 1:Nat):Int))=some b:=r_bit
theorem qb{b:Bool}:tru (.bl b)=some b:=Eq.trans rfl rfl
local macro_rules|`(tactic|simp_arith only[$ts,*])=>do
 let s:=("Bool.false_eq_true if_false x2W y7N x2Y y7P x2U x2T l_ex x2X x2V l_b0 y7O e_p x2u x2v x2w y7A y7x y7z x2y x2x y7y x3o x3m o_bl x3q y7V x3j x3f x3n x3h o_no x3k o_ix x3b x3c y7S y7U bX hU x3d y7T y7R y7Q eX y7f jJ y7g bB_t bB_f y2D wh_t Bool.and_true Bool.and_self Bool.true_and if_true ite_true List.getElem?_cons_zero List.getElem?_cons_succ Option.join_some List.set_cons_zero List.set_cons_succ List.length_cons List.length_nil Option.map_some Nat.reduceAdd Nat.reduceLT decide_true g0 g1 g2 g3 g4 g5 g6 g7 g8 g9 g10 g11 y9k y9n y9l b_or y9o z9b y2X y2Y s2 s3 s4 s5 s6 s7 s8 s9 s50 s80 s90 s10 s11 s12 s13 s14 s15 t2 t3 t4 t5 t6 t7 t8 t9 t10 t11 tm q128 q64 q32 q16 q8 q4 q2 q1 qb f_n f_v f_m f_x f_d f_i f_z f_c y9r y7l y7m z8s y7n y2G y7r y2I z8x z5J".splitOn " ").toArray.map fun s=>Lean.mkIdent s.toName
 `(tactic|simp only[$ts,*,↓reduceIte,$[$s:ident],*])
variable{m:St}{k:Nat}
theorem lM(h:Ok m)(j:Nat):m.code j=m.mem (m.pb * 65536+(m.pc+j) % 65536):=by
 have:=h.pb
 unfold St.code St.rd ALL W
 congr 1
 omega
theorem mQ(h:Ok m)(j:Nat):m.mem j<65536:=Nat.lt_of_lt_of_le (h.mem j) (by decide)
theorem cK(h:Ok m):evF FT (k+1) z1b [.cpu] (aA m)=some (.int (m.code 0),aA (m.skip 1)):=by
 rw[z1w,qZ]
 simp_arith only[iK h.pb,fJ h.pc,lM h,Nat.add_zero,Nat.mod_eq_of_lt h.pc]
 rfl
theorem eS(h:Ok m):evF FT (k+1) z1d [.cpu] (aA m)=some (.int m.code2,aA (m.skip 2)):=by
 rw[z1y,rB]
 simp_arith only[iK h.pb,fJ h.pc,fJ (dY _),lU (mQ h _),St.code2,lM h,Nat.add_zero,Nat.mod_eq_of_lt h.pc,Nat.mul_comm 256]
 rfl
theorem nW(m:St)(i j:Nat):(m.skip i).skip j=m.skip (i+j):=by
 unfold St.skip W
 congr 1
 show ((m.pc+i) % 65536+j) % 65536=(m.pc+(i+j)) % 65536
 omega
theorem z2k(m:St)(i j:Nat):(m.skip i).code j=m.code (i+j):=by
 unfold St.code St.skip W St.rd
 show m.mem ((m.pb * 65536+((m.pc+i) % 65536+j) % 65536) % ALL)=m.mem ((m.pb * 65536+(m.pc+(i+j)) % 65536) % ALL)
 congr 2
 omega
theorem z2j(h:Ok m)(j:Nat):m.code j<65536:=Nat.lt_of_lt_of_le (gG h.mem j) (by decide)
theorem nQ(h:Ok m):evF FT (k+2) z1c [.cpu] (aA m)=some (.int m.code3,aA (m.skip 3)):=by
 rw[z1x,rA]
 simp_arith only[eS h,cK (ok_skip h 2),fG (z2j h _),z2k,nW,St.code3,Nat.mul_comm 65536]
theorem iH{a:Nat}(h:a<16777216):m.rd a=m.mem a:=by unfold St.rd;rw[Nat.mod_eq_of_lt (show a<ALL from h)]
theorem y0b(a:Nat):m.rd2 (zero a)=m.mem (a % 65536)+m.mem ((a+1) % 65536) * 256:=by
 have e:((a % 65536)+1) % 65536=(a+1) % 65536:=by omega
 show m.mem ((a % 65536) % 16777216)+256 * m.mem (((a % 65536+1) % 65536) % 16777216)=_
 rw[e,Nat.mod_eq_of_lt (show a % 65536<16777216 by omega),Nat.mod_eq_of_lt (show (a+1) % 65536<16777216 by omega),Nat.mul_comm]
theorem y0c(a:Nat):m.rd3 (zero a)=m.rd2 (zero a)+m.mem ((a+2) % 65536) * 65536:=by
 have e:(((a % 65536)+1) % 65536+1) % 65536=(a+2) % 65536:=by omega
 show m.rd2 (zero a)+65536 * m.mem ((((a % 65536+1) % 65536+1) % 65536) % 16777216)=_
 rw[e,Nat.mod_eq_of_lt (show (a+2) % 65536<16777216 by omega),Nat.mul_comm]
theorem hZ(h:Ok m)(a:Nat):evF FT (k+1) qQ [.cpu,.int a] (aA m)=some (.int (m.rd2 (zero a)),aA m):=by
 rw[z0F,qP]
 simp_arith only[fJ (dY _),lU (mQ h _),y0b,Nat.zero_mul,Nat.zero_add]
theorem rS(h:Ok m)(a:Nat):evF FT (k+2) z0A [.cpu,.int a] (aA m)=some (.int (m.rd3 (zero a)),aA m):=by
 rw[z0E,qO]
 simp_arith only[hZ h,fJ (dY _),fG (mQ h _),y0c,Nat.zero_mul,Nat.zero_add]
theorem mC(h:Ok m)(s:Nat):({ m with s:=s }).tidy={ m with s:=if m.emu=true then 256+s % 256 else s }:=by
 obtain⟨ha,hx,hy,hd,hs,hpc,hpb,hdb,hm,hnx,hem⟩:=h
 obtain⟨a,x,y,d,s0,pc,pb,db,fn,fv,fm,fx,fd,fi,fz,fc,emu,waits,stopped,nmi,irq,mem,why⟩:=m
 simp only at hx hy hnx hem
 unfold St.tidy
 cases emu with
 |true=>
  obtain⟨rfl,rfl,_⟩:=hem rfl
  obtain⟨h1,h2⟩:=hnx rfl
  simp[Nat.mod_eq_of_lt h1,Nat.mod_eq_of_lt h2]
 |false=>
  cases fx with
  |true=>
   obtain⟨h1,h2⟩:=hnx rfl
   simp[Nat.mod_eq_of_lt h1,Nat.mod_eq_of_lt h2]
  |false=>simp
theorem dX:W=65536:=rfl
theorem oR(h:Ok m)(v:Nat):m.push v={ m.wr m.s v with s:=if m.emu=true then 256+(m.s+255) % 256 else (m.s+65535) % 65536 }:=by
 have e:m.s % W=m.s:=Nat.mod_eq_of_lt h.s
 have e2:(m.s+65535) % 65536 % 256=(m.s+255) % 256:=by omega
 unfold St.push
 rw[e,mC (mW h _ _),dX,e2]
 rfl
theorem x2Z{α:Type}{x:Option α}{o:Nat}(h:o<65536):whI 0 65536 (o:Int) x=x:=y6T ⟨by omega,by omega⟩
theorem wU{α:Type}{x:Option α}{o:Nat}(h:o<16777216):whI 0 16777216 (o:Int) x=x:=y6T ⟨by omega,by omega⟩
theorem to_n(o:Nat):(o:Int).toNat=o:=Eq.trans rfl rfl
theorem fZ(h:Ok m){v:Nat}(hv:v<256):evF FT (k+1) z0Z [.cpu,.int v] (aA m)=some (.non,aA (m.push v)):=by
 rw[z1t,qW,oR h]
 have hs:=h.s
 have e1:(m.wr m.s v).emu=m.emu:=rfl
 cases e:m.emu <;> simp_arith only[x2Z hs,to_n,tw (show m.s<16777216 by omega) hv,e,e1]
theorem kJ(v:Nat):m.push (v % 256)=m.push v:=by
 unfold St.push St.wr
 rw[Nat.mod_mod]
theorem iC(h:Ok m){v:Nat}(hv:v<65536):evF FT (k+2) z1a [.cpu,.int v] (aA m)=some (.non,aA (m.push2 v)):=by
 rw[z1u,qX]
 simp_arith only[fZ h (show v / 256<256 by omega),fZ (dI h (v / 256)) (show v % 256<256 by omega),kJ,St.push2]
theorem oU(h:Ok m)(v:Nat):evF FT (k+1) z0O [.cpu,.int v] (aA m)=some (.non,aA ({ m with s:=v % 65536 }).tidy):=by
 have e2:v % 65536 % 256=v % 256:=by omega
 rw[z0S,nM,mC h,e2]
 cases e:m.emu <;> simp_arith only[e]
theorem z9u(h:Ok m):Ok ({ m with s:=(m.s+1) % 65536 }).tidy:=by
 have h0:Ok0 ({ m with s:=(m.s+1) % 65536 }):=⟨h.a,h.x,h.y,h.d,dY _,h.pc,h.pb,h.db,h.mem⟩
 exact eN h0
theorem lR(h:Ok m):m.pull=((({ m with s:=(m.s+1) % 65536 }).tidy).mem (({ m with s:=(m.s+1) % 65536 }).tidy).s,({ m with s:=(m.s+1) % 65536 }).tidy):=by
 have h2:=z9u h
 have h3:=h2.s
 unfold St.pull
 rw[dX]
 show (St.rd _ _,_)=_
 rw[iH (by omega)]
theorem gR(h:Ok m):evF FT (k+2) z0X [.cpu] (aA m)=some (.int m.pull.1,aA m.pull.2):=by
 have h2:=z9u h
 rw[z1r,qU,lR h]
 simp_arith only[oU h,fJ h2.s,Nat.zero_mul,Nat.zero_add]
theorem pull_lt(h:Ok m):m.pull.1<256:=by rw[lR h];exact(z9u h).mem _
theorem z6T(h:Ok m):m.pull.1<65536:=Nat.lt_of_lt_of_le (pull_lt h) (by decide)
theorem kD(h:Ok m):evF FT (k+3) z0Y [.cpu] (aA m)=some (.int m.pull2.1,aA m.pull2.2):=by
 rw[z1s,qV]
 simp_arith only[gR h,gR (cJ h),lU (z6T (cJ h)),St.pull2,Nat.mul_comm 256]
theorem pull2_lt(h:Ok m):m.pull2.1<65536:=by
 have h1:=pull_lt h
 have h2:=pull_lt (cJ h)
 show m.pull.1+256 * m.pull.2.pull.1<65536
 omega
variable{m:St}{k:Nat}
theorem y0R(v:Nat):evF FT (k+1) z0O [.cpu,.int v] (aA m)=some (.non,aA { m with s:=if m.emu=true then 256+v % 256 else v % 65536 }):=by
 rw[z0S,nM]
 cases e:m.emu <;> simp_arith only[e]
noncomputable def fl(m:St)(n v mm x d i z c:Bool):St:={ m with fn:=n,fv:=v,fm:=mm||m.emu,fx:=x||m.emu,fd:=d,fi:=i,fz:=z,fc:=c,x:=if (x||m.emu)=true then m.x % 256 else m.x,y:=if (x||m.emu)=true then m.y % 256 else m.y }
theorem f_48:∀ n v m x d i z c:Bool,Builtin.bitOr (Builtin.bitOr (pp n v m x d i z c) 32) 16=pp n v true true d i z c:=by decide +kernel
theorem z0V{n v mm x d i z c:Bool}:evF FT (k+1) z0b [.cpu,.int (pp n v mm x d i z c)] (aA m)=some (.non,aA (fl m n v mm x d i z c)):=by
 rw[z1v,qY]
 unfold fl
 cases e:m.emu <;> cases x <;> simp_arith only[e,f_48,Bool.or_true,Bool.or_false]
theorem y3s{p:Nat}(h:p<256):(p:Int)=pp (p.testBit 7) (p.testBit 6) (p.testBit 5) (p.testBit 4) (p.testBit 3) (p.testBit 2) (p.testBit 1) (p.testBit 0):=by
 have:∀ p:Fin 256,((p:Nat):Int)=pp ((p:Nat).testBit 7) ((p:Nat).testBit 6) ((p:Nat).testBit 5) ((p:Nat).testBit 4) ((p:Nat).testBit 3) ((p:Nat).testBit 2) ((p:Nat).testBit 1) ((p:Nat).testBit 0):=by decide +kernel
 exact this ⟨p,h⟩
theorem z3o(h:Ok m)(p:Nat):m.flags p=fl m (p.testBit 7) (p.testBit 6) (p.testBit 5) (p.testBit 4) (p.testBit 3) (p.testBit 2) (p.testBit 1) (p.testBit 0):=by
 unfold St.flags St.tidy fl
 generalize p.testBit 7=b7
 generalize p.testBit 6=b6
 generalize p.testBit 5=b5
 generalize p.testBit 4=b4
 generalize p.testBit 3=b3
 generalize p.testBit 2=b2
 generalize p.testBit 1=b1
 generalize p.testBit 0=b0
 cases e:m.emu with
 |true=>
  obtain⟨_,_,h1,h2⟩:=h.em e
  have e2:256+m.s % 256=m.s:=by omega
  simp[e,e2]
 |false=>cases b4 <;> simp[e]
theorem kB(h:Ok m){p:Nat}(hp:p<256):evF FT (k+1) z0b [.cpu,.int p] (aA m)=some (.non,aA (m.flags p)):=by
 rw[y3s hp,z0V,z3o h]
theorem rE(h:Ok m)(b:Bool):evF FT (k+2) z0l [.cpu,.bl b] (aA m)=some (.non,aA ({ m with emu:=b }).tidy):=by
 rw[z0q,qL]
 simp_arith only[z0V,y0R]
 have hs:=h.s
 congr 3
 unfold fl St.tidy
 cases b with
 |true=>simp
 |false=>
  have e2:m.s % 65536=m.s:=Nat.mod_eq_of_lt hs
  cases e:m.fx <;> simp[e,e2]
theorem z8Q:∀ n v m x d i z c:Bool,Builtin.bitAnd (Builtin.bitOr (pp n v m x d i z c) 4) (Builtin.bitNot 8)=pp n v m x false true z c:=by decide +kernel
theorem y9i(h:Ok m)(z:Int)(a:Nat)(e:z=(a:Int)):evF FT (k+1) qQ [.cpu,.int z] (aA m)=some (.int (m.rd2 (zero a)),aA m):=by
 subst e
 exact hZ h a
theorem y0d(m:St):m.reset={ ({ m with emu:=true }).tidy with d:=0,db:=0,pb:=0,fi:=true,fd:=false,waits:=false,stopped:=false,nmi:=false,pc:=(({ m with emu:=true }).tidy).rd2 (zero 65532) }:=by
 unfold St.reset St.tidy
 simp only[if_true]
 rfl
theorem y4z(h:Ok m):evF FT (k+3) z3a [.cpu] (aA m)=some (.non,aA m.reset):=by
 have h2:Ok ({ m with emu:=true }).tidy:=by
  have h0:Ok0 ({ m with emu:=true }):=⟨h.a,h.x,h.y,h.d,h.s,h.pc,h.pb,h.db,h.mem⟩
  exact eN h0
 rw[z4a,rZ,y0d]
 simp_arith only[rE h,z8Q]
 generalize ({ m with emu:=true }).tidy=t at h2
 have h3:Ok { t with d:=0,db:=0,pb:=0,fi:=true,fd:=false,waits:=false,stopped:=false,nmi:=false }:=⟨h2.a,h2.x,h2.y,by show 0<65536;decide,h2.s,h2.pc,by show 0<256;decide,by show 0<256;decide,h2.mem,h2.nx,h2.em⟩
 simp_arith only[y9i h3 65532 65532 rfl]
 rfl
theorem x7F(h:Ok m)(j:Nat):evF FT (k+4) lF [.cpu,.int j] (aA m)=some (if j=0 then (.bl true,aA m.reset) else if j=1 then (.bl true,aA { m with nmi:=true }) else if j=2 then (.bl true,aA { m with irq:=true }) else if j=3 then (.bl true,aA { m with irq:=false }) else (.bl false,aA m)):=by
 rw[z7s,tI]
 have et:∀ c:Nat,j=c→cop .eq (j:Int) (c:Int)=true:=fun c e=>by subst e;exact decide_eq_true rfl
 have ef:∀ c:Nat,¬ j=c→cop .eq (j:Int) (c:Int)=false:=fun c e=>decide_eq_false (by omega)
 by_cases h0:j=0
 ·have c0:cop .eq (j:Int) 0=true:=et 0 h0
  rw[if_pos h0]
  simp_arith only[c0,y4z h]
 ·have c0:cop .eq (j:Int) 0=false:=ef 0 h0
  rw[if_neg h0]
  by_cases h1:j=1
  ·have c1:cop .eq (j:Int) 1=true:=et 1 h1
   rw[if_pos h1]
   simp_arith only[c0,c1]
  ·have c1:cop .eq (j:Int) 1=false:=ef 1 h1
   rw[if_neg h1]
   by_cases h2:j=2
   ·have c2:cop .eq (j:Int) 2=true:=et 2 h2
    rw[if_pos h2]
    simp_arith only[c0,c1,c2]
   ·have c2:cop .eq (j:Int) 2=false:=ef 2 h2
    rw[if_neg h2]
    by_cases h3:j=3
    ·have c3:cop .eq (j:Int) 3=true:=et 3 h3
     rw[if_pos h3]
     simp_arith only[c0,c1,c2,c3]
    ·have c3:cop .eq (j:Int) 3=false:=ef 3 h3
     rw[if_neg h3]
     simp_arith only[c0,c1,c2,c3]
theorem z9n{a:Nat}(h:a<65536):Builtin.bitAnd ((a / 256:Nat):Int) 128=((bit (decide (32768≤a)) 128:Nat):Int):=by
 rw[wV (show a / 256<256 by omega)]
 have e:decide (128≤a / 256)=decide (32768≤a):=decide_eq_decide.mpr (by omega)
 rw[e]
theorem mZ(a:Nat):tru (.int (a:Int))=some (!(a==0)):=by
 show some ((a:Int) != 0)=_
 congr 1
 cases a with
 |zero=>rfl
 |succ n=>rfl
theorem oW(a:Nat):bB (tru (.int (a:Int))) (some (U.int 0)) (some (U.int 2))=some (.int ((bit (a==0) 2:Nat):Int)):=by
 rw[mZ]
 cases e:(a==0) <;> simp only[Bool.not_true,Bool.not_false,bB_t,bB_f] <;> rfl
theorem z6b{m:St}{a:Nat}(h:a<256):m.nz false a={ m with fn:=decide (128≤a),fz:=a==0 }:=by
 unfold St.nz Ql49.top span
 simp only[Bool.false_eq_true,if_false,Nat.mod_eq_of_lt h]
theorem z6c{m:St}{a:Nat}(h:a<65536):m.nz true a={ m with fn:=decide (32768≤a),fz:=a==0 }:=by
 unfold St.nz Ql49.top span
 simp only[if_true,Nat.mod_eq_of_lt h]
theorem z0U{a:Nat}(h:a<256):evF FT (k+1) z3g [.cpu,.int a] (aA m)=some (.non,aA (m.nz false a)):=by
 rw[z4d,sC,z6b h]
 simp_arith only[oW,wV h,qC]
theorem nP{a:Nat}(h:a<65536):evF FT (k+1) z3h [.cpu,.int a] (aA m)=some (.non,aA (m.nz true a)):=by
 rw[z4e,sD,z6c h]
 simp_arith only[oW,z9n h,qC]
theorem f_c1:∀ n v m x d i z c:Bool,Builtin.bitOr (pp n v m x d i z c) 1=pp n v m x d i z true:=by decide +kernel
theorem f_c0:∀ n v m x d i z c:Bool,Builtin.bitAnd (pp n v m x d i z c) (Builtin.bitNot 1)=pp n v m x d i z false:=by decide +kernel
theorem lC{u:U}{b:Bool}(h:tru u=some b):evF FT (k+1) z2G [.cpu,u] (aA m)=some (.non,aA { m with fc:=b }):=by
 rw[z2N,rX]
 cases b <;> cases u <;> simp_arith only[h,f_c1,f_c0] <;> first|rfl|cases h
noncomputable def cut(w:Bool)(z:Int):Nat:=if w=true then (z % 65536).toNat else (z % 256).toNat
theorem y2H(z:Int):Builtin.bitAnd z 255=((cut false z:Nat):Int):=by
 rw[PyProof.Rows.bitAnd_m8]
 show _=(((z % 256).toNat:Nat):Int)
 have:=Int.emod_nonneg z (show (256:Int)≠0 by decide)
 omega
theorem z8t(z:Int):Builtin.bitAnd z 65535=((cut true z:Nat):Int):=by
 rw[PyProof.Rows.bitAnd_m16]
 show _=(((z % 65536).toNat:Nat):Int)
 have:=Int.emod_nonneg z (show (65536:Int)≠0 by decide)
 omega
theorem lN(z:Int):cut false z<256:=by
 show (z % 256).toNat<256
 have:=Int.emod_nonneg z (show (256:Int)≠0 by decide)
 have:=Int.emod_lt_of_pos z (show (0:Int)<256 by decide)
 omega
theorem oA(z:Int):cut true z<65536:=by
 show (z % 65536).toNat<65536
 have:=Int.emod_nonneg z (show (65536:Int)≠0 by decide)
 have:=Int.emod_lt_of_pos z (show (0:Int)<65536 by decide)
 omega
theorem lT{z:Int}{u:U}{w:Bool}(h:tru u=some (!w))(hu:u.stays=true):evF FT (k+1) oM [.cpu,.int z,u] (aA m)=some (.int (cut w z),aA (m.nz w (cut w z))):=by
 rw[y4e,vP]
 cases w with
 |true=>
  rw[z6c (oA z)]
  simp_arith only[h,hu,Bool.not_true,z8t,oW,z9n (oA z),qC]
 |false=>
  rw[z6b (lN z)]
  simp_arith only[h,hu,Bool.not_false,y2H,oW,wV (lN z),qC]
variable{m:St}{k:Nat}
theorem y7c{a:Nat}(h:a<65536):a&&&65280=a / 256 * 256:=by
 apply Nat.eq_of_testBit_eq
 intro j
 have e1:a.testBit j=(2 ^ 8 * (a / 256)+a % 256).testBit j:=by congr 1;omega
 have e2:(65280:Nat).testBit j=(2 ^ 8 * 255+0).testBit j:=rfl
 have e3:(a / 256 * 256).testBit j=(2 ^ 8 * (a / 256)+0).testBit j:=by congr 1;omega
 rw[Nat.testBit_and,e1,e2,e3,Nat.testBit_two_pow_mul_add _ (show a % 256<2 ^ 8 by omega),Nat.testBit_two_pow_mul_add _ (show 0<2 ^ 8 by decide),Nat.testBit_two_pow_mul_add _ (show 0<2 ^ 8 by decide)]
 split
 ·simp
 ·rename_i hj
  by_cases h8:j - 8<8
  ·have:(255:Nat).testBit (j - 8)=true:=by
    have:∀ i:Fin 8,(255:Nat).testBit i=true:=by decide
    exact this ⟨j - 8,h8⟩
   rw[this,Bool.and_true]
  ·have:(a / 256).testBit (j - 8)=false:=Nat.testBit_lt_two_pow (Nat.lt_of_lt_of_le (show a / 256<2 ^ 8 by omega) (Nat.pow_le_pow_right (by decide) (by omega)))
   rw[this,Bool.false_and]
theorem c_hi{a:Nat}(h:a<65536):Builtin.bitAnd (a:Int) 65280=((a / 256 * 256:Nat):Int):=by
 rw[←y7c h]
 rfl
theorem y7o{a c:Nat}(h:c<256):Builtin.bitOr ((a * 256:Nat):Int) (c:Int)=((a * 256+c:Nat):Int):=by
 have:=Bits.bitOr_join' (a:=(c:Int)) (b:=(a:Int)) (k:=8) (by omega) (by omega) (by omega)
 have e:(a:Int) * 2 ^ 8=((a * 256:Nat):Int):=by omega
 rw[e] at this
 rw[this]
 omega
theorem z2C{u:U}{w:Bool}(h:tru u=some (!w)):evF FT (k+1) lG [u] (aA m)=some (.int (if w=true then 65535 else 255),aA m):=by
 rw[z7y,tP]
 cases w <;> simp_arith only[h,Bool.not_true,Bool.not_false]
theorem iB(h:Ok m):evF FT (k+1) z1S [.cpu] (aA m)=some (.int (m.a % span (!m.fm):Nat),aA m):=by
 rw[z2d,rP]
 cases e:m.fm <;> simp_arith only[e,Bool.not_true,Bool.not_false,span,Nat.mod_eq_of_lt h.a]
theorem wY:span true=65536:=rfl
theorem y0o:span false=256:=rfl
theorem eY(m:St)(w:Bool)(v:Nat):m.nz w (v % span w)=m.nz w v:=by
 unfold St.nz
 rw[Nat.mod_mod]
theorem z5Z(w:Bool)(r v:Nat):low w r (v % span w)=low w r v:=by
 unfold low
 cases w <;> simp[span,W]
theorem dZ(h:Ok m)(z:Int):evF FT (k+2) z8L [.cpu,.int z] (aA m)=some (.non,aA (m.lda (cut (!m.fm) z))):=by
 rw[y0C,uK]
 unfold St.lda
 have ha:=h.a
 cases e:m.fm with
 |true=>
  have e1:tru (.bl true)=some (!false):=rfl
  have e2:m.a % 65536=m.a:=Nat.mod_eq_of_lt ha
  have e3:cut false z % 256=cut false z:=Nat.mod_eq_of_lt (lN z)
  simp_arith only[e,lT e1 hU,c_hi ha,y7o (lN z),Bool.not_true,low,dX,e2,e3]
  simp only[St.nz,e]
 |false=>
  have e1:tru (.bl false)=some (!true):=rfl
  have e3:cut true z % 65536=cut true z:=Nat.mod_eq_of_lt (oA z)
  simp_arith only[e,lT e1 hU,Bool.not_false,low,dX,e3]
  simp only[St.nz,e]
noncomputable def rdw(m:St)(w:Bool)(i j:Nat):Nat:=if w=true then m.mem i+256 * m.mem j else m.mem i
noncomputable def wrw(m:St)(w:Bool)(i j v:Nat):St:=if w=true then (m.wr i v).wr j (v / 256) else m.wr i v
theorem z5G{i:Nat}(h:i<16777216):i / 65536 * 65536+i % 65536=i:=by omega
theorem nJ(h:Ok m){i j:Nat}(hi:i<16777216)(hj:j<16777216){u:U}{w:Bool}(hu:tru u=some (!w))(hs:u.stays=true) :
  evF FT (k+1) rQ [.cpu,.pair i j,u] (aA m)=some (.int (rdw m w i j),aA m):=by
 rw[z2c,rO]
 have h1:i / 65536<256:=by omega
 have h2:j / 65536<256:=by omega
 cases w <;> simp_arith only[hu,hs,Bool.not_true,Bool.not_false,iK h1,iK h2,fJ (dY _),z5G hi,z5G hj,lU (mQ h _),rdw,Nat.mul_comm 256]
theorem nI(h:Ok m){i j v:Nat}(hi:i<16777216)(hj:j<16777216){u:U}{w:Bool}(hv:v<65536)(hu:tru u=some (!w))(hs:u.stays=true) :
  evF FT (k+1) lB [.cpu,.pair i j,.int v,u] (aA m)=some (.non,aA (wrw m w i j v)):=by
 rw[z1N,rJ]
 have e1:v % 256<256:=by omega
 have e2:v / 256<256:=by omega
 have e3:∀(m:St) (i:Nat),m.wr i (v % 256)=m.wr i v:=fun m i=>by unfold St.wr;rw[Nat.mod_mod]
 cases w <;> simp_arith only[hu,hs,Bool.not_true,Bool.not_false,wU hi,wU hj,to_n,tw hi e1,tw hj e2,e3,wrw]
variable{m:St}{k:Nat}
theorem fF(a:Nat):Builtin.bitAnd (a:Int) 16777215=((a % 16777216:Nat):Int):=by
 have:=Bits.bitAnd_mask (x:=(a:Int)) 24 (by omega)
 have e:(2:Int) ^ 24=16777216:=by decide
 rw[e] at this
 have e2:(16777216:Int) - 1=16777215:=by decide
 rw[e2] at this
 rw[this]
 omega
noncomputable def plU(p:Ql49.Place):U:=.pair p.at_ p.next.at_
theorem oP(a:Nat):plU (zero a)=.pair ((a % 65536:Nat):Int) (((a+1) % 65536:Nat):Int):=by
 have e:(a % 65536+1) % 65536=(a+1) % 65536:=by omega
 show U.pair ((a % 65536:Nat):Int) (((a % 65536+1) % 65536:Nat):Int)=_
 rw[e]
theorem fM(a:Nat):plU (far a)=.pair ((a % 16777216:Nat):Int) (((a+1) % 16777216:Nat):Int):=by
 have e:(a % 16777216+1) % 16777216=(a+1) % 16777216:=by omega
 show U.pair ((a % 16777216:Nat):Int) (((a % 16777216+1) % 16777216:Nat):Int)=_
 rw[e]
theorem jY(h:Ok m):m.db<65536:=Nat.lt_of_lt_of_le h.db (by decide)
theorem pb16(h:Ok m):m.pb<65536:=Nat.lt_of_lt_of_le h.pb (by decide)
theorem dF(m:St)(i:Nat):(m.skip i).x=m.x:=(Eq.refl m.x).trans rfl
theorem dN(m:St)(i:Nat):(m.skip i).y=m.y:=(Eq.refl m.y).trans rfl
theorem lI(m:St)(i:Nat)(p:Ql49.Place):(m.skip i).rd2 p=m.rd2 p:=(Eq.refl (m.rd2 p)).trans rfl
theorem uX(m:St)(i:Nat)(p:Ql49.Place):(m.skip i).rd3 p=m.rd3 p:=(Eq.refl (m.rd3 p)).trans rfl
theorem p_d(h:Ok m):evF FT (k+2) z6D [.cpu] (aA m)=some (plU (zero (m.d+m.code 0)),aA (m.skip 1)):=by
 rw[z7A,tR,oP]
 simp_arith only[cK h,dF,dN]
theorem cX(h:Ok m):evF FT (k+2) z4w [.cpu] (aA m)=some (plU (zero (m.d+m.code 0+m.x)),aA (m.skip 1)):=by
 rw[z5g,sW,oP]
 simp_arith only[cK h,dF,dN]
theorem p_dy(h:Ok m):evF FT (k+2) z4x [.cpu] (aA m)=some (plU (zero (m.d+m.code 0+m.y)),aA (m.skip 1)):=by
 rw[z5h,sX,oP]
 simp_arith only[cK h,dF,dN]
theorem jA(h:Ok m):evF FT (k+2) z4u [.cpu] (aA m)=some (plU (far (m.db * W+m.rd2 (zero (m.d+m.code 0)))),aA (m.skip 1)):=by
 rw[z5e,sU,fM]
 simp_arith only[cK h,hZ (ok_skip h 1),fG (jY h),fF,dX,lI,dF,dN]
theorem iT(h:Ok m):evF FT (k+2) z3j [.cpu] (aA m)=some (plU (far (m.db * W+m.rd2 (zero (m.d+m.code 0+m.x)))),aA (m.skip 1)):=by
 rw[z4g,sF,fM]
 simp_arith only[cK h,hZ (ok_skip h 1),fG (jY h),fF,dX,lI,dF,dN]
theorem iU(h:Ok m):evF FT (k+2) z3k [.cpu] (aA m)=some (plU (far (m.db * W+m.rd2 (zero (m.d+m.code 0))+m.y)),aA (m.skip 1)):=by
 rw[z4h,sG,fM]
 simp_arith only[cK h,hZ (ok_skip h 1),fG (jY h),fF,dX,lI,dF,dN]
theorem jB(h:Ok m):evF FT (k+3) z4v [.cpu] (aA m)=some (plU (far (m.rd3 (zero (m.d+m.code 0)))),aA (m.skip 1)):=by
 rw[z5f,sV,fM]
 simp_arith only[cK h,rS (ok_skip h 1),fF,uX,dF,dN]
theorem iV(h:Ok m):evF FT (k+3) z3l [.cpu] (aA m)=some (plU (far (m.rd3 (zero (m.d+m.code 0))+m.y)),aA (m.skip 1)):=by
 rw[z4i,sH,fM]
 simp_arith only[cK h,rS (ok_skip h 1),fF,uX,dF,dN]
theorem p_a(h:Ok m):evF FT (k+2) z6C [.cpu] (aA m)=some (plU (far (m.db * W+m.code2)),aA (m.skip 2)):=by
 rw[z7z,tQ,fM]
 simp_arith only[eS h,fG (jY h),fF,dX,dF,dN]
theorem dE(h:Ok m):evF FT (k+2) z4s [.cpu] (aA m)=some (plU (far (m.db * W+m.code2+m.x)),aA (m.skip 2)):=by
 rw[z5c,sS,fM]
 simp_arith only[eS h,fG (jY h),fF,dX,dF,dN]
theorem hV(h:Ok m):evF FT (k+2) z4t [.cpu] (aA m)=some (plU (far (m.db * W+m.code2+m.y)),aA (m.skip 2)):=by
 rw[z5d,sT,fM]
 simp_arith only[eS h,fG (jY h),fF,dX,dF,dN]
theorem iZ(h:Ok m):evF FT (k+3) z4r [.cpu] (aA m)=some (plU (far m.code3),aA (m.skip 3)):=by
 rw[z5b,sQ,fM]
 simp_arith only[nQ h,fF,dF,dN]
theorem iS(h:Ok m):evF FT (k+3) z3i [.cpu] (aA m)=some (plU (far (m.code3+m.x)),aA (m.skip 3)):=by
 rw[z4f,sE,fM]
 simp_arith only[nQ h,fF,dF,dN]
theorem jD(h:Ok m):evF FT (k+2) z4y [.cpu] (aA m)=some (plU (zero (m.s+m.code 0)),aA (m.skip 1)):=by
 rw[z5k,tD,oP]
 simp_arith only[cK h,dF,dN]
theorem iW(h:Ok m):evF FT (k+2) z3m [.cpu] (aA m)=some (plU (far (m.db * W+m.rd2 (zero (m.s+m.code 0))+m.y)),aA (m.skip 1)):=by
 rw[z4j,sI,fM]
 simp_arith only[cK h,hZ (ok_skip h 1),fG (jY h),fF,dX,lI,dF,dN]
theorem nH(h:Ok m){w:Nat}:evF FT (k+1) z1B [.cpu,.int w] (aA m)=some (.pair ((m.pb * 65536+m.pc:Nat):Int) ((m.pb * 65536+(m.pc+1) % 65536:Nat):Int),aA (m.skip w)):=by
 rw[z1L,rF]
 simp_arith only[fG (pb16 h)]
 rfl
theorem jC(h:Ok m):evF FT (k+2) gS [.cpu] (aA m)=some (.pair ((m.pb * 65536+m.pc:Nat):Int) ((m.pb * 65536+(m.pc+1) % 65536:Nat):Int),aA (m.skip (if m.fm=true then 1 else 2))):=by
 rw[z5i,sY]
 cases e:m.fm
 ·have:=nH (k:=k) h (w:=2)
  simp_arith only[e]
  exact this
 ·have:=nH (k:=k) h (w:=1)
  simp_arith only[e]
  exact this
theorem qE(h:Ok m):evF FT (k+2) lD [.cpu] (aA m)=some (.pair ((m.pb * 65536+m.pc:Nat):Int) ((m.pb * 65536+(m.pc+1) % 65536:Nat):Int),aA (m.skip (if m.fx=true then 1 else 2))):=by
 rw[z5j,sZ]
 cases e:m.fx
 ·have:=nH (k:=k) h (w:=2)
  simp_arith only[e]
  exact this
 ·have:=nH (k:=k) h (w:=1)
  simp_arith only[e]
  exact this
variable{m:St}{k:Nat}
theorem c_or(a b:Nat):Builtin.bitOr (a:Int) (b:Int)=((a|||b:Nat):Int):=Bits.bitOr_pp (by omega) (by omega)
theorem pK(a b:Nat):Builtin.bitXor (a:Int) (b:Int)=((a^^^b:Nat):Int):=Bits.bitXor_pp (by omega) (by omega)
theorem oV(a b:Nat):Builtin.bitAnd (a:Int) (b:Int)=((a&&&b:Nat):Int):=by
 unfold Builtin.bitAnd
 rw[decide_eq_true (show (0:Int)≤(a:Int) by omega),decide_eq_true (show (0:Int)≤(b:Int) by omega)]
 rfl
theorem hW{b:Bool}:tru (.int ((bit b 32:Nat):Int))=some (!(!b)):=by rw[q32,Bool.not_not]
theorem gN{b:Bool}:tru (.int ((bit b 16:Nat):Int))=some (!(!b)):=by rw[q16,Bool.not_not]
theorem bL(w:Bool)(v:Nat):cut w (v:Int)=v % span w:=by
 unfold cut
 cases w with
 |true=>show ((v:Int) % 65536).toNat=v % 65536;omega
 |false=>show ((v:Int) % 256).toNat=v % 256;omega
theorem gH(m:St)(v:Nat):m.lda (v % span (!m.fm))=m.lda v:=by
 unfold St.lda
 rw[z5Z,eY]
theorem gL(h:Ok m)(w:Bool)(i j:Nat):rdw m w i j<span w:=by
 unfold rdw
 have h1:=h.mem i
 have h2:=h.mem j
 cases w with
 |true=>show m.mem i+256 * m.mem j<65536;omega
 |false=>exact h1
theorem span_le(w:Bool):span w≤65536:=by cases w <;> decide
theorem uY(h:Ok m)(w:Bool)(i j:Nat):rdw m w i j<65536:=Nat.lt_of_lt_of_le (gL h w i j) (span_le w)
section
variable{i j:Nat}
theorem fY(h:Ok m)(hi:i<16777216)(hj:j<16777216):evF FT (k+1) rQ [.cpu,.pair i j,.int ((bit m.fm 32:Nat):Int)] (aA m)=some (.int (rdw m (!m.fm) i j),aA m):=nJ h hi hj hW bX
theorem rd_x(h:Ok m)(hi:i<16777216)(hj:j<16777216):evF FT (k+1) rQ [.cpu,.pair i j,.int ((bit m.fx 16:Nat):Int)] (aA m)=some (.int (rdw m (!m.fx) i j),aA m):=nJ h hi hj gN bX
theorem wr_a(h:Ok m)(hi:i<16777216)(hj:j<16777216){v:Nat}(hv:v<65536):evF FT (k+1) lB [.cpu,.pair i j,.int v,.int ((bit m.fm 32:Nat):Int)] (aA m)=some (.non,aA (wrw m (!m.fm) i j v)):=nI h hi hj hv hW bX
theorem wr_x(h:Ok m)(hi:i<16777216)(hj:j<16777216){v:Nat}(hv:v<65536):evF FT (k+1) lB [.cpu,.pair i j,.int v,.int ((bit m.fx 16:Nat):Int)] (aA m)=some (.non,aA (wrw m (!m.fx) i j v)):=nI h hi hj hv gN bX
theorem x7v(h:Ok m)(hi:i<16777216)(hj:j<16777216):evF FT (k+1) lB [.cpu,.pair i j,.int 0,.int ((bit m.fm 32:Nat):Int)] (aA m)=some (.non,aA (wrw m (!m.fm) i j 0)):=nI (v:=0) h hi hj (by decide) hW bX
theorem y6w(h:Ok m)(hi:i<16777216)(hj:j<16777216):evF FT (k+3) z8M [.cpu,.pair i j] (aA m)=some (.non,aA (m.lda (rdw m (!m.fm) i j))):=by
 rw[x6o,yG]
 simp_arith only[fY h hi hj,dZ h,bL,gH]
theorem y6z(h:Ok m)(hi:i<16777216)(hj:j<16777216):evF FT (k+3) z8P [.cpu,.pair i j] (aA m)=some (.non,aA (m.lda ((m.a|||rdw m (!m.fm) i j) % span (!m.fm)))):=by
 rw[x6w,yO]
 simp_arith only[fY h hi hj,dZ h,bL,c_or]
theorem y6s(h:Ok m)(hi:i<16777216)(hj:j<16777216):evF FT (k+3) wA [.cpu,.pair i j] (aA m)=some (.non,aA (m.lda ((m.a&&&rdw m (!m.fm) i j) % span (!m.fm)))):=by
 rw[y3X,vI]
 simp_arith only[fY h hi hj,dZ h,bL,oV]
theorem y6v(h:Ok m)(hi:i<16777216)(hj:j<16777216):evF FT (k+3) z8J [.cpu,.pair i j] (aA m)=some (.non,aA (m.lda ((m.a^^^rdw m (!m.fm) i j) % span (!m.fm)))):=by
 rw[x6i,yA]
 simp_arith only[fY h hi hj,dZ h,bL,pK]
theorem fD(z:Int):evF FT (k+1) oM [.cpu,.int z,.int ((bit m.fx 16:Nat):Int)] (aA m)=some (.int (cut (!m.fx) z),aA (m.nz (!m.fx) (cut (!m.fx) z))):=lT gN bX
theorem nt_a(z:Int):evF FT (k+1) oM [.cpu,.int z,.int ((bit m.fm 32:Nat):Int)] (aA m)=some (.int (cut (!m.fm) z),aA (m.nz (!m.fm) (cut (!m.fm) z))):=lT hW bX
theorem jP(m:St)(v:Nat):({ m.nz (!m.fx) (v % span (!m.fx)) with x:=v % span (!m.fx) }:St)=m.ldx v:=by
 rw[eY]
 rfl
theorem kS(m:St)(v:Nat):({ m.nz (!m.fx) (v % span (!m.fx)) with y:=v % span (!m.fx) }:St)=m.ldy v:=by
 rw[eY]
 rfl
theorem y6x(h:Ok m)(hi:i<16777216)(hj:j<16777216):evF FT (k+2) z8N [.cpu,.pair i j] (aA m)=some (.non,aA (m.ldx (rdw m (!m.fx) i j))):=by
 rw[x6p,yH,←jP]
 simp_arith only[rd_x h hi hj,fD,bL]
theorem y6y(h:Ok m)(hi:i<16777216)(hj:j<16777216):evF FT (k+2) z8O [.cpu,.pair i j] (aA m)=some (.non,aA (m.ldy (rdw m (!m.fx) i j))):=by
 rw[x6q,yI,←kS]
 simp_arith only[rd_x h hi hj,fD,bL]
theorem x3u(h:Ok m)(hi:i<16777216)(hj:j<16777216):evF FT (k+2) y5I [.cpu,.pair i j] (aA m)=some (.non,aA (wrw m (!m.fm) i j m.a)):=by
 rw[x6Y,zQ]
 simp_arith only[wr_a h hi hj h.a]
theorem x3v(h:Ok m)(hi:i<16777216)(hj:j<16777216):evF FT (k+2) y5K [.cpu,.pair i j] (aA m)=some (.non,aA (wrw m (!m.fx) i j m.x)):=by
 rw[x7a,zS]
 simp_arith only[wr_x h hi hj h.x]
theorem x3w(h:Ok m)(hi:i<16777216)(hj:j<16777216):evF FT (k+2) y5L [.cpu,.pair i j] (aA m)=some (.non,aA (wrw m (!m.fx) i j m.y)):=by
 rw[x7b,zT]
 simp_arith only[wr_x h hi hj h.y]
theorem x3x(h:Ok m)(hi:i<16777216)(hj:j<16777216):evF FT (k+2) y5M [.cpu,.pair i j] (aA m)=some (.non,aA (wrw m (!m.fm) i j 0)):=by
 rw[x7c,zU]
 simp_arith only[x7v h hi hj]
theorem z5L(w:Bool){r v:Nat}(hv:v<span w):cut w ((r:Int) - (v:Int))=(r+span w - v) % span w:=by
 unfold cut
 cases w with
 |true=>
  replace hv:v<65536:=hv
  show (((r:Int) - v) % 65536).toNat=(r+65536 - v) % 65536
  omega
 |false=>
  replace hv:v<256:=hv
  show (((r:Int) - v) % 256).toNat=(r+256 - v) % 256
  omega
theorem uD(h:Ok m)(hi:i<16777216)(hj:j<16777216){r:Nat}{u:U}{w:Bool}(hu:tru u=some (!w))(hs:u.stays=true) :
  evF FT (k+2) z6A [.cpu,.int r,.pair i j,u] (aA m)=some (.non,aA (({ m with fc:=decide (rdw m w i j≤r) }).nz w (r+span w - rdw m w i j))):=by
 have e:cop .ge ((r:Int) - (rdw m w i j:Int)) 0=decide (rdw m w i j≤r):=decide_eq_decide.mpr (by omega)
 rw[z7t,tJ]
 simp_arith only[nJ h hi hj hu hs,hs,lC qb,e,lT hu hs,z5L w (gL h w i j),eY]
theorem wQ(m:St)(w:Bool)(r v:Nat)(hr:r % span w=r):({ m with fc:=decide (v≤r) }).nz w (r+span w - v)=m.cmp w r v:=by
 unfold St.cmp
 rw[hr]
theorem y6t(h:Ok m)(hi:i<16777216)(hj:j<16777216):evF FT (k+3) z8H [.cpu,.pair i j] (aA m)=some (.non,aA (m.cmp (!m.fx) m.x (rdw m (!m.fx) i j))):=by
 have hr:m.x % span (!m.fx)=m.x:=by
  cases e:m.fx with
  |true=>exact Nat.mod_eq_of_lt (h.nx e).1
  |false=>exact Nat.mod_eq_of_lt h.x
 rw[x6d,xV,←wQ _ _ _ _ hr]
 simp_arith only[uD (w:=!m.fx) h hi hj gN bX]
theorem y6u(h:Ok m)(hi:i<16777216)(hj:j<16777216):evF FT (k+3) z8I [.cpu,.pair i j] (aA m)=some (.non,aA (m.cmp (!m.fx) m.y (rdw m (!m.fx) i j))):=by
 have hr:m.y % span (!m.fx)=m.y:=by
  cases e:m.fx with
  |true=>exact Nat.mod_eq_of_lt (h.nx e).2
  |false=>exact Nat.mod_eq_of_lt h.y
 rw[x6e,xW,←wQ _ _ _ _ hr]
 simp_arith only[uD (w:=!m.fx) h hi hj gN bX]
theorem z9p(h:Ok m)(hi:i<16777216)(hj:j<16777216):evF FT (k+3) z8G [.cpu,.pair i j] (aA m)=some (.non,aA (m.cmp (!m.fm) m.a (rdw m (!m.fm) i j))):=by
 have e:m.cmp (!m.fm) m.a (rdw m (!m.fm) i j)=m.cmp (!m.fm) (m.a % span (!m.fm)) (rdw m (!m.fm) i j):=by
  unfold St.cmp
  rw[Nat.mod_mod]
 rw[x6b,xT,e,←wQ _ _ _ _ (Nat.mod_mod _ _)]
 simp_arith only[iB h,uD (w:=!m.fm) h hi hj hW bX]
end
variable{m:St}{k:Nat}
theorem f_z0:∀ n v m x d i z c:Bool,Builtin.bitAnd (pp n v m x d i z c) (Builtin.bitNot 2)=pp n v m x d i false c:=by decide +kernel
theorem f_z1:∀ n v m x d i z c:Bool,Builtin.bitOr (pp n v m x d i z c) 2=pp n v m x d i true c:=by decide +kernel
theorem nG(v:Nat):evF FT (k+1) z0u [.cpu,.int v] (aA m)=some (.non,aA { m with fz:=(m.a&&&v)==0 }):=by
 rw[z0x,qN]
 cases e:((m.a&&&v)==0) <;> simp_arith only[oV,mZ,e,Bool.not_true,Bool.not_false,f_z0,f_z1]
theorem oH(w:Bool):span w=2 ^ (if w=true then 16 else 8):=by cases w <;> decide
theorem nX{a v:Nat}{w:Bool}(hv:v<span w):(a&&&v)=(a % span w&&&v):=by
 have h1:(a&&&v)=(a&&&v) % span w:=(Nat.mod_eq_of_lt (Nat.lt_of_le_of_lt Nat.and_le_right hv)).symm
 rw[h1,oH,Nat.and_mod_two_pow,←oH,Nat.mod_eq_of_lt hv]
section
variable{i j:Nat}
theorem z9o(h:Ok m)(hi:i<16777216)(hj:j<16777216):evF FT (k+2) z3b [.cpu,.pair i j] (aA m)=some (.non,aA { m with fz:=(m.a % span (!m.fm)&&&rdw m (!m.fm) i j)==0 }):=by
 rw[y0x,uF,←nX (gL h _ i j)]
 simp_arith only[fY h hi hj,nG]
theorem y4E:∀ n v m x d i z c n' v':Bool,Builtin.bitOr (Builtin.bitAnd (pp n v m x d i z c) (Builtin.bitNot (Builtin.bitOr 128 64))) ((bit n' 128+bit v' 64:Nat):Int)=pp n' v' m x d i z c:=by decide +kernel
theorem y6o{a:Nat}(h:a<256):Builtin.bitAnd (a:Int) (Builtin.bitOr 128 64)=((bit (decide (128≤a)) 128+bit (a / 64 % 2==1) 64:Nat):Int):=by
 have:∀ a:Fin 256,Builtin.bitAnd ((a:Nat):Int) (Builtin.bitOr 128 64)=((bit (decide (128≤(a:Nat))) 128+bit ((a:Nat) / 64 % 2==1) 64:Nat):Int):=by decide +kernel
 exact this ⟨a,h⟩
theorem x3g(h:Ok m)(hi:i<16777216)(hj:j<16777216):evF FT (k+2) y4J [.cpu,.pair i j] (aA m) =
  some (.non,aA { m with fz:=(m.a % span (!m.fm)&&&rdw m (!m.fm) i j)==0,fn:=decide (Ql49.top (!m.fm)≤rdw m (!m.fm) i j),fv:=rdw m (!m.fm) i j / (Ql49.top (!m.fm) / 2) % 2==1 }):=by
 have h1:=gL h (!m.fm) i j
 rw[x5O,xG,←nX h1]
 simp_arith only[fY h hi hj,nG]
 generalize rdw m (!m.fm) i j=V at h1 ⊢
 cases e:m.fm with
 |true=>
  rw[e] at h1
  have h2:V<256:=h1
  simp_arith only[e,y6o h2,y4E]
  rfl
 |false=>
  rw[e] at h1
  have h2:V<65536:=h1
  have e1:decide (128≤V / 256)=decide (32768≤V):=decide_eq_decide.mpr (by omega)
  have e2:V / 256 / 64=V / 16384:=by omega
  simp_arith only[e,y6o (show V / 256<256 by omega),y4E,e1,e2]
  rfl
theorem mE(m:St)(i v:Nat):m.wr i (v % 256)=m.wr i v:=by unfold St.wr;rw[Nat.mod_mod]
theorem wN(m:St)(w:Bool)(i j v:Nat):wrw m w i j (v % span w)=wrw m w i j v:=by
 unfold wrw
 cases w with
 |true=>
  have e:v % 65536 / 256 % 256=v / 256 % 256:=by omega
  have e2:v % 65536 % 256=v % 256:=by omega
  rw[wY]
  simp only[if_true]
  rw[←mE m i (v % 65536),e2,mE,←mE _ j (v % 65536 / 256),e,mE]
 |false=>
  rw[y0o]
  simp only[Bool.false_eq_true,if_false,mE]
theorem x3D{a b:Nat}(ha:a<65536)(hb:b<65536):a|||b<65536:=Nat.or_lt_two_pow (n:=16) ha hb
theorem x3z(h:Ok m)(hi:i<16777216)(hj:j<16777216):evF FT (k+2) y5T [.cpu,.pair i j] (aA m) =
  some (.non,aA (wrw { m with fz:=(m.a % span (!m.fm)&&&rdw m (!m.fm) i j)==0 } (!m.fm) i j (rdw m (!m.fm) i j|||m.a % span (!m.fm)))):=by
 have h1:=gL h (!m.fm) i j
 have h3:=mV h ((m.a&&&rdw m (!m.fm) i j)==0)
 have e:(rdw m (!m.fm) i j|||m.a) % span (!m.fm)=(rdw m (!m.fm) i j|||m.a % span (!m.fm)) % span (!m.fm):=by
  rw[oH,Nat.or_mod_two_pow,Nat.or_mod_two_pow,Nat.mod_mod]
 rw[x7j,z8b,←nX h1,←wN,←e,wN]
 simp_arith only[fY h hi hj,nG,c_or,wr_a h3 hi hj (x3D (uY h (!m.fm) i j) h.a)]
theorem vG{n v a:Nat}(hv:v<2 ^ n):v - (v&&&a)=v&&&(2 ^ n - 1 - a % 2 ^ n):=by
 have hp:0<2 ^ n:=Nat.two_pow_pos n
 have hc:2 ^ n - 1 - a % 2 ^ n=2 ^ n - (a % 2 ^ n+1):=by omega
 have key:(v&&&a)^^^(v&&&(2 ^ n - (a % 2 ^ n+1)))=v:=by
  apply Nat.eq_of_testBit_eq
  intro q
  rw[Nat.testBit_xor,Nat.testBit_and,Nat.testBit_and,Nat.testBit_two_pow_sub_succ (Nat.mod_lt _ hp),Nat.testBit_mod_two_pow]
  by_cases hq:q<n
  ·simp only[hq,decide_true,Bool.true_and]
   cases v.testBit q <;> cases a.testBit q <;> rfl
  ·have:v.testBit q=false:=Nat.testBit_lt_two_pow (Nat.lt_of_lt_of_le hv (Nat.pow_le_pow_right (by decide) (by omega)))
   rw[this]
   rfl
 have dis:(v&&&a)&&&(v&&&(2 ^ n - (a % 2 ^ n+1)))=0:=by
  apply Nat.eq_of_testBit_eq
  intro q
  rw[Nat.testBit_and,Nat.testBit_and,Nat.testBit_and,Nat.testBit_two_pow_sub_succ (Nat.mod_lt _ hp),Nat.testBit_mod_two_pow,Nat.zero_testBit]
  by_cases hq:q<n
  ·simp only[hq,decide_true,Bool.true_and]
   cases v.testBit q <;> cases a.testBit q <;> rfl
  ·simp[hq]
 have:=Bits.nat_xor_add_and (v&&&a) (v&&&(2 ^ n - (a % 2 ^ n+1)))
 rw[key,dis] at this
 rw[hc]
 omega
theorem uO(v a:Nat):Builtin.bitAnd (v:Int) (Builtin.bitNot (a:Int))=((v - (v&&&a):Nat):Int):=by
 have hle:(v&&&a)≤v:=Nat.and_le_left
 unfold Builtin.bitAnd
 rw[decide_eq_true (show (0:Int)≤(v:Int) by omega),decide_eq_false (show ¬(0:Int)≤Builtin.bitNot (a:Int) by unfold Builtin.bitNot;omega)]
 show (v:Int) - (((v:Int).toNat&&&(Builtin.bitNot (Builtin.bitNot (a:Int))).toNat:Nat):Int)=_
 have e:(Builtin.bitNot (Builtin.bitNot (a:Int))).toNat=a:=by unfold Builtin.bitNot;omega
 rw[e]
 show (v:Int) - ((v&&&a:Nat):Int)=_
 omega
theorem x3y(h:Ok m)(hi:i<16777216)(hj:j<16777216):evF FT (k+2) y5S [.cpu,.pair i j] (aA m) =
  some (.non,aA (wrw { m with fz:=(m.a % span (!m.fm)&&&rdw m (!m.fm) i j)==0 } (!m.fm) i j (rdw m (!m.fm) i j&&&(span (!m.fm) - 1 - m.a % span (!m.fm))))):=by
 have h1:=gL h (!m.fm) i j
 have h3:=mV h ((m.a&&&rdw m (!m.fm) i j)==0)
 have h2:=uY h (!m.fm) i j
 have e:rdw m (!m.fm) i j - (rdw m (!m.fm) i j&&&m.a)=(rdw m (!m.fm) i j&&&(span (!m.fm) - 1 - m.a % span (!m.fm))):=by
  rw[oH] at h1 ⊢
  exact vG h1
 rw[x7i,z8a,←nX h1,←e]
 simp_arith only[fY h hi hj,nG,uO,wr_a h3 hi hj (show rdw m (!m.fm) i j - (rdw m (!m.fm) i j&&&m.a)<65536 by omega)]
end
variable{m:St}{k:Nat}
theorem y7p{a:Nat}(h:a<65536):bop .shl (a:Int) 1=some ((2 * a:Nat):Int):=by
 show (if (0:Int)≤1∧(1:Int)≤1000000∧(a:Int).natAbs<2 ^ 64 then some ((a:Int) * 2 ^ (1:Int).toNat) else none)=_
 rw[if_pos ⟨by decide,by decide,by omega⟩]
 show some ((a:Int) * 2)=_
 congr 1
 omega
theorem z8w(a:Nat):bop .shr (a:Int) 1=some ((a / 2:Nat):Int):=by
 show some ((a:Int) / 2)=_
 congr 1
theorem mk_a:evF FT (k+1) lG [.int ((bit m.fm 32:Nat):Int)] (aA m)=some (.int (if (!m.fm)=true then 65535 else 255),aA m):=z2C hW
theorem y0S{v c:Nat}(hv:v<span (!m.fm))(hc:c≤1):evF FT (k+2) z0g [.cpu,.int v,.int c] (aA m)=some (.int ((2 * v+c:Nat):Int),aA { m with fc:=decide (Ql49.top (!m.fm)≤v) }):=by
 have e:cop .gt ((2 * v+c:Nat):Int) (if (!m.fm)=true then 65535 else 255)=decide (Ql49.top (!m.fm)≤v):=by
  revert hv
  cases m.fm with
  |true=>intro hv;replace hv:v<256:=hv;exact decide_eq_decide.mpr (by show (255:Int)<_↔128≤v;omega)
  |false=>intro hv;replace hv:v<65536:=hv;exact decide_eq_decide.mpr (by show (65535:Int)<_↔32768≤v;omega)
 have h16:v<65536:=Nat.lt_of_lt_of_le hv (span_le _)
 rw[z1M,rG]
 simp_arith only[y7p h16,mk_a,e,lC qb]
theorem y0T{v:Nat}(hv:v<span (!m.fm)):evF FT (k+2) z0g [.cpu,.int v,.int 0] (aA m)=some (.int ((2 * v:Nat):Int),aA { m with fc:=decide (Ql49.top (!m.fm)≤v) }):=y0S (c:=0) hv (by decide)
theorem oJ(b:Bool):bit b 1≤1:=by cases b <;> decide
theorem y6S(v:Nat):tru (.int (Builtin.bitAnd (v:Int) 1))=some (v % 2==1):=by
 have e:Builtin.bitAnd (v:Int) 1=((v % 2:Nat):Int):=by rw[PyProof.Rows.bitAnd_m1];omega
 rw[e,mZ]
 have:v % 2=0∨v % 2=1:=by omega
 rcases this with h|h <;> rw[h] <;> rfl
theorem y0U{v:Nat}(c:Bool):evF FT (k+2) z0c [.cpu,.int v,.int ((bit c 1:Nat):Int)] (aA m)=some (.int ((v / 2+bit c 1 * Ql49.top (!m.fm):Nat):Int),aA { m with fc:=v % 2==1 }):=by
 rw[z1A,rD]
 cases c with
 |false=>
  have e:v / 2+bit false 1 * Ql49.top (!m.fm)=v / 2:=by show v / 2+0 * _=_;omega
  simp_arith only[lC (y6S v),z8w,e]
 |true=>
  have e:((v:Int)+((if (!m.fm)=true then (65535:Int) else 255)+1))=((v+span (!m.fm):Nat):Int):=by
   cases m.fm with
   |true=>show (v:Int)+(255+1)=((v+256:Nat):Int);omega
   |false=>show (v:Int)+(65535+1)=((v+65536:Nat):Int);omega
  have e2:(v+span (!m.fm)) / 2=v / 2+bit true 1 * Ql49.top (!m.fm):=by
   cases m.fm with
   |true=>show (v+256) / 2=v / 2+1 * 128;omega
   |false=>show (v+65536) / 2=v / 2+1 * 32768;omega
  have mk:evF FT (k+1) lG [.int ((bit m.fm 32:Nat):Int)] (aA { m with fc:=v % 2==1 })=some (.int (if (!m.fm)=true then 65535 else 255),aA { m with fc:=v % 2==1 }):=mk_a (m:={ m with fc:=v % 2==1 })
  simp_arith only[lC (y6S v),mk,e,z8w,e2]
theorem y0V{v:Nat}:evF FT (k+2) z0c [.cpu,.int v,.int 0] (aA m)=some (.int ((v / 2:Nat):Int),aA { m with fc:=v % 2==1 }):=by
 have:=y0U (m:=m) (k:=k) (v:=v) false
 have e:v / 2+bit false 1 * Ql49.top (!m.fm)=v / 2:=by show v / 2+0 * _=_;omega
 rw[e] at this
 exact this
section
variable{i j:Nat}
theorem kH(h:Ok m)(hi:i<16777216)(hj:j<16777216):evF FT (k+2) z6E [.cpu,.pair i j] (aA m)=some (.int (rdw m (!m.fm) i j),aA m):=by
 rw[z7B,tS]
 simp_arith only[fY h hi hj]
theorem y7v(w:Bool)(z:Int):cut w z<span w:=by cases w;exact lN z;exact oA z
theorem kG(h:Ok m)(hi:i<16777216)(hj:j<16777216)(z:Int):evF FT (k+2) z6B [.cpu,.pair i j,.int z] (aA m)=some (.non,aA (wrw (m.nz (!m.fm) (cut (!m.fm) z)) (!m.fm) i j (cut (!m.fm) z))):=by
 rw[z7x,tO]
 have hw:evF FT (k+1) lB [.cpu,.pair i j,.int (cut (!m.fm) z),.int ((bit m.fm 32:Nat):Int)] (aA (m.nz (!m.fm) (cut (!m.fm) z)))=some (.non,aA (wrw (m.nz (!m.fm) (cut (!m.fm) z)) (!m.fm) i j (cut (!m.fm) z))):=
  nI (cS h _ _) hi hj (Nat.lt_of_lt_of_le (y7v _ z) (span_le _)) hW bX
 simp_arith only[nt_a,hw]
theorem x3e(h:Ok m)(hi:i<16777216)(hj:j<16777216):evF FT (k+3) y4F [.cpu,.pair i j] (aA m) =
  some (.non,aA (wrw (({ m with fc:=decide (Ql49.top (!m.fm)≤rdw m (!m.fm) i j) }).nz (!m.fm) (2 * rdw m (!m.fm) i j)) (!m.fm) i j (2 * rdw m (!m.fm) i j % span (!m.fm)))):=by
 rw[x5K,xC]
 simp_arith only[kH h hi hj,y0T (gL h (!m.fm) i j),kG (dL h _) hi hj,bL,eY]
theorem x3s(h:Ok m)(hi:i<16777216)(hj:j<16777216):evF FT (k+3) y5z [.cpu,.pair i j] (aA m) =
  some (.non,aA (wrw (({ m with fc:=decide (Ql49.top (!m.fm)≤rdw m (!m.fm) i j) }).nz (!m.fm) (2 * rdw m (!m.fm) i j+bit m.fc 1)) (!m.fm) i j ((2 * rdw m (!m.fm) i j+bit m.fc 1) % span (!m.fm)))):=by
 rw[x6O,zG]
 simp_arith only[kH h hi hj,y0S (gL h (!m.fm) i j) (oJ m.fc),kG (dL h _) hi hj,bL,eY]
theorem x3p(h:Ok m)(hi:i<16777216)(hj:j<16777216):evF FT (k+3) y5e [.cpu,.pair i j] (aA m) =
  some (.non,aA (wrw (({ m with fc:=rdw m (!m.fm) i j % 2==1 }).nz (!m.fm) (rdw m (!m.fm) i j / 2)) (!m.fm) i j (rdw m (!m.fm) i j / 2 % span (!m.fm)))):=by
 rw[x6r,yJ]
 simp_arith only[kH h hi hj,y0V,kG (dL h _) hi hj,bL,eY]
theorem x3t(h:Ok m)(hi:i<16777216)(hj:j<16777216):evF FT (k+3) y5A [.cpu,.pair i j] (aA m) =
  some (.non,aA (wrw (({ m with fc:=rdw m (!m.fm) i j % 2==1 }).nz (!m.fm) (rdw m (!m.fm) i j / 2+bit m.fc 1 * Ql49.top (!m.fm))) (!m.fm) i j ((rdw m (!m.fm) i j / 2+bit m.fc 1 * Ql49.top (!m.fm)) % span (!m.fm)))):=by
 rw[x6P,zH]
 simp_arith only[kH h hi hj,y0U m.fc,kG (dL h _) hi hj,bL,eY]
theorem x3l(h:Ok m)(hi:i<16777216)(hj:j<16777216):evF FT (k+3) y5a [.cpu,.pair i j] (aA m) =
  some (.non,aA (wrw (m.nz (!m.fm) (rdw m (!m.fm) i j+1)) (!m.fm) i j ((rdw m (!m.fm) i j+1) % span (!m.fm)))):=by
 rw[x6j,yB]
 simp_arith only[kH h hi hj,kG h hi hj,bL,eY]
theorem oB(w:Bool)(v:Nat):cut w ((v:Int) - 1)=(v+span w - 1) % span w:=z5L w (v:=1) (by cases w <;> decide)
theorem x3i(h:Ok m)(hi:i<16777216)(hj:j<16777216):evF FT (k+3) y4X [.cpu,.pair i j] (aA m) =
  some (.non,aA (wrw (m.nz (!m.fm) (rdw m (!m.fm) i j+span (!m.fm) - 1)) (!m.fm) i j ((rdw m (!m.fm) i j+span (!m.fm) - 1) % span (!m.fm)))):=by
 rw[x6f,xX]
 simp_arith only[kH h hi hj,kG h hi hj,oB,eY]
end
theorem nE(m:St):m.a % span (!m.fm)<span (!m.fm):=Nat.mod_lt _ (by cases m.fm <;> decide)
theorem y4t(h:Ok m):evF FT (k+3) z5M [.cpu] (aA m)=some (.non,aA (({ m with fc:=decide (Ql49.top (!m.fm)≤m.a % span (!m.fm)) }).lda (2 * (m.a % span (!m.fm))))):=by
 rw[y3Y,vJ]
 simp_arith only[iB h,y0T (nE m),dZ (dL h _),bL]
 exact congrArg (fun z=>some (U.non,aA z)) (gH { m with fc:=decide (Ql49.top (!m.fm)≤m.a % span (!m.fm)) } (2 * (m.a % span (!m.fm))))
theorem y4A(h:Ok m):evF FT (k+3) z5S [.cpu] (aA m)=some (.non,aA (({ m with fc:=decide (Ql49.top (!m.fm)≤m.a % span (!m.fm)) }).lda (2 * (m.a % span (!m.fm))+bit m.fc 1))):=by
 rw[y4f,vQ]
 simp_arith only[iB h,y0S (nE m) (oJ m.fc),dZ (dL h _),bL]
 exact congrArg (fun z=>some (U.non,aA z)) (gH { m with fc:=decide (Ql49.top (!m.fm)≤m.a % span (!m.fm)) } (2 * (m.a % span (!m.fm))+bit m.fc 1))
theorem y4y(h:Ok m):evF FT (k+3) z5R [.cpu] (aA m)=some (.non,aA (({ m with fc:=m.a % span (!m.fm) % 2==1 }).lda (m.a % span (!m.fm) / 2))):=by
 rw[y4d,vO]
 simp_arith only[iB h,y0V,dZ (dL h _),bL]
 exact congrArg (fun z=>some (U.non,aA z)) (gH { m with fc:=m.a % span (!m.fm) % 2==1 } (m.a % span (!m.fm) / 2))
theorem y4B(h:Ok m):evF FT (k+3) z5T [.cpu] (aA m)=some (.non,aA (({ m with fc:=m.a % span (!m.fm) % 2==1 }).lda (m.a % span (!m.fm) / 2+bit m.fc 1 * Ql49.top (!m.fm)))):=by
 rw[y4g,vR]
 simp_arith only[iB h,y0U m.fc,dZ (dL h _),bL]
 exact congrArg (fun z=>some (U.non,aA z)) (gH { m with fc:=m.a % span (!m.fm) % 2==1 } (m.a % span (!m.fm) / 2+bit m.fc 1 * Ql49.top (!m.fm)))
theorem y4v(h:Ok m):evF FT (k+3) z5O [.cpu] (aA m)=some (.non,aA (m.lda (m.a+1))):=by
 rw[y4a,vL]
 simp_arith only[dZ h,bL,gH]
theorem y4u(h:Ok m):evF FT (k+3) z5N [.cpu] (aA m)=some (.non,aA (m.lda (m.a+span (!m.fm) - 1))):=by
 rw[y3Z,vK]
 simp_arith only[dZ h,oB,gH]
theorem x7Y:evF FT (k+2) y5b [.cpu] (aA m)=some (.non,aA (m.ldx (m.x+1))):=by
 rw[x6k,yC,←jP]
 simp_arith only[fD,bL]
theorem x7Z:evF FT (k+2) y5c [.cpu] (aA m)=some (.non,aA (m.ldy (m.y+1))):=by
 rw[x6l,yD,←kS]
 simp_arith only[fD,bL]
theorem z3C(w:Bool)(v:Nat):(v+span w - 1) % span w=(v+65535) % span w:=by
 cases w with
 |true=>
  have e:v+65536 - 1=v+65535:=by omega
  rw[wY,e]
 |false=>show (v+256 - 1) % 256=(v+65535) % 256;omega
theorem x7W:evF FT (k+2) y4Y [.cpu] (aA m)=some (.non,aA (m.ldx (m.x+65535))):=by
 rw[x6g,xY,←jP]
 simp_arith only[fD,oB,z3C]
theorem x7X:evF FT (k+2) y4Z [.cpu] (aA m)=some (.non,aA (m.ldy (m.y+65535))):=by
 rw[x6h,xZ,←kS]
 simp_arith only[fD,oB,z3C]
variable{m:St}{k:Nat}
theorem x8H:evF FT (k+2) y5N [.cpu] (aA m)=some (.non,aA (m.ldx m.a)):=by
 rw[x7d,zV,←jP]
 simp_arith only[fD,bL]
theorem x8I:evF FT (k+2) y5O [.cpu] (aA m)=some (.non,aA (m.ldy m.a)):=by
 rw[x7e,zW,←kS]
 simp_arith only[fD,bL]
theorem x8N:evF FT (k+2) y5V [.cpu] (aA m)=some (.non,aA (m.ldx m.s)):=by
 rw[x7l,z8d,←jP]
 simp_arith only[fD,bL]
theorem x8Q:evF FT (k+2) y5Y [.cpu] (aA m)=some (.non,aA (m.ldy m.x)):=by
 rw[x7o,z8g,←kS]
 simp_arith only[fD,bL]
theorem x8S:evF FT (k+2) y6a [.cpu] (aA m)=some (.non,aA (m.ldx m.y)):=by
 rw[x7q,z8i,←jP]
 simp_arith only[fD,bL]
theorem x8O(h:Ok m):evF FT (k+3) y5W [.cpu] (aA m)=some (.non,aA (m.lda m.x)):=by
 rw[x7m,z8e]
 simp_arith only[dZ h,bL,gH]
theorem x8R(h:Ok m):evF FT (k+3) y5Z [.cpu] (aA m)=some (.non,aA (m.lda m.y)):=by
 rw[x7p,z8h]
 simp_arith only[dZ h,bL,gH]
theorem x8P(h:Ok m):evF FT (k+2) y5X [.cpu] (aA m)=some (.non,aA ({ m with s:=m.x }).tidy):=by
 rw[x7n,z8f]
 simp_arith only[oU h,Nat.mod_eq_of_lt h.x]
theorem x8K(h:Ok m):evF FT (k+2) y5Q [.cpu] (aA m)=some (.non,aA ({ m with s:=m.a }).tidy):=by
 rw[x7g,zY]
 simp_arith only[oU h,Nat.mod_eq_of_lt h.a]
theorem x8M(h:Ok m):evF FT (k+2) y5U [.cpu] (aA m)=some (.non,aA (({ m with a:=m.s }).nz true m.s)):=by
 rw[x7k,z8c]
 simp_arith only[nP h.s]
theorem x8J(h:Ok m):evF FT (k+2) y5P [.cpu] (aA m)=some (.non,aA (({ m with d:=m.a }).nz true m.a)):=by
 rw[x7f,zX]
 simp_arith only[nP h.a]
theorem x8L(h:Ok m):evF FT (k+2) y5R [.cpu] (aA m)=some (.non,aA (({ m with a:=m.d }).nz true m.d)):=by
 rw[x7h,zZ]
 simp_arith only[nP h.d]
theorem y9m{i j:Int}(h:-(2 ^ 64)<i∧i<2 ^ 64):bop .mul i j=some (i * j):=by
 have e:bop .mul i j=if -(2 ^ 64)<i∧i<2 ^ 64 then some (i * j) else none:=by rw[bop]
 rw[e,if_pos h]
theorem z8v{a:Nat}(h:a<65536):bop .mul (a:Int) 256=some ((a * 256:Nat):Int):=by
 have e:(a:Int) * 256=((a * 256:Nat):Int):=by omega
 rw[y9m ⟨by omega,by omega⟩,e]
theorem x8V(h:Ok m):evF FT (k+2) y6d [.cpu] (aA m)=some (.non,aA (({ m with a:=m.a % 256 * 256+m.a / 256 }).nz false (m.a / 256))):=by
 have ha:=h.a
 have e:(m.a % 256 * 256+m.a / 256) % 256=m.a / 256:=by omega
 rw[x7t,z8l]
 simp_arith only[z8v (lt8 _),e,z0U (show m.a / 256<256 by omega)]
theorem x8W(h:Ok m):evF FT (k+3) y6e [.cpu] (aA m)=some (.non,aA ({ m with fc:=m.emu,emu:=m.fc }).tidy):=by
 have e:cop .eq ((bit m.fc 1:Nat):Int) 1=m.fc:=by cases m.fc <;> rfl
 rw[x7u,z8m]
 simp_arith only[e,lC qb,rE (dL h m.emu)]
theorem f_i0:∀ n v m x d i z c:Bool,Builtin.bitAnd (pp n v m x d i z c) (Builtin.bitNot 4)=pp n v m x d false z c:=by decide +kernel
theorem f_i1:∀ n v m x d i z c:Bool,Builtin.bitOr (pp n v m x d i z c) 4=pp n v m x d true z c:=by decide +kernel
theorem f_d0:∀ n v m x d i z c:Bool,Builtin.bitAnd (pp n v m x d i z c) (Builtin.bitNot 8)=pp n v m x false i z c:=by decide +kernel
theorem f_d1:∀ n v m x d i z c:Bool,Builtin.bitOr (pp n v m x d i z c) 8=pp n v m x true i z c:=by decide +kernel
theorem f_v0:∀ n v m x d i z c:Bool,Builtin.bitAnd (pp n v m x d i z c) (Builtin.bitNot 64)=pp n false m x d i z c:=by decide +kernel
theorem x7R:evF FT (k+1) y4S [.cpu] (aA m)=some (.non,aA { m with fc:=false }):=by
 rw[x5X,xP]
 simp_arith only[f_c0]
theorem x8A:evF FT (k+1) y5E [.cpu] (aA m)=some (.non,aA { m with fc:=true }):=by
 rw[x6U,zM]
 simp_arith only[f_c1]
theorem x7T:evF FT (k+1) y4U [.cpu] (aA m)=some (.non,aA { m with fi:=false }):=by
 rw[x5Z,xR]
 simp_arith only[f_i0]
theorem x8C:evF FT (k+1) y5G [.cpu] (aA m)=some (.non,aA { m with fi:=true }):=by
 rw[x6W,zO]
 simp_arith only[f_i1]
theorem x7S:evF FT (k+1) y4T [.cpu] (aA m)=some (.non,aA { m with fd:=false }):=by
 rw[x5Y,xQ]
 simp_arith only[f_d0]
theorem x8B:evF FT (k+1) y5F [.cpu] (aA m)=some (.non,aA { m with fd:=true }):=by
 rw[x6V,zN]
 simp_arith only[f_d1]
theorem x7U:evF FT (k+1) y4V [.cpu] (aA m)=some (.non,aA { m with fv:=false }):=by
 rw[x6a,xS]
 simp_arith only[f_v0]
theorem p_lt(m:St):m.p<256:=Q.p_lt m
theorem jE(m:St):pp m.fn m.fv m.fm m.fx m.fd m.fi m.fz m.fc=((m.p:Nat):Int):=Eq.trans rfl rfl
theorem x8v(h:Ok m):evF FT (k+2) y5y [.cpu] (aA m)=some (.non,aA ((m.skip 1).flags (m.p&&&(255 - m.code 0)))):=by
 have hc:=gG h.mem 0
 have e:m.p - (m.p&&&m.code 0)=(m.p&&&(255 - m.code 0)):=by
  have:=vG (n:=8) (v:=m.p) (a:=m.code 0) (p_lt m)
  rw[this]
  show (m.p&&&(256 - 1 - m.code 0 % 256))=_
  rw[Nat.mod_eq_of_lt hc]
 have hp:=p_lt m
 rw[x6N,zF]
 simp_arith only[jE,cK h,uO,e,kB (ok_skip h 1) (Nat.lt_of_le_of_lt Nat.and_le_left (p_lt m):(m.p&&&(255 - m.code 0))<256)]
theorem x8D(h:Ok m):evF FT (k+2) y5H [.cpu] (aA m)=some (.non,aA ((m.skip 1).flags (m.p|||m.code 0))):=by
 rw[x6X,zP]
 simp_arith only[jE,cK h,c_or,kB (ok_skip h 1) (show m.p|||m.code 0<256 from Nat.or_lt_two_pow (n:=8) (p_lt m) (gG h.mem 0))]
theorem rV(h:Ok m){v:Nat}{u:U}{w:Bool}(hv:v<span w)(hu:tru u=some (!w))(hs:u.stays=true):evF FT (k+3) z1R [.cpu,.int v,u] (aA m)=some (.non,aA (m.pushWide w v)):=by
 rw[z2b,rM]
 unfold St.pushWide
 cases w with
 |true=>simp_arith only[hu,hs,Bool.not_true,iC h hv]
 |false=>simp_arith only[hu,hs,Bool.not_false,fZ h hv]
theorem rT(h:Ok m){u:U}{w:Bool}(hu:tru u=some (!w))(hs:u.stays=true):evF FT (k+4) z1Q [.cpu,u] (aA m)=some (.int (m.pullWide w).1,aA (m.pullWide w).2):=by
 rw[z2a,rK]
 unfold St.pullWide
 cases w with
 |true=>simp_arith only[hu,hs,Bool.not_true,kD h]
 |false=>simp_arith only[hu,hs,Bool.not_false,gR h]
theorem kF(v:Nat):m.push2 (v % 65536)=m.push2 v:=by
 unfold St.push2
 have e1:v % 65536 / 256 % 256=v / 256 % 256:=by omega
 have e2:v % 65536 % 256=v % 256:=by omega
 rw[←kJ (v % 65536 / 256),e1,kJ,←kJ (v % 65536),e2,kJ]
theorem z2H(w:Bool)(v:Nat):m.pushWide w (v % span w)=m.pushWide w v:=by
 unfold St.pushWide
 cases w with
 |true=>rw[wY];exact kF v
 |false=>rw[y0o];exact kJ v
theorem x8i(h:Ok m):evF FT (k+4) y5l [.cpu] (aA m)=some (.non,aA (m.pushWide (!m.fm) m.a)):=by
 rw[x6A,yS,←z2H]
 simp_arith only[iB h,rV h (nE m) hW bX]
theorem x_lt(h:Ok m):m.x<span (!m.fx):=by
 cases e:m.fx with
 |true=>exact(h.nx e).1
 |false=>exact h.x
theorem y_lt(h:Ok m):m.y<span (!m.fx):=by
 cases e:m.fx with
 |true=>exact(h.nx e).2
 |false=>exact h.y
theorem x8n(h:Ok m):evF FT (k+4) y5q [.cpu] (aA m)=some (.non,aA (m.pushWide (!m.fx) m.x)):=by
 rw[x6F,yX]
 simp_arith only[rV h (x_lt h) gN bX]
theorem x8o(h:Ok m):evF FT (k+4) y5r [.cpu] (aA m)=some (.non,aA (m.pushWide (!m.fx) m.y)):=by
 rw[x6G,yY]
 simp_arith only[rV h (y_lt h) gN bX]
theorem oQ(h:Ok m):m.pull.2={ m with s:=if m.emu=true then 256+(m.s+1) % 65536 % 256 else (m.s+1) % 65536 }:=by
 rw[lR h]
 show (({ m with s:=(m.s+1) % 65536 }).tidy)=_
 exact mC h _
theorem wG(h:Ok m):m.pull.2.fx=m.fx:=by rw[oQ h]
theorem uV(h:Ok m):m.pull.2.emu=m.emu:=by rw[oQ h]
theorem z0R(h:Ok m)(w:Bool):(m.pullWide w).2.fx=m.fx:=by
 unfold St.pullWide
 cases w with
 |true=>show m.pull.2.pull.2.fx=m.fx;rw[wG (cJ h),wG h]
 |false=>exact wG h
theorem x8p(h:Ok m):evF FT (k+5) y5s [.cpu] (aA m)=some (.non,aA ((m.pullWide (!m.fm)).2.lda (m.pullWide (!m.fm)).1)):=by
 rw[x6H,yZ]
 simp_arith only[rT (w:=!m.fm) h hW bX,dZ (nO h (!m.fm)),bL,gH]
theorem y6q{n:St}{b:Bool}(e:n.fx=b)(z:Int):evF FT (k+1) oM [.cpu,.int z,.int ((bit b 16:Nat):Int)] (aA n)=some (.int (cut (!n.fx) z),aA (n.nz (!n.fx) (cut (!n.fx) z))):=by
 subst e
 exact fD z
theorem x8t(h:Ok m):evF FT (k+5) y5w [.cpu] (aA m)=some (.non,aA ((m.pullWide (!m.fx)).2.ldx (m.pullWide (!m.fx)).1)):=by
 rw[x6L,zD,←jP]
 simp_arith only[rT (w:=!m.fx) h gN bX,y6q (z0R h (!m.fx)),bL]
theorem x8u(h:Ok m):evF FT (k+5) y5x [.cpu] (aA m)=some (.non,aA ((m.pullWide (!m.fx)).2.ldy (m.pullWide (!m.fx)).1)):=by
 rw[x6M,zE,←kS]
 simp_arith only[rT (w:=!m.fx) h gN bX,y6q (z0R h (!m.fx)),bL]
theorem x8m(h:Ok m):evF FT (k+2) y5p [.cpu] (aA m)=some (.non,aA (m.push m.p)):=by
 rw[x6E,yW]
 simp_arith only[jE,fZ h (p_lt m)]
theorem x8s(h:Ok m):evF FT (k+3) y5v [.cpu] (aA m)=some (.non,aA (m.pull.2.flags m.pull.1)):=by
 rw[x6K,zC]
 simp_arith only[gR h,kB (cJ h) (pull_lt h)]
theorem x8k(h:Ok m):evF FT (k+3) y5n [.cpu] (aA m)=some (.non,aA (m.push2 m.d)):=by
 rw[x6C,yU]
 simp_arith only[iC h h.d]
theorem x8r(h:Ok m):evF FT (k+4) y5u [.cpu] (aA m)=some (.non,aA (({ m.pull2.2 with d:=m.pull2.1 }).nz true m.pull2.1)):=by
 rw[x6J,zB]
 simp_arith only[kD h,nP (pull2_lt h)]
theorem x8j(h:Ok m):evF FT (k+2) y5m [.cpu] (aA m)=some (.non,aA (m.push m.db)):=by
 rw[x6B,yT]
 simp_arith only[fZ h h.db]
theorem x8q(h:Ok m):evF FT (k+3) y5t [.cpu] (aA m)=some (.non,aA (({ m.pull.2 with db:=m.pull.1 }).nz false m.pull.1)):=by
 rw[x6I,zA]
 simp_arith only[gR h,z0U (pull_lt h)]
theorem x8l(h:Ok m):evF FT (k+2) y5o [.cpu] (aA m)=some (.non,aA (m.push m.pb)):=by
 rw[x6D,yV]
 simp_arith only[fZ h h.pb]
theorem x8g(h:Ok m):evF FT (k+3) y5i [.cpu] (aA m)=some (.non,aA ((m.skip 2).push2 m.code2)):=by
 rw[x6x,yP]
 simp_arith only[eS h,iC (ok_skip h 2) (nZ h.mem)]
theorem x8h(h:Ok m):evF FT (k+3) y5k [.cpu] (aA m)=some (.non,aA ((m.skip 2).push2 (((m.skip 2).pc+m.code2) % 65536))):=by
 rw[x6z,yR]
 simp_arith only[eS h,iC (ok_skip h 2) (dY _)]
theorem x3r(h:Ok m){i j:Nat}(hi:i<16777216)(hj:j<16777216):evF FT (k+3) y5j [.cpu,.pair i j] (aA m)=some (.non,aA (m.push2 (m.mem i+256 * m.mem j))):=by
 have e1:tru (.bl false)=some (!true):=rfl
 have h1:=uY h true i j
 rw[x6y,yQ]
 simp_arith only[nJ h hi hj e1 hU,iC h h1]
 rfl
variable{m:St}{k:Nat}
theorem y6i{a:Nat}:cop .lt (a:Int) 128=decide (a<128):=decide_eq_decide.mpr (by omega)
theorem y9s{p a:Nat}(h:¬ a<128):Builtin.bitAnd ((p:Int)+((a:Int) - 256)) 65535=(((p+(a+65280)) % 65536:Nat):Int):=by
 rw[PyProof.Rows.bitAnd_m16]
 omega
theorem z9D(m:St)(a b:Nat)(h:a=b):({ m with pc:=a }:St)={ m with pc:=b }:=by rw[h]
theorem z2T(m:St):m.branch true=(m.skip 1).skip (signed (m.code 0)):=Eq.trans rfl rfl
theorem z8q(m:St):m.branch false=m.skip 1:=Eq.trans rfl rfl
theorem gY(h:Ok m){u:U}{t:Bool}(hu:tru u=some t)(hs:u.stays=true):evF FT (k+1) z8F [.cpu,u] (aA m)=some (.non,aA (m.branch t)):=by
 have hpc:=h.pc
 rw[y0y,uG]
 cases t with
 |false=>
  rw[z8q]
  simp_arith only[hu,hs]
  rfl
 |true=>
  have e0:m.code 0=m.mem (m.pb * 65536+m.pc):=by rw[lM h,Nat.add_zero,Nat.mod_eq_of_lt hpc]
  by_cases hb:m.mem (m.pb * 65536+m.pc)<128
  ·have e1:cop .lt ((m.mem (m.pb * 65536+m.pc):Nat):Int) 128=true:=by rw[y6i];exact decide_eq_true hb
   have e2:(m.skip 1).skip (signed (m.code 0))={ m with pc:=(m.pc+1+m.mem (m.pb * 65536+m.pc)) % 65536 }:=by
    rw[nW,e0]
    unfold signed St.skip
    rw[if_pos hb,dX]
    exact z9D m _ _ (by omega)
   rw[z2T,e2]
   simp_arith only[hu,hs,iK h.pb,fJ hpc,e1]
  ·have e1:cop .lt ((m.mem (m.pb * 65536+m.pc):Nat):Int) 128=false:=by rw[y6i];exact decide_eq_false hb
   have e2:(m.skip 1).skip (signed (m.code 0))={ m with pc:=(m.pc+1+(m.mem (m.pb * 65536+m.pc)+65280)) % 65536 }:=by
    rw[nW,e0]
    unfold signed St.skip
    rw[if_neg hb,dX]
    exact z9D m _ _ (by omega)
   rw[z2T,e2]
   simp_arith only[hu,hs,iK h.pb,fJ hpc,e1,y9s hb]
theorem x7L(h:Ok m):evF FT (k+2) y4M [.cpu] (aA m)=some (.non,aA (m.branch (!m.fn))):=by
 rw[x5R,xJ]
 simp_arith only[gY h qb hU]
theorem x7J(h:Ok m):evF FT (k+2) y4K [.cpu] (aA m)=some (.non,aA (m.branch m.fn)):=by
 rw[x5P,xH]
 simp_arith only[gY h q128 bX]
theorem x7P(h:Ok m):evF FT (k+2) y4Q [.cpu] (aA m)=some (.non,aA (m.branch (!m.fv))):=by
 rw[x5V,xN]
 simp_arith only[gY h qb hU]
theorem x7Q(h:Ok m):evF FT (k+2) y4R [.cpu] (aA m)=some (.non,aA (m.branch m.fv)):=by
 rw[x5W,xO]
 simp_arith only[gY h q64 bX]
theorem x7G(h:Ok m):evF FT (k+2) y4G [.cpu] (aA m)=some (.non,aA (m.branch (!m.fc))):=by
 rw[x5L,xD]
 simp_arith only[gY h qb hU]
theorem x7H(h:Ok m):evF FT (k+2) y4H [.cpu] (aA m)=some (.non,aA (m.branch m.fc)):=by
 rw[x5M,xE]
 simp_arith only[gY h q1 bX]
theorem x7K(h:Ok m):evF FT (k+2) y4L [.cpu] (aA m)=some (.non,aA (m.branch (!m.fz))):=by
 rw[x5Q,xI]
 simp_arith only[gY h qb hU]
theorem x7I(h:Ok m):evF FT (k+2) y4I [.cpu] (aA m)=some (.non,aA (m.branch m.fz)):=by
 rw[x5N,xF]
 simp_arith only[gY h q2 bX]
theorem x7M(h:Ok m):evF FT (k+2) y4N [.cpu] (aA m)=some (.non,aA (m.branch true)):=by
 rw[x5S,xK]
 simp_arith only[gY h qb hU]
theorem x7O(h:Ok m):evF FT (k+2) y4P [.cpu] (aA m)=some (.non,aA ((m.skip 2).skip m.code2)):=by
 rw[x5U,xM]
 simp_arith only[eS h]
 rfl
noncomputable def tgt(m:St):Nat:=m.rd (m.pb * W+(m.code2+m.x) % W)+256 * m.rd (m.pb * W+((m.code2+m.x) % W+1) % W)
theorem y8K(h:Ok m):tgt m=m.mem (m.pb * 65536+(m.code2+m.x) % 65536)+m.mem (m.pb * 65536+(m.code2+m.x+1) % 65536) * 256:=by
 have h1:=h.pb
 have e:((m.code2+m.x) % 65536+1) % 65536=(m.code2+m.x+1) % 65536:=by omega
 unfold tgt
 rw[dX,e,iH (by omega),iH (by omega),Nat.mul_comm 256]
theorem x5B(m:St)(i:Nat):(m.skip i).pb=m.pb:=(Eq.refl m.pb).trans rfl
theorem y0g(m:St)(i j:Nat):(m.skip i).mem j=m.mem j:=(Eq.refl (m.mem j)).trans rfl
theorem z0a(h:Ok m):evF FT (k+2) z0I [.cpu] (aA m)=some (.int (tgt m),aA (m.skip 2)):=by
 rw[z0M,qR,y8K h]
 simp_arith only[eS h,dF,x5B,iK h.pb,fJ (dY _),y0g,lU (mQ h _)]
theorem vE(t:Nat):evF FT (k+1) z8K [.cpu,.int t] (aA m)=some (.non,aA { m with pb:=t / 65536,pc:=t % 65536 }):=by
 rw[y0z,uH]
 simp_arith only[eX]
theorem y4w(h:Ok m):evF FT (k+2) z5P [.cpu] (aA m)=some (.non,aA { m with pc:=m.code2 }):=by
 rw[y4b,vM]
 simp_arith only[eS h]
 rfl
theorem y0Q(h:Ok m):evF FT (k+2) z3e [.cpu] (aA m)=some (.non,aA { m with pc:=m.rd2 (zero m.code2) }):=by
 rw[y0B,uJ]
 simp_arith only[eS h,hZ (ok_skip h 2),lI]
 rfl
theorem z7H(h:Ok m):evF FT (k+3) z2n [.cpu] (aA m)=some (.non,aA { m with pc:=tgt m }):=by
 rw[z7v,tL]
 simp_arith only[z0a h]
 rfl
theorem y0P(h:Ok m):evF FT (k+3) z3d [.cpu] (aA m)=some (.non,aA { m with pc:=m.code3 % 65536,pb:=m.code3 / 65536 }):=by
 rw[y0A,uI]
 simp_arith only[nQ h,vE]
 rfl
theorem z7G(h:Ok m):evF FT (k+3) z2m [.cpu] (aA m)=some (.non,aA { m with pc:=m.rd3 (zero m.code2) % 65536,pb:=m.rd3 (zero m.code2) / 65536 }):=by
 rw[z7u,tK]
 simp_arith only[eS h,rS (ok_skip h 2),uX,vE]
 rfl
theorem qT(h:Ok m):evF FT (k+3) z0J [.cpu] (aA m)=some (.non,aA (m.push2 (m.pc+65535))):=by
 rw[z0N,qS]
 simp_arith only[iC h (dY _),kF]
theorem wH(h:Ok m)(v c:Nat)(hc:c<65536):({ m with pc:=c }:St).push v={ m.push v with pc:=c }:=by
 rw[oR h,oR (eZ h hc)]
 rfl
theorem z3E(h:Ok m)(v c:Nat)(hc:c<65536):({ m with pc:=c }:St).push2 v={ m.push2 v with pc:=c }:=by
 unfold St.push2
 rw[wH h _ _ hc,wH (dI h _) _ _ hc]
theorem z6i(h:Ok m)(c:Nat)(hc:c<65536):({ m with pc:=c }:St).pull=(m.pull.1,{ m.pull.2 with pc:=c }):=by
 have e1:=oQ h
 have e2:=oQ (eZ h hc)
 have e3:({ m with pc:=c }:St).pull.1=m.pull.1:=by
  rw[lR h,lR (eZ h hc)]
  show St.mem _ _=St.mem _ _
  rw[mC h,mC (eZ h hc)]
 have e4:({ m with pc:=c }:St).pull.2={ m.pull.2 with pc:=c }:=by rw[e1,e2]
 rw[←e3,←e4]
theorem z6l(m:St)(j:Nat):m.skip j={ m with pc:=(m.pc+j) % 65536 }:=Eq.trans rfl rfl
theorem z9d(h:Ok m)(t:Nat):({ (m.skip 2).push2 ((m.skip 2).pc+65535) with pc:=t }:St)={ m.push2 (m.pc+1) with pc:=t }:=by
 have e:((m.pc+2) % 65536+65535) % 65536=(m.pc+1) % 65536:=by omega
 rw[z6l,z3E h _ _ (dY _)]
 show ({ m.push2 ((m.pc+2) % 65536+65535) with pc:=t }:St)=_
 rw[←kF ((m.pc+2) % 65536+65535),e,kF]
theorem y4x(h:Ok m):evF FT (k+4) z5Q [.cpu] (aA m)=some (.non,aA { m.push2 (m.pc+1) with pc:=m.code2 }):=by
 rw[y4c,vN,←z9d h]
 simp_arith only[eS h,qT (ok_skip h 2)]
theorem z7I(h:Ok m):evF FT (k+4) z2o [.cpu] (aA m)=some (.non,aA { m.push2 (m.pc+1) with pc:=tgt m }):=by
 rw[z7w,tN,←z9d h]
 simp_arith only[z0a h,qT (ok_skip h 2)]
theorem z3F(h:Ok m)(v:Nat):(m.push v).pc=m.pc:=by rw[oR h];rfl
theorem y7I(h:Ok m)(a b:Nat):({ ((m.skip 3).push (m.skip 3).pb).push2 (((m.skip 3).push (m.skip 3).pb).pc+65535) with pb:=a,pc:=b }:St)={ (m.push m.pb).push2 (m.pc+2) with pc:=b,pb:=a }:=by
 have e:((m.pc+3) % 65536+65535) % 65536=(m.pc+2) % 65536:=by omega
 rw[z3F (ok_skip h 3),z6l,wH h _ _ (dY _),z3E (dI h _) _ _ (dY _)]
 show ({ (m.push m.pb).push2 ((m.pc+3) % 65536+65535) with pb:=a,pc:=b }:St)=_
 rw[←kF ((m.pc+3) % 65536+65535),e,kF]
theorem x8b(h:Ok m):evF FT (k+4) y5d [.cpu] (aA m)=some (.non,aA { (m.push m.pb).push2 (m.pc+2) with pc:=m.code3 % 65536,pb:=m.code3 / 65536 }):=by
 have h3:=ok_skip h 3
 rw[x6n,yF,←y7I h]
 simp_arith only[nQ h,fZ h3 h3.pb,qT (dI h3 _),vE]
theorem x8y(h:Ok m):evF FT (k+4) y5D [.cpu] (aA m)=some (.non,aA { m.pull2.2 with pc:=(m.pull2.1+1) % 65536 }):=by
 rw[x6S,zK]
 simp_arith only[kD h]
theorem x8x(h:Ok m):evF FT (k+4) y5C [.cpu] (aA m)=some (.non,aA { m.pull2.2.pull.2 with pc:=(m.pull2.1+1) % 65536,pb:=m.pull2.2.pull.1 }):=by
 rw[x6R,zJ]
 simp_arith only[kD h,gR (eZ (fE h) (dY _)),z6i (fE h) _ (dY _)]
variable{m:St}{k:Nat}
noncomputable def kW(m:St)(p v:Nat):St:=
 let u:=((if m.emu=true then m else m.push m.pb).push2 m.pc).push p
 { u with fi:=true,fd:=false,pb:=0,pc:=u.rd2 (zero v) }
theorem y3m(h:Ok m):Ok { m with fi:=true,fd:=false,pb:=0 }:=⟨h.a,h.x,h.y,h.d,h.s,h.pc,by show 0<256;decide,h.db,h.mem,h.nx,h.em⟩
theorem y0W(h:Ok m)(v:Nat):evF FT (k+1) qQ [.cpu,.int v] (aA { m with fi:=true,fd:=false,pb:=0 })=some (.int (m.rd2 (zero v)),aA { m with fi:=true,fd:=false,pb:=0 }):=hZ (y3m h) v
theorem kC(h:Ok m){p v:Nat}(hp:p<256):evF FT (k+3) z3c [.cpu,.int p,.int v] (aA m)=some (.non,aA (kW m p v)):=by
 rw[z4b,sA]
 unfold kW
 cases e:m.emu with
 |true=>
  have h1:=gE h m.pc
  simp_arith only[e,Bool.not_true,iC h h.pc,fZ h1 hp,z8Q,y0W (dI h1 p)]
 |false=>
  have h0:=dI h m.pb
  have h1:=gE h0 m.pc
  simp_arith only[e,Bool.not_false,fZ h h.pb,z3F h,iC h0 h.pc,fZ h1 hp,z8Q,y0W (dI h1 p)]
theorem f_x0:∀ n v m x d i z c:Bool,Builtin.bitAnd (pp n v m x d i z c) (Builtin.bitNot 16)=pp n v m false d i z c:=by decide +kernel
theorem p_x0(e:m.fx=true):pp m.fn m.fv m.fm false m.fd m.fi m.fz m.fc=((m.p - 16:Nat):Int):=by
 have:∀ n v mm d i z c:Bool,pp n v mm false d i z c=(((bit n 128+(bit v 64+(bit mm 32+(bit true 16+(bit d 8+(bit i 4+(bit z 2+bit c 1))))))) - 16:Nat):Int):=by decide +kernel
 rw[this]
 unfold St.p
 rw[e]
theorem z2D(h:Ok m){v w:Nat}:evF FT (k+4) z0m [.cpu,.int v,.int w] (aA m)=some (.non,aA (m.interrupt v w false)):=by
 have hp:=p_lt m
 rw[z0r,qM]
 unfold St.interrupt
 cases e:m.emu with
 |true=>
  have hx:=(h.em e).2.1
  simp_arith only[e,f_x0,p_x0 hx,kC h (show m.p - 16<256 by omega)]
  unfold kW
  simp only[e,if_true]
 |false=>
  simp_arith only[e,jE,kC h hp]
  unfold kW
  simp only[e,Bool.false_eq_true,if_false]
theorem x8e(h:Ok m):evF FT (k+5) mO [.cpu] (aA m)=some (.non,aA (m.interrupt 65514 65530 false)):=by
 have:=z2D (k:=k) h (v:=65514) (w:=65530)
 rw[x6u,yM]
 simp_arith only[eX]
 rw[show evF FT (k+4) 15 [U.cpu,U.int 65514,U.int 65530] (aA m)=_ from this,jJ]
theorem x8a(h:Ok m):evF FT (k+5) mM [.cpu] (aA m)=some (.non,aA (m.interrupt 65518 65534 false)):=by
 have:=z2D (k:=k) h (v:=65518) (w:=65534)
 rw[x6m,yE]
 simp_arith only[eX]
 rw[show evF FT (k+4) 15 [U.cpu,U.int 65518,U.int 65534] (aA m)=_ from this,jJ]
theorem z6m(m:St)(v w:Nat):m.interrupt v w true=kW m m.p (if m.emu=true then w else v):=by
 unfold St.interrupt kW
 cases m.emu <;> rfl
theorem x7N(h:Ok m):evF FT (k+4) y4O [.cpu] (aA m)=some (.non,aA ((m.skip 1).interrupt 65510 65534 true)):=by
 have h1:=ok_skip h 1
 have t1:=kC (k:=k) h1 (p:=(m.skip 1).p) (v:=65510) (p_lt _)
 have t2:=kC (k:=k) h1 (p:=(m.skip 1).p) (v:=65534) (p_lt _)
 rw[x5T,xL,z6m]
 cases e:(m.skip 1).emu with
 |true=>
  simp_arith only[cK h,e,jE]
  rw[show evF FT (k+3) 14 [U.cpu,U.int ((m.skip 1).p:Int),U.int 65534] (aA (m.skip 1))=_ from t2,jJ]
 |false=>
  simp_arith only[cK h,e,jE]
  rw[show evF FT (k+3) 14 [U.cpu,U.int ((m.skip 1).p:Int),U.int 65510] (aA (m.skip 1))=_ from t1,jJ]
theorem x7V(h:Ok m):evF FT (k+4) y4W [.cpu] (aA m)=some (.non,aA ((m.skip 1).interrupt 65508 65524 true)):=by
 have h1:=ok_skip h 1
 have t1:=kC (k:=k) h1 (p:=(m.skip 1).p) (v:=65508) (p_lt _)
 have t2:=kC (k:=k) h1 (p:=(m.skip 1).p) (v:=65524) (p_lt _)
 rw[x6c,xU,z6m]
 cases e:(m.skip 1).emu with
 |true=>
  simp_arith only[cK h,e,jE]
  rw[show evF FT (k+3) 14 [U.cpu,U.int ((m.skip 1).p:Int),U.int 65524] (aA (m.skip 1))=_ from t2,jJ]
 |false=>
  simp_arith only[cK h,e,jE]
  rw[show evF FT (k+3) 14 [U.cpu,U.int ((m.skip 1).p:Int),U.int 65508] (aA (m.skip 1))=_ from t1,jJ]
theorem z6F(h:Ok m)(p:Nat):(m.flags p).emu=m.emu:=by rw[z3o h];rfl
theorem y3P(h:Ok m):((m.pull.2.flags m.pull.1).pull2).2.emu=m.emu:=by
 have h1:=jH (cJ h) m.pull.1
 show ((m.pull.2.flags m.pull.1).pull.2.pull).2.emu=m.emu
 rw[uV (cJ h1),uV h1,z6F (cJ h),uV h]
theorem x8w(h:Ok m):evF FT (k+4) y5B [.cpu] (aA m)=some (.non,aA (m.act "RTI" "")):=by
 have h1:=jH (cJ h) m.pull.1
 have h2:=fE h1
 have e0:=y3P h
 have ea:m.act "RTI" ""=if m.emu=true then { (m.pull.2.flags m.pull.1).pull2.2 with pc:=(m.pull.2.flags m.pull.1).pull2.1 } else { (m.pull.2.flags m.pull.1).pull2.2.pull.2 with pc:=(m.pull.2.flags m.pull.1).pull2.1,pb:=(m.pull.2.flags m.pull.1).pull2.2.pull.1 }:=by rfl
 rw[x6Q,zI,ea]
 cases e:m.emu with
 |true=>
  rw[e] at e0
  simp_arith only[gR h,kB (cJ h) (pull_lt h),kD h1,e0,e,Bool.not_true]
 |false=>
  rw[e] at e0
  have key:=gR (k:=k+1) (eZ h2 (pull2_lt h1))
  rw[z6i h2 _ (pull2_lt h1)] at key
  simp only[e0] at key
  simp_arith only[gR h,kB (cJ h) (pull_lt h),kD h1,e0,e,Bool.not_false,key]
theorem x8U(h:Ok m):evF FT (k+2) y6c [.cpu] (aA m)=some (.non,aA (m.skip 1)):=by
 rw[x7s,z8k]
 simp_arith only[cK h]
theorem x8f:evF FT (k+1) y5h [.cpu] (aA m)=some (.non,aA m):=by
 rw[x6v,yN]
 simp_arith only[eX]
theorem x8T:evF FT (k+1) y6b [.cpu] (aA m)=some (.non,aA { m with waits:=true }):=by
 rw[x7r,z8j]
 simp_arith only[eX]
theorem x8G:evF FT (k+1) y5J [.cpu] (aA m)=some (.non,aA { m with stopped:=true }):=by
 rw[x6Z,zR]
 simp_arith only[eX]
theorem mk_x:evF FT (k+1) lG [.int ((bit m.fx 16:Nat):Int)] (aA m)=some (.int (if (!m.fx)=true then 65535 else 255),aA m):=z2C gN
theorem z8u(w:Bool)(x d:Nat){z:Int}(hz:z=1∧d=1∨z=-1∧d=65535):Builtin.bitAnd ((x:Int)+z) (if w=true then 65535 else 255)=(((x+d) % span w:Nat):Int):=by
 cases w with
 |true=>
  show Builtin.bitAnd ((x:Int)+z) 65535=(((x+d) % 65536:Nat):Int)
  rw[PyProof.Rows.bitAnd_m16]
  omega
 |false=>
  show Builtin.bitAnd ((x:Int)+z) 255=(((x+d) % 256:Nat):Int)
  rw[PyProof.Rows.bitAnd_m8]
  omega
theorem y7q(a:Nat):Builtin.bitAnd ((a:Int) - 3) 65535=(((a+65533) % 65536:Nat):Int):=by rw[PyProof.Rows.bitAnd_m16];omega
noncomputable def mvb(m:St)(d:Nat):St:=
 { m.wr (m.code 0 * 65536+m.y) (m.mem (m.code 1 * 65536+m.x)) with x:=(m.x+d) % span (!m.fx),y:=(m.y+d) % span (!m.fx),a:=(m.a+65535) % 65536,db:=m.code 0,pc:=if m.a=0 then (m.pc+2) % 65536 else (m.pc+65535) % 65536 }
theorem w_fx(m:St)(i a v:Nat):((m.skip i).wr a v).fx=m.fx:=Eq.trans rfl rfl
theorem w_x(m:St)(i a v:Nat):((m.skip i).wr a v).x=m.x:=Eq.trans rfl rfl
theorem w_y(m:St)(i a v:Nat):((m.skip i).wr a v).y=m.y:=Eq.trans rfl rfl
theorem w_a(m:St)(i a v:Nat):((m.skip i).wr a v).a=m.a:=Eq.trans rfl rfl
theorem w_pc(m:St)(i a v:Nat):((m.skip i).wr a v).pc=(m.pc+i) % 65536:=Eq.trans rfl rfl
theorem z0T(h:Ok m){z:Int}{d:Nat}(hz:z=1∧d=1∨z=-1∧d=65535):evF FT (k+2) z3f [.cpu,.int z] (aA m)=some (.non,aA (mvb m d)):=by
 have h1:=ok_skip h 1
 have c0:=gG h.mem 0
 have c1:=gG h.mem 1
 have hx:=h.x
 have hy:=h.y
 have hb:m.code 0 * 65536+m.y<16777216:=by omega
 have e1:((m.skip 1).skip 1)=m.skip 2:=nW m 1 1
 have mk:evF FT (k+1) lG [.int ((bit m.fx 16:Nat):Int)] (aA ((m.skip 2).wr (m.code 0 * 65536+m.y) (m.mem (m.code 1 * 65536+m.x))))=some (.int (if (!m.fx)=true then 65535 else 255),aA ((m.skip 2).wr (m.code 0 * 65536+m.y) (m.mem (m.code 1 * 65536+m.x)))):=mk_x (m:=(m.skip 2).wr (m.code 0 * 65536+m.y) (m.mem (m.code 1 * 65536+m.x)))
 rw[z4c,sB]
 simp_arith only[cK h,cK h1,z2k,e1,fG (z2j h 0),dN,dF,iK c1,fJ hx,y0g,wU hb,to_n,tw hb (h.mem _)]
 simp_arith only[w_fx,mk,w_x,w_y,w_a,w_pc,z8u (!m.fx) m.x d hz,z8u (!m.fx) m.y d hz,mZ]
 unfold mvb
 cases e:(m.a==0) with
 |true=>
  have e0:m.a=0:=by simpa using e
  rw[if_pos e0]
  simp_arith only[Bool.not_true]
  rfl
 |false=>
  have e0:¬ m.a=0:=by simpa using e
  have e5:((m.pc+2) % 65536+65533) % 65536=(m.pc+65535) % 65536:=by omega
  rw[if_neg e0]
  simp_arith only[Bool.not_false,y7q,w_pc,w_a,e5]
  rfl
theorem x8c(h:Ok m):evF FT (k+3) y5f [.cpu] (aA m)=some (.non,aA (mvb m 1)):=by
 rw[x6s,yK]
 simp_arith only[z0T h (z:=1) (d:=1) (.inl ⟨rfl,rfl⟩)]
theorem x8d(h:Ok m):evF FT (k+3) y5g [.cpu] (aA m)=some (.non,aA (mvb m 65535)):=by
 rw[x6t,yL]
 simp_arith only[z0T h (z:=-1) (d:=65535) (.inr ⟨rfl,rfl⟩)]
variable{m:St}{k:Nat}
theorem wP(a:Nat):Builtin.bitAnd (a:Int) 15=((a % 16:Nat):Int):=by rw[PyProof.Rows.bitAnd_m4];omega
theorem kA(i:Nat):(2:Int) ^ (4 * i)=((16 ^ i:Nat):Int):=by
 rw[Int.pow_mul]
 show (16:Int) ^ i=_
 rw[Int.natCast_pow]
 rfl
theorem dig(a i:Nat):Builtin.bitAnd ((a:Int) / 2 ^ (4 * i)) 15=((a / 16 ^ i % 16:Nat):Int):=by
 rw[kA,←Int.natCast_ediv,wP]
noncomputable def dn(n a b c:Nat):Nat:=(tens n a b c).1+(tens n a b c).2 * 16 ^ n
theorem y2P(n a b c:Nat):dn (n+1) a b c=(if 9<a % 16+b % 16+c then (a % 16+b % 16+c+6) % 16 else a % 16+b % 16+c)+16 * dn n (a / 16) (b / 16) (if 9<a % 16+b % 16+c then 1 else 0):=by
 unfold dn
 show (if 9<a % 16+b % 16+c then (a % 16+b % 16+c+6) % 16 else a % 16+b % 16+c)+16 * (tens n (a / 16) (b / 16) (if 9<a % 16+b % 16+c then 1 else 0)).1+(tens n (a / 16) (b / 16) (if 9<a % 16+b % 16+c then 1 else 0)).2 * 16 ^ (n+1)=_
 rw[Nat.pow_succ,Nat.mul_add,Nat.mul_comm (16 ^ n) 16,←Nat.mul_assoc,Nat.mul_comm _ 16,Nat.mul_assoc,Nat.add_assoc]
theorem vZ:∀(n a b i c t:Nat),dsF a b n i t c=((t+16 ^ i * dn n (a / 16 ^ i) (b / 16 ^ i) c:Nat):Int)
 |0,a,b,i,c,t=>by
  show (t:Int)+(c:Int) * 2 ^ (4 * i)=_
  rw[kA]
  show _=((t+16 ^ i * (0+c * 16 ^ 0):Nat):Int)
  rw[Nat.pow_zero,Nat.mul_one,Nat.zero_add,Nat.mul_comm]
  rfl
 |n+1,a,b,i,c,t=>by
  unfold dsF
  rw[dig,dig]
  have e1:((a / 16 ^ i % 16:Nat):Int)+((b / 16 ^ i % 16:Nat):Int)+(c:Int)=((a / 16 ^ i % 16+b / 16 ^ i % 16+c:Nat):Int):=by omega
  rw[e1,y2P]
  have ea:a / 16 ^ i / 16=a / 16 ^ (i+1):=by rw[Nat.div_div_eq_div_mul,Nat.pow_succ]
  have eb:b / 16 ^ i / 16=b / 16 ^ (i+1):=by rw[Nat.div_div_eq_div_mul,Nat.pow_succ]
  rw[ea,eb]
  generalize hs:a / 16 ^ i % 16+b / 16 ^ i % 16+c=s
  by_cases h:9<s
  ·have h':(9:Int)<(s:Int):=by omega
   rw[if_pos h',if_pos h',if_pos h,if_pos h]
   have e2:(s:Int)+6=((s+6:Nat):Int):=by omega
   rw[e2,wP,kA]
   have e3:(t:Int)+(((s+6) % 16:Nat):Int) * ((16 ^ i:Nat):Int)=((t+(s+6) % 16 * 16 ^ i:Nat):Int):=by rw[Int.natCast_add,Int.natCast_mul]
   have:=vZ n a b (i+1) 1 (t+(s+6) % 16 * 16 ^ i)
   rw[e3]
   refine Eq.trans this ?_
   congr 1
   rw[Nat.pow_succ,Nat.mul_add,Nat.mul_assoc,Nat.mul_comm (16 ^ i) ((s+6) % 16),Nat.add_assoc]
  ·have h':¬(9:Int)<(s:Int):=by omega
   rw[if_neg h',if_neg h',if_neg h,if_neg h]
   have e4:s % 16=s:=by omega
   rw[wP,kA,e4]
   have e3:(t:Int)+(s:Int) * ((16 ^ i:Nat):Int)=((t+s * 16 ^ i:Nat):Int):=by rw[Int.natCast_add,Int.natCast_mul]
   have:=vZ n a b (i+1) 0 (t+s * 16 ^ i)
   rw[e3]
   refine Eq.trans this ?_
   congr 1
   rw[Nat.pow_succ,Nat.mul_add,Nat.mul_assoc,Nat.mul_comm (16 ^ i) s,Nat.add_assoc]
theorem z6q:∀(n a b c:Nat),(tens n a b c).1<16 ^ n∧(c≤1→(tens n a b c).2≤1)
 |0,a,b,c=>⟨by show 0<1;decide,fun h=>h⟩
 |n+1,a,b,c=>by
  obtain⟨h1,h2⟩:=z6q n (a / 16) (b / 16) (if 9<a % 16+b % 16+c then 1 else 0)
  constructor
  ·show (if 9<a % 16+b % 16+c then (a % 16+b % 16+c+6) % 16 else a % 16+b % 16+c)+16 * (tens n (a / 16) (b / 16) (if 9<a % 16+b % 16+c then 1 else 0)).1<16 ^ (n+1)
   have h3:(if 9<a % 16+b % 16+c then (a % 16+b % 16+c+6) % 16 else a % 16+b % 16+c)<16:=by split <;> omega
   rw[Nat.pow_succ]
   omega
  ·intro _
   exact h2 (by split <;> decide)
noncomputable def dm(n a b c:Nat):Nat:=(tensLess n a b c).1+(1 - (tensLess n a b c).2) * 16 ^ n
theorem y2O(n a b c:Nat):dm (n+1) a b c=(if a % 16<b % 16+c then (a % 16+26 - (b % 16+c)) % 16 else a % 16 - (b % 16+c))+16 * dm n (a / 16) (b / 16) (if a % 16<b % 16+c then 1 else 0):=by
 unfold dm
 show (if a % 16<b % 16+c then (a % 16+26 - (b % 16+c)) % 16 else a % 16 - (b % 16+c))+16 * (tensLess n (a / 16) (b / 16) (if a % 16<b % 16+c then 1 else 0)).1+(1 - (tensLess n (a / 16) (b / 16) (if a % 16<b % 16+c then 1 else 0)).2) * 16 ^ (n+1)=_
 rw[Nat.pow_succ,Nat.mul_add,Nat.mul_comm (16 ^ n) 16,←Nat.mul_assoc,Nat.mul_comm _ 16,Nat.mul_assoc,Nat.add_assoc]
theorem vY:∀(n a b i c t:Nat),c≤1→ddF a b n i t ((1 - c:Nat):Int)=((t+16 ^ i * dm n (a / 16 ^ i) (b / 16 ^ i) c:Nat):Int)
 |0,a,b,i,c,t,hc=>by
  show (t:Int)+((1 - c:Nat):Int) * 2 ^ (4 * i)=_
  rw[kA]
  show _=((t+16 ^ i * (0+(1 - c) * 16 ^ 0):Nat):Int)
  rw[Nat.pow_zero,Nat.mul_one,Nat.zero_add,Nat.mul_comm,Int.natCast_add,Int.natCast_mul]
 |n+1,a,b,i,c,t,hc=>by
  unfold ddF
  rw[dig,dig,y2O]
  have ea:a / 16 ^ i / 16=a / 16 ^ (i+1):=by rw[Nat.div_div_eq_div_mul,Nat.pow_succ]
  have eb:b / 16 ^ i / 16=b / 16 ^ (i+1):=by rw[Nat.div_div_eq_div_mul,Nat.pow_succ]
  rw[ea,eb]
  have h1:a / 16 ^ i % 16<16:=Nat.mod_lt _ (by decide)
  have h2:b / 16 ^ i % 16<16:=Nat.mod_lt _ (by decide)
  generalize a / 16 ^ i % 16=A at h1 ⊢
  generalize b / 16 ^ i % 16=B at h2 ⊢
  by_cases h:A<B+c
  ·have h':(A:Int) - (B:Int) - 1+((1 - c:Nat):Int)<0:=by omega
   rw[if_pos h',if_pos h',if_pos h,if_pos h]
   have e2:Builtin.bitAnd ((A:Int) - (B:Int) - 1+((1 - c:Nat):Int)+10) 15=(((A+26 - (B+c)) % 16:Nat):Int):=by rw[PyProof.Rows.bitAnd_m4];omega
   rw[e2,kA]
   have e3:(t:Int)+(((A+26 - (B+c)) % 16:Nat):Int) * ((16 ^ i:Nat):Int)=((t+(A+26 - (B+c)) % 16 * 16 ^ i:Nat):Int):=by rw[Int.natCast_add,Int.natCast_mul]
   have:=vY n a b (i+1) 1 (t+(A+26 - (B+c)) % 16 * 16 ^ i) (by decide)
   rw[e3]
   refine Eq.trans this ?_
   congr 1
   rw[Nat.pow_succ,Nat.mul_add,Nat.mul_assoc,Nat.mul_comm (16 ^ i) ((A+26 - (B+c)) % 16),Nat.add_assoc]
  ·have h':¬(A:Int) - (B:Int) - 1+((1 - c:Nat):Int)<0:=by omega
   rw[if_neg h',if_neg h',if_neg h,if_neg h]
   have e2:Builtin.bitAnd ((A:Int) - (B:Int) - 1+((1 - c:Nat):Int)) 15=((A - (B+c):Nat):Int):=by rw[PyProof.Rows.bitAnd_m4];omega
   rw[e2,kA]
   have e3:(t:Int)+((A - (B+c):Nat):Int) * ((16 ^ i:Nat):Int)=((t+(A - (B+c)) * 16 ^ i:Nat):Int):=by rw[Int.natCast_add,Int.natCast_mul]
   have:=vY n a b (i+1) 0 (t+(A - (B+c)) * 16 ^ i) (by decide)
   rw[e3]
   refine Eq.trans this ?_
   congr 1
   rw[Nat.pow_succ,Nat.mul_add,Nat.mul_assoc,Nat.mul_comm (16 ^ i) (A - (B+c)),Nat.add_assoc]
theorem z5Y:∀(n a b c:Nat),c≤1→(tensLess n a b c).1<16 ^ n∧(tensLess n a b c).2≤1
 |0,a,b,c,h=>⟨by show 0<1;decide,h⟩
 |n+1,a,b,c,h=>by
  obtain⟨h1,h2⟩:=z5Y n (a / 16) (b / 16) (if a % 16<b % 16+c then 1 else 0) (by split <;> decide)
  refine⟨?_,h2⟩
  show (if a % 16<b % 16+c then (a % 16+26 - (b % 16+c)) % 16 else a % 16 - (b % 16+c))+16 * (tensLess n (a / 16) (b / 16) (if a % 16<b % 16+c then 1 else 0)).1<16 ^ (n+1)
  have h3:(if a % 16<b % 16+c then (a % 16+26 - (b % 16+c)) % 16 else a % 16 - (b % 16+c))<16:=by split <;> omega
  rw[Nat.pow_succ]
  omega
variable{m:St}{k:Nat}
theorem y2z(z i:Nat):((z&&&2 ^ i)==0)=!z.testBit i:=by
 cases h:z.testBit i with
 |true=>
  have q:(z&&&2 ^ i).testBit i=true:=by rw[Nat.testBit_and,h,Nat.testBit_two_pow_self];rfl
  apply beq_false_of_ne
  intro e
  rw[e,Nat.zero_testBit] at q
  cases q
 |false=>
  have q:z&&&2 ^ i=0:=by
   apply Nat.eq_of_testBit_eq
   intro j
   rw[Nat.testBit_and,Nat.zero_testBit,Nat.testBit_two_pow]
   by_cases q:i=j
   ·subst q
    rw[h]
    rfl
   ·simp[q]
  rw[q]
  rfl
theorem z8n(z i:Nat):tru (.int (Builtin.bitAnd (z:Int) ((2 ^ i:Nat):Int)))=some (z.testBit i):=by
 rw[oV,mZ,y2z,Bool.not_not]
theorem tb(x i:Nat):x.testBit i=decide (2 ^ i≤x % 2 ^ (i+1)):=by
 rw[Nat.testBit_eq_decide_div_mod_eq]
 apply decide_eq_decide.mpr
 have hp:0<2 ^ i:=Nat.two_pow_pos i
 rw[Nat.pow_succ]
 have h1:x % (2 ^ i * 2)=x % 2 ^ i+2 ^ i * (x / 2 ^ i % 2):=Nat.mod_mul
 have h2:x % 2 ^ i<2 ^ i:=Nat.mod_lt _ hp
 rw[h1]
 have h3:x / 2 ^ i % 2=0∨x / 2 ^ i % 2=1:=by omega
 rcases h3 with h|h <;> rw[h]
 ·simp
  omega
 ·simp
theorem z5I(y x i:Nat):tru (.int (Builtin.bitAnd (Builtin.bitAnd (Builtin.bitNot (x:Int)) (y:Int)) ((2 ^ i:Nat):Int)))=some (y.testBit i&&!x.testBit i):=by
 have hb:∃ n,y<2 ^ n∧i<n:=⟨y+i+1,Nat.lt_of_lt_of_le (Nat.lt_two_pow_self) (Nat.pow_le_pow_right (by decide) (by omega)),by omega⟩
 obtain⟨n,hn,hi⟩:=hb
 rw[PyProof.Rows.bitAnd_comm (Builtin.bitNot (x:Int)) (y:Int),uO,z8n,vG hn,Nat.testBit_and]
 have e:2 ^ n - 1 - x % 2 ^ n=2 ^ n - (x % 2 ^ n+1):=by omega
 rw[e,Nat.testBit_two_pow_sub_succ (Nat.mod_lt _ (Nat.two_pow_pos n)),Nat.testBit_mod_two_pow]
 simp[hi]
theorem z5H(y x i:Nat):tru (.int (Builtin.bitAnd (Builtin.bitAnd (x:Int) (y:Int)) ((2 ^ i:Nat):Int)))=some (x.testBit i&&y.testBit i):=by
 rw[oV,z8n,Nat.testBit_and]
theorem x5A{a v s:Nat}(ha:a<256)(hv:v<256):(((a^^^s).testBit 7)&&!((a^^^v).testBit 7))=(decide (a<128)==decide (v<128)&&decide (a<128) != decide (s % 256<128)):=by
 rw[Nat.testBit_xor,Nat.testBit_xor,tb a,tb v,tb s]
 show ((decide (128≤a % 256) ^^ decide (128≤s % 256))&&!(decide (128≤a % 256) ^^ decide (128≤v % 256)))=_
 rw[Nat.mod_eq_of_lt ha,Nat.mod_eq_of_lt hv]
 have e1:decide (128≤a)=!decide (a<128):=by rw[←decide_not];exact decide_eq_decide.mpr (by omega)
 have e2:decide (128≤v)=!decide (v<128):=by rw[←decide_not];exact decide_eq_decide.mpr (by omega)
 have e3:decide (128≤s % 256)=!decide (s % 256<128):=by rw[←decide_not];exact decide_eq_decide.mpr (by omega)
 rw[e1,e2,e3]
 cases decide (a<128) <;> cases decide (v<128) <;> cases decide (s % 256<128) <;> rfl
theorem y8B{a v s:Nat}(ha:a<65536)(hv:v<65536):(((a^^^s).testBit 15)&&!((a^^^v).testBit 15))=(decide (a<32768)==decide (v<32768)&&decide (a<32768) != decide (s % 65536<32768)):=by
 have q:(2:Nat) ^ 15=32768:=by decide
 have q1:(2:Nat) ^ (15+1)=65536:=by decide
 rw[Nat.testBit_xor,Nat.testBit_xor,tb a,tb v,tb s,q,q1,Nat.mod_eq_of_lt ha,Nat.mod_eq_of_lt hv]
 have e1:decide (32768≤a)=!decide (a<32768):=by rw[←decide_not];exact decide_eq_decide.mpr (by omega)
 have e2:decide (32768≤v)=!decide (v<32768):=by rw[←decide_not];exact decide_eq_decide.mpr (by omega)
 have e3:decide (32768≤s % 65536)=!decide (s % 65536<32768):=by rw[←decide_not];exact decide_eq_decide.mpr (by omega)
 rw[e1,e2,e3]
 cases decide (a<32768) <;> cases decide (v<32768) <;> cases decide (s % 65536<32768) <;> rfl
theorem sgn8{a v s:Nat}(ha:a<256)(hv:v<256):((a^^^v).testBit 7&&(a^^^s).testBit 7)=(decide (a<128) != decide (v<128)&&decide (a<128) != decide (s % 256<128)):=by
 rw[Nat.testBit_xor,Nat.testBit_xor,tb a,tb v,tb s]
 show ((decide (128≤a % 256) ^^ decide (128≤v % 256))&&(decide (128≤a % 256) ^^ decide (128≤s % 256)))=_
 rw[Nat.mod_eq_of_lt ha,Nat.mod_eq_of_lt hv]
 have e1:decide (128≤a)=!decide (a<128):=by rw[←decide_not];exact decide_eq_decide.mpr (by omega)
 have e2:decide (128≤v)=!decide (v<128):=by rw[←decide_not];exact decide_eq_decide.mpr (by omega)
 have e3:decide (128≤s % 256)=!decide (s % 256<128):=by rw[←decide_not];exact decide_eq_decide.mpr (by omega)
 rw[e1,e2,e3]
 cases decide (a<128) <;> cases decide (v<128) <;> cases decide (s % 256<128) <;> rfl
theorem x5z{a v s:Nat}(ha:a<65536)(hv:v<65536):((a^^^v).testBit 15&&(a^^^s).testBit 15)=(decide (a<32768) != decide (v<32768)&&decide (a<32768) != decide (s % 65536<32768)):=by
 have q:(2:Nat) ^ 15=32768:=by decide
 have q1:(2:Nat) ^ (15+1)=65536:=by decide
 rw[Nat.testBit_xor,Nat.testBit_xor,tb a,tb v,tb s,q,q1,Nat.mod_eq_of_lt ha,Nat.mod_eq_of_lt hv]
 have e1:decide (32768≤a)=!decide (a<32768):=by rw[←decide_not];exact decide_eq_decide.mpr (by omega)
 have e2:decide (32768≤v)=!decide (v<32768):=by rw[←decide_not];exact decide_eq_decide.mpr (by omega)
 have e3:decide (32768≤s % 65536)=!decide (s % 65536<32768):=by rw[←decide_not];exact decide_eq_decide.mpr (by omega)
 rw[e1,e2,e3]
 cases decide (a<32768) <;> cases decide (v<32768) <;> cases decide (s % 65536<32768) <;> rfl
theorem f_vc:∀ n v m x d i z c c':Bool,Builtin.bitOr (Builtin.bitAnd (pp n v m x d i z c) (Builtin.bitNot (Builtin.bitOr 64 1))) ((bit c' 1:Nat):Int)=pp n false m x d i z c':=by decide +kernel
theorem f_v1:∀ n v m x d i z c:Bool,Builtin.bitOr (pp n v m x d i z c) 64=pp n true m x d i z c:=by decide +kernel
theorem y7i{t:Nat}(ht:t<2 * span (!m.fm)):bop .shr (t:Int) (if m.fm=true then 8 else 16)=some ((bit (decide (span (!m.fm)≤t)) 1:Nat):Int):=by
 revert ht
 cases m.fm with
 |true=>
  intro ht
  replace ht:t<512:=ht
  show bop .shr (t:Int) 8=some ((bit (decide (256≤t)) 1:Nat):Int)
  rw[z8x]
  by_cases q:256≤t
  ·rw[decide_eq_true q]
   have:t / 256=1:=by omega
   rw[this]
   rfl
  ·rw[decide_eq_false q]
   have:t / 256=0:=by omega
   rw[this]
   rfl
 |false=>
  intro ht
  replace ht:t<131072:=ht
  show bop .shr (t:Int) 16=some ((bit (decide (65536≤t)) 1:Nat):Int)
  rw[z5J]
  by_cases q:65536≤t
  ·rw[decide_eq_true q]
   have:t / 65536=1:=by omega
   rw[this]
   rfl
  ·rw[decide_eq_false q]
   have:t / 65536=0:=by omega
   rw[this]
   rfl
theorem x3A{m:St}(h:Ok m)(a b:Bool):Ok { m with fv:=a,fc:=b }:=⟨h.a,h.x,h.y,h.d,h.s,h.pc,h.pb,h.db,h.mem,h.nx,h.em⟩
theorem nL(h:Ok m){t:Nat}(ht:t<2 * span (!m.fm)){u:U}{o:Bool}(hu:tru u=some o)(hs:u.stays=true) :
  evF FT (k+3) z2F [.cpu,.int t,.int (if m.fm=true then 8 else 16),u] (aA m)=some (.non,aA (({ m with fv:=o,fc:=decide (span (!m.fm)≤t) }).lda (t % span (!m.fm)))):=by
 rw[z2M,rW]
 cases o <;> simp_arith only[hu,hs,y7i ht,f_vc,f_v1,dZ (x3A h _ _),bL]
theorem y4C:bop .shl 1 ((if m.fm=true then 8 else 16) - 1)=some (((if m.fm=true then 128 else 32768:Nat)):Int):=by cases m.fm <;> rfl
theorem y7h:bop .shl 1 (if m.fm=true then 8 else 16)=some ((span (!m.fm):Nat):Int):=by cases m.fm <;> rfl
theorem y3d{a v s:Nat}(ha:a<span (!m.fm))(hv:v<span (!m.fm)):tru (.int (Builtin.bitAnd (Builtin.bitAnd (Builtin.bitNot ((a^^^v:Nat):Int)) ((a^^^s:Nat):Int)) (((if m.fm=true then 128 else 32768:Nat)):Int))) =
  some (decide (a<Ql49.top (!m.fm))==decide (v<Ql49.top (!m.fm))&&decide (a<Ql49.top (!m.fm)) != decide (s % span (!m.fm)<Ql49.top (!m.fm))):=by
 revert ha hv
 cases m.fm with
 |true=>intro ha hv;exact(z5I (a^^^s) (a^^^v) 7).trans (congrArg some (x5A ha hv))
 |false=>intro ha hv;exact(z5I (a^^^s) (a^^^v) 15).trans (congrArg some (y8B ha hv))
theorem y3e{a v s:Nat}(ha:a<span (!m.fm))(hv:v<span (!m.fm)):tru (.int (Builtin.bitAnd (Builtin.bitAnd ((a^^^v:Nat):Int) ((a^^^s:Nat):Int)) (((if m.fm=true then 128 else 32768:Nat)):Int))) =
  some (decide (a<Ql49.top (!m.fm)) != decide (v<Ql49.top (!m.fm))&&decide (a<Ql49.top (!m.fm)) != decide (s % span (!m.fm)<Ql49.top (!m.fm))):=by
 revert ha hv
 cases m.fm with
 |true=>intro ha hv;exact(z5H (a^^^s) (a^^^v) 7).trans (congrArg some (sgn8 ha hv))
 |false=>intro ha hv;exact(z5H (a^^^s) (a^^^v) 15).trans (congrArg some (x5z ha hv))
theorem z3U:bB (some m.fm) (some (U.int 8)) (some (U.int 16))=some (.int (if m.fm=true then 8 else 16)):=by cases m.fm <;> rfl
noncomputable def nd(m:St):Nat:=if (!m.fm)=true then 4 else 2
theorem z2Z:jN (if m.fm=true then 8 else 16)=some (nd m):=by unfold nd;cases m.fm <;> rfl
theorem oN:16 ^ nd m=span (!m.fm):=by unfold nd;cases m.fm <;> rfl
theorem z2e{a v c:Nat}(hc:c≤1):evF FT (k+1) z1P [.int a,.int v,.int c,.int (if m.fm=true then 8 else 16)] (aA m)=some (.int (dn (nd m) a v c),aA m):=by
 rw[z1Z,if_pos (show [U.int (a:Int),U.int (v:Int),U.int (c:Int),U.int (if m.fm=true then 8 else 16)].length=4 from rfl)]
 unfold iM
 show (match jN (if m.fm=true then 8 else 16) with
  |some d=>if (c:Int)=0∨(c:Int)=1 then some (U.int (dsF a v d 0 0 c),aA m) else none
  |none=>none)=_
 rw[z2Z]
 show (if (c:Int)=0∨(c:Int)=1 then some (U.int (dsF a v (nd m) 0 0 c),aA m) else none)=_
 rw[if_pos (by omega)]
 have:=vZ (nd m) a v 0 c 0
 rw[Nat.pow_zero,Nat.one_mul,Nat.zero_add,Nat.div_one,Nat.div_one] at this
 rw[←this]
 rfl
theorem z0k{a v c:Nat}(hc:c≤1):evF FT (k+1) z0f [.int a,.int v,.int ((1 - c:Nat):Int),.int (if m.fm=true then 8 else 16)] (aA m)=some (.int (dm (nd m) a v c),aA m):=by
 rw[z0j,if_pos (show [U.int (a:Int),U.int (v:Int),U.int ((1 - c:Nat):Int),U.int (if m.fm=true then 8 else 16)].length=4 from rfl)]
 unfold iJ
 show (match jN (if m.fm=true then 8 else 16) with
  |some d=>if ((1 - c:Nat):Int)=0∨((1 - c:Nat):Int)=1 then some (U.int (ddF a v d 0 0 ((1 - c:Nat):Int)),aA m) else none
  |none=>none)=_
 rw[z2Z]
 show (if ((1 - c:Nat):Int)=0∨((1 - c:Nat):Int)=1 then some (U.int (ddF a v (nd m) 0 0 ((1 - c:Nat):Int)),aA m) else none)=_
 rw[if_pos (by omega)]
 have:=vY (nd m) a v 0 c 0 hc
 rw[Nat.pow_zero,Nat.one_mul,Nat.zero_add,Nat.div_one,Nat.div_one] at this
 rw[←this]
 rfl
theorem y6V(m:St)(v:Nat):m.adc (!m.fm) v=({ m with
  fv:=decide (m.a % span (!m.fm)<Ql49.top (!m.fm))==decide (v<Ql49.top (!m.fm))&&decide (m.a % span (!m.fm)<Ql49.top (!m.fm)) != decide ((m.a % span (!m.fm)+v+bit m.fc 1) % span (!m.fm)<Ql49.top (!m.fm)),
  fc:=if m.fd=true then (tens (nd m) (m.a % span (!m.fm)) v (bit m.fc 1)).2==1 else decide (span (!m.fm)≤m.a % span (!m.fm)+v+bit m.fc 1) }).lda
  (if m.fd=true then (tens (nd m) (m.a % span (!m.fm)) v (bit m.fc 1)).1 else (m.a % span (!m.fm)+v+bit m.fc 1) % span (!m.fm)):=Eq.trans rfl rfl
theorem y0q{t1 t2 S:Nat}(h1:t1<S)(h2:t2≤1):(t1+t2 * S) % S=t1∧decide (S≤t1+t2 * S)=(t2==1)∧t1+t2 * S<2 * S:=by
 have:t2=0∨t2=1:=by omega
 rcases this with rfl|rfl
 ·refine⟨?_,?_,?_⟩
  ·rw[Nat.zero_mul,Nat.add_zero];exact Nat.mod_eq_of_lt h1
  ·rw[Nat.zero_mul,Nat.add_zero,decide_eq_false (by omega)];rfl
  ·omega
 ·refine⟨?_,?_,?_⟩
  ·rw[Nat.one_mul,Nat.add_mod_right];exact Nat.mod_eq_of_lt h1
  ·rw[Nat.one_mul,decide_eq_true (by omega)];rfl
  ·omega
section
variable{i j:Nat}
theorem y6r(h:Ok m)(hi:i<16777216)(hj:j<16777216):evF FT (k+4) z8E [.cpu,.pair i j] (aA m)=some (.non,aA (m.adc (!m.fm) (rdw m (!m.fm) i j))):=by
 have hv:=gL h (!m.fm) i j
 have ha:=nE m
 have hb:=oJ m.fc
 rw[x5J,xB,y6V]
 simp_arith only[z3U,iB h,fY h hi hj,pK,y4C]
 have hu:=y3d (m:=m) (s:=m.a % span (!m.fm)+rdw m (!m.fm) i j+bit m.fc 1) ha hv
 cases e:m.fd with
 |false=>
  simp_arith only[nL h (show m.a % span (!m.fm)+rdw m (!m.fm) i j+bit m.fc 1<2 * span (!m.fm) by omega) hu bX,e]
 |true=>
  obtain⟨t1,t2⟩:=z6q (nd m) (m.a % span (!m.fm)) (rdw m (!m.fm) i j) (bit m.fc 1)
  rw[oN] at t1
  obtain⟨s1,s2,s3⟩:=y0q t1 (t2 hb)
  have ed:dn (nd m) (m.a % span (!m.fm)) (rdw m (!m.fm) i j) (bit m.fc 1)=(tens (nd m) (m.a % span (!m.fm)) (rdw m (!m.fm) i j) (bit m.fc 1)).1+(tens (nd m) (m.a % span (!m.fm)) (rdw m (!m.fm) i j) (bit m.fc 1)).2 * span (!m.fm):=by unfold dn;rw[oN]
  simp_arith only[z2e hb,ed,nL h s3 hu bX,s1,s2,e]
theorem y8v(m:St)(v:Nat):m.sbc (!m.fm) v=({ m with
  fv:=decide (m.a % span (!m.fm)<Ql49.top (!m.fm)) != decide (v<Ql49.top (!m.fm))&&decide (m.a % span (!m.fm)<Ql49.top (!m.fm)) != decide ((m.a % span (!m.fm)+span (!m.fm) - v+(span (!m.fm) - (1 - bit m.fc 1))) % span (!m.fm)<Ql49.top (!m.fm)),
  fc:=if m.fd=true then (tensLess (nd m) (m.a % span (!m.fm)) v (1 - bit m.fc 1)).2==0 else decide (v+(1 - bit m.fc 1)≤m.a % span (!m.fm)) }).lda
  (if m.fd=true then (tensLess (nd m) (m.a % span (!m.fm)) v (1 - bit m.fc 1)).1 else (m.a % span (!m.fm)+span (!m.fm) - v+(span (!m.fm) - (1 - bit m.fc 1))) % span (!m.fm)):=Eq.trans rfl rfl
theorem y6A(h:Ok m)(hi:i<16777216)(hj:j<16777216):evF FT (k+4) z8R [.cpu,.pair i j] (aA m)=some (.non,aA (m.sbc (!m.fm) (rdw m (!m.fm) i j))):=by
 have hv:=gL h (!m.fm) i j
 have ha:=nE m
 have hb:=oJ m.fc
 have hsp:1≤span (!m.fm):=by cases m.fm <;> decide
 have et:((span (!m.fm):Nat):Int)+((m.a % span (!m.fm):Nat):Int) - ((rdw m (!m.fm) i j:Nat):Int) - 1+((bit m.fc 1:Nat):Int)=((span (!m.fm)+m.a % span (!m.fm) - rdw m (!m.fm) i j - (1 - bit m.fc 1):Nat):Int):=by omega
 have ct:((m.a % span (!m.fm)+span (!m.fm) - rdw m (!m.fm) i j+(span (!m.fm) - (1 - bit m.fc 1))) % span (!m.fm))=(span (!m.fm)+m.a % span (!m.fm) - rdw m (!m.fm) i j - (1 - bit m.fc 1)) % span (!m.fm):=by
  have:m.a % span (!m.fm)+span (!m.fm) - rdw m (!m.fm) i j+(span (!m.fm) - (1 - bit m.fc 1))=(span (!m.fm)+m.a % span (!m.fm) - rdw m (!m.fm) i j - (1 - bit m.fc 1))+span (!m.fm):=by omega
  rw[this,Nat.add_mod_right]
 rw[x6T,zL,y8v,ct]
 simp_arith only[z3U,iB h,fY h hi hj,pK,y4C,y7h]
 rw[show ((span (!m.fm)+m.a % span (!m.fm):Nat):Int)=((span (!m.fm):Nat):Int)+((m.a % span (!m.fm):Nat):Int) by omega,et]
 simp_arith only[pK]
 have hu:=y3e (m:=m) (s:=span (!m.fm)+m.a % span (!m.fm) - rdw m (!m.fm) i j - (1 - bit m.fc 1)) ha hv
 cases e:m.fd with
 |false=>
  have ec:decide (rdw m (!m.fm) i j+(1 - bit m.fc 1)≤m.a % span (!m.fm))=decide (span (!m.fm)≤span (!m.fm)+m.a % span (!m.fm) - rdw m (!m.fm) i j - (1 - bit m.fc 1)):=decide_eq_decide.mpr (by omega)
  simp_arith only[nL h (show span (!m.fm)+m.a % span (!m.fm) - rdw m (!m.fm) i j - (1 - bit m.fc 1)<2 * span (!m.fm) by omega) hu bX,ec,e]
 |true=>
  obtain⟨t1,t2⟩:=z5Y (nd m) (m.a % span (!m.fm)) (rdw m (!m.fm) i j) (1 - bit m.fc 1) (by omega)
  rw[oN] at t1
  obtain⟨s1,s2,s3⟩:=y0q t1 (show 1 - (tensLess (nd m) (m.a % span (!m.fm)) (rdw m (!m.fm) i j) (1 - bit m.fc 1)).2≤1 by omega)
  have ed:dm (nd m) (m.a % span (!m.fm)) (rdw m (!m.fm) i j) (1 - bit m.fc 1)=(tensLess (nd m) (m.a % span (!m.fm)) (rdw m (!m.fm) i j) (1 - bit m.fc 1)).1+(1 - (tensLess (nd m) (m.a % span (!m.fm)) (rdw m (!m.fm) i j) (1 - bit m.fc 1)).2) * span (!m.fm):=by unfold dm;rw[oN]
  have e0:((1 - (tensLess (nd m) (m.a % span (!m.fm)) (rdw m (!m.fm) i j) (1 - bit m.fc 1)).2==1):Bool)=((tensLess (nd m) (m.a % span (!m.fm)) (rdw m (!m.fm) i j) (1 - bit m.fc 1)).2==0):=by
   generalize (tensLess (nd m) (m.a % span (!m.fm)) (rdw m (!m.fm) i j) (1 - bit m.fc 1)).2=q at t2 ⊢
   have:q=0∨q=1:=by omega
   rcases this with rfl|rfl <;> rfl
  have dd:=z0k (m:=m) (k:=k+2) (a:=m.a % span (!m.fm)) (v:=rdw m (!m.fm) i j) (c:=1 - bit m.fc 1) (by omega)
  rw[show 1 - (1 - bit m.fc 1)=bit m.fc 1 by omega] at dd
  simp_arith only[dd,ed,nL h s3 hu bX,s1,s2,e0,e]
end
variable{m:St}{k:Nat}
noncomputable def opL:List Nat:=[18,61,19,61,71,61,102,61,126,61,108,128,71,61,102,61,22,61,61,61,72,61,102,61,155,61,112,149,72,61,102,61,40,62,42,62,69,62,103,62,127,62,109,129,69,62,103,62,23,62,62,62,69,62,103,62,156,62,113,150,69,62,103,62,20,63,76,63,75,63,104,63,120,63,110,132,34,63,104,63,24,63,63,63,74,63,104,63,157,63,122,151,37,63,104,63,43,139,135,139,60,139,105,139,123,139,111,44,35,139,105,139,25,139,139,139,60,139,105,139,158,139,125,152,36,139,105,139,30,57,31,57,59,57,58,57,117,70,146,130,59,57,58,57,26,57,57,57,59,57,58,57,147,57,148,144,60,57,60,57,56,54,55,54,56,54,55,54,142,54,141,131,56,54,55,54,27,54,54,54,56,54,55,54,161,54,143,145,56,54,55,54,67,65,162,65,67,65,107,65,115,65,116,78,67,65,107,65,28,65,65,65,134,65,107,65,159,65,121,79,38,65,107,65,66,140,163,140,66,140,106,140,114,140,77,153,66,140,106,140,29,140,140,140,133,140,106,140,160,140,124,154,41,140,106,140]
noncomputable def plL:List (Option Nat):=[none,some 84,none,some 93,some 80,some 80,some 80,some 86,none,some 95,none,none,some 88,some 88,some 88,some 91,none,some 85,some 83,some 94,some 80,some 81,some 81,some 87,none,some 90,none,none,some 88,some 89,some 89,some 92,none,some 84,none,some 93,some 80,some 80,some 80,some 86,none,some 95,none,none,some 88,some 88,some 88,some 91,none,some 85,some 83,some 94,some 81,some 81,some 81,some 87,none,some 90,none,none,some 89,some 89,some 89,some 92,none,some 84,none,some 93,none,some 80,some 80,some 86,none,some 95,none,none,none,some 88,some 88,some 91,none,some 85,some 83,some 94,none,some 81,some 81,some 87,none,some 90,none,none,none,some 89,some 89,some 92,none,some 84,none,some 93,some 80,some 80,some 80,some 86,none,some 95,none,none,none,some 88,some 88,some 91,none,some 85,some 83,some 94,some 81,some 81,some 81,some 87,none,some 90,none,none,none,some 89,some 89,some 92,none,some 84,none,some 93,some 80,some 80,some 80,some 86,none,some 95,none,none,some 88,some 88,some 88,some 91,none,some 85,some 83,some 94,some 81,some 81,some 82,some 87,none,some 90,none,none,some 88,some 89,some 89,some 92,some 96,some 84,some 96,some 93,some 80,some 80,some 80,some 86,none,some 95,none,none,some 88,some 88,some 88,some 91,none,some 85,some 83,some 94,some 81,some 81,some 82,some 87,none,some 90,none,none,some 89,some 89,some 90,some 92,some 96,some 84,none,some 93,some 80,some 80,some 80,some 86,none,some 95,none,none,some 88,some 88,some 88,some 91,none,some 85,some 83,some 94,some 80,some 81,some 81,some 87,none,some 90,none,none,none,some 89,some 89,some 92,some 96,some 84,none,some 93,some 80,some 80,some 80,some 86,none,some 95,none,none,some 88,some 88,some 88,some 91,none,some 85,some 83,some 94,none,some 81,some 81,some 87,none,some 90,none,none,none,some 89,some 89,some 92]
noncomputable def aI(m:St)(f w:String)(o:Nat):Prop:=evF FT 6 o [.cpu] (aA m)=some (.non,aA (m.act f w))
noncomputable def aU(m:St)(f w:String)(o p:Nat):Prop:=∃ i j m2,evF FT 6 p [.cpu] (aA m)=some (.pair i j,m2)∧evF FT 6 o [.cpu,.pair i j] m2=some (.non,aA (m.act f w))
noncomputable def aB(m:St)(op:Nat):Prop:=match plL.getD op none with
 |none=>aI m (ops.getD op ("NOP","")).1 (ops.getD op ("NOP","")).2 (opL.getD op 0)
 |some p=>aU m (ops.getD op ("NOP","")).1 (ops.getD op ("NOP","")).2 (opL.getD op 0) p
structure Good(p:Ql49.Place):Prop where
 a:p.at_<16777216
 b:p.next.at_<16777216
theorem aN(a:Nat):Good (zero a):=⟨Nat.lt_of_lt_of_le (dY a) (by decide),Nat.lt_of_lt_of_le (dY _) (by decide)⟩
theorem lt24(a:Nat):a % 16777216<16777216:=Nat.mod_lt _ (by decide)
theorem aE(a:Nat):Good (far a):=⟨lt24 a,lt24 _⟩
theorem cB{f w:String}{o p n:Nat}{pl:Ql49.Place}(ep:evF FT 6 p [.cpu] (aA m)=some (plU pl,aA (m.skip n)))(eo:evF FT 6 o [.cpu,.pair (pl.at_:Int) (pl.next.at_:Int)] (aA (m.skip n))=some (.non,aA (m.act f w))):aU m f w o p:=⟨_,_,_,ep,eo⟩
theorem cO{pl:Ql49.Place}(g:Good pl)(n:Nat)(b:Bool):rdw (m.skip n) b pl.at_ pl.next.at_=m.get b pl:=by
 unfold rdw St.get St.rd2
 rw[iH g.a,iH g.b]
 rfl
theorem eT{w:String}{n:Nat}{pl:Ql49.Place}(hp:m.place w=some (n,pl))(hw:¬(w="im"∨w="ix"))(b:Bool):m.number b w=(m.get b pl,m.skip n):=by
 unfold St.number
 rw[if_neg hw,hp]
theorem cD(h:Ok m):m.pb * 65536+m.pc<16777216∧m.pb * 65536+(m.pc+1) % 65536<16777216:=by
 have h1:=h.pb
 have h2:=h.pc
 constructor <;> omega
theorem eW(h:Ok m)(n:Nat)(b:Bool):rdw (m.skip n) b (m.pb * 65536+m.pc) (m.pb * 65536+(m.pc+1) % 65536)=if b=true then m.code2 else m.code 0:=by
 unfold rdw St.code2
 have e:(m.pc+0) % 65536=m.pc:=Nat.mod_eq_of_lt h.pc
 rw[lM h,lM h,e]
 rfl
theorem eU(w:String)(hw:w="im"∨w="ix")(b:Bool):m.number b w=(if b=true then m.code2 else m.code 0,m.skip (if b=true then 2 else 1)):=by
 unfold St.number
 rw[if_pos hw]
 cases b <;> rfl
theorem eV(b:Bool):(if b=true then 1 else 2)=(if (!b)=true then 2 else 1):=by cases b <;> rfl
theorem z5A(m:St)(w:String):m.act "ORA" w=(m.number (!m.fm) w).2.lda ((m.a|||(m.number (!m.fm) w).1) % span (!m.fm)):=Eq.trans rfl rfl
theorem eF(h:Ok m){w:String}{n:Nat}{pl:Ql49.Place}{p:Nat}(hp:m.place w=some (n,pl))(ep:evF FT 6 p [.cpu] (aA m)=some (plU pl,aA (m.skip n)))(g:Good pl)(hw:¬(w="im"∨w="ix"):=by decide):aU m "ORA" w z8P p:=by
 refine cB ep ((y6z (k:=3) (ok_skip h n) g.a g.b).trans ?_)
 rw[cO g,z5A,eT hp hw]
 rfl
theorem x2R(h:Ok m):aU m "ORA" "im" z8P gS:=by
 refine⟨_,_,_,jC (k:=4) h,(y6z (k:=3) (ok_skip h _) (cD h).1 (cD h).2).trans ?_⟩
 rw[eW h,z5A,eU "im" (by decide),eV]
 rfl
theorem z5n(m:St)(w:String):m.act "AND" w=(m.number (!m.fm) w).2.lda ((m.a&&&(m.number (!m.fm) w).1) % span (!m.fm)):=Eq.trans rfl rfl
theorem eB(h:Ok m){w:String}{n:Nat}{pl:Ql49.Place}{p:Nat}(hp:m.place w=some (n,pl))(ep:evF FT 6 p [.cpu] (aA m)=some (plU pl,aA (m.skip n)))(g:Good pl)(hw:¬(w="im"∨w="ix"):=by decide):aU m "AND" w wA p:=by
 refine cB ep ((y6s (k:=3) (ok_skip h n) g.a g.b).trans ?_)
 rw[cO g,z5n,eT hp hw]
 rfl
theorem x2I(h:Ok m):aU m "AND" "im" wA gS:=by
 refine⟨_,_,_,jC (k:=4) h,(y6s (k:=3) (ok_skip h _) (cD h).1 (cD h).2).trans ?_⟩
 rw[eW h,z5n,eU "im" (by decide),eV]
 rfl
theorem z5u(m:St)(w:String):m.act "EOR" w=(m.number (!m.fm) w).2.lda ((m.a^^^(m.number (!m.fm) w).1) % span (!m.fm)):=Eq.trans rfl rfl
theorem eD(h:Ok m){w:String}{n:Nat}{pl:Ql49.Place}{p:Nat}(hp:m.place w=some (n,pl))(ep:evF FT 6 p [.cpu] (aA m)=some (plU pl,aA (m.skip n)))(g:Good pl)(hw:¬(w="im"∨w="ix"):=by decide):aU m "EOR" w z8J p:=by
 refine cB ep ((y6v (k:=3) (ok_skip h n) g.a g.b).trans ?_)
 rw[cO g,z5u,eT hp hw]
 rfl
theorem x2N(h:Ok m):aU m "EOR" "im" z8J gS:=by
 refine⟨_,_,_,jC (k:=4) h,(y6v (k:=3) (ok_skip h _) (cD h).1 (cD h).2).trans ?_⟩
 rw[eW h,z5u,eU "im" (by decide),eV]
 rfl
theorem z5w(m:St)(w:String):m.act "LDA" w=(m.number (!m.fm) w).2.lda (m.number (!m.fm) w).1:=Eq.trans rfl rfl
theorem eE(h:Ok m){w:String}{n:Nat}{pl:Ql49.Place}{p:Nat}(hp:m.place w=some (n,pl))(ep:evF FT 6 p [.cpu] (aA m)=some (plU pl,aA (m.skip n)))(g:Good pl)(hw:¬(w="im"∨w="ix"):=by decide):aU m "LDA" w z8M p:=by
 refine cB ep ((y6w (k:=3) (ok_skip h n) g.a g.b).trans ?_)
 rw[cO g,z5w,eT hp hw]
 rfl
theorem x2O(h:Ok m):aU m "LDA" "im" z8M gS:=by
 refine⟨_,_,_,jC (k:=4) h,(y6w (k:=3) (ok_skip h _) (cD h).1 (cD h).2).trans ?_⟩
 rw[eW h,z5w,eU "im" (by decide),eV]
 rfl
theorem z5m(m:St)(w:String):m.act "ADC" w=(m.number (!m.fm) w).2.adc (!m.fm) (m.number (!m.fm) w).1:=Eq.trans rfl rfl
theorem eA(h:Ok m){w:String}{n:Nat}{pl:Ql49.Place}{p:Nat}(hp:m.place w=some (n,pl))(ep:evF FT 6 p [.cpu] (aA m)=some (plU pl,aA (m.skip n)))(g:Good pl)(hw:¬(w="im"∨w="ix"):=by decide):aU m "ADC" w z8E p:=by
 refine cB ep ((y6r (k:=2) (ok_skip h n) g.a g.b).trans ?_)
 rw[cO g,z5m,eT hp hw]
 rfl
theorem x2H(h:Ok m):aU m "ADC" "im" z8E gS:=by
 refine⟨_,_,_,jC (k:=4) h,(y6r (k:=2) (ok_skip h _) (cD h).1 (cD h).2).trans ?_⟩
 rw[eW h,z5m,eU "im" (by decide),eV]
 rfl
theorem z5D(m:St)(w:String):m.act "SBC" w=(m.number (!m.fm) w).2.sbc (!m.fm) (m.number (!m.fm) w).1:=Eq.trans rfl rfl
theorem eG(h:Ok m){w:String}{n:Nat}{pl:Ql49.Place}{p:Nat}(hp:m.place w=some (n,pl))(ep:evF FT 6 p [.cpu] (aA m)=some (plU pl,aA (m.skip n)))(g:Good pl)(hw:¬(w="im"∨w="ix"):=by decide):aU m "SBC" w z8R p:=by
 refine cB ep ((y6A (k:=2) (ok_skip h n) g.a g.b).trans ?_)
 rw[cO g,z5D,eT hp hw]
 rfl
theorem x2S(h:Ok m):aU m "SBC" "im" z8R gS:=by
 refine⟨_,_,_,jC (k:=4) h,(y6A (k:=2) (ok_skip h _) (cD h).1 (cD h).2).trans ?_⟩
 rw[eW h,z5D,eU "im" (by decide),eV]
 rfl
theorem z5q(m:St)(w:String):m.act "CMP" w=(m.number (!m.fm) w).2.cmp (!m.fm) m.a (m.number (!m.fm) w).1:=Eq.trans rfl rfl
theorem eC(h:Ok m){w:String}{n:Nat}{pl:Ql49.Place}{p:Nat}(hp:m.place w=some (n,pl))(ep:evF FT 6 p [.cpu] (aA m)=some (plU pl,aA (m.skip n)))(g:Good pl)(hw:¬(w="im"∨w="ix"):=by decide):aU m "CMP" w z8G p:=by
 refine cB ep ((z9p (k:=3) (ok_skip h n) g.a g.b).trans ?_)
 rw[cO g,z5q,eT hp hw]
 rfl
theorem x2K(h:Ok m):aU m "CMP" "im" z8G gS:=by
 refine⟨_,_,_,jC (k:=4) h,(z9p (k:=3) (ok_skip h _) (cD h).1 (cD h).2).trans ?_⟩
 rw[eW h,z5q,eU "im" (by decide),eV]
 rfl
theorem z5r(m:St)(w:String):m.act "CPX" w=(m.number (!m.fx) w).2.cmp (!m.fx) m.x (m.number (!m.fx) w).1:=Eq.trans rfl rfl
theorem y6j(h:Ok m){w:String}{n:Nat}{pl:Ql49.Place}{p:Nat}(hp:m.place w=some (n,pl))(ep:evF FT 6 p [.cpu] (aA m)=some (plU pl,aA (m.skip n)))(g:Good pl)(hw:¬(w="im"∨w="ix"):=by decide):aU m "CPX" w z8H p:=by
 refine cB ep ((y6t (k:=3) (ok_skip h n) g.a g.b).trans ?_)
 rw[cO g,z5r,eT hp hw]
 rfl
theorem x2L(h:Ok m):aU m "CPX" "ix" z8H lD:=by
 refine⟨_,_,_,qE (k:=4) h,(y6t (k:=3) (ok_skip h _) (cD h).1 (cD h).2).trans ?_⟩
 rw[eW h,z5r,eU "ix" (by decide),eV]
 rfl
theorem z5s(m:St)(w:String):m.act "CPY" w=(m.number (!m.fx) w).2.cmp (!m.fx) m.y (m.number (!m.fx) w).1:=Eq.trans rfl rfl
theorem y6k(h:Ok m){w:String}{n:Nat}{pl:Ql49.Place}{p:Nat}(hp:m.place w=some (n,pl))(ep:evF FT 6 p [.cpu] (aA m)=some (plU pl,aA (m.skip n)))(g:Good pl)(hw:¬(w="im"∨w="ix"):=by decide):aU m "CPY" w z8I p:=by
 refine cB ep ((y6u (k:=3) (ok_skip h n) g.a g.b).trans ?_)
 rw[cO g,z5s,eT hp hw]
 rfl
theorem x2M(h:Ok m):aU m "CPY" "ix" z8I lD:=by
 refine⟨_,_,_,qE (k:=4) h,(y6u (k:=3) (ok_skip h _) (cD h).1 (cD h).2).trans ?_⟩
 rw[eW h,z5s,eU "ix" (by decide),eV]
 rfl
theorem z5x(m:St)(w:String):m.act "LDX" w=(m.number (!m.fx) w).2.ldx (m.number (!m.fx) w).1:=Eq.trans rfl rfl
theorem pS(h:Ok m){w:String}{n:Nat}{pl:Ql49.Place}{p:Nat}(hp:m.place w=some (n,pl))(ep:evF FT 6 p [.cpu] (aA m)=some (plU pl,aA (m.skip n)))(g:Good pl)(hw:¬(w="im"∨w="ix"):=by decide):aU m "LDX" w z8N p:=by
 refine cB ep ((y6x (k:=4) (ok_skip h n) g.a g.b).trans ?_)
 rw[cO g,z5x,eT hp hw]
 rfl
theorem x2P(h:Ok m):aU m "LDX" "ix" z8N lD:=by
 refine⟨_,_,_,qE (k:=4) h,(y6x (k:=4) (ok_skip h _) (cD h).1 (cD h).2).trans ?_⟩
 rw[eW h,z5x,eU "ix" (by decide),eV]
 rfl
theorem z5y(m:St)(w:String):m.act "LDY" w=(m.number (!m.fx) w).2.ldy (m.number (!m.fx) w).1:=Eq.trans rfl rfl
theorem pT(h:Ok m){w:String}{n:Nat}{pl:Ql49.Place}{p:Nat}(hp:m.place w=some (n,pl))(ep:evF FT 6 p [.cpu] (aA m)=some (plU pl,aA (m.skip n)))(g:Good pl)(hw:¬(w="im"∨w="ix"):=by decide):aU m "LDY" w z8O p:=by
 refine cB ep ((y6y (k:=4) (ok_skip h n) g.a g.b).trans ?_)
 rw[cO g,z5y,eT hp hw]
 rfl
theorem x2Q(h:Ok m):aU m "LDY" "ix" z8O lD:=by
 refine⟨_,_,_,qE (k:=4) h,(y6y (k:=4) (ok_skip h _) (cD h).1 (cD h).2).trans ?_⟩
 rw[eW h,z5y,eU "ix" (by decide),eV]
 rfl
theorem z5p(m:St)(w:String):m.act "BIT" w=if w="im" then { (m.number (!m.fm) w).2 with fz:=m.a % span (!m.fm)&&&(m.number (!m.fm) w).1==0 } else { (m.number (!m.fm) w).2 with fz:=m.a % span (!m.fm)&&&(m.number (!m.fm) w).1==0,fn:=decide (Ql49.top (!m.fm)≤(m.number (!m.fm) w).1),fv:=(m.number (!m.fm) w).1 / (Ql49.top (!m.fm) / 2) % 2==1 }:=Eq.trans rfl rfl
theorem pP(h:Ok m){w:String}{n:Nat}{pl:Ql49.Place}{p:Nat}(hp:m.place w=some (n,pl))(ep:evF FT 6 p [.cpu] (aA m)=some (plU pl,aA (m.skip n)))(g:Good pl)(hw:¬(w="im"∨w="ix"):=by decide):aU m "BIT" w y4J p:=by
 refine cB ep ((x3g (k:=4) (ok_skip h n) g.a g.b).trans ?_)
 rw[cO g,z5p,if_neg (fun e=>hw (.inl e)),eT hp hw]
 rfl
theorem x2J(h:Ok m):aU m "BIT" "im" z3b gS:=by
 refine⟨_,_,_,jC (k:=4) h,(z9o (k:=4) (ok_skip h _) (cD h).1 (cD h).2).trans ?_⟩
 rw[eW h,z5p,if_pos rfl,eU "im" (by decide),eV]
 rfl
theorem y2j(m:St)(w:String){n:Nat}{pl:Ql49.Place}(hp:m.place w=some (n,pl)):m.act "STA" w=(m.skip n).set (!m.fm) pl m.a:=by
 have e:m.act "STA" w=(match m.place w with
  |some x=>(m.skip x.1).set (!m.fm) x.2 m.a
  |none=>m):=Eq.trans rfl rfl
 rw[e,hp]
theorem eH(h:Ok m){w:String}{n:Nat}{pl:Ql49.Place}{p:Nat}(hp:m.place w=some (n,pl))(ep:evF FT 6 p [.cpu] (aA m)=some (plU pl,aA (m.skip n)))(g:Good pl)(hw:¬(w="im"∨w="ix"):=by decide):aU m "STA" w y5I p:=by
 refine cB ep ((x3u (k:=4) (ok_skip h n) g.a g.b).trans ?_)
 rw[y2j m w hp]
 rfl
theorem y2m(m:St)(w:String){n:Nat}{pl:Ql49.Place}(hp:m.place w=some (n,pl)):m.act "STZ" w=(m.skip n).set (!m.fm) pl 0:=by
 have e:m.act "STZ" w=(match m.place w with
  |some x=>(m.skip x.1).set (!m.fm) x.2 0
  |none=>m):=Eq.trans rfl rfl
 rw[e,hp]
theorem pX(h:Ok m){w:String}{n:Nat}{pl:Ql49.Place}{p:Nat}(hp:m.place w=some (n,pl))(ep:evF FT 6 p [.cpu] (aA m)=some (plU pl,aA (m.skip n)))(g:Good pl)(hw:¬(w="im"∨w="ix"):=by decide):aU m "STZ" w y5M p:=by
 refine cB ep ((x3x (k:=4) (ok_skip h n) g.a g.b).trans ?_)
 rw[y2m m w hp]
 rfl
theorem y2k(m:St)(w:String){n:Nat}{pl:Ql49.Place}(hp:m.place w=some (n,pl)):m.act "STX" w=(m.skip n).set (!m.fx) pl m.x:=by
 have e:m.act "STX" w=(match m.place w with
  |some x=>(m.skip x.1).set (!m.fx) x.2 m.x
  |none=>m):=Eq.trans rfl rfl
 rw[e,hp]
theorem z9i(h:Ok m){w:String}{n:Nat}{pl:Ql49.Place}{p:Nat}(hp:m.place w=some (n,pl))(ep:evF FT 6 p [.cpu] (aA m)=some (plU pl,aA (m.skip n)))(g:Good pl)(hw:¬(w="im"∨w="ix"):=by decide):aU m "STX" w y5K p:=by
 refine cB ep ((x3v (k:=4) (ok_skip h n) g.a g.b).trans ?_)
 rw[y2k m w hp]
 rfl
theorem y2l(m:St)(w:String){n:Nat}{pl:Ql49.Place}(hp:m.place w=some (n,pl)):m.act "STY" w=(m.skip n).set (!m.fx) pl m.y:=by
 have e:m.act "STY" w=(match m.place w with
  |some x=>(m.skip x.1).set (!m.fx) x.2 m.y
  |none=>m):=Eq.trans rfl rfl
 rw[e,hp]
theorem z9j(h:Ok m){w:String}{n:Nat}{pl:Ql49.Place}{p:Nat}(hp:m.place w=some (n,pl))(ep:evF FT 6 p [.cpu] (aA m)=some (plU pl,aA (m.skip n)))(g:Good pl)(hw:¬(w="im"∨w="ix"):=by decide):aU m "STY" w y5L p:=by
 refine cB ep ((x3w (k:=4) (ok_skip h n) g.a g.b).trans ?_)
 rw[y2l m w hp]
 rfl
theorem iD{w:String}{n:Nat}{pl:Ql49.Place}(hp:m.place w=some (n,pl))(f:St→Bool→Nat→St×Nat):m.change w f=(f (m.skip n) (!m.fm) (m.get (!m.fm) pl)).1.set (!m.fm) pl (f (m.skip n) (!m.fm) (m.get (!m.fm) pl)).2:=by
 unfold St.change
 rw[hp]
theorem kI{w:String}(hp:m.place w=none)(f:St→Bool→Nat→St×Nat):m.change w f={ (f m (!m.fm) (m.a % span (!m.fm))).1 with a:=low (!m.fm) m.a (f m (!m.fm) (m.a % span (!m.fm))).2 }:=by
 unfold St.change
 rw[hp]
theorem z6k(m:St)(b:Bool)(pl:Ql49.Place)(v:Nat):m.set b pl (v % span b)=m.set b pl v:=wN m b pl.at_ pl.next.at_ v
theorem z5o(m:St)(w:String):m.act "ASL" w=m.change w fun n b v=>(({ n with fc:=decide (Ql49.top b≤v) }).nz b (2 * v),2 * v % span b):=Eq.trans rfl rfl
theorem pO(h:Ok m){w:String}{n:Nat}{pl:Ql49.Place}{p:Nat}(hp:m.place w=some (n,pl))(ep:evF FT 6 p [.cpu] (aA m)=some (plU pl,aA (m.skip n)))(g:Good pl)(hw:¬(w="im"∨w="ix"):=by decide):aU m "ASL" w y4F p:=by
 refine cB ep ((x3e (k:=3) (ok_skip h n) g.a g.b).trans ?_)
 rw[cO g,z5o,iD hp]
 rfl
theorem z5B(m:St)(w:String):m.act "ROL" w=m.change w fun n b v=>(({ n with fc:=decide (Ql49.top b≤v) }).nz b (2 * v+bit m.fc 1),(2 * v+bit m.fc 1) % span b):=Eq.trans rfl rfl
theorem pV(h:Ok m){w:String}{n:Nat}{pl:Ql49.Place}{p:Nat}(hp:m.place w=some (n,pl))(ep:evF FT 6 p [.cpu] (aA m)=some (plU pl,aA (m.skip n)))(g:Good pl)(hw:¬(w="im"∨w="ix"):=by decide):aU m "ROL" w y5z p:=by
 refine cB ep ((x3s (k:=3) (ok_skip h n) g.a g.b).trans ?_)
 rw[cO g,z5B,iD hp]
 rfl
theorem z5z(m:St)(w:String):m.act "LSR" w=m.change w fun n b v=>(({ n with fc:=v % 2==1 }).nz b (v / 2),v / 2):=Eq.trans rfl rfl
theorem pU(h:Ok m){w:String}{n:Nat}{pl:Ql49.Place}{p:Nat}(hp:m.place w=some (n,pl))(ep:evF FT 6 p [.cpu] (aA m)=some (plU pl,aA (m.skip n)))(g:Good pl)(hw:¬(w="im"∨w="ix"):=by decide):aU m "LSR" w y5e p:=by
 refine cB ep ((x3p (k:=3) (ok_skip h n) g.a g.b).trans ?_)
 rw[cO g,z5z,iD hp]
 rw[←z6k]
 rfl
theorem z5C(m:St)(w:String):m.act "ROR" w=m.change w fun n b v=>(({ n with fc:=v % 2==1 }).nz b (v / 2+bit m.fc 1 * Ql49.top b),v / 2+bit m.fc 1 * Ql49.top b):=Eq.trans rfl rfl
theorem pW(h:Ok m){w:String}{n:Nat}{pl:Ql49.Place}{p:Nat}(hp:m.place w=some (n,pl))(ep:evF FT 6 p [.cpu] (aA m)=some (plU pl,aA (m.skip n)))(g:Good pl)(hw:¬(w="im"∨w="ix"):=by decide):aU m "ROR" w y5A p:=by
 refine cB ep ((x3t (k:=3) (ok_skip h n) g.a g.b).trans ?_)
 rw[cO g,z5C,iD hp]
 rw[←z6k]
 rfl
theorem z5v(m:St)(w:String):m.act "INC" w=m.change w fun n b v=>(n.nz b (v+1),(v+1) % span b):=Eq.trans rfl rfl
theorem pR(h:Ok m){w:String}{n:Nat}{pl:Ql49.Place}{p:Nat}(hp:m.place w=some (n,pl))(ep:evF FT 6 p [.cpu] (aA m)=some (plU pl,aA (m.skip n)))(g:Good pl)(hw:¬(w="im"∨w="ix"):=by decide):aU m "INC" w y5a p:=by
 refine cB ep ((x3l (k:=3) (ok_skip h n) g.a g.b).trans ?_)
 rw[cO g,z5v,iD hp]
 rfl
theorem z5t(m:St)(w:String):m.act "DEC" w=m.change w fun n b v=>(n.nz b (v+span b - 1),(v+span b - 1) % span b):=Eq.trans rfl rfl
theorem pQ(h:Ok m){w:String}{n:Nat}{pl:Ql49.Place}{p:Nat}(hp:m.place w=some (n,pl))(ep:evF FT 6 p [.cpu] (aA m)=some (plU pl,aA (m.skip n)))(g:Good pl)(hw:¬(w="im"∨w="ix"):=by decide):aU m "DEC" w y4X p:=by
 refine cB ep ((x3i (k:=3) (ok_skip h n) g.a g.b).trans ?_)
 rw[cO g,z5t,iD hp]
 rfl
theorem y2o(m:St)(w:String):m.act "TSB" w=m.change w fun n b v=>({ n with fz:=m.a % span b&&&v==0 },v|||m.a % span b):=Eq.trans rfl rfl
theorem y6m(h:Ok m){w:String}{n:Nat}{pl:Ql49.Place}{p:Nat}(hp:m.place w=some (n,pl))(ep:evF FT 6 p [.cpu] (aA m)=some (plU pl,aA (m.skip n)))(g:Good pl)(hw:¬(w="im"∨w="ix"):=by decide):aU m "TSB" w y5T p:=by
 refine cB ep ((x3z (k:=4) (ok_skip h n) g.a g.b).trans ?_)
 rw[cO g,y2o,iD hp]
 rfl
theorem y2n(m:St)(w:String):m.act "TRB" w=m.change w fun n b v=>({ n with fz:=m.a % span b&&&v==0 },v&&&(span b - 1 - m.a % span b)):=Eq.trans rfl rfl
theorem y6l(h:Ok m){w:String}{n:Nat}{pl:Ql49.Place}{p:Nat}(hp:m.place w=some (n,pl))(ep:evF FT 6 p [.cpu] (aA m)=some (plU pl,aA (m.skip n)))(g:Good pl)(hw:¬(w="im"∨w="ix"):=by decide):aU m "TRB" w y5S p:=by
 refine cB ep ((x3y (k:=4) (ok_skip h n) g.a g.b).trans ?_)
 rw[cO g,y2n,iD hp]
 rfl
theorem x3a(h:Ok m){p:Nat}{n:Nat}{pl:Ql49.Place}(hp:m.place "d"=some (n,pl))(ep:evF FT 6 p [.cpu] (aA m)=some (plU pl,aA (m.skip n)))(g:Good pl):aU m "PEI" "d" y5j p:=by
 have e1:some (1,zero (m.d+m.code 0))=some (n,pl):=hp
 cases e1
 refine cB ep ((x3r (k:=3) (ok_skip h 1) g.a g.b).trans ?_)
 have e:m.act "PEI" "d"=(m.skip 1).push2 (m.rd2 (zero (m.d+m.code 0))):=Eq.trans rfl rfl
 rw[e]
 unfold St.rd2
 rw[iH g.a,iH g.b]
 rfl
theorem z7L(h:Ok m):aI m "BRK" "i8" y4O:=(x7N (k:=2) h).trans rfl
theorem z7N(h:Ok m):aI m "COP" "i8" y4W:=(x7V (k:=2) h).trans rfl
theorem y1C(h:Ok m):aI m "PHP" "" y5p:=(x8m (k:=4) h).trans rfl
theorem y1A(h:Ok m):aI m "PHD" "" y5n:=(x8k (k:=3) h).trans rfl
theorem y1d(h:Ok m):aI m "BPL" "r" y4M:=(x7L (k:=4) h).trans rfl
theorem y1h(h:Ok m):aI m "CLC" "" y4S:=(x7R (k:=5)).trans rfl
theorem y1X(h:Ok m):aI m "TCS" "" y5Q:=(x8K (k:=4) h).trans rfl
theorem y1s(h:Ok m):aI m "JSR" "a" z5Q:=(y4x (k:=2) h).trans rfl
theorem z7Q(h:Ok m):aI m "JSL" "al" y5d:=(x8b (k:=2) h).trans rfl
theorem y1I(h:Ok m):aI m "PLP" "" y5v:=(x8s (k:=3) h).trans rfl
theorem y1H(h:Ok m):aI m "PLD" "" y5u:=(x8r (k:=2) h).trans rfl
theorem y1b(h:Ok m):aI m "BMI" "r" y4K:=(x7J (k:=4) h).trans rfl
theorem y1Q(h:Ok m):aI m "SEC" "" y5E:=(x8A (k:=5)).trans rfl
theorem y1Z(h:Ok m):aI m "TSC" "" y5U:=(x8M (k:=4) h).trans rfl
theorem y1N(h:Ok m):aI m "RTI" "" y5B:=(x8w (k:=2) h).trans rfl
theorem z7U(h:Ok m):aI m "WDM" "i8" y6c:=(x8U (k:=4) h).trans rfl
theorem y1y(h:Ok m):aI m "PHA" "" y5l:=(x8i (k:=2) h).trans rfl
theorem y1B(h:Ok m):aI m "PHK" "" y5o:=(x8l (k:=4) h).trans rfl
theorem y1r(h:Ok m):aI m "JMP" "a" z5P:=(y4w (k:=4) h).trans rfl
theorem y1f(h:Ok m):aI m "BVC" "r" y4Q:=(x7P (k:=4) h).trans rfl
theorem y1j(h:Ok m):aI m "CLI" "" y4U:=(x7T (k:=5)).trans rfl
theorem y1E(h:Ok m):aI m "PHY" "" y5r:=(x8o (k:=2) h).trans rfl
theorem y1W(h:Ok m):aI m "TCD" "" y5P:=(x8J (k:=4) h).trans rfl
theorem z7O(h:Ok m):aI m "JML" "al" z3d:=(y0P (k:=3) h).trans rfl
theorem y1P(h:Ok m):aI m "RTS" "" y5D:=(x8y (k:=2) h).trans rfl
theorem z7R(h:Ok m):aI m "PER" "rl" y5k:=(x8h (k:=3) h).trans rfl
theorem y1F(h:Ok m):aI m "PLA" "" y5s:=(x8p (k:=1) h).trans rfl
theorem y1O(h:Ok m):aI m "RTL" "" y5C:=(x8x (k:=2) h).trans rfl
theorem z7P(h:Ok m):aI m "JMP" "ai" z3e:=(y0Q (k:=4) h).trans rfl
theorem y1g(h:Ok m):aI m "BVS" "r" y4R:=(x7Q (k:=4) h).trans rfl
theorem y1S(h:Ok m):aI m "SEI" "" y5G:=(x8C (k:=5)).trans rfl
theorem y1K(h:Ok m):aI m "PLY" "" y5x:=(x8u (k:=1) h).trans rfl
theorem y1Y(h:Ok m):aI m "TDC" "" y5R:=(x8L (k:=4) h).trans rfl
theorem z6v(h:Ok m):aI m "JMP" "aix" z2n:=(z7H (k:=3) h).trans rfl
theorem y1e(h:Ok m):aI m "BRA" "r" y4N:=(x7M (k:=4) h).trans rfl
theorem z7M(h:Ok m):aI m "BRL" "rl" y4P:=(x7O (k:=4) h).trans rfl
theorem y1n(h:Ok m):aI m "DEY" "" y4Z:=(x7X (k:=4)).trans rfl
theorem y2b(h:Ok m):aI m "TXA" "" y5W:=(x8O (k:=3) h).trans rfl
theorem y1z(h:Ok m):aI m "PHB" "" y5m:=(x8j (k:=4) h).trans rfl
theorem y0Y(h:Ok m):aI m "BCC" "r" y4G:=(x7G (k:=4) h).trans rfl
theorem y2e(h:Ok m):aI m "TYA" "" y5Z:=(x8R (k:=3) h).trans rfl
theorem y2c(h:Ok m):aI m "TXS" "" y5X:=(x8P (k:=4) h).trans rfl
theorem y2d(h:Ok m):aI m "TXY" "" y5Y:=(x8Q (k:=4)).trans rfl
theorem y1V(h:Ok m):aI m "TAY" "" y5O:=(x8I (k:=4)).trans rfl
theorem y1U(h:Ok m):aI m "TAX" "" y5N:=(x8H (k:=4)).trans rfl
theorem y1G(h:Ok m):aI m "PLB" "" y5t:=(x8q (k:=3) h).trans rfl
theorem y0Z(h:Ok m):aI m "BCS" "r" y4H:=(x7H (k:=4) h).trans rfl
theorem y1k(h:Ok m):aI m "CLV" "" y4V:=(x7U (k:=5)).trans rfl
theorem y2a(h:Ok m):aI m "TSX" "" y5V:=(x8N (k:=4)).trans rfl
theorem y2f(h:Ok m):aI m "TYX" "" y6a:=(x8S (k:=4)).trans rfl
theorem z7S(h:Ok m):aI m "REP" "i8" y5y:=(x8v (k:=4) h).trans rfl
theorem y1q(h:Ok m):aI m "INY" "" y5c:=(x7Z (k:=4)).trans rfl
theorem y1m(h:Ok m):aI m "DEX" "" y4Y:=(x7W (k:=4)).trans rfl
theorem y2g(h:Ok m):aI m "WAI" "" y6b:=(x8T (k:=5)).trans rfl
theorem y1c(h:Ok m):aI m "BNE" "r" y4L:=(x7K (k:=4) h).trans rfl
theorem y1i(h:Ok m):aI m "CLD" "" y4T:=(x7S (k:=5)).trans rfl
theorem y1D(h:Ok m):aI m "PHX" "" y5q:=(x8n (k:=2) h).trans rfl
theorem y1T(h:Ok m):aI m "STP" "" y5J:=(x8G (k:=5)).trans rfl
theorem z6u(h:Ok m):aI m "JML" "al2" z2m:=(z7G (k:=3) h).trans rfl
theorem z7T(h:Ok m):aI m "SEP" "i8" y5H:=(x8D (k:=4) h).trans rfl
theorem y1p(h:Ok m):aI m "INX" "" y5b:=(x7Y (k:=4)).trans rfl
theorem y1w(h:Ok m):aI m "NOP" "" y5h:=(x8f (k:=5)).trans rfl
theorem y2h(h:Ok m):aI m "XBA" "" y6d:=(x8V (k:=4) h).trans rfl
theorem y1a(h:Ok m):aI m "BEQ" "r" y4I:=(x7I (k:=4) h).trans rfl
theorem y1x(h:Ok m):aI m "PEA" "w" y5i:=(x8g (k:=3) h).trans rfl
theorem y1R(h:Ok m):aI m "SED" "" y5F:=(x8B (k:=5)).trans rfl
theorem y1J(h:Ok m):aI m "PLX" "" y5w:=(x8t (k:=1) h).trans rfl
theorem y2i(h:Ok m):aI m "XCE" "" y6e:=(x8W (k:=3) h).trans rfl
theorem z6w(h:Ok m):aI m "JSR" "aix" z2o:=(z7I (k:=2) h).trans rfl
theorem oY(m:St)(w:Bool)(v v':Nat)(hw:w=!m.fm)(e:v % span w=v' % span w):({ m.nz w v with a:=low w m.a (v % span w) }:St)=m.lda v':=by
 subst hw
 rw[←eY m (!m.fm) v,e,eY,z5Z]
 rfl
theorem y3c(a b s:Nat):(a % s+b) % s=(a+b) % s:=Nat.mod_add_mod a s b
theorem z9l(a s:Nat)(hs:1≤s):(a % s+s - 1) % s=(a+s - 1) % s:=by
 rw[Nat.add_sub_assoc hs,Nat.add_sub_assoc hs,Nat.mod_add_mod]
theorem y1o(h:Ok m):aI m "INC" "A" z5O:=((y4v (k:=3) h).trans (by
 rw[z5v,kI (w:="A") rfl]
 exact congrArg (fun z=>some (U.non,aA z)) (oY m (!m.fm) _ _ rfl (y3c _ _ _)).symm))
theorem y1l(h:Ok m):aI m "DEC" "A" z5N:=((y4u (k:=3) h).trans (by
 rw[z5t,kI (w:="A") rfl]
 exact congrArg (fun z=>some (U.non,aA z)) (oY m (!m.fm) _ _ rfl (z9l _ _ (by cases m.fm <;> decide))).symm))
theorem y0X(h:Ok m):aI m "ASL" "A" z5M:=((y4t (k:=3) h).trans (by
 rw[z5o,kI (w:="A") rfl]
 exact congrArg (fun z=>some (U.non,aA z)) (oY { m with fc:=decide (Ql49.top (!m.fm)≤m.a % span (!m.fm)) } (!m.fm) _ _ rfl rfl).symm))
theorem y1L(h:Ok m):aI m "ROL" "A" z5S:=((y4A (k:=3) h).trans (by
 rw[z5B,kI (w:="A") rfl]
 exact congrArg (fun z=>some (U.non,aA z)) (oY { m with fc:=decide (Ql49.top (!m.fm)≤m.a % span (!m.fm)) } (!m.fm) _ _ rfl rfl).symm))
theorem z5X(m:St)(w:Bool)(v:Nat)(hw:w=!m.fm):({ m.nz w v with a:=low w m.a v }:St)=m.lda v:=by
 subst hw
 rfl
theorem y1t(h:Ok m):aI m "LSR" "A" z5R:=((y4y (k:=3) h).trans (by
 rw[z5z,kI (w:="A") rfl]
 exact congrArg (fun z=>some (U.non,aA z)) (z5X { m with fc:=m.a % span (!m.fm) % 2==1 } (!m.fm) _ rfl).symm))
theorem y1M(h:Ok m):aI m "ROR" "A" z5T:=((y4B (k:=3) h).trans (by
 rw[z5C,kI (w:="A") rfl]
 exact congrArg (fun z=>some (U.non,aA z)) (z5X { m with fc:=m.a % span (!m.fm) % 2==1 } (!m.fm) _ rfl).symm))
theorem z2V(h:Ok m):m.rd (m.code 1 * W+m.x)=m.mem (m.code 1 * 65536+m.x):=by
 have h1:=gG h.mem 1
 have h2:=h.x
 rw[dX,iH (by omega)]
theorem y1u(h:Ok m):aI m "MVN" "b" y5f:=((x8c (k:=3) h).trans (by
 have e:m.act "MVN" "b"={ m.wr (m.code 0 * W+m.y) (m.rd (m.code 1 * W+m.x)) with x:=(m.x+1) % span (!m.fx),y:=(m.y+1) % span (!m.fx),a:=(m.a+65535) % W,db:=m.code 0,pc:=if m.a=0 then (m.pc+2) % W else (m.pc+65535) % W }:=Eq.trans rfl rfl
 rw[e,z2V h]
 rfl))
theorem y1v(h:Ok m):aI m "MVP" "b" y5g:=((x8d (k:=3) h).trans (by
 have e:m.act "MVP" "b"={ m.wr (m.code 0 * W+m.y) (m.rd (m.code 1 * W+m.x)) with x:=(m.x+65535) % span (!m.fx),y:=(m.y+65535) % span (!m.fx),a:=(m.a+65535) % W,db:=m.code 0,pc:=if m.a=0 then (m.pc+2) % W else (m.pc+65535) % W }:=Eq.trans rfl rfl
 rw[e,z2V h]
 rfl))
variable{m:St}
theorem d_0(h:Ok m):aB m 0:=z7L h
theorem d_1(h:Ok m):aB m 1:=eF h rfl (iT h) (aE _)
theorem d_2(h:Ok m):aB m 2:=z7N h
theorem d_3(h:Ok m):aB m 3:=eF h rfl (jD h) (aN _)
theorem d_4(h:Ok m):aB m 4:=y6m h rfl (p_d h) (aN _)
theorem d_5(h:Ok m):aB m 5:=eF h rfl (p_d h) (aN _)
theorem d_6(h:Ok m):aB m 6:=pO h rfl (p_d h) (aN _)
theorem d_7(h:Ok m):aB m 7:=eF h rfl (jB h) (aE _)
theorem d_8(h:Ok m):aB m 8:=y1C h
theorem d_9(h:Ok m):aB m 9:=x2R h
theorem d_10(h:Ok m):aB m 10:=y0X h
theorem d_11(h:Ok m):aB m 11:=y1A h
theorem d_12(h:Ok m):aB m 12:=y6m h rfl (p_a h) (aE _)
theorem d_13(h:Ok m):aB m 13:=eF h rfl (p_a h) (aE _)
theorem d_14(h:Ok m):aB m 14:=pO h rfl (p_a h) (aE _)
theorem d_15(h:Ok m):aB m 15:=eF h rfl (iZ h) (aE _)
theorem d_16(h:Ok m):aB m 16:=y1d h
theorem d_17(h:Ok m):aB m 17:=eF h rfl (iU h) (aE _)
theorem d_18(h:Ok m):aB m 18:=eF h rfl (jA h) (aE _)
theorem d_19(h:Ok m):aB m 19:=eF h rfl (iW h) (aE _)
theorem d_20(h:Ok m):aB m 20:=y6l h rfl (p_d h) (aN _)
theorem d_21(h:Ok m):aB m 21:=eF h rfl (cX h) (aN _)
theorem d_22(h:Ok m):aB m 22:=pO h rfl (cX h) (aN _)
theorem d_23(h:Ok m):aB m 23:=eF h rfl (iV h) (aE _)
theorem d_24(h:Ok m):aB m 24:=y1h h
theorem d_25(h:Ok m):aB m 25:=eF h rfl (hV h) (aE _)
theorem d_26(h:Ok m):aB m 26:=y1o h
theorem d_27(h:Ok m):aB m 27:=y1X h
theorem d_28(h:Ok m):aB m 28:=y6l h rfl (p_a h) (aE _)
theorem d_29(h:Ok m):aB m 29:=eF h rfl (dE h) (aE _)
theorem d_30(h:Ok m):aB m 30:=pO h rfl (dE h) (aE _)
theorem d_31(h:Ok m):aB m 31:=eF h rfl (iS h) (aE _)
theorem d_32(h:Ok m):aB m 32:=y1s h
theorem d_33(h:Ok m):aB m 33:=eB h rfl (iT h) (aE _)
theorem d_34(h:Ok m):aB m 34:=z7Q h
theorem d_35(h:Ok m):aB m 35:=eB h rfl (jD h) (aN _)
theorem d_36(h:Ok m):aB m 36:=pP h rfl (p_d h) (aN _)
theorem d_37(h:Ok m):aB m 37:=eB h rfl (p_d h) (aN _)
theorem d_38(h:Ok m):aB m 38:=pV h rfl (p_d h) (aN _)
theorem d_39(h:Ok m):aB m 39:=eB h rfl (jB h) (aE _)
theorem d_40(h:Ok m):aB m 40:=y1I h
theorem d_41(h:Ok m):aB m 41:=x2I h
theorem d_42(h:Ok m):aB m 42:=y1L h
theorem d_43(h:Ok m):aB m 43:=y1H h
theorem d_44(h:Ok m):aB m 44:=pP h rfl (p_a h) (aE _)
theorem d_45(h:Ok m):aB m 45:=eB h rfl (p_a h) (aE _)
theorem d_46(h:Ok m):aB m 46:=pV h rfl (p_a h) (aE _)
theorem d_47(h:Ok m):aB m 47:=eB h rfl (iZ h) (aE _)
theorem d_48(h:Ok m):aB m 48:=y1b h
theorem d_49(h:Ok m):aB m 49:=eB h rfl (iU h) (aE _)
theorem d_50(h:Ok m):aB m 50:=eB h rfl (jA h) (aE _)
theorem d_51(h:Ok m):aB m 51:=eB h rfl (iW h) (aE _)
theorem d_52(h:Ok m):aB m 52:=pP h rfl (cX h) (aN _)
theorem d_53(h:Ok m):aB m 53:=eB h rfl (cX h) (aN _)
theorem d_54(h:Ok m):aB m 54:=pV h rfl (cX h) (aN _)
theorem d_55(h:Ok m):aB m 55:=eB h rfl (iV h) (aE _)
theorem d_56(h:Ok m):aB m 56:=y1Q h
theorem d_57(h:Ok m):aB m 57:=eB h rfl (hV h) (aE _)
theorem d_58(h:Ok m):aB m 58:=y1l h
theorem d_59(h:Ok m):aB m 59:=y1Z h
theorem d_60(h:Ok m):aB m 60:=pP h rfl (dE h) (aE _)
theorem d_61(h:Ok m):aB m 61:=eB h rfl (dE h) (aE _)
theorem d_62(h:Ok m):aB m 62:=pV h rfl (dE h) (aE _)
theorem d_63(h:Ok m):aB m 63:=eB h rfl (iS h) (aE _)
theorem d_64(h:Ok m):aB m 64:=y1N h
theorem d_65(h:Ok m):aB m 65:=eD h rfl (iT h) (aE _)
theorem d_66(h:Ok m):aB m 66:=z7U h
theorem d_67(h:Ok m):aB m 67:=eD h rfl (jD h) (aN _)
theorem d_68(h:Ok m):aB m 68:=y1v h
theorem d_69(h:Ok m):aB m 69:=eD h rfl (p_d h) (aN _)
theorem d_70(h:Ok m):aB m 70:=pU h rfl (p_d h) (aN _)
theorem d_71(h:Ok m):aB m 71:=eD h rfl (jB h) (aE _)
theorem d_72(h:Ok m):aB m 72:=y1y h
theorem d_73(h:Ok m):aB m 73:=x2N h
theorem d_74(h:Ok m):aB m 74:=y1t h
theorem d_75(h:Ok m):aB m 75:=y1B h
theorem d_76(h:Ok m):aB m 76:=y1r h
theorem d_77(h:Ok m):aB m 77:=eD h rfl (p_a h) (aE _)
theorem d_78(h:Ok m):aB m 78:=pU h rfl (p_a h) (aE _)
theorem d_79(h:Ok m):aB m 79:=eD h rfl (iZ h) (aE _)
theorem d_80(h:Ok m):aB m 80:=y1f h
theorem d_81(h:Ok m):aB m 81:=eD h rfl (iU h) (aE _)
theorem d_82(h:Ok m):aB m 82:=eD h rfl (jA h) (aE _)
theorem d_83(h:Ok m):aB m 83:=eD h rfl (iW h) (aE _)
theorem d_84(h:Ok m):aB m 84:=y1u h
theorem d_85(h:Ok m):aB m 85:=eD h rfl (cX h) (aN _)
theorem d_86(h:Ok m):aB m 86:=pU h rfl (cX h) (aN _)
theorem d_87(h:Ok m):aB m 87:=eD h rfl (iV h) (aE _)
theorem d_88(h:Ok m):aB m 88:=y1j h
theorem d_89(h:Ok m):aB m 89:=eD h rfl (hV h) (aE _)
theorem d_90(h:Ok m):aB m 90:=y1E h
theorem d_91(h:Ok m):aB m 91:=y1W h
theorem d_92(h:Ok m):aB m 92:=z7O h
theorem d_93(h:Ok m):aB m 93:=eD h rfl (dE h) (aE _)
theorem d_94(h:Ok m):aB m 94:=pU h rfl (dE h) (aE _)
theorem d_95(h:Ok m):aB m 95:=eD h rfl (iS h) (aE _)
theorem d_96(h:Ok m):aB m 96:=y1P h
theorem d_97(h:Ok m):aB m 97:=eA h rfl (iT h) (aE _)
theorem d_98(h:Ok m):aB m 98:=z7R h
theorem d_99(h:Ok m):aB m 99:=eA h rfl (jD h) (aN _)
theorem y9u(h:Ok m):aB m 100:=pX h rfl (p_d h) (aN _)
theorem y9v(h:Ok m):aB m 101:=eA h rfl (p_d h) (aN _)
theorem y9w(h:Ok m):aB m 102:=pW h rfl (p_d h) (aN _)
theorem y9x(h:Ok m):aB m 103:=eA h rfl (jB h) (aE _)
theorem y9y(h:Ok m):aB m 104:=y1F h
theorem y9z(h:Ok m):aB m 105:=x2H h
theorem y9A(h:Ok m):aB m 106:=y1M h
theorem y9B(h:Ok m):aB m 107:=y1O h
theorem y9C(h:Ok m):aB m 108:=z7P h
theorem y9D(h:Ok m):aB m 109:=eA h rfl (p_a h) (aE _)
theorem y9E(h:Ok m):aB m 110:=pW h rfl (p_a h) (aE _)
theorem y9F(h:Ok m):aB m 111:=eA h rfl (iZ h) (aE _)
theorem y9G(h:Ok m):aB m 112:=y1g h
theorem y9H(h:Ok m):aB m 113:=eA h rfl (iU h) (aE _)
theorem y9I(h:Ok m):aB m 114:=eA h rfl (jA h) (aE _)
theorem y9J(h:Ok m):aB m 115:=eA h rfl (iW h) (aE _)
theorem y9K(h:Ok m):aB m 116:=pX h rfl (cX h) (aN _)
theorem y9L(h:Ok m):aB m 117:=eA h rfl (cX h) (aN _)
theorem y9M(h:Ok m):aB m 118:=pW h rfl (cX h) (aN _)
theorem y9N(h:Ok m):aB m 119:=eA h rfl (iV h) (aE _)
theorem y9O(h:Ok m):aB m 120:=y1S h
theorem y9P(h:Ok m):aB m 121:=eA h rfl (hV h) (aE _)
theorem y9Q(h:Ok m):aB m 122:=y1K h
theorem y9R(h:Ok m):aB m 123:=y1Y h
theorem y9S(h:Ok m):aB m 124:=z6v h
theorem y9T(h:Ok m):aB m 125:=eA h rfl (dE h) (aE _)
theorem y9U(h:Ok m):aB m 126:=pW h rfl (dE h) (aE _)
theorem y9V(h:Ok m):aB m 127:=eA h rfl (iS h) (aE _)
theorem y9W(h:Ok m):aB m 128:=y1e h
theorem y9X(h:Ok m):aB m 129:=eH h rfl (iT h) (aE _)
theorem y9Y(h:Ok m):aB m 130:=z7M h
theorem y9Z(h:Ok m):aB m 131:=eH h rfl (jD h) (aN _)
theorem x0a(h:Ok m):aB m 132:=z9j h rfl (p_d h) (aN _)
theorem x0b(h:Ok m):aB m 133:=eH h rfl (p_d h) (aN _)
theorem x0c(h:Ok m):aB m 134:=z9i h rfl (p_d h) (aN _)
theorem x0d(h:Ok m):aB m 135:=eH h rfl (jB h) (aE _)
theorem x0e(h:Ok m):aB m 136:=y1n h
theorem x0f(h:Ok m):aB m 137:=x2J h
theorem x0g(h:Ok m):aB m 138:=y2b h
theorem x0h(h:Ok m):aB m 139:=y1z h
theorem x0i(h:Ok m):aB m 140:=z9j h rfl (p_a h) (aE _)
theorem x0j(h:Ok m):aB m 141:=eH h rfl (p_a h) (aE _)
theorem x0k(h:Ok m):aB m 142:=z9i h rfl (p_a h) (aE _)
theorem x0l(h:Ok m):aB m 143:=eH h rfl (iZ h) (aE _)
theorem x0m(h:Ok m):aB m 144:=y0Y h
theorem x0n(h:Ok m):aB m 145:=eH h rfl (iU h) (aE _)
theorem x0o(h:Ok m):aB m 146:=eH h rfl (jA h) (aE _)
theorem x0p(h:Ok m):aB m 147:=eH h rfl (iW h) (aE _)
theorem x0q(h:Ok m):aB m 148:=z9j h rfl (cX h) (aN _)
theorem x0r(h:Ok m):aB m 149:=eH h rfl (cX h) (aN _)
theorem x0s(h:Ok m):aB m 150:=z9i h rfl (p_dy h) (aN _)
theorem x0t(h:Ok m):aB m 151:=eH h rfl (iV h) (aE _)
theorem x0u(h:Ok m):aB m 152:=y2e h
theorem x0v(h:Ok m):aB m 153:=eH h rfl (hV h) (aE _)
theorem x0w(h:Ok m):aB m 154:=y2c h
theorem x0x(h:Ok m):aB m 155:=y2d h
theorem x0y(h:Ok m):aB m 156:=pX h rfl (p_a h) (aE _)
theorem x0z(h:Ok m):aB m 157:=eH h rfl (dE h) (aE _)
theorem x0A(h:Ok m):aB m 158:=pX h rfl (dE h) (aE _)
theorem x0B(h:Ok m):aB m 159:=eH h rfl (iS h) (aE _)
theorem x0C(h:Ok m):aB m 160:=x2Q h
theorem x0D(h:Ok m):aB m 161:=eE h rfl (iT h) (aE _)
theorem x0E(h:Ok m):aB m 162:=x2P h
theorem x0F(h:Ok m):aB m 163:=eE h rfl (jD h) (aN _)
theorem x0G(h:Ok m):aB m 164:=pT h rfl (p_d h) (aN _)
theorem x0H(h:Ok m):aB m 165:=eE h rfl (p_d h) (aN _)
theorem x0I(h:Ok m):aB m 166:=pS h rfl (p_d h) (aN _)
theorem x0J(h:Ok m):aB m 167:=eE h rfl (jB h) (aE _)
theorem x0K(h:Ok m):aB m 168:=y1V h
theorem x0L(h:Ok m):aB m 169:=x2O h
theorem x0M(h:Ok m):aB m 170:=y1U h
theorem x0N(h:Ok m):aB m 171:=y1G h
theorem x0O(h:Ok m):aB m 172:=pT h rfl (p_a h) (aE _)
theorem x0P(h:Ok m):aB m 173:=eE h rfl (p_a h) (aE _)
theorem x0Q(h:Ok m):aB m 174:=pS h rfl (p_a h) (aE _)
theorem x0R(h:Ok m):aB m 175:=eE h rfl (iZ h) (aE _)
theorem x0S(h:Ok m):aB m 176:=y0Z h
theorem x0T(h:Ok m):aB m 177:=eE h rfl (iU h) (aE _)
theorem x0U(h:Ok m):aB m 178:=eE h rfl (jA h) (aE _)
theorem x0V(h:Ok m):aB m 179:=eE h rfl (iW h) (aE _)
theorem x0W(h:Ok m):aB m 180:=pT h rfl (cX h) (aN _)
theorem x0X(h:Ok m):aB m 181:=eE h rfl (cX h) (aN _)
theorem x0Y(h:Ok m):aB m 182:=pS h rfl (p_dy h) (aN _)
theorem x0Z(h:Ok m):aB m 183:=eE h rfl (iV h) (aE _)
theorem x1a(h:Ok m):aB m 184:=y1k h
theorem x1b(h:Ok m):aB m 185:=eE h rfl (hV h) (aE _)
theorem x1c(h:Ok m):aB m 186:=y2a h
theorem x1d(h:Ok m):aB m 187:=y2f h
theorem x1e(h:Ok m):aB m 188:=pT h rfl (dE h) (aE _)
theorem x1f(h:Ok m):aB m 189:=eE h rfl (dE h) (aE _)
theorem x1g(h:Ok m):aB m 190:=pS h rfl (hV h) (aE _)
theorem x1h(h:Ok m):aB m 191:=eE h rfl (iS h) (aE _)
theorem x1i(h:Ok m):aB m 192:=x2M h
theorem x1j(h:Ok m):aB m 193:=eC h rfl (iT h) (aE _)
theorem x1k(h:Ok m):aB m 194:=z7S h
theorem x1l(h:Ok m):aB m 195:=eC h rfl (jD h) (aN _)
theorem x1m(h:Ok m):aB m 196:=y6k h rfl (p_d h) (aN _)
theorem x1n(h:Ok m):aB m 197:=eC h rfl (p_d h) (aN _)
theorem x1o(h:Ok m):aB m 198:=pQ h rfl (p_d h) (aN _)
theorem x1p(h:Ok m):aB m 199:=eC h rfl (jB h) (aE _)
theorem x1q(h:Ok m):aB m 200:=y1q h
theorem x1r(h:Ok m):aB m 201:=x2K h
theorem x1s(h:Ok m):aB m 202:=y1m h
theorem x1t(h:Ok m):aB m 203:=y2g h
theorem x1u(h:Ok m):aB m 204:=y6k h rfl (p_a h) (aE _)
theorem x1v(h:Ok m):aB m 205:=eC h rfl (p_a h) (aE _)
theorem x1w(h:Ok m):aB m 206:=pQ h rfl (p_a h) (aE _)
theorem x1x(h:Ok m):aB m 207:=eC h rfl (iZ h) (aE _)
theorem x1y(h:Ok m):aB m 208:=y1c h
theorem x1z(h:Ok m):aB m 209:=eC h rfl (iU h) (aE _)
theorem x1A(h:Ok m):aB m 210:=eC h rfl (jA h) (aE _)
theorem x1B(h:Ok m):aB m 211:=eC h rfl (iW h) (aE _)
theorem x1C(h:Ok m):aB m 212:=x3a h rfl (p_d h) (aN _)
theorem x1D(h:Ok m):aB m 213:=eC h rfl (cX h) (aN _)
theorem x1E(h:Ok m):aB m 214:=pQ h rfl (cX h) (aN _)
theorem x1F(h:Ok m):aB m 215:=eC h rfl (iV h) (aE _)
theorem x1G(h:Ok m):aB m 216:=y1i h
theorem x1H(h:Ok m):aB m 217:=eC h rfl (hV h) (aE _)
theorem x1I(h:Ok m):aB m 218:=y1D h
theorem x1J(h:Ok m):aB m 219:=y1T h
theorem x1K(h:Ok m):aB m 220:=z6u h
theorem x1L(h:Ok m):aB m 221:=eC h rfl (dE h) (aE _)
theorem x1M(h:Ok m):aB m 222:=pQ h rfl (dE h) (aE _)
theorem x1N(h:Ok m):aB m 223:=eC h rfl (iS h) (aE _)
theorem x1O(h:Ok m):aB m 224:=x2L h
theorem x1P(h:Ok m):aB m 225:=eG h rfl (iT h) (aE _)
theorem x1Q(h:Ok m):aB m 226:=z7T h
theorem x1R(h:Ok m):aB m 227:=eG h rfl (jD h) (aN _)
theorem x1S(h:Ok m):aB m 228:=y6j h rfl (p_d h) (aN _)
theorem x1T(h:Ok m):aB m 229:=eG h rfl (p_d h) (aN _)
theorem x1U(h:Ok m):aB m 230:=pR h rfl (p_d h) (aN _)
theorem x1V(h:Ok m):aB m 231:=eG h rfl (jB h) (aE _)
theorem x1W(h:Ok m):aB m 232:=y1p h
theorem x1X(h:Ok m):aB m 233:=x2S h
theorem x1Y(h:Ok m):aB m 234:=y1w h
theorem x1Z(h:Ok m):aB m 235:=y2h h
theorem x2a(h:Ok m):aB m 236:=y6j h rfl (p_a h) (aE _)
theorem x2b(h:Ok m):aB m 237:=eG h rfl (p_a h) (aE _)
theorem x2c(h:Ok m):aB m 238:=pR h rfl (p_a h) (aE _)
theorem x2d(h:Ok m):aB m 239:=eG h rfl (iZ h) (aE _)
theorem x2e(h:Ok m):aB m 240:=y1a h
theorem x2f(h:Ok m):aB m 241:=eG h rfl (iU h) (aE _)
theorem x2g(h:Ok m):aB m 242:=eG h rfl (jA h) (aE _)
theorem x2h(h:Ok m):aB m 243:=eG h rfl (iW h) (aE _)
theorem x2i(h:Ok m):aB m 244:=y1x h
theorem x2j(h:Ok m):aB m 245:=eG h rfl (cX h) (aN _)
theorem x2k(h:Ok m):aB m 246:=pR h rfl (cX h) (aN _)
theorem x2l(h:Ok m):aB m 247:=eG h rfl (iV h) (aE _)
theorem x2m(h:Ok m):aB m 248:=y1R h
theorem x2n(h:Ok m):aB m 249:=eG h rfl (hV h) (aE _)
theorem x2o(h:Ok m):aB m 250:=y1J h
theorem x2p(h:Ok m):aB m 251:=y2i h
theorem x2q(h:Ok m):aB m 252:=z6w h
theorem x2r(h:Ok m):aB m 253:=eG h rfl (dE h) (aE _)
theorem x2s(h:Ok m):aB m 254:=pR h rfl (dE h) (aE _)
theorem x2t(h:Ok m):aB m 255:=eG h rfl (iS h) (aE _)
noncomputable def cU(P:Nat→Prop):Nat→Nat→Prop
 |_,0=>True
 |i,n+1=>P i∧cU P (i+1) n
theorem cY{P:Nat→Prop}:∀(n i:Nat),cU P i n→∀ j,i≤j→j<i+n→P j
 |0,i,_,j,h1,h2=>absurd h2 (by omega)
 |n+1,i,h,j,h1,h2=>by
  by_cases e:j=i
  ·subst e;exact h.1
  ·exact cY n (i+1) h.2 j (by omega) (by omega)
theorem y9j(h:Ok m):cU (aB m) 0 16:=⟨d_0 h,d_1 h,d_2 h,d_3 h,d_4 h,d_5 h,d_6 h,d_7 h,d_8 h,d_9 h,d_10 h,d_11 h,d_12 h,d_13 h,d_14 h,d_15 h,trivial⟩
theorem y6W(h:Ok m):cU (aB m) 16 16:=⟨d_16 h,d_17 h,d_18 h,d_19 h,d_20 h,d_21 h,d_22 h,d_23 h,d_24 h,d_25 h,d_26 h,d_27 h,d_28 h,d_29 h,d_30 h,d_31 h,trivial⟩
theorem y6X(h:Ok m):cU (aB m) 32 16:=⟨d_32 h,d_33 h,d_34 h,d_35 h,d_36 h,d_37 h,d_38 h,d_39 h,d_40 h,d_41 h,d_42 h,d_43 h,d_44 h,d_45 h,d_46 h,d_47 h,trivial⟩
theorem y6Y(h:Ok m):cU (aB m) 48 16:=⟨d_48 h,d_49 h,d_50 h,d_51 h,d_52 h,d_53 h,d_54 h,d_55 h,d_56 h,d_57 h,d_58 h,d_59 h,d_60 h,d_61 h,d_62 h,d_63 h,trivial⟩
theorem y6Z(h:Ok m):cU (aB m) 64 16:=⟨d_64 h,d_65 h,d_66 h,d_67 h,d_68 h,d_69 h,d_70 h,d_71 h,d_72 h,d_73 h,d_74 h,d_75 h,d_76 h,d_77 h,d_78 h,d_79 h,trivial⟩
theorem y7a(h:Ok m):cU (aB m) 80 16:=⟨d_80 h,d_81 h,d_82 h,d_83 h,d_84 h,d_85 h,d_86 h,d_87 h,d_88 h,d_89 h,d_90 h,d_91 h,d_92 h,d_93 h,d_94 h,d_95 h,trivial⟩
theorem y7b(h:Ok m):cU (aB m) 96 16:=⟨d_96 h,d_97 h,d_98 h,d_99 h,y9u h,y9v h,y9w h,y9x h,y9y h,y9z h,y9A h,y9B h,y9C h,y9D h,y9E h,y9F h,trivial⟩
theorem y2p(h:Ok m):cU (aB m) 112 16:=⟨y9G h,y9H h,y9I h,y9J h,y9K h,y9L h,y9M h,y9N h,y9O h,y9P h,y9Q h,y9R h,y9S h,y9T h,y9U h,y9V h,trivial⟩
theorem y2q(h:Ok m):cU (aB m) 128 16:=⟨y9W h,y9X h,y9Y h,y9Z h,x0a h,x0b h,x0c h,x0d h,x0e h,x0f h,x0g h,x0h h,x0i h,x0j h,x0k h,x0l h,trivial⟩
theorem y2r(h:Ok m):cU (aB m) 144 16:=⟨x0m h,x0n h,x0o h,x0p h,x0q h,x0r h,x0s h,x0t h,x0u h,x0v h,x0w h,x0x h,x0y h,x0z h,x0A h,x0B h,trivial⟩
theorem y2s(h:Ok m):cU (aB m) 160 16:=⟨x0C h,x0D h,x0E h,x0F h,x0G h,x0H h,x0I h,x0J h,x0K h,x0L h,x0M h,x0N h,x0O h,x0P h,x0Q h,x0R h,trivial⟩
theorem y2t(h:Ok m):cU (aB m) 176 16:=⟨x0S h,x0T h,x0U h,x0V h,x0W h,x0X h,x0Y h,x0Z h,x1a h,x1b h,x1c h,x1d h,x1e h,x1f h,x1g h,x1h h,trivial⟩
theorem y2u(h:Ok m):cU (aB m) 192 16:=⟨x1i h,x1j h,x1k h,x1l h,x1m h,x1n h,x1o h,x1p h,x1q h,x1r h,x1s h,x1t h,x1u h,x1v h,x1w h,x1x h,trivial⟩
theorem y2v(h:Ok m):cU (aB m) 208 16:=⟨x1y h,x1z h,x1A h,x1B h,x1C h,x1D h,x1E h,x1F h,x1G h,x1H h,x1I h,x1J h,x1K h,x1L h,x1M h,x1N h,trivial⟩
theorem y2w(h:Ok m):cU (aB m) 224 16:=⟨x1O h,x1P h,x1Q h,x1R h,x1S h,x1T h,x1U h,x1V h,x1W h,x1X h,x1Y h,x1Z h,x2a h,x2b h,x2c h,x2d h,trivial⟩
theorem y2x(h:Ok m):cU (aB m) 240 16:=⟨x2e h,x2f h,x2g h,x2h h,x2i h,x2j h,x2k h,x2l h,x2m h,x2n h,x2o h,x2p h,x2q h,x2r h,x2s h,x2t h,trivial⟩
theorem z8A(h:Ok m)(op:Nat)(ho:op<256):aB m op:=by
 by_cases h0:op<16
 ·exact cY 16 0 (y9j h) op (by omega) (by omega)
 by_cases h16:op<32
 ·exact cY 16 16 (y6W h) op (by omega) (by omega)
 by_cases h32:op<48
 ·exact cY 16 32 (y6X h) op (by omega) (by omega)
 by_cases h48:op<64
 ·exact cY 16 48 (y6Y h) op (by omega) (by omega)
 by_cases h64:op<80
 ·exact cY 16 64 (y6Z h) op (by omega) (by omega)
 by_cases h80:op<96
 ·exact cY 16 80 (y7a h) op (by omega) (by omega)
 by_cases h96:op<112
 ·exact cY 16 96 (y7b h) op (by omega) (by omega)
 by_cases h112:op<128
 ·exact cY 16 112 (y2p h) op (by omega) (by omega)
 by_cases h128:op<144
 ·exact cY 16 128 (y2q h) op (by omega) (by omega)
 by_cases h144:op<160
 ·exact cY 16 144 (y2r h) op (by omega) (by omega)
 by_cases h160:op<176
 ·exact cY 16 160 (y2s h) op (by omega) (by omega)
 by_cases h176:op<192
 ·exact cY 16 176 (y2t h) op (by omega) (by omega)
 by_cases h192:op<208
 ·exact cY 16 192 (y2u h) op (by omega) (by omega)
 by_cases h208:op<224
 ·exact cY 16 208 (y2v h) op (by omega) (by omega)
 by_cases h224:op<240
 ·exact cY 16 224 (y2w h) op (by omega) (by omega)
 by_cases h240:op<256
 ·exact cY 16 240 (y2x h) op (by omega) (by omega)
 omega
variable{m:St}{k:Nat}
theorem x_sa(v:Nat):evF FT 6 jK [.cpu,.int v] (aA m)=some (.non,aA { m with a:=v % 65536 }):=by
 rw[y4h,vS]
 simp_arith only[eX]
theorem y8L(h:Ok m)(v:Nat):({ m with x:=v % 65536 }:St).tidy={ m with x:=v % span (!m.fx) }:=by
 obtain⟨a,x,y,d,s,pc,pb,db,fn,fv,fm,fx,fd,fi,fz,fc,emu,waits,stopped,nmi,irq,mem,why⟩:=m
 have h1:=h.em
 have h2:=h.nx
 simp only at h1 h2
 cases emu <;> cases fx <;> simp_all [St.tidy,span] <;> omega
theorem y8M(h:Ok m)(v:Nat):({ m with y:=v % 65536 }:St).tidy={ m with y:=v % span (!m.fx) }:=by
 obtain⟨a,x,y,d,s,pc,pb,db,fn,fv,fm,fx,fd,fi,fz,fc,emu,waits,stopped,nmi,irq,mem,why⟩:=m
 have h1:=h.em
 have h2:=h.nx
 simp only at h1 h2
 cases emu <;> cases fx <;> simp_all [St.tidy,span] <;> omega
theorem x_sx(h:Ok m)(v:Nat):evF FT 6 y2T [.cpu,.int v] (aA m)=some (.non,aA ({ m with x:=v % 65536 }:St).tidy):=by
 rw[y4k,vV,y8L h]
 have e:=mk_x (k:=4) (m:=m)
 cases c:m.fx
 ·rw[c] at e
  simp_arith only[e,c,span,Bool.not_false]
 ·rw[c] at e
  simp_arith only[e,c,span,Bool.not_true]
theorem x_sy(h:Ok m)(v:Nat):evF FT 6 y2U [.cpu,.int v] (aA m)=some (.non,aA ({ m with y:=v % 65536 }:St).tidy):=by
 rw[y4l,vW,y8M h]
 have e:=mk_x (k:=4) (m:=m)
 cases c:m.fx
 ·rw[c] at e
  simp_arith only[e,c,span,Bool.not_false]
 ·rw[c] at e
  simp_arith only[e,c,span,Bool.not_true]
theorem x_sd(v:Nat):evF FT 6 y2R [.cpu,.int v] (aA m)=some (.non,aA { m with d:=v % 65536 }):=by
 rw[y4i,vT]
 simp_arith only[eX]
theorem x_ss(h:Ok m)(v:Nat):evF FT 6 y2S [.cpu,.int v] (aA m)=some (.non,aA ({ m with s:=v % 65536 }:St).tidy):=by
 have e:=oU (k:=4) h v
 rw[y4j,vU]
 simp_arith only[e]
theorem x8F(v:Nat):evF FT 6 z8U [.cpu,.int v] (aA m)=some (.non,aA { m with pc:=v % 65536 }):=by
 rw[y0F,uN]
 simp_arith only[eX]
theorem x8E(v:Nat):evF FT 6 z8T [.cpu,.int v] (aA m)=some (.non,aA { m with pb:=v % 256 }):=by
 rw[y0E,uM]
 simp_arith only[eX]
theorem x8z(v:Nat):evF FT 6 z8S [.cpu,.int v] (aA m)=some (.non,aA { m with db:=v % 256 }):=by
 rw[y0D,uL]
 simp_arith only[eX]
theorem x_sf(h:Ok m)(v:Nat):evF FT 6 z3n [.cpu,.int v] (aA m)=some (.non,aA (m.flags (v % 256))):=by
 have e:=kB (k:=4) h (Nat.mod_lt v (by decide:0<256))
 rw[z4k,sJ]
 simp_arith only[e]
theorem x_se(h:Ok m)(v:Nat):evF FT 6 z1e [.cpu,.int v] (aA m)=some (.non,aA ({ m with emu:=v % 2==1 }:St).tidy):=by
 have e:=rE (k:=3) h (v % 2==1)
 have c:Builtin.bitAnd (v:Int) 1=((v % 2:Nat):Int):=by rw[PyProof.Rows.bitAnd_m1];omega
 have d:cop .eq ((v % 2:Nat):Int) 1=(v % 2==1):=by
  show decide (((v % 2:Nat):Int)=1)=_
  by_cases q:v % 2=1
  ·rw[q];rfl
  ·rw[decide_eq_false (by omega),beq_false_of_ne q]
 rw[z1z,rC]
 simp_arith only[c,d,e]
theorem y0O(h:Ok m){j v:Nat}{m':St}(e:m.change_ j v=some m'):j<10∧evF FT 6 (jK+j) [.cpu,.int v] (aA m)=some (.non,aA m'):=by
 unfold St.change_ at e
 split at e <;> first|(cases e;refine⟨by decide,?_⟩)|cases e
 ·exact x_sa v
 ·exact x_sx h v
 ·exact x_sy h v
 ·exact x_sd v
 ·exact x_ss h v
 ·exact x8F v
 ·exact x8E v
 ·exact x8z v
 ·exact x_sf h v
 ·exact x_se h v
theorem z4G(h:Ok m){j v:Nat}{m':St}(e:m.change_ j v=some m'):Ok m':=by
 unfold St.change_ at e
 split at e <;> first|(cases e)|cases e
 ·exact kX h (Nat.mod_lt _ (by decide))
 ·exact eN ⟨h.a,Nat.mod_lt _ (by decide),h.y,h.d,h.s,h.pc,h.pb,h.db,h.mem⟩
 ·exact eN ⟨h.a,h.x,Nat.mod_lt _ (by decide),h.d,h.s,h.pc,h.pb,h.db,h.mem⟩
 ·exact⟨h.a,h.x,h.y,Nat.mod_lt _ (by decide),h.s,h.pc,h.pb,h.db,h.mem,h.nx,h.em⟩
 ·exact eN ⟨h.a,h.x,h.y,h.d,Nat.mod_lt _ (by decide),h.pc,h.pb,h.db,h.mem⟩
 ·exact eZ h (Nat.mod_lt _ (by decide))
 ·exact⟨h.a,h.x,h.y,h.d,h.s,h.pc,Nat.mod_lt _ (by decide),h.db,h.mem,h.nx,h.em⟩
 ·exact⟨h.a,h.x,h.y,h.d,h.s,h.pc,h.pb,Nat.mod_lt _ (by decide),h.mem,h.nx,h.em⟩
 ·exact jH h _
 ·exact eN ⟨h.a,h.x,h.y,h.d,h.s,h.pc,h.pb,h.db,h.mem⟩
end SM
end
section
namespace EV
open PySem L2
noncomputable def y8F(X:Cx)(tg:TE)(t:TA):TE:=fun σ H Q=>tg σ H fun x H1=>∃(f:Addr) (k:Nat) (fd:FuncData) (ps:List Str) (sp:Sp),x=.ref f∧FnOk X.prog X.w X.K X.mg X.base CX0 k f fd ps sp∧Room k X.A∧PySem.W.keepIn X.K (.ref f)=true∧Binds X.K fd ps []∧t σ H1 fun vs H2=>sp vs H2 Q E0
theorem oE {X:Cx}{g e:Expr}{es:List Expr}{pos:Pos}{tg:TE}{t:TA} (hg:PE X g tg) (ha:PA X (e::es) t) (he:starEach (e::es) X.env=(false,eval e X.env)::starEach es X.env:=by rfl) (hpl:(backTo pos (starEach es X.env)).any (·.1)=false:=by rfl)
  (hev:eval (.Call g (e::es) [] pos) X.env=(do callWith pos (← eval g X.env) [] (backTo pos (starEach (e::es) X.env)) (backToKw pos (keywordEach [] X.env))):=by rfl):PE X (.Call g (e::es) [] pos) (y8F X tg t):=by
 intro pins s σ H Q I h
 rw[hev]
 refine wpAny_bind (thn (hg pins s σ H _ I h) fun u s1 h00=>?_)
 obtain⟨x,H1,I1,rx,f,k,fd,ps,sp,ex,F,hr,hk,hb,q⟩:=h00
 subst ex
 obtain rfl:u=Value.ref f:=rx
 refine PySem.W.callWith_K (h₀:=X.base) I.ok.mod.kin hk (thn (ha pos pins s1 σ H1 _ I1 q) fun us s2 h00=>?_) he hpl
 obtain⟨vs,H2,I2,r,q2⟩:=h00
 refine⟨I2.kIn,?_⟩
 refine lZ (dvs:=[]) F hr hb .nil aR I2 r ?_
 rw[List.append_nil]
 exact q2
end EV
end
section
namespace EV
open PySem L2
structure AtM(t:Tx)(L:Lay)(H:Hp)(mem:Nat→Int):Prop where
 mm:H L.mm=some (.ins t.CM L.dm (mU L))
 bl:H L.bl=some (.lst ((List.range 256).map fun b=>.ref (L.ba b)))
 wl:H L.wl=some (.lst ((List.range 256).map fun b=>.bl (L.wr b)))
 bk:∀ b,b<256→∃ xs:List V,H (L.ba b)=some (.lst xs)∧xs.length=65536∧∀ o,o<65536→xs[o]?=some (.int (mem (b * 65536+o)))
 inj:∀ b b',b<256→b'<256→L.wr b=true→L.ba b=L.ba b'→b=b'
 nl:∀ b,b<256→L.ba b≠L.bl∧L.ba b≠L.wl
 bw:L.bl≠L.wl
 z:∀ b,b<256→L.wr b=false→∀ o,o<65536→mem (b * 65536+o)=0
structure ExtM(L:Lay)(H:Hp)(L':Lay)(H':Hp):Prop where
 c:L'.c=L.c
 dc:L'.dc=L.dc
 mm:L'.mm=L.mm
 dm:L'.dm=L.dm
 bl:L'.bl=L.bl
 wl:L'.wl=L.wl
 wr:∀ b,L.wr b=true→L'.wr b=true
 keep:∀ b o,H b=some o→¬ hC L b→H' b=some o
 foot:∀ b,hC L' b→hC L b∨H b=none
 tup:∀ b xs,H b=some (.tup xs)→H' b=some (.tup xs)
theorem ExtM.refl(L:Lay)(H:Hp):ExtM L H L H:=⟨rfl,rfl,rfl,rfl,rfl,rfl,fun _ h=>h,fun _ _ h _=>h,fun _ h=>.inl h,fun _ _ h=>h⟩
theorem ExtM.trans{L L1 L2:Lay}{H H1 H2:Hp}(a:ExtM L H L1 H1)(b:ExtM L1 H1 L2 H2):ExtM L H L2 H2:=by
 refine⟨b.c.trans a.c,b.dc.trans a.dc,b.mm.trans a.mm,b.dm.trans a.dm,b.bl.trans a.bl,b.wl.trans a.wl,fun i h=>b.wr i (a.wr i h),fun x o h n=>?_,fun x f=>?_,fun x xs h=>b.tup _ _ (a.tup _ _ h)⟩
 ·refine b.keep x o (a.keep x o h n) fun f=>?_
  rcases a.foot x f with f|f
  ·exact n f
  ·rw[h] at f;cases f
 ·rcases b.foot x f with f|f
  ·exact a.foot x f
  ·by_cases n:hC L x
   ·exact .inl n
   ·right
    cases e:H x with
    |none=>rfl
    |some o=>rw[a.keep x o e n] at f;cases f
theorem ExtM.same{L:Lay}{H H':Hp}(e:∀ b o,H b=some o→H' b=some o):ExtM L H L H':=⟨rfl,rfl,rfl,rfl,rfl,rfl,fun _ h=>h,fun b o h _=>e b o h,fun _ h=>.inl h,fun b xs h=>e b _ h⟩
theorem ExtM.ext{L L':Lay}{H H':Hp}(X:ExtM L H L' H'):Ext L H L' H':=by
 refine⟨X.c,X.mm,X.bl,X.wl,fun b o h n=>X.keep b o h fun f=>n (.inr f),fun b f=>?_,X.tup⟩
 rcases f with f|f
 ·exact .inl (.inl (f.trans X.c))
 ·rcases X.foot b f with f|f
  ·exact .inl (.inr f)
  ·exact .inr f
section
variable{t:Tx}{L L':Lay}{H H':Hp}{m:M}{mem mem':Nat→Int}
theorem At.toM(A:At t L H m):AtM t L H m.mem:=⟨A.mm,A.bl,A.wl,A.bk,A.inj,A.nl,A.bw,A.z⟩
theorem At.noM(A:At t L H m):¬ hC L L.c:=by
 rintro(f|f|f|⟨i,hi,f⟩)
 ·exact A.cm f
 ·exact aX A.c A.bl (by intro z;cases z) f
 ·exact aX A.c A.wl (by intro z;cases z) f
 ·obtain⟨xs,h1,_⟩:=A.bk i hi
  exact aX A.c h1 (by intro z;cases z) f
theorem At.of(A:At t L H m)(A':AtM t L' H' mem')(X:ExtM L H L' H'):At t L' H' { m with mem:=mem' }:=by
 refine⟨?_,A'.mm,A'.bl,A'.wl,A'.bk,A'.inj,X.wr 0 A.w0,A'.nl,A'.bw,by rw[X.c,X.mm];exact A.cm,A'.z⟩
 have h:=X.keep _ _ A.c A.noM
 rw[X.c,X.dc,h]
 unfold vals
 rw[X.mm,X.bl]
theorem AtM.same(A:AtM t L H mem)(e:∀ b o,H b=some o→H' b=some o):AtM t L H' mem:=
 ⟨e _ _ A.mm,e _ _ A.bl,e _ _ A.wl,fun b hb=>let ⟨xs,h1,h2⟩:=A.bk b hb;⟨xs,e _ _ h1,h2⟩,A.inj,A.nl,A.bw,A.z⟩
noncomputable def wrM(mem:Nat→Int)(at_:Nat)(v:Int):Nat→Int:=fun j=>if j=at_ then v else mem j
theorem AtM.wrote(A:AtM t L H mem){b o:Nat}{v:Int}{xs:List V}(hb:b<256)(ho:o<65536)(hw:L.wr b=true)(hx:H (L.ba b)=some (.lst xs)) :
  AtM t L (upd H (L.ba b) (.lst (xs.set o (.int v)))) (wrM mem (b * 65536+o) v)∧ExtM L H L (upd H (L.ba b) (.lst (xs.set o (.int v)))):=by
 have n2:L.mm≠L.ba b:=aX A.mm hx (by intro z;cases z)
 obtain⟨n3,n4⟩:=A.nl b hb
 refine⟨⟨?_,?_,?_,fun b' hb'=>?_,A.inj,A.nl,A.bw,fun b' hb' hz o' ho'=>?_⟩,rfl,rfl,rfl,rfl,rfl,rfl,fun _ h=>h,fun a u h n=>?_,fun _ h=>.inl h,fun a ys h=>?_⟩
 ·rw[aC n2];exact A.mm
 ·rw[aC (Ne.symm n3)];exact A.bl
 ·rw[aC (Ne.symm n4)];exact A.wl
 ·obtain⟨ys,g1,g2,g3⟩:=A.bk b' hb'
  by_cases q:b'=b
  ·subst q
   rw[hx] at g1
   cases g1
   refine⟨xs.set o (.int v),aH,by rw[List.length_set];exact g2,fun o' ho'=>?_⟩
   show _=some (V.int (if b' * 65536+o'=b' * 65536+o then v else mem (b' * 65536+o')))
   by_cases z:o'=o
   ·subst z
    rw[List.getElem?_set_self (by rw[g2];exact ho),if_pos rfl]
   ·rw[List.getElem?_set_ne (Ne.symm z),if_neg (fun w=>z ((kK ho' ho).mp w).2)]
    exact g3 o' ho'
  ·have ne:L.ba b'≠L.ba b:=fun z=>q (A.inj b b' hb hb' hw z.symm).symm
   refine⟨ys,by rw[aC ne];exact g1,g2,fun o' ho'=>?_⟩
   show _=some (V.int (if b' * 65536+o'=b * 65536+o then v else mem (b' * 65536+o')))
   rw[if_neg (fun w=>q ((kK ho' ho).mp w).1)]
   exact g3 o' ho'
 ·have q:b'≠b:=fun w=>by rw[w,hw] at hz;cases hz
  show (if b' * 65536+o'=b * 65536+o then v else mem (b' * 65536+o'))=0
  rw[if_neg (fun w=>q ((kK ho' ho).mp w).1)]
  exact A.z b' hb' hz o' ho'
 ·rw[aC (fun z=>n (.inr (.inr (.inr ⟨b,hb,z⟩))))];exact h
 ·rw[aC (aX h hx (by intro z;cases z))];exact h
noncomputable def newL(L:Lay)(b:Nat)(p:Addr):Lay:={ L with ba:=fun i=>if i=b then p else L.ba i,wr:=fun i=>if i=b then true else L.wr i }
theorem z2v{α:Type}(f:Nat→α)(n b:Nat)(v:α)(hb:b<n):((List.range n).map f).set b v=(List.range n).map fun i=>if i=b then v else f i:=by
 apply List.ext_getElem?
 intro i
 by_cases q:i=b
 ·subst q
  rw[List.getElem?_set_self (by simpa using hb),List.getElem?_map,List.getElem?_range hb]
  simp
 ·rw[List.getElem?_set_ne (Ne.symm q),List.getElem?_map,List.getElem?_map]
  cases e:(List.range n)[i]? with
  |none=>rfl
  |some j=>
   have:j=i:=by
    by_cases hi:i<n
    ·rw[List.getElem?_range hi] at e;exact(Option.some.inj e).symm
    ·rw[List.getElem?_eq_none (by simpa using hi)] at e;cases e
   subst this
   simp[q]
theorem AtM.made(A:AtM t L H mem){b:Nat}{p:Addr}{xs:List V}(hb:b<256)(hw:L.wr b=false)(hp:H p=none)(hl:xs.length=65536)(hz:∀ o,o<65536→xs[o]?=some (.int 0)) :
  AtM t (newL L b p) (upd (upd (upd H p (.lst xs)) L.bl (.lst (((List.range 256).map fun b=>V.ref (L.ba b)).set b (.ref p)))) L.wl (.lst (((List.range 256).map fun b=>V.bl (L.wr b)).set b (.bl true)))) mem ∧
  ExtM L H (newL L b p) (upd (upd (upd H p (.lst xs)) L.bl (.lst (((List.range 256).map fun b=>V.ref (L.ba b)).set b (.ref p)))) L.wl (.lst (((List.range 256).map fun b=>V.bl (L.wr b)).set b (.bl true)))):=by
 have nbp:L.bl≠p:=aJ A.bl hp
 have nwp:L.wl≠p:=aJ A.wl hp
 have nmp:L.mm≠p:=aJ A.mm hp
 have nmb:L.mm≠L.bl:=aX A.mm A.bl (by intro z;cases z)
 have nmw:L.mm≠L.wl:=aX A.mm A.wl (by intro z;cases z)
 have nap:∀ i,i<256→L.ba i≠p:=fun i hi=>by
  obtain⟨ys,g1,_⟩:=A.bk i hi
  exact aJ g1 hp
 refine⟨⟨?_,?_,?_,fun i hi=>?_,fun i i' hi hi' hwr e=>?_,fun i hi=>?_,A.bw,fun i hi hwr o ho=>?_⟩,rfl,rfl,rfl,rfl,rfl,rfl,fun i h=>?_,fun a u h n=>?_,fun a f=>?_,fun a ys h=>?_⟩
 ·show upd _ _ _ L.mm=some (.ins t.CM L.dm (mU L))
  rw[aC nmw,aC nmb,aC nmp]
  exact A.mm
 ·show upd _ _ _ L.bl=_
  rw[aC A.bw,aH,z2v _ _ _ _ hb]
  congr 3
  funext i
  show (if i=b then V.ref p else V.ref (L.ba i))=V.ref (if i=b then p else L.ba i)
  split <;> rfl
 ·show upd _ _ _ L.wl=_
  rw[aH,z2v _ _ _ _ hb]
  congr 3
  funext i
  show (if i=b then V.bl true else V.bl (L.wr i))=V.bl (if i=b then true else L.wr i)
  split <;> rfl
 ·show ∃ ys:List V,upd _ _ _ (if i=b then p else L.ba i)=some (.lst ys)∧_
  by_cases q:i=b
  ·subst q
   rw[if_pos rfl]
   refine⟨xs,by rw[aC (Ne.symm nwp),aC (Ne.symm nbp),aH],hl,fun o ho=>?_⟩
   rw[A.z i hi hw o ho]
   exact hz o ho
  ·rw[if_neg q]
   obtain⟨ys,g1,g2,g3⟩:=A.bk i hi
   obtain⟨n3,n4⟩:=A.nl i hi
   exact⟨ys,by rw[aC n4,aC n3,aC (nap i hi)];exact g1,g2,g3⟩
 ·have hwr':(if i=b then true else L.wr i)=true:=hwr
  have e':(if i=b then p else L.ba i)=(if i'=b then p else L.ba i'):=e
  by_cases q:i=b
  ·by_cases q':i'=b
   ·rw[q,q']
   ·rw[if_pos q,if_neg q'] at e'
    exact absurd e'.symm (nap i' hi')
  ·rw[if_neg q] at hwr' e'
   by_cases q':i'=b
   ·rw[if_pos q'] at e'
    exact absurd e' (nap i hi)
   ·rw[if_neg q'] at e'
    exact A.inj i i' hi hi' hwr' e'
 ·show (if i=b then p else L.ba i)≠L.bl∧(if i=b then p else L.ba i)≠L.wl
  by_cases q:i=b
  ·rw[if_pos q];exact⟨Ne.symm nbp,Ne.symm nwp⟩
  ·rw[if_neg q];exact A.nl i hi
 ·have hwr':(if i=b then true else L.wr i)=false:=hwr
  by_cases q:i=b
  ·rw[if_pos q] at hwr';cases hwr'
  ·rw[if_neg q] at hwr';exact A.z i hi hwr' o ho
 ·show (if i=b then true else L.wr i)=true
  by_cases q:i=b
  ·rw[if_pos q]
  ·rw[if_neg q];exact h
 ·rw[aC (fun z=>n (.inr (.inr (.inl z)))),aC (fun z=>n (.inr (.inl z))),aC (aJ h hp)]
  exact h
 ·rcases f with f|f|f|⟨i,hi,f⟩
  ·exact .inl (.inl f)
  ·exact .inl (.inr (.inl f))
  ·exact .inl (.inr (.inr (.inl f)))
  ·have f':a=if i=b then p else L.ba i:=f
   by_cases q:i=b
   ·rw[if_pos q] at f';right;rw[f'];exact hp
   ·rw[if_neg q] at f';exact .inl (.inr (.inr (.inr ⟨i,hi,f'⟩)))
 ·rw[aC (aX h A.wl (by intro z;cases z)),aC (aX h A.bl (by intro z;cases z)),aC (aJ h hp)]
  exact h
end
end EV
end
section
namespace EV
open PySem L2
noncomputable abbrev sMkb:Stmt:=inClass (top 4) 1
noncomputable abbrev sTell:Stmt:=inClass (top 4) 2
noncomputable abbrev sPut:Stmt:=inClass (top 4) 3
noncomputable abbrev sTellMany:Stmt:=inClass (top 4) 4
noncomputable abbrev sPutMany:Stmt:=inClass (top 4) 5
structure MemT(K:PySem.W.Frag)(mg:Str→Option Value)(t:Tx):Prop where
 cm:Cls K t.CM
 nb:NoAttr K t.CM "banks"
 nw:NoAttr K t.CM "written"
 gc:∀ x i,GC.lookup x=some i→∃ k,mg x=some (.int i k)
theorem oC(L:Lay):(mU L).lookup ("banks":Str)=some (.ref L.bl):=rfl
theorem z1F(L:Lay):(mU L).lookup ("written":Str)=some (.ref L.wl):=rfl
theorem jG{α:Type}(x:α):∀ n:Nat,(List.replicate n [x]).flatten=List.replicate n x
 |0=>rfl
 |n+1=>by rw[List.replicate_succ,List.flatten_cons,jG x n,List.replicate_succ];rfl
theorem wC{n j:Nat}(h:j<n):ixN n (j:Int)=some j:=by
 unfold ixN
 rw[if_pos (by omega),if_pos (by omega)]
 rfl
noncomputable def y0k(t:Tx):Sp:=fun vs H Q _=>∃(L:Lay) (mem:Nat→Int) (b:Nat),AtM t L H mem∧vs=[.ref L.mm,.int (b:Int)]∧b<256∧L.wr b=false∧∀ L' H',AtM t L' H' mem→L'.wr b=true→ExtM L H L' H'→Q .non H'
section
variable{P:Program}{w:World}{K:PySem.W.Frag}{mg:Str→Option Value}{base:Heap}{t:Tx}
theorem x5v:FnScope ["self","bank"] ["self","bank"] (aL sMkb):=⟨rfl,rfl,rfl,by decide +kernel,rfl,by decide +kernel,by decide +kernel⟩
theorem z9t{f:Addr}{fd:FuncData}(F:Fun K "make_bank" "Memory.make_bank" sMkb f fd)(T:MemT K mg t):FnOk P w K mg base CX0 1 f fd ["self","bank"] (y0k t):=by
 refine F.ok x5v (fun vs H Q E h=>?_) (fun cdv A outer s H vs Q E hr h=>?_)
 ·obtain⟨L,mem,b,_,rfl,_⟩:=h
  rfl
 ·obtain⟨L,mem,b,M,rfl,hb,hw,k⟩:=h
  obtain⟨tk,hk⟩:=T.gc "BANK_SIZE" 65536 (by decide +kernel)
  refine⟨_,aF (pD (aT pA (cF (aD pe_int pa_nil)) (aO (v:=.int 65536) rfl hk ⟨tk,rfl⟩)) (pC (aQ (pv 0) rfl) (pv 1) oF))
   (aK (pD pe_bl (pC (aQ (pv 0) rfl) (pv 1) oF))),?_⟩
  refine⟨by show 1≤sizeLine;decide,fun q hq=>?_⟩
  refine⟨q,65536,[.int 0],rfl,rfl,aH,by decide,by decide,by show 1 * 65536≤sizeLine;decide,fun p hp=>?_⟩
  have M1:=M.same (aY hq (o:=.lst [.int 0]))
  have M2:=M1.same (aY hp (o:=.lst (List.replicate (65536:Int).toNat [V.int 0]).flatten))
  refine⟨_,rfl,L.mm,t.CM,L.dm,_,_,rfl,M2.mm,T.cm,T.nb,oC L,_,rfl,L.bl,_,(b:Int),b,rfl,rfl,M2.bl,by rw[List.length_map,List.length_range];exact wC hb,?_⟩
  have nmb:L.mm≠L.bl:=aX M.mm M.bl (by intro z;cases z)
  refine⟨_,rfl,L.mm,t.CM,L.dm,_,_,rfl,by rw[aC nmb];exact M2.mm,T.cm,T.nw,z1F L,_,rfl,L.wl,_,(b:Int),b,rfl,rfl,by rw[aC (Ne.symm M.bw)];exact M2.wl,by rw[List.length_map,List.length_range];exact wC hb,?_⟩
  obtain⟨M3,X3⟩:=M1.made hb hw hp (xs:=(List.replicate (65536:Int).toNat [V.int 0]).flatten) (by rw[jG,List.length_replicate];rfl) (fun o ho=>by rw[jG,List.getElem?_replicate,if_pos (show o<(65536:Int).toNat from ho)])
  refine k _ _ M3 ?_ ((ExtM.same (aY hq)).trans X3)
  show (if b=b then true else L.wr b)=true
  rw[if_pos rfl]
noncomputable def pF(t:Tx):Sp:=fun vs H Q _=>∃(L:Lay) (mem:Nat→Int) (i:Nat) (v:Int),AtM t L H mem∧vs=[.ref L.mm,.int (i:Int),.int v]∧i<16777216∧∀ L' H',AtM t L' H' (wrM mem i v)→ExtM L H L' H'→Q .non H'
theorem scPut:FnScope ["self","at","byte","bank"] ["self","at","byte"] (aL sPut):=⟨rfl,rfl,rfl,by decide +kernel,rfl,by decide +kernel,by decide +kernel⟩
theorem y3k{f g:Addr}{fd gd:FuncData}(F:Fun K "put" "Memory.put" sPut f fd)(G:Fun K "make_bank" "Memory.make_bank" sMkb g gd)(bG:Binds K gd ["self","bank"] [])(mG:Meth K t.CM "make_bank" g)(T:MemT K mg t):FnOk P w K mg base CX0 2 f fd ["self","at","byte"] (pF t):=by
 have GM:FnOk P w K mg base CX0 1 g gd ["self","bank"] (y0k t):=z9t G T
 refine F.ok scPut (fun vs H Q E h=>?_) (fun cdv A outer s H vs Q E hr h=>?_)
 ·obtain⟨L,mem,i,v,_,rfl,_⟩:=h
  rfl
 ·obtain⟨L,mem,i,v,M,rfl,hi,k⟩:=h
  have hb:i / 65536<256:=by omega
  have ei:(i:Int) / 2 ^ (16:Int).toNat=((i / 65536:Nat):Int):=by show (i:Int) / 65536=_;omega
  have eo:Builtin.bitAnd (i:Int) 65535=((i % 65536:Nat):Int):=by rw[PyProof.Rows.bitAnd_m16];omega
  have esp:i / 65536 * 65536+i % 65536=i:=by omega
  refine⟨_,aF (aW (i:=3) scPut.nd rfl (Or.inl rfl) (aT jU (pv 1) pe_int))
   (aF (bW (jW (uU (cE ix_list (aQ (pv 0) rfl) (pv 3) (fun _ _=>rfl)) (fun _=>rfl))) (aK (bV (gI (pv 0) T.cm mG GM hr bG .nil aR (aD (pv 3) pa_nil)))) pss_nil)
   (aK (pD (pv 2) (pC (cE ix_list (aQ (pv 0) rfl) (pv 3) (fun _ _=>rfl)) (aT fL (pv 1) pe_int) oF)))),?_⟩
  refine⟨_,rfl,(i:Int),16,rfl,rfl,by show (0:Int)≤16;decide,?_⟩
  dsimp only
  rw[ei]
  have fin:∀(L1:Lay) (H1:Hp),AtM t L1 H1 mem→L1.wr (i / 65536)=true→ExtM L H L1 H1 →
    tAsg (gO 2) (gSub (tOp (rIxL K) (qG K (gO 0) "banks") (gO 3)) (tOp (rI0 fun i j=>.int (Builtin.bitAnd i j)) (gO 1) (tC (.int 65535))) y6E) { nx:=fun _ H'=>Q .non H',rt:=Q } [some (.ref L.mm),some (.int (i:Int)),some (.int v),some (.int ((i / 65536:Nat):Int))] H1:=by
   intro L1 H1 M1 hw X1
   obtain⟨xs,g1,g2,g3⟩:=M1.bk (i / 65536) hb
   obtain⟨M2,X2⟩:=M1.wrote (v:=v) hb (show i % 65536<65536 by omega) hw g1
   rw[esp] at M2
   have emm:=M1.mm
   rw[X1.mm] at emm
   refine⟨_,rfl,_,rfl,L.mm,t.CM,L1.dm,_,_,rfl,emm,T.cm,T.nb,oC L1,_,rfl,L1.bl,_,_,.ref (L1.ba (i / 65536)),rfl,rfl,SqL.of M1.bl,bF (j:=i / 65536) rfl (gW hb),_,rfl,_,_,rfl,rfl,?_⟩
   dsimp only
   rw[eo]
   exact⟨L1.ba (i / 65536),xs,_,i % 65536,rfl,rfl,g1,by rw[g2];exact wC (by omega),k L1 _ M2 (X1.trans X2)⟩
  refine⟨_,rfl,L.mm,t.CM,L.dm,_,_,rfl,M.mm,T.cm,T.nw,z1F L,_,rfl,L.wl,_,_,.bl (L.wr (i / 65536)),rfl,rfl,SqL.of M.wl,bF (j:=i / 65536) rfl (gW hb),L.wr (i / 65536),rfl,?_⟩
  cases e:L.wr (i / 65536) with
  |true=>exact cV (fin L H M e (ExtM.refl L H))
  |false=>
   refine cW ⟨_,rfl,L.mm,L.dm,_,rfl,M.mm,by rfl,_,rfl,L,mem,i / 65536,M,rfl,hb,e,fun L' H' M' hw' X'=>fin L' H' M' hw' X'⟩
theorem x7w(m:M)(i:Nat)(v:Int):m.wr i v={ m with mem:=wrM m.mem i v }:=rfl
theorem y8f{f:Addr}{fd:FuncData}(G:FnOk P w K mg base CX0 2 f fd ["self","at","byte"] (pF t)):FnOk P w K mg base CX0 2 f fd ["self","at","byte"] (qA t):=by
 refine G.imp fun vs H Q E h=>?_
 obtain⟨L,m,i,j,A,rfl,h0,h1,k⟩:=h
 refine⟨L,m.mem,i.toNat,j,A.toM,?_,by omega,fun L' H' M' X'=>k L' H' (by rw[x7w];exact A.of M' X') X'.ext⟩
 rw[Int.toNat_of_nonneg h0]
end
end EV
end
section
namespace EV
open PySem L2
section
variable{P:Program}{w:World}{K:PySem.W.Frag}{mg:Str→Option Value}{base:Heap}{t:Tx}
theorem scDs:FnScope ["one","other","carry","bits","total","shift","digit"] ["one","other","carry","bits"] (aL (top 176)):=⟨rfl,rfl,rfl,by decide +kernel,rfl,by decide +kernel,by decide +kernel⟩
theorem scDd:FnScope ["one","other","carry","bits","total","shift","digit"] ["one","other","carry","bits"] (aL (top 177)):=⟨rfl,rfl,rfl,by decide +kernel,rfl,by decide +kernel,by decide +kernel⟩
theorem z2l{n:Int}{d:Nat}(h:jN n=some d):n=4 * (d:Int)∧RgC 0 n 4 d∧d≤4:=by
 unfold jN at h
 split at h
 ·cases h;exact⟨by decide,⟨by decide,by decide,by decide +kernel,by decide +kernel⟩,by decide⟩
 ·cases h;exact⟨by decide,⟨by decide,by decide,by decide +kernel,by decide +kernel⟩,by decide⟩
 ·cases h
theorem pJ(x:Int):0≤Builtin.bitAnd x 15∧Builtin.bitAnd x 15<16:=by
 rw[PyProof.Rows.bitAnd_m4];omega
theorem y2Q(a b:Int)(n i:Nat)(t c X:Int)(hX:Builtin.bitAnd (a / 2 ^ (4 * i)) 15+Builtin.bitAnd (b / 2 ^ (4 * i)) 15+c=X):dsF a b (n+1) i t c=dsF a b n (i+1) (t+Builtin.bitAnd (if 9<X then X+6 else X) 15 * 2 ^ (4 * i)) (if 9<X then 1 else 0):=by
 subst hX;rfl
theorem y2K(a b:Int)(n i:Nat)(t c X:Int)(hX:Builtin.bitAnd (a / 2 ^ (4 * i)) 15 - Builtin.bitAnd (b / 2 ^ (4 * i)) 15 - 1+c=X):ddF a b (n+1) i t c=ddF a b n (i+1) (t+Builtin.bitAnd (if X<0 then X+10 else X) 15 * 2 ^ (4 * i)) (if X<0 then 0 else 1):=by
 subst hX;rfl
theorem sh4(i:Nat):((0:Int)+(i:Nat) * 4).toNat=4 * i:=by omega
theorem x3C{f:Addr}{fd:FuncData}(F:Fun K "decimal_sum" "decimal_sum" (top 176) f fd)(hm:mg "range"=none):FnOk P w K mg base CX0 2 f fd ["one","other","carry","bits"] (spF t iM 4):=by
 suffices z:FnOk P w K mg base CX0 1 f fd ["one","other","carry","bits"] (spF t iM 4) from z.mono (by decide)
 refine F.ok scDs (fun vs H Q E h=>?_) (fun cdv A outer s H vs Q E hr h=>?_)
 ·obtain⟨L,m,us,u,m',A,p,hl,h,q⟩:=h
  rw[←Paired.len p];exact hl
 ·obtain⟨L,m,us,u,m',At_,p,hl,h,q⟩:=h
  unfold iM at h
  split at h
  ·rename_i a b c n
   split at h
   ·rename_i d hd
    split at h
    ·rename_i hc
     cases h
     cases p with
     |cons r1 p=>
     cases p with
     |cons r2 p=>
     cases p with
     |cons r3 p=>
     cases p with
     |cons r4 p=>
     cases p
     cases r1;cases r2;cases r3;cases r4
     obtain⟨en,hg,hd4⟩:=z2l hd
     refine⟨_,aF (aW (i:=4) scDs.nd rfl (Or.inl rfl) pe_int)
      (aF (iO PassesOwn.never rfl (z2u rfl hm (aD pe_int (aD (pv 3) (aD pe_int pa_nil)))) (gJ (i:=5) scDs.nd rfl (Or.inl rfl))
       (aF (aW (i:=6) scDs.nd rfl (Or.inl rfl) (aT fK (aT fK (aT fL (aT jU (pv 0) (pv 5)) pe_int) (aT fL (aT jU (pv 1) (pv 5)) pe_int)) (pv 2)))
       (aF (aW (i:=2) scDs.nd rfl (Or.inl rfl) pe_int)
       (aF (bW (cQ z9y (pv 6) pe_int (cA _)) (aF (jV (i:=6) scDs.nd rfl (Or.inl rfl) pe_int jO) (aK (aW (i:=2) scDs.nd rfl (Or.inl rfl) pe_int))) pss_nil)
       (aK (jV (i:=4) scDs.nd rfl (Or.inl rfl) (aT lW (aT fL (pv 6) pe_int) (pv 5)) jO))))))
      (aK (aS (aT fK (pv 4) (aT lW (pv 2) (pv 3)))))),?_⟩
     refine⟨_,rfl,0,n,4,d,rfl,hg,z1C (lo:=0) (c:=4) (n:=d) (fun i σ H'=>H'=H∧i≤d∧∃(c' tt:Int) (v5 v6:Option V),σ=[some (.int a),some (.int b),some (.int c'),some (.int n),some (.int tt),v5,v6]∧(c'=0∨c'=1)∧dsF a b (d - i) i tt c'=dsF a b d 0 0 c)
      ⟨rfl,Nat.zero_le _,c,0,none,none,rfl,hc,rfl⟩ ?_ ?_⟩
     ·rintro i σ H' hi ⟨rfl,_,c',tt,v5,v6,rfl,hc',e⟩
      have e4:d - i=(d - (i+1))+1:=by omega
      rw[e4] at e
      refine⟨_,rfl,_,rfl,_,_,rfl,rfl,(by omega),_,_,rfl,rfl,_,rfl,_,rfl,_,_,rfl,rfl,(by omega),_,_,rfl,rfl,_,_,rfl,rfl,_,rfl,_,_,rfl,rfl,?_⟩
      dsimp only
      rw[sh4]
      generalize hX:Builtin.bitAnd (a / 2 ^ (4 * i)) 15+Builtin.bitAnd (b / 2 ^ (4 * i)) 15+c'=X
      rw[y2Q a b _ i tt c' X hX] at e
      refine⟨_,rfl,_,_,rfl,rfl,_,rfl,?_⟩
      refine aM (fun h9=>?_) (fun h9=>?_)
      ·have h9':9<X:=of_decide_eq_true h9
       rw[if_pos h9',if_pos h9'] at e
       refine⟨_,rfl,_,_,rfl,rfl,?_⟩
       refine⟨_,rfl,_,rfl,_,_,rfl,rfl,_,rfl,_,_,rfl,rfl,⟨by omega,by omega,by have:=pJ (X+6);show (Builtin.bitAnd (X+6) 15).natAbs<2 ^ 64;omega⟩,_,_,rfl,rfl,?_⟩
       dsimp only
       rw[sh4]
       exact⟨rfl,hi,1,_,_,_,rfl,.inr rfl,e⟩
      ·have h9':¬ 9<X:=of_decide_eq_false (by simpa using h9)
       rw[if_neg h9',if_neg h9'] at e
       refine⟨_,rfl,_,rfl,_,_,rfl,rfl,_,rfl,_,_,rfl,rfl,⟨by omega,by omega,by have:=pJ X;omega⟩,_,_,rfl,rfl,?_⟩
       dsimp only
       rw[sh4]
       exact⟨rfl,hi,0,_,_,_,rfl,.inl rfl,e⟩
     ·rintro σ H' ⟨rfl,_,c',tt,v5,v6,rfl,hc',e⟩
      refine⟨_,rfl,_,rfl,_,rfl,_,_,rfl,rfl,⟨by omega,by omega,by omega⟩,_,_,rfl,rfl,?_⟩
      refine q L H' _ At_ (Ext.refl L H') ?_
      have en':n.toNat=4 * d:=by omega
      have e0:d - d=0:=Nat.sub_self d
      rw[e0] at e
      show V.int (tt+c' * 2 ^ n.toNat)=V.int _
      rw[←e,en'];rfl
    ·cases h
   ·cases h
  ·cases h
theorem x3B{f:Addr}{fd:FuncData}(F:Fun K "decimal_difference" "decimal_difference" (top 177) f fd)(hm:mg "range"=none):FnOk P w K mg base CX0 2 f fd ["one","other","carry","bits"] (spF t iJ 4):=by
 suffices z:FnOk P w K mg base CX0 1 f fd ["one","other","carry","bits"] (spF t iJ 4) from z.mono (by decide)
 refine F.ok scDd (fun vs H Q E h=>?_) (fun cdv A outer s H vs Q E hr h=>?_)
 ·obtain⟨L,m,us,u,m',A,p,hl,h,q⟩:=h
  rw[←Paired.len p];exact hl
 ·obtain⟨L,m,us,u,m',At_,p,hl,h,q⟩:=h
  unfold iJ at h
  split at h
  ·rename_i a b c n
   split at h
   ·rename_i d hd
    split at h
    ·rename_i hc
     cases h
     cases p with
     |cons r1 p=>
     cases p with
     |cons r2 p=>
     cases p with
     |cons r3 p=>
     cases p with
     |cons r4 p=>
     cases p
     cases r1;cases r2;cases r3;cases r4
     obtain⟨en,hg,hd4⟩:=z2l hd
     refine⟨_,aF (aW (i:=4) scDd.nd rfl (Or.inl rfl) pe_int)
      (aF (iO PassesOwn.never rfl (z2u rfl hm (aD pe_int (aD (pv 3) (aD pe_int pa_nil)))) (gJ (i:=5) scDd.nd rfl (Or.inl rfl))
       (aF (aW (i:=6) scDd.nd rfl (Or.inl rfl) (aT fK (aT pB (aT pB (aT fL (aT jU (pv 0) (pv 5)) pe_int) (aT fL (aT jU (pv 1) (pv 5)) pe_int)) pe_int) (pv 2)))
       (aF (aW (i:=2) scDd.nd rfl (Or.inl rfl) pe_int)
       (aF (bW (cQ pY (pv 6) pe_int (cA _)) (aF (jV (i:=6) scDd.nd rfl (Or.inl rfl) pe_int jO) (aK (aW (i:=2) scDd.nd rfl (Or.inl rfl) pe_int))) pss_nil)
       (aK (jV (i:=4) scDd.nd rfl (Or.inl rfl) (aT lW (aT fL (pv 6) pe_int) (pv 5)) jO))))))
      (aK (aS (aT fK (pv 4) (aT lW (pv 2) (pv 3)))))),?_⟩
     refine⟨_,rfl,0,n,4,d,rfl,hg,z1C (lo:=0) (c:=4) (n:=d) (fun i σ H'=>H'=H∧i≤d∧∃(c' tt:Int) (v5 v6:Option V),σ=[some (.int a),some (.int b),some (.int c'),some (.int n),some (.int tt),v5,v6]∧(c'=0∨c'=1)∧ddF a b (d - i) i tt c'=ddF a b d 0 0 c)
      ⟨rfl,Nat.zero_le _,c,0,none,none,rfl,hc,rfl⟩ ?_ ?_⟩
     ·rintro i σ H' hi ⟨rfl,_,c',tt,v5,v6,rfl,hc',e⟩
      have e4:d - i=(d - (i+1))+1:=by omega
      rw[e4] at e
      refine⟨_,rfl,_,rfl,_,_,rfl,rfl,(by omega),_,_,rfl,rfl,_,rfl,_,rfl,_,_,rfl,rfl,(by omega),_,_,rfl,rfl,_,_,rfl,rfl,_,_,rfl,rfl,_,rfl,_,_,rfl,rfl,?_⟩
      dsimp only
      rw[sh4]
      generalize hX:Builtin.bitAnd (a / 2 ^ (4 * i)) 15 - Builtin.bitAnd (b / 2 ^ (4 * i)) 15 - 1+c'=X
      rw[y2K a b _ i tt c' X hX] at e
      refine⟨_,rfl,_,_,rfl,rfl,_,rfl,?_⟩
      refine aM (fun h9=>?_) (fun h9=>?_)
      ·have h9':X<0:=of_decide_eq_true h9
       rw[if_pos h9',if_pos h9'] at e
       refine⟨_,rfl,_,_,rfl,rfl,?_⟩
       refine⟨_,rfl,_,rfl,_,_,rfl,rfl,_,rfl,_,_,rfl,rfl,⟨by omega,by omega,by have:=pJ (X+10);show (Builtin.bitAnd (X+10) 15).natAbs<2 ^ 64;omega⟩,_,_,rfl,rfl,?_⟩
       dsimp only
       rw[sh4]
       exact⟨rfl,hi,0,_,_,_,rfl,.inl rfl,e⟩
      ·have h9':¬ X<0:=of_decide_eq_false (by simpa using h9)
       rw[if_neg h9',if_neg h9'] at e
       refine⟨_,rfl,_,rfl,_,_,rfl,rfl,_,rfl,_,_,rfl,rfl,⟨by omega,by omega,by have:=pJ X;omega⟩,_,_,rfl,rfl,?_⟩
       dsimp only
       rw[sh4]
       exact⟨rfl,hi,1,_,_,_,rfl,.inr rfl,e⟩
     ·rintro σ H' ⟨rfl,_,c',tt,v5,v6,rfl,hc',e⟩
      refine⟨_,rfl,_,rfl,_,rfl,_,_,rfl,rfl,⟨by omega,by omega,by omega⟩,_,_,rfl,rfl,?_⟩
      refine q L H' _ At_ (Ext.refl L H') ?_
      have en':n.toNat=4 * d:=by omega
      have e0:d - d=0:=Nat.sub_self d
      rw[e0] at e
      show V.int (tt+c' * 2 ^ n.toNat)=V.int _
      rw[←e,en'];rfl
    ·cases h
   ·cases h
  ·cases h
end
end EV
end
section
namespace EV
open PySem L2
section
variable{P:Program}{w:World}{K:PySem.W.Frag}{mg:Str→Option Value}{base:Heap}{t:Tx}
noncomputable def y0n(t:Tx):Sp:=fun vs H Q _=>∃(L:Lay) (mem:Nat→Int) (i:Nat),AtM t L H mem∧vs=[.ref L.mm,.int (i:Int)]∧i<16777216∧Q (.int (mem i)) H
theorem y8A:FnScope ["self","at"] ["self","at"] (aL sTell):=⟨rfl,rfl,rfl,by decide +kernel,rfl,by decide +kernel,by decide +kernel⟩
theorem y3n{f:Addr}{fd:FuncData}(F:Fun K "tell" "Memory.tell" sTell f fd)(T:MemT K mg t):FnOk P w K mg base CX0 1 f fd ["self","at"] (y0n t):=by
 refine F.ok y8A (fun vs H Q E h=>?_) (fun cdv A outer s H vs Q E hr h=>?_)
 ·obtain⟨L,mem,i,_,rfl,_⟩:=h
  rfl
 ·obtain⟨L,mem,i,M,rfl,hi,k⟩:=h
  have hb:i / 65536<256:=by omega
  have ei:(i:Int) / 2 ^ (16:Int).toNat=((i / 65536:Nat):Int):=by show (i:Int) / 65536=_;omega
  have eo:Builtin.bitAnd (i:Int) 65535=((i % 65536:Nat):Int):=by rw[PyProof.Rows.bitAnd_m16];omega
  have esp:i / 65536 * 65536+i % 65536=i:=by omega
  obtain⟨xs,g1,g2,g3⟩:=M.bk (i / 65536) hb
  have g4:=g3 (i % 65536) (by omega)
  rw[esp] at g4
  refine⟨_,(aK (aS (cE ix_list (cE ix_list (aQ (pv 0) rfl) (aT jU (pv 1) pe_int) (fun _ _=>rfl)) (aT fL (pv 1) pe_int) (fun _ _=>rfl)))),?_⟩
  refine⟨_,rfl,L.mm,t.CM,L.dm,_,_,rfl,M.mm,T.cm,T.nb,oC L,_,rfl,(i:Int),16,rfl,rfl,by show (0:Int)≤16;decide,L.bl,_,_,.ref (L.ba (i / 65536)),rfl,rfl,SqL.of M.bl,bF (j:=i / 65536) (by rw[ei]) (gW hb),_,rfl,(i:Int),65535,rfl,rfl,L.ba (i / 65536),xs,_,_,rfl,rfl,SqL.of g1,bF (j:=i % 65536) (by rw[eo]) g4,k⟩
noncomputable def tH(t:Tx):Sp:=fun vs H Q _=>∃(L:Lay) (mem:Nat→Int) (a n:Nat),AtM t L H mem∧vs=[.ref L.mm,.int (a:Int),.int (n:Int)]∧a+n≤16777216∧n≤65536∧∀ p H',H p=none→(∀ b o,H b=some o→H' b=some o)→H' p=some (.lst ((List.range n).map fun i=>V.int (mem (a+i))))→Q (.ref p) H'
theorem scTellMany:FnScope ["self","at","n","place"] ["self","at","n"] (aL sTellMany):=⟨rfl,rfl,rfl,by decide +kernel,rfl,by decide +kernel,by decide +kernel⟩
theorem y9p:blkC ["self","at","n","place"] (aL sTellMany) { kind:=.function,names:=[(".0",.local),("place",.local),("self",.free)],isGenerator:=false,isCoroutine:=false } [("place",3)]=true:=by decide +kernel
theorem z4V{α:Type}(f:Nat→α)(n:Nat):(List.range (n+1)).map f=(List.range n).map f++[f n]:=by rw[List.range_succ,List.map_append];rfl
theorem z3x{f g:Addr}{fd gd:FuncData}(F:Fun K "tell_many" "Memory.tell_many" sTellMany f fd)(G:Fun K "tell" "Memory.tell" sTell g gd)(bG:Binds K gd ["self","at"] [])(mG:Meth K t.CM "tell" g)(T:MemT K mg t)(hm:mg "range"=none):FnOk P w K mg base CX0 2 f fd ["self","at","n"] (tH t):=by
 have GM:FnOk P w K mg base CX0 1 g gd ["self","at"] (y0n t):=y3n G T
 refine F.ok scTellMany (fun vs H Q E h=>?_) (fun cdv A outer s H vs Q E hr h=>?_)
 ·obtain⟨L,mem,a,n,_,rfl,_⟩:=h
  rfl
 ·obtain⟨L,mem,a,n,M,rfl,han,hn,k⟩:=h
  refine⟨_,(aK (aS (x3E (own:=[("place",3)]) rfl scTellMany.nd (z6R rfl hm (aD (pv 1) (aD (aT fK (pv 1) (pv 2)) pa_nil))) (z8o y9p) (fun s H C cl fp=>gJ (i:=3) scTellMany.nd rfl (Or.inl rfl)) (fun s H C cl fp=>y3u)
   (fun s H C cl fp=>gI (pv 0) T.cm mG GM hr bG .nil aR (aD (pv 3) pa_nil))))),?_⟩
  refine⟨_,rfl,_,rfl,_,rfl,(a:Int),(n:Int),rfl,rfl,(a:Int),(a:Int)+(n:Int),rfl,by omega,fun D hD=>?_⟩
  have en:((a:Int)+(n:Int) - (a:Int)).toNat=n:=by omega
  rw[en]
  refine z9g (lo:=(a:Int)) (n:=n) (fun i H'=>i≤n∧(∀ b o,H b=some o→H' b=some o)∧H' D=some (.lst ((List.range i).map fun i=>V.int (mem (a+i))))) ⟨Nat.zero_le _,aY hD,aH⟩ ?_ ?_
  ·rintro i H1 hi ⟨_,hs,hd⟩
   have M1:=M.same hs
   have ea:(a:Int)+(i:Nat)=((a+i:Nat):Int):=by omega
   refine⟨rfl,?_⟩
   unfold tYes
   refine cW ?_
   refine⟨_,rfl,L.mm,L.dm,_,rfl,M1.mm,rfl,_,rfl,L,mem,a+i,M1,?_,by omega,_,hd,?_,hi,?_,?_⟩
   ·show [V.ref L.mm,V.int ((a:Int)+(i:Nat))]=_
    rw[ea]
   ·rw[List.length_map,List.length_range];exact Nat.lt_of_lt_of_le (show i<65536 by omega) (by decide)
   ·intro b o hb
    rw[aC (aJ hb hD)];exact hs b o hb
   ·rw[aH,z4V]
  ·rintro H1 ⟨_,hs,hd⟩
   exact k D H1 hD hs hd
end
end EV
end
section
namespace EV
open PySem L2
noncomputable abbrev sMemInit:Stmt:=inClass (top 4) 0
theorem z6a{α:Type}(c:α):∀ n:Nat,(List.range n).map (fun _=>c)=List.replicate n c:=fun n=>by
 rw[List.map_const',List.length_range]
section
variable{P:Program}{w:World}{K:PySem.W.Frag}{mg:Str→Option Value}{base:Heap}{t:Tx}
noncomputable def uA(t:Tx):Sp:=fun vs H Q _=>∃(x dx:Addr),vs=[.ref x]∧H x=some (.ins t.CM dx [])∧∀(L:Lay) H',L.mm=x→L.wr 0=true→AtM t L H' (fun _=>0)→(∀ b o,H b=some o→b≠x→H' b=some o)→(∀ b,hC L b→b=x∨H b=none)→Q .non H'
theorem z7j:FnScope ["self"] ["self"] (aL sMemInit):=⟨rfl,rfl,rfl,by decide +kernel,rfl,by decide +kernel,by decide +kernel⟩
theorem z4J{f g:Addr}{fd gd:FuncData}(F:Fun K "__init__" "Memory.__init__" sMemInit f fd)(G:Fun K "make_bank" "Memory.make_bank" sMkb g gd)(bG:Binds K gd ["self","bank"] [])(mG:Meth K t.CM "make_bank" g)(T:MemT K mg t):FnOk P w K mg base CX0 2 f fd ["self"] (uA t):=by
 have GM:FnOk P w K mg base CX0 1 g gd ["self","bank"] (y0k t):=z9t G T
 have k1:=T.gc "BANK_SIZE" 65536 (by decide +kernel)
 have k2:=T.gc "BANK_COUNT" 256 (by decide +kernel)
 refine F.ok z7j (fun vs H Q E h=>?_) (fun cdv A outer s H vs Q E hr h=>?_)
 ·obtain⟨x,dx,rfl,_⟩:=h
  rfl
 ·obtain⟨x,dx,rfl,hx,k⟩:=h
  refine⟨_,aF (bD (pv 0) (aT pA (cF (aD (aT pA (cF (aD pe_int pa_nil)) (aO (v:=.int 65536) (by rfl) k1.choose_spec ⟨_,rfl⟩)) pa_nil)) (aO (v:=.int 256) (by rfl) k2.choose_spec ⟨_,rfl⟩)) rfl)
   (aF (bD (pv 0) (aT pA (cF (aD pe_bl pa_nil)) (aO (v:=.int 256) (by rfl) k2.choose_spec ⟨_,rfl⟩)) rfl)
   (aK (bV (gI (pv 0) T.cm mG GM hr bG .nil aR (aD pe_int pa_nil))))),?_⟩
  refine⟨by show 1≤sizeLine;decide,fun q1 hq1=>?_⟩
  refine⟨q1,65536,[.int 0],rfl,rfl,aH,by decide,by decide,by show 1 * 65536≤sizeLine;decide,fun q2 hq2=>?_⟩
  refine⟨by show 1≤sizeLine;decide,fun q3 hq3=>?_⟩
  refine⟨q3,256,[.ref q2],rfl,rfl,aH,by decide,by decide,by show 1 * 256≤sizeLine;decide,fun q4 hq4=>?_⟩
  have n1:x≠q1:=aJ hx hq1
  have s1:=aY hq1 (o:=HO.lst [V.int 0])
  have s2:=aY hq2 (o:=HO.lst (List.replicate (65536:Int).toNat [V.int 0]).flatten)
  have s3:=aY hq3 (o:=HO.lst [V.ref q2])
  have s4:=aY hq4 (o:=HO.lst (List.replicate (256:Int).toNat [V.ref q2]).flatten)
  have hx1:=s1 _ _ hx
  have hx2:=s2 _ _ hx1
  have hx3:=s3 _ _ hx2
  have hx4:=s4 _ _ hx3
  refine⟨_,rfl,x,t.CM,dx,_,rfl,hx4,T.cm,T.nb,by show 0<1000;decide,?_⟩
  refine⟨by show 1≤sizeLine;decide,fun q5 hq5=>?_⟩
  refine⟨q5,256,[.bl false],rfl,rfl,aH,by decide,by decide,by show 1 * 256≤sizeLine;decide,fun q6 hq6=>?_⟩
  have s5:=aY hq5 (o:=HO.lst [V.bl false])
  have s6:=aY hq6 (o:=HO.lst (List.replicate (256:Int).toNat [V.bl false]).flatten)
  have n4:x≠q4:=aJ hx3 hq4
  have hx5:=s6 _ _ (s5 _ _ (aH (H:=upd (upd (upd (upd H q1 (HO.lst [V.int 0])) q2 (HO.lst (List.replicate (65536:Int).toNat [V.int 0]).flatten)) q3 (HO.lst [V.ref q2])) q4 (HO.lst (List.replicate (256:Int).toNat [V.ref q2]).flatten)) (a:=x) (o:=HO.ins t.CM dx (aZ "banks" (V.ref q4) []))))
  refine⟨_,rfl,x,t.CM,dx,_,rfl,hx5,T.cm,T.nw,by show 1<1000;decide,?_⟩
  have up:∀ b o,upd (upd (upd (upd H q1 (HO.lst [V.int 0])) q2 (HO.lst (List.replicate (65536:Int).toNat [V.int 0]).flatten)) q3 (HO.lst [V.ref q2])) q4 (HO.lst (List.replicate (256:Int).toNat [V.ref q2]).flatten) b=some o→b≠x→upd (upd (upd (upd (upd (upd (upd (upd H q1 (HO.lst [V.int 0])) q2 (HO.lst (List.replicate (65536:Int).toNat [V.int 0]).flatten)) q3 (HO.lst [V.ref q2])) q4 (HO.lst (List.replicate (256:Int).toNat [V.ref q2]).flatten)) x (HO.ins t.CM dx (aZ "banks" (V.ref q4) []))) q5 (HO.lst [V.bl false])) q6 (HO.lst (List.replicate (256:Int).toNat [V.bl false]).flatten)) x (HO.ins t.CM dx (aZ "written" (V.ref q6) (aZ "banks" (V.ref q4) []))) b=some o:=fun b o hb nb=>by
   rw[aC nb]
   exact s6 _ _ (s5 _ _ (by rw[aC nb];exact hb))
  have keep:∀ b o,H b=some o→b≠x→_:=fun b o hb nb=>up b o (s4 _ _ (s3 _ _ (s2 _ _ (s1 _ _ hb)))) nb
  have h2:=s4 _ _ (s3 _ _ (aH (H:=upd H q1 (HO.lst [V.int 0])) (a:=q2) (o:=HO.lst (List.replicate (65536:Int).toNat [V.int 0]).flatten)))
  have n2:q2≠x:=Ne.symm (aJ hx1 hq2)
  have h4:=up q4 _ aH (Ne.symm n4)
  have h2':=up q2 _ h2 n2
  have n6:q6≠x:=Ne.symm (aJ (s5 _ _ (aH (H:=upd (upd (upd (upd H q1 (HO.lst [V.int 0])) q2 (HO.lst (List.replicate (65536:Int).toNat [V.int 0]).flatten)) q3 (HO.lst [V.ref q2])) q4 (HO.lst (List.replicate (256:Int).toNat [V.ref q2]).flatten)) (a:=x) (o:=HO.ins t.CM dx (aZ "banks" (V.ref q4) [])))) hq6)
  have pre:∀ b o,upd (upd (upd (upd H q1 (HO.lst [V.int 0])) q2 (HO.lst (List.replicate (65536:Int).toNat [V.int 0]).flatten)) q3 (HO.lst [V.ref q2])) q4 (HO.lst (List.replicate (256:Int).toNat [V.ref q2]).flatten) b=some o→b≠q6:=fun b o hb e=>by
   by_cases nb:b=x
   ·exact n6 (e.symm.trans nb)
   ·exact aJ (s5 _ _ (show upd _ x (HO.ins t.CM dx (aZ "banks" (V.ref q4) [])) b=some o by rw[aC nb];exact hb)) hq6 e
  have n26:=pre q2 _ h2
  have n46:=pre q4 _ aH
  have n24:q2≠q4:=aJ (s3 _ _ (aH (H:=upd H q1 (HO.lst [V.int 0])) (a:=q2) (o:=HO.lst (List.replicate (65536:Int).toNat [V.int 0]).flatten))) hq4
  have f2:H q2=none:=by
   cases e:H q2 with
   |none=>rfl
   |some o=>have:=s1 _ _ e;rw[hq2] at this;cases this
  have f4:H q4=none:=by
   cases e:H q4 with
   |none=>rfl
   |some o=>have:=s3 _ _ (s2 _ _ (s1 _ _ e));rw[hq4] at this;cases this
  have f6:H q6=none:=by
   cases e:H q6 with
   |none=>rfl
   |some o=>exact absurd rfl (pre q6 o (s4 _ _ (s3 _ _ (s2 _ _ (s1 _ _ e)))))
  generalize hH:upd (upd (upd (upd (upd (upd (upd (upd H q1 (HO.lst [V.int 0])) q2 (HO.lst (List.replicate (65536:Int).toNat [V.int 0]).flatten)) q3 (HO.lst [V.ref q2])) q4 (HO.lst (List.replicate (256:Int).toNat [V.ref q2]).flatten)) x (HO.ins t.CM dx (aZ "banks" (V.ref q4) []))) q5 (HO.lst [V.bl false])) q6 (HO.lst (List.replicate (256:Int).toNat [V.bl false]).flatten)) x (HO.ins t.CM dx (aZ "written" (V.ref q6) (aZ "banks" (V.ref q4) [])))=H8
  rw[hH] at h4 h2'
  have keep':∀ b o,H b=some o→b≠x→H8 b=some o:=fun b o hb nb=>by rw[←hH];exact keep b o hb nb
  have hx8:H8 x=some (.ins t.CM dx [("banks",.ref q4),("written",.ref q6)]):=by rw[←hH];exact aH
  have h6:H8 q6=some (HO.lst (List.replicate (256:Int).toNat [V.bl false]).flatten):=by rw[←hH,aC n6];exact aH
  have M:AtM t ⟨0,0,x,dx,q4,q6,fun _=>q2,fun _=>false⟩ H8 (fun _=>0):=by
   refine⟨hx8,?_,?_,fun b hb=>⟨_,h2',?_,fun o ho=>?_⟩,fun b b' _ _ z=>absurd z Bool.false_ne_true,fun b hb=>⟨n24,n26⟩,n46,fun _ _ _ _ _=>rfl⟩
   ·show H8 q4=some (HO.lst ((List.range 256).map fun _=>V.ref q2))
    rw[z6a,h4,jG];rfl
   ·show H8 q6=some (HO.lst ((List.range 256).map fun _=>V.bl false))
    rw[z6a,h6,jG];rfl
   ·rw[jG,List.length_replicate];rfl
   ·rw[jG,List.getElem?_replicate,if_pos (show o<(65536:Int).toNat from ho)]
  refine⟨_,rfl,x,dx,_,rfl,hx8,rfl,⟨0,0,x,dx,q4,q6,fun _=>q2,fun _=>false⟩,_,0,M,rfl,by decide,rfl,fun L' H' M' hw X'=>?_⟩
  refine k L' H' X'.mm hw M' (fun b o hb nb=>?_) (fun b fb=>?_)
  ·refine X'.keep b o (keep' b o hb nb) fun fb=>?_
   rcases fb with e|e|e|⟨_,_,e⟩
   ·exact nb e
   ·rw[show b=q4 from e,f4] at hb;cases hb
   ·rw[show b=q6 from e,f6] at hb;cases hb
   ·rw[show b=q2 from e,f2] at hb;cases hb
  ·rcases X'.foot b fb with e|e
   ·rcases e with e|e|e|⟨_,_,e⟩
    ·exact .inl e
    ·right;rw[show b=q4 from e];exact f4
    ·right;rw[show b=q6 from e];exact f6
    ·right;rw[show b=q2 from e];exact f2
   ·by_cases nb:b=x
    ·exact .inl nb
    ·right
     cases e':H b with
     |none=>rfl
     |some o=>rw[keep' b o e' nb] at e;cases e
end
end EV
end
section
namespace EV
open PySem L2 SM
noncomputable abbrev sCpuInit:Stmt:=inClass (top 24) 0
theorem Tok0.nfi'{K:PySem.W.Frag}{mg:Str→Option Value}{t:Tx}(T:Tok0 K mg t)(f:Nat){x:Str}(h1:fnames[f]?=some x:=by rfl):NoAttr K t.CC x:=T.nf x (List.mem_of_getElem? h1)
section
variable{P:Program}{w:World}{K:PySem.W.Frag}{mg:Str→Option Value}{base:Heap}{t:Tx}
noncomputable def tY(t:Tx):Sp:=fun vs H Q _=>∃(x dx:Addr),vs=[.ref x]∧H x=some (.ins t.CC dx [])∧∀(L:Lay) H',L.c=x→At t L H' (aA Ql49.blank)→(∀ b o,H b=some o→b≠x→H' b=some o)→(∀ b,bK L b→b=x∨H b=none)→Q .non H'
theorem z7i:FnScope ["self"] ["self"] (aL sCpuInit):=⟨rfl,rfl,rfl,by decide +kernel,rfl,by decide +kernel,by decide +kernel⟩
theorem z4H{f g:Addr}{fd gd:FuncData}(F:Fun K "__init__" "Cpu.__init__" sCpuInit f fd)(GM:FnOk P w K mg base CX0 2 g gd ["self"] (uA t))(bM:Binds K gd ["self"] [])(MM:Mk K t.CM g)(mgM:mg "Memory"=some (.ref t.CM))(T:Tok0 K mg t)(TM:MemT K mg t):FnOk P w K mg base CX0 4 f fd ["self"] (tY t):=by
 have k1:=T.gc "FIRST_STACK" 511 (by decide +kernel)
 have k2:=T.gc "NARROW_A" 32 (by decide +kernel)
 have k3:=T.gc "NARROW_X" 16 (by decide +kernel)
 have k4:=T.gc "IRQ_OFF" 4 (by decide +kernel)
 have k5:=T.gc "WHY_ALL_DONE" 0 (by decide +kernel)
 refine F.ok z7i (fun vs H Q E h=>?_) (fun cdv A outer s H vs Q E hr h=>?_)
 ·obtain⟨x,dx,rfl,_⟩:=h
  rfl
 ·obtain⟨x,dx,rfl,hx,k⟩:=h
  refine⟨_,(aF (bD (pv 0) (uS MM GM hr (by rfl) mgM bM .nil aR) rfl)
   (aF (bD (pv 0) (aQ (aQ (pv 0) rfl) rfl) rfl)
   (aF (bD (pv 0) pe_int rfl)
   (aF (bD (pv 0) pe_int rfl)
   (aF (bD (pv 0) pe_int rfl)
   (aF (bD (pv 0) pe_int rfl)
   (aF (bD (pv 0) (aO (v:=.int 511) (by rfl) k1.choose_spec ⟨_,rfl⟩) rfl)
   (aF (bD (pv 0) pe_int rfl)
   (aF (bD (pv 0) pe_int rfl)
   (aF (bD (pv 0) pe_int rfl)
   (aF (bD (pv 0) (aT z9A (aT z9A (aO (v:=.int 32) (by rfl) k2.choose_spec ⟨_,rfl⟩) (aO (v:=.int 16) (by rfl) k3.choose_spec ⟨_,rfl⟩)) (aO (v:=.int 4) (by rfl) k4.choose_spec ⟨_,rfl⟩)) rfl)
   (aF (bD (pv 0) pe_bl rfl)
   (aF (bD (pv 0) pe_bl rfl)
   (aF (bD (pv 0) pe_bl rfl)
   (aF (bD (pv 0) pe_bl rfl)
   (aF (bD (pv 0) pe_bl rfl)
   (aK (bD (pv 0) (aO (v:=.int 0) (by rfl) k5.choose_spec ⟨_,rfl⟩) rfl)))))))))))))))))),?_⟩
  intro y dy hy hdy nxy
  refine⟨y,dy,rfl,aH,fun L0 H1 e0 w0 M1 kp1 ft1=>⟨rfl,?_⟩⟩
  have nxy':x≠y:=aJ hx hy
  have nxd:x≠dy:=aJ hx hdy
  have hx1:H1 x=some (.ins t.CC dx []):=kp1 x _ (by rw[aC nxy',aC nxd];exact hx) nxy'
  refine⟨_,rfl,x,t.CC,dx,_,rfl,hx1,T.cc,T.nfi' 0,by show 0<1000;decide,?_⟩
  have emm:=M1.mm
  rw[e0] at emm
  refine⟨_,rfl,x,t.CC,dx,_,_,rfl,aH,T.cc,T.nfi' 0,rfl,y,t.CM,L0.dm,_,_,rfl,by rw[aC (Ne.symm nxy')];exact emm,TM.cm,TM.nb,oC L0,_,rfl,x,t.CC,dx,_,rfl,aH,T.cc,T.nfi' 1,by show 1<1000;decide,?_⟩
  refine⟨_,rfl,x,t.CC,dx,_,rfl,aH,T.cc,T.nfi' 2,by show 2<1000;decide,?_⟩
  refine⟨_,rfl,x,t.CC,dx,_,rfl,aH,T.cc,T.nfi' 3,by show 3<1000;decide,?_⟩
  refine⟨_,rfl,x,t.CC,dx,_,rfl,aH,T.cc,T.nfi' 4,by show 4<1000;decide,?_⟩
  refine⟨_,rfl,x,t.CC,dx,_,rfl,aH,T.cc,T.nfi' 5,by show 5<1000;decide,?_⟩
  refine⟨_,rfl,x,t.CC,dx,_,rfl,aH,T.cc,T.nfi' 6,by show 6<1000;decide,?_⟩
  refine⟨_,rfl,x,t.CC,dx,_,rfl,aH,T.cc,T.nfi' 7,by show 7<1000;decide,?_⟩
  refine⟨_,rfl,x,t.CC,dx,_,rfl,aH,T.cc,T.nfi' 8,by show 8<1000;decide,?_⟩
  refine⟨_,rfl,x,t.CC,dx,_,rfl,aH,T.cc,T.nfi' 9,by show 9<1000;decide,?_⟩
  refine⟨_,_,rfl,rfl,_,_,rfl,rfl,_,rfl,x,t.CC,dx,_,rfl,aH,T.cc,T.nfi' 10,by show 10<1000;decide,?_⟩
  refine⟨_,rfl,x,t.CC,dx,_,rfl,aH,T.cc,T.nfi' 11,by show 11<1000;decide,?_⟩
  refine⟨_,rfl,x,t.CC,dx,_,rfl,aH,T.cc,T.nfi' 12,by show 12<1000;decide,?_⟩
  refine⟨_,rfl,x,t.CC,dx,_,rfl,aH,T.cc,T.nfi' 13,by show 13<1000;decide,?_⟩
  refine⟨_,rfl,x,t.CC,dx,_,rfl,aH,T.cc,T.nfi' 14,by show 14<1000;decide,?_⟩
  refine⟨_,rfl,x,t.CC,dx,_,rfl,aH,T.cc,T.nfi' 15,by show 15<1000;decide,?_⟩
  refine⟨_,rfl,x,t.CC,dx,_,rfl,aH,T.cc,T.nfi' 16,by show 16<1000;decide,?_⟩
  simp only[y4m]
  have M2:∀ b o,H1 b=some o→b≠x→upd H1 x (HO.ins t.CC dx (fnames.zip (vals { L0 with c:=x,dc:=dx } (aA Ql49.blank)))) b=some o:=fun b o hb nb=>by rw[aC nb];exact hb
  have nft:¬ hC L0 x:=fun fx=>by
   rcases ft1 x fx with z|z
   ·exact nxy' z
   ·rw[aC nxy',aC nxd,hx] at z;cases z
  have nmm:L0.mm≠x:=fun z=>nft (.inl z.symm)
  have nbl:L0.bl≠x:=fun z=>nft (.inr (.inl z.symm))
  have nwl:L0.wl≠x:=fun z=>nft (.inr (.inr (.inl z.symm)))
  have nba:∀ b,b<256→L0.ba b≠x:=fun b hb z=>nft (.inr (.inr (.inr ⟨b,hb,z.symm⟩)))
  have A1:At t { L0 with c:=x,dc:=dx } (upd H1 x (HO.ins t.CC dx (fnames.zip (vals { L0 with c:=x,dc:=dx } (aA Ql49.blank))))) (aA Ql49.blank):=
   ⟨aH,M2 _ _ M1.mm nmm,M2 _ _ M1.bl nbl,M2 _ _ M1.wl nwl,fun b hb=>let ⟨xs,g1,g2,g3⟩:=M1.bk b hb;⟨xs,M2 _ _ g1 (nba b hb),g2,g3⟩,M1.inj,w0,M1.nl,M1.bw,Ne.symm nmm,M1.z⟩
  have up:∀ b o,H b=some o→upd (upd H dy (.own y)) y (.ins t.CM dy []) b=some o:=fun b o hb=>by rw[aC (aJ hb hy),aC (aJ hb hdy)];exact hb
  have kk:=k { L0 with c:=x,dc:=dx } _ rfl A1 (fun b o hb nb=>M2 _ _ (kp1 b o (up b o hb) (aJ hb hy)) nb) (fun b fb=>by
   rcases fb with z|z
   ·exact .inl z
   ·right
    rcases ft1 b z with q|q
    ·rw[q];exact hy
    ·cases e:H b with
     |none=>rfl
     |some o=>rw[up b o e] at q;cases q)
  have e1:vals { L0 with c:=x,dc:=dx } (aA Ql49.blank)=[.ref y,.ref L0.bl,.int 0,.int 0,.int 0,.int 0,.int 511,.int 0,.int 0,.int 0,.int (Builtin.bitOr (Builtin.bitOr 32 16) 4),.bl true,.bl false,.bl false,.bl false,.bl false,.int 0]:=by
   unfold vals
   rw[e0]
   rfl
  rw[e1] at kk
  exact kk
end
end EV
end
section
namespace PySem
open Sem (wp)
open AutoSeq1 (wpAny_loadPart')
theorem z0h(l:Addr)(items:Array Value)(n:Nat)(dct:Option Addr)(sl:Array (Option Value))(i:Int)(ti:Tok)(hf:Builtin.SmallTypes.fitsIndex i=true) :
  Meets (Builtin.«enumerate.__new__» ⟨[.type "enumerate",.ref l],[("start",.int i ti)]⟩) (fun _ R s=>s.heap.get? l=some { cls:=.type "list",dict:=dct,data:=.seq items n,slots:=sl } ∧
   R (.ok (.ret (.ref (s.heap.push { cls:=.type "list_iterator",data:=.fields #[.ref l,.int 0 0] }).objs.size)))
    { s with heap:=(s.heap.push { cls:=.type "list_iterator",data:=.fields #[.ref l,.int 0 0] }).push { cls:=.type "enumerate",data:=.fields #[.none,.bool false,.ref s.heap.objs.size,rawInt i,.none,.none] } }):=
 .of_wp fun prog w A R s h=>by
  obtain⟨hp,g,d,tk,os⟩:=s;obtain⟨hl,h⟩:=h
  have hsub:=sub_enumerate
  have hL:Heap.IsList (Shared.heap ⟨hp,g,d,tk,os⟩) l items:=⟨_,hl,rfl,n,rfl⟩
  wp_walk using wpAny_loadPart' hl
  refine wpAny_stack_any fun st=>wpAny_pure ?_
  split
  ·rename_i c _ _ _ _ _
   cases (c==Value.type "enumerate")
   ·wp_walk using wpAny_loadPart' hl,wpAny_pyIter_list hL
    exact⟨_,rfl,h⟩
   ·wp_walk using wpAny_loadPart' hl,wpAny_pyIter_list hL
    exact⟨_,rfl,h⟩
  ·wp_walk using wpAny_loadPart' hl,wpAny_pyIter_list hL
   exact⟨_,rfl,h⟩
section
variable{prog:Program}{w:World}{A:Around}{E:Value→Shared→Prop}{s:Shared}
theorem z0v {T newId:String}{self:Value}{rest:List Value}{kw:List (Str×Value)} (hl:typeLookup (.type T) "__init__"=pure (some (.builtin "object.__init__")))
  (hm:Bind.madeBy (.type T)=pure (some newId)) (hne:(some newId != some "object.__new__")=true) :
  Meets (Builtin.«object.__init__» ⟨self::rest,kw⟩) (fun _ R s=>s.TypeIs self T∧R (.ok (.ret .none)) s):=by
 refine Meets.of_wp fun prog w A R s hs=>?_
 obtain⟨hT,hq⟩:=hs
 cases rest with
 |nil=>
  cases kw with
  |nil=>exact wpAny_pure ⟨_,rfl,hq⟩
  |cons a kw=>
   repeat (any_goals (first|assumption|wp_step))
   exact⟨_,rfl,hq⟩
 |cons a rest=>
  repeat (any_goals (first|assumption|wp_step))
  exact⟨_,rfl,hq⟩
theorem z0W {T newId initId:String}{Bn Bi:Builtin}{args:List Value}{kw:List (Str×Value)}{S:Spec}{Q Q₁:Value→Shared→Prop} (ft:TypeCalled T newId initId)
  (hct:checkTypeCall T ⟨args,kw⟩=pure ()) (hcn:checkBuiltinCall newId ⟨.type T::args,kw⟩=pure ())
  (entryN:entryFor table newId=some Bn) (entryI:entryFor table initId=some Bi) (g:Meets (Bn ⟨.type T::args,kw⟩) S)
  (h:S A.in1 (wants Q₁ E) s)
  (hnext:∀ obj s₁,Q₁ obj s₁→s₁.TypeIs obj T∧argsOk initId ⟨obj::args,kw⟩∧∃ Si,Meets (Bi ⟨obj::args,kw⟩) Si∧Si A.in1 (wants (fun r s₂=>r=.none∧Q obj s₂) E) s₁) :
  wpAny (model prog w) A (call (.type T) args kw) Q E s:=by
 obtain⟨c,tl,hmro⟩:=ft.mro
 have hmade:=ft.made
 have hsub:=ft.sub
 refine wpAny_call (codeAny_of_tree ?_)
 show wpAny _ _ (callAny (.type T) _) _ _ _
 refine wpAny_pure ⟨Code.quiet_builtin _ (by decide +kernel),codeAny_builtin F.entry_type_call ?_⟩
 rw[Around.under_plain (weight_type_call_type T args kw) (units_type_call_type T args kw)]
 have h1:=ft.notType
 have h2:=ft.canCreate
 repeat (any_goals (first|assumption|wp_step))
 refine codeAny_mono (codeAny_call_builtin ft.plain entryN (wpAny_of_eq hcn (g prog w A.in1 _ s h))) fun r s₁ hr=>?_
 cases r with
 |error e=>exact hr
 |ok fl=>
  cases fl with
  |ret obj=>
   obtain⟨hT,hok,Si,gi,hsi⟩:=hnext _ _ hr
   have hli:=ft.init.lookup
   have hbi:=ft.init.bind obj
   repeat (any_goals (first|assumption|wp_step))
   refine codeAny_mono (codeAny_call_builtin ft.init.plain entryI (ft.init.check _ _ _ _ _ _ _ _ hT hok (gi prog w A.in1 _ s₁ hsi))) fun r₂ s₂ hr₂=>?_
   cases r₂ with
   |error e=>exact hr₂
   |ok fl₂=>
    cases fl₂ with
    |ret r=>
     obtain⟨rfl,hq⟩:=hr₂
     repeat (any_goals (first|assumption|wp_step))
    |_=>exact hr₂.elim
  |_=>exact hr.elim
theorem z0i(a b:Value):checkTypeCall "enumerate" ⟨[a],[("start",b)]⟩=pure ():=by kernel_rfl
theorem z0n(a b:Value):checkBuiltinCall "enumerate.__new__" ⟨[.type "enumerate",a],[("start",b)]⟩=pure ():=by kernel_rfl
theorem z0t(a b c:Value):argsOk "object.__init__" ⟨[a,b],[("start",c)]⟩:=by
 unfold argsOk;rw[signature?_of (id:="object.__init__") (n:=['_','_','t','i','n','i','_','_']) (o:=['t','c','e','j','b','o']) (by kernel_rfl) F.owner_object];kernel_rfl
theorem z0e {l:Addr}{items:Array Value}{i:Int}{ti:Tok}{Q:Value→Shared→Prop} (hf:Builtin.SmallTypes.fitsIndex i=true) (hL:s.heap.IsList l items)
  (h:∀ h',IsEnum h' (s.heap.objs.size+1) s.heap.objs.size i .none→h'.IsListIter s.heap.objs.size l 0→h'.objs.size=s.heap.objs.size+2 →
   (∀ b o,s.heap.get? b=some o→h'.get? b=some o)→Q (.ref (s.heap.objs.size+1)) { s with heap:=h' }) :
  wpAny (model prog w) A (call (.type "enumerate") [.ref l] [("start",.int i ti)]) Q E s:=by
 obtain⟨⟨c,dct,dt,sl⟩,hl,hc,n,hd⟩:=hL
 replace hc:c=.type "list":=hc
 replace hd:dt=.seq items n:=hd
 subst hc hd
 refine z0W (Q₁:=fun obj s₁=>s₁.TypeIs obj "enumerate"∧Q obj s₁) F.called_enumerate (z0i _ _) (z0n _ _) F.entry_enumerate_new F.entry_object_init (z0h l items n dct sl i ti hf) ⟨hl,?_⟩ fun obj _ hq=>
  ⟨hq.1,z0t obj _ _,_,z0v F.called_enumerate.init.lookup F.called_enumerate.made (by decide),hq.1,rfl,hq.2⟩
 have hz:(s.heap.push { cls:=.type "list_iterator",data:=.fields #[.ref l,.int 0 0] }).objs.size=s.heap.objs.size+1:=Heap.size_push ..
 show _∧_
 rw[hz]
 have he:IsEnum ((s.heap.push { cls:=.type "list_iterator",data:=.fields #[.ref l,.int 0 0] }).push
   { cls:=.type "enumerate",data:=.fields #[.none,.bool false,.ref s.heap.objs.size,rawInt i,.none,.none] }) (s.heap.objs.size+1) s.heap.objs.size i .none:=by
  have:=Heap.get?_push_size (s.heap.push { cls:=.type "list_iterator",data:=.fields #[.ref l,.int 0 0] })
   (o:={ cls:=.type "enumerate",data:=.fields #[.none,.bool false,.ref s.heap.objs.size,rawInt i,.none,.none] }) rfl
  rw[hz] at this;exact this
 exact⟨⟨_,he,rfl⟩,h _ he ⟨_,Heap.get?_push_of_some _ (Heap.get?_push_size _ rfl),rfl,rfl⟩ (by rw[Heap.size_push,hz]) fun b o x=>Heap.get?_push_of_some _ (Heap.get?_push_of_some _ x)⟩
end
end PySem
end
section
namespace PySem
theorem Draws.shift{prog:Program}{w:World}{A:Around}{it:Addr}{fp:List Addr}{n:Nat}{P:Nat→Value→Prop}{St:Nat→Heap→Prop}(lo:Nat)(D:Draws prog w A it fp n P St) :
  Draws prog w A it fp (lo+n) (fun j v=>∃ i,j=lo+i∧P i v) (fun j h=>∃ i,j=lo+i∧St i h) where
 live:=fun _ h ⟨i,_,st⟩=>D.live i h st
 frame:=fun _ h h' ⟨i,e,st⟩ hk=>⟨i,e,D.frame i h h' st hk⟩
 item:=fun j s Q E hj ⟨i,e,st⟩ hQ=>D.item i s Q E (by omega) st fun x h' tk p st' sb=>hQ x h' tk ⟨i,e,p⟩ ⟨i+1,by omega,st'⟩ sb
 done:=fun s Q E ⟨i,e,st⟩ hE=>by
  have:i=n:=by omega
  subst this
  exact D.done s Q E st hE
theorem Draws.ended{prog:Program}{w:World}{A:Around}(hh:A.handled=none)(it l:Addr)(items:Array Value)(i:Nat)(hi:items[i]?=none) :
  Draws prog w A it [it,l] i (fun _ _=>True) (fun j h=>j=i∧h.IsListIter it l i∧h.IsList l items) where
 live:=fun _ _ st=>let ⟨o,ho,_⟩:=st.2.1;⟨o,ho⟩
 frame:=fun _ _ _ st hk=>⟨st.1,st.2.1.at fun o e=>hk it (by simp) o e,st.2.2.at fun o e=>hk l (by simp) o e⟩
 item:=fun j s Q E hj st hQ=>absurd st.1 (Nat.ne_of_lt hj)
 done:=fun s Q E st hE=>wpAny_nextOf_list_end hh st.2.1 st.2.2 hi hE
end PySem
namespace L2
open PySem PySem.Spec PyProof.Rows
noncomputable def ItE(K:PySem.W.Frag)(a:Addr)(lo:Nat):It:=
 ⟨fun i H=>∃(xs:List V) (x:V),SqL K H a xs∧xs[i]?=some x,fun i H v H'=>∃ T x,v=.ref T∧H T=none∧H'=upd H T (.tup [.int ((lo+i:Nat):Int),x])∧∀ xs,SqL K H a xs→xs[i]?=some x,fun i H=>∃ xs:List V,SqL K H a xs∧xs.length≤i⟩
theorem z4X{P:Program}{w:World}{K:PySem.W.Frag}{elts:List Expr}{kk:Nat}{tpos:Pos}(lo:Nat)(a e it:Addr) :
  Turn P w K (.Tuple elts kk tpos) (ItE K a lo) [e,it] e (fun i h=>(∃ old,IsEnum h e it ((lo+i:Nat):Int) old)∧h.IsListIter it a i∧e≠it) where
 mem:=by simp
 obj:=fun i h st b hb=>by
  obtain⟨⟨old,he⟩,⟨o,ho,hc,hd⟩,_⟩:=st
  have e':b=e∨b=it:=by simpa using hb
  rcases e' with z|z
  ·rw[z];exact⟨_,he,fun v q=>nomatch q⟩
  ·rw[z];exact⟨o,ho,fun v q=>by rw[hd] at q;cases q⟩
 keep:=fun i h h' st k=>let ⟨⟨old,he⟩,hi,hne⟩:=st;⟨⟨old,k e (by simp) _ he⟩,hi.at fun o q=>k it (by simp) o q,hne⟩
 item:=by
  intro X hP hw hK hc i pins s σ H E I hf st hg
  subst hP hw hK
  obtain⟨⟨old,he⟩,hit,hne⟩:=st
  obtain⟨xs,x,hq,hx⟩:=hg
  obtain⟨its,rv,p,hz⟩:=I.list hq
  obtain⟨u,hu,ru⟩:=rv.get hx
  have hel:e<s.heap.objs.size:=Heap.lt_size he
  have hil:it<s.heap.objs.size:=by obtain⟨_,q,_⟩:=hit;exact Heap.lt_size q
  have hea:a≠e:=fun z=>by
   obtain⟨o,ho,hc,_⟩:=p.isList
   rw[z,he] at ho
   cases ho
   have hc':Value.type "enumerate"=Value.type "list":=hc
   exact absurd hc' (by decide)
  have hia:a≠it:=fun z=>by
   obtain⟨o,ho,hc,_⟩:=p.isList
   obtain⟨o',ho',hc',_⟩:=hit
   rw[z,ho'] at ho
   cases ho
   rw[hc'] at hc
   exact absurd hc (by decide)
  have hu':its.toArray[i]?=some u:=by simpa using hu
  have hlt:i<its.toArray.size:=by
   rcases Nat.lt_or_ge i its.toArray.size with z|z
   ·exact z
   ·rw[Array.getElem?_eq_none z] at hu';cases hu'
  refine wpAny_pyNext_enum_itemD ((Draws.list (A:=X.A.in1) (I.ok.hd hc) it a hia its.toArray).shift lo) he ⟨i,rfl,hit,p.isList⟩ (by omega) hne (by simp[hne,Ne.symm hea]) fun x' h' tk hP ho hst hT hsz hk=>?_
  obtain⟨i',ei,hP⟩:=hP
  have:i'=i:=by omega
  subst this
  rw[hu'] at hP
  cases hP
  obtain⟨i2,ei2,hit',_⟩:=hst
  have:i2=i'+1:=by omega
  subst this
  refine⟨_,rfl,wpAny_letOwnedTupleGo_enum (s:={ s with heap:=h',toks:=tk+1 }) ho fun h'' he' sb=>?_⟩
  have hT2:h''.get? s.heap.objs.size=some { cls:=.type "tuple",data:=.seq #[.int ((lo+i':Nat):Int) tk,u] }:=(sb.2 _ (Nat.ne_of_gt hel)).trans hT
  have new:ObjOk X.prog X.w (upd H s.heap.objs.size (.tup [.int ((lo+i':Nat):Int),x])) h'' s.heap.objs.size (.tup [.int ((lo+i':Nat):Int),x]):=
   ⟨by show 2≤sizeLine;decide,[.int ((lo+i':Nat):Int) tk,u],.cons ⟨_,rfl⟩ (.cons ru .nil),⟨_,hT2,rfl,_,rfl⟩⟩
  have I1:Inv X pins σ (upd H s.heap.objs.size (.tup [.int ((lo+i':Nat):Int),x])) { s with heap:=h'',toks:=tk+1 }:=
   I.turnedNew (ch:=[e,it]) (fun b ob hb q=>(sb.2 b (fun z=>hb (by simp[z]))).trans (hk b ob (fun z=>hb (by simp[z])) (fun z=>hb (by simp[z])) q)) hf (Nat.le_refl _) new
  refine⟨.ref s.heap.objs.size,_,I1,rfl,⟨_,x,rfl,I.hok.fresh (Nat.le_refl _),rfl,fun ys hy=>by rw[I.list_inj hy hq];exact hx⟩,⟨⟨u,?_⟩,hit'.at fun o q=>(sb.2 it (Ne.symm hne)).trans q,hne⟩,fun b hb=>?_⟩
  ·have e1:((lo+(i'+1):Nat):Int)=((lo+i':Nat):Int)+1:=by omega
   rw[e1];exact he'
  ·have hb':b<s.heap.objs.size:=by
    have e':b=e∨b=it:=by simpa using hb
    rcases e' with z|z
    ·rw[z];exact hel
    ·rw[z];exact hil
   rw[aC (Nat.ne_of_lt hb')]
   exact(hf b hb).1
 done:=by
  intro X hP hw hK hc i pins s σ H E I hf st hg
  subst hP hw hK
  obtain⟨⟨old,he⟩,hit,hne⟩:=st
  obtain⟨xs,hq,hx⟩:=hg
  obtain⟨its,rv,p,hz⟩:=I.list hq
  obtain⟨f0,f1,f2,f3,f4,f5⟩:=hf it (by simp)
  exact wpAny_pyNext_enum_endD (Draws.ended (A:=X.A.in1) (I.ok.hd hc) it a its.toArray i (by have hl:=rv.length;simp;omega)) he ⟨rfl,hit,p.isList⟩ fun h' eb=>⟨rfl,I.turned (t':=s.toks) (fun b o hb q=>eb b o hb q) f0 f1 f3 f4 f5⟩
 self:=fun A i s Q E st h=>let ⟨⟨_,he⟩,_⟩:=st;wpAny_pyIter_enum he h
noncomputable def y7F(K:PySem.W.Frag)(ta te:TE):TI:=fun σ H R=>ta σ H fun v H1=>te σ H1 fun y H2=>∃(a:Addr) (xs:List V) (lo:Nat),v=.ref a∧y=.int (lo:Int)∧lo<2 ^ 32∧SqL K H2 a xs∧R (ItE K a lo) H2
theorem z0H {M:Model}{A:Around}{E:Value→Shared→Prop}{s:Shared}{pos:Pos}{T:String}{first:List Value}{args:List (Bool×Sem Value)}{keywords:List (Option Str×Sem Value)}{Q:Value→Shared→Prop}
  (hplain:args.any (·.1)=false) (hkw:keywords.any (·.1.isNone)=false)
  (h:wpAny M A (evalArgs (.type T) true args keywords) (fun a s₁=>wpAny M A (call (.type T) (first++a.pos) a.kw) Q E s₁) E s) :
  wpAny M A (callWith pos (.type T) first args keywords) Q E s:=by
 unfold callWith
 refine wpAny_bind (wpAny_holding (wpAny_mono h (fun a s₁ h₁=>wpAny_bind (wpAny_standAt ?_)) fun _ _ x=>x))
 simp only[hplain,hkw,Bool.or_false]
 refine wpAny_bind (wpAny_pure ?_)
 exact wpAny_bind (wpAny_mono h₁ (fun r s₂ hr=>wpAny_bind (wpAny_holding (wpAny_point (wpAny_pure hr)))) fun _ _ x=>x)
theorem z9J {X:Cx}{e e2:Expr}{ta te:TE}{p pos tpos kpos:Pos}{elts:List Expr}{kk:Nat} (hg:Gl X "enumerate") (hm:X.mg "enumerate"=none) (ha:PE X e ta) (he:PE X e2 te) (hs:starEach [e] X.env=[(false,eval e X.env)]:=by rfl)
  (hev:eval (.Call (.Name "enumerate" p) [e] [⟨some "start",e2,kpos⟩] pos) X.env=(do callWith pos (← eval (.Name "enumerate" p) X.env) [] (backTo pos (starEach [e] X.env)) (backToKw pos (keywordEach [⟨some "start",e2,kpos⟩] X.env))):=by rfl) :
  PI X (.Tuple elts kk tpos) (.Call (.Name "enumerate" p) [e] [⟨some "start",e2,kpos⟩] pos) (y7F X.K ta te):=by
 intro pins s σ H R I h
 rw[hev]
 refine wpAny_bind (kR I hg hm boot_enumerate ?_)
 rw[hs]
 refine z0H rfl rfl (evalArgs_kwB rfl (Calls.spliced_cons (thn (ha pins s σ H _ I h) fun u s1 h00=>?_)))
 obtain⟨x,H1,I1,r1,q1⟩:=h00
 refine Calls.spliced_nil (kws_cons (thn (he pins s1 σ H1 _ I1 q1) fun u2 s2 h00=>?_))
 obtain⟨y,H2,I2,r2,a,xs,lo,ex,ey,hlo,hq,q⟩:=h00
 refine kws_nil ?_
 subst ex ey
 obtain rfl:u=Value.ref a:=r1
 obtain⟨tk,rfl⟩:=r2
 obtain⟨its,rv,p',hz⟩:=I2.list hq
 show wpAny _ _ (call (.type "enumerate") [.ref a] [("start",.int (lo:Int) tk)]) _ _ _
 have hfit:Builtin.SmallTypes.fitsIndex (lo:Int)=true:=by
  unfold Builtin.SmallTypes.fitsIndex
  rw[Bool.and_eq_true_iff]
  exact⟨decide_eq_true (by omega),decide_eq_true (by omega)⟩
 refine z0e hfit p'.isList fun h' he' hit hsz hk=>wpAny_pyIter_enum he' ?_
 have I3:Inv X pins σ H2 { s2 with heap:=h' }:=I2.kept (t':=s2.toks) hk
 refine⟨s2.heap.objs.size+1,[s2.heap.objs.size+1,s2.heap.objs.size],_,_,H2,rfl,I3,z4X lo a (s2.heap.objs.size+1) s2.heap.objs.size,⟨⟨.none,he'⟩,hit,Nat.succ_ne_self _⟩,fun b hb=>?_,q⟩
 have e':b=s2.heap.objs.size+1∨b=s2.heap.objs.size:=by simpa using hb
 have hle:s2.heap.objs.size≤b:=by
  rcases e' with z|z
  ·rw[z];exact Nat.le_add_right _ _
  ·rw[z];exact Nat.le_refl _
 exact I2.fpOk hle (I2.hok.fresh hle)
theorem z6G {K:PySem.W.Frag}{a:Addr}{lo:Nat}{xs:List V}{g:TG}{tb:TS}{D:Ends}{σ:St}{H:Hp} (Pv:Nat→St→Hp→Prop) (h0:Pv 0 σ H) (hl:∀ i σ H,i≤xs.length→Pv i σ H→SqL K H a xs)
  (hs:∀ i x σ H T,xs[i]?=some x→Pv i σ H→H T=none→g (.ref T) σ (upd H T (.tup [.int ((lo+i:Nat):Int),x])) fun σ2 H2=>tb { D with nx:=Pv (i+1),ct:=Pv (i+1),bk:=D.nx } σ2 H2) (hd:∀ σ H,Pv xs.length σ H→D.nx σ H) :
  ∃ W:Nat→Nat→St→Hp→Prop,(∃ m,W 0 m σ H)∧∀ i m σ H,W i m σ H →
   ((ItE K a lo).stop i H∧D.nx σ H)∨((ItE K a lo).go i H∧∃ N:St→Hp→Prop,(∀ σ' H',N σ' H'→∃ m',m'<m∧W (i+1) m' σ' H')∧∀ x H',(ItE K a lo).yld i H x H'→g x σ H' fun σ2 H2=>tb { D with nx:=N,ct:=N,bk:=D.nx } σ2 H2):=by
 refine⟨fun i m σ H=>m=xs.length - i∧i≤xs.length∧Pv i σ H,⟨xs.length,by simp,Nat.zero_le _,h0⟩,?_⟩
 rintro i m σ H ⟨rfl,hi,p⟩
 have q:=hl i σ H hi p
 by_cases hlt:i<xs.length
 ·refine .inr ⟨⟨xs,xs[i],q,by simp[hlt]⟩,Pv (i+1),fun σ' H' p'=>⟨xs.length - (i+1),by omega,rfl,hlt,p'⟩,fun x H' y=>?_⟩
  obtain⟨T,x',rfl,hT,rfl,hx⟩:=y
  exact hs i x' σ H T (hx xs q) p hT
 ·have e:i=xs.length:=by omega
  subst e
  exact .inl ⟨⟨xs,q,Nat.le_refl _⟩,hd σ H p⟩
end L2
end
section
namespace EV
open PySem L2
noncomputable def eR(mem:Nat→Int)(a:Nat)(bs:List Int):Nat→Int:=fun j=>if a≤j∧j<a+bs.length then bs.getD (j - a) 0 else mem j
theorem z6V(mem:Nat→Int)(a:Nat)(bs:List Int):eR mem a (bs.take 0)=mem:=by
 funext j
 unfold eR
 rw[if_neg (by simp)]
theorem z9O(mem:Nat→Int)(a:Nat)(bs:List Int):eR mem a (bs.take bs.length)=eR mem a bs:=by rw[List.take_length]
theorem z6U(mem:Nat→Int)(a:Nat)(bs:List Int){i:Nat}{v:Int}(h:bs[i]?=some v):wrM (eR mem a (bs.take i)) (a+i) v=eR mem a (bs.take (i+1)):=by
 have hi:i<bs.length:=by
  rcases Nat.lt_or_ge i bs.length with z|z
  ·exact z
  ·rw[List.getElem?_eq_none z] at h;cases h
 have l1:(bs.take i).length=i:=by rw[List.length_take];omega
 have l2:(bs.take (i+1)).length=i+1:=by rw[List.length_take];omega
 funext j
 unfold wrM eR
 rw[l1,l2]
 have gd:∀ n k,k<n→(bs.take n).getD k 0=bs.getD k 0:=fun n k hk=>by
  rw[List.getD_eq_getElem?_getD,List.getD_eq_getElem?_getD,List.getElem?_take_of_lt hk]
 by_cases e:j=a+i
 ·subst e
  rw[if_pos rfl,if_pos (by omega),show a+i - a=i by omega,gd _ _ (Nat.lt_succ_self i),List.getD_eq_getElem?_getD,h]
  rfl
 ·rw[if_neg e]
  by_cases q:a≤j∧j<a+i
  ·rw[if_pos q,if_pos (by omega),gd _ _ (by omega),gd _ _ (by omega)]
  ·rw[if_neg q,if_neg (by omega)]
section
variable{P:Program}{w:World}{K:PySem.W.Frag}{mg:Str→Option Value}{base:Heap}{t:Tx}
noncomputable def uB(t:Tx):Sp:=fun vs H Q _=>∃(L:Lay) (mem:Nat→Int) (a:Nat) (bs:List Int) (hl:Addr),AtM t L H mem∧vs=[.ref L.mm,.int (a:Int),.ref hl]∧H hl=some (.lst (bs.map V.int))∧¬ hC L hl∧a<2 ^ 32∧a+bs.length≤16777216∧∀ L' H',AtM t L' H' (eR mem a bs)→ExtM L H L' H'→Q .non H'
theorem scPutMany:FnScope ["self","at","handed","place","byte"] ["self","at","handed"] (aL sPutMany):=⟨rfl,rfl,rfl,by decide +kernel,rfl,by decide +kernel,by decide +kernel⟩
theorem z4K{f g:Addr}{fd gd:FuncData}(F:Fun K "put_many" "Memory.put_many" sPutMany f fd)(GM:FnOk P w K mg base CX0 2 g gd ["self","at","byte"] (pF t))(bG:Binds K gd ["self","at","byte"] [])(mG:Meth K t.CM "put" g)(T:MemT K mg t)(hm:mg "enumerate"=none):FnOk P w K mg base CX0 3 f fd ["self","at","handed"] (uB t):=by
 refine F.ok scPutMany (fun vs H Q E h=>?_) (fun cdv A outer s H vs Q E hr h=>?_)
 ·obtain⟨L,mem,a,bs,hl,_,rfl,_⟩:=h
  rfl
 ·obtain⟨L,mem,a,bs,hl,M,rfl,hh,nf,h32,hle,k⟩:=h
  refine⟨_,(aK (iO PassesOwn.never rfl (z9J rfl hm (pv 2) (pv 1)) (y8q rfl (z3B (gJ (i:=3) scPutMany.nd rfl (Or.inl rfl)) (z3B (gJ (i:=4) scPutMany.nd rfl (Or.inl rfl)) y3p)))
   (aK (bV (gI (pv 0) T.cm mG GM hr bG .nil aR (aD (pv 3) (aD (pv 4) pa_nil))))))),?_⟩
  refine⟨_,rfl,_,rfl,hl,_,a,rfl,rfl,h32,SqL.of hh,z6G (K:=K) (a:=hl) (lo:=a) (xs:=bs.map V.int) (fun i σ H'=>∃(L':Lay) (v3 v4:Option V),AtM t L' H' (eR mem a (bs.take i))∧ExtM L H L' H'∧σ=[some (.ref L.mm),some (.int (a:Int)),some (.ref hl),v3,v4])
   ⟨L,none,none,by rw[z6V];exact M,ExtM.refl L H,rfl⟩ (fun i σ H' _ ⟨L',_,_,_,X,_⟩=>SqL.of (X.keep _ _ hh nf)) ?_ ?_⟩
  ·rintro i x σ H1 T1 hx ⟨L1,v3,v4,M1,X1,rfl⟩ hT1
   obtain⟨v,hv,rfl⟩:∃ v,bs[i]?=some v∧x=V.int v:=by
    rw[List.getElem?_map] at hx
    cases e:bs[i]? with
    |none=>rw[e] at hx;cases hx
    |some v=>rw[e] at hx;exact⟨v,rfl,(Option.some.inj hx).symm⟩
   have hi:i<bs.length:=by
    rcases Nat.lt_or_ge i bs.length with z|z
    ·exact z
    ·rw[List.getElem?_eq_none z] at hv;cases hv
   have M2:=M1.same (aY hT1 (o:=HO.tup [.int ((a+i:Nat):Int),.int v]))
   have X2:ExtM L1 H1 L1 _:=ExtM.same (aY hT1 (o:=HO.tup [.int ((a+i:Nat):Int),.int v]))
   have emm:=M2.mm
   rw[X1.mm] at emm
   refine⟨T1,_,rfl,SqT.of aH,rfl,_,_,rfl,_,_,rfl,rfl,?_⟩
   refine⟨_,rfl,L.mm,L1.dm,_,rfl,emm,rfl,_,rfl,_,rfl,L1,_,a+i,v,M2,by rw[X1.mm];rfl,by omega,fun L3 H3 M3 X3=>⟨L3,_,_,?_,X1.trans (X2.trans X3),rfl⟩⟩
   rw[z6U mem a bs hv] at M3
   exact M3
  ·rintro σ H1 ⟨L1,v3,v4,M1,X1,rfl⟩
   rw[List.length_map,z9O] at M1
   exact k L1 H1 M1 X1
end
end EV
end
section
namespace EV
open PySem L2
noncomputable abbrev sRd(j:Nat):Stmt:=inClass (top 213) j
structure RdT(K:PySem.W.Frag)(mg:Str→Option Value)(CR:Addr):Prop where
 cr:Cls K CR
 nc:NoAttr K CR "calls"
 np:NoAttr K CR "place"
 len:mg "len"=none
 rng:mg "range"=none
noncomputable def dM(a:Addr)(i:Nat):List (Str×V):=[("calls",.ref a),("place",.int (i:Int))]
theorem uZ(a:Addr)(i:Nat):(dM a i).lookup ("calls":Str)=some (.ref a):=rfl
theorem lJ(a:Addr)(i:Nat):(dM a i).lookup ("place":Str)=some (.int (i:Int)):=rfl
theorem y0e(a:Addr)(i:Nat)(z:Int)(j:Nat)(h:z=(j:Int)):aZ "place" (V.int z) (dM a i)=dM a j:=by subst h;rfl
noncomputable def Kp(r:Addr)(H H':Hp):Prop:=∀ b o,H b=some o→b≠r→H' b=some o
theorem Kp.trans{r:Addr}{H H1 H2:Hp}(a:Kp r H H1)(b:Kp r H1 H2):Kp r H H2:=fun c o h n=>b c o (a c o h n) n
theorem Kp.upd{r:Addr}{H:Hp}{o:HO}:Kp r H (upd H r o):=fun b o h n=>by rw[aC n];exact h
theorem Kp.new{r p:Addr}{H:Hp}{o:HO}(hp:H p=none):Kp r H (L2.upd H p o):=fun b o h _=>by rw[aC (aJ h hp)];exact h
theorem Kp.seq{K:PySem.W.Frag}{r C dx a:Addr}{H H':Hp}{fs:List (Str×V)}{xs:List V}(k:Kp r H H')(hr:H r=some (.ins C dx fs))(h:SqL K H a xs):SqL K H' a xs:=by
 rcases h with (h|⟨o,h⟩)|h
 ·exact .inl (.inl (k _ _ h (aX h hr (by intro z;cases z))))
 ·exact .inl (.inr ⟨o,k _ _ h (aX h hr (by intro z;cases z))⟩)
 ·exact .inr h
section
variable{P:Program}{w:World}{K:PySem.W.Frag}{mg:Str→Option Value}{base:Heap}{CR:Addr}
noncomputable def z3V(CR:Addr):Sp:=fun vs H Q _=>∃(x dx a:Addr),vs=[.ref x,.ref a]∧H x=some (.ins CR dx [])∧∀ H',H' x=some (.ins CR dx (dM a 0))→Kp x H H'→Q .non H'
theorem scR0:FnScope ["self","calls"] ["self","calls"] (aL (sRd 0)):=⟨rfl,rfl,rfl,by decide +kernel,rfl,by decide +kernel,by decide +kernel⟩
theorem z6P{f:Addr}{fd:FuncData}(F:Fun K "__init__" "Reader.__init__" (sRd 0) f fd)(T:RdT K mg CR):FnOk P w K mg base CX0 1 f fd ["self","calls"] (z3V CR):=by
 refine F.ok scR0 (fun vs H Q E h=>?_) (fun cdv A outer s H vs Q E hr h=>?_)
 ·obtain⟨x,dx,a,rfl,_⟩:=h
  rfl
 ·obtain⟨x,dx,a,rfl,hx,k⟩:=h
  refine⟨_,aF (bD (pv 0) (pv 1) rfl) (aK (bD (pv 0) pe_int rfl)),?_⟩
  refine⟨_,rfl,_,rfl,x,CR,dx,_,rfl,hx,T.cr,T.nc,by show 0<1000;decide,?_⟩
  refine⟨_,rfl,x,CR,dx,_,rfl,aH,T.cr,T.np,by show 1<1000;decide,?_⟩
  exact k _ aH (Kp.upd.trans Kp.upd)
noncomputable def y6L(K:PySem.W.Frag)(CR:Addr):Sp:=fun vs H Q _=>∃(r dr a:Addr) (i:Nat) (xs:List V),vs=[.ref r]∧H r=some (.ins CR dr (dM a i))∧SqL K H a xs∧Q (.bl (decide ((i:Int)<(xs.length:Int)))) H
theorem scR1:FnScope ["self"] ["self"] (aL (sRd 1)):=⟨rfl,rfl,rfl,by decide +kernel,rfl,by decide +kernel,by decide +kernel⟩
theorem y8d{f:Addr}{fd:FuncData}(F:Fun K "has_more" "Reader.has_more" (sRd 1) f fd)(T:RdT K mg CR):FnOk P w K mg base CX0 1 f fd ["self"] (y6L K CR):=by
 refine F.ok scR1 (fun vs H Q E h=>?_) (fun cdv A outer s H vs Q E hr h=>?_)
 ·obtain⟨r,dr,a,i,xs,rfl,_⟩:=h
  rfl
 ·obtain⟨r,dr,a,i,xs,rfl,hx,hs,k⟩:=h
  refine⟨_,(aK (aS (lP pY (aQ (pv 0) rfl) (z3z z0y (by rfl) T.len PySem.boot_len (aD (aQ (pv 0) rfl) pa_nil)) (cA _)))),?_⟩
  exact⟨_,rfl,r,CR,dr,_,_,rfl,hx,T.cr,T.np,lJ a i,_,rfl,r,CR,dr,_,_,rfl,hx,T.cr,T.nc,uZ a i,a,xs,rfl,.inl hs,_,_,rfl,rfl,k⟩
noncomputable def pG(K:PySem.W.Frag)(CR:Addr):Sp:=fun vs H Q _=>∃(r dr a:Addr) (i:Nat) (xs:List V) (z:Int),vs=[.ref r]∧H r=some (.ins CR dr (dM a i))∧SqL K H a xs∧xs[i]?=some (.int z)∧∀ H',H' r=some (.ins CR dr (dM a (i+1)))→Kp r H H'→(∀ b,H b=none→H' b=none)→Q (.int z) H'
theorem scR2:FnScope ["self","number"] ["self"] (aL (sRd 2)):=⟨rfl,rfl,rfl,by decide +kernel,rfl,by decide +kernel,by decide +kernel⟩
theorem wD{f:Addr}{fd:FuncData}(F:Fun K "take_number" "Reader.take_number" (sRd 2) f fd)(T:RdT K mg CR):FnOk P w K mg base CX0 1 f fd ["self"] (pG K CR):=by
 refine F.ok scR2 (fun vs H Q E h=>?_) (fun cdv A outer s H vs Q E hr h=>?_)
 ·obtain⟨r,dr,a,i,xs,z,rfl,_⟩:=h
  rfl
 ·obtain⟨r,dr,a,i,xs,z,rfl,hx,hs,hz,k⟩:=h
  refine⟨_,(aF (aW (i:=1) scR2.nd rfl (Or.inl rfl) (cE ix_list (aQ (pv 0) rfl) (aQ (pv 0) rfl) (fun _ _=>rfl))) (aF (z6S (pv 0) pe_int y7G) (aK (aS (pv 1))))),?_⟩
  refine⟨_,rfl,r,CR,dr,_,_,rfl,hx,T.cr,T.nc,uZ a i,_,rfl,r,CR,dr,_,_,rfl,hx,T.cr,T.np,lJ a i,a,xs,(i:Int),_,rfl,rfl,hs,bF (j:=i) rfl hz,?_⟩
  refine⟨_,rfl,r,CR,dr,_,_,rfl,hx,T.cr,T.np,lJ a i,_,_,rfl,rfl,dr,_,hx,by show 2<1000;decide,?_⟩
  refine⟨_,rfl,k _ ?_ Kp.upd (fun b hb=>?_)⟩
  ·rw[aH,y0e a i _ (i+1) (by omega)]
  ·rw[aC (fun z=>by rw[z,hx] at hb;cases hb)];exact hb
noncomputable def wJ(K:PySem.W.Frag)(CR:Addr):Sp:=fun vs H Q _=>∃(r dr a:Addr) (i n:Nat) (xs:List V),vs=[.ref r]∧H r=some (.ins CR dr (dM a i))∧SqL K H a xs∧xs[i]?=some (.int (n:Int))∧i+1+n≤xs.length∧∀ p H',H p=none→H' r=some (.ins CR dr (dM a (i+1+n)))→Kp r H H'→H' p=some (.lst ((xs.drop (i+1)).take n))→(∀ b,H b=none→b≠p→H' b=none)→Q (.ref p) H'
theorem scR3:FnScope ["self","many","first"] ["self"] (aL (sRd 3)):=⟨rfl,rfl,rfl,by decide +kernel,rfl,by decide +kernel,by decide +kernel⟩
theorem z3w{f g:Addr}{fd gd:FuncData}(F:Fun K "take_numbers" "Reader.take_numbers" (sRd 3) f fd)(G:Fun K "take_number" "Reader.take_number" (sRd 2) g gd)(bG:Binds K gd ["self"] [])(mG:Meth K CR "take_number" g)(T:RdT K mg CR):FnOk P w K mg base CX0 2 f fd ["self"] (wJ K CR):=by
 have GM:FnOk P w K mg base CX0 1 g gd ["self"] (pG K CR):=wD G T
 refine F.ok scR3 (fun vs H Q E h=>?_) (fun cdv A outer s H vs Q E hr h=>?_)
 ·obtain⟨r,dr,a,i,n,xs,rfl,_⟩:=h
  rfl
 ·obtain⟨r,dr,a,i,n,xs,rfl,hx,hs,hz,hle,k⟩:=h
  refine⟨_,(aF (aW (i:=1) scR3.nd rfl (Or.inl rfl) (iG (pv 0) T.cr mG GM hr bG .nil aR)) (aF (aW (i:=2) scR3.nd rfl (Or.inl rfl) (aQ (pv 0) rfl)) (aF (bD (pv 0) (aT fK (pv 2) (pv 1)) rfl)
   (aK (aS (z9F y3S (aQ (pv 0) rfl) (z6h (pv 2)) (z6h (aQ (pv 0) rfl)))))))),?_⟩
  refine⟨_,rfl,r,dr,_,rfl,hx,rfl,r,dr,a,i,xs,(n:Int),rfl,hx,hs,hz,fun H1 h1 k1 f1=>?_⟩
  refine⟨_,rfl,r,CR,dr,_,_,rfl,h1,T.cr,T.np,lJ a (i+1),?_⟩
  refine⟨_,rfl,_,rfl,_,_,rfl,rfl,_,rfl,r,CR,dr,_,rfl,h1,T.cr,T.np,by show 2<1000;decide,?_⟩
  dsimp only
  rw[y0e a (i+1) (((i+1:Nat):Int)+(n:Int)) (i+1+n) (by omega)]
  have k2:=k1.trans (Kp.upd (o:=.ins CR dr (dM a (i+1+n))))
  have hs2:=k2.seq hx hs
  refine⟨_,rfl,r,CR,dr,_,_,rfl,aH,T.cr,T.nc,uZ a _,_,rfl,_,rfl,_,rfl,r,CR,dr,_,_,rfl,aH,T.cr,T.np,lJ a _,_,rfl,a,xs,rfl,hs2,fun p hp=>?_⟩
  have hrp:r≠p:=aJ aH hp
  have hp0:H p=none:=by
   cases e:H p with
   |none=>rfl
   |some o=>
    by_cases q:p=r
    ·exact absurd q.symm hrp
    ·rw[k2 p o e q] at hp;cases hp
  refine k p _ hp0 ?_ (k2.trans (Kp.new hp)) ?_ (fun b hb nb=>?_)
  ·rw[aC hrp,aH]
  ·rw[aH]
   have ec:kU xs (some ((i+1:Nat):Int)) (some ((i+1+n:Nat):Int))=(xs.drop (i+1)).take n:=by
    unfold kU
    rw[HT.sIx_nat,HT.sIx_nat,Nat.min_eq_left (by omega),Nat.min_eq_left (by omega),show i+1+n - (i+1)=n by omega]
   rw[ec]
  ·rw[aC nb,aC (fun z=>by rw[z,hx] at hb;cases hb)]
   exact f1 b hb
theorem z7g{q:Nat}{l:List Int}{it:Nat}{R:List (List Int)}{u:List Int}(h:PyFlat.rows (q+1) (l.drop it)=some (R,u)):∃(n:Nat) (R':List (List Int)),l[it]?=some (n:Int)∧it+1+n≤l.length∧R=(l.drop (it+1)).take n::R'∧PyFlat.rows q (l.drop (it+1+n))=some (R',u):=by
 unfold PyFlat.rows at h
 cases e:PyFlat.row (l.drop it) with
 |none=>rw[e] at h;cases h
 |some z=>
  obtain⟨x,s⟩:=z
  obtain⟨n,h1,rfl,rfl,h4,_⟩:=_root_.Q.row_at e
  rw[e] at h
  dsimp only at h
  cases e2:PyFlat.rows q (l.drop (it+1+n)) with
  |none=>rw[e2] at h;cases h
  |some z2=>
   obtain⟨xs,u'⟩:=z2
   rw[e2] at h
   obtain⟨rfl,rfl⟩:=Prod.mk.inj (Option.some.inj h)
   exact⟨n,xs,h1,h4,rfl,e2⟩
noncomputable def z6n(K:PySem.W.Frag)(CR:Addr):Sp:=fun vs H Q _=>∃(r dr a:Addr) (i j:Nat) (l:List Int) (rows:List (List Int)),vs=[.ref r]∧H r=some (.ins CR dr (dM a i))∧SqL K H a (l.map V.int)∧l.length≤sizeLine∧l[i]?=some (rows.length:Int)∧rows.length≤1000∧i+1≤l.length∧PyFlat.rows rows.length (l.drop (i+1))=some (rows,l.drop j)∧j≤l.length ∧
 ∀ p ps H',H p=none→H' r=some (.ins CR dr (dM a j))→Kp r H H'→H' p=some (.lst (ps.map V.ref))→Paired (fun b row=>H' b=some (.lst (row.map V.int))∧H b=none) ps rows→Q (.ref p) H'
theorem scR4:FnScope ["self","lists","which"] ["self"] (aL (sRd 4)):=⟨rfl,rfl,rfl,by decide +kernel,rfl,by decide +kernel,by decide +kernel⟩
theorem z9s {f g g2:Addr}{fd gd gd2:FuncData} (F:Fun K "take_lists" "Reader.take_lists" (sRd 4) f fd) (G:Fun K "take_number" "Reader.take_number" (sRd 2) g gd) (bG:Binds K gd ["self"] []) (mG:Meth K CR "take_number" g)
  (G2:Fun K "take_numbers" "Reader.take_numbers" (sRd 3) g2 gd2) (bG2:Binds K gd2 ["self"] []) (mG2:Meth K CR "take_numbers" g2) (T:RdT K mg CR):FnOk P w K mg base CX0 3 f fd ["self"] (z6n K CR):=by
 have GM:FnOk P w K mg base CX0 1 g gd ["self"] (pG K CR):=wD G T
 have GM2:FnOk P w K mg base CX0 2 g2 gd2 ["self"] (wJ K CR):=z3w G2 G bG mG T
 refine F.ok scR4 (fun vs H Q E h=>?_) (fun cdv A outer s H vs Q E hr h=>?_)
 ·obtain⟨r,dr,a,i,j,l,rows,rfl,_⟩:=h
  rfl
 ·obtain⟨r,dr,a,i,j,l,rows,rfl,hx,hs,hll,hz,h62,hi1,hrw,hj,k⟩:=h
  have hr1:Room 1 _:=hr.mono (by decide)
  refine⟨_,(aF (aW (i:=1) scR4.nd rfl (Or.inl rfl) (cF pa_nil)) (aF (iO PassesOwn.never rfl (z2t rfl T.rng (aD (iG (pv 0) T.cr mG GM hr1 bG .nil aR) pa_nil)) (gJ (i:=2) scR4.nd rfl (Or.inl rfl))
   (aK (bV (dU PySem.F.plainAttrs_list PySem.F.slot_list_append PySem.F.type_list_append kE (pv 1) (aD (iG (pv 0) T.cr mG2 GM2 hr bG2 .nil aR) pa_nil)))))
   (aK (aS (pv 1))))),?_⟩
  refine⟨by show 0≤sizeLine;decide,fun D hD=>?_⟩
  have nD:r≠D:=aJ hx hD
  have hx0:upd H D (.lst []) r=some (.ins CR dr (dM a i)):=by rw[aC nD];exact hx
  have k0:Kp r H (upd H D (.lst [])):=Kp.new hD
  have hz':(l.map V.int)[i]?=some (.int (rows.length:Int)):=by rw[List.getElem?_map,hz];rfl
  refine⟨_,rfl,r,dr,_,rfl,hx0,rfl,r,dr,a,i,_,(rows.length:Int),rfl,hx0,k0.seq hx hs,hz',fun H1 h1 k1 f1=>?_⟩
  have k01:=k0.trans k1
  have hD1:H1 D=some (.lst []):=k1 D _ aH (Ne.symm nD)
  refine⟨(rows.length:Int),rfl,by omega,by omega,?_⟩
  rw[Int.toNat_natCast]
  refine z2q (lo:=0) (n:=rows.length) (fun t σ H'=>∃(ps:List Addr) (it:Nat) (v:Option V),σ=[some (.ref r),some (.ref D),v]∧H' r=some (.ins CR dr (dM a it))∧Kp r H H'∧H' D=some (.lst (ps.map V.ref))∧t≤rows.length∧it≤l.length∧PyFlat.rows (rows.length - t) (l.drop it)=some (rows.drop t,l.drop j) ∧
   Paired (fun b row=>(H' b=some (.lst (row.map V.int))∧b≠D)∧H b=none) ps (rows.take t))
   ⟨[],i+1,none,rfl,h1,k01,hD1,Nat.zero_le _,hi1,hrw,by rw[List.take_zero];exact .nil⟩ ?_ ?_
  ·rintro t σ H2 ht ⟨ps,it,v,rfl,h2,k2,hD2,_,hit,hrw2,hp2⟩
   obtain⟨q,eq⟩:∃ q,rows.length - t=q+1:=⟨rows.length - t - 1,by omega⟩
   rw[eq] at hrw2
   obtain⟨n,R',g1,g2,g3,g4⟩:=z7g hrw2
   have hz2:(l.map V.int)[it]?=some (.int (n:Int)):=by rw[List.getElem?_map,g1];rfl
   have hpl:ps.length=t:=by
    have:=Paired.len hp2
    rw[List.length_take] at this
    omega
   have hrow:rows[t]?=some ((l.drop (it+1)).take n):=by
    have:=List.head?_drop (l:=rows) (i:=t)
    rw[g3] at this
    exact this.symm
   have hR:rows.drop (t+1)=R':=by
    have:=List.tail_drop (l:=rows) (i:=t)
    rw[g3] at this
    exact this.symm
   refine⟨_,rfl,.inl ⟨rfl,_,SqL.of hD2⟩,_,rfl,r,dr,_,rfl,h2,rfl,r,dr,a,it,n,_,rfl,h2,k2.seq hx hs,hz2,by rw[List.length_map];exact g2,fun p H3 hp h3 k3 hp3 f3=>⟨D,_,_,rfl,rfl,k3 D _ hD2 (Ne.symm nD),?_,?_⟩⟩
   ·rw[List.length_map,hpl];exact z7l (by omega)
   ·have npD:p≠D:=fun z=>by rw[z,hD2] at hp;cases hp
    have npr:p≠r:=fun z=>by rw[z,h2] at hp;cases hp
    have hpH:H p=none:=by
     cases e:H p with
     |none=>rfl
     |some o=>rw[k2 p o e npr] at hp;cases hp
    have up:∀ b o,H3 b=some o→b≠D→upd H3 D (.lst (ps.map V.ref++[.ref p])) b=some o:=fun b o h n=>by rw[aC n];exact h
    refine⟨ps++[p],it+1+n,_,rfl,up _ _ h3 nD,fun b o hb nb=>up _ _ ((k2.trans k3) b o hb nb) (fun z=>by rw[z,hD] at hb;cases hb),by rw[aH,List.map_append];rfl,ht,g2,?_,?_⟩
    ·rw[show rows.length - (t+1)=q by omega,hR];exact g4
    ·have et:rows.take (t+1)=rows.take t++[(l.drop (it+1)).take n]:=by rw[List.take_add_one,hrow];rfl
     rw[et]
     refine Paired.snoc (Paired.mapP hp2 fun b row z=>⟨⟨up _ _ (k3 b _ z.1.1 (fun e=>by rw[e,hx] at z;exact absurd z.2 (by simp))) z.1.2,z.1.2⟩,z.2⟩) ⟨⟨up _ _ ?_ npD,npD⟩,hpH⟩
     rw[hp3,List.map_take,List.map_drop]
  ·rintro σ H2 ⟨ps,it,v,rfl,h2,k2,hD2,_,hit,hrw2,hp2⟩
   rw[Nat.sub_self] at hrw2
   rw[List.take_length] at hp2
   have ej:l.drop it=l.drop j:=(Prod.mk.inj (Option.some.inj hrw2)).2
   have:it=j:=by
    have:=congrArg List.length ej
    rw[List.length_drop,List.length_drop] at this
    omega
   subst this
   exact⟨_,rfl,k D ps H2 hD h2 k2 hD2 (Paired.mapP hp2 fun _ _ z=>⟨z.1.1,z.2⟩)⟩
end
end EV
end
section
namespace Q
open Ql49
noncomputable def wy(n i:Bool)(c:Nat)(m:St):St:={ m with nmi:=n,irq:=i,why:=c }
section
variable(n i:Bool)(c:Nat)(m:St)
theorem kP:(wy n i c m).tidy=wy n i c m.tidy:=by
 obtain⟨a,x,y,d,s,pc,pb,db,fn,fv,fm,fx,fd,fi,fz,fc,emu,waits,stopped,nmi,irq,mem,why⟩:=m
 cases emu <;> cases fx <;> rfl
theorem y0L(p:Nat):(wy n i c m).flags p=wy n i c (m.flags p):=kP n i c { m with fn:=p.testBit 7,fv:=p.testBit 6,fm:=p.testBit 5,fx:=p.testBit 4,fd:=p.testBit 3,fi:=p.testBit 2,fz:=p.testBit 1,fc:=p.testBit 0 }
theorem x7C(a v:Nat):(wy n i c m).wr a v=wy n i c (m.wr a v):=rfl
theorem y0N(b:Bool)(p:Place)(v:Nat):(wy n i c m).set b p v=wy n i c (m.set b p v):=by
 cases b <;> rfl
theorem z6r(k:Nat):(wy n i c m).skip k=wy n i c (m.skip k):=rfl
theorem kO(v:Nat):(wy n i c m).push v=wy n i c (m.push v):=kP n i c { m.wr (m.s % W) v with s:=(m.s+65535) % W }
theorem vD(v:Nat):(wy n i c m).push2 v=wy n i c (m.push2 v):=by
 unfold St.push2;rw[kO,kO]
theorem x7A(a:Nat):(wy n i c m).rd a=m.rd a:=rfl
theorem oT:(wy n i c m).pull=(m.pull.1,wy n i c m.pull.2):=by
 have e:({ wy n i c m with s:=((wy n i c m).s+1) % W }:St)=wy n i c { m with s:=(m.s+1) % W }:=rfl
 unfold St.pull
 rw[e,kP]
 rfl
theorem z4l:(wy n i c m).pull2=(m.pull2.1,wy n i c m.pull2.2):=by
 unfold St.pull2
 rw[oT]
 dsimp only
 rw[oT]
theorem x7z(b:Bool)(v:Nat):(wy n i c m).nz b v=wy n i c (m.nz b v):=rfl
theorem y8P(b:Bool)(v:Nat):(wy n i c m).adc b v=wy n i c (m.adc b v):=rfl
theorem y9h(b:Bool)(v:Nat):(wy n i c m).sbc b v=wy n i c (m.sbc b v):=rfl
theorem y8Q(b:Bool)(r v:Nat):(wy n i c m).cmp b r v=wy n i c (m.cmp b r v):=rfl
theorem vC(w:String):(wy n i c m).place w=m.place w:=rfl
theorem y0M(b:Bool)(p:Place):(wy n i c m).get b p=m.get b p:=rfl
theorem z7E(b:Bool)(w:String):(wy n i c m).number b w=((m.number b w).1,wy n i c (m.number b w).2):=by
 unfold St.number
 rw[vC]
 split
 ·split <;> rfl
 ·split <;> rfl
theorem z7D(w:String)(f g:St→Bool→Nat→St×Nat)(h':∀ m b v,f (wy n i c m) b v=(wy n i c (g m b v).1,(g m b v).2)):(wy n i c m).change w f=wy n i c (m.change w g):=by
 unfold St.change
 rw[vC]
 dsimp only
 split
 ·rw[z6r,h',y0M]
  exact y0N n i c _ _ _ _
 ·rw[h'];rfl
theorem z7C(b:Bool):(wy n i c m).branch b=wy n i c (m.branch b):=by
 cases b <;> rfl
theorem y9b(v:Nat):(wy n i c m).ldx v=wy n i c (m.ldx v):=rfl
theorem y9c(v:Nat):(wy n i c m).ldy v=wy n i c (m.ldy v):=rfl
theorem y9a(v:Nat):(wy n i c m).lda v=wy n i c (m.lda v):=rfl
theorem z4m(b:Bool):(wy n i c m).pullWide b=((m.pullWide b).1,wy n i c (m.pullWide b).2):=by
 cases b
 ·exact oT n i c m
 ·exact z4l n i c m
theorem z4n(b:Bool)(v:Nat):(wy n i c m).pushWide b v=wy n i c (m.pushWide b v):=by
 cases b
 ·exact kO n i c m v
 ·exact vD n i c m v
theorem rY(a b:Nat)(s:Bool):(wy n i c m).interrupt a b s=wy n i c (m.interrupt a b s):=by
 unfold St.interrupt
 have e1:(if (wy n i c m).emu=true then wy n i c m else (wy n i c m).push (wy n i c m).pb)=wy n i c (if m.emu=true then m else m.push m.pb):=by
  show (if m.emu=true then wy n i c m else (wy n i c m).push m.pb)=_
  split
  ·rfl
  ·exact kO n i c m _
 rw[e1]
 show ({ ((wy n i c (if m.emu=true then m else m.push m.pb)).push2 m.pc).push (if m.emu=true then (if s=true then m.p else m.p - 16) else m.p) with fi:=true,fd:=false,pb:=0,pc:=(((wy n i c (if m.emu=true then m else m.push m.pb)).push2 m.pc).push (if m.emu=true then (if s=true then m.p else m.p - 16) else m.p)).rd2 (zero (if m.emu=true then b else a)) }:St)=_
 rw[vD,kO]
 rfl
theorem x7x:(wy n i c m).a=m.a:=rfl
theorem x7D:(wy n i c m).x=m.x:=rfl
theorem x7E:(wy n i c m).y=m.y:=rfl
theorem x7y:(wy n i c m).d=m.d:=rfl
theorem x7B:(wy n i c m).s=m.s:=rfl
theorem y9e:(wy n i c m).pc=m.pc:=rfl
theorem y9d:(wy n i c m).pb=m.pb:=rfl
theorem y8R:(wy n i c m).db=m.db:=rfl
theorem y8W:(wy n i c m).fn=m.fn:=rfl
theorem y8X:(wy n i c m).fv=m.fv:=rfl
theorem y8V:(wy n i c m).fm=m.fm:=rfl
theorem y8Y:(wy n i c m).fx=m.fx:=rfl
theorem y8T:(wy n i c m).fd=m.fd:=rfl
theorem y8U:(wy n i c m).fi=m.fi:=rfl
theorem y8Z:(wy n i c m).fz=m.fz:=rfl
theorem y8S:(wy n i c m).fc=m.fc:=rfl
theorem y4p:(wy n i c m).emu=m.emu:=rfl
theorem z7F:(wy n i c m).waits=m.waits:=rfl
theorem z4o:(wy n i c m).stopped=m.stopped:=rfl
theorem y4q:(wy n i c m).mem=m.mem:=rfl
theorem y4o(k:Nat):(wy n i c m).code k=m.code k:=rfl
theorem y0J:(wy n i c m).code2=m.code2:=rfl
theorem y0K:(wy n i c m).code3=m.code3:=rfl
theorem y9f(p:Place):(wy n i c m).rd2 p=m.rd2 p:=rfl
theorem y9g(p:Place):(wy n i c m).rd3 p=m.rd3 p:=rfl
theorem wy_p:(wy n i c m).p=m.p:=rfl
theorem dW{n i:Bool}{c:Nat}{f s:String}{x y:St}{e e':¬ f=s→St}(h1:x=wy n i c y)(h2:∀ h,e h=wy n i c (e' h)):dite (f=s) (fun h=>@Eq.ndrec String s (fun _=>St) x f (Eq.symm h)) e=wy n i c (dite (f=s) (fun h=>@Eq.ndrec String s (fun _=>St) y f (Eq.symm h)) e'):=
 dS2 (R:=fun a b=>a=wy n i c b) h1 h2
local macro_rules|`(tactic|trivial)=>do
 let s:=("x7x x7D x7E x7y x7B y9e y9d y8R y8W y8X y8V y8Y y8T y8U y8Z y8S y4p z7F z4o y4q y4o y0J y0K x7A y9f y9g wy_p vC y0M y0L x7C y0N z6r kO vD oT z4l x7z y8P y9h y8Q z7E z7C y9b y9c y9a z4m z4n rY".splitOn " ").toArray.map fun s=>Lean.mkIdent s.toName
 `(tactic|((try simp only[$[$s:ident],*]);(first|done|with_reducible rfl|(split <;> rfl)|rfl)))
theorem y0I(f w:String):(wy n i c m).act f w=wy n i c (m.act f w):=by
 unfold St.act
 delta St.act.match_1
 dsimp only
 iterate 16 (refine dW (by trivial) fun _=>?_)
 iterate 8 (refine dW (z7D n i c m w _ _ fun m b v=>rfl) fun _=>?_)
 iterate 11 (refine dW (by trivial) fun _=>?_)
 refine dW (kP n i c { m with s:=m.x }) fun _=>?_
 refine dW (kP n i c { m with s:=m.a }) fun _=>?_
 iterate 4 (refine dW (by trivial) fun _=>?_)
 refine dW (kP n i c { m with fc:=m.emu,emu:=m.fc }) fun _=>?_
 iterate 49 (refine dW (by trivial) fun _=>?_)
 rfl
end
end Q
end
section
namespace Q
open Ql49
noncomputable def firstOf(m:St):Nat:=m.rd (m.pb * W+m.pc)
noncomputable def iY(k:Nat):String×String:=ops.getD k ("NOP","")
noncomputable def act1(m:St):St:=(m.skip 1).act (iY (firstOf m)).1 (iY (firstOf m)).2
theorem y4r(m:St):wy m.nmi m.irq m.why m=m:=rfl
theorem sP(m:St):(act1 m).nmi=m.nmi∧(act1 m).irq=m.irq∧(act1 m).why=m.why:=by
 have h:=y0I m.nmi m.irq m.why (m.skip 1) (iY (firstOf m)).1 (iY (firstOf m)).2
 have h2:wy m.nmi m.irq m.why (m.skip 1)=m.skip 1:=rfl
 rw[h2] at h
 unfold act1
 rw[h]
 exact⟨rfl,rfl,rfl⟩
theorem y4n(n i:Bool)(c:Nat)(m:St):act1 (wy n i c m)=wy n i c (act1 m):=y0I n i c (m.skip 1) _ _
theorem ok_act1{m:St}(h:Ok m):Ok (act1 m):=z9q (ok_skip h 1) _ _
theorem firstOf_lt{m:St}(h:Ok m):firstOf m<256:=iX h.mem _
noncomputable def pl:Nat→St→St×Nat
 |0,m=>(m,0)
 |k+1,m=>if (act1 m).waits=true∨(act1 m).stopped=true then (act1 m,1) else ((pl k (act1 m)).1,(pl k (act1 m)).2+1)
theorem pl_le:∀(k:Nat) (m:St),(pl k m).2≤k∧(0<k→0<(pl k m).2)
 |0,_=>⟨Nat.le_refl _,fun h=>h⟩
 |k+1,m=>by
  have ih:=(pl_le k (act1 m)).1
  unfold pl
  split
  ·exact⟨by show 1≤k+1;omega,fun _=>by show 0<1;decide⟩
  ·exact⟨by show _+1≤k+1;omega,fun _=>Nat.succ_pos _⟩
theorem pl_ok:∀(k:Nat) {m:St},Ok m→Ok (pl k m).1∧(pl k m).1.nmi=m.nmi∧(pl k m).1.irq=m.irq∧(pl k m).1.why=m.why
 |0,_,h=>⟨h,rfl,rfl,rfl⟩
 |k+1,m,h=>by
  obtain⟨e1,e2,e3⟩:=sP m
  have ih:=pl_ok k (ok_act1 h)
  unfold pl
  split
  ·exact⟨ok_act1 h,e1,e2,e3⟩
  ·exact⟨ih.1,ih.2.1.trans e1,ih.2.2.1.trans e2,ih.2.2.2.trans e3⟩
theorem z4W{m:St}(h1:m.stopped=false)(h2:m.waits=false)(h3:m.nmi=false)(h4:m.irq=false∨m.fi=true):m.step=.ok (act1 m):=by
 unfold St.step
 have e:({ m with waits:=false }:St)=m:=by rw[←h2]
 rw[if_neg (by rw[h1];decide),if_neg (by rw[h3];decide),if_neg (by rcases h4 with z|z <;> simp[z]),if_neg (by rw[h2];simp)]
 dsimp only
 rw[e]
 rfl
theorem steps_pl:∀(k:Nat) {m:St},m.stopped=false→m.waits=false→m.nmi=false→m.irq=false →
  steps k m=((steps (k - (pl k m).2) (pl k m).1).1,(steps (k - (pl k m).2) (pl k m).1).2+(pl k m).2)
 |0,_,_,_,_,_=>rfl
 |k+1,m,h1,h2,h3,h4=>by
  obtain⟨e1,e2,e3⟩:=sP m
  have hs:=z4W h1 h2 h3 (.inl h4)
  have u:steps (k+1) m=((steps k (act1 m)).1,(steps k (act1 m)).2+1):=by
   show (match m.step with|.ok t=>_|.error e=>_)=_
   rw[hs]
  rw[u]
  unfold pl
  split
  ·rename_i w
   show _=((steps (k+1 - 1) (act1 m)).1,(steps (k+1 - 1) (act1 m)).2+1)
   rfl
  ·rename_i w
   have w1:(act1 m).waits=false:=by cases e:(act1 m).waits <;> simp_all
   have w2:(act1 m).stopped=false:=by cases e:(act1 m).stopped <;> simp_all
   have ih:=steps_pl k w2 w1 (e1.trans h3) (e2.trans h4)
   have ea:k+1 - ((pl k (act1 m)).2+1)=k - (pl k (act1 m)).2:=by omega
   show _=((steps (k+1 - ((pl k (act1 m)).2+1)) (pl k (act1 m)).1).1,(steps (k+1 - ((pl k (act1 m)).2+1)) (pl k (act1 m)).1).2+((pl k (act1 m)).2+1))
   rw[ea,ih]
   dsimp only
   rw[Nat.add_assoc]
noncomputable def spa:List Nat:=[16,48,76,80,108,112,124,128,130,144,176,208,240]
theorem y8C(m:St){k:Nat}(h:k∈spa):(m.skip 1).act (iY k).1 (iY k).2={ m with pc:=((m.skip 1).act (iY k).1 (iY k).2).pc }:=by
 have br:∀ b,(m.skip 1).branch b={ m with pc:=((m.skip 1).branch b).pc }:=fun b=>by cases b <;> rfl
 unfold spa at h
 simp only[List.mem_cons,List.not_mem_nil,or_false] at h
 rcases h with rfl|rfl|rfl|rfl|rfl|rfl|rfl|rfl|rfl|rfl|rfl|rfl|rfl
 ·exact br _
 ·exact br _
 ·rfl
 ·exact br _
 ·rfl
 ·exact br _
 ·rfl
 ·exact br true
 ·rfl
 ·exact br _
 ·exact br _
 ·exact br _
 ·exact br _
theorem spa_self{m:St}(h:firstOf m∈spa)(e:(act1 m).pc=m.pc):act1 m=m:=by
 have h1:act1 m={ m with pc:=(act1 m).pc }:=y8C m h
 rw[h1,e]
theorem pl_self{m:St}(e:act1 m=m)(h1:m.waits=false)(h2:m.stopped=false):∀ k,pl k m=(m,k)
 |0=>rfl
 |k+1=>by
  unfold pl
  rw[e,if_neg (by rw[h1,h2];simp),pl_self e h1 h2 k]
end Q
end
section
namespace Q
open Ql49
theorem z0G(c:Nat)(m:St)(a b:Nat)(s:Bool):({ m with why:=c }:St).interrupt a b s={ m.interrupt a b s with why:=c }∧(m.interrupt a b s).why=m.why:=by
 have h:=rY m.nmi m.irq c m a b s
 have h0:=rY m.nmi m.irq m.why m a b s
 rw[y4r] at h0
 have e1:(m.interrupt a b s).nmi=m.nmi:=by rw[h0];rfl
 have e2:(m.interrupt a b s).irq=m.irq:=by rw[h0];rfl
 have e3:(m.interrupt a b s).why=m.why:=by rw[h0];rfl
 refine⟨?_,e3⟩
 have e:({ m with why:=c }:St)=wy m.nmi m.irq c m:=rfl
 rw[e,h]
 unfold wy
 rw[←e1,←e2]
theorem y4s(c:Nat)(m:St):act1 { m with why:=c }={ act1 m with why:=c }:=by
 have h:=y4n m.nmi m.irq c m
 obtain⟨e1,e2,_⟩:=sP m
 have e:({ m with why:=c }:St)=wy m.nmi m.irq c m:=rfl
 rw[e,h]
 unfold wy
 rw[←e1,←e2]
noncomputable def wzE(c:Nat):Except Nat St→Except Nat St
 |.ok t=>.ok { t with why:=c }
 |.error e=>.error e
theorem iL(m:St):m.step=if m.stopped=true then .error 2
 else if m.nmi=true then .ok (({ m with nmi:=false,waits:=false }:St).interrupt 0xFFEA 0xFFFA false)
 else if m.irq=true∧m.fi=false then .ok (({ m with waits:=false }:St).interrupt 0xFFEE 0xFFFE false)
 else if m.waits=true∧m.irq=false then .error 1
 else .ok (act1 { m with waits:=false }):=rfl
theorem z6s(c:Nat)(m:St):({ m with why:=c }:St).step=wzE c m.step:=by
 rw[iL,iL m]
 show (if m.stopped=true then _ else if m.nmi=true then _ else if m.irq=true∧m.fi=false then _ else if m.waits=true∧m.irq=false then _ else _)=_
 by_cases h1:m.stopped=true
 ·rw[if_pos h1,if_pos h1];rfl
 ·rw[if_neg h1,if_neg h1]
  by_cases h2:m.nmi=true
  ·rw[if_pos h2,if_pos h2]
   exact congrArg Except.ok (z0G c { m with nmi:=false,waits:=false } _ _ _).1
  ·rw[if_neg h2,if_neg h2]
   by_cases h3:m.irq=true∧m.fi=false
   ·rw[if_pos h3,if_pos h3]
    exact congrArg Except.ok (z0G c { m with waits:=false } _ _ _).1
   ·rw[if_neg h3,if_neg h3]
    by_cases h4:m.waits=true∧m.irq=false
    ·rw[if_pos h4,if_pos h4];rfl
    ·rw[if_neg h4,if_neg h4]
     exact congrArg Except.ok (y4s c { m with waits:=false })
theorem z7p{m t:St}(h:m.step=.ok t):t.why=m.why:=by
 have e:=z6s m.why m
 have e0:({ m with why:=m.why }:St)=m:=rfl
 rw[e0,h] at e
 have:t={ t with why:=m.why }:=Except.ok.inj e
 rw[this]
theorem y0r{m:St}{e:Nat}(h:m.step=.error e):e≠0:=by
 rw[iL] at h
 split at h
 ·cases h;decide
 ·split at h
  ·cases h
  ·split at h
   ·cases h
   ·split at h
    ·cases h;decide
    ·cases h
theorem steps_wz(c:Nat):∀(k:Nat) (m:St),steps k { m with why:=c }=steps k m
 |0,_=>rfl
 |k+1,m=>by
  show (match ({ m with why:=c }:St).step with|.ok t=>_|.error e=>_)=(match m.step with|.ok t=>_|.error e=>_)
  rw[z6s]
  cases m.step with
  |error e=>rfl
  |ok t=>
   show ((steps k { t with why:=c }).1,(steps k { t with why:=c }).2+1)=_
   rw[steps_wz c k t]
noncomputable def cst(m:St):St×Nat:=match m.step with
 |.ok t=>(t,1)
 |.error e=>({ m with why:=e },0)
theorem ok_cst{m:St}(h:Ok m):Ok (cst m).1:=by
 unfold cst
 split
 ·rename_i t e;exact z6e h e
 ·exact ok_why h _
theorem steps_cst(k:Nat){m:St}(h:m.why=0):((cst m).2=1∧(cst m).1.why=0∧steps (k+1) m=((steps k (cst m).1).1,(steps k (cst m).1).2+1))∨((cst m).2=0∧(cst m).1.why≠0∧steps (k+1) m=((cst m).1,0)):=by
 have u:steps (k+1) m=(match m.step with|.ok t=>((steps k t).1,(steps k t).2+1)|.error e=>({ m with why:=e },0)):=rfl
 unfold cst
 cases e:m.step with
 |ok t=>left;rw[u,e];exact⟨rfl,(z7p e).trans h,rfl⟩
 |error x=>right;rw[u,e];exact⟨rfl,y0r e,rfl⟩
theorem cst_stopped{m:St}(h:m.stopped=true):cst m=({ m with why:=2 },0):=by unfold cst;rw[iL,if_pos h]
theorem cst_waits{m:St}(h:¬ m.stopped=true)(h1:m.waits=true)(h2:¬ m.nmi=true)(h3:¬ m.irq=true):cst m=({ m with why:=1 },0):=by
 unfold cst;rw[iL,if_neg h,if_neg h2,if_neg (fun z=>h3 z.1),if_pos ⟨h1,Bool.eq_false_iff.mpr h3⟩]
theorem cst_nmi{m:St}(h:¬ m.stopped=true)(h2:m.nmi=true):cst m=(({ m with nmi:=false,waits:=false }:St).interrupt 65514 65530 false,1):=by
 unfold cst;rw[iL,if_neg h,if_pos h2]
theorem cst_irq{m:St}(h:¬ m.stopped=true)(h2:¬ m.nmi=true)(h3:m.irq=true)(h4:m.fi=false):cst m=(({ m with waits:=false }:St).interrupt 65518 65534 false,1):=by
 unfold cst;rw[iL,if_neg h,if_neg h2,if_pos ⟨h3,h4⟩]
theorem cst_act{m:St}(h:¬ m.stopped=true)(h2:¬ m.nmi=true)(h3:¬(m.irq=true∧m.fi=false))(h4:¬(m.waits=true∧m.irq=false)):cst m=(act1 { m with waits:=false },1):=by
 unfold cst;rw[iL,if_neg h,if_neg h2,if_neg h3,if_neg h4]
theorem pl_one(m:St):pl 1 m=(act1 m,1):=by
 unfold pl
 split <;> rfl
end Q
end
section
namespace EV
open PySem L2 SM
structure InsT(K:PySem.W.Frag)(mg:Str→Option Value)(CI sa:Addr):Prop where
 ci:Cls K CI
 no:NoAttr K CI "operations"
 np:NoAttr K CI "places"
 sp:mg "SET_PC_ALONE"=some (.ref sa)
 sq:∀ H,SqT K H sa (Q.spa.map fun(k:Nat)=>V.int (k:Int))
 rg:mg "range"=none
noncomputable def opV(t:Tx)(k:Nat):V:=.ref (t.fa (opL.getD k 0))
noncomputable def plV(t:Tx)(k:Nat):V:=match plL.getD k none with
 |none=>.non
 |some p=>.ref (t.fa p)
structure Ins(t:Tx)(CI:Addr)(L:Lay)(H:Hp)(ia di lo lp:Addr):Prop where
 i:H ia=some (.ins CI di [("operations",.ref lo),("places",.ref lp)])
 o:H lo=some (.lst ((List.range 256).map (opV t)))
 p:H lp=some (.lst ((List.range 256).map (plV t)))
 ni:¬ bK L ia
 no:¬ bK L lo
 np:¬ bK L lp
theorem Ext.hold{L L':Lay}{H H':Hp}(e:Ext L H L' H'){b:Addr}{o:HO}(h:H b=some o)(n:¬ bK L b):H' b=some o∧¬ bK L' b:=by
 refine⟨e.keep b o h n,fun f=>?_⟩
 rcases e.foot b f with f|f
 ·exact n f
 ·rw[h] at f;cases f
theorem Ins.ext{t:Tx}{CI:Addr}{L L':Lay}{H H':Hp}{ia di lo lp:Addr}(e:Ext L H L' H')(I:Ins t CI L H ia di lo lp):Ins t CI L' H' ia di lo lp:=
 ⟨(e.hold I.i I.ni).1,(e.hold I.o I.no).1,(e.hold I.p I.np).1,(e.hold I.i I.ni).2,(e.hold I.o I.no).2,(e.hold I.p I.np).2⟩
theorem zl(L:Lay)(m:M)(f:Nat){x:Str}{v:V}(h1:fnames[f]?=some x:=by rfl)(h2:(vals L m)[f]?=some v:=by rfl):(fnames.zip (vals L m)).lookup x=some v:=nS nU h1 h2
theorem Tok0.nfi{K:PySem.W.Frag}{mg:Str→Option Value}{t:Tx}(T:Tok0 K mg t)(f:Nat){x:Str}(h1:fnames[f]?=some x:=by rfl):NoAttr K t.CC x:=T.nf x (List.mem_of_getElem? h1)
theorem kQ(L:Lay)(m:M):(fnames.zip (vals L m)).length<1000:=by
 rw[List.length_zip]
 show min 17 17<1000
 decide
theorem y7t:((List.range 256).all fun k=>(match FT[opL.getD k 0]? with|some r=>!r.meth|none=>false)&&(match plL.getD k none with|some p=>(match FT[p]? with|some r=>!r.meth|none=>false)|none=>true))=true:=by decide +kernel
theorem z9B{k:Nat}(h:k<256):(∃ r,FT[opL.getD k 0]?=some r∧r.meth=false)∧∀ p,plL.getD k none=some p→∃ r,FT[p]?=some r∧r.meth=false:=by
 have h1:=List.all_eq_true.mp y7t k (List.mem_range.mpr h)
 obtain⟨h2,h3⟩:=Bool.and_eq_true_iff.mp h1
 constructor
 ·split at h2
  ·rename_i r e;exact⟨r,e,by simpa using h2⟩
  ·cases h2
 ·intro p e
  rw[e] at h3
  dsimp only at h3
  split at h3
  ·rename_i r e;exact⟨r,e,by simpa using h3⟩
  ·cases h3
section
variable{P:Program}{w:World}{K:PySem.W.Frag}{mg:Str→Option Value}{base:Heap}{t:Tx}{CI sa:Addr}
theorem z6o{k:Nat}(h:inV (.int (k:Int)) (Q.spa.map fun(k:Nat)=>V.int (k:Int))=true):k∈Q.spa:=by
 unfold inV at h
 rw[List.any_map,List.any_eq_true] at h
 obtain⟨j,hj,e⟩:=h
 have e':((j:Int)==(k:Int))=true:=e
 have:j=k:=by have:=eq_of_beq e';omega
 rw[←this];exact hj
noncomputable abbrev sPlain:Stmt:=top 231
theorem scPlain:FnScope ["cpu","instructions","n","operations","places","banks","step","pc","first","find_place"] ["cpu","instructions","n"] (aL sPlain):=⟨rfl,rfl,rfl,by decide +kernel,rfl,by decide +kernel,by decide +kernel⟩
noncomputable def wI(t:Tx)(CI:Addr):Sp:=fun vs H Q _=>∃(L:Lay) (m:Ql49.St) (ia di lo lp:Addr) (n:Nat),At t L H (aA m)∧_root_.Q.Ok m∧m.waits=false∧m.stopped=false∧Ins t CI L H ia di lo lp∧vs=[.ref L.c,.ref ia,.int (n:Int)]∧n≤10000000 ∧
 ∀ L' H',At t L' H' (aA (_root_.Q.pl n m).1)→Ext L H L' H'→Q (.int ((_root_.Q.pl n m).2:Int)) H'
theorem z3v{f:Addr}{fd:FuncData}(F:Fun K "plain_steps" "plain_steps" sPlain f fd)(T:Tok FT K mg t)(G:InsT K mg CI sa)(FF:Fok FT P w K mg base t 8 (evF FT 6)):FnOk P w K mg base CX0 9 f fd ["cpu","instructions","n"] (wI t CI):=by
 refine F.ok scPlain (fun vs H Q E h=>?_) (fun cdv A outer s H vs Q E hr h=>?_)
 ·obtain⟨L,m,ia,di,lo,lp,n,_,_,_,_,_,rfl,_⟩:=h
  rfl
 ·obtain⟨L,m,ia,di,lo,lp,n,A0,hok,hw0,hs0,I0,rfl,hn,k⟩:=h
  refine⟨_,(aF (aW (i:=3) scPlain.nd rfl (Or.inl rfl) (aQ (pv 1) rfl))
   (aF (aW (i:=4) scPlain.nd rfl (Or.inl rfl) (aQ (pv 1) rfl))
   (aF (aW (i:=5) scPlain.nd rfl (Or.inl rfl) (aQ (pv 0) rfl))
   (aF (iO PassesOwn.never rfl (z2t rfl G.rg (aD (pv 2) pa_nil)) (gJ (i:=6) scPlain.nd rfl (Or.inl rfl)) (aF (aW (i:=7) scPlain.nd rfl (Or.inl rfl) (aQ (pv 0) rfl))
   (aF (aW (i:=8) scPlain.nd rfl (Or.inl rfl) (cE ix_list (cE ix_list (pv 5) (aQ (pv 0) rfl) (fun _ _=>rfl)) (pv 7) (fun _ _=>rfl)))
   (aF (bD (pv 0) (aT fL (aT fK (pv 7) pe_int) pe_int) rfl)
   (aF (aW (i:=9) scPlain.nd rfl (Or.inl rfl) (cE ix_list (pv 4) (pv 8) (fun _ _=>rfl)))
   (aF (bW (cQ y8j (pv 9) pe_non (cA _)) (aK (bV (oE (cE ix_list (pv 3) (pv 8) (fun _ _=>rfl)) (aD (pv 0) pa_nil)))) (aK (bV (oE (cE ix_list (pv 3) (pv 8) (fun _ _=>rfl)) (aD (pv 0) (aD (oE (pv 9) (aD (pv 0) pa_nil)) pa_nil))))))
   (aF (bW (pZ (dD (aQ (pv 0) rfl)) (z9R (dD (aQ (pv 0) rfl)))).pt (aK (aS (aT fK (pv 6) pe_int))) pss_nil)
   (aK (bW (lY (cQ fV (aQ (pv 0) rfl) (pv 7) (cA _)) (oS (cQ z6Q (pv 8) (aO (v:=.ref sa) (by rfl) G.sp rfl) (by rfl)))).pt (aK (aS (pv 2))) pss_nil)))))))))
   (aK (aS (pv 2))))))),?_⟩
  refine⟨_,rfl,ia,CI,di,_,_,rfl,I0.i,G.ci,G.no,rfl,?_⟩
  refine⟨_,rfl,ia,CI,di,_,_,rfl,I0.i,G.ci,G.np,rfl,?_⟩
  refine⟨_,rfl,L.c,t.CC,L.dc,_,_,rfl,A0.c,T.cc,T.toTok0.nfi 1,zl L (aA m) 1,?_⟩
  refine⟨_,rfl,(n:Int),rfl,by omega,by omega,z2q (lo:=0) (n:=n) (fun i σ H'=>∃(L':Lay) (m':Ql49.St) (v6 v7 v8 v9:Option V),At t L' H' (aA m')∧_root_.Q.Ok m'∧m'.waits=false∧m'.stopped=false∧Ins t CI L' H' ia di lo lp∧Ext L H L' H'∧i≤n ∧
   _root_.Q.pl n m=((_root_.Q.pl (n - i) m').1,(_root_.Q.pl (n - i) m').2+i)∧σ=[some (.ref L.c),some (.ref ia),some (.int (n:Int)),some (.ref lo),some (.ref lp),some (.ref L.bl),v6,v7,v8,v9])
   ⟨L,m,none,none,none,none,A0,hok,hw0,hs0,I0,Ext.refl L H,Nat.zero_le _,rfl,rfl⟩ ?_ ?_⟩
  ·rintro i σ H1 hi ⟨L1,m1,v6,v7,v8,v9,A1,ok1,w1,s1,I1,X1,_,e1,rfl⟩
   have hpb:=ok1.pb
   have hpc:=ok1.pc
   have hf:=_root_.Q.firstOf_lt ok1
   have ef:(aA m1).mem (m1.pb * 65536+m1.pc)=(_root_.Q.firstOf m1:Int):=by
    show ((m1.mem (m1.pb * 65536+m1.pc):Nat):Int)=((m1.mem ((m1.pb * 65536+m1.pc) % 16777216):Nat):Int)
    rw[Nat.mod_eq_of_lt (by omega)]
   obtain⟨xs,g1,g2,g3⟩:=A1.bk m1.pb hpb
   have g4:=g3 m1.pc hpc
   rw[ef] at g4
   rw[←X1.c,←X1.bl]
   refine⟨_,rfl,L1.c,t.CC,L1.dc,_,_,rfl,A1.c,T.cc,T.toTok0.nfi 7,zl L1 (aA m1) 7,?_⟩
   refine⟨_,rfl,_,rfl,L1.c,t.CC,L1.dc,_,_,rfl,A1.c,T.cc,T.toTok0.nfi 8,zl L1 (aA m1) 8,L1.bl,_,(m1.pb:Int),.ref (L1.ba m1.pb),rfl,rfl,SqL.of A1.bl,bF (j:=m1.pb) rfl (gW hpb),_,rfl,L1.ba m1.pb,xs,(m1.pc:Int),_,rfl,rfl,SqL.of g1,bF (j:=m1.pc) rfl g4,?_⟩
   have e2:Builtin.bitAnd ((m1.pc:Int)+1) 65535=(((m1.pc+1) % 65536:Nat):Int):=by rw[PyProof.Rows.bitAnd_m16];omega
   obtain⟨A2,X2⟩:=A1.fld (f:=7) (u:=.int (Builtin.bitAnd ((m1.pc:Int)+1) 65535)) (m':=aA (m1.skip 1)) (a:="pc") (by rw[e2];rfl) rfl rfl
   have I2:=I1.ext X2
   refine⟨_,rfl,_,_,rfl,rfl,_,_,rfl,rfl,_,rfl,L1.c,t.CC,L1.dc,_,rfl,A1.c,T.cc,T.toTok0.nfi 7,kQ _ _,?_⟩
   refine⟨_,rfl,_,rfl,lp,_,(_root_.Q.firstOf m1:Int),plV t (_root_.Q.firstOf m1),rfl,rfl,SqL.of I2.p,bF (j:=_root_.Q.firstOf m1) rfl (gW hf),?_⟩
   obtain⟨⟨ro,ho1,ho2⟩,hp⟩:=z9B hf
   have D:=z8A (_root_.Q.ok_skip ok1 1) (_root_.Q.firstOf m1) hf
   unfold aB at D
   refine⟨_,rfl,rfl,_,rfl,?_⟩
   cases epl:plL.getD (_root_.Q.firstOf m1) none with
   |none=>
    rw[epl] at D
    have ev:plV t (_root_.Q.firstOf m1)=.non:=by unfold plV;rw[epl]
    rw[ev]
    refine cW ?_
    refine⟨_,rfl,_,rfl,lo,_,(_root_.Q.firstOf m1:Int),opV t (_root_.Q.firstOf m1),rfl,rfl,SqL.of I2.o,bF (j:=_root_.Q.firstOf m1) rfl (gW hf),_,8,_,_,_,rfl,FF.fns _ ro ho1,hr,(T.gl _ ro ho1 ho2).2,T.bi _ ro ho1,_,rfl,L1,_,[.cpu],.non,_,A2,.cons rfl .nil,FF.ar _ ro _ _ _ ho1 D,D,fun L3 H3 v3 A3 X3 r3=>?_⟩
    have X5:=X1.trans (X2.trans X3)
    have I5:=I2.ext X3
    have ea:_root_.Q.pl n m=((_root_.Q.pl (n - (i+1)+1) m1).1,(_root_.Q.pl (n - (i+1)+1) m1).2+i):=by
     rw[e1,show n - i=n - (i+1)+1 by omega]
    rw[←X3.c]
    have A3:At t L3 H3 (aA (_root_.Q.act1 m1)):=A3
    refine⟨_,rfl,L3.c,t.CC,L3.dc,_,_,rfl,A3.c,T.cc,T.toTok0.nfi 12,zl L3 (aA (_root_.Q.act1 m1)) 12,_,rfl,?_⟩
    have ret1:(_root_.Q.act1 m1).waits=true∨(_root_.Q.act1 m1).stopped=true→Q (.int (0+(i:Int)+1)) H3:=fun hor=>by
     have ep:_root_.Q.pl n m=(_root_.Q.act1 m1,1+i):=by
      rw[ea];unfold _root_.Q.pl;rw[if_pos hor]
     have kk:=k L3 H3 (by rw[ep];exact A3) X5
     rw[ep] at kk
     have ei:(0:Int)+(i:Int)+1=((1+i:Nat):Int):=by omega
     rw[ei];exact kk
    refine aM (fun ew=>?_) (fun ew=>?_)
    ·refine cW ?_
     exact⟨_,rfl,_,_,rfl,rfl,ret1 (.inl ew)⟩
    ·refine⟨_,rfl,L3.c,t.CC,L3.dc,_,_,rfl,A3.c,T.cc,T.toTok0.nfi 13,zl L3 (aA (_root_.Q.act1 m1)) 13,_,rfl,?_⟩
     refine aM (fun es=>?_) (fun es=>?_)
     ·exact⟨_,rfl,_,_,rfl,rfl,ret1 (.inr es)⟩
     ·have ew2:(_root_.Q.act1 m1).waits=false:=Bool.eq_false_iff.mpr ew
      have es2:(_root_.Q.act1 m1).stopped=false:=Bool.eq_false_iff.mpr es
      have eb:_root_.Q.pl n m=((_root_.Q.pl (n - (i+1)) (_root_.Q.act1 m1)).1,(_root_.Q.pl (n - (i+1)) (_root_.Q.act1 m1)).2+(i+1)):=by
       rw[ea]
       have eu:_root_.Q.pl (n - (i+1)+1) m1=((_root_.Q.pl (n - (i+1)) (_root_.Q.act1 m1)).1,(_root_.Q.pl (n - (i+1)) (_root_.Q.act1 m1)).2+1):=if_neg (by rw[ew2,es2];simp)
       rw[eu]
       show (_,(_root_.Q.pl (n - (i+1)) (_root_.Q.act1 m1)).2+1+i)=_
       rw[show (_root_.Q.pl (n - (i+1)) (_root_.Q.act1 m1)).2+1+i=(_root_.Q.pl (n - (i+1)) (_root_.Q.act1 m1)).2+(i+1) by omega]
      refine⟨_,rfl,L3.c,t.CC,L3.dc,_,_,rfl,A3.c,T.cc,T.toTok0.nfi 7,zl L3 (aA (_root_.Q.act1 m1)) 7,_,rfl,rfl,_,rfl,?_⟩
      have nxt:∀ v9,∃(L':Lay) (m':Ql49.St) (v6 v7 v8 v9':Option V),At t L' H3 (aA m')∧_root_.Q.Ok m'∧m'.waits=false∧m'.stopped=false∧Ins t CI L' H3 ia di lo lp∧Ext L H L' H3∧i+1≤n ∧
        _root_.Q.pl n m=((_root_.Q.pl (n - (i+1)) m').1,(_root_.Q.pl (n - (i+1)) m').2+(i+1))∧[some (V.ref L3.c),some (.ref ia),some (.int (n:Int)),some (.ref lo),some (.ref lp),some (.ref L1.bl),some (.int (0+(i:Int))),some (.int (m1.pc:Int)),some (.int (_root_.Q.firstOf m1:Int)),v9]=[some (.ref L3.c),some (.ref ia),some (.int (n:Int)),some (.ref lo),some (.ref lp),some (.ref L1.bl),v6,v7,v8,v9']:=fun v9=>
       ⟨L3,_root_.Q.act1 m1,_,_,_,_,A3,_root_.Q.ok_act1 ok1,ew2,es2,I5,X5,hi,eb,rfl⟩
      refine aM (fun ec=>?_) (fun ec=>?_)
      ·have ec':(_root_.Q.act1 m1).pc=m1.pc:=by
        have:=V.int.inj (of_decide_eq_true ec)
        exact Int.ofNat.inj this
       refine⟨_,rfl,sa,_,rfl,.inr (G.sq H3),rfl,by decide +kernel,_,rfl,?_⟩
       refine aM (fun em=>?_) (fun em=>?_)
       ·have hmem:=z6o em
        have eself:=_root_.Q.spa_self hmem ec'
        rw[eself] at eb ew2 es2 A3
        rw[_root_.Q.pl_self eself ew2 es2] at eb
        have kk:=k L3 H3 (by rw[eb];exact A3) X5
        rw[eb,show n - (i+1)+(i+1)=n by omega] at kk
        exact⟨_,rfl,kk⟩
       ·exact nxt _
      ·exact cV (nxt _)
   |some p=>
    rw[epl] at D
    obtain⟨rp,hp1,hp2⟩:=hp p epl
    have ev:plV t (_root_.Q.firstOf m1)=.ref (t.fa p):=by unfold plV;rw[epl]
    rw[ev]
    obtain⟨i1,i2,mm,d1,d2⟩:=D
    refine cV ?_
    refine⟨_,rfl,_,rfl,lo,_,(_root_.Q.firstOf m1:Int),opV t (_root_.Q.firstOf m1),rfl,rfl,SqL.of I2.o,bF (j:=_root_.Q.firstOf m1) rfl (gW hf),_,8,_,_,_,rfl,FF.fns _ ro ho1,hr,(T.gl _ ro ho1 ho2).2,T.bi _ ro ho1,_,rfl,_,rfl,_,8,_,_,_,rfl,FF.fns _ rp hp1,hr,(T.gl _ rp hp1 hp2).2,T.bi _ rp hp1,_,rfl,
     L1,_,[.cpu],_,_,A2,.cons rfl .nil,FF.ar _ rp _ _ _ hp1 d1,d1,fun L4 H4 v4 A4 X4 r4=>⟨L4,_,[.cpu,.pair i1 i2],.non,_,A4,.cons (congrArg V.ref X4.c.symm) (.cons r4 .nil),FF.ar _ ro _ _ _ ho1 d2,d2,fun L3 H3 v3 A3 X34 r3=>?_⟩⟩
    have X3:=X4.trans X34
    have X5:=X1.trans (X2.trans X3)
    have I5:=I2.ext X3
    have ea:_root_.Q.pl n m=((_root_.Q.pl (n - (i+1)+1) m1).1,(_root_.Q.pl (n - (i+1)+1) m1).2+i):=by
     rw[e1,show n - i=n - (i+1)+1 by omega]
    rw[←X3.c]
    have A3:At t L3 H3 (aA (_root_.Q.act1 m1)):=A3
    refine⟨_,rfl,L3.c,t.CC,L3.dc,_,_,rfl,A3.c,T.cc,T.toTok0.nfi 12,zl L3 (aA (_root_.Q.act1 m1)) 12,_,rfl,?_⟩
    have ret1:(_root_.Q.act1 m1).waits=true∨(_root_.Q.act1 m1).stopped=true→Q (.int (0+(i:Int)+1)) H3:=fun hor=>by
     have ep:_root_.Q.pl n m=(_root_.Q.act1 m1,1+i):=by
      rw[ea];unfold _root_.Q.pl;rw[if_pos hor]
     have kk:=k L3 H3 (by rw[ep];exact A3) X5
     rw[ep] at kk
     have ei:(0:Int)+(i:Int)+1=((1+i:Nat):Int):=by omega
     rw[ei];exact kk
    refine aM (fun ew=>?_) (fun ew=>?_)
    ·refine cW ?_
     exact⟨_,rfl,_,_,rfl,rfl,ret1 (.inl ew)⟩
    ·refine⟨_,rfl,L3.c,t.CC,L3.dc,_,_,rfl,A3.c,T.cc,T.toTok0.nfi 13,zl L3 (aA (_root_.Q.act1 m1)) 13,_,rfl,?_⟩
     refine aM (fun es=>?_) (fun es=>?_)
     ·exact⟨_,rfl,_,_,rfl,rfl,ret1 (.inr es)⟩
     ·have ew2:(_root_.Q.act1 m1).waits=false:=Bool.eq_false_iff.mpr ew
      have es2:(_root_.Q.act1 m1).stopped=false:=Bool.eq_false_iff.mpr es
      have eb:_root_.Q.pl n m=((_root_.Q.pl (n - (i+1)) (_root_.Q.act1 m1)).1,(_root_.Q.pl (n - (i+1)) (_root_.Q.act1 m1)).2+(i+1)):=by
       rw[ea]
       have eu:_root_.Q.pl (n - (i+1)+1) m1=((_root_.Q.pl (n - (i+1)) (_root_.Q.act1 m1)).1,(_root_.Q.pl (n - (i+1)) (_root_.Q.act1 m1)).2+1):=if_neg (by rw[ew2,es2];simp)
       rw[eu]
       show (_,(_root_.Q.pl (n - (i+1)) (_root_.Q.act1 m1)).2+1+i)=_
       rw[show (_root_.Q.pl (n - (i+1)) (_root_.Q.act1 m1)).2+1+i=(_root_.Q.pl (n - (i+1)) (_root_.Q.act1 m1)).2+(i+1) by omega]
      refine⟨_,rfl,L3.c,t.CC,L3.dc,_,_,rfl,A3.c,T.cc,T.toTok0.nfi 7,zl L3 (aA (_root_.Q.act1 m1)) 7,_,rfl,rfl,_,rfl,?_⟩
      have nxt:∀ v9,∃(L':Lay) (m':Ql49.St) (v6 v7 v8 v9':Option V),At t L' H3 (aA m')∧_root_.Q.Ok m'∧m'.waits=false∧m'.stopped=false∧Ins t CI L' H3 ia di lo lp∧Ext L H L' H3∧i+1≤n ∧
        _root_.Q.pl n m=((_root_.Q.pl (n - (i+1)) m').1,(_root_.Q.pl (n - (i+1)) m').2+(i+1))∧[some (V.ref L3.c),some (.ref ia),some (.int (n:Int)),some (.ref lo),some (.ref lp),some (.ref L1.bl),some (.int (0+(i:Int))),some (.int (m1.pc:Int)),some (.int (_root_.Q.firstOf m1:Int)),v9]=[some (.ref L3.c),some (.ref ia),some (.int (n:Int)),some (.ref lo),some (.ref lp),some (.ref L1.bl),v6,v7,v8,v9']:=fun v9=>
       ⟨L3,_root_.Q.act1 m1,_,_,_,_,A3,_root_.Q.ok_act1 ok1,ew2,es2,I5,X5,hi,eb,rfl⟩
      refine aM (fun ec=>?_) (fun ec=>?_)
      ·have ec':(_root_.Q.act1 m1).pc=m1.pc:=by
        have:=V.int.inj (of_decide_eq_true ec)
        exact Int.ofNat.inj this
       refine⟨_,rfl,sa,_,rfl,.inr (G.sq H3),rfl,by decide +kernel,_,rfl,?_⟩
       refine aM (fun em=>?_) (fun em=>?_)
       ·have hmem:=z6o em
        have eself:=_root_.Q.spa_self hmem ec'
        rw[eself] at eb ew2 es2 A3
        rw[_root_.Q.pl_self eself ew2 es2] at eb
        have kk:=k L3 H3 (by rw[eb];exact A3) X5
        rw[eb,show n - (i+1)+(i+1)=n by omega] at kk
        exact⟨_,rfl,kk⟩
       ·exact nxt _
      ·exact cV (nxt _)
  ·rintro σ H1 ⟨L1,m1,v6,v7,v8,v9,A1,ok1,w1,s1,I1,X1,_,e1,rfl⟩
   refine⟨_,rfl,?_⟩
   have e0:n - n=0:=Nat.sub_self n
   rw[e0] at e1
   have e2:(_root_.Q.pl n m).1=m1:=by rw[e1];rfl
   have e3:(_root_.Q.pl n m).2=n:=by rw[e1];show 0+n=n;omega
   have:=k L1 H1 (by rw[e2];exact A1) X1
   rw[e3] at this
   exact this
end
end EV
end
section
namespace EV
open PySem L2 SM
structure Nm(K:PySem.W.Frag)(mg:Str→Option Value)(x:Str)(st:Stmt)(ps:List Str)(f:Addr)(fd:FuncData):Prop where
 fn:Fun K x x st f fd
 mgf:mg x=some (.ref f)
 bi:Binds K fd ps []
section
variable{P:Program}{w:World}{K:PySem.W.Frag}{mg:Str→Option Value}{base:Heap}{t:Tx}{CI sa:Addr}
noncomputable def tM(t:Tx)(g:M→Bool):TT:=fun σ H R=>∃(L:Lay) (m:M),At t L H m∧σ[0]?=some (some (.ref L.c))∧R (g m) H
noncomputable abbrev tBf(K:PySem.W.Frag)(f:Str):TT:=tB (qG K (gO 0) f)
theorem iP{σ:St}{H:Hp}{R:Bool→Hp→Prop}{L:Lay}{m:M}(T:Tok FT K mg t)(A:At t L H m)(h0:σ[0]?=some (some (.ref L.c)))(f:Nat){x:Str}{b:Bool}(h1:fnames[f]?=some x:=by rfl)(h2:(vals L m)[f]?=some (.bl b):=by rfl)(r:R b H):tBf K x σ H R:=
 ⟨_,h0,L.c,t.CC,L.dc,_,_,rfl,A.c,T.cc,T.nf x (List.mem_of_getElem? h1),nS nU h1 h2,_,rfl,r⟩
theorem wk1{σ:St}{H:Hp}{R:Bool→Hp→Prop}(T:Tok FT K mg t)(z:tM t (fun m=>m.waits&&(!m.nmi&&!m.irq)) σ H R):qF (tBf K "waiting") (qF (qI (tBf K "nmi_asked")) (qI (tBf K "irq_asked"))) σ H R:=by
 obtain⟨L,m,A,h0,r⟩:=z
 dsimp only at r
 refine iP T A h0 12 (r:=?_)
 cases e1:m.waits with
 |false=>rw[e1] at r;exact cV r
 |true=>
  rw[e1] at r
  refine cW (iP T A h0 14 (r:=?_))
  cases e2:m.nmi with
  |true=>rw[e2] at r;exact cV r
  |false=>rw[e2] at r;exact cW (iP T A h0 15 (r:=r))
theorem wk2{σ:St}{H:Hp}{R:Bool→Hp→Prop}(T:Tok FT K mg t)(z:tM t (fun m=>m.irq&&!(Builtin.bitAnd m.flags 4 != 0)) σ H R):qF (tBf K "irq_asked") (qI fun σ H Q=>tOp (rI0 fun i j=>.int (Builtin.bitAnd i j)) (qG K (gO 0) "flags") (tC (.int 4)) σ H fun x H'=>∃ k,nB K x H' k∧Q k H') σ H R:=by
 obtain⟨L,m,A,h0,r⟩:=z
 dsimp only at r
 refine iP T A h0 15 (r:=?_)
 cases e1:m.irq with
 |false=>rw[e1] at r;exact cV r
 |true=>
  rw[e1] at r
  exact cW ⟨_,h0,L.c,t.CC,L.dc,_,_,rfl,A.c,T.cc,T.toTok0.nfi 10,zl L m 10,_,_,rfl,rfl,_,rfl,r⟩
theorem z8V(m:Ql49.St):(Builtin.bitAnd (aA m).flags 4 != 0)=m.fi:=by
 show (Builtin.bitAnd (pp m.fn m.fv m.fm m.fx m.fd m.fi m.fz m.fc) 4 != 0)=m.fi
 rw[f_i]
 cases m.fi <;> rfl
noncomputable abbrev sCareful:Stmt:=top 232
theorem z7h:FnScope ["cpu","instructions"] ["cpu","instructions"] (aL sCareful):=⟨rfl,rfl,rfl,by decide +kernel,rfl,by decide +kernel,by decide +kernel⟩
noncomputable def z2w(t:Tx)(CI:Addr):Sp:=fun vs H Q _=>∃(L:Lay) (m:Ql49.St) (ia di lo lp:Addr),At t L H (aA m)∧_root_.Q.Ok m∧Ins t CI L H ia di lo lp∧vs=[.ref L.c,.ref ia] ∧
 ∀ L' H',At t L' H' (aA (_root_.Q.cst m).1)→Ext L H L' H'→Q (.int ((_root_.Q.cst m).2:Int)) H'
theorem z4F{f fp:Addr}{fd fdp:FuncData}(N:Nm K mg "careful_step" sCareful ["cpu","instructions"] f fd)(NP:Nm K mg "plain_steps" sPlain ["cpu","instructions","n"] fp fdp)(T:Tok FT K mg t)(G:InsT K mg CI sa)(FF:Fok FT P w K mg base t 8 (evF FT 6)):FnOk P w K mg base CX0 10 f fd ["cpu","instructions"] (z2w t CI):=by
 have GP:FnOk P w K mg base CX0 9 fp fdp ["cpu","instructions","n"] (wI t CI):=z3v NP.fn T G FF
 have k2:=T.gc "WHY_STOPPED" 2 (by decide +kernel)
 have k1:=T.gc "WHY_WAITING" 1 (by decide +kernel)
 have k4:=T.gc "IRQ_OFF" 4 (by decide +kernel)
 refine N.fn.ok z7h (fun vs H Q E h=>?_) (fun cdv A outer s H vs Q E hr h=>?_)
 ·obtain⟨L,m,ia,di,lo,lp,_,_,_,rfl,_⟩:=h
  rfl
 ·obtain⟨L,m,ia,di,lo,lp,A0,hok,I0,rfl,k⟩:=h
  have hr8:Room 8 _:=hr.mono (by decide)
  refine⟨_,(aF (bW (dD (aQ (pv 0) rfl)) (aF (bD (pv 0) (aO (v:=.int 2) (by rfl) k2.choose_spec ⟨_,rfl⟩) rfl)
   (aK (aS pe_int))) pss_nil)
   (aF (bW ((lY (dD (aQ (pv 0) rfl)) (lY (jW (dD (aQ (pv 0) rfl))) (oS (jW (dD (aQ (pv 0) rfl)))))).pt.weak (t':=tM t fun m=>m.waits&&(!m.nmi&&!m.irq)) (fun σ H R z=>wk1 T z)) (aF (bD (pv 0) (aO (v:=.int 1) (by rfl) k1.choose_spec ⟨_,rfl⟩) rfl)
   (aK (aS pe_int))) pss_nil)
   (aF (bD (pv 0) pe_bl rfl)
   (aF (bW (dD (aQ (pv 0) rfl)) (aF (bD (pv 0) pe_bl rfl)
   (aF (bV (cP (FF.fns mO mY rfl) hr8 (by rfl) (T.gl mO mY rfl rfl).1 (T.gl mO mY rfl rfl).2 (T.bi mO mY rfl) .nil aR (aD (pv 0) pa_nil)))
   (aK (aS pe_int)))) pss_nil)
   (aF (bW ((lY (dD (aQ (pv 0) rfl)) (oS (jW (uU (aT fL (aQ (pv 0) rfl) (aO (v:=.int 4) (by rfl) k4.choose_spec ⟨_,rfl⟩)) (fun _=>rfl))))).pt.weak (t':=tM t fun m=>m.irq&&!(Builtin.bitAnd m.flags 4 != 0)) (fun σ H R z=>wk2 T z)) (aF (bV (cP (FF.fns mM mX rfl) hr8 (by rfl) (T.gl mM mX rfl rfl).1 (T.gl mM mX rfl rfl).2 (T.bi mM mX rfl) .nil aR (aD (pv 0) pa_nil)))
   (aK (aS pe_int))) pss_nil)
   (aK (aS (cP GP hr (by rfl) NP.mgf NP.fn.kp NP.bi .nil aR (aD (pv 0) (aD (pv 1) (aD pe_int pa_nil))))))))))),?_⟩
  refine⟨_,rfl,L.c,t.CC,L.dc,_,_,rfl,A0.c,T.cc,T.toTok0.nfi 13,zl L (aA m) 13,_,rfl,?_⟩
  refine aM (fun es=>?_) (fun es=>?_)
  ·obtain⟨A1,X1⟩:=A0.fld (f:=16) (u:=.int 2) (m':=aA { m with why:=2 }) (a:="why") rfl rfl rfl
   refine⟨_,rfl,L.c,t.CC,L.dc,_,rfl,A0.c,T.cc,T.toTok0.nfi 16,kQ _ _,?_⟩
   have kk:=k L _ (by rw[_root_.Q.cst_stopped es];exact A1) X1
   rw[_root_.Q.cst_stopped es] at kk
   exact kk
  ·refine⟨L,aA m,A0,rfl,?_⟩
   refine aM (fun ew=>?_) (fun ew=>?_)
   ·have ew':(m.waits&&(!m.nmi&&!m.irq))=true:=ew
    obtain⟨w1,w23⟩:=Bool.and_eq_true_iff.mp ew'
    obtain⟨w2,w3⟩:=Bool.and_eq_true_iff.mp w23
    have ec:=_root_.Q.cst_waits es w1 (by simpa using w2) (by simpa using w3)
    obtain⟨A1,X1⟩:=A0.fld (f:=16) (u:=.int 1) (m':=aA { m with why:=1 }) (a:="why") rfl rfl rfl
    refine⟨_,rfl,L.c,t.CC,L.dc,_,rfl,A0.c,T.cc,T.toTok0.nfi 16,kQ _ _,?_⟩
    have kk:=k L _ (by rw[ec];exact A1) X1
    rw[ec] at kk
    exact kk
   ·have ew':¬(m.waits&&(!m.nmi&&!m.irq))=true:=ew
    obtain⟨A1,X1⟩:=A0.fld (f:=12) (u:=.bl false) (m':=aA { m with waits:=false }) (a:="waiting") rfl rfl rfl
    refine⟨_,rfl,L.c,t.CC,L.dc,_,rfl,A0.c,T.cc,T.toTok0.nfi 12,kQ _ _,?_⟩
    have ok1:_root_.Q.Ok { m with waits:=false }:=⟨hok.a,hok.x,hok.y,hok.d,hok.s,hok.pc,hok.pb,hok.db,hok.mem,hok.nx,hok.em⟩
    refine⟨_,rfl,L.c,t.CC,L.dc,_,_,rfl,A1.c,T.cc,T.toTok0.nfi 14,zl L (aA { m with waits:=false }) 14,_,rfl,?_⟩
    refine aM (fun en=>?_) (fun en=>?_)
    ·obtain⟨A2,X2⟩:=A1.fld (f:=14) (u:=.bl false) (m':=aA { m with nmi:=false,waits:=false }) (a:="nmi_asked") rfl rfl rfl
     have ok2:_root_.Q.Ok { m with nmi:=false,waits:=false }:=⟨hok.a,hok.x,hok.y,hok.d,hok.s,hok.pc,hok.pb,hok.db,hok.mem,hok.nx,hok.em⟩
     refine⟨_,rfl,L.c,t.CC,L.dc,_,rfl,A1.c,T.cc,T.toTok0.nfi 14,kQ _ _,?_⟩
     have ec:=_root_.Q.cst_nmi es en
     have ev:=x8e (k:=1) ok2
     refine⟨_,rfl,L,_,[.cpu],_,_,A2,.cons rfl .nil,rfl,ev,fun L3 H3 v3 A3 X3 r3=>?_⟩
     have kk:=k L3 H3 (by rw[ec];exact A3) (X1.trans (X2.trans X3))
     rw[ec] at kk
     exact kk
    ·refine⟨L,_,A1,rfl,?_⟩
     refine aM (fun ei=>?_) (fun ei=>?_)
     ·have ei':(m.irq&&!m.fi)=true:=by rw[←z8V m];exact ei
      obtain⟨w1,w2⟩:=Bool.and_eq_true_iff.mp ei'
      have ec:=_root_.Q.cst_irq es en w1 (by simpa using w2)
      have ev:=x8a (k:=1) ok1
      refine⟨_,rfl,L,_,[.cpu],_,_,A1,.cons rfl .nil,rfl,ev,fun L3 H3 v3 A3 X3 r3=>?_⟩
      have kk:=k L3 H3 (by rw[ec];exact A3) (X1.trans X3)
      rw[ec] at kk
      exact kk
     ·have ei':¬(m.irq&&!m.fi)=true:=by rw[←z8V m];exact ei
      have en':¬ m.nmi=true:=en
      have ec:=_root_.Q.cst_act es en' (fun z=>ei' (by rw[z.1,z.2];rfl)) (fun z=>ew' (by rw[z.1,z.2,Bool.eq_false_iff.mpr en'];rfl))
      refine⟨_,rfl,_,rfl,L,{ m with waits:=false },ia,di,lo,lp,1,A1,ok1,rfl,Bool.eq_false_iff.mpr es,I0.ext X1,rfl,by decide,fun L3 H3 A3 X3=>?_⟩
      rw[_root_.Q.pl_one] at A3
      have kk:=k L3 H3 (by rw[ec];exact A3) (X1.trans X3)
      rw[ec] at kk
      rw[_root_.Q.pl_one]
      exact kk
end
end EV
end
section
namespace EV
open PySem L2 SM
section
variable{P:Program}{w:World}{K:PySem.W.Frag}{mg:Str→Option Value}{base:Heap}{t:Tx}{CI sa:Addr}
theorem wk3{σ:St}{H:Hp}{R:Bool→Hp→Prop}(T:Tok FT K mg t)(z:tM t (fun m=>m.waits||(m.stopped||(m.nmi||m.irq))) σ H R):tOr (tBf K "waiting") (tOr (tBf K "stopped") (tOr (tBf K "nmi_asked") (tBf K "irq_asked"))) σ H R:=by
 obtain⟨L,m,A,h0,r⟩:=z
 dsimp only at r
 refine iP T A h0 12 (r:=?_)
 cases e1:m.waits with
 |true=>rw[e1] at r;exact cW r
 |false=>
  rw[e1] at r
  refine cV (iP T A h0 13 (r:=?_))
  cases e2:m.stopped with
  |true=>rw[e2] at r;exact cW r
  |false=>
   rw[e2] at r
   refine cV (iP T A h0 14 (r:=?_))
   cases e3:m.nmi with
   |true=>rw[e3] at r;exact cW r
   |false=>rw[e3] at r;exact cV (iP T A h0 15 (r:=r))
noncomputable abbrev sRun:Stmt:=top 230
theorem scRun:FnScope ["cpu","instructions","n","done"] ["cpu","instructions","n"] (aL sRun):=⟨rfl,rfl,rfl,by decide +kernel,rfl,by decide +kernel,by decide +kernel⟩
noncomputable def y0l(t:Tx)(CI:Addr):Sp:=fun vs H Q _=>∃(L:Lay) (m:Ql49.St) (ia di lo lp:Addr) (n:Nat),At t L H (aA m)∧_root_.Q.Ok m∧Ins t CI L H ia di lo lp∧vs=[.ref L.c,.ref ia,.int (n:Int)]∧n≤10000000 ∧
 ∀ L' H',At t L' H' (aA (Ql49.steps n m).1)→Ext L H L' H'→Q (.int ((Ql49.steps n m).2:Int)) H'
theorem y8g{f fp fc:Addr}{fd fdp fdc:FuncData}(N:Nm K mg "run" sRun ["cpu","instructions","n"] f fd)(NC:Nm K mg "careful_step" sCareful ["cpu","instructions"] fc fdc)(NP:Nm K mg "plain_steps" sPlain ["cpu","instructions","n"] fp fdp)(T:Tok FT K mg t)(G:InsT K mg CI sa)(FF:Fok FT P w K mg base t 8 (evF FT 6)):FnOk P w K mg base CX0 11 f fd ["cpu","instructions","n"] (y0l t CI):=by
 have GP:FnOk P w K mg base CX0 9 fp fdp ["cpu","instructions","n"] (wI t CI):=z3v NP.fn T G FF
 have GC10:FnOk P w K mg base CX0 10 fc fdc ["cpu","instructions"] (z2w t CI):=z4F NC NP T G FF
 have k0:=T.gc "WHY_ALL_DONE" 0 (by decide +kernel)
 refine N.fn.ok scRun (fun vs H Q E h=>?_) (fun cdv A outer s H vs Q E hr h=>?_)
 ·obtain⟨L,m,ia,di,lo,lp,n,_,_,_,rfl,_⟩:=h
  rfl
 ·obtain⟨L,m,ia,di,lo,lp,n,A0,hok,I0,rfl,hn,k⟩:=h
  have hr10:Room 10 _:=hr
  have hr9:Room 9 _:=hr.mono (by decide)
  refine⟨_,(aF (bD (pv 0) (aO (v:=.int 0) (by rfl) k0.choose_spec ⟨_,rfl⟩) rfl)
   (aF (aW (i:=3) scRun.nd rfl (Or.inl rfl) pe_int)
   (aF (z3D PassesOwn.never (lY (cQ pY (pv 3) (pv 2) (cA _)) (oS (cQ fV (aQ (pv 0) rfl) (aO (v:=.int 0) (by rfl) k0.choose_spec ⟨_,rfl⟩) (cA _)))).pt (aK (bW ((pZ (dD (aQ (pv 0) rfl)) (pZ (dD (aQ (pv 0) rfl)) (pZ (dD (aQ (pv 0) rfl)) (z9R (dD (aQ (pv 0) rfl)))))).pt.weak (t':=tM t fun m=>m.waits||(m.stopped||(m.nmi||m.irq))) (fun σ H R z=>wk3 T z)) (aK (jV (i:=3) scRun.nd rfl (Or.inl rfl) (cP GC10 hr10 (by rfl) NC.mgf NC.fn.kp NC.bi .nil aR (aD (pv 0) (aD (pv 1) pa_nil))) jO)) (aK (jV (i:=3) scRun.nd rfl (Or.inl rfl) (cP GP hr9 (by rfl) NP.mgf NP.fn.kp NP.bi .nil aR (aD (pv 0) (aD (pv 1) (aD (aT pB (pv 2) (pv 3)) pa_nil)))) jO)))))
   (aK (aS (pv 3)))))),?_⟩
  obtain⟨A1,X1⟩:=A0.fld (f:=16) (u:=.int 0) (m':=aA { m with why:=0 }) (a:="why") rfl rfl rfl
  have e0:=_root_.Q.steps_wz 0 n m
  refine⟨_,rfl,L.c,t.CC,L.dc,_,rfl,A0.c,T.cc,T.toTok0.nfi 16,kQ _ _,?_⟩
  refine⟨fun μ σ H'=>∃(L':Lay) (m':Ql49.St) (d:Nat),At t L' H' (aA m')∧_root_.Q.Ok m'∧Ins t CI L' H' ia di lo lp∧Ext L H L' H'∧d≤n∧σ=[some (.ref L.c),some (.ref ia),some (.int (n:Int)),some (.int (d:Int))] ∧
   ((m'.why=0∧Ql49.steps n m=((Ql49.steps (n - d) m').1,(Ql49.steps (n - d) m').2+d)∧μ=(n - d)+1)∨(m'.why≠0∧Ql49.steps n m=(m',d)∧μ=0)),
   ⟨n+1,L,{ m with why:=0 },0,A1,_root_.Q.ok_why hok 0,I0.ext X1,X1,Nat.zero_le _,rfl,.inl ⟨rfl,e0.symm,rfl⟩⟩,?_⟩
  rintro μ σ H1 ⟨L1,m1,d,A2,ok2,I2,X2,hd,rfl,hc⟩
  rw[←X2.c]
  have fin:¬(d<n∧m1.why=0)→Q (.int (d:Int)) H1:=fun hne=>by
   have es:Ql49.steps n m=(m1,d):=by
    rcases hc with ⟨hw,e,_⟩|⟨hw,e,_⟩
    ·have hdn:d=n:=by
      by_cases q:d<n
      ·exact absurd ⟨q,hw⟩ hne
      ·omega
     subst hdn
     rw[e,Nat.sub_self]
     show (({ m1 with why:=0 }:Ql49.St),0+d)=(m1,d)
     rw[Nat.zero_add,←hw]
    ·exact e
   have kk:=k L1 H1 (by rw[es];exact A2) X2
   rw[es] at kk
   exact kk
  refine⟨_,rfl,_,rfl,_,_,rfl,rfl,_,rfl,?_⟩
  refine aM (fun hlt=>?_) (fun hlt=>?_)
  ·have hlt':d<n:=by have:=of_decide_eq_true hlt;omega
   refine⟨_,rfl,L1.c,t.CC,L1.dc,_,_,rfl,A2.c,T.cc,T.toTok0.nfi 16,zl L1 (aA m1) 16,rfl,_,rfl,?_⟩
   refine aM (fun hy=>?_) (fun hy=>?_)
   ·have hy':m1.why=0:=by
     have:=V.int.inj (of_decide_eq_true hy)
     have h2:((m1.why:Nat):Int)=0:=this
     omega
    obtain⟨_,e,rfl⟩:m1.why=0∧Ql49.steps n m=((Ql49.steps (n - d) m1).1,(Ql49.steps (n - d) m1).2+d)∧μ=(n - d)+1:=by
     rcases hc with z|⟨z,_⟩
     ·exact z
     ·exact absurd hy' z
    refine⟨_,fun _ _ z=>z,L1,aA m1,A2,rfl,?_⟩
    refine aM (fun hb=>?_) (fun hb=>?_)
    ·refine⟨_,rfl,_,rfl,_,rfl,L1,m1,ia,di,lo,lp,A2,ok2,I2,rfl,fun L3 H3 A3 X3=>⟨_,_,rfl,rfl,?_⟩⟩
     obtain⟨j,ej⟩:∃ j,n - d=j+1:=⟨n - d - 1,by omega⟩
     rw[ej] at e
     have X4:=X2.trans X3
     rcases _root_.Q.steps_cst j hy' with ⟨c1,c2,c3⟩|⟨c1,c2,c3⟩
     ·rw[c3] at e
      refine⟨n - (d+1)+1,by omega,L3,_,d+1,A3,_root_.Q.ok_cst ok2,I2.ext X3,X4,by omega,?_,.inl ⟨c2,?_,rfl⟩⟩
      ·rw[c1];rfl
      ·rw[e,show n - (d+1)=j by omega]
       show (_,(Ql49.steps j (_root_.Q.cst m1).1).2+1+d)=_
       rw[show (Ql49.steps j (_root_.Q.cst m1).1).2+1+d=(Ql49.steps j (_root_.Q.cst m1).1).2+(d+1) by omega]
     ·rw[c3] at e
      refine⟨0,by omega,L3,_,d,A3,_root_.Q.ok_cst ok2,I2.ext X3,X4,hd,?_,.inr ⟨c2,?_,rfl⟩⟩
      ·rw[c1]
       show [_,_,_,some (V.int ((d:Int)+((0:Nat):Int)))]=_
       rw[show (d:Int)+((0:Nat):Int)=(d:Int) by omega]
      ·rw[e]
       show (_,0+d)=_
       rw[Nat.zero_add]
    ·have hb':(m1.waits||(m1.stopped||(m1.nmi||m1.irq)))=false:=Bool.eq_false_iff.mpr hb
     obtain⟨b1,hb2⟩:=Bool.or_eq_false_iff.mp hb'
     obtain⟨b2,hb3⟩:=Bool.or_eq_false_iff.mp hb2
     obtain⟨b3,b4⟩:=Bool.or_eq_false_iff.mp hb3
     have es:=_root_.Q.steps_pl (n - d) b2 b1 b3 b4
     obtain⟨l1,l2⟩:=_root_.Q.pl_le (n - d) m1
     have l3:=l2 (by omega)
     obtain⟨p1,p2,p3,p4⟩:=_root_.Q.pl_ok (n - d) ok2
     refine⟨_,rfl,_,rfl,_,rfl,_,rfl,_,rfl,_,_,rfl,rfl,L1,m1,ia,di,lo,lp,n - d,A2,ok2,b1,b2,I2,?_,by omega,fun L3 H3 A3 X3=>⟨_,_,rfl,rfl,?_⟩⟩
     ·show [V.ref L1.c,.ref ia,.int ((n:Int) - (d:Int))]=_
      rw[show (n:Int) - (d:Int)=((n - d:Nat):Int) by omega]
     ·refine⟨n - (d+(_root_.Q.pl (n - d) m1).2)+1,by omega,L3,_,d+(_root_.Q.pl (n - d) m1).2,A3,p1,I2.ext X3,X2.trans X3,by omega,rfl,.inl ⟨p4.trans hy',?_,rfl⟩⟩
      rw[e,es,show n - (d+(_root_.Q.pl (n - d) m1).2)=n - d - (_root_.Q.pl (n - d) m1).2 by omega]
      generalize Ql49.steps (n - d - (_root_.Q.pl (n - d) m1).2) (_root_.Q.pl (n - d) m1).1=r
      show (r.1,r.2+(_root_.Q.pl (n - d) m1).2+d)=(r.1,r.2+(d+(_root_.Q.pl (n - d) m1).2))
      rw[show r.2+(_root_.Q.pl (n - d) m1).2+d=r.2+(d+(_root_.Q.pl (n - d) m1).2) by omega]
   ·refine⟨_,rfl,fin fun z=>hy ?_⟩
    show decide (V.int ((m1.why:Nat):Int)=V.int 0)=true
    rw[z.2];rfl
  ·refine cV ⟨_,rfl,fin fun z=>hlt ?_⟩
   exact decide_eq_true (by omega)
end
end EV
end
section
namespace EV
open PySem L2 SM
section
variable{P:Program}{w:World}{K:PySem.W.Frag}{mg:Str→Option Value}{base:Heap}{t:Tx}{CI sa:Addr}
noncomputable def wX:Sp:=fun vs H Q _=>∃ a n:Nat,vs=[.int (a:Int),.int (n:Int)]∧Q (.bl (decide (n≤65536∧a+n≤16777216))) H
theorem y8x:FnScope ["at","n"] ["at","n"] (aL (top 257)):=⟨rfl,rfl,rfl,by decide +kernel,rfl,by decide +kernel,by decide +kernel⟩
theorem z6d{f:Addr}{fd:FuncData}(N:Nm K mg "fits" (top 257) ["at","n"] f fd)(T:Tok0 K mg t):FnOk P w K mg base CX0 1 f fd ["at","n"] (wX):=by
 have k1:=T.gc "MOST_BYTES" 65536 (by decide +kernel)
 have k2:=T.gc "MEMORY_SIZE" 16777216 (by decide +kernel)
 refine N.fn.ok y8x (fun vs H Q E h=>?_) (fun cdv A outer s H vs Q E hr h=>?_)
 ·obtain⟨a,n,rfl,_⟩:=h
  rfl
 ·obtain⟨a,n,rfl,k⟩:=h
  refine⟨_,(aK (aS (y8m (lP z9z (pv 1) (aO (v:=.int 65536) (by rfl) k1.choose_spec ⟨_,rfl⟩) (cA _)) (y8o (lP z9z (aT fK (pv 0) (pv 1)) (aO (v:=.int 16777216) (by rfl) k2.choose_spec ⟨_,rfl⟩) (cA _)))))),?_⟩
  refine⟨_,rfl,_,_,rfl,rfl,_,rfl,?_⟩
  by_cases h1:n≤65536
  ·have e1:decide ((n:Int)≤65536)=true:=decide_eq_true (by omega)
   refine aM (fun _=>?_) (fun z=>absurd e1 z)
   refine⟨_,rfl,_,rfl,_,_,rfl,rfl,_,_,rfl,rfl,?_⟩
   have e2:decide ((a:Int)+(n:Int)≤16777216)=decide (n≤65536∧a+n≤16777216):=by
    by_cases h2:a+n≤16777216
    ·rw[decide_eq_true (by omega),decide_eq_true ⟨h1,h2⟩]
    ·rw[decide_eq_false (by omega),decide_eq_false (fun z=>h2 z.2)]
   show Q (.bl (decide ((a:Int)+(n:Int)≤16777216))) H
   rw[e2];exact k
  ·have e1:¬ decide ((n:Int)≤65536)=true:=by simp;omega
   refine aM (fun z=>absurd z e1) (fun _=>?_)
   rw[decide_eq_false (fun z=>h1 z.1)] at k
   exact k
noncomputable def Answers(t:Tx)(L:Lay)(H:Hp)(m:M)(ans:List Int)(Q:VK):Prop:=∀ L' H' q,At t L' H' m→Ext L H L' H'→H' q=some (.lst (ans.map V.int))→¬ bK L' q→(∀ b o,H b=some o→¬ bK L b→b≠q)→Q (.ref q) H'
theorem At.noneFoot{L:Lay}{H:Hp}{m:M}(A:At t L H m){q:Addr}(h:H q=none):¬ bK L q:=by
 rintro(z|z|z|z|⟨i,hi,z⟩)
 ·rw[z,A.c] at h;cases h
 ·rw[z,A.mm] at h;cases h
 ·rw[z,A.bl] at h;cases h
 ·rw[z,A.wl] at h;cases h
 ·obtain⟨xs,g,_⟩:=A.bk i hi
  rw[z,g] at h;cases h
theorem Answers.new{L L1:Lay}{H H1:Hp}{m:M}{ans:List Int}{Q:VK}(k:Answers t L H m ans Q)(A:At t L1 H1 m)(X:Ext L H L1 H1){q:Addr}(hq:H1 q=none){xs:List V}(e:xs=ans.map V.int):Q (.ref q) (upd H1 q (.lst xs)):=by
 subst e
 refine k L1 _ q (A.same (aY hq)) (X.trans (Ext.same (aY hq))) aH (A.noneFoot hq) ?_
 intro b o hb nb z
 have:=X.keep b o hb nb
 rw[z,hq] at this;cases this
end
end EV
end
section
namespace EV
open PySem L2 SM
section
variable{P:Program}{w:World}{K:PySem.W.Frag}{mg:Str→Option Value}{base:Heap}{t:Tx}{CI sa:Addr}
noncomputable def y6O(t:Tx):Sp:=fun vs H Q _=>∃(L:Lay) (m:M),At t L H m∧vs=[.ref L.c]∧Answers t L H m [m.why] Q
theorem x5y:FnScope ["cpu"] ["cpu"] (aL (top 254)):=⟨rfl,rfl,rfl,by decide +kernel,rfl,by decide +kernel,by decide +kernel⟩
theorem ok_why{f:Addr}{fd:FuncData}(N:Nm K mg "cpu_why" (top 254) ["cpu"] f fd)(T:Tok0 K mg t):FnOk P w K mg base CX0 1 f fd ["cpu"] (y6O t):=by
 refine N.fn.ok x5y (fun vs H Q E h=>?_) (fun cdv A outer s H vs Q E hr h=>?_)
 ·obtain⟨L,m,_,rfl,_⟩:=h
  rfl
 ·obtain⟨L,m,A,rfl,k⟩:=h
  refine⟨_,(aK (aS (cF (aD (aQ (pv 0) rfl) pa_nil)))),?_⟩
  refine⟨_,rfl,L.c,t.CC,L.dc,_,_,rfl,A.c,T.cc,T.nfi 16,zl L m 16,by show 1≤sizeLine;decide,fun q hq=>?_⟩
  exact k.new A (Ext.refl L H) hq rfl
noncomputable def y0m(t:Tx)(CI:Addr):Sp:=fun vs H Q _=>∃(L:Lay) (m:Ql49.St) (ia di lo lp:Addr) (n:Nat),At t L H (aA m)∧_root_.Q.Ok m∧Ins t CI L H ia di lo lp∧vs=[.ref L.c,.ref ia,.int (n:Int)] ∧
 Answers t L H (aA (if 10000000<n then m else (Ql49.steps n m).1)) (if 10000000<n then [-1] else [((Ql49.steps n m).2:Int)]) Q
theorem y8z:FnScope ["cpu","instructions","n"] ["cpu","instructions","n"] (aL (top 253)):=⟨rfl,rfl,rfl,by decide +kernel,rfl,by decide +kernel,by decide +kernel⟩
theorem y3l{f:Addr}{fd:FuncData}(N:Nm K mg "cpu_run" (top 253) ["cpu","instructions","n"] f fd){fr:Addr}{frd:FuncData}(NR:Nm K mg "run" sRun ["cpu","instructions","n"] fr frd)(GR:FnOk P w K mg base CX0 11 fr frd ["cpu","instructions","n"] (y0l t CI))(T:Tok0 K mg t):FnOk P w K mg base CX0 12 f fd ["cpu","instructions","n"] (y0m t CI):=by
 have k1:=T.gc "MOST_STEPS" 10000000 (by decide +kernel)
 have k2:=T.gc "REFUSED" (-1) (by decide +kernel)
 refine N.fn.ok y8z (fun vs H Q E h=>?_) (fun cdv A outer s H vs Q E hr h=>?_)
 ·obtain⟨L,m,ia,di,lo,lp,n,_,_,_,rfl,_⟩:=h
  rfl
 ·obtain⟨L,m,ia,di,lo,lp,n,A0,hok,I0,rfl,k⟩:=h
  refine⟨_,(aF (bW (cQ z9y (pv 2) (aO (v:=.int 10000000) (by rfl) k1.choose_spec ⟨_,rfl⟩) (cA _)) (aK (aS (cF (aD (aO (v:=.int (-1)) (by rfl) k2.choose_spec ⟨_,rfl⟩) pa_nil)))) pss_nil)
   (aK (aS (cF (aD (cP GR hr (by rfl) NR.mgf NR.fn.kp NR.bi .nil aR (aD (pv 0) (aD (pv 1) (aD (pv 2) pa_nil)))) pa_nil))))),?_⟩
  refine⟨_,rfl,_,_,rfl,rfl,_,rfl,?_⟩
  refine aM (fun z=>?_) (fun z=>?_)
  ·have z':10000000<n:=by have:=of_decide_eq_true z;omega
   rw[if_pos z',if_pos z'] at k
   refine⟨by show 1≤sizeLine;decide,fun q hq=>?_⟩
   exact k.new A0 (Ext.refl L H) hq rfl
  ·have z':¬ 10000000<n:=fun y=>z (decide_eq_true (by omega))
   rw[if_neg z',if_neg z'] at k
   refine⟨_,rfl,_,rfl,_,rfl,L,m,ia,di,lo,lp,n,A0,hok,I0,rfl,by omega,fun L1 H1 A1 X1=>⟨by show 1≤sizeLine;decide,fun q hq=>?_⟩⟩
   exact k.new A1 X1 hq rfl
noncomputable def y6J(t:Tx):Sp:=fun vs H Q _=>∃(L:Lay) (m:Ql49.St) (j:Nat),At t L H (aA m)∧_root_.Q.Ok m∧vs=[.ref L.c,.int (j:Int)] ∧
 Answers t L H (aA (Ql49Neutral.step m [[3,(j:Int)]]).1) (Ql49Neutral.step m [[3,(j:Int)]]).2 Q
theorem x5t:FnScope ["cpu","k"] ["cpu","k"] (aL (top 252)):=⟨rfl,rfl,rfl,by decide +kernel,rfl,by decide +kernel,by decide +kernel⟩
theorem y8a{f:Addr}{fd:FuncData}(N:Nm K mg "cpu_ask" (top 252) ["cpu","k"] f fd)(T:Tok FT K mg t)(FF:Fok FT P w K mg base t 8 (evF FT 6)):FnOk P w K mg base CX0 9 f fd ["cpu","k"] (y6J t):=by
 have k1:=T.gc "DONE" 0 (by decide +kernel)
 have k2:=T.gc "REFUSED" (-1) (by decide +kernel)
 refine N.fn.ok x5t (fun vs H Q E h=>?_) (fun cdv A outer s H vs Q E hr h=>?_)
 ·obtain⟨L,m,j,_,_,rfl,_⟩:=h
  rfl
 ·obtain⟨L,m,j,A0,hok,rfl,k⟩:=h
  refine⟨_,(aF (bW (dD (gI (pv 0) T.cc (T.mt lF nV rfl rfl) (FF.fns lF nV rfl) hr (T.bi lF nV rfl) .nil aR (aD (pv 1) pa_nil))) (aK (aS (cF (aD (aO (v:=.int 0) (by rfl) k1.choose_spec ⟨_,rfl⟩) pa_nil)))) pss_nil)
   (aK (aS (cF (aD (aO (v:=.int (-1)) (by rfl) k2.choose_spec ⟨_,rfl⟩) pa_nil))))),?_⟩
  have ev:=x7F (k:=2) hok j
  rw[_root_.Q.step_ask] at k
  obtain⟨b,m',e,kk⟩:∃(b:Bool) (m':Ql49.St),evF FT 6 lF [.cpu,.int j] (aA m)=some (.bl b,aA m')∧Answers t L H (aA m') (if b=true then [0] else [-1]) Q:=by
   by_cases c0:j=0
   ·rw[if_pos c0] at ev k;exact⟨true,_,ev,k⟩
   rw[if_neg c0] at ev k
   by_cases c1:j=1
   ·rw[if_pos c1] at ev k;exact⟨true,_,ev,k⟩
   rw[if_neg c1] at ev k
   by_cases c2:j=2
   ·rw[if_pos c2] at ev k;exact⟨true,_,ev,k⟩
   rw[if_neg c2] at ev k
   by_cases c3:j=3
   ·rw[if_pos c3] at ev k;exact⟨true,_,ev,k⟩
   rw[if_neg c3] at ev k
   exact⟨false,_,ev,k⟩
  refine⟨_,rfl,L.c,L.dc,_,rfl,A0.c,vF (by decide +kernel),_,rfl,L,_,[.cpu,.int j],_,_,A0,.cons rfl (.cons rfl .nil),rfl,e,fun L1 H1 v1 A1 X1 r1=>⟨b,r1,?_⟩⟩
  cases b with
  |true=>exact cW ⟨by show 1≤sizeLine;decide,fun q hq=>kk.new A1 X1 hq rfl⟩
  |false=>exact cV ⟨by show 1≤sizeLine;decide,fun q hq=>kk.new A1 X1 hq rfl⟩
end
end EV
end
section
namespace EV
open PySem L2 SM
section
variable{P:Program}{w:World}{K:PySem.W.Frag}{mg:Str→Option Value}{base:Heap}{t:Tx}{CI sa:Addr}
noncomputable def y0j(t:Tx):Sp:=fun vs H Q _=>∃(L:Lay) (m:Ql49.St) (a n:Nat),At t L H (aA m)∧_root_.Q.Ok m∧vs=[.ref L.c,.int (a:Int),.int (n:Int)] ∧
 Answers t L H (aA m) (if 65536<n∨16777216<a+n then [-1] else 0::(List.range n).map fun i=>(m.mem (a+i):Int)) Q
theorem y8y:FnScope ["cpu","at","n"] ["cpu","at","n"] (aL (top 251)):=⟨rfl,rfl,rfl,by decide +kernel,rfl,by decide +kernel,by decide +kernel⟩
theorem y3j{f:Addr}{fd:FuncData}(N:Nm K mg "cpu_look" (top 251) ["cpu","at","n"] f fd){ff fm:Addr}{ffd fmd:FuncData}(NF:Nm K mg "fits" (top 257) ["at","n"] ff ffd)(GT:FnOk P w K mg base CX0 2 fm fmd ["self","at","n"] (tH t))(bT:Binds K fmd ["self","at","n"] [])(mT:Meth K t.CM "tell_many" fm)(T:Tok0 K mg t)(TM:MemT K mg t):FnOk P w K mg base CX0 3 f fd ["cpu","at","n"] (y0j t):=by
 have GF:FnOk P w K mg base CX0 1 ff ffd ["at","n"] wX:=z6d NF T
 have k1:=T.gc "DONE" 0 (by decide +kernel)
 have k2:=T.gc "REFUSED" (-1) (by decide +kernel)
 refine N.fn.ok y8y (fun vs H Q E h=>?_) (fun cdv A outer s H vs Q E hr h=>?_)
 ·obtain⟨L,m,a,n,_,_,rfl,_⟩:=h
  rfl
 ·obtain⟨L,m,a,n,A0,hok,rfl,k⟩:=h
  have hr1:Room 1 _:=hr.mono (by decide)
  refine⟨_,(aF (bW (jW (dD (cP GF hr1 (by rfl) NF.mgf NF.fn.kp NF.bi .nil aR (aD (pv 1) (aD (pv 2) pa_nil))))) (aK (aS (cF (aD (aO (v:=.int (-1)) (by rfl) k2.choose_spec ⟨_,rfl⟩) pa_nil)))) pss_nil)
   (aK (aS (aT y8i (cF (aD (aO (v:=.int 0) (by rfl) k1.choose_spec ⟨_,rfl⟩) pa_nil)) (gI (aQ (pv 0) rfl) TM.cm mT GT hr bT .nil aR (aD (pv 1) (aD (pv 2) pa_nil))))))),?_⟩
  refine⟨_,rfl,_,rfl,a,n,rfl,_,rfl,?_⟩
  by_cases c:n≤65536∧a+n≤16777216
  ·rw[if_neg (by omega)] at k
   rw[decide_eq_true c]
   refine cV ?_
   refine⟨by show 1≤sizeLine;decide,fun q1 hq1=>?_⟩
   have A1:=A0.same (aY hq1 (o:=.lst [V.int 0]))
   refine⟨_,rfl,L.c,t.CC,L.dc,_,_,rfl,A1.c,T.cc,T.nfi 0,zl L (aA m) 0,L.mm,L.dm,_,rfl,A1.mm,rfl,_,rfl,_,rfl,L,_,a,n,A1.toM,rfl,c.2,c.1,fun p H' hp hs hp'=>?_⟩
   refine⟨q1,p,_,_,rfl,rfl,hs _ _ aH,hp',?_,fun q hq=>?_⟩
   ·rw[List.length_map,List.length_range]
    exact Nat.le_trans (show 1+n≤65537 by omega) (by decide)
   ·have A2:=A1.same hs
    exact k.new A2 (Ext.same fun b o hb=>hs _ _ (aY hq1 b o hb)) hq (by
     rw[List.map_cons,List.map_map];rfl)
  ·rw[if_pos (by omega)] at k
   rw[decide_eq_false c]
   refine cW ⟨by show 1≤sizeLine;decide,fun q hq=>?_⟩
   exact k.new A0 (Ext.refl L H) hq rfl
end
end EV
end
section
namespace EV
open PySem L2 SM
theorem Paired.at_{α β:Type}{F:α→β→Prop}:∀{l₁:List α}{l₂:List β}{i:Nat}{x:α},Paired F l₁ l₂→l₁[i]?=some x→∃ y,l₂[i]?=some y∧F x y
 |_,_,_,_,.nil,h=>by simp at h
 |_,_,0,_,.cons r t,h=>by simp at h;subst h;exact⟨_,rfl,r⟩
 |_,_,i+1,_,.cons r t,h=>by
  obtain⟨y,h1,h2⟩:=Paired.at_ t (i:=i) (by simpa using h)
  exact⟨y,by simpa using h1,h2⟩
noncomputable def lS(mem:Nat→Int)(a:Nat)(rows:List (List Int)):Nat→Int:=rows.foldl (fun mem row=>eR mem a row) mem
theorem z2I(mem:Nat→Int)(a:Nat)(rows:List (List Int)){i:Nat}{row:List Int}(h:rows[i]?=some row):lS mem a (rows.take (i+1))=eR (lS mem a (rows.take i)) a row:=by
 have e:rows.take (i+1)=rows.take i++[row]:=by rw[List.take_add_one,h];rfl
 unfold lS
 rw[e,List.foldl_append]
 rfl
section
variable{P:Program}{w:World}{K:PySem.W.Frag}{mg:Str→Option Value}{base:Heap}{t:Tx}{CI sa:Addr}
noncomputable def y0i(t:Tx):Sp:=fun vs H Q _=>∃(L:Lay) (m:M) (a n:Nat) (nl:Addr) (ps:List Addr) (rows:List (List Int)),At t L H m∧vs=[.ref L.c,.int (a:Int),.int (n:Int),.ref nl]∧H nl=some (.lst (ps.map V.ref))∧¬ bK L nl∧Paired (fun b row=>(H b=some (.lst (row.map V.int))∧¬ bK L b)∧row.length=n) ps rows∧a<2 ^ 32 ∧
 Answers t L H (if 65536<n∨16777216<a+n then m else { m with mem:=lS m.mem a rows }) (if 65536<n∨16777216<a+n then [-1] else [0]) Q
theorem scLoad:FnScope ["cpu","at","n","lists","handed"] ["cpu","at","n","lists"] (aL (top 250)):=⟨rfl,rfl,rfl,by decide +kernel,rfl,by decide +kernel,by decide +kernel⟩
theorem y3i{f:Addr}{fd:FuncData}(N:Nm K mg "cpu_load" (top 250) ["cpu","at","n","lists"] f fd){ff fm:Addr}{ffd fmd:FuncData}(NF:Nm K mg "fits" (top 257) ["at","n"] ff ffd)(GP:FnOk P w K mg base CX0 3 fm fmd ["self","at","handed"] (uB t))(bP:Binds K fmd ["self","at","handed"] [])(mP:Meth K t.CM "put_many" fm)(T:Tok0 K mg t)(TM:MemT K mg t):FnOk P w K mg base CX0 4 f fd ["cpu","at","n","lists"] (y0i t):=by
 have GF:FnOk P w K mg base CX0 1 ff ffd ["at","n"] wX:=z6d NF T
 have k1:=T.gc "DONE" 0 (by decide +kernel)
 have k2:=T.gc "REFUSED" (-1) (by decide +kernel)
 refine N.fn.ok scLoad (fun vs H Q E h=>?_) (fun cdv A outer s H vs Q E hr h=>?_)
 ·obtain⟨L,m,a,n,nl,ps,rows,_,rfl,_⟩:=h
  rfl
 ·obtain⟨L,m,a,n,nl,ps,rows,A0,rfl,hnl,fnl,hp,h32,k⟩:=h
  have hr1:Room 1 _:=hr.mono (by decide)
  refine⟨_,(aF (bW (jW (dD (cP GF hr1 (by rfl) NF.mgf NF.fn.kp NF.bi .nil aR (aD (pv 1) (aD (pv 2) pa_nil))))) (aK (aS (cF (aD (aO (v:=.int (-1)) (by rfl) k2.choose_spec ⟨_,rfl⟩) pa_nil)))) pss_nil)
   (aF (iO PassesOwn.never rfl (z6g (pv 3)) (gJ (i:=4) scLoad.nd rfl (Or.inl rfl)) (aK (bV (gI (aQ (pv 0) rfl) TM.cm mP GP hr bP .nil aR (aD (pv 1) (aD (pv 4) pa_nil))))))
   (aK (aS (cF (aD (aO (v:=.int 0) (by rfl) k1.choose_spec ⟨_,rfl⟩) pa_nil)))))),?_⟩
  refine⟨_,rfl,_,rfl,a,n,rfl,_,rfl,?_⟩
  by_cases c:n≤65536∧a+n≤16777216
  ·rw[if_neg (by omega),if_neg (by omega)] at k
   rw[decide_eq_true c]
   refine cV ?_
   refine⟨_,rfl,nl,rfl,⟨_,SqL.of hnl⟩,z3p (K:=K) (a:=nl) (xs:=ps.map V.ref) (fun i σ H'=>∃(L':Lay) (v4:Option V),At t L' H' { m with mem:=lS m.mem a (rows.take i) }∧Ext L H L' H'∧σ=[some (.ref L.c),some (.int (a:Int)),some (.int (n:Int)),some (.ref nl),v4])
    ⟨L,none,A0,Ext.refl L H,rfl⟩ (fun i σ H' _ ⟨L',_,_,X,_⟩=>SqL.of (X.hold hnl fnl).1) ?_ ?_⟩
   ·rintro i x σ H1 hx ⟨L1,v4,A1,X1,rfl⟩
    obtain⟨b,hb,rfl⟩:∃ b,ps[i]?=some b∧x=V.ref b:=by
     rw[List.getElem?_map] at hx
     cases e:ps[i]? with
     |none=>rw[e] at hx;cases hx
     |some v=>rw[e] at hx;exact⟨v,rfl,(Option.some.inj hx).symm⟩
    obtain⟨row,hrow,⟨hb1,hb2⟩,hln⟩:=Paired.at_ hp hb
    obtain⟨g1,g2⟩:=X1.hold hb1 hb2
    rw[←X1.c]
    refine⟨_,rfl,L1.c,t.CC,L1.dc,_,_,rfl,A1.c,T.cc,T.nfi 0,zl L1 _ 0,L1.mm,L1.dm,_,rfl,A1.mm,rfl,_,rfl,_,rfl,L1,_,a,row,b,A1.toM,rfl,g1,fun z=>g2 (.inr z),h32,by omega,fun L3 H3 M3 X3=>⟨L3,_,?_,X1.trans X3.ext,rfl⟩⟩
    have A3:=A1.of M3 X3
    rw[z2I m.mem a rows hrow]
    exact A3
   ·rintro σ H1 ⟨L1,v4,A1,X1,rfl⟩
    rw[List.length_map,Paired.len hp,List.take_length] at A1
    refine⟨by show 1≤sizeLine;decide,fun q hq=>?_⟩
    exact k.new A1 X1 hq rfl
  ·rw[if_pos (by omega),if_pos (by omega)] at k
   rw[decide_eq_false c]
   refine cW ⟨by show 1≤sizeLine;decide,fun q hq=>?_⟩
   exact k.new A0 (Ext.refl L H) hq rfl
end
end EV
end
section
namespace EV
open PySem L2 SM
section
variable{P:Program}{w:World}{K:PySem.W.Frag}{mg:Str→Option Value}{base:Heap}{t:Tx}{CI sa:Addr}
noncomputable def kZ(m:M):List Int:=[m.a,m.x,m.y,m.d,m.s,m.pc,m.pb,m.db,m.flags,if m.emu=true then 1 else 0]
noncomputable def y6H(t:Tx):Sp:=fun vs H Q _=>∃(L:Lay) (m:M),At t L H m∧vs=[.ref L.c]∧∀ q,H q=none→Q (.ref q) (upd H q (.lst ((kZ m).map V.int)))
theorem x5s:FnScope ["cpu"] ["cpu"] (aL (top 215)):=⟨rfl,rfl,rfl,by decide +kernel,rfl,by decide +kernel,by decide +kernel⟩
theorem y7Y{f:Addr}{fd:FuncData}(N:Nm K mg "tell_all" (top 215) ["cpu"] f fd)(T:Tok0 K mg t):FnOk P w K mg base CX0 1 f fd ["cpu"] (y6H t):=by
 refine N.fn.ok x5s (fun vs H Q E h=>?_) (fun cdv A outer s H vs Q E hr h=>?_)
 ·obtain⟨L,m,_,rfl,_⟩:=h
  rfl
 ·obtain⟨L,m,A,rfl,k⟩:=h
  refine⟨_,(aK (aS (cF (aD (aQ (pv 0) rfl) (aD (aQ (pv 0) rfl) (aD (aQ (pv 0) rfl) (aD (aQ (pv 0) rfl) (aD (aQ (pv 0) rfl) (aD (aQ (pv 0) rfl) (aD (aQ (pv 0) rfl) (aD (aQ (pv 0) rfl) (aD (aQ (pv 0) rfl) (aD (uR (dD (aQ (pv 0) rfl)) pe_int pe_int) pa_nil))))))))))))),?_⟩
  refine⟨_,rfl,L.c,t.CC,L.dc,_,_,rfl,A.c,T.cc,T.nfi 2,zl L m 2,_,rfl,L.c,t.CC,L.dc,_,_,rfl,A.c,T.cc,T.nfi 3,zl L m 3,_,rfl,L.c,t.CC,L.dc,_,_,rfl,A.c,T.cc,T.nfi 4,zl L m 4,_,rfl,L.c,t.CC,L.dc,_,_,rfl,A.c,T.cc,T.nfi 5,zl L m 5,_,rfl,L.c,t.CC,L.dc,_,_,rfl,A.c,T.cc,T.nfi 6,zl L m 6,_,rfl,L.c,t.CC,L.dc,_,_,rfl,A.c,T.cc,T.nfi 7,zl L m 7,_,rfl,L.c,t.CC,L.dc,_,_,rfl,A.c,T.cc,T.nfi 8,zl L m 8,_,rfl,L.c,t.CC,L.dc,_,_,rfl,A.c,T.cc,T.nfi 9,zl L m 9,_,rfl,L.c,t.CC,L.dc,_,_,rfl,A.c,T.cc,T.nfi 10,zl L m 10,_,rfl,L.c,t.CC,L.dc,_,_,rfl,A.c,T.cc,T.nfi 11,zl L m 11,_,rfl,?_⟩
  have fin:∀ z:Int,(if m.emu=true then (1:Int) else 0)=z→([V.int m.a,.int m.x,.int m.y,.int m.d,.int m.s,.int m.pc,.int m.pb,.int m.db,.int m.flags,.int z].length≤sizeLine∧∀ q,H q=none→Q (.ref q) (upd H q (.lst [V.int m.a,.int m.x,.int m.y,.int m.d,.int m.s,.int m.pc,.int m.pb,.int m.db,.int m.flags,.int z]))):=fun z hz=>by
   refine⟨by show 10≤sizeLine;decide,fun q hq=>?_⟩
   have kk:=k q hq
   unfold kZ at kk
   rw[hz] at kk
   exact kk
  refine aM (fun z=>?_) (fun z=>?_)
  ·exact fin 1 (if_pos z)
  ·exact fin 0 (if_neg z)
theorem z7f(m:Ql49.St)(j:Nat):(kZ (aA m))[j]?=(m.tell j).map fun(x:Nat)=>(x:Int):=by
 have e:kZ (aA m)=[m.a,m.x,m.y,m.d,m.s,m.pc,m.pb,m.db,m.p,Ql49.bit m.emu 1].map fun(x:Nat)=>(x:Int):=by
  unfold kZ Ql49.bit
  show [(m.a:Int),m.x,m.y,m.d,m.s,m.pc,m.pb,m.db,(m.p:Int),if m.emu=true then 1 else 0]=_
  cases m.emu <;> rfl
 rw[e,List.getElem?_map]
 rfl
theorem y3V(m:Ql49.St)(j:Nat):(m.tell j).isSome=decide (j<10):=by
 unfold Ql49.St.tell
 by_cases h:j<10
 ·rw[List.getElem?_eq_getElem (by simpa using h),decide_eq_true h];rfl
 ·rw[List.getElem?_eq_none (by simp;omega),decide_eq_false h];rfl
noncomputable def y6K(t:Tx):Sp:=fun vs H Q _=>∃(L:Lay) (m:Ql49.St) (j:Nat),At t L H (aA m)∧vs=[.ref L.c,.int (j:Int)]∧Answers t L H (aA m) (Ql49Neutral.step m [[6,(j:Int)]]).2 Q
theorem x5u:FnScope ["cpu","which"] ["cpu","which"] (aL (top 255)):=⟨rfl,rfl,rfl,by decide +kernel,rfl,by decide +kernel,by decide +kernel⟩
theorem y8c{f:Addr}{fd:FuncData}(N:Nm K mg "cpu_get" (top 255) ["cpu","which"] f fd){fa:Addr}{fad:FuncData}(NA:Nm K mg "tell_all" (top 215) ["cpu"] fa fad)(T:Tok0 K mg t):FnOk P w K mg base CX0 2 f fd ["cpu","which"] (y6K t):=by
 have GA:FnOk P w K mg base CX0 1 fa fad ["cpu"] (y6H t):=y7Y NA T
 have k1:=T.gc "REGISTER_COUNT" 10 (by decide +kernel)
 have k2:=T.gc "REFUSED" (-1) (by decide +kernel)
 refine N.fn.ok x5u (fun vs H Q E h=>?_) (fun cdv A outer s H vs Q E hr h=>?_)
 ·obtain⟨L,m,j,_,rfl,_⟩:=h
  rfl
 ·obtain⟨L,m,j,A0,rfl,k⟩:=h
  refine⟨_,(aF (bW (cQ z9x (pv 1) (aO (v:=.int 10) (by rfl) k1.choose_spec ⟨_,rfl⟩) (cA _)) (aK (aS (cF (aD (aO (v:=.int (-1)) (by rfl) k2.choose_spec ⟨_,rfl⟩) pa_nil)))) pss_nil)
   (aK (aS (cF (aD (cE ix_list (cP GA hr (by rfl) NA.mgf NA.fn.kp NA.bi .nil aR (aD (pv 0) pa_nil)) (pv 1) (fun _ _=>rfl)) pa_nil))))),?_⟩
  rw[_root_.Q.step_get] at k
  have hs:=y3V m j
  refine⟨_,rfl,_,_,rfl,rfl,_,rfl,?_⟩
  refine aM (fun z=>?_) (fun z=>?_)
  ·have z':¬ j<10:=by have:=of_decide_eq_true z;omega
   rw[decide_eq_false z'] at hs
   cases e:m.tell j with
   |some x=>rw[e] at hs;cases hs
   |none=>
    rw[e] at k
    refine⟨by show 1≤sizeLine;decide,fun q hq=>?_⟩
    exact k.new A0 (Ext.refl L H) hq rfl
  ·have z':j<10:=by
    rcases Nat.lt_or_ge j 10 with y|y
    ·exact y
    ·exact absurd (decide_eq_true (by omega)) z
   rw[decide_eq_true z'] at hs
   cases e:m.tell j with
   |none=>rw[e] at hs;cases hs
   |some x=>
    rw[e] at k
    have hx:((kZ (aA m)).map V.int)[j]?=some (.int (x:Int)):=by rw[List.getElem?_map,z7f,e];rfl
    refine⟨_,rfl,L,_,A0,rfl,fun q1 hq1=>⟨_,rfl,q1,_,(j:Int),_,rfl,rfl,SqL.of aH,bF (j:=j) rfl hx,by show 1≤sizeLine;decide,fun q hq=>?_⟩⟩
    exact k.new (A0.same (aY hq1)) (Ext.same (aY hq1)) hq rfl
noncomputable def y6M(t:Tx):Sp:=fun vs H Q _=>∃(L:Lay) (m m':Ql49.St) (j z:Nat),At t L H (aA m)∧_root_.Q.Ok m∧m.change_ j z=some m'∧vs=[.ref L.c,.int (j:Int),.int (z:Int)]∧∀ L' H',At t L' H' (aA m')→Ext L H L' H'→Q .non H'
structure SetT(K:PySem.W.Frag)(mg:Str→Option Value)(t:Tx)(sb:Addr):Prop where
 mgs:mg "SETTERS"=some (.ref sb)
 sq:∀ H,SqT K H sb ((List.range 10).map fun i=>V.ref (t.fa (jK+i)))
theorem y7u:((List.range 10).all fun i=>(match FT[jK+i]? with|some r=>!r.meth|none=>false))=true:=by decide +kernel
theorem z7k{i:Nat}(h:i<10):∃ r,FT[jK+i]?=some r∧r.meth=false:=by
 have h2:=List.all_eq_true.mp y7u i (List.mem_range.mpr h)
 split at h2
 ·rename_i r e;exact⟨r,e,by simpa using h2⟩
 ·cases h2
theorem x5w:FnScope ["cpu","which","value"] ["cpu","which","value"] (aL (top 227)):=⟨rfl,rfl,rfl,by decide +kernel,rfl,by decide +kernel,by decide +kernel⟩
theorem y8e{f:Addr}{fd:FuncData}(N:Nm K mg "set_one" (top 227) ["cpu","which","value"] f fd){sb:Addr}(S:SetT K mg t sb)(T:Tok FT K mg t)(FF:Fok FT P w K mg base t 8 (evF FT 6)):FnOk P w K mg base CX0 9 f fd ["cpu","which","value"] (y6M t):=by
 refine N.fn.ok x5w (fun vs H Q E h=>?_) (fun cdv A outer s H vs Q E hr h=>?_)
 ·obtain⟨L,m,m',j,z,_,_,_,rfl,_⟩:=h
  rfl
 ·obtain⟨L,m,m',j,z,A0,hok,hc,rfl,k⟩:=h
  refine⟨_,(aK (bV (oE (cE z9c (aO (v:=.ref sb) (by rfl) S.mgs rfl) (pv 1) (fun _ _=>rfl)) (aD (pv 0) (aD (pv 2) pa_nil))))),?_⟩
  obtain⟨hj,ev⟩:=y0O hok hc
  obtain⟨r,hr1,hr2⟩:=z7k hj
  refine⟨_,rfl,sb,_,(j:Int),V.ref (t.fa (jK+j)),rfl,rfl,S.sq H,bF (j:=j) rfl (gW hj),_,8,_,_,_,rfl,FF.fns _ r hr1,hr,(T.gl _ r hr1 hr2).2,T.bi _ r hr1,_,rfl,_,rfl,L,_,[.cpu,.int z],.non,_,A0,.cons rfl (.cons rfl .nil),FF.ar _ r _ _ _ hr1 ev,ev,fun L3 H3 v3 A3 X3 r3=>?_⟩
  exact k L3 H3 A3 X3
theorem z6y(m:Ql49.St):∀(j z:Nat),(m.change_ j z).isSome=decide (j<10)
 |0,_|1,_|2,_|3,_|4,_|5,_|6,_|7,_|8,_|9,_=>rfl
 |n+10,_=>by rw[decide_eq_false (by omega)];rfl
noncomputable def y6N(t:Tx):Sp:=fun vs H Q _=>∃(L:Lay) (m:Ql49.St) (j z:Nat),At t L H (aA m)∧_root_.Q.Ok m∧vs=[.ref L.c,.int (j:Int),.int (z:Int)]∧Answers t L H (aA (Ql49Neutral.step m [[7,(j:Int),(z:Int)]]).1) (Ql49Neutral.step m [[7,(j:Int),(z:Int)]]).2 Q
theorem x5x:FnScope ["cpu","which","value"] ["cpu","which","value"] (aL (top 256)):=⟨rfl,rfl,rfl,by decide +kernel,rfl,by decide +kernel,by decide +kernel⟩
theorem ok_set{f:Addr}{fd:FuncData}(N:Nm K mg "cpu_set" (top 256) ["cpu","which","value"] f fd){fo:Addr}{fod:FuncData}(NO:Nm K mg "set_one" (top 227) ["cpu","which","value"] fo fod)(GO:FnOk P w K mg base CX0 9 fo fod ["cpu","which","value"] (y6M t))(T:Tok0 K mg t):FnOk P w K mg base CX0 10 f fd ["cpu","which","value"] (y6N t):=by
 have k1:=T.gc "REGISTER_COUNT" 10 (by decide +kernel)
 have k2:=T.gc "REFUSED" (-1) (by decide +kernel)
 have k3:=T.gc "DONE" 0 (by decide +kernel)
 refine N.fn.ok x5x (fun vs H Q E h=>?_) (fun cdv A outer s H vs Q E hr h=>?_)
 ·obtain⟨L,m,j,z,_,_,rfl,_⟩:=h
  rfl
 ·obtain⟨L,m,j,z,A0,hok,rfl,k⟩:=h
  refine⟨_,(aF (bW (cQ z9x (pv 1) (aO (v:=.int 10) (by rfl) k1.choose_spec ⟨_,rfl⟩) (cA _)) (aK (aS (cF (aD (aO (v:=.int (-1)) (by rfl) k2.choose_spec ⟨_,rfl⟩) pa_nil)))) pss_nil)
   (aF (bV (cP GO hr (by rfl) NO.mgf NO.fn.kp NO.bi .nil aR (aD (pv 0) (aD (pv 1) (aD (pv 2) pa_nil)))))
   (aK (aS (cF (aD (aO (v:=.int 0) (by rfl) k3.choose_spec ⟨_,rfl⟩) pa_nil)))))),?_⟩
  rw[_root_.Q.step_set] at k
  have hs:=z6y m j z
  refine⟨_,rfl,_,_,rfl,rfl,_,rfl,?_⟩
  refine aM (fun y=>?_) (fun y=>?_)
  ·have z':¬ j<10:=by have:=of_decide_eq_true y;omega
   rw[decide_eq_false z'] at hs
   cases e:m.change_ j z with
   |some x=>rw[e] at hs;cases hs
   |none=>
    rw[e] at k
    refine⟨by show 1≤sizeLine;decide,fun q hq=>?_⟩
    exact k.new A0 (Ext.refl L H) hq rfl
  ·have z':j<10:=by
    rcases Nat.lt_or_ge j 10 with x|x
    ·exact x
    ·exact absurd (decide_eq_true (by omega)) y
   rw[decide_eq_true z'] at hs
   cases e:m.change_ j z with
   |none=>rw[e] at hs;cases hs
   |some m'=>
    rw[e] at k
    refine⟨_,rfl,_,rfl,_,rfl,L,m,m',j,z,A0,hok,e,rfl,fun L1 H1 A1 X1=>⟨by show 1≤sizeLine;decide,fun q hq=>?_⟩⟩
    exact k.new A1 X1 hq rfl
end
end EV
end
section
namespace EV
open PySem L2 SM
theorem Paired.mapP2{α β:Type}{F:α→β→Prop}{G:β→Prop}:∀{l₁:List α}{l₂:List β},Paired F l₁ l₂→(∀ b∈l₂,G b)→Paired (fun a b=>F a b∧G b) l₁ l₂
 |_,_,.nil,_=>.nil
 |_,_,.cons r t,h=>.cons ⟨r,h _ List.mem_cons_self⟩ (Paired.mapP2 t fun b hb=>h b (List.mem_cons_of_mem _ hb))
theorem z9P(m:Ql49.St)(a:Nat)(b:List Nat):eR (aA m).mem a (b.map fun(x:Nat)=>(x:Int))=(aA { m with mem:=_root_.Q.lay m.mem a b }).mem:=by
 funext j
 show (if a≤j∧j<a+(b.map fun(x:Nat)=>(x:Int)).length then (b.map fun(x:Nat)=>(x:Int)).getD (j - a) 0 else (m.mem j:Int))=((if a≤j∧j<a+b.length then b.getD (j - a) 0 else m.mem j:Nat):Int)
 rw[List.length_map]
 by_cases c:a≤j∧j<a+b.length
 ·rw[if_pos c,if_pos c,List.getD_eq_getElem?_getD,List.getD_eq_getElem?_getD,List.getElem?_map]
  cases b[j - a]? <;> rfl
 ·rw[if_neg c,if_neg c]
section
variable{P:Program}{w:World}{K:PySem.W.Frag}{mg:Str→Option Value}{base:Heap}{t:Tx}{CI sa:Addr}
structure Fns7(P:Program)(w:World)(K:PySem.W.Frag)(mg:Str→Option Value)(base:Heap)(t:Tx)(CI:Addr):Prop where
 l:∃ f fd,Nm K mg "cpu_load" (top 250) ["cpu","at","n","lists"] f fd∧FnOk P w K mg base CX0 4 f fd ["cpu","at","n","lists"] (y0i t)
 k:∃ f fd,Nm K mg "cpu_look" (top 251) ["cpu","at","n"] f fd∧FnOk P w K mg base CX0 3 f fd ["cpu","at","n"] (y0j t)
 a:∃ f fd,Nm K mg "cpu_ask" (top 252) ["cpu","k"] f fd∧FnOk P w K mg base CX0 9 f fd ["cpu","k"] (y6J t)
 r:∃ f fd,Nm K mg "cpu_run" (top 253) ["cpu","instructions","n"] f fd∧FnOk P w K mg base CX0 12 f fd ["cpu","instructions","n"] (y0m t CI)
 w_:∃ f fd,Nm K mg "cpu_why" (top 254) ["cpu"] f fd∧FnOk P w K mg base CX0 1 f fd ["cpu"] (y6O t)
 g:∃ f fd,Nm K mg "cpu_get" (top 255) ["cpu","which"] f fd∧FnOk P w K mg base CX0 2 f fd ["cpu","which"] (y6K t)
 s:∃ f fd,Nm K mg "cpu_set" (top 256) ["cpu","which","value"] f fd∧FnOk P w K mg base CX0 10 f fd ["cpu","which","value"] (y6N t)
noncomputable def y0h(t:Tx)(CI:Addr):Sp:=fun vs H Q _=>∃(L:Lay) (m:Ql49.St) (ia di lo lp na nl:Addr) (p:Int) (ns:List Int) (ps:List Addr) (rows:List (List Int)),At t L H (aA m)∧_root_.Q.Ok m∧Ins t CI L H ia di lo lp∧vs=[.ref L.c,.ref ia,.int p,.ref na,.ref nl] ∧
 H na=some (.lst (ns.map V.int))∧H nl=some (.lst (ps.map V.ref))∧¬ bK L nl∧Paired (fun b row=>H b=some (.lst (row.map V.int))∧¬ bK L b) ps rows∧_root_.Q.Form ((p::ns)::rows)∧p≠0 ∧
 Answers t L H (aA (Ql49Neutral.step m ((p::ns)::rows)).1) (Ql49Neutral.step m ((p::ns)::rows)).2 Q
theorem y8w:FnScope ["cpu","instructions","call","numbers","lists"] ["cpu","instructions","call","numbers","lists"] (aL (top 249)):=⟨rfl,rfl,rfl,by decide +kernel,rfl,by decide +kernel,by decide +kernel⟩
theorem y3h{f:Addr}{fd:FuncData}(N:Nm K mg "answer_call" (top 249) ["cpu","instructions","call","numbers","lists"] f fd)(F7:Fns7 P w K mg base t CI)(T:Tok0 K mg t):FnOk P w K mg base CX0 13 f fd ["cpu","instructions","call","numbers","lists"] (y0h t CI):=by
 obtain⟨fl,fld_,NL,GL⟩:=F7.l
 obtain⟨fk,fkd,NK,GK⟩:=F7.k
 obtain⟨fa,fad,NA,GA⟩:=F7.a
 obtain⟨fr,frd,NR,GR⟩:=F7.r
 obtain⟨fw,fwd,NW,GW⟩:=F7.w_
 obtain⟨fg,fgd,NG,GG⟩:=F7.g
 obtain⟨fs,fsd,NS,GS⟩:=F7.s
 have c1:=T.gc "CPU_LOAD" 1 (by decide +kernel)
 have c2:=T.gc "CPU_LOOK" 2 (by decide +kernel)
 have c3:=T.gc "CPU_ASK" 3 (by decide +kernel)
 have c4:=T.gc "CPU_RUN" 4 (by decide +kernel)
 have c5:=T.gc "CPU_WHY" 5 (by decide +kernel)
 have c6:=T.gc "CPU_GET" 6 (by decide +kernel)
 have c7:=T.gc "CPU_SET" 7 (by decide +kernel)
 refine N.fn.ok y8w (fun vs H Q E h=>?_) (fun cdv A outer s H vs Q E hr h=>?_)
 ·obtain⟨L,m,ia,di,lo,lp,na,nl,p,ns,ps,rows,_,_,_,rfl,_⟩:=h
  rfl
 ·obtain⟨L,m,ia,di,lo,lp,na,nl,p,ns,ps,rows,A0,hok,I0,rfl,hna,hnl,fnl,hp,hf,hp0,k⟩:=h
  have hr4:Room 4 _:=hr.mono (by decide)
  have hr3:Room 3 _:=hr.mono (by decide)
  have hr9:Room 9 _:=hr.mono (by decide)
  have hr1:Room 1 _:=hr.mono (by decide)
  have hr2:Room 2 _:=hr.mono (by decide)
  have hr10:Room 10 _:=hr.mono (by decide)
  refine⟨_,(aF (bW (cQ fV (pv 2) (aO (v:=.int 1) (by rfl) c1.choose_spec ⟨_,rfl⟩) (cA _)) (aK (aS (cP GL hr4 (by rfl) NL.mgf NL.fn.kp NL.bi .nil aR (aD (pv 0) (aD (cE ix_list (pv 3) pe_int (fun _ _=>rfl)) (aD (cE ix_list (pv 3) pe_int (fun _ _=>rfl)) (aD (pv 4) pa_nil))))))) pss_nil)
   (aF (bW (cQ fV (pv 2) (aO (v:=.int 2) (by rfl) c2.choose_spec ⟨_,rfl⟩) (cA _)) (aK (aS (cP GK hr3 (by rfl) NK.mgf NK.fn.kp NK.bi .nil aR (aD (pv 0) (aD (cE ix_list (pv 3) pe_int (fun _ _=>rfl)) (aD (cE ix_list (pv 3) pe_int (fun _ _=>rfl)) pa_nil)))))) pss_nil)
   (aF (bW (cQ fV (pv 2) (aO (v:=.int 3) (by rfl) c3.choose_spec ⟨_,rfl⟩) (cA _)) (aK (aS (cP GA hr9 (by rfl) NA.mgf NA.fn.kp NA.bi .nil aR (aD (pv 0) (aD (cE ix_list (pv 3) pe_int (fun _ _=>rfl)) pa_nil))))) pss_nil)
   (aF (bW (cQ fV (pv 2) (aO (v:=.int 4) (by rfl) c4.choose_spec ⟨_,rfl⟩) (cA _)) (aK (aS (cP GR hr (by rfl) NR.mgf NR.fn.kp NR.bi .nil aR (aD (pv 0) (aD (pv 1) (aD (cE ix_list (pv 3) pe_int (fun _ _=>rfl)) pa_nil)))))) pss_nil)
   (aF (bW (cQ fV (pv 2) (aO (v:=.int 5) (by rfl) c5.choose_spec ⟨_,rfl⟩) (cA _)) (aK (aS (cP GW hr1 (by rfl) NW.mgf NW.fn.kp NW.bi .nil aR (aD (pv 0) pa_nil)))) pss_nil)
   (aF (bW (cQ fV (pv 2) (aO (v:=.int 6) (by rfl) c6.choose_spec ⟨_,rfl⟩) (cA _)) (aK (aS (cP GG hr2 (by rfl) NG.mgf NG.fn.kp NG.bi .nil aR (aD (pv 0) (aD (cE ix_list (pv 3) pe_int (fun _ _=>rfl)) pa_nil))))) pss_nil)
   (aF (bW (cQ fV (pv 2) (aO (v:=.int 7) (by rfl) c7.choose_spec ⟨_,rfl⟩) (cA _)) (aK (aS (cP GS hr10 (by rfl) NS.mgf NS.fn.kp NS.bi .nil aR (aD (pv 0) (aD (cE ix_list (pv 3) pe_int (fun _ _=>rfl)) (aD (cE ix_list (pv 3) pe_int (fun _ _=>rfl)) pa_nil)))))) pss_nil)
   (aK z9M)))))))),?_⟩
  cases hf with
  |begin_=>exact absurd rfl hp0
  |load0 a n ha hn hz=>
   cases hp
   rw[_root_.Q.step_load0,_root_.Q.putAll_nil] at k
   refine⟨_,rfl,rfl,_,rfl,aM (fun _=>?_) (fun z=>absurd rfl z)⟩
   refine⟨_,rfl,_,rfl,na,_,(0:Int),_,rfl,rfl,SqL.of hna,bF (j:=0) rfl rfl,_,rfl,na,_,(1:Int),_,rfl,rfl,SqL.of hna,bF (j:=1) rfl rfl,_,rfl,L,aA m,a,n,nl,[],[],A0,rfl,hnl,fnl,.nil,by omega,?_⟩
   by_cases c:65536<n∨16777216<a+n
   ·rw[if_pos c] at k;rw[if_pos c,if_pos c];exact k
   ·rw[if_neg c] at k;rw[if_neg c,if_neg c];exact k
  |load a b ha h1 h2 hb=>
   rw[_root_.Q.step_load hb h2] at k
   refine⟨_,rfl,rfl,_,rfl,aM (fun _=>?_) (fun z=>absurd rfl z)⟩
   refine⟨_,rfl,_,rfl,na,_,(0:Int),_,rfl,rfl,SqL.of hna,bF (j:=0) rfl rfl,_,rfl,na,_,(1:Int),_,rfl,rfl,SqL.of hna,bF (j:=1) rfl rfl,_,rfl,L,aA m,a,b.length,nl,ps,[b.map fun(x:Nat)=>(x:Int)],A0,rfl,hnl,fnl,?_,by omega,?_⟩
   ·exact Paired.mapP2 hp (fun row hrow=>by rw[List.mem_singleton.mp hrow,List.length_map])
   ·by_cases c:16777216<a+b.length
    ·rw[if_pos c] at k;rw[if_pos (.inr c),if_pos (.inr c)];exact k
    ·rw[if_neg c] at k;rw[if_neg (by omega),if_neg (by omega)]
     show Answers t L H { aA m with mem:=eR (aA m).mem a (b.map fun(x:Nat)=>(x:Int)) } [0] Q
     rw[z9P]
     exact k
  |look a n ha hn=>
   rw[_root_.Q.step_look hok.mem] at k
   refine⟨_,rfl,rfl,_,rfl,aM (fun z=>absurd z (by decide)) (fun _=>?_)⟩
   refine⟨_,rfl,rfl,_,rfl,aM (fun _=>?_) (fun z=>absurd rfl z)⟩
   refine⟨_,rfl,_,rfl,na,_,(0:Int),_,rfl,rfl,SqL.of hna,bF (j:=0) rfl rfl,_,rfl,na,_,(1:Int),_,rfl,rfl,SqL.of hna,bF (j:=1) rfl rfl,L,m,a,n,A0,hok,rfl,?_⟩
   by_cases c:65536<n∨16777216<a+n
   ·rw[if_pos c] at k;rw[if_pos c];exact k
   ·rw[if_neg c] at k;rw[if_neg c];exact k
  |ask j hj=>
   refine⟨_,rfl,rfl,_,rfl,aM (fun z=>absurd z (by decide)) (fun _=>?_)⟩
   refine⟨_,rfl,rfl,_,rfl,aM (fun z=>absurd z (by decide)) (fun _=>?_)⟩
   refine⟨_,rfl,rfl,_,rfl,aM (fun _=>?_) (fun z=>absurd rfl z)⟩
   exact⟨_,rfl,_,rfl,na,_,(0:Int),_,rfl,rfl,SqL.of hna,bF (j:=0) rfl rfl,L,m,j,A0,hok,rfl,k⟩
  |run n hn=>
   rw[_root_.Q.step_run] at k
   refine⟨_,rfl,rfl,_,rfl,aM (fun z=>absurd z (by decide)) (fun _=>?_)⟩
   refine⟨_,rfl,rfl,_,rfl,aM (fun z=>absurd z (by decide)) (fun _=>?_)⟩
   refine⟨_,rfl,rfl,_,rfl,aM (fun z=>absurd z (by decide)) (fun _=>?_)⟩
   refine⟨_,rfl,rfl,_,rfl,aM (fun _=>?_) (fun z=>absurd rfl z)⟩
   refine⟨_,rfl,_,rfl,_,rfl,na,_,(0:Int),_,rfl,rfl,SqL.of hna,bF (j:=0) rfl rfl,L,m,ia,di,lo,lp,n,A0,hok,I0,rfl,?_⟩
   by_cases c:10000000<n
   ·rw[if_pos c] at k;rw[if_pos c,if_pos c];exact k
   ·rw[if_neg c] at k;rw[if_neg c,if_neg c];exact k
  |why=>
   refine⟨_,rfl,rfl,_,rfl,aM (fun z=>absurd z (by decide)) (fun _=>?_)⟩
   refine⟨_,rfl,rfl,_,rfl,aM (fun z=>absurd z (by decide)) (fun _=>?_)⟩
   refine⟨_,rfl,rfl,_,rfl,aM (fun z=>absurd z (by decide)) (fun _=>?_)⟩
   refine⟨_,rfl,rfl,_,rfl,aM (fun z=>absurd z (by decide)) (fun _=>?_)⟩
   refine⟨_,rfl,rfl,_,rfl,aM (fun _=>?_) (fun z=>absurd rfl z)⟩
   exact⟨_,rfl,L,aA m,A0,rfl,k⟩
  |get j hj=>
   refine⟨_,rfl,rfl,_,rfl,aM (fun z=>absurd z (by decide)) (fun _=>?_)⟩
   refine⟨_,rfl,rfl,_,rfl,aM (fun z=>absurd z (by decide)) (fun _=>?_)⟩
   refine⟨_,rfl,rfl,_,rfl,aM (fun z=>absurd z (by decide)) (fun _=>?_)⟩
   refine⟨_,rfl,rfl,_,rfl,aM (fun z=>absurd z (by decide)) (fun _=>?_)⟩
   refine⟨_,rfl,rfl,_,rfl,aM (fun z=>absurd z (by decide)) (fun _=>?_)⟩
   refine⟨_,rfl,rfl,_,rfl,aM (fun _=>?_) (fun z=>absurd rfl z)⟩
   refine⟨_,rfl,_,rfl,na,_,(0:Int),_,rfl,rfl,SqL.of hna,bF (j:=0) rfl rfl,L,m,j,A0,rfl,?_⟩
   have e:(Ql49Neutral.step m [[6,(j:Int)]]).1=m:=by
    rw[_root_.Q.step_get];split <;> rfl
   rw[e] at k
   exact k
  |set j z hj hz=>
   refine⟨_,rfl,rfl,_,rfl,aM (fun z=>absurd z (by decide)) (fun _=>?_)⟩
   refine⟨_,rfl,rfl,_,rfl,aM (fun z=>absurd z (by decide)) (fun _=>?_)⟩
   refine⟨_,rfl,rfl,_,rfl,aM (fun z=>absurd z (by decide)) (fun _=>?_)⟩
   refine⟨_,rfl,rfl,_,rfl,aM (fun z=>absurd z (by decide)) (fun _=>?_)⟩
   refine⟨_,rfl,rfl,_,rfl,aM (fun z=>absurd z (by decide)) (fun _=>?_)⟩
   refine⟨_,rfl,rfl,_,rfl,aM (fun z=>absurd z (by decide)) (fun _=>?_)⟩
   refine⟨_,rfl,rfl,_,rfl,aM (fun _=>?_) (fun z=>absurd rfl z)⟩
   exact⟨_,rfl,_,rfl,na,_,(0:Int),_,rfl,rfl,SqL.of hna,bF (j:=0) rfl rfl,_,rfl,na,_,(1:Int),_,rfl,rfl,SqL.of hna,bF (j:=1) rfl rfl,L,m,j,z,A0,hok,rfl,k⟩
end
end EV
end
section
namespace EV
open PySem L2 SM
theorem y7j{l:List Int}(h:PyQl49.answers_asked l=true):l[0]?=some 0:=by
 unfold PyQl49.answers_asked at h
 cases e:PyQl49.calls l with
 |none=>rw[e] at h;cases h
 |some cs=>
  rw[e] at h
  have h':(PyFlat.atMost 300 cs&&Ql49Neutral.asked cs&&PyFlat.short 10000000 (PyQl49.answers l))=true:=h
  simp only[Bool.and_eq_true] at h'
  obtain⟨⟨_,h2⟩,_⟩:=h'
  have h2':(cs.all Ql49Neutral.asked1&&((cs.head?).map Ql49Neutral.begins).getD false)=true:=h2
  simp only[Bool.and_eq_true] at h2'
  have hb:=h2'.2
  have e':PyWide.calls l.length l=some cs:=e
  cases l with
  |nil=>
   have:cs=[]:=(Option.some.inj e').symm
   subst this
   cases hb
  |cons p r=>
   have e2:(match PyWide.call (p::r) with|none=>none|some (c,t)=>match PyWide.calls r.length t with|none=>none|some cs=>some (c::cs))=some cs:=e'
   cases e3:PyWide.call (p::r) with
   |none=>rw[e3] at e2;cases e2
   |some q=>
    obtain⟨c,u⟩:=q
    rw[e3] at e2
    dsimp only at e2
    cases e4:PyWide.calls r.length u with
    |none=>rw[e4] at e2;cases e2
    |some cs'=>
     rw[e4] at e2
     obtain rfl:c::cs'=cs:=Option.some.inj e2
     have hb':Ql49Neutral.begins c=true:=hb
     have hc:c=[[0]]:=by
      unfold Ql49Neutral.begins at hb'
      split at hb'
      ·rfl
      ·cases hb'
     subst hc
     unfold PyWide.call at e3
     dsimp only at e3
     split at e3
     ·cases e3
     ·cases e3
     ·split at e3
      ·split at e3
       ·cases e3
       ·have:=(Prod.mk.inj (Option.some.inj e3)).1
        have:=(List.cons.inj this).1
        have:=(List.cons.inj this).1
        rw[this];rfl
      ·cases e3
theorem z9v{m:Ql49.St}{c:List (List Int)}(h:_root_.Q.Ok m)(hF:_root_.Q.Form c):_root_.Q.Ok (Ql49Neutral.step m c).1:=by
 cases hF with
 |begin_=>exact _root_.Q.ok_blank
 |load0 a n ha hn hz=>
  rw[_root_.Q.step_load0,_root_.Q.putAll_nil]
  split <;> exact h
 |load a b ha h1 h2 hb=>
  rw[_root_.Q.step_load hb h2]
  split
  ·exact h
  ·refine⟨h.a,h.x,h.y,h.d,h.s,h.pc,h.pb,h.db,fun j=>?_,h.nx,h.em⟩
   show (if a≤j∧j<a+b.length then b.getD (j - a) 0 else m.mem j)<256
   split
   ·rename_i c
    rw[List.getD_eq_getElem?_getD,List.getElem?_eq_getElem (by omega)]
    exact hb _ (List.getElem_mem _)
   ·exact h.mem j
 |look a n ha hn=>
  rw[_root_.Q.step_look h.mem]
  split <;> exact h
 |ask j hj=>
  rw[_root_.Q.step_ask]
  split
  ·exact _root_.Q.ok_reset h
  ·split
   ·exact⟨h.a,h.x,h.y,h.d,h.s,h.pc,h.pb,h.db,h.mem,h.nx,h.em⟩
   ·split
    ·exact⟨h.a,h.x,h.y,h.d,h.s,h.pc,h.pb,h.db,h.mem,h.nx,h.em⟩
    ·split
     ·exact⟨h.a,h.x,h.y,h.d,h.s,h.pc,h.pb,h.db,h.mem,h.nx,h.em⟩
     ·exact h
 |run n hn=>
  rw[_root_.Q.step_run]
  split
  ·exact h
  ·exact _root_.Q.ok_steps n h
 |why=>exact h
 |get j hj=>
  rw[_root_.Q.step_get]
  split <;> exact h
 |set j z hj hz=>
  rw[_root_.Q.step_set]
  cases e:m.change_ j z with
  |none=>exact h
  |some t=>exact z4G h e
noncomputable def SqF(K:PySem.W.Frag)(H:Hp)(a:Addr)(xs:List V):Prop:=(∃ o,H a=some (.frz o (.lst xs)))∨∃(o:Obj) (its:Array Value) (n:Nat),K.lookup a=some o∧o.cls=.type "list"∧o.dict=none∧o.data=.seq its n∧its.size≤sizeLine∧Vals xs its.toList
theorem SqF.sq{K:PySem.W.Frag}{H:Hp}{a:Addr}{xs:List V}(h:SqF K H a xs):SqL K H a xs:=by
 rcases h with ⟨o,h⟩|h
 ·exact .inl (.inr ⟨o,h⟩)
 ·exact .inr h
theorem SqF.keep{K:PySem.W.Frag}{H H':Hp}{a:Addr}{xs:List V}(h:SqF K H a xs)(k:∀ o,H a=some (.frz o (.lst xs))→H' a=some (.frz o (.lst xs))):SqF K H' a xs:=by
 rcases h with ⟨o,h⟩|h
 ·exact .inl ⟨o,k o h⟩
 ·exact .inr h
theorem At.noFrz{t:Tx}{L:Lay}{H:Hp}{m:M}(A:At t L H m){a:Addr}{o:Obj}{u:HO}(h:H a=some (.frz o u)):¬ bK L a:=by
 rintro(z|z|z|z|⟨i,hi,z⟩)
 ·rw[z,A.c] at h;cases h
 ·rw[z,A.mm] at h;cases h
 ·rw[z,A.bl] at h;cases h
 ·rw[z,A.wl] at h;cases h
 ·obtain⟨xs,g,_⟩:=A.bk i hi
  rw[z,g] at h;cases h
theorem At.kp{t:Tx}{L:Lay}{H H':Hp}{m:M}{r:Addr}(A:At t L H m)(k:Kp r H H')(n:¬ bK L r):At t L H' m:=
 ⟨k _ _ A.c (fun z=>n (.inl z.symm)),k _ _ A.mm (fun z=>n (.inr (.inl z.symm))),k _ _ A.bl (fun z=>n (.inr (.inr (.inl z.symm)))),k _ _ A.wl (fun z=>n (.inr (.inr (.inr (.inl z.symm))))),fun b hb=>let ⟨xs,h1,h2⟩:=A.bk b hb;⟨xs,k _ _ h1 (fun z=>n (.inr (.inr (.inr (.inr ⟨b,hb,z.symm⟩))))),h2⟩,A.inj,A.w0,A.nl,A.bw,A.cm,A.z⟩
noncomputable def tZ(t:Tx)(CI:Addr):Sp:=fun vs H Q _=>∃(x dx:Addr),vs=[.ref x]∧H x=some (.ins CI dx [])∧∀ lo lp H',H' x=some (.ins CI dx [("operations",.ref lo),("places",.ref lp)])→H' lo=some (.lst ((List.range 256).map (opV t)))→H' lp=some (.lst ((List.range 256).map (plV t)))→Kp x H H'→H lo=none→H lp=none→Q .non H'
structure AnsI(K:PySem.W.Frag)(t:Tx)(CI CR:Addr)(l:List Int)(H:Hp)(r dr a td ia di lo lp:Addr)(i:Nat)(out:List Int):Prop where
 hr:H r=some (.ins CR dr (dM a i))
 hs:SqF K H a (l.map V.int)
 ht:H td=some (.lst (out.map V.int))
 hi:H ia=some (.ins CI di [("operations",.ref lo),("places",.ref lp)])
 ho:H lo=some (.lst ((List.range 256).map (opV t)))
 hp:H lp=some (.lst ((List.range 256).map (plV t)))
 n1:ia≠r
 n2:lo≠td
 n3:lp≠td
noncomputable def CpuI(t:Tx)(H:Hp)(r td ia lo lp:Addr)(c:V)(m:Ql49.St)(i:Nat):Prop:=
 (c=.non∧i=0∧m=Ql49.blank)∨∃ L,c=.ref L.c∧At t L H (aA m)∧_root_.Q.Ok m∧¬ bK L r∧¬ bK L td∧¬ bK L ia∧¬ bK L lo∧¬ bK L lp
section
variable{P:Program}{w:World}{K:PySem.W.Frag}{mg:Str→Option Value}{base:Heap}{t:Tx}{CI CR sa:Addr}
noncomputable def jF(K:PySem.W.Frag):Sp:=fun vs H Q _=>∃(a:Addr) (l:List Int),vs=[.ref a]∧SqF K H a (l.map V.int)∧l.length≤sizeLine∧PyQl49.answers_asked l=true∧∀ b H',H' b=some (.lst ((PyQl49.answers l).map V.int))→Q (.ref b) H'
structure AnsT(P:Program)(w:World)(K:PySem.W.Frag)(mg:Str→Option Value)(base:Heap)(t:Tx)(CI CR:Addr):Prop where
 r0:∃ f fd,Mk K CR f∧FnOk P w K mg base CX0 1 f fd ["self","calls"] (z3V CR)∧Binds K fd ["self","calls"] []
 mr:mg "Reader"=some (.ref CR)
 i0:∃ f fd,Mk K CI f∧FnOk P w K mg base CX0 5 f fd ["self"] (tZ t CI)∧Binds K fd ["self"] []
 mi:mg "Instructions"=some (.ref CI)
 c0:∃ f fd,Mk K t.CC f∧FnOk P w K mg base CX0 4 f fd ["self"] (tY t)∧Binds K fd ["self"] []
 mc:mg "Cpu"=some (.ref t.CC)
 h:∃ f fd,Meth K CR "has_more" f∧FnOk P w K mg base CX0 1 f fd ["self"] (y6L K CR)∧Binds K fd ["self"] []
 n:∃ f fd,Meth K CR "take_number" f∧FnOk P w K mg base CX0 1 f fd ["self"] (pG K CR)∧Binds K fd ["self"] []
 ns:∃ f fd,Meth K CR "take_numbers" f∧FnOk P w K mg base CX0 2 f fd ["self"] (wJ K CR)∧Binds K fd ["self"] []
 ls:∃ f fd,Meth K CR "take_lists" f∧FnOk P w K mg base CX0 3 f fd ["self"] (z6n K CR)∧Binds K fd ["self"] []
 q:∃ f fd,Nm K mg "answer_call" (top 249) ["cpu","instructions","call","numbers","lists"] f fd∧FnOk P w K mg base CX0 13 f fd ["cpu","instructions","call","numbers","lists"] (y0h t CI)
theorem scAns:FnScope ["calls","reader","cpu","instructions","told","call","numbers","lists","answer"] ["calls"] (aL (top 248)):=⟨rfl,rfl,rfl,by decide +kernel,rfl,by decide +kernel,by decide +kernel⟩
theorem z4E{f:Addr}{fd:FuncData}(N:Nm K mg "answers" (top 248) ["calls"] f fd)(X:AnsT P w K mg base t CI CR)(TR:RdT K mg CR)(T:Tok0 K mg t):FnOk P w K mg base CX0 14 f fd ["calls"] (jF K):=by
 obtain⟨fR,fRd,MR,GR,bR⟩:=X.r0
 have mgR:=X.mr
 obtain⟨fI,fId,MI,GI,bI⟩:=X.i0
 have mgI:=X.mi
 obtain⟨fC,fCd,MC,GC4,bC⟩:=X.c0
 have mgC:=X.mc
 obtain⟨fH,fHd,mH,GH,bH⟩:=X.h
 obtain⟨fT,fTd,mT,GT,bT⟩:=X.n
 obtain⟨fN,fNd,mN,GN,bN⟩:=X.ns
 obtain⟨fS,fSd,mS,GS,bS⟩:=X.ls
 obtain⟨fQ,fQd,NQ,GQ⟩:=X.q
 have c0:=T.gc "CPU_BEGIN" 0 (by decide +kernel)
 have k0:=T.gc "DONE" 0 (by decide +kernel)
 refine N.fn.ok scAns (fun vs H Q E h=>?_) (fun cdv A outer s H vs Q E hr h=>?_)
 ·obtain⟨a,l,rfl,_⟩:=h
  rfl
 ·obtain⟨a,l,rfl,hs,hl,hask,k⟩:=h
  have hr1:Room 1 _:=hr.mono (by decide)
  have hr2:Room 2 _:=hr.mono (by decide)
  have hr3:Room 3 _:=hr.mono (by decide)
  have hr5:Room 5 _:=hr.mono (by decide)
  have hr6:Room 6 _:=hr.mono (by decide)
  refine⟨_,(aF (aW (i:=1) scAns.nd rfl (Or.inl rfl) (y3o MR GR hr2 (by rfl) mgR bR .nil aR (aD (pv 0) pa_nil)))
   (aF (aW (i:=2) scAns.nd rfl (Or.inl rfl) pe_non)
   (aF (aW (i:=3) scAns.nd rfl (Or.inl rfl) (uS MI GI hr6 (by rfl) mgI bI .nil aR))
   (aF (aW (i:=4) scAns.nd rfl (Or.inl rfl) (cF pa_nil))
   (aF (z3D PassesOwn.never (dD (iG (pv 1) TR.cr mH GH hr1 bH .nil aR)) (aF (aW (i:=5) scAns.nd rfl (Or.inl rfl) (iG (pv 1) TR.cr mT GT hr1 bT .nil aR))
   (aF (aW (i:=6) scAns.nd rfl (Or.inl rfl) (iG (pv 1) TR.cr mN GN hr2 bN .nil aR))
   (aF (aW (i:=7) scAns.nd rfl (Or.inl rfl) (iG (pv 1) TR.cr mS GS hr3 bS .nil aR))
   (aF (bW (cQ fV (pv 5) (aO (v:=.int 0) (by rfl) c0.choose_spec ⟨_,rfl⟩) (cA _)) (aF (aW (i:=2) scAns.nd rfl (Or.inl rfl) (uS MC GC4 hr5 (by rfl) mgC bC .nil aR))
   (aK (aW (i:=8) scAns.nd rfl (Or.inl rfl) (cF (aD (aO (v:=.int 0) (by rfl) k0.choose_spec ⟨_,rfl⟩) pa_nil))))) (aK (aW (i:=8) scAns.nd rfl (Or.inl rfl) (cP GQ hr (by rfl) NQ.mgf NQ.fn.kp NQ.bi .nil aR (aD (pv 2) (aD (pv 3) (aD (pv 5) (aD (pv 6) (aD (pv 7) pa_nil)))))))))
   (aF (bV (dU PySem.F.plainAttrs_list PySem.F.slot_list_append PySem.F.type_list_append kE (pv 4) (aD (z3z z0y (by rfl) TR.len PySem.boot_len (aD (pv 8) pa_nil)) pa_nil)))
   (aK (bV (dU PySem.F.plainAttrs_list PySem.F.slot_list_extend PySem.F.type_list_extend z6N (pv 4) (aD (pv 8) pa_nil))))))))))
   (aK (aS (pv 4)))))))),?_⟩
  refine⟨_,rfl,?_⟩
  intro r dr hrn hdn ndr
  refine⟨r,dr,a,rfl,aH,fun H1 h1 k1=>⟨rfl,?_⟩⟩
  have s1:SqF K H1 a (l.map V.int):=hs.keep fun o z=>k1 a _ (by rw[aC (aJ z hrn),aC (aJ z hdn)];exact z) (aJ z hrn)
  intro ia di hin hidn ndi
  refine⟨ia,di,rfl,aH,fun lo lp H2 g1 g2 g3 k2 glo glp=>⟨rfl,?_⟩⟩
  have nri:r≠ia:=aJ h1 hin
  have up1:∀ b o,H1 b=some o→upd (upd H1 di (.own ia)) ia (.ins CI di []) b=some o:=fun b o z=>by rw[aC (aJ z hin),aC (aJ z hidn)];exact z
  have h2:=k2 r _ (up1 _ _ h1) nri
  have s2:=s1.keep fun o z=>k2 a _ (up1 _ _ z) (aJ z hin)
  refine⟨by show 0≤sizeLine;decide,fun td htd=>?_⟩
  have up2:=aY htd (o:=.lst [])
  have I0:AnsI K t CI CR l (upd H2 td (.lst [])) r dr a td ia di lo lp 0 []:=⟨up2 _ _ h2,s2.keep fun o z=>up2 _ _ z,aH,up2 _ _ g1,up2 _ _ g2,up2 _ _ g3,Ne.symm nri,aJ g2 htd,aJ g3 htd⟩
  obtain⟨R0,hshort⟩:=_root_.Q.rest_start hask
  have hb0:=y7j hask
  refine⟨fun μ σ H'=>∃(i:Nat) (out:List Int) (m:Ql49.St) (c:V) (v5 v6 v7 v8:Option V),μ=l.length - i∧i≤l.length∧AnsI K t CI CR l H' r dr a td ia di lo lp i out∧CpuI t H' r td ia lo lp c m i∧_root_.Q.Rest l i m out∧σ=[some (.ref a),some (.ref r),some c,some (.ref ia),some (.ref td),v5,v6,v7,v8],
   ⟨l.length,0,[],Ql49.blank,.non,none,none,none,none,rfl,Nat.zero_le _,I0,.inl ⟨rfl,rfl,rfl⟩,R0,rfl⟩,?_⟩
  rintro μ σ H3 ⟨i,out,m,c,v5,v6,v7,v8,rfl,hi,I,C,R,rfl⟩
  refine⟨_,rfl,r,dr,_,rfl,I.hr,rfl,r,dr,a,i,_,rfl,I.hr,I.hs.sq,_,rfl,?_⟩
  refine aM (fun z=>?_) (fun z=>?_)
  ·have hlt:i<l.length:=by have:=of_decide_eq_true z;rw[List.length_map] at this;omega
   refine⟨_,fun _ _ z=>z,?_⟩
   obtain⟨p,ns,xs,j,CA,as1,R'⟩:=_root_.Q.rest_turn R hlt
   have hF:=_root_.Q.form_of as1
   have hx1:xs.length≤1:=by
    generalize e:((p::ns)::xs)=q at hF
    cases hF <;> (cases e;first|decide|exact Nat.le_refl 1)
   refine⟨_,rfl,r,dr,_,rfl,I.hr,rfl,r,dr,a,i,_,p,rfl,I.hr,I.hs.sq,by rw[List.getElem?_map,CA.hp];rfl,fun H4 h4 k4 f4=>?_⟩
   have s4:=I.hs.keep fun o z=>k4 a _ z (aX z I.hr (by intro q;cases q))
   have hl2:=CA.hl
   refine⟨_,rfl,r,dr,_,rfl,h4,rfl,r,dr,a,i+1,ns.length,_,rfl,h4,s4.sq,by rw[List.getElem?_map,CA.hn];rfl,by rw[List.length_map];omega,fun na H5 hna h5 k5 hna5 f5=>?_⟩
   have s5:=s4.keep fun o z=>k5 a _ z (aX z h4 (by intro q;cases q))
   have ei:i+1+1+ns.length=i+2+ns.length:=by omega
   have ens:(((l.map V.int).drop (i+1+1)).take ns.length)=ns.map V.int:=by
    rw[←List.map_drop,←List.map_take]
    exact congrArg (List.map V.int) CA.hns.symm
   rw[ens] at hna5
   rw[ei] at h5
   refine⟨_,rfl,r,dr,_,rfl,h5,rfl,r,dr,a,i+2+ns.length,j,l,xs,rfl,h5,s5.sq,hl,CA.hk,by omega,by omega,by rw[show i+2+ns.length+1=i+3+ns.length by omega];exact CA.rows,CA.hj,fun nl ps H6 hnl h6 k6 hnl6 hps=>?_⟩
   have k46:=k4.trans (k5.trans k6)
   have s6:=s5.keep fun o z=>k6 a _ z (aX z h5 (by intro q;cases q))
   have ntd:td≠r:=aX I.ht I.hr (by intro q;cases q)
   have I6:AnsI K t CI CR l H6 r dr a td ia di lo lp j out:=⟨h6,s6,k46 _ _ I.ht ntd,k46 _ _ I.hi I.n1,k46 _ _ I.ho (aX I.ho I.hr (by intro q;cases q)),k46 _ _ I.hp (aX I.hp I.hr (by intro q;cases q)),I.n1,I.n2,I.n3⟩
   have hna6:=k6 _ _ hna5 (aX hna5 h5 (by intro q;cases q))
   refine⟨_,rfl,rfl,_,rfl,aM (fun e0=>?_) (fun e0=>?_)⟩
   ·have ep:p=0:=V.int.inj (of_decide_eq_true e0)
    obtain⟨en,ex⟩:ns=[]∧xs=[]:=by
     generalize e:((p::ns)::xs)=q at hF
     cases hF <;> (cases e;first|exact⟨rfl,rfl⟩|cases ep)
    subst ep en ex
    intro x dx hx hdx ndx
    refine⟨x,dx,rfl,aH,fun L8 H7 eL A7 k7 f7=>⟨rfl,?_⟩⟩
    refine⟨by show 1≤sizeLine;decide,fun q hq=>?_⟩
    have up6:∀ b o,H6 b=some o→H7 b=some o:=fun b o z=>k7 b o (by rw[aC (aJ z hx),aC (aJ z hdx)];exact z) (aJ z hx)
    have nf:∀ b o,H6 b=some o→¬ bK L8 b:=fun b o z fb=>by
     rcases f7 b fb with y|y
     ·exact aJ z hx y
     ·rw[aC (aJ z hx),aC (aJ z hdx),z] at y;cases y
    have up8:∀ b o,H6 b=some o→upd H7 q (.lst [V.int 0]) b=some o:=fun b o z=>aY hq b o (up6 b o z)
    have I8:AnsI K t CI CR l (upd H7 q (.lst [V.int 0])) r dr a td ia di lo lp j out:=⟨up8 _ _ I6.hr,I6.hs.keep fun o z=>up8 _ _ z,up8 _ _ I6.ht,up8 _ _ I6.hi,up8 _ _ I6.ho,up8 _ _ I6.hp,I.n1,I.n2,I.n3⟩
    have A8:=A7.same (aY hq (o:=.lst [V.int 0]))
    have R8:=R'
    have hq8:upd H7 q (.lst [V.int 0]) q=some (.lst (([0]:List Int).map V.int)):=aH
    have nq:td≠q:=aJ (up6 _ _ I6.ht) hq
    have fr:=nf _ _ I6.hr
    have ft:=nf _ _ I6.ht
    have fi:=nf _ _ I6.hi
    have fo:=nf _ _ I6.ho
    have fp:=nf _ _ I6.hp
    have ok8:=_root_.Q.ok_blank
    rw[←eL]
    generalize upd H7 q (.lst [V.int 0])=H8 at I8 A8 hq8 ⊢
    generalize hans:([0]:List Int)=ans at hq8
    have R8:_root_.Q.Rest l j Ql49.blank (out++(ans.length:Int)::ans):=by rw[←hans];exact R'
    generalize Ql49.blank=m8 at A8 ok8 R8
    have hlen:(out++(ans.length:Int)::ans).length≤10000000:=by
     obtain⟨_,_,_,_,e3⟩:=R8.ex
     have:=congrArg List.length e3
     rw[List.length_append] at this
     omega
    have hl0:out.length+(1+ans.length)≤10000000:=by
     rw[List.length_append,List.length_cons] at hlen;omega
    refine⟨_,rfl,.inl ⟨rfl,_,SqL.of I8.ht⟩,_,rfl,q,_,rfl,.inl (SqL.of hq8),td,_,_,rfl,rfl,I8.ht,?_,?_⟩
    ·rw[List.length_map];exact Nat.lt_of_lt_of_le (show out.length<10000001 by omega) (by decide)
    ·have hq9:upd H8 td (.lst (out.map V.int++[.int ((ans.map V.int).length:Int)])) q=some (.lst (ans.map V.int)):=by rw[aC (Ne.symm nq)];exact hq8
     refine⟨_,rfl,.inl ⟨rfl,_,SqL.of aH⟩,_,rfl,td,q,_,_,rfl,rfl,aH,hq9,?_,?_⟩
     ·rw[List.length_append,List.length_map,List.length_map]
      exact Nat.le_trans (show out.length+1+ans.length≤10000001 by omega) (by decide)
     ·have k9:Kp td H8 (upd (upd H8 td (.lst (out.map V.int++[.int ((ans.map V.int).length:Int)]))) td (.lst (out.map V.int++[.int ((ans.map V.int).length:Int)]++ans.map V.int))):=Kp.upd.trans Kp.upd
      have hlt2:=CA.lt
      have hj2:=CA.hj
      refine⟨l.length - j,by omega,j,out++(ans.length:Int)::ans,m8,.ref L8.c,_,_,_,_,rfl,CA.hj,⟨k9 _ _ I8.hr (Ne.symm ntd),I8.hs.keep fun o z=>k9 _ _ z (aX z I8.ht (by intro q;cases q)),?_,k9 _ _ I8.hi (aX I8.hi I8.ht (by intro q;cases q)),k9 _ _ I8.ho I.n2,k9 _ _ I8.hp I.n3,I.n1,I.n2,I.n3⟩,.inr ⟨L8,rfl,A8.kp k9 ft,ok8,fr,ft,fi,fo,fp⟩,R8,rfl⟩
      rw[aH,List.map_append,List.map_cons,List.length_map,List.append_assoc]
      rfl
   ·have ep:p≠0:=fun z=>e0 (by rw[z];rfl)
    obtain⟨L,rfl,A3,ok3,fr3,ft3,fi3,fo3,fp3⟩:∃ L,c=.ref L.c∧At t L H3 (aA m)∧_root_.Q.Ok m∧¬ bK L r∧¬ bK L td∧¬ bK L ia∧¬ bK L lo∧¬ bK L lp:=by
     rcases C with ⟨_,z,_⟩|z
     ·subst z
      have:=CA.hp
      rw[hb0] at this
      exact absurd (Option.some.inj this).symm ep
     ·exact z
    have A4:=A3.kp k4 fr3
    have A5:=A4.kp k5 fr3
    have A6:=A5.kp k6 fr3
    have J6:Ins t CI L H6 ia di lo lp:=⟨I6.hi,I6.ho,I6.hp,fi3,fo3,fp3⟩
    refine⟨_,rfl,_,rfl,_,rfl,_,rfl,_,rfl,L,m,ia,di,lo,lp,na,nl,p,ns,ps,xs,A6,ok3,J6,rfl,hna6,hnl6,A5.noneFoot hnl,Paired.mapP hps fun b row z=>⟨z.1,A5.noneFoot z.2⟩,hF,ep,fun L8 H8 q A8 X8 hq8 nfq nq0=>?_⟩
    have J8:=J6.ext X8
    obtain⟨g1,fr⟩:=X8.hold I6.hr fr3
    obtain⟨g2,ft⟩:=X8.hold I6.ht ft3
    have I8:AnsI K t CI CR l H8 r dr a td ia di lo lp j out:=⟨g1,I6.hs.keep fun o z=>(X8.hold z (A6.noFrz z)).1,g2,J8.i,J8.o,J8.p,I.n1,I.n2,I.n3⟩
    have fi:=J8.ni
    have fo:=J8.no
    have fp:=J8.np
    have nq:td≠q:=nq0 td _ I6.ht ft3
    have ok8:=z9v ok3 hF
    rw[←X8.c]
    generalize (Ql49Neutral.step m ((p::ns)::xs)).2=ans at hq8 R'
    have R8:=R'
    generalize (Ql49Neutral.step m ((p::ns)::xs)).1=m8 at A8 ok8 R8
    have hlen:(out++(ans.length:Int)::ans).length≤10000000:=by
     obtain⟨_,_,_,_,e3⟩:=R8.ex
     have:=congrArg List.length e3
     rw[List.length_append] at this
     omega
    have hl0:out.length+(1+ans.length)≤10000000:=by
     rw[List.length_append,List.length_cons] at hlen;omega
    refine⟨_,rfl,.inl ⟨rfl,_,SqL.of I8.ht⟩,_,rfl,q,_,rfl,.inl (SqL.of hq8),td,_,_,rfl,rfl,I8.ht,?_,?_⟩
    ·rw[List.length_map];exact Nat.lt_of_lt_of_le (show out.length<10000001 by omega) (by decide)
    ·have hq9:upd H8 td (.lst (out.map V.int++[.int ((ans.map V.int).length:Int)])) q=some (.lst (ans.map V.int)):=by rw[aC (Ne.symm nq)];exact hq8
     refine⟨_,rfl,.inl ⟨rfl,_,SqL.of aH⟩,_,rfl,td,q,_,_,rfl,rfl,aH,hq9,?_,?_⟩
     ·rw[List.length_append,List.length_map,List.length_map]
      exact Nat.le_trans (show out.length+1+ans.length≤10000001 by omega) (by decide)
     ·have k9:Kp td H8 (upd (upd H8 td (.lst (out.map V.int++[.int ((ans.map V.int).length:Int)]))) td (.lst (out.map V.int++[.int ((ans.map V.int).length:Int)]++ans.map V.int))):=Kp.upd.trans Kp.upd
      have hlt2:=CA.lt
      have hj2:=CA.hj
      refine⟨l.length - j,by omega,j,out++(ans.length:Int)::ans,m8,.ref L8.c,_,_,_,_,rfl,CA.hj,⟨k9 _ _ I8.hr (Ne.symm ntd),I8.hs.keep fun o z=>k9 _ _ z (aX z I8.ht (by intro q;cases q)),?_,k9 _ _ I8.hi (aX I8.hi I8.ht (by intro q;cases q)),k9 _ _ I8.ho I.n2,k9 _ _ I8.hp I.n3,I.n1,I.n2,I.n3⟩,.inr ⟨L8,rfl,A8.kp k9 ft,ok8,fr,ft,fi,fo,fp⟩,R8,rfl⟩
      rw[aH,List.map_append,List.map_cons,List.length_map,List.append_assoc]
      rfl
  ·have hge:l.length≤i:=by
    rcases Nat.lt_or_ge i l.length with q|q
    ·exact absurd (decide_eq_true (by rw[List.length_map];omega)) z
    ·exact q
   have eo:=_root_.Q.rest_end R hge
   refine⟨_,rfl,k td H3 ?_⟩
   rw[I.ht,eo]
end
end EV
end
section
namespace L2
open PySem PySem.Spec PyProof.Rows
structure DAt(P:Program)(w:World)(K:PySem.W.Frag)(a:Addr)(kvs:List (Key×V)):Prop where
 ex:∃(o:Obj) (es:Array DictEntry) (ep:Nat) (vs:List (Key×Value)),K.lookup a=some o∧o.ExactDict∧o.data=.dict es ep∧KeysOf (cN P w) es∧Pairs (cN P w) es.toList vs∧(vs.map (·.1)).Nodup∧KV kvs vs
 sm:(a==sysModules)=false
 ln:kvs.length≤sizeLine
theorem DAt.of{P:Program}{w:World}{K:PySem.W.Frag}{a:Addr}{kvs:List (Key×V)}(D:DAt P w K a kvs){h:Heap}(k:K.In h):∃ vs,KV kvs vs∧h.DictOf (cN P w) a vs:=by
 obtain⟨o,es,ep,vs,h1,h2,h3,h4,h5,h6,h7⟩:=D.ex
 exact⟨vs,h7,o,es,ep,k a o h1,h2,h3,h4,h5,h6⟩
section
variable{X:Cx}
theorem gB:pI X (.type "dict") (fun xs H Q=>∃(a:Addr) (kvs:List (Key×V)),xs=[.ref a]∧DAt X.prog X.w X.K a kvs∧∀ p,H p=none→Q (.ref p) (upd H p (.dK kvs))):=by
 intro pins s σ H xs us Q I r q
 obtain⟨a,kvs,ex,D,q⟩:=q
 subst ex
 obtain⟨u,eu,rx⟩:=y0H r
 subst eu
 cases rx
 obtain⟨vs,rel,dd⟩:=D.of I.kIn
 refine kt_call_dict D.sm dd (by rw[←rel.length];exact D.ln) fun h' dd' hs=>?_
 refine⟨.ref s.heap.objs.size,upd H s.heap.objs.size (.dK kvs),I.laid (a:=s.heap.objs.size) (o:=.dK kvs) (t':=s.toks) (fun b q hq=>?_) (Nat.le_refl _) (z8z D.ln (beq_eq_false_iff_ne.mpr (Ne.symm (Nat.ne_of_lt I.big))) rel dd'),rfl,q _ (I.hok.fresh (Nat.le_refl _))⟩
 exact(hs.2 b (Nat.ne_of_lt (Heap.lt_size hq))).trans (Heap.get?_push_of_some _ hq)
noncomputable def y3y:V→List V→Hp→VK→Prop:=fun x vs H Q=>∃ d e kvs more,x=.ref d∧vs=[.ref e]∧H d=some (.dK kvs)∧H e=some (.dK more)∧d≠e∧kvs.length+more.length≤sizeLine∧Q .non (upd H d (.dK (aG kvs more)))
theorem iE:MtR X "dict.update" y3y:=by
 intro pins s σ H x xs v us Q I rx rv h
 obtain⟨d,e,kvs,more,rfl,rfl,hd,he,hne,hz,q⟩:=h
 obtain⟨u,rfl,ru⟩:=y0H rv
 cases rx
 cases ru
 obtain⟨z1,sm1,vs1,rel1,dd1⟩:=y4D I.hok hd
 obtain⟨z2,sm2,vs2,rel2,dd2⟩:=y4D I.hok he
 refine call_meetsIn PySem.F.slot_dict_update dd1.typeIs PySem.F.entry_dict_update (PySem.F.args_dict_update_2 _ _) (meets_dict_update (cN X.prog X.w) d e hne sm2)
  ⟨vs1,vs2,dd1,dd2,by rw[←rel1.length,←rel2.length];exact hz,fun h' dd' _ hs=>⟨.non,_,?_,rfl,q⟩⟩
 have hl:(aG kvs more).length≤sizeLine:=Nat.le_trans (z0s more kvs) hz
 have he':∃ q,h'.get? d=some q:=let ⟨q,_,_,hq,_⟩:=dd';⟨q,hq⟩
 exact y2J (t':=s.toks) I (by rw[hd];exact True.intro) hs he' (z8z hl sm1 (rel2.merge rel1) dd')
noncomputable def y8G(P:Program)(w:World)(K:PySem.W.Frag)(td ty:TE):TE:=fun σ H Q=>td σ H fun x H1=>ty σ H1 fun y H2=>∃ a kvs k v,x=.ref a∧DAt P w K a kvs∧y=kV k∧bA kvs k=some v∧Q v H2
theorem z9E{o i:Expr}{pos:Pos}{td ty:TE}(ho:PE X o td)(hi:PE X i ty)(hs:NoSl i):PE X (.Subscript o i pos) (y8G X.prog X.w X.K td ty):=by
 intro pins s σ H Q I h
 refine z6p PySem.F.slot_dict_getitem.lookup hs (thn (ho pins s σ H _ I h) fun u s1 h00=>?_)
 obtain⟨x,H1,I1,rx,q1⟩:=h00
 refine thn (hi pins s1 σ H1 _ I1 q1) fun iv s2 h00=>?_
 obtain⟨y,H2,I2,ry,a,kvs,k,v,ex,D,ey,l,q2⟩:=h00
 subst ex ey
 obtain rfl:u=Value.ref a:=rx
 obtain⟨vs,rel,dd⟩:=D.of I2.kIn
 obtain⟨w',hw,rw'⟩:=RelO.some_of (v:=v) (o:=valueAt vs k) (by rw[←l];exact rel.val k)
 exact⟨dd.typeIs,wpAny_getItem_of (pN ry) dd.mapOf hw ⟨v,H2,I2.tok _,rw',q2⟩⟩
end
end L2
end
section
namespace EV
open PySem L2 SM
noncomputable def eI(l:List (String×Nat)):List (Key×V):=l.map fun p=>(Sum.inr (Str.ofString p.1),V.int (p.2:Int))
noncomputable def gV(t:Tx):V→V
 |.int i=>.ref (t.fa i.toNat)
 |v=>v
noncomputable def mpV(t:Tx)(kvs:List (Key×V)):List (Key×V):=kvs.map fun kv=>(kv.1,gV t kv.2)
theorem jM(t:Tx)(k:Key):∀ kvs:List (Key×V),bA (mpV t kvs) k=(bA kvs k).map (gV t)
 |[]=>rfl
 |p::r=>by
  by_cases e:p.1=k
  ·rw[lL e]
   exact lL (p:=(p.1,gV t p.2)) e
  ·rw[lK e,←jM t k r]
   exact lK (p:=(p.1,gV t p.2)) e
theorem y3v(t:Tx)(kvs:List (Key×V))(k:Key)(v:V):eQ (mpV t kvs) k (gV t v)=mpV t (eQ kvs k v):=by
 unfold eQ
 have e:((mpV t kvs).any fun kv=>decide (kv.1=k))=(kvs.any fun kv=>decide (kv.1=k)):=by unfold mpV;rw[List.any_map];rfl
 rw[e]
 split
 ·unfold mpV
  rw[List.map_map,List.map_map]
  congr 1
  funext kv
  show (if kv.1=k then (kv.1,gV t v) else (kv.1,gV t kv.2))=((if kv.1=k then (kv.1,v) else kv).1,gV t (if kv.1=k then (kv.1,v) else kv).2)
  split <;> rfl
 ·unfold mpV;rw[List.map_append];rfl
theorem dH(t:Tx)(kvs:List (Key×V)):(mpV t kvs).length=kvs.length:=List.length_map ..
theorem gT(t:Tx):∀(more kvs:List (Key×V)),aG (mpV t kvs) (mpV t more)=mpV t (aG kvs more)
 |[],_=>rfl
 |p::r,kvs=>by
  show aG (eQ (mpV t kvs) p.1 (gV t p.2)) (mpV t r)=mpV t (aG (eQ kvs p.1 p.2) r)
  rw[y3v,gT t r]
noncomputable def eJ:List (Key×V):=eI [("BRK i8",18),("COP i8",19),("RTI",20)]
noncomputable def cZ:List (Key×V):=eI [("BPL r",22),("BMI r",23),("BVC r",24),("BVS r",25),("BCC r",26),("BCS r",27),("BNE r",28),("BEQ r",29),("BRA r",30),("BRL rl",31),("JMP a",34),("JMP ai",35),("JMP aix",36),("JML al",37),("JML al2",38),("JSR a",40),("JSR aix",41),("JSL al",42),("RTS",43),("RTL",44)]
noncomputable def dA:List (Key×V):=eI [("LDA",54),("LDX",55),("LDY",56),("STA",57),("STX",58),("STY",59),("STZ",60),("ORA",61),("AND",62),("EOR",63),("CMP",65),("CPX",66),("CPY",67),("BIT",69),("BIT im",70),("TSB",71),("TRB",72)]
noncomputable def gX:List (Key×V):=eI [("MVN b",74),("MVP b",75),("WDM i8",76),("NOP",77),("WAI",78),("STP",79)]
noncomputable def tb_PLACES:List (Key×V):=eI [("d",80),("dx",81),("dy",82),("di",83),("dix",84),("diy",85),("dl",86),("dly",87),("a",88),("ax",89),("ay",90),("al",91),("alx",92),("sr",93),("siy",94),("im",95),("ix",96)]
noncomputable def eM:List (Key×V):=eI [("ASL",102),("ROL",103),("LSR",104),("ROR",105),("INC",106),("DEC",107)]
noncomputable def bZ:List (Key×V):=eI [("ASL A",108),("ROL A",109),("LSR A",110),("ROR A",111),("INC A",112),("DEC A",113),("INX",114),("INY",115),("DEX",116),("DEY",117)]
noncomputable def cG:List (Key×V):=eI [("PHA",120),("PHX",121),("PHY",122),("PLA",123),("PLX",124),("PLY",125),("PHP",126),("PLP",127),("PHD",128),("PLD",129),("PHB",130),("PLB",131),("PHK",132),("PEA w",133),("PER rl",135)]
noncomputable def gP:List (Key×V):=eI [("PEI",134)]
noncomputable def dC:List (Key×V):=eI [("ADC",139),("SBC",140)]
noncomputable def bY:List (Key×V):=eI [("TAX",141),("TAY",142),("TSX",143),("TXY",144),("TYX",145),("TXA",146),("TYA",147),("TXS",148),("TCS",149),("TSC",150),("TCD",151),("TDC",152),("XBA",153),("XCE",154),("CLC",155),("SEC",156),("CLI",157),("SEI",158),("CLD",159),("SED",160),("CLV",161),("REP i8",162),("SEP i8",163)]
noncomputable def atPl:List (Key×V):=aG (aG (aG (dA) dC) eM) gP
noncomputable def alone:List (Key×V):=aG (aG (aG (aG (aG (bY) bZ) cG) cZ) eJ) gX
structure DcT(P:Program)(w:World)(K:PySem.W.Frag)(mg:Str→Option Value)(t:Tx):Prop where
 dc:mg "dict"=none
 d_INTERRUPTS:∃ a,mg "INTERRUPTS"=some (.ref a)∧DAt P w K a (mpV t eJ)
 d_JUMPS:∃ a,mg "JUMPS"=some (.ref a)∧DAt P w K a (mpV t cZ)
 d_LOADS:∃ a,mg "LOADS"=some (.ref a)∧DAt P w K a (mpV t dA)
 d_MOVES:∃ a,mg "MOVES"=some (.ref a)∧DAt P w K a (mpV t gX)
 d_PLACES:∃ a,mg "PLACES"=some (.ref a)∧DAt P w K a (mpV t tb_PLACES)
 d_SHIFTS:∃ a,mg "SHIFTS"=some (.ref a)∧DAt P w K a (mpV t eM)
 d_COUNTS:∃ a,mg "COUNTS"=some (.ref a)∧DAt P w K a (mpV t bZ)
 d_STACK:∃ a,mg "STACK"=some (.ref a)∧DAt P w K a (mpV t cG)
 d_STACK_AT_PLACES:∃ a,mg "STACK_AT_PLACES"=some (.ref a)∧DAt P w K a (mpV t gP)
 d_SUMS:∃ a,mg "SUMS"=some (.ref a)∧DAt P w K a (mpV t dC)
 d_TRANSFERS:∃ a,mg "TRANSFERS"=some (.ref a)∧DAt P w K a (mpV t bY)
section
variable{P:Program}{w:World}{K:PySem.W.Frag}{mg:Str→Option Value}{base:Heap}{t:Tx}{CI CR sa:Addr}
noncomputable def qB(t:Tx)(kvs:List (Key×V)):Sp:=fun vs H Q _=>vs=[]∧∀ p H',H p=none→(∀ b o,H b=some o→H' b=some o)→H' p=some (.dK (mpV t kvs))→Q (.ref p) H'
theorem gA:bootBuiltins "dict"=some (.type "dict"):=by decide +kernel
theorem scAtPl:FnScope ["found"] [] (aL (top 209)):=⟨rfl,rfl,rfl,by decide +kernel,rfl,by decide +kernel,by decide +kernel⟩
theorem y3g{f:Addr}{fd:FuncData}(N:Nm K mg "operations_at_places" (top 209) [] f fd)(D:DcT P w K mg t):FnOk P w K mg base CX0 1 f fd [] (qB t atPl):=by
 obtain⟨a0,m0,D0⟩:=D.d_LOADS
 obtain⟨a1,m1,D1⟩:=D.d_SUMS
 obtain⟨a2,m2,D2⟩:=D.d_SHIFTS
 obtain⟨a3,m3,D3⟩:=D.d_STACK_AT_PLACES
 refine N.fn.ok scAtPl (fun vs H Q E h=>?_) (fun cdv A outer s H vs Q E hr h=>?_)
 ·obtain⟨rfl,_⟩:=h
  rfl
 ·obtain⟨rfl,k⟩:=h
  refine⟨_,(aF (aW (i:=0) scAtPl.nd rfl (Or.inl rfl) (gD gB (by rfl) D.dc gA (aD (aO (v:=.ref a0) (by rfl) m0 rfl) pa_nil)))
   (aF (bV (dU PySem.F.plainAttrs_dict PySem.F.slot_dict_update PySem.F.type_dict_update iE (pv 0) (aD (gD gB (by rfl) D.dc gA (aD (aO (v:=.ref a1) (by rfl) m1 rfl) pa_nil)) pa_nil)))
   (aF (bV (dU PySem.F.plainAttrs_dict PySem.F.slot_dict_update PySem.F.type_dict_update iE (pv 0) (aD (gD gB (by rfl) D.dc gA (aD (aO (v:=.ref a2) (by rfl) m2 rfl) pa_nil)) pa_nil)))
   (aF (bV (dU PySem.F.plainAttrs_dict PySem.F.slot_dict_update PySem.F.type_dict_update iE (pv 0) (aD (gD gB (by rfl) D.dc gA (aD (aO (v:=.ref a3) (by rfl) m3 rfl) pa_nil)) pa_nil)))
   (aK (aS (pv 0))))))),?_⟩
  refine⟨a0,_,rfl,D0,fun p0 h0=>?_⟩
  have s0:=aY h0 (o:=HO.dK (mpV t dA))
  have g0:=aH (H:=H) (a:=p0) (o:=HO.dK (mpV t dA))
  generalize upd H p0 (HO.dK (mpV t dA))=H0 at s0 g0 ⊢
  refine⟨_,rfl,.inr (.inr (.inl ⟨rfl,.inl ⟨_,g0⟩⟩)),a1,_,rfl,D1,fun p1 h1=>?_⟩
  have n1:p0≠p1:=aJ g0 h1
  refine⟨p0,p1,_,_,rfl,rfl,(by rw[aC n1];exact g0),aH,n1,(by rw[dH,dH];decide +kernel),?_⟩
  rw[gT]
  have s1:∀ b o,H b=some o→upd (upd H0 p1 (HO.dK (mpV t dC))) p0 (HO.dK (mpV t (aG (dA) dC))) b=some o:=fun b o z=>by rw[aC (aJ z h0)];exact aY h1 b o (s0 b o z)
  have g1:upd (upd H0 p1 (HO.dK (mpV t dC))) p0 (HO.dK (mpV t (aG (dA) dC))) p0=some (HO.dK (mpV t (aG (dA) dC))):=aH
  generalize upd (upd H0 p1 (HO.dK (mpV t dC))) p0 (HO.dK (mpV t (aG (dA) dC)))=H1 at s1 g1 ⊢
  refine⟨_,rfl,.inr (.inr (.inl ⟨rfl,.inl ⟨_,g1⟩⟩)),a2,_,rfl,D2,fun p2 h2=>?_⟩
  have n2:p0≠p2:=aJ g1 h2
  refine⟨p0,p2,_,_,rfl,rfl,(by rw[aC n2];exact g1),aH,n2,(by rw[dH,dH];decide +kernel),?_⟩
  rw[gT]
  have s2:∀ b o,H b=some o→upd (upd H1 p2 (HO.dK (mpV t eM))) p0 (HO.dK (mpV t (aG (aG (dA) dC) eM))) b=some o:=fun b o z=>by rw[aC (aJ z h0)];exact aY h2 b o (s1 b o z)
  have g2:upd (upd H1 p2 (HO.dK (mpV t eM))) p0 (HO.dK (mpV t (aG (aG (dA) dC) eM))) p0=some (HO.dK (mpV t (aG (aG (dA) dC) eM))):=aH
  generalize upd (upd H1 p2 (HO.dK (mpV t eM))) p0 (HO.dK (mpV t (aG (aG (dA) dC) eM)))=H2 at s2 g2 ⊢
  refine⟨_,rfl,.inr (.inr (.inl ⟨rfl,.inl ⟨_,g2⟩⟩)),a3,_,rfl,D3,fun p3 h3=>?_⟩
  have n3:p0≠p3:=aJ g2 h3
  refine⟨p0,p3,_,_,rfl,rfl,(by rw[aC n3];exact g2),aH,n3,(by rw[dH,dH];decide +kernel),?_⟩
  rw[gT]
  have s3:∀ b o,H b=some o→upd (upd H2 p3 (HO.dK (mpV t gP))) p0 (HO.dK (mpV t (aG (aG (aG (dA) dC) eM) gP))) b=some o:=fun b o z=>by rw[aC (aJ z h0)];exact aY h3 b o (s2 b o z)
  have g3:upd (upd H2 p3 (HO.dK (mpV t gP))) p0 (HO.dK (mpV t (aG (aG (aG (dA) dC) eM) gP))) p0=some (HO.dK (mpV t (aG (aG (aG (dA) dC) eM) gP))):=aH
  generalize upd (upd H2 p3 (HO.dK (mpV t gP))) p0 (HO.dK (mpV t (aG (aG (aG (dA) dC) eM) gP)))=H3 at s3 g3 ⊢
  exact⟨_,rfl,k p0 H3 h0 s3 g3⟩
theorem scAlone:FnScope ["found"] [] (aL (top 210)):=⟨rfl,rfl,rfl,by decide +kernel,rfl,by decide +kernel,by decide +kernel⟩
theorem z9r{f:Addr}{fd:FuncData}(N:Nm K mg "operations_alone" (top 210) [] f fd)(D:DcT P w K mg t):FnOk P w K mg base CX0 1 f fd [] (qB t alone):=by
 obtain⟨a0,m0,D0⟩:=D.d_TRANSFERS
 obtain⟨a1,m1,D1⟩:=D.d_COUNTS
 obtain⟨a2,m2,D2⟩:=D.d_STACK
 obtain⟨a3,m3,D3⟩:=D.d_JUMPS
 obtain⟨a4,m4,D4⟩:=D.d_INTERRUPTS
 obtain⟨a5,m5,D5⟩:=D.d_MOVES
 refine N.fn.ok scAlone (fun vs H Q E h=>?_) (fun cdv A outer s H vs Q E hr h=>?_)
 ·obtain⟨rfl,_⟩:=h
  rfl
 ·obtain⟨rfl,k⟩:=h
  refine⟨_,(aF (aW (i:=0) scAlone.nd rfl (Or.inl rfl) (gD gB (by rfl) D.dc gA (aD (aO (v:=.ref a0) (by rfl) m0 rfl) pa_nil)))
   (aF (bV (dU PySem.F.plainAttrs_dict PySem.F.slot_dict_update PySem.F.type_dict_update iE (pv 0) (aD (gD gB (by rfl) D.dc gA (aD (aO (v:=.ref a1) (by rfl) m1 rfl) pa_nil)) pa_nil)))
   (aF (bV (dU PySem.F.plainAttrs_dict PySem.F.slot_dict_update PySem.F.type_dict_update iE (pv 0) (aD (gD gB (by rfl) D.dc gA (aD (aO (v:=.ref a2) (by rfl) m2 rfl) pa_nil)) pa_nil)))
   (aF (bV (dU PySem.F.plainAttrs_dict PySem.F.slot_dict_update PySem.F.type_dict_update iE (pv 0) (aD (gD gB (by rfl) D.dc gA (aD (aO (v:=.ref a3) (by rfl) m3 rfl) pa_nil)) pa_nil)))
   (aF (bV (dU PySem.F.plainAttrs_dict PySem.F.slot_dict_update PySem.F.type_dict_update iE (pv 0) (aD (gD gB (by rfl) D.dc gA (aD (aO (v:=.ref a4) (by rfl) m4 rfl) pa_nil)) pa_nil)))
   (aF (bV (dU PySem.F.plainAttrs_dict PySem.F.slot_dict_update PySem.F.type_dict_update iE (pv 0) (aD (gD gB (by rfl) D.dc gA (aD (aO (v:=.ref a5) (by rfl) m5 rfl) pa_nil)) pa_nil)))
   (aK (aS (pv 0))))))))),?_⟩
  refine⟨a0,_,rfl,D0,fun p0 h0=>?_⟩
  have s0:=aY h0 (o:=HO.dK (mpV t bY))
  have g0:=aH (H:=H) (a:=p0) (o:=HO.dK (mpV t bY))
  generalize upd H p0 (HO.dK (mpV t bY))=H0 at s0 g0 ⊢
  refine⟨_,rfl,.inr (.inr (.inl ⟨rfl,.inl ⟨_,g0⟩⟩)),a1,_,rfl,D1,fun p1 h1=>?_⟩
  have n1:p0≠p1:=aJ g0 h1
  refine⟨p0,p1,_,_,rfl,rfl,(by rw[aC n1];exact g0),aH,n1,(by rw[dH,dH];decide +kernel),?_⟩
  rw[gT]
  have s1:∀ b o,H b=some o→upd (upd H0 p1 (HO.dK (mpV t bZ))) p0 (HO.dK (mpV t (aG (bY) bZ))) b=some o:=fun b o z=>by rw[aC (aJ z h0)];exact aY h1 b o (s0 b o z)
  have g1:upd (upd H0 p1 (HO.dK (mpV t bZ))) p0 (HO.dK (mpV t (aG (bY) bZ))) p0=some (HO.dK (mpV t (aG (bY) bZ))):=aH
  generalize upd (upd H0 p1 (HO.dK (mpV t bZ))) p0 (HO.dK (mpV t (aG (bY) bZ)))=H1 at s1 g1 ⊢
  refine⟨_,rfl,.inr (.inr (.inl ⟨rfl,.inl ⟨_,g1⟩⟩)),a2,_,rfl,D2,fun p2 h2=>?_⟩
  have n2:p0≠p2:=aJ g1 h2
  refine⟨p0,p2,_,_,rfl,rfl,(by rw[aC n2];exact g1),aH,n2,(by rw[dH,dH];decide +kernel),?_⟩
  rw[gT]
  have s2:∀ b o,H b=some o→upd (upd H1 p2 (HO.dK (mpV t cG))) p0 (HO.dK (mpV t (aG (aG (bY) bZ) cG))) b=some o:=fun b o z=>by rw[aC (aJ z h0)];exact aY h2 b o (s1 b o z)
  have g2:upd (upd H1 p2 (HO.dK (mpV t cG))) p0 (HO.dK (mpV t (aG (aG (bY) bZ) cG))) p0=some (HO.dK (mpV t (aG (aG (bY) bZ) cG))):=aH
  generalize upd (upd H1 p2 (HO.dK (mpV t cG))) p0 (HO.dK (mpV t (aG (aG (bY) bZ) cG)))=H2 at s2 g2 ⊢
  refine⟨_,rfl,.inr (.inr (.inl ⟨rfl,.inl ⟨_,g2⟩⟩)),a3,_,rfl,D3,fun p3 h3=>?_⟩
  have n3:p0≠p3:=aJ g2 h3
  refine⟨p0,p3,_,_,rfl,rfl,(by rw[aC n3];exact g2),aH,n3,(by rw[dH,dH];decide +kernel),?_⟩
  rw[gT]
  have s3:∀ b o,H b=some o→upd (upd H2 p3 (HO.dK (mpV t cZ))) p0 (HO.dK (mpV t (aG (aG (aG (bY) bZ) cG) cZ))) b=some o:=fun b o z=>by rw[aC (aJ z h0)];exact aY h3 b o (s2 b o z)
  have g3:upd (upd H2 p3 (HO.dK (mpV t cZ))) p0 (HO.dK (mpV t (aG (aG (aG (bY) bZ) cG) cZ))) p0=some (HO.dK (mpV t (aG (aG (aG (bY) bZ) cG) cZ))):=aH
  generalize upd (upd H2 p3 (HO.dK (mpV t cZ))) p0 (HO.dK (mpV t (aG (aG (aG (bY) bZ) cG) cZ)))=H3 at s3 g3 ⊢
  refine⟨_,rfl,.inr (.inr (.inl ⟨rfl,.inl ⟨_,g3⟩⟩)),a4,_,rfl,D4,fun p4 h4=>?_⟩
  have n4:p0≠p4:=aJ g3 h4
  refine⟨p0,p4,_,_,rfl,rfl,(by rw[aC n4];exact g3),aH,n4,(by rw[dH,dH];decide +kernel),?_⟩
  rw[gT]
  have s4:∀ b o,H b=some o→upd (upd H3 p4 (HO.dK (mpV t eJ))) p0 (HO.dK (mpV t (aG (aG (aG (aG (bY) bZ) cG) cZ) eJ))) b=some o:=fun b o z=>by rw[aC (aJ z h0)];exact aY h4 b o (s3 b o z)
  have g4:upd (upd H3 p4 (HO.dK (mpV t eJ))) p0 (HO.dK (mpV t (aG (aG (aG (aG (bY) bZ) cG) cZ) eJ))) p0=some (HO.dK (mpV t (aG (aG (aG (aG (bY) bZ) cG) cZ) eJ))):=aH
  generalize upd (upd H3 p4 (HO.dK (mpV t eJ))) p0 (HO.dK (mpV t (aG (aG (aG (aG (bY) bZ) cG) cZ) eJ)))=H4 at s4 g4 ⊢
  refine⟨_,rfl,.inr (.inr (.inl ⟨rfl,.inl ⟨_,g4⟩⟩)),a5,_,rfl,D5,fun p5 h5=>?_⟩
  have n5:p0≠p5:=aJ g4 h5
  refine⟨p0,p5,_,_,rfl,rfl,(by rw[aC n5];exact g4),aH,n5,(by rw[dH,dH];decide +kernel),?_⟩
  rw[gT]
  have s5:∀ b o,H b=some o→upd (upd H4 p5 (HO.dK (mpV t gX))) p0 (HO.dK (mpV t (aG (aG (aG (aG (aG (bY) bZ) cG) cZ) eJ) gX))) b=some o:=fun b o z=>by rw[aC (aJ z h0)];exact aY h5 b o (s4 b o z)
  have g5:upd (upd H4 p5 (HO.dK (mpV t gX))) p0 (HO.dK (mpV t (aG (aG (aG (aG (aG (bY) bZ) cG) cZ) eJ) gX))) p0=some (HO.dK (mpV t (aG (aG (aG (aG (aG (bY) bZ) cG) cZ) eJ) gX))):=aH
  generalize upd (upd H4 p5 (HO.dK (mpV t gX))) p0 (HO.dK (mpV t (aG (aG (aG (aG (aG (bY) bZ) cG) cZ) eJ) gX)))=H5 at s5 g5 ⊢
  exact⟨_,rfl,k p0 H5 h0 s5 g5⟩
end
end EV
end
section
namespace EV
open PySem L2 SM
noncomputable def jZ(text:Str):Option V:=match bA atPl (Sum.inr text) with
 |some v=>some v
 |none=>match (Txt.split text " ")[0]? with
  |some w0=>bA atPl (Sum.inr w0)
  |none=>none
noncomputable def kY(text:Str):Option V:=match (Txt.split text " ")[1]? with
 |some w1=>bA tb_PLACES (Sum.inr w1)
 |none=>none
noncomputable abbrev sApp:Stmt:=inClass (top 211) 1
section
variable{P:Program}{w:World}{K:PySem.W.Frag}{mg:Str→Option Value}{base:Heap}{t:Tx}{CI CR sa:Addr}
noncomputable def y6I(t:Tx)(CI:Addr):Sp:=fun vs H Q _=>∃(x dx lo lp ap:Addr) (text:Str) (xs ys:List V) (u v:V),vs=[.ref x,.ref ap,.str text]∧H x=some (.ins CI dx [("operations",.ref lo),("places",.ref lp)])∧H lo=some (.lst xs)∧H lp=some (.lst ys)∧lo≠lp∧H ap=some (.dK (mpV t atPl))∧xs.length<1000∧ys.length<1000∧text.length+2≤sizeLine∧jZ text=some u∧kY text=some v ∧
 ∀ H',H' lo=some (.lst (xs++[gV t u]))→H' lp=some (.lst (ys++[gV t v]))→(∀ b o,H b=some o→b≠lo→b≠lp→H' b=some o)→Q .non H'
theorem scApp:FnScope ["self","at_places","text","words"] ["self","at_places","text"] (aL sApp):=⟨rfl,rfl,rfl,by decide +kernel,rfl,by decide +kernel,by decide +kernel⟩
theorem y7Z{f:Addr}{fd:FuncData}(F:Fun K "append_at_place" "Instructions.append_at_place" sApp f fd)(D:DcT P w K mg t)(G:InsT K mg CI sa):FnOk P w K mg base CX0 1 f fd ["self","at_places","text"] (y6I t CI):=by
 obtain⟨aP,mP,DP⟩:=D.d_PLACES
 refine F.ok scApp (fun vs H Q E h=>?_) (fun cdv A outer s H vs Q E hr h=>?_)
 ·obtain⟨x,dx,lo,lp,ap,text,xs,ys,u,v,rfl,_⟩:=h
  rfl
 ·obtain⟨x,dx,lo,lp,ap,text,xs,ys,u,v,rfl,hx,hlo,hlp,nlp,hap,lx,ly,lt,hu_,hv_,k⟩:=h
  have hu:=y6g hr
  refine⟨_,aF (aW (i:=3) scApp.nd rfl (Or.inl rfl) (z3A (pv 2) z9G))
   (aF (bV (dU PySem.F.plainAttrs_list PySem.F.slot_list_append PySem.F.type_list_append kE (aQ (pv 0) rfl) (aD (uR (z9N (z9C hu (pv 2) (pv 1)) (by rfl)) (wE hu (pv 1) (pv 2) (fun _ _=>rfl)) (wE hu (pv 1) (cE ix_list (pv 3) pe_int (fun _ _=>rfl)) (fun _ _=>rfl))) pa_nil)))
   (aK (bV (dU PySem.F.plainAttrs_list PySem.F.slot_list_append PySem.F.type_list_append kE (aQ (pv 0) rfl) (aD (z9E (aO (v:=.ref aP) (by rfl) mP rfl) (cE ix_list (pv 3) pe_int (fun _ _=>rfl)) (fun _ _=>rfl)) pa_nil))))),?_⟩
  refine⟨_,rfl,⟨text,rfl⟩,text," ",rfl,rfl,by decide +kernel,lt,fun q hq=>?_⟩
  have sm:=aY hq (o:=HO.lst ((Txt.split text " ").map V.str))
  have gq:=aH (H:=H) (a:=q) (o:=HO.lst ((Txt.split text " ").map V.str))
  have nql:lo≠q:=aJ hlo hq
  have nqp:lp≠q:=aJ hlp hq
  have nqx:x≠q:=aJ hx hq
  have nxl:x≠lo:=aX hx hlo (by intro z;cases z)
  obtain⟨w1,ew1,ev1⟩:∃ w1,(Txt.split text " ")[1]?=some w1∧bA tb_PLACES (Sum.inr w1)=some v:=by
   unfold kY at hv_
   split at hv_
   ·rename_i w1 e;exact⟨w1,e,hv_⟩
   ·cases hv_
  have hw1:((Txt.split text " ").map V.str)[1]?=some (.str w1):=by rw[List.getElem?_map,ew1];rfl
  have hvp:bA (mpV t tb_PLACES) (Sum.inr w1)=some (gV t v):=by rw[jM,ev1];rfl
  refine⟨_,rfl,x,CI,dx,_,_,rfl,sm _ _ hx,G.ci,G.no,rfl,.inl ⟨rfl,_,SqL.of (sm _ _ hlo)⟩,?_⟩
  have hdg:DGet (upd H q (.lst ((Txt.split text " ").map V.str))) ap (.str text) (bA (mpV t atPl) (Sum.inr text)):=DGet.k (k:=Sum.inr text) (sm _ _ hap)
  refine⟨_,rfl,_,rfl,ap,_,rfl,hdg,_,rfl,?_⟩
  cases e:bA atPl (Sum.inr text:Key) with
  |some z=>
   have ez:bA (mpV t atPl) (Sum.inr text)=some (gV t z):=by rw[jM,e];rfl
   have:u=z:=by unfold jZ at hu_;rw[e] at hu_;exact(Option.some.inj hu_).symm
   subst this
   rw[ez] at hdg ⊢
   refine cW ?_
   refine⟨_,rfl,_,rfl,ap,_,rfl,hdg,lo,_,_,rfl,rfl,sm _ _ hlo,Nat.lt_trans lx (by decide),?_⟩
   refine⟨_,rfl,x,CI,dx,[("operations",.ref lo),("places",.ref lp)],.ref lp,rfl,by rw[aC nxl];exact sm _ _ hx,G.ci,G.np,rfl,.inl ⟨rfl,_,SqL.of (by rw[aC (Ne.symm nlp)];exact sm _ _ hlp)⟩,_,rfl,q,_,(1:Int),_,rfl,rfl,SqL.of (by rw[aC (Ne.symm nql)];exact gq),bF (j:=1) rfl hw1,aP,_,Sum.inr w1,_,rfl,DP,rfl,hvp,lp,_,_,rfl,rfl,by rw[aC (Ne.symm nlp)];exact sm _ _ hlp,Nat.lt_trans ly (by decide),?_⟩
   refine k _ (by rw[aC nlp,aH]) aH (fun b o hb n1 n2=>by rw[aC n2,aC n1];exact sm _ _ hb)
  |none=>
   obtain⟨w0,ew0,ev0⟩:∃ w0,(Txt.split text " ")[0]?=some w0∧bA atPl (Sum.inr w0)=some u:=by
    unfold jZ at hu_
    rw[e] at hu_
    dsimp only at hu_
    split at hu_
    ·rename_i w0 e;exact⟨w0,e,hu_⟩
    ·cases hu_
   have hw0:((Txt.split text " ").map V.str)[0]?=some (.str w0):=by rw[List.getElem?_map,ew0];rfl
   have ez:bA (mpV t atPl) (Sum.inr text)=none:=by rw[jM,e];rfl
   have e0:bA (mpV t atPl) (Sum.inr w0)=some (gV t u):=by rw[jM,ev0];rfl
   have hd0:DGet (upd H q (.lst ((Txt.split text " ").map V.str))) ap (.str w0) (some (gV t u)):=by rw[←e0];exact DGet.k (k:=Sum.inr w0) (sm _ _ hap)
   rw[ez] at hdg ⊢
   refine cV ?_
   refine⟨_,rfl,_,rfl,q,_,(0:Int),_,rfl,rfl,SqL.of gq,bF (j:=0) rfl hw0,ap,_,rfl,hd0,lo,_,_,rfl,rfl,sm _ _ hlo,Nat.lt_trans lx (by decide),?_⟩
   refine⟨_,rfl,x,CI,dx,[("operations",.ref lo),("places",.ref lp)],.ref lp,rfl,by rw[aC nxl];exact sm _ _ hx,G.ci,G.np,rfl,.inl ⟨rfl,_,SqL.of (by rw[aC (Ne.symm nlp)];exact sm _ _ hlp)⟩,_,rfl,q,_,(1:Int),_,rfl,rfl,SqL.of (by rw[aC (Ne.symm nql)];exact gq),bF (j:=1) rfl hw1,aP,_,Sum.inr w1,_,rfl,DP,rfl,hvp,lp,_,_,rfl,rfl,by rw[aC (Ne.symm nlp)];exact sm _ _ hlp,Nat.lt_trans ly (by decide),?_⟩
   refine k _ (by rw[aC nlp,aH]) aH (fun b o hb n1 n2=>by rw[aC n2,aC n1];exact sm _ _ hb)
end
end EV
end
section
namespace EV
open PySem L2 SM TL
noncomputable def rowsS:List Str:=(["BRK i8, ORA dix, COP i8, ORA sr, TSB d, ORA d, ASL d, ORA dl","PHP, ORA im, ASL A, PHD, TSB a, ORA a, ASL a, ORA al","BPL r, ORA diy, ORA di, ORA siy, TRB d, ORA dx, ASL dx, ORA dly","CLC, ORA ay, INC A, TCS, TRB a, ORA ax, ASL ax, ORA alx","JSR a, AND dix, JSL al, AND sr, BIT d, AND d, ROL d, AND dl","PLP, AND im, ROL A, PLD, BIT a, AND a, ROL a, AND al","BMI r, AND diy, AND di, AND siy, BIT dx, AND dx, ROL dx, AND dly","SEC, AND ay, DEC A, TSC, BIT ax, AND ax, ROL ax, AND alx","RTI, EOR dix, WDM i8, EOR sr, MVP b, EOR d, LSR d, EOR dl","PHA, EOR im, LSR A, PHK, JMP a, EOR a, LSR a, EOR al","BVC r, EOR diy, EOR di, EOR siy, MVN b, EOR dx, LSR dx, EOR dly","CLI, EOR ay, PHY, TCD, JML al, EOR ax, LSR ax, EOR alx","RTS, ADC dix, PER rl, ADC sr, STZ d, ADC d, ROR d, ADC dl","PLA, ADC im, ROR A, RTL, JMP ai, ADC a, ROR a, ADC al","BVS r, ADC diy, ADC di, ADC siy, STZ dx, ADC dx, ROR dx, ADC dly","SEI, ADC ay, PLY, TDC, JMP aix, ADC ax, ROR ax, ADC alx","BRA r, STA dix, BRL rl, STA sr, STY d, STA d, STX d, STA dl","DEY, BIT im, TXA, PHB, STY a, STA a, STX a, STA al","BCC r, STA diy, STA di, STA siy, STY dx, STA dx, STX dy, STA dly","TYA, STA ay, TXS, TXY, STZ a, STA ax, STZ ax, STA alx","LDY ix, LDA dix, LDX ix, LDA sr, LDY d, LDA d, LDX d, LDA dl","TAY, LDA im, TAX, PLB, LDY a, LDA a, LDX a, LDA al","BCS r, LDA diy, LDA di, LDA siy, LDY dx, LDA dx, LDX dy, LDA dly","CLV, LDA ay, TSX, TYX, LDY ax, LDA ax, LDX ay, LDA alx","CPY ix, CMP dix, REP i8, CMP sr, CPY d, CMP d, DEC d, CMP dl","INY, CMP im, DEX, WAI, CPY a, CMP a, DEC a, CMP al","BNE r, CMP diy, CMP di, CMP siy, PEI d, CMP dx, DEC dx, CMP dly","CLD, CMP ay, PHX, STP, JML al2, CMP ax, DEC ax, CMP alx","CPX ix, SBC dix, SEP i8, SBC sr, CPX d, SBC d, INC d, SBC dl","INX, SBC im, NOP, XBA, CPX a, SBC a, INC a, SBC al","BEQ r, SBC diy, SBC di, SBC siy, PEA w, SBC dx, INC dx, SBC dly","SED, SBC ay, PLX, XCE, JSR aix, SBC ax, INC ax, SBC alx"]:List String).map Str.ofString
noncomputable def pH(n:Nat)(text:Str):Bool:=decide (text.length≤1000)&&(match bA alone (Sum.inr text:Key) with
 |some z=>decide (z=V.int (opL.getD n 0:Nat))&&(plL.getD n none).isNone
 |none=>decide (jZ text=some (V.int (opL.getD n 0:Nat)))&&(match plL.getD n none with
  |some p=>decide (kY text=some (V.int (p:Nat)))
  |none=>false))
noncomputable def kN:Key→List Nat
 |.inl _=>[]
 |.inr x=>1::tl x
noncomputable def eqN:List Nat→List Nat→Bool
 |[],[]=>true
 |[],_::_=>false
 |_::_,[]=>false
 |a::r,b::s=>match Nat.beq a b with
  |true=>eqN r s
  |false=>false
theorem oK:∀ a b:List Nat,eqN a b=true↔a=b
 |[],[]=>⟨fun _=>rfl,fun _=>rfl⟩
 |[],_::_=>⟨fun h=>(nomatch h),fun h=>(nomatch h)⟩
 |_::_,[]=>⟨fun h=>(nomatch h),fun h=>(nomatch h)⟩
 |a::r,b::s=>by
  unfold eqN
  cases e:Nat.beq a b with
  |true=>
   have:=Nat.eq_of_beq_eq_true e
   subst this
   exact⟨fun h=>congrArg (a::·) ((oK r s).1 h),fun h=>(oK r s).2 (List.cons.inj h).2⟩
  |false=>exact⟨fun h=>(nomatch h),fun h=>absurd (List.cons.inj h).1 (Nat.ne_of_beq_eq_false e)⟩
noncomputable def gM:List (List Nat×V)→List Nat→Option V
 |[],_=>none
 |p::r,k=>match eqN p.1 k with
  |true=>some p.2
  |false=>gM r k
theorem z9e(k:Key)(s:Str):kN k=1::tl s↔k=Sum.inr s:=by
 cases k with
 |inl i=>exact⟨fun h=>(nomatch h),fun h=>(nomatch h)⟩
 |inr x=>exact⟨fun h=>congrArg Sum.inr (y7C (List.cons.inj h).2),fun h=>by cases h;rfl⟩
theorem mD(s:Str):∀ l:List (Key×V),bA l (Sum.inr s:Key)=gM (l.map fun p=>(kN p.1,p.2)) (1::tl s)
 |[]=>rfl
 |p::r=>by
  rw[List.map_cons]
  unfold gM
  by_cases e:p.1=Sum.inr s
  ·rw[lL e,(oK _ _).2 ((z9e _ _).2 e)]
  ·have z:eqN (kN p.1) (1::tl s)=false:=Bool.eq_false_iff.2 fun z=>e ((z9e _ _).1 ((oK _ _).1 z))
   rw[lK e,z]
   exact mD s r
noncomputable def z7W:List (List Nat×V):=[([1,84,65,88],.int 141),([1,84,65,89],.int 142),([1,84,83,88],.int 143),([1,84,88,89],.int 144),([1,84,89,88],.int 145),([1,84,88,65],.int 146),([1,84,89,65],.int 147),([1,84,88,83],.int 148),([1,84,67,83],.int 149),([1,84,83,67],.int 150),([1,84,67,68],.int 151),([1,84,68,67],.int 152),([1,88,66,65],.int 153),([1,88,67,69],.int 154),([1,67,76,67],.int 155),([1,83,69,67],.int 156),([1,67,76,73],.int 157),([1,83,69,73],.int 158),([1,67,76,68],.int 159),([1,83,69,68],.int 160),([1,67,76,86],.int 161),([1,82,69,80,32,105,56],.int 162),([1,83,69,80,32,105,56],.int 163),([1,65,83,76,32,65],.int 108),([1,82,79,76,32,65],.int 109),([1,76,83,82,32,65],.int 110),([1,82,79,82,32,65],.int 111),([1,73,78,67,32,65],.int 112),([1,68,69,67,32,65],.int 113),([1,73,78,88],.int 114),([1,73,78,89],.int 115),([1,68,69,88],.int 116),([1,68,69,89],.int 117),([1,80,72,65],.int 120),([1,80,72,88],.int 121),([1,80,72,89],.int 122),([1,80,76,65],.int 123),([1,80,76,88],.int 124),([1,80,76,89],.int 125),([1,80,72,80],.int 126),([1,80,76,80],.int 127),([1,80,72,68],.int 128),([1,80,76,68],.int 129),([1,80,72,66],.int 130),([1,80,76,66],.int 131),([1,80,72,75],.int 132),([1,80,69,65,32,119],.int 133),([1,80,69,82,32,114,108],.int 135),([1,66,80,76,32,114],.int 22),([1,66,77,73,32,114],.int 23),([1,66,86,67,32,114],.int 24),([1,66,86,83,32,114],.int 25),([1,66,67,67,32,114],.int 26),([1,66,67,83,32,114],.int 27),([1,66,78,69,32,114],.int 28),([1,66,69,81,32,114],.int 29),([1,66,82,65,32,114],.int 30),([1,66,82,76,32,114,108],.int 31),([1,74,77,80,32,97],.int 34),([1,74,77,80,32,97,105],.int 35),([1,74,77,80,32,97,105,120],.int 36),([1,74,77,76,32,97,108],.int 37),([1,74,77,76,32,97,108,50],.int 38),([1,74,83,82,32,97],.int 40),([1,74,83,82,32,97,105,120],.int 41),([1,74,83,76,32,97,108],.int 42),([1,82,84,83],.int 43),([1,82,84,76],.int 44),([1,66,82,75,32,105,56],.int 18),([1,67,79,80,32,105,56],.int 19),([1,82,84,73],.int 20),([1,77,86,78,32,98],.int 74),([1,77,86,80,32,98],.int 75),([1,87,68,77,32,105,56],.int 76),([1,78,79,80],.int 77),([1,87,65,73],.int 78),([1,83,84,80],.int 79)]
noncomputable def mF:List (List Nat×V):=[([1,76,68,65],.int 54),([1,76,68,88],.int 55),([1,76,68,89],.int 56),([1,83,84,65],.int 57),([1,83,84,88],.int 58),([1,83,84,89],.int 59),([1,83,84,90],.int 60),([1,79,82,65],.int 61),([1,65,78,68],.int 62),([1,69,79,82],.int 63),([1,67,77,80],.int 65),([1,67,80,88],.int 66),([1,67,80,89],.int 67),([1,66,73,84],.int 69),([1,66,73,84,32,105,109],.int 70),([1,84,83,66],.int 71),([1,84,82,66],.int 72),([1,65,68,67],.int 139),([1,83,66,67],.int 140),([1,65,83,76],.int 102),([1,82,79,76],.int 103),([1,76,83,82],.int 104),([1,82,79,82],.int 105),([1,73,78,67],.int 106),([1,68,69,67],.int 107),([1,80,69,73],.int 134)]
noncomputable def wF:List (List Nat×V):=[([1,100],.int 80),([1,100,120],.int 81),([1,100,121],.int 82),([1,100,105],.int 83),([1,100,105,120],.int 84),([1,100,105,121],.int 85),([1,100,108],.int 86),([1,100,108,121],.int 87),([1,97],.int 88),([1,97,120],.int 89),([1,97,121],.int 90),([1,97,108],.int 91),([1,97,108,120],.int 92),([1,115,114],.int 93),([1,115,105,121],.int 94),([1,105,109],.int 95),([1,105,120],.int 96)]
theorem y2y:(alone.map fun p=>(kN p.1,p.2))=z7W:=by decide +kernel
theorem z7Y:(atPl.map fun p=>(kN p.1,p.2))=mF:=by decide +kernel
theorem z9K:(tb_PLACES.map fun p=>(kN p.1,p.2))=wF:=by decide +kernel
noncomputable def opN(t:List Nat):Option V:=match gM mF (1::t) with
 |some v=>some v
 |none=>match (spl [32] 0 [] t)[0]? with
  |some w0=>gM mF (1::w0)
  |none=>none
noncomputable def plN(t:List Nat):Option V:=match (spl [32] 0 [] t)[1]? with
 |some w1=>gM wF (1::w1)
 |none=>none
theorem y6U(text:Str)(i:Nat):(spl [32] 0 [] (tl text))[i]?=((Txt.split text " ")[i]?).map tl:=by
 have h:=z2y text " " (by decide +kernel) (z5W (by decide +kernel))
 have e:tl (" ":Str)=[32]:=by decide +kernel
 rw[e] at h
 rw[←h,List.getElem?_map]
theorem op_N(text:Str):jZ text=opN (tl text):=by
 unfold jZ opN
 rw[mD,z7Y,y6U]
 cases gM mF (1::tl text) with
 |some v=>rfl
 |none=>
  cases (Txt.split text " ")[0]? with
  |none=>rfl
  |some w0=>
   show bA atPl (Sum.inr w0)=gM mF (1::tl w0)
   rw[mD,z7Y]
theorem pl_N(text:Str):kY text=plN (tl text):=by
 unfold kY plN
 rw[y6U]
 cases (Txt.split text " ")[1]? with
 |none=>rfl
 |some w1=>
  show bA tb_PLACES (Sum.inr w1)=gM wF (1::tl w1)
  rw[mD,z9K]
noncomputable def y0u(n:Nat)(t:List Nat):Bool:=decide (t.length≤1000)&&(match gM z7W (1::t) with
 |some z=>decide (z=V.int (opL.getD n 0:Nat))&&(plL.getD n none).isNone
 |none=>decide (opN t=some (V.int (opL.getD n 0:Nat)))&&(match plL.getD n none with
  |some p=>decide (plN t=some (V.int (p:Nat)))
  |none=>false))
theorem y8J(n:Nat)(text:Str):pH n text=y0u n (tl text):=by
 unfold pH y0u
 rw[mD,y2y,op_N,pl_N,jQ]
noncomputable def txN:List (List (List Nat)):=[[[66,82,75,32,105,56],[79,82,65,32,100,105,120],[67,79,80,32,105,56],[79,82,65,32,115,114],[84,83,66,32,100],[79,82,65,32,100],[65,83,76,32,100],[79,82,65,32,100,108]],[[80,72,80],[79,82,65,32,105,109],[65,83,76,32,65],[80,72,68],[84,83,66,32,97],[79,82,65,32,97],[65,83,76,32,97],[79,82,65,32,97,108]],[[66,80,76,32,114],[79,82,65,32,100,105,121],[79,82,65,32,100,105],[79,82,65,32,115,105,121],[84,82,66,32,100],[79,82,65,32,100,120],[65,83,76,32,100,120],[79,82,65,32,100,108,121]],[[67,76,67],[79,82,65,32,97,121],[73,78,67,32,65],[84,67,83],[84,82,66,32,97],[79,82,65,32,97,120],[65,83,76,32,97,120],[79,82,65,32,97,108,120]],[[74,83,82,32,97],[65,78,68,32,100,105,120],[74,83,76,32,97,108],[65,78,68,32,115,114],[66,73,84,32,100],[65,78,68,32,100],[82,79,76,32,100],[65,78,68,32,100,108]],[[80,76,80],[65,78,68,32,105,109],[82,79,76,32,65],[80,76,68],[66,73,84,32,97],[65,78,68,32,97],[82,79,76,32,97],[65,78,68,32,97,108]],[[66,77,73,32,114],[65,78,68,32,100,105,121],[65,78,68,32,100,105],[65,78,68,32,115,105,121],[66,73,84,32,100,120],[65,78,68,32,100,120],[82,79,76,32,100,120],[65,78,68,32,100,108,121]],[[83,69,67],[65,78,68,32,97,121],[68,69,67,32,65],[84,83,67],[66,73,84,32,97,120],[65,78,68,32,97,120],[82,79,76,32,97,120],[65,78,68,32,97,108,120]],[[82,84,73],[69,79,82,32,100,105,120],[87,68,77,32,105,56],[69,79,82,32,115,114],[77,86,80,32,98],[69,79,82,32,100],[76,83,82,32,100],[69,79,82,32,100,108]],[[80,72,65],[69,79,82,32,105,109],[76,83,82,32,65],[80,72,75],[74,77,80,32,97],[69,79,82,32,97],[76,83,82,32,97],[69,79,82,32,97,108]],[[66,86,67,32,114],[69,79,82,32,100,105,121],[69,79,82,32,100,105],[69,79,82,32,115,105,121],[77,86,78,32,98],[69,79,82,32,100,120],[76,83,82,32,100,120],[69,79,82,32,100,108,121]],[[67,76,73],[69,79,82,32,97,121],[80,72,89],[84,67,68],[74,77,76,32,97,108],[69,79,82,32,97,120],[76,83,82,32,97,120],[69,79,82,32,97,108,120]],[[82,84,83],[65,68,67,32,100,105,120],[80,69,82,32,114,108],[65,68,67,32,115,114],[83,84,90,32,100],[65,68,67,32,100],[82,79,82,32,100],[65,68,67,32,100,108]],[[80,76,65],[65,68,67,32,105,109],[82,79,82,32,65],[82,84,76],[74,77,80,32,97,105],[65,68,67,32,97],[82,79,82,32,97],[65,68,67,32,97,108]],[[66,86,83,32,114],[65,68,67,32,100,105,121],[65,68,67,32,100,105],[65,68,67,32,115,105,121],[83,84,90,32,100,120],[65,68,67,32,100,120],[82,79,82,32,100,120],[65,68,67,32,100,108,121]],[[83,69,73],[65,68,67,32,97,121],[80,76,89],[84,68,67],[74,77,80,32,97,105,120],[65,68,67,32,97,120],[82,79,82,32,97,120],[65,68,67,32,97,108,120]],[[66,82,65,32,114],[83,84,65,32,100,105,120],[66,82,76,32,114,108],[83,84,65,32,115,114],[83,84,89,32,100],[83,84,65,32,100],[83,84,88,32,100],[83,84,65,32,100,108]],[[68,69,89],[66,73,84,32,105,109],[84,88,65],[80,72,66],[83,84,89,32,97],[83,84,65,32,97],[83,84,88,32,97],[83,84,65,32,97,108]],[[66,67,67,32,114],[83,84,65,32,100,105,121],[83,84,65,32,100,105],[83,84,65,32,115,105,121],[83,84,89,32,100,120],[83,84,65,32,100,120],[83,84,88,32,100,121],[83,84,65,32,100,108,121]],[[84,89,65],[83,84,65,32,97,121],[84,88,83],[84,88,89],[83,84,90,32,97],[83,84,65,32,97,120],[83,84,90,32,97,120],[83,84,65,32,97,108,120]],[[76,68,89,32,105,120],[76,68,65,32,100,105,120],[76,68,88,32,105,120],[76,68,65,32,115,114],[76,68,89,32,100],[76,68,65,32,100],[76,68,88,32,100],[76,68,65,32,100,108]],[[84,65,89],[76,68,65,32,105,109],[84,65,88],[80,76,66],[76,68,89,32,97],[76,68,65,32,97],[76,68,88,32,97],[76,68,65,32,97,108]],[[66,67,83,32,114],[76,68,65,32,100,105,121],[76,68,65,32,100,105],[76,68,65,32,115,105,121],[76,68,89,32,100,120],[76,68,65,32,100,120],[76,68,88,32,100,121],[76,68,65,32,100,108,121]],[[67,76,86],[76,68,65,32,97,121],[84,83,88],[84,89,88],[76,68,89,32,97,120],[76,68,65,32,97,120],[76,68,88,32,97,121],[76,68,65,32,97,108,120]],[[67,80,89,32,105,120],[67,77,80,32,100,105,120],[82,69,80,32,105,56],[67,77,80,32,115,114],[67,80,89,32,100],[67,77,80,32,100],[68,69,67,32,100],[67,77,80,32,100,108]],[[73,78,89],[67,77,80,32,105,109],[68,69,88],[87,65,73],[67,80,89,32,97],[67,77,80,32,97],[68,69,67,32,97],[67,77,80,32,97,108]],[[66,78,69,32,114],[67,77,80,32,100,105,121],[67,77,80,32,100,105],[67,77,80,32,115,105,121],[80,69,73,32,100],[67,77,80,32,100,120],[68,69,67,32,100,120],[67,77,80,32,100,108,121]],[[67,76,68],[67,77,80,32,97,121],[80,72,88],[83,84,80],[74,77,76,32,97,108,50],[67,77,80,32,97,120],[68,69,67,32,97,120],[67,77,80,32,97,108,120]],[[67,80,88,32,105,120],[83,66,67,32,100,105,120],[83,69,80,32,105,56],[83,66,67,32,115,114],[67,80,88,32,100],[83,66,67,32,100],[73,78,67,32,100],[83,66,67,32,100,108]],[[73,78,88],[83,66,67,32,105,109],[78,79,80],[88,66,65],[67,80,88,32,97],[83,66,67,32,97],[73,78,67,32,97],[83,66,67,32,97,108]],[[66,69,81,32,114],[83,66,67,32,100,105,121],[83,66,67,32,100,105],[83,66,67,32,115,105,121],[80,69,65,32,119],[83,66,67,32,100,120],[73,78,67,32,100,120],[83,66,67,32,100,108,121]],[[83,69,68],[83,66,67,32,97,121],[80,76,88],[88,67,69],[74,83,82,32,97,105,120],[83,66,67,32,97,120],[73,78,67,32,97,120],[83,66,67,32,97,108,120]]]
theorem y8u:(rowsS.map fun r=>spl [44,32] 0 [] (tl r))=txN:=by decide +kernel
theorem y3O:(rowsS.all fun r=>decide (r.length≤1000))=true:=by decide +kernel
noncomputable def y6G(i:Nat)(ws:List (List Nat)):Bool:=decide (ws.length=8)&&((List.range 8).all fun j=>match ws[j]? with
 |some text=>y0u (8 * i+j) text
 |none=>false)
theorem x5I:((List.range 32).all fun i=>match txN[i]? with
 |some ws=>y6G i ws
 |none=>false)=true:=by decide +kernel
theorem y3W{i:Nat}{row:Str}(h:rowsS[i]?=some row):row.length≤1000∧(Txt.split row ", ").length=8∧∀(j:Nat) (text:Str),(Txt.split row ", ")[j]?=some text→pH (8 * i+j) text=true:=by
 have hlen:rowsS.length=32:=by decide +kernel
 have hi:i<32:=by
  have:=(List.getElem?_eq_some_iff.1 h).1
  omega
 have h1:=List.all_eq_true.1 y3O row (List.mem_of_getElem? h)
 have hs:=z2y row ", " (by decide +kernel) (z5W (by decide +kernel))
 have ec:tl (", ":Str)=[44,32]:=by decide +kernel
 rw[ec] at hs
 have h2:txN[i]?=some ((Txt.split row ", ").map tl):=by rw[←y8u,List.getElem?_map,h,hs];rfl
 have h3:=List.all_eq_true.1 x5I i (List.mem_range.2 hi)
 rw[h2] at h3
 dsimp only at h3
 unfold y6G at h3
 rw[Bool.and_eq_true] at h3
 have h4:(Txt.split row ", ").length=8:=by
  have:=of_decide_eq_true h3.1
  rwa [List.length_map] at this
 refine⟨of_decide_eq_true h1,h4,fun j text hj=>?_⟩
 have hj8:j<8:=by
  have:=(List.getElem?_eq_some_iff.1 hj).1
  omega
 have h5:=List.all_eq_true.1 h3.2 j (List.mem_range.2 hj8)
 rw[List.getElem?_map,hj] at h5
 rw[y8J]
 exact h5
end EV
end
section
namespace EV
open PySem L2 SM
noncomputable abbrev sInsInit:Stmt:=inClass (top 211) 0
theorem x2B(t:Tx)(n:Nat):gV t (V.int (opL.getD n 0:Nat))=opV t n:=by
 rfl
theorem z9w(t:Tx)(n:Nat):(List.range n).map (opV t)++[gV t (V.int (opL.getD n 0:Nat))]=(List.range (n+1)).map (opV t):=by
 rw[List.range_succ,List.map_append,x2B]
 rfl
theorem y3q{t:Tx}{n:Nat}(h:(plL.getD n none).isNone=true):(List.range n).map (plV t)++[V.non]=(List.range (n+1)).map (plV t):=by
 rw[List.range_succ,List.map_append]
 show _=_++[plV t n]
 unfold plV
 cases e:plL.getD n none with
 |none=>rfl
 |some p=>rw[e] at h;cases h
theorem y3r{t:Tx}{n p:Nat}(h:plL.getD n none=some p):(List.range n).map (plV t)++[gV t (V.int (p:Nat))]=(List.range (n+1)).map (plV t):=by
 rw[List.range_succ,List.map_append]
 have e:plV t n=.ref (t.fa p):=by unfold plV;rw[h]
 show _=_++[plV t n]
 rw[e]
 rfl
structure Ini(t:Tx)(CI x dx lo lp ap al:Addr)(H H':Hp)(n:Nat):Prop where
 hx:H' x=some (.ins CI dx [("operations",.ref lo),("places",.ref lp)])
 ho:H' lo=some (.lst ((List.range n).map (opV t)))
 hp:H' lp=some (.lst ((List.range n).map (plV t)))
 ha:H' ap=some (.dK (mpV t atPl))
 hl:H' al=some (.dK (mpV t alone))
 kp:Kp x H H'
theorem Ini.next {t:Tx}{CI x dx lo lp ap al:Addr}{H H' H2:Hp}{n:Nat} (I:Ini t CI x dx lo lp ap al H H' n) (nlo:H lo=none) (nlp:H lp=none) (ho:H2 lo=some (.lst ((List.range (n+1)).map (opV t))))
  (hp:H2 lp=some (.lst ((List.range (n+1)).map (plV t)))) (k:∀ b o,H' b=some o→b≠lo→b≠lp→H2 b=some o):Ini t CI x dx lo lp ap al H H2 (n+1):=
 ⟨k _ _ I.hx (aX I.hx I.ho (by intro z;cases z)) (aX I.hx I.hp (by intro z;cases z)),ho,hp,k _ _ I.ha (aX I.ha I.ho (by intro z;cases z)) (aX I.ha I.hp (by intro z;cases z)),k _ _ I.hl (aX I.hl I.ho (by intro z;cases z)) (aX I.hl I.hp (by intro z;cases z)),
  fun b o hb n1=>k _ _ (I.kp b o hb n1) (aJ hb nlo) (aJ hb nlp)⟩
section
variable{P:Program}{w:World}{K:PySem.W.Frag}{mg:Str→Option Value}{base:Heap}{t:Tx}{CI CR sa:Addr}
theorem scIns:FnScope ["self","at_places","alone","row","text"] ["self"] (aL sInsInit):=⟨rfl,rfl,rfl,by decide +kernel,rfl,by decide +kernel,by decide +kernel⟩
theorem z4I {f fA fB fP ra:Addr}{fd fAd fBd fPd:FuncData} (F:Fun K "__init__" "Instructions.__init__" sInsInit f fd) (NA:Nm K mg "operations_at_places" (top 209) [] fA fAd) (NB:Nm K mg "operations_alone" (top 210) [] fB fBd) (D:DcT P w K mg t) (G:InsT K mg CI sa)
  (FP:Fun K "append_at_place" "Instructions.append_at_place" sApp fP fPd) (bP:Binds K fPd ["self","at_places","text"] []) (mP:Meth K CI "append_at_place" fP) (mR:mg "ROWS"=some (.ref ra)) (sR:∀ H,SqT K H ra (rowsS.map V.str)):FnOk P w K mg base CX0 2 f fd ["self"] (tZ t CI):=by
 have GA:FnOk P w K mg base CX0 1 fA fAd [] (qB t atPl):=y3g NA D
 have GB:FnOk P w K mg base CX0 1 fB fBd [] (qB t alone):=z9r NB D
 have GP:FnOk P w K mg base CX0 1 fP fPd ["self","at_places","text"] (y6I t CI):=y7Z FP D G
 refine F.ok scIns (fun vs H Q E h=>?_) (fun cdv A outer s H vs Q E hr h=>?_)
 ·obtain⟨x,dx,rfl,_⟩:=h
  rfl
 ·obtain⟨x,dx,rfl,hx,k⟩:=h
  have hu:=y6g hr
  refine⟨_,aF (bD (pv 0) (cF pa_nil) rfl) (aF (bD (pv 0) (cF pa_nil) rfl)
   (aF (aW (i:=1) scIns.nd rfl (Or.inl rfl) (z3y GA hr (by rfl) NA.mgf NA.fn.kp NA.bi .nil aR))
   (aF (aW (i:=2) scIns.nd rfl (Or.inl rfl) (z3y GB hr (by rfl) NB.mgf NB.fn.kp NB.bi .nil aR))
   (aK (iO PassesOwn.never rfl (y8s (aO (v:=.ref ra) (by rfl) mR rfl)) (gJ (i:=3) scIns.nd rfl (Or.inl rfl))
    (aK (iO PassesOwn.never rfl (z6g (z3A (pv 3) z9G)) (gJ (i:=4) scIns.nd rfl (Or.inl rfl))
     (aK (bW (z9N (z9C hu (pv 4) (pv 2)) (by rfl))
      (aF (bV (dU PySem.F.plainAttrs_list PySem.F.slot_list_append PySem.F.type_list_append kE (aQ (pv 0) rfl) (aD (wE hu (pv 2) (pv 4) (fun _ _=>rfl)) pa_nil)))
       (aK (bV (dU PySem.F.plainAttrs_list PySem.F.slot_list_append PySem.F.type_list_append kE (aQ (pv 0) rfl) (aD pe_non pa_nil)))))
      (aK (bV (gI (pv 0) G.ci mP GP hr bP .nil aR (aD (pv 1) (aD (pv 4) pa_nil)))))))))))))),?_⟩
  refine⟨by show 0≤sizeLine;decide,fun lo hlo=>?_⟩
  have s1:=aY hlo (o:=HO.lst [])
  refine⟨_,rfl,x,CI,dx,_,rfl,s1 _ _ hx,G.ci,G.no,by show 0<1000;decide,?_⟩
  refine⟨by show 0≤sizeLine;decide,fun lp hlp=>?_⟩
  have nx:x≠lo:=aJ hx hlo
  have gx:=aH (H:=upd H lo (.lst [])) (a:=x) (o:=HO.ins CI dx (aZ "operations" (V.ref lo) []))
  have nxp:x≠lp:=aJ gx hlp
  have hlo2:upd (upd H lo (.lst [])) x (HO.ins CI dx (aZ "operations" (V.ref lo) [])) lo=some (.lst []):=by rw[aC (Ne.symm nx),aH]
  have nlp:lo≠lp:=aJ hlo2 hlp
  refine⟨_,rfl,x,CI,dx,_,rfl,by rw[aC nxp];exact gx,G.ci,G.np,by show 1<1000;decide,?_⟩
  generalize e2:upd (upd (upd (upd H lo (HO.lst [])) x (HO.ins CI dx (aZ "operations" (V.ref lo) []))) lp (HO.lst [])) x _=H2
  have gx2:H2 x=some (.ins CI dx [("operations",.ref lo),("places",.ref lp)]):=by rw[←e2,aH];rfl
  have go2:H2 lo=some (.lst []):=by rw[←e2,aC (Ne.symm nx),aC nlp];exact hlo2
  have gp2:H2 lp=some (.lst []):=by rw[←e2,aC (Ne.symm nxp),aH]
  have hlp0:H lp=none:=by rw[aC (Ne.symm nxp),aC (Ne.symm nlp)] at hlp;exact hlp
  have kp2:Kp x H H2:=fun b o hb n1=>by rw[←e2,aC n1,aC (aJ hb hlp0),aC n1,aC (aJ hb hlo)];exact hb
  clear e2
  refine⟨rfl,fun ap H3 nap kap hap=>⟨rfl,fun al H4 nal kal hal=>?_⟩⟩
  have I0:Ini t CI x dx lo lp ap al H H4 (8 * 0):=⟨kal _ _ (kap _ _ gx2),kal _ _ (kap _ _ go2),kal _ _ (kap _ _ gp2),kal _ _ hap,hal,fun b o hb n1=>kal _ _ (kap _ _ (kp2 b o hb n1))⟩
  have lenR:(rowsS.map V.str).length=32:=by rw[List.length_map];decide +kernel
  refine⟨ra,rfl,⟨_,sR _⟩,y2V (K:=K) (a:=ra) (xs:=rowsS.map V.str) (fun i σ H'=>∃ v3 v4,σ=[some (.ref x),some (.ref ap),some (.ref al),v3,v4]∧Ini t CI x dx lo lp ap al H H' (8 * i)) ⟨none,none,rfl,I0⟩ (fun i σ H' _ _=>sR _) ?_ ?_⟩
  ·rintro i y σ H5 hi ⟨v3,v4,rfl,I⟩
   rw[List.getElem?_map] at hi
   cases er:rowsS[i]? with
   |none=>rw[er] at hi;cases hi
   |some row=>
   rw[er] at hi
   cases hi
   obtain⟨ln,l8,tk⟩:=y3W er
   have i32:i<32:=by
    have:=(List.getElem?_eq_some_iff.1 er).1
    rw[List.length_map] at lenR
    omega
   refine⟨_,rfl,⟨row,rfl⟩,row,", ",rfl,rfl,by decide +kernel,Nat.le_trans (Nat.add_le_add_right ln 2) (by decide),fun q hq=>?_⟩
   have sm:=aY hq (o:=HO.lst ((Txt.split row ", ").map V.str))
   have I1:Ini t CI x dx lo lp ap al H (upd H5 q (HO.lst ((Txt.split row ", ").map V.str))) (8 * i+0):=⟨sm _ _ I.hx,sm _ _ I.ho,sm _ _ I.hp,sm _ _ I.ha,sm _ _ I.hl,fun b o hb n1=>sm _ _ (I.kp b o hb n1)⟩
   refine⟨q,rfl,⟨_,SqL.of aH⟩,z3p (K:=K) (a:=q) (xs:=(Txt.split row ", ").map V.str) (fun j σ H'=>∃ v4,σ=[some (.ref x),some (.ref ap),some (.ref al),some (.str row),v4]∧Ini t CI x dx lo lp ap al H H' (8 * i+j)∧H' q=some (.lst ((Txt.split row ", ").map V.str)))
    ⟨_,rfl,I1,aH⟩ (fun j σ H' _ ⟨_,_,_,z⟩=>SqL.of z) ?_ ?_⟩
   ·rintro j y σ H6 hj ⟨v4,rfl,I6,gq⟩
    rw[List.getElem?_map] at hj
    cases et:(Txt.split row ", ")[j]? with
    |none=>rw[et] at hj;cases hj
    |some text=>
    rw[et] at hj
    cases hj
    have j8:j<8:=by
     have:=(List.getElem?_eq_some_iff.1 et).1
     omega
    have ok:=tk j text et
    have no:q≠lo:=Ne.symm (aJ I.ho hq)
    have np:q≠lp:=Ne.symm (aJ I.hp hq)
    unfold pH at ok
    rw[Bool.and_eq_true] at ok
    obtain⟨ok1,ok2⟩:=ok
    have lt:text.length≤1000:=of_decide_eq_true ok1
    have hdg:DGet H6 al (.str text) (bA (mpV t alone) (Sum.inr text)):=DGet.k (k:=Sum.inr text) I6.hl
    have lno:((List.range (8 * i+j)).map (opV t)).length<1000:=by rw[List.length_map,List.length_range];omega
    have lnp:((List.range (8 * i+j)).map (plV t)).length<1000:=by rw[List.length_map,List.length_range];omega
    refine⟨_,rfl,_,rfl,al,_,rfl,hdg,_,rfl,?_⟩
    cases e:bA alone (Sum.inr text:Key) with
    |some z=>
     rw[e] at ok2
     dsimp only at ok2
     rw[Bool.and_eq_true] at ok2
     have ez:bA (mpV t alone) (Sum.inr text)=some (gV t z):=by rw[jM,e];rfl
     obtain rfl:z=V.int (opL.getD (8 * i+j) 0:Nat):=of_decide_eq_true ok2.1
     rw[ez] at hdg ⊢
     refine cW ?_
     refine⟨_,rfl,x,CI,dx,_,_,rfl,I6.hx,G.ci,G.no,rfl,.inl ⟨rfl,_,SqL.of I6.ho⟩,_,rfl,_,rfl,al,_,rfl,hdg,lo,_,_,rfl,rfl,I6.ho,Nat.lt_trans lno (by decide),?_⟩
     have nxl:x≠lo:=nx
     refine⟨_,rfl,x,CI,dx,[("operations",.ref lo),("places",.ref lp)],.ref lp,rfl,by rw[aC nxl];exact I6.hx,G.ci,G.np,rfl,.inl ⟨rfl,_,SqL.of (by rw[aC (Ne.symm nlp)];exact I6.hp)⟩,lp,_,_,rfl,rfl,by rw[aC (Ne.symm nlp)];exact I6.hp,Nat.lt_trans lnp (by decide),?_⟩
     exact⟨_,rfl,I6.next hlo hlp0 (by rw[aC nlp,aH,z9w]) (by rw[aH,y3q ok2.2]) (fun b o hb n1 n2=>by rw[aC n2,aC n1];exact hb),by rw[aC np,aC no];exact gq⟩
    |none=>
     rw[e] at ok2
     dsimp only at ok2
     rw[Bool.and_eq_true] at ok2
     have ez:bA (mpV t alone) (Sum.inr text)=none:=by rw[jM,e];rfl
     rw[ez]
     refine cV ?_
     cases ep:plL.getD (8 * i+j) none with
     |none=>rw[ep] at ok2;exact absurd ok2.2 Bool.false_ne_true
     |some p=>
     rw[ep] at ok2
     have hv:kY text=some (V.int (p:Nat)):=of_decide_eq_true ok2.2
     have ho_:jZ text=some (V.int (opL.getD (8 * i+j) 0:Nat)):=of_decide_eq_true ok2.1
     refine⟨_,rfl,x,dx,_,rfl,I6.hx,rfl,_,rfl,_,rfl,x,dx,lo,lp,ap,text,_,_,_,_,rfl,I6.hx,I6.ho,I6.hp,nlp,I6.ha,lno,lnp,Nat.le_trans (Nat.add_le_add_right lt 2) (by decide),ho_,hv,fun H7 e1 e2 k7=>?_⟩
     rw[z9w] at e1
     rw[y3r ep] at e2
     exact⟨_,rfl,I6.next hlo hlp0 e1 e2 k7,k7 _ _ gq no np⟩
   ·rintro σ H6 ⟨v4,rfl,I6,gq⟩
    rw[List.length_map,l8] at I6
    exact⟨_,_,rfl,I6⟩
  ·rintro σ H5 ⟨v3,v4,rfl,I⟩
   rw[lenR] at I
   exact k lo lp H5 I.hx I.ho I.hp I.kp hlo hlp0
end
end EV
end
section
namespace EV
open PySem L2
theorem z9h:∀(ps:List Str) (us:List Value) (n:Str),us.length=ps.length→n∈ps→((ps.zip us).lookup n).isNone=false
 |[],_,_,_,h=>nomatch h
 |p::ps,[],_,h,_=>nomatch h
 |p::ps,u::us,n,h,m=>by
  rw[List.zip_cons_cons,List.lookup_cons]
  cases e:(n==p) with
  |true=>rfl
  |false=>
   have:n≠p:=by intro z;subst z;simp at e
   exact z9h ps us n (Nat.succ.inj h) ((List.mem_cons.1 m).resolve_left this)
theorem y6h:∀(ps:List Str) (us:List Value),ps.Nodup→∀ n v,(n,v)∈ps.zip us→(ps.zip us).lookup n=some v
 |[],_,_,_,_,h=>nomatch h
 |p::ps,[],_,_,_,h=>nomatch h
 |p::ps,u::us,nd,n,v,m=>by
  rw[List.zip_cons_cons] at m ⊢
  rw[List.lookup_cons]
  rcases List.mem_cons.1 m with e|e
  ·cases e
   rw[beq_self_eq_true]
  ·have hn:n∈ps:=(List.of_mem_zip e).1
   have:(n==p)=false:=by
    rw[beq_eq_false_iff_ne]
    rintro rfl
    exact(List.nodup_cons.1 nd).1 hn
   rw[this]
   exact y6h ps us (List.nodup_cons.1 nd).2 n v e
theorem z8X(L:List (Str×Value)):∀(ps:List Str) (us:List Value),us.length=ps.length→(∀ n v,(n,v)∈ps.zip us→L.lookup n=some v)→ps.filterMap (fun n=>(L.lookup n).map (n,·))=ps.zip us
 |[],[],_,_=>rfl
 |[],_::_,h,_=>nomatch h
 |p::ps,[],h,_=>nomatch h
 |p::ps,u::us,h,k=>by
  rw[List.zip_cons_cons] at k ⊢
  rw[List.filterMap_cons,k p u (List.mem_cons_self ..)]
  exact congrArg ((p,u)::·) (z8X L ps us (Nat.succ.inj h) fun n v m=>k n v (List.mem_cons_of_mem _ m))
theorem z2R{x q:Str}{ar:List Arg}{kd:List (Option Expr)}{df:List Expr}{bo:List Stmt}{sc:Scope}{kV doc pm:Value}{an:Option Addr}{cdv ct:Value}{us:List Value}(hl:us.length=(ar.map (·.arg)).length)(nd:(ar.map (·.arg)).Nodup) :
  bindArgs (PySem.W.fnOf x q ⟨[],ar,none,[],kd,none,df⟩ bo sc .none kV doc pm an cdv ct) ⟨us,[]⟩=pure ((ar.map (·.arg)).zip us):=by
 have h1:List.filter (fun n=>(List.lookup n ((ar.map (·.arg)).zip us)).isNone) (ar.map (·.arg))=[]:=by
  rw[List.filter_eq_nil_iff]
  intro n hn
  rw[z9h _ _ _ hl hn]
  exact Bool.false_ne_true
 generalize hp:ar.map (·.arg)=ps at hl h1 nd
 have h2:seqItems? Value.none=pure none:=rfl
 have h3:List.filterMap (fun n=>Option.map (fun x=>(n,x)) (List.lookup n (ps.zip us))) ps=ps.zip us:=z8X _ ps us hl (y6h ps us nd)
 have h4:decide (us.length>ps.length)=false:=decide_eq_false (by omega)
 have pb:∀{α β:Type} (a:α) (f:α→Sem β),(pure a>>=f)=f a:=fun _ _=>rfl
 unfold bindArgs PySem.W.fnOf
 dsimp only
 simp only[hp,List.map_nil,List.nil_append,List.forIn_nil,pb,h2,Option.getD_none,h4,Bool.false_and,Bool.false_eq_true,if_false,List.length_nil,Nat.sub_zero,List.drop_nil,List.take_length,List.drop_length,List.zip_nil_left,List.isEmpty_nil,Bool.not_true,h1,h3,List.append_nil,Nat.zero_sub]
noncomputable def jI(a:Arguments)(ps:List Str):Bool:=a.posonlyargs.isEmpty&&decide (a.args.map (·.arg)=ps)&&a.vararg.isNone&&a.kwonlyargs.isEmpty&&a.kwarg.isNone&&decide ps.Nodup
section
variable{K:PySem.W.Frag}
theorem vX{x q:Str}{st:Stmt}{ps:List Str}{f:Addr}{fd:FuncData}(F:Fun K x q st f fd)(ha:jI (dB st) ps=true):Binds K fd ps []:=by
 refine F.binds fun kV doc pm an cdv ct us hl=>?_
 revert ha
 generalize dB st=a
 intro ha
 obtain⟨po,ar,va,ko,kd,kw,df⟩:=a
 unfold jI at ha
 simp only[Bool.and_eq_true,decide_eq_true_eq] at ha
 obtain⟨⟨⟨⟨⟨h1,rfl⟩,h3⟩,h4⟩,h5⟩,h6⟩:=ha
 cases po <;> cases va <;> cases ko <;> cases kw <;> simp at h1 h3 h4 h5
 exact z2R hl h6
theorem y9q:(FT.all fun r=>jI (dB r.st) r.ps)=true:=by decide +kernel
theorem y7k{i:Nat}{r:FR}{f:Addr}{fd:FuncData}(e:FT[i]?=some r)(F:Fun K r.name r.qual r.st f fd):Binds K fd r.ps []:=vX F (List.all_eq_true.mp y9q r (List.mem_of_getElem? e))
end
end EV
end
section
namespace SH
open PySem PySem.W PySem.Calls PyProof.Rows L2
theorem z7m {prog:Program}{name:Str}{least most l2 m2:Nat}{lo hi lo2 hi2:Int}{asked:List Int→Bool}{f:List Int→List Int}{P:Params}{h:Heap}{args:List WData}{vals:List Value}
  (hpre:(OpenSpec.mk prog name [.list least most (.int lo hi)] (.list l2 m2 (.int lo2 hi2)) asked f).pre args=true) (hwl:WellAll P h vals args) :
  ∃ a vs ns,vals=[Value.ref a]∧args=[WData.list (ns.map WData.int)]∧h.get? a=some { cls:=.type "list",data:=.seq vs.toArray }∧IntsAre vs ns∧ns.length≤most∧(∀ x∈ns,lo≤x∧x≤hi)∧asked ns=true ∧
   Codec.decAll [.list least most (.int lo hi)] args=some (ns,()):=by
 obtain⟨⟨ns,u⟩,ha,hask⟩:=os_pre_some hpre
 have ha':Codec.decAll [.list least most (.int lo hi)] args=some (ns,u):=ha
 obtain⟨e,hw⟩:=Codec.encAll_of_decAll _ _ _ ha'
 have e':args=[WData.list (ns.map WData.int)]:=e
 subst e'
 have hw':(Codec.inList least most (Codec.inInt lo hi) ns&&true)=true:=hw
 rw[Bool.and_true] at hw'
 have hw2:(Codec.inNat least most ns.length&&ns.all (Codec.inInt lo hi))=true:=hw'
 obtain⟨h1,h2⟩:=Bool.and_eq_true_iff.mp hw2
 have h3:ns.length≤most:=by
  unfold Codec.inNat at h1
  simp only[Bool.and_eq_true,decide_eq_true_eq] at h1
  exact h1.2
 cases hwl with
 |cons w1 w2=>
  cases w2
  cases w1 with
  |list ho hall=>
   refine⟨_,_,ns,rfl,rfl,ho,Att.ints_of_wellAll ns _ hall,h3,fun x hx=>?_,hask,ha'⟩
   have h4:=List.all_eq_true.mp h2 x hx
   unfold Codec.inInt at h4
   simp only[Bool.and_eq_true,decide_eq_true_eq] at h4
   exact h4
noncomputable def z7K(h:Heap)(b:Addr)(res:List Int):Prop:=∃(its:List Value) (n:Nat),Vals (res.map V.int) its∧h.get? b=some { cls:=.type "list",data:=.seq its.toArray n }
theorem z1J{R:WRecords}{cl:Str→Option Addr}{h:Heap}:∀{res:List Int}{its:List Value},Vals (res.map V.int) its→ReadsAllW R cl h its (res.map WData.int) []
 |[],_,r=>by
  cases r
  exact .nil
 |n::ns,_,r=>by
  have r':Vals (V.int n::ns.map V.int) _:=r
  cases r' with
  |cons a b=>
   obtain⟨t,rfl⟩:=a
   exact ReadsAllW.cons (as:=[]) (bs:=[]) (.int _ _) (z1J b)
theorem z7n {P:Program}{w:World}{K:PySem.W.Frag}{mg mb:Str→Option Value}{CX:CXT}{k:Nat}{fa a:Addr}{fd:FuncData}{x:Str}{sp:Sp}{s₁:Shared}{vs:List Value}{ns res:List Int}
  (KX:K.In s₁.heap) (hns:s₁.heap.Ns mainGlobals mg) (hb:s₁.heap.Ns builtinsNs mb) (hbb:∀ x:Str,x≠"__name__"→mb x=bootBuiltins x) (hlim:s₁.heap.NoLimit) (hg:s₁.gens=#[])
  (ha:s₁.heap.get? a=some { cls:=.type "list",data:=.seq vs.toArray }) (hi:IntsAre vs ns) (hl:ns.length≤sizeLine) (hr:Room k callerA)
  (F:∀ base:Heap,K.In base→base.Ns mainGlobals mg→FnOk P w K mg base CX k fa fd [x] sp) (hbind:∀(s:Shared) (u:Value),BindsTo s fd ⟨[u],[]⟩ [(x,u)])
  (hsp:∀ H:Hp,nA H→SqL K H a (ns.map V.int)→sp [.ref a] H (fun v H'=>∃ b,v=.ref b∧H' b=some (.lst (res.map V.int))) fun _ _ _=>False)
  (hCX:∀ H e s',CX [] H s₁ (fun _ _ _=>False) e s'→False) :
  codeAny (model P w) callerA (.call (.ref fa) ⟨[.ref a],[]⟩) (fun r s'=>(∃ b,r=.ok (.ret (.ref b))∧z7K s'.heap b res)∧OldK s₁.heap s'.heap∧s'.os=s₁.os∧AllBare s'.gens) s₁:=by
 have rv:=z2A hi
 have lenV:=hi.length
 have core:∀ H:Hp,nA H→SqL K H a (ns.map V.int)→HOk P w H s₁.heap→(∀ b,H b≠none→b=a)→(H a≠none→K.lookup a=none) →
   codeAny (model P w) callerA (.call (.ref fa) ⟨[.ref a],[]⟩) (fun r s'=>(∃ b,r=.ok (.ret (.ref b))∧z7K s'.heap b res)∧OldK s₁.heap s'.heap∧s'.os=s₁.os∧AllBare s'.gens) s₁:=by
  intro H hO hS hok hA hK
  have base_of:∀{b:Addr}{o:Obj},s₁.heap.get? b=some o→H b=none→(hJ s₁.heap H).get? b=some o:=fun e n=>z9a e n
  have noA:∀{b:Addr}{o:Obj}{es:Array DictEntry}{ep:Nat},s₁.heap.get? b=some o→o.data=.dict es ep→H b=none:=fun {b o es ep} e d=>by
   cases q:H b with
   |none=>rfl
   |some u=>
    have e':b=a:=hA b (by rw[q];simp)
    subst e'
    rw[ha] at e;cases e
    have d':Data.seq vs.toArray _=Data.dict es ep:=d
    cases d'
  have nsK:∀{b:Addr}{m:Str→Option Value},s₁.heap.Ns b m→(hJ s₁.heap H).Ns b m:=fun {b m} ⟨o,es,ep,e,d,r⟩=>⟨o,es,ep,base_of e (noA e d),d,r⟩
  have hKb:K.In (hJ s₁.heap H):=fun b o e=>base_of (KX b o e) (by
   cases q:H b with
   |none=>rfl
   |some u=>
    have e':b=a:=hA b (by rw[q];simp)
    subst e'
    rw[hK (by rw[q];simp)] at e;cases e)
  have hM:Mod K mg (hJ s₁.heap H):=⟨hKb,nsK hns,⟨mb,nsK hb,hbb⟩,let ⟨mc,h1,h2⟩:=hlim;⟨mc,nsK h1,h2⟩⟩
  have e0:Env0 P w K mg (hJ s₁.heap H) callerA [] s₁ H:=⟨rfl,hM,fun b o e=>y3f e,Nat.le_of_eq (z6I _ _),trivial,fun b hb=>absurd (show b∈([]:List Addr) from hb) (by simp),hok,.of_eq hg⟩
  refine codeAny_mono ((F _ hKb (nsK hns)).run callerA [] s₁ H ⟨[.ref a],[]⟩ [.ref a] [.ref a] _ _ hr e0 (hbind s₁ (.ref a)) (.cons rfl .nil) (hsp H hO hS)) fun r s' h=>?_
  cases r with
  |error e=>exact(hCX H e s' h).elim
  |ok fl=>
   cases fl with
   |next=>exact False.elim h
   |brk=>exact False.elim h
   |cont=>exact False.elim h
   |ret u=>
    obtain⟨v,H',os,bare,un,hok',r',q⟩:=h
    obtain⟨b,hv,hb'⟩:∃ b,v=.ref b∧H' b=some (.lst (res.map V.int)):=q
    subst hv
    obtain rfl:u=Value.ref b:=r'
    obtain⟨_,its,n,hits,hobj⟩:=hok' b _ hb'
    refine⟨⟨b,rfl,its,n,hits,hobj⟩,OldK.of_keep fun b o e=>?_,os,bare⟩
    cases q:H b with
    |none=>exact un.keep b o e q (by intro z;exact absurd (show b∈([]:List Addr) from z) (by simp)) (by simp)
    |some u=>
     rcases hO b with z|⟨ob,xs,z⟩
     ·rw[q] at z;cases z
     ·have z2:=un.frzs b ob _ z
      obtain⟨e1,_⟩:=hok b _ z
      obtain⟨e2,_⟩:=hok' b _ z2
      rw[e] at e1;cases e1
      exact e2
 cases hk:K.lookup a with
 |some o=>
  have e:=KX a o hk
  rw[ha] at e
  cases e
  refine core (fun _=>none) (fun _=>.inl rfl) (.inr ⟨_,vs.toArray,_,hk,rfl,rfl,rfl,by rw[List.size_toArray,lenV];exact hl,by simpa using rv⟩) (fun b u z=>by have z':(none:Option HO)=some u:=z;cases z') (fun b z=>absurd rfl z) fun z=>absurd rfl z
 |none=>
  refine core (fun b=>if b=a then some (.frz { cls:=.type "list",data:=.seq vs.toArray } (.lst (ns.map V.int))) else none) (fun b=>?_) (.inl (.inr ⟨{ cls:=.type "list",data:=.seq vs.toArray },if_pos rfl⟩)) (fun b u z=>?_) (fun b z=>?_) fun _=>hk
  ·by_cases hb:b=a
   ·exact .inr ⟨_,_,if_pos hb⟩
   ·exact .inl (if_neg hb)
  ·by_cases hb:b=a
   ·have z':=(if_pos hb).symm.trans z
    cases z'
    subst hb
    exact⟨ha,by rw[List.length_map];exact hl,vs,_,rv,ha⟩
   ·have z':=(if_neg hb).symm.trans z
    cases z'
  ·by_cases hb:b=a
   ·exact hb
   ·exact absurd (if_neg hb) z
theorem walk_spec {prog:Program}{name:Str}{least most l2 m2:Nat}{lo hi lo2 hi2:Int}{asked:List Int→Bool}{f:List Int→List Int}{k:Nat}{q:Program}{loose:List Str}{XP:(Str→Option Value)→Heap→Prop}{YP:World→Heap→Prop}{d:DefRec}{K:Params→PySem.W.Frag}{CX:World→CXT}{sp:World→Sp}{x:Str}
  (hn2:most≤sizeLine) (hdf:d.params.defaults=[]) (hr:Room k callerA)
  (hY:∀(w:World) (h:Heap),YP w h→(K w.params).In h)
  (F:∀(w:World) (mg:Str→Option Value) (fa:Addr) (h:Heap),(K w.params).In h→h.Ns mainGlobals mg→mg d.name=some (.ref fa) →
   ∃ fd:FuncData,(∀(s:Shared) (u:Value),BindsTo s fd ⟨[u],[]⟩ [(x,u)]) ∧
    ∀ base:Heap,(K w.params).In base→base.Ns mainGlobals mg→FnOk prog w (K w.params) mg base (CX w) k fa fd [x] (sp w))
  (hsp:∀(w:World) (H:Hp) (a:Addr) (ns:List Int),ns.length≤most→(∀ x∈ns,lo≤x∧x≤hi)→asked ns=true→nA H→SqL (K w.params) H a (ns.map V.int) →
   sp w [.ref a] H (fun v H'=>∃ b,v=.ref b∧H' b=some (.lst ((f ns).map V.int))) fun _ _ _=>False)
  (hCX:∀(w:World) (H:Hp) (s:Shared) (e:Value) (s':Shared),CX w [] H s (fun _ _ _=>False) e s'→False) :
  PySem.W.WalkOS q loose XP YP (OpenSpec.mk prog name [.list least most (.int lo hi)] (.list l2 m2 (.int lo2 hi2)) asked f) d [] (fun f vs=>PySem.call f vs):=by
 intro w s₀ s₁ mg mb G Y fa o pm cd doc dV kV ho hd hcd hD hmg hg args vals as hpre hlay hrd hwl hlo
 obtain rfl:dV=.none:=Dflts.none hD hdf
 obtain rfl:kV=.none:=Dflts.noKw hD
 obtain⟨a,vs,ns,rfl,rfl,hobj,hints,hlen,hbd,hask,hdec⟩:=z7m hpre hwl
 have KX:=hY w _ Y
 obtain⟨fd,hb,hF⟩:=F w mg fa _ KX G.T.g hmg
 refine enter_call (codeAny_mono (z7n (res:=f ns) KX G.T.g G.T.b G.T.builtins G.T.nolimit hg hobj hints (Nat.le_trans hlen hn2) hr hF hb (fun H hO hS=>hsp w H a ns hlen hbd hask hO hS) fun H e s'=>hCX w H s₁ e s') fun r s' hq=>?_)
 obtain⟨⟨b,rfl,its,n,hits,hob⟩,h2,h3,h4⟩:=hq
 refine⟨.inl ⟨.ref b,.list ((f ns).map WData.int),[b],rfl,fun _=>rfl,?_,?_,fun z=>absurd z Bool.false_ne_true⟩,h2,h3,h4⟩
 ·exact .list hob rfl rfl (by simpa using z1J hits)
 ·exact os_post hdec (same_self _)
end SH
end
section
namespace EV
open PySem L2 SM
structure Row(K:PySem.W.Frag)(mg:Str→Option Value)(CC:Addr)(r:FR)(a:Addr)(fd:FuncData):Prop where
 fn:Fun K r.name r.qual r.st a fd
 gl:r.meth=false→mg r.name=some (.ref a)
 mt:r.meth=true→Meth K CC r.name a
inductive Rows(K:PySem.W.Frag)(mg:Str→Option Value)(CC:Addr):List FR→List Addr→List FuncData→Prop
 |nil:Rows K mg CC [] [] []
 |cons {r:FR}{a:Addr}{fd:FuncData}{rs:List FR}{as:List Addr}{fds:List FuncData}:Row K mg CC r a fd→Rows K mg CC rs as fds→Rows K mg CC (r::rs) (a::as) (fd::fds)
theorem Rows.at{K:PySem.W.Frag}{mg:Str→Option Value}{CC:Addr}{d:FuncData}:∀{rs:List FR}{as:List Addr}{fds:List FuncData},Rows K mg CC rs as fds→∀(i:Nat) (r:FR),rs[i]?=some r→Row K mg CC r (as.getD i 0) (fds.getD i d)
 |_,_,_,.nil,i,r,h=>by simp at h
 |_,_,_,.cons (r:=r0) (as:=as) (fds:=fds) h t,0,r,e=>by
  cases e
  exact h
 |_,_,_,.cons (rs:=rs) h t,i+1,r,e=>t.at i r e
structure Gd(K:PySem.W.Frag)(mg:Str→Option Value)(x:Str)(st:Stmt)(f:Addr)(fd:FuncData):Prop where
 fn:Fun K x x st f fd
 at_:mg x=some (.ref f)
structure Md(K:PySem.W.Frag)(C:Addr)(m q:Str)(st:Stmt)(f:Addr)(fd:FuncData):Prop where
 fn:Fun K m q st f fd
 mt:Meth K C m f
structure Cl(K:PySem.W.Frag)(mg:Str→Option Value)(x:Str)(C:Addr):Prop where
 cl:Cls K C
 ms:PySem.W.makesIn K C=true
 kp:PySem.W.keepIn K (.ref C)=true
 at_:mg x=some (.ref C)
section
variable{K:PySem.W.Frag}{mg:Str→Option Value}{h:Heap}{f C:Addr}{x q m:Str}{st:Stmt}{fd:FuncData}{ps:List Str}{oc:Value}{od an:Option Addr}{osl:Array (Option Value)}{kV doc pm cdv ct:Value}
theorem Gd.nm(g:Gd K mg x st f fd)(ha:jI (dB st) ps=true):Nm K mg x st ps f fd:=⟨g.fn,g.at_,vX g.fn ha⟩
theorem Md.bi(g:Md K C m q st f fd)(ha:jI (dB st) ps=true):Binds K fd ps []:=vX g.fn ha
theorem Cl.make(c:Cl K mg x C)(g:Md K C "__init__" q st f fd):Mk K C f:=⟨c.ms,g.mt.at_,g.mt.fn,c.kp⟩
theorem gd_mk (X:K.In h) (G:h.Ns mainGlobals mg) (a:PySem.W.nsIn K mainGlobals x=some (some (.ref f))) (l:K.lookup f=some ⟨oc,od,.func (PySem.W.fnOf x x (dB st) (dP st) (aL st) .none kV doc pm an cdv ct),osl⟩)
  (c:PySem.W.codeIn K cdv x=true) (k:PySem.W.keepIn K (.ref f)=true):Gd K mg x st f (PySem.W.fnOf x x (dB st) (dP st) (aL st) .none kV doc pm an cdv ct):=⟨z8Y l c k,PySem.W.mg_of X G a⟩
theorem md_mk (a:PySem.W.findIn K (.ref C) m=some (some (.ref f))) (i:PySem.W.isFn K (.ref f)=true) (l:K.lookup f=some ⟨oc,od,.func (PySem.W.fnOf m q (dB st) (dP st) (aL st) .none kV doc pm an cdv ct),osl⟩)
  (c:PySem.W.codeIn K cdv q=true) (k:PySem.W.keepIn K (.ref f)=true):Md K C m q st f (PySem.W.fnOf m q (dB st) (dP st) (aL st) .none kV doc pm an cdv ct):=⟨z8Y l c k,a,i,k⟩
theorem cl_mk (X:K.In h) (G:h.Ns mainGlobals mg) (a:PySem.W.nsIn K mainGlobals x=some (some (.ref C))) (pg:PySem.W.plainGet K C Str.empty=true) (hd:PySem.W.hasDictIn K C=true) (po:PySem.W.plainOver K C=true)
  (sa:PySem.W.findIn K (.ref C) "__setattr__"=some (some (.builtin "object.__setattr__"))) (mk:PySem.W.makesIn K C=true) (kc:PySem.W.keepIn K (.ref C)=true):Cl K mg x C:=⟨⟨pg,hd,po,sa⟩,mk,kc,PySem.W.mg_of X G a⟩
theorem x5r{N:List Str}{body:Ss}{prim:Option (List U→M→Option (U×M))}{CC:Addr}(g:Gd K mg x st f fd):Row K mg CC ⟨x,x,false,ps,N,st,body,prim⟩ f fd:=⟨g.fn,fun _=>g.at_,fun z=>(nomatch z)⟩
theorem row_m{N:List Str}{body:Ss}{prim:Option (List U→M→Option (U×M))}(g:Md K C m q st f fd):Row K mg C ⟨m,q,true,ps,N,st,body,prim⟩ f fd:=⟨g.fn,fun z=>(nomatch z),fun _=>g.mt⟩
end
section
variable{P:Program}{w:World}{K:PySem.W.Frag}{mg:Str→Option Value}
noncomputable abbrev txOf(CC CM:Addr)(as:List Addr)(fds:List FuncData)(pa:Addr)(pd:FuncData):Tx:=⟨CC,CM,fun i=>as.getD i 0,fun i=>fds.getD i pd,pa,pd⟩
theorem x3G:((List.range 174).all fun f=>match FT[f]? with
 |some r=>r.prim.isNone||f==136||f==137
 |none=>true)=true:=by decide +kernel
theorem y7D:FT.length=174:=rfl
theorem x2C{v:List (Str×Int)}(h:∀ p∈v,∃ k,mg p.1=some (.int p.2 k)):∀ x i,v.lookup x=some i→∃ k,mg x=some (.int i k):=by
 induction v with
 |nil=>intro x i e;cases e
 |cons p v ih=>
  intro x i e
  obtain⟨y,j⟩:=p
  rw[List.lookup_cons] at e
  cases eb:(x==y) with
  |true=>
   rw[eb] at e
   cases e
   have:x=y:=by simpa using eb
   subst this
   exact h _ (List.mem_cons_self ..)
  |false=>
   rw[eb] at e
   exact ih (fun p hp=>h p (List.mem_cons_of_mem _ hp)) x i e
inductive Ints(mg:Str→Option Value):List (String×Int)→Prop
 |nil:Ints mg []
 |cons {x:String}{i:Int}{k:PySem.Tok}{l:List (String×Int)}:mg (Str.ofString x)=some (.int i k)→Ints mg l→Ints mg ((x,i)::l)
theorem Ints.of:∀{l:List (String×Int)},Ints mg l→∀ p∈(l.map fun p=>(Str.ofString p.1,p.2)),∃ k,mg p.1=some (.int p.2 k)
 |_,.nil,p,h=>nomatch h
 |_,.cons e r,p,h=>by
  rcases List.mem_cons.1 h with rfl|h
  ·exact⟨_,e⟩
  ·exact r.of p h
set_option maxHeartbeats 4000000 in
theorem ans_ok {CC CM CR CI sa sb ra pa mb mt mtm mpm mi ci ri rh rn rns rl ii ia fPl fCa fRu fFi fWh fRn fAs fLo fLd fAl fGe fOn fSe fCl fAn fTa fTb:Addr}{pd mbd mtd mtmd mpmd mid cid rid rhd rnd rnsd rld iid iad fPld fCad fRud fFid fWhd fRnd fAsd fLod fLdd fAld fGed fOnd fSed fCld fAnd fTad fTbd:FuncData}
  {as:List Addr}{fds:List FuncData} (R:Rows K mg CC FT as fds)
  (cC:Cl K mg "Cpu" CC) (cM:Cl K mg "Memory" CM) (cR:Cl K mg "Reader" CR) (cI:Cl K mg "Instructions" CI)
  (nf:∀ x∈fnames,NoAttr K CC x) (nb:NoAttr K CM "banks") (nw:NoAttr K CM "written") (nc:NoAttr K CR "calls") (np:NoAttr K CR "place") (no:NoAttr K CI "operations") (npl:NoAttr K CI "places")
  (gc:Ints mg GC0) (zl:mg "len"=none) (zr:mg "range"=none) (zd:mg "dict"=none) (ze:mg "enumerate"=none)
  (sp:mg "SET_PC_ALONE"=some (.ref sa)) (sq:∀ H,SqT K H sa (Q.spa.map fun(k:Nat)=>V.int (k:Int)))
  (st:mg "SETTERS"=some (.ref sb)) (sts:∀ H,SqT K H sb ((List.range 10).map fun i=>V.ref (as.getD (jK+i) 0)))
  (mR:mg "ROWS"=some (.ref ra)) (sR:∀ H,SqT K H ra (rowsS.map V.str))
  (D:DcT P w K mg (txOf CC CM as fds pa pd))
  (mI:Md K CM "__init__" "Memory.__init__" sMemInit mi mid) (mB:Md K CM "make_bank" "Memory.make_bank" sMkb mb mbd) (mT:Md K CM "tell" "Memory.tell" sTell mt mtd) (mP:Md K CM "put" "Memory.put" sPut pa pd)
  (mTM:Md K CM "tell_many" "Memory.tell_many" sTellMany mtm mtmd) (mPM:Md K CM "put_many" "Memory.put_many" sPutMany mpm mpmd)
  (cIn:Md K CC "__init__" "Cpu.__init__" sCpuInit ci cid)
  (rI:Md K CR "__init__" "Reader.__init__" (sRd 0) ri rid) (rH:Md K CR "has_more" "Reader.has_more" (sRd 1) rh rhd) (rN:Md K CR "take_number" "Reader.take_number" (sRd 2) rn rnd) (rNs:Md K CR "take_numbers" "Reader.take_numbers" (sRd 3) rns rnsd) (rL:Md K CR "take_lists" "Reader.take_lists" (sRd 4) rl rld)
  (iI:Md K CI "__init__" "Instructions.__init__" sInsInit ii iid) (iA:Md K CI "append_at_place" "Instructions.append_at_place" sApp ia iad)
  (gPl:Gd K mg "plain_steps" sPlain fPl fPld) (gCa:Gd K mg "careful_step" sCareful fCa fCad) (gRu:Gd K mg "run" sRun fRu fRud) (gFi:Gd K mg "fits" (top 257) fFi fFid) (gWh:Gd K mg "cpu_why" (top 254) fWh fWhd)
  (gRn:Gd K mg "cpu_run" (top 253) fRn fRnd) (gAs:Gd K mg "cpu_ask" (top 252) fAs fAsd) (gLo:Gd K mg "cpu_look" (top 251) fLo fLod) (gLd:Gd K mg "cpu_load" (top 250) fLd fLdd) (gAl:Gd K mg "tell_all" (top 215) fAl fAld)
  (gGe:Gd K mg "cpu_get" (top 255) fGe fGed) (gOn:Gd K mg "set_one" (top 227) fOn fOnd) (gSe:Gd K mg "cpu_set" (top 256) fSe fSed) (gCl:Gd K mg "answer_call" (top 249) fCl fCld) (gAn:Gd K mg "answers" (top 248) fAn fAnd)
  (gTa:Gd K mg "operations_at_places" (top 209) fTa fTad) (gTb:Gd K mg "operations_alone" (top 210) fTb fTbd):∀ base:Heap,FnOk P w K mg base CX0 14 fAn fAnd ["calls"] (jF K):=by
 intro base
 have gcl:=x2C (Ints.of gc)
 generalize et:txOf CC CM as fds pa pd=t at D
 have T0:Tok0 K mg t:=by subst et;exact⟨cC.cl,nf,gcl⟩
 have bP:Binds K pd ["self","at","byte"] []:=mP.bi (by decide +kernel)
 have T:Tok FT K mg t:=by
  subst et
  exact { toTok0:=T0,bi:=fun f r e=>y7k e (R.at (d:=pd) f r e).fn,gl:=fun f r e z=>⟨(R.at (d:=pd) f r e).gl z,(R.at (d:=pd) f r e).fn.kp⟩,mt:=fun f r e z=>(R.at (d:=pd) f r e).mt z,cm:=cM.cl,pm:=mP.mt,pb:=bP }
 have Z:Held FT K mg t:=by
  subst et
  exact⟨fun f r e=>(R.at (d:=pd) f r e).fn,fun f r e z=>h_sc e z,fun f r e z=>h_ck e z⟩
 have TM:MemT K mg t:=by subst et;exact⟨cM.cl,nb,nw,gcl⟩
 have mt_:∀{m q st f fd},Md K CM m q st f fd→Meth K t.CM m f:=by subst et;exact fun g=>g.mt
 have GM:FnOk P w K mg base CX0 2 pa pd ["self","at","byte"] (pF t):=y3k mP.fn mB.fn (mB.bi (by decide +kernel)) (mt_ mB) TM
 have pu:FnOk P w K mg base CX0 2 t.pa t.pd ["self","at","byte"] (qA t):=by subst et;exact y8f GM
 have pr:∀(f:Nat) (r:FR) (g:List U→M→Option (U×M)),FT[f]?=some r→r.prim=some g→FnOk P w K mg base CX0 2 (t.fa f) (t.fd f) r.ps (spF t g r.ps.length):=by
  intro f r g e z
  have hf:f<174:=by rw[←y7D];exact(List.getElem?_eq_some_iff.1 e).1
  have h1:=List.all_eq_true.1 x3G f (List.mem_range.2 hf)
  rw[e] at h1
  dsimp only at h1
  rw[z] at h1
  have F:=Z.fu f r e
  have h2:f=136∨f=137:=by simpa using h1
  rcases h2 with rfl|rfl
  ·obtain rfl:rR=r:=Option.some.inj (show some rR=some r from e)
   obtain rfl:iM=g:=Option.some.inj (show some iM=some g from z)
   exact x3C F zr
  ·obtain rfl:qK=r:=Option.some.inj (show some qK=some r from e)
   obtain rfl:iJ=g:=Option.some.inj (show some iJ=some g from z)
   exact x3B F zr
 have FF:Fok FT P w K mg base t 8 (evF FT 6):=fok T Z pr pu 6
 have II:InsT K mg CI sa:=⟨cI.cl,no,npl,sp,sq,zr⟩
 have RT:RdT K mg CR:=⟨cR.cl,nc,np,zl,zr⟩
 have nPl:Nm K mg "plain_steps" sPlain ["cpu","instructions","n"] fPl fPld:=gPl.nm (by decide +kernel)
 have nCa:Nm K mg "careful_step" sCareful ["cpu","instructions"] fCa fCad:=gCa.nm (by decide +kernel)
 have nRu:Nm K mg "run" sRun ["cpu","instructions","n"] fRu fRud:=gRu.nm (by decide +kernel)
 have nFi:Nm K mg "fits" (top 257) ["at","n"] fFi fFid:=gFi.nm (by decide +kernel)
 have nWh:Nm K mg "cpu_why" (top 254) ["cpu"] fWh fWhd:=gWh.nm (by decide +kernel)
 have nRn:Nm K mg "cpu_run" (top 253) ["cpu","instructions","n"] fRn fRnd:=gRn.nm (by decide +kernel)
 have nAs:Nm K mg "cpu_ask" (top 252) ["cpu","k"] fAs fAsd:=gAs.nm (by decide +kernel)
 have nLo:Nm K mg "cpu_look" (top 251) ["cpu","at","n"] fLo fLod:=gLo.nm (by decide +kernel)
 have nLd:Nm K mg "cpu_load" (top 250) ["cpu","at","n","lists"] fLd fLdd:=gLd.nm (by decide +kernel)
 have nAl:Nm K mg "tell_all" (top 215) ["cpu"] fAl fAld:=gAl.nm (by decide +kernel)
 have nGe:Nm K mg "cpu_get" (top 255) ["cpu","which"] fGe fGed:=gGe.nm (by decide +kernel)
 have nOn:Nm K mg "set_one" (top 227) ["cpu","which","value"] fOn fOnd:=gOn.nm (by decide +kernel)
 have nSe:Nm K mg "cpu_set" (top 256) ["cpu","which","value"] fSe fSed:=gSe.nm (by decide +kernel)
 have nCl:Nm K mg "answer_call" (top 249) ["cpu","instructions","call","numbers","lists"] fCl fCld:=gCl.nm (by decide +kernel)
 have nAn:Nm K mg "answers" (top 248) ["calls"] fAn fAnd:=gAn.nm (by decide +kernel)
 have nTa:Nm K mg "operations_at_places" (top 209) [] fTa fTad:=gTa.nm (by decide +kernel)
 have nTb:Nm K mg "operations_alone" (top 210) [] fTb fTbd:=gTb.nm (by decide +kernel)
 have GRu:FnOk P w K mg base CX0 11 fRu fRud ["cpu","instructions","n"] (y0l t CI):=y8g nRu nCa nPl T II FF
 have GTM:FnOk P w K mg base CX0 2 mtm mtmd ["self","at","n"] (tH t):=z3x mTM.fn mT.fn (mT.bi (by decide +kernel)) (mt_ mT) TM zr
 have GPM:FnOk P w K mg base CX0 3 mpm mpmd ["self","at","handed"] (uB t):=z4K mPM.fn GM bP (mt_ mP) TM ze
 have ST:SetT K mg t sb:=by subst et;exact⟨st,sts⟩
 have GMI:FnOk P w K mg base CX0 2 mi mid ["self"] (uA t):=z4J mI.fn mB.fn (mB.bi (by decide +kernel)) (mt_ mB) TM
 have cMm:mg "Memory"=some (.ref t.CM):=by subst et;exact cM.at_
 have cMk:Mk K t.CM mi:=by subst et;exact cM.make mI
 have GCI:FnOk P w K mg base CX0 4 ci cid ["self"] (tY t):=z4H cIn.fn GMI (mI.bi (by decide +kernel)) cMk cMm T0 TM
 have GII:FnOk P w K mg base CX0 2 ii iid ["self"] (tZ t CI):=z4I iI.fn nTa nTb D II iA.fn (iA.bi (by decide +kernel)) iA.mt mR sR
 have F7:Fns7 P w K mg base t CI:=⟨⟨_,_,nLd,y3i nLd nFi GPM (mPM.bi (by decide +kernel)) (mt_ mPM) T0 TM⟩,⟨_,_,nLo,y3j nLo nFi GTM (mTM.bi (by decide +kernel)) (mt_ mTM) T0 TM⟩,⟨_,_,nAs,y8a nAs T FF⟩,
  ⟨_,_,nRn,y3l nRn nRu GRu T0⟩,⟨_,_,nWh,ok_why nWh T0⟩,⟨_,_,nGe,y8c nGe nAl T0⟩,⟨_,_,nSe,ok_set nSe nOn (y8e nOn ST T FF) T0⟩⟩
 have X:AnsT P w K mg base t CI CR:=⟨⟨_,_,cR.make rI,z6P rI.fn RT,rI.bi (by decide +kernel)⟩,cR.at_,⟨_,_,cI.make iI,GII.mono (by decide),iI.bi (by decide +kernel)⟩,cI.at_,
  ⟨_,_,by subst et;exact cC.make cIn,GCI,cIn.bi (by decide +kernel)⟩,by subst et;exact cC.at_,⟨_,_,rH.mt,y8d rH.fn RT,rH.bi (by decide +kernel)⟩,⟨_,_,rN.mt,wD rN.fn RT,rN.bi (by decide +kernel)⟩,
  ⟨_,_,rNs.mt,z3w rNs.fn rN.fn (rN.bi (by decide +kernel)) rN.mt RT,rNs.bi (by decide +kernel)⟩,⟨_,_,rL.mt,z9s rL.fn rN.fn (rN.bi (by decide +kernel)) rN.mt rNs.fn (rNs.bi (by decide +kernel)) rNs.mt RT,rL.bi (by decide +kernel)⟩,
  ⟨_,_,nCl,y3h nCl F7 T0⟩⟩
 exact z4E nAn X RT T0
end
end EV
end
section
namespace EV
open PySem L2 SM
inductive Ents(w:World)(fa:Nat→Addr):List DictEntry→List (String×Nat)→Prop
 |nil:Ents w fa [] []
 |cons {hs:Int}{k v:Value}{tk:PySem.Tok}{s:String}{n:Nat}{es:List DictEntry}{tab:List (String×Nat)}:hs=hashStr w (Str.ofString s)→k=.str (Str.ofString s) tk→v=.ref (fa n)→Ents w fa es tab→Ents w fa (⟨hs,k,v⟩::es) ((s,n)::tab)
section
variable{P:Program}{w:World}{K:PySem.W.Frag}{mg:Str→Option Value}{base:Heap}{t:Tx}
theorem z9f(s:String)(tk:PySem.Tok):iR (Sum.inr (Str.ofString s)) (.str (Str.ofString s) tk)=true:=by
 simp[iR,Value.isStrOf]
noncomputable def qJ(fa:Nat→Addr)(tab:List (String×Nat)):List (Key×Value):=tab.map fun p=>(Sum.inr (Str.ofString p.1),Value.ref (fa p.2))
theorem Ents.keys{fa:Nat→Addr}:∀{es:List DictEntry}{tab:List (String×Nat)},Ents w fa es tab→∀ e∈es,∃ k,(cN P w).is k e.key=true∧e.hash=(cN P w).hash k
 |_,_,.nil,e,h=>nomatch h
 |_,_,.cons (s:=s) (tk:=tk) h1 h2 h3 r,e,h=>by
  rcases List.mem_cons.1 h with rfl|h
  ·refine⟨Sum.inr (Str.ofString s),?_,h1⟩
   subst h2
   exact z9f s tk
  ·exact r.keys e h
theorem Ents.pairs{fa:Nat→Addr}:∀{es:List DictEntry}{tab:List (String×Nat)},Ents w fa es tab→Pairs (cN P w) es (qJ fa tab)
 |_,_,.nil=>.nil
 |_,_,.cons (s:=s) (tk:=tk) h1 h2 h3 r=>by
  subst h2 h3
  refine .cons ?_ rfl r.pairs
  exact z9f s tk
theorem y0t:∀(tab:List (String×Nat)),KV (mpV t (eI tab)) (qJ t.fa tab)
 |[]=>.nil
 |p::tab=>.cons ⟨rfl,rfl⟩ (y0t tab)
theorem dict_mk{a:Addr}{es:List DictEntry}{ep:Nat}{tab:List (String×Nat)}(l:K.lookup a=some ⟨.type "dict",none,.dict es.toArray ep,#[]⟩)(E:Ents w t.fa es tab)(nd:decide ((tab.map fun p=>(Sum.inr (Str.ofString p.1):Key)).Nodup)=true)(sm:(a==sysModules)=false)(ln:decide (tab.length≤1000)=true) :
  DAt P w K a (mpV t (eI tab)):=by
 refine⟨⟨_,es.toArray,ep,qJ t.fa tab,l,⟨rfl,rfl,rfl⟩,rfl,fun e he=>E.keys e (by simpa using he),E.pairs,?_,y0t tab⟩,sm,?_⟩
 ·have:=of_decide_eq_true nd
  unfold qJ
  rw[List.map_map]
  exact this
 ·unfold mpV eI
  rw[List.length_map,List.length_map]
  exact Nat.le_trans (of_decide_eq_true ln) (by decide)
theorem tup_mk{a:Addr}{od:Option Addr}{its:List Value}{n:Nat}{sl:Array (Option Value)}{xs:List V}(l:K.lookup a=some ⟨.type "tuple",od,.seq its.toArray n,sl⟩)(hz:decide (its.length≤1000)=true)(r:Vals xs its)(H:Hp):SqT K H a xs:=
 .inr ⟨_,its.toArray,n,l,rfl,rfl,by rw[List.size_toArray];exact Nat.le_trans (of_decide_eq_true hz) (by decide),by simpa using r⟩
theorem y2F{x q:Str}{st:Stmt}{ps:List Str}{f:Addr}{fd:FuncData}(F:Fun K x q st f fd)(ha:jI (dB st) ps=true){us:List Value}(hl:us.length=ps.length):bindArgs fd ⟨us,[]⟩=pure (ps.zip us):=by
 obtain⟨oc,od,kV,doc,pm,an,cdv,ct,osl,rfl,lk,hcd⟩:=F.ex
 revert ha
 generalize dB st=a
 intro ha
 obtain⟨po,ar,va,ko,kd,kw,df⟩:=a
 unfold jI at ha
 simp only[Bool.and_eq_true,decide_eq_true_eq] at ha
 obtain⟨⟨⟨⟨⟨h1,rfl⟩,h3⟩,h4⟩,h5⟩,h6⟩:=ha
 cases po <;> cases va <;> cases ko <;> cases kw <;> simp at h1 h3 h4 h5
 exact z2R hl h6
theorem y8E{H:Hp}{a:Addr}{xs:List V}(o:nA H)(h:SqL K H a xs):SqF K H a xs:=by
 rcases h with (h|h)|h
 ·rcases o a with z|⟨ob,ys,z⟩
  ·rw[h] at z;cases z
  ·rw[h] at z;cases z
 ·exact .inl h
 ·exact .inr h
theorem y7d{H:Hp}{a:Addr}{ns:List Int}(hl:ns.length≤30000)(hask:PyQl49.answers_asked ns=true)(o:nA H)(h:SqL K H a (ns.map V.int)) :
  jF K [.ref a] H (fun v H'=>∃ b,v=.ref b∧H' b=some (.lst ((PyQl49.answers ns).map V.int))) fun _ _ _=>False:=
 ⟨a,ns,rfl,y8E o h,Nat.le_trans hl (by decide),hask,fun b H' hb=>⟨b,rfl,hb⟩⟩
theorem rf {h:Heap}{f:Addr}{ps N:List Str}{body:Ss}{prim:Option (List U→M→Option (U×M))}{CC:Addr}{oc:Value}{od an:Option Addr}{osl:Array (Option Value)}{kV doc pm cdv ct:Value} (x:String) (i:Nat) (X:K.In h) (G:h.Ns mainGlobals mg) (a:PySem.W.nsIn K mainGlobals (Str.ofString x)=some (some (.ref f)))
  (l:K.lookup f=some ⟨oc,od,.func (PySem.W.fnOf (Str.ofString x) (Str.ofString x) (dB (top i)) (dP (top i)) (aL (top i)) .none kV doc pm an cdv ct),osl⟩) (c:PySem.W.codeIn K cdv (Str.ofString x)=true) (k:PySem.W.keepIn K (.ref f)=true) :
  Row K mg CC ⟨Str.ofString x,Str.ofString x,false,ps,N,top i,body,prim⟩ f (PySem.W.fnOf (Str.ofString x) (Str.ofString x) (dB (top i)) (dP (top i)) (aL (top i)) .none kV doc pm an cdv ct):=x5r (gd_mk X G a l c k)
theorem fin{fa fAn:Addr}{fAnd:FuncData}(hmg:mg "answers"=some (.ref fa))(g:Gd K mg "answers" (top 248) fAn fAnd)(H:∀ base:Heap,FnOk P w K mg base CX0 14 fAn fAnd ["calls"] (jF K)) :
  ∃ fd:FuncData,(∀(s:Shared) (u:Value),BindsTo s fd ⟨[u],[]⟩ [("calls",u)])∧∀ base:Heap,FnOk P w K mg base CX0 14 fa fd ["calls"] (jF K):=by
 have e:=hmg.symm.trans g.at_
 cases e
 exact⟨fAnd,fun s u=>.of_eq (y2F (ps:=["calls"]) g.fn (by decide +kernel) (us:=[u]) rfl),H⟩
theorem walkA {q:Program}{loose:List Str}{XP:(Str→Option Value)→Heap→Prop}{d:DefRec}{K:Params→PySem.W.Frag} (hdf:d.params.defaults=[])
  (F:∀(w:World) (mg:Str→Option Value) (fa:Addr) (h:Heap),(K w.params).In h→h.Ns mainGlobals mg→mg d.name=some (.ref fa) →
   ∃ fd:FuncData,(∀(s:Shared) (u:Value),BindsTo s fd ⟨[u],[]⟩ [("calls",u)])∧∀ base:Heap,FnOk PySem.Challenge.pw_sixteenbits_s01_answers w (K w.params) mg base CX0 14 fa fd ["calls"] (jF (K w.params))) :
  PySem.W.WalkOS q loose XP (PySem.W.InK K) PySem.Challenge.rw_sixteenbits_s01_answers d [] (fun f vs=>PySem.call f vs):=
 SH.walk_spec (k:=14) (x:="calls") (CX:=fun _=>CX0) (sp:=fun w=>jF (K w.params)) (K:=K) (by decide) hdf ⟨rfl,by decide,by decide⟩ (fun w h Y=>Y) (fun w mg fa h X G e=>let ⟨fd,h1,h2⟩:=F w mg fa h X G e;⟨fd,h1,fun base _ _=>h2 base⟩)
  (fun w H a ns hl hb hask o hS=>y7d hl hask o hS) (fun _ _ _ _ _ z=>z)
end
end EV
end
section
set_option Elab.async false
set_option linter.all false
set_option maxRecDepth 100000
set_option maxHeartbeats 0
namespace HD
open PySem PySem.W PySem.Calls PyProof.Rows
noncomputable def isFreed : Obj → Bool
  | ⟨_, _, .freed, _⟩ => true
  | _ => false
noncomputable def pickP : List Obj → Nat → List Addr → List (Addr × Obj)
  | [], _, _ => []
  | o :: os, i, as => match as with
    | [] => []
    | a :: r => match Nat.beq i a with
      | true => (match isFreed o with
        | true => []
        | false => (a, o) :: pickP os (i + 1) r)
      | false => pickP os (i + 1) (a :: r)
theorem sub_one (i x : Nat) (h : i + 1 ≤ x) : x - i = (x - (i + 1)) + 1 := by omega
theorem pickP_at : ∀ (os : List Obj) (i : Nat) (as : List Addr) (p : Addr × Obj), p ∈ pickP os i as → i ≤ p.1 ∧ os[p.1 - i]? = some p.2 ∧ isFreed p.2 = false
  | [], _, _, _, h => by simp [pickP] at h
  | o :: os, i, [], _, h => by simp [pickP] at h
  | o :: os, i, a :: r, p, h => by
    unfold pickP at h
    cases e : Nat.beq i a with
    | true =>
      cases f : isFreed o with
      | true => simp [e, f] at h
      | false =>
        simp only [e, f, List.mem_cons] at h
        rcases h with rfl | h
        · have e' : i = a := Nat.eq_of_beq_eq_true e
          subst e'
          exact ⟨Nat.le_refl _, by simp, f⟩
        · obtain ⟨h1, h2, h3⟩ := pickP_at os (i + 1) r p h
          refine ⟨Nat.le_of_succ_le h1, ?_, h3⟩
          rw [sub_one i p.1 h1, List.getElem?_cons_succ]
          exact h2
    | false =>
      simp only [e] at h
      obtain ⟨h1, h2, h3⟩ := pickP_at os (i + 1) (a :: r) p h
      refine ⟨Nat.le_of_succ_le h1, ?_, h3⟩
      rw [sub_one i p.1 h1, List.getElem?_cons_succ]
      exact h2
theorem lookup_mem {K : Frag} {a : Addr} {o : Obj} : K.lookup a = some o → (a, o) ∈ K := by
  induction K with
  | nil => intro h; cases h
  | cons p r ih =>
    intro h
    obtain ⟨b, u⟩ := p
    rw [List.lookup_cons] at h
    cases e : (a == b) with
    | true =>
      rw [e] at h
      cases h
      have : a = b := by simpa using e
      subst this
      exact List.mem_cons_self
    | false =>
      rw [e] at h
      exact List.mem_cons_of_mem _ (ih h)
theorem get_live {h : Heap} {a : Addr} {o : Obj} (e : h.objs[a]? = some o) (f : isFreed o = false) : h.get? a = some o := by
  unfold Heap.get?
  rw [e]
  split
  · rename_i q
    cases q
    cases f
  · rfl
theorem in_of_pick {K : Frag} {as : List Addr} {h : Heap} (e : pickP h.objs.toList 0 as = K) : K.In h := fun a o l => by
  have hm := lookup_mem l
  rw [← e] at hm
  obtain ⟨_, h2, h3⟩ := pickP_at _ _ _ _ hm
  exact get_live (by simpa using h2) h3
noncomputable def q0 : Program := { PySem.Challenge.pw_sixteenbits_s01_answers with main := { PySem.Challenge.pw_sixteenbits_s01_answers.main with body := [PySem.Challenge.pw_sixteenbits_s01_answers.main.body.getD 248 (.Pass ⟨0, 0, 0, 0⟩)] } }
noncomputable def loose0 : List Str := List.map Str.ofString (["MEMORY_SIZE", "BANK_SIZE", "BANK_COUNT", "Memory", "NEGATIVE", "OVERFLOW", "NARROW_A", "NARROW_X", "DECIMAL", "IRQ_OFF", "ZERO", "CARRY", "STACK_PAGE", "FIRST_STACK", "RESET_VECTOR", "ASK_RESET", "ASK_NMI", "ASK_IRQ", "ASK_NO_IRQ", "WHY_ALL_DONE", "WHY_WAITING", "WHY_STOPPED", "Cpu", "COP_VECTOR", "BRK_VECTOR", "NMI_VECTOR", "IRQ_VECTOR", "EMULATION_COP_VECTOR", "EMULATION_NMI_VECTOR", "EMULATION_BRK_VECTOR", "EMULATION_IRQ_VECTOR", "interrupt", "interrupt_outside", "nmi", "irq", "brk", "cop", "rti", "INTERRUPTS", "branch", "bpl", "bmi", "bvc", "bvs", "bcc", "bcs", "bne", "beq", "bra", "brl", "indexed_target", "go_far", "jmp_a", "jmp_ai", "jmp_aix", "jml_al", "jml_al2", "push_last_byte", "jsr_a", "jsr_aix", "jsl", "rts", "rtl", "JUMPS", "ALL_BUT_N_Z", "note_byte", "note_word", "note_carry", "noted", "mask_of", "worked_on_a", "keep_a", "read_number", "write_number", "lda", "ldx", "ldy", "sta", "stx", "sty", "stz", "ora", "and_a", "eor", "compare", "cmp", "cpx", "cpy", "note_common_bits", "bit", "bit_im", "tsb", "trb", "LOADS", "MOVE_LENGTH", "move_byte", "mvn", "mvp", "wdm", "nop", "wai", "stp", "MOVES", "LAST_PLACE", "place_d", "place_dx", "place_dy", "place_di", "place_dix", "place_diy", "place_dl", "place_dly", "place_a", "place_ax", "place_ay", "place_al", "place_alx", "place_sr", "place_siy", "place_im", "place_ix", "behind_first", "PLACES", "shifted_left", "shifted_right", "read_at", "keep_at", "asl", "rol", "lsr", "ror", "inc", "dec", "asl_a", "rol_a", "lsr_a", "ror_a", "inc_a", "dec_a", "inx", "iny", "dex", "dey", "SHIFTS", "COUNTS", "push_number", "pull_number", "pha", "phx", "phy", "pla", "plx", "ply", "php", "plp", "phd", "pld", "phb", "plb", "phk", "pea", "pei", "per", "STACK", "STACK_AT_PLACES", "decimal_sum", "decimal_difference", "keep_total", "adc", "sbc", "SUMS", "tax", "tay", "tsx", "txy", "tyx", "txa", "tya", "txs", "tcs", "tsc", "tcd", "tdc", "xba", "xce", "clc", "sec", "cli", "sei", "cld", "sed", "clv", "rep", "sep", "TRANSFERS", "ROWS", "operations_at_places", "operations_alone", "Instructions", "Reader", "tell_all", "set_a", "set_x", "set_y", "set_d", "set_s", "set_pc", "set_pb", "set_db", "set_flags", "set_emulation", "SETTERS", "set_one", "SET_PC_ALONE", "run", "plain_steps", "careful_step", "CPU_BEGIN", "CPU_LOAD", "CPU_LOOK", "CPU_ASK", "CPU_RUN", "CPU_WHY", "CPU_GET", "CPU_SET", "DONE", "REFUSED", "MOST_BYTES", "MOST_STEPS", "REGISTER_COUNT", "UnknownCall", "answer_call", "cpu_load", "cpu_look", "cpu_ask", "cpu_run", "cpu_why", "cpu_get", "cpu_set", "fits"] : List String)
theorem ok0 : (chainsOk q0 && opensWell PySem.Challenge.rw_sixteenbits_s01_answers.prog) = true := by decide +kernel
theorem PySem.W.holds_os {q : Program} {loose : List Str} {Xt : Shared → Bool} {XP : (Str → Option Value) → Heap → Prop} {α : Type} {Yf : Shared → α} {Ya : World → α} {YP : World → Heap → Prop} {d : DefRec} {kwd : List (Str × Expr)} {N : Nat} {K : Params → Frag} {as : List Addr}
    (left : LeftO PySem.Challenge.rw_sixteenbits_s01_answers.prog q0 loose0 (fun s => xlAt q0 [] s && recOk [] s) (fun s => pickP s.heap.objs.toList 0 as) (fun w => K w.params) N)
    (hY : ∀ (w : World) (s : Shared), as.map s.heap.get? = ((K w.params).map fun p => some p.2) → InK K w s.heap) (hYk : ∀ (w : World) (h h' : Heap), InK K w h → (∀ b o, h.get? b = some o → h'.get? b = some o) → InK K w h')
    (hX : ∀ s, Xt s = true → XP (s.heap.nsMap mainGlobals) s.heap) (hXk : ∀ mg h h', XP mg h → (∀ b o, h.get? b = some o → h'.get? b = some o) → XP mg h')
    (hdef : defOf q0 PySem.Challenge.rw_sixteenbits_s01_answers.name = some (d, kwd)) (hp : PySem.Challenge.rw_sixteenbits_s01_answers.prog.theDef PySem.Challenge.rw_sixteenbits_s01_answers.name = some (d.params, d.body, d.scope))
    (hk : kwWritten? d.params.kwonlyargs d.params.kw_defaults = some kwd) (hRf : ∀ s, Xt s = true → RecFacts [] s.heap)
    (hsh : ∀ as, PySem.Challenge.rw_sixteenbits_s01_answers.pre as = true → WShape.hasAll [] as (PySem.Challenge.rw_sixteenbits_s01_answers.args.map Codec.shape) = true)
    (k1 : PySem.Challenge.rw_sixteenbits_s01_answers.wellSaid = true) (ok : true = true) (hb : PySem.Challenge.rw_sixteenbits_s01_answers.prog.bare)
    (hw : ∃ args, PySem.Challenge.rw_sixteenbits_s01_answers.pre args = true ∧ WData.layableAll args = true)
    (call : WalkOS q0 loose0 (XL q0 []) (InK K) PySem.Challenge.rw_sixteenbits_s01_answers d kwd fun f vs => PySem.call f vs) : PySem.Challenge.rw_sixteenbits_s01_answers.Holds :=
  _root_.PySem.W.holds_os (r := PySem.Challenge.rw_sixteenbits_s01_answers) (q := q0) (loose := loose0) (Xt := fun s => xlAt q0 [] s && recOk [] s) (XP := XL q0 []) (Yf := fun s => pickP s.heap.objs.toList 0 as) (Ya := fun w => K w.params) (YP := InK K) (N := N)
    left (fun w s e => in_of_pick e) InK.keeps (fun s e => xl_of s (Bool.and_eq_true_iff.mp e).1) XL.keeps hdef hp hk (fun s e => recFacts_of (Bool.and_eq_true_iff.mp e).2) hsh k1 ok0 hb hw call
end HD
end
namespace PySem.W.Fast
def tw7913725362217107535:=Nat
def tw6396403394693961302:=Nat
def tw78251591870232575:=Nat
def tw7353121637026091849:=Nat
def tw4376533821601697859:=Nat
def tw2865453222350979786:=Nat
def tw4084812613163884457:=Nat
def tw7839612166713786618:=Nat
def tw1550965428373405202:=Nat
def tw2211812689945910575:=Nat
def tw9934178442928042535:=Nat
def tw11404581414298863879:=Nat
def tw7799326739614548076:=Nat
def tw9566372043038714575:=Nat
def tw5894143562000182041:=Nat
def tw685964119229968173:=Nat
def tw12339363397588042403:=Nat
def tw834147696616362100:=Nat
def tw10680084860638229231:=Nat
def tw16632457916036197919:=Nat
def tw12764231967787208768:=Nat
def tw1342579371217351406:=Nat
def tw11123222293546956763:=Nat
def tw2496078326919054982:=Nat
def tw3199122960178227930:=Nat
def tw10619163285451976872:=Nat
def tw14879580782628879347:=Nat
def tw6661053569624951296:=Nat
def tw3883158602809984027:=Nat
def tw11010634857636815863:=Nat
def tw9898364944578584415:=Nat
def tw10155291739719807555:=Nat
def tw6080944897314003634:=Nat
def tw6951824378117461946:=Nat
def tw7701785968721150537:=Nat
def tw7442163008637836982:=Nat
def tw12135681793203676279:=Nat
def tw13421493551584226004:=Nat
def tw5900020366173441170:=Nat
def tw858982495395090606:=Nat
def tw6784170277169023867:=Nat
def tw11178908825839159266:=Nat
def tw843828243288487869:=Nat
def tw9101683090628132425:=Nat
def tw17426091387269185939:=Nat
def tw13179631810041506870:=Nat
def tw17083850082934207971:=Nat
def tw17028381210911229581:=Nat
def tw5936610316676785910:=Nat
def tw5248948891563572804:=Nat
def tw10465514608185347964:=Nat
def tw2183381745295845821:=Nat
def tw1629455976162117439:=Nat
def tw10581877584643510523:=Nat
def tw3172585394674558786:=Nat
def tw11514664678474352912:=Nat
def tw312122574166361066:=Nat
def tw16213262752641947812:=Nat
def tw2552282798095707827:=Nat
def tw13649663166096355272:=Nat
def tw6863143057589433654:=Nat
def tw11436590659676996669:=Nat
def tw4605949591540516799:=Nat
def tw4888111320830319213:=Nat
def tw3123643452848669896:=Nat
def tw15633162786087548494:=Nat
def tw16058263612855330983:=Nat
def tw4902847843243064738:=Nat
def tw2947460544618595339:=Nat
def tw1256118599363599930:=Nat
def tw14918237490885969146:=Nat
def tw11036936079770914328:=Nat
def tw12988921352827484610:=Nat
def tw13029261266727147389:=Nat
def tw7882191878430370067:=Nat
def tw14148906338823656130:=Nat
def tw1166184058079662534:=Nat
def tw5148910053712430807:=Nat
def tw637889044008442586:=Nat
def tw7152069025494299956:=Nat
def tw9333989935657329917:=Nat
def tw2201197167263900390:=Nat
def tw10378043476478352266:=Nat
def tw10372433371481590825:=Nat
def tw4698901151020623448:=Nat
def tw8713038164590760037:=Nat
def tw6553908664490219618:=Nat
def tw4020220301934682546:=Nat
def tw6623818649237289993:=Nat
def tw4063071850550415216:=Nat
def tw1862580385473375694:=Nat
def tw14580637680942569795:=Nat
def tw13704011620270608122:=Nat
def tw10404574534729488107:=Nat
def tw2999934065418928429:=Nat
def tw7907285150775265107:=Nat
def tw5501751371409128670:=Nat
def tw12134668695599658557:=Nat
def tw2744964876572782947:=Nat
def tw7319457793368170308:=Nat
def tw11785343527896626731:=Nat
def tw2832472434740678361:=Nat
def tw9171691163823636070:=Nat
def tw13259305738675764624:=Nat
def tw6952343150582283555:=Nat
def tw15448186369654279942:=Nat
def tw13141862660216423928:=Nat
def tw14657234834933873588:=Nat
def tw5846622697056992836:=Nat
def tw10664809323246618499:=Nat
def tw11066104479206320337:=Nat
def tw16570513686075884302:=Nat
def tw12912332155441184905:=Nat
def tw4335238893307850886:=Nat
def tw11256183128727575214:=Nat
def tw5072571680325771742:=Nat
def tw3362771399982796394:=Nat
def tw1054486296319877787:=Nat
def tw9886833015591500542:=Nat
def tw12605055342357579235:=Nat
def tw5429522555263141540:=Nat
def tw9120712601791782584:=Nat
def tw6919945636126047987:=Nat
def tw12037417207846012776:=Nat
def tw7203152815289242931:=Nat
def tw11821600762094503726:=Nat
def tw3205815470242118650:=Nat
def tw1720849793062450797:=Nat
def tw3484410750992562728:=Nat
def tw13549485799950726364:=Nat
def tw6819969257381519579:=Nat
def tw18027727873059360229:=Nat
def tw16593231774875369983:=Nat
def tw18227646432636010921:=Nat
def tw14530382256963879824:=Nat
def tw13814773615097990161:=Nat
def tw8608944932061623901:=Nat
def tw9988698838331427943:=Nat
def tw9549875367055144582:=Nat
def tw10026249274908405655:=Nat
def tw3039166874309381492:=Nat
def tw17254911022218527312:=Nat
def tw15018464365608028244:=Nat
def tw6930909562161085255:=Nat
def tw16758103858401923191:=Nat
def tw4236522103760935178:=Nat
def tw2601152282532288460:=Nat
def tw14826571038096950711:=Nat
def tw5439231602420817498:=Nat
def tw1507655403246244333:=Nat
def tw1401891280461303585:=Nat
def tw8035565167192300152:=Nat
def tw2658200619123377381:=Nat
def tw4006204821485230678:=Nat
def tw11702286466569306097:=Nat
def tw5570157950506867262:=Nat
def tw9702565289500618453:=Nat
def tw15425105006804797523:=Nat
def tw10077728786912198017:=Nat
def tw13787651202783642233:=Nat
def tw2550117027650953112:=Nat
def tw3514243050249128709:=Nat
def tw7379256786161841554:=Nat
def tw10332566701962993411:=Nat
def tw8425984387634896726:=Nat
def tw6927530176366017663:=Nat
def tw14943028781170507801:=Nat
def tw6735946792488810772:=Nat
def tw13255380365113512140:=Nat
def tw2042558160224470565:=Nat
def tw9207273985503306203:=Nat
def tw12291058763824857677:=Nat
def tw641809513459637481:=Nat
def tw493359147140269187:=Nat
def tw6914334116318005820:=Nat
def tw7241821400576209986:=Nat
def tw10874534490408287916:=Nat
def tw6177605966936084919:=Nat
def tw261292339077636134:=Nat
def tw8814911446353353862:=Nat
def tw18260564942144100760:=Nat
def tw1514452729960108690:=Nat
def tw7854444904748366865:=Nat
def tw10701045257050175800:=Nat
def tw13279886843963824331:=Nat
def tw4313140005295681451:=Nat
def tw3593823277018834740:=Nat
def tw7730743858274548106:=Nat
def tw8371956204394289657:=Nat
def tw16296764273897924138:=Nat
def tw18081853303342448282:=Nat
def tw3560410970481276788:=Nat
def tw15766291376181191499:=Nat
def tw17489479517887934688:=Nat
def tw15145987250812777866:=Nat
def tw6468313227042724160:=Nat
def tw6318212855193707128:=Nat
def tw14085808032884650158:=Nat
def tw13161460253915723499:=Nat
def tw7400560497067283863:=Nat
def tw15331281161902455883:=Nat
def tw6156122761138854340:=Nat
def tw1755813850251127800:=Nat
def tw17003458748931501931:=Nat
def tw1924455384084476320:=Nat
def tw9072837904007165180:=Nat
def tw14774161810397860432:=Nat
def tw1831619712733556361:=Nat
def tw7286304151216675004:=Nat
def tw8032882850733670058:=Nat
def tw13429010510643054038:=Nat
def tw6183248645468968268:=Nat
def tw13979666686483420570:=Nat
def tw15101503990298655081:=Nat
def tw17050797883938044890:=Nat
def tw17765290541806532573:=Nat
def tw6683438339401108966:=Nat
def tw11899304248848021117:=Nat
def tw3807589825736160466:=Nat
def tw12550482795857366749:=Nat
def tw10239659243108467577:=Nat
def tw2565870116339561719:=Nat
def tw1110484715846780514:=Nat
def tw9943830277688253960:=Nat
def tw17326575427977211711:=Nat
def tw8616497646736930133:=Nat
def tw13234043584997764026:=Nat
def tw11762966563194172843:=Nat
def tw9894709523471372660:=Nat
def tw17276388103768069708:=Nat
def tw6222130220770433074:=Nat
def tw3156649689605815580:=Nat
def tw16614360682881711921:=Nat
def tw16603935998579272624:=Nat
def tw8866644143545339944:=Nat
def tw3847199976775370046:=Nat
def tw7034292832022565770:=Nat
def tw4392972434342162275:=Nat
def tw1118167775318795595:=Nat
def tw13760693266103557009:=Nat
def tw2421981594389008277:=Nat
def tw12997094198162589525:=Nat
def tw859498373929372075:=Nat
def tw16736012624638644735:=Nat
def tw17445066455262820997:=Nat
def tw7243175465466730712:=Nat
def tw10339393154876486274:=Nat
def tw14423431002446183650:=Nat
def tw8242970596309570621:=Nat
def tw15539772702690811442:=Nat
def tw4974517126109579073:=Nat
def tw874570188875305330:=Nat
def tw17803667794160570676:=Nat
def tw15784582486935653619:=Nat
def tw15523763080524712128:=Nat
def tw16248536222868457254:=Nat
def tw3364277718988434754:=Nat
def tw7101276816434185016:=Nat
def tw17026010977672942519:=Nat
def tw8639001663027119193:=Nat
def tw2469703111790503327:=Nat
def tw3045057811176717307:=Nat
def tw2018052547732624509:=Nat
def tw625154843889466554:=Nat
def tw15842860715984326610:=Nat
def tw6387563914665347127:=Nat
def tw11663228451333242345:=Nat
def tw6793986033870282322:=Nat
def tw15999135654555206333:=Nat
def tw11419588191782352816:=Nat
def tw13966752092667347697:=Nat
def tw1805241133155619705:=Nat
def tw9826760759976245923:=Nat
def tw3669038457618521243:=Nat
def tw2066628845809014123:=Nat
def tw14612965928847784704:=Nat
def tw2920078951580789778:=Nat
def tw11069403115722201383:=Nat
def tw5879886202855710101:=Nat
def tw162933643584952130:=Nat
def tw10982641231060202528:=Nat
def tw17962030353865088205:=Nat
def tw304474021208023099:=Nat
def tw4289655527517813784:=Nat
def tw5844656185211674419:=Nat
def tw8085288460313986037:=Nat
def tw17166840568700793994:=Nat
def tw18364225812651880674:=Nat
def tw7995581117860911164:=Nat
def tw17769956127908673943:=Nat
def tw10260772302629221897:=Nat
def tw9054713964316370154:=Nat
def tw11797995937733574687:=Nat
def tw1143086040599709153:=Nat
def tw573294387651191189:=Nat
def tw17510940976179546702:=Nat
def tw6017342497187540615:=Nat
def tw7674171770888632863:=Nat
def tw4872605333233032653:=Nat
def tw16300576397299161784:=Nat
def tw469961989314353341:=Nat
def tw17904423320936183006:=Nat
def tw4786277673697526812:=Nat
def tw8215802381427049026:=Nat
def tw7238464737287469111:=Nat
def tw12371629403794145349:=Nat
def tw5511238307331399805:=Nat
def tw14465819023756471887:=Nat
def tw10905372429130515830:=Nat
def tw5793219849445437908:=Nat
def tw298028054469006340:=Nat
def tw18043273635426011081:=Nat
def tw3665119582180536019:=Nat
def tw5432581662175757453:=Nat
def tw17137544669263346198:=Nat
def tw9897189918113300755:=Nat
def tw14412586911824703627:=Nat
def tw13229237590052689852:=Nat
def tw1666595250628347320:=Nat
def tw3841186086893408881:=Nat
def tw9074493601330630483:=Nat
def tw1297292921634063925:=Nat
def tw15210183986268726411:=Nat
def tw13350278154269648339:=Nat
def tw7395061142188226070:=Nat
def tw4614642561997518539:=Nat
def tw7431201232195302995:=Nat
def tw3585862628180055107:=Nat
def tw2843975109893456443:=Nat
def tw16998935416712818100:=Nat
def tw8919962413533307950:=Nat
def tw2698939005447362361:=Nat
def tw17179325342695303734:=Nat
def tw565637879826463742:=Nat
def tw804867157701316036:=Nat
def tw5254285481245998244:=Nat
def tw7822980364449819303:=Nat
def tw2232666929547682063:=Nat
def tw5797903199745567947:=Nat
def tw8021321233370075055:=Nat
def tw15089089996298583753:=Nat
def tw5033040703449478038:=Nat
def tw13775144403711115104:=Nat
def tw16600350783258339156:=Nat
def tw14706860491222905586:=Nat
def tw17990890651792577298:=Nat
def tw15629669119104885572:=Nat
def tw17766994663387476548:=Nat
def tw5977700532940675272:=Nat
def tw4017041708389258076:=Nat
def tw12460651331339410200:=Nat
def tw12693805568314323895:=Nat
def tw792579031645365590:=Nat
def tw1944156663866749755:=Nat
def tw1162161413751878490:=Nat
def tw11197541256995599471:=Nat
def tw9429714165561100053:=Nat
def tw2159044001795300158:=Nat
def tw9809320703917945403:=Nat
def tw14188289952591282349:=Nat
def tw17492412761945010224:=Nat
def tw1984723439161660229:=Nat
def tw5163797113598926433:=Nat
def tw11398828000415598310:=Nat
def tw3022317763995980286:=Nat
def tw6151474817892704542:=Nat
def tw7576883362898510235:=Nat
def tw4014212997866215946:=Nat
def tw4276182294392406049:=Nat
def tw1417668590447180747:=Nat
def tw1377149513184939016:=Nat
def tw6795094096084686405:=Nat
def tw5086156651727732284:=Nat
def tw1310478164496915462:=Nat
def tw5985738401016418821:=Nat
def tw12776490303969310376:=Nat
def tw7490449696375275434:=Nat
def tw11042876241949270051:=Nat
def tw11807295702005939449:=Nat
def tw8163743436428375062:=Nat
def tw16963182246509712102:=Nat
def tw14105341108007802036:=Nat
def tw12168138856152403424:=Nat
def tw4402595868835733626:=Nat
def tw15788313815512508468:=Nat
def tw16521461773258232195:=Nat
def tw15286107852656047130:=Nat
def tw4491185091763422337:=Nat
def tw1699516277220138504:=Nat
def tw5100153416574198427:=Nat
def tw18128144276846228150:=Nat
def tw15881259017246715603:=Nat
def tw249206313447122176:=Nat
def tw2945341023576792191:=Nat
def tw9056812017823198274:=Nat
def tw15573468894393523789:=Nat
def tw16204216277138888535:=Nat
def tw3157126805382785043:=Nat
def tw5971117926878597806:=Nat
def tw13814485455613878184:=Nat
def tw5058794419120082036:=Nat
def tw6516050910897545397:=Nat
def tw18284681672770246226:=Nat
def tw8479341953234136741:=Nat
def tw6148186765083382861:=Nat
def tw5200148706062096719:=Nat
def tw3356117043005696349:=Nat
def tw14994682363808096259:=Nat
def tw7208665390257665655:=Nat
def tw10914939651665722675:=Nat
def tw10235305078109697129:=Nat
def tw12868577439403587042:=Nat
def tw15840522007336239789:=Nat
def tw13202513856590995009:=Nat
def tw588534973962366208:=Nat
def tw10328307519579973116:=Nat
def tw11824647780979674441:=Nat
def tw13516418847571476135:=Nat
def tw15037843434077049795:=Nat
def tw17039810411346360008:=Nat
def tw3157607430624275330:=Nat
def tw1250768061644690030:=Nat
def tw7276439125999951168:=Nat
def tw2338980735844085942:=Nat
def tw11084937330726754988:=Nat
def tw13592632533562646707:=Nat
def tw10816453622071874538:=Nat
def tw15306305604306892775:=Nat
def tw1573077279628323602:=Nat
def tw323746889618731964:=Nat
def tw11998068735045227557:=Nat
def tw1538558714769246824:=Nat
def tw13031401627017703818:=Nat
def tw7149020975500316271:=Nat
def tw5627226812115643585:=Nat
def tw7753568497889990820:=Nat
def tw7378725154096405038:=Nat
def tw16945063380839722080:=Nat
def tw5055414968100637476:=Nat
def tw3012959160607750775:=Nat
def tw11134313644580467717:=Nat
def tw1158315519689603297:=Nat
def tw319143725825384774:=Nat
def tw14931408140504825225:=Nat
def tw10971875380035690509:=Nat
def tw974165417765695120:=Nat
def tw6207151596432458612:=Nat
def tw5829785179479544238:=Nat
def tw14389524910452465647:=Nat
def tw941001421751827289:=Nat
def tw3698356839725320443:=Nat
def tw11923562671662641449:=Nat
def tw16695066289674482888:=Nat
def tw6106017964808099286:=Nat
def tw3319353344123844220:=Nat
def tw12938540363869339876:=Nat
def tw5580373693881090412:=Nat
def tw8063846258875327845:=Nat
def tw846593382408683275:=Nat
def tw8793309280111296341:=Nat
def tw10524884549855817287:=Nat
def tw8263754664671748879:=Nat
def tw6220847776397232195:=Nat
def tw15664390099419445608:=Nat
def tw9999288085502529215:=Nat
def tw5834869089909856975:=Nat
def tw5185912583263841017:=Nat
def tw5667164232525737073:=Nat
def tw1993417944528722012:=Nat
def tw1388755989579538338:=Nat
def tw17515222941793593042:=Nat
def tw8106547891859296193:=Nat
def tw7662176655017075437:=Nat
def tw8831183591074643608:=Nat
def tw16106281622980941252:=Nat
def tw694903509588600864:=Nat
def tw2140064942464509593:=Nat
def tw16669954114311705030:=Nat
def tw8280761795873813123:=Nat
def tw13793667001377524423:=Nat
def tw1273040277883376468:=Nat
def tw14957088516217408444:=Nat
def tw1602346269590233150:=Nat
def tw5715172803540159006:=Nat
def tw16642879930973433574:=Nat
def tw4993156565386008911:=Nat
def tw9515794470108299842:=Nat
def tw11204742859144706125:=Nat
def tw11824751076022747959:=Nat
def tw13846643531453116136:=Nat
def tw869312706179542443:=Nat
def tw5296169793457887785:=Nat
def tw11536897779252075453:=Nat
def tw14192505251605905856:=Nat
def tw5125380891403754837:=Nat
def tw7644449405828041261:=Nat
def tw11921355194537328340:=Nat
def tw3256912465683403813:=Nat
def tw2403059098957222737:=Nat
def tw8789746863335396607:=Nat
def tw7426738939931835962:=Nat
def tw3797161414670773419:=Nat
def tw11998234235401041030:=Nat
def tw3945907440659476263:=Nat
def tw11096092243912436316:=Nat
def tw15694883731185795216:=Nat
def tw16875702368552250172:=Nat
def tw2198127245036649104:=Nat
def tw15371672084748300100:=Nat
def tw5707210598055452105:=Nat
def tw5644916640272575185:=Nat
def tw11020088819276834387:=Nat
def tw14012244764086892096:=Nat
def tw2354011880233712012:=Nat
def tw7148094349056078897:=Nat
def tw1920637689576350980:=Nat
def tw13662041628883926184:=Nat
def tw7504263748861511375:=Nat
def tw8355748069233529585:=Nat
def tw10595909537139735847:=Nat
def tw13275461826829209831:=Nat
def tw1077808908448739039:=Nat
def tw13005852714009408653:=Nat
def tw2642792999771253576:=Nat
def tw17344473152464320740:=Nat
def tw5435031867780405661:=Nat
def tw11036431657689929158:=Nat
def tw8814171021640379839:=Nat
def tw12747157168048338235:=Nat
def tw16684998783427926118:=Nat
def tw8748300319999742741:=Nat
def tw13470556423571502819:=Nat
def tw14940162498411772408:=Nat
def tw7910907139597962133:=Nat
def tw9261669423968533887:=Nat
def tw129446422408361952:=Nat
def tw10271784567509382271:=Nat
def tw4110017181585970939:=Nat
def tw10209931811067636826:=Nat
def tw88489271899166470:=Nat
def tw15920853733094067506:=Nat
def tw1121743961101769160:=Nat
def tw2871435116498574914:=Nat
def tw10750636077913846842:=Nat
def tw1073998638189997566:=Nat
def tw4663423247907118900:=Nat
def tw14366791124193153780:=Nat
def tw41559488765326758:=Nat
def tw9734833962258506580:=Nat
def tw12179883622865364435:=Nat
def tw9557650624996011469:=Nat
def tw10924647268121439178:=Nat
def tw9546120548583823820:=Nat
def tw14405687951661657177:=Nat
def tw13070430484548669180:=Nat
def tw10719931587322117861:=Nat
def tw932541217954491361:=Nat
def tw15152258865441403144:=Nat
def tw17704329182240749707:=Nat
def tw8925611975119506715:=Nat
def tw15856178263116980740:=Nat
def tw15075018959892223575:=Nat
def tw10396129170572414382:=Nat
def tw15158023169801722706:=Nat
def tw5770107039660965353:=Nat
def tw6427646771782966963:=Nat
def tw11748005329729145336:=Nat
def tw4252207929848672452:=Nat
def tw15912238014131023583:=Nat
def tw7519196693628709441:=Nat
def tw17243075228511618566:=Nat
def tw14840684285503301801:=Nat
def tw6872996817966772281:=Nat
def tw3131387444080824380:=Nat
def tw8632715819973362134:=Nat
def tw8638364976628581964:=Nat
def tw14861755990399300033:=Nat
def tw8407769923036089921:=Nat
def tw15972062097877255316:=Nat
def tw4277606860015231203:=Nat
def tw8810093212303476008:=Nat
def tw896820926381489824:=Nat
def tw15100740739390803416:=Nat
def tw11144707521232012678:=Nat
def tw16292426156969221277:=Nat
def tw1744915081814358049:=Nat
def tw6790300843688452629:=Nat
def tw9747541922291805168:=Nat
def tw11454593841296637475:=Nat
def tw5612761870445311316:=Nat
def tw12416502035136657709:=Nat
def tw15998150999862984610:=Nat
def tw7327063784222164508:=Nat
def tw8366618829226160665:=Nat
def tw1336261374638968050:=Nat
def tw165341334139091552:=Nat
def tw6723348707842980745:=Nat
def tw14979236525486609957:=Nat
def tw15767126354945688917:=Nat
def tw9100823456240548489:=Nat
def tw17806449336010263050:=Nat
def tw3576955246805082189:=Nat
def tw12813542617480474826:=Nat
def tw5771551231187226852:=Nat
def tw11389876098714057879:=Nat
def tw16023417032439018294:=Nat
def tw2250552092311143867:=Nat
def tw12424708428312795510:=Nat
def tw16092702267359770853:=Nat
def tw4704129722453288740:=Nat
def tw3528932824543117696:=Nat
def tw6383813726296835215:=Nat
def tw953395816440805871:=Nat
def tw16548053106155293085:=Nat
def tw8947649073416129020:=Nat
def tw1546284367923618975:=Nat
def tw16203455348635666940:=Nat
def tw5797750432435328712:=Nat
def tw7655893809389143058:=Nat
def tw15338221046611682767:=Nat
def tw2041844052660096617:=Nat
def tw6231491467849942108:=Nat
def tw16561831260797852657:=Nat
def tw17635089795485256779:=Nat
def tw3687162450836460278:=Nat
def tw17041041302899549197:=Nat
def tw1349323180522266336:=Nat
def tw7525436124003639761:=Nat
def tw15457781039524605685:=Nat
def tw17162089210271423204:=Nat
def tw9969406907890285844:=Nat
def tw3988132294270256137:=Nat
def tw17222081360814798305:=Nat
def tw15784925648571842606:=Nat
def tw4514535917488686459:=Nat
def tw3244733260786043393:=Nat
def tw16492004922237168655:=Nat
def tw6161256029711271956:=Nat
def tw9228672206631083527:=Nat
def tw10042005097288865882:=Nat
def tw2450005001372519979:=Nat
def tw16839347971830164517:=Nat
def tw8883186041832784709:=Nat
def tw6778351657099898747:=Nat
def tw4330090402485857815:=Nat
def tw2708888785712381313:=Nat
def tw10964914753510838853:=Nat
def tw17932065081402144575:=Nat
def tw4033230750778520807:=Nat
def tw18189581320823467696:=Nat
def tw15230861648026490838:=Nat
def tw3229679961377381334:=Nat
def tw2920964559577066005:=Nat
def tw12183707334601442516:=Nat
def tw8144203682650026349:=Nat
def tw9393556473544829005:=Nat
def tw6155942153886020523:=Nat
def tw3031561800396913941:=Nat
def tw2341523680843813303:=Nat
def tw7568401025599274898:=Nat
def tw6763984352765098339:=Nat
def tw1408591502305780569:=Nat
def tw15453481044658592226:=Nat
def tw11519844590482754861:=Nat
def tw6597663756200731947:=Nat
def tw2567012276793356686:=Nat
def tw9208376023299172409:=Nat
def tw1650356410823558015:=Nat
def tw11260587143819545106:=Nat
def tw16310445831954854434:=Nat
def tw15950021230102835121:=Nat
def tw5478583790318183399:=Nat
def tw14232362860495311510:=Nat
def tw6449154448028611748:=Nat
def tw15156196556376120720:=Nat
def tw16478002889682242357:=Nat
def tw11040843112857618903:=Nat
def tw15282972034854228083:=Nat
def tw11411773215252658568:=Nat
def tw17441640092101852734:=Nat
def tw15584888977540931867:=Nat
def tw16225234853937385998:=Nat
def tw12886920820175200296:=Nat
def tw17972193624529450388:=Nat
def tw15583950895641805740:=Nat
def tw5740683576084131326:=Nat
def tw7774214920429544361:=Nat
def tw3746622232465175115:=Nat
def tw11086644701780264256:=Nat
def tw2640724961794665128:=Nat
def tw10626188529581623337:=Nat
def tw13233143753452708409:=Nat
def tw17013005339671464539:=Nat
def tw14186531680927041729:=Nat
def tw3916099667898246122:=Nat
def tw17529726415723348067:=Nat
def tw2539118852264668812:=Nat
def tw6050827171528205877:=Nat
def tw14520015284086595073:=Nat
def tw14475204018613512929:=Nat
def tw1007655791588207113:=Nat
def tw10354032062519332331:=Nat
def tw5421581202057429012:=Nat
def tw8584424639160027653:=Nat
def tw17033592588267758610:=Nat
def tw11815526706476674827:=Nat
def tw12033920328057627156:=Nat
def tw10305934136197202200:=Nat
def tw10707454210333135402:=Nat
def tw2473222330540783959:=Nat
def tw16100705615581636267:=Nat
def tw8554730219386905338:=Nat
def tw11660703403217854450:=Nat
def tw12799139292598254627:=Nat
def tw15407132156284955543:=Nat
def tw11281339306528079800:=Nat
def tw7229634481193792973:=Nat
def tw4133051737878565789:=Nat
def tw754369321038791276:=Nat
def tw7312409204076954568:=Nat
def tw8568562998533351986:=Nat
def tw8071198933920406655:=Nat
def tw16075002574893130452:=Nat
def tw6888980512399074382:=Nat
def tw4843461321239275654:=Nat
def tw12315949344306920274:=Nat
def tw16946288478012175880:=Nat
def tw10445729689437408773:=Nat
def tw16892880859348506000:=Nat
def tw1904192540093006124:=Nat
def tw15280124713925669236:=Nat
def tw9475537328129824246:=Nat
def tw18072411533375211470:=Nat
def tw10824794999251944510:=Nat
def tw12958403556684569111:=Nat
def tw14938993231652095506:=Nat
def tw14840117972885516681:=Nat
def tw10860393507058549283:=Nat
def tw12787986825700647039:=Nat
def tw9190634796651308196:=Nat
def tw18345401387807490328:=Nat
def tw12369764267112791833:=Nat
def tw16592154500174044021:=Nat
def tw15576914868391261697:=Nat
def tw17447908082613674658:=Nat
def tw7570072889094946808:=Nat
def tw9183879920513485201:=Nat
def tw15188574376974681206:=Nat
def tw13544807521104587411:=Nat
def tw9100545835913745088:=Nat
def tw4861546603609934295:=Nat
def tw6606233207569177841:=Nat
def tw3067878263609599757:=Nat
def tw648899811087898568:=Nat
def tw11907637699496776200:=Nat
def tw1892295400234701376:=Nat
def tw14868249790594867689:=Nat
def tw5834221598017231083:=Nat
def tw4538086368409523701:=Nat
def tw156387337248225356:=Nat
def tw17777200554134145281:=Nat
def tw14291249402000227305:=Nat
def tw16448368364208414277:=Nat
def tw4107560391027623868:=Nat
def tw10603113127032139946:=Nat
def tw8716145127651659467:=Nat
def tw614402115551012919:=Nat
def tw2513085171858154551:=Nat
def tw605586100958008925:=Nat
def tw8877941873498884254:=Nat
def tw11527749739162648653:=Nat
def tw7808181316494425998:=Nat
def tw5787332406467310339:=Nat
def tw8501887152416253965:=Nat
def tw16377336859185353180:=Nat
def tw15794193924784711895:=Nat
def tw17899256737759168185:=Nat
def tw7254456642864994204:=Nat
def tw12617406313246210532:=Nat
def tw3423667701314441667:=Nat
def tw17905509066270204828:=Nat
def tw5485705192411357630:=Nat
def tw10060442132924966181:=Nat
def tw10175963903790486710:=Nat
def tw12941286415913575850:=Nat
def tw5317886679515697376:=Nat
def tw14003794799552056098:=Nat
def tw10359923877788454508:=Nat
def tw8508116808532645066:=Nat
def tw14983914977086469068:=Nat
def tw4754068357379503188:=Nat
def tw3922661579867774486:=Nat
def tw11300695185654809028:=Nat
def tw5648553780699271489:=Nat
def tw17963411631368473368:=Nat
def tw8689902148708729516:=Nat
def tw3966425105697509920:=Nat
def tw17152018374393803117:=Nat
def tw13496309538982785467:=Nat
def tw15871818755227848573:=Nat
def tw4368839267003279877:=Nat
def tw2666163087113138613:=Nat
def tw1732141580360913404:=Nat
def tw6990016701712079651:=Nat
def tw12255796192513808832:=Nat
def tw1832421130150562795:=Nat
def tw17191547877445036713:=Nat
def tw10908665155261396706:=Nat
def tw8799886033319539343:=Nat
def tw11053158766837218079:=Nat
def tw3564919805255347988:=Nat
def tw4264554154485482416:=Nat
def tw15799213085366494024:=Nat
def tw6104288763055741289:=Nat
def tw11410604871360409920:=Nat
def tw7396433620464004335:=Nat
def tw14842819390137592773:=Nat
def tw11955716217311531302:=Nat
def tw7880734702766341796:=Nat
def tw6818248457076110330:=Nat
def tw16477563138636369769:=Nat
def tw15092805009768900382:=Nat
def tw10718343089793500829:=Nat
def tw2590596954750146963:=Nat
def tw9459904608574811920:=Nat
def tw6193879548829259970:=Nat
def tw17971703958933077526:=Nat
def tw1560117340820445741:=Nat
def tw12491149885770014324:=Nat
def tw3629773803471202794:=Nat
def tw409219080488681460:=Nat
def tw12569038296488332977:=Nat
def tw12934525799882980760:=Nat
def tw535034080321474898:=Nat
def tw12004914747656695776:=Nat
def tw37587214065510374:=Nat
def tw15302563125238450637:=Nat
def tw12034307343144591179:=Nat
def tw14315109019702028472:=Nat
def tw17788154360811011492:=Nat
def tw10286863681372207384:=Nat
def tw7202873727742950735:=Nat
def tw8566315510040313610:=Nat
def tw18429415137412655048:=Nat
def tw10030054030090748104:=Nat
def tw6947870976023575089:=Nat
def tw6405642227784027842:=Nat
def tw17269940293588190474:=Nat
def tw1611398233379836493:=Nat
def tw5234178349067137955:=Nat
def tw2612765507653600130:=Nat
def tw7300816447586613334:=Nat
def tw2238372772705502531:=Nat
def tw5036067699695320026:=Nat
def tw2639499300082635159:=Nat
def tw586492330748038124:=Nat
def tw13855789795044740662:=Nat
def tw14426640762777607258:=Nat
def tw17881609887140575669:=Nat
def tw8338404045532579322:=Nat
def tw10939463678358846925:=Nat
def tw17427321709891929273:=Nat
def tw10602109076356276997:=Nat
def tw9447514770805661760:=Nat
def tw9249366758086650695:=Nat
def tw11968014397264662878:=Nat
def tw3903170899013785214:=Nat
def tw18026636765193740709:=Nat
def tw1772011166024562530:=Nat
def tw2117805741983633532:=Nat
def tw6848499674217220171:=Nat
def tw6134364617185331675:=Nat
def tw2084486676183057884:=Nat
def tw8226075496661560077:=Nat
def tw9701099723682919710:=Nat
def tw14051556396517876975:=Nat
def tw3234062439799248774:=Nat
def tw4852182014795021375:=Nat
def tw2197531154395348474:=Nat
def tw12039811207713453622:=Nat
def tw6977754668285792991:=Nat
def tw2872607380764109479:=Nat
def tw1342748346896907095:=Nat
def tw613892421843757603:=Nat
def tw4448140779849255792:=Nat
def tw2846402781762973755:=Nat
def tw14721498279777244234:=Nat
def tw7927478073873652014:=Nat
def tw4725120138958292572:=Nat
def tw3964958755754120766:=Nat
def tw11595159185906460059:=Nat
def tw10527487700662711701:=Nat
def tw6065891380173961194:=Nat
def tw3644581439158523747:=Nat
def tw10917499772385496759:=Nat
def tw4706720773943786379:=Nat
def tw3987615774071154014:=Nat
def tw10399443905167865204:=Nat
def tw9610198073813140054:=Nat
def tw13779914767715148906:=Nat
def tw15527093207689062330:=Nat
def tw2842611505371170681:=Nat
def tw9141559265734285266:=Nat
def tw15816133956590766302:=Nat
def tw18307749872876072681:=Nat
def tw4793360719189086571:=Nat
def tw10251311162202478029:=Nat
def tw8690692145293191795:=Nat
def tw10806716670942272880:=Nat
def tw12083317213203252306:=Nat
def tw3320277780402407275:=Nat
def tw7292379842390720380:=Nat
def tw16623598414864834363:=Nat
def tw12173562840868760458:=Nat
def tw11000177788645261514:=Nat
def tw15888284029988169408:=Nat
def tw14380890975082038482:=Nat
def tw4788920085137869403:=Nat
def tw11388474823784385862:=Nat
def tw13756588765333757077:=Nat
def tw8661200879307554106:=Nat
def tw8328781135741252303:=Nat
def tw10596557980232653052:=Nat
def tw1581739168673663671:=Nat
def tw14882478368233716397:=Nat
def tw4588692784363878979:=Nat
def tw13749015113741584517:=Nat
def tw10160675989475936745:=Nat
def tw4573521856853758442:=Nat
def tw15671312864252312017:=Nat
def tw15400943425689584173:=Nat
def tw3266213112559401340:=Nat
def tw11984731252096335793:=Nat
def tw2659710763519707354:=Nat
def tw14629245674577045077:=Nat
def tw11090291990036880305:=Nat
def tw18309594283688486327:=Nat
def tw7941305034701977512:=Nat
def tw8656131249808021518:=Nat
def tw14546810900316826743:=Nat
def tw12954638672958847213:=Nat
def tw7703623791567966264:=Nat
def tw6520831231232178783:=Nat
def tw271496122042316805:=Nat
def tw5010786662846228826:=Nat
def tw13229807393685545810:=Nat
def tw3834124653252200469:=Nat
def tw4968866336863406783:=Nat
def tw6703312431761592861:=Nat
def tw8561789119091935769:=Nat
def tw12646307688570636763:=Nat
def tw10571420055794758365:=Nat
def tw3820434248212706219:=Nat
def tw18403788269809851340:=Nat
def tw5400597129696610376:=Nat
def tw15027236116548080672:=Nat
def tw3409751864636617391:=Nat
def tw13388535954757800853:=Nat
def tw12057511209007350347:=Nat
def tw3178696964742788309:=Nat
def tw8902640753628976588:=Nat
def tw9564234879184537958:=Nat
def tw521895855235401842:=Nat
def tw18050243201340857966:=Nat
def tw15978621492645772327:=Nat
def tw12475622967283924211:=Nat
def tw16224984749584746930:=Nat
def tw8250827595633882625:=Nat
def tw7142623931908100919:=Nat
def tw13218453608634137295:=Nat
def tw13353597438215592251:=Nat
def tw12567379637068323124:=Nat
def tw2654547052382822552:=Nat
def tw4025631208237637687:=Nat
def tw5251528601332183108:=Nat
def tw4413101662601090309:=Nat
def tw7389239625780779058:=Nat
def tw10038391491918997413:=Nat
def tw18224603754298520066:=Nat
def tw16989481321119927739:=Nat
def tw12456479830471553936:=Nat
def tw10440717526587421812:=Nat
def tw4050603596159881524:=Nat
def tw16990729105265121224:=Nat
def tw14068842222367665452:=Nat
def tw1342552030138085946:=Nat
def tw13433423361339748087:=Nat
def tw9631919278372779417:=Nat
def tw9811173644420310792:=Nat
def tw4708675836002060611:=Nat
def tw15288928865490873529:=Nat
def tw6205652477560096285:=Nat
def tw13158634917350350879:=Nat
def tw60446061089303691:=Nat
def tw13062118063710390215:=Nat
def tw8844427346376061870:=Nat
def tw16957251507884242138:=Nat
def tw8920260365151244751:=Nat
def tw8531384387333689094:=Nat
def tw4377257565460964914:=Nat
def tw2447356620720210399:=Nat
def tw9607576438696689230:=Nat
def tw13977380431002887357:=Nat
def tw16350231228293977164:=Nat
def tw14210609775768888407:=Nat
def tw1031124404104317442:=Nat
def tw18196025251242843644:=Nat
def tw7683879318187636952:=Nat
def tw9028589009446133203:=Nat
def tw11348100525602549000:=Nat
def tw4261836330446148079:=Nat
def tw1780860135556847687:=Nat
def tw2664713632503930231:=Nat
def tw9780186376573922527:=Nat
def tw8751268459141190645:=Nat
def tw13758940013714288141:=Nat
def tw3315192929786774204:=Nat
def tw7350789290603893494:=Nat
def tw1033076888489609461:=Nat
def tw3162514738180911813:=Nat
def tw13951225302081237963:=Nat
def tw1455227040721385087:=Nat
def tw8151729335050116979:=Nat
def tw123146304630198982:=Nat
def tw2789107972931441095:=Nat
def tw15697440679250431275:=Nat
def tw3993775265279730256:=Nat
def tw957667877318941855:=Nat
def tw16828039435848075366:=Nat
def tw14388255649226721269:=Nat
def tw1198856963567355233:=Nat
def tw1059259677611635389:=Nat
def tw14498877415697760343:=Nat
def tw42091007570643738:=Nat
def tw17588276644392211063:=Nat
def tw9691426053832876775:=Nat
def tw14648563022768340792:=Nat
def tw7937182204822256830:=Nat
def tw2281725529891996321:=Nat
def tw1536113541791810443:=Nat
def tw6436470061220279620:=Nat
def tw3395389999300611778:=Nat
def tw7505582746149345692:=Nat
def tw5676970692521246159:=Nat
def tw14336001611049901711:=Nat
def tw10009075019068590675:=Nat
def tw7759765157173860784:=Nat
def tw4521732235508957009:=Nat
def tw14974369962320543641:=Nat
def tw1027120738819729783:=Nat
def tw9211324177518754974:=Nat
def tw10503916672568289146:=Nat
def tw6856645556568781636:=Nat
def tw10127955889850116463:=Nat
def tw12049246596793722021:=Nat
def tw1443508804174766805:=Nat
def tw657341909519510295:=Nat
def tw8408839490165765979:=Nat
def tw5027018718304555795:=Nat
def tw11296202519882427728:=Nat
def tw4379602615617585538:=Nat
def tw7754724774461737479:=Nat
def tw4179486018052294179:=Nat
def tw1090770364071722900:=Nat
def tw9362344479170972227:=Nat
def tw3693592525891899016:=Nat
def tw1423546171085556577:=Nat
def tw13666034594184889906:=Nat
def tw7118985362442062182:=Nat
def tw8045549199681986452:=Nat
def tw2124135307727453395:=Nat
def tw7092584338569023593:=Nat
def tw9203329955528758827:=Nat
def tw3261871409196911782:=Nat
def tw11335596768495802105:=Nat
def tw11606160661440215569:=Nat
def tw3559684443896121788:=Nat
def tw14585563559715360865:=Nat
def tw7479980014504019096:=Nat
def tw11767906300671243288:=Nat
def tw14878690509608502105:=Nat
def tw6168325490033955800:=Nat
def tw1866645988527037491:=Nat
def tw1402973834327082107:=Nat
def tw17813871040145683009:=Nat
def tw11872600680804479290:=Nat
def tw8533755280696905613:=Nat
def tw16037183332988482887:=Nat
def tw15104803118786001478:=Nat
def tw4312543277954678394:=Nat
def tw5396232452522309943:=Nat
def tw6580096474286062367:=Nat
def tw8989023629975422222:=Nat
def tw7212827536956840594:=Nat
def tw573226039482757147:=Nat
def tw10743493871374718999:=Nat
def tw4334550336241730643:=Nat
def tw11221759050305093734:=Nat
def tw5212552419527891042:=Nat
def tw10086655086504287343:=Nat
def tw12533544214202341670:=Nat
def tw2666375451671320746:=Nat
def tw10143265448054946978:=Nat
def tw6047910299965513253:=Nat
def tw5596542523599071641:=Nat
def tw17673526037690878596:=Nat
def tw4965077907023247788:=Nat
def tw7259315759526313874:=Nat
def tw11711778396182314635:=Nat
def tw200496482306949959:=Nat
def tw5185970297303039613:=Nat
def tw44681366780052896:=Nat
def tw2298013728328052586:=Nat
def tw3170875595211674612:=Nat
def tw17132384265016716819:=Nat
def tw11186069174962020342:=Nat
def tw7451724863957246209:=Nat
def tw10666278903820023966:=Nat
def tw15299331218241071977:=Nat
def tw9242248628961095421:=Nat
def tw14474149034252350965:=Nat
def tw2725059955896452943:=Nat
def tw4541575206783458252:=Nat
def tw5679740301850138775:=Nat
def tw14165076262160539515:=Nat
def tw1961073415172984011:=Nat
def tw13871867504367049206:=Nat
def tw9815323654172038298:=Nat
def tw15398053145309643465:=Nat
def tw9206121509037241694:=Nat
def tw8439169755118873478:=Nat
def tw15555975750754933945:=Nat
def tw11666606192797742227:=Nat
def tw11113068802894395355:=Nat
def tw1258385853064499663:=Nat
def tw13971005473510543969:=Nat
def tw6434415359837023461:=Nat
def tw8280337010273539511:=Nat
def tw13757533598577178116:=Nat
def tw12665368803793260159:=Nat
def tw7506857021305900168:=Nat
def tw13393076637771802572:=Nat
def tw17067534593910430235:=Nat
def tw1566384723094655588:=Nat
def tw3804491715820892296:=Nat
def tw3279881156978691213:=Nat
def tw2458094478064760749:=Nat
def tw17376760202200503256:=Nat
def tw7359964268167595184:=Nat
def tw9673482599618873878:=Nat
def tw2053754184171499666:=Nat
def tw9617256122084590370:=Nat
def tw15854614527660038972:=Nat
def tw6531272344154931742:=Nat
def tw3844057244095012679:=Nat
def tw8505323687006045321:=Nat
def tw4690099494135989605:=Nat
def tw6809028617909180285:=Nat
def tw15344734347870667613:=Nat
def tw17484046910564871353:=Nat
def tw8033623971485603581:=Nat
def tw10046601841059987168:=Nat
def tw11750670861636165164:=Nat
def tw7799043335696078675:=Nat
def tw9182742871914892161:=Nat
def tw8689033047556229053:=Nat
def tw3409992392369138293:=Nat
def tw11490139163023162339:=Nat
def tw7258155850349020085:=Nat
def tw17320277728721221297:=Nat
def tw17026795976596556578:=Nat
def tw13847689008992568547:=Nat
def tw16879963217860170179:=Nat
def tw11230377443524732339:=Nat
def tw11059787699337536286:=Nat
def tw980482840605115948:=Nat
def tw301438875638047462:=Nat
def tw14010879948109630399:=Nat
def tw17530426585847604754:=Nat
def tw6152951768939490422:=Nat
def tw8983281607053163637:=Nat
def tw16569646928261138857:=Nat
def tw9493325307545513674:=Nat
def tw5245625604497377539:=Nat
def tw5290770456768811620:=Nat
def tw4960172505442346525:=Nat
def tw3144360518823601831:=Nat
def tw18094748107694919084:=Nat
def tw17398354563282723223:=Nat
def tw89235451639782577:=Nat
def tw3740393461505695264:=Nat
def tw7214316836259950471:=Nat
def tw7926116147190208627:=Nat
def tw709438217535151851:=Nat
def tw18388172319561366205:=Nat
def tw10772414656450282832:=Nat
def tw16876306778524215141:=Nat
def tw11750811787731596777:=Nat
def tw15403971526923314555:=Nat
def tw17555710031361045407:=Nat
def tw679998497990829777:=Nat
def tw474377393395815357:=Nat
def tw8176104525148518683:=Nat
def tw1435771533889309813:=Nat
def tw12653706271816181049:=Nat
def tw2180476607954227790:=Nat
def tw15739266720498963622:=Nat
def tw16547478366393030486:=Nat
def tw9367417960557027837:=Nat
def tw3342896279585222681:=Nat
def tw11265013795766649726:=Nat
def tw8589947441963166567:=Nat
def tw14358930537913444028:=Nat
def tw3799845634368107361:=Nat
def tw16458040397754674693:=Nat
def tw18263362137450954385:=Nat
def tw3992352481264259345:=Nat
def tw7089700015016247880:=Nat
def tw9086832973755085281:=Nat
def tw5727816803938694876:=Nat
def tw7338070108183684400:=Nat
def tw14284861772072572177:=Nat
def tw3802474667094571165:=Nat
def tw15639546449006350636:=Nat
def tw5880145998950338617:=Nat
def tw13572457115422598682:=Nat
def tw10527123803895623779:=Nat
def tw8985465616330307699:=Nat
def tw15106071027048747120:=Nat
def tw6542659744966145379:=Nat
def tw4975713608427892970:=Nat
def tw11800317581486770872:=Nat
def tw2628636902628640941:=Nat
def tw16310702901061770093:=Nat
def tw5903931405364067375:=Nat
def tw5631942246327014355:=Nat
def tw12244359948572505960:=Nat
def tw8332931772129760113:=Nat
def tw15780798099627163348:=Nat
def tw17726437435689614222:=Nat
def tw6514009594759792787:=Nat
def tw3702354139223284059:=Nat
def tw9162561115824329204:=Nat
def tw45318604992228674:=Nat
def tw15451244007879005485:=Nat
def tw8079253767585177989:=Nat
def tw13606542346054588469:=Nat
def tw1551931568079124521:=Nat
def tw7019265404102417664:=Nat
def tw2802056412237337626:=Nat
def tw4045980885484899308:=Nat
def tw936650419820450488:=Nat
def tw4908623189899916026:=Nat
def tw14409846303970570853:=Nat
def tw4659657343739638346:=Nat
def tw8849780878015172233:=Nat
def tw2809946778444736999:=Nat
def tw1254120595068979683:=Nat
def tw15946279045382634964:=Nat
def tw7945483567343042806:=Nat
def tw16629830491054532615:=Nat
def tw8286991793781158235:=Nat
def tw13636425039243083951:=Nat
def tw13326413911722703563:=Nat
def tw8766154145716593459:=Nat
def tw6519899265187910416:=Nat
def tw10576268478289107417:=Nat
def tw3754186326533356233:=Nat
def tw8054847017390554462:=Nat
def tw6886100833930927811:=Nat
def tw6861936130136691235:=Nat
def tw16755304545699175764:=Nat
def tw4550453350264153524:=Nat
def tw16731950268076693967:=Nat
def tw5250924136549852977:=Nat
def tw4936948185145275118:=Nat
def tw1972311498594473217:=Nat
def tw8216488446042153603:=Nat
def tw14329528723633428503:=Nat
def tw7275680587517783544:=Nat
def tw12763268975341978567:=Nat
def tw8462266032337586014:=Nat
def tw14707138983798675504:=Nat
def tw17460599236481703641:=Nat
def tw5277735802854301557:=Nat
def tw15039315256785586422:=Nat
def tw10282724197254994052:=Nat
def tw3428632533222624327:=Nat
def tw1745951084567416101:=Nat
def tw9105484052327971853:=Nat
def tw7964053569661055438:=Nat
def tw2441840132050604336:=Nat
def tw6104642295680605321:=Nat
def tw6231695058536725834:=Nat
def tw14499533444892435122:=Nat
def tw17428176930020266359:=Nat
def tw2784076001498071957:=Nat
def tw14731941488896965063:=Nat
def tw6834090731332146880:=Nat
def tw4687972145846027869:=Nat
def tw3540886083840222900:=Nat
def tw10297371648453506042:=Nat
def tw10803352173045486889:=Nat
def tw17726040515554157361:=Nat
def tw15077836982381250879:=Nat
def tw6628233493728831774:=Nat
def tw12598140718065228192:=Nat
def tw13030900414665126351:=Nat
def tw14609649187999010267:=Nat
def tw9782227511425139938:=Nat
def tw4559143127076180237:=Nat
def tw4612087520825544138:=Nat
def tw16767237631056806957:=Nat
def tw2824288573053082273:=Nat
def tw14937526355719283985:=Nat
def tw17005027516104755674:=Nat
def tw5063098301533282274:=Nat
def tw2016421919254308396:=Nat
def tw9461087713436084371:=Nat
def tw10577819707605155774:=Nat
def tw1139954502205252264:=Nat
def tw5476688707052851050:=Nat
def tw4850618952858377729:=Nat
def tw1986732616814781700:=Nat
def tw16875152232655059964:=Nat
def tw1834768911257891886:=Nat
def tw1071802095284338599:=Nat
def tw8881232937613193406:=Nat
def tw15603542401607376240:=Nat
def tw5108309179231579849:=Nat
def tw7729994503142713784:=Nat
def tw10660376943813758957:=Nat
def tw1419529330644714828:=Nat
def tw9507598311151247975:=Nat
def tw11560036085914012328:=Nat
def tw13623901199888582984:=Nat
def tw13833669239822592308:=Nat
def tw10584698611195311905:=Nat
def tw8733087797179536853:=Nat
def tw16502431707212337579:=Nat
def tw12501383084729097725:=Nat
def tw2236377974440578846:=Nat
def tw1667381316102249245:=Nat
def tw793735320449153625:=Nat
def tw16658242075957135541:=Nat
def tw3521536969812138873:=Nat
def tw17217220572245421145:=Nat
def tw6916319118597665486:=Nat
end PySem.W.Fast
section
open PySem PySem.W PySem.Calls PyProof.Rows
theorem said0 : PySem.Challenge.rw_sixteenbits_s01_answers.wellSaid = true := by
  unfold OpenSpec.wellSaid
  exact look_both (look_both (look_both (look_both (look_both w1 w2) w3) w4) w5) w6
end
namespace HD
open PySem PySem.W PySem.Calls PyProof.Rows
set_option maxRecDepth 100000 in
set_option maxHeartbeats 0 in
theorem cw : PySem.Challenge.rw_sixteenbits_s01_answers.Holds := by
  have said := said0
  w_on; k_headS; (case hw => exact ⟨[.list [.int 0, .int 0, .int 0]], by decide +kernel, by decide +kernel⟩)
  k_fillS
  refine EV.walkA rfl ?F
  case F =>
    intro w mg fa h KX G hmg
    replace hmg:mg "answers"=some (.ref fa):=hmg
    refine' EV.fin hmg ?gAn (EV.ans_ok ?R ?cC ?cM ?cR ?cI ?nf ?nb ?nw ?nc ?np ?no ?npl ?gc ?zl ?zr ?zd ?ze ?sp ?sq ?st ?sts ?mR ?sR ?D ?mI ?mB ?mT ?mP ?mTM ?mPM ?cIn ?rI ?rH ?rN ?rNs ?rL ?iI ?iA ?gPl ?gCa ?gRu ?gFi ?gWh ?gRn ?gAs ?gLo ?gLd ?gAl ?gGe ?gOn ?gSe ?gCl ?gAn ?gTa ?gTb)
    case cC=>refine' EV.cl_mk (x:="Cpu") KX G ?_ ?_ ?_ ?_ ?_ ?_ ?_;any_goals k_is
    case cM=>refine' EV.cl_mk (x:="Memory") KX G ?_ ?_ ?_ ?_ ?_ ?_ ?_;any_goals k_is
    case cR=>refine' EV.cl_mk (x:="Reader") KX G ?_ ?_ ?_ ?_ ?_ ?_ ?_;any_goals k_is
    case cI=>refine' EV.cl_mk (x:="Instructions") KX G ?_ ?_ ?_ ?_ ?_ ?_ ?_;any_goals k_is
    case nf=>
     unfold EV.fnames
     refine List.forall_mem_cons.2 ⟨?_,?_⟩;unfold L2.NoAttr;k_is
     refine List.forall_mem_cons.2 ⟨?_,?_⟩;unfold L2.NoAttr;k_is
     refine List.forall_mem_cons.2 ⟨?_,?_⟩;unfold L2.NoAttr;k_is
     refine List.forall_mem_cons.2 ⟨?_,?_⟩;unfold L2.NoAttr;k_is
     refine List.forall_mem_cons.2 ⟨?_,?_⟩;unfold L2.NoAttr;k_is
     refine List.forall_mem_cons.2 ⟨?_,?_⟩;unfold L2.NoAttr;k_is
     refine List.forall_mem_cons.2 ⟨?_,?_⟩;unfold L2.NoAttr;k_is
     refine List.forall_mem_cons.2 ⟨?_,?_⟩;unfold L2.NoAttr;k_is
     refine List.forall_mem_cons.2 ⟨?_,?_⟩;unfold L2.NoAttr;k_is
     refine List.forall_mem_cons.2 ⟨?_,?_⟩;unfold L2.NoAttr;k_is
     refine List.forall_mem_cons.2 ⟨?_,?_⟩;unfold L2.NoAttr;k_is
     refine List.forall_mem_cons.2 ⟨?_,?_⟩;unfold L2.NoAttr;k_is
     refine List.forall_mem_cons.2 ⟨?_,?_⟩;unfold L2.NoAttr;k_is
     refine List.forall_mem_cons.2 ⟨?_,?_⟩;unfold L2.NoAttr;k_is
     refine List.forall_mem_cons.2 ⟨?_,?_⟩;unfold L2.NoAttr;k_is
     refine List.forall_mem_cons.2 ⟨?_,?_⟩;unfold L2.NoAttr;k_is
     refine List.forall_mem_cons.2 ⟨?_,?_⟩;unfold L2.NoAttr;k_is
     exact fun _ z=>nomatch z
    case nb=>unfold L2.NoAttr;k_is
    case nw=>unfold L2.NoAttr;k_is
    case nc=>unfold L2.NoAttr;k_is
    case np=>unfold L2.NoAttr;k_is
    case no=>unfold L2.NoAttr;k_is
    case npl=>unfold L2.NoAttr;k_is
    case gc=>
     refine' .cons (x:="MEMORY_SIZE") (i:=16777216) (PySem.W.mg_of KX G ?a) ?_;(case a=>k_is)
     refine' .cons (x:="BANK_SIZE") (i:=65536) (PySem.W.mg_of KX G ?a) ?_;(case a=>k_is)
     refine' .cons (x:="BANK_COUNT") (i:=256) (PySem.W.mg_of KX G ?a) ?_;(case a=>k_is)
     refine' .cons (x:="NEGATIVE") (i:=128) (PySem.W.mg_of KX G ?a) ?_;(case a=>k_is)
     refine' .cons (x:="OVERFLOW") (i:=64) (PySem.W.mg_of KX G ?a) ?_;(case a=>k_is)
     refine' .cons (x:="NARROW_A") (i:=32) (PySem.W.mg_of KX G ?a) ?_;(case a=>k_is)
     refine' .cons (x:="NARROW_X") (i:=16) (PySem.W.mg_of KX G ?a) ?_;(case a=>k_is)
     refine' .cons (x:="DECIMAL") (i:=8) (PySem.W.mg_of KX G ?a) ?_;(case a=>k_is)
     refine' .cons (x:="IRQ_OFF") (i:=4) (PySem.W.mg_of KX G ?a) ?_;(case a=>k_is)
     refine' .cons (x:="ZERO") (i:=2) (PySem.W.mg_of KX G ?a) ?_;(case a=>k_is)
     refine' .cons (x:="CARRY") (i:=1) (PySem.W.mg_of KX G ?a) ?_;(case a=>k_is)
     refine' .cons (x:="STACK_PAGE") (i:=256) (PySem.W.mg_of KX G ?a) ?_;(case a=>k_is)
     refine' .cons (x:="FIRST_STACK") (i:=511) (PySem.W.mg_of KX G ?a) ?_;(case a=>k_is)
     refine' .cons (x:="RESET_VECTOR") (i:=65532) (PySem.W.mg_of KX G ?a) ?_;(case a=>k_is)
     refine' .cons (x:="ASK_RESET") (i:=0) (PySem.W.mg_of KX G ?a) ?_;(case a=>k_is)
     refine' .cons (x:="ASK_NMI") (i:=1) (PySem.W.mg_of KX G ?a) ?_;(case a=>k_is)
     refine' .cons (x:="ASK_IRQ") (i:=2) (PySem.W.mg_of KX G ?a) ?_;(case a=>k_is)
     refine' .cons (x:="ASK_NO_IRQ") (i:=3) (PySem.W.mg_of KX G ?a) ?_;(case a=>k_is)
     refine' .cons (x:="WHY_ALL_DONE") (i:=0) (PySem.W.mg_of KX G ?a) ?_;(case a=>k_is)
     refine' .cons (x:="WHY_WAITING") (i:=1) (PySem.W.mg_of KX G ?a) ?_;(case a=>k_is)
     refine' .cons (x:="WHY_STOPPED") (i:=2) (PySem.W.mg_of KX G ?a) ?_;(case a=>k_is)
     refine' .cons (x:="COP_VECTOR") (i:=65508) (PySem.W.mg_of KX G ?a) ?_;(case a=>k_is)
     refine' .cons (x:="BRK_VECTOR") (i:=65510) (PySem.W.mg_of KX G ?a) ?_;(case a=>k_is)
     refine' .cons (x:="NMI_VECTOR") (i:=65514) (PySem.W.mg_of KX G ?a) ?_;(case a=>k_is)
     refine' .cons (x:="IRQ_VECTOR") (i:=65518) (PySem.W.mg_of KX G ?a) ?_;(case a=>k_is)
     refine' .cons (x:="EMULATION_COP_VECTOR") (i:=65524) (PySem.W.mg_of KX G ?a) ?_;(case a=>k_is)
     refine' .cons (x:="EMULATION_NMI_VECTOR") (i:=65530) (PySem.W.mg_of KX G ?a) ?_;(case a=>k_is)
     refine' .cons (x:="EMULATION_BRK_VECTOR") (i:=65534) (PySem.W.mg_of KX G ?a) ?_;(case a=>k_is)
     refine' .cons (x:="EMULATION_IRQ_VECTOR") (i:=65534) (PySem.W.mg_of KX G ?a) ?_;(case a=>k_is)
     refine' .cons (x:="ALL_BUT_N_Z") (i:=125) (PySem.W.mg_of KX G ?a) ?_;(case a=>k_is)
     refine' .cons (x:="MOVE_LENGTH") (i:=3) (PySem.W.mg_of KX G ?a) ?_;(case a=>k_is)
     refine' .cons (x:="LAST_PLACE") (i:=16777215) (PySem.W.mg_of KX G ?a) ?_;(case a=>k_is)
     refine' .cons (x:="CPU_BEGIN") (i:=0) (PySem.W.mg_of KX G ?a) ?_;(case a=>k_is)
     refine' .cons (x:="CPU_LOAD") (i:=1) (PySem.W.mg_of KX G ?a) ?_;(case a=>k_is)
     refine' .cons (x:="CPU_LOOK") (i:=2) (PySem.W.mg_of KX G ?a) ?_;(case a=>k_is)
     refine' .cons (x:="CPU_ASK") (i:=3) (PySem.W.mg_of KX G ?a) ?_;(case a=>k_is)
     refine' .cons (x:="CPU_RUN") (i:=4) (PySem.W.mg_of KX G ?a) ?_;(case a=>k_is)
     refine' .cons (x:="CPU_WHY") (i:=5) (PySem.W.mg_of KX G ?a) ?_;(case a=>k_is)
     refine' .cons (x:="CPU_GET") (i:=6) (PySem.W.mg_of KX G ?a) ?_;(case a=>k_is)
     refine' .cons (x:="CPU_SET") (i:=7) (PySem.W.mg_of KX G ?a) ?_;(case a=>k_is)
     refine' .cons (x:="DONE") (i:=0) (PySem.W.mg_of KX G ?a) ?_;(case a=>k_is)
     refine' .cons (x:="REFUSED") (i:=-1) (PySem.W.mg_of KX G ?a) ?_;(case a=>k_is)
     refine' .cons (x:="MOST_BYTES") (i:=65536) (PySem.W.mg_of KX G ?a) ?_;(case a=>k_is)
     refine' .cons (x:="MOST_STEPS") (i:=10000000) (PySem.W.mg_of KX G ?a) ?_;(case a=>k_is)
     refine' .cons (x:="REGISTER_COUNT") (i:=10) (PySem.W.mg_of KX G ?a) ?_;(case a=>k_is)
     exact .nil
    case zl=>refine PySem.W.mg_none_of KX G ?_;k_is
    case zr=>refine PySem.W.mg_none_of KX G ?_;k_is
    case zd=>refine PySem.W.mg_none_of KX G ?_;k_is
    case ze=>refine PySem.W.mg_none_of KX G ?_;k_is
    case sp=>refine PySem.W.mg_of KX G ?_;k_is
    case st=>refine PySem.W.mg_of KX G ?_;k_is
    case mR=>refine PySem.W.mg_of KX G ?_;k_is
    case R=>as_aux_lemma=>
     refine' .cons (EV.row_m (EV.md_mk (m:="ask") (q:="Cpu.ask") (st:=L2.inClass (EV.top 24) 1) ?_ ?_ ?_ ?_ ?_)) ?t1;any_goals k_is
     case' t1=>refine' .cons (EV.row_m (EV.md_mk (m:="reset") (q:="Cpu.reset") (st:=L2.inClass (EV.top 24) 2) ?_ ?_ ?_ ?_ ?_)) ?t2;any_goals k_is
     case' t2=>refine' .cons (EV.row_m (EV.md_mk (m:="set_emulation") (q:="Cpu.set_emulation") (st:=L2.inClass (EV.top 24) 3) ?_ ?_ ?_ ?_ ?_)) ?t3;any_goals k_is
     case' t3=>refine' .cons (EV.row_m (EV.md_mk (m:="set_flags") (q:="Cpu.set_flags") (st:=L2.inClass (EV.top 24) 4) ?_ ?_ ?_ ?_ ?_)) ?t4;any_goals k_is
     case' t4=>refine' .cons (EV.row_m (EV.md_mk (m:="set_s") (q:="Cpu.set_s") (st:=L2.inClass (EV.top 24) 5) ?_ ?_ ?_ ?_ ?_)) ?t5;any_goals k_is
     case' t5=>refine' .cons (EV.row_m (EV.md_mk (m:="take_byte") (q:="Cpu.take_byte") (st:=L2.inClass (EV.top 24) 6) ?_ ?_ ?_ ?_ ?_)) ?t6;any_goals k_is
     case' t6=>refine' .cons (EV.row_m (EV.md_mk (m:="take_word") (q:="Cpu.take_word") (st:=L2.inClass (EV.top 24) 7) ?_ ?_ ?_ ?_ ?_)) ?t7;any_goals k_is
     case' t7=>refine' .cons (EV.row_m (EV.md_mk (m:="take_long") (q:="Cpu.take_long") (st:=L2.inClass (EV.top 24) 8) ?_ ?_ ?_ ?_ ?_)) ?t8;any_goals k_is
     case' t8=>refine' .cons (EV.row_m (EV.md_mk (m:="bank_0_word") (q:="Cpu.bank_0_word") (st:=L2.inClass (EV.top 24) 9) ?_ ?_ ?_ ?_ ?_)) ?t9;any_goals k_is
     case' t9=>refine' .cons (EV.row_m (EV.md_mk (m:="bank_0_long") (q:="Cpu.bank_0_long") (st:=L2.inClass (EV.top 24) 10) ?_ ?_ ?_ ?_ ?_)) ?t10;any_goals k_is
     case' t10=>refine' .cons (EV.row_m (EV.md_mk (m:="push_byte") (q:="Cpu.push_byte") (st:=L2.inClass (EV.top 24) 11) ?_ ?_ ?_ ?_ ?_)) ?t11;any_goals k_is
     case' t11=>refine' .cons (EV.row_m (EV.md_mk (m:="push_word") (q:="Cpu.push_word") (st:=L2.inClass (EV.top 24) 12) ?_ ?_ ?_ ?_ ?_)) ?t12;any_goals k_is
     case' t12=>refine' .cons (EV.row_m (EV.md_mk (m:="pull_byte") (q:="Cpu.pull_byte") (st:=L2.inClass (EV.top 24) 13) ?_ ?_ ?_ ?_ ?_)) ?t13;any_goals k_is
     case' t13=>refine' .cons (EV.row_m (EV.md_mk (m:="pull_word") (q:="Cpu.pull_word") (st:=L2.inClass (EV.top 24) 14) ?_ ?_ ?_ ?_ ?_)) ?t14;any_goals k_is
     case' t14=>refine' .cons (EV.rf "interrupt" 34 KX G ?_ ?_ ?_ ?_) ?t15;any_goals k_is
     case' t15=>refine' .cons (EV.rf "interrupt_outside" 35 KX G ?_ ?_ ?_ ?_) ?t16;any_goals k_is
     case' t16=>refine' .cons (EV.rf "nmi" 36 KX G ?_ ?_ ?_ ?_) ?t17;any_goals k_is
     case' t17=>refine' .cons (EV.rf "irq" 37 KX G ?_ ?_ ?_ ?_) ?t18;any_goals k_is
     case' t18=>refine' .cons (EV.rf "brk" 38 KX G ?_ ?_ ?_ ?_) ?t19;any_goals k_is
     case' t19=>refine' .cons (EV.rf "cop" 39 KX G ?_ ?_ ?_ ?_) ?t20;any_goals k_is
     case' t20=>refine' .cons (EV.rf "rti" 40 KX G ?_ ?_ ?_ ?_) ?t21;any_goals k_is
     case' t21=>refine' .cons (EV.rf "branch" 43 KX G ?_ ?_ ?_ ?_) ?t22;any_goals k_is
     case' t22=>refine' .cons (EV.rf "bpl" 44 KX G ?_ ?_ ?_ ?_) ?t23;any_goals k_is
     case' t23=>refine' .cons (EV.rf "bmi" 45 KX G ?_ ?_ ?_ ?_) ?t24;any_goals k_is
     case' t24=>refine' .cons (EV.rf "bvc" 46 KX G ?_ ?_ ?_ ?_) ?t25;any_goals k_is
     case' t25=>refine' .cons (EV.rf "bvs" 47 KX G ?_ ?_ ?_ ?_) ?t26;any_goals k_is
     case' t26=>refine' .cons (EV.rf "bcc" 48 KX G ?_ ?_ ?_ ?_) ?t27;any_goals k_is
     case' t27=>refine' .cons (EV.rf "bcs" 49 KX G ?_ ?_ ?_ ?_) ?t28;any_goals k_is
     case' t28=>refine' .cons (EV.rf "bne" 50 KX G ?_ ?_ ?_ ?_) ?t29;any_goals k_is
     case' t29=>refine' .cons (EV.rf "beq" 51 KX G ?_ ?_ ?_ ?_) ?t30;any_goals k_is
     case' t30=>refine' .cons (EV.rf "bra" 52 KX G ?_ ?_ ?_ ?_) ?t31;any_goals k_is
     case' t31=>refine' .cons (EV.rf "brl" 53 KX G ?_ ?_ ?_ ?_) ?t32;any_goals k_is
     case' t32=>refine' .cons (EV.rf "indexed_target" 54 KX G ?_ ?_ ?_ ?_) ?t33;any_goals k_is
     case' t33=>refine' .cons (EV.rf "go_far" 55 KX G ?_ ?_ ?_ ?_) ?t34;any_goals k_is
     case' t34=>refine' .cons (EV.rf "jmp_a" 56 KX G ?_ ?_ ?_ ?_) ?t35;any_goals k_is
     case' t35=>refine' .cons (EV.rf "jmp_ai" 57 KX G ?_ ?_ ?_ ?_) ?t36;any_goals k_is
     case' t36=>refine' .cons (EV.rf "jmp_aix" 58 KX G ?_ ?_ ?_ ?_) ?t37;any_goals k_is
     case' t37=>refine' .cons (EV.rf "jml_al" 59 KX G ?_ ?_ ?_ ?_) ?t38;any_goals k_is
     case' t38=>refine' .cons (EV.rf "jml_al2" 60 KX G ?_ ?_ ?_ ?_) ?t39;any_goals k_is
     case' t39=>refine' .cons (EV.rf "push_last_byte" 61 KX G ?_ ?_ ?_ ?_) ?t40;any_goals k_is
     case' t40=>refine' .cons (EV.rf "jsr_a" 62 KX G ?_ ?_ ?_ ?_) ?t41;any_goals k_is
     case' t41=>refine' .cons (EV.rf "jsr_aix" 63 KX G ?_ ?_ ?_ ?_) ?t42;any_goals k_is
     case' t42=>refine' .cons (EV.rf "jsl" 64 KX G ?_ ?_ ?_ ?_) ?t43;any_goals k_is
     case' t43=>refine' .cons (EV.rf "rts" 65 KX G ?_ ?_ ?_ ?_) ?t44;any_goals k_is
     case' t44=>refine' .cons (EV.rf "rtl" 66 KX G ?_ ?_ ?_ ?_) ?t45;any_goals k_is
     case' t45=>refine' .cons (EV.rf "note_byte" 70 KX G ?_ ?_ ?_ ?_) ?t46;any_goals k_is
     case' t46=>refine' .cons (EV.rf "note_word" 71 KX G ?_ ?_ ?_ ?_) ?t47;any_goals k_is
     case' t47=>refine' .cons (EV.rf "note_carry" 72 KX G ?_ ?_ ?_ ?_) ?t48;any_goals k_is
     case' t48=>refine' .cons (EV.rf "noted" 73 KX G ?_ ?_ ?_ ?_) ?t49;any_goals k_is
     case' t49=>refine' .cons (EV.rf "mask_of" 74 KX G ?_ ?_ ?_ ?_) ?t50;any_goals k_is
     case' t50=>refine' .cons (EV.rf "worked_on_a" 75 KX G ?_ ?_ ?_ ?_) ?t51;any_goals k_is
     case' t51=>refine' .cons (EV.rf "keep_a" 76 KX G ?_ ?_ ?_ ?_) ?t52;any_goals k_is
     case' t52=>refine' .cons (EV.rf "read_number" 77 KX G ?_ ?_ ?_ ?_) ?t53;any_goals k_is
     case' t53=>refine' .cons (EV.rf "write_number" 78 KX G ?_ ?_ ?_ ?_) ?t54;any_goals k_is
     case' t54=>refine' .cons (EV.rf "lda" 80 KX G ?_ ?_ ?_ ?_) ?t55;any_goals k_is
     case' t55=>refine' .cons (EV.rf "ldx" 81 KX G ?_ ?_ ?_ ?_) ?t56;any_goals k_is
     case' t56=>refine' .cons (EV.rf "ldy" 82 KX G ?_ ?_ ?_ ?_) ?t57;any_goals k_is
     case' t57=>refine' .cons (EV.rf "sta" 83 KX G ?_ ?_ ?_ ?_) ?t58;any_goals k_is
     case' t58=>refine' .cons (EV.rf "stx" 84 KX G ?_ ?_ ?_ ?_) ?t59;any_goals k_is
     case' t59=>refine' .cons (EV.rf "sty" 85 KX G ?_ ?_ ?_ ?_) ?t60;any_goals k_is
     case' t60=>refine' .cons (EV.rf "stz" 86 KX G ?_ ?_ ?_ ?_) ?t61;any_goals k_is
     case' t61=>refine' .cons (EV.rf "ora" 87 KX G ?_ ?_ ?_ ?_) ?t62;any_goals k_is
     case' t62=>refine' .cons (EV.rf "and_a" 88 KX G ?_ ?_ ?_ ?_) ?t63;any_goals k_is
     case' t63=>refine' .cons (EV.rf "eor" 89 KX G ?_ ?_ ?_ ?_) ?t64;any_goals k_is
     case' t64=>refine' .cons (EV.rf "compare" 90 KX G ?_ ?_ ?_ ?_) ?t65;any_goals k_is
     case' t65=>refine' .cons (EV.rf "cmp" 91 KX G ?_ ?_ ?_ ?_) ?t66;any_goals k_is
     case' t66=>refine' .cons (EV.rf "cpx" 92 KX G ?_ ?_ ?_ ?_) ?t67;any_goals k_is
     case' t67=>refine' .cons (EV.rf "cpy" 93 KX G ?_ ?_ ?_ ?_) ?t68;any_goals k_is
     case' t68=>refine' .cons (EV.rf "note_common_bits" 94 KX G ?_ ?_ ?_ ?_) ?t69;any_goals k_is
     case' t69=>refine' .cons (EV.rf "bit" 95 KX G ?_ ?_ ?_ ?_) ?t70;any_goals k_is
     case' t70=>refine' .cons (EV.rf "bit_im" 96 KX G ?_ ?_ ?_ ?_) ?t71;any_goals k_is
     case' t71=>refine' .cons (EV.rf "tsb" 97 KX G ?_ ?_ ?_ ?_) ?t72;any_goals k_is
     case' t72=>refine' .cons (EV.rf "trb" 98 KX G ?_ ?_ ?_ ?_) ?t73;any_goals k_is
     case' t73=>refine' .cons (EV.rf "move_byte" 102 KX G ?_ ?_ ?_ ?_) ?t74;any_goals k_is
     case' t74=>refine' .cons (EV.rf "mvn" 103 KX G ?_ ?_ ?_ ?_) ?t75;any_goals k_is
     case' t75=>refine' .cons (EV.rf "mvp" 104 KX G ?_ ?_ ?_ ?_) ?t76;any_goals k_is
     case' t76=>refine' .cons (EV.rf "wdm" 105 KX G ?_ ?_ ?_ ?_) ?t77;any_goals k_is
     case' t77=>refine' .cons (EV.rf "nop" 106 KX G ?_ ?_ ?_ ?_) ?t78;any_goals k_is
     case' t78=>refine' .cons (EV.rf "wai" 107 KX G ?_ ?_ ?_ ?_) ?t79;any_goals k_is
     case' t79=>refine' .cons (EV.rf "stp" 108 KX G ?_ ?_ ?_ ?_) ?t80;any_goals k_is
     case' t80=>refine' .cons (EV.rf "place_d" 112 KX G ?_ ?_ ?_ ?_) ?t81;any_goals k_is
     case' t81=>refine' .cons (EV.rf "place_dx" 113 KX G ?_ ?_ ?_ ?_) ?t82;any_goals k_is
     case' t82=>refine' .cons (EV.rf "place_dy" 114 KX G ?_ ?_ ?_ ?_) ?t83;any_goals k_is
     case' t83=>refine' .cons (EV.rf "place_di" 115 KX G ?_ ?_ ?_ ?_) ?t84;any_goals k_is
     case' t84=>refine' .cons (EV.rf "place_dix" 116 KX G ?_ ?_ ?_ ?_) ?t85;any_goals k_is
     case' t85=>refine' .cons (EV.rf "place_diy" 117 KX G ?_ ?_ ?_ ?_) ?t86;any_goals k_is
     case' t86=>refine' .cons (EV.rf "place_dl" 118 KX G ?_ ?_ ?_ ?_) ?t87;any_goals k_is
     case' t87=>refine' .cons (EV.rf "place_dly" 119 KX G ?_ ?_ ?_ ?_) ?t88;any_goals k_is
     case' t88=>refine' .cons (EV.rf "place_a" 120 KX G ?_ ?_ ?_ ?_) ?t89;any_goals k_is
     case' t89=>refine' .cons (EV.rf "place_ax" 121 KX G ?_ ?_ ?_ ?_) ?t90;any_goals k_is
     case' t90=>refine' .cons (EV.rf "place_ay" 122 KX G ?_ ?_ ?_ ?_) ?t91;any_goals k_is
     case' t91=>refine' .cons (EV.rf "place_al" 123 KX G ?_ ?_ ?_ ?_) ?t92;any_goals k_is
     case' t92=>refine' .cons (EV.rf "place_alx" 124 KX G ?_ ?_ ?_ ?_) ?t93;any_goals k_is
     case' t93=>refine' .cons (EV.rf "place_sr" 125 KX G ?_ ?_ ?_ ?_) ?t94;any_goals k_is
     case' t94=>refine' .cons (EV.rf "place_siy" 126 KX G ?_ ?_ ?_ ?_) ?t95;any_goals k_is
     case' t95=>refine' .cons (EV.rf "place_im" 127 KX G ?_ ?_ ?_ ?_) ?t96;any_goals k_is
     case' t96=>refine' .cons (EV.rf "place_ix" 128 KX G ?_ ?_ ?_ ?_) ?t97;any_goals k_is
     case' t97=>refine' .cons (EV.rf "behind_first" 129 KX G ?_ ?_ ?_ ?_) ?t98;any_goals k_is
     case' t98=>refine' .cons (EV.rf "shifted_left" 132 KX G ?_ ?_ ?_ ?_) ?t99;any_goals k_is
     case' t99=>refine' .cons (EV.rf "shifted_right" 133 KX G ?_ ?_ ?_ ?_) ?t100;any_goals k_is
     case' t100=>refine' .cons (EV.rf "read_at" 134 KX G ?_ ?_ ?_ ?_) ?t101;any_goals k_is
     case' t101=>refine' .cons (EV.rf "keep_at" 135 KX G ?_ ?_ ?_ ?_) ?t102;any_goals k_is
     case' t102=>refine' .cons (EV.rf "asl" 136 KX G ?_ ?_ ?_ ?_) ?t103;any_goals k_is
     case' t103=>refine' .cons (EV.rf "rol" 137 KX G ?_ ?_ ?_ ?_) ?t104;any_goals k_is
     case' t104=>refine' .cons (EV.rf "lsr" 138 KX G ?_ ?_ ?_ ?_) ?t105;any_goals k_is
     case' t105=>refine' .cons (EV.rf "ror" 139 KX G ?_ ?_ ?_ ?_) ?t106;any_goals k_is
     case' t106=>refine' .cons (EV.rf "inc" 140 KX G ?_ ?_ ?_ ?_) ?t107;any_goals k_is
     case' t107=>refine' .cons (EV.rf "dec" 141 KX G ?_ ?_ ?_ ?_) ?t108;any_goals k_is
     case' t108=>refine' .cons (EV.rf "asl_a" 142 KX G ?_ ?_ ?_ ?_) ?t109;any_goals k_is
     case' t109=>refine' .cons (EV.rf "rol_a" 143 KX G ?_ ?_ ?_ ?_) ?t110;any_goals k_is
     case' t110=>refine' .cons (EV.rf "lsr_a" 144 KX G ?_ ?_ ?_ ?_) ?t111;any_goals k_is
     case' t111=>refine' .cons (EV.rf "ror_a" 145 KX G ?_ ?_ ?_ ?_) ?t112;any_goals k_is
     case' t112=>refine' .cons (EV.rf "inc_a" 146 KX G ?_ ?_ ?_ ?_) ?t113;any_goals k_is
     case' t113=>refine' .cons (EV.rf "dec_a" 147 KX G ?_ ?_ ?_ ?_) ?t114;any_goals k_is
     case' t114=>refine' .cons (EV.rf "inx" 148 KX G ?_ ?_ ?_ ?_) ?t115;any_goals k_is
     case' t115=>refine' .cons (EV.rf "iny" 149 KX G ?_ ?_ ?_ ?_) ?t116;any_goals k_is
     case' t116=>refine' .cons (EV.rf "dex" 150 KX G ?_ ?_ ?_ ?_) ?t117;any_goals k_is
     case' t117=>refine' .cons (EV.rf "dey" 151 KX G ?_ ?_ ?_ ?_) ?t118;any_goals k_is
     case' t118=>refine' .cons (EV.rf "push_number" 155 KX G ?_ ?_ ?_ ?_) ?t119;any_goals k_is
     case' t119=>refine' .cons (EV.rf "pull_number" 156 KX G ?_ ?_ ?_ ?_) ?t120;any_goals k_is
     case' t120=>refine' .cons (EV.rf "pha" 157 KX G ?_ ?_ ?_ ?_) ?t121;any_goals k_is
     case' t121=>refine' .cons (EV.rf "phx" 158 KX G ?_ ?_ ?_ ?_) ?t122;any_goals k_is
     case' t122=>refine' .cons (EV.rf "phy" 159 KX G ?_ ?_ ?_ ?_) ?t123;any_goals k_is
     case' t123=>refine' .cons (EV.rf "pla" 160 KX G ?_ ?_ ?_ ?_) ?t124;any_goals k_is
     case' t124=>refine' .cons (EV.rf "plx" 161 KX G ?_ ?_ ?_ ?_) ?t125;any_goals k_is
     case' t125=>refine' .cons (EV.rf "ply" 162 KX G ?_ ?_ ?_ ?_) ?t126;any_goals k_is
     case' t126=>refine' .cons (EV.rf "php" 163 KX G ?_ ?_ ?_ ?_) ?t127;any_goals k_is
     case' t127=>refine' .cons (EV.rf "plp" 164 KX G ?_ ?_ ?_ ?_) ?t128;any_goals k_is
     case' t128=>refine' .cons (EV.rf "phd" 165 KX G ?_ ?_ ?_ ?_) ?t129;any_goals k_is
     case' t129=>refine' .cons (EV.rf "pld" 166 KX G ?_ ?_ ?_ ?_) ?t130;any_goals k_is
     case' t130=>refine' .cons (EV.rf "phb" 167 KX G ?_ ?_ ?_ ?_) ?t131;any_goals k_is
     case' t131=>refine' .cons (EV.rf "plb" 168 KX G ?_ ?_ ?_ ?_) ?t132;any_goals k_is
     case' t132=>refine' .cons (EV.rf "phk" 169 KX G ?_ ?_ ?_ ?_) ?t133;any_goals k_is
     case' t133=>refine' .cons (EV.rf "pea" 170 KX G ?_ ?_ ?_ ?_) ?t134;any_goals k_is
     case' t134=>refine' .cons (EV.rf "pei" 171 KX G ?_ ?_ ?_ ?_) ?t135;any_goals k_is
     case' t135=>refine' .cons (EV.rf "per" 172 KX G ?_ ?_ ?_ ?_) ?t136;any_goals k_is
     case' t136=>refine' .cons (EV.rf "decimal_sum" 176 KX G ?_ ?_ ?_ ?_) ?t137;any_goals k_is
     case' t137=>refine' .cons (EV.rf "decimal_difference" 177 KX G ?_ ?_ ?_ ?_) ?t138;any_goals k_is
     case' t138=>refine' .cons (EV.rf "keep_total" 178 KX G ?_ ?_ ?_ ?_) ?t139;any_goals k_is
     case' t139=>refine' .cons (EV.rf "adc" 179 KX G ?_ ?_ ?_ ?_) ?t140;any_goals k_is
     case' t140=>refine' .cons (EV.rf "sbc" 180 KX G ?_ ?_ ?_ ?_) ?t141;any_goals k_is
     case' t141=>refine' .cons (EV.rf "tax" 183 KX G ?_ ?_ ?_ ?_) ?t142;any_goals k_is
     case' t142=>refine' .cons (EV.rf "tay" 184 KX G ?_ ?_ ?_ ?_) ?t143;any_goals k_is
     case' t143=>refine' .cons (EV.rf "tsx" 185 KX G ?_ ?_ ?_ ?_) ?t144;any_goals k_is
     case' t144=>refine' .cons (EV.rf "txy" 186 KX G ?_ ?_ ?_ ?_) ?t145;any_goals k_is
     case' t145=>refine' .cons (EV.rf "tyx" 187 KX G ?_ ?_ ?_ ?_) ?t146;any_goals k_is
     case' t146=>refine' .cons (EV.rf "txa" 188 KX G ?_ ?_ ?_ ?_) ?t147;any_goals k_is
     case' t147=>refine' .cons (EV.rf "tya" 189 KX G ?_ ?_ ?_ ?_) ?t148;any_goals k_is
     case' t148=>refine' .cons (EV.rf "txs" 190 KX G ?_ ?_ ?_ ?_) ?t149;any_goals k_is
     case' t149=>refine' .cons (EV.rf "tcs" 191 KX G ?_ ?_ ?_ ?_) ?t150;any_goals k_is
     case' t150=>refine' .cons (EV.rf "tsc" 192 KX G ?_ ?_ ?_ ?_) ?t151;any_goals k_is
     case' t151=>refine' .cons (EV.rf "tcd" 193 KX G ?_ ?_ ?_ ?_) ?t152;any_goals k_is
     case' t152=>refine' .cons (EV.rf "tdc" 194 KX G ?_ ?_ ?_ ?_) ?t153;any_goals k_is
     case' t153=>refine' .cons (EV.rf "xba" 195 KX G ?_ ?_ ?_ ?_) ?t154;any_goals k_is
     case' t154=>refine' .cons (EV.rf "xce" 196 KX G ?_ ?_ ?_ ?_) ?t155;any_goals k_is
     case' t155=>refine' .cons (EV.rf "clc" 197 KX G ?_ ?_ ?_ ?_) ?t156;any_goals k_is
     case' t156=>refine' .cons (EV.rf "sec" 198 KX G ?_ ?_ ?_ ?_) ?t157;any_goals k_is
     case' t157=>refine' .cons (EV.rf "cli" 199 KX G ?_ ?_ ?_ ?_) ?t158;any_goals k_is
     case' t158=>refine' .cons (EV.rf "sei" 200 KX G ?_ ?_ ?_ ?_) ?t159;any_goals k_is
     case' t159=>refine' .cons (EV.rf "cld" 201 KX G ?_ ?_ ?_ ?_) ?t160;any_goals k_is
     case' t160=>refine' .cons (EV.rf "sed" 202 KX G ?_ ?_ ?_ ?_) ?t161;any_goals k_is
     case' t161=>refine' .cons (EV.rf "clv" 203 KX G ?_ ?_ ?_ ?_) ?t162;any_goals k_is
     case' t162=>refine' .cons (EV.rf "rep" 204 KX G ?_ ?_ ?_ ?_) ?t163;any_goals k_is
     case' t163=>refine' .cons (EV.rf "sep" 205 KX G ?_ ?_ ?_ ?_) ?t164;any_goals k_is
     case' t164=>refine' .cons (EV.rf "set_a" 216 KX G ?_ ?_ ?_ ?_) ?t165;any_goals k_is
     case' t165=>refine' .cons (EV.rf "set_x" 217 KX G ?_ ?_ ?_ ?_) ?t166;any_goals k_is
     case' t166=>refine' .cons (EV.rf "set_y" 218 KX G ?_ ?_ ?_ ?_) ?t167;any_goals k_is
     case' t167=>refine' .cons (EV.rf "set_d" 219 KX G ?_ ?_ ?_ ?_) ?t168;any_goals k_is
     case' t168=>refine' .cons (EV.rf "set_s" 220 KX G ?_ ?_ ?_ ?_) ?t169;any_goals k_is
     case' t169=>refine' .cons (EV.rf "set_pc" 221 KX G ?_ ?_ ?_ ?_) ?t170;any_goals k_is
     case' t170=>refine' .cons (EV.rf "set_pb" 222 KX G ?_ ?_ ?_ ?_) ?t171;any_goals k_is
     case' t171=>refine' .cons (EV.rf "set_db" 223 KX G ?_ ?_ ?_ ?_) ?t172;any_goals k_is
     case' t172=>refine' .cons (EV.rf "set_flags" 224 KX G ?_ ?_ ?_ ?_) ?t173;any_goals k_is
     case' t173=>refine' .cons (EV.rf "set_emulation" 225 KX G ?_ ?_ ?_ ?_) ?t174;any_goals k_is
     case t174=>exact .nil
    case sq=>
     refine' EV.tup_mk ?a ?b ?_;(case a=>k_is);(case b=>decide +kernel)
     repeat (first|exact .nil|refine .cons ⟨_,rfl⟩ ?_)
    case sR=>
     refine' EV.tup_mk ?a ?b ?_;(case a=>k_is);(case b=>decide +kernel)
     repeat (first|exact .nil|refine .cons ⟨_,rfl⟩ ?_)
    case sts=>
     refine' EV.tup_mk ?a ?b ?_;(case a=>k_is);(case b=>decide +kernel)
     repeat (first|exact .nil|refine .cons rfl ?_)
    case mI=>refine' EV.md_mk (m:="__init__") (q:="Memory.__init__") (st:=EV.sMemInit) ?_ ?_ ?_ ?_ ?_;any_goals k_is
    case mB=>refine' EV.md_mk (m:="make_bank") (q:="Memory.make_bank") (st:=EV.sMkb) ?_ ?_ ?_ ?_ ?_;any_goals k_is
    case mT=>refine' EV.md_mk (m:="tell") (q:="Memory.tell") (st:=EV.sTell) ?_ ?_ ?_ ?_ ?_;any_goals k_is
    case mP=>refine' EV.md_mk (m:="put") (q:="Memory.put") (st:=EV.sPut) ?_ ?_ ?_ ?_ ?_;any_goals k_is
    case mTM=>refine' EV.md_mk (m:="tell_many") (q:="Memory.tell_many") (st:=EV.sTellMany) ?_ ?_ ?_ ?_ ?_;any_goals k_is
    case mPM=>refine' EV.md_mk (m:="put_many") (q:="Memory.put_many") (st:=EV.sPutMany) ?_ ?_ ?_ ?_ ?_;any_goals k_is
    case cIn=>refine' EV.md_mk (m:="__init__") (q:="Cpu.__init__") (st:=EV.sCpuInit) ?_ ?_ ?_ ?_ ?_;any_goals k_is
    case rI=>refine' EV.md_mk (m:="__init__") (q:="Reader.__init__") (st:=(EV.sRd 0)) ?_ ?_ ?_ ?_ ?_;any_goals k_is
    case rH=>refine' EV.md_mk (m:="has_more") (q:="Reader.has_more") (st:=(EV.sRd 1)) ?_ ?_ ?_ ?_ ?_;any_goals k_is
    case rN=>refine' EV.md_mk (m:="take_number") (q:="Reader.take_number") (st:=(EV.sRd 2)) ?_ ?_ ?_ ?_ ?_;any_goals k_is
    case rNs=>refine' EV.md_mk (m:="take_numbers") (q:="Reader.take_numbers") (st:=(EV.sRd 3)) ?_ ?_ ?_ ?_ ?_;any_goals k_is
    case rL=>refine' EV.md_mk (m:="take_lists") (q:="Reader.take_lists") (st:=(EV.sRd 4)) ?_ ?_ ?_ ?_ ?_;any_goals k_is
    case iI=>refine' EV.md_mk (m:="__init__") (q:="Instructions.__init__") (st:=EV.sInsInit) ?_ ?_ ?_ ?_ ?_;any_goals k_is
    case iA=>refine' EV.md_mk (m:="append_at_place") (q:="Instructions.append_at_place") (st:=EV.sApp) ?_ ?_ ?_ ?_ ?_;any_goals k_is
    case gPl=>refine' EV.gd_mk (x:="plain_steps") (st:=EV.sPlain) KX G ?_ ?_ ?_ ?_;any_goals k_is
    case gCa=>refine' EV.gd_mk (x:="careful_step") (st:=EV.sCareful) KX G ?_ ?_ ?_ ?_;any_goals k_is
    case gRu=>refine' EV.gd_mk (x:="run") (st:=EV.sRun) KX G ?_ ?_ ?_ ?_;any_goals k_is
    case gFi=>refine' EV.gd_mk (x:="fits") (st:=EV.top 257) KX G ?_ ?_ ?_ ?_;any_goals k_is
    case gWh=>refine' EV.gd_mk (x:="cpu_why") (st:=EV.top 254) KX G ?_ ?_ ?_ ?_;any_goals k_is
    case gRn=>refine' EV.gd_mk (x:="cpu_run") (st:=EV.top 253) KX G ?_ ?_ ?_ ?_;any_goals k_is
    case gAs=>refine' EV.gd_mk (x:="cpu_ask") (st:=EV.top 252) KX G ?_ ?_ ?_ ?_;any_goals k_is
    case gLo=>refine' EV.gd_mk (x:="cpu_look") (st:=EV.top 251) KX G ?_ ?_ ?_ ?_;any_goals k_is
    case gLd=>refine' EV.gd_mk (x:="cpu_load") (st:=EV.top 250) KX G ?_ ?_ ?_ ?_;any_goals k_is
    case gAl=>refine' EV.gd_mk (x:="tell_all") (st:=EV.top 215) KX G ?_ ?_ ?_ ?_;any_goals k_is
    case gGe=>refine' EV.gd_mk (x:="cpu_get") (st:=EV.top 255) KX G ?_ ?_ ?_ ?_;any_goals k_is
    case gOn=>refine' EV.gd_mk (x:="set_one") (st:=EV.top 227) KX G ?_ ?_ ?_ ?_;any_goals k_is
    case gSe=>refine' EV.gd_mk (x:="cpu_set") (st:=EV.top 256) KX G ?_ ?_ ?_ ?_;any_goals k_is
    case gCl=>refine' EV.gd_mk (x:="answer_call") (st:=EV.top 249) KX G ?_ ?_ ?_ ?_;any_goals k_is
    case gAn=>refine' EV.gd_mk (x:="answers") (st:=EV.top 248) KX G ?_ ?_ ?_ ?_;any_goals k_is
    case gTa=>refine' EV.gd_mk (x:="operations_at_places") (st:=EV.top 209) KX G ?_ ?_ ?_ ?_;any_goals k_is
    case gTb=>refine' EV.gd_mk (x:="operations_alone") (st:=EV.top 210) KX G ?_ ?_ ?_ ?_;any_goals k_is
    case D=>
     refine⟨PySem.W.mg_none_of KX G ?_,?_,?_,?_,?_,?_,?_,?_,?_,?_,?_,?_⟩;k_is
     ·refine' ⟨_,PySem.W.mg_of KX G ?a,EV.dict_mk ?b ?t ?c ?d ?e⟩;(case a=>k_is);(case b=>k_is);(case t=>repeat (first|exact .nil|refine .cons rfl rfl rfl ?_));(case c=>decide +kernel);(case d=>rfl);(case e=>decide +kernel)
     ·refine' ⟨_,PySem.W.mg_of KX G ?a,EV.dict_mk ?b ?t ?c ?d ?e⟩;(case a=>k_is);(case b=>k_is);(case t=>repeat (first|exact .nil|refine .cons rfl rfl rfl ?_));(case c=>decide +kernel);(case d=>rfl);(case e=>decide +kernel)
     ·refine' ⟨_,PySem.W.mg_of KX G ?a,EV.dict_mk ?b ?t ?c ?d ?e⟩;(case a=>k_is);(case b=>k_is);(case t=>repeat (first|exact .nil|refine .cons rfl rfl rfl ?_));(case c=>decide +kernel);(case d=>rfl);(case e=>decide +kernel)
     ·refine' ⟨_,PySem.W.mg_of KX G ?a,EV.dict_mk ?b ?t ?c ?d ?e⟩;(case a=>k_is);(case b=>k_is);(case t=>repeat (first|exact .nil|refine .cons rfl rfl rfl ?_));(case c=>decide +kernel);(case d=>rfl);(case e=>decide +kernel)
     ·refine' ⟨_,PySem.W.mg_of KX G ?a,EV.dict_mk ?b ?t ?c ?d ?e⟩;(case a=>k_is);(case b=>k_is);(case t=>repeat (first|exact .nil|refine .cons rfl rfl rfl ?_));(case c=>decide +kernel);(case d=>rfl);(case e=>decide +kernel)
     ·refine' ⟨_,PySem.W.mg_of KX G ?a,EV.dict_mk ?b ?t ?c ?d ?e⟩;(case a=>k_is);(case b=>k_is);(case t=>repeat (first|exact .nil|refine .cons rfl rfl rfl ?_));(case c=>decide +kernel);(case d=>rfl);(case e=>decide +kernel)
     ·refine' ⟨_,PySem.W.mg_of KX G ?a,EV.dict_mk ?b ?t ?c ?d ?e⟩;(case a=>k_is);(case b=>k_is);(case t=>repeat (first|exact .nil|refine .cons rfl rfl rfl ?_));(case c=>decide +kernel);(case d=>rfl);(case e=>decide +kernel)
     ·refine' ⟨_,PySem.W.mg_of KX G ?a,EV.dict_mk ?b ?t ?c ?d ?e⟩;(case a=>k_is);(case b=>k_is);(case t=>repeat (first|exact .nil|refine .cons rfl rfl rfl ?_));(case c=>decide +kernel);(case d=>rfl);(case e=>decide +kernel)
     ·refine' ⟨_,PySem.W.mg_of KX G ?a,EV.dict_mk ?b ?t ?c ?d ?e⟩;(case a=>k_is);(case b=>k_is);(case t=>repeat (first|exact .nil|refine .cons rfl rfl rfl ?_));(case c=>decide +kernel);(case d=>rfl);(case e=>decide +kernel)
     ·refine' ⟨_,PySem.W.mg_of KX G ?a,EV.dict_mk ?b ?t ?c ?d ?e⟩;(case a=>k_is);(case b=>k_is);(case t=>repeat (first|exact .nil|refine .cons rfl rfl rfl ?_));(case c=>decide +kernel);(case d=>rfl);(case e=>decide +kernel)
     ·refine' ⟨_,PySem.W.mg_of KX G ?a,EV.dict_mk ?b ?t ?c ?d ?e⟩;(case a=>k_is);(case b=>k_is);(case t=>repeat (first|exact .nil|refine .cons rfl rfl rfl ?_));(case c=>decide +kernel);(case d=>rfl);(case e=>decide +kernel)
end HD
theorem PySem.Challenge.cw_sixteenbits_s01_answers_holds : PySem.Challenge.rw_sixteenbits_s01_answers.Holds := by
  exact HD.cw
