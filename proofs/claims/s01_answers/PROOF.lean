import PyProof.Rows.All
import Wide.All
import OpenK.AllK
import Wide.FinOn
import PyProof.EqAt
import PyProof.EqKinds
import PyProof.TupleCall
import KE.BitLaws
import Open.SpecLaws
import KE.OsHead
import KE.OsGo
import KE.KDictSum
import PySem.Challenge.RW_shutoff_s01_answers
set_option Elab.async false
set_option linter.all false
set_option maxRecDepth 100000
set_option maxHeartbeats 4000000
section
namespace L2
open PySem PySem.Spec PyProof.Rows
abbrev Key:=Sum Int Str
def keyIs:Key→Value→Bool
  | .inl k,v=>Value.isInt k v
  | .inr x,v=>Value.isStrOf x v
def keyH (w:World):Key→Int
  | .inl k=>hashInt k
  | .inr x=>hashStr w x
theorem keyIs_shape:∀ {k:Key} {v:Value},keyIs k v=true→(∃ i t,k=Sum.inl i∧v=Value.int i t)∨(∃ x t,k=Sum.inr x∧v=Value.str x t)
  | .inl i,v,h=>by
    obtain ⟨t,e⟩:=Value.isInt_shape (k:=i) (v:=v) h
    exact .inl ⟨i,t,rfl,e⟩
  | .inr x,v,h=>by
    obtain ⟨t,e⟩:=Value.isStrOf_shape (x:=x) (v:=v) h
    exact .inr ⟨x,t,rfl,e⟩
theorem keyIs_int (i:Int) (t:Tok):keyIs (.inl i) (.int i t)=true:=by simp [keyIs,Value.isInt]
theorem keyIs_str (x:Str) (t:Tok):keyIs (.inr x) (.str x t)=true:=by simp [keyIs,Value.isStrOf]
theorem key_ll (a b:Int):decide ((Sum.inl a:Key)=Sum.inl b)=(a == b):=by
  by_cases e:a=b
  · subst e;simp
  · have h:¬ (Sum.inl a:Key)=Sum.inl b:=fun q=>e (Sum.inl.inj q)
    rw [decide_eq_false h]
    exact (beq_eq_false_iff_ne.mpr e).symm
theorem key_rr (a b:Str):decide ((Sum.inr a:Key)=Sum.inr b)=decide (a=b):=by
  by_cases e:a=b
  · subst e;simp
  · have h:¬ (Sum.inr a:Key)=Sum.inr b:=fun q=>e (Sum.inr.inj q)
    rw [decide_eq_false h,decide_eq_false e]
theorem key_lr (a:Int) (b:Str):decide ((Sum.inl a:Key)=Sum.inr b)=false:=decide_eq_false (fun q=>nomatch q)
theorem key_rl (a:Str) (b:Int):decide ((Sum.inr a:Key)=Sum.inl b)=false:=decide_eq_false (fun q=>nomatch q)
def mixKind (prog:Program) (w:World):PySem.KeyKind prog w Key where
  is:=keyIs
  hash:=keyH w
  inj:=fun v a b ha hb=>by
    rcases keyIs_shape ha with ⟨i,t,rfl,rfl⟩ | ⟨x,t,rfl,rfl⟩
    · rcases keyIs_shape hb with ⟨j,u,rfl,e⟩ | ⟨y,u,rfl,e⟩
      · injection e with e1 _;rw [e1]
      · exact nomatch e
    · rcases keyIs_shape hb with ⟨j,u,rfl,e⟩ | ⟨y,u,rfl,e⟩
      · exact nomatch e
      · injection e with e1 _;rw [e1]
  byValue:=fun k v h=>by
    rcases keyIs_shape h with ⟨i,t,rfl,rfl⟩ | ⟨x,t,rfl,rfl⟩ <;> rfl
  pyHash:=fun hv h=>by
    rcases keyIs_shape hv with ⟨i,t,rfl,rfl⟩ | ⟨x,t,rfl,rfl⟩
    · exact wpAny_pyHash_int h
    · exact wpAny_pyHash_str h
  eqBool:=fun hu hv h=>by
    rcases keyIs_shape hu with ⟨i,t,rfl,rfl⟩ | ⟨x,t,rfl,rfl⟩
    · rcases keyIs_shape hv with ⟨j,u,rfl,rfl⟩ | ⟨y,u,rfl,rfl⟩
      · rw [key_ll] at h;exact wpAny_eqBool_int h
      · rw [key_lr] at h;exact SeqAt.EqAt.int_str i t y u _ _ _ _ h
    · rcases keyIs_shape hv with ⟨j,u,rfl,rfl⟩ | ⟨y,u,rfl,rfl⟩
      · rw [key_rl] at h;exact SeqAt.EqAt.str_int x t j u _ _ _ _ h
      · rw [key_rr] at h;exact wpAny_eqBool_str h
  «strs»:=fun k x t v h=>by
    rcases keyIs_shape h with ⟨i,u,rfl,e⟩ | ⟨y,u,rfl,e⟩
    · exact nomatch e
    · injection e with e1 _
      subst e1
      cases v <;> rfl
theorem mixKind_int (prog:Program) (w:World) (i:Int) (t:Tok):(mixKind prog w).is (.inl i) (.int i t)=true:=keyIs_int i t
theorem mixKind_str (prog:Program) (w:World) (x:Str) (t:Tok):(mixKind prog w).is (.inr x) (.str x t)=true:=keyIs_str x t
end L2
namespace L2
open PySem PySem.Spec PyProof.Rows
inductive V where
  | non | bl (b:Bool) | int (i:Int) | str (x:Str) | byt (b:Array UInt8) | flt (b:UInt64) | ref (a:Addr) | ty (n:String)
  deriving DecidableEq
def RelV:V→Value→Prop
  | .non,u=>u=Value.none
  | .bl b,u=>u=Value.bool b
  | .int i,u=>∃ t,u=Value.int i t
  | .str x,u=>∃ t,u=Value.str x t
  | .byt b,u=>∃ t,u=Value.bytes b t
  | .flt b,u=>∃ t,u=Value.float b t
  | .ref a,u=>u=Value.ref a
  | .ty n,u=>u=Value.type n
abbrev Vals:List V→List Value→Prop:=Paired RelV
theorem Vals.length {xs:List V} {us:List Value} (r:Vals xs us):xs.length=us.length:=Paired.length r
theorem Vals.get:∀ {xs:List V} {us:List Value} {i:Nat} {x:V},Vals xs us→xs[i]?=some x→∃ u,us[i]?=some u∧RelV x u
  | _,_,_,_,.nil,e=>by simp at e
  | _,_,0,_,.cons r _,e=>by simp at e;subst e;exact ⟨_,rfl,r⟩
  | _,_,i + 1,x,.cons _ t,e=>by
    obtain ⟨u,h1,h2⟩:=Vals.get (i:=i) (x:=x) t (by simpa using e)
    exact ⟨u,by simpa using h1,h2⟩
theorem Vals.set {x:V} {u:Value} (r:RelV x u):∀ {xs:List V} {us:List Value} (i:Nat),Vals xs us→Vals (xs.set i x) (us.set i u)
  | _,_,_,.nil=>.nil
  | _,_,0,.cons _ t=>.cons r t
  | _,_,i + 1,.cons q t=>.cons q (Vals.set r i t)
theorem Vals.append:∀ {xs ys:List V} {us ws:List Value},Vals xs us→Vals ys ws→Vals (xs++ys) (us++ws)
  | _,_,_,_,.nil,s=>s
  | _,_,_,_,.cons r t,s=>.cons r (Vals.append t s)
theorem Vals.take:∀ {xs:List V} {us:List Value} (n:Nat),Vals xs us→Vals (xs.take n) (us.take n)
  | _,_,0,_=>.nil
  | _,_,_ + 1,.nil=>.nil
  | _,_,n + 1,.cons r t=>.cons r (Vals.take n t)
theorem Vals.drop:∀ {xs:List V} {us:List Value} (n:Nat),Vals xs us→Vals (xs.drop n) (us.drop n)
  | _,_,0,r=>r
  | _,_,_ + 1,.nil=>.nil
  | _,_,n + 1,.cons _ t=>Vals.drop n t
def RelO:Option V→Option Value→Prop
  | some v,some u=>RelV v u
  | none,none=>True
  | _,_=>False
def KV {κ:Type}:List (κ × V)→List (κ × Value)→Prop:=Paired fun (p:κ × V) (q:κ × Value)=>p.1=q.1∧RelV p.2 q.2
def kV:Key→V
  | .inl i=>.int i
  | .inr x=>.str x
inductive HO where
  | lst (xs:List V)
  | tup (xs:List V)
  | dK (kvs:List (Key × V)) | dT (kvs:List (List Key × V))
  | set (S:Int→Bool) (n:Nat)
  | ins (C dx:Addr) (fs:List (Str × V))
  | own (x:Addr)
  | xd (fs:List (Str × V))
  | met (f x:Addr)
  | rng (lo hi:Int)
  | frz (o:Obj) (u:HO)
  | tbl (ps:Array Value)
  | ext (φ:Heap→Prop)
abbrev Hp:=Addr→Option HO
def upd (H:Hp) (a:Addr) (o:HO):Hp:=fun b=>if b=a then some o else H b
theorem upd_same {H:Hp} {a:Addr} {o:HO}:upd H a o a=some o:=by unfold upd;rw [if_pos rfl]
theorem upd_ne {H:Hp} {a b:Addr} {o:HO} (h:b≠a):upd H a o b=H b:=by unfold upd;rw [if_neg h]
theorem upd_upd {H:Hp} {a:Addr} {o u:HO}:upd (upd H a o) a u=upd H a u:=by
  funext b;unfold upd;split <;> rfl
theorem ne_of {H:Hp} {a b:Addr} {o u:HO} (h:H a=some o) (h':H b=some u) (d:o≠u):a≠b:=by
  intro e;subst e;rw [h] at h';exact d (Option.some.inj h')
theorem ne_of_none {H:Hp} {a b:Addr} {o:HO} (h:H a=some o) (h':H b=none):a≠b:=by
  intro e;subst e;rw [h] at h';cases h'
section
variable (P:Program) (w:World)
def ObjOk (H:Hp) (h:Heap) (a:Addr):HO→Prop
  | .lst xs=>xs.length≤sizeLine∧∃ (its:List Value) (n:Nat),Vals xs its∧h.get? a=some { cls:=.type "list",data:=.seq its.toArray n }
  | .tup xs=>xs.length≤sizeLine∧∃ its:List Value,Vals xs its∧IsTup h a its.toArray
  | .dK kvs=>kvs.length≤sizeLine∧(a == sysModules)=false∧∃ vs,KV kvs vs∧h.DictOf (mixKind P w) a vs
  | .dT kvs=>kvs.length≤sizeLine∧(a == sysModules)=false∧∃ xs:List (List Key × Addr × Value),
      Paired (fun (p:List Key × V) (q:List Key × Addr × Value)=>p.1=q.1∧H q.2.1=some (.tup (p.1.map kV))∧RelV p.2 q.2.2) kvs xs ∧
      ∃ o es ep,h.get? a=some o∧o.ExactDict∧o.data=.dict es ep∧es.toList=xs.map (entryOfKey (tupleKind (mixKind P w)))∧(xs.map (·.1)).Nodup
  | .set S n=>h.SetOf (intKind P w) a S n
  | .ins C dx fs=>H dx=some (.own a)∧fs.length≤1000∧dx≠a∧h.get? a=some (PySem.W.instObj C dx) ∧
      ∃ mA,h.Ns1 dx mA∧(∀ f,RelO (fs.lookup f) (mA f))∧PySem.Within mA (fs.map (·.1))
  | .own _=>∃ o,h.get? a=some o
  | .xd fs=>∃ mA,h.Ns1 a mA∧∀ f,RelO (fs.lookup f) (mA f)
  | .rng lo hi=>∃ t u v,h.get? a=some { cls:=.type "range",data:=.fields #[.int lo t,.int hi u,.int 1 v] }
  | .frz o u=>h.get? a=some o∧ObjOk H h a u
  | .tbl ps=>h.get? a=some { cls:=.none,data:=.fields ps }
  | .met f x=>h.get? a=some (PySem.W.methodObj (.ref f) (.ref x))
  | .ext φ=>φ h∧(∃ o,h.get? a=some o)∧∀ h1 h2:Heap,φ h1→(∀ o,h1.get? a=some o→h2.get? a=some o)→φ h2
def HOk (H:Hp) (h:Heap):Prop:=∀ a o,H a=some o→ObjOk P w H h a o
end
section
variable {P:Program} {w:World} {H H':Hp} {h h':Heap} {a:Addr} {o:HO}
theorem ObjOk.lt (x:ObjOk P w H h a o):a < h.objs.size:=by
  cases o with
  | lst xs=>obtain ⟨_,_,_,_,e⟩:=x;exact Heap.lt_size e
  | tup xs=>obtain ⟨_,_,_,p⟩:=x;exact p.lt
  | dK kvs=>obtain ⟨_,_,_,_,o,_,_,e,_⟩:=x;exact Heap.lt_size e
  | dT kvs=>obtain ⟨_,_,_,_,o,_,_,e,_⟩:=x;exact Heap.lt_size e
  | set S n=>obtain ⟨o,_,_,_,e,_⟩:=x;exact Heap.lt_size e
  | ins C dx fs=>obtain ⟨_,_,_,e,_⟩:=x;exact Heap.lt_size e
  | own y=>obtain ⟨_,e⟩:=x;exact Heap.lt_size e
  | xd fs=>obtain ⟨_,⟨_,_,_,e,_⟩,_⟩:=x;exact Heap.lt_size e
  | rng lo hi=>obtain ⟨_,_,_,e⟩:=x;exact Heap.lt_size e
  | frz ob u=>obtain ⟨e,_⟩:=x;exact Heap.lt_size e
  | tbl ps=>exact Heap.lt_size (show h.get? a=some _ from x)
  | met f y=>exact Heap.lt_size (show h.get? a=some _ from x)
  | ext φ=>obtain ⟨_,⟨_,e⟩,_⟩:=x;exact Heap.lt_size e
theorem Paired.mapP {α β:Type} {F G:α→β→Prop}:∀ {l₁:List α} {l₂:List β},Paired F l₁ l₂→(∀ a b,F a b→G a b)→Paired G l₁ l₂
  | _,_,.nil,_=>.nil
  | _,_,.cons r t,f=>.cons (f _ _ r) (Paired.mapP t f)
theorem ObjOk.stay (x:ObjOk P w H h a o) (k:∀ b u,(b=a∨H b=some (.own a))→h.get? b=some u→h'.get? b=some u)
    (ho:∀ b,H b=some (.own a)→H' b=some (.own a)) (ht:∀ b xs,H b=some (.tup xs)→H' b=some (.tup xs)):ObjOk P w H' h' a o:=by
  induction o with
  | lst xs=>obtain ⟨z,its,n,r,e⟩:=x;exact ⟨z,its,n,r,k _ _ (.inl rfl) e⟩
  | tup xs=>obtain ⟨z,its,r,ob,e,c⟩:=x;exact ⟨z,its,r,ob,k _ _ (.inl rfl) e,c⟩
  | dK kvs=>obtain ⟨z,y,vs,r,ob,es,ep,e,c⟩:=x;exact ⟨z,y,vs,r,ob,es,ep,k _ _ (.inl rfl) e,c⟩
  | dT kvs =>
    obtain ⟨z,y,xs,r,ob,es,ep,e,c⟩:=x
    exact ⟨z,y,xs,Paired.mapP r fun p q z=>⟨z.1,ht _ _ z.2.1,z.2.2⟩,ob,es,ep,k _ _ (.inl rfl) e,c⟩
  | set S n=>obtain ⟨ob,es,ep,t,e,c⟩:=x;exact ⟨ob,es,ep,t,k _ _ (.inl rfl) e,c⟩
  | ins C dx fs =>
    obtain ⟨d,z,ne,e,mA,⟨od,es,ep,e2,c⟩,r⟩:=x
    exact ⟨ho _ d,z,ne,k _ _ (.inl rfl) e,mA,⟨od,es,ep,k _ _ (.inr d) e2,c⟩,r⟩
  | own y=>obtain ⟨ob,e⟩:=x;exact ⟨ob,k _ _ (.inl rfl) e⟩
  | xd fs=>obtain ⟨mA,⟨od,es,ep,e,c⟩,r⟩:=x;exact ⟨mA,⟨od,es,ep,k _ _ (.inl rfl) e,c⟩,r⟩
  | rng lo hi=>obtain ⟨t,u,v,e⟩:=x;exact ⟨t,u,v,k _ _ (.inl rfl) e⟩
  | frz ob u ih=>obtain ⟨e,q⟩:=x;exact ⟨k _ _ (.inl rfl) e,ih q⟩
  | tbl ps =>
    have e:h.get? a=some { cls:=.none,data:=.fields ps }:=x
    show h'.get? a=some { cls:=.none,data:=.fields ps }
    exact k a _ (.inl rfl) e
  | met f y =>
    have e:h.get? a=some (PySem.W.methodObj (.ref f) (.ref y)):=x
    show h'.get? a=some (PySem.W.methodObj (.ref f) (.ref y))
    exact k a _ (.inl rfl) e
  | ext φ=>obtain ⟨p,⟨o,e⟩,st⟩:=x;exact ⟨st _ _ p fun o q=>k _ _ (.inl rfl) q,⟨o,k _ _ (.inl rfl) e⟩,st⟩
theorem HOk.lt (x:HOk P w H h) (e:H a=some o):a < h.objs.size:=(x a o e).lt
theorem HOk.fresh (x:HOk P w H h) (e:h.objs.size≤a):H a=none:=by
  cases q:H a with
  | none=>rfl
  | some u=>exact absurd (Nat.lt_of_lt_of_le (x.lt q) e) (Nat.lt_irrefl _)
theorem HOk.kept (x:HOk P w H h) (k:∀ b u,h.get? b=some u→h'.get? b=some u):HOk P w H h':=fun a o e =>
  (x a o e).stay (fun b u _ q=>k b u q) (fun _ q=>q) fun _ _ q=>q
theorem HOk.laid (x:HOk P w H h) (k:∀ b u,h.get? b=some u→h'.get? b=some u) (hp:h.objs.size≤a) (new:ObjOk P w (upd H a o) h' a o):HOk P w (upd H a o) h':=fun b u e=>by
  have hn:=x.fresh hp
  by_cases hb:b=a
  · subst hb;rw [upd_same] at e;cases e;exact new
  · rw [upd_ne hb] at e
    exact (x b u e).stay (fun c v _ q=>k c v q) (fun c q=>by rw [upd_ne (ne_of_none q hn)];exact q) fun c xs q=>by rw [upd_ne (ne_of_none q hn)];exact q
end
def Rd (H:Hp) (a:Addr) (u:HO):Prop:=H a=some u∨∃ o,H a=some (.frz o u)
theorem Rd.ok {P:Program} {w:World} {H:Hp} {h:Heap} {a:Addr} {u:HO} (r:Rd H a u) (x:HOk P w H h):ObjOk P w H h a u:=by
  rcases r with r | ⟨o,r⟩
  · exact x a u r
  · obtain ⟨_,q⟩:=x a _ r
    exact q
def Mut:Option HO→Prop
  | some (.lst _)=>True
  | some (.dK _)=>True
  | some (.dT _)=>True
  | some (.set _ _)=>True
  | some (.ins _ _ _)=>True
  | some (.ext _)=>True
  | _=>False
section
variable {P:Program} {w:World} {H:Hp} {h h':Heap} {x e:Addr} {o':HO}
theorem HOk.write (ok:HOk P w H h) (mu:Mut (H x)) (he:e=x∨H e=some (.own x)) (k:∀ b u,b≠e→h.get? b=some u→h'.get? b=some u) (heo:∃ u,h'.get? e=some u)
    (new:ObjOk P w (upd H x o') h' x o'):HOk P w (upd H x o') h':=fun b u q=>by
  have nown:∀ c y,H c=some (.own y)→c≠x:=fun c y r z=>by subst z;rw [r] at mu;exact mu
  have ntup:∀ c xs,H c=some (.tup xs)→c≠x:=fun c xs r z=>by subst z;rw [r] at mu;exact mu
  by_cases hb:b=x
  · subst hb;rw [upd_same] at q;cases q;exact new
  · rw [upd_ne hb] at q
    by_cases hbe:b=e
    · have q':H b=some (.own x):=by
        rcases he with z | z
        · exact absurd (hbe.trans z) hb
        · rw [hbe];exact z
      rw [q] at q';cases q'
      obtain ⟨v,hv⟩:=heo
      exact ⟨v,by rw [hbe];exact hv⟩
    · refine (ok b u q).stay (fun c v hc r=>k c v ?_ r) (fun c r=>by rw [upd_ne (nown c b r)];exact r) fun c xs r=>by rw [upd_ne (ntup c xs r)];exact r
      rcases hc with rfl | hc
      · exact hbe
      · rintro rfl
        rcases he with z | z
        · exact nown c b hc z
        · rw [hc] at z;cases z;exact hb rfl
end
structure Un (fs ex:List Addr) (H H':Hp) (h h':Heap):Prop where
  keep:∀ b o,h.get? b=some o→H b=none→b ∉ fs→b ∉ ex→h'.get? b=some o
  slot:∀ b o,h.get? b=some o→H b=none→b∈fs→b ∉ ex→∃ sl,h'.get? b=some { o with slots:=sl }
  free:∀ b o,h.get? b=some o→H b=none→b ∉ ex→H' b=none
  there:∀ b o,h.get? b=some o→b ∉ ex→∃ o',h'.get? b=some o'
  tups:∀ b xs,H b=some (.tup xs)→H' b=some (.tup xs)
  frzs:∀ b o u,H b=some (.frz o u)→H' b=some (.frz o u)
  tbls:∀ b ps,H b=some (.tbl ps)→∃ more,H' b=some (.tbl (ps++more))
section
variable {fs fs' ex ex':List Addr} {H H1 H2:Hp} {h h1 h2 h':Heap} {a x e:Addr} {o:HO}
theorem Un.any (u:Un fs ex H H1 h h1) {b:Addr} {ob:Obj} (q:h.get? b=some ob) (n:H b=none) (hx:b ∉ ex):∃ sl,h1.get? b=some { ob with slots:=sl }:=by
  by_cases hb:b∈fs
  · exact u.slot b ob q n hb hx
  · exact ⟨ob.slots,u.keep b ob q n hb hx⟩
theorem Un.kept (k:∀ b u,h.get? b=some u→h'.get? b=some u):Un fs ex H H h h' :=
  ⟨fun b ob q _ _ _=>k b ob q,fun b ob q _ _ _=>⟨ob.slots,k b ob q⟩,fun _ _ _ n _=>n,fun b ob q _=>⟨ob,k b ob q⟩,fun _ _ q=>q,fun _ _ _ q=>q,fun _ ps q=>⟨#[],by rw [q];simp⟩⟩
theorem Un.refl:Un fs ex H H h h:=Un.kept fun _ _ q=>q
theorem Un.laid (k:∀ b u,h.get? b=some u→h'.get? b=some u) (hp:h.objs.size≤a) (hn:H a=none):Un fs ex H (upd H a o) h h' where
  keep:=fun b u q _ _ _=>k b u q
  slot:=fun b u q _ _ _=>⟨u.slots,k b u q⟩
  free:=fun b u q n _=>by rw [upd_ne (Nat.ne_of_lt (Nat.lt_of_lt_of_le (Heap.lt_size q) hp))];exact n
  there:=fun b u q _=>⟨u,k b u q⟩
  tups:=fun b xs q=>by rw [upd_ne (ne_of_none q hn)];exact q
  frzs:=fun b u xs q=>by rw [upd_ne (ne_of_none q hn)];exact q
  tbls:=fun b ps q=>⟨#[],by rw [upd_ne (ne_of_none q hn),q];simp⟩
theorem Un.write (mu:Mut (H x)) (he:e=x∨H e=some (.own x)) (k:∀ b u,b≠e→h.get? b=some u→h'.get? b=some u) (heo:∃ u,h'.get? e=some u):Un fs ex H (upd H x o) h h':=by
  have hx:∀ b,H b=none→b≠x:=fun b n z=>by subst z;rw [n] at mu;exact mu
  have hb:∀ b,H b=none→b≠e:=fun b n z=>by
    subst z
    rcases he with r | r
    · exact hx b n r
    · rw [n] at r;cases r
  have hm:∀ b u,H b=some u→¬ Mut (some u)→b≠x:=fun b u q nm z=>by subst z;rw [q] at mu;exact nm mu
  refine ⟨fun b u q n _ _=>k b u (hb b n) q,fun b u q n _ _=>⟨u.slots,k b u (hb b n) q⟩,fun b u q n _=>by rw [upd_ne (hx b n)];exact n,fun b u q _=>?_,
    fun b xs q=>by rw [upd_ne (hm b _ q fun z=>z)];exact q,fun b u xs q=>by rw [upd_ne (hm b _ q fun z=>z)];exact q,fun b ps q=>⟨#[],by rw [upd_ne (hm b _ q fun z=>z),q];simp⟩⟩
  by_cases hbe:b=e
  · subst hbe;exact heo
  · exact ⟨u,k b u hbe q⟩
end
def trk (h:Heap) (H:Hp):List Addr:=(List.range h.objs.size).filter fun a=>(H a).isSome
def hidT (h:Heap) (H:Hp):Heap:=PySem.W.hideAll h (trk h H)
theorem hidT_size (h:Heap) (H:Hp):(hidT h H).objs.size=h.objs.size:=PySem.W.hideAll_size _ _
theorem hidT_get {h:Heap} {H:Hp} {b:Addr} {o:Obj} (e:h.get? b=some o) (n:H b=none):(hidT h H).get? b=some o :=
  PySem.W.hideAll_get _ e fun hm=>by
    have q:(H b).isSome=true:=(List.mem_filter.mp hm).2
    rw [n] at q;simp at q
theorem of_hidT {h:Heap} {H:Hp} {b:Addr} {o:Obj} (e:(hidT h H).get? b=some o):h.get? b=some o∧H b=none:=by
  have e':h.get? b=some o:=PySem.W.of_hideAll (trk h H) e
  refine ⟨e',?_⟩
  cases q:H b with
  | none=>rfl
  | some x =>
    have hm:b∈trk h H:=List.mem_filter.mpr ⟨List.mem_range.mpr (Heap.lt_size e'),by simp [q]⟩
    have z:(hidT h H).get? b=none:=PySem.W.hideAll_none (trk h H) hm
    rw [z] at e;cases e
end L2
namespace L2
open PySem PySem.Spec PyProof.Rows
structure Mod (K:PySem.W.Frag) (mg:Str→Option Value) (base:Heap):Prop where
  kin:K.In base
  glob:base.Ns mainGlobals mg
  blt:∃ mb,base.Ns builtinsNs mb∧∀ x:Str,x≠"__name__"→mb x=bootBuiltins x
  nolimit:base.NoLimit
structure Cx where
  prog:Program
  w:World
  K:PySem.W.Frag
  mg:Str→Option Value
  base:Heap
  A:Around
  N:List Str
  s_0:Shared
  H_0:Hp
  env:Env
  outer:List Env
  stack:List Env
  ex:List Addr
  fn:Str→Bool
  calm:Bool
  pn:List (Addr × Obj)
  xe:Value→Shared→Prop
def frs (l:List Env):List Addr:=l.filterMap (·.frame)
abbrev Cx.fs (X:Cx):List Addr:=frs X.outer
def Vis (sc:Scope) (x:Str):Prop:=sc.names.lookup x=some .local∨sc.names.lookup x=some .cell∨sc.names.lookup x=some .free
def Loc (sc:Scope) (x:Str):Prop:=sc.names.lookup x=some .local∨sc.names.lookup x=some .cell
def Look (env:Env) (h:Heap) (m:Str→Option Value) (x:Str) (u:Value):Prop :=
  (env.kindOf x=some .local∧m x=some u)∨((env.kindOf x=some .cell∨env.kindOf x=some .free)∧∃ c,env.cells.lookup x=some c∧h.IsCell c (some u))
structure Cx.Ok (X:Cx):Prop where
  mod:Mod X.K X.mg X.base
  kind:X.env.scope.kind=.function
  glob:X.env.globals=mainGlobals
  blt:X.env.builtins=builtinsNs
  above:X.s_0.heap.objs.size≤X.env.locals
  inj:∀ x y c,X.env.cells.lookup x=some c→X.env.cells.lookup y=some c→x=y
  has:∀ x,(X.env.kindOf x=some .cell∨X.env.kindOf x=some .free)→∃ c,X.env.cells.lookup x=some c
  cab:∀ x c,X.fn x=true→X.env.cells.lookup x=some c→X.s_0.heap.objs.size≤c
  hd:X.calm=true→X.A.handled=none
  frames:X.A.frames=some X.stack
  stk:X.stack=X.outer∨(X.stack=X.env :: X.outer∧X.env.frame=some X.env.locals)
  exf:∀ b∈X.ex,b≠X.env.locals∧∀ x c,X.env.cells.lookup x=some c→c≠b
  bs:∀ b o,X.base.get? b=some o→X.s_0.heap.get? b=some o∧X.H_0 b=none
  bsz:X.base.objs.size≤X.s_0.heap.objs.size
  noex:∀ b o,X.base.get? b=some o→b ∉ X.ex
  exfs:∀ b∈X.ex,b ∉ X.fs
  funs:X.s_0.heap.FunFrames X.base X.outer
  frf:∀ b∈X.fs,X.H_0 b=none
structure Inv (X:Cx) (pins:List (Addr × Obj)) (σ:List (Option V)) (H:Hp) (s:Shared):Prop where
  ok:X.Ok
  os:s.os=X.s_0.os
  bare:AllBare s.gens
  base:Un X.fs X.ex X.H_0 H X.s_0.heap s.heap
  loc:∃ m,s.heap.Ns X.env.locals m∧∀ (i:Nat) (x:Str) (v:V),X.N[i]?=some x→σ[i]?=some (some v)→Vis X.env.scope x→∃ u,RelV v u∧Look X.env s.heap m x u
  cell:∀ x c,X.env.cells.lookup x=some c→∃ v,s.heap.IsCell c v
  free:H X.env.locals=none
  freeC:∀ x c,X.env.cells.lookup x=some c→H c=none
  pin:∀ p∈X.pn++pins,s.heap.get? p.1=some p.2∧H p.1=none∧p.1≠X.env.locals∧p.1 ∉ X.fs∧∀ v,p.2.data≠.cell v
  hok:HOk X.prog X.w H s.heap
  len:σ.length=X.N.length
section
variable {X:Cx} {pins:List (Addr × Obj)} {σ:List (Option V)} {H H':Hp} {s:Shared} {h':Heap}
theorem Cx.Ok.nofr (ok:X.Ok) {b:Addr} {o:Obj} (e:X.base.get? b=some o):b ∉ X.fs:=fun hb=>by
  have:=(ok.funs.mem hb).1
  rw [e] at this;cases this
theorem Inv.bs (I:Inv X pins σ H s):∀ b o,X.base.get? b=some o→s.heap.get? b=some o∧H b=none:=fun b o e =>
  ⟨I.base.keep b o (I.ok.bs b o e).1 (I.ok.bs b o e).2 (I.ok.nofr e) (I.ok.noex b o e),I.base.free b o (I.ok.bs b o e).1 (I.ok.bs b o e).2 (I.ok.noex b o e)⟩
theorem Inv.bk (I:Inv X pins σ H s):∀ b o,X.base.get? b=some o→s.heap.get? b=some o:=fun b o e=>(I.bs b o e).1
theorem Inv.mod (I:Inv X pins σ H s):Mod X.K X.mg X.base:=I.ok.mod
theorem Inv.kIn (I:Inv X pins σ H s):X.K.In s.heap:=I.ok.mod.kin.keeps I.bk
theorem Inv.fr (I:Inv X pins σ H s):∃ m,Fr X.base X.env.locals s.heap m :=
  let ⟨m,hn,_⟩:=I.loc
  ⟨m,hn,I.bk,Nat.le_trans I.ok.bsz I.ok.above⟩
theorem Inv.lt (I:Inv X pins σ H s):X.env.locals < s.heap.objs.size:=let ⟨_,hn,_⟩:=I.loc;hn.lt
theorem Inv.sz (I:Inv X pins σ H s):X.s_0.heap.objs.size≤s.heap.objs.size:=Nat.le_trans I.ok.above (Nat.le_of_lt I.lt)
theorem Inv.nofs (I:Inv X pins σ H s) {a:Addr} (h:s.heap.objs.size≤a):a ∉ X.fs:=fun hb=>by
  obtain ⟨_,o,ho,_⟩:=I.ok.funs.mem hb
  exact absurd (Nat.lt_of_lt_of_le (Heap.lt_size ho) (Nat.le_trans I.sz h)) (Nat.lt_irrefl _)
theorem Inv.cne (I:Inv X pins σ H s):∀ x c,X.env.cells.lookup x=some c→c≠X.env.locals:=fun x c e z=>by
  obtain ⟨v,o,ho,hd⟩:=I.cell x c e
  obtain ⟨m,⟨o',es,ep,ho',hd',_⟩,_⟩:=I.loc
  rw [z,ho'] at ho;cases ho;rw [hd'] at hd;cases hd
theorem Inv.funs (I:Inv X pins σ H s):s.heap.FunFrames X.base X.outer:=by
  have all:∀ (l:List Env),(∀ b∈frs l,b∈X.fs)→X.s_0.heap.FunFrames X.base l→s.heap.FunFrames X.base l:=by
    intro l
    induction l with
    | nil=>intro _ _;trivial
    | cons env r ih =>
      intro hs hl
      obtain ⟨hk,⟨L,o,hf,hn,ho,hd⟩,hr⟩:=hl
      have hL:L∈X.fs:=hs L (by unfold frs;rw [List.filterMap_cons,hf];exact List.mem_cons_self)
      obtain ⟨sl,e⟩:=I.base.slot L o ho (I.ok.frf L hL) hL fun z=>I.ok.exfs L z hL
      exact ⟨hk,⟨L,_,hf,hn,e,hd⟩,ih (fun b hb=>hs b (by unfold frs;rw [List.filterMap_cons,hf];exact List.mem_cons_of_mem _ hb)) hr⟩
  exact all X.outer (fun _ hb=>hb) I.ok.funs
theorem Inv.stack (I:Inv X pins σ H s):s.heap.FunFrames X.base X.stack:=by
  rcases I.ok.stk with e | ⟨e,hf⟩
  · rw [e];exact I.funs
  · rw [e]
    obtain ⟨m,hn,_⟩:=I.loc
    refine .cons (by rw [I.ok.kind];decide) hf hn ?_ I.funs
    exact Heap.get?_none_of_le (Nat.le_trans I.ok.bsz I.ok.above)
theorem Inv.stkSub (I:Inv X pins σ H s):∀ b∈frs X.stack,b∈X.env.locals :: X.fs:=fun b hb=>by
  rcases I.ok.stk with e | ⟨e,hf⟩
  · rw [e] at hb;exact List.mem_cons_of_mem _ hb
  · rw [e] at hb
    unfold frs at hb
    rw [List.filterMap_cons,hf] at hb
    exact hb
theorem Inv.stkFree (I:Inv X pins σ H s):∀ b∈frs X.stack,H b=none:=fun b hb=>by
  rcases List.mem_cons.mp (I.stkSub b hb) with e | hb
  · rw [e];exact I.free
  · obtain ⟨_,o,ho,_⟩:=I.ok.funs.mem hb
    exact I.base.free b o ho (I.ok.frf b hb) fun z=>I.ok.exfs b z hb
theorem Inv.step {g':Array GenState} {t':Nat} {d':Drawn} {ch:List Addr} (I:Inv X pins σ H s)
    (hch:∀ b∈ch,(b∈X.ex∨X.s_0.heap.objs.size≤b)∧b≠X.env.locals∧(∀ x c,X.env.cells.lookup x=some c→c≠b)∧∀ p∈X.pn++pins,p.1≠b)
    (keep:∀ b o,b≠X.env.locals→b ∉ X.fs→b ∉ ch→s.heap.get? b=some o→H b=none→h'.get? b=some o)
    (slot:∀ b o,b≠X.env.locals→b∈X.fs→b ∉ ch→s.heap.get? b=some o→H b=none→∃ sl,h'.get? b=some { o with slots:=sl }) (free:∀ b o,b ∉ ch→s.heap.get? b=some o→H b=none→H' b=none)
    (there:∀ b o,b ∉ ch→s.heap.get? b=some o→∃ o',h'.get? b=some o')
    (tups:∀ b xs,H b=some (.tup xs)→H' b=some (.tup xs)) (frzs:∀ b o u,H b=some (.frz o u)→H' b=some (.frz o u)) (tbls:∀ b ps,H b=some (.tbl ps)→∃ more,H' b=some (.tbl (ps++more)))
    (ns:∀ m,s.heap.Ns X.env.locals m→h'.Ns X.env.locals m) (hok:HOk X.prog X.w H' h') (hg:AllBare g') :
    Inv X pins σ H' { s with heap:=h',gens:=g',drawn:=d',toks:=t' }:=by
  have neL:∀ b o,X.s_0.heap.get? b=some o→b≠X.env.locals:=fun b o e=>Nat.ne_of_lt (Nat.lt_of_lt_of_le (Heap.lt_size e) I.ok.above)
  have neC:∀ b o,X.s_0.heap.get? b=some o→b ∉ X.ex→b ∉ ch:=fun b o e hx hb=>by
    rcases (hch b hb).1 with z | z
    · exact hx z
    · exact absurd (Nat.lt_of_lt_of_le (Heap.lt_size e) z) (Nat.lt_irrefl _)
  have cellK:∀ x c,X.env.cells.lookup x=some c→∀ v,s.heap.IsCell c v→h'.IsCell c v:=fun x c e v ⟨o,ho,hd⟩=>by
    have nch:c ∉ ch:=fun z=>(hch c z).2.2.1 x c e rfl
    by_cases hc:c∈X.fs
    · obtain ⟨sl,q⟩:=slot c o (I.cne x c e) hc nch ho (I.freeC x c e)
      exact ⟨_,q,hd⟩
    · exact ⟨o,keep c o (I.cne x c e) hc nch ho (I.freeC x c e),hd⟩
  refine ⟨I.ok,I.os,hg,⟨fun b o e n hb hx=>?_,fun b o e n hb hx=>?_,fun b o e n hx=>?_,fun b o e hx=>?_,fun b xs e=>tups b xs (I.base.tups b xs e),fun b o xs e=>frzs b o xs (I.base.frzs b o xs e),fun b ps e=>?_⟩,?_,fun x c e=>?_,?_,fun x c e=>?_,fun p hp=>?_,hok,I.len⟩
  · exact keep b o (neL b o e) hb (neC b o e hx) (I.base.keep b o e n hb hx) (I.base.free b o e n hx)
  · obtain ⟨sl,e1⟩:=I.base.slot b o e n hb hx
    obtain ⟨sl',e2⟩:=slot b _ (neL b o e) hb (neC b o e hx) e1 (I.base.free b o e n hx)
    exact ⟨sl',e2⟩
  · obtain ⟨o',e1⟩:=I.base.there b o e hx
    exact free b o' (neC b o e hx) e1 (I.base.free b o e n hx)
  · obtain ⟨o',e1⟩:=I.base.there b o e hx
    exact there b o' (neC b o e hx) e1
  · obtain ⟨m1,e1⟩:=I.base.tbls b ps e
    obtain ⟨m2,e2⟩:=tbls b _ e1
    exact ⟨m1++m2,by rw [e2,Array.append_assoc]⟩
  · obtain ⟨m,hn,hl⟩:=I.loc
    refine ⟨m,ns m hn,fun i x v e1 e2 e3=>?_⟩
    obtain ⟨u,r,l⟩:=hl i x v e1 e2 e3
    refine ⟨u,r,?_⟩
    rcases l with l | ⟨k,c,e,z⟩
    · exact .inl l
    · exact .inr ⟨k,c,e,cellK x c e _ z⟩
  · obtain ⟨v,z⟩:=I.cell x c e
    exact ⟨v,cellK x c e v z⟩
  · obtain ⟨m,⟨o,_,_,ho,_⟩,_⟩:=I.loc
    exact free _ o (fun z=>(hch _ z).2.1 rfl) ho I.free
  · obtain ⟨v,o,ho,hd⟩:=I.cell x c e
    exact free c o (fun z=>(hch c z).2.2.1 x c e rfl) ho (I.freeC x c e)
  · obtain ⟨e,n,ne,nf,d⟩:=I.pin p hp
    have nch:p.1 ∉ ch:=fun z=>(hch p.1 z).2.2.2 p hp rfl
    exact ⟨keep p.1 p.2 ne nf nch e n,free p.1 p.2 nch e n,ne,nf,d⟩
theorem Inv.un {t':Nat} (I:Inv X pins σ H s) (u:Un X.fs [] H H' s.heap h') (hok:HOk X.prog X.w H' h'):Inv X pins σ H' { s with heap:=h',toks:=t' }:=by
  obtain ⟨m,⟨o,es,ep,ho,r⟩,_⟩:=id I.loc
  obtain ⟨sl,hL⟩:=u.any ho I.free (by simp)
  exact I.step (g':=s.gens) (d':=s.drawn) (ch:=[]) (fun _ z=>nomatch z) (fun b o _ hb _ e n=>u.keep b o e n hb (by simp)) (fun b o _ hb _ e n=>u.slot b o e n hb (by simp)) (fun b o _ e n=>u.free b o e n (by simp)) (fun b o _ e=>u.there b o e (by simp)) u.tups u.frzs u.tbls (fun m' hm=>by
    obtain ⟨o',es',ep',ho',r'⟩:=hm
    rw [ho] at ho';cases ho'
    exact ⟨_,es',ep',hL,r'⟩) hok I.bare
theorem Inv.call {g':Array GenState} {t':Nat} {d':Drawn} {ch:List Addr} (I:Inv X pins σ H s) (u:Un (frs X.stack) ch H H' s.heap h') (hok:HOk X.prog X.w H' h') (hg:AllBare g')
    (hch:∀ b∈ch,(b∈X.ex∨X.s_0.heap.objs.size≤b)∧b≠X.env.locals∧(∀ x c,X.env.cells.lookup x=some c→c≠b)∧∀ p∈X.pn++pins,p.1≠b) :
    Inv X pins σ H' { s with heap:=h',gens:=g',drawn:=d',toks:=t' }:=by
  obtain ⟨m,⟨o,es,ep,ho,r⟩,_⟩:=id I.loc
  obtain ⟨sl,hL⟩:=u.any ho I.free fun z=>(hch _ z).2.1 rfl
  exact I.step (ch:=ch) hch (fun b o hL hb hc e n=>u.keep b o e n (fun z=>(List.mem_cons.mp (I.stkSub b z)).elim hL hb) hc) (fun b o _ _ hc e n=>u.any e n hc) (fun b o hc e n=>u.free b o e n hc) (fun b o hc e=>u.there b o e hc) u.tups u.frzs u.tbls (fun m' hm=>by
    obtain ⟨o',es',ep',ho',r'⟩:=hm
    rw [ho] at ho';cases ho'
    exact ⟨_,es',ep',hL,r'⟩) hok hg
theorem Inv.turned {t':Nat} {it:Addr} (I:Inv X pins σ H s) (k:∀ b o,b≠it→s.heap.get? b=some o→h'.get? b=some o) (hn:H it=none) (hL:it≠X.env.locals)
    (h1:it∈X.ex∨X.s_0.heap.objs.size≤it) (h2:∀ x c,X.env.cells.lookup x=some c→c≠it) (h3:∀ p∈X.pn++pins,p.1≠it):Inv X pins σ H { s with heap:=h',toks:=t' }:=by
  have nit:∀ b u,H b=some u→b≠it:=fun b u e z=>by rw [z,hn] at e;cases e
  refine I.step (g':=s.gens) (d':=s.drawn) (ch:=[it]) (fun b hb=>?_) (fun b o _ _ hc e _=>k b o (fun z=>hc (by simp [z])) e) (fun b o _ _ hc e _=>⟨o.slots,k b o (fun z=>hc (by simp [z])) e⟩) (fun _ _ _ _ n=>n)
    (fun b o hc e=>⟨o,k b o (fun z=>hc (by simp [z])) e⟩) (fun _ _ e=>e) (fun _ _ _ e=>e) (fun b ps e=>⟨#[],by rw [e];simp⟩) (fun m hm=>?_) (fun b u e=>?_) I.bare
  · have e:b=it:=by simpa using hb
    subst e
    exact ⟨h1,hL,h2,h3⟩
  · obtain ⟨o,es,ep,ho,r⟩:=hm
    exact ⟨o,es,ep,k _ o (Ne.symm hL) ho,r⟩
  · refine (I.hok b u e).stay (fun c v hc q=>k c v ?_ q) (fun _ q=>q) fun _ _ q=>q
    rcases hc with z | z
    · rw [z];exact nit b u e
    · exact nit c _ z
theorem Inv.tok (I:Inv X pins σ H s) (t:Nat):Inv X pins σ H { s with toks:=t }:=I.un (h':=s.heap) (t':=t) Un.refl I.hok
theorem Inv.kept {t':Nat} (I:Inv X pins σ H s) (k:∀ b u,s.heap.get? b=some u→h'.get? b=some u):Inv X pins σ H { s with heap:=h',toks:=t' }:=I.un (Un.kept k) (I.hok.kept k)
theorem Inv.laid {a:Addr} {o:HO} {t':Nat} (I:Inv X pins σ H s) (k:∀ b u,s.heap.get? b=some u→h'.get? b=some u) (hp:s.heap.objs.size≤a) (new:ObjOk X.prog X.w (upd H a o) h' a o) :
    Inv X pins σ (upd H a o) { s with heap:=h',toks:=t' }:=I.un (Un.laid k hp (I.hok.fresh hp)) (I.hok.laid k hp new)
theorem Inv.write {x e:Addr} {o:HO} {t':Nat} (I:Inv X pins σ H s) (mu:Mut (H x)) (he:e=x∨H e=some (.own x)) (k:∀ b u,b≠e→s.heap.get? b=some u→h'.get? b=some u) (heo:∃ u,h'.get? e=some u)
    (new:ObjOk X.prog X.w (upd H x o) h' x o):Inv X pins σ (upd H x o) { s with heap:=h',toks:=t' }:=I.un (Un.write mu he k heo) (I.hok.write mu he k heo new)
theorem Inv.weak {σ':List (Option V)} (I:Inv X pins σ H s) (hl:σ'.length=σ.length) (w:∀ (i:Nat) v,σ'[i]?=some (some v)→σ[i]?=some (some v)):Inv X pins σ' H s :=
  ⟨I.ok,I.os,I.bare,I.base,let ⟨m,hn,hl'⟩:=I.loc;⟨m,hn,fun i x v e1 e2 e3=>hl' i x v e1 (w i v e2) e3⟩,I.cell,I.free,I.freeC,I.pin,I.hok,hl.trans I.len⟩
theorem Inv.pins_of {pins':List (Addr × Obj)} (I:Inv X pins σ H s) (h:∀ p∈pins',s.heap.get? p.1=some p.2∧H p.1=none∧p.1≠X.env.locals∧p.1 ∉ X.fs∧∀ v,p.2.data≠.cell v):Inv X pins' σ H s :=
  ⟨I.ok,I.os,I.bare,I.base,I.loc,I.cell,I.free,I.freeC,fun p hp=>(List.mem_append.mp hp).elim (fun z=>I.pin p (List.mem_append_left _ z)) (h p),I.hok,I.len⟩
theorem nodup_ix {N:List Str} (hN:N.Nodup) {i j:Nat} {x:Str} (a:N[i]?=some x) (b:N[j]?=some x):i=j:=by
  obtain ⟨h1,e1⟩:=List.getElem?_eq_some_iff.mp a
  obtain ⟨h2,e2⟩:=List.getElem?_eq_some_iff.mp b
  exact (List.getElem_inj hN).mp (e1.trans e2.symm)
theorem store_ok2 {M:Model} {A:Around} {E:Value→Shared→Prop} {i:Nat} {x:Str} {v:V} {u:Value} {Q:Unit→Shared→Prop} (I:Inv X pins σ H s) (hN:X.N.Nodup) (hi:X.N[i]?=some x) (hx:Loc X.env.scope x) (r:RelV v u)
    (h:∀ s',Inv X pins (σ.set i (some v)) H s'→(∃ a,Heap.SameBut a s.heap s'.heap∧(a=X.env.locals∨X.env.cells.lookup x=some a))→Q () s') (hf:X.fn x=true∨X.env.scope.names.lookup x=some .local:=by first | exact .inl rfl | exact .inr rfl | assumption):wpAny M A (storeName X.env x u) Q E s:=by
  obtain ⟨m,hn,hl⟩:=id I.loc
  have hcls:(X.env.scope.kind == .class || (X.env.scope.kind == .module && X.env.locals != X.env.globals))=false:=by rw [I.ok.kind];rfl
  have hiσ:i < σ.length:=by rw [I.len];exact (List.getElem?_eq_some_iff.mp hi).1
  have cne:=I.cne
  have tracked:∀ {a:Addr} {h':Heap},(∃ o,s.heap.get? a=some o∧H a=none)→Heap.SameBut a s.heap h'→HOk X.prog X.w H h':=fun {a h'} ha hs b ob e=>by
    obtain ⟨_,_,hfree⟩:=ha
    refine (I.hok b ob e).stay (fun c w' hc q=>(hs.2 c ?_).trans q) (fun _ q=>q) fun _ _ q=>q
    rintro rfl
    rcases hc with rfl | hc
    · rw [hfree] at e;cases e
    · rw [hfree] at hc;cases hc
  rcases hx with hk | hk
  · refine wpAny_storeName_local hk hn (fun h' hn' hs=>?_) hcls
    obtain ⟨oL,_,_,hoL,_⟩:=id hn
    refine h _ ⟨I.ok,I.os,I.bare,⟨fun b o e n hb hx=>?_,fun b o e n hb hx=>?_,I.base.free,fun b o e hx=>?_,I.base.tups,I.base.frzs,I.base.tbls⟩,⟨_,hn',fun j y v' e1 e2 e3=>?_⟩,fun y c e=>?_,I.free,I.freeC,fun p hp=>?_,tracked ⟨oL,hoL,I.free⟩ hs,by simpa using I.len⟩ ⟨_,hs,.inl rfl⟩
    · exact (hs.2 b (Nat.ne_of_lt (Nat.lt_of_lt_of_le (Heap.lt_size e) I.ok.above))).trans (I.base.keep b o e n hb hx)
    · obtain ⟨sl,e1⟩:=I.base.slot b o e n hb hx
      exact ⟨sl,(hs.2 b (Nat.ne_of_lt (Nat.lt_of_lt_of_le (Heap.lt_size e) I.ok.above))).trans e1⟩
    · obtain ⟨o',e1⟩:=I.base.there b o e hx
      exact ⟨o',(hs.2 b (Nat.ne_of_lt (Nat.lt_of_lt_of_le (Heap.lt_size e) I.ok.above))).trans e1⟩
    · by_cases hj:j=i
      · subst hj
        rw [hi] at e1;cases e1
        rw [List.getElem?_set_self hiσ] at e2
        cases e2
        exact ⟨u,r,.inl ⟨hk,by simp⟩⟩
      · rw [List.getElem?_set_ne (Ne.symm hj)] at e2
        obtain ⟨u',r',q⟩:=hl j y v' e1 e2 e3
        refine ⟨u',r',?_⟩
        rcases q with ⟨k,e⟩ | ⟨k,c,e,z⟩
        · refine .inl ⟨k,?_⟩
          have:y≠x:=fun e=>hj (nodup_ix hN e1 (e ▸ hi))
          simp [this,e]
        · exact .inr ⟨k,c,e,z.sameBut hs (cne y c e)⟩
    · obtain ⟨w',z⟩:=I.cell y c e
      exact ⟨w',z.sameBut hs (cne y c e)⟩
    · obtain ⟨e,n,ne,nf,d⟩:=I.pin p hp
      exact ⟨(hs.2 p.1 ne).trans e,n,ne,nf,d⟩
  · have hfn:X.fn x=true:=by
      rcases hf with z | z
      · exact z
      · rw [z] at hk;cases hk
    obtain ⟨c,hc⟩:=I.ok.has x (.inl hk)
    obtain ⟨w',z⟩:=I.cell x c hc
    refine wpAny_storeName_cell I.ok.kind hk hc z (fun h' hc' hs=>?_)
    obtain ⟨oc,hoc,hocd⟩:=id z
    refine h { s with heap:=h' } ⟨I.ok,I.os,I.bare,⟨fun b o e n hb hx=>?_,fun b o e n hb hx=>?_,I.base.free,fun b o e hx=>?_,I.base.tups,I.base.frzs,I.base.tbls⟩,⟨m,hn.sameBut hs (Ne.symm (cne x c hc)),fun j y v' e1 e2 e3=>?_⟩,fun y c' e=>?_,I.free,I.freeC,fun p hp=>?_,tracked ⟨oc,hoc,I.freeC x c hc⟩ hs,by simpa using I.len⟩ ⟨c,hs,.inr hc⟩
    · exact (hs.2 b (Nat.ne_of_lt (Nat.lt_of_lt_of_le (Heap.lt_size e) (I.ok.cab x c hfn hc)))).trans (I.base.keep b o e n hb hx)
    · obtain ⟨sl,e1⟩:=I.base.slot b o e n hb hx
      exact ⟨sl,(hs.2 b (Nat.ne_of_lt (Nat.lt_of_lt_of_le (Heap.lt_size e) (I.ok.cab x c hfn hc)))).trans e1⟩
    · obtain ⟨o',e1⟩:=I.base.there b o e hx
      exact ⟨o',(hs.2 b (Nat.ne_of_lt (Nat.lt_of_lt_of_le (Heap.lt_size e) (I.ok.cab x c hfn hc)))).trans e1⟩
    · by_cases hj:j=i
      · subst hj
        rw [hi] at e1;cases e1
        rw [List.getElem?_set_self hiσ] at e2
        cases e2
        exact ⟨u,r,.inr ⟨.inl hk,c,hc,hc'⟩⟩
      · rw [List.getElem?_set_ne (Ne.symm hj)] at e2
        obtain ⟨u',r',q⟩:=hl j y v' e1 e2 e3
        refine ⟨u',r',?_⟩
        rcases q with q | ⟨k,c',e,z'⟩
        · exact .inl q
        · refine .inr ⟨k,c',e,z'.sameBut hs ?_⟩
          rintro rfl
          exact hj (nodup_ix hN e1 (I.ok.inj _ _ _ e hc ▸ hi))
    · by_cases hcc:c'=c
      · subst hcc;exact ⟨_,hc'⟩
      · obtain ⟨w2,z2⟩:=I.cell y c' e
        exact ⟨w2,z2.sameBut hs hcc⟩
    · obtain ⟨e,n,ne,nf,d⟩:=I.pin p hp
      refine ⟨(hs.2 p.1 ?_).trans e,n,ne,nf,d⟩
      intro q
      rw [q,hoc] at e
      have q':oc=p.2:=Option.some.inj e
      exact d w' (by rw [← q'];exact hocd)
theorem store_ok {M:Model} {A:Around} {E:Value→Shared→Prop} {i:Nat} {x:Str} {v:V} {u:Value} {Q:Unit→Shared→Prop} (I:Inv X pins σ H s) (hN:X.N.Nodup) (hi:X.N[i]?=some x) (hx:Loc X.env.scope x) (r:RelV v u)
    (h:∀ s',Inv X pins (σ.set i (some v)) H s'→Q () s') (hf:X.fn x=true∨X.env.scope.names.lookup x=some .local:=by first | exact .inl rfl | exact .inr rfl | assumption):wpAny M A (storeName X.env x u) Q E s :=
  store_ok2 I hN hi hx r (fun s' I' _=>h s' I') hf
theorem Inv.call' {s':Shared} {ch:List Addr} (I:Inv X pins σ H s) (ho:s'.os=s.os) (u:Un (frs X.stack) ch H H' s.heap s'.heap) (hok:HOk X.prog X.w H' s'.heap) (hg:AllBare s'.gens)
    (hch:∀ b∈ch,(b∈X.ex∨X.s_0.heap.objs.size≤b)∧b≠X.env.locals∧(∀ x c,X.env.cells.lookup x=some c→c≠b)∧∀ p∈X.pn++pins,p.1≠b):Inv X pins σ H' s':=by
  obtain ⟨h',g',d',t',o'⟩:=s'
  have e:o'=s.os:=ho
  subst e
  exact I.call (g':=g') (t':=t') (d':=d') u hok hg hch
end
abbrev XK:=Value→Option Addr→Hp→Prop
abbrev St:=List (Option V)
abbrev VK:=V→Hp→Prop
abbrev TE:=St→Hp→VK→Prop
abbrev TT:=St→Hp→(Bool→Hp→Prop)→Prop
abbrev TA:=St→Hp→(List V→Hp→Prop)→Prop
structure Ends where
  nx:St→Hp→Prop
  rt:VK
  bk:St→Hp→Prop:=fun _ _=>False
  ct:St→Hp→Prop:=fun _ _=>False
abbrev TS:=Ends→St→Hp→Prop
def EP (X:Cx) (pins:List (Addr × Obj)) (σ:St) (Q:VK) (u:Value) (s':Shared):Prop:=∃ v H',Inv X pins σ H' s'∧RelV v u∧Q v H'
def TP (X:Cx) (pins:List (Addr × Obj)) (σ:St) (Q:Bool→Hp→Prop) (b:Bool) (s':Shared):Prop:=∃ H',Inv X pins σ H' s'∧Q b H'
def AP (X:Cx) (pins:List (Addr × Obj)) (σ:St) (Q:List V→Hp→Prop) (us:List Value) (s':Shared):Prop:=∃ vs H',Inv X pins σ H' s'∧Vals vs us∧Q vs H'
def SP (X:Cx) (pins:List (Addr × Obj)) (D:Ends) (f:Flow) (s':Shared):Prop :=
  match f with
  | .next=>∃ σ' H',Inv X pins σ' H' s'∧D.nx σ' H'
  | .brk=>∃ σ' H',Inv X pins σ' H' s'∧D.bk σ' H'
  | .cont=>∃ σ' H',Inv X pins σ' H' s'∧D.ct σ' H'
  | .ret u=>∃ v σ' H',Inv X pins σ' H' s'∧RelV v u∧D.rt v H'
def PE (X:Cx) (e:Expr) (t:TE):Prop :=
  ∀ (pins:List (Addr × Obj)) (s:Shared) (σ:St) (H:Hp) (Q:VK),Inv X pins σ H s→t σ H Q→wpAny (model X.prog X.w) X.A (eval e X.env) (EP X pins σ Q) X.xe s
def PT (X:Cx) (e:Expr) (t:TT):Prop :=
  ∀ (pins:List (Addr × Obj)) (s:Shared) (σ:St) (H:Hp) (Q:Bool→Hp→Prop),Inv X pins σ H s→t σ H Q→wpAny (model X.prog X.w) X.A (isTrue e X.env (eval e X.env)) (TP X pins σ Q) X.xe s
def PW (X:Cx) (e:Expr) (t:TT):Prop :=
  ∀ (whole:Sem Value) (pins:List (Addr × Obj)) (s:Shared) (σ:St) (H:Hp) (Q:Bool→Hp→Prop),Inv X pins σ H s→t σ H Q→wpAny (model X.prog X.w) X.A (isTrue e X.env whole) (TP X pins σ Q) X.xe s
theorem PW.pt {X:Cx} {e:Expr} {t:TT} (h:PW X e t):PT X e t:=h _
def PA (X:Cx) (es:List Expr) (t:TA):Prop :=
  ∀ (pos:Pos) (pins:List (Addr × Obj)) (s:Shared) (σ:St) (H:Hp) (Q:List V→Hp→Prop),Inv X pins σ H s→t σ H Q→wpAny (model X.prog X.w) X.A (spliced (backTo pos (starEach es X.env))) (AP X pins σ Q) X.xe s
def PS (X:Cx) (st:Stmt) (t:TS):Prop :=
  ∀ (pins:List (Addr × Obj)) (s:Shared) (σ:St) (H:Hp) (D:Ends),Inv X pins σ H s→t D σ H→wpAny (model X.prog X.w) X.A (exec st X.env) (SP X pins D) X.xe s
def PSs (X:Cx) (st:List Stmt) (t:TS):Prop :=
  ∀ (pins:List (Addr × Obj)) (s:Shared) (σ:St) (H:Hp) (D:Ends),Inv X pins σ H s→t D σ H→wpAny (model X.prog X.w) X.A (execs st X.env) (SP X pins D) X.xe s
theorem thn {α:Type} {t:Sem α} {Q Q':α→Shared→Prop} {M:Model} {A:Around} {E:Value→Shared→Prop} {s:Shared} (h:wpAny M A t Q E s) (hQ:∀ a s,Q a s→Q' a s):wpAny M A t Q' E s:=wpAny_mono h hQ fun _ _ x=>x
end L2
namespace L2
open PySem PySem.Spec PyProof.Rows
section
variable {X:Cx}
def tVar (i:Nat):TE:=fun σ H Q=>∃ v,σ[i]?=some (some v)∧Q v H
def tC (v:V):TE:=fun _ H Q=>Q v H
theorem pe_var {i:Nat} {x:Str} {pos:Pos} (hN:X.N[i]?=some x) (hv:Vis X.env.scope x) (hd:(x == ("__debug__":Str))=false:=by decide) (hcd:(x == ("__classdict__":Str))=false:=by decide):PE X (.Name x pos) (tVar i):=by
  intro pins s σ H Q I h
  obtain ⟨v,e,h⟩:=h
  obtain ⟨m,hn,hl⟩:=I.loc
  obtain ⟨u,r,l⟩:=hl i x v hN e hv
  have fin:EP X pins σ Q u s:=⟨v,H,I,r,h⟩
  rcases l with ⟨hk,hm⟩ | ⟨hk,c,hc,hcell⟩
  · exact wpAny_Name (wpAny_loadName_local I.ok.kind hk hn hm fin) hd
  · rcases hk with hk | hk
    · exact wpAny_Name (wpAny_loadName_cell I.ok.kind hk hc hcell fin) hd
    · exact wpAny_Name (wpAny_loadName_free I.ok.kind hk hc hcell fin hcd) hd
theorem pe_int {i j pos}:PE X (.Constant (.int i) j pos) (tC (.int i)):=fun _ _ _ H _ I h=>wpAny_Constant_int ⟨.int i,H,I.tok _,⟨_,rfl⟩,h⟩
theorem pe_bl {b j pos}:PE X (.Constant (.bool b) j pos) (tC (.bl b)):=fun _ _ _ H _ I h=>Constant_bool ⟨.bl b,H,I,rfl,h⟩
theorem pe_non {j pos}:PE X (.Constant .none j pos) (tC .non):=fun _ _ _ H _ I h=>Constant_none ⟨.non,H,I,rfl,h⟩
def Gl (X:Cx) (x:Str):Prop:=X.env.kindOf x=some .globalImplicit
theorem ld_glob {E:Value→Shared→Prop} {pins:List (Addr × Obj)} {s:Shared} {σ:St} {H:Hp} {x:Str} {u:Value} {pos:Pos} {Q:Value→Shared→Prop} (I:Inv X pins σ H s) (hg:Gl X x) (hm:X.mg x=some u) (h:Q u s)
    (hd:(x == ("__debug__":Str))=false:=by decide):wpAny (model X.prog X.w) X.A (eval (.Name x pos) X.env) Q E s :=
  Calls.Name_function_global I.ok.kind hg (Calls.loadGlobal_global (by rw [I.ok.glob];exact I.mod.glob.keeps I.bk) hm h) hd
theorem ld_blt {E:Value→Shared→Prop} {pins:List (Addr × Obj)} {s:Shared} {σ:St} {H:Hp} {x:Str} {u:Value} {pos:Pos} {Q:Value→Shared→Prop} (I:Inv X pins σ H s) (hg:Gl X x) (hm:X.mg x=none) (hv:bootBuiltins x=some u) (h:Q u s)
    (hn:x≠"__name__":=by decide) (hd:(x == ("__debug__":Str))=false:=by decide):wpAny (model X.prog X.w) X.A (eval (.Name x pos) X.env) Q E s:=by
  obtain ⟨mb,h1,h2⟩:=I.mod.blt
  exact Calls.Name_function_global I.ok.kind hg (Calls.loadGlobal_builtin (by rw [I.ok.glob];exact I.mod.glob.keeps I.bk) hm (by rw [I.ok.blt];exact h1.keeps I.bk) ((h2 x hn).trans hv) h) hd
theorem pe_glob {x:Str} {v:V} {u:Value} {pos:Pos} (hg:Gl X x) (hm:X.mg x=some u) (r:RelV v u) (hd:(x == ("__debug__":Str))=false:=by decide):PE X (.Name x pos) (tC v) :=
  fun _ _ _ H _ I h=>ld_glob I hg hm ⟨v,H,I,r,h⟩ hd
variable {a b:Expr} {ta tb:TE} {pos:Pos}
def PC (X:Cx) (op:CmpOp) (a b:Expr) (t:TE):Prop :=
  ∀ (pins:List (Addr × Obj)) (s:Shared) (σ:St) (H:Hp) (Q:VK),Inv X pins σ H s→t σ H Q →
    wpAny (model X.prog X.w) X.A (eval a X.env) (fun v s₁=>wpAny (model X.prog X.w) X.A (eval b X.env) (fun u s₂=>wpAny (model X.prog X.w) X.A (compareOp op v u) (EP X pins σ Q) X.xe s₂) X.xe s₁) X.xe s
def tB (t:TE):TT:=fun σ H Q=>t σ H fun x H1=>∃ c,x=.bl c∧Q c H1
theorem pt_cmp {op:CmpOp} {t:TE} (h:PC X op a b t) (h1:behindInMarks op b=false:=by first | exact nobehind _ (by decide) (by decide) | rfl):PT X (.Compare a [op] [b] pos) (tB t):=by
  intro pins s σ H Q I hw
  refine wpAny_isTrue_Compare1 (thn (h pins s σ H _ I hw) fun v s1 h1=>thn h1 fun u s2 h2=>thn h2 fun c s3 ⟨x,H1,I1,r1,q1⟩=>?_) h1
  obtain ⟨d,rfl,q⟩:=q1
  cases r1
  exact wpAny_truthy_bool ⟨H1,I1,q⟩
theorem pt_val {e:Expr} {t:TE} (h:PE X e t) (he:∀ whole,isTrue e X.env whole=(do let v ← whole;standAt e.pos;holding [v] (truthy v)):=by intro _;rfl):PT X e (tB t):=by
  intro pins s σ H Q I hw
  refine isTrue_plain (thn (h pins s σ H _ I hw) fun v s1 ⟨x,H1,I1,r1,q1⟩=>?_) (he _)
  obtain ⟨d,rfl,q⟩:=q1
  cases r1
  exact wpAny_truthy_bool ⟨H1,I1,q⟩
variable {tA tB':TT} {rest:List Expr}
def tAnd (t u:TT):TT:=fun σ H Q=>t σ H fun c H1=>if c=true then u σ H1 Q else Q false H1
def tOr (t u:TT):TT:=fun σ H Q=>t σ H fun c H1=>if c=true then Q true H1 else u σ H1 Q
def tNot (t:TT):TT:=fun σ H Q=>t σ H fun c H1=>Q (!c) H1
theorem pw_and1 (ha:PT X a tA):PW X (.BoolOp .And [a] pos) tA:=by
  intro wh pins s σ H Q I h
  refine isTrue_and (thn (ha pins s σ H Q I h) fun c s1 e=>?_)
  cases c with
  | true=>exact isTrue_and_nil e
  | false=>exact e
theorem pw_or1 (ha:PT X a tA):PW X (.BoolOp .Or [a] pos) tA:=by
  intro wh pins s σ H Q I h
  refine isTrue_or (thn (ha pins s σ H Q I h) fun c s1 e=>?_)
  cases c with
  | false=>exact isTrue_or_nil e
  | true=>exact e
theorem pw_and (ha:PT X a tA) (hb:PW X (.BoolOp .And (b :: rest) pos) tB'):PW X (.BoolOp .And (a :: b :: rest) pos) (tAnd tA tB'):=by
  intro wh pins s σ H Q I h
  refine isTrue_and (thn (ha pins s σ H _ I h) fun c s1 ⟨H1,I1,q1⟩=>?_)
  cases c with
  | true=>exact hb wh pins s1 σ H1 Q I1 q1
  | false=>exact ⟨H1,I1,q1⟩
theorem pw_or (ha:PT X a tA) (hb:PW X (.BoolOp .Or (b :: rest) pos) tB'):PW X (.BoolOp .Or (a :: b :: rest) pos) (tOr tA tB'):=by
  intro wh pins s σ H Q I h
  refine isTrue_or (thn (ha pins s σ H _ I h) fun c s1 ⟨H1,I1,q1⟩=>?_)
  cases c with
  | true=>exact ⟨H1,I1,q1⟩
  | false=>exact hb wh pins s1 σ H1 Q I1 q1
theorem pt_not (ha:PT X a tA):PT X (.UnaryOp .Not a pos) (tNot tA):=by
  intro pins s σ H Q I h
  exact isTrue_not (ha pins s σ H (fun c H1=>Q (!c) H1) I h)
def tAndV (ta tb:TE):TE:=fun σ H Q=>ta σ H fun x H1=>∃ c,x=.bl c∧if c=true then tb σ H1 Q else Q (.bl false) H1
def tOrV (ta tb:TE):TE:=fun σ H Q=>ta σ H fun x H1=>∃ c,x=.bl c∧if c=true then Q (.bl true) H1 else tb σ H1 Q
def tNotV (ta:TE):TE:=fun σ H Q=>ta σ H fun x H1=>∃ c,x=.bl c∧Q (.bl (!c)) H1
theorem pe_one {op} {t:TE} (h:PE X a t):PE X (.BoolOp op [a] pos) t:=fun pins s σ H Q I hw=>BoolOp_one (h pins s σ H Q I hw)
theorem pe_and (ha:PE X a ta) (hb:PE X (.BoolOp .And (b :: rest) pos) tb):PE X (.BoolOp .And (a :: b :: rest) pos) (tAndV ta tb):=by
  intro pins s σ H Q I h
  refine BoolOp_and (thn (ha pins s σ H _ I h) fun v s1 ⟨x,H1,I1,r1,q1⟩=>?_)
  obtain ⟨c,rfl,q1⟩:=q1
  cases r1
  refine wpAny_truthy_bool ?_
  cases c with
  | true=>exact hb pins s1 σ H1 Q I1 q1
  | false=>exact ⟨.bl false,H1,I1,rfl,q1⟩
theorem pe_or (ha:PE X a ta) (hb:PE X (.BoolOp .Or (b :: rest) pos) tb):PE X (.BoolOp .Or (a :: b :: rest) pos) (tOrV ta tb):=by
  intro pins s σ H Q I h
  refine BoolOp_or (thn (ha pins s σ H _ I h) fun v s1 ⟨x,H1,I1,r1,q1⟩=>?_)
  obtain ⟨c,rfl,q1⟩:=q1
  cases r1
  refine wpAny_truthy_bool ?_
  cases c with
  | false=>exact hb pins s1 σ H1 Q I1 q1
  | true=>exact ⟨.bl true,H1,I1,rfl,q1⟩
theorem pe_not (ha:PE X a ta):PE X (.UnaryOp .Not a pos) (tNotV ta):=by
  intro pins s σ H Q I h
  refine UnaryOp_ (thn (ha pins s σ H _ I h) fun v s1 ⟨x,H1,I1,r1,q1⟩=>?_)
  obtain ⟨c,rfl,q1⟩:=q1
  cases r1
  exact not_of (wpAny_truthy_bool ⟨.bl (!c),H1,I1,rfl,q1⟩)
end
end L2
namespace L2
open PySem PySem.Spec PyProof.Rows
def SqL (K:PySem.W.Frag) (H:Hp) (a:Addr) (xs:List V):Prop :=
  Rd H a (.lst xs) ∨
    ∃ (o:Obj) (its:Array Value) (n:Nat),K.lookup a=some o∧o.cls=.type "list"∧o.dict=none∧o.data=.seq its n∧its.size≤sizeLine∧Vals xs its.toList
def SqT (K:PySem.W.Frag) (H:Hp) (a:Addr) (xs:List V):Prop :=
  Rd H a (.tup xs) ∨
    ∃ (o:Obj) (its:Array Value) (n:Nat),K.lookup a=some o∧o.cls=.type "tuple"∧o.data=.seq its n∧its.size≤sizeLine∧Vals xs its.toList
def absV:Value→Option V
  | .none=>some .non
  | .bool b=>some (.bl b)
  | .int i _=>some (.int i)
  | .str x _=>some (.str x)
  | .bytes b _=>some (.byt b)
  | .float b _=>some (.flt b)
  | .ref a=>some (.ref a)
  | .type n=>some (.ty n)
  | _=>none
theorem RelV.abs {x:V} {u:Value} (r:RelV x u):absV u=some x:=by
  cases x with
  | non=>cases r;rfl
  | bl _=>cases r;rfl
  | int _=>obtain ⟨t,rfl⟩:=r;rfl
  | str _=>obtain ⟨t,rfl⟩:=r;rfl
  | byt _=>obtain ⟨t,rfl⟩:=r;rfl
  | flt _=>obtain ⟨t,rfl⟩:=r;rfl
  | ref _=>cases r;rfl
  | ty _=>cases r;rfl
theorem RelV.inj {x y:V} {u:Value} (r:RelV x u) (q:RelV y u):x=y:=Option.some.inj (r.abs.symm.trans q.abs)
theorem Vals.inj:∀ {xs ys:List V} {us:List Value},Vals xs us→Vals ys us→xs=ys
  | _,_,_,.nil,.nil=>rfl
  | _,_,_,.cons r t,.cons r' t'=>by rw [r.inj r',Vals.inj t t']
section
variable {X:Cx} {pins:List (Addr × Obj)} {σ:St} {H:Hp} {s:Shared} {a:Addr} {xs ys:List V}
theorem SqL.of {K:PySem.W.Frag} (h:H a=some (.lst xs)):SqL K H a xs:=.inl (.inl h)
theorem SqT.of {K:PySem.W.Frag} (h:H a=some (.tup xs)):SqT K H a xs:=.inl (.inl h)
theorem Inv.list (I:Inv X pins σ H s) (h:SqL X.K H a xs):∃ its:List Value,Vals xs its∧PlainL s.heap a its.toArray∧xs.length≤sizeLine:=by
  rcases h with h | ⟨o,its,n,hk,hc,hd,hs,hz,r⟩
  · obtain ⟨z,its,n,r,e⟩:=h.ok I.hok
    exact ⟨its,r,⟨_,n,e,rfl,rfl,rfl⟩,z⟩
  · refine ⟨its.toList,r,⟨o,n,I.kIn a o hk,hc,hd,by simpa using hs⟩,?_⟩
    have e:=r.length
    simp only [Array.length_toList] at e
    omega
theorem Inv.tuple (I:Inv X pins σ H s) (h:SqT X.K H a xs):∃ its:List Value,Vals xs its∧IsTup s.heap a its.toArray∧xs.length≤sizeLine:=by
  rcases h with h | ⟨o,its,n,hk,hc,hs,hz,r⟩
  · obtain ⟨z,its,r,p⟩:=h.ok I.hok
    exact ⟨its,r,p,z⟩
  · refine ⟨its.toList,r,⟨o,I.kIn a o hk,hc,n,by simpa using hs⟩,?_⟩
    have e:=r.length
    simp only [Array.length_toList] at e
    omega
theorem Inv.list_inj (I:Inv X pins σ H s) (h:SqL X.K H a xs) (h':SqL X.K H a ys):xs=ys:=by
  obtain ⟨its,r,⟨o,n,e,_,_,d⟩,_⟩:=I.list h
  obtain ⟨its',r',⟨o',n',e',_,_,d'⟩,_⟩:=I.list h'
  rw [e] at e';cases e'
  rw [d] at d'
  injection d' with d1 _
  have:its=its':=by simpa using congrArg Array.toList d1
  subst this
  exact r.inj r'
theorem Inv.tuple_inj (I:Inv X pins σ H s) (h:SqT X.K H a xs) (h':SqT X.K H a ys):xs=ys:=by
  obtain ⟨its,r,⟨o,e,_,n,d⟩,_⟩:=I.tuple h
  obtain ⟨its',r',⟨o',e',_,n',d'⟩,_⟩:=I.tuple h'
  rw [e] at e';cases e'
  rw [d] at d'
  injection d' with d1 _
  have:its=its':=by simpa using congrArg Array.toList d1
  subst this
  exact r.inj r'
end
abbrev Cx.wish (X:Cx) (E:Value→Shared→Prop):Cx:={ X with xe:=E }
abbrev Cx.nox (X:Cx):Cx:=X.wish fun _ _=>False
theorem Cx.Ok.wish {X:Cx} (ok:X.Ok) (E:Value→Shared→Prop):(X.wish E).Ok :=
  ⟨ok.mod,ok.kind,ok.glob,ok.blt,ok.above,ok.inj,ok.has,ok.cab,ok.hd,ok.frames,ok.stk,ok.exf,ok.bs,ok.bsz,ok.noex,ok.exfs,ok.funs,ok.frf⟩
theorem Cx.Ok.unwish {X:Cx} {E:Value→Shared→Prop} (ok:(X.wish E).Ok):X.Ok :=
  ⟨ok.mod,ok.kind,ok.glob,ok.blt,ok.above,ok.inj,ok.has,ok.cab,ok.hd,ok.frames,ok.stk,ok.exf,ok.bs,ok.bsz,ok.noex,ok.exfs,ok.funs,ok.frf⟩
section
variable {X:Cx} {pins:List (Addr × Obj)} {σ:St} {H:Hp} {s:Shared} {E:Value→Shared→Prop}
theorem Inv.wish (I:Inv X pins σ H s) (E:Value→Shared→Prop):Inv (X.wish E) pins σ H s:=⟨I.ok.wish E,I.os,I.bare,I.base,I.loc,I.cell,I.free,I.freeC,I.pin,I.hok,I.len⟩
theorem Inv.unwish (I:Inv (X.wish E) pins σ H s):Inv X pins σ H s:=⟨I.ok.unwish,I.os,I.bare,I.base,I.loc,I.cell,I.free,I.freeC,I.pin,I.hok,I.len⟩
theorem SP.unwish {D:Ends} {f:Flow} {s':Shared} (h:SP (X.wish E) pins D f s'):SP X pins D f s':=by
  cases f with
  | next=>obtain ⟨σ',H',I,q⟩:=h;exact ⟨σ',H',I.unwish,q⟩
  | brk=>obtain ⟨σ',H',I,q⟩:=h;exact ⟨σ',H',I.unwish,q⟩
  | cont=>obtain ⟨σ',H',I,q⟩:=h;exact ⟨σ',H',I.unwish,q⟩
  | ret u=>obtain ⟨v,σ',H',I,r,q⟩:=h;exact ⟨v,σ',H',I.unwish,r,q⟩
theorem PSs.nox {st:List Stmt} {t:TS} (h:PSs X.nox st t):PSs X st t:=fun pins s σ H D I hw =>
  wpAny_mono (h pins s σ H D (I.wish _) hw) (fun _ _ q=>q.unwish) fun _ _ z=>False.elim z
end
section
variable {X:Cx} {st:Stmt} {rest:List Stmt} {t u:TS} {e:Expr} {te:TE} {pos:Pos}
def tNext:TS:=fun D σ H=>D.nx σ H
def tSeq (t u:TS):TS:=fun D σ H=>t { D with nx:=u D } σ H
theorem pss_nil:PSs X [] tNext:=fun _ _ σ H _ I h=>wpAny_execs_nil ⟨σ,H,I,h⟩
theorem pss_cons (h1:PS X st t) (h2:PSs X rest u):PSs X (st :: rest) (tSeq t u):=by
  intro pins s σ H D I h
  refine wpAny_execs_cons (thn (h1 pins s σ H { D with nx:=u D } I h) fun f s1 q=>?_)
  cases f with
  | next =>
    obtain ⟨σ',H',I',q⟩:=q
    exact h2 pins s1 σ' H' D I' q
  | ret v=>exact q
  | brk=>exact q
  | cont=>exact q
theorem pss_one (h1:PS X st t):PSs X [st] t:=by
  intro pins s σ H D I h
  refine wpAny_execs_cons (thn (h1 pins s σ H D I h) fun f s1 q=>?_)
  cases f with
  | next=>exact wpAny_execs_nil q
  | ret v=>exact q
  | brk=>exact q
  | cont=>exact q
def tCont:TS:=fun D σ H=>D.ct σ H
theorem ps_continue:PS X (.Continue pos) tCont:=fun _ _ σ H _ I h=>wpAny_Continue ⟨σ,H,I,h⟩
theorem Inv.quiet {pins:List (Addr × Obj)} {σ:St} {H:Hp} {s:Shared} (I:Inv X pins σ H s):interactive X.env=false:=by simp [interactive,I.ok.kind]
def tDrop (te:TE):TS:=fun D σ H=>te σ H fun _ H1=>D.nx σ H1
theorem ps_expr (he:PE X e te) (hs:swapsWith e none pos.line X.env=pure false:=by rfl):PS X (.Expr e pos) (tDrop te):=by
  intro pins s σ H D I h
  exact wpAny_Expr_any (thn (he pins s σ H _ I h) fun v s1 ⟨x,H1,I1,r1,q1⟩=>⟨σ,H1,I1,q1⟩) I.quiet hs
def tRet (te:TE):TS:=fun D σ H=>te σ H D.rt
theorem ps_ret (he:PE X e te):PS X (.Return (some e) pos) (tRet te):=by
  intro pins s σ H D I h
  exact wpAny_Return_some (thn (he pins s σ H _ I h) fun v s1 ⟨x,H1,I1,r1,q1⟩=>⟨x,σ,H1,I1,r1,q1⟩)
def tIfS (c:TT) (t u:TS):TS:=fun D σ H=>c σ H fun b H1=>if b=true then t D σ H1 else u D σ H1
theorem ps_if {c:Expr} {a b:List Stmt} {tc:TT} (hc:PT X c tc) (ha:PSs X a t) (hb:PSs X b u):PS X (.If c a b pos) (tIfS tc t u):=by
  intro pins s σ H D I h
  refine wpAny_If (thn (hc pins s σ H _ I h) fun d s1 ⟨H1,I1,q1⟩=>?_)
  cases d with
  | true=>exact ha pins s1 σ H1 D I1 q1
  | false=>exact hb pins s1 σ H1 D I1 q1
end
abbrev TG:=V→St→Hp→(St→Hp→Prop)→Prop
abbrev TGs:=List V→St→Hp→(St→Hp→Prop)→Prop
def PG (X:Cx) (target:Expr) (t:TG):Prop :=
  ∀ (pins:List (Addr × Obj)) (s:Shared) (σ:St) (H:Hp) (v:V) (u:Value) (Q:St→Hp→Prop),Inv X pins σ H s→RelV v u→t v σ H Q →
    wpAny (model X.prog X.w) X.A (assign target X.env u) (fun _ s'=>∃ σ' H',Inv X pins σ' H' s'∧Q σ' H') X.xe s
def PGs (X:Cx) (ts:List Expr) (t:TGs):Prop :=
  ∀ (pins:List (Addr × Obj)) (s:Shared) (σ:St) (H:Hp) (vs:List V) (us:List Value) (Q:St→Hp→Prop),Inv X pins σ H s→Vals vs us→t vs σ H Q →
    wpAny (model X.prog X.w) X.A (assignInOrder ((assignEach ts X.env).map (·.2)) us) (fun _ s'=>∃ σ' H',Inv X pins σ' H' s'∧Q σ' H') X.xe s
abbrev TSet:=V→V→V→Hp→(Hp→Prop)→Prop
def PSet (X:Cx) (t:TSet):Prop :=
  ∀ (pins:List (Addr × Obj)) (s:Shared) (σ:St) (H:Hp) (o i v:V) (ov iv u:Value) (Q:Hp→Prop),Inv X pins σ H s→RelV o ov→RelV i iv→RelV v u→t o i v H Q →
    wpAny (model X.prog X.w) X.A (setItem ov iv u) (fun _ s'=>∃ H',Inv X pins σ H' s'∧Q H') X.xe s
section
variable {X:Cx} {pos:Pos}
def gName (i:Nat):TG:=fun v σ H Q=>Q (σ.set i (some v)) H
theorem pg_name {i:Nat} {x:Str} (hN:X.N.Nodup) (hi:X.N[i]?=some x) (hx:Loc X.env.scope x) (hf:X.fn x=true∨X.env.scope.names.lookup x=some .local:=by first | exact .inl rfl | exact .inr rfl | assumption):PG X (.Name x pos) (gName i):=by
  intro pins s σ H v u Q I r h
  exact wpAny_assign_Name (store_ok I hN hi hx r (fun s' I'=>⟨_,H,I',h⟩) hf)
def gNil:TGs:=fun vs σ H Q=>vs=[]∧Q σ H
def gCons (t:TG) (u:TGs):TGs:=fun vs σ H Q=>∃ v r,vs=v :: r∧t v σ H fun σ' H'=>u r σ' H' Q
theorem pgs_nil:PGs X [] gNil:=by
  intro pins s σ H vs us Q I r h
  obtain ⟨e,h⟩:=h
  subst e
  cases r
  exact assignInOrder_nil ⟨σ,H,I,h⟩
theorem pgs_cons {e:Expr} {es:List Expr} {t:TG} {u:TGs} (h1:PG X e t) (h2:PGs X es u)
    (hs:(assignEach (e :: es) X.env).map (·.2)=assign e X.env :: (assignEach es X.env).map (·.2):=by rfl):PGs X (e :: es) (gCons t u):=by
  intro pins s σ H vs us Q I r h
  obtain ⟨v,vr,e1,h⟩:=h
  subst e1
  cases r with
  | cons r rr =>
    rw [hs]
    refine assignInOrder_cons (thn (h1 pins s σ H _ _ _ I r h) fun _ s1 ⟨σ1,H1,I1,q1⟩=>?_)
    exact h2 pins s1 σ1 H1 _ _ Q I1 rr q1
def gTup (K:PySem.W.Frag) (n:Nat) (t:TGs):TG:=fun v σ H Q=>∃ a xs,v=.ref a∧SqT K H a xs∧xs.length=n∧t xs σ H Q
theorem pg_tup {es:List Expr} {k:Nat} {t:TGs} {n:Nat} (hc:X.calm=true) (h:PGs X es t)
    (hn:(assignEach es X.env).length=n:=by rfl) (hst:(assignEach es X.env).findIdx? (·.1)=none:=by rfl):PG X (.Tuple es k pos) (gTup X.K n t):=by
  intro pins s σ H v u Q I r hw
  obtain ⟨a,xs,e1,hq,hl,hw⟩:=hw
  subst e1
  cases r
  obtain ⟨its,rv,ht,hz⟩:=I.tuple hq
  refine assign_Tuple_tuple (I.ok.hd hc) ht (by simp [hn,← hl,rv.length]) hst fun h' hx=>?_
  have I1:Inv X pins σ H { s with heap:=h' }:=I.kept (t':=s.toks) fun b o e=>hx b o (Nat.ne_of_lt (Heap.lt_size e)) e
  exact h pins _ σ H xs _ Q I1 (by simpa using rv) hw
def gSub (to ti:TE) (t:TSet):TG:=fun v σ H Q=>to σ H fun o H1=>ti σ H1 fun i H2=>t o i v H2 fun H3=>Q σ H3
theorem pg_sub {o i:Expr} {to ti:TE} {t:TSet} (ho:PE X o to) (hi:PE X i ti) (hs:PSet X t)
    (ha:∀ v,assign (.Subscript o i pos) X.env v=(do
      let ov ← holding [v] (eval o X.env)
      let iv ← holding [v,ov] (eval i X.env)
      standAt pos
      holding [v,ov,iv] (setItem ov iv v)
      release [v,ov,iv] []):=by intro _;rfl):PG X (.Subscript o i pos) (gSub to ti t):=by
  intro pins s σ H v u Q I r h
  rw [ha]
  refine wpAny_bind (wpAny_holding (thn (ho pins s σ H _ I h) fun ov s1 ⟨x,H1,I1,r1,q1⟩=>?_))
  refine wpAny_bind (wpAny_holding (thn (hi pins s1 σ H1 _ I1 q1) fun iv s2 ⟨y,H2,I2,r2,q2⟩=>?_))
  refine wpAny_bind (wpAny_standAt (wpAny_bind (wpAny_holding (thn (hs pins s2 σ H2 x y v ov iv u _ I2 r1 r2 r q2) fun _ s3 ⟨H3,I3,q3⟩=>?_))))
  exact wpAny_release ⟨σ,H3,I3,q3⟩
def tAsg (te:TE) (g:TG):TS:=fun D σ H=>te σ H fun x H1=>g x σ H1 D.nx
theorem ps_asg {tg e:Expr} {te:TE} {g:TG} (he:PE X e te) (hg:PG X tg g) (hs:swapsWithSole [tg] e pos.line X.env=pure false:=by rfl) (hw:swappedStores [tg] e X.env=pure none:=by rfl)
    (h1:(assignEach [tg] X.env).map (·.2)=[assign tg X.env]:=by rfl):PS X (.Assign [tg] e pos) (tAsg te g):=by
  intro pins s σ H D I h
  refine wpAny_Assign_stores (thn (he pins s σ H _ I h) fun v s1 ⟨x,H1,I1,r1,q1⟩=>?_) hs hw
  rw [h1]
  exact thn (hg pins s1 σ H1 x v _ I1 r1 q1) fun _ s2 q=>q
theorem ps_set {i:Nat} {x:Str} {e:Expr} {te:TE} {pos':Pos} (hN:X.N.Nodup) (hi:X.N[i]?=some x) (hx:Loc X.env.scope x) (he:PE X e te) (hs:swapsWith e (some (.Name x pos')) pos.line X.env=pure false:=by rfl) (hf:X.fn x=true∨X.env.scope.names.lookup x=some .local:=by first | exact .inl rfl | exact .inr rfl | assumption) :
    PS X (.Assign [.Name x pos'] e pos) (tAsg te (gName i)):=by
  intro pins s σ H D I h
  refine wpAny_Assign_Name (thn (he pins s σ H _ I h) fun v s1 ⟨y,H1,I1,r1,q1⟩=>?_) hs
  exact store_ok I1 hN hi hx r1 (fun s2 I2=>⟨_,H1,I2,q1⟩) hf
end
section
variable {X:Cx} {pos:Pos}
def tWhile (c:TT) (tb:TS):TS:=fun D σ H=>∃ W:Nat→St→Hp→Prop,(∃ m,W m σ H)∧∀ m σ H,W m σ H →
  c σ H fun b H1=>if b=true then ∃ N:St→Hp→Prop,(∀ σ' H',N σ' H'→∃ m',m' < m∧W m' σ' H')∧tb { D with nx:=N,ct:=N,bk:=D.nx } σ H1 else D.nx σ H1
theorem ps_while {c:Expr} {body:List Stmt} {tc:TT} {tb:TS} (hp:PassesOwn (model X.prog X.w) X.A X.env X.xe) (hc:PT X c tc) (hb:PSs X body tb):PS X (.While c body [] pos) (tWhile tc tb):=by
  intro pins s σ H D I h
  obtain ⟨W,⟨m0,w0⟩,turn⟩:=h
  refine wpAny_While (codeAny_whileLoop (fun n s'=>∃ σ' H',Inv X pins σ' H' s'∧W n σ' H') ?_ m0 ⟨σ,H,I,w0⟩)
  rintro n s1 ⟨σ1,H1,I1,w1⟩
  refine wpAny_passesOwn hp (thn (hc pins s1 σ1 H1 _ I1 (turn n σ1 H1 w1)) fun b s2 ⟨H2,I2,q2⟩=>?_)
  cases b with
  | true =>
    obtain ⟨N,hN,q2⟩:=q2
    rw [if_pos rfl]
    refine wpAny_passesOwn hp (thn (hb pins s2 σ1 H2 _ I2 q2) fun f s3 q3=>?_)
    cases f with
    | next =>
      obtain ⟨σ3,H3,I3,n3⟩:=q3
      obtain ⟨m',hm,w3⟩:=hN σ3 H3 n3
      exact ⟨m',hm,σ3,H3,I3,w3⟩
    | cont =>
      obtain ⟨σ3,H3,I3,n3⟩:=q3
      obtain ⟨m',hm,w3⟩:=hN σ3 H3 n3
      exact ⟨m',hm,σ3,H3,I3,w3⟩
    | brk=>exact q3
    | ret v=>exact q3
  | false =>
    rw [if_neg Bool.false_ne_true]
    exact wpAny_execs_nil ⟨σ1,H2,I2,q2⟩
end
structure It where
  go:Nat→Hp→Prop
  yld:Nat→Hp→V→Hp→Prop
  stop:Nat→Hp→Prop
def FpOk (X:Cx) (pins:List (Addr × Obj)) (H:Hp) (b:Addr):Prop :=
  H b=none∧b≠X.env.locals∧b ∉ X.fs∧(b∈X.ex∨X.s_0.heap.objs.size≤b)∧(∀ x c,X.env.cells.lookup x=some c→c≠b)∧∀ p∈X.pn++pins,p.1≠b
theorem Inv.fpOk {X:Cx} {pins:List (Addr × Obj)} {σ:St} {H H':Hp} {s:Shared} {b:Addr} (I:Inv X pins σ H s) (hb:s.heap.objs.size≤b) (hn:H' b=none):FpOk X pins H' b:=by
  refine ⟨hn,Nat.ne_of_gt (Nat.lt_of_lt_of_le I.lt hb),I.nofs hb,.inr (Nat.le_trans I.sz hb),fun x c e z=>?_,fun p hp z=>?_⟩
  · obtain ⟨v,q⟩:=I.cell x c e
    exact absurd (Nat.lt_of_lt_of_le q.lt (by rw [z];exact hb)) (Nat.lt_irrefl _)
  · exact absurd (Nat.lt_of_lt_of_le (Heap.lt_size (I.pin p hp).1) (by rw [z];exact hb)) (Nat.lt_irrefl _)
structure Turn (P:Program) (w:World) (K:PySem.W.Frag) (tg:Expr) (J:It) (fp:List Addr) (it:Addr) (tn:Nat→Heap→Prop):Prop where
  mem:it∈fp
  obj:∀ i h,tn i h→∀ b∈fp,∃ o,h.get? b=some o∧∀ v,o.data≠.cell v
  keep:∀ i h h',tn i h→(∀ b∈fp,∀ o,h.get? b=some o→h'.get? b=some o)→tn i h'
  item:∀ (X:Cx),X.prog=P→X.w=w→X.K=K→X.calm=true→∀ (i:Nat) (pins:List (Addr × Obj)) (s:Shared) (σ:St) (H:Hp) (E:Value→Shared→Prop),Inv X pins σ H s→(∀ b∈fp,FpOk X pins H b)→tn i s.heap→J.go i H →
    wpAny (model P w) X.A (pyNext (.ref it)) (fun r s1=>∃ u,r=some u ∧
      wpAny (model P w) X.A (letOwnedTupleGo tg (.ref it) u) (fun _ s2=>∃ x H',Inv X pins σ H' s2∧RelV x u∧J.yld i H x H'∧tn (i + 1) s2.heap∧∀ b∈fp,H' b=none) E s1) E s
  done:∀ (X:Cx),X.prog=P→X.w=w→X.K=K→X.calm=true→∀ (i:Nat) (pins:List (Addr × Obj)) (s:Shared) (σ:St) (H:Hp) (E:Value→Shared→Prop),Inv X pins σ H s→(∀ b∈fp,FpOk X pins H b)→tn i s.heap→J.stop i H →
    wpAny (model P w) X.A (pyNext (.ref it)) (fun r s1=>r=none∧Inv X pins σ H s1) E s
  self:∀ (A:Around) (i:Nat) (s:Shared) (Q:Value→Shared→Prop) (E:Value→Shared→Prop),tn i s.heap→Q (.ref it) s→wpAny (model P w) A (pyIter (.ref it)) Q E s
abbrev TI:=St→Hp→(It→Hp→Prop)→Prop
def PIE (X:Cx) (pins:List (Addr × Obj)) (σ:St) (tg:Expr) (R:It→Hp→Prop) (itv:Value) (s2:Shared):Prop :=
  ∃ (it:Addr) (fp:List Addr) (tn:Nat→Heap→Prop) (J:It) (H':Hp),itv=.ref it∧Inv X pins σ H' s2∧Turn X.prog X.w X.K tg J fp it tn∧tn 0 s2.heap∧(∀ b∈fp,FpOk X pins H' b)∧R J H'
def PI (X:Cx) (tg iter:Expr) (wi:TI):Prop :=
  ∀ (pins:List (Addr × Obj)) (s:Shared) (σ:St) (H:Hp) (R:It→Hp→Prop),Inv X pins σ H s→wi σ H R →
    wpAny (model X.prog X.w) X.A (eval iter X.env) (fun v s1=>wpAny (model X.prog X.w) X.A (pyIter v) (PIE X pins σ tg R) X.xe s1) X.xe s
theorem go_of {M:Model} {A:Around} {E:Value→Shared→Prop} {s:Shared} {tg:Expr} {it:Addr} {u:Value} {o:Obj} {n:String} {vs:Array Value} {Q:Unit→Shared→Prop} (ho:s.heap.get? it=some o) (hc:o.cls=.type n) (hd:o.data=.fields vs)
    (hn:["enumerate","zip","dict_itemiterator","dict_reverseitemiterator","odict_iterator","itertools.zip_longest","itertools.pairwise"].contains n=false) (hQ:Q () s):wpAny M A (letOwnedTupleGo tg (.ref it) u) Q E s:=by
  unfold letOwnedTupleGo
  cases tg <;> first
    | exact wpAny_pure hQ
    | (cases u <;> first
        | exact wpAny_pure hQ
        | (refine wpAny_bind (wpAny_load ho ?_)
           rw [hc,hd]
           show wpAny M A (if (["enumerate","zip","dict_itemiterator","dict_reverseitemiterator","odict_iterator","itertools.zip_longest","itertools.pairwise"].contains n && vs[0]? == some (rawInt _))=true then _ else _) Q E s
           rw [if_neg (by intro h;rw [hn,Bool.false_and] at h;cases h)]
           exact wpAny_pure hQ))
def Itl (K:PySem.W.Frag) (a:Addr):It :=
  ⟨fun i H=>∃ xs x,SqL K H a xs∧xs[i]?=some x,fun i H x H'=>H'=H∧∀ xs,SqL K H a xs→xs[i]?=some x,fun i H=>∃ xs,SqL K H a xs∧xs.length≤i⟩
def Itr (lo:Int) (n:Nat):It:=⟨fun i _=>i < n,fun i H x H'=>H'=H∧x=.int (lo + i),fun i _=>n≤i⟩
theorem turn_list {P:Program} {w:World} {K:PySem.W.Frag} {tg:Expr} (a it:Addr):Turn P w K tg (Itl K a) [it] it (fun i h=>h.IsListIter it a i) where
  mem:=by simp
  obj:=fun i h st b hb=>by
    have e:b=it:=by simpa using hb
    subst e
    obtain ⟨o,e,c,d⟩:=st
    exact ⟨o,e,fun v z=>by rw [d] at z;cases z⟩
  keep:=fun i h h' st k=>st.at fun o e=>k it (by simp) o e
  item:=by
    intro X hP hw hK hc i pins s σ H E I hf st hg
    subst hP hw hK
    obtain ⟨xs,x,hq,hx⟩:=hg
    obtain ⟨its,rv,p,hz⟩:=I.list hq
    obtain ⟨u,hu,ru⟩:=rv.get hx
    obtain ⟨f0,f1,f2,f3,f4,f5⟩:=hf it (by simp)
    refine wpAny_pyNext_list_item st p.isList (x:=u) (by simpa using hu) fun h' st' sb=>?_
    have I1:Inv X pins σ H { s with heap:=h' }:=I.turned (t':=s.toks) (fun b o hb e=>(sb.2 b hb).trans e) f0 f1 f3 f4 f5
    obtain ⟨o,e,c,d⟩:=id st'
    exact ⟨u,rfl,go_of (s:={ s with heap:=h' }) e c d (by decide) ⟨x,H,I1,ru,⟨rfl,fun ys hy=>by rw [I.list_inj hy hq];exact hx⟩,st',fun b hb=>(hf b hb).1⟩⟩
  done:=by
    intro X hP hw hK hc i pins s σ H E I hf st hg
    subst hP hw hK
    obtain ⟨xs,hq,hx⟩:=hg
    obtain ⟨its,rv,p,hz⟩:=I.list hq
    obtain ⟨f0,f1,f2,f3,f4,f5⟩:=hf it (by simp)
    have hl:=rv.length
    exact wpAny_pyNext_list_end (I.ok.hd hc) st p.isList (by simp;omega) fun h' eb=>⟨rfl,I.turned (t':=s.toks) (fun b o hb e=>eb b o hb e) f0 f1 f3 f4 f5⟩
  self:=fun _ _ _ _ _ st h=>wpAny_pyIter_listiter st h
theorem turn_range {P:Program} {w:World} {K:PySem.W.Frag} {tg:Expr} (it:Addr) (lo:Int) (n:Nat):Turn P w K tg (Itr lo n) [it] it (fun i h=>IsRangeIter h it (lo + (i:Nat) * 1) ((n:Int) - (i:Nat)) 1) where
  mem:=by simp
  obj:=fun i h st b hb=>by
    have e:b=it:=by simpa using hb
    subst e
    exact ⟨_,st,fun v z=>by
      have z':Data.fields _=Data.cell v:=z
      cases z'⟩
  keep:=fun i h h' st k=>k it (by simp) _ st
  item:=by
    intro X hP hw hK hc i pins s σ H E I hf st hg
    subst hP hw hK
    obtain ⟨f0,f1,f2,f3,f4,f5⟩:=hf it (by simp)
    have W:=Walks.range (prog:=X.prog) (w:=X.w) (I.ok.hd hc) it lo 1 n
    refine W.item i s _ _ hg st fun v h' tk hv st' kk=>?_
    obtain ⟨t,rfl⟩:=hv
    have I1:Inv X pins σ H { s with heap:=h',toks:=tk }:=I.turned (fun b o hb e=>kk b o (by simpa using hb) e) f0 f1 f3 f4 f5
    refine ⟨_,rfl,go_of (s:={ s with heap:=h',toks:=tk }) (n:="range_iterator") st' rfl rfl (by decide) ⟨.int (lo + i),H,I1,⟨t,?_⟩,⟨rfl,rfl⟩,st',fun b hb=>(hf b hb).1⟩⟩
    rw [Int.mul_one]
  done:=by
    intro X hP hw hK hc i pins s σ H E I hf st hg
    subst hP hw hK
    obtain ⟨f0,f1,f2,f3,f4,f5⟩:=hf it (by simp)
    exact wpAny_pyNext_range_end (I.ok.hd hc) st (by have:n≤i:=hg;omega) fun h' eb=>⟨rfl,I.turned (t':=s.toks) (fun b o hb e=>eb b o hb e) f0 f1 f3 f4 f5⟩
  self:=fun _ _ _ _ _ st h=>wpAny_pyIter_rangeiter st h
end L2
namespace L2
open PySem PySem.Spec PyProof.Rows
section
variable {X:Cx} {tg:Expr}
def iList (K:PySem.W.Frag) (tl:TE):TI:=fun σ H R=>tl σ H fun x H1=>∃ a,x=.ref a∧(∃ xs,SqL K H1 a xs)∧R (Itl K a) H1
theorem pi_list {l:Expr} {tl:TE} (hl:PE X l tl):PI X tg l (iList X.K tl):=by
  intro pins s σ H R I h
  refine thn (hl pins s σ H _ I h) fun v s1 ⟨x,H1,I1,r1,q1⟩=>?_
  obtain ⟨a,e,⟨xs,hq⟩,q⟩:=q1
  subst e
  cases r1
  obtain ⟨its,rv,p,hz⟩:=I1.list hq
  refine wpAny_pyIter_list p.isList ?_
  refine ⟨s1.heap.objs.size,[s1.heap.objs.size],_,_,H1,rfl,I1.kept (t':=s1.toks) fun b o e=>Heap.get?_push_of_some _ e,turn_list a _,⟨_,Heap.get?_push_size _ rfl,rfl,rfl⟩,fun b hb=>?_,q⟩
  have e:b=s1.heap.objs.size:=by simpa using hb
  subst e
  exact I1.fpOk (Nat.le_refl _) (I1.hok.fresh (Nat.le_refl _))
theorem range_it {pins:List (Addr × Obj)} {σ:St} {H:Hp} {s:Shared} {R:It→Hp→Prop} {E:Value→Shared→Prop} {lo hi:Int} {t u v:Tok} {tk:Nat} (I:Inv X pins σ H s) (h1:-(2 ^ 62)≤lo) (h2:lo < 2 ^ 62) (h3:-(2 ^ 62)≤hi) (h4:hi < 2 ^ 62)
    (q:R (Itr lo (hi - lo).toNat) H):wpAny (model X.prog X.w) X.A (pyIter (.ref s.heap.objs.size)) (PIE X pins σ tg R) E { s with heap:=s.heap.push { cls:=.type "range",data:=.fields #[.int lo t,.int hi u,.int 1 v] },toks:=tk }:=by
  refine wpAny_pyIter_range (IsRange.new ..) (small_one h1 h2 h3 h4) ?_
  have I1:Inv X pins σ H { s with heap:=s.heap.push { cls:=.type "range",data:=.fields #[.int lo t,.int hi u,.int 1 v] },toks:=tk }:=I.kept fun b o e=>Heap.get?_push_of_some _ e
  refine ⟨(s.heap.push { cls:=.type "range",data:=.fields #[.int lo t,.int hi u,.int 1 v] }).objs.size,[(s.heap.push { cls:=.type "range",data:=.fields #[.int lo t,.int hi u,.int 1 v] }).objs.size],_,_,H,rfl,
    I1.kept (t':=tk) fun b o e=>Heap.get?_push_of_some _ e,turn_range _ lo (hi - lo).toNat,?_,fun b hb=>?_,q⟩
  · have e1:lo + ((0:Nat):Int) * 1=lo:=by simp
    have e2:(((hi - lo).toNat:Nat):Int) - ((0:Nat):Int)=Builtin.Range.rangeSize lo hi 1:=by rw [rangeSize_one];split <;> omega
    show IsRangeIter _ _ (lo + ((0:Nat):Int) * 1) ((((hi - lo).toNat:Nat):Int) - ((0:Nat):Int)) 1
    rw [e1,e2]
    exact Heap.get?_push_size _ rfl
  · have e:b=(s.heap.push { cls:=.type "range",data:=.fields #[.int lo t,.int hi u,.int 1 v] }).objs.size:=by simpa using hb
    subst e
    exact I1.fpOk (Nat.le_refl _) (I1.hok.fresh (Nat.le_refl _))
def iRng1 (ta:TA):TI:=fun σ H R=>ta σ H fun vs H1=>∃ j:Int,vs=[.int j]∧-(2 ^ 62)≤j∧j < 2 ^ 62∧R (Itr 0 j.toNat) H1
theorem pi_range1 {a:Expr} {ta:TA} {p pos:Pos} (hg:Gl X "range") (hm:X.mg "range"=none) (ha:PA X [a] ta) (hs:starEach [a] X.env=[(false,eval a X.env)]:=by rfl):PI X tg (.Call (.Name "range" p) [a] [] pos) (iRng1 ta):=by
  intro pins s σ H R I h
  refine Call_ (ld_blt I hg hm boot_range (PyProof.Rows.callWith_type1 (thn (ha pos pins s σ H _ I h) fun us s1 ⟨vs,H1,I1,r1,q1⟩=>?_) hs rfl))
  obtain ⟨j,e,q1,q2,q⟩:=q1
  subst e
  cases r1 with
  | cons r rr =>
    cases rr
    obtain ⟨t,rfl⟩:=r
    exact call_range_1 (range_it I1 (by omega) (by omega) q1 q2 (by simpa using q))
def tFor (wi:TI) (g:TG) (tb:TS):TS:=fun D σ H=>wi σ H fun J H1=>∃ W:Nat→Nat→St→Hp→Prop,(∃ m,W 0 m σ H1)∧∀ i m σ H,W i m σ H →
  (J.stop i H∧D.nx σ H)∨(J.go i H∧∃ N:St→Hp→Prop,(∀ σ' H',N σ' H'→∃ m',m' < m∧W (i + 1) m' σ' H')∧∀ x H',J.yld i H x H'→g x σ H' fun σ2 H2=>tb { D with nx:=N,ct:=N,bk:=D.nx } σ2 H2)
def pinsAt (fp:List Addr) (h:Heap):List (Addr × Obj):=fp.filterMap fun b=>(h.get? b).map fun o=>(b,o)
theorem mem_pinsAt {fp:List Addr} {h:Heap} {b:Addr} {o:Obj} (hb:b∈fp) (e:h.get? b=some o):(b,o)∈pinsAt fp h:=List.mem_filterMap.mpr ⟨b,hb,by rw [e];rfl⟩
theorem of_pinsAt {fp:List Addr} {h:Heap} {p:Addr × Obj} (hp:p∈pinsAt fp h):p.1∈fp∧h.get? p.1=some p.2:=by
  obtain ⟨b,hb,e⟩:=List.mem_filterMap.mp hp
  cases q:h.get? b with
  | none=>rw [q] at e;cases e
  | some o =>
    rw [q] at e
    have e':(b,o)=p:=Option.some.inj e
    subst e'
    exact ⟨hb,q⟩
theorem Inv.pinned {pins:List (Addr × Obj)} {σ:St} {H:Hp} {s:Shared} {fp:List Addr} (I:Inv X pins σ H s) (hf:∀ b∈fp,FpOk X pins H b) (ho:∀ b∈fp,∃ o,s.heap.get? b=some o∧∀ v,o.data≠.cell v):Inv X (pins++pinsAt fp s.heap) σ H s :=
  I.pins_of fun p hp=>(List.mem_append.mp hp).elim (fun z=>I.pin p (List.mem_append_right _ z)) fun z=>by
    obtain ⟨hb,e⟩:=of_pinsAt z
    obtain ⟨f0,f1,f2,_⟩:=hf p.1 hb
    obtain ⟨o,e',d⟩:=ho p.1 hb
    rw [e] at e';cases e'
    exact ⟨e,f0,f1,f2,d⟩
theorem Inv.unpinned {pins pl:List (Addr × Obj)} {σ:St} {H:Hp} {s:Shared} (I:Inv X (pins++pl) σ H s):Inv X pins σ H s:=I.pins_of fun p hp=>I.pin p (List.mem_append_right _ (List.mem_append_left _ hp))
theorem ps_for {iter:Expr} {body:List Stmt} {wi:TI} {g:TG} {tb:TS} {pos:Pos} (hp:PassesOwn (model X.prog X.w) X.A X.env X.xe) (hc:X.calm=true) (hi:PI X tg iter wi) (hg:PG X tg g) (hb:PSs X body tb)
    (hs:∀ x,foldedSetIterable iter X.env x=pure x:=by intro _;rfl):PS X (.For tg iter body [] pos) (tFor wi g tb):=by
  intro pins s σ H D I h
  refine wpAny_For (thn (hi pins s σ H _ I h) fun v s1 h1=>thn h1 fun itv s2 h2=>?_) hs
  obtain ⟨it,fp,tn,J,H2,e,I2,T,st2,f2,W,⟨m0,w0⟩,turn⟩:=h2
  subst e
  have stat:∀ {H':Hp},(∀ b∈fp,H' b=none)→∀ b∈fp,FpOk X pins H' b:=fun hn b hb=>⟨hn b hb,(f2 b hb).2⟩
  refine codeAny_forLoop_any (fun n s'=>∃ i σ' H',Inv X pins σ' H' s'∧tn i s'.heap∧(∀ b∈fp,H' b=none)∧W i n σ' H') ?_ m0 ⟨0,σ,H2,I2,st2,fun b hb=>(f2 b hb).1,w0⟩
  rintro n s3 ⟨i,σ3,H3,I3,st3,fr3,w3⟩
  rcases turn i n σ3 H3 w3 with ⟨stop,qn⟩ | ⟨go,N,hN,step⟩
  · refine wpAny_passesOwn hp (thn (T.done X rfl rfl rfl hc i pins s3 σ3 H3 X.xe I3 (stat fr3) st3 stop) fun r s4 ⟨hr,I4⟩=>?_)
    subst hr
    exact wpAny_execs_nil ⟨σ3,H3,I4,qn⟩
  · refine wpAny_passesOwn hp (thn (T.item X rfl rfl rfl hc i pins s3 σ3 H3 X.xe I3 (stat fr3) st3 go) fun r s4 ⟨u,hr,h4⟩=>?_)
    subst hr
    refine wpAny_passesOwn hp (thn h4 fun _ s5 ⟨x,H5,I5,r5,y5,st5,fr5⟩=>?_)
    have I5':=I5.pinned (stat fr5) (T.obj _ _ st5)
    refine wpAny_passesOwn hp (thn (hg _ s5 σ3 H5 x u _ I5' r5 (step x H5 y5)) fun _ s6 ⟨σ6,H6,I6,q6⟩=>?_)
    refine wpAny_passesOwn hp (thn (hb _ s6 σ6 H6 _ I6 q6) fun f s7 q7=>?_)
    have again:∀ {σ7:St} {H7:Hp},Inv X (pins++pinsAt fp s5.heap) σ7 H7 s7→N σ7 H7→∃ m,m < n∧∃ i σ' H',Inv X pins σ' H' s7∧tn i s7.heap∧(∀ b∈fp,H' b=none)∧W i m σ' H':=fun {σ7 H7} I7 n7=>by
      obtain ⟨m',hm,w7⟩:=hN σ7 H7 n7
      refine ⟨m',hm,i + 1,σ7,H7,I7.unpinned,T.keep _ _ _ st5 fun b hb o e=>(I7.pin (b,o) (List.mem_append_right _ (List.mem_append_right _ (mem_pinsAt hb e)))).1,fun b hb=>?_,w7⟩
      obtain ⟨o,e,d⟩:=T.obj _ _ st5 b hb
      exact (I7.pin (b,o) (List.mem_append_right _ (List.mem_append_right _ (mem_pinsAt hb e)))).2.1
    cases f with
    | next=>obtain ⟨σ7,H7,I7,n7⟩:=q7;exact again I7 n7
    | cont=>obtain ⟨σ7,H7,I7,n7⟩:=q7;exact again I7 n7
    | brk=>obtain ⟨σ7,H7,I7,q7⟩:=q7;exact ⟨σ7,H7,I7.unpinned,q7⟩
    | ret v=>obtain ⟨x7,σ7,H7,I7,r7,q7⟩:=q7;exact ⟨x7,σ7,H7,I7.unpinned,r7,q7⟩
end
theorem for_list {K:PySem.W.Frag} {a:Addr} {xs:List V} {g:TG} {tb:TS} {D:Ends} {σ:St} {H:Hp} (Pv:Nat→St→Hp→Prop) (h0:Pv 0 σ H) (hl:∀ i σ H,i≤xs.length→Pv i σ H→SqL K H a xs)
    (hs:∀ i x σ H,xs[i]?=some x→Pv i σ H→g x σ H fun σ2 H2=>tb { D with nx:=Pv (i + 1),ct:=Pv (i + 1),bk:=D.nx } σ2 H2) (hd:∀ σ H,Pv xs.length σ H→D.nx σ H) :
    ∃ W:Nat→Nat→St→Hp→Prop,(∃ m,W 0 m σ H)∧∀ i m σ H,W i m σ H →
      ((Itl K a).stop i H∧D.nx σ H)∨((Itl K a).go i H∧∃ N:St→Hp→Prop,(∀ σ' H',N σ' H'→∃ m',m' < m∧W (i + 1) m' σ' H')∧∀ x H',(Itl K a).yld i H x H'→g x σ H' fun σ2 H2=>tb { D with nx:=N,ct:=N,bk:=D.nx } σ2 H2):=by
  refine ⟨fun i m σ H=>m=xs.length - i∧i≤xs.length∧Pv i σ H,⟨xs.length,by simp,Nat.zero_le _,h0⟩,?_⟩
  rintro i m σ H ⟨rfl,hi,p⟩
  have q:=hl i σ H hi p
  by_cases hlt:i < xs.length
  · refine .inr ⟨⟨xs,xs[i],q,by simp [hlt]⟩,Pv (i + 1),fun σ' H' p'=>⟨xs.length - (i + 1),by omega,rfl,hlt,p'⟩,fun x H' y=>?_⟩
    obtain ⟨e,y⟩:=y
    subst e
    exact hs i x σ _ (y xs q) p
  · have e:i=xs.length:=by omega
    subst e
    exact .inl ⟨⟨xs,q,Nat.le_refl _⟩,hd σ H p⟩
end L2
namespace L2
open PySem PySem.Spec PyProof.Rows
abbrev R2:=V→V→Hp→VK→Prop
def OpR (X:Cx) (f:Value→Value→Sem Value) (r:R2):Prop :=
  ∀ (pins:List (Addr × Obj)) (s:Shared) (σ:St) (H:Hp) (x y:V) (v u:Value) (Q:VK),Inv X pins σ H s→RelV x v→RelV y u→r x y H Q →
    wpAny (model X.prog X.w) X.A (f v u) (EP X pins σ Q) X.xe s
def UnR (X:Cx) (f:Value→Sem Value) (r:V→Hp→VK→Prop):Prop :=
  ∀ (pins:List (Addr × Obj)) (s:Shared) (σ:St) (H:Hp) (x:V) (v:Value) (Q:VK),Inv X pins σ H s→RelV x v→r x H Q →
    wpAny (model X.prog X.w) X.A (f v) (EP X pins σ Q) X.xe s
def CallR (X:Cx) (f:Value) (r:List V→Hp→VK→Prop):Prop :=
  ∀ (pins:List (Addr × Obj)) (s:Shared) (σ:St) (H:Hp) (xs:List V) (us:List Value) (Q:VK),Inv X pins σ H s→Vals xs us→r xs H Q →
    wpAny (model X.prog X.w) X.A (call f us) (EP X pins σ Q) X.xe s
def TruR (X:Cx) (r:V→Hp→(Bool→Hp→Prop)→Prop):Prop :=
  ∀ (pins:List (Addr × Obj)) (s:Shared) (σ:St) (H:Hp) (x:V) (v:Value) (Q:Bool→Hp→Prop),Inv X pins σ H s→RelV x v→r x H Q →
    wpAny (model X.prog X.w) X.A (truthy v) (TP X pins σ Q) X.xe s
def tOp (r:R2) (ta tb:TE):TE:=fun σ H Q=>ta σ H fun x H1=>tb σ H1 fun y H2=>r x y H2 Q
def tUn (r:V→Hp→VK→Prop) (ta:TE):TE:=fun σ H Q=>ta σ H fun x H1=>r x H1 Q
def rI (C:Int→Int→Prop) (g:Int→Int→V):R2:=fun x y H Q=>∃ i j,x=.int i∧y=.int j∧C i j∧Q (g i j) H
def rI0 (g:Int→Int→V):R2:=fun x y H Q=>∃ i j,x=.int i∧y=.int j∧Q (g i j) H
def rU (g:Int→V):V→Hp→VK→Prop:=fun x H Q=>∃ i,x=.int i∧Q (g i) H
section
variable {X:Cx} {a b c:Expr} {ta tb tc:TE} {pos:Pos}
theorem binT (ha:PE X a ta) (hb:PE X b tb) {pins:List (Addr × Obj)} {s:Shared} {σ:St} {H:Hp} {R:V→V→Hp→Prop} (I:Inv X pins σ H s)
    (h:ta σ H fun x H1=>tb σ H1 fun y H2=>R x y H2) {Q:Value→Shared→Prop} {f:Value→Value→Sem Value}
    (hf:∀ v u s2 x y H2,Inv X pins σ H2 s2→RelV x v→RelV y u→R x y H2→wpAny (model X.prog X.w) X.A (f v u) Q X.xe s2) :
    wpAny (model X.prog X.w) X.A (eval a X.env) (fun v s₁=>wpAny (model X.prog X.w) X.A (eval b X.env) (fun u s₂=>wpAny (model X.prog X.w) X.A (f v u) Q X.xe s₂) X.xe s₁) X.xe s:=by
  refine thn (ha pins s σ H _ I h) fun v s1 ⟨x,H1,I1,r1,q1⟩=>?_
  refine thn (hb pins s1 σ H1 _ I1 q1) fun u s2 ⟨y,H2,I2,r2,q2⟩=>?_
  exact hf v u s2 x y H2 I2 r1 r2 q2
theorem pe_op {op:Operator} {r:R2} (ho:OpR X (binaryOp op) r) (ha:PE X a ta) (hb:PE X b tb):PE X (.BinOp a op b pos) (tOp r ta tb):=by
  intro pins s σ H Q I h
  exact wpAny_BinOp (binT ha hb I h fun v u s2 x y H2 I2 rx ry q=>ho pins s2 σ H2 x y v u Q I2 rx ry q)
theorem pe_un {op:UnaryOp} {r:V→Hp→VK→Prop} (ho:UnR X (unaryOp op) r) (ha:PE X a ta):PE X (.UnaryOp op a pos) (tUn r ta):=by
  intro pins s σ H Q I h
  exact UnaryOp_ (thn (ha pins s σ H _ I h) fun v s1 ⟨x,H1,I1,r1,q1⟩=>ho pins s1 σ H1 x v Q I1 r1 q1)
theorem opI {f:Value→Value→Sem Value} {C:Int→Int→Prop} {g:Int→Int→Int}
    (rule:∀ (i j:Int) (t u:Tok) (s:Shared) (Q:Value→Shared→Prop) (E:Value→Shared→Prop),C i j→Q (.int (g i j) s.toks) { s with toks:=s.toks + 1 }→wpAny (model X.prog X.w) X.A (f (.int i t) (.int j u)) Q E s) :
    OpR X f (rI C fun i j=>.int (g i j)):=by
  intro pins s σ H x y v u Q I rx ry h
  obtain ⟨i,j,rfl,rfl,hc,q⟩:=h
  obtain ⟨t,rfl⟩:=rx
  obtain ⟨t',rfl⟩:=ry
  exact rule i j t t' s _ _ hc ⟨.int (g i j),H,I.tok _,⟨_,rfl⟩,q⟩
theorem opI0 {f:Value→Value→Sem Value} {g:Int→Int→Int}
    (rule:∀ (i j:Int) (t u:Tok) (s:Shared) (Q:Value→Shared→Prop) (E:Value→Shared→Prop),Q (.int (g i j) s.toks) { s with toks:=s.toks + 1 }→wpAny (model X.prog X.w) X.A (f (.int i t) (.int j u)) Q E s) :
    OpR X f (rI0 fun i j=>.int (g i j)):=by
  intro pins s σ H x y v u Q I rx ry h
  obtain ⟨i,j,rfl,rfl,q⟩:=h
  obtain ⟨t,rfl⟩:=rx
  obtain ⟨t',rfl⟩:=ry
  exact rule i j t t' s _ _ ⟨.int (g i j),H,I.tok _,⟨_,rfl⟩,q⟩
theorem opB0 {f:Value→Value→Sem Value} {g:Int→Int→Bool}
    (rule:∀ (i j:Int) (t u:Tok) (s:Shared) (Q:Value→Shared→Prop) (E:Value→Shared→Prop),Q (.bool (g i j)) s→wpAny (model X.prog X.w) X.A (f (.int i t) (.int j u)) Q E s) :
    OpR X f (rI0 fun i j=>.bl (g i j)):=by
  intro pins s σ H x y v u Q I rx ry h
  obtain ⟨i,j,rfl,rfl,q⟩:=h
  obtain ⟨t,rfl⟩:=rx
  obtain ⟨t',rfl⟩:=ry
  exact rule i j t t' s _ _ ⟨.bl (g i j),H,I,rfl,q⟩
def CMul (i j:Int):Prop:=(-(2 ^ 64) < i∧i < 2 ^ 64)∨(-(2 ^ 64) < j∧j < 2 ^ 64)
theorem CMul.ok {i j:Int} (h:CMul i j):IntMulOk i j:=by
  rcases h with ⟨h1,h2⟩ | ⟨h1,h2⟩
  · exact .of_left (intBits_le_64 h1 h2)
  · exact .of_right (intBits_le_64 h1 h2)
theorem op_add:OpR X (binaryOp .Add) (rI0 fun i j=>.int (i + j)):=opI0 fun _ _ _ _ _ _ _ q=>add_int q
theorem op_sub:OpR X (binaryOp .Sub) (rI0 fun i j=>.int (i - j)):=opI0 fun _ _ _ _ _ _ _ q=>sub_int q
theorem op_mul:OpR X (binaryOp .Mult) (rI CMul fun i j=>.int (i * j)):=opI fun _ _ _ _ _ _ _ hc q=>mul_int q hc.ok
theorem op_xor:OpR X (binaryOp .BitXor) (rI0 fun i j=>.int (Builtin.bitXor i j)):=opI0 fun _ _ _ _ _ _ _ q=>xor_int q
theorem unI {f:Value→Sem Value} {g:Int→Int}
    (rule:∀ (i:Int) (t:Tok) (s:Shared) (Q:Value→Shared→Prop) (E:Value→Shared→Prop),Q (.int (g i) s.toks) { s with toks:=s.toks + 1 }→wpAny (model X.prog X.w) X.A (f (.int i t)) Q E s) :
    UnR X f (rU fun i=>.int (g i)):=by
  intro pins s σ H x v Q I rx h
  obtain ⟨i,rfl,q⟩:=h
  obtain ⟨t,rfl⟩:=rx
  exact rule i t s _ _ ⟨.int (g i),H,I.tok _,⟨_,rfl⟩,q⟩
theorem un_neg:UnR X (unaryOp .USub) (rU fun i=>.int (-i)):=unI fun _ _ _ _ _ q=>neg_int q
end
def scal:V→V→Bool
  | .non,.non=>true | .non,.int _=>true | .int _,.non=>true | .non,.bl _=>true | .bl _,.non=>true | .non,.str _=>true | .str _,.non=>true
  | .int _,.int _=>true | .bl _,.bl _=>true | .str _,.str _=>true | .byt _,.byt _=>true
  | .int _,.str _=>true | .str _,.int _=>true | .bl _,.str _=>true | .str _,.bl _=>true
  | _,_=>false
def rEq:R2:=fun x y H Q=>scal x y=true∧Q (.bl (decide (x=y))) H
def rNe:R2:=fun x y H Q=>scal x y=true∧Q (.bl (!decide (x=y))) H
theorem dec_int {i j:Int}:decide (V.int i=V.int j)=(i == j):=by
  rw [Bool.eq_iff_iff]
  simp
theorem dec_bl {i j:Bool}:decide (V.bl i=V.bl j)=(i == j):=by
  rw [Bool.eq_iff_iff]
  simp
theorem dec_str {i j:Str}:decide (V.str i=V.str j)=(i == j):=by
  rw [Bool.eq_iff_iff]
  simp
theorem dec_byt {i j:Array UInt8}:decide (V.byt i=V.byt j)=(i.toList == j.toList):=by
  rw [Bool.eq_iff_iff]
  cases i
  cases j
  simp
section
variable {X:Cx} {a b c:Expr} {ta tb tc:TE} {pos:Pos}
theorem fin_bl {pins:List (Addr × Obj)} {σ:St} {H:Hp} {s:Shared} {Q:VK} {k k':Bool} (I:Inv X pins σ H s) (q:Q (.bl k) H) (e:k=k'):EP X pins σ Q (.bool k') s:=by
  subst e
  exact ⟨.bl k,H,I,rfl,q⟩
theorem op_eq:OpR X (compareOp .Eq) rEq:=by
  intro pins s σ H x y v u Q I rx ry h
  obtain ⟨hs,q⟩:=h
  cases x with
  | non =>
    cases rx
    cases y with
    | non=>cases ry;exact PySem.EqNone.eq_none_none (fin_bl I q (by simp))
    | bl j=>cases ry;exact PySem.EqNone.eq_none_bool (fin_bl I q (by simp))
    | int j=>obtain ⟨t',rfl⟩:=ry;exact PySem.EqNone.eq_none_int (fin_bl I q (by simp))
    | str j=>obtain ⟨t',rfl⟩:=ry;exact PySem.EqNone.eq_none_str (fin_bl I q (by simp))
    | _=>exact absurd (show false=true from hs) Bool.false_ne_true
  | bl i =>
    cases rx
    cases y with
    | non=>cases ry;exact PySem.EqNone.eq_bool_none (fin_bl I q (by simp))
    | bl j=>cases ry;exact eq_bool (fin_bl I q dec_bl)
    | str j=>obtain ⟨t',rfl⟩:=ry;exact PySem.EqMixed.eq_bool_str (fin_bl I q (by simp))
    | _=>exact absurd (show false=true from hs) Bool.false_ne_true
  | int i =>
    obtain ⟨t,rfl⟩:=rx
    cases y with
    | non=>cases ry;exact PySem.EqNone.eq_int_none (fin_bl I q (by simp))
    | int j=>obtain ⟨t',rfl⟩:=ry;exact eq_int (fin_bl I q dec_int)
    | str j=>obtain ⟨t',rfl⟩:=ry;exact PySem.EqMixed.eq_int_str (fin_bl I q (by simp))
    | _=>exact absurd (show false=true from hs) Bool.false_ne_true
  | str i =>
    obtain ⟨t,rfl⟩:=rx
    cases y with
    | non=>cases ry;exact PySem.EqNone.eq_str_none (fin_bl I q (by simp))
    | bl j=>cases ry;exact PySem.EqMixed.eq_str_bool (fin_bl I q (by simp))
    | int j=>obtain ⟨t',rfl⟩:=ry;exact PySem.EqMixed.eq_str_int (fin_bl I q (by simp))
    | str j=>obtain ⟨t',rfl⟩:=ry;exact eq_str (fin_bl I q dec_str)
    | _=>exact absurd (show false=true from hs) Bool.false_ne_true
  | byt i =>
    obtain ⟨t,rfl⟩:=rx
    cases y with
    | byt j=>obtain ⟨t',rfl⟩:=ry;exact PySem.W.eq_bytes (fin_bl I q dec_byt)
    | _=>exact absurd (show false=true from hs) Bool.false_ne_true
  | _=>cases y <;> exact absurd (show false=true from hs) Bool.false_ne_true
theorem op_ne:OpR X (compareOp .NotEq) rNe:=by
  intro pins s σ H x y v u Q I rx ry h
  obtain ⟨hs,q⟩:=h
  cases x with
  | non =>
    cases rx
    cases y with
    | non=>cases ry;exact PySem.EqNone.ne_none_none (fin_bl I q (by simp))
    | bl j=>cases ry;exact PySem.EqNone.ne_none_bool (fin_bl I q (by simp))
    | int j=>obtain ⟨t',rfl⟩:=ry;exact PySem.EqNone.ne_none_int (fin_bl I q (by simp))
    | str j=>obtain ⟨t',rfl⟩:=ry;exact PySem.EqNone.ne_none_str (fin_bl I q (by simp))
    | _=>exact absurd (show false=true from hs) Bool.false_ne_true
  | bl i =>
    cases rx
    cases y with
    | non=>cases ry;exact PySem.EqNone.ne_bool_none (fin_bl I q (by simp))
    | bl j=>cases ry;exact ne_bool (fin_bl I q (congrArg not dec_bl))
    | str j=>obtain ⟨t',rfl⟩:=ry;exact PySem.EqMixed.ne_bool_str (fin_bl I q (by simp))
    | _=>exact absurd (show false=true from hs) Bool.false_ne_true
  | int i =>
    obtain ⟨t,rfl⟩:=rx
    cases y with
    | non=>cases ry;exact PySem.EqNone.ne_int_none (fin_bl I q (by simp))
    | int j=>obtain ⟨t',rfl⟩:=ry;exact ne_int (fin_bl I q (congrArg not dec_int))
    | str j=>obtain ⟨t',rfl⟩:=ry;exact PySem.EqMixed.ne_int_str (fin_bl I q (by simp))
    | _=>exact absurd (show false=true from hs) Bool.false_ne_true
  | str i =>
    obtain ⟨t,rfl⟩:=rx
    cases y with
    | non=>cases ry;exact PySem.EqNone.ne_str_none (fin_bl I q (by simp))
    | bl j=>cases ry;exact PySem.EqMixed.ne_str_bool (fin_bl I q (by simp))
    | int j=>obtain ⟨t',rfl⟩:=ry;exact PySem.EqMixed.ne_str_int (fin_bl I q (by simp))
    | str j=>obtain ⟨t',rfl⟩:=ry;exact ne_str (fin_bl I q (congrArg not dec_str))
    | _=>exact absurd (show false=true from hs) Bool.false_ne_true
  | byt i =>
    obtain ⟨t,rfl⟩:=rx
    cases y with
    | byt j=>obtain ⟨t',rfl⟩:=ry;exact PySem.W.ne_bytes (fin_bl I q (congrArg not dec_byt))
    | _=>exact absurd (show false=true from hs) Bool.false_ne_true
  | _=>cases y <;> exact absurd (show false=true from hs) Bool.false_ne_true
theorem op_lt:OpR X (compareOp .Lt) (rI0 fun i j=>.bl (decide (i < j))):=opB0 fun _ _ _ _ _ _ _ q=>lt_int q
theorem op_le:OpR X (compareOp .LtE) (rI0 fun i j=>.bl (decide (i≤j))):=opB0 fun _ _ _ _ _ _ _ q=>le_int q
theorem op_gt:OpR X (compareOp .Gt) (rI0 fun i j=>.bl (decide (j < i))):=opB0 fun _ _ _ _ _ _ _ q=>gt_int q
theorem op_isN:OpR X (compareOp .Is) (fun x y H Q=>y=.non∧Q (.bl (decide (x=.non))) H):=by
  intro pins s σ H x y v u Q I rx ry h
  obtain ⟨rfl,q⟩:=h
  cases ry
  refine is_none_gen (fin_bl I q ?_)
  cases x <;> first
    | (cases rx;rfl)
    | (obtain ⟨t,rfl⟩:=rx;rfl)
theorem op_notN:OpR X (compareOp .IsNot) (fun x y H Q=>y=.non∧Q (.bl (!decide (x=.non))) H):=by
  intro pins s σ H x y v u Q I rx ry h
  obtain ⟨rfl,q⟩:=h
  cases ry
  refine isnot_none_gen (fin_bl I q ?_)
  cases x <;> first
    | (cases rx;rfl)
    | (obtain ⟨t,rfl⟩:=rx;rfl)
theorem nomark (b:Expr) {op:CmpOp} (h:op≠.In:=by decide) (h2:op≠.NotIn:=by decide):behindInMarks op b=false:=by
  have e1:(op == CmpOp.In)=false:=by cases op <;> first | rfl | exact absurd rfl h
  have e2:(op == CmpOp.NotIn)=false:=by cases op <;> first | rfl | exact absurd rfl h2
  cases b <;> simp [behindInMarks,e1,e2]
theorem pe_cmpR {op:CmpOp} {r:R2} (ho:OpR X (compareOp op) r) (ha:PE X a ta) (hb:PE X b tb) (hm:behindInMarks op b=false):PE X (.Compare a [op] [b] pos) (tOp r ta tb):=by
  intro pins s σ H Q I h
  exact wpAny_Compare1 (binT ha hb I h fun v u s2 x y H2 I2 rx ry q=>ho pins s2 σ H2 x y v u Q I2 rx ry q) hm
def tTest (t:TE):TT:=fun σ H Q=>t σ H fun x H'=>∃ k,x=.bl k∧Q k H'
theorem pt_cmpR {op:CmpOp} {r:R2} (ho:OpR X (compareOp op) r) (ha:PE X a ta) (hb:PE X b tb) (hm:behindInMarks op b=false):PT X (.Compare a [op] [b] pos) (tTest (tOp r ta tb)):=by
  intro pins s σ H Q I h
  refine wpAny_isTrue_Compare1 (thn (ha pins s σ H _ I h) fun v s1 ⟨x,H1,I1,r1,q1⟩=>thn (hb pins s1 σ H1 _ I1 q1) fun u s2 ⟨y,H2,I2,r2,q2⟩ =>
    thn (ho pins s2 σ H2 x y v u _ I2 r1 r2 q2) fun c s3 ⟨z,H3,I3,r3,k,e,q3⟩=>?_) hm
  subst e
  cases r3
  exact wpAny_truthy_bool ⟨H3,I3,q3⟩
def tChain (r r':R2) (ta tb tc:TE):TE:=fun σ H Q=>ta σ H fun x H1=>tb σ H1 fun y H2=>r x y H2 fun z H3=>∃ k,z=.bl k ∧
  (if k=true then tc σ H3 fun w' H4=>r' y w' H4 Q else Q (.bl false) H3)
theorem pe_chain {op op':CmpOp} {r r':R2} (ho:OpR X (compareOp op) r) (ho':OpR X (compareOp op') r') (ha:PE X a ta) (hb:PE X b tb) (hc:PE X c tc)
    (hm:lastMarks [op,op'] [b,c]=false:=by with_unfolding_all rfl):PE X (.Compare a [op,op'] [b,c] pos) (tChain r r' ta tb tc):=by
  intro pins s σ H Q I h
  refine Compare_chain (thn (ha pins s σ H _ I h) fun v s1 ⟨x,H1,I1,r1,q1⟩=>chain_link (thn (hb pins s1 σ H1 _ I1 q1) fun u s2 ⟨y,H2,I2,r2,q2⟩ =>
    thn (ho pins s2 σ H2 x y v u _ I2 r1 r2 q2) fun d s3 ⟨z,H3,I3,r3,k,e,q3⟩=>?_)) hm
  subst e
  cases r3
  refine wpAny_truthy_bool ?_
  cases k with
  | false=>exact ite_ff ⟨.bl false,H3,I3,rfl,q3⟩
  | true=>exact ite_tt (chain_last (thn (hc pins s3 σ H3 _ I3 q3) fun w' s4 ⟨z',H4,I4,r4,q4⟩=>ho' pins s4 σ H4 y z' u w' Q I4 r2 r4 q4))
def TruV (K:PySem.W.Frag) (x:V) (H:Hp) (k:Bool):Prop :=
  match x with
  | .non=>k=false
  | .bl b=>k=b
  | .int i=>k=(i != 0)
  | .str y=>y.length≤sizeLine∧k=((y.length:Int) != 0)
  | .byt y=>y.size≤sizeLine∧k=((y.size:Int) != 0)
  | .ref p=>(∃ xs,SqL K H p xs∧k=!xs.isEmpty)∨(∃ xs,SqT K H p xs∧k=!xs.isEmpty)∨∃ kvs,H p=some (.dK kvs)∧k=!kvs.isEmpty
  | _=>False
theorem isEmpty_kv {κ:Type} {kvs:List (κ × V)} {vs:List (κ × Value)} (r:KV kvs vs):(!vs.isEmpty)=!kvs.isEmpty:=by
  cases r <;> rfl
theorem isEmpty_of {xs:List V} {its:List Value} (r:Vals xs its):(!its.toArray.isEmpty)=!xs.isEmpty:=by
  cases r <;> simp
theorem line63:(sizeLine:Nat) < 2 ^ 63:=by rw [sizeLine_eq];decide
theorem tru_ok:TruR X (fun x H Q=>∃ k,TruV X.K x H k∧Q k H):=by
  intro pins s σ H x v Q I rx h
  obtain ⟨k,e,q⟩:=h
  have hl:=line63
  have hs:sizeLine=16777216:=sizeLine_eq
  cases x with
  | non =>
    cases rx
    have e':k=false:=e
    subst e'
    exact truthy_none ⟨H,I,q⟩
  | bl b =>
    cases rx
    have e':k=b:=e
    subst e'
    exact wpAny_truthy_bool ⟨H,I,q⟩
  | int i =>
    obtain ⟨t,rfl⟩:=rx
    have e':k=(i != 0):=e
    subst e'
    exact PySem.P.truthy_int ⟨H,I,q⟩
  | str y =>
    obtain ⟨t,rfl⟩:=rx
    obtain ⟨hy,e'⟩:y.length≤sizeLine∧k=((y.length:Int) != 0):=e
    subst e'
    exact PySem.P.truthy_str (by omega) ⟨H,I.tok _,q⟩
  | byt y =>
    obtain ⟨t,rfl⟩:=rx
    obtain ⟨hy,e'⟩:y.size≤sizeLine∧k=((y.size:Int) != 0):=e
    subst e'
    exact PySem.W.truthy_bytes (by omega) ⟨H,I.tok _,q⟩
  | ref p =>
    cases rx
    have e':(∃ xs,SqL X.K H p xs∧k=!xs.isEmpty)∨(∃ xs,SqT X.K H p xs∧k=!xs.isEmpty)∨∃ kvs,H p=some (.dK kvs)∧k=!kvs.isEmpty:=e
    rcases e' with ⟨xs,hx,e'⟩ | ⟨xs,hx,e'⟩ | ⟨kvs,hx,e'⟩
    · subst e'
      obtain ⟨its,r,pl,hz⟩:=I.list hx
      have hlen:=r.length
      exact wpAny_truthy_list pl.isList (by simp only [List.size_toArray];omega) ⟨H,I.tok _,by rw [isEmpty_of r];exact q⟩
    · subst e'
      obtain ⟨its,r,pl,hz⟩:=I.tuple hx
      have hlen:=r.length
      exact truthy_tuple pl (by simp only [List.size_toArray];omega) ⟨H,I.tok _,by rw [isEmpty_of r];exact q⟩
    · subst e'
      obtain ⟨hz,hS,vs,r,m⟩:kvs.length≤sizeLine∧(p == sysModules)=false∧∃ vs,KV kvs vs∧s.heap.DictOf (mixKind X.prog X.w) p vs:=I.hok p _ hx
      have hlen:kvs.length=vs.length:=Paired.length r
      exact wpAny_truthy_dict hS m (by omega) ⟨H,I.tok _,by rw [isEmpty_kv r];exact q⟩
  | _=>exact (show False from e).elim
theorem pt_truth (ha:PE X a ta) (he:∀ whole,isTrue a X.env whole=(do let v ← whole;standAt a.pos;holding [v] (truthy v))) :
    PT X a (fun σ H Q=>ta σ H fun x H'=>∃ k,TruV X.K x H' k∧Q k H'):=by
  intro pins s σ H Q I h
  exact isTrue_plain (thn (ha pins s σ H _ I h) fun v s1 ⟨x,H1,I1,r1,q1⟩=>tru_ok pins s1 σ H1 x v Q I1 r1 q1) (he _)
theorem vals1 {x:V} {us:List Value} (r:Vals [x] us):∃ u,us=[u]∧RelV x u:=by
  cases r with
  | cons r1 r2=>cases r2;exact ⟨_,rfl,r1⟩
theorem vals2 {x y:V} {us:List Value} (r:Vals [x,y] us):∃ u w',us=[u,w']∧RelV x u∧RelV y w':=by
  cases r with
  | cons r1 r2 =>
    cases r2 with
    | cons r3 r4=>cases r4;exact ⟨_,_,rfl,r1,r3⟩
end
end L2
namespace L2
open PySem PySem.Spec PyProof.Rows
structure ObjM (h:Heap) (x dx C:Addr) (mA:Str→Option Value):Prop where
  obj:h.get? x=some (PySem.W.instObj C dx)
  ns:h.Ns1 dx mA
  ne:dx≠x
theorem lookIn_ns {h:Heap} {dx:Addr} {mA:Str→Option Value} (n:h.Ns1 dx mA):∃ od,h.get? dx=some od∧∀ name,PySem.W.lookIn name od=some (mA name):=by
  obtain ⟨o,es,ep,ho,hd,hk,_,hm⟩:=n
  refine ⟨o,ho,fun name=>?_⟩
  have e:=hm name
  unfold nsFind findBy at e
  rw [← Array.find?_toList] at e
  unfold PySem.W.lookIn
  rw [hd]
  dsimp only
  split
  · rename_i y q
    rw [q] at e
    exact congrArg some e
  · rename_i q
    rw [q] at e
    have a:es.toList.any (·.refKey)=false:=by
      rw [List.any_eq_false]
      intro y hy
      obtain ⟨z,t,hkey⟩:=hk y (Array.mem_toList_iff.mp hy)
      simp [DictEntry.refKey,hkey]
    have a':¬ es.toList.any (·.refKey)=true:=by rw [a];exact Bool.false_ne_true
    rw [if_neg a']
    exact congrArg some e
theorem ObjM.look {h:Heap} {x dx C:Addr} {mA:Str→Option Value} (I:ObjM h x dx C mA):∃ od,PySem.W.InstAt h x (PySem.W.instObj C dx) C (some od)∧∀ name,PySem.W.lookIn name od=some (mA name) :=
  let ⟨od,ho,hl⟩:=lookIn_ns I.ns
  ⟨od,⟨I.obj,rfl,rfl,ho⟩,hl⟩
section
variable {prog:Program} {w:World} {A:Around} {E:Value→Shared→Prop} {s:Shared} {K:PySem.W.Frag} {x dx C f:Addr} {mA:Str→Option Value} {name:Str} {v:Value}
theorem get_map {expr:Bool} {Q:Value→Shared→Prop} (X:K.In s.heap) (I:ObjM s.heap x dx C mA) (hg:PySem.W.plainGet K C name=true) (hh:PySem.W.hasDictIn K C=true)
    (ha:PySem.W.findIn K (.ref C) name=some none) (hv:mA name=some v) (hv':PySem.W.handedIn v=true) (h:Q v { s with toks:=s.toks + 1 }) :
    wpAny (model prog w) A (getAttr (.ref x) name expr) Q E s:=by
  obtain ⟨od,J,hl⟩:=I.look
  exact PySem.W.get_value X J (PySem.W.plainGet_of hg).1 (PySem.W.findObj_own hh ha rfl (by rw [hl,hv])) hv' h
theorem get_meth {pl:Sem Bool} {Q:Value × List Value→Shared→Prop} (X:K.In s.heap) (I:ObjM s.heap x dx C mA) (hg:PySem.W.plainGet K C name=true)
    (hf:PySem.W.findIn K (.ref C) name=some (some (.ref f))) (ht:PySem.W.isFn K (.ref f)=true) (hv:mA name=none) (h:Q (.ref f,[.ref x]) s) :
    wpAny (model prog w) A (getMethod (.ref x) name pl) Q E s:=by
  obtain ⟨od,J,hl⟩:=I.look
  exact PySem.W.method_fn X J (PySem.W.plainGet_of hg).1 (PySem.W.plainGet_of hg).2 hf (beq_iff_eq.mp ht) (by show (PySem.W.lookIn name od).map (·.isSome)=some false;rw [hl,hv];rfl) h
theorem set_map {ns:List Str} {Q:Unit→Shared→Prop} (X:K.In s.heap) (I:ObjM s.heap x dx C mA)
    (hs:PySem.W.findIn K (.ref C) "__setattr__"=some (some (.builtin "object.__setattr__"))) (hp:PySem.W.plainOver K C=true) (ht:PySem.W.takerIn K C name=some none) (hh:PySem.W.hasDictIn K C=true)
    (hw:PySem.Within mA ns) (hsz:ns.length≤sizeLine)
    (h:∀ h',ObjM h' x dx C (fun y=>if y=name then some v else mA y)→Heap.SameBut dx s.heap h'→Q () { s with heap:=h',toks:=s.toks + 2 }) :
    wpAny (model prog w) A (setAttr (.ref x) name v) Q E s:=by
  obtain ⟨od,J,hl⟩:=I.look
  refine PySem.W.set_plain X J hs (PySem.W.osa_open (s:={ s with toks:=s.toks + 1 }) (r:=none) X J hp ht fun b=>?_)
  obtain ⟨cd,hc,hd'⟩:=PySem.W.any_some hh
  have hx:s.heap.get? x=some ⟨.ref C,some dx,.plain,#[]⟩:=I.obj
  refine wpAny_bind (wpAny_pure (wpAny_bind (wpAny_bind (wpAny_loadPart hx (wpAny_bind (PySem.W.Looks.here (s:={ s with toks:=s.toks + 1 }) (PySem.W.looks_clsIn X hc) ?_))))))
  rw [hd']
  refine wpAny_pure (a:=some dx) (wpAny_bind (wpAny_pure (wpAny_bind ?_)))
  refine wpAny_nsSet1 (s:={ s with toks:=s.toks + 1 }) I.ns fun h' hn2 hs2=>?_
  obtain ⟨oD,esD,epD,hoD,hdD,hcD⟩:=hn2.count (PySem.Within.cons name v hw)
  refine wpAny_bind (wpAny_lookBehind hoD (by rw [hdD];exact pastItsLine_dict (Nat.le_trans hcD (by rw [List.length_cons];omega))) ?_)
  exact wpAny_pure (h _ ⟨(hs2.2 _ (Ne.symm I.ne)).trans I.obj,hn2,I.ne⟩ hs2)
theorem make_map {R:Result→Shared→Prop} {vs:List Value} {kw:List (Str × Value)} (X:K.In s.heap) (hm:PySem.W.makesIn K C=true)
    (hi:PySem.W.findIn K (.ref C) "__init__"=some (some (.ref f))) (hf:PySem.W.typeIn K (.ref f)=some (.type "function"))
    (h:codeAny (model prog w) (A.under (.builtin "type.__call__" ⟨.ref C :: vs,kw⟩)) (.call (.ref f) ⟨.ref (s.heap.objs.size + 1) :: vs,kw⟩) (PySem.W.InitBack (s.heap.objs.size + 1) R)
      { s with heap:=(s.heap.push PySem.W.emptyDict).push (PySem.W.instObj C s.heap.objs.size) }) :
    codeAny (model prog w) A (.call (.ref C) ⟨vs,kw⟩) R s:=by
  obtain ⟨hh,g,d,t,os⟩:=s
  exact PySem.W.make_core (PySem.W.makes_of X hm) (PySem.W.looks_findIn X hi) (fun self=>PySem.W.bind_fn X self hf) (.inl rfl) h
end
def putF (f:Str) (v:V):List (Str × V)→List (Str × V)
  | []=>[(f,v)]
  | (g,x) :: r=>if g=f then (g,v) :: r else (g,x) :: putF f v r
theorem lookup_putF (f g:Str) (v:V):∀ fs:List (Str × V),(putF f v fs).lookup g=if g=f then some v else fs.lookup g
  | []=>by
    show List.lookup g [(f,v)]=_
    by_cases h:g=f
    · have hb:(g == f)=true:=beq_iff_eq.mpr h
      simp only [List.lookup,hb,if_pos h]
    · have hb:(g == f)=false:=beq_eq_false_iff_ne.mpr h
      simp only [List.lookup,hb,if_neg h]
  | (k,x) :: r=>by
    have ih:=lookup_putF f g v r
    rw [show putF f v ((k,x) :: r)=(if k=f then (k,v) :: r else (k,x) :: putF f v r) from rfl]
    by_cases hk:k=f
    · rw [if_pos hk]
      by_cases h:g=k
      · have hb:(g == k)=true:=beq_iff_eq.mpr h
        simp only [List.lookup,hb,if_pos (h.trans hk)]
      · have hb:(g == k)=false:=beq_eq_false_iff_ne.mpr h
        simp only [List.lookup,hb,if_neg (fun e:g=f=>h (e.trans hk.symm))]
    · rw [if_neg hk]
      by_cases h:g=k
      · have hb:(g == k)=true:=beq_iff_eq.mpr h
        simp only [List.lookup,hb,if_neg (fun e:g=f=>hk (h.symm.trans e))]
      · have hb:(g == k)=false:=beq_eq_false_iff_ne.mpr h
        simp only [List.lookup,hb]
        exact ih
theorem keys_putF (f:Str) (v:V):∀ fs:List (Str × V),f∈(putF f v fs).map (·.1)∧∀ g,g∈fs.map (·.1)→g∈(putF f v fs).map (·.1)
  | []=>⟨by simp [putF],fun g h=>by simp at h⟩
  | (k,x) :: r=>by
    obtain ⟨i1,i2⟩:=keys_putF f v r
    rw [show putF f v ((k,x) :: r)=(if k=f then (k,v) :: r else (k,x) :: putF f v r) from rfl]
    by_cases hk:k=f
    · rw [if_pos hk]
      subst hk
      exact ⟨by simp,fun g h=>by simpa using h⟩
    · rw [if_neg hk]
      refine ⟨?_,fun g h=>?_⟩
      · rw [List.map_cons]
        exact List.mem_cons_of_mem _ i1
      · rw [List.map_cons] at h ⊢
        rcases List.mem_cons.mp h with e | e
        · exact List.mem_cons.mpr (.inl e)
        · exact List.mem_cons_of_mem _ (i2 g e)
theorem length_putF (f:Str) (v:V):∀ fs:List (Str × V),(putF f v fs).length≤fs.length + 1
  | []=>by simp [putF]
  | (k,x) :: r=>by
    have ih:=length_putF f v r
    rw [show putF f v ((k,x) :: r)=(if k=f then (k,v) :: r else (k,x) :: putF f v r) from rfl]
    by_cases hk:k=f
    · rw [if_pos hk,List.length_cons,List.length_cons];omega
    · rw [if_neg hk,List.length_cons,List.length_cons];omega
theorem RelO.some_of {v:V} {o:Option Value} (r:RelO (some v) o):∃ u,o=some u∧RelV v u:=by
  cases o with
  | none=>exact (show False from r).elim
  | some u=>exact ⟨u,rfl,r⟩
theorem RelO.none_of {o:Option Value} (r:RelO none o):o=none:=by
  cases o with
  | none=>rfl
  | some u=>exact (show False from r).elim
theorem handed_of {v:V} {u:Value} (r:RelV v u):PySem.W.handedIn u=true:=by
  cases v with
  | non=>cases (show u=Value.none from r);rfl
  | bl b=>cases (show u=Value.bool b from r);rfl
  | int i=>obtain ⟨t,e⟩:=(show ∃ t,u=Value.int i t from r);cases e;rfl
  | str x=>obtain ⟨t,e⟩:=(show ∃ t,u=Value.str x t from r);cases e;rfl
  | byt b=>obtain ⟨t,e⟩:=(show ∃ t,u=Value.bytes b t from r);cases e;rfl
  | flt b=>obtain ⟨t,e⟩:=(show ∃ t,u=Value.float b t from r);cases e;rfl
  | ref a=>cases (show u=Value.ref a from r);rfl
  | ty n=>cases (show u=Value.type n from r);rfl
section
variable {P:Program} {w:World} {H H':Hp} {h h':Heap} {a C dx:Addr} {fs fs':List (Str × V)}
theorem ins_get (hok:HOk P w H h) (e:H a=some (.ins C dx fs)):∃ mA,ObjM h a dx C mA∧(∀ f,RelO (fs.lookup f) (mA f))∧PySem.Within mA (fs.map (·.1))∧fs.length≤1000∧H dx=some (.own a):=by
  obtain ⟨d,z,ne,ob,mA,n,r,q⟩:=(show ObjOk P w H h a (.ins C dx fs) from hok a _ e)
  exact ⟨mA,⟨ob,n,ne⟩,r,q,z,d⟩
end
structure Cls (K:PySem.W.Frag) (C:Addr):Prop where
  pg:PySem.W.plainGet K C Str.empty=true
  hd:PySem.W.hasDictIn K C=true
  po:PySem.W.plainOver K C=true
  sa:PySem.W.findIn K (.ref C) "__setattr__"=some (some (.builtin "object.__setattr__"))
theorem Cls.get {K:PySem.W.Frag} {C:Addr} (c:Cls K C) (f:Str):PySem.W.plainGet K C f=true:=c.pg
def NoAttr (K:PySem.W.Frag) (C:Addr) (f:Str):Prop:=PySem.W.findIn K (.ref C) f=some none
theorem NoAttr.taker {K:PySem.W.Frag} {C:Addr} {f:Str} (n:NoAttr K C f):PySem.W.takerIn K C f=some none:=by
  unfold PySem.W.takerIn
  rw [show PySem.W.findIn K (.ref C) f=some none from n]
  rfl
structure Meth (K:PySem.W.Frag) (C:Addr) (m:Str) (f:Addr):Prop where
  at_:PySem.W.findIn K (.ref C) m=some (some (.ref f))
  fn:PySem.W.isFn K (.ref f)=true
  kp:PySem.W.keepIn K (.ref f)=true
section
variable {X:Cx} {pins:List (Addr × Obj)} {σ:St} {H:Hp} {s:Shared} {a C dx:Addr} {fs:List (Str × V)} {f:Str} {v:V} {A:Around} {E:Value→Shared→Prop}
theorem getattr_ok {b:Bool} {Q:Value→Shared→Prop} (I:Inv X pins σ H s) (e:H a=some (.ins C dx fs)) (c:Cls X.K C) (n:NoAttr X.K C f) (l:fs.lookup f=some v)
    (h:∀ u s',Inv X pins σ H s'→RelV v u→Q u s'):wpAny (model X.prog X.w) A (getAttr (.ref a) f b) Q E s:=by
  obtain ⟨mA,O,r,_,_,_⟩:=ins_get I.hok e
  obtain ⟨u,hu,ru⟩:=RelO.some_of (v:=v) (o:=mA f) (by rw [← l];exact r f)
  exact get_map I.kIn O (c.get f) c.hd n hu (handed_of ru) (h u _ (I.tok _) ru)
theorem getmeth_ok {m:Str} {g:Addr} {pl:Sem Bool} {Q:Value × List Value→Shared→Prop} (I:Inv X pins σ H s) (e:H a=some (.ins C dx fs)) (c:Cls X.K C) (k:Meth X.K C m g) (l:fs.lookup m=none)
    (h:Q (.ref g,[.ref a]) s):wpAny (model X.prog X.w) A (getMethod (.ref a) m pl) Q E s:=by
  obtain ⟨mA,O,r,_,_,_⟩:=ins_get I.hok e
  have hn:mA m=none:=RelO.none_of (by rw [← l];exact r m)
  exact get_meth I.kIn O (c.get m) k.at_ k.fn hn h
theorem setattr_ok {y:V} {u:Value} {Q:Unit→Shared→Prop} (I:Inv X pins σ H s) (e:H a=some (.ins C dx fs)) (c:Cls X.K C) (n:NoAttr X.K C f) (hl:fs.length < 1000) (ry:RelV y u)
    (h:∀ s',Inv X pins σ (upd H a (.ins C dx (putF f y fs))) s'→Q () s'):wpAny (model X.prog X.w) A (setAttr (.ref a) f u) Q E s:=by
  obtain ⟨mA,O,r,wi,_,ho⟩:=ins_get I.hok e
  have hz:(fs.map (·.1)).length≤sizeLine:=by rw [List.length_map,sizeLine_eq];omega
  refine set_map I.kIn O c.sa c.po n.taker c.hd wi hz fun h' O' sb=>h _ ?_
  have hd:∃ o,h'.get? dx=some o:=let ⟨o,_,_,e',_⟩:=O'.ns;⟨o,e'⟩
  refine I.write (x:=a) (e:=dx) (by rw [e];exact True.intro) (.inr ho) (fun b q hb z=>(sb.2 b hb).trans z) hd ?_
  refine ⟨by rw [upd_ne O.ne];exact ho,?_,O.ne,O'.obj,_,O'.ns,fun g=>?_,fun g hg=>?_⟩
  · have:=length_putF f y fs;omega
  · show RelO ((putF f y fs).lookup g) (if g=f then some u else mA g)
    rw [lookup_putF]
    by_cases q:g=f
    · rw [if_pos q,if_pos q];exact ry
    · rw [if_neg q,if_neg q];exact r g
  · by_cases q:g=f
    · rw [q];exact (keys_putF f y fs).1
    · refine (keys_putF f y fs).2 g (wi g fun z=>hg ?_)
      show (if g=f then some u else mA g)=none
      rw [if_neg q];exact z
theorem Inv.made (I:Inv X pins σ H s):Inv X pins σ (upd (upd H s.heap.objs.size (.own (s.heap.objs.size + 1))) (s.heap.objs.size + 1) (.ins C s.heap.objs.size []))
    { s with heap:=(s.heap.push PySem.W.emptyDict).push (PySem.W.instObj C s.heap.objs.size) }:=by
  have e1:(s.heap.push PySem.W.emptyDict).get? s.heap.objs.size=some PySem.W.emptyDict:=Heap.get?_push_size s.heap rfl
  have e2:((s.heap.push PySem.W.emptyDict).push (PySem.W.instObj C s.heap.objs.size)).get? (s.heap.objs.size + 1)=some (PySem.W.instObj C s.heap.objs.size):=by
    have:=Heap.get?_push_size (s.heap.push PySem.W.emptyDict) (o:=PySem.W.instObj C s.heap.objs.size) rfl
    rwa [Heap.size_push] at this
  have e3:(s.heap.push PySem.W.emptyDict).Ns s.heap.objs.size (fun _=>none):=⟨PySem.W.emptyDict,#[],_,e1,rfl,(fun e he=>absurd he (by simp)),fun _=>rfl⟩
  have I1:=I.laid (a:=s.heap.objs.size) (o:=.own (s.heap.objs.size + 1)) (h':=s.heap.push PySem.W.emptyDict) (t':=s.toks) (fun b u q=>Heap.get?_push_of_some _ q) (Nat.le_refl _) ⟨_,e1⟩
  refine I1.laid (a:=s.heap.objs.size + 1) (o:=.ins C s.heap.objs.size []) (t':=s.toks) (fun b u q=>Heap.get?_push_of_some _ q) (Nat.le_of_eq (Heap.size_push _ _)) ?_
  have ne:s.heap.objs.size≠s.heap.objs.size + 1:=Nat.ne_of_lt (Nat.lt_succ_self _)
  refine ⟨by rw [upd_ne ne,upd_same],Nat.zero_le _,ne,e2,fun _=>none,(Heap.Ns1.of_empty e3).at fun o q=>Heap.get?_push_of_some _ q,fun _=>True.intro,fun y hy=>absurd rfl hy⟩
theorem attr_of {prog:Program} {w:World} {env:Env} {e:Expr} {f:Str} {pos:Pos} {s:Shared} {Q:Value→Shared→Prop} (hb:attributeBase e f env (eval e env)=eval e env)
    (h:wpAny (model prog w) A (eval e env) (fun o s₁=>wpAny (model prog w) A (getAttr o f true) Q E s₁) E s):wpAny (model prog w) A (eval (.Attribute e f pos) env) Q E s :=
  Attribute_any_ h (by rw [arm_eval_Attribute,hb])
end
def tFld (K:PySem.W.Frag) (ta:TE) (f:Str):TE:=fun σ H Q=>ta σ H fun x H1=>∃ a C dx fs v,x=.ref a∧H1 a=some (.ins C dx fs)∧Cls K C∧NoAttr K C f∧fs.lookup f=some v∧Q v H1
def sFld (K:PySem.W.Frag) (ta tv:TE) (f:Str):TS:=fun D σ H=>tv σ H fun y H1=>ta σ H1 fun x H2=>∃ a C dx fs,x=.ref a∧H2 a=some (.ins C dx fs)∧Cls K C∧NoAttr K C f∧fs.length < 1000 ∧
  D.nx σ (upd H2 a (.ins C dx (putF f y fs)))
section
variable {X:Cx} {o e value:Expr} {f:Str} {pos pos' tpos:Pos} {ta tv:TE}
theorem pe_fld (he:PE X e ta) (hb:attributeBase e f X.env (eval e X.env)=eval e X.env):PE X (.Attribute e f pos) (tFld X.K ta f):=by
  intro pins s σ H Q I h
  refine attr_of hb (thn (he pins s σ H _ I h) fun u s1 ⟨x,H1,I1,rx,a,C,dx,fs,v,ex,ea,c,n,l,q⟩=>?_)
  subst ex
  obtain rfl:u=Value.ref a:=rx
  exact getattr_ok I1 ea c n l fun u' s2 I2 ru=>⟨v,H1,I2,ru,q⟩
theorem ps_fld (ha:PE X o ta) (hv:PE X value tv) (hs:swapsWith value (some (.Attribute o f pos')) pos.line X.env=pure false):PS X (.Assign [.Attribute o f pos'] value pos) (sFld X.K ta tv f):=by
  intro pins s σ H D I h
  refine plainObj_wpAny_Assign_Attribute (thn (hv pins s σ H _ I h) fun u s1 ⟨y,H1,I1,ry,q⟩=>thn (ha pins s1 σ H1 _ I1 q) fun ov s2 ⟨x,H2,I2,rx,a,C,dx,fs,ex,ea,c,n,l,q2⟩=>?_) hs
  subst ex
  obtain rfl:ov=Value.ref a:=rx
  exact setattr_ok I2 ea c n l ry fun s3 I3=>⟨σ,_,I3,q2⟩
end
end L2
namespace L2
open PySem PySem.Spec PyProof.Rows
structure Room (k:Nat) (A:Around):Prop where
  hd:A.handled=none
  dp:A.depth + 3 * k + 5 < recursionLimit
  un:A.units + 16 * k + 200 < cLine
theorem Room.mono {j k:Nat} {A:Around} (r:Room k A) (h:j≤k):Room j A:=⟨r.hd,by have:=r.dp;omega,by have:=r.un;omega⟩
theorem Room.deeper {k:Nat} {A:Around} (r:Room (k + 1) A) (env:Env):Room k (A.deeper env) :=
  ⟨r.hd,by have:=r.dp;show A.depth + 1 + 3 * k + 5 < _;omega,by have:=r.un;show A.units + 3 + 16 * k + 200 < _;omega⟩
theorem make_depth {A:Around} {C:Addr} {us:List Value} {kw:List (Str × Value)}:(A.under (.builtin "type.__call__" ⟨.ref C :: us,kw⟩)).depth=A.depth + 1:=by
  first | rfl | simp [Around.under,Code.weight,Code.isCreation,Code.isGuard,Code.isCaller,Code.frames,Code.isFrame,guardIds]
theorem make_units {A:Around} {C:Addr} {us:List Value} {kw:List (Str × Value)}:(A.under (.builtin "type.__call__" ⟨.ref C :: us,kw⟩)).units=A.units + 1:=by
  first | rfl | simp [Around.under,Code.cUnits,Code.frames,Code.isFrame]
theorem Room.make {k:Nat} {A:Around} (r:Room (k + 1) A) (C:Addr) (us:List Value) (kw:List (Str × Value)):Room k (A.under (.builtin "type.__call__" ⟨.ref C :: us,kw⟩)) :=
  ⟨r.hd,by have:=r.dp;rw [make_depth];omega,by have:=r.un;rw [make_units];omega⟩
theorem Room.depth {k:Nat} {A:Around} (r:Room k A):A.depth < recursionLimit:=by have:=r.dp;omega
theorem Room.units {k:Nat} {A:Around} (r:Room k A):A.units + 64 < cLine:=by have:=r.un;omega
def tNil:TA:=fun _ H Q=>Q [] H
def tCons (ta:TE) (tr:TA):TA:=fun σ H Q=>ta σ H fun x H1=>tr σ H1 fun xs H2=>Q (x :: xs) H2
section
variable {X:Cx} {e:Expr} {es:List Expr} {te:TE} {t:TA} {pos:Pos}
theorem pa_nil:PA X [] tNil:=fun _ _ _ _ H Q I h=>Calls.spliced_nil ⟨[],H,I,.nil,h⟩
theorem pa_cons (ha:PE X e te) (hr:PA X es t) (hs:starEach (e :: es) X.env=(false,eval e X.env) :: starEach es X.env:=by rfl):PA X (e :: es) (tCons te t):=by
  intro pos pins s σ H Q I h
  rw [hs]
  show wpAny _ _ (spliced ((false,eval e X.env) :: backTo pos (starEach es X.env))) _ _ s
  refine Calls.spliced_cons (thn (ha pins s σ H _ I h) fun u s1 ⟨x,H1,I1,r1,q1⟩=>?_)
  exact thn (hr pos pins s1 σ H1 _ I1 q1) fun us s2 ⟨xs,H2,I2,r2,q2⟩=>⟨x :: xs,H2,I2,.cons r1 r2,q2⟩
def tTup (t:TA):TE:=fun σ H Q=>t σ H fun xs H1=>xs.length≤sizeLine∧∀ p,H1 p=none→Q (.ref p) (upd H1 p (.tup xs))
def tLst (t:TA):TE:=fun σ H Q=>t σ H fun xs H1=>xs.length≤sizeLine∧∀ p,H1 p=none→Q (.ref p) (upd H1 p (.lst xs))
theorem pe_tup {x1} (h:PA X es t):PE X (.Tuple es x1 pos) (tTup t):=by
  intro pins s σ H Q I hq
  refine wpAny_Tuple_spliced (thn (h pos pins s σ H _ I hq) fun us s1 ⟨xs,H1,I1,r,z,q⟩=>⟨by rw [← r.length];exact z,?_⟩)
  have hf:H1 s1.heap.objs.size=none:=I1.hok.fresh (Nat.le_refl _)
  refine ⟨.ref s1.heap.objs.size,upd H1 s1.heap.objs.size (.tup xs),I1.laid (t':=s1.toks) (fun b u e=>Heap.get?_push_of_some _ e) (Nat.le_refl _) ?_,rfl,q _ hf⟩
  exact ⟨z,us,r,⟨_,Heap.get?_push_size _ rfl,rfl,_,rfl⟩⟩
theorem pe_lst (h:PA X es t):PE X (.List es pos) (tLst t):=by
  intro pins s σ H Q I hq
  refine wpAny_List_spliced (thn (h pos pins s σ H _ I hq) fun us s1 ⟨xs,H1,I1,r,z,q⟩=>⟨by rw [← r.length];exact z,?_⟩)
  have hf:H1 s1.heap.objs.size=none:=I1.hok.fresh (Nat.le_refl _)
  refine ⟨.ref s1.heap.objs.size,upd H1 s1.heap.objs.size (.lst xs),I1.laid (t':=s1.toks) (fun b u e=>Heap.get?_push_of_some _ e) (Nat.le_refl _) ?_,rfl,q _ hf⟩
  exact ⟨z,us,0,r,Heap.get?_push_size _ rfl⟩
end
abbrev Sp:=List V→Hp→VK→XK→Prop
abbrev CXT:=List Env→Hp→Shared→XK→Value→Shared→Prop
structure Env0 (P:Program) (w:World) (K:PySem.W.Frag) (mg:Str→Option Value) (base:Heap) (A:Around) (outer:List Env) (s:Shared) (H:Hp):Prop where
  frames:A.frames=some outer
  mod:Mod K mg base
  bs:∀ b o,base.get? b=some o→s.heap.get? b=some o∧H b=none
  bsz:base.objs.size≤s.heap.objs.size
  funs:s.heap.FunFrames base outer
  frf:∀ b∈frs outer,H b=none
  hok:HOk P w H s.heap
  bare:AllBare s.gens
def CE (outer:List Env) (P:Program) (w:World) (H:Hp) (s:Shared) (Q:VK) (u:Value) (s':Shared):Prop :=
  ∃ v H',s'.os=s.os∧AllBare s'.gens∧Un (frs outer) [] H H' s.heap s'.heap∧HOk P w H' s'.heap∧RelV v u∧Q v H'
def CR (CX:CXT) (outer:List Env) (P:Program) (w:World) (H:Hp) (s:Shared) (Q:VK) (E:XK) (r:Result) (s':Shared):Prop :=
  match r with
  | .ok (.ret u)=>CE outer P w H s Q u s'
  | .ok _=>False
  | .error e=>CX outer H s E e s'
structure FnOk (P:Program) (w:World) (K:PySem.W.Frag) (mg:Str→Option Value) (base:Heap) (CX:CXT) (k:Nat) (f:Addr) (fd:FuncData) (ps:List Str) (sp:Sp):Prop where
  len:∀ vs H Q E,sp vs H Q E→vs.length=ps.length
  run:∀ (A:Around) (outer:List Env) (s:Shared) (H:Hp) (args:Args) (us:List Value) (vs:List V) (Q:VK) (E:XK),Room k A→Env0 P w K mg base A outer s H→BindsTo s fd args (ps.zip us)→Vals vs us→sp vs H Q E →
    codeAny (model P w) A (.call (.ref f) args) (CR CX outer P w H s Q E) s
theorem FnOk.mono {P:Program} {w:World} {K:PySem.W.Frag} {mg:Str→Option Value} {base:Heap} {CX:CXT} {j k:Nat} {f:Addr} {fd:FuncData} {ps:List Str} {sp:Sp} (F:FnOk P w K mg base CX j f fd ps sp) (h:j≤k) :
    FnOk P w K mg base CX k f fd ps sp:=⟨F.len,fun A outer s H args us vs Q E hr=>F.run A outer s H args us vs Q E (hr.mono h)⟩
theorem Env0.make {P:Program} {w:World} {K:PySem.W.Frag} {mg:Str→Option Value} {base:Heap} {A:Around} {outer:List Env} {s:Shared} {H:Hp} (e:Env0 P w K mg base A outer s H) (C:Addr) (us:List Value) (kw:List (Str × Value)) :
    Env0 P w K mg base (A.under (.builtin "type.__call__" ⟨.ref C :: us,kw⟩)) outer s H:=⟨by first | exact e.frames | (simpa [Around.under,Code.envs,Code.isFrame,pushEnvs] using e.frames),e.mod,e.bs,e.bsz,e.funs,e.frf,e.hok,e.bare⟩
section
variable {X:Cx} {pins:List (Addr × Obj)} {σ:St} {H:Hp} {s s':Shared}
theorem Inv.env0 (I:Inv X pins σ H s):Env0 X.prog X.w X.K X.mg X.base X.A X.stack s H :=
  ⟨I.ok.frames,I.ok.mod,I.bs,Nat.le_trans I.ok.bsz I.sz,I.stack,I.stkFree,I.hok,I.bare⟩
theorem Inv.after {Q:VK} {u:Value} (I:Inv X pins σ H s) (h:CE X.stack X.prog X.w H s Q u s'):EP X pins σ Q u s':=by
  obtain ⟨v,H',os,bare,un,hok,r,q⟩:=h
  obtain ⟨hh,g,d,t,os'⟩:=s'
  obtain rfl:os'=s.os:=os
  exact ⟨v,H',I.call (h':=hh) (g':=g) (d':=d) (t':=t) (ch:=[]) un hok bare (fun b z=>absurd z (by simp)),r,q⟩
end
def tCall (sp:Sp) (dvs:List V) (E:XK) (t:TA):TE:=fun σ H Q=>t σ H fun vs H1=>sp (vs++dvs) H1 Q E
def tMeth (C:Addr) (m:Str) (sp:Sp) (dvs:List V) (E:XK) (ta:TE) (t:TA):TE:=fun σ H Q=>ta σ H fun x H1=>∃ a dx fs,x=.ref a∧H1 a=some (.ins C dx fs)∧fs.lookup m=none ∧
  t σ H1 fun vs H2=>sp (x :: (vs++dvs)) H2 Q E
def tMake (C:Addr) (sp:Sp) (dvs:List V) (E:XK) (t:TA):TE:=fun σ H Q=>t σ H fun vs H1=>∀ x dx,H1 x=none→H1 dx=none→dx≠x →
  sp (.ref x :: (vs++dvs)) (upd (upd H1 dx (.own x)) x (.ins C dx [])) (fun v H2=>v=.non∧Q (.ref x) H2) E
def Binds (K:PySem.W.Frag) (fd:FuncData) (ps:List Str) (ds:List Value):Prop :=
  ∀ (s:Shared) (us:List Value),K.In s.heap→(us++ds).length=ps.length→BindsTo s fd ⟨us,[]⟩ (ps.zip (us++ds))
theorem Binds.all {K:PySem.W.Frag} {fd:FuncData} {ps:List Str} (h:∀ us:List Value,us.length=ps.length→bindArgs fd ⟨us,[]⟩=pure (ps.zip us)):Binds K fd ps []:=fun s us _ hl=>by
  rw [List.append_nil] at hl ⊢
  exact .of_eq (h us hl)
def Passes (CX:CXT) (X:Cx) (E:XK):Prop:=∀ (pins:List (Addr × Obj)) (σ:St) (H:Hp) (s:Shared) (e:Value) (s':Shared),Inv X pins σ H s→CX X.stack H s E e s'→X.xe e s'
section
variable {X:Cx} {CX:CXT} {k:Nat} {f C:Addr} {fd:FuncData} {ps:List Str} {sp:Sp} {dvs:List V} {ds:List Value} {E:XK} {x m:Str} {p pos apos:Pos} {e o:Expr} {es:List Expr} {ta:TE} {t:TA}
theorem run_fn {pins:List (Addr × Obj)} {σ:St} {H:Hp} {s:Shared} {Q:VK} {us:List Value} {vs:List V} (F:FnOk X.prog X.w X.K X.mg X.base CX k f fd ps sp) (hr:Room k X.A) (hb:Binds X.K fd ps ds) (hd:Vals dvs ds) (hx:Passes CX X E)
    (I:Inv X pins σ H s) (r:Vals vs us) (h:sp (vs++dvs) H Q E):wpAny (model X.prog X.w) X.A (call (.ref f) us) (EP X pins σ Q) X.xe s:=by
  have r2:Vals (vs++dvs) (us++ds):=r.append hd
  have hl:(us++ds).length=ps.length:=by rw [← r2.length];exact F.len _ _ _ _ h
  refine wpAny_call (codeAny_mono (F.run X.A X.stack s H ⟨us,[]⟩ (us++ds) (vs++dvs) Q E hr I.env0 (hb s us I.kIn hl) r2 h) fun r s' hq=>?_)
  cases r with
  | error e=>exact hx pins σ H s e s' I hq
  | ok fl =>
    cases fl with
    | ret u=>exact I.after hq
    | next=>exact False.elim hq
    | brk=>exact False.elim hq
    | cont=>exact False.elim hq
theorem pe_call (F:FnOk X.prog X.w X.K X.mg X.base CX k f fd ps sp) (hr:Room k X.A) (hg:Gl X x) (hm:X.mg x=some (.ref f)) (hk:PySem.W.keepIn X.K (.ref f)=true) (hb:Binds X.K fd ps ds) (hd:Vals dvs ds) (hx:Passes CX X E)
    (ha:PA X (e :: es) t) (hdb:(x == ("__debug__":Str))=false:=by decide) (he:starEach (e :: es) X.env=(false,eval e X.env) :: starEach es X.env:=by rfl) (hpl:(backTo pos (starEach es X.env)).any (·.1)=false:=by rfl) :
    PE X (.Call (.Name x p) (e :: es) [] pos) (tCall sp dvs E t):=by
  intro pins s σ H Q I h
  refine wpAny_Call_Name_kw (ld_glob I hg hm ?_ hdb)
  refine PySem.W.callWith_K (h₀:=X.base) I.ok.mod.kin hk (thn (ha pos pins s σ H _ I h) fun us s1 ⟨vs,H1,I1,r,q⟩=>⟨I1.kIn,?_⟩) he hpl
  exact run_fn F hr hb hd hx I1 r q
theorem pe_meth {pl:Sem Bool} (he:PE X o ta) (c:Cls X.K C) (hm:Meth X.K C m f) (F:FnOk X.prog X.w X.K X.mg X.base CX k f fd ps sp) (hr:Room k X.A) (hb:Binds X.K fd ps ds) (hd:Vals dvs ds) (hx:Passes CX X E) (ha:PA X (e :: es) t)
    (hst:starEach (e :: es) X.env=(false,eval e X.env) :: starEach es X.env:=by rfl) (hpl:(backTo pos (starEach es X.env)).any (·.1)=false:=by rfl)
    (ht:eval (.Call (.Attribute o m apos) (e :: es) [] pos) X.env=(do
      let ov ← eval o X.env
      standAt apos.atName
      let (f,first) ← holding [ov] (getMethod ov m pl)
      callWith pos f first (backTo pos (starEach (e :: es) X.env)) (backToKw pos (keywordEach [] X.env))):=by rfl) :
    PE X (.Call (.Attribute o m apos) (e :: es) [] pos) (tMeth C m sp dvs E ta t):=by
  intro pins s σ H Q I h
  refine PySem.W.methodCall_KW (pl:=pl) (thn (he pins s σ H _ I h) fun u s1 ⟨x,H1,I1,rx,a,dx,fs,ex,ea,l,q⟩=>?_) ht
  subst ex
  obtain rfl:u=Value.ref a:=rx
  refine getmeth_ok I1 ea c hm l ?_
  refine PySem.W.callWith_K (first:=[.ref a]) (h₀:=X.base) I.ok.mod.kin hm.kp (thn (ha pos pins s1 σ H1 _ I1 q) fun us s2 ⟨vs,H2,I2,r,q2⟩=>⟨I2.kIn,?_⟩) hst hpl
  exact run_fn (us:=.ref a :: us) (vs:=.ref a :: vs) F hr hb hd hx I2 (.cons rfl r) q2
theorem pe_meth0 {pl:Sem Bool} (he:PE X o ta) (c:Cls X.K C) (hm:Meth X.K C m f) (F:FnOk X.prog X.w X.K X.mg X.base CX k f fd ps sp) (hr:Room k X.A) (hb:Binds X.K fd ps ds) (hd:Vals dvs ds) (hx:Passes CX X E)
    (ht:eval (.Call (.Attribute o m apos) [] [] pos) X.env=(do
      let ov ← eval o X.env
      standAt apos.atName
      let (f,first) ← holding [ov] (getMethod ov m pl)
      callWith pos f first (backTo pos (starEach [] X.env)) (backToKw pos (keywordEach [] X.env))):=by rfl) :
    PE X (.Call (.Attribute o m apos) [] [] pos) (tMeth C m sp dvs E ta tNil):=by
  intro pins s σ H Q I h
  refine PySem.W.methodCall_KW (pl:=pl) (thn (he pins s σ H _ I h) fun u s1 ⟨x,H1,I1,rx,a,dx,fs,ex,ea,l,q⟩=>?_) ht
  subst ex
  obtain rfl:u=Value.ref a:=rx
  refine getmeth_ok I1 ea c hm l ?_
  exact PySem.W.callWith_K0 (first:=[.ref a]) I1.kIn hm.kp (run_fn (us:=[.ref a]) (vs:=[.ref a]) F hr hb hd hx I1 (.cons rfl .nil) q)
structure Mk (K:PySem.W.Frag) (C f:Addr):Prop where
  makes:PySem.W.makesIn K C=true
  init:PySem.W.findIn K (.ref C) "__init__"=some (some (.ref f))
  fn:PySem.W.isFn K (.ref f)=true
  kp:PySem.W.keepIn K (.ref C)=true
theorem run_make {pins:List (Addr × Obj)} {σ:St} {H:Hp} {s:Shared} {Q:VK} {us:List Value} {vs:List V} (M:Mk X.K C f) (F:FnOk X.prog X.w X.K X.mg X.base CX k f fd ps sp) (hr:Room (k + 1) X.A) (hb:Binds X.K fd ps ds) (hd:Vals dvs ds)
    (hx:Passes CX X E) (I:Inv X pins σ H s) (r:Vals vs us)
    (h:∀ x dx,H x=none→H dx=none→dx≠x→sp (.ref x :: (vs++dvs)) (upd (upd H dx (.own x)) x (.ins C dx [])) (fun v H2=>v=.non∧Q (.ref x) H2) E) :
    wpAny (model X.prog X.w) X.A (call (.ref C) us) (EP X pins σ Q) X.xe s:=by
  have hq:=h (s.heap.objs.size + 1) s.heap.objs.size (I.hok.fresh (Nat.le_succ _)) (I.hok.fresh (Nat.le_refl _)) (Nat.ne_of_lt (Nat.lt_succ_self _))
  have I2:=Inv.made (C:=C) I
  have r2:Vals (V.ref (s.heap.objs.size + 1) :: (vs++dvs)) (Value.ref (s.heap.objs.size + 1) :: (us++ds)):=.cons rfl (r.append hd)
  have hl:(Value.ref (s.heap.objs.size + 1) :: us++ds).length=ps.length:=by
    have e:=r2.length
    rw [F.len _ _ _ _ hq] at e
    exact e.symm
  refine wpAny_call (make_map (f:=f) I.kIn M.makes M.init (beq_iff_eq.mp M.fn) (codeAny_mono (F.run _ X.stack _ _ ⟨Value.ref (s.heap.objs.size + 1) :: us,[]⟩ (Value.ref (s.heap.objs.size + 1) :: (us++ds)) _ _ E (hr.make C us [])
    (I2.env0.make C us []) (hb _ (Value.ref (s.heap.objs.size + 1) :: us) I2.kIn hl) r2 hq) fun r s' hq'=>?_))
  cases r with
  | error e=>exact hx pins σ _ _ e s' I2 hq'
  | ok fl =>
    cases fl with
    | ret u =>
      obtain ⟨v,H',I3,rv,ev,q3⟩:=I2.after hq'
      subst ev
      exact ⟨rv,⟨V.ref (s.heap.objs.size + 1),H',I3,rfl,q3⟩⟩
    | next=>exact False.elim hq'
    | brk=>exact False.elim hq'
    | cont=>exact False.elim hq'
theorem pe_make (M:Mk X.K C f) (F:FnOk X.prog X.w X.K X.mg X.base CX k f fd ps sp) (hr:Room (k + 1) X.A) (hg:Gl X x) (hm:X.mg x=some (.ref C)) (hb:Binds X.K fd ps ds) (hd:Vals dvs ds) (hx:Passes CX X E)
    (ha:PA X (e :: es) t) (hdb:(x == ("__debug__":Str))=false:=by decide) (he:starEach (e :: es) X.env=(false,eval e X.env) :: starEach es X.env:=by rfl) (hpl:(backTo pos (starEach es X.env)).any (·.1)=false:=by rfl) :
    PE X (.Call (.Name x p) (e :: es) [] pos) (tMake C sp dvs E t):=by
  intro pins s σ H Q I h
  refine wpAny_Call_Name_kw (ld_glob I hg hm ?_ hdb)
  refine PySem.W.callWith_K (h₀:=X.base) I.ok.mod.kin M.kp (thn (ha pos pins s σ H _ I h) fun us s1 ⟨vs,H1,I1,r,q⟩=>⟨I1.kIn,?_⟩) he hpl
  exact run_make M F hr hb hd hx I1 r q
theorem pe_make0 (M:Mk X.K C f) (F:FnOk X.prog X.w X.K X.mg X.base CX k f fd ps sp) (hr:Room (k + 1) X.A) (hg:Gl X x) (hm:X.mg x=some (.ref C)) (hb:Binds X.K fd ps ds) (hd:Vals dvs ds) (hx:Passes CX X E)
    (hdb:(x == ("__debug__":Str))=false:=by decide):PE X (.Call (.Name x p) [] [] pos) (tMake C sp dvs E tNil):=by
  intro pins s σ H Q I h
  refine wpAny_Call_Name_kw (ld_glob I hg hm ?_ hdb)
  exact PySem.W.callWith_K0 I.kIn M.kp (run_make (us:=[]) M F hr hb hd hx I .nil h)
end
structure FnScope (N P:List Str) (sc:Scope):Prop where
  kind:sc.kind=.function
  co:sc.isCoroutine=false
  gen:sc.isGenerator=false
  nd:N.Nodup
  pre:N.take P.length=P
  par:∀ x∈P,sc.names.lookup x=some .local∨sc.names.lookup x=some .cell
  nofree:∀ y∈sc.names,y.2≠.free
theorem bindL_out {kindOf:Str→Option NameKind} {x:Str}:∀ {binds:List (Str × Value)} {m:Str→Option Value},(∀ v,(x,v) ∉ binds)→bindL kindOf binds m x=m x
  | [],_,_=>rfl
  | (n,v) :: r,m,h=>by
    unfold bindL
    rw [bindL_out fun w hw=>h w (List.mem_cons_of_mem _ hw)]
    split
    · have:x≠n:=by rintro rfl;exact h v List.mem_cons_self
      simp [this]
    · rfl
theorem bindC_out {kindOf:Str→Option NameKind} {x:Str}:∀ {binds:List (Str × Value)} {m:Str→Option Value},(∀ v,(x,v) ∉ binds)→bindC kindOf binds m x=m x
  | [],_,_=>rfl
  | (n,v) :: r,m,h=>by
    unfold bindC
    rw [bindC_out fun w hw=>h w (List.mem_cons_of_mem _ hw)]
    split
    · rfl
    · have:x≠n:=by rintro rfl;exact h v List.mem_cons_self
      simp [this]
theorem bindL_get {kindOf:Str→Option NameKind} {x:Str} {v:Value}:∀ {P:List Str} {vs:List Value} {i:Nat} {m:Str→Option Value},P.Nodup→P[i]?=some x→vs[i]?=some v→kindOf x=some .local →
    bindL kindOf (P.zip vs) m x=some v
  | [],_,_,_,_,h,_,_=>by simp at h
  | _ :: _,[],_,_,_,_,h,_=>by simp at h
  | p :: P,w :: vs,0,m,nd,h1,h2,hk=>by
    simp at h1 h2;subst h1;subst h2
    show bindL kindOf ((p,w) :: P.zip vs) m p=_
    unfold bindL
    rw [bindL_out fun v hv=>(List.nodup_cons.mp nd).1 (List.of_mem_zip hv).1,if_pos hk]
    simp
  | p :: P,w :: vs,i + 1,m,nd,h1,h2,hk=>by
    show bindL kindOf ((p,w) :: P.zip vs) m x=_
    unfold bindL
    exact bindL_get (i:=i) (List.nodup_cons.mp nd).2 (by simpa using h1) (by simpa using h2) hk
theorem bindC_get {kindOf:Str→Option NameKind} {x:Str} {v:Value}:∀ {P:List Str} {vs:List Value} {i:Nat} {m:Str→Option Value},P.Nodup→P[i]?=some x→vs[i]?=some v→kindOf x≠some .local →
    bindC kindOf (P.zip vs) m x=some v
  | [],_,_,_,_,h,_,_=>by simp at h
  | _ :: _,[],_,_,_,_,h,_=>by simp at h
  | p :: P,w :: vs,0,m,nd,h1,h2,hk=>by
    simp at h1 h2;subst h1;subst h2
    show bindC kindOf ((p,w) :: P.zip vs) m p=_
    unfold bindC
    rw [bindC_out fun v hv=>(List.nodup_cons.mp nd).1 (List.of_mem_zip hv).1,if_neg hk]
    simp
  | p :: P,w :: vs,i + 1,m,nd,h1,h2,hk=>by
    show bindC kindOf ((p,w) :: P.zip vs) m x=_
    unfold bindC
    exact bindC_get (i:=i) (List.nodup_cons.mp nd).2 (by simpa using h1) (by simpa using h2) hk
def start (N:List Str) (vs:List V):St:=vs.map some++List.replicate (N.length - vs.length) none
def cxOf (CX:CXT) (P:Program) (w:World) (K:PySem.W.Frag) (mg:Str→Option Value) (base:Heap) (N:List Str) (qual:Str) (scope:Scope) (f:Addr) (cd:Value) (A:Around) (outer:List Env) (s:Shared) (H:Hp) (E:XK):Cx where
  prog:=P
  w:=w
  K:=K
  mg:=mg
  base:=base
  A:=A.deeper (envOfC qual scope s.heap.objs.size f cd)
  N:=N
  s_0:=s
  H_0:=H
  env:=envOfC qual scope s.heap.objs.size f cd
  outer:=outer
  stack:=envOfC qual scope s.heap.objs.size f cd :: outer
  ex:=[]
  calm:=true
  fn:=fun _=>true
  pn:=[]
  xe:=fun e s'=>wpAny (model P w) (A.deeper (envOfC qual scope s.heap.objs.size f cd)) (leaving (envOfC qual scope s.heap.objs.size f cd) e) (fun _ s''=>CX outer H s E e s'') (fun e' s''=>CX outer H s E e' s'') s'
theorem cell_has {sc:Scope} {n:Nat} {x:Str} (h:sc.names.lookup x=some .cell):∃ c,(cellsFrom n sc.names []).lookup x=some c:=by
  have q:=PySem.W.cellsFrom_some sc.names n [] (.inl h)
  exact Option.isSome_iff_exists.mp q
theorem inv_start {CX:CXT} {P:Program} {w:World} {K:PySem.W.Frag} {mg:Str→Option Value} {base:Heap} {N ps:List Str} {qual:Str} {scope:Scope} {f:Addr} {cd:Value} {A:Around} {outer:List Env} {s s1:Shared} {H:Hp} {E:XK} {us:List Value} {vs:List V}
    (S:FnScope N ps scope) (hd:A.handled=none) (e0:Env0 P w K mg base A outer s H) (hl:vs.length=ps.length) (r:Vals vs us)
    (x:InCallC s s.heap.objs.size (bindL (envOfC qual scope s.heap.objs.size f cd).kindOf (ps.zip us) fun _=>none) (cellsFrom (s.heap.objs.size + 1) scope.names []) (bindC (envOfC qual scope s.heap.objs.size f cd).kindOf (ps.zip us) fun _=>none) s1) :
    Inv (cxOf CX P w K mg base N qual scope f cd A outer s H E) [] (start N vs) H s1:=by
  have hpl:ps.length≤N.length:=by have:=congrArg List.length S.pre;rw [List.length_take] at this;omega
  obtain ⟨h1,tk,rfl,hk⟩:=x.done
  have noA:∀ b:Addr,b ∉ (cxOf CX P w K mg base N qual scope f cd A outer s H E).ex:=fun b z=>absurd (show b∈([]:List Addr) from z) (by simp)
  refine ⟨⟨e0.mod,S.kind,rfl,rfl,Nat.le_refl _,fun y z c h1 h2=>?_,fun y hy=>?_,fun y c _ h=>?_,fun _=>hd,Around.frames_deeper e0.frames,.inr ⟨rfl,rfl⟩,fun b z=>absurd z (noA b),e0.bs,e0.bsz,fun b _ _=>noA b,fun b z=>absurd z (noA b),e0.funs,e0.frf⟩,
    rfl,e0.bare,Un.kept hk,⟨_,x.toInCall.ns,fun i y v h1 h2 h3=>?_⟩,fun y c h=>⟨_,x.cell y c h⟩,e0.hok.fresh (Nat.le_refl _),fun y c h=>?_,fun p hp=>absurd (show p∈([]:List (Addr × Obj)) from hp) (by simp),e0.hok.kept hk,?_⟩
  · exact name_of_addr x.apart (PySem.mem_of_lookup h1) (PySem.mem_of_lookup h2)
  · have hy:scope.names.lookup y=some .cell∨scope.names.lookup y=some .free:=hy
    rcases hy with hy | hy
    · exact cell_has hy
    · exact absurd rfl (S.nofree _ (PySem.mem_of_lookup hy))
  · exact Nat.le_of_lt (x.above y c (PySem.mem_of_lookup h))
  · have hi:i < vs.length:=by
      unfold start at h2
      by_cases hi:i < vs.length
      · exact hi
      · rw [List.getElem?_append_right (by simpa using hi)] at h2
        rw [List.getElem?_replicate] at h2
        split at h2 <;> cases h2
    have ha:vs[i]?=some v:=by
      unfold start at h2
      rw [List.getElem?_append_left (by simpa using hi),List.getElem?_map] at h2
      cases e:vs[i]? with
      | none=>rw [e] at h2;cases h2
      | some a=>rw [e] at h2;cases h2;rfl
    obtain ⟨u,hu,rv⟩:=r.get ha
    have hp:ps[i]?=some y:=by
      rw [← S.pre,List.getElem?_take_of_lt (by omega)];exact h1
    have ndP:ps.Nodup:=by rw [← S.pre];exact S.nd.sublist (List.take_sublist _ _)
    refine ⟨u,rv,?_⟩
    rcases S.par y (List.mem_of_getElem? hp) with k | k
    · exact .inl ⟨k,bindL_get ndP hp hu k⟩
    · obtain ⟨c,e⟩:=cell_has (n:=s.heap.objs.size + 1) k
      refine .inr ⟨.inl k,c,e,?_⟩
      have q:=x.cell y c e
      rw [bindC_get ndP hp hu (by show scope.names.lookup y≠_;rw [k];decide)] at q
      exact q
  · exact e0.hok.fresh (Nat.le_of_lt (x.above y c (PySem.mem_of_lookup h)))
  · unfold start
    show _=N.length
    rw [List.length_append,List.length_map,List.length_replicate]
    omega
theorem fn_of {CX:CXT} {P:Program} {w:World} {K:PySem.W.Frag} {mg:Str→Option Value} {base:Heap} {k:Nat} {f:Addr} {name qual:Str} {params:Arguments} {body:List Stmt} {scope:Scope} {dV kV doc pm cdv ct oc:Value} {an od:Option Addr}
    {osl:Array (Option Value)} {N ps:List Str} {sp:Sp} (lk:K.lookup f=some ⟨oc,od,.func (PySem.W.fnOf name qual params body scope dV kV doc pm an cdv ct),osl⟩) (hcd:PySem.W.codeIn K cdv qual=true) (S:FnScope N ps scope)
    (len:∀ vs H Q E,sp vs H Q E→vs.length=ps.length)
    (hbody:∀ (A:Around) (outer:List Env) (s:Shared) (H:Hp) (vs:List V) (Q:VK) (E:XK),Room k (A.deeper (envOfC qual scope s.heap.objs.size f cdv))→sp vs H Q E →
      ∃ t,PSs (cxOf CX P w K mg base N qual scope f cdv A outer s H E) body t∧t { nx:=fun _ H'=>Q .non H',rt:=Q } (start N vs) H) :
    FnOk P w K mg base CX (k + 1) f (PySem.W.fnOf name qual params body scope dV kV doc pm an cdv ct) ps sp:=by
  refine ⟨len,fun A outer s H args us vs Q E hr e0 hb r hsp=>?_⟩
  have hl:=len _ _ _ _ hsp
  have KX:K.In s.heap:=e0.mod.kin.keeps fun b o e=>(e0.bs b o e).1
  have lim:s.heap.NoLimit:=e0.mod.nolimit.keeps fun b o e=>(e0.bs b o e).1
  have hkind:∀ y∈ps.zip us,scope.names.lookup y.1=some .local∨(scope.names.lookup y.1=some .cell∧((cellsFrom (s.heap.objs.size + 1) scope.names []).lookup y.1).isSome=true):=fun ⟨n,v⟩ hy=>by
    rcases S.par n (List.of_mem_zip hy).1 with q | q
    · exact .inl q
    · exact .inr ⟨q,PySem.W.cellsFrom_some _ _ _ (.inl q)⟩
  refine codeAny_call_function hr.depth (KX _ _ lk) rfl S.co S.gen rfl (PySem.W.codeRec_of KX hcd) (hb _ _ _ _ ?_)
  refine wpAny_newFunctionEnv_cells S.kind hkind fun env he s1 x=>?_
  subst he
  refine ⟨lim.keeps x.toInCall.keep,codeAny_func ?_⟩
  obtain ⟨t,ht,hq⟩:=hbody A outer s H vs Q E (hr.deeper _) hsp
  have I:Inv (cxOf CX P w K mg base N qual scope f cdv A outer s H E) [] (start N vs) H s1:=inv_start S hr.hd e0 hl r x
  refine wpAny_mono (ht [] s1 (start N vs) H _ I hq) (fun fl s' hs=>?_) fun e s' hs=>hs
  have fin:∀ {σ':St} {H':Hp} {v:V} {u:Value},Inv (cxOf CX P w K mg base N qual scope f cdv A outer s H E) [] σ' H' s'→RelV v u→Q v H'→CE outer P w H s Q u s' :=
    fun {σ' H' v u} J rv q=>⟨v,H',J.os,J.bare,J.base,J.hok,rv,q⟩
  cases fl with
  | ret u =>
    obtain ⟨v,σ',H',J,rv,q⟩:=hs
    exact fin J rv q
  | next =>
    obtain ⟨σ',H',J,q⟩:=hs
    exact fin (v:=V.non) (u:=Value.none) J rfl q
  | brk =>
    obtain ⟨_,_,_,q⟩:=hs
    exact False.elim q
  | cont =>
    obtain ⟨_,_,_,q⟩:=hs
    exact False.elim q
end L2
namespace L2
open PySem PySem.Spec PyProof.Rows
section
variable {X:Cx} {x:Str} {p pos:Pos} {e:Expr} {es:List Expr} {t:TA} {id T:String} {r:List V→Hp→VK→Prop}
def tCB (r:List V→Hp→VK→Prop) (t:TA):TE:=fun σ H Q=>t σ H fun vs H1=>r vs H1 Q
theorem pe_callB (hc:CallR X (.builtin id) r) (hg:Gl X x) (hm:X.mg x=none) (hv:bootBuiltins x=some (.builtin id)) (ha:PA X (e :: es) t) (hn:x≠"__name__":=by decide) (hdb:(x == ("__debug__":Str))=false:=by decide)
    (he:starEach (e :: es) X.env=(false,eval e X.env) :: starEach es X.env:=by rfl) (hpl:(backTo pos (starEach es X.env)).any (·.1)=false:=by rfl):PE X (.Call (.Name x p) (e :: es) [] pos) (tCB r t):=by
  intro pins s σ H Q I h
  refine wpAny_Call_Name_kw (ld_blt I hg hm hv ?_ hn hdb)
  exact PyProof.Rows.callWith_builtin1 (thn (ha pos pins s σ H _ I h) fun us s1 ⟨vs,H1,I1,r1,q1⟩=>hc pins s1 σ H1 vs us Q I1 r1 q1) he hpl
theorem pe_callTy (hc:CallR X (.type T) r) (hg:Gl X x) (hm:X.mg x=none) (hv:bootBuiltins x=some (.type T)) (ha:PA X (e :: es) t) (hn:x≠"__name__":=by decide) (hdb:(x == ("__debug__":Str))=false:=by decide)
    (he:starEach (e :: es) X.env=(false,eval e X.env) :: starEach es X.env:=by rfl) (hpl:(backTo pos (starEach es X.env)).any (·.1)=false:=by rfl):PE X (.Call (.Name x p) (e :: es) [] pos) (tCB r t):=by
  intro pins s σ H Q I h
  refine wpAny_Call_Name_kw (ld_blt I hg hm hv ?_ hn hdb)
  exact PyProof.Rows.callWith_type1 (thn (ha pos pins s σ H _ I h) fun us s1 ⟨vs,H1,I1,r1,q1⟩=>hc pins s1 σ H1 vs us Q I1 r1 q1) he hpl
end
end L2
namespace HT
open PySem PyProof.Rows
section
variable {prog:Program} {w:World} {A:Around} {E:Value→Shared→Prop} {s:Shared}
def sIx (n d:Nat):Option Int→Nat
  | none=>d
  | some v=>if v < 0 then (v + (n:Int)).toNat else min v.toNat n
theorem sIx_nat (n d k:Nat):sIx n d (some (k:Int))=min k n:=by
  show (if (k:Int) < 0 then ((k:Int) + (n:Int)).toNat else min (k:Int).toNat n)=min k n
  rw [if_neg (by omega),Int.toNat_natCast]
end
end HT
namespace L2
open PySem PySem.Spec PyProof.Rows
abbrev TO:=St→Hp→(Option Int→Hp→Prop)→Prop
def PO (X:Cx) (e:Option Expr) (t:TO):Prop :=
  ∀ (pins:List (Addr × Obj)) (s:Shared) (σ:St) (H:Hp) (Q:Option Int→Hp→Prop),Inv X pins σ H s→t σ H Q →
    wpAny (model X.prog X.w) X.A (evalPart e X.env) (fun u s'=>∃ o H',Inv X pins σ H' s'∧IsPart u o∧Q o H') X.xe s
def tNoPart:TO:=fun _ H Q=>Q none H
def tPart (t:TE):TO:=fun σ H Q=>t σ H fun x H1=>∃ i,x=.int i∧Q (some i) H1
section
variable {X:Cx} {e:Expr} {te:TE} {lo hi:Option Expr} {tl th:TO} {pos p2:Pos}
theorem po_none:PO X none tNoPart:=by
  intro pins s σ H Q I h
  rw [evalPart_none]
  exact wpAny_pure ⟨none,H,I,.none,h⟩
theorem po_some (h:PE X e te):PO X (some e) (tPart te):=by
  intro pins s σ H Q I hw
  rw [evalPart_some]
  refine thn (h pins s σ H _ I hw) fun u s1 ⟨x,H1,I1,r1,q1⟩=>?_
  obtain ⟨i,rfl,q⟩:=q1
  obtain ⟨t,rfl⟩:=r1
  exact ⟨some i,H1,I1,.int i t,q⟩
def SlR (X:Cx) (r:V→Option Int→Option Int→Hp→VK→Prop):Prop :=
  ∀ (pins:List (Addr × Obj)) (s:Shared) (σ:St) (H:Hp) (x:V) (v vl vu:Value) (lo hi:Option Int) (sl:Addr) (Q:VK),Inv X pins σ H s→RelV x v→s.heap.IsSliceOf sl vl vu .none→IsPart vl lo→IsPart vu hi→r x lo hi H Q →
    ∃ T id,typeLookup (.type T) "__getitem__"=pure (some (.builtin id))∧s.TypeIs v T∧wpAny (model X.prog X.w) X.A (getItem v (.ref sl)) (EP X pins σ Q) X.xe s
def tSl (r:V→Option Int→Option Int→Hp→VK→Prop) (te:TE) (tl th:TO):TE:=fun σ H Q=>te σ H fun x H1=>tl σ H1 fun l H2=>th σ H2 fun u H3=>r x l u H3 Q
theorem pe_slice {r:V→Option Int→Option Int→Hp→VK→Prop} (hr:SlR X r) (he:PE X e te) (hl:PO X lo tl) (hu:PO X hi th):PE X (.Subscript e (.Slice lo hi none p2) pos) (tSl r te tl th):=by
  intro pins s σ H Q I h
  refine Subscript_ (thn (he pins s σ H _ I h) fun v s1 ⟨x,H1,I1,r1,q1⟩=>?_)
  refine wpAny_Slice (thn (hl pins s1 σ H1 _ I1 q1) fun vl s2 ⟨l,H2,I2,pl,q2⟩=>thn (hu pins s2 σ H2 _ I2 q2) fun vu s3 ⟨u,H3,I3,pu,q3⟩=>?_)
  rw [evalPart_none]
  refine wpAny_pure ?_
  have I4:Inv X pins σ H3 { s3 with heap:=s3.heap.push { cls:=.type "slice",data:=.fields #[vl,vu,.none] } }:=I3.kept (t':=s3.toks) fun b ob q=>Heap.get?_push_of_some _ q
  obtain ⟨T,id,hT,ht,hg⟩:=hr pins { s3 with heap:=s3.heap.push { cls:=.type "slice",data:=.fields #[vl,vu,.none] } } σ H3 x v vl vu l u s3.heap.objs.size Q I4 r1 (Heap.IsSliceOf.new ..) pl pu q3
  show wpAny (model X.prog X.w) X.A (subscriptTail e (.Slice lo hi none p2) v (.ref s3.heap.objs.size)) (EP X pins σ Q) X.xe { s3 with heap:=s3.heap.push { cls:=.type "slice",data:=.fields #[vl,vu,.none] } }
  exact tail_any (ops:=[.ref s3.heap.objs.size,v]) ht hT hg (by with_unfolding_all rfl)
def cutV (xs:List V) (lo hi:Option Int):List V:=(xs.drop (HT.sIx xs.length 0 lo)).take (HT.sIx xs.length xs.length hi - HT.sIx xs.length 0 lo)
theorem cutV_length (xs:List V) (lo hi:Option Int):(cutV xs lo hi).length≤xs.length:=by
  unfold cutV
  rw [List.length_take,List.length_drop]
  omega
end
end L2
namespace L2
open PySem PySem.Spec PyProof.Rows
def ixN (n:Nat) (i:Int):Option Nat:=if 0≤i then (if i < n then some i.toNat else none) else if -(n:Int)≤i then some (i + n).toNat else none
def atI {α:Type} (xs:List α) (i:Int):Option α:=(ixN xs.length i).bind fun j=>xs[j]?
theorem ixN_seq {n:Nat} {i:Int} {j:Nat} (h:ixN n i=some j):seqIndex? i n=some j∧j < n∧-(n:Int)≤i∧i < n:=by
  unfold ixN at h
  by_cases h0:0≤i
  · rw [if_pos h0] at h
    by_cases h1:i < n
    · rw [if_pos h1] at h
      have e:i.toNat=j:=Option.some.inj h
      exact ⟨by rw [seqIndex_of h0 h1,e],by omega,by omega,h1⟩
    · rw [if_neg h1] at h;cases h
  · rw [if_neg h0] at h
    by_cases h1:-(n:Int)≤i
    · rw [if_pos h1] at h
      have e:(i + n).toNat=j:=Option.some.inj h
      exact ⟨by rw [seqIndex_neg (by omega) h1,e],by omega,h1,by omega⟩
    · rw [if_neg h1] at h;cases h
theorem atI_get {α:Type} {xs:List α} {i:Int} {v:α} (h:atI xs i=some v):∃ j,seqIndex? i xs.length=some j∧xs[j]?=some v∧j < xs.length∧-(xs.length:Int)≤i∧i < xs.length:=by
  unfold atI at h
  cases e:ixN xs.length i with
  | none=>rw [e] at h;cases h
  | some j =>
    rw [e] at h
    obtain ⟨h1,h2,h3,h4⟩:=ixN_seq e
    exact ⟨j,h1,h,h2,h3,h4⟩
theorem atI_nat {α:Type} {xs:List α} {j:Nat} {v:α} (h:xs[j]?=some v):atI xs (j:Int)=some v:=by
  have hj:j < xs.length:=(List.getElem?_eq_some_iff.mp h).1
  have e:ixN xs.length (j:Int)=some j:=by
    unfold ixN
    rw [if_pos (by omega),if_pos (by omega)];simp
  unfold atI;rw [e];exact h
def PlainIx (b:Expr):Prop:=∀ o i,subscripted b false o i=operate [o,i] (getItem o i)
def IxR (X:Cx) (r:R2):Prop :=
  ∀ (value slice:Expr) (pins:List (Addr × Obj)) (s:Shared) (σ:St) (H:Hp) (x y:V) (v u:Value) (Q:VK),Inv X pins σ H s→RelV x v→RelV y u→r x y H Q →
    subscripted slice false v u=operate [v,u] (getItem v u)→wpAny (model X.prog X.w) X.A (subscriptTail value slice v u) (EP X pins σ Q) X.xe s
def MtR (X:Cx) (id:String) (r:V→List V→Hp→VK→Prop):Prop :=
  ∀ (pins:List (Addr × Obj)) (s:Shared) (σ:St) (H:Hp) (x:V) (xs:List V) (v:Value) (us:List Value) (Q:VK),Inv X pins σ H s→RelV x v→Vals xs us→r x xs H Q →
    wpAny (model X.prog X.w) X.A (call (.builtin id) (v :: us)) (EP X pins σ Q) X.xe s
section
variable {X:Cx} {a b:Expr} {ta tb:TE} {pos:Pos}
theorem pe_ix {r:R2} (hr:IxR X r) (ha:PE X a ta) (hb:PE X b tb) (hs:PlainIx b):PE X (.Subscript a b pos) (tOp r ta tb):=by
  intro pins s σ H Q I h
  exact Subscript_ (binT ha hb I h fun v u s2 x y H2 I2 rx ry q=>hr a b pins s2 σ H2 x y v u Q I2 rx ry q (hs _ _))
def rIxL (K:PySem.W.Frag):R2:=fun x y H Q=>∃ p xs i v,x=.ref p∧y=.int i∧SqL K H p xs∧atI xs i=some v∧Q v H
def rIxT (K:PySem.W.Frag):R2:=fun x y H Q=>∃ p xs i v,x=.ref p∧y=.int i∧SqT K H p xs∧atI xs i=some v∧Q v H
theorem ix_list:IxR X (rIxL X.K):=by
  intro value slice pins s σ H x y v u Q I rx ry h hs
  obtain ⟨p,xs,i,z,rfl,rfl,hq,he,q⟩:=h
  cases rx
  obtain ⟨t,rfl⟩:=ry
  obtain ⟨its,r,pl,hz⟩:=I.list hq
  obtain ⟨j,h1,h2,h3,h4,h5⟩:=atI_get he
  obtain ⟨w,ew,rw'⟩:=r.get h2
  have hl:=r.length
  have hn:=line63
  have fin:EP X pins σ Q w s:=⟨z,H,I,rw',q⟩
  by_cases h0:0≤i
  · have hj:i.toNat=j:=by
      rw [seqIndex_of h0 h5] at h1
      exact Option.some.inj h1
    exact item_listR pl.isList h0 (by omega) (by rw [hj];simpa using ew) fin hs
  · have hj:(i + (its.toArray.size:Int)).toNat=j:=by
      rw [seqIndex_neg (by omega) h4] at h1
      rw [List.size_toArray,← hl]
      exact Option.some.inj h1
    exact subscriptTail_builtinR (x:=w) pl.isList.typeIs slot_list_getitem.lookup
      (wpAny_getItem_list_neg (Q:=fun r s'=>r=w∧EP X pins σ Q r s') pl.isList (by omega) (by rw [List.size_toArray] <;> omega) (by omega) (by rw [hj];simpa using ew) ⟨rfl,fin⟩) hs
theorem ix_tup:IxR X (rIxT X.K):=by
  intro value slice pins s σ H x y v u Q I rx ry h hs
  obtain ⟨p,xs,i,z,rfl,rfl,hq,he,q⟩:=h
  cases rx
  obtain ⟨t,rfl⟩:=ry
  obtain ⟨its,r,pl,hz⟩:=I.tuple hq
  obtain ⟨j,h1,h2,h3,h4,h5⟩:=atI_get he
  obtain ⟨w,ew,rw'⟩:=r.get h2
  have hl:=r.length
  have hn:=line63
  have fin:EP X pins σ Q w s:=⟨z,H,I,rw',q⟩
  exact subscriptTail_builtinR (x:=w) pl.typeIs slot_tuple_getitem.lookup
    (getItem_tuple (j:=j) (Q:=fun r s'=>r=w∧EP X pins σ Q r s') pl (by omega) (by omega) (by rw [List.size_toArray,← hl];exact h1) (by simpa using ew) ⟨rfl,fin⟩) hs
theorem mapSeq_set (its:List Value) (n j:Nat) (u:Value):Obj.mapSeq (·.setIfInBounds j u) { cls:=.type "list",data:=.seq its.toArray n }={ cls:=.type "list",data:=.seq (its.set j u).toArray n }:=by
  simp [Obj.mapSeq]
theorem Inv.lst {pins:List (Addr × Obj)} {σ:St} {H:Hp} {s:Shared} {p:Addr} {xs:List V} (I:Inv X pins σ H s) (h:H p=some (.lst xs)) :
    ∃ (its:List Value) (n:Nat),Vals xs its∧s.heap.get? p=some { cls:=.type "list",data:=.seq its.toArray n }∧xs.length≤sizeLine:=by
  obtain ⟨z,its,n,r,e⟩:=I.hok p _ h
  exact ⟨its,n,r,e,z⟩
theorem Inv.lstUpd {pins:List (Addr × Obj)} {σ:St} {H:Hp} {s:Shared} {p:Addr} {xs ys:List V} {its its':List Value} {n n':Nat} {f:Obj→Obj} (I:Inv X pins σ H s) (h:H p=some (.lst xs))
    (ho:s.heap.get? p=some { cls:=.type "list",data:=.seq its.toArray n }) (hf:f { cls:=.type "list",data:=.seq its.toArray n }={ cls:=.type "list",data:=.seq its'.toArray n' }) (r:Vals ys its') (hz:ys.length≤sizeLine) (t:Nat) :
    Inv X pins σ (upd H p (.lst ys)) { s with heap:=s.heap.update p f,toks:=t }:=by
  have e:(s.heap.update p f).get? p=some { cls:=.type "list",data:=.seq its'.toArray n' }:=by
    rw [Heap.get?_update_self f ho (by rw [hf] <;> rfl),hf]
  refine I.write (x:=p) (e:=p) (by rw [h];trivial) (.inl rfl) (fun b u hb q=>(Heap.get?_update_other _ _ (Ne.symm hb)).trans q) ⟨_,e⟩ ?_
  exact ⟨hz,its',n',r,e⟩
def rSetL:V→V→V→Hp→(Hp→Prop)→Prop:=fun o i v H Q=>∃ p xs k j,o=.ref p∧i=.int k∧H p=some (.lst xs)∧ixN xs.length k=some j∧Q (upd H p (.lst (xs.set j v)))
theorem set_list:PSet X rSetL:=by
  intro pins s σ H o i v ov iv u Q I ro ri rv h
  obtain ⟨p,xs,k,j,rfl,rfl,hp,hj,q⟩:=h
  cases ro
  obtain ⟨t,rfl⟩:=ri
  obtain ⟨its,n,r,ho,hz⟩:=I.lst hp
  obtain ⟨h1,h2,h3,h4⟩:=ixN_seq hj
  have hl:=r.length
  have hn:=line63
  have I':Inv X pins σ (upd H p (.lst (xs.set j v))) { s with heap:=s.heap.update p (Obj.mapSeq (·.setIfInBounds j u)) } :=
    I.lstUpd hp ho (mapSeq_set its n j u) (r.set rv j) (by rw [List.length_set];exact hz) s.toks
  by_cases h0:0≤k
  · have hk:k.toNat=j:=by
      rw [seqIndex_of h0 h4] at h1
      exact Option.some.inj h1
    exact PySem.W.ki_setAt ho h0 (by omega) (by rw [List.size_toArray,← hl];exact h4) (by rw [hk];exact ⟨_,I',q⟩)
  · have hk:(k + (its.toArray.size:Int)).toNat=j:=by
      rw [seqIndex_neg (by omega) h3] at h1
      rw [List.size_toArray,← hl]
      exact Option.some.inj h1
    exact PySem.W.ki_setBack ho (by omega) (by rw [List.size_toArray,← hl];exact h3) (by omega) (by rw [hk];exact ⟨_,I',q⟩)
theorem slice_bounds (lo hi:Option Int) (n:Nat):(sliceBounds lo hi none n).1=((HT.sIx n 0 lo:Nat):Int)∧(sliceBounds lo hi none n).2.1=((HT.sIx n n hi:Nat):Int)∧(sliceBounds lo hi none n).2.2=1:=by
  refine ⟨?_,?_,rfl⟩
  · cases lo with
    | none=>simp [sliceBounds,HT.sIx]
    | some i =>
      simp only [sliceBounds,HT.sIx,Option.getD_none,show (1:Int) > 0 by decide,if_true]
      by_cases h:i < 0
      · simp only [h,if_true] <;> omega
      · simp only [h,if_false] <;> omega
  · cases hi with
    | none=>simp [sliceBounds,HT.sIx]
    | some i =>
      simp only [sliceBounds,HT.sIx,Option.getD_none,show (1:Int) > 0 by decide,if_true]
      by_cases h:i < 0
      · simp only [h,if_true] <;> omega
      · simp only [h,if_false] <;> omega
theorem slicePick_cut (its:List Value) (lo hi:Option Int):slicePick its.toArray lo hi none=((its.drop (HT.sIx its.length 0 lo)).take (HT.sIx its.length its.length hi - HT.sIx its.length 0 lo)).toArray:=by
  obtain ⟨h1,h2,h3⟩:=slice_bounds lo hi its.toArray.size
  unfold slicePick
  rw [h1,h2,h3]
  simp only [sliceRange_one,pick_run,List.size_toArray] <;> rfl
def rSlL (K:PySem.W.Frag):V→Option Int→Option Int→Hp→VK→Prop:=fun x lo hi H Q=>∃ a xs,x=.ref a∧SqL K H a xs∧∀ p,H p=none→Q (.ref p) (upd H p (.lst (cutV xs lo hi)))
theorem sl_list:SlR X (rSlL X.K):=by
  intro pins s σ H x v vl vu lo hi sl Q I rx hs pl pu h
  obtain ⟨a,xs,rfl,hx,q⟩:=h
  cases rx
  obtain ⟨its,r,ht,hz⟩:=I.list hx
  have hlen:=r.length
  refine ⟨"list",_,slot_list_getitem.lookup,ht.isList.typeIs,?_⟩
  refine wpAny_getItem_list_slice ht.isList hs pl pu .none (by simp) ?_ (by rw [List.size_toArray] <;> omega)
  rw [slicePick_cut,← hlen]
  refine ⟨.ref s.heap.objs.size,_,I.laid (t':=s.toks) (o:=.lst (cutV xs lo hi)) (fun b ob q=>Heap.get?_push_of_some _ q) (Nat.le_refl _) ?_,rfl,q _ (I.hok.fresh (Nat.le_refl _))⟩
  exact ⟨Nat.le_trans (cutV_length xs lo hi) hz,_,0,(r.drop (HT.sIx xs.length 0 lo)).take (HT.sIx xs.length xs.length hi - HT.sIx xs.length 0 lo),Heap.get?_push_size _ rfl⟩
def flatV:V→Bool
  | .non=>true
  | .bl _=>true
  | .int _=>true
  | .str _=>true
  | _=>false
def eqV:V→V→Bool
  | .non,.non=>true
  | .bl a,.bl b=>a == b
  | .bl a,.int b=>(if a then 1 else 0) == b
  | .int a,.bl b=>a == (if b then 1 else 0)
  | .int a,.int b=>a == b
  | .str a,.str b=>a == b
  | _,_=>false
theorem eqAt_V {A:Around} {s:Shared} {y x:V} {u v:Value} (ry:RelV y u) (rx:RelV x v) (fy:flatV y=true) (fx:flatV x=true):SeqAt.EqAt A s u v (eqV y x):=by
  cases y with
  | non =>
    cases ry
    cases x with
    | non=>cases rx;exact SeqAt.EqAt.same _
    | bl b=>cases rx;exact SeqAt.EqAt.none_bool b
    | int b=>obtain ⟨t,rfl⟩:=rx;exact SeqAt.EqAt.none_int b t
    | str b=>obtain ⟨t,rfl⟩:=rx;exact SeqAt.EqAt.none_str b t
    | _=>exact absurd (show false=true from fx) Bool.false_ne_true
  | bl a =>
    cases ry
    cases x with
    | non=>cases rx;exact SeqAt.EqAt.bool_none a
    | bl b=>cases rx;exact SeqAt.EqAt.bool_bool a b
    | int b=>obtain ⟨t,rfl⟩:=rx;exact SeqAt.EqAt.bool_int a b t
    | str b=>obtain ⟨t,rfl⟩:=rx;exact SeqAt.EqAt.bool_str a b t
    | _=>exact absurd (show false=true from fx) Bool.false_ne_true
  | int a =>
    obtain ⟨t',rfl⟩:=ry
    cases x with
    | non=>cases rx;exact SeqAt.EqAt.int_none a t'
    | bl b=>cases rx;exact SeqAt.EqAt.int_bool a t' b
    | int b=>obtain ⟨t,rfl⟩:=rx;exact SeqAt.EqAt.int_int a t' b t
    | str b=>obtain ⟨t,rfl⟩:=rx;exact SeqAt.EqAt.int_str a t' b t
    | _=>exact absurd (show false=true from fx) Bool.false_ne_true
  | str a =>
    obtain ⟨t',rfl⟩:=ry
    cases x with
    | non=>cases rx;exact SeqAt.EqAt.str_none a t'
    | bl b=>cases rx;exact SeqAt.EqAt.str_bool a t' b
    | int b=>obtain ⟨t,rfl⟩:=rx;exact SeqAt.EqAt.str_int a t' b t
    | str b=>obtain ⟨t,rfl⟩:=rx;exact SeqAt.EqAt.str_str a t' b t
    | _=>exact absurd (show false=true from fx) Bool.false_ne_true
  | _=>exact absurd (show false=true from fy) Bool.false_ne_true
def eqU (x:V) (u:Value):Bool:=match u with
  | .none=>eqV .non x
  | .bool b=>eqV (.bl b) x
  | .int i _=>eqV (.int i) x
  | .str z _=>eqV (.str z) x
  | _=>false
theorem eqU_of {x y:V} {u:Value} (r:RelV y u) (f:flatV y=true):eqU x u=eqV y x:=by
  cases y with
  | non=>cases r;rfl
  | bl b=>cases r;rfl
  | int i=>obtain ⟨t,rfl⟩:=r;rfl
  | str z=>obtain ⟨t,rfl⟩:=r;rfl
  | _=>exact absurd (show false=true from f) Bool.false_ne_true
theorem any_eqU {x:V}:∀ {xs:List V} {us:List Value},Vals xs us→xs.all flatV=true→us.any (eqU x)=xs.any fun y=>eqV y x
  | _,_,.nil,_=>rfl
  | y :: xs,u :: us,.cons r t,f=>by
    rw [List.all_cons,Bool.and_eq_true] at f
    rw [List.any_cons,List.any_cons,eqU_of r f.1,any_eqU t f.2]
theorem mem_eqAt {A:Around} {s:Shared} {x:V} {v:Value} (rx:RelV x v) (fx:flatV x=true):∀ {xs:List V} {us:List Value},Vals xs us→xs.all flatV=true→∀ u∈us,SeqAt.EqAt A s u v (eqU x u)
  | _,_,.nil,_=>fun u hu=>by cases hu
  | y :: xs,u :: us,.cons r t,f=>fun u' hu=>by
    rw [List.all_cons,Bool.and_eq_true] at f
    rcases List.mem_cons.mp hu with rfl | hu
    · rw [eqU_of r f.1];exact eqAt_V r rx f.1 fx
    · exact mem_eqAt rx fx t f.2 u' hu
def inV (x:V) (xs:List V):Bool:=xs.any fun y=>eqV y x
def rIn (K:PySem.W.Frag) (neg:Bool):R2:=fun x y H Q=>∃ p xs,y=.ref p∧(SqL K H p xs∨SqT K H p xs)∧flatV x=true∧xs.all flatV=true∧Q (.bl (if neg then !inV x xs else inV x xs)) H
theorem op_in_seq:OpR X (compareOp .In) (rIn X.K false):=by
  intro pins s σ H x y v u Q I rx ry h
  obtain ⟨p,xs,rfl,hq,fx,fs,q⟩:=h
  cases ry
  rcases hq with hq | hq
  · obtain ⟨its,r,pl,hz⟩:=I.list hq
    refine SeqAt.in_listAt (eqU x) pl.isList (fun w hw=>mem_eqAt rx fx r fs w (by simpa using hw)) ⟨.bl _,H,I,rfl,?_⟩
    rw [show its.toArray.any (eqU x)=its.any (eqU x) by simp,any_eqU r fs]
    exact q
  · obtain ⟨its,r,pl,hz⟩:=I.tuple hq
    refine SeqAt.in_tupleAt (eqU x) pl (fun w hw=>mem_eqAt rx fx r fs w (by simpa using hw)) ⟨.bl _,H,I,rfl,?_⟩
    rw [show its.toArray.any (eqU x)=its.any (eqU x) by simp,any_eqU r fs]
    exact q
theorem op_notIn_seq:OpR X (compareOp .NotIn) (rIn X.K true):=by
  intro pins s σ H x y v u Q I rx ry h
  obtain ⟨p,xs,rfl,hq,fx,fs,q⟩:=h
  cases ry
  rcases hq with hq | hq
  · obtain ⟨its,r,pl,hz⟩:=I.list hq
    refine SeqAt.notIn_listAt (eqU x) pl.isList (fun w hw=>mem_eqAt rx fx r fs w (by simpa using hw)) ⟨.bl _,H,I,rfl,?_⟩
    rw [show its.toArray.any (eqU x)=its.any (eqU x) by simp,any_eqU r fs]
    exact q
  · obtain ⟨its,r,pl,hz⟩:=I.tuple hq
    refine SeqAt.notIn_tupleAt (eqU x) pl (fun w hw=>mem_eqAt rx fx r fs w (by simpa using hw)) ⟨.bl _,H,I,rfl,?_⟩
    rw [show its.toArray.any (eqU x)=its.any (eqU x) by simp,any_eqU r fs]
    exact q
theorem call_len_seq:CallR X (.builtin "len") (fun xs H Q=>∃ p ys,xs=[.ref p]∧(SqL X.K H p ys∨SqT X.K H p ys)∧Q (.int ys.length) H):=by
  intro pins s σ H xs us Q I r h
  obtain ⟨p,ys,rfl,hq,q⟩:=h
  obtain ⟨u,rfl,rx⟩:=vals1 r
  cases rx
  have hn:=line63
  rcases hq with hq | hq
  · obtain ⟨its,r',pl,hz⟩:=I.list hq
    have hlen:=r'.length
    exact Calls.call_len_list pl.isList (by simp only [List.size_toArray] <;> omega) ⟨.int ys.length,H,I.tok _,⟨s.toks + 1,by rw [List.size_toArray,hlen]⟩,q⟩
  · obtain ⟨its,r',pl,hz⟩:=I.tuple hq
    have hlen:=r'.length
    exact len_tuple pl (by simp only [List.size_toArray] <;> omega) ⟨.int ys.length,H,I.tok _,⟨s.toks + 1,by rw [List.size_toArray,hlen]⟩,q⟩
theorem call_list_of:CallR X (.type "list") (fun xs H Q=>∃ p ys,xs=[.ref p]∧(SqL X.K H p ys∨SqT X.K H p ys)∧∀ l,H l=none→Q (.ref l) (upd H l (.lst ys))):=by
  intro pins s σ H xs us Q I r h
  obtain ⟨p,ys,rfl,hq,q⟩:=h
  obtain ⟨u,rfl,rx⟩:=vals1 r
  cases rx
  have fin:∀ (its:List Value),Vals ys its→ys.length≤sizeLine→∀ (h':Heap) (c':Nat),(∀ b o',s.heap.get? b=some o'→h'.get? b=some o') →
      h'.get? s.heap.objs.size=some { cls:=.type "list",dict:=none,data:=.seq its.toArray c',slots:=#[] }→EP X pins σ Q (.ref s.heap.objs.size) { s with heap:=h' }:=fun its r' hz h' c' kp e =>
    ⟨.ref s.heap.objs.size,_,I.laid (t':=s.toks) kp (Nat.le_refl _) (show ObjOk X.prog X.w _ h' _ (.lst ys) from ⟨hz,its,c',r',e⟩),rfl,q _ (I.hok.fresh (Nat.le_refl _))⟩
  rcases hq with hq | hq
  · obtain ⟨its,r',pl,hz⟩:=I.list hq
    have hlen:=r'.length
    obtain ⟨o,ho,hc,n,hd⟩:=pl.isList
    exact call_list_seq p (.inl rfl) ho hc hd (fun h' c' kp e=>fin its r' hz h' c' kp e) (by simp only [List.size_toArray] <;> omega)
  · obtain ⟨its,r',pl,hz⟩:=I.tuple hq
    have hlen:=r'.length
    obtain ⟨o,ho,hc,n,hd⟩:=pl
    exact call_list_seq p (.inr rfl) ho hc hd (fun h' c' kp e=>fin its r' hz h' c' kp e) (by simp only [List.size_toArray] <;> omega)
def tyV (K:PySem.W.Frag) (T:String) (x:V) (H:Hp):Prop:=match x with
  | .str _=>T="str"
  | .int _=>T="int"
  | .ref p=>(T="list"∧∃ xs,SqL K H p xs)∨(T="tuple"∧∃ o,K.lookup p=some o∧o.cls=.type "tuple"∧o.dict=none) ∨
      (T="dict"∧((∃ kvs,H p=some (.dK kvs))∨∃ kvs,H p=some (.dT kvs)))∨(T="set"∧∃ S n,H p=some (.set S n))
  | _=>False
theorem tyV_is {pins:List (Addr × Obj)} {σ:St} {H:Hp} {s:Shared} {T:String} {x:V} {v:Value} (I:Inv X pins σ H s) (r:RelV x v) (ty:tyV X.K T x H) :
    s.TypeIs v T∧∀ a,v=.ref a→∃ ob,s.heap.get? a=some ob∧ob.dict=none:=by
  cases x with
  | str z =>
    obtain ⟨t,rfl⟩:=r
    cases (show T="str" from ty)
    exact ⟨typeIs_str s z t,fun _ e=>nomatch e⟩
  | int i =>
    obtain ⟨t,rfl⟩:=r
    cases (show T="int" from ty)
    exact ⟨typeIs_int s i t,fun _ e=>nomatch e⟩
  | ref p =>
    cases r
    rcases ty with ⟨rfl,xs,hq⟩ | ⟨rfl,o,hk,hc,hd⟩ | ⟨rfl,hk⟩ | ⟨rfl,S,n,hk⟩
    · obtain ⟨its,_,pl,_⟩:=I.list hq
      refine ⟨pl.isList.typeIs,fun a e=>?_⟩
      cases e
      obtain ⟨o,n,e,c,hd,_⟩:=pl
      exact ⟨o,e,hd⟩
    · refine ⟨⟨o,I.kIn p o hk,hc⟩,fun a e=>?_⟩
      cases e
      exact ⟨o,I.kIn _ o hk,hd⟩
    · have z:∃ o,s.heap.get? p=some o∧o.ExactDict:=by
        rcases hk with ⟨kvs,hk⟩ | ⟨kvs,hk⟩
        · obtain ⟨_,_,_,_,o,_,_,e,ex,_⟩:=I.hok p _ hk
          exact ⟨o,e,ex⟩
        · obtain ⟨_,_,_,_,o,_,_,e,ex,_⟩:=I.hok p _ hk
          exact ⟨o,e,ex⟩
      obtain ⟨o,e,ex⟩:=z
      refine ⟨⟨o,e,ex.1⟩,fun a e2=>?_⟩
      cases e2
      exact ⟨o,e,ex.2.1⟩
    · obtain ⟨o,_,_,_,e,ex,_⟩:=I.hok p _ hk
      refine ⟨⟨o,e,ex.1⟩,fun a e2=>?_⟩
      cases e2
      exact ⟨o,e,ex.2.1⟩
  | _=>exact False.elim ty
def tBM0 (K:PySem.W.Frag) (T:String) (r:V→List V→Hp→VK→Prop) (to:TE):TE:=fun σ H Q=>to σ H fun x H1=>tyV K T x H1∧r x [] H1 Q
def tBM (K:PySem.W.Frag) (T:String) (r:V→List V→Hp→VK→Prop) (to:TE) (t:TA):TE:=fun σ H Q=>to σ H fun x H1=>tyV K T x H1∧t σ H1 fun xs H2=>r x xs H2 Q
variable {o e:Expr} {es:List Expr} {to:TE} {t:TA} {name:Str} {apos cpos:Pos} {T id:String} {r:V→List V→Hp→VK→Prop}
theorem pe_bm0 (pa:PlainAttrs T) (slot:Slot T name id) (hty:typeOf (.builtin id)=pure (.type "method_descriptor")) (hm:MtR X id r) (ho:PE X o to)
    (hbase:attributeBase o name X.env (eval o X.env)=eval o X.env:=by rfl) (hline:(apos.endLine == cpos.line)=true:=by rfl):PE X (.Call (.Attribute o name apos) [] [] cpos) (tBM0 X.K T r to):=by
  intro pins s σ H Q I h
  refine wpAny_Call_method0_late hbase hline (thn (ho pins s σ H _ I h) fun v s1 ⟨x,H1,I1,r1,ty,q1⟩=>?_)
  obtain ⟨h1,h2⟩:=tyV_is I1 r1 ty
  exact ⟨T,id,pa,slot,hty,h1,h2,Calls.callWith_builtin rfl (PySem.evalArgs_none (hm pins s1 σ H1 x [] v [] Q I1 r1 .nil q1))⟩
theorem pe_bm (pa:PlainAttrs T) (slot:Slot T name id) (hty:typeOf (.builtin id)=pure (.type "method_descriptor")) (hm:MtR X id r) (ho:PE X o to) (ha:PA X (e :: es) t)
    (hbase:attributeBase o name X.env (eval o X.env)=eval o X.env:=by rfl)
    (hfew:((backTo cpos (starEach (e :: es) X.env)).all (fun x=>!x.1) && (backToKw cpos (keywordEach [] X.env)).all (fun x=>x.1.isSome)
      && decide ((e :: es).length + ([]:List Keyword).length + (if ([]:List Keyword).isEmpty then 0 else 1) < 30))=true:=by rfl)
    (hline:(apos.endLine == cpos.line)=true:=by rfl) (hs:starEach (e :: es) X.env=(false,eval e X.env) :: starEach es X.env:=by rfl) (hplain:(backTo cpos (starEach es X.env)).any (·.1)=false:=by rfl) :
    PE X (.Call (.Attribute o name apos) (e :: es) [] cpos) (tBM X.K T r to t):=by
  intro pins s σ H Q I h
  refine wpAny_Call_method_late hbase hfew hline rfl (thn (ho pins s σ H _ I h) fun v s1 ⟨x,H1,I1,r1,ty,q1⟩=>?_)
  obtain ⟨h1,h2⟩:=tyV_is I1 r1 ty
  refine ⟨T,id,pa,slot,hty,h1,h2,?_⟩
  have hA:=ha cpos pins s1 σ H1 _ I1 q1
  rw [hs] at hA ⊢
  refine Calls.callWith_builtin (by show (false || (backTo cpos (starEach es X.env)).any (·.1))=false;rw [hplain] <;> rfl) (Calls.evalArgs_plain ?_)
  exact thn hA fun us s2 ⟨vs,H2,I2,r2,q2⟩=>hm pins s2 σ H2 x vs v us Q I2 r1 r2 q2
end
end L2
namespace L2
open PySem PySem.Spec PyProof.Rows
def MtM (X:Cx) (id:String) (r:V→List V→Hp→VK→Prop):Prop :=
  ∀ (pins:List (Addr × Obj)) (s:Shared) (σ:St) (H:Hp) (x:V) (xs:List V) (v:Value) (us:List Value) (Q:VK),Inv X pins σ H s→RelV x v→Vals xs us→r x xs H Q →
    wpAny (model X.prog X.w) X.A (call (.builtin id) (v :: us)) (EP X pins σ Q) X.xe s
theorem Vals.one:∀ {x:V} {us:List Value},Vals [x] us→∃ u,us=[u]∧RelV x u
  | _,_,.cons r .nil=>⟨_,rfl,r⟩
theorem Vals.zero:∀ {us:List Value},Vals [] us→us=[]
  | _,.nil=>rfl
theorem Vals.dropLast {xs:List V} {us:List Value} (h:Vals xs us):Vals xs.dropLast us.dropLast:=by
  induction h with
  | nil=>exact .nil
  | cons r t ih =>
    cases t with
    | nil=>exact .nil
    | cons q t'=>exact .cons r ih
theorem Vals.eraseIdx:∀ {xs:List V} {us:List Value} (i:Nat),Vals xs us→Vals (xs.eraseIdx i) (us.eraseIdx i)
  | _,_,_,.nil=>.nil
  | _,_,0,.cons _ t=>t
  | _,_,i + 1,.cons r t=>.cons r (Vals.eraseIdx i t)
theorem erase_last {α:Type} (l:List α):l.eraseIdx (l.length - 1)=l.dropLast:=by
  induction l with
  | nil=>rfl
  | cons a r ih =>
    cases r with
    | nil=>rfl
    | cons b r =>
      have e:(a :: b :: r).length - 1=((b :: r).length - 1) + 1:=by
        have h1:(a :: b :: r).length=r.length + 2:=rfl
        have h2:(b :: r).length=r.length + 1:=rfl
        omega
      rw [e,List.eraseIdx_cons_succ,ih]
      all_goals rfl
theorem len_erase {α:Type}:∀ (l:List α) (i:Nat),(l.eraseIdx i).length≤l.length
  | [],_=>Nat.le_refl _
  | _ :: _,0=>Nat.le_succ _
  | _ :: r,i + 1=>Nat.succ_le_succ (len_erase r i)
section
variable {X:Cx} {pins:List (Addr × Obj)} {σ:St} {H:Hp} {s:Shared} {l b:Addr} {xs ys zs:List V}
theorem Inv.lset {its its':List Value} {n:Nat} {f:Array Value→Array Value} {t':Nat} (I:Inv X pins σ H s) (hH:H l=some (.lst xs))
    (e:s.heap.get? l=some { cls:=.type "list",data:=.seq its.toArray n }) (hf:f its.toArray=its'.toArray) (hv:Vals ys its') (hz:ys.length≤sizeLine) :
    Inv X pins σ (upd H l (.lst ys)) { s with heap:=s.heap.update l (Obj.mapSeq f),toks:=t' }:=by
  have q:=PySem.IsL.update e f
  rw [hf] at q
  refine I.write (x:=l) (e:=l) (by rw [hH];exact trivial) (.inl rfl) (fun b' u hb hu=>(Heap.get?_update_other s.heap (Obj.mapSeq f) (Ne.symm hb)).trans hu) ⟨_,q⟩ ?_
  exact ⟨hz,its',_,hv,q⟩
theorem Inv.lnew {its:List Value} {t':Nat} (I:Inv X pins σ H s) (hv:Vals ys its) (hz:ys.length≤sizeLine) :
    Inv X pins σ (upd H s.heap.objs.size (.lst ys)) { s with heap:=s.heap.push { cls:=.type "list",data:=.seq its.toArray },toks:=t' } :=
  I.laid (fun _ _ q=>Heap.get?_push_of_some _ q) (Nat.le_refl _) ⟨hz,its,0,hv,Heap.get?_push_size _ rfl⟩
theorem Inv.fresh (I:Inv X pins σ H s):H s.heap.objs.size=none:=I.hok.fresh (Nat.le_refl _)
theorem Inv.lstM (I:Inv X pins σ H s) (hH:H l=some (.lst xs)):xs.length≤sizeLine∧∃ (its:List Value) (n:Nat),Vals xs its∧xs.length=its.length∧s.heap.get? l=some { cls:=.type "list",data:=.seq its.toArray n }:=by
  obtain ⟨z,its,n,r,e⟩:=I.hok l _ hH
  exact ⟨z,its,n,r,r.length,e⟩
theorem notLongL {n:Nat} (h:n≤sizeLine):Builtin.List.listTooLong n=false:=by
  unfold Builtin.List.listTooLong
  exact decide_eq_false (by omega)
end
section
variable {X:Cx}
def rAppend:V→List V→Hp→VK→Prop:=fun x vs H Q=>∃ l xs y,x=.ref l∧vs=[y]∧H l=some (.lst xs)∧xs.length < sizeLine∧Q .non (upd H l (.lst (xs++[y])))
theorem mt_append:MtM X "list.append" rAppend:=by
  intro pins s σ H x vs v us Q I rx rv h
  obtain ⟨l,xs,y,rfl,rfl,hH,hz,q⟩:=h
  cases rx
  obtain ⟨u,rfl,ru⟩:=rv.one
  obtain ⟨z,its,n,r,hl,e⟩:=I.lstM hH
  refine call_meets F.slot_list_append ⟨_,e,rfl⟩ F.entry_list_append (F.args_list_append_2 _ _) (PySem.list_append l its.toArray n u (by rw [List.size_toArray];omega)) ⟨e,?_⟩
  refine ⟨.non,_,I.lset (its':=its++[u]) hH e (by simp) (r.append (.cons ru .nil)) ?_,rfl,q⟩
  rw [List.length_append,List.length_singleton]
  omega
def rExtend:V→List V→Hp→VK→Prop:=fun x vs H Q=>∃ l b xs zs,x=.ref l∧vs=[.ref b]∧H l=some (.lst xs)∧H b=some (.lst zs)∧xs.length + zs.length≤sizeLine∧Q .non (upd H l (.lst (xs++zs)))
theorem mt_extend:MtM X "list.extend" rExtend:=by
  intro pins s σ H x vs v us Q I rx rv h
  obtain ⟨l,b,xs,zs,rfl,rfl,hH,hB,hz,q⟩:=h
  cases rx
  obtain ⟨u,rfl,ru⟩:=rv.one
  cases ru
  obtain ⟨z,its,n,r,hl,e⟩:=I.lstM hH
  obtain ⟨z2,its2,n2,r2,hl2,e2⟩:=I.lstM hB
  have hsz:its.toArray.size + its2.toArray.size≤sizeLine:=by rw [List.size_toArray,List.size_toArray];omega
  have hlong:¬ (!its.toArray.isEmpty && Builtin.List.listTooLong (its.toArray.size + its2.toArray.size))=true:=by
    rw [notLongL hsz,Bool.and_false]
    exact Bool.false_ne_true
  refine call_meets F.slot_list_extend ⟨_,e,rfl⟩ F.entry_list_extend (F.args_list_extend_2 _ _)
    (AutoSeq1.list_extend_list_list_0 l its.toArray n b its2.toArray n2 hlong (by rw [List.size_toArray];omega) (by omega)) ⟨e,e2,?_⟩
  refine ⟨.non,_,I.lset (its':=its++its2) hH e (by simp) (r.append r2) ?_,rfl,q⟩
  rw [List.length_append]
  omega
def rPop:V→List V→Hp→VK→Prop:=fun x vs H Q=>∃ l xs y,x=.ref l∧vs=[]∧H l=some (.lst xs)∧xs[xs.length - 1]?=some y∧Q y (upd H l (.lst xs.dropLast))
theorem mt_pop:MtM X "list.pop" rPop:=by
  intro pins s σ H x vs v us Q I rx rv h
  obtain ⟨l,xs,y,rfl,rfl,hH,hy,q⟩:=h
  cases rx
  have hus:=rv.zero
  subst hus
  obtain ⟨z,its,n,r,hl,e⟩:=I.lstM hH
  obtain ⟨u,hu,ru⟩:=r.get hy
  have hy':its.toArray[its.toArray.size - 1]?=some u:=by
    show its.toArray[its.length - 1]?=some u
    rw [← Array.getElem?_toList,← hl]
    exact hu
  refine call_meets F.slot_list_pop ⟨_,e,rfl⟩ F.entry_list_pop (F.args_list_pop_1 _) (MeetsSeq.list_pop_last l its.toArray n u hy' (by rw [List.size_toArray];omega)) ⟨e,?_⟩
  refine ⟨y,_,I.lset (its':=its.dropLast) hH e ?_ r.dropLast ?_,ru,q⟩
  · show its.toArray.eraseIdxIfInBounds (its.toArray.size - 1)=its.dropLast.toArray
    rw [List.size_toArray,List.eraseIdxIfInBounds_toArray,erase_last]
  · rw [List.length_dropLast]
    omega
def rPopAt:V→List V→Hp→VK→Prop:=fun x vs H Q=>∃ l xs i k y,x=.ref l∧vs=[.int i]∧H l=some (.lst xs)∧-(2 ^ 63)≤i∧i < 2 ^ 63∧seqIndex? i xs.length=some k∧xs[k]?=some y∧Q y (upd H l (.lst (xs.eraseIdx k)))
theorem mt_popAt:MtM X "list.pop" rPopAt:=by
  intro pins s σ H x vs v us Q I rx rv h
  obtain ⟨l,xs,i,k,y,rfl,rfl,hH,h1,h2,hk,hy,q⟩:=h
  cases rx
  obtain ⟨u,rfl,ru⟩:=rv.one
  obtain ⟨t,rfl⟩:=ru
  obtain ⟨z,its,n,r,hl,e⟩:=I.lstM hH
  obtain ⟨w,hw,rw'⟩:=r.get hy
  refine call_meets F.slot_list_pop ⟨_,e,rfl⟩ F.entry_list_pop (F.args_list_pop_2 _ _)
    (MeetsSeq.list_pop_at l its.toArray n i t k w (fitsIndex_both h1 h2) (by rw [List.size_toArray,← hl];exact hk) (by rw [← Array.getElem?_toList];exact hw) (by rw [List.size_toArray];omega)) ⟨e,?_⟩
  refine ⟨y,_,I.lset (its':=its.eraseIdx k) hH e ?_ (r.eraseIdx k) ?_,rw',q⟩
  · show its.toArray.eraseIdxIfInBounds k=(its.eraseIdx k).toArray
    rw [List.eraseIdxIfInBounds_toArray]
  · have:=len_erase xs k
    omega
def rCat:R2:=fun x y H Q=>∃ l b xs zs,x=.ref l∧y=.ref b∧H l=some (.lst xs)∧H b=some (.lst zs)∧xs.length + zs.length≤sizeLine∧∀ p,H p=none→Q (.ref p) (upd H p (.lst (xs++zs)))
theorem op_cat:OpR X (binaryOp .Add) rCat:=by
  intro pins s σ H x y v u Q I rx ry h
  obtain ⟨l,b,xs,zs,rfl,rfl,hH,hB,hz,q⟩:=h
  cases rx
  cases ry
  obtain ⟨z,its,n,r,hl,e⟩:=I.lstM hH
  obtain ⟨z2,its2,n2,r2,hl2,e2⟩:=I.lstM hB
  refine PySem.P.add_list e e2 ?_ (by rw [List.size_toArray,List.size_toArray];omega)
  have ea:its.toArray++its2.toArray=(its++its2).toArray:=by simp
  rw [ea]
  exact ⟨.ref _,_,I.lnew (t':=s.toks) (r.append r2) (by rw [List.length_append];omega),rfl,q _ I.fresh⟩
end
end L2
namespace L2
open PySem PySem.Spec PyProof.Rows
theorem Vals.ints:∀ {ns:List Int} {us:List Value},Vals (ns.map V.int) us→IntsAre us ns
  | [],us,h=>by
    rw [List.map_nil] at h
    cases h
    exact IntsAre.nil
  | n :: ns,us,h=>by
    rw [List.map_cons] at h
    cases h with
    | cons r t =>
      obtain ⟨k,rfl⟩:=r
      exact IntsAre.cons n k (Vals.ints t)
theorem vals_of_ints:∀ {us:List Value} {ns:List Int},IntsAre us ns→Vals (ns.map V.int) us
  | _,_,.nil=>by rw [List.map_nil];exact Paired.nil
  | _,_,.cons n t h=>by rw [List.map_cons];exact Paired.cons (show RelV (V.int n) (Value.int n t) from ⟨t,rfl⟩) (vals_of_ints h)
theorem Vals.bls:∀ {bs:List Bool} {us:List Value},Vals (bs.map V.bl) us→us=bs.map Value.bool
  | [],us,h=>by
    rw [List.map_nil] at h
    cases h
    rfl
  | b :: bs,us,h=>by
    rw [List.map_cons] at h
    cases h with
    | cons r t =>
      cases r
      rw [Vals.bls t,List.map_cons]
theorem Vals.ref1 {a:Addr} {us:List Value} (r:Vals [V.ref a] us):us=[Value.ref a]:=by
  cases r with
  | cons r t =>
    cases t
    cases r
    rfl
section
variable {prog:Program} {w:World} {A:Around} {E:Value→Shared→Prop} {s:Shared} {l:Addr} {its:List Value} {ns:List Int} {Q:Value→Shared→Prop}
theorem sum_raw (hh:A.handled=none) (hl:s.heap.IsList l its.toArray) (hi:IntsAre its ns)
    (h:∀ h' tk t',(∀ b o,s.heap.get? b=some o→h'.get? b=some o)→Q (.int ns.sum t') { s with heap:=h',toks:=tk }):wpAny (model prog w) A (call (.builtin "sum") [.ref l]) Q E s:=by
  obtain ⟨xs,e⟩:=hi.allInts.items
  have hn:numsOf (intItems xs).toList=ns:=by rw [← e];exact hi.numsOf
  rw [nums_intItems] at hn
  rw [e] at hl
  refine PySem.sum_intListG hh hl fun h' tk t' hk=>?_
  have:=h h' tk t' hk
  rw [preSum_eq,List.take_of_length_le (by simp),hn];exact this
theorem min_raw (hh:A.handled=none) (hl:s.heap.IsList l its.toArray) (hi:IntsAre its ns) (hne:0 < ns.length)
    (h:∀ h' tk M t',(∀ b o,s.heap.get? b=some o→h'.get? b=some o)→M∈ns→(∀ a,a∈ns→M≤a)→Q (.int M t') { s with heap:=h',toks:=tk }):wpAny (model prog w) A (call (.builtin "min") [.ref l]) Q E s:=by
  obtain ⟨xs,e⟩:=hi.allInts.items
  have hn:numsOf (intItems xs).toList=ns:=by rw [← e];exact hi.numsOf
  rw [nums_intItems] at hn
  subst hn
  rw [e] at hl
  have hsz:0 < xs.size:=by simpa using hne
  refine PySem.min_intList hh hl hsz fun v h' tk hv hk=>?_
  obtain ⟨t,rfl⟩:=intItems_at hv
  obtain ⟨h1,h2⟩:=argBest_lt (numAt xs) (xs.size - 1)
  refine h h' tk _ t hk ?_ fun a ha=>?_
  · rw [numAt_eq];exact PySem.getD_mem (by rw [List.length_map,Array.length_toList];omega)
  · obtain ⟨j,hj,rfl⟩:=mem_getD ha
    rw [List.length_map,Array.length_toList] at hj
    rw [← numAt_eq];exact h2 j (by omega)
end
section
variable {X:Cx}
def rSum (K:PySem.W.Frag):List V→Hp→VK→Prop:=fun vs H Q=>∃ (a:Addr) (ns:List Int),vs=[V.ref a]∧SqL K H a (ns.map V.int)∧Q (.int ns.sum) H
def rMin (K:PySem.W.Frag):List V→Hp→VK→Prop:=fun vs H Q=>∃ (a:Addr) (ns:List Int),vs=[V.ref a]∧SqL K H a (ns.map V.int)∧0 < ns.length∧∀ m,m∈ns→(∀ y,y∈ns→m≤y)→Q (.int m) H
theorem cr_sum (hc:X.calm=true):CallR X (.builtin "sum") (rSum X.K):=by
  intro pins s σ H vs us Q I r h
  obtain ⟨a,ns,rfl,hs,q⟩:=h
  obtain ⟨its,rv,hl,_⟩:=I.list hs
  rw [Vals.ref1 r]
  exact sum_raw (I.ok.hd hc) hl.isList rv.ints fun h' tk t' hk=>⟨.int _,H,I.kept hk,⟨_,rfl⟩,q⟩
theorem cr_min (hc:X.calm=true):CallR X (.builtin "min") (rMin X.K):=by
  intro pins s σ H vs us Q I r h
  obtain ⟨a,ns,rfl,hs,hne,q⟩:=h
  obtain ⟨its,rv,hl,_⟩:=I.list hs
  rw [Vals.ref1 r]
  exact min_raw (I.ok.hd hc) hl.isList rv.ints hne fun h' tk m t' hk h1 h2=>⟨.int _,H,I.kept hk,⟨_,rfl⟩,q m h1 h2⟩
theorem small64 {n:Nat} (h:n < 64):n≤sizeLine:=by rw [sizeLine_eq];omega
end
theorem iter_any {prog:Program} {w:World} {A:Around} {E:Value→Shared→Prop} {s:Shared} {l:Addr} {items:Array Value} {Q:Value→Shared→Prop} (hl:s.heap.IsList l items)
    (h:∀ s₂:Shared,s₂={ s with heap:=s.heap.push { cls:=.type "list_iterator",data:=.fields #[.ref l,.int 0 0] } } →
      (s₂.heap.IsListIter s.heap.objs.size l 0∧s₂.heap.IsList l items)→l≠s.heap.objs.size→Q (.ref s.heap.objs.size) s₂):wpAny (model prog w) A (pyIter (.ref l)) Q E s:=by
  have hlt:l < s.heap.objs.size:=by obtain ⟨_,e,_⟩:=hl;exact Heap.lt_size e
  exact wpAny_pyIter_list hl (h _ rfl ⟨⟨_,Heap.get?_push_size _ rfl,rfl,rfl⟩,hl.push _⟩ (Nat.ne_of_lt hlt))
theorem truth_bools {prog:Program} {w:World} {A:Around} {bs:List Bool} {its:List Value} (e:its=bs.map Value.bool) :
    TruthOf prog w A (fun i v=>its.toArray[i]?=some v) (fun i=>bs.getD i false):=fun i v s Q E hv hq=>by
  have hv':its[i]?=some v:=by simpa using hv
  rw [e,List.getElem?_map] at hv'
  obtain ⟨b,hb,rfl⟩:=Option.map_eq_some_iff.mp hv'
  have hg:bs.getD i false=b:=by rw [List.getD_eq_getElem?_getD,hb] <;> rfl
  have hq':Q (bs.getD i false) s:=hq
  rw [hg] at hq'
  exact wpAny_truthy_bool hq'
theorem any_range:∀ bs:List Bool,(List.range bs.length).any (fun i=>bs.getD i false)=bs.any id
  | []=>rfl
  | b :: bs=>by
    rw [List.length_cons,List.range_succ_eq_map,List.any_cons,List.any_map,List.any_cons,← any_range bs]
    all_goals rfl
theorem all_range:∀ bs:List Bool,(List.range bs.length).all (fun i=>bs.getD i false)=bs.all id
  | []=>rfl
  | b :: bs=>by
    rw [List.length_cons,List.range_succ_eq_map,List.all_cons,List.all_map,List.all_cons,← all_range bs]
    all_goals rfl
section
variable {X:Cx}
def rAny (K:PySem.W.Frag):List V→Hp→VK→Prop:=fun vs H Q=>∃ (a:Addr) (bs:List Bool),vs=[V.ref a]∧SqL K H a (bs.map V.bl)∧Q (.bl (bs.any id)) H
def rAll (K:PySem.W.Frag):List V→Hp→VK→Prop:=fun vs H Q=>∃ (a:Addr) (bs:List Bool),vs=[V.ref a]∧SqL K H a (bs.map V.bl)∧Q (.bl (bs.all id)) H
theorem cr_any (hc:X.calm=true):CallR X (.builtin "any") (rAny X.K):=by
  intro pins s σ H vs us Q I r h
  obtain ⟨a,bs,rfl,hs,q⟩:=h
  obtain ⟨its,rv,hl,_⟩:=I.list hs
  rw [Vals.ref1 r]
  have hb:=rv.bls
  refine call_any_walk (iter_any hl.isList fun s₂ e2 st hne=>?_)
  subst e2
  refine ⟨_,_,_,_,_,_,_,rfl,Walks.list (A:=X.A.in1) (I.ok.hd hc) _ a hne its.toArray,st,truth_bools hb,fun h' tk hk=>?_⟩
  refine ⟨.bl _,H,I.kept fun b o eo=>hk b o (fun hmem=>?_) (Heap.get?_push_of_some _ eo),?_,q⟩
  · rcases List.mem_cons.mp hmem with e1 | hmem
    · exact absurd (e1 ▸ Heap.lt_size eo) (Nat.lt_irrefl _)
    · cases hmem
  · show Value.bool _=Value.bool _
    rw [← any_range,hb,List.size_toArray,List.length_map]
theorem cr_all (hc:X.calm=true):CallR X (.builtin "all") (rAll X.K):=by
  intro pins s σ H vs us Q I r h
  obtain ⟨a,bs,rfl,hs,q⟩:=h
  obtain ⟨its,rv,hl,_⟩:=I.list hs
  rw [Vals.ref1 r]
  have hb:=rv.bls
  refine call_all_walk (iter_any hl.isList fun s₂ e2 st hne=>?_)
  subst e2
  refine ⟨_,_,_,_,_,_,_,rfl,Walks.list (A:=X.A.in1) (I.ok.hd hc) _ a hne its.toArray,st,truth_bools hb,fun h' tk hk=>?_⟩
  refine ⟨.bl _,H,I.kept fun b o eo=>hk b o (fun hmem=>?_) (Heap.get?_push_of_some _ eo),?_,q⟩
  · rcases List.mem_cons.mp hmem with e1 | hmem
    · exact absurd (e1 ▸ Heap.lt_size eo) (Nat.lt_irrefl _)
    · cases hmem
  · show Value.bool _=Value.bool _
    rw [← all_range,hb,List.size_toArray,List.length_map]
end
end L2
namespace L2
open PySem PySem.Spec PyProof.Rows
abbrev CellAt (h:Heap) (c:Addr) (v:Option Value):Prop:=h.IsCell c v
def relS (scope sc:Scope):Scope :=
  { scope with names:=scope.names.map fun (n,k)=>if (k == .free && sc.kind == .function && sc.names.lookup n == some .cell) then (n,.cell) else (n,k) }
def cloFrom (cells:List (Str × Addr)):List (Str × NameKind)→List (Str × Addr)→List (Str × Addr)
  | [],acc=>acc
  | (n,k) :: r,acc=>if k == .free then cloFrom cells r ((n,(cells.lookup n).getD 0) :: acc) else cloFrom cells r acc
theorem closure_loop (env:Env) (f:Str × NameKind→List (Str × Addr)→Sem (ForInStep (List (Str × Addr))))
    (hf:∀ n k c,f (n,k) c=if k == .free then (do let a ← cellOf env n;pure (.yield ((n,a) :: c))) else pure (.yield c)) :
    ∀ (names:List (Str × NameKind)) (acc:List (Str × Addr)),(∀ y∈names,y.2=.free→∃ c,env.cells.lookup y.1=some c)→forIn names acc f=pure (cloFrom env.cells names acc)
  | [],acc,_=>by rw [List.forIn_nil];rfl
  | (n,k) :: r,acc,h=>by
    rw [List.forIn_cons,hf]
    have ih:=fun acc=>closure_loop env f hf r acc fun y hy=>h y (List.mem_cons_of_mem _ hy)
    unfold cloFrom
    by_cases hk:(k == NameKind.free)=true
    · rw [if_pos hk,if_pos hk]
      obtain ⟨c,hc⟩:=h (n,k) List.mem_cons_self (by simpa using hk)
      have e:cellOf env n=pure c:=by unfold cellOf;rw [hc]
      rw [e]
      have e2:(env.cells.lookup n).getD 0=c:=by rw [hc];rfl
      rw [e2]
      exact ih _
    · rw [if_neg hk,if_neg hk]
      exact ih _
theorem closure_ok {scope:Scope} {env:Env} (h:∀ y∈scope.names,y.2=.free→∃ c,env.cells.lookup y.1=some c):closureFor scope env=pure (cloFrom env.cells scope.names []):=by
  simp only [closureFor]
  rw [closure_loop env _ (fun n k c=>rfl) scope.names [] h]
  rfl
theorem mem_lookup {α:Type}:∀ {l:List (Str × α)} {n:Str} {c:α},(n,c)∈l→∃ c',l.lookup n=some c'
  | (k,v) :: r,n,c,h=>by
    rw [List.lookup_cons]
    cases hb:n == k with
    | true=>exact ⟨_,rfl⟩
    | false =>
      rcases List.mem_cons.mp h with e | h
      · cases e;simp at hb
      · exact mem_lookup h
theorem cloFrom_mem {cells:List (Str × Addr)}:∀ {names:List (Str × NameKind)} {acc:List (Str × Addr)} {n:Str} {c:Addr},(n,c)∈cloFrom cells names acc→(n,c)∈acc∨((n,.free)∈names∧c=(cells.lookup n).getD 0)
  | [],_,_,_,h=>.inl h
  | (m,k) :: r,acc,n,c,h=>by
    unfold cloFrom at h
    split at h
    · rename_i hk
      have hk:k=.free:=by simpa using hk
      rcases cloFrom_mem h with h | ⟨h1,h2⟩
      · rcases List.mem_cons.mp h with e | h
        · cases e;exact .inr ⟨hk ▸ List.mem_cons_self,rfl⟩
        · exact .inl h
      · exact .inr ⟨List.mem_cons_of_mem _ h1,h2⟩
    · rcases cloFrom_mem h with h | ⟨h1,h2⟩
      · exact .inl h
      · exact .inr ⟨List.mem_cons_of_mem _ h1,h2⟩
theorem cloFrom_acc {cells:List (Str × Addr)}:∀ {names:List (Str × NameKind)} {acc:List (Str × Addr)} {p:Str × Addr},p∈acc→p∈cloFrom cells names acc
  | [],_,_,h=>h
  | (m,k) :: r,acc,p,h=>by
    unfold cloFrom
    split
    · exact cloFrom_acc (List.mem_cons_of_mem _ h)
    · exact cloFrom_acc h
theorem cloFrom_has {cells:List (Str × Addr)}:∀ {names:List (Str × NameKind)} {acc:List (Str × Addr)} {n:Str},(n,.free)∈names→(n,(cells.lookup n).getD 0)∈cloFrom cells names acc
  | (m,k) :: r,acc,n,h=>by
    unfold cloFrom
    rcases List.mem_cons.mp h with e | h
    · cases e
      exact cloFrom_acc List.mem_cons_self
    · split
      · exact cloFrom_has h
      · exact cloFrom_has h
theorem cells_mem:∀ {names:List (Str × NameKind)} {h:Heap} {acc:List (Str × Addr)} {x:Str} {c:Addr},(x,c)∈cellsFrom h.objs.size names acc →
    (x,c)∈acc∨((x,.cell)∈names∧h.objs.size≤c∧CellAt (pushCells h names) c none)
  | [],_,_,_,_,h=>.inl h
  | (n,k) :: r,h,acc,x,c,hm=>by
    unfold cellsFrom at hm
    unfold pushCells
    split at hm
    · rename_i hk
      rw [if_pos hk]
      have hk:k=.cell:=by simpa using hk
      rw [← Heap.size_push h { cls:=.type "cell",data:=.cell none }] at hm
      rcases cells_mem hm with hm | ⟨h1,h2,h3⟩
      · rcases List.mem_cons.mp hm with e | hm
        · cases e
          exact .inr ⟨hk ▸ List.mem_cons_self,Nat.le_refl _,_,pushCells_keeps r _ _ _ (Heap.get?_push_size _ rfl),rfl⟩
        · exact .inl hm
      · rw [Heap.size_push] at h2
        exact .inr ⟨List.mem_cons_of_mem _ h1,Nat.le_of_succ_le h2,h3⟩
    · rename_i hk
      rw [if_neg hk]
      rcases cells_mem hm with hm | ⟨h1,h2,h3⟩
      · exact .inl hm
      · exact .inr ⟨List.mem_cons_of_mem _ h1,h2,h3⟩
theorem cells_acc:∀ {names:List (Str × NameKind)} {n:Nat} {acc:List (Str × Addr)} {p:Str × Addr},p∈acc→p∈cellsFrom n names acc
  | [],_,_,_,h=>h
  | (m,k) :: r,n,acc,p,h=>by
    unfold cellsFrom
    split
    · exact cells_acc (List.mem_cons_of_mem _ h)
    · exact cells_acc h
theorem cells_has:∀ {names:List (Str × NameKind)} {n:Nat} {acc:List (Str × Addr)} {x:Str},(x,.cell)∈names→∃ c,(x,c)∈cellsFrom n names acc
  | (m,k) :: r,n,acc,x,h=>by
    unfold cellsFrom
    rcases List.mem_cons.mp h with e | h
    · cases e
      exact ⟨n,cells_acc List.mem_cons_self⟩
    · split
      · exact cells_has h
      · exact cells_has h
theorem cells_inj:∀ {names:List (Str × NameKind)} {h:Heap} {acc:List (Str × Addr)} {x y:Str} {c:Addr},(∀ p∈acc,p.2 < h.objs.size)→(∀ x y c,(x,c)∈acc→(y,c)∈acc→x=y) →
    (x,c)∈cellsFrom h.objs.size names acc→(y,c)∈cellsFrom h.objs.size names acc→x=y
  | [],_,_,_,_,_,_,hi,h1,h2=>hi _ _ _ h1 h2
  | (n,k) :: r,h,acc,x,y,c,hl,hi,h1,h2=>by
    unfold cellsFrom at h1 h2
    split at h1
    · rename_i hk
      rw [if_pos hk] at h2
      rw [← Heap.size_push h { cls:=.type "cell",data:=.cell none }] at h1 h2
      refine cells_inj (h:=h.push _) (fun p hp=>?_) (fun x y c a b=>?_) h1 h2
      · rw [Heap.size_push]
        rcases List.mem_cons.mp hp with rfl | hp
        · exact Nat.lt_succ_self _
        · exact Nat.lt_succ_of_lt (hl p hp)
      · rcases List.mem_cons.mp a with e | a <;> rcases List.mem_cons.mp b with e' | b
        · cases e;cases e';rfl
        · cases e;exact absurd (hl _ b) (Nat.lt_irrefl _)
        · cases e';exact absurd (hl _ a) (Nat.lt_irrefl _)
        · exact hi _ _ _ a b
    · rename_i hk
      rw [if_neg hk] at h2
      exact cells_inj hl hi h1 h2
theorem newEnv_comp {M:Model} {A:Around} {E:Value→Shared→Prop} {s:Shared} {scope:Scope} {globals:Addr} {closure:List (Str × Addr)} {qual:Str} {func:Option Addr} {code:Value} {around:Env} {builtins:Addr} {Q:Env→Shared→Prop}
    (h:Q (newEnv scope s.heap.objs.size globals (cellsFrom (s.heap.objs.size + 1) scope.names closure) qual func code (some around) builtins)
      { s with heap:=pushCells (s.heap.push { cls:=.type "dict",data:=.dict #[] }) scope.names }) :
    wpAny M A (newFunctionEnv scope globals closure [] qual func code (some around) builtins) Q E s:=by
  simp only [newFunctionEnv,Option.isSome_some,if_true]
  refine wpAny_bind (wpAny_alloc ?_)
  refine wpAny_bind (wpAny_layCells _ (fun n k c=>rfl) scope.names closure _ _ ?_)
  rw [show ({ s with heap:=s.heap.push { cls:=.type "dict",data:=.dict #[] } }:Shared).heap.objs.size=s.heap.objs.size + 1 from Heap.size_push ..]
  rw [List.forIn_nil]
  exact wpAny_bind (wpAny_pure (wpAny_pure h))
theorem lookup_relS {sc:Scope}:∀ {names:List (Str × NameKind)} {x:Str} {k:NameKind},
    (names.map fun (n,k)=>if (k == NameKind.free && sc.kind == .function && sc.names.lookup n == some .cell) then (n,NameKind.cell) else (n,k)).lookup x=some k →
    ∃ k',names.lookup x=some k'∧(k=k'∨(k'=.free∧k=.cell))
  | [],_,_,h=>by simp at h
  | (n,k₀) :: r,x,k,h=>by
    have ih:=@lookup_relS sc r x k
    have h':List.lookup x ((if (k₀ == NameKind.free && sc.kind == .function && sc.names.lookup n == some .cell)=true then (n,NameKind.cell) else (n,k₀)) :: (r.map _))=some k:=h
    cases hx:x == n with
    | true =>
      simp only [List.lookup_cons,hx]
      by_cases hc:(k₀ == NameKind.free && sc.kind == .function && sc.names.lookup n == some .cell)=true
      · rw [if_pos hc] at h'
        simp only [List.lookup_cons,hx] at h'
        cases h'
        simp only [Bool.and_eq_true,beq_iff_eq] at hc
        exact ⟨k₀,rfl,.inr ⟨hc.1.1,rfl⟩⟩
      · rw [if_neg hc] at h'
        simp only [List.lookup_cons,hx] at h'
        cases h'
        exact ⟨_,rfl,.inl rfl⟩
    | false =>
      simp only [List.lookup_cons,hx]
      by_cases hc:(k₀ == NameKind.free && sc.kind == .function && sc.names.lookup n == some .cell)=true
      · rw [if_pos hc] at h'
        simp only [List.lookup_cons,hx] at h'
        exact ih h'
      · rw [if_neg hc] at h'
        simp only [List.lookup_cons,hx] at h'
        exact ih h'
structure BlkOk (N:List Str) (sc scope:Scope) (own:List (Str × Nat)):Prop where
  kind:scope.kind=.function
  uniq:∀ y∈scope.names,scope.names.lookup y.1=some y.2
  ix:∀ p∈own,N[p.2]?=some p.1
  free:∀ y∈scope.names,y.2=.free→sc.names.lookup y.1=some .cell∨sc.names.lookup y.1=some .free
  own:∀ y∈scope.names,y.2=.local∨y.2=.cell→y.1∈own.map (·.1)∨y.1 ∉ N
def wipe (σ:St):List Nat→St
  | []=>σ
  | v :: vs=>(wipe σ vs).set v none
theorem wipe_length (σ:St):∀ vs:List Nat,(wipe σ vs).length=σ.length
  | []=>rfl
  | v :: vs=>by unfold wipe;rw [List.length_set,wipe_length σ vs]
theorem wipe_some {σ:St} {i:Nat} {x:V}:∀ {vs:List Nat},(wipe σ vs)[i]?=some (some x)→σ[i]?=some (some x)∧i ∉ vs
  | [],h=>⟨h,by simp⟩
  | v :: vs,h=>by
    unfold wipe at h
    by_cases hi:v=i
    · subst hi
      by_cases hv:v < (wipe σ vs).length
      · rw [List.getElem?_set_self hv] at h;cases h
      · rw [List.getElem?_eq_none (by simpa using hv)] at h;cases h
    · rw [List.getElem?_set_ne hi] at h
      obtain ⟨h1,h2⟩:=wipe_some h
      exact ⟨h1,by simp only [List.mem_cons,not_or];exact ⟨fun e=>hi e.symm,h2⟩⟩
abbrev Cx.blk (X:Cx) (s:Shared) (H:Hp) (scope:Scope) (cenv:Env) (fp:List Addr):Cx:={ X with s_0:=s,H_0:=H,env:=cenv,outer:=X.stack,ex:=fp,fn:=fun x=>scope.names.lookup x == some .cell,pn:=[],xe:=fun _ _=>False }
section
variable {X:Cx} {pins:List (Addr × Obj)} {σ:St} {H:Hp} {s:Shared}
theorem block_start {scope:Scope} {own:List (Str × Nat)} {fp:List Addr} (I:Inv X pins σ H s) (ok:BlkOk X.N X.env.scope scope own) (hN:X.N.Nodup) (hfp:∀ b∈fp,FpOk X pins H b∧b < s.heap.objs.size) :
    Inv (X.blk s H scope (compEnvC scope (cellsFrom (s.heap.objs.size + 1) scope.names (cloFrom X.env.cells scope.names [])) s.heap.objs.size X.env) fp) [] (wipe σ (own.map (·.2))) H { s with heap:=pushCells (s.heap.push { cls:=.type "dict",data:=.dict #[] }) scope.names }:=by
  have hfree:∀ y∈scope.names,y.2=.free→∃ c,X.env.cells.lookup y.1=some c:=fun y hy e=>by
    rcases ok.free y hy e with k | k
    · exact I.ok.has _ (.inl k)
    · exact I.ok.has _ (.inr k)
  generalize hcenv:compEnvC scope (cellsFrom (s.heap.objs.size + 1) scope.names (cloFrom X.env.cells scope.names [])) s.heap.objs.size X.env=cenv
  have kp:∀ b o,s.heap.get? b=some o→(pushCells (s.heap.push { cls:=.type "dict",data:=.dict #[] }) scope.names).get? b=some o:=fun b o e=>pushCells_keeps _ _ _ _ (Heap.get?_push_of_some _ e)
  have hL:cenv.locals=s.heap.objs.size:=by rw [← hcenv];rfl
  have hcl:cenv.cells=cellsFrom (s.heap.objs.size + 1) scope.names (cloFrom X.env.cells scope.names []):=by rw [← hcenv];rfl
  have hsc:cenv.scope=relS scope X.env.scope:=by rw [← hcenv];rfl
  rw [← Heap.size_push s.heap { cls:=.type "dict",data:=.dict #[] }] at hcl
  have cm:∀ {y c},(y,c)∈cloFrom X.env.cells scope.names []→X.env.cells.lookup y=some c∧c < s.heap.objs.size:=fun {y c} hm=>by
    rcases cloFrom_mem hm with hm | ⟨h1,rfl⟩
    · cases hm
    · obtain ⟨c,hc⟩:=hfree _ h1 rfl
      rw [hc]
      obtain ⟨w,z⟩:=I.cell _ _ hc
      exact ⟨rfl,z.lt⟩
  have mem:∀ {y c},cenv.cells.lookup y=some c→(X.env.cells.lookup y=some c∧c < s.heap.objs.size)∨(s.heap.objs.size + 1≤c∧CellAt (pushCells (s.heap.push { cls:=.type "dict",data:=.dict #[] }) scope.names) c none):=fun {y c} e=>by
    rw [hcl] at e
    rcases cells_mem (PySem.mem_of_lookup e) with hm | ⟨_,h2,h3⟩
    · exact .inl (cm hm)
    · rw [Heap.size_push] at h2;exact .inr ⟨h2,h3⟩
  have look:∀ {y},scope.names.lookup y=some .free→∃ c,cenv.cells.lookup y=some c∧X.env.cells.lookup y=some c:=fun {y} hl=>by
    have hy:(y,NameKind.free)∈scope.names:=PySem.mem_of_lookup hl
    obtain ⟨c',e'⟩:=mem_lookup (cells_acc (names:=scope.names) (n:=(s.heap.push { cls:=.type "dict",data:=.dict #[] }).objs.size) (cloFrom_has (cells:=X.env.cells) (acc:=[]) hy))
    rw [← hcl] at e'
    refine ⟨c',e',?_⟩
    rw [hcl] at e'
    rcases cells_mem (PySem.mem_of_lookup e') with hm | ⟨h1,_,_⟩
    · exact (cm hm).1
    · have:=ok.uniq _ h1
      rw [hl] at this;cases this
  have okB:(X.blk s H scope cenv fp).Ok:=by
    refine ⟨I.ok.mod,by show cenv.scope.kind=_;rw [hsc];exact ok.kind,by show cenv.globals=_;rw [← hcenv];exact I.ok.glob,by show cenv.builtins=_;rw [← hcenv];exact I.ok.blt,by show s.heap.objs.size≤cenv.locals;rw [hL];exact Nat.le_refl _,
      fun y z c e1 e2=>?_,fun y hy=>?_,fun y c z e=>?_,I.ok.hd,I.ok.frames,.inl rfl,fun b hb=>⟨?_,fun y c e z=>?_⟩,I.bs,Nat.le_trans I.ok.bsz I.sz,fun b o e hb=>?_,fun b hb z=>?_,I.stack,I.stkFree⟩
    · have e1:cenv.cells.lookup y=some c:=e1
      have e2:cenv.cells.lookup z=some c:=e2
      rw [hcl] at e1 e2
      refine cells_inj (fun p hp=>?_) (fun y z c a b=>I.ok.inj y z c (cm a).1 (cm b).1) (PySem.mem_of_lookup e1) (PySem.mem_of_lookup e2)
      rw [Heap.size_push]
      exact Nat.lt_succ_of_lt (cm (y:=p.1) (c:=p.2) hp).2
    · show ∃ c,cenv.cells.lookup y=some c
      have key:∀ k,cenv.kindOf y=some k→(k=.cell∨k=.free)→∃ c,cenv.cells.lookup y=some c:=fun k hk hk'=>by
        unfold Env.kindOf at hk
        rw [hsc] at hk
        obtain ⟨k',e,r⟩:=lookup_relS hk
        have:k'=.cell∨k'=.free:=by
          rcases r with rfl | ⟨rfl,_⟩
          · exact hk'
          · exact .inr rfl
        rcases this with rfl | rfl
        · obtain ⟨c,hm⟩:=cells_has (n:=(s.heap.push { cls:=.type "dict",data:=.dict #[] }).objs.size) (acc:=cloFrom X.env.cells scope.names []) (PySem.mem_of_lookup e)
          obtain ⟨c',e'⟩:=mem_lookup hm
          exact ⟨c',by rw [hcl];exact e'⟩
        · obtain ⟨c,h1,_⟩:=look e
          exact ⟨c,h1⟩
      rcases hy with hy | hy
      · exact key _ hy (.inl rfl)
      · exact key _ hy (.inr rfl)
    · have z:(scope.names.lookup y == some NameKind.cell)=true:=z
      have z:scope.names.lookup y=some .cell:=by simpa using z
      have e:cenv.cells.lookup y=some c:=e
      rw [hcl] at e
      rcases cells_mem (PySem.mem_of_lookup e) with hm | ⟨_,h2,_⟩
      · rcases cloFrom_mem hm with hm | ⟨h1,_⟩
        · cases hm
        · have q:=ok.uniq _ h1
          rw [z] at q;cases q
      · rw [Heap.size_push] at h2
        exact Nat.le_of_succ_le h2
    · show b≠cenv.locals
      rw [hL];exact Nat.ne_of_lt (hfp b hb).2
    · have e:cenv.cells.lookup y=some c:=e
      rcases mem e with ⟨h1,_⟩ | ⟨h1,_⟩
      · exact (hfp b hb).1.2.2.2.2.1 y c h1 z
      · have h2:s.heap.objs.size + 1≤b:=by rw [← z];exact h1
        exact absurd (Nat.lt_of_lt_of_le (hfp b hb).2 (Nat.le_of_succ_le h2)) (Nat.lt_irrefl _)
    · rcases (hfp b hb).1.2.2.2.1 with z | z
      · exact I.ok.noex b o e z
      · exact absurd (Nat.lt_of_lt_of_le (Heap.lt_size e) (Nat.le_trans I.ok.bsz z)) (Nat.lt_irrefl _)
    · rcases List.mem_cons.mp (I.stkSub b z) with z | z
      · exact (hfp b hb).1.2.1 z
      · exact (hfp b hb).1.2.2.1 z
  refine ⟨okB,rfl,I.bare,Un.kept kp,⟨fun _=>none,?_,fun i y av e1 e2 e3=>?_⟩,fun y c e=>?_,?_,fun y c e=>?_,fun p hp=>?_,I.hok.kept kp,by rw [wipe_length];exact I.len⟩
  · show Heap.Ns _ cenv.locals _
    rw [hL]
    exact Heap.Ns.keeps (Heap.Ns.new ..) fun b o e=>pushCells_keeps _ _ _ _ e
  · obtain ⟨e2,hne⟩:=wipe_some e2
    have hfr:scope.names.lookup y=some .free∧(cenv.kindOf y=some .cell∨cenv.kindOf y=some .free):=by
      have key:∀ k,cenv.scope.names.lookup y=some k→k=.local∨k=.cell∨k=.free→scope.names.lookup y=some .free∧(cenv.kindOf y=some .cell∨cenv.kindOf y=some .free):=fun k hk hk'=>by
        have hk0:=hk
        rw [hsc] at hk
        obtain ⟨k',e,r⟩:=lookup_relS hk
        have no:¬ (k'=.local∨k'=.cell):=fun hh=>by
          rcases ok.own _ (PySem.mem_of_lookup e) hh with e' | e'
          · obtain ⟨p,hp,hpy⟩:=List.mem_map.mp e'
            have e3:=ok.ix p hp
            have:p.1=y:=hpy
            rw [this] at e3
            exact hne (List.mem_map.mpr ⟨p,hp,nodup_ix hN e3 e1⟩)
          · exact e' (List.mem_of_getElem? e1)
        rcases r with rfl | ⟨rfl,rfl⟩
        · rcases hk' with rfl | rfl | rfl
          · exact absurd (.inl rfl) no
          · exact absurd (.inr rfl) no
          · exact ⟨e,.inr hk0⟩
        · exact ⟨e,.inl hk0⟩
      have e3:Vis cenv.scope y:=e3
      rcases e3 with e3 | e3 | e3
      · exact key _ e3 (.inl rfl)
      · exact key _ e3 (.inr (.inl rfl))
      · exact key _ e3 (.inr (.inr rfl))
    obtain ⟨m,hn,hl⟩:=I.loc
    have hvis:Vis X.env.scope y:=(ok.free _ (PySem.mem_of_lookup hfr.1) rfl).elim (fun k=>.inr (.inl k)) (fun k=>.inr (.inr k))
    obtain ⟨w,r,q⟩:=hl i y av e1 e2 hvis
    refine ⟨w,r,.inr ⟨hfr.2,?_⟩⟩
    obtain ⟨c,h1,h2⟩:=look hfr.1
    rcases q with ⟨k,_⟩ | ⟨_,c',e',z⟩
    · have k:X.env.scope.names.lookup y=some .local:=k
      rcases ok.free _ (PySem.mem_of_lookup hfr.1) rfl with k' | k' <;> rw [show X.env.scope.names.lookup y=_ from k'] at k <;> cases k
    · rw [h2] at e';cases e'
      exact ⟨c,h1,z.keeps kp⟩
  · have e:cenv.cells.lookup y=some c:=e
    rcases mem e with ⟨h1,_⟩ | ⟨_,z⟩
    · obtain ⟨w,z⟩:=I.cell y c h1
      exact ⟨w,z.keeps kp⟩
    · exact ⟨_,z⟩
  · show H cenv.locals=none
    rw [hL];exact I.hok.fresh (Nat.le_refl _)
  · have e:cenv.cells.lookup y=some c:=e
    rcases mem e with ⟨h1,_⟩ | ⟨h1,_⟩
    · exact I.freeC y c h1
    · exact I.hok.fresh (Nat.le_of_succ_le h1)
  · exact absurd (show p∈([]:List (Addr × Obj))++[] from hp) (by simp)
theorem app_ok {E:Value→Shared→Prop} {D:Addr} {xs:List V} {y:V} {v:Value} {Q:Value→Shared→Prop} (I:Inv X pins σ H s) (hD:H D=some (.lst xs)) (hz:xs.length < sizeLine) (r:RelV y v)
    (h:∀ s',Inv X pins σ (upd H D (.lst (xs++[y]))) s'→Q .none s'):wpAny (model X.prog X.w) X.A (call (.builtin "list.append") [.ref D,v]) Q E s:=by
  obtain ⟨hz',its,n,ri,e⟩:=I.hok D _ hD
  have hl:=ri.length
  refine append_at (hsz:=by rw [List.size_toArray];omega) e fun h' sb ho'=>?_
  refine h { s with heap:=h' } (I.write (t':=s.toks) (by rw [hD];trivial) (.inl rfl) (fun b u hb q=>(sb.2 b hb).trans q) ⟨_,ho'⟩ ⟨by rw [List.length_append];exact hz,its++[v],n + 1,ri.append (.cons r .nil),?_⟩)
  rw [ho']
  simp
def PTs (X:Cx) (ifs:List Expr) (t:TT):Prop :=
  ∀ (pins:List (Addr × Obj)) (s:Shared) (σ:St) (H:Hp) (Q:Bool→Hp→Prop),Inv X pins σ H s→t σ H Q →
    wpAny (model X.prog X.w) X.A (forIn ifs true fun c r=>if r=true then do let ok ← isTrue c X.env (eval c X.env);pure (ForInStep.yield ok) else pure (ForInStep.yield r)) (TP X pins σ Q) X.xe s
def tYes:TT:=fun _ H Q=>Q true H
theorem pts_nil:PTs X [] tYes:=fun _ _ _ H _ I h=>wpAny_tests_nil ⟨H,I,h⟩
theorem pts_one {c:Expr} {t:TT} (h:PT X c t):PTs X [c] t:=fun pins s σ H Q I hw=>wpAny_tests_one (h pins s σ H Q I hw)
end
theorem thnF {α:Type} {t:Sem α} {Q Q':α→Shared→Prop} {M:Model} {A:Around} {E:Value→Shared→Prop} {s:Shared} (h:wpAny M A t Q (fun _ _=>False) s) (hQ:∀ a s,Q a s→Q' a s):wpAny M A t Q' E s:=wpAny_mono h hQ fun _ _ z=>False.elim z
theorem compLoop_any {prog:Program} {w:World} {A:Around} {R:Result→Shared→Prop} {s:Shared} {elt target iter:Expr} {ifs:List Expr} {scope:Scope} {pos:Pos} {it acc:Value} {env:Env} (I:Nat→Shared→Prop)
    (turn:∀ n s,I n s→wpAny (model prog w) A (pyNext it) (fun r s₁=>match r with
      | none=>R (.ok .next) s₁
      | some v=>wpAny (model prog w) A (letOwnedTupleGo target it v) (fun _ s₁'=>wpAny (model prog w) A (assign target env v) (fun _ s₂ =>
          wpAny (model prog w) A (forIn ifs true fun c r=>if r=true then do let ok ← isTrue c env (eval c env);pure (ForInStep.yield ok) else pure (ForInStep.yield r)) (fun ok s₃ =>
            if ok=true then wpAny (model prog w) A (eval elt env) (fun x s₄ =>
              wpAny (model prog w) A (call (.builtin "list.append") [acc,x]) (fun _ s₅=>∃ m,m < n∧I m s₅) (notedBy (model prog w) A env fun e s'=>R (.error e) s') s₄) (notedBy (model prog w) A env fun e s'=>R (.error e) s') s₃
            else ∃ m,m < n∧I m s₃) (notedBy (model prog w) A env fun e s'=>R (.error e) s') s₂) (notedBy (model prog w) A env fun e s'=>R (.error e) s') s₁') (notedBy (model prog w) A env fun e s'=>R (.error e) s') s₁) (notedBy (model prog w) A env fun e s'=>R (.error e) s') s)
    (n:Nat) (h:I n s) :
    codeAny (model prog w) A (.compLoop (.ListComp elt [⟨target,iter,ifs,0⟩] scope pos) 0 it acc env) R s:=by
  refine codeAny_loop rfl I (fun n s hI=>?_) n h
  show wpAny _ A ((compTurn (.ListComp elt [⟨target,iter,ifs,0⟩] scope pos) 0 it acc env).onRaise (fun x=>do noteFrame x env;theTreesLotGoes x)) _ _ s
  refine wpAny_noted ?_
  rw [compTurn_list]
  refine wpAny_bind (wpAny_standAt (wpAny_bind (wpAny_mono (turn n s hI) (fun r s₁ h₁=>?_) fun _ _ h'=>h')))
  cases r with
  | none=>exact wpAny_pure h₁
  | some v =>
    refine wpAny_bind (wpAny_mono h₁ (fun _ s₁' h₁'=>?_) fun _ _ h'=>h')
    refine wpAny_bind (wpAny_mono h₁' (fun _ s₂ h₂=>wpAny_bind (wpAny_mono h₂ (fun ok s₃ h₃=>?_) fun _ _ h'=>h')) fun _ _ h'=>h')
    cases ok with
    | false=>exact wpAny_pure ⟨rfl,h₃⟩
    | true =>
      exact wpAny_bind (wpAny_bind (wpAny_mono h₃ (fun x s₄ h₄=>wpAny_bind (wpAny_mono h₄ (fun _ s₅ h₅=>wpAny_pure (wpAny_pure ⟨rfl,h₅⟩)) fun _ _ h'=>h')) fun _ _ h'=>h'))
section
variable {X:Cx}
def tLc (wi:TI) (g:TG) (tt:TT) (te:TE) (vs:List Nat):TE:=fun σ H Q=>wi σ H fun J H1=>∀ D,H1 D=none→∃ W:Nat→Nat→Hp→Prop,(∃ m,W 0 m (upd H1 D (.lst [])))∧∀ i m H,W i m H →
  (J.stop i H∧Q (.ref D) H)∨(J.go i H∧∃ Nx:Hp→Prop,(∀ H',Nx H'→∃ m',m' < m∧W (i + 1) m' H')∧∀ x H',J.yld i H x H'→g x (wipe σ vs) H' fun σ2 H2=>wipe σ2 vs=wipe σ vs∧tt σ2 H2 fun b H3 =>
    if b=true then te σ2 H3 fun y H4=>∃ acc,H4 D=some (.lst acc)∧acc.length < sizeLine∧Nx (upd H4 D (.lst (acc++[y]))) else Nx H3)
theorem lc_core {pins:List (Addr × Obj)} {s:Shared} {σ:St} {H:Hp} {Q:VK} {elt tg iter:Expr} {ifs:List Expr} {scope:Scope} {own:List (Str × Nat)} {pos pos':Pos} {wi:TI} {g:TG} {tt:TT} {te:TE} {use:Option (Value→Sem Unit)} {Qf:Value→Shared→Prop}
    (hc:X.calm=true) (hN:X.N.Nodup) (I:Inv X pins σ H s) (hi:PI X tg iter wi) (ok:BlkOk X.N X.env.scope scope own)
    (hg:∀ (s:Shared) (H:Hp) (C:Addr) (cl:List (Str × Addr)) (fp:List Addr),PG (X.blk s H scope (compEnvC scope cl C X.env) fp) tg g) (ht:∀ (s:Shared) (H:Hp) (C:Addr) (cl:List (Str × Addr)) (fp:List Addr),PTs (X.blk s H scope (compEnvC scope cl C X.env) fp) ifs tt)
    (he:∀ (s:Shared) (H:Hp) (C:Addr) (cl:List (Str × Addr)) (fp:List Addr),PE (X.blk s H scope (compEnvC scope cl C X.env) fp) elt te) (hs:∀ x,foldedSetIterable iter X.env x=pure x)
    (h:tLc wi g tt te (own.map (·.2)) σ H Q)
    (hRR:∀ D C s' m H',Inv X pins σ H' s'→Q (.ref D) H'→s'.heap.Ns C m→FpOk X pins H' C→compPost (model X.prog X.w) X.A X.xe use Qf (.ref D) C (.ok .next) s') :
    wpAny (model X.prog X.w) X.A (comprehension (.ListComp elt [⟨tg,iter,ifs,0⟩] scope pos) scope X.env pos' (newList []) false (eval iter X.env) use) Qf X.xe s:=by
  have hfree:∀ y∈scope.names,y.2=.free→∃ c,X.env.cells.lookup y.1=some c:=fun y hy e=>by
    rcases ok.free y hy e with k | k
    · exact I.ok.has _ (.inl k)
    · exact I.ok.has _ (.inr k)
  refine wpAny_comprehension_free (use:=use) rfl hs (closure_ok hfree) ok.kind (fun y hy e=>by rw [ok.uniq y hy,e])
    (thn (hi pins s σ H _ I h) fun xv s1 hx=>thn hx fun itv s2 h2=>?_)
  obtain ⟨it,fp,tn,J,H2,e,I2,T,st2,f2,q⟩:=h2
  subst e
  refine wpAny_newObj_type (newEnv_comp ?_) (by show 0≤sizeLine;decide)
  generalize hD:s2.heap.objs.size=D
  have hDn:H2 D=none:=I2.hok.fresh (Nat.le_of_eq hD)
  obtain ⟨W,⟨m0,w0⟩,turn⟩:=q D hDn
  generalize hs3:({ s2 with heap:=s2.heap.push { cls:=.type "list",data:=.seq ([]:List Value).toArray } }:Shared)=s3
  have I3:Inv X pins σ (upd H2 D (.lst [])) s3:=by
    rw [← hs3]
    refine I2.laid (t':=s2.toks) (fun b o e=>Heap.get?_push_of_some _ e) (Nat.le_of_eq hD) ⟨Nat.zero_le _,[],0,.nil,?_⟩
    rw [← hD]
    exact Heap.get?_push_size _ rfl
  have h3:s3.heap=s2.heap.push { cls:=.type "list",data:=.seq ([]:List Value).toArray }:=by rw [← hs3]
  have sz:∀ b∈fp,b < s2.heap.objs.size:=fun b hb=>by
    obtain ⟨o,e,_⟩:=T.obj _ _ st2 b hb
    exact Heap.lt_size e
  have f3:∀ b∈fp,FpOk X pins (upd H2 D (.lst [])) b∧b < s3.heap.objs.size:=fun b hb=>by
    have hlt:=sz b hb
    refine ⟨⟨?_,(f2 b hb).2⟩,by rw [h3,Heap.size_push];exact Nat.lt_succ_of_lt hlt⟩
    rw [upd_ne (by rw [← hD];exact Nat.ne_of_lt hlt)]
    exact (f2 b hb).1
  have st3:tn 0 s3.heap:=T.keep _ _ _ st2 fun b _ o e=>by rw [h3];exact Heap.get?_push_of_some _ e
  have I4:=block_start I3 ok hN f3
  have pg:=hg s3 (upd H2 D (.lst [])) s3.heap.objs.size (cellsFrom (s3.heap.objs.size + 1) scope.names (cloFrom X.env.cells scope.names [])) fp
  have pt:=ht s3 (upd H2 D (.lst [])) s3.heap.objs.size (cellsFrom (s3.heap.objs.size + 1) scope.names (cloFrom X.env.cells scope.names [])) fp
  have pe:=he s3 (upd H2 D (.lst [])) s3.heap.objs.size (cellsFrom (s3.heap.objs.size + 1) scope.names (cloFrom X.env.cells scope.names [])) fp
  show codeAny _ _ (.compStart (.ListComp elt [⟨tg,iter,ifs,0⟩] scope pos) 0 (.ref it) (.ref D) (compEnvC scope (cellsFrom (s3.heap.objs.size + 1) scope.names (cloFrom X.env.cells scope.names [])) s3.heap.objs.size X.env)) (compPost (model X.prog X.w) X.A X.xe use Qf (.ref D) s3.heap.objs.size) { s3 with heap:=pushCells (s3.heap.push { cls:=.type "dict",data:=.dict #[] }) scope.names }
  have nfp:∀ b∈fp,(upd H2 D (.lst [])) b=none:=fun b hb=>(f3 b hb).1.1
  generalize hce:compEnvC scope (cellsFrom (s3.heap.objs.size + 1) scope.names (cloFrom X.env.cells scope.names [])) s3.heap.objs.size X.env=ce at I4 pg pt pe ⊢
  have cL:ce.locals=s3.heap.objs.size:=by subst hce;rfl
  generalize hH3:upd H2 D (.lst [])=H3 at I3 I4 pg pt pe w0 nfp f3
  generalize hs4:({ s3 with heap:=pushCells (s3.heap.push { cls:=.type "dict",data:=.dict #[] }) scope.names }:Shared)=s4 at I4 ⊢
  have st4:tn 0 s4.heap:=T.keep _ _ _ st3 fun b _ o e=>by rw [← hs4];exact pushCells_keeps _ _ _ _ (Heap.get?_push_of_some _ e)
  have stat:∀ {σ':St} {H':Hp} {s':Shared},Inv (X.blk s3 H3 scope ce fp) [] σ' H' s'→(∀ b∈fp,H' b=none)→∀ b∈fp,FpOk (X.blk s3 H3 scope ce fp) [] H' b:=fun {σ' H' s'} I' hn b hb =>
    ⟨hn b hb,(I'.ok.exf b hb).1,I'.ok.exfs b hb,.inl hb,fun x c e=>(I'.ok.exf b hb).2 x c e,fun p hp=>absurd (show p∈([]:List (Addr × Obj))++[] from hp) (by simp)⟩
  have loop:codeAny (model X.prog X.w) X.A (.compLoop (.ListComp elt [⟨tg,iter,ifs,0⟩] scope pos) 0 (.ref it) (.ref D) ce) (compPost (model X.prog X.w) X.A X.xe use Qf (.ref D) s3.heap.objs.size) s4:=by
    refine compLoop_any (fun n s'=>∃ i H',Inv (X.blk s3 H3 scope ce fp) [] (wipe σ (own.map (·.2))) H' s'∧tn i s'.heap∧(∀ b∈fp,H' b=none)∧W i n H') ?_ m0 ⟨0,H3,I4,st4,nfp,w0⟩
    rintro n s5 ⟨i,H5,I5,st5,n5,w5⟩
    rcases turn i n H5 w5 with ⟨stop,qq⟩ | ⟨go,Nx,hNx,step⟩
    · have td:=T.done (X.blk s3 H3 scope ce fp) rfl rfl rfl hc i [] s5 _ H5 (fun _ _=>False) I5 (stat I5 n5) st5 stop
      refine thnF td fun r s6 ⟨hr,I6⟩=>?_
      subst hr
      have I7:Inv X pins σ H5 s6:=I3.call' (ch:=fp) I6.os I6.base I6.hok I6.bare fun b hb=>⟨(f3 b hb).1.2.2.2.1,(f3 b hb).1.2.1,(f3 b hb).1.2.2.2.2.1,(f3 b hb).1.2.2.2.2.2⟩
      have nC:H5 s3.heap.objs.size=none:=by
        have z:H5 ce.locals=none:=I6.free
        rw [cL] at z
        exact z
      obtain ⟨m,hn,_⟩:=I6.loc
      have hn:s6.heap.Ns ce.locals m:=hn
      rw [cL] at hn
      exact hRR D s3.heap.objs.size s6 m H5 I7 qq hn (I3.fpOk (Nat.le_refl _) nC)
    · have ti:=T.item (X.blk s3 H3 scope ce fp) rfl rfl rfl hc i [] s5 _ H5 (fun _ _=>False) I5 (stat I5 n5) st5 go
      refine thnF ti fun r s6 ⟨u,hr,h6⟩=>?_
      subst hr
      refine thnF h6 fun _ s7 ⟨x,H7,I7,r7,y7,st7,n7⟩=>?_
      have I7':=I7.pinned (stat I7 n7) (T.obj _ _ st7)
      refine thnF (pg _ s7 _ H7 x u _ I7' r7 (step x H7 y7)) fun _ s8 ⟨σ8,H8,I8,hw8,q8⟩=>?_
      refine thnF (pt _ s8 σ8 H8 _ I8 q8) fun b s9 ⟨H9,I9,q9⟩=>?_
      have fin:∀ {s':Shared} {H':Hp},Inv (X.blk s3 H3 scope ce fp) ([]++pinsAt fp s7.heap) σ8 H' s'→Nx H'→∃ m,m < n∧∃ i H',Inv (X.blk s3 H3 scope ce fp) [] (wipe σ (own.map (·.2))) H' s'∧tn i s'.heap∧(∀ b∈fp,H' b=none)∧W i m H':=fun {s' H'} I' nx=>by
        obtain ⟨m',hm,w'⟩:=hNx H' nx
        have pin':∀ b∈fp,∀ o,s7.heap.get? b=some o→s'.heap.get? b=some o∧H' b=none:=fun b hb o e =>
          let z:=I'.pin (b,o) (List.mem_append_right _ (List.mem_append_right _ (mem_pinsAt hb e)))
          ⟨z.1,z.2.1⟩
        have hl:(wipe σ (own.map (·.2))).length=σ8.length:=by rw [← hw8,wipe_length]
        refine ⟨m',hm,i + 1,H',(I'.unpinned (pins:=[])).weak hl (fun j v e=>?_),T.keep _ _ _ st7 fun b hb o e=>(pin' b hb o e).1,fun b hb=>?_,w'⟩
        · rw [← hw8] at e
          exact (wipe_some e).1
        · obtain ⟨o,e,_⟩:=T.obj _ _ st7 b hb
          exact (pin' b hb o e).2
      cases b with
      | false =>
        simp only [Bool.false_eq_true,if_false] at q9 ⊢
        exact fin I9 q9
      | true =>
        simp only [if_true] at q9 ⊢
        refine thnF (pe _ s9 σ8 H9 _ I9 q9) fun z s10 ⟨yv,H10,I10,r10,acc,hD10,hz10,nx⟩=>?_
        exact app_ok (X:=X.blk s3 H3 scope ce fp) I10 hD10 hz10 r10 fun s11 I11=>fin I11 nx
  exact codeAny_compStart_list loop (T.self X.A 0 _ _ _ st4 loop)
theorem pe_lc {elt tg iter:Expr} {ifs:List Expr} {scope:Scope} {own:List (Str × Nat)} {pos:Pos} {wi:TI} {g:TG} {tt:TT} {te:TE} (hc:X.calm=true) (hN:X.N.Nodup) (hi:PI X tg iter wi) (ok:BlkOk X.N X.env.scope scope own)
    (hg:∀ (s:Shared) (H:Hp) (C:Addr) (cl:List (Str × Addr)) (fp:List Addr),PG (X.blk s H scope (compEnvC scope cl C X.env) fp) tg g) (ht:∀ (s:Shared) (H:Hp) (C:Addr) (cl:List (Str × Addr)) (fp:List Addr),PTs (X.blk s H scope (compEnvC scope cl C X.env) fp) ifs tt)
    (he:∀ (s:Shared) (H:Hp) (C:Addr) (cl:List (Str × Addr)) (fp:List Addr),PE (X.blk s H scope (compEnvC scope cl C X.env) fp) elt te) (hs:∀ x,foldedSetIterable iter X.env x=pure x:=by intro _;rfl) :
    PE X (.ListComp elt [⟨tg,iter,ifs,0⟩] scope pos) (tLc wi g tt te (own.map (·.2))):=by
  intro pins s σ H Q I h
  rw [eval_ListComp]
  refine lc_core hc hN I hi ok hg ht he hs h fun D C s' m H' I' q hn f=>⟨m,hn,fun h'' sb=>?_⟩
  obtain ⟨f0,f1,f2,f3,f4,f5⟩:=f
  exact ⟨.ref D,H',I'.turned (t':=s'.toks) (fun b o hb e=>(sb.2 b hb).trans e) f0 f1 f3 f4 f5,rfl,q⟩
theorem ps_setLc {i:Nat} {y:Str} {py:Pos} {elt tg iter:Expr} {ifs:List Expr} {scope:Scope} {own:List (Str × Nat)} {pos spos:Pos} {wi:TI} {g:TG} {tt:TT} {te:TE} (hc:X.calm=true) (hN:X.N.Nodup) (hy:X.N[i]?=some y) (hyl:X.env.scope.names.lookup y=some .local)
    (hsw:swapsWith (.ListComp elt [⟨tg,iter,ifs,0⟩] scope pos) (some (.Name y py)) spos.line X.env=pure true) (hi:PI X tg iter wi) (ok:BlkOk X.N X.env.scope scope own)
    (hg:∀ (s:Shared) (H:Hp) (C:Addr) (cl:List (Str × Addr)) (fp:List Addr),PG (X.blk s H scope (compEnvC scope cl C X.env) fp) tg g) (ht:∀ (s:Shared) (H:Hp) (C:Addr) (cl:List (Str × Addr)) (fp:List Addr),PTs (X.blk s H scope (compEnvC scope cl C X.env) fp) ifs tt)
    (he:∀ (s:Shared) (H:Hp) (C:Addr) (cl:List (Str × Addr)) (fp:List Addr),PE (X.blk s H scope (compEnvC scope cl C X.env) fp) elt te) (hs:∀ x,foldedSetIterable iter X.env x=pure x:=by intro _;rfl) :
    PS X (.Assign [.Name y py] (.ListComp elt [⟨tg,iter,ifs,0⟩] scope pos) spos) (tAsg (tLc wi g tt te (own.map (·.2))) (gName i)):=by
  intro pins s σ H D I h
  rw [exec_Assign_Name_used _ _ _ _ hsw]
  refine wpAny_bind (wpAny_standAt (wpAny_bind ?_))
  show wpAny _ X.A (do let _ ← comprehension (.ListComp elt [⟨tg,iter,ifs,0⟩] scope pos) scope X.env (firstIterPos [⟨tg,iter,ifs,0⟩] pos) (newList []) false (eval iter X.env) (some (assign (.Name y py) X.env))) _ _ s
  have h:tLc wi g tt te (own.map (·.2)) σ H (fun x H1=>gName i x σ H1 D.nx):=h
  refine wpAny_bind (thn (lc_core (Qf:=fun _ s'=>SP X pins D .next s') hc hN I hi ok hg ht he hs h fun L C s' m H' I' q hn f=>?_) fun _ s' hq=>wpAny_pure (wpAny_pure hq))
  show wpAny _ _ (assign (.Name y py) X.env (.ref L)) _ _ _
  refine wpAny_assign_Name (store_ok2 (v:=V.ref L) I' hN hy (.inl hyl) rfl (fun s2 I2 ⟨a,sb,ha⟩=>?_) (.inr hyl))
  obtain ⟨f0,f1,f2,f3,f4,f5⟩:=f
  have haC:C≠a:=by
    rcases ha with z | z
    · rw [z];exact f1
    · exact fun e=>f4 y a z e.symm
  refine ⟨m,hn.sameBut sb haC,fun h3 sb3=>?_⟩
  exact ⟨_,H',I2.turned (t':=s2.toks) (fun b o hb e=>(sb3.2 b hb).trans e) f0 f1 f3 f4 f5,q⟩
theorem sw_true {elt:Expr} {gs:List Comprehension} {scope:Scope} {pos py:Pos} {y:Str} {l:Nat} {env:Env} (hk:env.scope.kind=.function) (hy:env.scope.names.lookup y=some .local) (hl:(py.line == pos.line)=true)
    (ha:(scope.names.any fun (n,k)=>n == y && (k == .local || k == .cell))=false):swapsWith (.ListComp elt gs scope pos) (some (.Name y py)) l env=pure true:=by
  have ky:env.kindOf y=some .local:=hy
  have hb:env.blockKind=.function:=by unfold Env.blockKind;rw [hk];rfl
  unfold swapsWith
  simp only [hb,ky,ha,Expr.pos,hl]
  rfl
end
theorem lc_range {lo:Int} {n:Nat} {g:TG} {tt:TT} {te:TE} {vs:List Nat} {σ:St} {H1:Hp} {D:Addr} {Qd:Hp→Prop} (Pv:Nat→Hp→Prop) (h0:Pv 0 (upd H1 D (.lst [])))
    (hs:∀ i H,i < n→Pv i H→g (.int (lo + i)) (wipe σ vs) H fun σ2 H2=>wipe σ2 vs=wipe σ vs∧tt σ2 H2 fun b H3 =>
      if b=true then te σ2 H3 fun y H4=>∃ acc,H4 D=some (.lst acc)∧acc.length < sizeLine∧Pv (i + 1) (upd H4 D (.lst (acc++[y]))) else Pv (i + 1) H3) (hd:∀ H,Pv n H→Qd H) :
    ∃ W:Nat→Nat→Hp→Prop,(∃ m,W 0 m (upd H1 D (.lst [])))∧∀ i m H,W i m H →
      ((Itr lo n).stop i H∧Qd H)∨((Itr lo n).go i H∧∃ Nx:Hp→Prop,(∀ H',Nx H'→∃ m',m' < m∧W (i + 1) m' H')∧∀ x H',(Itr lo n).yld i H x H'→g x (wipe σ vs) H' fun σ2 H2=>wipe σ2 vs=wipe σ vs∧tt σ2 H2 fun b H3 =>
        if b=true then te σ2 H3 fun y H4=>∃ acc,H4 D=some (.lst acc)∧acc.length < sizeLine∧Nx (upd H4 D (.lst (acc++[y]))) else Nx H3):=by
  refine ⟨fun i m H=>m=n - i∧i≤n∧Pv i H,⟨n,by simp,Nat.zero_le _,h0⟩,?_⟩
  rintro i m H ⟨rfl,hi,p⟩
  by_cases hlt:i < n
  · refine .inr ⟨hlt,Pv (i + 1),fun H' p'=>⟨n - (i + 1),by omega,rfl,hlt,p'⟩,fun x H' y=>?_⟩
    obtain ⟨e,y⟩:=y
    subst e y
    exact hs i _ hlt p
  · have e:i=n:=by omega
    subst e
    exact .inl ⟨Nat.le_refl _,hd H p⟩
theorem lc_list {K:PySem.W.Frag} {a:Addr} {xs:List V} {g:TG} {tt:TT} {te:TE} {vs:List Nat} {σ:St} {H1:Hp} {D:Addr} {Qd:Hp→Prop} (Pv:Nat→Hp→Prop) (h0:Pv 0 (upd H1 D (.lst []))) (hl:∀ i H,i≤xs.length→Pv i H→SqL K H a xs)
    (hs:∀ i x H,xs[i]?=some x→Pv i H→g x (wipe σ vs) H fun σ2 H2=>wipe σ2 vs=wipe σ vs∧tt σ2 H2 fun b H3 =>
      if b=true then te σ2 H3 fun y H4=>∃ acc,H4 D=some (.lst acc)∧acc.length < sizeLine∧Pv (i + 1) (upd H4 D (.lst (acc++[y]))) else Pv (i + 1) H3) (hd:∀ H,Pv xs.length H→Qd H) :
    ∃ W:Nat→Nat→Hp→Prop,(∃ m,W 0 m (upd H1 D (.lst [])))∧∀ i m H,W i m H →
      ((Itl K a).stop i H∧Qd H)∨((Itl K a).go i H∧∃ Nx:Hp→Prop,(∀ H',Nx H'→∃ m',m' < m∧W (i + 1) m' H')∧∀ x H',(Itl K a).yld i H x H'→g x (wipe σ vs) H' fun σ2 H2=>wipe σ2 vs=wipe σ vs∧tt σ2 H2 fun b H3 =>
        if b=true then te σ2 H3 fun y H4=>∃ acc,H4 D=some (.lst acc)∧acc.length < sizeLine∧Nx (upd H4 D (.lst (acc++[y]))) else Nx H3):=by
  refine ⟨fun i m H=>m=xs.length - i∧i≤xs.length∧Pv i H,⟨xs.length,by simp,Nat.zero_le _,h0⟩,?_⟩
  rintro i m H ⟨rfl,hi,p⟩
  have q:=hl i H hi p
  by_cases hlt:i < xs.length
  · refine .inr ⟨⟨xs,xs[i],q,by simp [hlt]⟩,Pv (i + 1),fun H' p'=>⟨xs.length - (i + 1),by omega,rfl,hlt,p'⟩,fun x H' y=>?_⟩
    obtain ⟨e,y⟩:=y
    subst e
    exact hs i x _ (y xs q) p
  · have e:i=xs.length:=by omega
    subst e
    exact .inl ⟨⟨xs,q,Nat.le_refl _⟩,hd H p⟩
def blkC (N:List Str) (sc scope:Scope) (own:List (Str × Nat)):Bool :=
  (match scope.kind with | .function=>true | _=>false) && (scope.names.all fun y=>decide (scope.names.lookup y.1=some y.2)) && (own.all fun p=>decide (N[p.2]?=some p.1)) &&
    (scope.names.all fun y=>match y.2 with
      | .free=>(match sc.names.lookup y.1 with | some .cell=>true | some .free=>true | _=>false)
      | .local=>decide (y.1∈own.map (·.1)) || decide (y.1 ∉ N)
      | .cell=>decide (y.1∈own.map (·.1)) || decide (y.1 ∉ N)
      | _=>true)
theorem blkOk_by {N:List Str} {sc scope:Scope} {own:List (Str × Nat)} (h:blkC N sc scope own=true):BlkOk N sc scope own:=by
  unfold blkC at h
  simp only [Bool.and_eq_true,List.all_eq_true,decide_eq_true_eq] at h
  obtain ⟨⟨⟨h1,h2⟩,h3⟩,h4⟩:=h
  refine ⟨?_,h2,h3,fun y hy e=>?_,fun y hy e=>?_⟩
  · split at h1
    · assumption
    · cases h1
  · have q:=h4 y hy
    simp only [e] at q
    split at q <;> first | exact .inl (by assumption) | exact .inr (by assumption) | cases q
  · have q:=h4 y hy
    rcases e with e | e <;> (simp only [e,Bool.or_eq_true,decide_eq_true_eq] at q;exact q)
end L2
namespace L2
open PySem PySem.Spec PyProof.Rows
section
variable {κ:Type} [DecidableEq κ]
def valV (kvs:List (κ × V)) (k:κ):Option V:=(kvs.find? fun kv=>decide (kv.1=k)).map (·.2)
def putK (kvs:List (κ × V)) (k:κ) (v:V):List (κ × V) :=
  if (kvs.any fun kv=>decide (kv.1=k))=true then kvs.map (fun kv=>if kv.1=k then (kv.1,v) else kv) else kvs++[(k,v)]
theorem valV_pos {p:κ × V} {r:List (κ × V)} {k:κ} (e:p.1=k):valV (p :: r) k=some p.2:=by simp [valV,List.find?_cons,e]
theorem valV_neg {p:κ × V} {r:List (κ × V)} {k:κ} (e:¬ p.1=k):valV (p :: r) k=valV r k:=by simp [valV,List.find?_cons,e]
theorem valV_any (k:κ):∀ kvs:List (κ × V),(kvs.any fun kv=>decide (kv.1=k))=(valV kvs k).isSome
  | []=>rfl
  | p :: r=>by
    rw [List.any_cons]
    by_cases e:p.1=k
    · simp only [valV_pos e,decide_eq_true e,Bool.true_or,Option.isSome_some]
    · rw [valV_neg e,decide_eq_false e,Bool.false_or];exact valV_any k r
theorem length_putK (kvs:List (κ × V)) (k:κ) (v:V):(putK kvs k v).length≤kvs.length + 1:=by
  unfold putK
  split
  · rw [List.length_map];omega
  · rw [List.length_append,List.length_cons,List.length_nil];omega
theorem RelO.isSome_eq {o:Option V} {u:Option Value} (r:RelO o u):o.isSome=u.isSome:=by
  cases o with
  | none=>cases u with
    | none=>rfl
    | some _=>exact (show False from r).elim
  | some _=>cases u with
    | none=>exact (show False from r).elim
    | some _=>rfl
theorem RelO.getD {o:Option V} {u:Option Value} {d:V} {d':Value} (r:RelO o u) (rd:RelV d d'):RelV (o.getD d) (u.getD d'):=by
  cases o with
  | none=>cases u with
    | none=>exact rd
    | some _=>exact (show False from r).elim
  | some _=>cases u with
    | none=>exact (show False from r).elim
    | some _=>exact r
theorem KV.val {kvs:List (κ × V)} {vs:List (κ × Value)} (r:KV kvs vs) (k:κ):RelO (valV kvs k) (valueAt vs k):=by
  unfold KV at r
  induction r with
  | nil=>exact True.intro
  | @cons p q ps qs h t ih =>
    obtain ⟨h1,h2⟩:=h
    by_cases e:p.1=k
    · have e':q.1=k:=h1.symm.trans e
      have b:valueAt (q :: qs) k=some q.2:=by simp [valueAt,List.find?_cons,e']
      rw [valV_pos e,b];exact h2
    · have e':¬ q.1=k:=fun z=>e (h1.trans z)
      have b:valueAt (q :: qs) k=valueAt qs k:=by simp [valueAt,List.find?_cons,e']
      rw [valV_neg e,b];exact ih
theorem KV.any {kvs:List (κ × V)} {vs:List (κ × Value)} (r:KV kvs vs) (k:κ):(kvs.any fun kv=>decide (kv.1=k))=vs.any fun kv=>decide (kv.1=k):=by
  unfold KV at r
  induction r with
  | nil=>rfl
  | cons h t ih=>rw [List.any_cons,List.any_cons,ih,h.1]
theorem KV.repl {kvs:List (κ × V)} {vs:List (κ × Value)} (r:KV kvs vs) (k:κ) {y:V} {u:Value} (ry:RelV y u) :
    KV (kvs.map fun kv=>if kv.1=k then (kv.1,y) else kv) (vs.map fun kv=>if kv.1=k then (kv.1,u) else kv):=by
  unfold KV at r ⊢
  induction r with
  | nil=>exact .nil
  | @cons p q ps qs h t ih =>
    rw [List.map_cons,List.map_cons]
    refine .cons ?_ ih
    obtain ⟨h1,h2⟩:=h
    by_cases e:p.1=k
    · rw [if_pos e,if_pos (h1.symm.trans e)];exact ⟨h1,ry⟩
    · rw [if_neg e,if_neg (fun z=>e (h1.trans z))];exact ⟨h1,h2⟩
theorem KV.put {kvs:List (κ × V)} {vs:List (κ × Value)} (r:KV kvs vs) (k:κ) {y:V} {u:Value} (ry:RelV y u):KV (putK kvs k y) (stored vs k u):=by
  unfold putK stored
  rw [r.any k]
  by_cases e:(vs.any fun kv=>decide (kv.1=k))=true
  · rw [if_pos e,if_pos e];exact r.repl k ry
  · rw [if_neg e,if_neg e];exact Paired.snoc r ⟨rfl,ry⟩
theorem KV.length {kvs:List (κ × V)} {vs:List (κ × Value)} (r:KV kvs vs):kvs.length=vs.length:=Paired.length r
end
theorem kV_is {P:Program} {w:World} {k:Key} {u:Value} (r:RelV (kV k) u):(mixKind P w).is k u=true:=by
  cases k with
  | inl i=>obtain ⟨t,e⟩:=(show ∃ t,u=Value.int i t from r);subst e;exact mixKind_int P w i t
  | inr x=>obtain ⟨t,e⟩:=(show ∃ t,u=Value.str x t from r);subst e;exact mixKind_str P w x t
theorem items_are {P:Program} {w:World}:∀ {ks:List Key} {us:List Value},Vals (ks.map kV) us→ItemsAre (mixKind P w) ks us
  | [],_,r=>by rw [List.map_nil] at r;cases r;exact .nil
  | k :: ks,_,r=>by
    rw [List.map_cons] at r
    cases r with
    | cons h t=>exact .cons (kV_is h) (items_are t)
abbrev KT (H:Hp):List (List Key × V)→List (List Key × Addr × Value)→Prop:=Paired fun p q=>p.1=q.1∧H q.2.1=some (.tup (p.1.map kV))∧RelV p.2 q.2.2
theorem KT.val {H:Hp} {kvs:List (List Key × V)} {xs:List (List Key × Addr × Value)} (r:KT H kvs xs) (k:List Key):RelO (valV kvs k) ((atKey xs k).map (·.2)):=by
  induction r with
  | nil=>exact True.intro
  | @cons p q ps qs h t ih =>
    obtain ⟨h1,_,h2⟩:=h
    by_cases e:p.1=k
    · have e':q.1=k:=h1.symm.trans e
      have b:atKey (q :: qs) k=some q.2:=by simp [atKey,List.find?_cons,e']
      rw [valV_pos e,b];exact h2
    · have e':¬ q.1=k:=fun z=>e (h1.trans z)
      have b:atKey (q :: qs) k=atKey qs k:=by simp [atKey,List.find?_cons,e']
      rw [valV_neg e,b];exact ih
theorem KT.repl {H:Hp} {kvs:List (List Key × V)} {xs:List (List Key × Addr × Value)} (r:KT H kvs xs) (k:List Key) {y:V} {u:Value} (ry:RelV y u) :
    KT H (kvs.map fun kv=>if kv.1=k then (kv.1,y) else kv) (xs.map (putAt k u)):=by
  induction r with
  | nil=>exact .nil
  | @cons p q ps qs h t ih =>
    rw [List.map_cons,List.map_cons]
    refine .cons ?_ ih
    obtain ⟨h1,h2,h3⟩:=h
    unfold putAt
    by_cases e:p.1=k
    · rw [if_pos e,if_pos (h1.symm.trans e)];exact ⟨h1,h2,ry⟩
    · rw [if_neg e,if_neg (fun z=>e (h1.trans z))];exact ⟨h1,h2,h3⟩
theorem KT.put {H:Hp} {kvs:List (List Key × V)} {xs:List (List Key × Addr × Value)} (r:KT H kvs xs) (k:List Key) {b:Addr} {y:V} {u:Value} (hb:H b=some (.tup (k.map kV))) (ry:RelV y u) :
    KT H (putK kvs k y) (storedH xs k b u):=by
  have e:(kvs.any fun kv=>decide (kv.1=k))=(atKey xs k).isSome:=by
    rw [valV_any,(r.val k).isSome_eq,Option.isSome_map]
  unfold putK storedH
  rw [e]
  by_cases q:(atKey xs k).isSome=true
  · rw [if_pos q,if_pos q];exact r.repl k ry
  · rw [if_neg q,if_neg q];exact Paired.snoc r ⟨rfl,hb,ry⟩
theorem KT.keeps {H H':Hp} {kvs:List (List Key × V)} {xs:List (List Key × Addr × Value)} (r:KT H kvs xs) (ht:∀ b ys,H b=some (.tup ys)→H' b=some (.tup ys)):KT H' kvs xs :=
  Paired.mapP r fun _ _ z=>⟨z.1,ht _ _ z.2.1,z.2.2⟩
section
variable {P:Program} {w:World} {H:Hp} {h:Heap} {a:Addr}
theorem rd_of {u:HO} (ok:HOk P w H h) (e:Rd H a u):ObjOk P w H h a u:=e.ok ok
theorem dk_rd {kvs:List (Key × V)} (ok:HOk P w H h) (e:Rd H a (.dK kvs)):kvs.length≤sizeLine∧(a == sysModules)=false∧∃ vs,KV kvs vs∧h.DictOf (mixKind P w) a vs :=
  show ObjOk P w H h a (.dK kvs) from rd_of ok e
theorem dk_of {kvs:List (Key × V)} (ok:HOk P w H h) (e:H a=some (.dK kvs)):kvs.length≤sizeLine∧(a == sysModules)=false∧∃ vs,KV kvs vs∧h.DictOf (mixKind P w) a vs:=dk_rd ok (.inl e)
theorem key_of {ks:List Key} (ok:HOk P w H h) (e:H a=some (.tup (ks.map kV))):(tupleKind (mixKind P w)).is h ks a:=by
  obtain ⟨_,its,r,o,h1,h2,n,h3⟩:=(show ObjOk P w H h a (.tup (ks.map kV)) from ok a _ e)
  exact ⟨o,its.toArray,n,h1,h2,h3,by simpa using items_are r⟩
theorem dt_rd {kvs:List (List Key × V)} (ok:HOk P w H h) (e:Rd H a (.dT kvs)):kvs.length≤sizeLine∧(a == sysModules)=false ∧
    ∃ xs,KT H kvs xs∧h.DictOfH (tupleKind (mixKind P w)) a xs:=by
  obtain ⟨z,y,xs,r,o,es,ep,h1,h2,h3,h4,h5⟩:=(show ObjOk P w H h a (.dT kvs) from rd_of ok e)
  refine ⟨z,y,xs,r,o,es,ep,h1,h2,h3,h4,fun x hx=>?_,h5⟩
  have all:∀ {l:List (List Key × V)} {m:List (List Key × Addr × Value)},KT H l m→∀ x∈m,(tupleKind (mixKind P w)).is h x.1 x.2.1:=by
    intro l m q
    induction q with
    | nil=>intro x hx;exact nomatch hx
    | @cons p q ps qs hq t ih =>
      intro x hx
      rcases List.mem_cons.mp hx with e | hx
      · subst e
        exact key_of ok (by rw [← hq.1];exact hq.2.1)
      · exact ih x hx
  exact all r x hx
theorem dt_of {kvs:List (List Key × V)} (ok:HOk P w H h) (e:H a=some (.dT kvs)):kvs.length≤sizeLine∧(a == sysModules)=false ∧
    ∃ xs,KT H kvs xs∧h.DictOfH (tupleKind (mixKind P w)) a xs:=dt_rd ok (.inl e)
end
def DGet (H:Hp) (a:Addr) (y:V) (r:Option V):Prop :=
  (∃ kvs k,Rd H a (.dK kvs)∧y=kV k∧r=valV kvs k)∨∃ kvs k b,Rd H a (.dT kvs)∧y=.ref b∧H b=some (.tup (k.map kV))∧r=valV kvs k
def DPut (H:Hp) (a:Addr) (y v:V) (H':Hp):Prop :=
  (∃ kvs k,H a=some (.dK kvs)∧y=kV k∧kvs.length < sizeLine∧H'=upd H a (.dK (putK kvs k v))) ∨
  ∃ kvs k b,H a=some (.dT kvs)∧y=.ref b∧H b=some (.tup (k.map kV))∧kvs.length < sizeLine∧H'=upd H a (.dT (putK kvs k v))
theorem DGet.k {H:Hp} {a:Addr} {kvs:List (Key × V)} {k:Key} (e:H a=some (.dK kvs)):DGet H a (kV k) (valV kvs k):=.inl ⟨kvs,k,.inl e,rfl,rfl⟩
theorem DPut.k {H:Hp} {a:Addr} {kvs:List (Key × V)} {k:Key} {v:V} (e:H a=some (.dK kvs)) (hl:kvs.length < sizeLine):DPut H a (kV k) v (upd H a (.dK (putK kvs k v))):=.inl ⟨kvs,k,e,rfl,hl,rfl⟩
section
variable {X:Cx} {pins:List (Addr × Obj)} {σ:St} {H:Hp} {s:Shared} {a:Addr} {y v:V} {u r:Value} {o:Option V} {A:Around} {E:Value→Shared→Prop}
theorem Inv.big (I:Inv X pins σ H s):sysModules < s.heap.objs.size:=by
  have h:mainGlobals < s.heap.objs.size:=(I.mod.glob.keeps I.bk).lt
  exact Nat.lt_trans (by decide) h
theorem d_getItem {Q:Value→Shared→Prop} (hu:A.units + 1 < cLine) (I:Inv X pins σ H s) (g:DGet H a y (some v)) (ry:RelV y u) (h:∀ w' s',Inv X pins σ H s'→RelV v w'→Q w' s') :
    wpAny (model X.prog X.w) A (getItem (.ref a) u) Q E s:=by
  rcases g with ⟨kvs,k,e,ey,l⟩ | ⟨kvs,k,b,e,ey,eb,l⟩
  · subst ey
    obtain ⟨z,hd,vs,rel,dd⟩:=dk_rd I.hok e
    obtain ⟨w',hw,rw'⟩:=RelO.some_of (v:=v) (o:=valueAt vs k) (by rw [l];exact rel.val k)
    exact wpAny_getItem_of (kV_is ry) dd.mapOf hw (h w' _ (I.tok _) rw')
  · subst ey
    cases (show u=Value.ref b from ry)
    obtain ⟨z,hd,xs,rel,dd⟩:=dt_rd I.hok e
    obtain ⟨w',hw,rw'⟩:=RelO.some_of (v:=v) (o:=(atKey xs k).map (·.2)) (by rw [l];exact rel.val k)
    obtain ⟨p,hp,hp2⟩:=Option.map_eq_some_iff.mp hw
    refine wpAny_getItem_heap (tupleKind_room_in1 hu) (key_of I.hok eb) dd hp ?_
    rw [hp2]
    exact h w' _ (I.tok _) rw'
theorem d_notIn {Q:Value→Shared→Prop} (hu:A.units + 1 < cLine) (I:Inv X pins σ H s) (g:DGet H a y o) (ry:RelV y u) (h:∀ s',Inv X pins σ H s'→Q (.bool (!o.isSome)) s') :
    wpAny (model X.prog X.w) A (compareOp .NotIn u (.ref a)) Q E s:=by
  rcases g with ⟨kvs,k,e,ey,l⟩ | ⟨kvs,k,b,e,ey,eb,l⟩
  · subst ey
    obtain ⟨z,hd,vs,rel,dd⟩:=dk_rd I.hok e
    refine wpAny_notIn_of (kV_is ry) hd dd.mapOf ?_
    rw [← (rel.val k).isSome_eq,← l]
    exact h _ (I.tok _)
  · subst ey
    cases (show u=Value.ref b from ry)
    obtain ⟨z,hd,xs,rel,dd⟩:=dt_rd I.hok e
    refine wpAny_notIn_heap (tupleKind_room_in1 hu) (key_of I.hok eb) hd dd ?_
    have q:=(rel.val k).isSome_eq
    rw [Option.isSome_map] at q
    rw [← q,← l]
    exact h _ (I.tok _)
theorem d_write {h':Heap} {t':Nat} {ob:HO} (I:Inv X pins σ H s) (mu:Mut (H a)) (hs:Heap.SameBut a s.heap h') (he:∃ q,h'.get? a=some q) (new:ObjOk X.prog X.w (upd H a ob) h' a ob) :
    Inv X pins σ (upd H a ob) { s with heap:=h',toks:=t' } :=
  I.write (x:=a) (e:=a) mu (.inl rfl) (fun b q hb z=>(hs.2 b hb).trans z) he new
theorem dk_new {P:Program} {w:World} {H':Hp} {h':Heap} {kvs:List (Key × V)} {vs:List (Key × Value)} (z:kvs.length≤sizeLine) (hd:(a == sysModules)=false) (rel:KV kvs vs) (dd:h'.DictOf (mixKind P w) a vs) :
    ObjOk P w H' h' a (.dK kvs):=⟨z,hd,vs,rel,dd⟩
theorem d_setItem {H':Hp} {Q:Unit→Shared→Prop} (hu:A.units + 1 < cLine) (I:Inv X pins σ H s) (g:DPut H a y v H') (ry:RelV y u) (rv:RelV v r) (h:∀ s',Inv X pins σ H' s'→Q () s') :
    wpAny (model X.prog X.w) A (setItem (.ref a) u r) Q E s:=by
  rcases g with ⟨kvs,k,e,ey,l,eH⟩ | ⟨kvs,k,b,e,ey,eb,l,eH⟩
  · subst ey eH
    obtain ⟨z,hd,vs,rel,dd⟩:=dk_of I.hok e
    have hz:vs.length≤sizeLine:=by rw [← rel.length];exact z
    have hl:(putK kvs k v).length≤sizeLine:=by have:=length_putK kvs k v;omega
    refine wpAny_setItem_pairs (hsz:=hz) (kV_is ry) dd fun h' dd' hs=>h _ ?_
    have he:∃ q,h'.get? a=some q:=let ⟨q,_,_,hq,_⟩:=dd';⟨q,hq⟩
    exact d_write I (by rw [e];exact True.intro) hs he (dk_new hl hd (rel.put k rv) dd')
  · subst ey eH
    cases (show u=Value.ref b from ry)
    obtain ⟨z,hd,xs,rel,dd⟩:=dt_of I.hok e
    have hz:xs.length≤sizeLine:=by rw [← Paired.length rel];exact z
    have hl:(putK kvs k v).length≤sizeLine:=by have:=length_putK kvs k v;omega
    refine wpAny_setItem_heap (hsz:=hz) (tupleKind_room_in1 hu) (key_of I.hok eb) dd fun h' dd' hs=>h _ ?_
    obtain ⟨q,es,ep,hq,h2,h3,h4,_,h5⟩:=dd'
    refine d_write I (by rw [e];exact True.intro) hs ⟨q,hq⟩ ⟨hl,hd,_,(rel.put k eb rv).keeps fun c ys ec=>?_,q,es,ep,hq,h2,h3,h4,h5⟩
    rw [upd_ne (ne_of ec e (fun z=>nomatch z))]
    exact ec
end
def NoSl (i:Expr):Prop:=∀ ov iv,subscripted i false ov iv=operate [ov,iv] (getItem ov iv)
theorem subD_of {prog:Program} {w:World} {A:Around} {E:Value→Shared→Prop} {s:Shared} {env:Env} {value slice:Expr} {pos:Pos} {T id:String} {Q:Value→Shared→Prop}
    (hl:typeLookup (.type T) "__getitem__"=pure (some (.builtin id))) (hs:NoSl slice)
    (h:wpAny (model prog w) A (eval value env) (fun o s₁=>wpAny (model prog w) A (eval slice env) (fun i s₂=>s₂.TypeIs o T∧wpAny (model prog w) A (getItem o i) Q E s₂) E s₁) E s) :
    wpAny (model prog w) A (eval (.Subscript value slice pos) env) Q E s:=by
  refine Subscript_ (wpAny_mono h (fun o s₁ h₁=>wpAny_mono h₁ (fun i s₂ h₂=>?_) fun _ _ x=>x) fun _ _ x=>x)
  obtain ⟨hT,h₂⟩:=h₂
  unfold subscriptTail
  refine wpAny_bind ?_
  rw [getitemInPython_of_ne hT.not_modules]
  refine wpAny_bind (wpAny_specialOf hT hl ?_)
  have fin:wpAny (model prog w) A (subscripted slice false o i) (fun r s₃=>wpAny (model prog w) A (letTemporaryGo value o r >>= fun _=>pure r) Q E s₃) E s₂:=by
    rw [hs o i]
    exact wpAny_operating (wpAny_mono h₂ (fun r s₃ h₃=>wpAny_bind (wpAny_letTemporaryGo (wpAny_pure h₃))) fun _ _ x=>x)
  first
    | exact wpAny_pure (wpAny_bind fin)
    | exact wpAny_bind (wpAny_pure (wpAny_bind fin))
    | exact wpAny_bind fin
theorem dict_typeIs {X:Cx} {pins:List (Addr × Obj)} {σ:St} {H:Hp} {s:Shared} {a:Addr} {y:V} {o:Option V} (I:Inv X pins σ H s) (g:DGet H a y o):s.TypeIs (.ref a) "dict":=by
  rcases g with ⟨kvs,k,e,_,_⟩ | ⟨kvs,k,b,e,_,_,_⟩
  · obtain ⟨_,_,vs,_,dd⟩:=dk_rd I.hok e
    exact dd.typeIs
  · obtain ⟨_,_,xs,_,dd⟩:=dt_rd I.hok e
    exact dd.typeIs
def tDGet (td ty:TE):TE:=fun σ H Q=>td σ H fun x H1=>ty σ H1 fun y H2=>∃ a v,x=.ref a∧DGet H2 a y (some v)∧Q v H2
def tDNotIn (ty td:TE):TE:=fun σ H Q=>ty σ H fun y H1=>td σ H1 fun x H2=>∃ a o,x=.ref a∧DGet H2 a y o∧Q (.bl (!o.isSome)) H2
def sDPut (td ty tv:TE):TS:=fun D σ H=>tv σ H fun v H1=>td σ H1 fun x H2=>ty σ H2 fun y H3=>∃ a H4,x=.ref a∧DPut H3 a y v H4∧D.nx σ H4
section
variable {X:Cx} {o i e value:Expr} {pos pos' tpos:Pos} {td ty tv:TE}
theorem pe_dget (hu:X.A.units + 1 < cLine) (ho:PE X o td) (hi:PE X i ty) (hs:NoSl i):PE X (.Subscript o i pos) (tDGet td ty):=by
  intro pins s σ H Q I h
  refine subD_of PySem.F.slot_dict_getitem.lookup hs (thn (ho pins s σ H _ I h) fun u s1 ⟨x,H1,I1,rx,q1⟩=>thn (hi pins s1 σ H1 _ I1 q1) fun iv s2 ⟨y,H2,I2,ry,a,v,ex,g,q2⟩=>?_)
  subst ex
  obtain rfl:u=Value.ref a:=rx
  exact ⟨dict_typeIs I2 g,d_getItem hu I2 g ry fun w' s3 I3 rw'=>⟨v,H2,I3,rw',q2⟩⟩
theorem pc_dnotin (hu:X.A.units + 1 < cLine) (hi:PE X i ty) (ho:PE X o td):PC X .NotIn i o (tDNotIn ty td):=by
  intro pins s σ H Q I h
  refine thn (hi pins s σ H _ I h) fun iv s1 ⟨y,H1,I1,ry,q1⟩=>thn (ho pins s1 σ H1 _ I1 q1) fun u s2 ⟨x,H2,I2,rx,a,ov,ex,g,q2⟩=>?_
  subst ex
  obtain rfl:u=Value.ref a:=rx
  exact d_notIn hu I2 g ry fun s3 I3=>⟨.bl (!ov.isSome),H2,I3,rfl,q2⟩
theorem ps_dput (hu:X.A.units + 1 < cLine) (ho:PE X o td) (hi:PE X i ty) (hv:PE X value tv) (hs:swapsWith value (some (.Subscript o i pos')) pos.line X.env=pure false) :
    PS X (.Assign [.Subscript o i pos'] value pos) (sDPut td ty tv):=by
  intro pins s σ H D I h
  refine wpAny_Assign_Subscript (thn (hv pins s σ H _ I h) fun r s1 ⟨v,H1,I1,rv,q1⟩=>thn (ho pins s1 σ H1 _ I1 q1) fun u s2 ⟨x,H2,I2,rx,q2⟩=>thn (hi pins s2 σ H2 _ I2 q2) fun iv s3 ⟨y,H3,I3,ry,a,H4,ex,g,q3⟩=>?_) hs
  subst ex
  obtain rfl:u=Value.ref a:=rx
  exact d_setItem hu I3 g ry rv fun s4 I4=>⟨σ,H4,I4,q3⟩
end
def mergeK (kvs more:List (Key × V)):List (Key × V):=more.foldl (fun acc kv=>putK acc kv.1 kv.2) kvs
theorem KV.merge:∀ {more:List (Key × V)} {rs:List (Key × Value)} {kvs:List (Key × V)} {vs:List (Key × Value)},KV more rs→KV kvs vs→KV (mergeK kvs more) (merged vs rs):=by
  intro more rs kvs vs r
  unfold KV at r
  induction r generalizing kvs vs with
  | nil=>intro q;exact q
  | @cons p q ps qs h t ih =>
    intro r0
    have e:KV (putK kvs p.1 p.2) (stored vs q.1 q.2):=by
      have:=r0.put p.1 h.2
      rw [← h.1];exact this
    exact ih e
theorem length_mergeK:∀ (more kvs:List (Key × V)),(mergeK kvs more).length≤kvs.length + more.length
  | [],kvs=>by show kvs.length≤kvs.length + 0;omega
  | p :: r,kvs=>by
    have h1:=length_mergeK r (putK kvs p.1 p.2)
    have h2:=length_putK kvs p.1 p.2
    show (mergeK (putK kvs p.1 p.2) r).length≤_
    rw [List.length_cons];omega
structure M1 (X:Cx) (o:Expr) (m:Str) (apos:Pos) (e:Expr) (cpos:Pos):Prop where
  base:attributeBase o m X.env (eval o X.env)=eval o X.env
  few:((backTo cpos (starEach [e] X.env)).all (fun x=>!x.1) && (backToKw cpos (keywordEach [] X.env)).all (fun x=>x.1.isSome)
    && decide (([e]:List Expr).length + ([]:List Keyword).length + (if ([]:List Keyword).isEmpty then 0 else 1) < 30))=true
  line:(apos.endLine == cpos.line)=true
  trees:backTo cpos (starEach [e] X.env)=[(false,eval e X.env)]
def IsD (H:Hp) (a:Addr):Prop:=(∃ kvs,Rd H a (.dK kvs))∨∃ kvs,Rd H a (.dT kvs)
theorem isD_at {X:Cx} {pins:List (Addr × Obj)} {σ:St} {H:Hp} {s:Shared} {a:Addr} (I:Inv X pins σ H s) (d:IsD H a) :
    s.TypeIs (.ref a) "dict"∧(∀ b,Value.ref a=.ref b→∃ ob,s.heap.get? b=some ob∧ob.dict=none)∧(a == sysModules)=false:=by
  rcases d with ⟨kvs,e⟩ | ⟨kvs,e⟩
  · obtain ⟨_,hd,vs,_,dd⟩:=dk_rd I.hok e
    refine ⟨dd.typeIs,fun b q=>?_,hd⟩
    cases q
    obtain ⟨ob,_,_,h1,h2,_⟩:=dd
    exact ⟨ob,h1,h2.2.1⟩
  · obtain ⟨_,hd,xs,_,dd⟩:=dt_rd I.hok e
    refine ⟨dd.typeIs,fun b q=>?_,hd⟩
    cases q
    obtain ⟨ob,_,_,h1,h2,_⟩:=dd
    exact ⟨ob,h1,h2.2.1⟩
section
variable {X:Cx} {pins:List (Addr × Obj)} {σ:St} {H:Hp} {s:Shared} {a:Addr} {y d:V} {u r:Value} {o:Option V} {A:Around} {E:Value→Shared→Prop}
theorem d_get1 {Q:Value→Shared→Prop} (hu:A.units + 1 < cLine) (I:Inv X pins σ H s) (g:DGet H a y o) (ry:RelV y u) (h:∀ w' s',Inv X pins σ H s'→RelV (o.getD .non) w'→Q w' s') :
    wpAny (model X.prog X.w) A (call (.builtin "dict.get") [.ref a,u]) Q E s:=by
  rcases g with ⟨kvs,k,e,ey,l⟩ | ⟨kvs,k,b,e,ey,eb,l⟩
  · subst ey
    obtain ⟨z,hd,vs,rel,dd⟩:=dk_rd I.hok e
    refine call_meetsIn PySem.F.slot_dict_get dd.typeIs PySem.F.entry_dict_get (PySem.F.args_dict_get_2 _ _) (meets_dict_get (mixKind X.prog X.w) a (kV_is ry) hd) ⟨_,dd.mapOf,h _ _ (I.tok _) ?_⟩
    rw [l]
    exact (rel.val k).getD rfl
  · subst ey
    cases (show u=Value.ref b from ry)
    obtain ⟨z,hd,xs,rel,dd⟩:=dt_rd I.hok e
    refine call_meetsIn PySem.F.slot_dict_get dd.typeIs PySem.F.entry_dict_get (PySem.F.args_dict_get_2 _ _) (meetsH_dict_get (tupleKind (mixKind X.prog X.w)) a b hd) ⟨tupleKind_room_in1 hu,k,xs,key_of I.hok eb,dd,h _ _ (I.tok _) ?_⟩
    rw [l]
    exact (rel.val k).getD rfl
end
def tDGet1 (td ty:TE):TE:=fun σ H Q=>td σ H fun x H1=>∃ a,x=.ref a∧IsD H1 a∧ty σ H1 fun y H2=>∃ o,DGet H2 a y o∧Q (o.getD .non) H2
section
variable {X:Cx} {o e f:Expr} {apos cpos:Pos} {td ty tx:TE}
theorem pe_dget1 (hu:X.A.units + 1 < cLine) (ho:PE X o td) (he:PE X e ty) (m:M1 X o "get" apos e cpos):PE X (.Call (.Attribute o "get" apos) [e] [] cpos) (tDGet1 td ty):=by
  intro pins s σ H Q I h
  refine wpAny_Call_method m.base m.few m.line PySem.F.plainAttrs_dict PySem.F.slot_dict_get PySem.F.type_dict_get (thn (ho pins s σ H _ I h) fun u s1 ⟨x,H1,I1,rx,a,ex,d,q1⟩=>?_)
  subst ex
  obtain rfl:u=Value.ref a:=rx
  obtain ⟨t1,t2,_⟩:=isD_at I1 d
  refine ⟨t1,t2,?_⟩
  rw [m.trees]
  refine Calls.callWith_builtin rfl (Calls.evalArgs_plain (Calls.spliced_cons (thn (he pins s1 σ H1 _ I1 q1) fun iv s2 ⟨y,H2,I2,ry,ov,g,q2⟩=>Calls.spliced_nil ?_)))
  exact d_get1 hu I2 g ry fun w' s3 I3 rw'=>⟨_,H2,I3,rw',q2⟩
end
end L2
namespace L2
open PySem PySem.Spec PyProof.Rows
theorem list_keys_none:typeLookup (.type "list") "keys"=pure none:=am_miss_of_fast (by first | decide +kernel | rfl)
theorem ud_entry:entryFor table "dict.update.loop"=some Builtin.«dict.update.loop»:=entryFor_of_tree (by kernel_rfl)
theorem ud_plain:plainId "dict.update.loop"=true:=by decide +kernel
section
variable {prog:Program} {w:World} {A:Around} {E:Value→Shared→Prop}
theorem miss_list {s:Shared} {a:Addr} {o:Obj} {xs:Array Value} {k:Nat} {Q:Option Value→Shared→Prop} (hx:s.heap.get? a=some o) (hc:o.cls=.type "list") (hdat:o.data=.seq xs k) (hd:o.dict=none) (hA:A.handled=none)
    (h:∀ h' tk,(∀ b ob,s.heap.get? b=some ob→h'.get? b=some ob)→Q none { s with heap:=h',toks:=tk }):wpAny (model prog w) A (getAttr? (.ref a) "keys") Q E s:=by
  obtain ⟨c,dct,dat,sl⟩:=o
  simp only at hc hdat hd
  subst hc hdat hd
  obtain ⟨hp,g,d,tk,os⟩:=s
  have hT:∀ tk',(⟨hp,g,d,tk',os⟩:Shared).TypeIs (.ref a) "list":=fun _=>⟨_,hx,rfl⟩
  have hmiss:=list_keys_none
  have hname:(["__module__","__name__","__qualname__","__doc__","__annotations__"]:List Str).contains "keys"=false:=by decide +kernel
  have hsz:("keys":Str).length + 100≤sizeLine:=by first | size_fits | decide +kernel
  have f1:=sub_AttributeError
  have f3:=PySem.F.slot_list_getattribute.lookup
  have f4:=PySem.F.slot_list_getattribute.bind (.ref a)
  have f5:=am_list_getattr_none
  unfold getAttr? getAttrBy? getAttrBy
  repeat (any_goals (first | assumption | exact hT _ | ((with_reducible show wpAny _ _ (call (Value.builtin "list.__getattribute__") _ _) _ _ _);refine call_meets PySem.F.slot_list_getattribute (hT _) am_entry_list_getattribute (PySem.F.args_list_getattribute_2 _ _) (meets_getattribute_miss_list a xs k sl "keys" _ hmiss hname hsz) ⟨hx,hA,fun h' tk' e hx'=>?_⟩) | wp_step))
  obtain ⟨t',u',he⟩:=hx'.there
  show wpAny _ _ (getattributeRaised _ _ _ _ _ _ _) _ _ _
  unfold getattributeRaised
  repeat (any_goals (first | assumption | wp_step))
  all_goals first | exact h _ _ hx'.keeps | (dsimp only;repeat (any_goals (first | assumption | exact h _ _ hx'.keeps | wp_step)))
theorem upd_loop {R:Result→Shared→Prop} {S I l:Addr} {items:Array Value} {res:Value} (hh:A.handled=none) (hlI:l≠I) (hSI:S≠I) (hSl:S≠l) :
    ∀ (rest:List (Key × Value)) (i:Nat) (acc:List (Key × Value)) (ix:Int) (t:Tok) (s:Shared),items.size=i + rest.length→acc.length + rest.length≤sizeLine →
      (∀ (j:Nat) (q:Key × Value),rest[j]?=some q→∃ (b:Addr) (u:Value),items[i + j]?=some (.ref b)∧b≠S∧b≠I∧IsTup s.heap b #[u,q.2]∧keyIs q.1 u=true) →
      s.heap.IsListIter I l i→s.heap.IsList l items→s.heap.DictOf (mixKind prog w) S acc →
      (∀ h' tk,h'.DictOf (mixKind prog w) S (merged acc rest)→(∀ b o,b≠S→b≠I→s.heap.get? b=some o→h'.get? b=some o)→R (.ok (.ret res)) { s with heap:=h',toks:=tk }) →
      codeAny (model prog w) A (.builtin "dict.update.loop" ⟨[.ref S,.ref I,.int ix t,res],[]⟩) R s
  | [],i,acc,ix,t,s,hsz,hln,ht,hit,hl,hm,hR=>by
    refine codeAny_builtin ud_entry ?_
    rw [Around.under_plainId ud_plain _]
    show wpAny _ A.in1 (pyNext (.ref I) >>= _) _ _ s
    refine wpAny_bind (wpAny_pyNext_list_end (A:=A.in1) hh hit hl (by first | exact Array.getElem?_eq_none (Nat.le_of_eq hsz) | (simp at hsz;simp;omega)) fun h' he=>?_)
    show wpAny _ A.in1 (Builtin.Dict.addKeywords S [] >>= _) _ _ _
    refine wpAny_bind (wpAny_pure (wpAny_pure ?_))
    exact hR h' s.toks (hm.extBut he hSI) fun b o _ hb e=>he b o hb e
  | q :: rest,i,acc,ix,t,s,hsz,hln,ht,hit,hl,hm,hR=>by
    obtain ⟨b,u,hb,hbS,hbI,htup,hk⟩:=ht 0 q rfl
    rw [List.length_cons] at hsz hln
    refine codeAny_builtin ud_entry ?_
    rw [Around.under_plainId ud_plain _]
    show wpAny _ A.in1 (pyNext (.ref I) >>= _) _ _ s
    refine wpAny_bind (wpAny_pyNext_list_item (x:=.ref b) hit hl (by simpa using hb) fun h1 hit1 hs1=>?_)
    have ht1:IsTup h1 b #[u,q.2]:=htup.extBut hs1.extBut hbI
    have hl1:h1.IsList l items:=hl.extBut hs1.extBut hlI
    have hm1:h1.DictOf (mixKind prog w) S acc:=hm.extBut hs1.extBut hSI
    obtain ⟨o,ho,hc,n,hd⟩:=id ht1
    show wpAny _ A.in1 (holding [Value.ref b] _ >>= _) _ _ _
    refine wpAny_bind (wpAny_holding ?_)
    refine wpAny_bind (wpAny_tryCatch ?_)
    unfold Builtin.Dict.pairItems
    refine wpAny_bind (wpAny_typeOf (T:="tuple") ⟨o,ho,hc⟩ ?_)
    rw [if_pos (by first | decide | rfl | simp)]
    refine wpAny_bind (wpAny_seqItems ho hd (wpAny_pure ?_))
    show wpAny _ A.in1 (holding [u,q.2] (dictSet S u q.2)) _ _ _
    refine wpAny_holding (wpAny_dictSet_pairs (knd:=mixKind prog w) (k:=q.1) hk hm1 (fun h2 hm2 hs2=>?_) (by omega))
    refine wpAny_pure ⟨plainId_quiet ud_plain _,upd_loop (items:=items) hh hlI hSI hSl rest (i + 1) (stored acc q.1 q.2) (ix + 1) 0 _ (show items.size=i + 1 + rest.length by omega) ?_ (fun j q' e=>?_) ?_ ?_ hm2 fun h' tk hd' k=>?_⟩
    · have z:=stored_length_le acc q.1 q.2
      omega
    · obtain ⟨b',u',hb',hbS',hbI',htup',hk'⟩:=ht (j + 1) q' (by simpa using e)
      refine ⟨b',u',?_,hbS',hbI',(htup'.extBut hs1.extBut hbI').extBut hs2.extBut hbS',hk'⟩
      rw [show i + 1 + j=i + (j + 1) by omega]
      exact hb'
    · exact hit1.at fun o' e=>hs2.extBut I o' (Ne.symm hSI) e
    · exact hl1.extBut hs2.extBut (Ne.symm hSl)
    · exact hR h' tk hd' fun c oc h3 h4 e=>k c oc h3 h4 (hs2.extBut c oc h3 (hs1.extBut c oc h4 e))
theorem call_dict_pairs {s:Shared} {l:Addr} {ol:Obj} {items:Array Value} {n:Nat} {prs:List (Key × Value)} {Q:Value→Shared→Prop} (hh:A.handled=none) (hl:s.heap.get? l=some ol) (hc:ol.cls=.type "list") (hd:ol.dict=none)
    (hdat:ol.data=.seq items n) (hsz:items.size=prs.length) (hln:prs.length≤sizeLine)
    (ht:∀ (j:Nat) (q:Key × Value),prs[j]?=some q→∃ (b:Addr) (u:Value),items[j]?=some (.ref b)∧IsTup s.heap b #[u,q.2]∧keyIs q.1 u=true)
    (h:∀ h' tk,h'.DictOf (mixKind prog w) s.heap.objs.size (merged [] prs)→(∀ b o,s.heap.get? b=some o→h'.get? b=some o)→Q (.ref s.heap.objs.size) { s with heap:=h',toks:=tk }) :
    wpAny (model prog w) A (call (.type "dict") [.ref l]) Q E s:=by
  refine callType_codes (Q₁:=fun obj s₁=>obj=.ref s.heap.objs.size∧s₁={ s with heap:=s.heap.push { cls:=.type "dict",data:=.dict #[] } }) PySem.F.kt_called_dict (PySem.F.kt_typeCall_dict_1 _) PySem.F.entry_dict_init (kt_code_dict_new _ ⟨rfl,rfl⟩) ?_
  rintro obj s₁ ⟨rfl,rfl⟩
  have hnew:(s.heap.push { cls:=.type "dict",data:=.dict #[] }).DictOf (mixKind prog w) s.heap.objs.size []:=Heap.DictOf.new s.heap
  have k0:∀ b o,s.heap.get? b=some o→(s.heap.push { cls:=.type "dict",data:=.dict #[] }).get? b=some o:=fun b o e=>Heap.get?_push_of_some _ e
  refine ⟨hnew.typeIs,PySem.F.args_dict_init_2 _ _,?_⟩
  unfold Builtin.«dict.__init__»
  refine wpAny_bind ?_
  unfold Builtin.Dict.selfAndRest
  refine wpAny_bind (wpAny_notOrdered_dict hnew.typeIs ?_)
  show wpAny _ _ (pure (s.heap.objs.size,[Value.ref l])) _ _ _
  refine wpAny_pure ?_
  show wpAny _ _ (Builtin.Dict.updateFrom "dict.__init__" s.heap.objs.size (.ref l) [] .none) _ _ _
  unfold Builtin.Dict.updateFrom
  refine wpAny_bind (wpAny_typeOf (T:="list") ⟨ol,k0 _ _ hl,hc⟩ ?_)
  rw [if_pos (by first | decide | rfl | simp)]
  refine wpAny_bind (miss_list (k0 _ _ hl) hc hdat hd hh fun h1 tk1 hk1=>?_)
  rw [if_pos (show (none:Option Value).isNone=true from rfl)]
  refine wpAny_bind (wpAny_rule ?_)
  have hl1:h1.IsList l items:=⟨ol,hk1 _ _ (k0 _ _ hl),hc,n,hdat⟩
  have hS1:s.heap.objs.size < h1.objs.size:=by
    have e:(s.heap.push { cls:=.type "dict",data:=.dict #[] }).get? s.heap.objs.size=some { cls:=.type "dict",data:=.dict #[] }:=Heap.get?_push_size _ rfl
    exact Heap.lt_size (hk1 _ _ e)
  refine wpAny_bind (wpAny_pyIter_list hl1 ?_)
  have k2:∀ b o,h1.get? b=some o→(h1.push { cls:=.type "list_iterator",data:=.fields #[.ref l,.int 0 0] }).get? b=some o:=fun b o e=>Heap.get?_push_of_some _ e
  have hlt:l < s.heap.objs.size:=Heap.lt_size hl
  have key:=upd_loop (prog:=prog) (w:=w) (A:=A.in1) (R:=wants (fun r s₂=>r=.none∧Q (.ref s.heap.objs.size) s₂) E) (S:=s.heap.objs.size) (I:=h1.objs.size) (l:=l) (items:=items) (res:=Value.none) hh
    (Nat.ne_of_lt (Nat.lt_trans hlt hS1)) (Nat.ne_of_lt hS1) (Nat.ne_of_gt hlt) prs 0 [] 0 0
    { s with heap:=h1.push { cls:=.type "list_iterator",data:=.fields #[.ref l,.int 0 0] },toks:=tk1 } (by rw [hsz,Nat.zero_add]) (by rw [List.length_nil,Nat.zero_add];exact hln)
    (fun j q e=>by
      obtain ⟨b,u,e1,e2,e3⟩:=ht j q e
      have hb:b < s.heap.objs.size:=e2.lt
      exact ⟨b,u,by rw [Nat.zero_add];exact e1,Nat.ne_of_lt hb,Nat.ne_of_lt (Nat.lt_trans hb hS1),e2.keeps fun c o z=>k2 _ _ (hk1 _ _ (k0 _ _ z)),e3⟩)
    ⟨_,Heap.get?_push_size _ rfl,rfl,rfl⟩ (hl1.at fun o e=>k2 _ _ e) ((hnew.at fun o e=>hk1 _ _ e).at fun o e=>k2 _ _ e)
    (fun h' tk hd' k=>⟨rfl,h h' tk hd' fun b o e=>k b o (Nat.ne_of_lt (Heap.lt_size e)) (Nat.ne_of_lt (Nat.lt_trans (Heap.lt_size e) hS1)) (k2 _ _ (hk1 _ _ (k0 _ _ e)))⟩)
  first
    | exact wpAny_pure ⟨plainId_quiet ud_plain _,key⟩
    | exact wpAny_bind (wpAny_pure (wpAny_pure ⟨plainId_quiet ud_plain _,key⟩))
end
section
variable {X:Cx}
theorem pairs_of {pins:List (Addr × Obj)} {σ:St} {H:Hp} {s:Shared} (I:Inv X pins σ H s):∀ {ps:List Addr} {kvs:List (Key × V)},Paired (fun p kv=>SqT X.K H p [kV kv.1,kv.2]) ps kvs →
    ∃ prs:List (Key × Value),KV kvs prs∧prs.length=ps.length∧∀ (j:Nat) (q:Key × Value),prs[j]?=some q→∃ (b:Addr) (u:Value),ps[j]?=some b∧IsTup s.heap b #[u,q.2]∧keyIs q.1 u=true
  | _,_,.nil=>⟨[],.nil,rfl,fun j q e=>by simp at e⟩
  | _,_,.cons (a:=p) (b:=kv) h t=>by
    obtain ⟨prs,r,hl,hp⟩:=pairs_of I t
    obtain ⟨its,rv,ht,_⟩:=I.tuple h
    obtain ⟨u,y,ei,ru,ry⟩:=vals2 rv
    subst ei
    refine ⟨(kv.1,y) :: prs,.cons ⟨rfl,ry⟩ r,by rw [List.length_cons,List.length_cons,hl],fun j q e=>?_⟩
    cases j with
    | zero =>
      have e':(kv.1,y)=q:=Option.some.inj e
      subst e'
      exact ⟨p,u,rfl,ht,kV_is (P:=X.prog) (w:=X.w) ru⟩
    | succ j =>
      obtain ⟨b,u',e1,e2,e3⟩:=hp j q (by simpa using e)
      exact ⟨b,u',by simpa using e1,e2,e3⟩
theorem refs_at:∀ {ps:List Addr} {us:List Value},Vals (ps.map V.ref) us→us=ps.map Value.ref
  | [],us,r=>by
    rw [List.map_nil] at r
    cases r
    rfl
  | p :: ps,us,r=>by
    rw [List.map_cons] at r
    cases r with
    | cons h t =>
      cases h
      rw [List.map_cons,← refs_at t]
theorem call_dictP (hcalm:X.calm=true):CallR X (.type "dict") (fun xs H Q=>∃ (a:Addr) (ps:List Addr) (kvs:List (Key × V)),xs=[.ref a]∧SqL X.K H a (ps.map V.ref)∧Paired (fun p kv=>SqT X.K H p [kV kv.1,kv.2]) ps kvs ∧
    ∀ p,H p=none→Q (.ref p) (upd H p (.dK (mergeK [] kvs)))):=by
  intro pins s σ H xs us Q I r q
  obtain ⟨a,ps,kvs,ex,hq,hp,q⟩:=q
  subst ex
  obtain ⟨u,eu,rx⟩:=vals1 r
  subst eu
  cases rx
  obtain ⟨its,rv,pl,hz⟩:=I.list hq
  have ei:=refs_at rv
  subst ei
  rw [List.length_map] at hz
  obtain ⟨prs,rel,hl,hpr⟩:=pairs_of I hp
  obtain ⟨o,n,ho,hc,hd,hdat⟩:=pl
  refine call_dict_pairs (prs:=prs) (I.ok.hd hcalm) ho hc hd hdat (by simp [hl]) (by rw [hl];exact hz) (fun j q' e=>?_) fun h' tk hd' k=>?_
  · obtain ⟨b,u,e1,e2,e3⟩:=hpr j q' e
    exact ⟨b,u,by simp [e1],e2,e3⟩
  · have hm:(s.heap.objs.size == sysModules)=false:=beq_eq_false_iff_ne.mpr (Nat.ne_of_gt I.big)
    have hlen:(mergeK [] kvs).length≤sizeLine:=by
      refine Nat.le_trans (length_mergeK kvs []) ?_
      rw [List.length_nil,Nat.zero_add,rel.length,hl]
      exact hz
    exact ⟨.ref s.heap.objs.size,upd H s.heap.objs.size (.dK (mergeK [] kvs)),I.laid (t':=tk) k (Nat.le_refl _) (show ObjOk X.prog X.w _ _ _ (.dK (mergeK [] kvs)) from ⟨hlen,hm,merged [] prs,KV.merge rel .nil,hd'⟩),rfl,q _ (I.hok.fresh (Nat.le_refl _))⟩
end
end L2
namespace L2
open PySem PySem.Spec PyProof.Rows
section
variable {X:Cx} {pins:List (Addr × Obj)} {σ:St} {H:Hp} {s:Shared} {h':Heap}
theorem Inv.turnedL {t':Nat} {ch:List Addr} (I:Inv X pins σ H s) (k:∀ b o,b ∉ ch→s.heap.get? b=some o→h'.get? b=some o) (hf:∀ b∈ch,FpOk X pins H b):Inv X pins σ H { s with heap:=h',toks:=t' }:=by
  have nit:∀ b u,H b=some u→b ∉ ch:=fun b u e z=>by
    have q:=(hf b z).1
    rw [q] at e;cases e
  refine I.step (g':=s.gens) (d':=s.drawn) (ch:=ch) (fun b hb=>⟨(hf b hb).2.2.2.1,(hf b hb).2.1,(hf b hb).2.2.2.2.1,(hf b hb).2.2.2.2.2⟩) (fun b o _ _ hc e _=>k b o hc e) (fun b o _ _ hc e _=>⟨o.slots,k b o hc e⟩)
    (fun _ _ _ _ n=>n) (fun b o hc e=>⟨o,k b o hc e⟩) (fun _ _ e=>e) (fun _ _ _ e=>e) (fun b ps e=>⟨#[],by rw [e];simp⟩) (fun m hm=>?_) (fun b u e=>?_) I.bare
  · obtain ⟨o,es,ep,ho,r⟩:=hm
    exact ⟨o,es,ep,k _ o (fun z=>(hf _ z).2.1 rfl) ho,r⟩
  · refine (I.hok b u e).stay (fun c v hc q=>k c v ?_ q) (fun _ q=>q) fun _ _ q=>q
    rcases hc with z | z
    · rw [z];exact nit b u e
    · exact nit c _ z
theorem Inv.turnedNew {t':Nat} {ch:List Addr} {T:Addr} {ob:HO} (I:Inv X pins σ H s) (k:∀ b o,b ∉ ch→s.heap.get? b=some o→h'.get? b=some o) (hf:∀ b∈ch,FpOk X pins H b) (hT:s.heap.objs.size≤T)
    (new:ObjOk X.prog X.w (upd H T ob) h' T ob):Inv X pins σ (upd H T ob) { s with heap:=h',toks:=t' }:=by
  have hn:H T=none:=I.hok.fresh hT
  have nit:∀ b u,H b=some u→b ∉ ch:=fun b u e z=>by
    have q:=(hf b z).1
    rw [q] at e;cases e
  refine I.step (g':=s.gens) (d':=s.drawn) (ch:=ch) (fun b hb=>⟨(hf b hb).2.2.2.1,(hf b hb).2.1,(hf b hb).2.2.2.2.1,(hf b hb).2.2.2.2.2⟩) (fun b o _ _ hc e _=>k b o hc e) (fun b o _ _ hc e _=>⟨o.slots,k b o hc e⟩)
    (fun b o _ e n=>?_) (fun b o hc e=>⟨o,k b o hc e⟩) (fun b xs e=>?_) (fun b o u e=>?_) (fun b ps e=>⟨#[],?_⟩) (fun m hm=>?_) (fun b u e=>?_) I.bare
  · rw [upd_ne (Nat.ne_of_lt (Nat.lt_of_lt_of_le (Heap.lt_size e) hT))];exact n
  · rw [upd_ne (ne_of_none e hn)];exact e
  · rw [upd_ne (ne_of_none e hn)];exact e
  · rw [upd_ne (ne_of_none e hn),e];simp
  · obtain ⟨o,es,ep,ho,r⟩:=hm
    exact ⟨o,es,ep,k _ o (fun z=>(hf _ z).2.1 rfl) ho,r⟩
  · by_cases hb:b=T
    · subst hb
      rw [upd_same] at e
      cases e
      exact new
    · rw [upd_ne hb] at e
      refine (I.hok b u e).stay (fun c v hc q=>k c v ?_ q) (fun c q=>by rw [upd_ne (ne_of_none q hn)];exact q) fun c xs q=>by rw [upd_ne (ne_of_none q hn)];exact q
      rcases hc with z | z
      · rw [z];exact nit b u e
      · exact nit c _ z
end
theorem kv_get {κ:Type} {kvs:List (κ × V)} {vs:List (κ × Value)} (h:KV kvs vs):∀ {i:Nat} {k:κ} {v:V},kvs[i]?=some (k,v)→∃ u,vs[i]?=some (k,u)∧RelV v u:=by
  unfold KV at h
  induction h with
  | nil=>intro i k v e;simp at e
  | @cons a b l₁ l₂ r t ih =>
    intro i k v e
    cases i with
    | zero =>
      simp only [List.getElem?_cons_zero,Option.some.injEq] at e
      subst e
      refine ⟨b.2,?_,r.2⟩
      simp only [List.getElem?_cons_zero]
      exact congrArg some (Prod.ext r.1.symm rfl)
    | succ j =>
      simp only [List.getElem?_cons_succ] at e ⊢
      exact ih e
def Ite (K:PySem.W.Frag) (a:Addr):It :=
  ⟨fun i H=>∃ (xs:List V) (x:V),SqL K H a xs∧xs[i]?=some x,fun i H v H'=>∃ T x,v=.ref T∧H T=none∧H'=upd H T (.tup [.int (i:Nat),x])∧∀ xs,SqL K H a xs→xs[i]?=some x,fun i H=>∃ xs:List V,SqL K H a xs∧xs.length≤i⟩
theorem turn_enum {P:Program} {w:World} {K:PySem.W.Frag} {elts:List Expr} {kk:Nat} {tpos:Pos} (a e it:Addr) :
    Turn P w K (.Tuple elts kk tpos) (Ite K a) [e,it] e (fun i h=>(∃ old,IsEnum h e it ((i:Nat):Int) old)∧h.IsListIter it a i∧e≠it) where
  mem:=by simp
  obj:=fun i h st b hb=>by
    obtain ⟨⟨old,he⟩,⟨o,ho,hc,hd⟩,_⟩:=st
    have e':b=e∨b=it:=by simpa using hb
    rcases e' with z | z
    · rw [z];exact ⟨_,he,fun v q=>nomatch q⟩
    · rw [z];exact ⟨o,ho,fun v q=>by rw [hd] at q;cases q⟩
  keep:=fun i h h' st k=>let ⟨⟨old,he⟩,hi,hne⟩:=st;⟨⟨old,k e (by simp) _ he⟩,hi.at fun o q=>k it (by simp) o q,hne⟩
  item:=by
    intro X hP hw hK hc i pins s σ H E I hf st hg
    subst hP hw hK
    obtain ⟨⟨old,he⟩,hit,hne⟩:=st
    obtain ⟨xs,x,hq,hx⟩:=hg
    obtain ⟨its,rv,p,hz⟩:=I.list hq
    obtain ⟨u,hu,ru⟩:=rv.get hx
    have hel:e < s.heap.objs.size:=Heap.lt_size he
    have hil:it < s.heap.objs.size:=by obtain ⟨_,q,_⟩:=hit;exact Heap.lt_size q
    refine wpAny_pyNext_enum_item he hit p.isList (x:=u) (by simpa using hu) hne fun h' ho hit' hT hsz hk=>?_
    refine ⟨_,rfl,wpAny_letOwnedTupleGo_enum (s:={ s with heap:=h',toks:=s.toks + 1 }) ho fun h'' he' sb=>?_⟩
    have hT2:h''.get? s.heap.objs.size=some { cls:=.type "tuple",data:=.seq #[.int i s.toks,u] }:=(sb.2 _ (Nat.ne_of_gt hel)).trans hT
    have new:ObjOk X.prog X.w (upd H s.heap.objs.size (.tup [.int (i:Nat),x])) h'' s.heap.objs.size (.tup [.int (i:Nat),x]) :=
      ⟨by show 2≤sizeLine;decide,[.int i s.toks,u],.cons ⟨_,rfl⟩ (.cons ru .nil),⟨_,hT2,rfl,_,rfl⟩⟩
    have I1:Inv X pins σ (upd H s.heap.objs.size (.tup [.int (i:Nat),x])) { s with heap:=h'',toks:=s.toks + 1 } :=
      I.turnedNew (ch:=[e,it]) (fun b ob hb q=>(sb.2 b (fun z=>hb (by simp [z]))).trans (hk b ob (fun z=>hb (by simp [z])) (fun z=>hb (by simp [z])) q)) hf (Nat.le_refl _) new
    refine ⟨.ref s.heap.objs.size,_,I1,rfl,⟨_,x,rfl,I.hok.fresh (Nat.le_refl _),rfl,fun ys hy=>by rw [I.list_inj hy hq];exact hx⟩,⟨⟨u,?_⟩,hit'.at fun o q=>(sb.2 it (Ne.symm hne)).trans q,hne⟩,fun b hb=>?_⟩
    · have e1:((i + 1:Nat):Int)=(i:Int) + 1:=by omega
      rw [e1];exact he'
    · have hb':b < s.heap.objs.size:=by
        have e':b=e∨b=it:=by simpa using hb
        rcases e' with z | z
        · rw [z];exact hel
        · rw [z];exact hil
      rw [upd_ne (Nat.ne_of_lt hb')]
      exact (hf b hb).1
  done:=by
    intro X hP hw hK hc i pins s σ H E I hf st hg
    subst hP hw hK
    obtain ⟨⟨old,he⟩,hit,hne⟩:=st
    obtain ⟨xs,hq,hx⟩:=hg
    obtain ⟨its,rv,p,hz⟩:=I.list hq
    obtain ⟨f0,f1,f2,f3,f4,f5⟩:=hf it (by simp)
    have hl:=rv.length
    exact wpAny_pyNext_enum_end (I.ok.hd hc) he hit p.isList (by simp;omega) fun h' eb=>⟨rfl,I.turned (t':=s.toks) (fun b o hb q=>eb b o hb q) f0 f1 f3 f4 f5⟩
  self:=fun A i s Q E st h=>let ⟨⟨_,he⟩,_⟩:=st;wpAny_pyIter_enum he h
def iEnum (K:PySem.W.Frag) (ta:TA):TI:=fun σ H R=>ta σ H fun vs H1=>∃ a xs,vs=[.ref a]∧SqL K H1 a xs∧R (Ite K a) H1
theorem pi_enum {X:Cx} {e:Expr} {ta:TA} {p pos tpos:Pos} {elts:List Expr} {kk:Nat} (hg:Gl X "enumerate") (hm:X.mg "enumerate"=none) (ha:PA X [e] ta) (hs:starEach [e] X.env=[(false,eval e X.env)]:=by rfl) :
    PI X (.Tuple elts kk tpos) (.Call (.Name "enumerate" p) [e] [] pos) (iEnum X.K ta):=by
  intro pins s σ H R I h
  refine Call_ (ld_blt I hg hm boot_enumerate (PyProof.Rows.callWith_type1 (thn (ha pos pins s σ H _ I h) fun us s1 ⟨vs,H1,I1,r1,q1⟩=>?_) hs rfl))
  obtain ⟨a,xs,ex,hq,q⟩:=q1
  subst ex
  cases r1 with
  | cons r rr =>
    cases rr
    cases r
    obtain ⟨its,rv,p',hz⟩:=I1.list hq
    refine call_enumerate_list p'.isList fun h' he hit hsz hk=>wpAny_pyIter_enum he ?_
    have I2:Inv X pins σ H1 { s1 with heap:=h' }:=I1.kept (t':=s1.toks) hk
    refine ⟨s1.heap.objs.size + 1,[s1.heap.objs.size + 1,s1.heap.objs.size],_,_,H1,rfl,I2,turn_enum a (s1.heap.objs.size + 1) s1.heap.objs.size,⟨⟨.none,he⟩,hit,Nat.succ_ne_self _⟩,fun b hb=>?_,q⟩
    have e':b=s1.heap.objs.size + 1∨b=s1.heap.objs.size:=by simpa using hb
    have hle:s1.heap.objs.size≤b:=by
      rcases e' with z | z
      · rw [z];exact Nat.le_add_right _ _
      · rw [z];exact Nat.le_refl _
    exact I1.fpOk hle (I1.hok.fresh hle)
theorem boot_zip5:bootBuiltins "zip"=some (.type "zip"):=by decide +kernel
def Itz (K:PySem.W.Frag) (a b:Addr):It :=
  ⟨fun i H=>∃ (xs ys:List V) (x y:V),SqL K H a xs∧SqL K H b ys∧xs[i]?=some x∧ys[i]?=some y,
    fun i H v H'=>∃ T x y,v=.ref T∧H T=none∧H'=upd H T (.tup [x,y])∧(∀ xs,SqL K H a xs→xs[i]?=some x)∧∀ ys,SqL K H b ys→ys[i]?=some y,
    fun i H=>∃ xs ys:List V,SqL K H a xs∧SqL K H b ys∧(xs.length≤i∨ys.length≤i)⟩
theorem turn_zip {P:Program} {w:World} {K:PySem.W.Frag} {elts:List Expr} {kk:Nat} {tpos:Pos} {a b z TI TO i1 i2:Addr} (D:ZipApart z TI TO i1 i2 a b) :
    Turn P w K (.Tuple elts kk tpos) (Itz K a b) [z,TI,TO,i1,i2] z (fun i h=>IsZip h z TI TO .none∧IsPair h TI (.ref i1) (.ref i2)∧(∃ x y,IsPair h TO x y)∧h.IsListIter i1 a i∧h.IsListIter i2 b i) where
  mem:=by simp
  obj:=fun i h st c hc=>by
    obtain ⟨hz,hTI,⟨x,y,hTO⟩,⟨o1,e1,_,d1⟩,⟨o2,e2,_,d2⟩⟩:=st
    have e':c=z∨c=TI∨c=TO∨c=i1∨c=i2:=by simpa using hc
    rcases e' with q | q | q | q | q
    · rw [q];exact ⟨_,hz,fun v q=>nomatch q⟩
    · rw [q];exact ⟨_,hTI,fun v q=>nomatch q⟩
    · rw [q];exact ⟨_,hTO,fun v q=>nomatch q⟩
    · rw [q];exact ⟨o1,e1,fun v q=>by rw [d1] at q;cases q⟩
    · rw [q];exact ⟨o2,e2,fun v q=>by rw [d2] at q;cases q⟩
  keep:=fun i h h' st k=>by
    obtain ⟨hz,hTI,⟨x,y,hTO⟩,h1,h2⟩:=st
    exact ⟨k z (by simp) _ hz,k TI (by simp) _ hTI,⟨x,y,k TO (by simp) _ hTO⟩,h1.at fun o q=>k i1 (by simp) o q,h2.at fun o q=>k i2 (by simp) o q⟩
  item:=by
    intro X hP hw hK hc i pins s σ H E I hf st hg
    subst hP hw hK
    obtain ⟨hz,hTI,⟨x0,y0,hTO⟩,h1,h2⟩:=st
    obtain ⟨xs,ys,x,y,hqx,hqy,hx,hy⟩:=hg
    obtain ⟨its,rv,p,_⟩:=I.list hqx
    obtain ⟨its2,rv2,p2,_⟩:=I.list hqy
    obtain ⟨u,hu,ru⟩:=rv.get hx
    obtain ⟨u2,hu2,ru2⟩:=rv2.get hy
    have hzl:z < s.heap.objs.size:=Heap.lt_size hz
    refine wpAny_pyNext_zip_item D hz hTI hTO h1 h2 p.isList p2.isList (x:=u) (y:=u2) (by simpa using hu) (by simpa using hu2) fun h' z' TO' h1' h2' hT hsz hk=>?_
    refine ⟨_,rfl,wpAny_letOwnedTupleGo_zip (s:={ s with heap:=h' }) z' fun h'' z'' sb=>?_⟩
    have hT2:h''.get? s.heap.objs.size=some { cls:=.type "tuple",data:=.seq #[u,u2] }:=(sb.2 _ (Nat.ne_of_gt hzl)).trans hT
    have new:ObjOk X.prog X.w (upd H s.heap.objs.size (.tup [x,y])) h'' s.heap.objs.size (.tup [x,y]) :=
      ⟨by show 2≤sizeLine;decide,[u,u2],.cons ru (.cons ru2 .nil),⟨_,hT2,rfl,_,rfl⟩⟩
    have I1:Inv X pins σ (upd H s.heap.objs.size (.tup [x,y])) { s with heap:=h'' } :=
      I.turnedNew (t':=s.toks) (ch:=[z,TI,TO,i1,i2]) (fun c o hb q=>(sb.2 c (fun q'=>hb (by simp [q']))).trans (hk c o (fun q'=>hb (by simp [q'])) (fun q'=>hb (by simp [q'])) (fun q'=>hb (by simp [q'])) (fun q'=>hb (by simp [q'])) q)) hf (Nat.le_refl _) new
    refine ⟨.ref s.heap.objs.size,_,I1,rfl,⟨_,x,y,rfl,I.hok.fresh (Nat.le_refl _),rfl,fun l hl=>by rw [I.list_inj hl hqx];exact hx,fun l hl=>by rw [I.list_inj hl hqy];exact hy⟩,⟨z'',?_,⟨u,u2,?_⟩,?_,?_⟩,fun c hcm=>?_⟩
    · exact (sb.2 _ D.TIz).trans (hk _ _ D.TIz D.TITO D.TIi1 D.TIi2 hTI)
    · exact (sb.2 _ D.TOz).trans TO'
    · exact h1'.at fun o q=>(sb.2 _ D.i1z).trans q
    · exact h2'.at fun o q=>(sb.2 _ D.i2z).trans q
    · have hlt:c < s.heap.objs.size:=by
        have e':c=z∨c=TI∨c=TO∨c=i1∨c=i2:=by simpa using hcm
        rcases e' with q | q | q | q | q
        · rw [q];exact hzl
        · rw [q];exact Heap.lt_size hTI
        · rw [q];exact Heap.lt_size hTO
        · rw [q];obtain ⟨_,e1,_⟩:=h1;exact Heap.lt_size e1
        · rw [q];obtain ⟨_,e2,_⟩:=h2;exact Heap.lt_size e2
      rw [upd_ne (Nat.ne_of_lt hlt)]
      exact (hf c hcm).1
  done:=by
    intro X hP hw hK hc i pins s σ H E I hf st hg
    subst hP hw hK
    obtain ⟨hz,hTI,⟨x0,y0,hTO⟩,h1,h2⟩:=st
    obtain ⟨xs,ys,hqx,hqy,hend⟩:=hg
    obtain ⟨its,rv,p,_⟩:=I.list hqx
    obtain ⟨its2,rv2,p2,_⟩:=I.list hqy
    have l1:=rv.length
    have l2:=rv2.length
    have he:its.toArray[i]?=none∨its2.toArray[i]?=none:=by
      rcases hend with q | q
      · exact .inl (by simp;omega)
      · exact .inr (by simp;omega)
    exact wpAny_pyNext_zip_end (I.ok.hd hc) D hz hTI hTO h1 h2 p.isList p2.isList he fun h' hk=>⟨rfl,I.turnedL (t':=s.toks) (ch:=[z,TI,TO,i1,i2]) (fun c o hb q =>
      hk c o (fun q'=>hb (by simp [q'])) (fun q'=>hb (by simp [q'])) (fun q'=>hb (by simp [q'])) (fun q'=>hb (by simp [q'])) q) hf⟩
  self:=fun A i s Q E st h=>wpAny_pyIter_zip st.1 h
def iZip (K:PySem.W.Frag) (ta:TA):TI:=fun σ H R=>ta σ H fun vs H1=>∃ a b xs ys,vs=[.ref a,.ref b]∧SqL K H1 a xs∧SqL K H1 b ys∧R (Itz K a b) H1
theorem pi_zip {X:Cx} {e e2:Expr} {ta:TA} {p pos tpos:Pos} {elts:List Expr} {kk:Nat} (hg:Gl X "zip") (hm:X.mg "zip"=none) (ha:PA X [e,e2] ta)
    (hs:starEach [e,e2] X.env=(false,eval e X.env) :: starEach [e2] X.env:=by rfl) (hpl:(backTo pos (starEach [e2] X.env)).any (·.1)=false:=by rfl) :
    PI X (.Tuple elts kk tpos) (.Call (.Name "zip" p) [e,e2] [] pos) (iZip X.K ta):=by
  intro pins s σ H R I h
  refine Call_ (ld_blt I hg hm boot_zip5 (PyProof.Rows.callWith_type1 (thn (ha pos pins s σ H _ I h) fun us s1 ⟨vs,H1,I1,r1,q1⟩=>?_) hs hpl))
  obtain ⟨a,b,xs,ys,ex,hqx,hqy,q⟩:=q1
  subst ex
  cases r1 with
  | cons r rr =>
    cases rr with
    | cons r' rr =>
      cases rr
      cases r
      cases r'
      obtain ⟨its,rv,p1,_⟩:=I1.list hqx
      obtain ⟨its2,rv2,p2,_⟩:=I1.list hqy
      have la:a < s1.heap.objs.size:=p1.lt
      have lb:b < s1.heap.objs.size:=p2.lt
      refine call_zip_2 p1.isList p2.isList fun h' hz hTI hTO h1 h2 hsz hk=>wpAny_pyIter_zip hz ?_
      have I2:Inv X pins σ H1 { s1 with heap:=h' }:=I1.kept (t':=s1.toks) hk
      refine ⟨s1.heap.objs.size + 4,[s1.heap.objs.size + 4,s1.heap.objs.size + 2,s1.heap.objs.size + 3,s1.heap.objs.size,s1.heap.objs.size + 1],_,_,H1,rfl,I2,turn_zip (PySem.W.ktu_apart s1.heap.objs.size a b la lb),⟨hz,hTI,⟨_,_,hTO⟩,h1,h2⟩,fun c hcm=>?_,q⟩
      have e':c=s1.heap.objs.size + 4∨c=s1.heap.objs.size + 2∨c=s1.heap.objs.size + 3∨c=s1.heap.objs.size∨c=s1.heap.objs.size + 1:=by simpa using hcm
      have hle:s1.heap.objs.size≤c:=by
        rcases e' with z | z | z | z | z
        · rw [z];exact Nat.le_add_right _ _
        · rw [z];exact Nat.le_add_right _ _
        · rw [z];exact Nat.le_add_right _ _
        · rw [z];exact Nat.le_refl _
        · rw [z];exact Nat.le_add_right _ _
      exact I1.fpOk hle (I1.hok.fresh hle)
end L2
namespace L2
open PySem PySem.Spec PyProof.Rows
abbrev KOf {K:PySem.W.Frag} {h:Heap} (_:K.In h):PySem.W.Frag:=K
end L2
namespace L2
open PySem PySem.Spec PyProof.Rows
def inClass (s:Stmt) (j:Nat):Stmt:=match s with
  | .ClassDef _ _ _ body _ _ _ _ _ _ _=>body.getD j (.Pass ⟨0,0,0,0⟩)
  | _=>.Pass ⟨0,0,0,0⟩
def defArgs (s:Stmt):Arguments:=match s with
  | .FunctionDef _ a _ _ _ _ _ _ _ _=>a
  | _=>{ posonlyargs:=[],args:=[],vararg:=none,kwonlyargs:=[],kw_defaults:=[],kwarg:=none,defaults:=[] }
def defBody (s:Stmt):List Stmt:=match s with
  | .FunctionDef _ _ b _ _ _ _ _ _ _=>b
  | _=>[]
def defScope (s:Stmt):Scope:=match s with
  | .FunctionDef _ _ _ _ _ _ sc _ _ _=>sc
  | _=>{ kind:=.function,names:=[],isGenerator:=false,isCoroutine:=false }
abbrev CX0:CXT:=fun _ _ _ _ _ _=>False
abbrev E0:XK:=fun _ _ _=>False
theorem pass0 {X:Cx}:Passes CX0 X E0:=fun _ _ _ _ _ _ _ h=>h.elim
structure Fun (K:PySem.W.Frag) (x qual:Str) (st:Stmt) (f:Addr) (fd:FuncData):Prop where
  ex:∃ (oc:Value) (od:Option Addr) (kV doc pm:Value) (an:Option Addr) (cdv ct:Value) (osl:Array (Option Value)),
    fd=PySem.W.fnOf x qual (defArgs st) (defBody st) (defScope st) .none kV doc pm an cdv ct∧K.lookup f=some ⟨oc,od,.func fd,osl⟩∧PySem.W.codeIn K cdv qual=true
  kp:PySem.W.keepIn K (.ref f)=true
section
variable {P:Program} {w:World} {K:PySem.W.Frag} {mg:Str→Option Value} {base:Heap}
theorem Fun.ok {x qual:Str} {st:Stmt} {f:Addr} {fd:FuncData} {N ps:List Str} {k:Nat} {sp:Sp} (F:Fun K x qual st f fd) (S:FnScope N ps (defScope st)) (len:∀ vs H Q E,sp vs H Q E→vs.length=ps.length)
    (hbody:∀ (cdv:Value) (A:Around) (outer:List Env) (s:Shared) (H:Hp) (vs:List V) (Q:VK) (E:XK),Room k (A.deeper (envOfC qual (defScope st) s.heap.objs.size f cdv))→sp vs H Q E →
      ∃ t,PSs (cxOf CX0 P w K mg base N qual (defScope st) f cdv A outer s H E).nox (defBody st) t∧t { nx:=fun _ H'=>Q .non H',rt:=Q } (start N vs) H):FnOk P w K mg base CX0 (k + 1) f fd ps sp:=by
  obtain ⟨oc,od,kV,doc,pm,an,cdv,ct,osl,rfl,lk,hcd⟩:=F.ex
  refine fn_of lk hcd S len fun A outer s H vs Q E hr hsp=>?_
  obtain ⟨t,h,q⟩:=hbody cdv A outer s H vs Q E hr hsp
  exact ⟨t,h.nox,q⟩
theorem Fun.binds {x qual:Str} {st:Stmt} {f:Addr} {fd:FuncData} {ps:List Str} (F:Fun K x qual st f fd)
    (h:∀ (kV doc pm:Value) (an:Option Addr) (cdv ct:Value) (us:List Value),us.length=ps.length→bindArgs (PySem.W.fnOf x qual (defArgs st) (defBody st) (defScope st) .none kV doc pm an cdv ct) ⟨us,[]⟩=pure (ps.zip us)):Binds K fd ps []:=by
  obtain ⟨oc,od,kV,doc,pm,an,cdv,ct,osl,rfl,lk,hcd⟩:=F.ex
  exact .all (h kV doc pm an cdv ct)
theorem fun_mk {x qual:Str} {st:Stmt} {f:Addr} {oc:Value} {od an:Option Addr} {osl:Array (Option Value)} {kV doc pm cdv ct:Value} (l:K.lookup f=some ⟨oc,od,.func (PySem.W.fnOf x qual (defArgs st) (defBody st) (defScope st) .none kV doc pm an cdv ct),osl⟩)
    (c:PySem.W.codeIn K cdv qual=true) (k:PySem.W.keepIn K (.ref f)=true):Fun K x qual st f (PySem.W.fnOf x qual (defArgs st) (defBody st) (defScope st) .none kV doc pm an cdv ct):=⟨⟨oc,od,kV,doc,pm,an,cdv,ct,osl,rfl,l,c⟩,k⟩
end
theorem hu_of {A:Around} {k:Nat} (hr:Room k A):A.units + 1 < cLine:=Nat.lt_of_le_of_lt (Nat.add_le_add_left (by decide:1≤64) _) hr.units
section
variable {X:Cx}
theorem pv (i:Nat) {x:Str} {pos:Pos} (hN:X.N[i]?=some x:=by rfl) (hv:Vis X.env.scope x:=by first | exact Or.inl rfl | exact Or.inr (Or.inl rfl) | exact Or.inr (Or.inr rfl)) (hd:(x == ("__debug__":Str))=false:=by decide)
    (hcd:(x == ("__classdict__":Str))=false:=by decide):PE X (.Name x pos) (tVar i):=pe_var hN hv hd hcd
end
theorem iteF {A B:Prop} (h:B):if false=true then A else B:=by
  rw [if_neg Bool.false_ne_true]
  exact h
theorem iteT {A B:Prop} (h:A):if true=true then A else B:=by
  rw [if_pos rfl]
  exact h
def Same (H H':Hp):Prop:=∀ b o,H b=some o→H' b=some o
theorem Same.refl (H:Hp):Same H H:=fun _ _ h=>h
theorem Same.trans {H H1 H2:Hp} (a:Same H H1) (b:Same H1 H2):Same H H2:=fun c o h=>b c o (a c o h)
theorem Same.free {H H':Hp} (e:Same H H') {l:Addr} (h:H' l=Option.none):H l=Option.none:=by
  cases q:H l with
  | none=>rfl
  | some o =>
    rw [e l o q] at h
    cases h
theorem Same.seq {K:PySem.W.Frag} {H H':Hp} {a:Addr} {xs:List V} (e:Same H H') (h:SqL K H a xs):SqL K H' a xs:=by
  rcases h with (h | ⟨o,h⟩) | h
  · exact .inl (.inl (e _ _ h))
  · exact .inl (.inr ⟨o,e _ _ h⟩)
  · exact .inr h
theorem at_of {xs:List V} {z:Int} {j:Nat} {v:V} (e:z=(j:Int)) (h:xs[j]?=some v):atI xs z=some v:=by
  rw [e]
  exact atI_nat h
theorem nd_ix {α:Type} {l:List α} (hN:l.Nodup) {i j:Nat} {x:α} (a:l[i]?=some x) (b:l[j]?=some x):i=j:=by
  obtain ⟨h1,e1⟩:=List.getElem?_eq_some_iff.mp a
  obtain ⟨h2,e2⟩:=List.getElem?_eq_some_iff.mp b
  exact (List.getElem_inj hN).mp (e1.trans e2.symm)
theorem Same.made {H H1:Hp} {x dx C:Addr} (nx:H x=Option.none) (nd:H dx=Option.none) (k:∀ b o,(upd (upd H dx (.own x)) x (.ins C dx [])) b=some o→b≠x→H1 b=some o):Same H H1:=fun b o e =>
  k b o (by rw [upd_ne (ne_of_none e nx),upd_ne (ne_of_none e nd)];exact e) (ne_of_none e nx)
end L2
section
namespace L2
open PySem PySem.Spec PyProof.Rows
open PySem.W (WData Codec OpenSpec Well WellAll ReadsW ReadsAllW)
mutual
inductive Dw (K:PySem.W.Frag) (H:Hp):V→WData→Prop
  | non:Dw K H .non .none
  | bl (b:Bool):Dw K H (.bl b) (.bool b)
  | int (i:Int):Dw K H (.int i) (.int i)
  | str (x:Str):Dw K H (.str x) (.str x)
  | byt (b:Array UInt8):Dw K H (.byt b) (.bytes b.toList)
  | lst {a:Addr} {xs:List V} {ds:List WData}:SqL K H a xs→DwAll K H xs ds→Dw K H (.ref a) (.list ds)
  | tup {a:Addr} {xs:List V} {ds:List WData}:SqT K H a xs→DwAll K H xs ds→Dw K H (.ref a) (.tuple ds)
inductive DwAll (K:PySem.W.Frag) (H:Hp):List V→List WData→Prop
  | nil:DwAll K H [] []
  | cons {v:V} {vs:List V} {d:WData} {ds:List WData}:Dw K H v d→DwAll K H vs ds→DwAll K H (v :: vs) (d :: ds)
end
theorem dw_ints {K:PySem.W.Frag} {H:Hp}:∀ ns:List Int,DwAll K H (ns.map V.int) (ns.map WData.int)
  | []=>.nil
  | n :: r=>.cons (.int n) (dw_ints r)
theorem ints_dw {K:PySem.W.Frag} {H:Hp}:∀ (ns:List Int) (xs:List V),DwAll K H xs (ns.map WData.int)→xs=ns.map V.int
  | [],xs,h=>by
    cases h
    rfl
  | n :: r,xs,h=>by
    cases h with
    | cons h1 h2 =>
      cases h1
      rw [ints_dw r _ h2] <;> rfl
section
variable {P:Program} {w:World} {K:PySem.W.Frag} {H:Hp} {h:Heap} {R:PySem.W.WRecords} {cl:Str→Option Addr}
theorem sqL_at {a:Addr} {xs:List V} (hok:HOk P w H h) (KX:K.In h) (q:SqL K H a xs):∃ (its:List Value) (o:Obj) (n:Nat),Vals xs its∧h.get? a=some o∧o.cls=.type "list"∧o.data=.seq its.toArray n:=by
  rcases q with q | ⟨o,its,n,e,hc,_,hd,_,hv⟩
  · obtain ⟨_,its,n,hv,e⟩:=(show ObjOk P w H h a (.lst xs) from q.ok hok)
    exact ⟨its,_,n,hv,e,rfl,rfl⟩
  · exact ⟨its.toList,o,n,hv,KX _ _ e,hc,by simp [hd]⟩
theorem sqT_at {a:Addr} {xs:List V} (hok:HOk P w H h) (KX:K.In h) (q:SqT K H a xs):∃ (its:List Value) (o:Obj) (n:Nat),Vals xs its∧h.get? a=some o∧o.cls=.type "tuple"∧o.data=.seq its.toArray n:=by
  rcases q with q | ⟨o,its,n,e,hc,hd,_,hv⟩
  · obtain ⟨_,its,hv,o,e,hc,n,hd⟩:=(show ObjOk P w H h a (.tup xs) from q.ok hok)
    exact ⟨its,o,n,hv,e,hc,hd⟩
  · exact ⟨its.toList,o,n,hv,KX _ _ e,hc,by simp [hd]⟩
mutual
theorem Dw.reads (hok:HOk P w H h) (KX:K.In h):∀ (d:WData) (v:V) (u:Value),Dw K H v d→RelV v u→∃ as,ReadsW R cl h u d as
  | .none,_,_,x,r=>by
    cases x
    cases r
    exact ⟨_,ReadsW.none⟩
  | .bool b,_,_,x,r=>by
    cases x
    cases r
    exact ⟨_,ReadsW.bool b⟩
  | .int i,_,_,x,r=>by
    cases x
    obtain ⟨t,rfl⟩:=r
    exact ⟨_,ReadsW.int i t⟩
  | .str s,_,_,x,r=>by
    cases x
    obtain ⟨t,rfl⟩:=r
    exact ⟨_,ReadsW.str s t⟩
  | .bytes b,_,_,x,r=>by
    cases x
    obtain ⟨t,rfl⟩:=r
    exact ⟨_,ReadsW.bytes _ t⟩
  | .list ds,_,_,x,r=>by
    cases x with
    | lst hs ha =>
      cases r
      obtain ⟨its,o,n,rv,ho,hc,hd⟩:=sqL_at hok KX hs
      obtain ⟨as,hr⟩:=Dw.readsAll hok KX ds _ its ha rv
      exact ⟨_,ReadsW.list ho hc hd hr⟩
  | .tuple ds,_,_,x,r=>by
    cases x with
    | tup hs ha =>
      cases r
      obtain ⟨its,o,n,rv,ho,hc,hd⟩:=sqT_at hok KX hs
      obtain ⟨as,hr⟩:=Dw.readsAll hok KX ds _ its ha rv
      exact ⟨_,ReadsW.tuple ho hc hd hr⟩
  | .float _,_,_,x,_=>by cases x
  | .dict _,_,_,x,_=>by cases x
  | .bytearray _,_,_,x,_=>by cases x
  | .set _,_,_,x,_=>by cases x
  | .frozenset _,_,_,x,_=>by cases x
  | .obj _ _,_,_,x,_=>by cases x
theorem Dw.readsAll (hok:HOk P w H h) (KX:K.In h):∀ (ds:List WData) (vs:List V) (us:List Value),DwAll K H vs ds→Vals vs us→∃ as,ReadsAllW R cl h us ds as
  | [],_,_,x,r=>by
    cases x
    cases r
    exact ⟨_,ReadsAllW.nil⟩
  | d :: ds,_,_,x,r=>by
    cases x with
    | cons h1 h2 =>
      cases r with
      | cons r1 r2 =>
        obtain ⟨as,q1⟩:=Dw.reads hok KX d _ _ h1 r1
        obtain ⟨bs,q2⟩:=Dw.readsAll hok KX ds _ _ h2 r2
        exact ⟨_,ReadsAllW.cons q1 q2⟩
end
end
mutual
def plW:WData→Bool
  | .none=>true
  | .bool _=>true
  | .int _=>true
  | .str _=>true
  | .bytes _=>true
  | .list xs=>plWs xs
  | .tuple xs=>plWs xs
  | _=>false
def plWs:List WData→Bool
  | []=>true
  | x :: r=>plW x && plWs r
end
theorem plWs_map {α:Type} {f:α→WData} (h:∀ a,plW (f a)=true):∀ l:List α,plWs (l.map f)=true
  | []=>rfl
  | x :: r=>by
    show (plW (f x) && plWs (r.map f))=true
    rw [h x,plWs_map h r] <;> rfl
theorem pl_enc:∀ (c:Codec) (a:c.denote),plW (c.enc a)=true
  | .unit,_=>rfl
  | .bool,_=>rfl
  | .int _ _,_=>rfl
  | .nat _ _,_=>rfl
  | .u8,_=>rfl
  | .bytes _ _,_=>rfl
  | .text _ _ _ _,_=>rfl
  | .list _ _ c,a=>plWs_map (fun x=>pl_enc c x) a
  | .pair c d,a=>by
    show (plW (c.enc a.1) && (plW (d.enc a.2) && true))=true
    rw [pl_enc c a.1,pl_enc d a.2] <;> rfl
  | .triple c d e,a=>by
    show (plW (c.enc a.1) && (plW (d.enc a.2.1) && (plW (e.enc a.2.2) && true)))=true
    rw [pl_enc c a.1,pl_enc d a.2.1,pl_enc e a.2.2] <;> rfl
  | .option c,none=>rfl
  | .option c,some x=>pl_enc c x
theorem pl_encAll:∀ (cs:List Codec) (a:Codec.denoteAll cs),plWs (Codec.encAll cs a)=true
  | [],_=>rfl
  | c :: cs,a=>by
    show (plW (c.enc a.1) && plWs (Codec.encAll cs a.2))=true
    rw [pl_enc c a.1,pl_encAll cs a.2] <;> rfl
theorem weight_mem:∀ {xs:List WData} {d:WData},d∈xs→d.weight≤WData.weightAll xs
  | [],d,h=>absurd h (by simp)
  | x :: r,d,h=>by
    show d.weight≤x.weight + 1 + WData.weightAll r
    rcases List.mem_cons.mp h with e | m
    · rw [e]
      omega
    · have z:=weight_mem m
      omega
def toV:Value→V
  | .none=>.non
  | .bool b=>.bl b
  | .int i _=>.int i
  | .str x _=>.str x
  | .bytes b _=>.byt b
  | .ref a=>.ref a
  | _=>.non
def OkU (A:List Addr):Value→Prop
  | .none=>True
  | .bool _=>True
  | .int _ _=>True
  | .str _ _=>True
  | .bytes _ _=>True
  | .ref a=>a∈A
  | _=>False
theorem OkU.mono {A B:List Addr} (h:∀ a∈A,a∈B):∀ {u:Value},OkU A u→OkU B u:=fun {u} x=>by
  cases u with
  | ref a=>exact h a x
  | none=>trivial
  | bool b=>trivial
  | int i t=>trivial
  | str s t=>trivial
  | bytes b t=>trivial
  | _=>exact False.elim x
theorem relV_toV {A:List Addr} {u:Value} (x:OkU A u):RelV (toV u) u:=by
  cases u with
  | ref a=>rfl
  | none=>rfl
  | bool b=>rfl
  | int i t=>exact ⟨t,rfl⟩
  | str s t=>exact ⟨t,rfl⟩
  | bytes b t=>exact ⟨t,rfl⟩
  | _=>exact False.elim x
theorem vals_toV {A:List Addr}:∀ {vs:List Value},(∀ u∈vs,OkU A u)→Vals (vs.map toV) vs
  | [],_=>.nil
  | u :: r,h=>.cons (relV_toV (h u (List.mem_cons_self ..))) (vals_toV fun x hx=>h x (List.mem_cons_of_mem _ hx))
def ArgOb (h:Heap) (A:List Addr) (a:Addr):Prop:=∃ vs:List Value,vs.length≤sizeLine∧(∀ u∈vs,OkU A u) ∧
  (h.get? a=some { cls:=.type "list",data:=.seq vs.toArray }∨h.get? a=some { cls:=.type "tuple",data:=.seq vs.toArray })
theorem ArgOb.mono {h:Heap} {A B:List Addr} {a:Addr} (k:∀ a∈A,a∈B) (x:ArgOb h A a):ArgOb h B a:=by
  obtain ⟨vs,h1,h2,h3⟩:=x
  exact ⟨vs,h1,fun u hu=>(h2 u hu).mono k,h3⟩
theorem wellAll_len {P:Params} {h:Heap}:∀ {vs:List Value} {ds:List WData},WellAll P h vs ds→vs.length=ds.length
  | _,_,.nil=>rfl
  | _,_,.cons _ b=>by
    show _ + 1=_ + 1
    rw [wellAll_len b]
theorem well_list {P:Params} {h:Heap} {v:Value} {ds:List WData} (x:Well P h v (.list ds)):∃ (a:Addr) (vs:List Value),v=.ref a∧h.get? a=some { cls:=.type "list",data:=.seq vs.toArray }∧WellAll P h vs ds:=by
  cases x with
  | list ho hall=>exact ⟨_,_,rfl,ho,hall⟩
theorem well_tuple {P:Params} {h:Heap} {v:Value} {ds:List WData} (x:Well P h v (.tuple ds)):∃ (a:Addr) (vs:List Value),v=.ref a∧h.get? a=some { cls:=.type "tuple",data:=.seq vs.toArray }∧WellAll P h vs ds:=by
  cases x with
  | tuple ho hall=>exact ⟨_,_,rfl,ho,hall⟩
theorem well_cons {P:Params} {h:Heap} {us:List Value} {d:WData} {ds:List WData} (x:WellAll P h us (d :: ds)):∃ (v:Value) (vs:List Value),us=v :: vs∧Well P h v d∧WellAll P h vs ds:=by
  cases x with
  | cons a b=>exact ⟨_,_,rfl,a,b⟩
theorem line_of {n:Nat} (h:n≤1048576):n≤sizeLine:=Nat.le_trans h (by decide)
section
variable {P:Params} {h:Heap}
mutual
theorem area_one:∀ (d:WData) (v:Value),Well P h v d→plW d=true→d.weight≤1048576→∃ A:List Addr,OkU A v∧∀ a∈A,ArgOb h A a
  | .none,_,x,_,_=>by
    cases x
    exact ⟨[],trivial,fun a m=>absurd m (by simp)⟩
  | .bool b,_,x,_,_=>by
    cases x
    exact ⟨[],trivial,fun a m=>absurd m (by simp)⟩
  | .int i,_,x,_,_=>by
    cases x
    exact ⟨[],trivial,fun a m=>absurd m (by simp)⟩
  | .str s,_,x,_,_=>by
    cases x
    exact ⟨[],trivial,fun a m=>absurd m (by simp)⟩
  | .bytes b,_,x,_,_=>by
    cases x
    exact ⟨[],trivial,fun a m=>absurd m (by simp)⟩
  | .list ds,_,x,p,z=>by
    obtain ⟨a,vs,rfl,ho,hall⟩:=well_list x
    have z2:WData.weightAll ds≤1048576:=z
    obtain ⟨A,h1,h2⟩:=area_all ds _ hall p fun d hd=>Nat.le_trans (weight_mem hd) z2
    have k:∀ b∈A,b∈a :: A:=fun b hb=>List.mem_cons_of_mem _ hb
    refine ⟨a :: A,List.mem_cons_self ..,fun b hb=>?_⟩
    rcases List.mem_cons.mp hb with e | m
    · rw [e]
      exact ⟨vs,line_of (by rw [wellAll_len hall];exact Nat.le_trans (PySem.W.length_le_weightAllW ds) z2),fun u hu=>(h1 u hu).mono k,.inl ho⟩
    · exact (h2 b m).mono k
  | .tuple ds,_,x,p,z=>by
    obtain ⟨a,vs,rfl,ho,hall⟩:=well_tuple x
    have z2:WData.weightAll ds≤1048576:=z
    obtain ⟨A,h1,h2⟩:=area_all ds _ hall p fun d hd=>Nat.le_trans (weight_mem hd) z2
    have k:∀ b∈A,b∈a :: A:=fun b hb=>List.mem_cons_of_mem _ hb
    refine ⟨a :: A,List.mem_cons_self ..,fun b hb=>?_⟩
    rcases List.mem_cons.mp hb with e | m
    · rw [e]
      exact ⟨vs,line_of (by rw [wellAll_len hall];exact Nat.le_trans (PySem.W.length_le_weightAllW ds) z2),fun u hu=>(h1 u hu).mono k,.inr ho⟩
    · exact (h2 b m).mono k
  | .float _,_,_,p,_=>Bool.noConfusion (show false=true from p)
  | .dict _,_,_,p,_=>Bool.noConfusion (show false=true from p)
  | .bytearray _,_,_,p,_=>Bool.noConfusion (show false=true from p)
  | .set _,_,_,p,_=>Bool.noConfusion (show false=true from p)
  | .frozenset _,_,_,p,_=>Bool.noConfusion (show false=true from p)
  | .obj _ _,_,_,p,_=>Bool.noConfusion (show false=true from p)
theorem area_all:∀ (ds:List WData) (vs:List Value),WellAll P h vs ds→plWs ds=true→(∀ d∈ds,d.weight≤1048576)→∃ A:List Addr,(∀ u∈vs,OkU A u)∧∀ a∈A,ArgOb h A a
  | [],_,x,_,_=>by
    cases x
    exact ⟨[],fun u m=>absurd m (by simp),fun a m=>absurd m (by simp)⟩
  | d :: ds,_,x,p,z=>by
    obtain ⟨v,vs,rfl,x1,x2⟩:=well_cons x
    have q:plW d=true∧plWs ds=true:=Bool.and_eq_true_iff.mp p
    obtain ⟨A,a1,a2⟩:=area_one d v x1 q.1 (z d (List.mem_cons_self ..))
    obtain ⟨B,b1,b2⟩:=area_all ds vs x2 q.2 fun e he=>z e (List.mem_cons_of_mem _ he)
    have kA:∀ b∈A,b∈A++B:=fun b hb=>List.mem_append.mpr (.inl hb)
    have kB:∀ b∈B,b∈A++B:=fun b hb=>List.mem_append.mpr (.inr hb)
    refine ⟨A++B,fun u hu=>?_,fun b hb=>?_⟩
    · rcases List.mem_cons.mp hu with e | m
      · rw [e]
        exact a1.mono kA
      · exact (b1 u m).mono kB
    · rcases List.mem_append.mp hb with m | m
      · exact (a2 b m).mono kA
      · exact (b2 b m).mono kB
end
end
def hoOf (o:Obj):Option HO:=match o.data with
  | .seq vs _=>if (o.cls == Value.type "list")=true then some (.frz o (.lst (vs.toList.map toV))) else some (.frz o (.tup (vs.toList.map toV)))
  | _=>none
def argH (K:PySem.W.Frag) (h:Heap) (A:List Addr):Hp:=fun b=>if b∈A then (if (K.lookup b).isNone=true then (h.get? b).bind hoOf else none) else none
def OnlyF (H:Hp):Prop:=∀ b,H b=none∨∃ o u,H b=some (.frz o u)
theorem hoOf_lst (vs:List Value):hoOf { cls:=.type "list",data:=.seq vs.toArray }=some (.frz { cls:=.type "list",data:=.seq vs.toArray } (.lst (vs.map toV))):=by
  show (if (Value.type "list" == Value.type "list")=true then some (HO.frz { cls:=.type "list",data:=.seq vs.toArray } (.lst (vs.toArray.toList.map toV))) else some (HO.frz { cls:=.type "list",data:=.seq vs.toArray } (.tup (vs.toArray.toList.map toV))))=_
  rw [if_pos (beq_self_eq_true _)]
theorem hoOf_tup (vs:List Value):hoOf { cls:=.type "tuple",data:=.seq vs.toArray }=some (.frz { cls:=.type "tuple",data:=.seq vs.toArray } (.tup (vs.map toV))):=by
  show (if (Value.type "tuple" == Value.type "list")=true then some (HO.frz { cls:=.type "tuple",data:=.seq vs.toArray } (.lst (vs.toArray.toList.map toV))) else some (HO.frz { cls:=.type "tuple",data:=.seq vs.toArray } (.tup (vs.toArray.toList.map toV))))=_
  rw [if_neg (by decide)]
section
variable {P:Program} {w:World} {K:PySem.W.Frag} {h:Heap} {A:List Addr}
theorem argH_at {b:Addr} {o:Obj} (hb:b∈A) (hk:K.lookup b=none) (e:h.get? b=some o):argH K h A b=hoOf o:=by
  unfold argH
  rw [if_pos hb,hk,if_pos (show (none:Option Obj).isNone=true from rfl),e] <;> rfl
theorem of_argH {b:Addr} {u:HO} (q:argH K h A b=some u):b∈A∧K.lookup b=none:=by
  unfold argH at q
  by_cases hb:b∈A
  · rw [if_pos hb] at q
    cases hk:K.lookup b with
    | none=>exact ⟨hb,rfl⟩
    | some o =>
      rw [hk,if_neg (by simp)] at q
      cases q
  · rw [if_neg hb] at q
    cases q
theorem argH_is (ar:∀ a∈A,ArgOb h A a) {b:Addr} {u:HO} (q:argH K h A b=some u):K.lookup b=none∧∃ vs:List Value,vs.length≤sizeLine∧(∀ u∈vs,OkU A u) ∧
    ((h.get? b=some { cls:=.type "list",data:=.seq vs.toArray }∧u=.frz { cls:=.type "list",data:=.seq vs.toArray } (.lst (vs.map toV))) ∨
     (h.get? b=some { cls:=.type "tuple",data:=.seq vs.toArray }∧u=.frz { cls:=.type "tuple",data:=.seq vs.toArray } (.tup (vs.map toV)))):=by
  obtain ⟨hb,hk⟩:=of_argH q
  obtain ⟨vs,h1,h2,h3⟩:=ar b hb
  refine ⟨hk,vs,h1,h2,?_⟩
  rcases h3 with e | e
  · rw [argH_at hb hk e,hoOf_lst] at q
    exact .inl ⟨e,(Option.some.inj q).symm⟩
  · rw [argH_at hb hk e,hoOf_tup] at q
    exact .inr ⟨e,(Option.some.inj q).symm⟩
theorem argH_only (ar:∀ a∈A,ArgOb h A a):OnlyF (argH K h A):=fun b=>by
  cases q:argH K h A b with
  | none=>exact .inl rfl
  | some u =>
    obtain ⟨_,vs,_,_,⟨_,e⟩ | ⟨_,e⟩⟩:=argH_is ar q
    · exact .inr ⟨_,_,by rw [e]⟩
    · exact .inr ⟨_,_,by rw [e]⟩
theorem argH_ok (ar:∀ a∈A,ArgOb h A a):HOk P w (argH K h A) h:=fun b u q=>by
  obtain ⟨_,vs,h1,h2,⟨e,rfl⟩ | ⟨e,rfl⟩⟩:=argH_is ar q
  · exact ⟨e,by rw [List.length_map];exact h1,vs,_,vals_toV h2,e⟩
  · exact ⟨e,by rw [List.length_map];exact h1,vs,vals_toV h2,_,e,rfl,_,rfl⟩
theorem seq_inj {c c':Value} {vs us:List Value} (e:(some { cls:=c,data:=.seq vs.toArray }:Option Obj)=some { cls:=c',data:=.seq us.toArray }):c=c'∧vs=us:=by
  have e1:=Option.some.inj e
  have e2:c=c':=congrArg Obj.cls e1
  have e3:Data.seq vs.toArray=Data.seq us.toArray:=congrArg Obj.data e1
  injection e3 with e4
  refine ⟨e2,?_⟩
  have e5:=congrArg Array.toList e4
  simpa using e5
theorem argL (KX:K.In h) (ar:∀ a∈A,ArgOb h A a) {a:Addr} {vs:List Value} (ha:a∈A) (e:h.get? a=some { cls:=.type "list",data:=.seq vs.toArray }):(∀ u∈vs,OkU A u)∧SqL K (argH K h A) a (vs.map toV):=by
  obtain ⟨us,h1,h2,h3⟩:=ar a ha
  have hu:us=vs:=by
    rcases h3 with q | q
    · rw [e] at q
      exact (seq_inj q).2.symm
    · rw [e] at q
      exact absurd (Value.type.inj (seq_inj q).1) (by decide)
  subst hu
  refine ⟨h2,?_⟩
  cases hk:K.lookup a with
  | none=>exact .inl (.inr ⟨_,by rw [argH_at ha hk e,hoOf_lst]⟩)
  | some o =>
    have e2:=KX a o hk
    rw [e] at e2
    obtain rfl:=Option.some.inj e2
    exact .inr ⟨_,us.toArray,_,hk,rfl,rfl,rfl,by rw [List.size_toArray];exact h1,by simpa using vals_toV h2⟩
theorem argT (KX:K.In h) (ar:∀ a∈A,ArgOb h A a) {a:Addr} {vs:List Value} (ha:a∈A) (e:h.get? a=some { cls:=.type "tuple",data:=.seq vs.toArray }):(∀ u∈vs,OkU A u)∧SqT K (argH K h A) a (vs.map toV):=by
  obtain ⟨us,h1,h2,h3⟩:=ar a ha
  have hu:us=vs:=by
    rcases h3 with q | q
    · rw [e] at q
      exact absurd (Value.type.inj (seq_inj q).1) (by decide)
    · rw [e] at q
      exact (seq_inj q).2.symm
  subst hu
  refine ⟨h2,?_⟩
  cases hk:K.lookup a with
  | none=>exact .inl (.inr ⟨_,by rw [argH_at ha hk e,hoOf_tup]⟩)
  | some o =>
    have e2:=KX a o hk
    rw [e] at e2
    obtain rfl:=Option.some.inj e2
    exact .inr ⟨_,us.toArray,_,hk,rfl,rfl,by rw [List.size_toArray];exact h1,by simpa using vals_toV h2⟩
mutual
theorem dw_one {Pm:Params} (KX:K.In h) (ar:∀ a∈A,ArgOb h A a):∀ (d:WData) (v:Value),Well Pm h v d→plW d=true→OkU A v→Dw K (argH K h A) (toV v) d
  | .none,_,x,_,_=>by
    cases x
    exact .non
  | .bool b,_,x,_,_=>by
    cases x
    exact .bl b
  | .int i,_,x,_,_=>by
    cases x
    exact .int i
  | .str s,_,x,_,_=>by
    cases x
    exact .str s
  | .bytes b,_,x,_,_=>by
    cases x
    have z:=Dw.byt (K:=K) (H:=argH K h A) b.toArray
    exact z
  | .list ds,_,x,p,hu=>by
    obtain ⟨a,vs,rfl,ho,hall⟩:=well_list x
    obtain ⟨h2,hs⟩:=argL KX ar hu ho
    exact .lst hs (dw_all KX ar ds _ hall p h2)
  | .tuple ds,_,x,p,hu=>by
    obtain ⟨a,vs,rfl,ho,hall⟩:=well_tuple x
    obtain ⟨h2,hs⟩:=argT KX ar hu ho
    exact .tup hs (dw_all KX ar ds _ hall p h2)
  | .float _,_,_,p,_=>Bool.noConfusion (show false=true from p)
  | .dict _,_,_,p,_=>Bool.noConfusion (show false=true from p)
  | .bytearray _,_,_,p,_=>Bool.noConfusion (show false=true from p)
  | .set _,_,_,p,_=>Bool.noConfusion (show false=true from p)
  | .frozenset _,_,_,p,_=>Bool.noConfusion (show false=true from p)
  | .obj _ _,_,_,p,_=>Bool.noConfusion (show false=true from p)
theorem dw_all {Pm:Params} (KX:K.In h) (ar:∀ a∈A,ArgOb h A a):∀ (ds:List WData) (vs:List Value),WellAll Pm h vs ds→plWs ds=true→(∀ u∈vs,OkU A u)→DwAll K (argH K h A) (vs.map toV) ds
  | [],_,x,_,_=>by
    cases x
    exact .nil
  | d :: ds,_,x,p,hu=>by
    obtain ⟨v,vs,rfl,x1,x2⟩:=well_cons x
    have q:plW d=true∧plWs ds=true:=Bool.and_eq_true_iff.mp p
    exact .cons (dw_one KX ar d v x1 q.1 (hu _ (List.mem_cons_self ..))) (dw_all KX ar ds vs x2 q.2 fun u m=>hu u (List.mem_cons_of_mem _ m))
end
end
theorem spec_call {P:Program} {w:World} {K:PySem.W.Frag} {mg mb:Str→Option Value} {CX:CXT} {k:Nat} {fa:Addr} {fd:FuncData} {ps:List Str} {sp:Sp} {s₁:Shared} {vals:List Value} {ds:List WData} {R:PySem.W.WRecords} {cl:Str→Option Addr} {d0:WData}
    (KX:K.In s₁.heap) (hns:s₁.heap.Ns mainGlobals mg) (hb:s₁.heap.Ns builtinsNs mb) (hbb:∀ x:Str,x≠"__name__"→mb x=bootBuiltins x) (hlim:s₁.heap.NoLimit) (hg:s₁.gens=#[])
    (hwl:WellAll w.params s₁.heap vals ds) (hpl:plWs ds=true) (hwt:∀ d∈ds,d.weight≤1048576) (hr:Room k callerA)
    (F:∀ base:Heap,K.In base→base.Ns mainGlobals mg→FnOk P w K mg base CX k fa fd ps sp) (hbind:∀ (s:Shared) (us:List Value),us.length=ps.length→BindsTo s fd ⟨us,[]⟩ (ps.zip us)) (hlen:ds.length=ps.length)
    (hsp:∀ (H:Hp) (xs:List V),OnlyF H→DwAll K H xs ds→sp xs H (fun v H'=>Dw K H' v d0) fun _ _ _=>False)
    (hCX:∀ H e s',CX [] H s₁ (fun _ _ _=>False) e s'→False) :
    codeAny (model P w) callerA (.call (.ref fa) ⟨vals,[]⟩) (fun r s'=>∃ u as,r=.ok (.ret u)∧ReadsW R cl s'.heap u d0 as∧OldK s₁.heap s'.heap∧s'.os=s₁.os∧AllBare s'.gens) s₁:=by
  obtain ⟨A,ho,ar⟩:=area_all ds vals hwl hpl hwt
  have hO:OnlyF (argH K s₁.heap A):=argH_only ar
  have hok:HOk P w (argH K s₁.heap A) s₁.heap:=argH_ok ar
  have hS:=dw_all KX ar ds vals hwl hpl ho
  have hV:=vals_toV ho
  have hK:∀ b u,argH K s₁.heap A b=some u→K.lookup b=none:=fun b u q=>(argH_is ar q).1
  have noA:∀ {b:Addr} {o:Obj} {es:Array DictEntry} {ep:Nat},s₁.heap.get? b=some o→o.data=.dict es ep→argH K s₁.heap A b=none:=fun {b o es ep} e d=>by
    cases q:argH K s₁.heap A b with
    | none=>rfl
    | some u =>
      obtain ⟨_,vs,_,_,⟨e2,_⟩ | ⟨e2,_⟩⟩:=argH_is ar q
      · rw [e2] at e
        cases e
        have d':Data.seq vs.toArray _=Data.dict es ep:=d
        cases d'
      · rw [e2] at e
        cases e
        have d':Data.seq vs.toArray _=Data.dict es ep:=d
        cases d'
  generalize argH K s₁.heap A=H at hO hok hS hK noA
  have base_of:∀ {b:Addr} {o:Obj},s₁.heap.get? b=some o→H b=none→(hidT s₁.heap H).get? b=some o:=fun e n=>hidT_get e n
  have nsK:∀ {b:Addr} {m:Str→Option Value},s₁.heap.Ns b m→(hidT s₁.heap H).Ns b m:=fun {b m} ⟨o,es,ep,e,d,r⟩=>⟨o,es,ep,base_of e (noA e d),d,r⟩
  have nK:∀ b o,K.lookup b=some o→H b=none:=fun b o e=>by
    cases q:H b with
    | none=>rfl
    | some u =>
      rw [hK b u q] at e
      cases e
  have hKb:K.In (hidT s₁.heap H):=fun b o e=>base_of (KX b o e) (nK b o e)
  have hM:Mod K mg (hidT s₁.heap H):=⟨hKb,nsK hns,⟨mb,nsK hb,hbb⟩,let ⟨mc,h1,h2⟩:=hlim;⟨mc,nsK h1,h2⟩⟩
  have e0:Env0 P w K mg (hidT s₁.heap H) callerA [] s₁ H:=⟨rfl,hM,fun b o e=>of_hidT e,Nat.le_of_eq (hidT_size _ _),trivial,fun b hb=>absurd (show b∈([]:List Addr) from hb) (by simp),hok,.of_eq hg⟩
  have hl:vals.length=ps.length:=by rw [wellAll_len hwl];exact hlen
  refine codeAny_mono ((F _ hKb (nsK hns)).run callerA [] s₁ H ⟨vals,[]⟩ vals (vals.map toV) _ _ hr e0 (hbind s₁ vals hl) hV (hsp H _ hO hS)) fun r s' x=>?_
  cases r with
  | error e=>exact (hCX H e s' x).elim
  | ok fl =>
    cases fl with
    | next=>exact False.elim x
    | brk=>exact False.elim x
    | cont=>exact False.elim x
    | ret u =>
      obtain ⟨v,H',os,bare,un,hok',r',q⟩:=x
      have kept:∀ b o,s₁.heap.get? b=some o→s'.heap.get? b=some o:=fun b o e=>by
        cases q2:H b with
        | none=>exact un.keep b o e q2 (by intro z;exact absurd (show b∈([]:List Addr) from z) (by simp)) (by simp)
        | some u2 =>
          rcases hO b with z | ⟨ob,u3,z⟩
          · rw [q2] at z
            cases z
          · have z2:=un.frzs b ob _ z
            obtain ⟨e1,_⟩:=hok b _ z
            obtain ⟨e2,_⟩:=hok' b _ z2
            rw [e] at e1
            cases e1
            exact e2
      have KX':K.In s'.heap:=fun b o e=>kept b o (KX b o e)
      obtain ⟨as,hrd⟩:=Dw.reads (R:=R) (cl:=cl) hok' KX' d0 v u q r'
      exact ⟨u,as,rfl,hrd,OldK.of_keep kept,os,bare⟩
theorem layable_weight {ds:List WData} (h:WData.layableAll ds=true):∀ d∈ds,d.weight≤1048576:=fun d hd =>
  (PySem.W.layableW_iff.mp (List.all_eq_true.mp h d hd)).2.2
theorem encAll_len:∀ (cs:List Codec) (a:Codec.denoteAll cs),(Codec.encAll cs a).length=cs.length
  | [],_=>rfl
  | c :: cs,a=>by
    show (Codec.encAll cs a.2).length + 1=cs.length + 1
    rw [encAll_len cs a.2]
theorem walk_spec {r:OpenSpec} {k:Nat} {q:Program} {loose:List Str} {XP:(Str→Option Value)→Heap→Prop} {YP:World→Heap→Prop} {d:DefRec} {K:Params→PySem.W.Frag} {CX:World→CXT} {ps:List Str} {sp:World→Sp}
    (hwell:r.wellSaid=true) (hdf:d.params.defaults=[]) (hlen:r.args.length=ps.length) (hr:Room k callerA)
    (hY:∀ (w:World) (h:Heap),YP w h→(K w.params).In h)
    (F:∀ (w:World) (mg:Str→Option Value) (fa:Addr) (h:Heap),YP w h→(K w.params).In h→h.Ns mainGlobals mg→mg d.name=some (.ref fa) →
      ∃ fd:FuncData,(∀ (s:Shared) (us:List Value),us.length=ps.length→BindsTo s fd ⟨us,[]⟩ (ps.zip us)) ∧
        ∀ base:Heap,(K w.params).In base→base.Ns mainGlobals mg→FnOk r.prog w (K w.params) mg base (CX w) k fa fd ps (sp w))
    (hsp:∀ (w:World) (H:Hp) (xs:List V) (a:Codec.denoteAll r.args),OnlyF H→Codec.withinAll r.args a=true→Codec.app r.args r.asked a=true→DwAll (K w.params) H xs (Codec.encAll r.args a) →
      sp w xs H (fun v H'=>Dw (K w.params) H' v (r.ret.enc (Codec.app r.args r.f a))) fun _ _ _=>False)
    (hCX:∀ (w:World) (H:Hp) (s:Shared) (e:Value) (s':Shared),CX w [] H s (fun _ _ _=>False) e s'→False) :
    PySem.W.WalkOS q loose XP YP r d [] (fun f vs=>PySem.call f vs):=by
  intro w s_0 s₁ mg mb G Y fa o pm cd doc dV kV ho hd hcd hD hmg hg args vals as hpre hlay hrd hwl hlo
  obtain ⟨a,e1,e2⟩:=PySem.W.os_pre_some hpre
  obtain ⟨e3,hwi⟩:=Codec.encAll_of_decAll r.args args a e1
  subst e3
  have KX:=hY w _ Y
  obtain ⟨fd,hb,hF⟩:=F w mg fa _ Y KX G.T.g hmg
  refine PySem.W.enter_call (codeAny_mono (spec_call (R:=[]) (cl:=classAt s_0.heap) (d0:=r.ret.enc (Codec.app r.args r.f a)) KX G.T.g G.T.b G.T.builtins G.T.nolimit hg hwl (pl_encAll _ _) (layable_weight hlay) hr hF hb (by rw [encAll_len];exact hlen)
    (fun H xs hO hS=>hsp w H xs a hO hwi e2 hS) fun H e s'=>hCX w H s₁ e s') fun r' s' hq=>?_)
  obtain ⟨u,as',rfl,h1,h2,h3,h4⟩:=hq
  exact ⟨.inl ⟨u,_,as',rfl,fun _=>rfl,h1,(OpenSpec.post_iff hwell hwi _ _).mpr rfl,fun z=>Bool.noConfusion (show false=true from z)⟩,h2,h3,h4⟩
theorem walk_specK {r:OpenSpec} {k:Nat} {q:Program} {loose:List Str} {XP:(Str→Option Value)→Heap→Prop} {YP:World→Heap→Prop} {d:DefRec} {K:Params→PySem.W.Frag} {CX:CXT} {ps:List Str} {sp:PySem.W.Frag→Sp}
    (hwell:r.wellSaid=true) (hdf:d.params.defaults=[]) (hlen:r.args.length=ps.length) (hr:Room k callerA)
    (hY:∀ (w:World) (h:Heap),YP w h→(K w.params).In h)
    (F:∀ (w:World) (mg:Str→Option Value) (fa:Addr) (h:Heap),YP w h→(K w.params).In h→h.Ns mainGlobals mg→mg d.name=some (.ref fa) →
      ∃ fd:FuncData,(∀ (s:Shared) (us:List Value),us.length=ps.length→BindsTo s fd ⟨us,[]⟩ (ps.zip us)) ∧
        ∀ base:Heap,(K w.params).In base→base.Ns mainGlobals mg→FnOk r.prog w (K w.params) mg base CX k fa fd ps (sp (K w.params)))
    (hsp:∀ (K:PySem.W.Frag) (H:Hp) (xs:List V) (a:Codec.denoteAll r.args),OnlyF H→Codec.withinAll r.args a=true→Codec.app r.args r.asked a=true→DwAll K H xs (Codec.encAll r.args a) →
      sp K xs H (fun v H'=>Dw K H' v (r.ret.enc (Codec.app r.args r.f a))) fun _ _ _=>False)
    (hCX:∀ (H:Hp) (s:Shared) (e:Value) (s':Shared),CX [] H s (fun _ _ _=>False) e s'→False) :
    PySem.W.WalkOS q loose XP YP r d [] (fun f vs=>PySem.call f vs) :=
  walk_spec (K:=K) (CX:=fun _=>CX) (sp:=fun w=>sp (K w.params)) hwell hdf hlen hr hY F (fun w H xs a h1 h2 h3 h4=>hsp (K w.params) H xs a h1 h2 h3 h4) fun _ H s e s'=>hCX H s e s'
end L2
end
end
section
namespace L2
open PySem PySem.Spec PyProof.Rows
section
variable {X:Cx}
def dd (ns:List Int):List Int:=firstMet (fun i=>ns.getD i 0) ns.length
def rSetOf (K:PySem.W.Frag):List V→Hp→VK→Prop:=fun xs H Q=>∃ a ns,xs=[V.ref a]∧SqL K H a (ns.map V.int)∧ns.length < 4000 ∧
  ∀ p,H p=none→Q (.ref p) (upd H p (.set (fun k=>(dd ns).any (· == k)) (dd ns).length))
theorem call_setL (hc:X.calm=true):CallR X (.type "set") (rSetOf X.K):=by
  intro pins s σ H xs us Q I r h
  obtain ⟨a,ns,rfl,hq,hl,q⟩:=h
  have e:=Vals.ref1 r
  subst e
  obtain ⟨its,rv,pl,hz⟩:=I.list hq
  have hi:=Vals.ints rv
  have hlen:its.length=ns.length:=IntsAre.length hi
  refine PySem.call_set_list (items:=its.toArray) (ns:=ns) (I.ok.hd hc) pl.isList (by simpa using hi) (by rw [List.size_toArray,hlen];unfold scanBound;omega) fun h' tk hS hk=>?_
  have esz:its.toArray.size=ns.length:=by rw [List.size_toArray];exact hlen
  rw [esz] at hS
  have kk:∀ b u,s.heap.get? b=some u→h'.get? b=some u:=fun b u e=>hk b u (Heap.lt_size e) e
  exact ⟨.ref s.heap.objs.size,_,I.laid (o:=.set (fun k=>(dd ns).any (· == k)) (dd ns).length) kk (Nat.le_refl _) hS,rfl,q _ I.fresh⟩
theorem call_lenSet:CallR X (.builtin "len") (fun xs H Q=>∃ a S n,xs=[V.ref a]∧H a=some (.set S n)∧Q (.int n) H):=by
  intro pins s σ H xs us Q I r h
  obtain ⟨a,S,n,rfl,ha,q⟩:=h
  have e:=Vals.ref1 r
  subst e
  obtain ⟨o,es,ep,t,h1,h2,h3,h4,h5,h6,h7,h8⟩:=(show s.heap.SetOf (intKind X.prog X.w) a S n from I.hok a _ ha)
  subst h8
  exact PySem.call_len_set h1 h2 h3 h7 (by unfold scanBound at h6;omega) ⟨.int es.size,H,I.tok _,⟨_,rfl⟩,q⟩
def tCallL (X:Cx) (CX:CXT) (i:Nat) (E:XK) (t:TA):TE:=fun σ H Q=>∃ f fd ps sp k,σ[i]?=some (some (.ref f))∧FnOk X.prog X.w X.K X.mg X.base CX k f fd ps sp∧Room k X.A∧PySem.W.keepIn X.K (.ref f)=true∧Binds X.K fd ps [] ∧
  t σ H fun vs H1=>sp vs H1 Q E
theorem pe_callL {CX:CXT} {E:XK} {i:Nat} {x:Str} {p pos:Pos} {e:Expr} {es:List Expr} {t:TA} (hN:X.N[i]?=some x) (hv:Vis X.env.scope x) (hx:Passes CX X E) (ha:PA X (e :: es) t)
    (hd:(x == ("__debug__":Str))=false:=by decide) (hcd:(x == ("__classdict__":Str))=false:=by decide)
    (he:starEach (e :: es) X.env=(false,eval e X.env) :: starEach es X.env:=by rfl) (hpl:(backTo pos (starEach es X.env)).any (·.1)=false:=by rfl) :
    PE X (.Call (.Name x p) (e :: es) [] pos) (tCallL X CX i E t):=by
  intro pins s σ H Q I h
  obtain ⟨f,fd,ps,sp,k,hf,F,hr,hk,hb,q⟩:=h
  refine wpAny_Call_Name_kw (thn (pe_var (pos:=p) hN hv hd hcd pins s σ H (fun v H'=>v=.ref f∧H'=H) I ⟨_,hf,rfl,rfl⟩) fun u s1 ⟨v,H1,I1,rv,e1,e2⟩=>?_)
  subst e1
  subst e2
  obtain rfl:u=Value.ref f:=rv
  refine PySem.W.callWith_K (h₀:=X.base) I.ok.mod.kin hk (thn (ha pos pins s1 σ H1 _ I1 q) fun us s2 ⟨vs,H2,I2,r,q2⟩=>⟨I2.kIn,?_⟩) he hpl
  exact run_fn (dvs:=[]) (ds:=[]) F hr hb .nil hx I2 r (by rw [List.append_nil];exact q2)
open Classical in
noncomputable def inTs (K:PySem.W.Frag) (H:Hp) (ns:List Int) (u:Value):Bool:=decide (∃ a ms,u=.ref a∧SqT K H a (ms.map V.int)∧ms=ns)
theorem map_int_inj:∀ {a b:List Int},a.map V.int=b.map V.int→a=b
  | [],[],_=>rfl
  | x :: r,y :: t,h=>by
    simp only [List.map_cons,List.cons.injEq,V.int.injEq] at h
    rw [h.1,map_int_inj h.2]
  | [],_ :: _,h=>by simp at h
  | _ :: _,[],h=>by simp at h
theorem eqAt_tups {pins:List (Addr × Obj)} {σ:St} {H:Hp} {s:Shared} {A:Around} {a b:Addr} {ms ns:List Int} (I:Inv X pins σ H s) (ha:SqT X.K H a (ms.map V.int)) (hb:SqT X.K H b (ns.map V.int)) (hu:A.units < cLine):SeqAt.EqAt A s (.ref a) (.ref b) (decide (ms=ns)):=by
  by_cases e:a=b
  · subst e
    have:=map_int_inj (I.tuple_inj ha hb)
    subst this
    rw [decide_eq_true rfl]
    exact SeqAt.EqAt.same _
  · obtain ⟨i1,r1,p1,_⟩:=I.tuple ha
    obtain ⟨i2,r2,p2,_⟩:=I.tuple hb
    have h1:=Vals.ints r1
    have h2:=Vals.ints r2
    refine SeqAt.EqAt.of_refs e ?_
    have q:=SeqAt.RcAt.tuples (A:=A) (s:=s) (e:=fun j=>ms.getD j 0 == ns.getD j 0) p1 p2 hu fun j h3 h4=>by
      obtain ⟨t1,e1⟩:=IntsAre.int_at h1 j (i1.toArray[j]'h3) (by simp)
      obtain ⟨t2,e2⟩:=IntsAre.int_at h2 j (i2.toArray[j]'h4) (by simp)
      rw [e1,e2]
      exact SeqAt.EqAt.int_int _ _ _ _
    have e3:((List.range (min i1.toArray.size i2.toArray.size)).all (fun j=>ms.getD j 0 == ns.getD j 0) && i1.toArray.size == i2.toArray.size)=decide (ms=ns):=by
      have l1:=IntsAre.length h1
      have l2:=IntsAre.length h2
      rw [List.size_toArray,List.size_toArray,l1,l2]
      apply Bool.eq_iff_iff.mpr
      simp only [Bool.and_eq_true,List.all_eq_true,List.mem_range,beq_iff_eq,decide_eq_true_eq]
      constructor
      · rintro ⟨hj,hl⟩
        apply List.ext_getElem hl
        intro j h5 h6
        have:=hj j (by omega)
        rw [List.getD_eq_getElem?_getD,List.getD_eq_getElem?_getD,List.getElem?_eq_getElem h5,List.getElem?_eq_getElem h6] at this
        exact this
      · intro e;subst e;exact ⟨fun _ _=>rfl,rfl⟩
    rw [← e3]
    exact q
def rInT (K:PySem.W.Frag):R2:=fun x y H Q=>∃ (p t:Addr) (ps:List (Addr × List Int)) (ns:List Int),x=.ref t∧y=.ref p∧SqL K H p (ps.map fun q=>V.ref q.1)∧(∀ q∈ps,SqT K H q.1 (q.2.map V.int))∧SqT K H t (ns.map V.int) ∧
  Q (.bl (ps.any fun q=>decide (q.2=ns))) H
theorem any_refs {f:Value→Bool} {g:Addr × List Int→Bool}:∀ {ps:List (Addr × List Int)} {us:List Value},Vals (ps.map fun q=>V.ref q.1) us→(∀ q∈ps,f (.ref q.1)=g q)→us.any f=ps.any g
  | [],us,r,_=>by cases r;rfl
  | q :: ps,us,r,h=>by
    cases r with
    | cons r1 r2 =>
      rename_i u us'
      obtain rfl:u=Value.ref q.1:=r1
      rw [List.any_cons,List.any_cons,h q (List.mem_cons_self ..),any_refs r2 fun z hz=>h z (List.mem_cons_of_mem _ hz)]
theorem refs_mem:∀ {ps:List (Addr × List Int)} {us:List Value},Vals (ps.map fun q=>V.ref q.1) us→∀ u∈us,∃ q∈ps,u=.ref q.1
  | [],us,r,u,hu=>by cases r;cases hu
  | q :: ps,us,r,u,hu=>by
    cases r with
    | cons r1 r2 =>
      rcases List.mem_cons.mp hu with e | hu
      · exact ⟨q,List.mem_cons_self ..,by rw [e];exact r1⟩
      · obtain ⟨z,hz,e⟩:=refs_mem r2 u hu
        exact ⟨z,List.mem_cons_of_mem _ hz,e⟩
theorem op_in_tups (hu:X.A.units + 1 < cLine):OpR X (compareOp .In) (rInT X.K):=by
  intro pins s σ H x y v u Q I rx ry h
  obtain ⟨p,t,ps,ns,rfl,rfl,hl,hps,ht,q⟩:=h
  obtain rfl:u=Value.ref p:=ry
  obtain rfl:v=Value.ref t:=rx
  obtain ⟨its,r,pl,hz⟩:=I.list hl
  have key:∀ z∈ps,inTs X.K H ns (.ref z.1)=decide (z.2=ns):=fun z hz=>by
    unfold inTs
    apply Bool.eq_iff_iff.mpr
    simp only [decide_eq_true_eq]
    constructor
    · rintro ⟨a,ms,e,hm,e2⟩
      cases e
      rw [← e2]
      exact map_int_inj (I.tuple_inj (hps z hz) hm)
    · intro e
      exact ⟨_,_,rfl,hps z hz,e⟩
  refine SeqAt.in_listAt (inTs X.K H ns) pl.isList (fun w hw=>?_) ⟨.bl _,H,I,rfl,?_⟩
  · obtain ⟨z,hz,e⟩:=refs_mem r w (by simpa using hw)
    subst e
    rw [key z hz]
    exact eqAt_tups I (hps z hz) ht (by show X.A.in1.units < cLine;exact hu)
  · rw [show its.toArray.any (inTs X.K H ns)=its.any (inTs X.K H ns) by simp,any_refs r key]
    exact q
structure KDict (P:Program) (w:World) (K:PySem.W.Frag) (d:Addr) (kvs:List (Int × V)):Prop where
  ex:∃ o es ep vs,K.lookup d=some o∧o.ExactDict∧o.data=.dict es ep∧KeysOf (intKind P w) es∧Pairs (intKind P w) es.toList vs∧(vs.map (·.1)).Nodup∧KV kvs vs
theorem kdict_of {P:Program} {w:World} {K:PySem.W.Frag} {d:Addr} (ents:List (Int × Tok × Addr)) {ep:Nat}
    (lk:K.lookup d=some ⟨.type "dict",none,.dict (ents.map fun e=>(⟨hashInt e.1,.int e.1 e.2.1,.ref e.2.2⟩:DictEntry)).toArray ep,#[]⟩) (nd:(ents.map (·.1)).Nodup):KDict P w K d (ents.map fun e=>(e.1,V.ref e.2.2)):=by
  refine ⟨_,_,ep,ents.map fun e=>(e.1,Value.ref e.2.2),lk,⟨rfl,rfl,rfl⟩,rfl,fun e he=>?_,?_,?_,?_⟩
  · rw [List.mem_toArray] at he
    obtain ⟨x,hx,rfl⟩:=List.mem_map.mp he
    exact ⟨x.1,intKind_is P w x.1 x.2.1,rfl⟩
  · show Pairs (intKind P w) (ents.map fun e=>(⟨hashInt e.1,.int e.1 e.2.1,.ref e.2.2⟩:DictEntry)) _
    clear lk nd
    induction ents with
    | nil=>exact .nil
    | cons x l ih=>exact .cons (intKind_is P w x.1 x.2.1) rfl ih
  · rw [List.map_map]
    exact nd
  · clear lk nd
    induction ents with
    | nil=>exact .nil
    | cons x l ih=>exact .cons ⟨rfl,rfl⟩ ih
def rIxK (X:Cx):R2:=fun x y H Q=>∃ d i kvs v,x=.ref d∧y=.int i∧KDict X.prog X.w X.K d kvs∧valV kvs i=some v∧Q v H
theorem pe_kdict {o i:Expr} {pos:Pos} {td ty:TE} (ho:PE X o td) (hi:PE X i ty) (hs:NoSl i):PE X (.Subscript o i pos) (tOp (rIxK X) td ty):=by
  intro pins s σ H Q I h
  refine subD_of PySem.F.slot_dict_getitem.lookup hs (thn (ho pins s σ H _ I h) fun u s1 ⟨x,H1,I1,rx,q1⟩=>thn (hi pins s1 σ H1 _ I1 q1) fun iv s2 ⟨y,H2,I2,ry,d,j,kvs,v,ex,ey,hd,hv,q2⟩=>?_)
  subst ex
  subst ey
  obtain rfl:u=Value.ref d:=rx
  obtain ⟨t,rfl⟩:=ry
  obtain ⟨o,es,ep,vs,hk,h1,h2,h3,h4,h5,rel⟩:=hd.ex
  have dd:s2.heap.DictOf (intKind X.prog X.w) d vs:=⟨o,es,ep,I2.kIn d o hk,h1,h2,h3,h4,h5⟩
  obtain ⟨w',hw,rw'⟩:=RelO.some_of (v:=v) (o:=valueAt vs j) (by rw [← hv];exact rel.val j)
  exact ⟨dd.typeIs,wpAny_getItem_of (intKind_is X.prog X.w j t) dd.mapOf hw ⟨v,H2,I2.tok _,rw',q2⟩⟩
end
end L2
end
section
namespace L2
open PySem PySem.Spec PyProof.Rows
section
variable {X:Cx}
theorem vals_pts:∀ {ns:List Int} {us:List Value},us.length=ns.length→(∀ (i:Nat) u n,us[i]?=some u→ns[i]?=some n→∃ t,u=Value.int n t)→Vals (ns.map V.int) us
  | [],[],_,_=>.nil
  | n :: ns,u :: us,hl,h=>.cons (h 0 u n rfl rfl) (vals_pts (by simpa using hl) fun i u' n' h1 h2=>h (i + 1) u' n' (by simpa using h1) (by simpa using h2))
  | [],_ :: _,hl,_=>by simp at hl
  | _ :: _,[],hl,_=>by simp at hl
def rSortedD:List V→Hp→VK→Prop:=fun vs H Q=>∃ (a:Addr) (kvs:List (Key × V)) (ns:List Int),vs=[V.ref a]∧H a=some (.dK kvs)∧kvs.map (·.1)=ns.map Sum.inl∧ns.length < 64 ∧
  ∀ (ns':List Int) (p:Addr),ns'.Perm ns→ns'.Pairwise (·≤·)→H p=none→Q (.ref p) (upd H p (.lst (ns'.map V.int)))
theorem cr_sortedD (hc:X.calm=true):CallR X (.builtin "sorted") rSortedD:=by
  intro pins s σ H vs us Q I r h
  obtain ⟨a,kvs,ns,rfl,ha,hk,h64,q⟩:=h
  rw [Vals.ref1 r]
  obtain ⟨z,hs,ds,kv,o,es,ep,h1,h2,h3,h4⟩:=dk_of I.hok ha
  have hm:s.heap.DictAt (mixKind X.prog X.w) a ds ep:=⟨o,es,h1,h2,h3,h4⟩
  have hl:kvs.length=ds.length:=Paired.length kv
  have hln:kvs.length=ns.length:=by
    have:=congrArg List.length hk
    rwa [List.length_map,List.length_map] at this
  refine Calls.call_function_entry kind_sorted plain_sorted entry_sorted (args_sorted1 _) ?_
  unfold Builtin.«sorted»
  refine wpAny_bind (m:=checkCount "sorted" 1 1 _) (wpAny_pure ?_)
  refine wpAny_bind (PySem.W.kdu_collect (A:=X.A.in1) (PySem.W.kdl_dict (knd:=mixKind X.prog X.w) (kvs:=ds) (ep:=ep) hs) (I.ok.hd hc) hm (by rw [← hl];exact z) fun h' tk acc hkeep hacc=>?_)
  have hI:IntsAre acc.toList ns:=Vals.ints (vals_pts (by rw [Array.length_toList,hacc.1,← hl,hln]) fun i u n hu hn=>by
    rw [Array.getElem?_toList] at hu
    obtain ⟨k,x,e1,e2⟩:=hacc.2 i u hu
    have hkx:(kvs.map (·.1))[i]?=some (Sum.inl n):=by rw [hk,List.getElem?_map,hn];rfl
    rw [List.getElem?_map] at hkx
    cases e3:kvs[i]? with
    | none=>rw [e3] at hkx;cases hkx
    | some kvi =>
      rw [e3] at hkx
      have e4:kvi.1=Sum.inl n:=Option.some.inj hkx
      obtain ⟨w2,e5,e6⟩:=kv_get (k:=kvi.1) (v:=kvi.2) kv e3
      rw [e1] at e5
      have e7:k=kvi.1:=(Prod.mk.inj (Option.some.inj e5)).1
      rw [e7,e4] at e2
      exact Value.isInt_shape (k:=n) (v:=u) e2)
  have hlen:acc.toList.length=ns.length:=by rw [Array.length_toList,hacc.1,← hl,hln]
  refine wpAny_bind (wpAny_newList ?_ (by rw [hlen];exact small64 h64))
  have hoL:(h'.push (seqObj "list" acc.toList.toArray 0)).get? h'.objs.size=some (seqObj "list" acc.toList.toArray 0):=Heap.get?_push_size _ rfl
  refine wpAny_bind (wpAny_holding (wpAny_call_entry slot_list_sort ⟨_,hoL,rfl⟩ entry_list_sort (list_sort_tree hoL hI (by rw [hlen];exact h64) fun out ns' a1 a2 a3=>⟨_,rfl,?_⟩) (args_list_sort _)))
  obtain ⟨ep',he'⟩:=sortedHeap_at (out:=out) hoL
  have hlen':(ns'.map V.int).length≤sizeLine:=by rw [List.length_map,a2.length_eq];exact small64 h64
  have I1:Inv X pins σ H { s with heap:=h',toks:=tk }:=I.kept hkeep
  refine wpAny_pure ⟨_,rfl,?_⟩
  refine ⟨.ref h'.objs.size,upd H h'.objs.size (.lst (ns'.map V.int)),I1.laid (t':=tk) (fun b u e=>?_) (Nat.le_refl _) ⟨hlen',out.toList,ep',vals_of_ints a1,he'⟩,rfl,q ns' _ a2 a3 (I1.hok.fresh (Nat.le_refl _))⟩
  have e1:h'.get? b=some u:=e
  have hlt:b < h'.objs.size:=Heap.lt_size e1
  rw [sortedHeap_old (Nat.ne_of_lt hlt) (by rw [size_push'];exact Nat.lt_succ_of_lt hlt),Heap.get?_push_ne _ _ _ (Nat.ne_of_lt hlt)]
  exact e1
end
end L2
end
section
namespace Th
open Vbsgad
theorem countP_lt {p q:Nat→Bool}:∀ {l:List Nat},(∀ x∈l,p x=true→q x=true)→(∃ x∈l,q x=true∧p x=false)→l.countP p < l.countP q
  | [],_,h=>by obtain ⟨x,hx,_⟩:=h;cases hx
  | y :: l,hi,h=>by
    have hle:l.countP p≤l.countP q:=List.countP_mono_left fun x hx=>hi x (List.mem_cons_of_mem _ hx)
    rw [List.countP_cons,List.countP_cons]
    obtain ⟨x,hx,hq,hp⟩:=h
    rcases List.mem_cons.mp hx with e | hx
    · subst e
      rw [hq,hp]
      simp
      omega
    · have ih:=countP_lt (fun x hx=>hi x (List.mem_cons_of_mem _ hx)) ⟨x,hx,hq,hp⟩
      have hy:=hi y (List.mem_cons_self ..)
      by_cases hpy:p y=true
      · rw [hpy,hy hpy];simp;exact ih
      · rw [if_neg hpy];omega
inductive Rch (s:State) (t:Nat→Bool) (l:List Nat):Nat→Prop
  | base {a:Nat}:a∈l→Rch s t l a
  | step {a b:Nat}:Rch s t l a→t a=true→joined s a b=true→b < size s→Rch s t l b
theorem Rch.lt {s:State} {t:Nat→Bool} {l:List Nat} (hl:∀ x∈l,x < size s) {x:Nat} (h:Rch s t l x):x < size s:=by
  cases h with
  | base h=>exact hl _ h
  | step _ _ _ h=>exact h
theorem mem_widened {s:State} {t:Nat→Bool} {l:List Nat} {b:Nat}:b∈widened s t l↔b < size s∧(b∈l∨∃ a∈l,t a=true∧joined s a b=true):=by
  unfold widened
  simp only [List.mem_filter,List.mem_range,Bool.or_eq_true,List.contains_iff_mem,List.any_eq_true,Bool.and_eq_true]
theorem spread_sub {s:State} {t:Nat→Bool}:∀ (k:Nat) {l m:List Nat},(∀ x∈m,Rch s t l x)→∀ x∈spread s t k m,Rch s t l x
  | 0,_,_,h,x,hx=>h x hx
  | k + 1,l,m,h,x,hx=>by
    refine spread_sub k (m:=widened s t m) (fun y hy=>?_) x hx
    obtain ⟨hlt,hy⟩:=mem_widened.mp hy
    rcases hy with hy | ⟨a,ha,hta,hj⟩
    · exact h y hy
    · exact .step (h a ha) hta hj hlt
def Shutin (s:State) (t:Nat→Bool) (l:List Nat):Prop:=∀ a b,a∈l→t a=true→joined s a b=true→b < size s→b∈l
theorem spread_fix {s:State} {t:Nat→Bool}:∀ (k:Nat) {l:List Nat},(∀ x∈l,x < size s)→Shutin s t l→(∀ x,x∈spread s t k l↔x∈l)
  | 0,_,_,_,_=>Iff.rfl
  | k + 1,l,hl,h,x=>by
    have e:∀ y,y∈widened s t l↔y∈l:=fun y=>by
      rw [mem_widened]
      constructor
      · rintro ⟨hlt,hy | ⟨a,ha,hta,hj⟩⟩
        · exact hy
        · exact h a y ha hta hj hlt
      · intro hy
        exact ⟨hl y hy,.inl hy⟩
    have h2:Shutin s t (widened s t l):=fun a b ha hta hj hb=>(e b).mpr (h a b ((e a).mp ha) hta hj hb)
    have:=spread_fix k (l:=widened s t l) (fun y hy=>(mem_widened.mp hy).1) h2 x
    show x∈spread s t k (widened s t l)↔x∈l
    rw [this,e]
theorem spread_shutin {s:State} {t:Nat→Bool}:∀ (k:Nat) {l:List Nat},(∀ x∈l,x < size s)→size s≤k + (List.range (size s)).countP (fun x=>l.contains x)→Shutin s t (spread s t k l)
  | 0,l,hl,h=>by
    intro a b ha hta hj hb
    have hc:(List.range (size s)).countP (fun x=>l.contains x)=(List.range (size s)).length:=by
      have:=List.countP_le_length (p:=fun x=>l.contains x) (l:=List.range (size s))
      rw [List.length_range] at *
      omega
    rw [List.countP_eq_length] at hc
    have:=hc b (List.mem_range.mpr hb)
    exact List.contains_iff_mem.mp this
  | k + 1,l,hl,h=>by
    show Shutin s t (spread s t k (widened s t l))
    by_cases hs:Shutin s t l
    · have hfix:=spread_fix (t:=t) (k + 1) hl hs
      have hfix:∀ x,x∈spread s t k (widened s t l)↔x∈l:=hfix
      intro a b ha hta hj hb
      rw [hfix] at *
      exact hs a b ha hta hj hb
    · have hex:∃ b,b < size s∧b∈widened s t l∧b ∉ l:=by
        apply Classical.byContradiction
        intro hno
        apply hs
        intro a b ha hta hj hb
        apply Classical.byContradiction
        intro hnb
        exact hno ⟨b,hb,mem_widened.mpr ⟨hb,.inr ⟨a,ha,hta,hj⟩⟩,hnb⟩
      obtain ⟨b,hb,hbw,hbl⟩:=hex
      have hlt:(List.range (size s)).countP (fun x=>l.contains x) < (List.range (size s)).countP (fun x=>(widened s t l).contains x):=by
        apply countP_lt
        · intro x hx hxl
          rw [List.contains_iff_mem] at *
          exact mem_widened.mpr ⟨List.mem_range.mp hx,.inl hxl⟩
        · refine ⟨b,List.mem_range.mpr hb,List.contains_iff_mem.mpr hbw,?_⟩
          apply Bool.eq_false_iff.mpr
          intro hc
          exact hbl (List.contains_iff_mem.mp hc)
      exact spread_shutin k (fun x hx=>(mem_widened.mp hx).1) (by omega)
theorem spread_mono {s:State} {t:Nat→Bool}:∀ (k:Nat) {l:List Nat},(∀ x∈l,x < size s)→∀ x∈l,x∈spread s t k l
  | 0,_,_,_,h=>h
  | k + 1,l,hl,x,h=>spread_mono k (l:=widened s t l) (fun y hy=>(mem_widened.mp hy).1) x (mem_widened.mpr ⟨hl x h,.inl h⟩)
theorem mem_spread {s:State} {t:Nat→Bool} {l:List Nat} (hl:∀ x∈l,x < size s) (x:Nat):x∈spread s t (size s) l↔Rch s t l x:=by
  constructor
  · exact spread_sub _ (fun y hy=>.base hy) x
  · intro h
    have hc:=spread_shutin (t:=t) (size s) hl (by omega)
    induction h with
    | base h=>exact spread_mono _ hl _ h
    | step h1 h2 h3 h4 ih=>exact hc _ _ ih h2 h3 h4
theorem widened_filter (s:State) (t:Nat→Bool) (l:List Nat):∃ p,widened s t l=(List.range (size s)).filter p:=⟨_,rfl⟩
theorem spread_filter {s:State} {t:Nat→Bool}:∀ (k:Nat) {l:List Nat},(∃ p,l=(List.range (size s)).filter p)→∃ p,spread s t k l=(List.range (size s)).filter p
  | 0,_,h=>h
  | k + 1,l,_=>spread_filter k (widened_filter s t l)
theorem filter_self {n:Nat} {p:Nat→Bool} {m:List Nat} (h:m=(List.range n).filter p):m=(List.range n).filter (fun x=>m.contains x):=by
  conv=>lhs;rw [h]
  apply List.filter_congr
  intro x hx
  apply Bool.eq_iff_iff.mpr
  rw [List.contains_iff_mem,h,List.mem_filter]
  exact ⟨fun q=>⟨hx,q⟩,fun q=>q.2⟩
theorem filter_ext {n:Nat} {p q:Nat→Bool} {m:List Nat} (h:m=(List.range n).filter p) (hq:∀ x,x < n→(x∈m↔q x=true)):m=(List.range n).filter q:=by
  rw [filter_self h]
  apply List.filter_congr
  intro x hx
  apply Bool.eq_iff_iff.mpr
  rw [List.contains_iff_mem]
  exact hq x (List.mem_range.mp hx)
theorem mem_bases {s:State} {a:Nat}:a∈bases s↔a < size s∧isBase s a=true:=by
  unfold bases
  rw [List.mem_filter,List.mem_range]
theorem bases_lt {s:State}:∀ x∈bases s,x < size s:=fun _ h=>(mem_bases.mp h).1
theorem mem_reached {s:State} {x:Nat}:x∈reached s↔Rch s (fun a=>!shut s a) (bases s) x:=mem_spread bases_lt x
theorem reached_eq {s:State} {q:Nat→Bool} (h:∀ x,x < size s→(Rch s (fun a=>!shut s a) (bases s) x↔q x=true)):reached s=(List.range (size s)).filter q:=by
  obtain ⟨p,hp⟩:=spread_filter (s:=s) (t:=fun a=>!shut s a) (size s) (l:=bases s) ⟨_,rfl⟩
  exact filter_ext hp fun x hx=>by rw [← h x hx];exact mem_reached
theorem Rch.mono {s s':State} {t t':Nat→Bool} {l l':List Nat} (hl:∀ x∈l,x∈l') (ht:∀ x,t x=true→t' x=true) (hj:∀ a b,joined s a b=joined s' a b) (hs:size s=size s') {x:Nat} (h:Rch s t l x):Rch s' t' l' x:=by
  induction h with
  | base h=>exact .base (hl _ h)
  | step _ h2 h3 h4 ih=>exact .step ih (ht _ h2) (by rw [← hj];exact h3) (by rw [← hs];exact h4)
theorem filled_size (s:State) (f:List Nat):size (filled s f)=size s:=by
  unfold size filled
  simp [size]
theorem filled_joined (s:State) (f:List Nat) (a b:Nat):joined (filled s f) a b=joined s a b:=rfl
theorem nodeOf_ge {s:State} {a:Nat} (h:size s≤a):nodeOf s a=⟨false,0,false⟩:=by
  unfold nodeOf
  rw [List.getD_eq_getElem?_getD,List.getElem?_eq_none_iff.mpr h]
  rfl
theorem filled_nodeOf (s:State) (f:List Nat) (a:Nat):nodeOf (filled s f) a=if f.contains a=true∧fillable s a=true then { nodeOf s a with free:=0 } else nodeOf s a:=by
  by_cases h:a < size s
  · conv=>lhs;unfold nodeOf filled
    rw [List.getD_eq_getElem?_getD]
    simp only [List.getElem?_map]
    rw [List.getElem?_range h]
    rfl
  · rw [nodeOf_ge (by rw [filled_size];omega)]
    have h1:nodeOf s a=⟨false,0,false⟩:=nodeOf_ge (by omega)
    rw [h1]
    split <;> rfl
theorem filled_isBase (s:State) (f:List Nat) (a:Nat):isBase (filled s f) a=isBase s a:=by
  unfold isBase
  rw [filled_nodeOf]
  split <;> rfl
theorem filled_bases (s:State) (f:List Nat):bases (filled s f)=bases s:=by
  unfold bases
  rw [filled_size]
  apply List.filter_congr
  intro x _
  exact filled_isBase s f x
theorem filled_shut (s:State) (f:List Nat) (a:Nat):shut (filled s f) a=(shut s a || (f.contains a && fillable s a)):=by
  unfold shut
  rw [filled_isBase,filled_nodeOf]
  cases hc:f.contains a <;> cases hf:fillable s a <;> simp
  unfold fillable at hf
  simp at hf
  simp [hf]
theorem filled_fillable (s:State) (f:List Nat) (a:Nat):fillable (filled s f) a=(fillable s a && !f.contains a):=by
  conv=>lhs;unfold fillable
  rw [filled_isBase,filled_nodeOf]
  cases hc:f.contains a <;> cases hf:fillable s a <;> simp
  · unfold fillable at hf
    simpa using hf
  · unfold fillable at hf
    simpa using hf
  · unfold fillable at hf
    simpa using hf
theorem isBase_shut {s:State} {a:Nat} (h:isBase s a=true):shut s a=false:=by
  unfold shut
  simp [h]
theorem isBase_fillable {s:State} {a:Nat} (h:isBase s a=true):fillable s a=false:=by
  unfold fillable
  simp [h]
end Th
end
section
namespace Th
open Vbsgad
def sm:Nat→(Nat→Int)→Int
  | 0,_=>0
  | n + 1,f=>sm n f + f n
theorem sm_congr:∀ {n:Nat} {f g:Nat→Int},(∀ i,i < n→f i=g i)→sm n f=sm n g
  | 0,_,_,_=>rfl
  | n + 1,f,g,h=>by
    show sm n f + f n=sm n g + g n
    rw [sm_congr fun i hi=>h i (by omega),h n (by omega)]
theorem sm_le:∀ {n:Nat} {f g:Nat→Int},(∀ i,i < n→f i≤g i)→sm n f≤sm n g
  | 0,_,_,_=>Int.le_refl _
  | n + 1,f,g,h=>by
    show sm n f + f n≤sm n g + g n
    have:=sm_le (n:=n) (f:=f) (g:=g) fun i hi=>h i (by omega)
    have:=h n (by omega)
    omega
theorem sm_zero:∀ (n:Nat),sm n (fun _=>0)=0
  | 0=>rfl
  | n + 1=>by
    show sm n (fun _=>0) + 0=0
    rw [sm_zero n];rfl
theorem sm_eq_zero {n:Nat} {f:Nat→Int} (h:∀ i,i < n→f i=0):sm n f=0:=(sm_congr h).trans (sm_zero n)
theorem sm_nonneg {n:Nat} {f:Nat→Int} (h:∀ i,i < n→0≤f i):0≤sm n f:=by
  have:=sm_le (n:=n) (f:=fun _=>0) (g:=f) h
  rw [sm_zero] at this
  exact this
theorem sm_add:∀ (n:Nat) (f g:Nat→Int),sm n (fun i=>f i + g i)=sm n f + sm n g
  | 0,_,_=>rfl
  | n + 1,f,g=>by
    show sm n (fun i=>f i + g i) + (f n + g n)=sm n f + f n + (sm n g + g n)
    rw [sm_add n f g];omega
theorem sm_sub:∀ (n:Nat) (f g:Nat→Int),sm n (fun i=>f i - g i)=sm n f - sm n g
  | 0,_,_=>rfl
  | n + 1,f,g=>by
    show sm n (fun i=>f i - g i) + (f n - g n)=sm n f + f n - (sm n g + g n)
    rw [sm_sub n f g];omega
theorem sm_swap:∀ (n m:Nat) (f:Nat→Nat→Int),sm n (fun i=>sm m (fun j=>f i j))=sm m (fun j=>sm n (fun i=>f i j))
  | 0,m,f=>(sm_zero m).symm
  | n + 1,m,f=>by
    show sm n (fun i=>sm m (fun j=>f i j)) + sm m (fun j=>f n j)=sm m (fun j=>sm n (fun i=>f i j) + f n j)
    rw [sm_add,sm_swap n m f]
theorem sm_single:∀ {n:Nat} {f:Nat→Int} {k:Nat},k < n→(∀ i,i < n→i≠k→f i=0)→sm n f=f k
  | 0,_,_,h,_=>by omega
  | n + 1,f,k,h,hz=>by
    show sm n f + f n=f k
    by_cases e:k=n
    · subst e
      rw [sm_eq_zero fun i hi=>hz i (by omega) (by omega)];omega
    · rw [sm_single (n:=n) (f:=f) (k:=k) (by omega) fun i hi hne=>hz i (by omega) hne,hz n (by omega) (by omega)];omega
theorem sm_ge_one:∀ {n:Nat} {f:Nat→Int} {k:Nat},k < n→(∀ i,i < n→0≤f i)→f k≤sm n f
  | 0,_,_,h,_=>by omega
  | n + 1,f,k,h,hz=>by
    show f k≤sm n f + f n
    by_cases e:k=n
    · subst e
      have:=sm_nonneg (n:=k) (f:=f) fun i hi=>hz i (by omega)
      omega
    · have:=sm_ge_one (n:=n) (f:=f) (k:=k) (by omega) fun i hi=>hz i (by omega)
      have:=hz n (by omega)
      omega
def price (s:State) (F:Nat→Bool):Int:=sm (size s) fun a=>if F a=true then ((nodeOf s a).free:Int) else 0
theorem sum_filter_range (c:Nat→Nat) (p:Nat→Bool):∀ n:Nat,((((List.range n).filter p).map c).sum:Int)=sm n fun a=>if p a=true then (c a:Int) else 0
  | 0=>rfl
  | n + 1=>by
    rw [List.range_succ,List.filter_append,List.map_append,List.sum_append]
    show _=sm n _ + _
    rw [← sum_filter_range c p n]
    cases h:p n <;> simp [h]
theorem perm_filter_range {n:Nat} {l:List Nat} (nd:l.Nodup) (hl:∀ x∈l,x < n):l.Perm ((List.range n).filter fun x=>l.contains x):=by
  rw [List.perm_iff_count]
  intro a
  have h2:((List.range n).filter fun x=>l.contains x).Nodup:=List.Pairwise.filter _ List.nodup_range
  rw [nd.count,h2.count]
  have:a∈l↔a∈(List.range n).filter fun x=>l.contains x:=by
    rw [List.mem_filter,List.mem_range,List.contains_iff_mem]
    exact ⟨fun h=>⟨hl a h,h⟩,fun h=>h.2⟩
  by_cases h:a∈l
  · rw [if_pos h,if_pos (this.mp h)]
  · rw [if_neg h,if_neg fun q=>h (this.mpr q)]
structure Cut (s:State) (g:Nat) (F:Nat→Bool):Prop where
  fil:∀ a,a < size s→F a=true→fillable s a=true∧a≠g
  cut:¬ Rch s (fun a=>!shut s a && !F a) (bases s) g
structure FlowOk (s:State) (g:Nat) (ph:Nat→Nat→Int) (v:Int):Prop where
  glt:g < size s
  gb:isBase s g=false
  nn:∀ a b,0≤ph a b
  arc:∀ a b,0 < ph a b→a < size s∧b < size s∧joined s a b=true∧isBase s b=false∧(b=g∨shut s b=false)∧a≠g
  cons:∀ a,a < size s→isBase s a=false→a≠g→sm (size s) (fun b=>ph a b)=sm (size s) (fun b=>ph b a)
  cap:∀ a,a < size s→fillable s a=true→a≠g→sm (size s) (fun b=>ph a b)≤((nodeOf s a).free:Int)
  val:v=sm (size s) (fun b=>ph b g)
section
variable {s:State} {g:Nat} {ph:Nat→Nat→Int} {v:Int}
theorem FlowOk.out_g (h:FlowOk s g ph v) (b:Nat):ph g b=0:=by
  have h1:=h.nn g b
  by_cases e:ph g b=0
  · exact e
  · exact absurd rfl (h.arc g b (by omega)).2.2.2.2.2
theorem FlowOk.across (h:FlowOk s g ph v) {T:Nat→Bool} (hb:∀ a,a < size s→isBase s a=true→T a=true) (hg:T g=false) :
    v=sm (size s) fun a=>if T a=true then 0 else sm (size s) fun b=>if T b=true then ph b a - ph a b else 0:=by
  have e1:v=sm (size s) fun a=>if T a=true then 0 else sm (size s) fun b=>ph b a - ph a b:=by
    have:sm (size s) (fun a=>if T a=true then 0 else sm (size s) fun b=>ph b a - ph a b)=(if T g=true then 0 else sm (size s) fun b=>ph b g - ph g b):=by
      refine sm_single (k:=g) h.glt fun a ha hne=>?_
      by_cases hT:T a=true
      · rw [if_pos hT]
      · rw [if_neg hT,sm_sub]
        have hnb:isBase s a=false:=by
          cases q:isBase s a with
          | false=>rfl
          | true=>exact absurd (hb a ha q) hT
        rw [h.cons a ha hnb hne]
        omega
    rw [this,hg]
    rw [h.val]
    rw [if_neg (by simp),sm_sub,sm_eq_zero (f:=fun b=>ph g b) fun i _=>h.out_g i]
    omega
  have e2:sm (size s) (fun a=>if T a=true then 0 else sm (size s) fun b=>ph b a - ph a b)
      = sm (size s) (fun a=>if T a=true then 0 else sm (size s) fun b=>if T b=true then ph b a - ph a b else 0)
        + sm (size s) (fun a=>if T a=true then 0 else sm (size s) fun b=>if T b=true then 0 else ph b a - ph a b):=by
    rw [← sm_add]
    refine sm_congr fun a _=>?_
    by_cases hT:T a=true
    · rw [if_pos hT,if_pos hT,if_pos hT];rfl
    · rw [if_neg hT,if_neg hT,if_neg hT,← sm_add]
      refine sm_congr fun b _=>?_
      by_cases hTb:T b=true
      · rw [if_pos hTb,if_pos hTb];omega
      · rw [if_neg hTb,if_neg hTb];omega
  have e3:sm (size s) (fun a=>if T a=true then 0 else sm (size s) fun b=>if T b=true then 0 else ph b a - ph a b)=0:=by
    have f1:∀ a,(if T a=true then 0 else sm (size s) fun b=>if T b=true then 0 else ph b a - ph a b)
        = sm (size s) (fun b=>if T a=true∨T b=true then 0 else ph b a) - sm (size s) (fun b=>if T a=true∨T b=true then 0 else ph a b):=by
      intro a
      by_cases hT:T a=true
      · rw [if_pos hT,sm_eq_zero fun i _=>by rw [if_pos (.inl hT)],sm_eq_zero fun i _=>by rw [if_pos (.inl hT)]];rfl
      · rw [if_neg hT,← sm_sub]
        refine sm_congr fun b _=>?_
        by_cases hTb:T b=true
        · rw [if_pos hTb,if_pos (.inr hTb),if_pos (.inr hTb)];rfl
        · have:¬ (T a=true∨T b=true):=fun q=>q.elim hT hTb
          rw [if_neg hTb,if_neg this,if_neg this]
    rw [sm_congr fun a _=>f1 a,sm_sub]
    have f2:=sm_swap (size s) (size s) (fun a b=>if T a=true∨T b=true then 0 else ph b a)
    rw [f2]
    have f3:sm (size s) (fun j=>sm (size s) fun i=>if T i=true∨T j=true then 0 else ph j i)=sm (size s) (fun a=>sm (size s) fun b=>if T a=true∨T b=true then 0 else ph a b):=by
      refine sm_congr fun a _=>sm_congr fun b _=>?_
      by_cases q:T a=true∨T b=true
      · rw [if_pos q,if_pos q.symm]
      · rw [if_neg q,if_neg fun z=>q z.symm]
    rw [f3]
    omega
  rw [e1,e2,e3]
  omega
theorem FlowOk.le_cut (h:FlowOk s g ph v) {F:Nat→Bool} (c:Cut s g F):v≤price s F:=by
  let R:Nat→Prop:=Rch s (fun a=>!shut s a && !F a) (bases s)
  have hdec:∀ x,Decidable (R x):=fun x=>Classical.propDecidable _
  let T:Nat→Bool:=fun a=>decide (R a) && (!shut s a && !F a)
  have hT:∀ a,T a=true↔R a∧shut s a=false∧F a=false:=fun a=>by simp [T]
  have hTb:∀ a,a < size s→isBase s a=true→T a=true:=fun a ha hb=>by
    rw [hT]
    refine ⟨.base (mem_bases.mpr ⟨ha,hb⟩),isBase_shut hb,?_⟩
    cases q:F a with
    | false=>rfl
    | true=>have:=(c.fil a ha q).1;rw [isBase_fillable hb] at this;cases this
  have hTg:T g=false:=by
    cases q:T g with
    | false=>rfl
    | true=>exact absurd ((hT g).mp q).1 c.cut
  rw [h.across hTb hTg]
  refine sm_le fun a ha=>?_
  by_cases hTa:T a=true
  · rw [if_pos hTa]
    split <;> omega
  · rw [if_neg hTa]
    by_cases hF:F a=true
    · rw [if_pos hF]
      obtain ⟨hf,hne⟩:=c.fil a ha hF
      have hnb:isBase s a=false:=by
        cases q:isBase s a with
        | false=>rfl
        | true=>rw [isBase_fillable q] at hf;cases hf
      have h1:=h.cap a ha hf hne
      rw [h.cons a ha hnb hne] at h1
      refine Int.le_trans (sm_le (g:=fun b=>ph b a) fun b hb=>?_) h1
      have:=h.nn b a
      have:=h.nn a b
      split <;> omega
    · rw [if_neg hF]
      have:sm (size s) (fun b=>if T b=true then ph b a - ph a b else 0)≤sm (size s) (fun _=>0):=by
        refine sm_le fun b hb=>?_
        by_cases hTb':T b=true
        · rw [if_pos hTb']
          have z0:=h.nn a b
          by_cases z:0 < ph b a
          · exfalso
            obtain ⟨_,_,hj,_,hsh,_⟩:=h.arc b a z
            obtain ⟨hr,hs1,hs2⟩:=(hT b).mp hTb'
            have hra:R a:=.step hr (by simp [hs1,hs2]) hj ha
            have hag:a≠g:=fun q=>c.cut (q ▸ hra)
            rcases hsh with q | q
            · exact hag q
            · exact hTa ((hT a).mpr ⟨hra,q,by simpa using hF⟩)
          · omega
        · rw [if_neg hTb'];omega
      rw [sm_zero] at this
      exact this
structure Held (s:State) (g:Nat) (ph:Nat→Nat→Int) (I O:Nat→Prop):Prop where
  bas:∀ a,a < size s→isBase s a=true→O a
  ng:¬ I g
  fwd:∀ a b,a < size s→O a→joined s a b=true→b < size s→isBase s b=false→(b=g∨shut s b=false)→I b
  thr:∀ a,a < size s→I a→(fillable s a=false∨sm (size s) (fun b=>ph a b) < ((nodeOf s a).free:Int))→O a
  bck:∀ a b,a < size s→I a→0 < ph b a→O b
  bth:∀ a,a < size s→O a→isBase s a=false→0 < sm (size s) (fun b=>ph a b)→I a
theorem Held.cut {I O:Nat→Prop} (hc:Held s g ph I O) {F:Nat→Bool} (hgb:isBase s g=false) (hF:∀ a,a < size s→(F a=true↔I a∧¬ O a)):Cut s g F:=by
  refine ⟨fun a ha h=>?_,fun hr=>?_⟩
  · obtain ⟨hI,hO⟩:=(hF a ha).mp h
    refine ⟨?_,fun e=>hc.ng (e ▸ hI)⟩
    cases q:fillable s a with
    | true=>rfl
    | false=>exact absurd (hc.thr a ha hI (.inl q)) hO
  · have key:∀ x,Rch s (fun a=>!shut s a && !F a) (bases s) x→(x < size s)∧(isBase s x=true∨(x≠g∧((shut s x=false∧F x=false)→O x))):=by
      intro x hx
      induction hx with
      | base h=>exact ⟨(mem_bases.mp h).1,.inl (mem_bases.mp h).2⟩
      | @step a b h1 h2 h3 h4 ih =>
        refine ⟨h4,?_⟩
        simp at h2
        obtain ⟨hs,hf⟩:=h2
        obtain ⟨ha,ih⟩:=ih
        have hOa:O a:=by
          rcases ih with q | q
          · exact hc.bas a ha q
          · exact q.2 ⟨hs,hf⟩
        by_cases hb:isBase s b=true
        · exact .inl hb
        · have hb':isBase s b=false:=by simpa using hb
          have hng:b≠g:=by
            intro e
            exact hc.ng (e ▸ hc.fwd a b ha hOa h3 h4 hb' (.inl e))
          refine .inr ⟨hng,fun ⟨q1,q2⟩=>?_⟩
          have hIb:=hc.fwd a b ha hOa h3 h4 hb' (.inr q1)
          apply Classical.byContradiction
          intro hno
          have:=(hF b h4).mpr ⟨hIb,hno⟩
          rw [q2] at this
          cases this
    rcases (key g hr).2 with q | q
    · rw [hgb] at q;cases q
    · exact q.1 rfl
theorem Held.price {I O:Nat→Prop} (h:FlowOk s g ph v) (hc:Held s g ph I O) {F:Nat→Bool} (hF:∀ a,a < size s→(F a=true↔I a∧¬ O a)):price s F=v:=by
  have hdec:∀ x,Decidable (O x):=fun x=>Classical.propDecidable _
  let T:Nat→Bool:=fun a=>decide (O a) && decide (a≠g)
  have hT:∀ a,T a=true↔O a∧a≠g:=fun a=>by simp [T]
  have hTb:∀ a,a < size s→isBase s a=true→T a=true:=fun a ha hb=>by
    rw [hT]
    exact ⟨hc.bas a ha hb,fun e=>by rw [e,h.gb] at hb;cases hb⟩
  have hTg:T g=false:=by
    cases q:T g with
    | false=>rfl
    | true=>exact absurd rfl ((hT g).mp q).2
  rw [h.across hTb hTg]
  refine sm_congr fun a ha=>?_
  by_cases hTa:T a=true
  · rw [if_pos hTa]
    rw [if_neg]
    intro q
    exact ((hF a ha).mp q).2 ((hT a).mp hTa).1
  · rw [if_neg hTa]
    have back:∀ b,b < size s→T b=true→ph a b=0:=by
      intro b hb hTb'
      have z:=h.nn a b
      by_cases e:ph a b=0
      · exact e
      · exfalso
        obtain ⟨_,_,hj,hbb,_,hag⟩:=h.arc a b (by omega)
        obtain ⟨hOb,hbg⟩:=(hT b).mp hTb'
        have hin:0 < sm (size s) (fun c=>ph b c):=by
          rw [h.cons b hb hbb hbg]
          have:=sm_ge_one (n:=size s) (f:=fun c=>ph c b) (k:=a) ha fun i _=>h.nn i b
          have e2:(fun c=>ph c b) a=ph a b:=rfl
          omega
        have hIb:=hc.bth b hb hOb hbb hin
        have hOa:=hc.bck b a hb hIb (by omega)
        exact hTa ((hT a).mpr ⟨hOa,hag⟩)
    by_cases hFa:F a=true
    · rw [if_pos hFa]
      obtain ⟨hI,hO⟩:=(hF a ha).mp hFa
      have hag:a≠g:=fun e=>hc.ng (e ▸ hI)
      have hab:isBase s a=false:=by
        cases q:isBase s a with
        | false=>rfl
        | true=>exact absurd (hc.bas a ha q) hO
      have hfil:fillable s a=true:=by
        cases q:fillable s a with
        | true=>rfl
        | false=>exact absurd (hc.thr a ha hI (.inl q)) hO
      have hfull:sm (size s) (fun b=>ph a b)=((nodeOf s a).free:Int):=by
        have h1:=h.cap a ha hfil hag
        by_cases q:sm (size s) (fun b=>ph a b) < ((nodeOf s a).free:Int)
        · exact absurd (hc.thr a ha hI (.inr q)) hO
        · omega
      rw [← hfull,h.cons a ha hab hag]
      refine sm_congr fun b hb=>?_
      by_cases hTb':T b=true
      · rw [if_pos hTb',back b hb hTb'];omega
      · rw [if_neg hTb']
        have z:=h.nn b a
        by_cases e:ph b a=0
        · omega
        · exfalso
          have hOb:=hc.bck a b ha hI (by omega)
          obtain ⟨_,_,_,_,_,hbg⟩:=h.arc b a (by omega)
          exact hTb' ((hT b).mpr ⟨hOb,hbg⟩)
    · rw [if_neg hFa]
      symm
      refine sm_eq_zero fun b hb=>?_
      by_cases hTb':T b=true
      · rw [if_pos hTb',back b hb hTb']
        have z:=h.nn b a
        by_cases e:ph b a=0
        · omega
        · exfalso
          obtain ⟨_,_,hj,hab,hsh,_⟩:=h.arc b a (by omega)
          have hIa:=hc.fwd b a hb ((hT b).mp hTb').1 hj ha hab hsh
          have hag:a≠g:=fun e=>hc.ng (e ▸ hIa)
          have:¬ O a:=fun q=>hTa ((hT a).mpr ⟨q,hag⟩)
          exact hFa ((hF a ha).mpr ⟨hIa,this⟩)
      · rw [if_neg hTb']
end
end Th
end
section
namespace Th
open Vbsgad
def MinPrice (s:State) (g:Nat) (n:Int):Prop:=(∃ F,Cut s g F∧price s F=n)∧∀ F,Cut s g F→n≤price s F
theorem MinPrice.unique {s:State} {g:Nat} {n m:Int} (h:MinPrice s g n) (k:MinPrice s g m):n=m:=by
  obtain ⟨⟨F,c,e⟩,l⟩:=h
  obtain ⟨⟨G,d,e'⟩,l'⟩:=k
  have:=l G d
  have:=l' F c
  omega
theorem MinPrice.of_flow {s:State} {g:Nat} {ph:Nat→Nat→Int} {v:Int} (h:FlowOk s g ph v) {I O:Nat→Prop} (hc:Held s g ph I O):MinPrice s g v:=by
  have hdI:∀ x,Decidable (I x):=fun x=>Classical.propDecidable _
  have hdO:∀ x,Decidable (O x):=fun x=>Classical.propDecidable _
  have hF:∀ a,a < size s→((fun a=>decide (I a) && !decide (O a)) a=true↔I a∧¬ O a):=fun a _=>by simp
  exact ⟨⟨_,hc.cut h.gb hF,Held.price h hc hF⟩,fun F c=>h.le_cut c⟩
def inOf (f:Flow) (a:Nat):Nat:=(f.filter fun t=>t.2 == a).length
theorem outOf_cons (t:Nat × Nat) (f:Flow) (a:Nat):outOf (t :: f) a=outOf f a + if t.1=a then 1 else 0:=by
  unfold outOf
  rw [List.filter_cons]
  by_cases h:t.1=a
  · simp [h]
  · simp [h]
theorem inOf_cons (t:Nat × Nat) (f:Flow) (a:Nat):inOf (t :: f) a=inOf f a + if t.2=a then 1 else 0:=by
  unfold inOf
  rw [List.filter_cons]
  by_cases h:t.2=a
  · simp [h]
  · simp [h]
theorem outOf_erase {t:Nat × Nat} {f:Flow} (h:t∈f) (a:Nat):outOf f a=outOf (f.erase t) a + if t.1=a then 1 else 0:=by
  rw [← outOf_cons]
  unfold outOf
  exact ((List.perm_cons_erase h).filter _).length_eq
theorem inOf_erase {t:Nat × Nat} {f:Flow} (h:t∈f) (a:Nat):inOf f a=inOf (f.erase t) a + if t.2=a then 1 else 0:=by
  rw [← inOf_cons]
  unfold inOf
  exact ((List.perm_cons_erase h).filter _).length_eq
theorem sm_count_out (n:Nat) (a:Nat):∀ (f:Flow),(∀ t∈f,t.2 < n)→sm n (fun b=>(f.count (a,b):Int))=(outOf f a:Int)
  | [],_=>by
    rw [sm_eq_zero fun i _=>by simp]
    rfl
  | t :: f,h=>by
    have ih:=sm_count_out n a f fun u hu=>h u (List.mem_cons_of_mem _ hu)
    have e:∀ b,(((t :: f).count (a,b):Nat):Int)=(f.count (a,b):Int) + if t=(a,b) then 1 else 0:=fun b=>by
      rw [List.count_cons]
      by_cases q:t=(a,b)
      · simp [q]
      · simp [q]
    rw [sm_congr fun b _=>e b,sm_add,ih,outOf_cons]
    have ht:=h t (List.mem_cons_self ..)
    by_cases q:t.1=a
    · rw [sm_single (k:=t.2) ht fun i _ hne=>by
        rw [if_neg]
        intro z
        exact hne (by rw [z])]
      rw [if_pos q,if_pos (by rw [← q])]
      simp
    · rw [if_neg q,sm_eq_zero fun i _=>by
        rw [if_neg]
        intro z
        exact q (by rw [z])]
      simp
theorem sm_count_in (n:Nat) (a:Nat):∀ (f:Flow),(∀ t∈f,t.1 < n)→sm n (fun b=>(f.count (b,a):Int))=(inOf f a:Int)
  | [],_=>by
    rw [sm_eq_zero fun i _=>by simp]
    rfl
  | t :: f,h=>by
    have ih:=sm_count_in n a f fun u hu=>h u (List.mem_cons_of_mem _ hu)
    have e:∀ b,(((t :: f).count (b,a):Nat):Int)=(f.count (b,a):Int) + if t=(b,a) then 1 else 0:=fun b=>by
      rw [List.count_cons]
      by_cases q:t=(b,a)
      · simp [q]
      · simp [q]
    rw [sm_congr fun b _=>e b,sm_add,ih,inOf_cons]
    have ht:=h t (List.mem_cons_self ..)
    by_cases q:t.2=a
    · rw [sm_single (k:=t.1) ht fun i _ hne=>by
        rw [if_neg]
        intro z
        exact hne (by rw [z])]
      rw [if_pos q,if_pos (by rw [← q])]
      simp
    · rw [if_neg q,sm_eq_zero fun i _=>by
        rw [if_neg]
        intro z
        exact q (by rw [z])]
      simp
structure ArcOk (s:State) (g:Nat) (t:Nat × Nat):Prop where
  l1:t.1 < size s
  l2:t.2 < size s
  jn:joined s t.1 t.2=true
  nb:isBase s t.2=false
  ns:t.2=g∨shut s t.2=false
  ng:t.1≠g
structure Fl (s:State) (g:Nat) (f:Flow):Prop where
  arc:∀ t∈f,ArcOk s g t
  cons:∀ a,isBase s a=false→a≠g→outOf f a=inOf f a
  cap:∀ a,fillable s a=true→a≠g→outOf f a≤(nodeOf s a).free
theorem Fl.ok {s:State} {g:Nat} {f:Flow} (hg:g < size s) (hb:isBase s g=false) (h:Fl s g f):FlowOk s g (fun a b=>(f.count (a,b):Int)) (inOf f g):=by
  refine ⟨hg,hb,fun a b=>by simp,fun a b hp=>?_,fun a ha hna hne=>?_,fun a ha hf hne=>?_,?_⟩
  · have:(a,b)∈f:=List.count_pos_iff.mp (by omega)
    have q:=h.arc _ this
    exact ⟨q.l1,q.l2,q.jn,q.nb,q.ns,q.ng⟩
  · rw [sm_count_out _ _ _ fun t ht=>(h.arc t ht).l2,sm_count_in _ _ _ fun t ht=>(h.arc t ht).l1,h.cons a hna hne]
  · rw [sm_count_out _ _ _ fun t ht=>(h.arc t ht).l2]
    have:=h.cap a hf hne
    omega
  · rw [sm_count_in _ _ _ fun t ht=>(h.arc t ht).l1]
theorem Fl.nil {s:State} {g:Nat}:Fl s g []:=⟨fun _ h=>(nomatch h),fun _ _ _=>rfl,fun _ _ _=>Nat.zero_le _⟩
theorem mem_ahead_in {s:State} {g:Nat} {f:Flow} {a y:Nat}:y∈ahead s g f (2 * a)↔(y=2 * a + 1∧(fillable s a=false∨outOf f a < (nodeOf s a).free))∨∃ b,b < size s∧(b,a)∈f∧y=2 * b + 1:=by
  unfold ahead
  have e1:2 * a / 2=a:=by omega
  have e2:2 * a % 2=0:=by omega
  simp only [e1,e2,if_true,List.mem_append,List.mem_map,List.mem_filter,List.mem_range,List.contains_iff_mem]
  constructor
  · rintro (h | ⟨b,⟨hb,hm⟩,e⟩)
    · split at h
      · rename_i hc
        simp at h
        exact .inl ⟨h,hc⟩
      · cases h
    · exact .inr ⟨b,hb,hm,e.symm⟩
  · rintro (⟨e,hc⟩ | ⟨b,hb,hm,e⟩)
    · left
      rw [if_pos hc,e]
      simp
    · exact .inr ⟨b,⟨hb,hm⟩,e.symm⟩
theorem mem_ahead_out {s:State} {g:Nat} {f:Flow} {a y:Nat}:y∈ahead s g f (2 * a + 1)↔(∃ b,b < size s∧joined s a b=true∧isBase s b=false∧(b=g∨shut s b=false)∧y=2 * b)∨(y=2 * a∧isBase s a=false∧0 < outOf f a):=by
  unfold ahead
  have e1:(2 * a + 1) / 2=a:=by omega
  have e2:¬ (2 * a + 1) % 2=0:=by omega
  simp only [e1,if_neg e2,List.mem_append,List.mem_map,List.mem_filter,near,List.mem_range]
  constructor
  · rintro (⟨b,⟨⟨hb,hj⟩,hc⟩,e⟩ | h)
    · simp at hc
      exact .inl ⟨b,hb,hj,hc.1,hc.2,e.symm⟩
    · split at h
      · rename_i hc
        simp at h
        exact .inr ⟨h,hc⟩
      · cases h
  · rintro (⟨b,hb,hj,h1,h2,e⟩ | ⟨e,hc⟩)
    · exact .inl ⟨b,⟨⟨hb,hj⟩,by simp [h1,h2]⟩,e.symm⟩
    · right
      rw [if_pos hc,e]
      simp
inductive Path (s:State) (g:Nat) (f:Flow):Nat→List Nat→Prop
  | last:Path s g f (2 * g) []
  | step {x y:Nat} {p:List Nat}:x≠2 * g→y∈ahead s g f x→Path s g f y p→Path s g f x (y :: p)
structure Mid (s:State) (g:Nat) (f0 f:Flow) (th:Nat→Nat) (cur:Nat) (v:Nat) (rem:List Nat):Prop where
  lt:cur < 2 * size s
  ng:cur≠2 * g + 1
  arc:∀ t∈f,ArcOk s g t
  cin:∀ a,isBase s a=false→a≠g→inOf f a=th a + if cur=2 * a then 1 else 0
  cout:∀ a,isBase s a=false→a≠g→th a=outOf f a + if cur=2 * a + 1 then 1 else 0
  cap:∀ a,fillable s a=true→a≠g→th a≤(nodeOf s a).free
  val:inOf f g=v + if cur=2 * g then 1 else 0
  agr:∀ a b,2 * a + 1∈rem→2 * b∈rem→f.count (a,b)=f0.count (a,b)
  agt:∀ a,2 * a∈rem→2 * a + 1∈rem→th a=outOf f0 a
theorem along_ok {s:State} {g:Nat} {f0:Flow} (h0:Fl s g f0) (hirr:∀ a,joined s a a=false):∀ (p:List Nat) (x:Nat) (f:Flow) (th:Nat→Nat) (v:Nat),
    Path s g f0 x p→(x :: p).Nodup→Mid s g f0 f th x v (x :: p)→Fl s g (along (x :: p) f)∧inOf (along (x :: p) f) g=v + 1
  | [],x,f,th,v,hp,nd,m=>by
    cases hp
    show Fl s g f∧inOf f g=v + 1
    refine ⟨⟨m.arc,fun a hb hne=>?_,fun a hf hne=>?_⟩,by rw [m.val,if_pos rfl]⟩
    · have h1:=m.cin a hb hne
      have h2:=m.cout a hb hne
      rw [if_neg (by omega)] at h1 h2
      omega
    · have hb:isBase s a=false:=by
        cases q:isBase s a with
        | false=>rfl
        | true=>rw [isBase_fillable q] at hf;cases hf
      have h2:=m.cout a hb hne
      rw [if_neg (by omega)] at h2
      have:=m.cap a hf hne
      omega
  | y :: r,x,f,th,v,hp,nd,m=>by
    cases hp with
    | step hxg hy hp =>
    obtain ⟨hnx,nd'⟩:=List.nodup_cons.mp nd
    have sub:∀ z,z∈y :: r→z∈x :: y :: r:=fun z hz=>List.mem_cons_of_mem _ hz
    have hxm:x∈x :: y :: r:=List.mem_cons_self ..
    have hym:y∈x :: y :: r:=List.mem_cons_of_mem _ (List.mem_cons_self ..)
    rcases Nat.mod_two_eq_zero_or_one x with hx | hx
    · obtain ⟨a,rfl⟩:∃ a,x=2 * a:=⟨x / 2,by omega⟩
      have hag:a≠g:=fun e=>hxg (by rw [e])
      rcases mem_ahead_in.mp hy with ⟨rfl,hc⟩ | ⟨b,hb,hm,rfl⟩
      · -- through a
        have e:along (2 * a :: (2 * a + 1) :: r) f=along ((2 * a + 1) :: r) f:=by
          show along ((2 * a + 1) :: r) _=_
          rw [if_pos (by omega)]
        rw [e]
        refine along_ok h0 hirr r (2 * a + 1) f (fun c=>if c=a then th a + 1 else th c) v hp nd' ⟨?_,?_,m.arc,fun c hb hne=>?_,fun c hb hne=>?_,fun c hf hne=>?_,?_,fun c d h1 h2=>m.agr c d (sub _ h1) (sub _ h2),fun c h1 h2=>?_⟩
        · have:=m.lt;omega
        · omega
        · have h1:=m.cin c hb hne
          by_cases q:c=a
          · subst q;rw [if_pos rfl] at h1;rw [if_pos rfl,if_neg (by omega)];omega
          · rw [if_neg (by omega)] at h1;rw [if_neg q,if_neg (by omega)];omega
        · have h1:=m.cout c hb hne
          by_cases q:c=a
          · subst q;rw [if_neg (by omega)] at h1;rw [if_pos rfl,if_pos rfl];omega
          · rw [if_neg (by omega)] at h1;rw [if_neg q,if_neg (by omega)];omega
        · by_cases q:c=a
          · subst q
            skip
            rw [if_pos rfl,m.agt c hxm hym]
            rcases hc with hc | hc
            · rw [hf] at hc;cases hc
            · omega
          · rw [if_neg q];exact m.cap c hf hne
        · have h1:=m.val
          rw [if_neg (by omega)] at h1
          rw [if_neg (by omega)];omega
        · have q:c≠a:=fun e=>hnx (e ▸ h1)
          rw [if_neg q];exact m.agt c (sub _ h1) (sub _ h2)
      · -- back from a to b
        have hab:b≠a:=fun e=>by
          have:=(h0.arc _ hm).jn
          rw [e,hirr] at this;cases this
        have e:along (2 * a :: (2 * b + 1) :: r) f=along ((2 * b + 1) :: r) (f.erase (b,a)):=by
          show along ((2 * b + 1) :: r) (if 2 * a / 2=(2 * b + 1) / 2 then f else if 2 * a % 2=1 then _ else f.erase ((2 * b + 1) / 2,2 * a / 2))=_
          rw [if_neg (by omega),if_neg (by omega),show (2 * b + 1) / 2=b by omega,show 2 * a / 2=a by omega]
        rw [e]
        have hmf:(b,a)∈f:=by
          apply List.count_pos_iff.mp
          rw [m.agr b a hym hxm]
          exact List.count_pos_iff.mpr hm
        refine along_ok h0 hirr r (2 * b + 1) _ th v hp nd' ⟨?_,?_,fun t ht=>m.arc t (List.mem_of_mem_erase ht),fun c hb hne=>?_,fun c hb hne=>?_,m.cap,?_,fun c d h1 h2=>?_,fun c h1 h2=>m.agt c (sub _ h1) (sub _ h2)⟩
        · omega
        · have:=(h0.arc _ hm).ng
          dsimp only at this
          omega
        · have h1:=m.cin c hb hne
          have h2:=inOf_erase hmf c
          dsimp only at h2
          by_cases q:c=a
          · subst q;rw [if_pos rfl] at h1 h2;rw [if_neg (by omega)];omega
          · rw [if_neg (by omega)] at h1;rw [if_neg (by omega)] at h2;rw [if_neg (by omega)];omega
        · have h1:=m.cout c hb hne
          have h2:=outOf_erase hmf c
          dsimp only at h2
          rw [if_neg (by omega)] at h1
          by_cases q:c=b
          · subst q;rw [if_pos rfl] at h2;rw [if_pos rfl];omega
          · rw [if_neg (by omega)] at h2;rw [if_neg (by omega)];omega
        · have h1:=m.val
          have h2:=inOf_erase hmf g
          dsimp only at h2
          rw [if_neg (by omega)] at h1
          rw [if_neg hag] at h2
          rw [if_neg (by omega)];omega
        · have q:(c,d)≠(b,a):=fun e=>by
            have:d=a:=congrArg Prod.snd e
            exact hnx (this ▸ h2)
          rw [List.count_erase_of_ne q]
          exact m.agr c d (sub _ h1) (sub _ h2)
    · obtain ⟨a,rfl⟩:∃ a,x=2 * a + 1:=⟨x / 2,by omega⟩
      have hag:a≠g:=fun e=>m.ng (by rw [e])
      rcases mem_ahead_out.mp hy with ⟨b,hb,hj,hnb,hsh,rfl⟩ | ⟨rfl,hnb,hpos⟩
      · -- on from a to b
        have hab:a≠b:=fun e=>by rw [e,hirr] at hj;cases hj
        have e:along ((2 * a + 1) :: 2 * b :: r) f=along (2 * b :: r) ((a,b) :: f):=by
          show along (2 * b :: r) (if (2 * a + 1) / 2=2 * b / 2 then f else if (2 * a + 1) % 2=1 then ((2 * a + 1) / 2,2 * b / 2) :: f else _)=_
          rw [if_neg (by omega),if_pos (by omega),show (2 * a + 1) / 2=a by omega,show 2 * b / 2=b by omega]
        rw [e]
        have hlt:=m.lt
        refine along_ok h0 hirr r (2 * b) _ th v hp nd' ⟨by omega,by omega,fun t ht=>?_,fun c hb hne=>?_,fun c hb hne=>?_,m.cap,?_,fun c d h1 h2=>?_,fun c h1 h2=>m.agt c (sub _ h1) (sub _ h2)⟩
        · rcases List.mem_cons.mp ht with e | ht
          · subst e
            exact ⟨by dsimp only;omega,hb,hj,hnb,hsh,hag⟩
          · exact m.arc t ht
        · have h1:=m.cin c hb hne
          rw [inOf_cons]
          dsimp only
          rw [if_neg (by omega)] at h1
          by_cases q:b=c
          · subst q;rw [if_pos rfl,if_pos rfl];omega
          · rw [if_neg q,if_neg (by omega)];omega
        · have h1:=m.cout c hb hne
          rw [outOf_cons]
          dsimp only
          by_cases q:a=c
          · subst q;rw [if_pos rfl] at h1;rw [if_pos rfl,if_neg (by omega)];omega
          · rw [if_neg (by omega)] at h1;rw [if_neg q,if_neg (by omega)];omega
        · have h1:=m.val
          rw [if_neg (by omega)] at h1
          rw [inOf_cons]
          dsimp only
          by_cases q:b=g
          · subst q;rw [if_pos rfl,if_pos rfl];omega
          · rw [if_neg q,if_neg (by omega)];omega
        · have q:(a,b)≠(c,d):=fun e=>by
            have:a=c:=congrArg Prod.fst e
            exact hnx (this ▸ h1)
          rw [List.count_cons_of_ne q]
          exact m.agr c d (sub _ h1) (sub _ h2)
      · -- back through a
        have e:along ((2 * a + 1) :: 2 * a :: r) f=along (2 * a :: r) f:=by
          show along (2 * a :: r) _=_
          rw [if_pos (by omega)]
        rw [e]
        have hth:th a=outOf f0 a:=m.agt a hym hxm
        have hlt:=m.lt
        refine along_ok h0 hirr r (2 * a) f (fun c=>if c=a then th a - 1 else th c) v hp nd' ⟨by omega,by omega,m.arc,fun c hb hne=>?_,fun c hb hne=>?_,fun c hf hne=>?_,?_,fun c d h1 h2=>m.agr c d (sub _ h1) (sub _ h2),fun c h1 h2=>?_⟩
        · have h1:=m.cin c hb hne
          rw [if_neg (by omega)] at h1
          by_cases q:c=a
          · subst q;rw [if_pos rfl,if_pos rfl];omega
          · rw [if_neg q,if_neg (by omega)];omega
        · have h1:=m.cout c hb hne
          by_cases q:c=a
          · subst q;rw [if_pos rfl] at h1;rw [if_pos rfl,if_neg (by omega)];omega
          · rw [if_neg (by omega)] at h1;rw [if_neg q,if_neg (by omega)];omega
        · have h1:=m.cap c hf hne
          skip
          by_cases q:c=a
          · subst q;rw [if_pos rfl];omega
          · rw [if_neg q];exact h1
        · have h1:=m.val
          rw [if_neg (by omega)] at h1
          rw [if_neg (by omega)];omega
        · have q:c≠a:=fun e=>hnx (e ▸ h2)
          rw [if_neg q];exact m.agt c (sub _ h1) (sub _ h2)
theorem augment {s:State} {g:Nat} {f:Flow} (h:Fl s g f) (hirr:∀ a,joined s a a=false) (hgb:isBase s g=false) {x:Nat} {p:List Nat} (hx:x∈(bases s).map fun a=>2 * a + 1) (hp:Path s g f x p) (nd:(x :: p).Nodup) :
    Fl s g (along (x :: p) f)∧inOf (along (x :: p) f) g=inOf f g + 1:=by
  obtain ⟨b,hb,rfl⟩:=List.mem_map.mp hx
  obtain ⟨hbl,hbb⟩:=mem_bases.mp hb
  have hne:∀ a,isBase s a=false→b≠a:=fun a ha e=>by rw [← e,hbb] at ha;cases ha
  refine along_ok h hirr p _ f (outOf f) (inOf f g) hp nd ⟨by omega,fun e=>hne g hgb (by omega),h.arc,fun a ha hag=>?_,fun a ha hag=>?_,h.cap,?_,fun _ _ _ _=>rfl,fun _ _ _=>rfl⟩
  · rw [if_neg (by omega),h.cons a ha hag];omega
  · have:=hne a ha
    rw [if_neg (by omega)];omega
  · rw [if_neg (by omega)];omega
end Th
end
section
namespace Th
open Vbsgad
theorem seek_sub (s:State) (g:Nat) (f:Flow):∀ (k:Nat) (l seen:List Nat),∀ z∈seen,z∈(seek s g f k l seen).2
  | 0,_,_,z,h=>h
  | _ + 1,[],_,z,h=>h
  | k + 1,x :: r,seen,z,h=>by
    unfold seek
    split
    · exact seek_sub s g f k r seen z h
    · split
      · exact h
      · have h1:=seek_sub s g f k (ahead s g f x) (x :: seen) z (List.mem_cons_of_mem _ h)
        dsimp only
        split
        · exact h1
        · exact seek_sub s g f k r _ z h1
theorem seek_some (s:State) (g:Nat) (f:Flow):∀ (k:Nat) (l seen q:List Nat),(seek s g f k l seen).1=some q →
    ∃ x p,q=x :: p∧x∈l∧Path s g f x p∧q.Nodup∧∀ z∈q,z ∉ seen
  | 0,_,_,q,h=>by cases h
  | _ + 1,[],_,q,h=>by cases h
  | k + 1,x :: r,seen,q,h=>by
    unfold seek at h
    split at h
    · obtain ⟨y,p,e,hy,hp,nd,hz⟩:=seek_some s g f k r seen q h
      exact ⟨y,p,e,List.mem_cons_of_mem _ hy,hp,nd,hz⟩
    · rename_i hns
      have hns':x ∉ seen:=fun z=>hns (List.contains_iff_mem.mpr z)
      split at h
      · rename_i e
        cases h
        refine ⟨x,[],rfl,List.mem_cons_self ..,by rw [e];exact .last,by simp,fun z hz=>?_⟩
        simp at hz
        rw [hz];exact hns'
      · rename_i hxg
        dsimp only at h
        split at h
        · rename_i p hp
          cases h
          obtain ⟨y,p',e,hy,hpp,nd,hz⟩:=seek_some s g f k _ _ p hp
          subst e
          refine ⟨x,y :: p',rfl,List.mem_cons_self ..,.step hxg hy hpp,List.nodup_cons.mpr ⟨fun hx=>hz x hx (List.mem_cons_self ..),nd⟩,fun z hzz=>?_⟩
          rcases List.mem_cons.mp hzz with e | hzz
          · rw [e];exact hns'
          · exact fun q=>hz z hzz (List.mem_cons_of_mem _ q)
        · obtain ⟨y,p,e,hy,hp,nd,hz⟩:=seek_some s g f k r _ q h
          refine ⟨y,p,e,List.mem_cons_of_mem _ hy,hp,nd,fun z hzq hzs=>hz z hzq ?_⟩
          exact seek_sub s g f k _ _ z (List.mem_cons_of_mem _ hzs)
def unseen (n:Nat) (seen:List Nat):Nat:=(List.range n).countP fun z=>!seen.contains z
theorem unseen_le {n:Nat} {l m:List Nat} (h:∀ z∈l,z∈m):unseen n m≤unseen n l:=by
  unfold unseen
  apply List.countP_mono_left
  intro x _ hx
  simp at hx ⊢
  exact fun q=>hx (h x q)
theorem unseen_cons {n x:Nat} {l:List Nat} (hx:x < n) (hn:x ∉ l):unseen n (x :: l) + 1≤unseen n l:=by
  unfold unseen
  apply countP_lt
  · intro y _ hy
    simp at hy ⊢
    exact hy.2
  · exact ⟨x,List.mem_range.mpr hx,by simpa using hn,by simp⟩
theorem ahead_len (s:State) (g:Nat) (f:Flow) (x:Nat):(ahead s g f x).length≤size s + 1:=by
  unfold ahead
  dsimp only
  have h1:∀ p:Nat→Bool,((List.range (size s)).filter p).length≤size s:=fun p=>by
    have:=List.length_filter_le p (List.range (size s))
    rw [List.length_range] at this
    exact this
  split
  · rw [List.length_append,List.length_map]
    have:=h1 fun b=>f.contains (b,x / 2)
    split
    · simp only [List.length_cons,List.length_nil];omega
    · simp only [List.length_nil];omega
  · rw [List.length_append,List.length_map]
    have h2:=List.length_filter_le (fun b=>!isBase s b && (b == g || !shut s b)) (near s (x / 2))
    have h3:=h1 (joined s (x / 2))
    have h4:(near s (x / 2)).length≤size s:=h3
    split
    · simp only [List.length_cons,List.length_nil];omega
    · simp only [List.length_nil];omega
theorem ahead_lt {s:State} {g:Nat} {f:Flow} {x y:Nat} (hx:x < 2 * size s) (hy:y∈ahead s g f x):y < 2 * size s:=by
  rcases Nat.mod_two_eq_zero_or_one x with h | h
  · obtain ⟨a,rfl⟩:∃ a,x=2 * a:=⟨x / 2,by omega⟩
    rcases mem_ahead_in.mp hy with ⟨rfl,_⟩ | ⟨b,hb,_,rfl⟩ <;> omega
  · obtain ⟨a,rfl⟩:∃ a,x=2 * a + 1:=⟨x / 2,by omega⟩
    rcases mem_ahead_out.mp hy with ⟨b,hb,_,_,_,rfl⟩ | ⟨rfl,_⟩ <;> omega
theorem seek_none (s:State) (g:Nat) (f:Flow):∀ (k:Nat) (l seen:List Nat),(∀ x∈l,x < 2 * size s)→unseen (2 * size s) seen * (size s + 2) + l.length≤k→(seek s g f k l seen).1=none →
    (∀ x∈l,x∈(seek s g f k l seen).2)∧∀ x∈(seek s g f k l seen).2,x ∉ seen→x≠2 * g∧x < 2 * size s∧∀ z∈ahead s g f x,z∈(seek s g f k l seen).2
  | 0,l,seen,hl,hk,h=>by
    have e:l=[]:=by
      cases l with
      | nil=>rfl
      | cons a r=>simp at hk
    subst e
    exact ⟨fun _ h=>(nomatch h),fun x h1 h2=>absurd h1 h2⟩
  | k + 1,[],seen,hl,hk,h=>⟨fun _ h=>(nomatch h),fun x h1 h2=>absurd h1 h2⟩
  | k + 1,x :: r,seen,hl,hk,h=>by
    have hlr:∀ y∈r,y < 2 * size s:=fun y hy=>hl y (List.mem_cons_of_mem _ hy)
    have hx:x < 2 * size s:=hl x (List.mem_cons_self ..)
    rw [List.length_cons] at hk
    by_cases hs:seen.contains x=true
    · have e:seek s g f (k + 1) (x :: r) seen=seek s g f k r seen:=by
        conv=>lhs;unfold seek
        rw [if_pos hs]
      rw [e] at h ⊢
      obtain ⟨h1,h2⟩:=seek_none s g f k r seen hlr (by omega) h
      refine ⟨fun y hy=>?_,h2⟩
      rcases List.mem_cons.mp hy with e | hy
      · rw [e];exact seek_sub s g f k r seen x (List.contains_iff_mem.mp hs)
      · exact h1 y hy
    · have hns:x ∉ seen:=fun z=>hs (List.contains_iff_mem.mpr z)
      by_cases hg:x=2 * g
      · have e:seek s g f (k + 1) (x :: r) seen=(some [x],seen):=by
          conv=>lhs;unfold seek
          rw [if_neg hs,if_pos hg]
        rw [e] at h
        cases h
      · have e:seek s g f (k + 1) (x :: r) seen=match (seek s g f k (ahead s g f x) (x :: seen)).1 with
            | some p=>(some (x :: p),(seek s g f k (ahead s g f x) (x :: seen)).2)
            | none=>seek s g f k r (seek s g f k (ahead s g f x) (x :: seen)).2:=by
          conv=>lhs;unfold seek
          rw [if_neg hs,if_neg hg] <;> rfl
        cases e1:(seek s g f k (ahead s g f x) (x :: seen)).1 with
        | some p =>
          rw [e1] at e
          rw [e] at h
          cases h
        | none =>
          rw [e1] at e
          dsimp only at e
          rw [e] at h ⊢
          have hu:=unseen_cons (n:=2 * size s) hx hns
          have hm:(unseen (2 * size s) (x :: seen) + 1) * (size s + 2)≤unseen (2 * size s) seen * (size s + 2):=Nat.mul_le_mul_right _ hu
          rw [Nat.add_mul] at hm
          have ha:=ahead_len s g f x
          obtain ⟨a1,a2⟩:=seek_none s g f k (ahead s g f x) (x :: seen) (fun y hy=>ahead_lt hx hy) (by omega) e1
          have hsub:=seek_sub s g f k (ahead s g f x) (x :: seen)
          have hu2:unseen (2 * size s) (seek s g f k (ahead s g f x) (x :: seen)).2≤unseen (2 * size s) seen:=unseen_le fun z hz=>hsub z (List.mem_cons_of_mem _ hz)
          have hm2:unseen (2 * size s) (seek s g f k (ahead s g f x) (x :: seen)).2 * (size s + 2)≤unseen (2 * size s) seen * (size s + 2):=Nat.mul_le_mul_right _ hu2
          obtain ⟨b1,b2⟩:=seek_none s g f k r (seek s g f k (ahead s g f x) (x :: seen)).2 hlr (by omega) h
          have hsub2:=seek_sub s g f k r (seek s g f k (ahead s g f x) (x :: seen)).2
          refine ⟨fun y hy=>?_,fun y hy hyn=>?_⟩
          · rcases List.mem_cons.mp hy with e | hy
            · rw [e];exact hsub2 x (hsub x (List.mem_cons_self ..))
            · exact b1 y hy
          · by_cases q:y∈(seek s g f k (ahead s g f x) (x :: seen)).2
            · by_cases q2:y=x
              · subst q2
                exact ⟨hg,hx,fun z hz=>hsub2 z (a1 z hz)⟩
              · obtain ⟨c1,c2,c3⟩:=a2 y q (fun z=>by rcases List.mem_cons.mp z with e | z;exact q2 e;exact hyn z)
                exact ⟨c1,c2,fun z hz=>hsub2 z (c3 z hz)⟩
            · exact b2 y hy q
structure Wf (s:State):Prop where
  sz:size s≤24
  irr:∀ a,joined s a a=false
theorem Wf.filled {s:State} (h:Wf s) (f:List Nat):Wf (filled s f):=⟨by rw [filled_size];exact h.sz,fun a=>h.irr a⟩
theorem fillUp_ok {s:State} (wf:Wf s) {g:Nat} (hg:g < size s) (hb:isBase s g=false) {F:Nat→Bool} (c:Cut s g F):∀ (k:Nat) (f:Flow) (n:Nat),Fl s g f→inOf f g=n→price s F + 1≤(k:Int) + n→MinPrice s g (fillUp s g k f n)
  | 0,f,n,h,e,hk=>by
    exfalso
    have:=(h.ok hg hb).le_cut c
    omega
  | k + 1,f,n,h,e,hk=>by
    unfold fillUp
    split
    · rename_i p hp
      obtain ⟨x,q,rfl,hx,hpath,nd,_⟩:=seek_some s g f FUEL _ _ p hp
      obtain ⟨h1,h2⟩:=augment h wf.irr hb hx hpath nd
      exact fillUp_ok wf hg hb c k _ (n + 1) h1 (by rw [h2,e]) (by omega)
    · rename_i hn
      have hb0:∀ x∈(bases s).map (fun a=>2 * a + 1),x < 2 * size s:=fun x hx=>by
        obtain ⟨b,hb,rfl⟩:=List.mem_map.mp hx
        have:=bases_lt b hb
        omega
      have hfuel:unseen (2 * size s) [] * (size s + 2) + ((bases s).map (fun a=>2 * a + 1)).length≤FUEL:=by
        have h1:unseen (2 * size s) []≤2 * size s:=by
          have:=List.countP_le_length (p:=fun z=>!([]:List Nat).contains z) (l:=List.range (2 * size s))
          rw [List.length_range] at this
          exact this
        have h2:((bases s).map (fun a=>2 * a + 1)).length≤size s:=by
          rw [List.length_map]
          have:=List.length_filter_le (isBase s) (List.range (size s))
          rw [List.length_range] at this
          exact this
        have h3:=wf.sz
        have h4:unseen (2 * size s) [] * (size s + 2)≤48 * 26:=Nat.mul_le_mul (by omega) (by omega)
        have:FUEL=10000:=rfl
        omega
      obtain ⟨a1,a2⟩:=seek_none s g f FUEL _ [] hb0 hfuel hn
      have hs:=h.ok hg hb
      have harc2:∀ t∈f,t.2 < size s:=fun t ht=>(h.arc t ht).l2
      rw [← e]
      refine MinPrice.of_flow hs (I:=fun a=>2 * a∈(seek s g f FUEL ((bases s).map fun a=>2 * a + 1) []).2) (O:=fun a=>2 * a + 1∈(seek s g f FUEL ((bases s).map fun a=>2 * a + 1) []).2) ⟨fun a ha hab=>?_,fun z=>?_,fun a b ha hO hj hbl hbb hsh=>?_,fun a ha hI hc=>?_,fun a b ha hI hp=>?_,fun a ha hO hnb hp=>?_⟩
      · exact a1 _ (List.mem_map.mpr ⟨a,mem_bases.mpr ⟨ha,hab⟩,rfl⟩)
      · exact (a2 _ z (by simp)).1 rfl
      · exact (a2 _ hO (by simp)).2.2 _ (mem_ahead_out.mpr (.inl ⟨b,hbl,hj,hbb,hsh,rfl⟩))
      · refine (a2 _ hI (by simp)).2.2 _ (mem_ahead_in.mpr (.inl ⟨rfl,?_⟩))
        rw [sm_count_out _ _ _ harc2] at hc
        rcases hc with q | q
        · exact .inl q
        · exact .inr (by omega)
      · have hm:(b,a)∈f:=List.count_pos_iff.mp (by omega)
        exact (a2 _ hI (by simp)).2.2 _ (mem_ahead_in.mpr (.inr ⟨b,(h.arc _ hm).l1,hm,rfl⟩))
      · rw [sm_count_out _ _ _ harc2] at hp
        exact (a2 _ hO (by simp)).2.2 _ (mem_ahead_out.mpr (.inr ⟨rfl,hnb,by omega⟩))
theorem Rch.mono_lt {s:State} {t t':Nat→Bool} {l:List Nat} (hl:∀ x∈l,x < size s) (ht:∀ x,x < size s→t x=true→t' x=true) {x:Nat} (h:Rch s t l x):Rch s t' l x:=by
  induction h with
  | base h=>exact .base h
  | step h1 h2 h3 h4 ih=>exact .step ih (ht _ (h1.lt hl) h2) h3 h4
def most (s:State) (g:Nat):Nat→Bool:=fun a=>fillable s a && a != g
theorem most_eq (s:State) (g a:Nat):(!shut s a && (!fillable s a || a == g))=(!shut s a && !most s g a):=by
  unfold most
  cases shut s a <;> cases fillable s a <;> simp [bne]
theorem open_iff {s:State} {g:Nat}:open_ s g=true↔¬ Cut s g (most s g):=by
  unfold open_
  rw [List.contains_iff_mem,mem_spread bases_lt]
  constructor
  · intro h c
    exact c.cut (h.mono_lt bases_lt fun x _ hx=>by rw [← most_eq];exact hx)
  · intro h
    apply Classical.byContradiction
    intro hn
    exact h ⟨fun a _ hm=>by unfold most at hm;simpa using hm,fun hr=>hn (hr.mono_lt bases_lt fun x _ hx=>by rw [most_eq];exact hx)⟩
theorem Cut.most {s:State} {g:Nat} {F:Nat→Bool} (c:Cut s g F):Cut s g (most s g) :=
  ⟨fun a _ hm=>by unfold Th.most at hm;simpa using hm,fun hr=>c.cut (hr.mono_lt bases_lt fun x hx h=>by
    simp at h ⊢
    refine ⟨h.1,?_⟩
    cases q:F x with
    | false=>rfl
    | true =>
      obtain ⟨h1,h2⟩:=c.fil x hx q
      have:=h.2
      unfold Th.most at this
      simp [h1] at this
      exact absurd this h2)⟩
theorem Cut.nobase {s:State} {g:Nat} {F:Nat→Bool} (hg:g < size s) (c:Cut s g F):isBase s g=false:=by
  cases q:isBase s g with
  | false=>rfl
  | true=>exact absurd (.base (mem_bases.mpr ⟨hg,q⟩)) c.cut
theorem fillables_places (s:State) (g:Nat):(places s (fillables s g):Int)=price s (most s g) :=
  sum_filter_range _ _ _
theorem least_none {s:State} {g:Nat}:least s g=none↔∀ F,¬ Cut s g F:=by
  unfold least
  split
  · rename_i h
    exact ⟨fun _ F c=>open_iff.mp h c.most,fun _=>rfl⟩
  · rename_i h
    exact ⟨fun q=>(nomatch q),fun q=>absurd (open_iff.mpr (q _)) h⟩
theorem least_some {s:State} (wf:Wf s) {g:Nat} (hg:g < size s) {n:Nat}:least s g=some n↔MinPrice s g n:=by
  unfold least
  split
  · rename_i h
    refine ⟨fun q=>(nomatch q),fun q=>?_⟩
    obtain ⟨⟨F,c,_⟩,_⟩:=q
    exact absurd c.most (open_iff.mp h)
  · rename_i h
    have c:Cut s g (most s g):=Classical.byContradiction fun q=>h (open_iff.mpr q)
    have:=fillUp_ok wf hg (c.nobase hg) c (places s (fillables s g) + 1) [] 0 Fl.nil rfl (by have:=fillables_places s g;omega)
    constructor
    · intro e
      cases e
      exact this
    · intro m
      have:=m.unique this
      congr 1
      omega
end Th
end
section
namespace Th
open Vbsgad
structure NodeOk (x:Node):Prop where
  fr:x.free≤4
  jt:x.halt_=false→x.free=0∧x.base=false
structure Wfs (s:State):Prop where
  sz:s.nodes.length≤24
  ll:s.lines.length≤48
  nod:∀ x∈s.nodes,NodeOk x
  lin:∀ l∈s.lines,l.1 < s.nodes.length∧l.2 < s.nodes.length∧l.1≠l.2
theorem Wfs.wf {s:State} (h:Wfs s):Wf s:=⟨h.sz,fun a=>by
  unfold joined
  rw [List.any_eq_false]
  intro l hl
  obtain ⟨_,_,hne⟩:=h.lin l hl
  simp
  omega⟩
theorem Wfs.start:Wfs start:=⟨by decide,by decide,fun _ h=>(nomatch h),fun _ h=>(nomatch h)⟩
theorem nodeOf_lt {s:State} {a:Nat} {x:Node} (h:s.nodes[a]?=some x):nodeOf s a=x:=by
  unfold nodeOf
  rw [List.getD_eq_getElem?_getD,h]
  rfl
theorem within_iff {n lo hi:Int}:within n lo hi=true↔lo≤n∧n≤hi:=by
  unfold within
  exact decide_eq_true_iff
theorem nodeGot_ok {s:State} {a:Int} (h:0≤a∧a < (size s:Int)):nodeGot s a=.ok a.toNat:=if_pos h
theorem nodeGot_no {s:State} {a:Int} (h:¬ (0≤a∧a < (size s:Int))):nodeGot s a=.error (-1):=if_neg h
theorem Wfs.step {s:State} (h:Wfs s) (c:Call):Wfs (step s c).1:=by
  cases c with
  | node st f b =>
    unfold Vbsgad.step
    dsimp only
    split
    · exact h
    · rename_i h1
      split
      · exact h
      · rename_i h2
        simp only [not_or] at h1
        obtain ⟨h3,h4⟩:=h1
        have h3':within st 0 1=true∧within f 0 PLACES=true∧within b 0 1=true:=by simpa using h3
        obtain ⟨e1,e2,e3⟩:=h3'
        rw [within_iff] at e1 e2 e3
        have hp:PLACES=4:=rfl
        have hN:NODES=24:=rfl
        refine ⟨?_,h.ll,fun x hx=>?_,fun l hl=>?_⟩
        · show (s.nodes++[_]).length≤24
          rw [List.length_append,List.length_singleton]
          have:size s=s.nodes.length:=rfl
          omega
        · rcases List.mem_append.mp hx with hx | hx
          · exact h.nod x hx
          · rw [List.mem_singleton] at hx
            subst hx
            refine ⟨by show f.toNat≤4;omega,fun q=>?_⟩
            have q':(st == 1)=false:=q
            have:st=0:=by
              have:st≠1:=by simpa using q'
              omega
            have h5:f=0∧b=0:=by
              by_cases z1:f=0
              · by_cases z2:b=0
                · exact ⟨z1,z2⟩
                · exact absurd ⟨this,.inr z2⟩ h4
              · exact absurd ⟨this,.inl z1⟩ h4
            refine ⟨by show f.toNat=0;omega,?_⟩
            show (b == 1)=false
            rw [h5.2];rfl
        · obtain ⟨q1,q2,q3⟩:=h.lin l hl
          refine ⟨?_,?_,q3⟩
          · show l.1 < (s.nodes++[_]).length
            rw [List.length_append];omega
          · show l.2 < (s.nodes++[_]).length
            rw [List.length_append];omega
  | line a b =>
    unfold Vbsgad.step
    dsimp only
    by_cases ha:0≤a∧a < (size s:Int)
    · rw [nodeGot_ok ha]
      by_cases hb:0≤b∧b < (size s:Int)
      · rw [nodeGot_ok hb]
        show Wfs (change s (if a.toNat=b.toNat then _ else _)).1
        split
        · exact h
        · split
          · exact h
          · split
            · exact h
            · rename_i h1 h2 h3
              have hL:LINES=48:=rfl
              refine ⟨h.sz,?_,h.nod,fun l hl=>?_⟩
              · show (s.lines++[_]).length≤48
                rw [List.length_append,List.length_singleton]
                omega
              · rcases List.mem_append.mp hl with hl | hl
                · exact h.lin l hl
                · rw [List.mem_singleton] at hl
                  subst hl
                  have:size s=s.nodes.length:=rfl
                  exact ⟨by show a.toNat < s.nodes.length;omega,by show b.toNat < s.nodes.length;omega,h1⟩
      · rw [nodeGot_no hb];exact h
    · rw [nodeGot_no ha];exact h
  | set a f b =>
    unfold Vbsgad.step
    dsimp only
    by_cases ha:0≤a∧a < (size s:Int)
    · rw [nodeGot_ok ha]
      show Wfs (change s (if _ then _ else _)).1
      split
      · exact h
      · split
        · exact h
        · rename_i h1 h2
          have h3:within f 0 PLACES=true∧within b 0 1=true:=by simpa using h1
          obtain ⟨e2,e3⟩:=h3
          rw [within_iff] at e2 e3
          have hp:PLACES=4:=rfl
          refine ⟨?_,h.ll,fun x hx=>?_,fun l hl=>?_⟩
          · show (s.nodes.set _ _).length≤24
            rw [List.length_set];exact h.sz
          · rcases List.mem_or_eq_of_mem_set hx with hx | hx
            · exact h.nod x hx
            · subst hx
              exact ⟨by show f.toNat≤4;omega,fun q=>by cases q⟩
          · have:=h.lin l hl
            show l.1 < (s.nodes.set _ _).length∧l.2 < (s.nodes.set _ _).length∧_
            rw [List.length_set];exact this
    · rw [nodeGot_no ha];exact h
  | unline k =>
    unfold Vbsgad.step
    dsimp only
    unfold lineGot
    split
    · refine ⟨h.sz,?_,h.nod,fun l hl=>h.lin l (List.mem_of_mem_eraseIdx hl)⟩
      show (s.lines.eraseIdx _).length≤48
      have:=List.length_eraseIdx_le s.lines k.toNat
      have:=h.ll
      omega
    · exact h
  | clear=>exact Wfs.start
  | fill a =>
    unfold Vbsgad.step
    dsimp only
    by_cases ha:0≤a∧a < (size s:Int)
    · rw [nodeGot_ok ha]
      show Wfs (change s (if _ then _ else _)).1
      split
      · exact h
      · rename_i h1
        have hl:a.toNat < s.nodes.length:=by have:size s=s.nodes.length:=rfl;omega
        have hx:=h.nod _ (List.getElem_mem hl)
        have e:nodeOf s a.toNat=s.nodes[a.toNat]:=nodeOf_lt (List.getElem?_eq_getElem hl)
        refine ⟨?_,h.ll,fun x hx'=>?_,fun l hl=>?_⟩
        · show (s.nodes.set _ _).length≤24
          rw [List.length_set];exact h.sz
        · rcases List.mem_or_eq_of_mem_set hx' with hx' | hx'
          · exact h.nod x hx'
          · subst hx'
            rw [e]
            refine ⟨?_,fun q=>?_⟩
            · have:=hx.fr
              dsimp only
              omega
            · have:=hx.jt q
              dsimp only
              exact ⟨by omega,this.2⟩
        · have:=h.lin l hl
          show l.1 < (s.nodes.set _ _).length∧l.2 < (s.nodes.set _ _).length∧_
          rw [List.length_set];exact this
    · rw [nodeGot_no ha];exact h
  | graph=>exact h
  | reach=>exact h
  | reachIf l=>exact h
  | least g=>exact h
  | tight g=>exact h
  | nearest g=>exact h
  | furthest g=>exact h
  | cuts g l=>exact h
  | ways g l=>exact h
  | needed g=>exact h
  | all=>exact h
  | weakest=>exact h
theorem twice_iff:∀ l:List Nat,twice l=false↔l.Nodup
  | []=>by simp [twice]
  | a :: l=>by
    unfold twice
    rw [Bool.or_eq_false_iff,twice_iff l,List.nodup_cons]
    constructor
    · rintro ⟨h1,h2⟩
      exact ⟨fun h=>(by rw [List.contains_iff_mem.mpr h] at h1;cases h1),h2⟩
    · rintro ⟨h1,h2⟩
      refine ⟨?_,h2⟩
      apply Bool.eq_false_iff.mpr
      intro h
      exact h1 (List.contains_iff_mem.mp h)
end Th
end
section
namespace Th
open PyVbsgad (shape)
def shapes:List (Int × Nat × Nat):=[(0,3,0),(1,2,0),(2,3,0),(3,1,0),(4,0,0),(5,0,0),(6,1,0),(7,0,0),(8,0,1),(9,1,0),(10,1,0),(11,1,0),(12,1,0),(13,1,1),(14,1,1),(15,1,0),(16,0,0),(17,0,0)]
theorem shape_mem {p:Int} {n k:Nat} (h:shape p=some (n,k)):(p,n,k)∈shapes:=by
  by_cases h0:p=0
  · subst h0
    have e:some (3,0)=some (n,k):=h
    cases e
    decide
  by_cases h1:p=1
  · subst h1
    have e:some (2,0)=some (n,k):=h
    cases e
    decide
  by_cases h2:p=2
  · subst h2
    have e:some (3,0)=some (n,k):=h
    cases e
    decide
  by_cases h3:p=3
  · subst h3
    have e:some (1,0)=some (n,k):=h
    cases e
    decide
  by_cases h4:p=4
  · subst h4
    have e:some (0,0)=some (n,k):=h
    cases e
    decide
  by_cases h5:p=5
  · subst h5
    have e:some (0,0)=some (n,k):=h
    cases e
    decide
  by_cases h6:p=6
  · subst h6
    have e:some (1,0)=some (n,k):=h
    cases e
    decide
  by_cases h7:p=7
  · subst h7
    have e:some (0,0)=some (n,k):=h
    cases e
    decide
  by_cases h8:p=8
  · subst h8
    have e:some (0,1)=some (n,k):=h
    cases e
    decide
  by_cases h9:p=9
  · subst h9
    have e:some (1,0)=some (n,k):=h
    cases e
    decide
  by_cases h10:p=10
  · subst h10
    have e:some (1,0)=some (n,k):=h
    cases e
    decide
  by_cases h11:p=11
  · subst h11
    have e:some (1,0)=some (n,k):=h
    cases e
    decide
  by_cases h12:p=12
  · subst h12
    have e:some (1,0)=some (n,k):=h
    cases e
    decide
  by_cases h13:p=13
  · subst h13
    have e:some (1,1)=some (n,k):=h
    cases e
    decide
  by_cases h14:p=14
  · subst h14
    have e:some (1,1)=some (n,k):=h
    cases e
    decide
  by_cases h15:p=15
  · subst h15
    have e:some (1,0)=some (n,k):=h
    cases e
    decide
  by_cases h16:p=16
  · subst h16
    have e:some (0,0)=some (n,k):=h
    cases e
    decide
  by_cases h17:p=17
  · subst h17
    have e:some (0,0)=some (n,k):=h
    cases e
    decide
  exfalso
  unfold shape at h
  rw [if_neg h0,if_neg h1,if_neg h2,if_neg h3,if_neg h4,if_neg h5,if_neg h6,if_neg h7,if_neg h8,if_neg h9,if_neg h10,if_neg h11,if_neg h12,if_neg h13,if_neg h14,if_neg h15,if_neg h16,if_neg h17] at h
  cases h
theorem shape_rows {p:Int} {n k:Nat} (h:shape p=some (n,k)):k=0∨k=1:=by
  have m:=shape_mem h
  have all:∀ q∈shapes,q.2.2=0∨q.2.2=1:=by decide
  exact all _ m
inductive Read (p:Int) (r:List Int) (n k:Nat):List (List Int)→List Int→Prop
  | plain:k=0→Read p r n k [p :: r.take n] (r.drop n)
  | row {m:Int} {r2:List Int}:k=1→r.drop n=m :: r2→0≤m→m.toNat≤r2.length→Read p r n k [p :: r.take n,r2.take m.toNat] (r2.drop m.toNat)
theorem calls_step {f:Nat} {l:List Int} {cs:List (List (List Int))} (h:PyFlat.calls shape f l=some cs) :
    (l=[]∧cs=[])∨∃ p r n k c t cs' f',l=p :: r∧shape p=some (n,k)∧n≤r.length∧Read p r n k c t∧cs=c :: cs'∧PyFlat.calls shape f' t=some cs':=by
  cases l with
  | nil =>
    unfold PyFlat.calls at h
    cases h
    exact .inl ⟨rfl,rfl⟩
  | cons p r =>
    cases f with
    | zero=>unfold PyFlat.calls at h;cases h
    | succ f =>
      right
      unfold PyFlat.calls at h
      cases e:PyFlat.call shape (p :: r) with
      | none=>rw [e] at h;cases h
      | some q =>
        obtain ⟨c,t⟩:=q
        rw [e] at h
        dsimp only at h
        cases e2:PyFlat.calls shape f t with
        | none=>rw [e2] at h;cases h
        | some cs' =>
          rw [e2] at h
          cases h
          unfold PyFlat.call at e
          dsimp only at e
          cases e3:shape p with
          | none=>rw [e3] at e;cases e
          | some nk =>
            obtain ⟨n,k⟩:=nk
            rw [e3] at e
            dsimp only at e
            split at e
            · cases e
            · rename_i hl
              cases e4:PyFlat.rows k (r.drop n) with
              | none=>rw [e4] at e;cases e
              | some xt =>
                obtain ⟨xs,t'⟩:=xt
                rw [e4] at e
                cases e
                refine ⟨p,r,n,k,_,_,cs',f,rfl,e3,by omega,?_,rfl,e2⟩
                rcases shape_rows e3 with hk | hk
                · subst hk
                  unfold PyFlat.rows at e4
                  cases e4
                  exact .plain rfl
                · subst hk
                  unfold PyFlat.rows at e4
                  cases e5:r.drop n with
                  | nil=>rw [e5] at e4;unfold PyFlat.row at e4;cases e4
                  | cons m r2 =>
                    rw [e5] at e4
                    unfold PyFlat.row at e4
                    dsimp only at e4
                    by_cases hm:0≤m∧m.toNat≤r2.length
                    · rw [if_pos hm] at e4
                      dsimp only at e4
                      unfold PyFlat.rows at e4
                      cases e4
                      exact .row rfl e5 hm.1 hm.2
                    · rw [if_neg hm] at e4
                      cases e4
theorem Read.whole {p:Int} {r:List Int} {n k:Nat} {c:List (List Int)} {t:List Int} (hs:shape p=some (n,k)) (hl:n≤r.length) (h:Read p r n k c t):PyVbsgad.whole c=c:=by
  have m:=shape_mem hs
  have c3:∀ q:Int,n=3→k=0→p=q→(∀ x y z:Int,PyVbsgad.whole [[q,x,y,z]]=[[q,x,y,z]])→PyVbsgad.whole c=c:=by
    intro q hn hk hq w
    subst hn hk hq
    cases h with
    | row e=>cases e
    | plain _ =>
      match r,hl with
      | x :: y :: z :: _,_=>exact w x y z
  have c2:∀ q:Int,n=2→k=0→p=q→(∀ x y:Int,PyVbsgad.whole [[q,x,y]]=[[q,x,y]])→PyVbsgad.whole c=c:=by
    intro q hn hk hq w
    subst hn hk hq
    cases h with
    | row e=>cases e
    | plain _ =>
      match r,hl with
      | x :: y :: _,_=>exact w x y
  have c1:∀ q:Int,n=1→k=0→p=q→(∀ x:Int,PyVbsgad.whole [[q,x]]=[[q,x]])→PyVbsgad.whole c=c:=by
    intro q hn hk hq w
    subst hn hk hq
    cases h with
    | row e=>cases e
    | plain _ =>
      match r,hl with
      | x :: _,_=>exact w x
  have c0:∀ q:Int,n=0→k=0→p=q→PyVbsgad.whole [[q]]=[[q]]→PyVbsgad.whole c=c:=by
    intro q hn hk hq w
    subst hn hk hq
    cases h with
    | row e=>cases e
    | plain _=>exact w
  have r0:∀ q:Int,n=0→k=1→p=q→(∀ l:List Int,PyVbsgad.whole [[q],l]=[[q],l])→PyVbsgad.whole c=c:=by
    intro q hn hk hq w
    subst hn hk hq
    cases h with
    | plain e=>cases e
    | row _=>exact w _
  have r1:∀ q:Int,n=1→k=1→p=q→(∀ (x:Int) (l:List Int),PyVbsgad.whole [[q,x],l]=[[q,x],l])→PyVbsgad.whole c=c:=by
    intro q hn hk hq w
    subst hn hk hq
    cases h with
    | plain e=>cases e
    | row _ =>
      match r,hl with
      | x :: _,_=>exact w x _
  unfold shapes at m
  simp only [List.mem_cons,Prod.mk.injEq,List.not_mem_nil,or_false] at m
  rcases m with ⟨a,b,d⟩ | ⟨a,b,d⟩ | ⟨a,b,d⟩ | ⟨a,b,d⟩ | ⟨a,b,d⟩ | ⟨a,b,d⟩ | ⟨a,b,d⟩ | ⟨a,b,d⟩ | ⟨a,b,d⟩ | ⟨a,b,d⟩ | ⟨a,b,d⟩ | ⟨a,b,d⟩ | ⟨a,b,d⟩ | ⟨a,b,d⟩ | ⟨a,b,d⟩ | ⟨a,b,d⟩ | ⟨a,b,d⟩ | ⟨a,b,d⟩
  · exact c3 0 b d a fun _ _ _=>rfl
  · exact c2 1 b d a fun _ _=>rfl
  · exact c3 2 b d a fun _ _ _=>rfl
  · exact c1 3 b d a fun _=>rfl
  · exact c0 4 b d a rfl
  · exact c0 5 b d a rfl
  · exact c1 6 b d a fun _=>rfl
  · exact c0 7 b d a rfl
  · exact r0 8 b d a fun _=>rfl
  · exact c1 9 b d a fun _=>rfl
  · exact c1 10 b d a fun _=>rfl
  · exact c1 11 b d a fun _=>rfl
  · exact c1 12 b d a fun _=>rfl
  · exact r1 13 b d a fun _ _=>rfl
  · exact r1 14 b d a fun _ _=>rfl
  · exact c1 15 b d a fun _=>rfl
  · exact c0 16 b d a rfl
  · exact c0 17 b d a rfl
theorem calls_whole:∀ (cs:List (List (List Int))) (f:Nat) (l:List Int),PyFlat.calls shape f l=some cs→cs.map PyVbsgad.whole=cs
  | [],_,_,_=>rfl
  | c :: cs,f,l,h=>by
    rcases calls_step h with ⟨_,e⟩ | ⟨p,r,n,k,c',t,cs',f',_,hs,hl,hr,e,h'⟩
    · cases e
    · cases e
      rw [List.map_cons,hr.whole hs hl,calls_whole cs f' t h']
theorem calls_eq (l:List Int):PyVbsgad.calls l=PyFlat.calls shape l.length l:=by
  unfold PyVbsgad.calls
  cases e:PyFlat.calls shape l.length l with
  | none=>rfl
  | some cs=>exact congrArg some (calls_whole cs _ _ e)
end Th
end
section
namespace Th
open Vbsgad
def nbrs (ls:List (Nat × Nat)) (i:Nat):List Nat:=ls.flatMap fun l=>(if l.1=i then [l.2] else [])++(if l.2=i then [l.1] else [])
theorem mem_nbrs {ls:List (Nat × Nat)} {i b:Nat}:b∈nbrs ls i↔∃ l∈ls,(l.1=i∧l.2=b)∨(l.1=b∧l.2=i):=by
  unfold nbrs
  rw [List.mem_flatMap]
  constructor
  · rintro ⟨l,hl,h⟩
    refine ⟨l,hl,?_⟩
    rcases List.mem_append.mp h with h | h
    · split at h
      · rename_i e
        rw [List.mem_singleton] at h
        exact .inl ⟨e,h.symm⟩
      · cases h
    · split at h
      · rename_i e
        rw [List.mem_singleton] at h
        exact .inr ⟨h.symm,e⟩
      · cases h
  · rintro ⟨l,hl,⟨h1,h2⟩ | ⟨h1,h2⟩⟩
    · refine ⟨l,hl,List.mem_append_left _ ?_⟩
      rw [if_pos h1,h2];simp
    · refine ⟨l,hl,List.mem_append_right _ ?_⟩
      rw [if_pos h2,h1];simp
theorem joined_nbrs {s:State} {a b:Nat}:joined s a b=true↔b∈nbrs s.lines a:=by
  rw [mem_nbrs]
  unfold joined
  rw [List.any_eq_true]
  constructor
  · rintro ⟨l,hl,h⟩
    refine ⟨l,hl,?_⟩
    simpa using h
  · rintro ⟨l,hl,h⟩
    refine ⟨l,hl,?_⟩
    simpa using h
theorem nbrs_snoc (ls:List (Nat × Nat)) (l:Nat × Nat) (i:Nat):nbrs (ls++[l]) i=nbrs ls i++((if l.1=i then [l.2] else [])++(if l.2=i then [l.1] else [])):=by
  unfold nbrs
  rw [List.flatMap_append]
  simp
structure Dfs (s:State) (t:Nat→Bool) (l:List Nat) (R:Nat→Bool) (W:List Nat):Prop where
  lt:∀ x,R x=true→x < size s
  sound:∀ x,R x=true→Rch s t l x
  start:∀ x∈l,R x=true
  wait:∀ x∈W,R x=true
  shut:∀ x y,R x=true→x ∉ W→t x=true→joined s x y=true→y < size s→R y=true
theorem Dfs.done {s:State} {t:Nat→Bool} {l:List Nat} {R:Nat→Bool} (h:Dfs s t l R []) {x:Nat}:R x=true↔Rch s t l x:=by
  constructor
  · exact h.sound x
  · intro q
    induction q with
    | base q=>exact h.start _ q
    | step _ h2 h3 h4 ih=>exact h.shut _ _ ih (by simp) h2 h3 h4
def left (n:Nat) (R:Nat→Bool):Nat:=(List.range n).countP fun x=>!R x
theorem left_lt {n:Nat} {R R':Nat→Bool} (h:∀ x,R x=true→R' x=true) {y:Nat} (hy:y < n) (h1:R y=false) (h2:R' y=true):left n R' < left n R:=by
  unfold left
  apply countP_lt
  · intro x _ hx
    simp at hx ⊢
    cases q:R x with
    | false=>rfl
    | true=>rw [h x q] at hx;cases hx
  · exact ⟨y,List.mem_range.mpr hy,by simp [h1],by simp [h2]⟩
end Th
end
section
namespace Th
open Vbsgad
structure DfsX (s:State) (t:Nat→Bool) (l:List Nat) (R:Nat→Bool) (W:List Nat) (x:Nat) (done:List Nat):Prop where
  lt:∀ a,R a=true→a < size s
  sound:∀ a,R a=true→Rch s t l a
  start:∀ a∈l,R a=true
  wait:∀ a∈W,R a=true
  nd:W.Nodup
  tx:t x=true
  rx:R x=true
  shut:∀ a y,R a=true→a ∉ W→t a=true→joined s a y=true→y < size s→(a=x→y∈done)→R y=true
def mark (R:Nat→Bool) (y:Nat):Nat→Bool:=fun a=>if a=y then true else R a
theorem mark_same (R:Nat→Bool) (y:Nat):mark R y y=true:=if_pos rfl
theorem mark_true {R:Nat→Bool} {y a:Nat} (h:R a=true):mark R y a=true:=by
  unfold mark
  split
  · rfl
  · exact h
theorem mark_iff {R:Nat→Bool} {y a:Nat}:mark R y a=true↔a=y∨R a=true:=by
  unfold mark
  split
  · rename_i h;simp [h]
  · rename_i h;simp [h]
theorem Dfs.skip {s:State} {t:Nat→Bool} {l:List Nat} {R:Nat→Bool} {W:List Nat} {x:Nat} (h:Dfs s t l R (W++[x])) (hx:t x=false):Dfs s t l R W:=by
  refine ⟨h.lt,h.sound,h.start,fun a ha=>h.wait a (List.mem_append_left _ ha),fun a y h1 h2 h3 h4 h5=>?_⟩
  by_cases e:a=x
  · rw [e,hx] at h3;cases h3
  · exact h.shut a y h1 (fun q=>by
      rcases List.mem_append.mp q with q | q
      · exact h2 q
      · exact e (by simpa using q)) h3 h4 h5
theorem Dfs.enter {s:State} {t:Nat→Bool} {l:List Nat} {R:Nat→Bool} {W:List Nat} {x:Nat} (h:Dfs s t l R (W++[x])) (nd:(W++[x]).Nodup) (hx:t x=true):DfsX s t l R W x []:=by
  refine ⟨h.lt,h.sound,h.start,fun a ha=>h.wait a (List.mem_append_left _ ha),(List.nodup_append.mp nd).1,hx,h.wait x (by simp),fun a y h1 h2 h3 h4 h5 h6=>?_⟩
  by_cases e:a=x
  · cases h6 e
  · exact h.shut a y h1 (fun q=>by
      rcases List.mem_append.mp q with q | q
      · exact h2 q
      · exact e (by simpa using q)) h3 h4 h5
theorem DfsX.pass {s:State} {t:Nat→Bool} {l:List Nat} {R:Nat→Bool} {W:List Nat} {x:Nat} {done:List Nat} (h:DfsX s t l R W x done) {y:Nat} (hy:R y=true):DfsX s t l R W x (done++[y]):=by
  refine ⟨h.lt,h.sound,h.start,h.wait,h.nd,h.tx,h.rx,fun a z h1 h2 h3 h4 h5 h6=>?_⟩
  by_cases e:z=y
  · rw [e];exact hy
  · exact h.shut a z h1 h2 h3 h4 h5 fun q=>by
      rcases List.mem_append.mp (h6 q) with q | q
      · exact q
      · exact absurd (by simpa using q) e
theorem DfsX.add {s:State} {t:Nat→Bool} {l:List Nat} {R:Nat→Bool} {W:List Nat} {x:Nat} {done:List Nat} (h:DfsX s t l R W x done) {y:Nat} (hy:R y=false) (hj:joined s x y=true) (hl:y < size s):DfsX s t l (mark R y) (W++[y]) x (done++[y]):=by
  refine ⟨fun a ha=>?_,fun a ha=>?_,fun a ha=>mark_true (h.start a ha),fun a ha=>?_,?_,h.tx,mark_true h.rx,fun a z h1 h2 h3 h4 h5 h6=>?_⟩
  · rcases mark_iff.mp ha with e | ha
    · rw [e];exact hl
    · exact h.lt a ha
  · rcases mark_iff.mp ha with e | ha
    · rw [e];exact .step (h.sound x h.rx) h.tx hj hl
    · exact h.sound a ha
  · rcases List.mem_append.mp ha with q | q
    · exact mark_true (h.wait a q)
    · have:a=y:=by simpa using q
      rw [this];exact mark_same R y
  · rw [List.nodup_append]
    refine ⟨h.nd,by simp,fun a ha b hb e=>?_⟩
    have:b=y:=by simpa using hb
    rw [e,this] at ha
    rw [h.wait y ha] at hy
    cases hy
  · by_cases e:z=y
    · rw [e];exact mark_same R y
    · have ha:a≠y:=fun q=>h2 (by rw [q];simp)
      have h1':R a=true:=by
        rcases mark_iff.mp h1 with q | q
        · exact absurd q ha
        · exact q
      refine mark_true (h.shut a z h1' (fun q=>h2 (List.mem_append_left _ q)) h3 h4 h5 fun q=>?_)
      rcases List.mem_append.mp (h6 q) with q | q
      · exact q
      · exact absurd (by simpa using q) e
theorem DfsX.leave {s:State} {t:Nat→Bool} {l:List Nat} {R:Nat→Bool} {W:List Nat} {x:Nat} {done:List Nat} (h:DfsX s t l R W x done) (hd:∀ y,joined s x y=true→y∈done):Dfs s t l R W :=
  ⟨h.lt,h.sound,h.start,h.wait,fun a y h1 h2 h3 h4 h5=>h.shut a y h1 h2 h3 h4 h5 fun e=>hd y (e ▸ h4)⟩
theorem left_mark {n:Nat} {R:Nat→Bool} {y:Nat} (hy:y < n) (h:R y=false):left n (mark R y) + 1≤left n R :=
  left_lt (fun _ hx=>mark_true hx) hy h (mark_same R y)
theorem nodup_len {n:Nat} {l:List Nat} (nd:l.Nodup) (hl:∀ x∈l,x < n):l.length≤n:=by
  have:=(perm_filter_range nd hl).length_eq
  have h2:=List.length_filter_le (fun x=>l.contains x) (List.range n)
  rw [List.length_range] at h2
  omega
theorem reached_filled {s:State} {fs:List Nat} (hf:∀ x∈fs,fillable s x=true) {q:Nat→Bool} (h:∀ x,x < size s→(Rch s (fun a=>!(fs.contains a || shut s a)) (bases s) x↔q x=true)):reached (filled s fs)=(List.range (size s)).filter q:=by
  have e:=reached_eq (s:=filled s fs) (q:=q) fun x hx=>by
    rw [filled_size] at hx
    rw [← h x hx]
    have ht:∀ a,(!shut (filled s fs) a)=!(fs.contains a || shut s a):=fun a=>by
      rw [filled_shut]
      cases hc:fs.contains a with
      | false=>simp
      | true=>rw [hf a (List.contains_iff_mem.mp hc)];simp
    constructor
    · intro z
      exact Rch.mono (s:=filled s fs) (s':=s) (fun y hy=>by rw [filled_bases] at hy;exact hy) (fun y hy=>by rw [← ht];exact hy) (fun _ _=>rfl) (filled_size s fs) z
    · intro z
      exact Rch.mono (s:=s) (s':=filled s fs) (l':=bases (filled s fs)) (fun y hy=>by rw [filled_bases];exact hy) (fun y hy=>by rw [ht];exact hy) (fun _ _=>rfl) (filled_size s fs).symm z
  rw [filled_size] at e
  exact e
end Th
namespace Th
open Vbsgad
theorem bases_nodup (s:State):(bases s).Nodup:=List.Pairwise.filter _ List.nodup_range
end Th
end
section
namespace Th
open Vbsgad
def tw (a:Nat):Nat:=if a % 2=0 then a + 1 else a - 1
theorem tw_lt {a m:Nat} (h:a < 2 * m):tw a < 2 * m:=by unfold tw;split <;> omega
theorem tw_ne (a:Nat):tw a≠a:=by unfold tw;split <;> omega
structure Arc where
  (tl hd cap:Nat)
def arcAt (es:List Arc) (j:Nat):Arc:=es.getD j ⟨0,0,0⟩
def hdOf (es:List Arc) (a:Nat):Nat:=if a % 2=0 then (arcAt es (a / 2)).hd else (arcAt es (a / 2)).tl
theorem hd_even (es:List Arc) (j:Nat):hdOf es (2 * j)=(arcAt es j).hd:=by
  unfold hdOf
  rw [if_pos (by omega),show 2 * j / 2=j by omega]
theorem hd_odd (es:List Arc) (j:Nat):hdOf es (2 * j + 1)=(arcAt es j).tl:=by
  unfold hdOf
  rw [if_neg (by omega),show (2 * j + 1) / 2=j by omega]
def runs (es:List Arc) (R:Nat→Nat) (ch:Nat→Int):Int:=sm es.length fun j=>(((arcAt es j).cap:Int) - (R (2 * j):Int)) * (ch (arcAt es j).hd - ch (arcAt es j).tl)
structure Runs (es:List Arc) (S:List Nat) (e:Nat) (R:Nat→Nat) (v:Nat):Prop where
  pr:∀ j,j < es.length→R (2 * j) + R (2 * j + 1)=(arcAt es j).cap
  val:∀ ch:Nat→Int,(∀ x∈S,ch x=0)→runs es R ch=v * ch e
theorem Runs.begin {es:List Arc} {S:List Nat} {e:Nat} {R:Nat→Nat} (h:∀ j,j < es.length→R (2 * j)=(arcAt es j).cap∧R (2 * j + 1)=0):Runs es S e R 0 :=
  ⟨fun j hj=>by have:=h j hj;omega,fun ch _=>by
    unfold runs
    rw [sm_eq_zero fun i hi=>?_]
    · simp
    · rw [(h i hi).1,Int.sub_self,Int.zero_mul]⟩
def push1 (R:Nat→Nat) (k a:Nat):Nat→Nat:=fun b=>if b=tw a then R b + k else if b=a then R b - k else R b
theorem push1_run {es:List Arc} {R:Nat→Nat} {k a:Nat} (ha:a < 2 * es.length) (hk:k≤R a) (ch:Nat→Int):runs es (push1 R k a) ch=runs es R ch + k * (ch (hdOf es a) - ch (hdOf es (tw a))):=by
  unfold runs
  have h2:a / 2 < es.length:=by omega
  have e:(k:Int) * (ch (hdOf es a) - ch (hdOf es (tw a)))=sm es.length (fun j=>if j=a / 2 then (k:Int) * (ch (hdOf es a) - ch (hdOf es (tw a))) else 0):=by
    rw [sm_single h2 fun i _ hi=>if_neg hi,if_pos rfl]
  rw [e,← sm_add]
  refine sm_congr fun j hj=>?_
  unfold push1
  by_cases hja:j=a / 2
  · rw [if_pos hja]
    subst hja
    by_cases hp:a % 2=0
    · have ea:2 * (a / 2)=a:=by omega
      have et:tw a=2 * (a / 2) + 1:=by unfold tw;rw [if_pos hp];omega
      rw [et,if_neg (by omega),if_pos ea,hd_odd]
      rw [show hdOf es a=(arcAt es (a / 2)).hd by rw [← hd_even,ea]]
      rw [ea]
      have:((R a - k:Nat):Int)=(R a:Int) - (k:Int):=by omega
      rw [this]
      rw [show ((arcAt es (a / 2)).cap:Int) - ((R a:Int) - (k:Int))=(((arcAt es (a / 2)).cap:Int) - (R a:Int)) + (k:Int) by omega,Int.add_mul]
    · have ea:2 * (a / 2) + 1=a:=by omega
      have et:tw a=2 * (a / 2):=by unfold tw;rw [if_neg hp];omega
      rw [et,if_pos rfl,hd_even]
      rw [show hdOf es a=(arcAt es (a / 2)).tl by rw [← hd_odd,ea]]
      rw [show ((arcAt es (a / 2)).cap:Int) - ((R (2 * (a / 2)) + k:Nat):Int)=(((arcAt es (a / 2)).cap:Int) - (R (2 * (a / 2)):Int)) + -(k:Int) by omega,Int.add_mul,Int.neg_mul,← Int.mul_neg,Int.neg_sub]
  · rw [if_neg hja,if_neg,if_neg,Int.add_zero]
    · omega
    · unfold tw;split <;> omega
theorem push1_pr {es:List Arc} {R:Nat→Nat} {k a:Nat} (hk:k≤R a) {j:Nat}:push1 R k a (2 * j) + push1 R k a (2 * j + 1)=R (2 * j) + R (2 * j + 1):=by
  unfold push1
  by_cases hja:j=a / 2
  · subst hja
    by_cases hp:a % 2=0
    · have ea:2 * (a / 2)=a:=by omega
      have et:tw a=a + 1:=by unfold tw;rw [if_pos hp]
      rw [et,ea,if_neg (by omega),if_pos rfl,if_pos rfl]
      omega
    · have ea:2 * (a / 2) + 1=a:=by omega
      have et:tw a=2 * (a / 2):=by unfold tw;rw [if_neg hp];omega
      rw [et,if_pos rfl,if_neg (by omega),if_pos ea,ea]
      omega
  · rw [if_neg (by unfold tw;split <;> omega),if_neg (by omega),if_neg (by unfold tw;split <;> omega),if_neg (by omega)]
def Way (es:List Arc) (S:List Nat):Nat→List Nat→Prop
  | x,[]=>x∈S
  | x,a :: r=>hdOf es a=x∧Way es S (hdOf es (tw a)) r
def pushAll (R:Nat→Nat) (k:Nat):List Nat→Nat→Nat
  | []=>R
  | a :: r=>pushAll (push1 R k a) k r
theorem pushAll_snoc (k a:Nat):∀ (ps:List Nat) (R:Nat→Nat),pushAll R k (ps++[a])=push1 (pushAll R k ps) k a
  | [],_=>rfl
  | _ :: ps,R=>pushAll_snoc k a ps _
theorem push1_ge {R:Nat→Nat} {k a b:Nat} (h:b≠a):R b≤push1 R k a b:=by
  unfold push1
  split
  · omega
  · first | exact Nat.le_refl _ | (rw [if_neg h];exact Nat.le_refl _)
theorem pushAll_ge {k b:Nat}:∀ (ps:List Nat) (R:Nat→Nat),b ∉ ps→R b≤pushAll R k ps b
  | [],_,_=>Nat.le_refl _
  | a :: ps,R,h=>Nat.le_trans (push1_ge (k:=k) (fun e=>h (by rw [e];exact List.mem_cons_self))) (pushAll_ge ps _ fun q=>h (List.mem_cons_of_mem _ q))
theorem pushAll_ok {es:List Arc} {S:List Nat} {k:Nat}:∀ (ps:List Nat) (R:Nat→Nat) (x:Nat),Way es S x ps→(∀ a∈ps,a < 2 * es.length∧k≤R a)→ps.Nodup →
    (∀ j,pushAll R k ps (2 * j) + pushAll R k ps (2 * j + 1)=R (2 * j) + R (2 * j + 1))∧∀ ch:Nat→Int,(∀ y∈S,ch y=0)→runs es (pushAll R k ps) ch=runs es R ch + k * ch x
  | [],R,x,hw,_,_=>⟨fun _=>rfl,fun ch h=>by
    show runs es R ch=_
    rw [h x hw,Int.mul_zero,Int.add_zero]⟩
  | a :: r,R,x,hw,ha,nd=>by
    obtain ⟨e,hw⟩:=hw
    obtain ⟨ha1,ha2⟩:=ha a List.mem_cons_self
    have nd':=List.nodup_cons.mp nd
    obtain ⟨h1,h2⟩:=pushAll_ok r (push1 R k a) _ hw (fun b hb=>⟨(ha b (List.mem_cons_of_mem _ hb)).1,Nat.le_trans (ha b (List.mem_cons_of_mem _ hb)).2 (push1_ge fun q=>nd'.1 (q ▸ hb))⟩) nd'.2
    refine ⟨fun j=>(h1 j).trans (push1_pr (es:=es) ha2),fun ch hch=>?_⟩
    show runs es (pushAll (push1 R k a) k r) ch=_
    rw [h2 ch hch,push1_run ha1 ha2,e,Int.mul_sub]
    omega
theorem Runs.push {es:List Arc} {S:List Nat} {e:Nat} {R:Nat→Nat} {v:Nat} (h:Runs es S e R v) {k:Nat} {ps:List Nat} (hw:Way es S e ps) (ha:∀ a∈ps,a < 2 * es.length∧k≤R a) (nd:ps.Nodup):Runs es S e (pushAll R k ps) (v + k):=by
  obtain ⟨h1,h2⟩:=pushAll_ok ps R e hw ha nd
  refine ⟨fun j hj=>(h1 j).trans (h.pr j hj),fun ch hch=>?_⟩
  rw [h2 ch hch,h.val ch hch,Int.natCast_add,Int.add_mul]
def across (es:List Arc) (T:Nat→Bool):Int:=sm es.length fun j=>if T (arcAt es j).tl=true∧T (arcAt es j).hd=false then ((arcAt es j).cap:Int) else 0
theorem Runs.le {es:List Arc} {S:List Nat} {e:Nat} {R:Nat→Nat} {v:Nat} (h:Runs es S e R v) {T:Nat→Bool} (hS:∀ x∈S,T x=true) (he:T e=false):(v:Int)≤across es T:=by
  have h1:=h.val (fun x=>if T x=true then 0 else 1) fun x hx=>if_pos (hS x hx)
  rw [if_neg (by rw [he];simp),Int.mul_one] at h1
  rw [← h1]
  refine sm_le fun j hj=>?_
  have hp:=h.pr j hj
  dsimp only
  cases h2:T (arcAt es j).tl <;> cases h3:T (arcAt es j).hd <;> simp <;> omega
theorem Runs.eq {es:List Arc} {S:List Nat} {e:Nat} {R:Nat→Nat} {v:Nat} (h:Runs es S e R v) {T:Nat→Bool} (hS:∀ x∈S,T x=true) (he:T e=false) (hc:∀ a,a < 2 * es.length→T (hdOf es (tw a))=true→0 < R a→T (hdOf es a)=true):(v:Int)=across es T:=by
  have h1:=h.val (fun x=>if T x=true then 0 else 1) fun x hx=>if_pos (hS x hx)
  rw [if_neg (by rw [he];simp),Int.mul_one] at h1
  rw [← h1]
  refine sm_congr fun j hj=>?_
  have hp:=h.pr j hj
  have c1:=hc (2 * j) (by omega)
  have c2:=hc (2 * j + 1) (by omega)
  rw [show tw (2 * j)=2 * j + 1 by unfold tw;rw [if_pos (by omega)],hd_odd,hd_even] at c1
  rw [show tw (2 * j + 1)=2 * j by unfold tw;rw [if_neg (by omega)];omega,hd_odd,hd_even] at c2
  dsimp only
  cases h2:T (arcAt es j).tl <;> cases h3:T (arcAt es j).hd <;> simp
  · rw [h2,h3] at c2
    have:=Nat.eq_zero_or_pos (R (2 * j + 1))
    rcases this with q | q
    · omega
    · exact absurd (c2 rfl q) (by simp)
  · rw [h2,h3] at c1
    rcases Nat.eq_zero_or_pos (R (2 * j)) with q | q
    · omega
    · exact absurd (c1 rfl q) (by simp)
structure Tree (es:List Arc) (S:List Nat) (R:Nat→Nat) (ws:List Nat) (pl:Nat) (par:Nat→Option Nat):Prop where
  nd:ws.Nodup
  st:∀ x∈S,x∈ws
  up:∀ i x,ws[i]?=some x→(par x=none∧x∈S)∨∃ a j,par x=some a∧a < 2 * es.length∧hdOf es a=x∧0 < R a∧j < i∧j≤pl∧ws[j]?=some (hdOf es (tw a))
  cl:∀ i x,i < pl→ws[i]?=some x→∀ a,a < 2 * es.length→hdOf es (tw a)=x→0 < R a→hdOf es a∈ws
theorem Tree.begin {es:List Arc} {S:List Nat} {R:Nat→Nat} (nd:S.Nodup) {par:Nat→Option Nat} (hp:∀ x∈S,par x=none):Tree es S R S 0 par :=
  ⟨nd,fun _ h=>h,fun i x h=>.inl ⟨hp x (List.mem_of_getElem? h),List.mem_of_getElem? h⟩,fun i x h=>by omega⟩
theorem get_snoc {l:List Nat} {y:Nat} {i x:Nat} (h:(l++[y])[i]?=some x):l[i]?=some x∨(i=l.length∧x=y):=by
  by_cases hi:i < l.length
  · rw [List.getElem?_append_left hi] at h;exact .inl h
  · rw [List.getElem?_append_right (by omega)] at h
    have:=(List.getElem?_eq_some_iff.mp h).1
    simp at this
    have e:i=l.length:=by omega
    subst e
    simp at h
    exact .inr ⟨rfl,h.symm⟩
theorem get_left {l m:List Nat} {i x:Nat} (h:l[i]?=some x):(l++m)[i]?=some x:=by
  rw [List.getElem?_append_left (List.getElem?_eq_some_iff.mp h).1];exact h
theorem Tree.add {es:List Arc} {S:List Nat} {R:Nat→Nat} {ws:List Nat} {pl:Nat} {par:Nat→Option Nat} (t:Tree es S R ws pl par) {a:Nat} (ha:a < 2 * es.length) (hr:0 < R a) (hp:ws[pl]?=some (hdOf es (tw a))) (hn:hdOf es a ∉ ws) :
    Tree es S R (ws++[hdOf es a]) pl (fun x=>if x=hdOf es a then some a else par x):=by
  refine ⟨?_,fun x hx=>List.mem_append_left _ (t.st x hx),fun i x h=>?_,fun i x hi h b hb hh hr=>?_⟩
  · rw [List.nodup_append]
    refine ⟨t.nd,by simp,fun x hx y hy e=>?_⟩
    simp at hy
    subst hy
    exact hn (e ▸ hx)
  · rcases get_snoc h with h | ⟨e1,e2⟩
    · have hne:x≠hdOf es a:=fun e=>hn (e ▸ List.mem_of_getElem? h)
      rw [if_neg hne]
      rcases t.up i x h with q | ⟨b,j,q1,q2,q3,q4,q5,q6,q7⟩
      · exact .inl q
      · exact .inr ⟨b,j,q1,q2,q3,q4,q5,q6,get_left q7⟩
    · rw [if_pos e2]
      refine .inr ⟨a,pl,rfl,ha,e2.symm,hr,?_,Nat.le_refl _,get_left hp⟩
      have:=(List.getElem?_eq_some_iff.mp hp).1
      omega
  · rcases get_snoc h with h | ⟨e1,e2⟩
    · exact List.mem_append_left _ (t.cl i x hi h b hb hh hr)
    · have:=(List.getElem?_eq_some_iff.mp hp).1
      omega
theorem Tree.next {es:List Arc} {S:List Nat} {R:Nat→Nat} {ws:List Nat} {pl:Nat} {par:Nat→Option Nat} (t:Tree es S R ws pl par) {x:Nat} (hx:ws[pl]?=some x) (h:∀ a,a < 2 * es.length→hdOf es (tw a)=x→0 < R a→hdOf es a∈ws):Tree es S R ws (pl + 1) par:=by
  refine ⟨t.nd,t.st,fun i y hy=>?_,fun i y hi hy a ha hh hr=>?_⟩
  · rcases t.up i y hy with q | ⟨b,j,q1,q2,q3,q4,q5,q6,q7⟩
    · exact .inl q
    · exact .inr ⟨b,j,q1,q2,q3,q4,q5,by omega,q7⟩
  · by_cases e:i=pl
    · subst e
      have:y=x:=Option.some.inj (hy.symm.trans hx)
      exact h a ha (by rw [← this];exact hh) hr
    · exact t.cl i y (by omega) hy a ha hh hr
def Seg (es:List Arc):Nat→List Nat→Nat→Prop
  | x,[],y=>x=y
  | x,a :: r,y=>hdOf es a=x∧Seg es (hdOf es (tw a)) r y
theorem Seg.snoc {es:List Arc} {a:Nat}:∀ {ps:List Nat} {x:Nat},Seg es x ps (hdOf es a)→Seg es x (ps++[a]) (hdOf es (tw a))
  | [],x,h=>⟨h.symm,rfl⟩
  | _ :: ps,x,h=>⟨h.1,Seg.snoc h.2⟩
theorem Seg.way {es:List Arc} {S:List Nat} {y:Nat} (hy:y∈S):∀ {ps:List Nat} {x:Nat},Seg es x ps y→Way es S x ps
  | [],x,h=>by show x∈S;rw [show x=y from h];exact hy
  | _ :: ps,x,h=>⟨h.1,Seg.way hy h.2⟩
structure Back (es:List Arc) (R:Nat→Nat) (ws:List Nat) (e:Nat) (ps:List Nat) (i x:Nat):Prop where
  at_:ws[i]?=some x
  seg:Seg es e ps x
  nd:ps.Nodup
  ok:∀ a∈ps,a < 2 * es.length∧0 < R a∧∃ j,i < j∧ws[j]?=some (hdOf es a)
theorem ix_eq {l:List Nat} (nd:l.Nodup) {i j x:Nat} (h1:l[i]?=some x) (h2:l[j]?=some x):i=j:=by
  obtain ⟨hi,e1⟩:=List.getElem?_eq_some_iff.mp h1
  obtain ⟨hj,e2⟩:=List.getElem?_eq_some_iff.mp h2
  exact (List.getElem_inj nd).mp (e1.trans e2.symm)
theorem Back.go {es:List Arc} {S:List Nat} {R:Nat→Nat} {ws:List Nat} {pl:Nat} {par:Nat→Option Nat} (t:Tree es S R ws pl par) {e:Nat} {ps:List Nat} {i x:Nat} (b:Back es R ws e ps i x) {a:Nat} (hp:par x=some a) :
    a < 2 * es.length∧∃ j,j < i∧Back es R ws e (ps++[a]) j (hdOf es (tw a)):=by
  rcases t.up i x b.at_ with q | ⟨c,j,q1,q2,q3,q4,q5,q6,q7⟩
  · rw [q.1] at hp;cases hp
  · obtain rfl:a=c:=Option.some.inj (hp.symm.trans q1)
    refine ⟨q2,j,q5,q7,?_,?_,fun d hd=>?_⟩
    · refine Seg.snoc ?_
      rw [q3];exact b.seg
    · rw [List.nodup_append]
      refine ⟨b.nd,by simp,fun y hy z hz e=>?_⟩
      simp at hz
      subst hz
      obtain ⟨_,_,k,hk,hk2⟩:=b.ok y hy
      have:=ix_eq t.nd hk2 (by rw [e,q3];exact b.at_)
      omega
    · rcases List.mem_append.mp hd with hd | hd
      · obtain ⟨h1,h2,k,hk,hk2⟩:=b.ok d hd
        exact ⟨h1,h2,k,by omega,hk2⟩
      · simp at hd
        subst hd
        exact ⟨q2,q4,i,q5,by rw [q3];exact b.at_⟩
theorem Back.done {es:List Arc} {S:List Nat} {R:Nat→Nat} {ws:List Nat} {pl:Nat} {par:Nat→Option Nat} (t:Tree es S R ws pl par) {e:Nat} {ps:List Nat} {i x:Nat} (b:Back es R ws e ps i x) (hp:par x=none):Way es S e ps:=by
  rcases t.up i x b.at_ with q | ⟨c,j,q1,_⟩
  · exact b.seg.way q.2
  · rw [hp] at q1;cases q1
def Found (es:List Arc) (S:List Nat) (e:Nat) (R:Nat→Nat) (ps:List Nat):Prop :=
  (ps≠[]∧Way es S e ps∧ps.Nodup∧∀ a∈ps,a < 2 * es.length∧0 < R a) ∨
  (ps=[]∧∃ T:Nat→Bool,(∀ x∈S,T x=true)∧T e=false∧∀ a,a < 2 * es.length→T (hdOf es (tw a))=true→0 < R a→T (hdOf es a)=true)
theorem Tree.none {es:List Arc} {S:List Nat} {R:Nat→Nat} {ws:List Nat} {pl:Nat} {par:Nat→Option Nat} (t:Tree es S R ws pl par) (hpl:ws.length≤pl) {e:Nat} (he:e ∉ ws):Found es S e R []:=by
  refine .inr ⟨rfl,fun x=>ws.contains x,fun x hx=>by rw [List.contains_iff_mem];exact t.st x hx,by simpa using he,fun a ha h hr=>?_⟩
  rw [List.contains_iff_mem] at h ⊢
  obtain ⟨i,hi⟩:=List.getElem?_of_mem h
  have:=(List.getElem?_eq_some_iff.mp hi).1
  exact t.cl i _ (by omega) hi a ha rfl hr
end Th
end
section
namespace Th
open Vbsgad
def lsum (f:Arc→Int):List Arc→Int
  | []=>0
  | a :: l=>f a + lsum f l
theorem lsum_append (f:Arc→Int):∀ a b:List Arc,lsum f (a++b)=lsum f a + lsum f b
  | [],b=>by show lsum f b=0 + lsum f b;omega
  | x :: a,b=>by
    show f x + lsum f (a++b)=f x + lsum f a + lsum f b
    rw [lsum_append f a b];omega
theorem arcAt_snoc_lt {es:List Arc} {e:Arc} {j:Nat} (h:j < es.length):arcAt (es++[e]) j=arcAt es j:=by
  unfold arcAt
  rw [List.getD_eq_getElem?_getD,List.getD_eq_getElem?_getD,List.getElem?_append_left h]
theorem arcAt_snoc {es:List Arc} {e:Arc}:arcAt (es++[e]) es.length=e:=by
  unfold arcAt
  rw [List.getD_eq_getElem?_getD,List.getElem?_append_right (Nat.le_refl _)]
  simp
theorem sm_lsum_rev (f:Arc→Int):∀ es:List Arc,sm es.reverse.length (fun j=>f (arcAt es.reverse j))=lsum f es.reverse
  | []=>rfl
  | e :: es=>by
    rw [List.reverse_cons,List.length_append,lsum_append,← sm_lsum_rev f es]
    show sm es.reverse.length _ + f (arcAt (es.reverse++[e]) es.reverse.length)=sm es.reverse.length _ + (f e + 0)
    rw [arcAt_snoc,sm_congr fun i hi=>by rw [arcAt_snoc_lt hi]]
    omega
theorem sm_lsum (f:Arc→Int) (es:List Arc):sm es.length (fun j=>f (arcAt es j))=lsum f es:=by
  have:=sm_lsum_rev f es.reverse
  rwa [List.reverse_reverse] at this
theorem lsum_le {f g:Arc→Int}:∀ {l:List Arc},(∀ a∈l,f a≤g a)→lsum f l≤lsum g l
  | [],_=>Int.le_refl _
  | a :: l,h=>by
    have h1:=h a List.mem_cons_self
    have h2:=lsum_le (l:=l) fun b hb=>h b (List.mem_cons_of_mem _ hb)
    show f a + lsum f l≤g a + lsum g l
    omega
theorem lsum_zero {f:Arc→Int}:∀ {l:List Arc},(∀ a∈l,f a=0)→lsum f l=0
  | [],_=>rfl
  | a :: l,h=>by
    have h1:=h a List.mem_cons_self
    have h2:=lsum_zero (l:=l) fun b hb=>h b (List.mem_cons_of_mem _ hb)
    show f a + lsum f l=0
    omega
theorem lsum_mem {f:Arc→Int}:∀ {l:List Arc},(∀ a∈l,0≤f a)→∀ a∈l,f a≤lsum f l
  | b :: l,h,a,ha=>by
    have h1:=h b List.mem_cons_self
    have hz:∀ x∈l,0≤f x:=fun x hx=>h x (List.mem_cons_of_mem _ hx)
    show f a≤f b + lsum f l
    rcases List.mem_cons.mp ha with e | ha
    · subst e
      have h2:lsum (fun _=>0) l≤lsum f l:=lsum_le hz
      rw [lsum_zero fun _ _=>rfl] at h2
      omega
    · have:=lsum_mem hz a ha
      omega
theorem lsum_range (f:Arc→Int) (p:Nat→Bool) (c:Nat→Arc):∀ n:Nat,lsum f (((List.range n).filter p).map c)=sm n fun i=>if p i=true then f (c i) else 0
  | 0=>rfl
  | n + 1=>by
    rw [List.range_succ,List.filter_append,List.map_append,lsum_append,lsum_range f p c n]
    show _=sm n _ + (if p n=true then f (c n) else 0)
    cases h:p n with
    | true=>rw [show List.filter p [n]=[n] by simp [h],if_pos rfl];show _ + (f (c n) + 0)=_;rw [Int.add_zero]
    | false=>rw [show List.filter p [n]=[] by simp [h],if_neg (by simp)];rfl
def room (s:State) (i:Nat):Nat:=if (nodeOf s i).halt_=false∨(nodeOf s i).base=true then 97 else (nodeOf s i).free
def nodeArc (s:State) (i:Nat):Arc:=⟨2 * i,2 * i + 1,room s i⟩
def lineArcs (l:Nat × Nat):List Arc:=[⟨2 * l.1 + 1,2 * l.2,97⟩,⟨2 * l.2 + 1,2 * l.1,97⟩]
def nodeArcs (s:State) (X:List Nat) (n:Nat):List Arc:=((List.range n).filter fun i=>!X.contains i).map (nodeArc s)
def arcsOf (s:State) (X:List Nat):List Arc:=nodeArcs s X (size s)++s.lines.flatMap lineArcs
def startsOf (s:State):List Nat:=(bases s).map fun i=>2 * i + 1
theorem nodeArcs_succ (s:State) (X:List Nat) (n:Nat):nodeArcs s X (n + 1)=if X.contains n=true then nodeArcs s X n else nodeArcs s X n++[nodeArc s n]:=by
  unfold nodeArcs
  rw [List.range_succ,List.filter_append,List.map_append]
  cases h:X.contains n with
  | true=>rw [if_pos rfl,show List.filter (fun i=>!X.contains i) [n]=[] by rw [List.filter_cons,h];rfl];simp
  | false=>rw [if_neg (by simp),show List.filter (fun i=>!X.contains i) [n]=[n] by rw [List.filter_cons,h];rfl];rfl
theorem joined_iff {s:State} {a b:Nat}:joined s a b=true↔∃ l∈s.lines,(l.1=a∧l.2=b)∨(l.1=b∧l.2=a):=by
  unfold joined
  rw [List.any_eq_true]
  constructor
  · rintro ⟨l,hl,h⟩
    refine ⟨l,hl,by simpa using h⟩
  · rintro ⟨l,hl,h⟩
    exact ⟨l,hl,by simpa using h⟩
theorem across_eq (es:List Arc) (T:Nat→Bool):across es T=lsum (fun a=>if T a.tl=true∧T a.hd=false then (a.cap:Int) else 0) es:=sm_lsum (fun a=>if T a.tl=true∧T a.hd=false then (a.cap:Int) else 0) es
theorem mem_lineArcs {s:State} {x:Arc} (h:x∈s.lines.flatMap lineArcs):∃ a b,joined s a b=true∧(a,b)∈s.lines++s.lines.map (fun l=>(l.2,l.1))∧x=⟨2 * a + 1,2 * b,97⟩:=by
  obtain ⟨l,hl,hx⟩:=List.mem_flatMap.mp h
  rcases List.mem_cons.mp hx with e | hx
  · exact ⟨l.1,l.2,joined_iff.mpr ⟨l,hl,.inl ⟨rfl,rfl⟩⟩,List.mem_append_left _ hl,e⟩
  · rcases List.mem_cons.mp hx with e | hx
    · exact ⟨l.2,l.1,joined_iff.mpr ⟨l,hl,.inr ⟨rfl,rfl⟩⟩,List.mem_append_right _ (List.mem_map.mpr ⟨l,hl,rfl⟩),e⟩
    · cases hx
theorem lineArc_mem {s:State} {a b:Nat} (h:joined s a b=true):(⟨2 * a + 1,2 * b,97⟩:Arc)∈s.lines.flatMap lineArcs:=by
  obtain ⟨l,hl,h⟩:=joined_iff.mp h
  refine List.mem_flatMap.mpr ⟨l,hl,?_⟩
  unfold lineArcs
  rcases h with ⟨e1,e2⟩ | ⟨e1,e2⟩
  · rw [e1,e2];exact List.mem_cons_self
  · rw [e1,e2];exact List.mem_cons_of_mem _ List.mem_cons_self
theorem room_open {s:State} {i:Nat} (h:fillable s i=true):room s i=(nodeOf s i).free:=by
  unfold room
  unfold fillable isBase at h
  simp at h
  rw [if_neg (by rw [h.1,h.2.2];simp)]
theorem room_shut {s:State} {i:Nat} (h:shut s i=true):room s i=0:=by
  unfold room
  unfold shut isBase at h
  simp at h
  rw [if_neg (by rw [h.1,h.2.2];simp),h.2.1]
theorem room_lt {s:State} {i:Nat} (h:room s i≠97):(nodeOf s i).halt_=true∧(nodeOf s i).base=false:=by
  unfold room at h
  by_cases q:(nodeOf s i).halt_=false∨(nodeOf s i).base=true
  · rw [if_pos q] at h;exact absurd rfl h
  · simpa using q
theorem filled_free {s:State} {X:List Nat} {i:Nat} (h:X.contains i=false):nodeOf (filled s X) i=nodeOf s i:=by
  rw [filled_nodeOf,if_neg (by rw [h];simp)]
theorem joined_lt {s:State} (wfs:Wfs s) {a b:Nat} (h:joined s a b=true):b < size s:=by
  obtain ⟨l,hl,h⟩:=joined_iff.mp h
  obtain ⟨h1,h2,_⟩:=wfs.lin l hl
  rcases h with ⟨_,e⟩ | ⟨e,_⟩
  · rw [← e];exact h2
  · rw [← e];exact h1
theorem price_bound {s:State} (wfs:Wfs s) (F:Nat→Bool):price s F≤96:=by
  have h1:∀ n,sm n (fun a=>if F a=true then ((nodeOf s a).free:Int) else 0)≤4 * n:=by
    intro n
    induction n with
    | zero=>exact Int.le_refl _
    | succ n ih =>
      have h4:(nodeOf s n).free≤4:=by
        by_cases hn:n < s.nodes.length
        · have e:s.nodes[n]?=some s.nodes[n]:=List.getElem?_eq_getElem hn
          rw [nodeOf_lt e]
          exact (wfs.nod _ (List.getElem_mem hn)).fr
        · rw [nodeOf_ge (by show s.nodes.length≤n;omega)];exact Nat.zero_le _
      show sm n _ + (if F n=true then ((nodeOf s n).free:Int) else 0)≤_
      split <;> omega
  have:=h1 (size s)
  have h2:size s≤24:=wfs.sz
  unfold price
  omega
theorem filled_price_le (s:State) (X:List Nat) (F:Nat→Bool):price (filled s X) F≤price s F:=by
  unfold price
  rw [filled_size]
  refine sm_le fun i hi=>?_
  rw [filled_nodeOf]
  split
  · split
    · simp
    · exact Int.le_refl _
  · exact Int.le_refl _
section
variable {s:State} {X:List Nat} {g:Nat} {R:Nat→Nat} {v:Nat}
theorem Runs.le_price (wfs:Wfs s) (h:Runs (arcsOf s X) (startsOf s) (2 * g) R v) {F:Nat→Bool} (c:Cut (filled s X) g F):(v:Int)≤price (filled s X) F:=by
  have hd:∀ x,Decidable (Rch (filled s X) (fun a=>!shut (filled s X) a && !F a) (bases (filled s X)) x):=fun x=>Classical.propDecidable _
  let Q:Nat→Bool:=fun x=>decide (Rch (filled s X) (fun a=>!shut (filled s X) a && !F a) (bases (filled s X)) x)
  have hQ:∀ x,Q x=true↔Rch (filled s X) (fun a=>!shut (filled s X) a && !F a) (bases (filled s X)) x:=fun x=>decide_eq_true_iff
  let T:Nat→Bool:=fun y=>if y % 2=0 then Q (y / 2) else Q (y / 2) && (!shut (filled s X) (y / 2) && !F (y / 2))
  have hT0:∀ i,T (2 * i)=Q i:=fun i=>by show (if (2 * i) % 2=0 then _ else _)=_;rw [if_pos (by omega),show 2 * i / 2=i by omega]
  have hT1:∀ i,T (2 * i + 1)=(Q i && (!shut (filled s X) i && !F i)):=fun i=>by show (if (2 * i + 1) % 2=0 then _ else _)=_;rw [if_neg (by omega),show (2 * i + 1) / 2=i by omega]
  have hlt:∀ x,Q x=true→x < size s:=fun x hx=>by
    have:=((hQ x).mp hx).lt bases_lt
    rwa [filled_size] at this
  have h1:=h.le (T:=T) (fun x hx=>?_) (by
    rw [hT0]
    cases q:Q g with
    | false=>rfl
    | true=>exact absurd ((hQ g).mp q) c.cut)
  · refine Int.le_trans h1 ?_
    rw [across_eq]
    unfold arcsOf
    rw [lsum_append]
    have e2:lsum (fun a=>if T a.tl=true∧T a.hd=false then (a.cap:Int) else 0) (s.lines.flatMap lineArcs)=0:=by
      refine lsum_zero fun x hx=>?_
      obtain ⟨a,b,hj,hm,rfl⟩:=mem_lineArcs hx
      refine if_neg fun ⟨q1,q2⟩=>?_
      dsimp only at q1 q2
      rw [hT1] at q1
      rw [hT0] at q2
      rw [Bool.and_eq_true] at q1
      have hb:b < size s:=joined_lt wfs hj
      have:Q b=true:=(hQ b).mpr (.step ((hQ a).mp q1.1) q1.2 (by rw [filled_joined];exact hj) (by rw [filled_size];exact hb))
      rw [this] at q2;cases q2
    rw [e2,Int.add_zero]
    unfold nodeArcs
    rw [lsum_range]
    unfold price
    rw [filled_size]
    refine sm_le fun i hi=>?_
    cases hX:X.contains i with
    | true=>simp;split <;> omega
    | false =>
      rw [show (!false)=true from rfl,if_pos rfl]
      unfold nodeArc
      dsimp only
      rw [hT0,hT1]
      by_cases hF:F i=true
      · rw [if_pos hF]
        have hf:=(c.fil i (by rw [filled_size];exact hi) hF).1
        rw [filled_free hX]
        have:fillable s i=true:=by
          unfold fillable isBase at hf ⊢
          rwa [filled_free hX] at hf
        rw [room_open this]
        split <;> omega
      · rw [if_neg hF]
        have hF':F i=false:=by simpa using hF
        cases hs:shut (filled s X) i with
        | true =>
          have:shut s i=true:=by
            unfold shut isBase at hs ⊢
            rwa [filled_free hX] at hs
          rw [room_shut this]
          split <;> simp
        | false =>
          rw [hF']
          cases Q i <;> simp
  · obtain ⟨b,hb,rfl⟩:=List.mem_map.mp hx
    obtain ⟨hb1,hb2⟩:=mem_bases.mp hb
    rw [hT1]
    have hb':isBase (filled s X) b=true:=by rw [filled_isBase];exact hb2
    rw [(hQ b).mpr (.base (by rw [filled_bases];exact hb)),isBase_shut hb']
    have:F b=false:=by
      cases q:F b with
      | false=>rfl
      | true =>
        have:=(c.fil b (by rw [filled_size];exact hb1) q).1
        rw [isBase_fillable hb'] at this
        cases this
    rw [this]
    rfl
theorem Runs.min (wfs:Wfs s) (hX:∀ x∈X,fillable s x=true) (hg:g < size s) (h:Runs (arcsOf s X) (startsOf s) (2 * g) R v) {F0:Nat→Bool} (c0:Cut (filled s X) g F0)
    {T:Nat→Bool} (hS:∀ x∈startsOf s,T x=true) (he:T (2 * g)=false) (hc:∀ a,a < 2 * (arcsOf s X).length→T (hdOf (arcsOf s X) (tw a))=true→0 < R a→T (hdOf (arcsOf s X) a)=true):MinPrice (filled s X) g v:=by
  have hv:(v:Int)≤96:=Int.le_trans (h.le_price wfs c0) (Int.le_trans (filled_price_le s X F0) (price_bound wfs F0))
  have hac:=h.eq hS he hc
  rw [across_eq] at hac
  have hnn:∀ a:Arc,(0:Int)≤if T a.tl=true∧T a.hd=false then (a.cap:Int) else 0:=fun a=>by split <;> omega
  have hno:∀ a∈arcsOf s X,T a.tl=true→T a.hd=false→a.cap≤96:=fun a ha h1 h2=>by
    have:=lsum_mem (fun x _=>hnn x) a ha
    rw [if_pos ⟨h1,h2⟩] at this
    omega
  have hgb:isBase s g=false:=by
    have:=c0.nobase (by rw [filled_size];exact hg)
    rwa [filled_isBase] at this
  have hXc:∀ i,X.contains i=true→fillable s i=true:=fun i hi=>hX i (List.contains_iff_mem.mp hi)
  have hfX:∀ i,fillable (filled s X) i=true→X.contains i=false∧fillable s i=true:=fun i hi=>by
    rw [filled_fillable] at hi
    simp at hi
    exact ⟨by simpa using hi.2,hi.1⟩
  have hna:∀ i,i < size s→X.contains i=false→nodeArc s i∈arcsOf s X:=fun i hi hx=>by
    refine List.mem_append_left _ (List.mem_map.mpr ⟨i,?_,rfl⟩)
    rw [List.mem_filter]
    exact ⟨List.mem_range.mpr hi,by rw [hx];rfl⟩
  let F:Nat→Bool:=fun i=>T (2 * i) && !T (2 * i + 1) && fillable (filled s X) i
  have hF:∀ i,F i=true↔T (2 * i)=true∧T (2 * i + 1)=false∧fillable (filled s X) i=true:=fun i=>by
    show (T (2 * i) && !T (2 * i + 1) && fillable (filled s X) i)=true↔_
    simp [and_assoc]
  have cF:Cut (filled s X) g F:=by
    refine ⟨fun a ha hFa=>⟨((hF a).mp hFa).2.2,fun e=>?_⟩,fun hr=>?_⟩
    · have:=((hF a).mp hFa).1
      rw [e,he] at this;cases this
    · have key:∀ x,Rch (filled s X) (fun a=>!shut (filled s X) a && !F a) (bases (filled s X)) x→x < size s∧(isBase s x=true∨T (2 * x)=true)∧(shut (filled s X) x=false→F x=false→T (2 * x + 1)=true):=by
        intro x hx
        induction hx with
        | base hb =>
          rw [filled_bases] at hb
          obtain ⟨h1,h2⟩:=mem_bases.mp hb
          exact ⟨h1,.inl h2,fun _ _=>hS _ (List.mem_map.mpr ⟨_,hb,rfl⟩)⟩
        | @step a b h1 h2 h3 h4 ih =>
          rw [filled_size] at h4
          rw [filled_joined] at h3
          simp at h2
          have hTa:=ih.2.2 h2.1 h2.2
          have hTb:T (2 * b)=true:=by
            cases q:T (2 * b) with
            | true=>rfl
            | false =>
              have:=hno _ (List.mem_append_right _ (lineArc_mem h3)) hTa q
              exact absurd this (by dsimp only;omega)
          refine ⟨h4,.inr hTb,fun q1 q2=>?_⟩
          cases q:T (2 * b + 1) with
          | true=>rfl
          | false =>
            cases hx:X.contains b with
            | true =>
              rw [filled_shut,hx,hXc b hx] at q1
              simp at q1
            | false =>
              have h96:=hno _ (hna b h4 hx) hTb q
              have hr:room s b≠97:=fun e=>by
                have:room s b≤96:=h96
                omega
              obtain ⟨r1,r2⟩:=room_lt hr
              have:fillable (filled s X) b=true:=by
                unfold shut isBase at q1
                unfold fillable isBase
                rw [filled_free hx] at q1 ⊢
                rw [r1,r2] at q1 ⊢
                simpa using q1
              have:=(hF b).mpr ⟨hTb,q,this⟩
              rw [q2] at this;cases this
      obtain ⟨_,h1,_⟩:=key g hr
      rcases h1 with q | q
      · rw [hgb] at q;cases q
      · rw [he] at q;cases q
  refine ⟨⟨F,cF,?_⟩,fun G cG=>h.le_price wfs cG⟩
  have h1:=h.le_price wfs cF
  have h2:price (filled s X) F≤v:=by
    rw [hac]
    unfold arcsOf
    rw [lsum_append]
    have h3:(0:Int)≤lsum (fun a=>if T a.tl=true∧T a.hd=false then (a.cap:Int) else 0) (s.lines.flatMap lineArcs):=by
      have:=lsum_le (f:=fun _=>0) (g:=fun a=>if T a.tl=true∧T a.hd=false then (a.cap:Int) else 0) (l:=s.lines.flatMap lineArcs) fun x _=>hnn x
      rwa [lsum_zero fun _ _=>rfl] at this
    have h4:price (filled s X) F≤lsum (fun a=>if T a.tl=true∧T a.hd=false then (a.cap:Int) else 0) (nodeArcs s X (size s)):=by
      unfold nodeArcs
      rw [lsum_range]
      unfold price
      rw [filled_size]
      refine sm_le fun i hi=>?_
      by_cases q:F i=true
      · obtain ⟨q1,q2,q3⟩:=(hF i).mp q
        obtain ⟨q4,q5⟩:=hfX i q3
        rw [if_pos q,q4,show (!false)=true from rfl,if_pos rfl]
        unfold nodeArc
        dsimp only
        rw [if_pos ⟨q1,q2⟩,room_open q5,filled_free q4]
        exact Int.le_refl _
      · rw [if_neg q]
        split
        · exact hnn _
        · exact Int.le_refl _
    omega
  omega
theorem Runs.least (wfs:Wfs s) (hX:∀ x∈X,fillable s x=true) (hg:g < size s) (h:Runs (arcsOf s X) (startsOf s) (2 * g) R v) (hcut:¬ ∀ F,¬ Cut (filled s X) g F)
    (hf:Found (arcsOf s X) (startsOf s) (2 * g) R []):Vbsgad.least (filled s X) g=some v:=by
  rcases hf with ⟨q,_⟩ | ⟨_,T,h1,h2,h3⟩
  · exact absurd rfl q
  · obtain ⟨F0,c0⟩:∃ F,Cut (filled s X) g F:=Classical.byContradiction fun q=>hcut fun F c=>q ⟨F,c⟩
    exact (least_some (wfs.wf.filled X) (by rw [filled_size];exact hg)).mpr (h.min wfs hX hg c0 h1 h2 h3)
theorem Runs.bound (wfs:Wfs s) (h:Runs (arcsOf s X) (startsOf s) (2 * g) R v) (hcut:¬ ∀ F,¬ Cut (filled s X) g F):v≤96:=by
  obtain ⟨F0,c0⟩:∃ F,Cut (filled s X) g F:=Classical.byContradiction fun q=>hcut fun F c=>q ⟨F,c⟩
  have:=Int.le_trans (h.le_price wfs c0) (Int.le_trans (filled_price_le s X F0) (price_bound wfs F0))
  omega
end
end Th
end
section
namespace Th
open Vbsgad
def come (s:State) (t:Nat→Bool) (l:List Nat):List Nat:=(List.range (size s)).filter fun x=>(spread s t (size s) l).contains x
theorem mem_come {s:State} {t:Nat→Bool} {l:List Nat} (hl:∀ x∈l,x < size s) {x:Nat}:x∈come s t l↔Rch s t l x:=by
  unfold come
  rw [List.mem_filter,List.mem_range,List.contains_iff_mem,mem_spread hl]
  exact ⟨fun h=>h.2,fun h=>⟨h.lt hl,h⟩⟩
theorem come_lt {s:State} {t:Nat→Bool} {l:List Nat} {x:Nat} (h:x∈come s t l):x < size s:=List.mem_range.mp (List.mem_filter.mp h).1
theorem come_nodup {s:State} {t:Nat→Bool} {l:List Nat}:(come s t l).Nodup:=List.Pairwise.filter _ List.nodup_range
theorem range_sorted (n:Nat):(List.range n).Pairwise (·≤·):=(List.pairwise_lt_range (n:=n)).imp Nat.le_of_lt
theorem come_sorted {s:State} {t:Nat→Bool} {l:List Nat}:((come s t l).map fun (x:Nat)=>(x:Int)).Pairwise (·≤·):=by
  rw [List.pairwise_map]
  exact (List.Pairwise.filter _ (range_sorted (size s))).imp fun {a b} h=>by omega
theorem sorted_come {s:State} {t:Nat→Bool} {l ks:List Nat} (hl:∀ x∈l,x < size s) (nd:ks.Nodup) (hk:∀ x,x∈ks↔Rch s t l x) {ns:List Int} (hp:ns.Perm (ks.map fun (x:Nat)=>(x:Int))) (hs:ns.Pairwise (·≤·)) :
    ns=(come s t l).map fun (x:Nat)=>(x:Int):=by
  have h1:ks.Perm (come s t l):=by
    rw [List.perm_iff_count]
    intro a
    rw [nd.count,come_nodup.count]
    by_cases h:a∈ks
    · rw [if_pos h,if_pos ((mem_come hl).mpr ((hk a).mp h))]
    · rw [if_neg h,if_neg fun q=>h ((hk a).mpr ((mem_come hl).mp q))]
  exact List.Perm.eq_of_pairwise (le:=(·≤·)) (fun a b _ _ h1 h2=>Int.le_antisymm h1 h2) hs come_sorted (hp.trans (h1.map _))
theorem come_congr {s:State} {t t':Nat→Bool} {l:List Nat} (hl:∀ x∈l,x < size s) (h:∀ x,x < size s→t x=t' x):come s t l=come s t' l:=by
  unfold come
  refine List.filter_congr fun x hx=>?_
  apply Bool.eq_iff_iff.mpr
  rw [List.contains_iff_mem,List.contains_iff_mem,mem_spread hl,mem_spread hl]
  exact ⟨fun q=>q.mono_lt hl fun y hy e=>by rw [← h y hy];exact e,fun q=>q.mono_lt hl fun y hy e=>by rw [h y hy];exact e⟩
theorem come_contains {s:State} {t t':Nat→Bool} {l:List Nat} (hl:∀ x∈l,x < size s) (h:∀ x,x < size s→t x=t' x) (x:Nat):(come s t l).contains x=(spread s t' (size s) l).contains x:=by
  apply Bool.eq_iff_iff.mpr
  rw [List.contains_iff_mem,List.contains_iff_mem,mem_spread hl,mem_come hl]
  exact ⟨fun q=>q.mono_lt hl fun y hy e=>by rw [← h y hy];exact e,fun q=>q.mono_lt hl fun y hy e=>by rw [h y hy];exact e⟩
theorem Dfs.start' {s:State} {t:Nat→Bool} {l:List Nat} (hl:∀ x∈l,x < size s):Dfs s t l (fun x=>l.contains x) l :=
  ⟨fun a ha=>hl a (List.contains_iff_mem.mp ha),fun a ha=>.base (List.contains_iff_mem.mp ha),fun a ha=>List.contains_iff_mem.mpr ha,fun a ha=>List.contains_iff_mem.mpr ha,fun a y h1 h2 _ _ _=>absurd (List.contains_iff_mem.mp h1) h2⟩
def comeB (s:State) (b:List Nat):List Nat:=come s (fun a=>!(b.contains a || shut s a)) (bases s)
theorem mem_comeB {s:State} {b:List Nat} {x:Nat}:x∈comeB s b↔Rch s (fun a=>!(b.contains a || shut s a)) (bases s) x:=mem_come bases_lt
theorem comeB_filled {s:State} {b:List Nat} (hf:∀ x∈b,fillable s x=true):comeB s b=reached (filled s b):=by
  rw [reached_filled hf (q:=fun x=>(spread s (fun a=>!(b.contains a || shut s a)) (size s) (bases s)).contains x) fun x _=>?_]
  · rfl
  · rw [List.contains_iff_mem,mem_spread bases_lt]
theorem comeB_nil (s:State):comeB s []=reached s:=by
  have h:reached s=(List.range (size s)).filter fun x=>(spread s (fun a=>!(([]:List Nat).contains a || shut s a)) (size s) (bases s)).contains x:=by
    refine reached_eq fun x _=>?_
    rw [List.contains_iff_mem,mem_spread bases_lt]
    exact ⟨fun q=>q.mono_lt bases_lt fun y _ e=>by simpa using e,fun q=>q.mono_lt bases_lt fun y _ e=>by simpa using e⟩
  exact h.symm
theorem cut_off {s:State} {g:Nat} {f:List Nat} (hf:∀ x∈f,fillable s x=true):(!(comeB s (f.filter fun b=>b != g)).contains g)=cuts s g (f.filter fun b=>b != g):=by
  unfold cuts
  rw [comeB_filled fun x hx=>hf x (List.mem_filter.mp hx).1]
theorem fillables_ne {s:State} {g:Nat}:((fillables s g).filter fun b=>b != g)=fillables s g:=by
  refine List.filter_eq_self.mpr fun x hx=>?_
  have:=(List.mem_filter.mp hx).2
  rw [Bool.and_eq_true] at this
  exact this.2
theorem mem_fillables {s:State} {g x:Nat}:x∈fillables s g↔x < size s∧fillable s x=true∧x≠g:=by
  unfold fillables
  rw [List.mem_filter,List.mem_range]
  simp
theorem cut_open {s:State} {g:Nat}:((comeB s (fillables s g)).contains g)=open_ s g:=by
  unfold comeB open_
  refine come_contains bases_lt (fun x hx=>?_) g
  by_cases h:fillable s x=true∧x≠g
  · have:(fillables s g).contains x=true:=List.contains_iff_mem.mpr (mem_fillables.mpr ⟨hx,h⟩)
    rw [this,h.1]
    have:(x == g)=false:=by simpa using h.2
    rw [this]
    simp
  · have:(fillables s g).contains x=false:=by
      cases q:(fillables s g).contains x with
      | false=>rfl
      | true=>exact absurd (mem_fillables.mp (List.contains_iff_mem.mp q)).2 h
    rw [this]
    have:(!fillable s x || x == g)=true:=by
      cases q:fillable s x with
      | false=>rfl
      | true =>
        simp
        apply Classical.byContradiction
        intro hn
        exact h ⟨q,hn⟩
    rw [this]
    simp
theorem not_open {s:State} {g:Nat} (h:open_ s g=false):¬ ∀ F,¬ Cut s g F:=fun q=>by
  have:open_ s g=true:=open_iff.mpr (q _)
  rw [h] at this;cases this
theorem least_open {s:State} {g:Nat} (h:open_ s g=true):least s g=none:=if_pos h
theorem filled_nil (s:State):filled s []=s:=by
  unfold filled
  have:((List.range (size s)).map fun a=>if ([]:List Nat).contains a=true∧fillable s a=true then { nodeOf s a with free:=0 } else nodeOf s a)=s.nodes:=by
    apply List.ext_getElem?
    intro i
    rw [List.getElem?_map]
    by_cases hi:i < s.nodes.length
    · rw [List.getElem?_range (show i < size s from hi),List.getElem?_eq_getElem hi]
      show some (if ([]:List Nat).contains i=true∧fillable s i=true then _ else nodeOf s i)=_
      rw [if_neg (fun q=>by cases q.1),nodeOf_lt (List.getElem?_eq_getElem hi)]
    · rw [List.getElem?_eq_none (show s.nodes.length≤i by omega),List.getElem?_eq_none (by rw [List.length_range];show s.nodes.length≤i;omega)]
      rfl
  rw [this]
theorem cut_filled {s:State} {g:Nat} {X:List Nat} (hX:∀ x∈X,fillable s x=true) (h:¬ ∀ F,¬ Cut s g F):¬ ∀ F,¬ Cut (filled s X) g F:=fun q=>by
  apply h
  intro F c
  refine q (fun a=>F a && fillable (filled s X) a) ⟨fun a ha hF=>?_,fun hr=>?_⟩
  · rw [Bool.and_eq_true] at hF
    rw [filled_size] at ha
    exact ⟨hF.2,(c.fil a ha hF.1).2⟩
  · refine c.cut ?_
    have h1:Rch (filled s X) (fun a=>!shut s a && !F a) (bases (filled s X)) g:=by
      refine hr.mono_lt bases_lt fun x hlt hx=>?_
      rw [filled_size] at hlt
      rw [Bool.and_eq_true] at hx ⊢
      obtain ⟨h1,h2⟩:=hx
      rw [filled_shut] at h1
      have h3:shut s x=false:=by
        cases q:shut s x with
        | false=>rfl
        | true=>rw [q] at h1;simp at h1
      refine ⟨by rw [h3];rfl,?_⟩
      cases q:F x with
      | false=>rfl
      | true =>
        rw [q,filled_fillable] at h2
        have hf:=(c.fil x hlt q).1
        rw [h3,hf] at h1
        rw [hf] at h2
        cases hc:X.contains x with
        | true=>rw [hc] at h1;simp at h1
        | false=>rw [hc] at h2;simp at h2
    rw [filled_bases] at h1
    exact Rch.mono (fun x hx=>hx) (fun x hx=>hx) (fun a b=>filled_joined s X a b) (filled_size s X) h1
theorem Rch.drop {s:State} {t:Nat→Bool} {l:List Nat} {a:Nat} (ha:t a=false) {x:Nat} (h:Rch s t l x):x=a∨Rch s t (l.filter fun b=>b != a) x:=by
  induction h with
  | @base x h =>
    by_cases e:x=a
    · exact .inl e
    · exact .inr (.base (List.mem_filter.mpr ⟨h,by simpa using e⟩))
  | @step x y h1 h2 h3 h4 ih =>
    rcases ih with e | ih
    · rw [e,ha] at h2;cases h2
    · exact .inr (.step ih h2 h3 h4)
theorem needed_eq {s:State} {g:Nat}:needed s g=if (comeB s []).contains g=true then ((List.range (size s)).filter fun a=>a != g).filter (fun a=>!(comeB s [a]).contains g) else []:=by
  unfold needed
  rw [comeB_nil]
  cases h:(reached s).contains g with
  | false=>rw [if_pos rfl,if_neg (by simp)]
  | true =>
    rw [if_neg (by simp),if_pos rfl,List.filter_filter]
    refine List.filter_congr fun a ha=>?_
    rw [Bool.and_comm]
    by_cases hg:a=g
    · rw [hg];simp
    · have hg':(a != g)=true:=by simpa using hg
      rw [hg',Bool.and_true,Bool.and_true]
      congr 1
      apply Bool.eq_iff_iff.mpr
      rw [List.contains_iff_mem,List.contains_iff_mem,mem_comeB,mem_spread fun x hx=>bases_lt x (List.mem_filter.mp hx).1]
      have e:(fun b=>!(([a]:List Nat).contains b || shut s b))=fun b=>!shut s b && b != a:=by
        funext b
        have e1:([a]:List Nat).contains b=(b == a):=by
          show (match b == a with | true=>true | false=>false)=(b == a)
          cases b == a <;> rfl
        rw [e1]
        unfold bne
        cases b == a <;> cases shut s b <;> rfl
      rw [e]
      constructor
      · intro q
        exact q.mono (fun x hx=>(List.mem_filter.mp hx).1) (fun _ h=>h) (fun _ _=>rfl) rfl
      · intro q
        rcases q.drop (a:=a) (by simp) with e | q
        · exact absurd e.symm hg
        · exact q
theorem nearest_eq {s:State} {g:Nat}:nearest s g=(tight s g).filter fun a=>(comeB s (tight s g++[g])).contains a:=by
  unfold nearest
  dsimp only
  refine List.filter_congr fun a _=>?_
  refine (come_contains bases_lt (fun x _=>?_) a).symm
  apply Bool.eq_iff_iff.mpr
  simp
  constructor
  · rintro ⟨⟨h1,h2⟩,h3⟩;exact ⟨h3,h1,h2⟩
  · rintro ⟨h3,h1,h2⟩;exact ⟨⟨h1,h2⟩,h3⟩
def closed (s:State):List Nat:=(List.range (size s)).filter fun a=>shut s a || isBase s a
def barred (s:State) (g:Nat):List Nat:=(closed s++tight s g).filter fun a=>a != g
theorem furthest_eq {s:State} {g:Nat} (hg:g < size s):furthest s g=(tight s g).filter fun a=>(come s (fun x=>!(barred s g).contains x) [g]).contains a:=by
  unfold furthest
  dsimp only
  refine List.filter_congr fun a _=>?_
  refine (come_contains (fun x hx=>by rw [List.mem_singleton.mp hx];exact hg) (fun x hx=>?_) a).symm
  apply Bool.eq_iff_iff.mpr
  unfold barred closed
  simp [hx]
  by_cases e:x=g
  · simp [e]
  · simp [e]
    constructor
    · rintro ⟨⟨h1,h2⟩,h3⟩;exact ⟨h1,h3,h2⟩
    · rintro ⟨h1,h3,h2⟩;exact ⟨⟨h1,h2⟩,h3⟩
theorem tight_eq {s:State} {g:Nat} {n:Nat} (h:least s g=some n):tight s g=(fillables s g).filter fun a=>least (filled s [a]) g == some (n - (nodeOf s a).free) && decide ((nodeOf s a).free≤n):=by
  unfold tight
  rw [h]
theorem tight_none {s:State} {g:Nat} (h:least s g=none):tight s g=[]:=by
  unfold tight
  rw [h]
theorem fillable_free {s:State} {a:Nat} (h:fillable s a=true):0 < (nodeOf s a).free:=by
  unfold fillable at h
  simp at h
  omega
theorem tight_zero {s:State} {g:Nat} (h:least s g=some 0):tight s g=[]:=by
  rw [tight_eq h,List.filter_eq_nil_iff]
  intro a ha hq
  rw [Bool.and_eq_true] at hq
  have h1:=of_decide_eq_true hq.2
  have h2:=fillable_free (mem_fillables.mp ha).2.1
  omega
theorem tight_test {s:State} {g a n p:Nat} (h:least (filled s [a]) g=some p):(least (filled s [a]) g == some (n - (nodeOf s a).free) && decide ((nodeOf s a).free≤n))=decide ((nodeOf s a).free + p=n):=by
  rw [h]
  apply Bool.eq_iff_iff.mpr
  rw [Bool.and_eq_true,decide_eq_true_iff,decide_eq_true_iff]
  constructor
  · rintro ⟨h1,h2⟩
    have:p=n - (nodeOf s a).free:=by simpa using h1
    omega
  · intro h1
    refine ⟨?_,by omega⟩
    have:p=n - (nodeOf s a).free:=by omega
    rw [this]
    simp
def weakStep (s:State) (b:Option (Nat × Nat)) (a:Nat):Option (Nat × Nat) :=
  if (nodeOf s a).halt_=true∧isBase s a=false then (match least s a with
    | none=>b
    | some n=>match b with
      | none=>some (a,n)
      | some c=>if n < c.2 then some (a,n) else b) else b
theorem foldl_filter' {α β:Type} (p:α→Bool) (f:β→α→β):∀ (l:List α) (b:β),(l.filter p).foldl f b=l.foldl (fun b a=>if p a=true then f b a else b) b
  | [],_=>rfl
  | a :: l,b=>by
    rw [List.filter_cons]
    cases h:p a with
    | true=>rw [if_pos rfl,List.foldl_cons,List.foldl_cons,h,if_pos rfl];exact foldl_filter' p f l _
    | false=>rw [if_neg (by simp),List.foldl_cons,h,if_neg (by simp)];exact foldl_filter' p f l _
theorem weakest_eq (s:State):weakest s=(comeB s []).foldl (weakStep s) none:=by
  rw [comeB_nil]
  have h1:reached s=(List.range (size s)).filter fun x=>(reached s).contains x:=by
    refine reached_eq fun x _=>?_
    rw [List.contains_iff_mem,mem_reached]
  unfold weakest stops
  rw [h1,List.filter_filter,foldl_filter',foldl_filter',← h1]
  congr 1
  funext b a
  unfold weakStep
  cases (reached s).contains a <;> cases (nodeOf s a).halt_ <;> cases isBase s a <;> first | (simp;done) | (simp;cases least s a <;> cases b <;> rfl)
end Th
end
section
namespace Th
open Vbsgad
theorem waysOf_fuel:∀ (k m:Nat) (l:List Int),l.length < k→l.length < m→waysOf k l=waysOf m l
  | 0,_,_,h,_=>by omega
  | _,0,_,_,h=>by omega
  | k + 1,m + 1,[],_,_=>rfl
  | k + 1,m + 1,n :: r,h1,h2=>by
    have h3:r.length + 1 < k + 1:=h1
    have h4:r.length + 1 < m + 1:=h2
    unfold waysOf
    rw [waysOf_fuel k m (r.drop n.toNat) (by rw [List.length_drop];omega) (by rw [List.length_drop];omega)]
def waysR (l:List Int):Option (List (List Nat)):=waysOf (l.length + 1) l
theorem waysR_nil:waysR []=some []:=rfl
theorem waysR_cons (n:Int) (r:List Int):waysR (n :: r)=if n < 0∨(r.length:Int) < n∨(r.take n.toNat).any (fun z=>decide (z < 0))=true then none else (waysR (r.drop n.toNat)).map fun ws=>(r.take n.toNat).map Int.toNat :: ws:=by
  show waysOf (r.length + 1 + 1) (n :: r)=_
  unfold waysR
  rw [waysOf]
  rw [waysOf_fuel (r.length + 1) ((r.drop n.toNat).length + 1) (r.drop n.toNat) (by rw [List.length_drop];omega) (by omega)]
theorem waysR_neg:∀ (k:Nat) (l:List Int),l.length≤k→(l.any fun z=>decide (z < 0))=true→waysR l=none
  | k,[],_,h=>by cases h
  | 0,_ :: _,h,_=>by simp at h
  | k + 1,n :: r,hk,h=>by
    have hk':r.length + 1≤k + 1:=hk
    rw [waysR_cons]
    by_cases q:n < 0∨(r.length:Int) < n∨(r.take n.toNat).any (fun z=>decide (z < 0))=true
    · rw [if_pos q]
    · rw [if_neg q]
      simp only [not_or] at q
      obtain ⟨q1,q2,q3⟩:=q
      rw [List.any_cons] at h
      have h1:(r.any fun z=>decide (z < 0))=true:=by
        rw [decide_eq_false q1] at h
        exact h
      have h2:((r.drop n.toNat).any fun z=>decide (z < 0))=true:=by
        rw [← List.take_append_drop n.toNat r,List.any_append] at h1
        rw [Bool.or_eq_true] at h1
        rcases h1 with h1 | h1
        · exact absurd h1 q3
        · exact h1
      rw [waysR_neg k (r.drop n.toNat) (by rw [List.length_drop];omega) h2]
      rfl
theorem waysR_step {n:Int} {r:List Int} (h:∀ z∈n :: r,0≤z) (hn:n≤r.length):waysR (n :: r)=(waysR (r.drop n.toNat)).map fun ws=>(r.take n.toNat).map Int.toNat :: ws:=by
  rw [waysR_cons,if_neg]
  simp only [not_or]
  refine ⟨by have:=h n List.mem_cons_self;omega,by omega,?_⟩
  rw [Bool.not_eq_true,List.any_eq_false]
  intro z hz
  have:=h z (List.mem_cons_of_mem _ (List.mem_of_mem_take hz))
  simp
  omega
theorem waysR_short {n:Int} {r:List Int} (hn:(r.length:Int) < n):waysR (n :: r)=none:=by
  rw [waysR_cons,if_pos (.inr (.inl hn))]
theorem waysR_at {l:List Int} (h:∀ z∈l,0≤z) {p:Nat} {n:Int} (hp:l[p]?=some n) :
    (p + 1 + n.toNat≤l.length→waysR (l.drop p)=(waysR (l.drop (p + 1 + n.toNat))).map fun ws=>((l.drop (p + 1)).take n.toNat).map Int.toNat :: ws)∧(l.length < p + 1 + n.toNat→waysR (l.drop p)=none):=by
  obtain ⟨hlt,he⟩:=List.getElem?_eq_some_iff.mp hp
  have e:l.drop p=n :: l.drop (p + 1):=by rw [List.drop_eq_getElem_cons hlt,he]
  have hn:0≤n:=h n (List.mem_of_getElem? hp)
  have hlen:(l.drop (p + 1)).length=l.length - (p + 1):=List.length_drop
  constructor
  · intro q
    rw [e,waysR_step (fun z hz=>h z (List.mem_of_mem_drop (by rw [e];exact hz))) (by rw [hlen];omega),List.drop_drop]
  · intro q
    rw [e,waysR_short (by rw [hlen];omega)]
theorem toNat_cast {l:List Int} (h:∀ z∈l,0≤z):(l.map Int.toNat).map (fun (x:Nat)=>(x:Int))=l:=by
  rw [List.map_map]
  refine (List.map_congr_left fun z hz=>?_).trans (List.map_id _)
  show ((z.toNat:Nat):Int)=z
  have:=h z hz
  omega
theorem find_zip (p:Nat × List Nat→Bool):∀ (ws:List (List Nat)) (k:Nat),((List.range' k ws.length).zip ws).find? p=none∨∃ i w,ws[i]?=some w∧p (k + i,w)=true∧(∀ j v,j < i→ws[j]?=some v→p (k + j,v)=false)∧((List.range' k ws.length).zip ws).find? p=some (k + i,w)
  | [],k=>.inl rfl
  | w :: ws,k=>by
    have e:(List.range' k (w :: ws).length).zip (w :: ws)=(k,w) :: (List.range' (k + 1) ws.length).zip ws:=rfl
    rw [e,List.find?_cons]
    cases h:p (k,w) with
    | true=>exact .inr ⟨0,w,rfl,h,fun j v hj=>by omega,rfl⟩
    | false =>
      dsimp only
      rcases find_zip p ws (k + 1) with q | ⟨i,w',h1,h2,h3,h4⟩
      · exact .inl q
      · refine .inr ⟨i + 1,w',by simpa using h1,by rw [show k + (i + 1)=k + 1 + i by omega];exact h2,fun j v hj hv=>?_,by rw [show k + (i + 1)=k + 1 + i by omega];exact h4⟩
        cases j with
        | zero =>
          have:w=v:=by simpa using hv
          rw [← this];exact h
        | succ j =>
          rw [show k + (j + 1)=k + 1 + j by omega]
          exact h3 j v (by omega) (by simpa using hv)
theorem find_zip_none {p:Nat × List Nat→Bool} {ws:List (List Nat)} {k:Nat} (h:((List.range' k ws.length).zip ws).find? p=none):∀ i w,ws[i]?=some w→p (k + i,w)=false:=by
  intro i w hi
  have:=List.find?_eq_none.mp h (k + i,w) (by
    refine List.mem_of_getElem? (i:=i) ?_
    rw [List.getElem?_zip_eq_some]
    refine ⟨?_,hi⟩
    have hlt:=(List.getElem?_eq_some_iff.mp hi).1
    rw [List.getElem?_range' hlt]
    simp)
  simpa using this
theorem judged_wrong {s:State} {g:Nat} {ws:List (List Nat)} {i:Nat} {w:List Nat} (hi:ws[i]?=some w) (hw:wrongWay s g w≠0) (hb:∀ j v,j < i→ws[j]?=some v→wrongWay s g v=0):judged s g ws=[1,(i:Int),(wrongWay s g w:Int)]:=by
  unfold judged
  rw [List.range_eq_range']
  rcases find_zip (fun t=>wrongWay s g t.2 != 0) ws 0 with q | ⟨j,v,h1,h2,h3,h4⟩
  · have:=find_zip_none q i w hi
    simp at this
    exact absurd this hw
  · have h2':wrongWay s g v≠0:=by simpa using h2
    have e:j=i:=by
      rcases Nat.lt_trichotomy j i with q | q | q
      · exact absurd (hb j v q h1) h2'
      · exact q
      · have:=h3 i w q hi
        simp at this
        exact absurd this hw
    subst e
    have:v=w:=Option.some.inj (h1.symm.trans hi)
    subst this
    rw [h4]
    simp
theorem judged_ok {s:State} {g:Nat} {ws:List (List Nat)} (hb:∀ v∈ws,wrongWay s g v=0):judged s g ws=match (fillables s g).find? (fun a=>decide ((nodeOf s a).free < used ws a)) with
    | some a=>[2,(a:Int)]
    | none=>[0,(ws.length:Int)]:=by
  unfold judged
  rw [List.range_eq_range']
  rcases find_zip (fun t=>wrongWay s g t.2 != 0) ws 0 with q | ⟨j,v,h1,h2,h3,h4⟩
  · rw [q];dsimp only;generalize List.find? (fun a=>decide ((nodeOf s a).free < used ws a)) (fillables s g)=o;cases o <;> rfl
  · have:=hb v (List.mem_of_getElem? h1)
    simp [this] at h2
theorem find_first {p:Nat→Bool}:∀ {l:List Nat} {i a:Nat},l[i]?=some a→p a=true→(∀ j b,j < i→l[j]?=some b→p b=false)→l.find? p=some a
  | [],_,_,h,_,_=>by simp at h
  | x :: l,0,a,h,hp,_=>by
    have:x=a:=by simpa using h
    subst this
    rw [List.find?_cons,hp]
  | x :: l,i + 1,a,h,hp,hb=>by
    rw [List.find?_cons,hb 0 x (by omega) rfl]
    exact find_first (by simpa using h) hp fun j b hj hjb=>hb (j + 1) b (by omega) (by simpa using hjb)
theorem wrong1 {s:State} {g:Nat} {l:List Nat} (h:(l.head?.any fun a=>decide (a < size s) && isBase s a)=false):wrongWay s g l=1:=by
  unfold wrongWay
  rw [if_pos h]
section
variable {s:State} {g:Nat} {l:List Nat} (h1:(l.head?.any fun a=>decide (a < size s) && isBase s a)=true)
include h1
theorem wrong2 (h:l.getLast?≠some g):wrongWay s g l=2:=by
  unfold wrongWay
  rw [if_neg (by rw [h1];simp),if_pos h]
variable (h2:l.getLast?=some g)
include h2
theorem wrong3 (h:((l.zip (l.drop 1)).all fun t=>joined s t.1 t.2)=false):wrongWay s g l=3:=by
  unfold wrongWay
  rw [if_neg (by rw [h1];simp),if_neg (fun q=>q h2),if_pos h]
variable (h3:((l.zip (l.drop 1)).all fun t=>joined s t.1 t.2)=true)
include h3
theorem wrong4 (h:twice l=true):wrongWay s g l=4:=by
  unfold wrongWay
  rw [if_neg (by rw [h1];simp),if_neg (fun q=>q h2),if_neg (by rw [h3];simp),if_pos h]
variable (h4:twice l=false)
include h4
theorem wrong5 (h:((l.drop 1).dropLast.any fun a=>shut s a || isBase s a)=true):wrongWay s g l=5:=by
  unfold wrongWay
  rw [if_neg (by rw [h1];simp),if_neg (fun q=>q h2),if_neg (by rw [h3];simp),if_neg (by rw [h4];simp),if_pos h]
theorem wrong0 (h:((l.drop 1).dropLast.any fun a=>shut s a || isBase s a)=false):wrongWay s g l=0:=by
  unfold wrongWay
  rw [if_neg (by rw [h1];simp),if_neg (fun q=>q h2),if_neg (by rw [h3];simp),if_neg (by rw [h4];simp),if_neg (by rw [h];simp)]
end
theorem between_lt {s:State} (wfs:Wfs s):∀ {l:List Nat},((l.zip (l.drop 1)).all fun t=>joined s t.1 t.2)=true→∀ x∈l.drop 1,x < size s
  | [],_,x,hx=>by cases hx
  | [a],_,x,hx=>by cases hx
  | a :: b :: l,h,x,hx=>by
    have h':(joined s a b && ((b :: l).zip ((b :: l).drop 1)).all fun t=>joined s t.1 t.2)=true:=h
    rw [Bool.and_eq_true] at h'
    rcases List.mem_cons.mp (show x∈b :: l from hx) with e | hx
    · rw [e];exact joined_lt wfs h'.1
    · exact between_lt wfs h'.2 x hx
end Th
end
section
namespace Th
open Vbsgad
def lvOf (es:List Arc) (i:Nat):List Nat:=(List.range (2 * es.length)).filter fun a=>hdOf es (tw a) == i
def hdsOf (es:List Arc):List Nat:=(List.range (2 * es.length)).map (hdOf es)
def rms (R:Nat→Nat) (m:Nat):List Nat:=(List.range (2 * m)).map R
def R0 (es:List Arc) (a:Nat):Nat:=if a % 2=0 then (arcAt es (a / 2)).cap else 0
theorem mem_lvOf {es:List Arc} {i a:Nat}:a∈lvOf es i↔a < 2 * es.length∧hdOf es (tw a)=i:=by
  unfold lvOf
  rw [List.mem_filter,List.mem_range]
  simp
theorem lvOf_len (es:List Arc) (i:Nat):(lvOf es i).length≤2 * es.length:=by
  have:=List.length_filter_le (fun a=>hdOf es (tw a) == i) (List.range (2 * es.length))
  rw [List.length_range] at this
  exact this
theorem hds_len (es:List Arc):(hdsOf es).length=2 * es.length:=by unfold hdsOf;rw [List.length_map,List.length_range]
theorem hds_get {es:List Arc} {a:Nat} (h:a < 2 * es.length):(hdsOf es)[a]?=some (hdOf es a):=by
  unfold hdsOf
  rw [List.getElem?_map,List.getElem?_range h]
  rfl
theorem rms_len (R:Nat→Nat) (m:Nat):(rms R m).length=2 * m:=by unfold rms;rw [List.length_map,List.length_range]
theorem rms_get {R:Nat→Nat} {m a:Nat} (h:a < 2 * m):(rms R m)[a]?=some (R a):=by
  unfold rms
  rw [List.getElem?_map,List.getElem?_range h]
  rfl
theorem rms_set {R:Nat→Nat} {m a v:Nat}:(rms R m).set a v=rms (fun b=>if b=a then v else R b) m:=by
  apply List.ext_getElem?
  intro i
  rw [List.getElem?_set]
  by_cases hi:i < 2 * m
  · rw [rms_get hi,rms_get hi,rms_len]
    by_cases e:a=i
    · subst e
      rw [if_pos rfl,if_pos hi,if_pos rfl]
    · rw [if_neg e,if_neg (fun q=>e q.symm)]
  · have h1:(rms R m)[i]?=none:=List.getElem?_eq_none_iff.mpr (by rw [rms_len];omega)
    have h2:(rms (fun b=>if b=a then v else R b) m)[i]?=none:=List.getElem?_eq_none_iff.mpr (by rw [rms_len];omega)
    rw [h1,h2,rms_len]
    split
    · rw [if_neg (by omega)]
    · rfl
theorem range2 (m:Nat):List.range (2 * (m + 1))=List.range (2 * m)++[2 * m,2 * m + 1]:=by
  rw [show 2 * (m + 1)=2 * m + 1 + 1 by omega,List.range_succ,List.range_succ,List.append_assoc]
  rfl
theorem hdOf_snoc {es:List Arc} {e:Arc} {a:Nat} (h:a < 2 * es.length):hdOf (es++[e]) a=hdOf es a:=by
  unfold hdOf
  rw [arcAt_snoc_lt (by omega)]
theorem hdOf_last {es:List Arc} {e:Arc}:hdOf (es++[e]) (2 * es.length)=e.hd∧hdOf (es++[e]) (2 * es.length + 1)=e.tl:=by
  rw [hd_even,hd_odd,arcAt_snoc]
  exact ⟨rfl,rfl⟩
theorem snoc_len (es:List Arc) (e:Arc):(es++[e]).length=es.length + 1:=by rw [List.length_append];rfl
theorem hds_snoc (es:List Arc) (e:Arc):hdsOf (es++[e])=hdsOf es++[e.hd,e.tl]:=by
  unfold hdsOf
  rw [snoc_len,range2,List.map_append]
  congr 1
  · exact List.map_congr_left fun a ha=>hdOf_snoc (List.mem_range.mp ha)
  · show [hdOf (es++[e]) (2 * es.length),hdOf (es++[e]) (2 * es.length + 1)]=_
    rw [hdOf_last.1,hdOf_last.2]
theorem rms_snoc (es:List Arc) (e:Arc):rms (R0 (es++[e])) (es.length + 1)=rms (R0 es) es.length++[e.cap,0]:=by
  unfold rms
  rw [range2,List.map_append]
  congr 1
  · refine List.map_congr_left fun a ha=>?_
    unfold R0
    rw [arcAt_snoc_lt (by have:=List.mem_range.mp ha;omega)]
  · show [R0 (es++[e]) (2 * es.length),R0 (es++[e]) (2 * es.length + 1)]=_
    unfold R0
    rw [if_pos (by omega),if_neg (by omega),show 2 * es.length / 2=es.length by omega,arcAt_snoc]
theorem tw_even (m:Nat):tw (2 * m)=2 * m + 1:=by unfold tw;rw [if_pos (by omega)]
theorem tw_odd (m:Nat):tw (2 * m + 1)=2 * m:=by unfold tw;rw [if_neg (by omega)];omega
theorem lv_snoc (es:List Arc) (e:Arc) (i:Nat):lvOf (es++[e]) i=lvOf es i++((if e.tl=i then [2 * es.length] else [])++(if e.hd=i then [2 * es.length + 1] else [])):=by
  unfold lvOf
  rw [snoc_len,range2,List.filter_append]
  congr 1
  · exact List.filter_congr fun a ha=>by rw [hdOf_snoc (tw_lt (List.mem_range.mp ha))]
  · rw [List.filter_cons,List.filter_cons,tw_even,tw_odd,hdOf_last.1,hdOf_last.2]
    by_cases h1:e.tl=i <;> by_cases h2:e.hd=i <;> simp [h1,h2]
theorem runs0 (es:List Arc) (S:List Nat) (e:Nat):Runs es S e (R0 es) 0:=Runs.begin fun j _=>by
  unfold R0
  rw [if_pos (by omega),if_neg (by omega),show 2 * j / 2=j by omega]
  exact ⟨rfl,rfl⟩
def ArcsIn (es:List Arc) (n:Nat):Prop:=∀ e∈es,e.tl < n∧e.hd < n∧e.tl≠e.hd
theorem ArcsIn.hd {es:List Arc} {n a:Nat} (h:ArcsIn es n) (ha:a < 2 * es.length):hdOf es a < n:=by
  have h2:a / 2 < es.length:=by omega
  have hm:arcAt es (a / 2)∈es:=by
    unfold arcAt
    rw [List.getD_eq_getElem?_getD,List.getElem?_eq_getElem h2]
    exact List.getElem_mem h2
  unfold hdOf
  split
  · exact (h _ hm).2.1
  · exact (h _ hm).1
theorem ArcsIn.nil (n:Nat):ArcsIn [] n:=fun _ h=>nomatch h
theorem ArcsIn.snoc {es:List Arc} {n:Nat} {e:Arc} (h:ArcsIn es n) (h1:e.tl < n) (h2:e.hd < n) (h3:e.tl≠e.hd):ArcsIn (es++[e]) n:=fun x hx=>by
  rcases List.mem_append.mp hx with hx | hx
  · exact h x hx
  · rw [List.mem_singleton.mp hx];exact ⟨h1,h2,h3⟩
theorem Found.more {es:List Arc} {S:List Nat} {e:Nat} {R:Nat→Nat} {ps:List Nat} (h:Found es S e R ps) (hne:ps≠[]):Way es S e ps∧ps.Nodup∧∀ a∈ps,a < 2 * es.length∧0 < R a:=by
  rcases h with h | h
  · exact h.2
  · exact absurd h.1 hne
theorem lineArcs_len (s:State):(s.lines.flatMap lineArcs).length=2 * s.lines.length:=by
  induction s.lines with
  | nil=>rfl
  | cons l ls ih=>rw [List.flatMap_cons,List.length_append,ih,List.length_cons];show 2 + _=_;omega
theorem nodeArcs_len (s:State) (X:List Nat) (n:Nat):(nodeArcs s X n).length≤n:=by
  unfold nodeArcs
  rw [List.length_map]
  have:=List.length_filter_le (fun i=>!X.contains i) (List.range n)
  rw [List.length_range] at this
  exact this
theorem lines_snoc (s:State) {k:Nat} {l:Nat × Nat} (h:s.lines[k]?=some l):(s.lines.take (k + 1)).flatMap lineArcs=(s.lines.take k).flatMap lineArcs++[⟨2 * l.1 + 1,2 * l.2,97⟩]++[⟨2 * l.2 + 1,2 * l.1,97⟩]:=by
  rw [List.take_add_one,h,List.flatMap_append]
  rw [List.append_assoc]
  rfl
theorem startsOf_nodup (s:State):(startsOf s).Nodup:=by
  unfold startsOf
  unfold List.Nodup
  rw [List.pairwise_map]
  exact (bases_nodup s).imp fun {a b} h q=>h (by omega)
theorem startsOf_lt {s:State} {x:Nat} (h:x∈startsOf s):x < 2 * size s:=by
  obtain ⟨b,hb,rfl⟩:=List.mem_map.mp h
  have:=bases_lt b hb
  omega
theorem startsOf_odd {s:State} {g:Nat}:2 * g ∉ startsOf s:=fun h=>by
  obtain ⟨b,hb,e⟩:=List.mem_map.mp h
  omega
end Th
end
section
namespace Sh
open PySem PySem.Spec PyProof.Rows L2
def top (i:Nat):Stmt:=PySem.Challenge.pw_shutoff_s01_answers.main.body.getD i (.Pass ⟨0,0,0,0⟩)
abbrev s_Flow___init__:Stmt:=inClass (top 1) 0
abbrev s_Flow_add_arc:Stmt:=inClass (top 1) 1
abbrev s_Flow_arcs_with_room:Stmt:=inClass (top 1) 2
abbrev s_Flow_push_along:Stmt:=inClass (top 1) 3
abbrev s_Flow_most:Stmt:=inClass (top 1) 4
abbrev s_nodes_come_to:Stmt:=top 3
abbrev s_reached_nodes:Stmt:=top 4
abbrev s_needed_nodes:Stmt:=top 5
abbrev s_is_cut_off:Stmt:=top 8
abbrev s_stops_to_fill:Stmt:=top 9
abbrev s_room_at:Stmt:=top 10
abbrev s_least_price:Stmt:=top 11
abbrev s_least_number:Stmt:=top 12
abbrev s_tight_stops:Stmt:=top 13
abbrev s_nearest_stops:Stmt:=top 14
abbrev s_furthest_stops:Stmt:=top 15
abbrev s_weakest_stop:Stmt:=top 16
abbrev s_Node___init__:Stmt:=inClass (top 21) 0
abbrev s_Node_is_shut:Stmt:=inClass (top 21) 1
abbrev s_Node_is_open_to_strangers:Stmt:=inClass (top 21) 2
abbrev s_Network___init__:Stmt:=inClass (top 22) 0
abbrev s_Network_has_node:Stmt:=inClass (top 22) 1
abbrev s_Network_has_line:Stmt:=inClass (top 22) 2
abbrev s_Network_are_joined:Stmt:=inClass (top 22) 3
abbrev s_Network_neighbours:Stmt:=inClass (top 22) 4
abbrev s_ways_of_row:Stmt:=top 38
abbrev s_begins_at_base:Stmt:=top 39
abbrev s_lets_through:Stmt:=top 40
abbrev s_wrong_of_way:Stmt:=top 41
abbrev s_crowded_stop:Stmt:=top 42
abbrev s_are_in_range:Stmt:=top 44
abbrev s_counted:Stmt:=top 45
abbrev s_row_refusal:Stmt:=top 46
abbrev s_answer_node:Stmt:=top 47
abbrev s_answer_line:Stmt:=top 48
abbrev s_answer_set:Stmt:=top 49
abbrev s_answer_unline:Stmt:=top 50
abbrev s_answer_clear:Stmt:=top 51
abbrev s_answer_graph:Stmt:=top 52
abbrev s_answer_fill:Stmt:=top 53
abbrev s_answer_reach:Stmt:=top 54
abbrev s_answer_reach_if:Stmt:=top 55
abbrev s_told_least:Stmt:=top 56
abbrev s_answer_least:Stmt:=top 57
abbrev s_answer_tight:Stmt:=top 58
abbrev s_answer_nearest:Stmt:=top 59
abbrev s_answer_furthest:Stmt:=top 60
abbrev s_answer_cuts:Stmt:=top 61
abbrev s_answer_ways:Stmt:=top 62
abbrev s_answer_needed:Stmt:=top 63
abbrev s_answer_all:Stmt:=top 64
abbrev s_answer_weakest:Stmt:=top 65
abbrev s_answers:Stmt:=top 67
abbrev n_Flow___init__:List Str:=["self","sides","side"]
abbrev n_Flow_add_arc:List Str:=["self","tail","head","room"]
abbrev n_Flow_arcs_with_room:List Str:=["self","starts","end","came_by","waiting","place","arcs","arc","head","start"]
abbrev n_Flow_push_along:List Str:=["self","arcs","amount","arc"]
abbrev n_Flow_most:List Str:=["self","starts","end","total","arcs"]
abbrev n_nodes_come_to:List Str:=["network","starts","barred","joined","come_to","waiting","here","number","start"]
abbrev n_reached_nodes:List Str:=["network","barred","bases","shut","number","node"]
abbrev n_needed_nodes:List Str:=["network","goal","others","number"]
abbrev n_is_cut_off:List Str:=["network","goal","filled","stop"]
abbrev n_stops_to_fill:List Str:=["network","goal","stop","node"]
abbrev n_room_at:List Str:=["node"]
abbrev n_least_price:List Str:=["network","goal","filled","flow","line","starts","number","node"]
abbrev n_least_number:List Str:=["network","goal"]
abbrev n_tight_stops:List Str:=["network","goal","least","tight","stop"]
abbrev n_nearest_stops:List Str:=["network","goal","tight","reached","stop"]
abbrev n_furthest_stops:List Str:=["network","goal","tight","closed","barred","behind","number","stop","node"]
abbrev n_weakest_stop:List Str:=["network","weakest","stop","node","least"]
abbrev n_Node___init__:List Str:=["self","stop","free","base"]
abbrev n_Node_is_shut:List Str:=["self"]
abbrev n_Node_is_open_to_strangers:List Str:=["self"]
abbrev n_Network___init__:List Str:=["self"]
abbrev n_Network_has_node:List Str:=["self","number"]
abbrev n_Network_has_line:List Str:=["self","number"]
abbrev n_Network_are_joined:List Str:=["self","a","b"]
abbrev n_Network_neighbours:List Str:=["self","joined","line","node"]
abbrev n_ways_of_row:List Str:=["row","ways","place","end","number"]
abbrev n_begins_at_base:List Str:=["network","way"]
abbrev n_lets_through:List Str:=["node"]
abbrev n_wrong_of_way:List Str:=["network","goal","way","number","a","b"]
abbrev n_crowded_stop:List Str:=["network","goal","ways","stop","through","way"]
abbrev n_are_in_range:List Str:=["free","base"]
abbrev n_counted:List Str:=["numbers"]
abbrev n_row_refusal:List Str:=["network","row","number"]
abbrev n_answer_node:List Str:=["network","arguments","stop","free","base"]
abbrev n_answer_line:List Str:=["network","arguments","a","b"]
abbrev n_answer_set:List Str:=["network","arguments","number","free","base","node"]
abbrev n_answer_unline:List Str:=["network","arguments","number"]
abbrev n_answer_clear:List Str:=["network","arguments"]
abbrev n_answer_graph:List Str:=["network","arguments","told","node","line"]
abbrev n_answer_fill:List Str:=["network","arguments","number","node"]
abbrev n_answer_reach:List Str:=["network","arguments"]
abbrev n_answer_reach_if:List Str:=["network","arguments","row","refusal"]
abbrev n_told_least:List Str:=["network","goal","least"]
abbrev n_answer_least:List Str:=["network","arguments","goal"]
abbrev n_answer_tight:List Str:=["network","arguments","goal"]
abbrev n_answer_nearest:List Str:=["network","arguments","goal"]
abbrev n_answer_furthest:List Str:=["network","arguments","goal"]
abbrev n_answer_cuts:List Str:=["network","arguments","goal","row","refusal","price","stop"]
abbrev n_answer_ways:List Str:=["network","arguments","goal","ways","stop","place","way","wrong"]
abbrev n_answer_needed:List Str:=["network","arguments","goal"]
abbrev n_answer_all:List Str:=["network","arguments","stops","told","stop","number","node"]
abbrev n_answer_weakest:List Str:=["network","arguments","weakest"]
abbrev n_answers:List Str:=["calls","network","told","place","shape","behind","arguments","answer_call","row_end"]
theorem sc_Flow___init__:FnScope n_Flow___init__ ["self","sides"] (defScope s_Flow___init__):=⟨rfl,rfl,rfl,by decide +kernel,rfl,by decide +kernel,by decide +kernel⟩
theorem sc_Flow_add_arc:FnScope n_Flow_add_arc ["self","tail","head","room"] (defScope s_Flow_add_arc):=⟨rfl,rfl,rfl,by decide +kernel,rfl,by decide +kernel,by decide +kernel⟩
theorem sc_Flow_arcs_with_room:FnScope n_Flow_arcs_with_room ["self","starts","end"] (defScope s_Flow_arcs_with_room):=⟨rfl,rfl,rfl,by decide +kernel,rfl,by decide +kernel,by decide +kernel⟩
theorem sc_Flow_push_along:FnScope n_Flow_push_along ["self","arcs"] (defScope s_Flow_push_along):=⟨rfl,rfl,rfl,by decide +kernel,rfl,by decide +kernel,by decide +kernel⟩
theorem sc_Flow_most:FnScope n_Flow_most ["self","starts","end"] (defScope s_Flow_most):=⟨rfl,rfl,rfl,by decide +kernel,rfl,by decide +kernel,by decide +kernel⟩
theorem sc_nodes_come_to:FnScope n_nodes_come_to ["network","starts","barred"] (defScope s_nodes_come_to):=⟨rfl,rfl,rfl,by decide +kernel,rfl,by decide +kernel,by decide +kernel⟩
theorem sc_reached_nodes:FnScope n_reached_nodes ["network","barred"] (defScope s_reached_nodes):=⟨rfl,rfl,rfl,by decide +kernel,rfl,by decide +kernel,by decide +kernel⟩
theorem sc_needed_nodes:FnScope n_needed_nodes ["network","goal"] (defScope s_needed_nodes):=⟨rfl,rfl,rfl,by decide +kernel,rfl,by decide +kernel,by decide +kernel⟩
theorem sc_is_cut_off:FnScope n_is_cut_off ["network","goal","filled"] (defScope s_is_cut_off):=⟨rfl,rfl,rfl,by decide +kernel,rfl,by decide +kernel,by decide +kernel⟩
theorem sc_stops_to_fill:FnScope n_stops_to_fill ["network","goal"] (defScope s_stops_to_fill):=⟨rfl,rfl,rfl,by decide +kernel,rfl,by decide +kernel,by decide +kernel⟩
theorem sc_room_at:FnScope n_room_at ["node"] (defScope s_room_at):=⟨rfl,rfl,rfl,by decide +kernel,rfl,by decide +kernel,by decide +kernel⟩
theorem sc_least_price:FnScope n_least_price ["network","goal","filled"] (defScope s_least_price):=⟨rfl,rfl,rfl,by decide +kernel,rfl,by decide +kernel,by decide +kernel⟩
theorem sc_least_number:FnScope n_least_number ["network","goal"] (defScope s_least_number):=⟨rfl,rfl,rfl,by decide +kernel,rfl,by decide +kernel,by decide +kernel⟩
theorem sc_tight_stops:FnScope n_tight_stops ["network","goal"] (defScope s_tight_stops):=⟨rfl,rfl,rfl,by decide +kernel,rfl,by decide +kernel,by decide +kernel⟩
theorem sc_nearest_stops:FnScope n_nearest_stops ["network","goal"] (defScope s_nearest_stops):=⟨rfl,rfl,rfl,by decide +kernel,rfl,by decide +kernel,by decide +kernel⟩
theorem sc_furthest_stops:FnScope n_furthest_stops ["network","goal"] (defScope s_furthest_stops):=⟨rfl,rfl,rfl,by decide +kernel,rfl,by decide +kernel,by decide +kernel⟩
theorem sc_weakest_stop:FnScope n_weakest_stop ["network"] (defScope s_weakest_stop):=⟨rfl,rfl,rfl,by decide +kernel,rfl,by decide +kernel,by decide +kernel⟩
theorem sc_Node___init__:FnScope n_Node___init__ ["self","stop","free","base"] (defScope s_Node___init__):=⟨rfl,rfl,rfl,by decide +kernel,rfl,by decide +kernel,by decide +kernel⟩
theorem sc_Node_is_shut:FnScope n_Node_is_shut ["self"] (defScope s_Node_is_shut):=⟨rfl,rfl,rfl,by decide +kernel,rfl,by decide +kernel,by decide +kernel⟩
theorem sc_Node_is_open_to_strangers:FnScope n_Node_is_open_to_strangers ["self"] (defScope s_Node_is_open_to_strangers):=⟨rfl,rfl,rfl,by decide +kernel,rfl,by decide +kernel,by decide +kernel⟩
theorem sc_Network___init__:FnScope n_Network___init__ ["self"] (defScope s_Network___init__):=⟨rfl,rfl,rfl,by decide +kernel,rfl,by decide +kernel,by decide +kernel⟩
theorem sc_Network_has_node:FnScope n_Network_has_node ["self","number"] (defScope s_Network_has_node):=⟨rfl,rfl,rfl,by decide +kernel,rfl,by decide +kernel,by decide +kernel⟩
theorem sc_Network_has_line:FnScope n_Network_has_line ["self","number"] (defScope s_Network_has_line):=⟨rfl,rfl,rfl,by decide +kernel,rfl,by decide +kernel,by decide +kernel⟩
theorem sc_Network_are_joined:FnScope n_Network_are_joined ["self","a","b"] (defScope s_Network_are_joined):=⟨rfl,rfl,rfl,by decide +kernel,rfl,by decide +kernel,by decide +kernel⟩
theorem sc_Network_neighbours:FnScope n_Network_neighbours ["self"] (defScope s_Network_neighbours):=⟨rfl,rfl,rfl,by decide +kernel,rfl,by decide +kernel,by decide +kernel⟩
theorem sc_ways_of_row:FnScope n_ways_of_row ["row"] (defScope s_ways_of_row):=⟨rfl,rfl,rfl,by decide +kernel,rfl,by decide +kernel,by decide +kernel⟩
theorem sc_begins_at_base:FnScope n_begins_at_base ["network","way"] (defScope s_begins_at_base):=⟨rfl,rfl,rfl,by decide +kernel,rfl,by decide +kernel,by decide +kernel⟩
theorem sc_lets_through:FnScope n_lets_through ["node"] (defScope s_lets_through):=⟨rfl,rfl,rfl,by decide +kernel,rfl,by decide +kernel,by decide +kernel⟩
theorem sc_wrong_of_way:FnScope n_wrong_of_way ["network","goal","way"] (defScope s_wrong_of_way):=⟨rfl,rfl,rfl,by decide +kernel,rfl,by decide +kernel,by decide +kernel⟩
theorem sc_crowded_stop:FnScope n_crowded_stop ["network","goal","ways"] (defScope s_crowded_stop):=⟨rfl,rfl,rfl,by decide +kernel,rfl,by decide +kernel,by decide +kernel⟩
theorem sc_are_in_range:FnScope n_are_in_range ["free","base"] (defScope s_are_in_range):=⟨rfl,rfl,rfl,by decide +kernel,rfl,by decide +kernel,by decide +kernel⟩
theorem sc_counted:FnScope n_counted ["numbers"] (defScope s_counted):=⟨rfl,rfl,rfl,by decide +kernel,rfl,by decide +kernel,by decide +kernel⟩
theorem sc_row_refusal:FnScope n_row_refusal ["network","row"] (defScope s_row_refusal):=⟨rfl,rfl,rfl,by decide +kernel,rfl,by decide +kernel,by decide +kernel⟩
theorem sc_answer_node:FnScope n_answer_node ["network","arguments"] (defScope s_answer_node):=⟨rfl,rfl,rfl,by decide +kernel,rfl,by decide +kernel,by decide +kernel⟩
theorem sc_answer_line:FnScope n_answer_line ["network","arguments"] (defScope s_answer_line):=⟨rfl,rfl,rfl,by decide +kernel,rfl,by decide +kernel,by decide +kernel⟩
theorem sc_answer_set:FnScope n_answer_set ["network","arguments"] (defScope s_answer_set):=⟨rfl,rfl,rfl,by decide +kernel,rfl,by decide +kernel,by decide +kernel⟩
theorem sc_answer_unline:FnScope n_answer_unline ["network","arguments"] (defScope s_answer_unline):=⟨rfl,rfl,rfl,by decide +kernel,rfl,by decide +kernel,by decide +kernel⟩
theorem sc_answer_clear:FnScope n_answer_clear ["network","arguments"] (defScope s_answer_clear):=⟨rfl,rfl,rfl,by decide +kernel,rfl,by decide +kernel,by decide +kernel⟩
theorem sc_answer_graph:FnScope n_answer_graph ["network","arguments"] (defScope s_answer_graph):=⟨rfl,rfl,rfl,by decide +kernel,rfl,by decide +kernel,by decide +kernel⟩
theorem sc_answer_fill:FnScope n_answer_fill ["network","arguments"] (defScope s_answer_fill):=⟨rfl,rfl,rfl,by decide +kernel,rfl,by decide +kernel,by decide +kernel⟩
theorem sc_answer_reach:FnScope n_answer_reach ["network","arguments"] (defScope s_answer_reach):=⟨rfl,rfl,rfl,by decide +kernel,rfl,by decide +kernel,by decide +kernel⟩
theorem sc_answer_reach_if:FnScope n_answer_reach_if ["network","arguments"] (defScope s_answer_reach_if):=⟨rfl,rfl,rfl,by decide +kernel,rfl,by decide +kernel,by decide +kernel⟩
theorem sc_told_least:FnScope n_told_least ["network","goal"] (defScope s_told_least):=⟨rfl,rfl,rfl,by decide +kernel,rfl,by decide +kernel,by decide +kernel⟩
theorem sc_answer_least:FnScope n_answer_least ["network","arguments"] (defScope s_answer_least):=⟨rfl,rfl,rfl,by decide +kernel,rfl,by decide +kernel,by decide +kernel⟩
theorem sc_answer_tight:FnScope n_answer_tight ["network","arguments"] (defScope s_answer_tight):=⟨rfl,rfl,rfl,by decide +kernel,rfl,by decide +kernel,by decide +kernel⟩
theorem sc_answer_nearest:FnScope n_answer_nearest ["network","arguments"] (defScope s_answer_nearest):=⟨rfl,rfl,rfl,by decide +kernel,rfl,by decide +kernel,by decide +kernel⟩
theorem sc_answer_furthest:FnScope n_answer_furthest ["network","arguments"] (defScope s_answer_furthest):=⟨rfl,rfl,rfl,by decide +kernel,rfl,by decide +kernel,by decide +kernel⟩
theorem sc_answer_cuts:FnScope n_answer_cuts ["network","arguments"] (defScope s_answer_cuts):=⟨rfl,rfl,rfl,by decide +kernel,rfl,by decide +kernel,by decide +kernel⟩
theorem sc_answer_ways:FnScope n_answer_ways ["network","arguments"] (defScope s_answer_ways):=⟨rfl,rfl,rfl,by decide +kernel,rfl,by decide +kernel,by decide +kernel⟩
theorem sc_answer_needed:FnScope n_answer_needed ["network","arguments"] (defScope s_answer_needed):=⟨rfl,rfl,rfl,by decide +kernel,rfl,by decide +kernel,by decide +kernel⟩
theorem sc_answer_all:FnScope n_answer_all ["network","arguments"] (defScope s_answer_all):=⟨rfl,rfl,rfl,by decide +kernel,rfl,by decide +kernel,by decide +kernel⟩
theorem sc_answer_weakest:FnScope n_answer_weakest ["network","arguments"] (defScope s_answer_weakest):=⟨rfl,rfl,rfl,by decide +kernel,rfl,by decide +kernel,by decide +kernel⟩
theorem sc_answers:FnScope n_answers ["calls"] (defScope s_answers):=⟨rfl,rfl,rfl,by decide +kernel,rfl,by decide +kernel,by decide +kernel⟩
structure Ad where
  (c_Flow c_Node c_Network f_Flow___init__ f_Flow_add_arc f_Flow_arcs_with_room f_Flow_push_along f_Flow_most f_nodes_come_to f_reached_nodes f_needed_nodes f_is_cut_off f_stops_to_fill f_room_at f_least_price f_least_number f_tight_stops f_nearest_stops f_furthest_stops f_weakest_stop f_Node___init__ f_Node_is_shut f_Node_is_open_to_strangers f_Network___init__ f_Network_has_node f_Network_has_line f_Network_are_joined f_Network_neighbours f_ways_of_row f_begins_at_base f_lets_through f_wrong_of_way f_crowded_stop f_are_in_range f_counted f_row_refusal f_answer_node f_answer_line f_answer_set f_answer_unline f_answer_clear f_answer_graph f_answer_fill f_answer_reach f_answer_reach_if f_told_least f_answer_least f_answer_tight f_answer_nearest f_answer_furthest f_answer_cuts f_answer_ways f_answer_needed f_answer_all f_answer_weakest f_answers:Addr)
  (d_Flow___init__ d_Flow_add_arc d_Flow_arcs_with_room d_Flow_push_along d_Flow_most d_nodes_come_to d_reached_nodes d_needed_nodes d_is_cut_off d_stops_to_fill d_room_at d_least_price d_least_number d_tight_stops d_nearest_stops d_furthest_stops d_weakest_stop d_Node___init__ d_Node_is_shut d_Node_is_open_to_strangers d_Network___init__ d_Network_has_node d_Network_has_line d_Network_are_joined d_Network_neighbours d_ways_of_row d_begins_at_base d_lets_through d_wrong_of_way d_crowded_stop d_are_in_range d_counted d_row_refusal d_answer_node d_answer_line d_answer_set d_answer_unline d_answer_clear d_answer_graph d_answer_fill d_answer_reach d_answer_reach_if d_told_least d_answer_least d_answer_tight d_answer_nearest d_answer_furthest d_answer_cuts d_answer_ways d_answer_needed d_answer_all d_answer_weakest d_answers:FuncData)
structure Tx (K:PySem.W.Frag) (mg:Str→Option Value) (T:Ad):Prop where
  cl_Flow:Cls K T.c_Flow
  gc_Flow:mg "Flow"=some (.ref T.c_Flow)
  na_Flow_leaving:NoAttr K T.c_Flow "leaving"
  na_Flow_heads:NoAttr K T.c_Flow "heads"
  na_Flow_room:NoAttr K T.c_Flow "room"
  mk_Flow:Mk K T.c_Flow T.f_Flow___init__
  cl_Node:Cls K T.c_Node
  gc_Node:mg "Node"=some (.ref T.c_Node)
  na_Node_stop:NoAttr K T.c_Node "stop"
  na_Node_free:NoAttr K T.c_Node "free"
  na_Node_base:NoAttr K T.c_Node "base"
  mk_Node:Mk K T.c_Node T.f_Node___init__
  cl_Network:Cls K T.c_Network
  gc_Network:mg "Network"=some (.ref T.c_Network)
  na_Network_nodes:NoAttr K T.c_Network "nodes"
  na_Network_lines:NoAttr K T.c_Network "lines"
  mk_Network:Mk K T.c_Network T.f_Network___init__
  F_Flow___init__:Fun K "__init__" "Flow.__init__" s_Flow___init__ T.f_Flow___init__ T.d_Flow___init__
  B_Flow___init__:Binds K T.d_Flow___init__ ["self","sides"] []
  F_Flow_add_arc:Fun K "add_arc" "Flow.add_arc" s_Flow_add_arc T.f_Flow_add_arc T.d_Flow_add_arc
  B_Flow_add_arc:Binds K T.d_Flow_add_arc ["self","tail","head","room"] []
  M_Flow_add_arc:Meth K T.c_Flow "add_arc" T.f_Flow_add_arc
  F_Flow_arcs_with_room:Fun K "arcs_with_room" "Flow.arcs_with_room" s_Flow_arcs_with_room T.f_Flow_arcs_with_room T.d_Flow_arcs_with_room
  B_Flow_arcs_with_room:Binds K T.d_Flow_arcs_with_room ["self","starts","end"] []
  M_Flow_arcs_with_room:Meth K T.c_Flow "arcs_with_room" T.f_Flow_arcs_with_room
  F_Flow_push_along:Fun K "push_along" "Flow.push_along" s_Flow_push_along T.f_Flow_push_along T.d_Flow_push_along
  B_Flow_push_along:Binds K T.d_Flow_push_along ["self","arcs"] []
  M_Flow_push_along:Meth K T.c_Flow "push_along" T.f_Flow_push_along
  F_Flow_most:Fun K "most" "Flow.most" s_Flow_most T.f_Flow_most T.d_Flow_most
  B_Flow_most:Binds K T.d_Flow_most ["self","starts","end"] []
  M_Flow_most:Meth K T.c_Flow "most" T.f_Flow_most
  F_nodes_come_to:Fun K "nodes_come_to" "nodes_come_to" s_nodes_come_to T.f_nodes_come_to T.d_nodes_come_to
  B_nodes_come_to:Binds K T.d_nodes_come_to ["network","starts","barred"] []
  G_nodes_come_to:mg "nodes_come_to"=some (.ref T.f_nodes_come_to)
  F_reached_nodes:Fun K "reached_nodes" "reached_nodes" s_reached_nodes T.f_reached_nodes T.d_reached_nodes
  B_reached_nodes:Binds K T.d_reached_nodes ["network","barred"] []
  G_reached_nodes:mg "reached_nodes"=some (.ref T.f_reached_nodes)
  F_needed_nodes:Fun K "needed_nodes" "needed_nodes" s_needed_nodes T.f_needed_nodes T.d_needed_nodes
  B_needed_nodes:Binds K T.d_needed_nodes ["network","goal"] []
  G_needed_nodes:mg "needed_nodes"=some (.ref T.f_needed_nodes)
  F_is_cut_off:Fun K "is_cut_off" "is_cut_off" s_is_cut_off T.f_is_cut_off T.d_is_cut_off
  B_is_cut_off:Binds K T.d_is_cut_off ["network","goal","filled"] []
  G_is_cut_off:mg "is_cut_off"=some (.ref T.f_is_cut_off)
  F_stops_to_fill:Fun K "stops_to_fill" "stops_to_fill" s_stops_to_fill T.f_stops_to_fill T.d_stops_to_fill
  B_stops_to_fill:Binds K T.d_stops_to_fill ["network","goal"] []
  G_stops_to_fill:mg "stops_to_fill"=some (.ref T.f_stops_to_fill)
  F_room_at:Fun K "room_at" "room_at" s_room_at T.f_room_at T.d_room_at
  B_room_at:Binds K T.d_room_at ["node"] []
  G_room_at:mg "room_at"=some (.ref T.f_room_at)
  F_least_price:Fun K "least_price" "least_price" s_least_price T.f_least_price T.d_least_price
  B_least_price:Binds K T.d_least_price ["network","goal","filled"] []
  G_least_price:mg "least_price"=some (.ref T.f_least_price)
  F_least_number:Fun K "least_number" "least_number" s_least_number T.f_least_number T.d_least_number
  B_least_number:Binds K T.d_least_number ["network","goal"] []
  G_least_number:mg "least_number"=some (.ref T.f_least_number)
  F_tight_stops:Fun K "tight_stops" "tight_stops" s_tight_stops T.f_tight_stops T.d_tight_stops
  B_tight_stops:Binds K T.d_tight_stops ["network","goal"] []
  G_tight_stops:mg "tight_stops"=some (.ref T.f_tight_stops)
  F_nearest_stops:Fun K "nearest_stops" "nearest_stops" s_nearest_stops T.f_nearest_stops T.d_nearest_stops
  B_nearest_stops:Binds K T.d_nearest_stops ["network","goal"] []
  G_nearest_stops:mg "nearest_stops"=some (.ref T.f_nearest_stops)
  F_furthest_stops:Fun K "furthest_stops" "furthest_stops" s_furthest_stops T.f_furthest_stops T.d_furthest_stops
  B_furthest_stops:Binds K T.d_furthest_stops ["network","goal"] []
  G_furthest_stops:mg "furthest_stops"=some (.ref T.f_furthest_stops)
  F_weakest_stop:Fun K "weakest_stop" "weakest_stop" s_weakest_stop T.f_weakest_stop T.d_weakest_stop
  B_weakest_stop:Binds K T.d_weakest_stop ["network"] []
  G_weakest_stop:mg "weakest_stop"=some (.ref T.f_weakest_stop)
  F_Node___init__:Fun K "__init__" "Node.__init__" s_Node___init__ T.f_Node___init__ T.d_Node___init__
  B_Node___init__:Binds K T.d_Node___init__ ["self","stop","free","base"] []
  F_Node_is_shut:Fun K "is_shut" "Node.is_shut" s_Node_is_shut T.f_Node_is_shut T.d_Node_is_shut
  B_Node_is_shut:Binds K T.d_Node_is_shut ["self"] []
  M_Node_is_shut:Meth K T.c_Node "is_shut" T.f_Node_is_shut
  F_Node_is_open_to_strangers:Fun K "is_open_to_strangers" "Node.is_open_to_strangers" s_Node_is_open_to_strangers T.f_Node_is_open_to_strangers T.d_Node_is_open_to_strangers
  B_Node_is_open_to_strangers:Binds K T.d_Node_is_open_to_strangers ["self"] []
  M_Node_is_open_to_strangers:Meth K T.c_Node "is_open_to_strangers" T.f_Node_is_open_to_strangers
  F_Network___init__:Fun K "__init__" "Network.__init__" s_Network___init__ T.f_Network___init__ T.d_Network___init__
  B_Network___init__:Binds K T.d_Network___init__ ["self"] []
  F_Network_has_node:Fun K "has_node" "Network.has_node" s_Network_has_node T.f_Network_has_node T.d_Network_has_node
  B_Network_has_node:Binds K T.d_Network_has_node ["self","number"] []
  M_Network_has_node:Meth K T.c_Network "has_node" T.f_Network_has_node
  F_Network_has_line:Fun K "has_line" "Network.has_line" s_Network_has_line T.f_Network_has_line T.d_Network_has_line
  B_Network_has_line:Binds K T.d_Network_has_line ["self","number"] []
  M_Network_has_line:Meth K T.c_Network "has_line" T.f_Network_has_line
  F_Network_are_joined:Fun K "are_joined" "Network.are_joined" s_Network_are_joined T.f_Network_are_joined T.d_Network_are_joined
  B_Network_are_joined:Binds K T.d_Network_are_joined ["self","a","b"] []
  M_Network_are_joined:Meth K T.c_Network "are_joined" T.f_Network_are_joined
  F_Network_neighbours:Fun K "neighbours" "Network.neighbours" s_Network_neighbours T.f_Network_neighbours T.d_Network_neighbours
  B_Network_neighbours:Binds K T.d_Network_neighbours ["self"] []
  M_Network_neighbours:Meth K T.c_Network "neighbours" T.f_Network_neighbours
  F_ways_of_row:Fun K "ways_of_row" "ways_of_row" s_ways_of_row T.f_ways_of_row T.d_ways_of_row
  B_ways_of_row:Binds K T.d_ways_of_row ["row"] []
  G_ways_of_row:mg "ways_of_row"=some (.ref T.f_ways_of_row)
  F_begins_at_base:Fun K "begins_at_base" "begins_at_base" s_begins_at_base T.f_begins_at_base T.d_begins_at_base
  B_begins_at_base:Binds K T.d_begins_at_base ["network","way"] []
  G_begins_at_base:mg "begins_at_base"=some (.ref T.f_begins_at_base)
  F_lets_through:Fun K "lets_through" "lets_through" s_lets_through T.f_lets_through T.d_lets_through
  B_lets_through:Binds K T.d_lets_through ["node"] []
  G_lets_through:mg "lets_through"=some (.ref T.f_lets_through)
  F_wrong_of_way:Fun K "wrong_of_way" "wrong_of_way" s_wrong_of_way T.f_wrong_of_way T.d_wrong_of_way
  B_wrong_of_way:Binds K T.d_wrong_of_way ["network","goal","way"] []
  G_wrong_of_way:mg "wrong_of_way"=some (.ref T.f_wrong_of_way)
  F_crowded_stop:Fun K "crowded_stop" "crowded_stop" s_crowded_stop T.f_crowded_stop T.d_crowded_stop
  B_crowded_stop:Binds K T.d_crowded_stop ["network","goal","ways"] []
  G_crowded_stop:mg "crowded_stop"=some (.ref T.f_crowded_stop)
  F_are_in_range:Fun K "are_in_range" "are_in_range" s_are_in_range T.f_are_in_range T.d_are_in_range
  B_are_in_range:Binds K T.d_are_in_range ["free","base"] []
  G_are_in_range:mg "are_in_range"=some (.ref T.f_are_in_range)
  F_counted:Fun K "counted" "counted" s_counted T.f_counted T.d_counted
  B_counted:Binds K T.d_counted ["numbers"] []
  G_counted:mg "counted"=some (.ref T.f_counted)
  F_row_refusal:Fun K "row_refusal" "row_refusal" s_row_refusal T.f_row_refusal T.d_row_refusal
  B_row_refusal:Binds K T.d_row_refusal ["network","row"] []
  G_row_refusal:mg "row_refusal"=some (.ref T.f_row_refusal)
  F_answer_node:Fun K "answer_node" "answer_node" s_answer_node T.f_answer_node T.d_answer_node
  B_answer_node:Binds K T.d_answer_node ["network","arguments"] []
  G_answer_node:mg "answer_node"=some (.ref T.f_answer_node)
  F_answer_line:Fun K "answer_line" "answer_line" s_answer_line T.f_answer_line T.d_answer_line
  B_answer_line:Binds K T.d_answer_line ["network","arguments"] []
  G_answer_line:mg "answer_line"=some (.ref T.f_answer_line)
  F_answer_set:Fun K "answer_set" "answer_set" s_answer_set T.f_answer_set T.d_answer_set
  B_answer_set:Binds K T.d_answer_set ["network","arguments"] []
  G_answer_set:mg "answer_set"=some (.ref T.f_answer_set)
  F_answer_unline:Fun K "answer_unline" "answer_unline" s_answer_unline T.f_answer_unline T.d_answer_unline
  B_answer_unline:Binds K T.d_answer_unline ["network","arguments"] []
  G_answer_unline:mg "answer_unline"=some (.ref T.f_answer_unline)
  F_answer_clear:Fun K "answer_clear" "answer_clear" s_answer_clear T.f_answer_clear T.d_answer_clear
  B_answer_clear:Binds K T.d_answer_clear ["network","arguments"] []
  G_answer_clear:mg "answer_clear"=some (.ref T.f_answer_clear)
  F_answer_graph:Fun K "answer_graph" "answer_graph" s_answer_graph T.f_answer_graph T.d_answer_graph
  B_answer_graph:Binds K T.d_answer_graph ["network","arguments"] []
  G_answer_graph:mg "answer_graph"=some (.ref T.f_answer_graph)
  F_answer_fill:Fun K "answer_fill" "answer_fill" s_answer_fill T.f_answer_fill T.d_answer_fill
  B_answer_fill:Binds K T.d_answer_fill ["network","arguments"] []
  G_answer_fill:mg "answer_fill"=some (.ref T.f_answer_fill)
  F_answer_reach:Fun K "answer_reach" "answer_reach" s_answer_reach T.f_answer_reach T.d_answer_reach
  B_answer_reach:Binds K T.d_answer_reach ["network","arguments"] []
  G_answer_reach:mg "answer_reach"=some (.ref T.f_answer_reach)
  F_answer_reach_if:Fun K "answer_reach_if" "answer_reach_if" s_answer_reach_if T.f_answer_reach_if T.d_answer_reach_if
  B_answer_reach_if:Binds K T.d_answer_reach_if ["network","arguments"] []
  G_answer_reach_if:mg "answer_reach_if"=some (.ref T.f_answer_reach_if)
  F_told_least:Fun K "told_least" "told_least" s_told_least T.f_told_least T.d_told_least
  B_told_least:Binds K T.d_told_least ["network","goal"] []
  G_told_least:mg "told_least"=some (.ref T.f_told_least)
  F_answer_least:Fun K "answer_least" "answer_least" s_answer_least T.f_answer_least T.d_answer_least
  B_answer_least:Binds K T.d_answer_least ["network","arguments"] []
  G_answer_least:mg "answer_least"=some (.ref T.f_answer_least)
  F_answer_tight:Fun K "answer_tight" "answer_tight" s_answer_tight T.f_answer_tight T.d_answer_tight
  B_answer_tight:Binds K T.d_answer_tight ["network","arguments"] []
  G_answer_tight:mg "answer_tight"=some (.ref T.f_answer_tight)
  F_answer_nearest:Fun K "answer_nearest" "answer_nearest" s_answer_nearest T.f_answer_nearest T.d_answer_nearest
  B_answer_nearest:Binds K T.d_answer_nearest ["network","arguments"] []
  G_answer_nearest:mg "answer_nearest"=some (.ref T.f_answer_nearest)
  F_answer_furthest:Fun K "answer_furthest" "answer_furthest" s_answer_furthest T.f_answer_furthest T.d_answer_furthest
  B_answer_furthest:Binds K T.d_answer_furthest ["network","arguments"] []
  G_answer_furthest:mg "answer_furthest"=some (.ref T.f_answer_furthest)
  F_answer_cuts:Fun K "answer_cuts" "answer_cuts" s_answer_cuts T.f_answer_cuts T.d_answer_cuts
  B_answer_cuts:Binds K T.d_answer_cuts ["network","arguments"] []
  G_answer_cuts:mg "answer_cuts"=some (.ref T.f_answer_cuts)
  F_answer_ways:Fun K "answer_ways" "answer_ways" s_answer_ways T.f_answer_ways T.d_answer_ways
  B_answer_ways:Binds K T.d_answer_ways ["network","arguments"] []
  G_answer_ways:mg "answer_ways"=some (.ref T.f_answer_ways)
  F_answer_needed:Fun K "answer_needed" "answer_needed" s_answer_needed T.f_answer_needed T.d_answer_needed
  B_answer_needed:Binds K T.d_answer_needed ["network","arguments"] []
  G_answer_needed:mg "answer_needed"=some (.ref T.f_answer_needed)
  F_answer_all:Fun K "answer_all" "answer_all" s_answer_all T.f_answer_all T.d_answer_all
  B_answer_all:Binds K T.d_answer_all ["network","arguments"] []
  G_answer_all:mg "answer_all"=some (.ref T.f_answer_all)
  F_answer_weakest:Fun K "answer_weakest" "answer_weakest" s_answer_weakest T.f_answer_weakest T.d_answer_weakest
  B_answer_weakest:Binds K T.d_answer_weakest ["network","arguments"] []
  G_answer_weakest:mg "answer_weakest"=some (.ref T.f_answer_weakest)
  F_answers:Fun K "answers" "answers" s_answers T.f_answers T.d_answers
  B_answers:Binds K T.d_answers ["calls"] []
  G_answers:mg "answers"=some (.ref T.f_answers)
  k_PLENTY:∃ t,mg "PLENTY"=some (.int (97) t)
  k_MOST_NODES:∃ t,mg "MOST_NODES"=some (.int (24) t)
  k_MOST_LINES:∃ t,mg "MOST_LINES"=some (.int (48) t)
  k_MOST_FREE:∃ t,mg "MOST_FREE"=some (.int (4) t)
  k_NO_SUCH_NODE:∃ t,mg "NO_SUCH_NODE"=some (.int (-1) t)
  k_OUT_OF_RANGE:∃ t,mg "OUT_OF_RANGE"=some (.int (-2) t)
  k_NOT_THAT_KIND:∃ t,mg "NOT_THAT_KIND"=some (.int (-3) t)
  k_NO_MORE_ROOM:∃ t,mg "NO_MORE_ROOM"=some (.int (-4) t)
  k_NO_SUCH_LINE:∃ t,mg "NO_SUCH_LINE"=some (.int (-5) t)
  k_THERE_TWICE:∃ t,mg "THERE_TWICE"=some (.int (-6) t)
  k_JOINED_ALREADY:∃ t,mg "JOINED_ALREADY"=some (.int (-7) t)
  k_BADLY_TOLD_WAYS:∃ t,mg "BADLY_TOLD_WAYS"=some (.int (-8) t)
  k_NOTHING_WRONG:∃ t,mg "NOTHING_WRONG"=some (.int (0) t)
  k_NO_BASE_AT_ITS_BEGINNING:∃ t,mg "NO_BASE_AT_ITS_BEGINNING"=some (.int (1) t)
  k_NO_GOAL_AT_ITS_END:∃ t,mg "NO_GOAL_AT_ITS_END"=some (.int (2) t)
  k_NOT_JOINED:∃ t,mg "NOT_JOINED"=some (.int (3) t)
  k_SAME_NODE_AGAIN:∃ t,mg "SAME_NODE_AGAIN"=some (.int (4) t)
  k_NO_WAY_THROUGH:∃ t,mg "NO_WAY_THROUGH"=some (.int (5) t)
  b_len:mg "len"=none
  b_range:mg "range"=none
  b_enumerate:mg "enumerate"=none
  b_zip:mg "zip"=none
  b_min:mg "min"=none
  b_sum:mg "sum"=none
  b_sorted:mg "sorted"=none
  b_list:mg "list"=none
  b_dict:mg "dict"=none
  b_set:mg "set"=none
  b_any:mg "any"=none
  b_all:mg "all"=none
end Sh
end
section
namespace Sh
open PySem PySem.Spec PyProof.Rows L2
open Vbsgad (State Node)
theorem lk_here {f:Str} {v:V} {r:List (Str × V)}:((f,v) :: r).lookup f=some v:=by simp [List.lookup]
theorem lk_next {f g:Str} {v:V} {r:List (Str × V)} (h:¬ f=g):((g,v) :: r).lookup f=r.lookup f:=by
  rw [List.lookup_cons]
  have:(f == g)=false:=by simpa using h
  rw [this]
theorem putF_here {f:Str} {v x:V} {r:List (Str × V)}:putF f v ((f,x) :: r)=(f,v) :: r:=if_pos rfl
theorem putF_next {f g:Str} {v x:V} {r:List (Str × V)} (h:¬ g=f):putF f v ((g,x) :: r)=(g,x) :: putF f v r:=if_neg h
def nf (x:Node):List (Str × V):=[("stop",.int (Vbsgad.bit x.halt_)),("free",.int x.free),("base",.int (Vbsgad.bit x.base))]
theorem nf_stop (x:Node):(nf x).lookup ("stop":Str)=some (.int (Vbsgad.bit x.halt_)):=lk_here
theorem nf_free (x:Node):(nf x).lookup ("free":Str)=some (.int x.free):=(lk_next (by decide +kernel)).trans lk_here
theorem nf_base (x:Node):(nf x).lookup ("base":Str)=some (.int (Vbsgad.bit x.base)):=(lk_next (by decide +kernel)).trans ((lk_next (by decide +kernel)).trans lk_here)
theorem nf_none (x:Node) {f:Str} (h1:¬ f="stop") (h2:¬ f="free") (h3:¬ f="base"):(nf x).lookup f=none:=(lk_next h1).trans ((lk_next h2).trans ((lk_next h3).trans rfl))
theorem nf_put_free (x:Node) (n:Nat):putF "free" (.int n) (nf x)=nf { x with free:=n }:=(putF_next (by decide +kernel)).trans (congrArg _ putF_here)
theorem nf_put_base (x:Node) (b:Bool):putF "base" (.int (Vbsgad.bit b)) (nf x)=nf { x with base:=b }:=(putF_next (by decide +kernel)).trans (congrArg _ ((putF_next (by decide +kernel)).trans (congrArg _ putF_here)))
def wf (ln ll:Addr):List (Str × V):=[("nodes",.ref ln),("lines",.ref ll)]
theorem wf_nodes (ln ll:Addr):(wf ln ll).lookup ("nodes":Str)=some (.ref ln):=lk_here
theorem wf_lines (ln ll:Addr):(wf ln ll).lookup ("lines":Str)=some (.ref ll):=(lk_next (by decide +kernel)).trans lk_here
theorem wf_none (ln ll:Addr) {f:Str} (h1:¬ f="nodes") (h2:¬ f="lines"):(wf ln ll).lookup f=none:=(lk_next h1).trans ((lk_next h2).trans rfl)
def NodeAt (C:Addr) (H:Hp) (a:Addr) (x:Node):Prop:=∃ dx,H a=some (.ins C dx (nf x))
section
variable {P:Program} {w:World} {K:PySem.W.Frag} {mg:Str→Option Value} {base:Heap} {T:Ad}
def sp_Node_is_shut (T:Ad):Sp:=fun vs H Q _=>∃ a x,vs=[.ref a]∧NodeAt T.c_Node H a x∧Q (.bl (x.halt_ && (x.free == 0 && !x.base))) H
theorem bit_eq (b:Bool):decide (V.int (Vbsgad.bit b)=V.int 1)=b:=by cases b <;> decide
theorem bit_eq0 (b:Bool):decide (V.int (Vbsgad.bit b)=V.int 0)=!b:=by cases b <;> decide
theorem nat_eq0 (n:Nat):decide (V.int (n:Int)=V.int 0)=(n == 0):=by
  rw [dec_int]
  cases n <;> simp
  omega
theorem ok_Node_is_shut (Y:Tx K mg T):FnOk P w K mg base CX0 1 T.f_Node_is_shut T.d_Node_is_shut ["self"] (sp_Node_is_shut T):=by
  refine Y.F_Node_is_shut.ok sc_Node_is_shut (fun vs H Q E h=>?_) (fun cdv A outer s H vs Q E hr h=>?_)
  · obtain ⟨a,x,rfl,_⟩:=h
    rfl
  · obtain ⟨a,x,rfl,⟨dx,ha⟩,k⟩:=h
    refine ⟨_,pss_one (ps_ret (pe_and (pe_cmpR op_eq (pe_fld (pv 0) rfl) pe_int (nomark _)) (pe_and (pe_cmpR op_eq (pe_fld (pv 0) rfl) pe_int (nomark _)) (pe_one (pe_cmpR op_eq (pe_fld (pv 0) rfl) pe_int (nomark _)))))),?_⟩
    refine ⟨_,rfl,a,T.c_Node,dx,_,_,rfl,ha,Y.cl_Node,Y.na_Node_stop,nf_stop x,rfl,_,rfl,?_⟩
    rw [bit_eq]
    cases hx:x.halt_
    · rw [hx] at k
      exact iteF k
    · rw [hx] at k
      refine iteT ?_
      refine ⟨_,rfl,a,T.c_Node,dx,_,_,rfl,ha,Y.cl_Node,Y.na_Node_free,nf_free x,rfl,_,rfl,?_⟩
      rw [nat_eq0]
      cases hf:x.free == 0
      · rw [hf] at k
        exact iteF k
      · rw [hf] at k
        refine iteT ?_
        refine ⟨_,rfl,a,T.c_Node,dx,_,_,rfl,ha,Y.cl_Node,Y.na_Node_base,nf_base x,rfl,?_⟩
        rw [bit_eq0]
        exact k
end
end Sh
end
section
namespace Sh
open PySem PySem.Spec PyProof.Rows L2
open Vbsgad (State Node)
structure Geo where
  (dn ln ll:Addr) (as ts:List Addr)
structure NetAt (T:Ad) (H:Hp) (net:Addr) (s:State) (g:Geo):Prop where
  obj:H net=some (.ins T.c_Network g.dn (wf g.ln g.ll))
  nl:H g.ln=some (.lst (g.as.map V.ref))
  nd:g.as.Nodup
  len:g.as.length=s.nodes.length
  at_:∀ (i:Nat) (a:Addr) (x:Node),g.as[i]?=some a→s.nodes[i]?=some x→NodeAt T.c_Node H a x
  tl:H g.ll=some (.lst (g.ts.map V.ref))
  tlen:g.ts.length=s.lines.length
  tat:∀ (i:Nat) (t:Addr) (l:Nat × Nat),g.ts[i]?=some t→s.lines[i]?=some l→H t=some (.tup [.int l.1,.int l.2])
  ne:g.ln≠g.ll
  wfs:Th.Wfs s
theorem NetAt.same {T:Ad} {H H':Hp} {net:Addr} {s:State} {g:Geo} (N:NetAt T H net s g) (e:Same H H'):NetAt T H' net s g :=
  ⟨e _ _ N.obj,e _ _ N.nl,N.nd,N.len,fun i a x h1 h2=>let ⟨dx,h⟩:=N.at_ i a x h1 h2;⟨dx,e _ _ h⟩,e _ _ N.tl,N.tlen,fun i t l h1 h2=>e _ _ (N.tat i t l h1 h2),N.ne,N.wfs⟩
theorem _root_.L2.Same.lay {H:Hp} {p:Addr} {o:HO} (h:H p=none):Same H (upd H p o):=fun b u e=>by
  rw [upd_ne (ne_of_none e h)];exact e
theorem NetAt.node {T:Ad} {H:Hp} {net:Addr} {s:State} {g:Geo} (N:NetAt T H net s g) {i:Nat} (hi:i < s.nodes.length) :
    ∃ a,g.as[i]?=some a∧s.nodes[i]?=some (Vbsgad.nodeOf s i)∧NodeAt T.c_Node H a (Vbsgad.nodeOf s i):=by
  have h1:g.as[i]?=some (g.as[i]'(by rw [N.len];exact hi)):=List.getElem?_eq_getElem _
  have h2:s.nodes[i]?=some (s.nodes[i]):=List.getElem?_eq_getElem hi
  have h3:s.nodes[i]?=some (Vbsgad.nodeOf s i):=by rw [Th.nodeOf_lt h2];exact h2
  exact ⟨_,h1,h3,N.at_ i _ _ h1 h3⟩
theorem small24 {n:Nat} (h:n≤24):n≤sizeLine:=Nat.le_trans h (by decide)
theorem small48 {n:Nat} (h:n≤48):n < sizeLine:=Nat.lt_of_le_of_lt h (by decide)
def prs:List Addr→List (Nat × Nat)→List (Addr × List Int)
  | t :: ts,l :: ls=>(t,[(l.1:Int),(l.2:Int)]) :: prs ts ls
  | _,_=>[]
theorem prs_refs:∀ {ts:List Addr} {ls:List (Nat × Nat)},ts.length=ls.length→(prs ts ls).map (fun q=>V.ref q.1)=ts.map V.ref
  | [],[],_=>rfl
  | t :: ts,l :: ls,h=>by
    show V.ref t :: (prs ts ls).map _=V.ref t :: ts.map V.ref
    rw [prs_refs (by simpa using h)]
  | [],_ :: _,h=>by simp at h
  | _ :: _,[],h=>by simp at h
theorem prs_mem:∀ {ts:List Addr} {ls:List (Nat × Nat)} {q:Addr × List Int},q∈prs ts ls→∃ (i:Nat) (l:Nat × Nat),ts[i]?=some q.1∧ls[i]?=some l∧q.2=[(l.1:Int),(l.2:Int)]
  | [],_,q,h=>by unfold prs at h;cases h
  | _ :: _,[],q,h=>by unfold prs at h;cases h
  | t :: ts,l :: ls,q,h=>by
    rcases List.mem_cons.mp (show q∈(t,[(l.1:Int),(l.2:Int)]) :: prs ts ls from h) with e | h
    · subst e;exact ⟨0,l,rfl,rfl,rfl⟩
    · obtain ⟨i,l',h1,h2,h3⟩:=prs_mem h
      exact ⟨i + 1,l',by simpa using h1,by simpa using h2,h3⟩
theorem prs_any (x y:Nat):∀ {ts:List Addr} {ls:List (Nat × Nat)},ts.length=ls.length→((prs ts ls).any fun q=>decide (q.2=[(x:Int),(y:Int)]))=ls.any fun l=>l.1 == x && l.2 == y
  | [],[],_=>rfl
  | t :: ts,l :: ls,h=>by
    show (decide ([(l.1:Int),(l.2:Int)]=[(x:Int),(y:Int)]) || (prs ts ls).any _)=((l.1 == x && l.2 == y) || ls.any _)
    rw [prs_any x y (by simpa using h)]
    congr 1
    apply Bool.eq_iff_iff.mpr
    simp
    omega
  | [],_ :: _,h=>by simp at h
  | _ :: _,[],h=>by simp at h
theorem any_or {α:Type} (f g:α→Bool):∀ l:List α,(l.any fun x=>f x || g x)=(l.any f || l.any g)
  | []=>rfl
  | a :: l=>by
    rw [List.any_cons,List.any_cons,List.any_cons,any_or f g l]
    cases f a <;> cases g a <;> cases l.any f <;> cases l.any g <;> rfl
theorem joined_any (s:State) (x y:Nat):Vbsgad.joined s x y=((s.lines.any fun l=>l.1 == x && l.2 == y) || s.lines.any fun l=>l.1 == y && l.2 == x):=by
  unfold Vbsgad.joined
  exact any_or _ _ _
section
variable {P:Program} {w:World} {K:PySem.W.Frag} {mg:Str→Option Value} {base:Heap} {T:Ad}
def sp_Network_has_node (T:Ad):Sp:=fun vs H Q _=>∃ net z s g,vs=[.ref net,.int z]∧NetAt T H net s g∧Q (.bl (decide (0≤z∧z < (s.nodes.length:Int)))) H
theorem ok_Network_has_node (Y:Tx K mg T):FnOk P w K mg base CX0 1 T.f_Network_has_node T.d_Network_has_node ["self","number"] (sp_Network_has_node T):=by
  refine Y.F_Network_has_node.ok sc_Network_has_node (fun vs H Q E h=>?_) (fun cdv A outer s H vs Q E hr h=>?_)
  · obtain ⟨a,x,s,g,rfl,_⟩:=h
    rfl
  · obtain ⟨net,z,s,g,rfl,N,k⟩:=h
    refine ⟨_,pss_one (ps_ret (pe_chain op_le op_lt pe_int (pv 1) (pe_callB call_len_seq (by rfl) Y.b_len PySem.boot_len (pa_cons (pe_fld (pv 0) rfl) pa_nil)))),?_⟩
    refine ⟨_,rfl,_,_,rfl,rfl,_,rfl,?_⟩
    by_cases h0:0≤z
    · rw [decide_eq_true h0]
      refine iteT ⟨_,rfl,net,T.c_Network,_,_,_,rfl,N.obj,Y.cl_Network,Y.na_Network_nodes,wf_nodes _ _,_,_,rfl,.inl (SqL.of N.nl),_,_,rfl,rfl,?_⟩
      have e:decide (z < ((g.as.map V.ref).length:Int))=decide (0≤z∧z < (s.nodes.length:Int)):=by
        rw [List.length_map,N.len]
        apply Bool.eq_iff_iff.mpr
        simp [h0]
      rw [← e] at k
      exact k
    · rw [decide_eq_false h0]
      refine iteF ?_
      have e:decide (0≤z∧z < (s.nodes.length:Int))=false:=decide_eq_false fun q=>h0 q.1
      rw [e] at k
      exact k
def sp_Network_has_line (T:Ad):Sp:=fun vs H Q _=>∃ net z s g,vs=[.ref net,.int z]∧NetAt T H net s g∧Q (.bl (decide (0≤z∧z < (s.lines.length:Int)))) H
theorem ok_Network_has_line (Y:Tx K mg T):FnOk P w K mg base CX0 1 T.f_Network_has_line T.d_Network_has_line ["self","number"] (sp_Network_has_line T):=by
  refine Y.F_Network_has_line.ok sc_Network_has_line (fun vs H Q E h=>?_) (fun cdv A outer s H vs Q E hr h=>?_)
  · obtain ⟨a,x,s,g,rfl,_⟩:=h
    rfl
  · obtain ⟨net,z,s,g,rfl,N,k⟩:=h
    refine ⟨_,pss_one (ps_ret (pe_chain op_le op_lt pe_int (pv 1) (pe_callB call_len_seq (by rfl) Y.b_len PySem.boot_len (pa_cons (pe_fld (pv 0) rfl) pa_nil)))),?_⟩
    refine ⟨_,rfl,_,_,rfl,rfl,_,rfl,?_⟩
    by_cases h0:0≤z
    · rw [decide_eq_true h0]
      refine iteT ⟨_,rfl,net,T.c_Network,_,_,_,rfl,N.obj,Y.cl_Network,Y.na_Network_lines,wf_lines _ _,_,_,rfl,.inl (SqL.of N.tl),_,_,rfl,rfl,?_⟩
      have e:decide (z < ((g.ts.map V.ref).length:Int))=decide (0≤z∧z < (s.lines.length:Int)):=by
        rw [List.length_map,N.tlen]
        apply Bool.eq_iff_iff.mpr
        simp [h0]
      rw [← e] at k
      exact k
    · rw [decide_eq_false h0]
      refine iteF ?_
      have e:decide (0≤z∧z < (s.lines.length:Int))=false:=decide_eq_false fun q=>h0 q.1
      rw [e] at k
      exact k
def sp_Network_are_joined (T:Ad):Sp:=fun vs H Q _=>∃ net s g,∃ x y:Nat,vs=[.ref net,.int x,.int y]∧NetAt T H net s g∧∀ H',Same H H'→Q (.bl (Vbsgad.joined s x y)) H'
theorem ok_Network_are_joined (Y:Tx K mg T):FnOk P w K mg base CX0 1 T.f_Network_are_joined T.d_Network_are_joined ["self","a","b"] (sp_Network_are_joined T):=by
  refine Y.F_Network_are_joined.ok sc_Network_are_joined (fun vs H Q E h=>?_) (fun cdv A outer s H vs Q E hr h=>?_)
  · obtain ⟨a,s,g,x,y,rfl,_⟩:=h
    rfl
  · obtain ⟨net,s,g,x,y,rfl,N,k⟩:=h
    have hu:=hu_of hr
    have ops:∀ (H1:Hp) (p:Addr) (x y:Nat),NetAt T H1 net s g→H1 p=some (.tup [.int x,.int y])→∀ R:VK,R (.bl (s.lines.any fun l=>l.1 == x && l.2 == y)) H1 →
        rInT K (.ref p) (.ref g.ll) H1 R:=by
      intro H1 p x y N1 hp R hR
      refine ⟨g.ll,p,prs g.ts s.lines,[(x:Int),(y:Int)],rfl,rfl,?_,fun q hq=>?_,SqT.of hp,?_⟩
      · rw [prs_refs N1.tlen];exact SqL.of N1.tl
      · obtain ⟨i,l,h1,h2,h3⟩:=prs_mem hq
        rw [h3]
        exact SqT.of (N1.tat i _ l h1 h2)
      · rw [prs_any x y N1.tlen];exact hR
    refine ⟨_,pss_one (ps_ret (pe_or (pe_cmpR (op_in_tups hu) (pe_tup (pa_cons (pv 1) (pa_cons (pv 2) pa_nil))) (pe_fld (pv 0) rfl) (by with_unfolding_all rfl)) (pe_one (pe_cmpR (op_in_tups hu) (pe_tup (pa_cons (pv 2) (pa_cons (pv 1) pa_nil))) (pe_fld (pv 0) rfl) (by with_unfolding_all rfl))))),?_⟩
    refine ⟨_,rfl,_,rfl,by show 2≤sizeLine;decide,fun p hp=>?_⟩
    have s1:Same H (upd H p (.tup [.int x,.int y])):=Same.lay hp
    have N1:=N.same s1
    refine ⟨_,rfl,net,T.c_Network,_,_,_,rfl,N1.obj,Y.cl_Network,Y.na_Network_lines,wf_lines _ _,ops _ p x y N1 upd_same _ ⟨_,rfl,?_⟩⟩
    rw [joined_any] at k
    cases e:s.lines.any fun l=>l.1 == x && l.2 == y
    · rw [e] at k
      refine iteF ?_
      refine ⟨_,rfl,_,rfl,by show 2≤sizeLine;decide,fun q hq=>?_⟩
      have s2:Same (upd H p (.tup [.int x,.int y])) (upd (upd H p (.tup [.int x,.int y])) q (.tup [.int y,.int x])):=Same.lay hq
      have N2:=N1.same s2
      refine ⟨_,rfl,net,T.c_Network,_,_,_,rfl,N2.obj,Y.cl_Network,Y.na_Network_lines,wf_lines _ _,ops _ q y x N2 upd_same _ ?_⟩
      exact k _ (s1.trans s2)
    · rw [e] at k
      exact iteT (k _ s1)
end
end Sh
end
section
namespace Sh
open PySem PySem.Spec PyProof.Rows L2
open Vbsgad (State Node)
def nis (l:List Nat):List V:=l.map fun (b:Nat)=>V.int (b:Int)
theorem nis_append (a b:List Nat):nis (a++b)=nis a++nis b:=List.map_append
theorem nis_len (a:List Nat):(nis a).length=a.length:=List.length_map _
structure AdjAt (H0 H:Hp) (D:Addr) (js:List Addr) (f:Nat→List Nat):Prop where
  lst:H D=some (.lst (js.map V.ref))
  nd:js.Nodup
  at_:∀ (i:Nat) (j:Addr),js[i]?=some j→H j=some (.lst (nis (f i)))
  nw:∀ j∈js,H0 j=none
  nD:H0 D=none
  Dn:D ∉ js
theorem AdjAt.push {H0 H:Hp} {D:Addr} {js:List Addr} {f f':Nat→List Nat} (A:AdjAt H0 H D js f) {i:Nat} {j:Addr} (hj:js[i]?=some j) {b:Nat} (h1:f' i=f i++[b]) (h2:∀ k,k≠i→f' k=f k) :
    AdjAt H0 (upd H j (.lst (nis (f i)++[V.int (b:Int)]))) D js f':=by
  have hjm:j∈js:=List.mem_of_getElem? hj
  have hDj:D≠j:=fun e=>A.Dn (e ▸ hjm)
  refine ⟨by rw [upd_ne hDj];exact A.lst,A.nd,fun k c hk=>?_,A.nw,A.nD,A.Dn⟩
  by_cases e:k=i
  · subst e
    have:c=j:=Option.some.inj (hk.symm.trans hj)
    subst this
    rw [upd_same,h1,nis_append]
    rfl
  · have hne:c≠j:=fun q=>e (nd_ix A.nd hk (by rw [q];exact hj))
    rw [upd_ne hne,h2 k e]
    exact A.at_ k c hk
theorem _root_.L2.Same.wr {H0 H:Hp} {p:Addr} {o:HO} (s:Same H0 H) (h:H0 p=none):Same H0 (upd H p o):=fun b u e=>by
  rw [upd_ne (ne_of_none e h)];exact s b u e
theorem nbrs_len (ls:List (Nat × Nat)) (i:Nat):(Th.nbrs ls i).length≤2 * ls.length:=by
  induction ls with
  | nil=>exact Nat.le_refl _
  | cons l ls ih =>
    have e:Th.nbrs (l :: ls) i=((if l.1=i then [l.2] else [])++(if l.2=i then [l.1] else []))++Th.nbrs ls i:=rfl
    rw [e,List.length_append,List.length_append,List.length_cons]
    have h1:(if l.1=i then [l.2] else []).length≤1:=by split <;> simp
    have h2:(if l.2=i then [l.1] else []).length≤1:=by split <;> simp
    omega
theorem get_map {α β:Type} {f:α→β} {l:List α} {i:Nat} {y:β} (h:(l.map f)[i]?=some y):∃ x,l[i]?=some x∧y=f x:=by
  rw [List.getElem?_map] at h
  cases e:l[i]? with
  | none=>rw [e] at h;cases h
  | some x=>rw [e] at h;exact ⟨x,rfl,(Option.some.inj h).symm⟩
theorem take_snoc {α:Type} {l:List α} {i:Nat} {x:α} (h:l[i]?=some x):l.take (i + 1)=l.take i++[x]:=by
  rw [List.take_add_one,h]
  rfl
section
variable {P:Program} {w:World} {K:PySem.W.Frag} {mg:Str→Option Value} {base:Heap} {T:Ad}
def sp_Network_neighbours (T:Ad):Sp:=fun vs H Q _=>∃ net s g,vs=[.ref net]∧NetAt T H net s g∧∀ H' D js,Same H H'→AdjAt H H' D js (Th.nbrs s.lines)→js.length=s.nodes.length→Q (.ref D) H'
theorem ok_Network_neighbours (Y:Tx K mg T):FnOk P w K mg base CX0 1 T.f_Network_neighbours T.d_Network_neighbours ["self"] (sp_Network_neighbours T):=by
  refine Y.F_Network_neighbours.ok sc_Network_neighbours (fun vs H Q E h=>?_) (fun cdv A outer s H vs Q E hr h=>?_)
  · obtain ⟨a,s,g,rfl,_⟩:=h
    rfl
  · obtain ⟨net,s,g,rfl,N,k⟩:=h
    refine ⟨_,pss_cons (ps_setLc (i:=1) rfl (sc_Network_neighbours.nd) rfl rfl (sw_true rfl rfl rfl rfl) (pi_list (pe_fld (pv 0) rfl)) (blkOk_by (own:=[("node",3)]) (by show blkC n_Network_neighbours (defScope s_Network_neighbours) _ _=true;decide +kernel))
        (fun _ _ _ _ _=>pg_name (i:=3) (sc_Network_neighbours.nd) rfl (Or.inl rfl)) (fun _ _ _ _ _=>pts_nil) (fun _ _ _ _ _=>pe_lst pa_nil))
      (pss_cons (ps_for PassesOwn.never rfl (pi_list (pe_fld (pv 0) rfl)) (pg_name (i:=2) (sc_Network_neighbours.nd) rfl (Or.inl rfl))
        (pss_cons (ps_expr (pe_bm PySem.F.plainAttrs_list PySem.F.slot_list_append PySem.F.type_list_append mt_append (pe_ix ix_list (pv 1) (pe_ix ix_tup (pv 2) pe_int (fun _ _=>rfl)) (fun _ _=>rfl)) (pa_cons (pe_ix ix_tup (pv 2) pe_int (fun _ _=>rfl)) pa_nil)))
        (pss_one (ps_expr (pe_bm PySem.F.plainAttrs_list PySem.F.slot_list_append PySem.F.type_list_append mt_append (pe_ix ix_list (pv 1) (pe_ix ix_tup (pv 2) pe_int (fun _ _=>rfl)) (fun _ _=>rfl)) (pa_cons (pe_ix ix_tup (pv 2) pe_int (fun _ _=>rfl)) pa_nil))))))
      (pss_one (ps_ret (pv 1)))),?_⟩
    refine ⟨_,rfl,net,T.c_Network,_,_,_,rfl,N.obj,Y.cl_Network,Y.na_Network_nodes,wf_nodes _ _,g.ln,rfl,⟨_,SqL.of N.nl⟩,fun D hD=>?_⟩
    have hn:=N.wfs.sz
    have hl:=N.wfs.ll
    refine lc_list (K:=K) (a:=g.ln) (xs:=g.as.map V.ref) (fun i H'=>∃ js,js.length=i∧Same H H'∧AdjAt H H' D js (fun _=>[])) ⟨[],rfl,Same.lay hD,upd_same,List.nodup_nil,fun i j h=>by simp at h,fun j h=>(nomatch h),hD,fun h=>(nomatch h)⟩
      (fun i H' _ ⟨js,_,s1,_⟩=>SqL.of (s1 _ _ N.nl)) ?_ ?_
    · rintro i x H' hx ⟨js,hlen,s1,A1⟩
      have hi:i < g.as.length:=by
        have:=(List.getElem?_eq_some_iff.mp hx).1
        rw [List.length_map] at this
        exact this
      refine ⟨rfl,?_⟩
      dsimp only [tYes]
      refine iteT ⟨by show 0≤sizeLine;exact Nat.zero_le _,fun p hp=>?_⟩
      have hp0:H p=none:=s1.free hp
      have hpD:D≠p:=ne_of_none A1.lst hp
      refine ⟨js.map V.ref,by rw [upd_ne hpD];exact A1.lst,by rw [List.length_map,hlen];exact Nat.lt_of_lt_of_le hi (by rw [N.len];exact small24 hn),js++[p],by rw [List.length_append,hlen];rfl,(s1.wr hp0).wr A1.nD,?_⟩
      have hpj:p ∉ js:=fun h=>by
        obtain ⟨n,hn⟩:=List.getElem?_of_mem h
        rw [A1.at_ n p hn] at hp
        cases hp
      refine ⟨by rw [upd_same,List.map_append];rfl,?_,fun n j hj=>?_,fun j hj=>?_,A1.nD,fun h=>?_⟩
      · rw [List.nodup_append]
        refine ⟨A1.nd,by simp,fun a ha b hb e=>?_⟩
        simp at hb
        subst hb
        exact hpj (e ▸ ha)
      · have hjD:j≠D:=fun e=>by
          have hm:=List.mem_of_getElem? hj
          rcases List.mem_append.mp hm with h | h
          · exact A1.Dn (e ▸ h)
          · simp at h
            exact hpD (by rw [← e,h])
        rw [upd_ne hjD]
        by_cases hnl:n < js.length
        · rw [List.getElem?_append_left hnl] at hj
          have hjp:j≠p:=fun e=>hpj (e ▸ List.mem_of_getElem? hj)
          rw [upd_ne hjp]
          exact A1.at_ n j hj
        · rw [List.getElem?_append_right (by omega)] at hj
          have hm:=List.mem_of_getElem? hj
          simp at hm
          subst hm
          exact upd_same
      · rcases List.mem_append.mp hj with h | h
        · exact A1.nw j h
        · simp at h
          rw [h];exact hp0
      · rcases List.mem_append.mp h with h | h
        · exact A1.Dn h
        · simp at h
          exact hpD h
    · rintro H1 ⟨js,hlen,s1,A1⟩
      rw [List.length_map,N.len] at hlen
      refine ⟨_,rfl,net,T.c_Network,_,_,_,rfl,s1 _ _ N.obj,Y.cl_Network,Y.na_Network_lines,wf_lines _ _,g.ll,rfl,⟨_,SqL.of (s1 _ _ N.tl)⟩,?_⟩
      refine for_list (K:=K) (a:=g.ll) (xs:=g.ts.map V.ref) (fun i σ H'=>∃ v,σ=[some (.ref net),some (.ref D),v,none]∧Same H H'∧AdjAt H H' D js (Th.nbrs (s.lines.take i)))
        ⟨none,rfl,s1,A1⟩ (fun i σ H' _ ⟨_,_,s2,_⟩=>SqL.of (s2 _ _ N.tl)) ?_ ?_
      · rintro i y σ H2 hy ⟨v,rfl,s2,A2⟩
        obtain ⟨t,ht,rfl⟩:=get_map hy
        have hi:i < s.lines.length:=by
          rw [← N.tlen];exact (List.getElem?_eq_some_iff.mp ht).1
        obtain ⟨l,hl'⟩:∃ l,s.lines[i]?=some l:=⟨_,List.getElem?_eq_getElem hi⟩
        have htt:=s2 _ _ (N.tat i t l ht hl')
        obtain ⟨q1,q2,q3⟩:=N.wfs.lin l (List.mem_of_getElem? hl')
        obtain ⟨j1,hj1⟩:∃ j,js[l.1]?=some j:=⟨_,List.getElem?_eq_getElem (by rw [hlen];exact q1)⟩
        obtain ⟨j2,hj2⟩:∃ j,js[l.2]?=some j:=⟨_,List.getElem?_eq_getElem (by rw [hlen];exact q2)⟩
        have hb1:=nbrs_len (s.lines.take i) l.1
        have hb2:=nbrs_len (s.lines.take i) l.2
        rw [List.length_take] at hb1 hb2
        refine ⟨_,rfl,_,rfl,t,_,_,_,rfl,rfl,SqT.of htt,rfl,D,_,_,_,rfl,rfl,SqL.of A2.lst,at_of (j:=l.1) (v:=V.ref j1) rfl (by rw [List.getElem?_map,hj1];rfl),.inl ⟨rfl,_,SqL.of (A2.at_ _ _ hj1)⟩,_,rfl,t,_,_,_,rfl,rfl,SqT.of htt,rfl,
          j1,_,_,rfl,rfl,A2.at_ _ _ hj1,by rw [nis_len];exact Nat.lt_of_le_of_lt hb1 (Nat.lt_of_le_of_lt (show 2 * min i s.lines.length≤96 by omega) (by decide)),?_⟩
        have hne:j1≠j2:=fun e=>q3 (nd_ix A2.nd hj1 (by rw [e];exact hj2))
        have htj:t≠j1:=ne_of htt (A2.at_ _ _ hj1) (by intro z;cases z)
        have A3:=A2.push (f':=fun k=>if k=l.1 then Th.nbrs (s.lines.take i) k++[l.2] else Th.nbrs (s.lines.take i) k) hj1 (b:=l.2) (if_pos rfl) (fun k hk=>if_neg hk)
        have s3:Same H (upd H2 j1 (.lst (nis (Th.nbrs (s.lines.take i) l.1)++[V.int (l.2:Int)]))):=s2.wr (A2.nw _ (List.mem_of_getElem? hj1))
        have htt3:=s3 _ _ (N.tat i t l ht hl')
        have e2:(fun k=>if k=l.1 then Th.nbrs (s.lines.take i) k++[l.2] else Th.nbrs (s.lines.take i) k) l.2=Th.nbrs (s.lines.take i) l.2:=if_neg (Ne.symm q3)
        have h2:=A3.at_ _ _ hj2
        rw [if_neg (Ne.symm q3)] at h2
        refine ⟨_,rfl,_,rfl,t,_,_,_,rfl,rfl,SqT.of htt3,rfl,D,_,_,_,rfl,rfl,SqL.of A3.lst,at_of (j:=l.2) (v:=V.ref j2) rfl (by rw [List.getElem?_map,hj2];rfl),.inl ⟨rfl,_,SqL.of h2⟩,_,rfl,t,_,_,_,rfl,rfl,SqT.of htt3,rfl,
          j2,_,_,rfl,rfl,h2,by rw [nis_len];exact Nat.lt_of_le_of_lt hb2 (Nat.lt_of_le_of_lt (show 2 * min i s.lines.length≤96 by omega) (by decide)),?_⟩
        refine ⟨_,rfl,s3.wr (A2.nw _ (List.mem_of_getElem? hj2)),?_⟩
        rw [← e2]
        refine A3.push hj2 ?_ ?_
        · rw [take_snoc hl',Th.nbrs_snoc,if_neg q3,if_pos rfl,if_neg (Ne.symm q3)]
          rfl
        · intro k hk
          rw [take_snoc hl',Th.nbrs_snoc]
          rw [show (if l.2=k then [l.1] else [])=[] from if_neg (fun e=>hk e.symm),List.append_nil]
          by_cases e:k=l.1
          · rw [if_pos e.symm,if_pos e]
          · rw [if_neg (fun q=>e q.symm),if_neg e,List.append_nil]
      · rintro σ H2 ⟨v,rfl,s2,A2⟩
        rw [List.length_map,N.tlen,List.take_length] at A2
        exact ⟨_,rfl,k H2 D js s2 A2 hlen⟩
end
end Sh
end
section
namespace L2
open PySem PySem.Spec PyProof.Rows
theorem lc_enum {K:PySem.W.Frag} {a:Addr} {xs:List V} {g:TG} {tt:TT} {te:TE} {vs:List Nat} {σ:St} {H1:Hp} {D:Addr} {Qd:Hp→Prop} (Pv:Nat→Hp→Prop) (h0:Pv 0 (upd H1 D (.lst []))) (hl:∀ i H,i≤xs.length→Pv i H→SqL K H a xs)
    (hs:∀ i x H T,xs[i]?=some x→Pv i H→H T=none→g (.ref T) (wipe σ vs) (upd H T (.tup [.int (i:Nat),x])) fun σ2 H2=>wipe σ2 vs=wipe σ vs∧tt σ2 H2 fun b H3 =>
      if b=true then te σ2 H3 fun y H4=>∃ acc,H4 D=some (.lst acc)∧acc.length < sizeLine∧Pv (i + 1) (upd H4 D (.lst (acc++[y]))) else Pv (i + 1) H3) (hd:∀ H,Pv xs.length H→Qd H) :
    ∃ W:Nat→Nat→Hp→Prop,(∃ m,W 0 m (upd H1 D (.lst [])))∧∀ i m H,W i m H →
      ((Ite K a).stop i H∧Qd H)∨((Ite K a).go i H∧∃ Nx:Hp→Prop,(∀ H',Nx H'→∃ m',m' < m∧W (i + 1) m' H')∧∀ x H',(Ite K a).yld i H x H'→g x (wipe σ vs) H' fun σ2 H2=>wipe σ2 vs=wipe σ vs∧tt σ2 H2 fun b H3 =>
        if b=true then te σ2 H3 fun y H4=>∃ acc,H4 D=some (.lst acc)∧acc.length < sizeLine∧Nx (upd H4 D (.lst (acc++[y]))) else Nx H3):=by
  refine ⟨fun i m H=>m=xs.length - i∧i≤xs.length∧Pv i H,⟨xs.length,by simp,Nat.zero_le _,h0⟩,?_⟩
  rintro i m H ⟨rfl,hi,p⟩
  have q:=hl i H hi p
  by_cases hlt:i < xs.length
  · refine .inr ⟨⟨xs,xs[i],q,by simp [hlt]⟩,Pv (i + 1),fun H' p'=>⟨xs.length - (i + 1),by omega,rfl,hlt,p'⟩,fun x H' y=>?_⟩
    obtain ⟨T,z,e1,e2,e3,y⟩:=y
    subst e1
    subst e3
    exact hs i z _ T (y xs q) p e2
  · have e:i=xs.length:=by omega
    subst e
    exact .inl ⟨⟨xs,q,Nat.le_refl _⟩,hd H p⟩
end L2
namespace Sh
open PySem PySem.Spec PyProof.Rows L2
open Vbsgad (State Node)
theorem nis_get {l:List Nat} {i:Nat} {v:V} (h:(nis l)[i]?=some v):∃ b,l[i]?=some b∧v=.int (b:Int):=get_map h
theorem eqV_int (a b:Nat):eqV (.int (a:Int)) (.int (b:Int))=(a == b):=by
  show ((a:Int) == (b:Int))=(a == b)
  apply Bool.eq_iff_iff.mpr
  simp
  omega
theorem inV_nis (x:Nat) (l:List Nat):inV (.int (x:Int)) (nis l)=l.contains x:=by
  unfold inV nis
  rw [List.any_map]
  apply Bool.eq_iff_iff.mpr
  rw [List.any_eq_true,List.contains_iff_mem]
  constructor
  · rintro ⟨y,hy,e⟩
    have e':eqV (.int (y:Int)) (.int (x:Int))=true:=e
    rw [eqV_int] at e'
    have:y=x:=by simpa using e'
    rw [← this];exact hy
  · intro h
    exact ⟨x,h,(eqV_int x x).trans (by simp)⟩
theorem flat_nis (l:List Nat):(nis l).all flatV=true:=by
  rw [List.all_eq_true]
  intro v hv
  obtain ⟨b,_,rfl⟩:=List.mem_map.mp hv
  rfl
def upto (p:Nat→Bool) (i:Nat):List Nat:=(List.range i).filter p
theorem upto_succ (p:Nat→Bool) (i:Nat):upto p (i + 1)=if p i=true then upto p i++[i] else upto p i:=by
  unfold upto
  rw [List.range_succ,List.filter_append]
  cases h:p i <;> simp [h]
theorem upto_len (p:Nat→Bool) (i:Nat):(upto p i).length≤i:=by
  have:=List.length_filter_le p (List.range i)
  rw [List.length_range] at this
  exact this
theorem ixN_nat {n i:Nat} (h:i < n):ixN n (i:Int)=some i:=by
  unfold ixN
  rw [if_pos (by omega),if_pos (by omega)]
  congr 1
theorem nis_last {ws:List Nat} (h:ws≠[]):∃ ws' x,ws=ws'++[x]∧(nis ws)[(nis ws).length - 1]?=some (.int (x:Nat))∧(nis ws).dropLast=nis ws':=by
  obtain ⟨ws',x,rfl⟩:∃ ws' x,ws=ws'++[x]:=by
    rcases List.eq_nil_or_concat ws with e | ⟨l,a,e⟩
    · exact absurd e h
    · exact ⟨l,a,by rw [e,List.concat_eq_append]⟩
  refine ⟨ws',x,rfl,?_,?_⟩
  · rw [nis_append,List.length_append,List.getElem?_append_right (by show (nis ws').length≤(nis ws').length + 1 - 1;omega)]
    show [V.int (x:Int)][(nis ws').length + 1 - 1 - (nis ws').length]?=_
    rw [show (nis ws').length + 1 - 1 - (nis ws').length=0 by omega]
    rfl
  · rw [nis_append]
    show (nis ws'++[V.int (x:Int)]).dropLast=nis ws'
    rw [List.dropLast_concat]
def dks (ks:List Nat):List (Key × V):=ks.map fun (x:Nat)=>((Sum.inl (x:Int):Key),V.bl true)
theorem dks_len (ks:List Nat):(dks ks).length=ks.length:=List.length_map _
theorem dks_val (x:Nat):∀ ks:List Nat,valV (dks ks) (Sum.inl (x:Int):Key)=if ks.contains x=true then some (.bl true) else none
  | []=>rfl
  | k :: ks=>by
    show valV (((Sum.inl (k:Int):Key),V.bl true) :: dks ks) _=_
    by_cases e:k=x
    · subst e
      rw [valV_pos rfl,if_pos (by simp)]
    · rw [valV_neg (fun (q:(Sum.inl (k:Int):Key)=Sum.inl (x:Int))=>e (by cases q;rfl)),dks_val x ks]
      have:(k :: ks).contains x=ks.contains x:=by
        rw [List.contains_cons]
        have:(x == k)=false:=by simpa using fun q=>e q.symm
        rw [this];rfl
      rw [this]
theorem dks_put {x:Nat} {ks:List Nat} (h:ks.contains x=false):putK (dks ks) (Sum.inl (x:Int):Key) (.bl true)=dks (ks++[x]):=by
  unfold putK
  rw [valV_any,dks_val,h]
  show dks ks++_=_
  unfold dks
  rw [List.map_append]
  rfl
theorem dks_merge:∀ (ls ks:List Nat),(ks++ls).Nodup→mergeK (dks ks) (dks ls)=dks (ks++ls)
  | [],ks,_=>by rw [List.append_nil];rfl
  | x :: ls,ks,nd=>by
    show mergeK (putK (dks ks) (Sum.inl (x:Int):Key) (.bl true)) (dks ls)=_
    have hx:ks.contains x=false:=by
      cases q:ks.contains x with
      | false=>rfl
      | true =>
        have:=(List.nodup_append.mp nd).2.2 x (List.contains_iff_mem.mp q) x List.mem_cons_self
        exact absurd rfl this
    rw [dks_put hx,dks_merge ls (ks++[x]) (by rw [List.append_assoc];exact nd),List.append_assoc]
    rfl
theorem dks_keys (ks:List Nat):(dks ks).map (·.1)=(ks.map fun (x:Nat)=>(x:Int)).map Sum.inl:=by
  unfold dks
  rw [List.map_map,List.map_map]
  rfl
theorem dget_nat {H:Hp} {a:Addr} {ks:List Nat} {x:Nat} (h:H a=some (.dK (dks ks))):DGet H a (.int (x:Int)) (if ks.contains x=true then some (.bl true) else none):=by
  have:=DGet.k (k:=(Sum.inl (x:Int):Key)) h
  rw [dks_val] at this
  exact this
theorem paired_tups {H:Hp} {K:PySem.W.Frag}:∀ {ps:List Addr} {ks:List Nat},ps.length=ks.length→(∀ (i:Nat) (p:Addr) (x:Nat),ps[i]?=some p→ks[i]?=some x→SqT K H p [.int (x:Int),.bl true])→Paired (fun p (kv:Key × V)=>SqT K H p [kV kv.1,kv.2]) ps (dks ks)
  | [],[],_,_=>.nil
  | p :: ps,x :: ks,hl,h=>.cons (h 0 p x rfl rfl) (paired_tups (by simpa using hl) fun i q y h1 h2=>h (i + 1) q y (by simpa using h1) (by simpa using h2))
  | [],_ :: _,hl,_=>by simp at hl
  | _ :: _,[],hl,_=>by simp at hl
theorem contains_snoc (ks:List Nat) (y:Nat):(fun x=>(ks++[y]).contains x)=Th.mark (fun x=>ks.contains x) y:=by
  funext x
  unfold Th.mark
  apply Bool.eq_iff_iff.mpr
  rw [List.contains_iff_mem,List.mem_append,List.mem_singleton]
  by_cases e:x=y
  · rw [if_pos e];simp [e]
  · rw [if_neg e,List.contains_iff_mem];simp [e]
section
variable {P:Program} {w:World} {K:PySem.W.Frag} {mg:Str→Option Value} {base:Heap} {T:Ad}
def sp_nodes_come_to (K:PySem.W.Frag) (T:Ad):Sp:=fun vs H Q _=>∃ net sa ba s g ss bs,vs=[.ref net,.ref sa,.ref ba]∧NetAt T H net s g∧SqL K H sa (nis ss)∧SqL K H ba (nis bs)∧ss.Nodup∧(∀ x∈ss,x < s.nodes.length) ∧
  ∀ H' p,Same H H'→H p=none→H' p=some (.lst (nis (Th.come s (fun a=>!bs.contains a) ss)))→Q (.ref p) H'
structure ReAt (H0 H:Hp) (s:State) (D R W:Addr) (js:List Addr) (ks:List Nat) (ws:List Nat):Prop where
  sm:Same H0 H
  adj:AdjAt H0 H D js (Th.nbrs s.lines)
  jl:js.length=s.nodes.length
  rl:H R=some (.dK (dks ks))
  wl:H W=some (.lst (nis ws))
  nR:H0 R=none
  nW:H0 W=none
  RW:R≠W
  jR:R ∉ js
  jW:W ∉ js
  DR:D≠R
  DW:D≠W
theorem ReAt.setR {H0 H:Hp} {s:State} {D R W:Addr} {js:List Addr} {ks ks':List Nat} {ws:List Nat} (A:ReAt H0 H s D R W js ks ws):ReAt H0 (upd H R (.dK (dks ks'))) s D R W js ks' ws :=
  ⟨A.sm.wr A.nR,⟨by rw [upd_ne A.DR];exact A.adj.lst,A.adj.nd,fun i j h=>by rw [upd_ne (fun (e:j=R)=>A.jR (e ▸ List.mem_of_getElem? h))];exact A.adj.at_ i j h,A.adj.nw,A.adj.nD,A.adj.Dn⟩,A.jl,upd_same,by rw [upd_ne (Ne.symm A.RW)];exact A.wl,A.nR,A.nW,A.RW,A.jR,A.jW,A.DR,A.DW⟩
theorem ReAt.setW {H0 H:Hp} {s:State} {D R W:Addr} {js:List Addr} {ks:List Nat} {ws ws':List Nat} (A:ReAt H0 H s D R W js ks ws):ReAt H0 (upd H W (.lst (nis ws'))) s D R W js ks ws' :=
  ⟨A.sm.wr A.nW,⟨by rw [upd_ne A.DW];exact A.adj.lst,A.adj.nd,fun i j h=>by rw [upd_ne (fun (e:j=W)=>A.jW (e ▸ List.mem_of_getElem? h))];exact A.adj.at_ i j h,A.adj.nw,A.adj.nD,A.adj.Dn⟩,A.jl,by rw [upd_ne A.RW];exact A.rl,upd_same,A.nR,A.nW,A.RW,A.jR,A.jW,A.DR,A.DW⟩
theorem ok_nodes_come_to (Y:Tx K mg T):FnOk P w K mg base CX0 2 T.f_nodes_come_to T.d_nodes_come_to ["network","starts","barred"] (sp_nodes_come_to K T):=by
  have GB:=ok_Network_neighbours (P:=P) (w:=w) (base:=base) Y
  refine Y.F_nodes_come_to.ok sc_nodes_come_to (fun vs H Q E h=>?_) (fun cdv A outer s H vs Q E hr h=>?_)
  · obtain ⟨net,sa,ba,s,g,ss,bs,rfl,_⟩:=h
    rfl
  · obtain ⟨net,sa,ba,s,g,ss,bs,rfl,N,hsa,hba,hnd,hss,k⟩:=h
    have nd:=sc_nodes_come_to.nd
    have hu:=hu_of hr
    refine' ⟨_,?d,?rd⟩
    case d =>
      refine' pss_cons (ps_set (i:=3) nd rfl (Or.inl rfl) (pe_meth0 (pv 0) Y.cl_Network Y.M_Network_neighbours GB hr Y.B_Network_neighbours .nil pass0)) (pss_cons ?s2 (pss_cons ?s3 (pss_cons ?s4 (pss_one ?s5))))
      case s2 =>
        refine' ps_set (i:=4) nd rfl (Or.inl rfl) (pe_callTy (call_dictP rfl) (by rfl) Y.b_dict (by decide +kernel) (pa_cons (pe_lc (own:=[("start",8)]) (te:=tTup (tCons (tVar 8) (tCons (tC (.bl true)) tNil))) (tt:=tYes) (g:=gName 8) rfl nd (pi_list (pv 1)) ?b ?g ?t ?e) pa_nil))
        case b=>exact blkOk_by (by show blkC n_nodes_come_to (defScope s_nodes_come_to) _ _=true;decide +kernel)
        case g=>intro _ _ _ _ _;exact pg_name (i:=8) nd rfl (Or.inl rfl)
        case t=>intro _ _ _ _ _;exact pts_nil
        case e=>intro _ _ _ _ _;exact pe_tup (pa_cons (pv 8) (pa_cons pe_bl pa_nil))
      case s3=>exact ps_set (i:=5) nd rfl (Or.inl rfl) (pe_callTy call_list_of (by rfl) Y.b_list (by decide +kernel) (pa_cons (pv 1) pa_nil))
      case s4 =>
        exact (ps_while PassesOwn.never (pt_truth (pv 5) (fun _=>rfl))
          (pss_cons (ps_set (i:=6) nd rfl (Or.inl rfl) (pe_bm0 PySem.F.plainAttrs_list PySem.F.slot_list_pop PySem.F.type_list_pop mt_pop (pv 5)))
          (pss_cons (ps_if (pt_cmpR op_in_seq (pv 6) (pv 2) (by with_unfolding_all rfl)) (pss_one ps_continue) pss_nil)
          (pss_one (ps_for PassesOwn.never rfl (pi_list (pe_ix ix_list (pv 3) (pv 6) (fun _ _=>rfl))) (pg_name (i:=7) nd rfl (Or.inl rfl))
            (pss_one (ps_if (pt_cmp (pc_dnotin hu (pv 7) (pv 4)))
              (pss_cons (ps_dput hu (pv 4) (pv 7) pe_bl rfl)
              (pss_one (ps_expr (pe_bm PySem.F.plainAttrs_list PySem.F.slot_list_append PySem.F.type_list_append mt_append (pv 5) (pa_cons (pv 7) pa_nil)))))
              pss_nil)))))))
      case s5=>exact ps_ret (pe_callB (cr_sortedD rfl) (by rfl) Y.b_sorted (by decide +kernel) (pa_cons (pv 4) pa_nil))
    case rd =>
      have hn:=N.wfs.sz
      have hsz:Vbsgad.size s=s.nodes.length:=rfl
      have hsl:ss.length≤s.nodes.length:=Th.nodup_len hnd hss
      refine ⟨_,rfl,net,_,_,rfl,N.obj,wf_none _ _ (by decide +kernel) (by decide +kernel),net,s,g,rfl,N,fun H1 D js s1 A1 hjl=>?_⟩
      have hsa1:SqL K H1 sa (nis ss):=s1.seq hsa
      refine ⟨_,rfl,sa,rfl,⟨_,hsa1⟩,fun L hL=>?_⟩
      refine lc_list (K:=K) (a:=sa) (xs:=nis ss) (fun i H'=>∃ ps:List Addr,ps.length=i∧Same H1 H'∧H' L=some (.lst (ps.map V.ref))∧∀ (n:Nat) (p:Addr) (x:Nat),ps[n]?=some p→ss[n]?=some x→H' p=some (.tup [.int (x:Int),.bl true]))
        ⟨[],rfl,Same.lay hL,upd_same,fun n p x h=>by simp at h⟩ (fun i H' _ ⟨_,_,s2,_⟩=>s2.seq hsa1) ?_ ?_
      · rintro i v H' hv ⟨ps,hpl,s2,hLl,hps⟩
        obtain ⟨x,hx,rfl⟩:=nis_get hv
        have hi:i < ss.length:=(List.getElem?_eq_some_iff.mp hx).1
        refine ⟨rfl,?_⟩
        dsimp only [tYes]
        refine iteT ⟨_,rfl,by show 2≤sizeLine;decide,fun p hp=>?_⟩
        have s3:Same H' (upd H' p (.tup [.int (x:Int),.bl true])):=Same.lay hp
        refine ⟨_,s3 _ _ hLl,by rw [List.length_map,hpl];exact Nat.lt_of_lt_of_le hi (Nat.le_trans hsl (small24 hn)),ps++[p],by rw [List.length_append,hpl];rfl,(s2.trans s3).wr hL,by rw [upd_same,List.map_append];rfl,fun n q y hq hy=>?_⟩
        have hpL:p≠L:=fun e=>by rw [e] at hp;rw [hLl] at hp;cases hp
        by_cases hn':n < ps.length
        · rw [List.getElem?_append_left hn'] at hq
          have h1:=hps n q y hq hy
          have hqL:q≠L:=fun e=>by rw [e,hLl] at h1;cases h1
          rw [upd_ne hqL]
          exact s3 _ _ h1
        · rw [List.getElem?_append_right (by omega)] at hq
          have hlt:=(List.getElem?_eq_some_iff.mp hq).1
          simp at hlt
          have en:n=i:=by omega
          subst en
          have:q=p:=by
            rw [hpl,Nat.sub_self] at hq
            exact (Option.some.inj hq).symm
          subst this
          have:y=x:=Option.some.inj (hy.symm.trans hx)
          subst this
          rw [upd_ne hpL,upd_same]
      rintro H2 ⟨ps,hpl,s2,hLl,hps⟩
      rw [nis_len] at hpl
      refine ⟨L,ps,dks ss,rfl,SqL.of hLl,paired_tups hpl fun i p x h1 h2=>SqT.of (hps i p x h1 h2),fun R hR=>?_⟩
      have em:mergeK [] (dks ss)=dks ss:=dks_merge ss [] hnd
      rw [em]
      have s3:Same H2 (upd H2 R (.dK (dks ss))):=Same.lay hR
      have s123:Same H (upd H2 R (.dK (dks ss))):=(s1.trans s2).trans s3
      refine ⟨_,rfl,sa,_,rfl,.inl (s123.seq hsa),fun W hW=>?_⟩
      have s4:Same (upd H2 R (.dK (dks ss))) (upd (upd H2 R (.dK (dks ss))) W (.lst (nis ss))):=Same.lay hW
      have B0:ReAt H (upd (upd H2 R (.dK (dks ss))) W (.lst (nis ss))) s D R W js ss ss:=by
        have hD2:=s2 _ _ A1.lst
        have hD3:=s3 _ _ hD2
        refine ⟨s123.trans s4,⟨s4 _ _ hD3,A1.nd,fun i j h=>s4 _ _ (s3 _ _ (s2 _ _ (A1.at_ i j h))),A1.nw,A1.nD,A1.Dn⟩,hjl,s4 _ _ upd_same,upd_same,(s1.trans s2).free hR,s123.free hW,ne_of_none upd_same hW,fun h=>?_,fun h=>?_,ne_of_none hD2 hR,ne_of_none hD3 hW⟩
        · obtain ⟨i,hi⟩:=List.getElem?_of_mem h
          rw [s2 _ _ (A1.at_ i R hi)] at hR
          cases hR
        · obtain ⟨i,hi⟩:=List.getElem?_of_mem h
          rw [s3 _ _ (s2 _ _ (A1.at_ i W hi))] at hW
          cases hW
      refine ⟨fun m σ H'=>∃ ks ws h nm,σ=[some (.ref net),some (.ref sa),some (.ref ba),some (.ref D),some (.ref R),some (.ref W),h,nm,none]∧ReAt H H' s D R W js ks ws∧Th.Dfs s (fun a=>!bs.contains a) ss (fun x=>ks.contains x) ws∧ws.Nodup∧ks.Nodup∧m=2 * Th.left s.nodes.length (fun x=>ks.contains x) + ws.length,
        ⟨_,_,_,none,none,rfl,B0,Th.Dfs.start' hss,hnd,hnd,rfl⟩,?_⟩
      rintro m σ H' ⟨ks,ws,h,nm,rfl,B,F,hwnd,hknd,rfl⟩
      refine ⟨_,rfl,_,.inl ⟨_,SqL.of B.wl,rfl⟩,?_⟩
      have hkl:ks.length≤s.nodes.length:=Th.nodup_len hknd fun x hx=>F.lt x (List.contains_iff_mem.mpr hx)
      by_cases hws:ws=[]
      · subst hws
        refine iteF ?_
        refine ⟨_,rfl,R,dks ks,ks.map fun (x:Nat)=>(x:Int),rfl,B.rl,dks_keys ks,by rw [List.length_map];omega,fun ns' p hperm hsort hp=>?_⟩
        have e1:=Th.sorted_come (s:=s) (t:=fun a=>!bs.contains a) (l:=ss) hss hknd (fun x=>by rw [← F.done (x:=x),List.contains_iff_mem]) hperm hsort
        subst e1
        refine k _ p (B.sm.trans (Same.lay hp)) (B.sm.free hp) ?_
        rw [upd_same,List.map_map]
        rfl
      · have hne:(!(nis ws).isEmpty)=true:=by
          cases ws with
          | nil=>exact absurd rfl hws
          | cons=>rfl
        rw [hne]
        refine iteT ⟨fun σ' H'=>∃ m',m' < 2 * Th.left s.nodes.length (fun x=>ks.contains x) + ws.length∧∃ ks ws h nm,σ'=[some (.ref net),some (.ref sa),some (.ref ba),some (.ref D),some (.ref R),some (.ref W),h,nm,none]∧ReAt H H' s D R W js ks ws∧Th.Dfs s (fun a=>!bs.contains a) ss (fun x=>ks.contains x) ws∧ws.Nodup∧ks.Nodup∧m'=2 * Th.left s.nodes.length (fun x=>ks.contains x) + ws.length,fun _ _ z=>z,?_⟩
        obtain ⟨ws',x,rfl,hlast,hdl⟩:=nis_last hws
        refine ⟨_,rfl,.inl ⟨rfl,_,SqL.of B.wl⟩,W,_,_,rfl,rfl,B.wl,hlast,?_⟩
        rw [hdl]
        have B1:ReAt H (upd H' W (.lst (nis ws'))) s D R W js ks ws':=B.setW
        have hlen:(ws'++[x]).length=ws'.length + 1:=by rw [List.length_append];rfl
        have hxr:ks.contains x=true:=F.wait x (by simp)
        have hx:x < s.nodes.length:=F.lt x hxr
        have hba1:SqL K (upd H' W (.lst (nis ws'))) ba (nis bs):=B1.sm.seq hba
        refine ⟨_,rfl,_,rfl,ba,_,rfl,.inl hba1,rfl,flat_nis bs,_,rfl,?_⟩
        have e1:(if false=true then !inV (.int (x:Nat)) (nis bs) else inV (.int (x:Nat)) (nis bs))=bs.contains x:=(if_neg (by simp)).trans (inV_nis x bs)
        rw [e1]
        cases hc:bs.contains x with
        | true =>
          refine iteT ?_
          exact ⟨2 * Th.left s.nodes.length (fun x=>ks.contains x) + ws'.length,by rw [hlen];omega,ks,ws',_,_,rfl,B1,F.skip (by rw [hc];rfl),(List.nodup_append.mp hwnd).1,hknd,rfl⟩
        | false =>
          refine iteF ?_
          have htx:(fun a=>!bs.contains a) x=true:=by dsimp only;rw [hc];rfl
          obtain ⟨j,hj⟩:∃ j,js[x]?=some j:=⟨_,List.getElem?_eq_getElem (by rw [hjl];exact hx)⟩
          refine ⟨_,rfl,_,rfl,D,_,_,_,rfl,rfl,SqL.of B1.adj.lst,at_of (j:=x) (v:=V.ref j) rfl (by rw [List.getElem?_map,hj];rfl),j,rfl,⟨_,SqL.of (B1.adj.at_ _ _ hj)⟩,?_⟩
          refine for_list (K:=K) (a:=j) (xs:=nis (Th.nbrs s.lines x)) (fun i σ H2=>∃ ks2 ws2 nm2,σ=[some (.ref net),some (.ref sa),some (.ref ba),some (.ref D),some (.ref R),some (.ref W),some (.int (x:Nat)),nm2,none]∧ReAt H H2 s D R W js ks2 ws2∧Th.DfsX s (fun a=>!bs.contains a) ss (fun y=>ks2.contains y) ws2 x ((Th.nbrs s.lines x).take i)∧ks2.Nodup∧2 * Th.left s.nodes.length (fun y=>ks2.contains y) + ws2.length≤2 * Th.left s.nodes.length (fun y=>ks.contains y) + ws'.length)
            ⟨ks,ws',_,rfl,B1,F.enter hwnd htx,hknd,Nat.le_refl _⟩ (fun i σ H2 _ ⟨_,_,_,_,B2,_⟩=>SqL.of (B2.adj.at_ _ _ hj)) ?_ ?_
          · rintro i v σ H2 hv ⟨ks2,ws2,nm2,rfl,B2,F2,hk2,hm⟩
            obtain ⟨y,hy,rfl⟩:=nis_get hv
            have hjy:Vbsgad.joined s x y=true:=Th.joined_nbrs.mpr (List.mem_of_getElem? hy)
            have hyl:y < s.nodes.length:=Th.joined_lt N.wfs hjy
            refine ⟨_,rfl,_,rfl,R,_,rfl,dget_nat B2.rl,_,rfl,?_⟩
            cases hr2:ks2.contains y with
            | true =>
              refine iteF ⟨ks2,ws2,_,rfl,B2,?_,hk2,hm⟩
              rw [take_snoc hy]
              exact F2.pass hr2
            | false =>
              refine iteT ?_
              have hkl2:ks2.length≤s.nodes.length:=Th.nodup_len hk2 fun x hx=>F2.lt x (List.contains_iff_mem.mpr hx)
              have hput:=DPut.k (k:=(Sum.inl (y:Int):Key)) (v:=.bl true) B2.rl (by rw [dks_len];exact Nat.lt_of_le_of_lt hkl2 (Nat.lt_of_le_of_lt hn (by decide)))
              rw [dks_put hr2] at hput
              refine ⟨_,rfl,_,rfl,R,_,rfl,hput,?_⟩
              have B3:ReAt H (upd H2 R (.dK (dks (ks2++[y])))) s D R W js (ks2++[y]) ws2:=B2.setR
              have hwl:ws2.length≤s.nodes.length:=Th.nodup_len F2.nd fun z hz=>F2.lt z (F2.wait z hz)
              refine ⟨_,rfl,.inl ⟨rfl,_,SqL.of B3.wl⟩,_,rfl,W,_,_,rfl,rfl,B3.wl,by rw [nis_len];exact Nat.lt_of_le_of_lt hwl (Nat.lt_of_le_of_lt hn (by decide)),?_⟩
              have B4:ReAt H (upd (upd H2 R (.dK (dks (ks2++[y])))) W (.lst (nis (ws2++[y])))) s D R W js (ks2++[y]) (ws2++[y]):=B3.setW
              rw [nis_append] at B4
              have hlm:=Th.left_mark (R:=fun z=>ks2.contains z) hyl hr2
              rw [← contains_snoc] at hlm
              refine ⟨ks2++[y],ws2++[y],_,rfl,B4,?_,?_,by rw [List.length_append,List.length_singleton];omega⟩
              · rw [take_snoc hy,contains_snoc]
                exact F2.add hr2 hjy hyl
              · rw [List.nodup_append]
                refine ⟨hk2,by simp,fun a ha b hb e=>?_⟩
                have:b=y:=by simpa using hb
                rw [e,this] at ha
                rw [List.contains_iff_mem.mpr ha] at hr2
                cases hr2
          · rintro σ H2 ⟨ks2,ws2,nm2,rfl,B2,F2,hk2,hm⟩
            rw [nis_len,List.take_length] at F2
            exact ⟨2 * Th.left s.nodes.length (fun y=>ks2.contains y) + ws2.length,by rw [hlen];omega,ks2,ws2,_,_,rfl,B2,F2.leave fun y hy=>Th.joined_nbrs.mp hy,F2.nd,hk2,rfl⟩
end
end Sh
end
section
namespace Sh
open PySem PySem.Spec PyProof.Rows L2
open Vbsgad (State Node)
theorem lc_nodes {K:PySem.W.Frag} {T:Ad} {net:Addr} {s:State} {g:Geo} {σ:L2.St} {H1:Hp} {D:Addr} {Qd:Hp→Prop} {i1 i2:Nat} {tt:TT} {vs:List Nat} (N:NetAt T H1 net s g) (hD:H1 D=none) (p:Nat→Bool)
    (hw:∀ (i:Nat) a,wipe (((wipe σ vs).set i1 (some (.int (i:Int)))).set i2 (some (.ref a))) vs=wipe σ vs)
    (h1:∀ (i:Nat) a,(((wipe σ vs).set i1 (some (.int (i:Int)))).set i2 (some (.ref a)))[i1]?=some (some (.int (i:Int))))
    (ht:∀ (i:Nat) a H',i < s.nodes.length→Same H1 H'→NodeAt T.c_Node H' a (Vbsgad.nodeOf s i)→∀ Q:Bool→Hp→Prop,(∀ H'',Same H' H''→Q (p i) H'')→tt (((wipe σ vs).set i1 (some (.int (i:Int)))).set i2 (some (.ref a))) H' Q)
    (hd:∀ H',Same H1 H'→H' D=some (.lst (nis (upto p s.nodes.length)))→Qd H') :
    ∃ W:Nat→Nat→Hp→Prop,(∃ m,W 0 m (upd H1 D (.lst [])))∧∀ i m H,W i m H →
      ((Ite K g.ln).stop i H∧Qd H)∨((Ite K g.ln).go i H∧∃ Nx:Hp→Prop,(∀ H',Nx H'→∃ m',m' < m∧W (i + 1) m' H')∧∀ x H',(Ite K g.ln).yld i H x H'→gTup K 2 (gCons (gName i1) (gCons (gName i2) gNil)) x (wipe σ vs) H' fun σ2 H2=>wipe σ2 vs=wipe σ vs∧tt σ2 H2 fun b H3 =>
        if b=true then tVar i1 σ2 H3 fun y H4=>∃ acc,H4 D=some (.lst acc)∧acc.length < sizeLine∧Nx (upd H4 D (.lst (acc++[y]))) else Nx H3):=by
  have hn:=N.wfs.sz
  refine lc_enum (K:=K) (a:=g.ln) (xs:=g.as.map V.ref) (fun i H'=>Same H1 H'∧H' D=some (.lst (nis (upto p i)))) ⟨Same.lay hD,upd_same⟩
    (fun i H' _ ⟨s3,_⟩=>SqL.of (s3 _ _ N.nl)) ?_ (fun H' ⟨s3,hl⟩=>hd H' s3 (by rw [List.length_map,N.len] at hl;exact hl))
  rintro i x H' Tp hx ⟨s3,hWl⟩ hT
  obtain ⟨a,ha,rfl⟩:=get_map hx
  have hi:i < s.nodes.length:=by rw [← N.len];exact (List.getElem?_eq_some_iff.mp ha).1
  obtain ⟨a',ha',hx',hnode⟩:=N.node hi
  obtain rfl:a=a':=Option.some.inj (ha.symm.trans ha')
  have s4:Same H' (upd H' Tp (.tup [.int (i:Nat),.ref a])):=Same.lay hT
  have hnode':NodeAt T.c_Node (upd H' Tp (.tup [.int (i:Nat),.ref a])) a (Vbsgad.nodeOf s i):=let ⟨dx,h⟩:=hnode;⟨dx,s4 _ _ (s3 _ _ h)⟩
  refine ⟨Tp,_,rfl,SqT.of upd_same,rfl,_,_,rfl,_,_,rfl,rfl,hw i a,ht i a _ hi (s3.trans s4) hnode' _ fun H'' s5=>?_⟩
  cases hb:p i with
  | true =>
    refine iteT ⟨_,h1 i a,_,s5 _ _ (s4 _ _ hWl),by rw [nis_len];exact Nat.lt_of_le_of_lt (upto_len _ _) (Nat.lt_of_lt_of_le hi (small24 hn)),((s3.trans s4).trans s5).wr hD,?_⟩
    rw [upd_same,upto_succ,if_pos hb,nis_append]
    rfl
  | false =>
    refine iteF ⟨(s3.trans s4).trans s5,?_⟩
    rw [upto_succ,if_neg (by rw [hb];simp)]
    exact s5 _ _ (s4 _ _ hWl)
theorem lc_filter {K:PySem.W.Frag} {a:Addr} {xs:List Nat} {σ:L2.St} {H1:Hp} {D:Addr} {Qd:Hp→Prop} {i1:Nat} {tt:TT} {vs:List Nat} (hl:SqL K H1 a (nis xs)) (hz:xs.length≤sizeLine) (hD:H1 D=none) (p:Nat→Bool)
    (hw:∀ x:Nat,wipe ((wipe σ vs).set i1 (some (.int (x:Int)))) vs=wipe σ vs)
    (h1:∀ x:Nat,((wipe σ vs).set i1 (some (.int (x:Int))))[i1]?=some (some (.int (x:Int))))
    (ht:∀ (i x:Nat) H',xs[i]?=some x→Same H1 H'→∀ Q:Bool→Hp→Prop,(∀ H'',Same H' H''→Q (p x) H'')→tt ((wipe σ vs).set i1 (some (.int (x:Int)))) H' Q)
    (hd:∀ H',Same H1 H'→H' D=some (.lst (nis (xs.filter p)))→Qd H') :
    ∃ W:Nat→Nat→Hp→Prop,(∃ m,W 0 m (upd H1 D (.lst [])))∧∀ i m H,W i m H →
      ((Itl K a).stop i H∧Qd H)∨((Itl K a).go i H∧∃ Nx:Hp→Prop,(∀ H',Nx H'→∃ m',m' < m∧W (i + 1) m' H')∧∀ x H',(Itl K a).yld i H x H'→gName i1 x (wipe σ vs) H' fun σ2 H2=>wipe σ2 vs=wipe σ vs∧tt σ2 H2 fun b H3 =>
        if b=true then tVar i1 σ2 H3 fun y H4=>∃ acc,H4 D=some (.lst acc)∧acc.length < sizeLine∧Nx (upd H4 D (.lst (acc++[y]))) else Nx H3):=by
  refine lc_list (K:=K) (a:=a) (xs:=nis xs) (fun i H'=>Same H1 H'∧H' D=some (.lst (nis ((xs.take i).filter p)))) ⟨Same.lay hD,upd_same⟩
    (fun i H' _ ⟨s3,_⟩=>s3.seq hl) ?_ (fun H' ⟨s3,hl⟩=>hd H' s3 (by rw [nis_len,List.take_length] at hl;exact hl))
  rintro i v H' hv ⟨s3,hWl⟩
  obtain ⟨x,hx,rfl⟩:=nis_get hv
  have hi:i < xs.length:=(List.getElem?_eq_some_iff.mp hx).1
  refine ⟨hw x,ht i x _ hx s3 _ fun H'' s5=>?_⟩
  have hlen:((xs.take i).filter p).length < sizeLine:=by
    have h1:=List.length_filter_le p (xs.take i)
    rw [List.length_take] at h1
    omega
  cases hb:p x with
  | true =>
    refine iteT ⟨_,h1 x,_,s5 _ _ hWl,by rw [nis_len];exact hlen,(s3.trans s5).wr hD,?_⟩
    rw [upd_same,take_snoc hx,List.filter_append,show List.filter p [x]=[x] by rw [List.filter_cons,hb];rfl,nis_append]
    rfl
  | false =>
    refine iteF ⟨s3.trans s5,?_⟩
    rw [take_snoc hx,List.filter_append,show List.filter p [x]=[] by rw [List.filter_cons,hb];rfl,List.append_nil]
    exact s5 _ _ hWl
section
variable {P:Program} {w:World} {K:PySem.W.Frag} {mg:Str→Option Value} {base:Heap} {T:Ad}
def sp_reached_nodes (K:PySem.W.Frag) (T:Ad):Sp:=fun vs H Q _=>∃ net fa s g fs,vs=[.ref net,.ref fa]∧NetAt T H net s g∧H fa=some (.lst (nis fs))∧fs.length≤2000 ∧
  ∀ H' p,Same H H'→H p=none→H' p=some (.lst (nis (Th.comeB s fs)))→Q (.ref p) H'
theorem ok_reached_nodes (Y:Tx K mg T):FnOk P w K mg base CX0 3 T.f_reached_nodes T.d_reached_nodes ["network","barred"] (sp_reached_nodes K T):=by
  have GC:=ok_nodes_come_to (P:=P) (w:=w) (base:=base) Y
  have GS:=ok_Node_is_shut (P:=P) (w:=w) (base:=base) Y
  refine Y.F_reached_nodes.ok sc_reached_nodes (fun vs H Q E h=>?_) (fun cdv A outer s H vs Q E hr h=>?_)
  · obtain ⟨net,fa,s,g,fs,rfl,_⟩:=h
    rfl
  · obtain ⟨net,fa,s,g,fs,rfl,N,hfa,hfl,k⟩:=h
    have nd:=sc_reached_nodes.nd
    refine' ⟨_,?d,?rd⟩
    case d =>
      refine' pss_cons ?s1 (pss_cons ?s2 (pss_one ?s3))
      case s1 =>
        refine' ps_setLc (i:=2) (own:=[("number",4),("node",5)]) (te:=tVar 4) (tt:=tTest (tOp rEq (tFld K (tVar 5) "base") (tC (.int 1)))) (g:=gTup K 2 (gCons (gName 4) (gCons (gName 5) gNil))) rfl nd rfl rfl (sw_true rfl rfl rfl rfl) (pi_enum (by rfl) Y.b_enumerate (pa_cons (pe_fld (pv 0) rfl) pa_nil)) ?b ?g ?t ?e
        case b=>exact blkOk_by (by show blkC n_reached_nodes (defScope s_reached_nodes) _ _=true;decide +kernel)
        case g=>intro _ _ _ _ _;exact pg_tup rfl (pgs_cons (pg_name (i:=4) nd rfl (Or.inl rfl)) (pgs_cons (pg_name (i:=5) nd rfl (Or.inl rfl)) pgs_nil))
        case t=>intro _ _ _ _ _;exact pts_one (pt_cmpR op_eq (pe_fld (pv 5) rfl) pe_int (nomark _))
        case e=>intro _ _ _ _ _;exact pv 4
      case s2 =>
        refine' ps_setLc (i:=3) (own:=[("number",4),("node",5)]) (te:=tVar 4) (tt:=tB (tMeth T.c_Node "is_shut" (sp_Node_is_shut T) [] E0 (tVar 5) tNil)) (g:=gTup K 2 (gCons (gName 4) (gCons (gName 5) gNil))) rfl nd rfl rfl (sw_true rfl rfl rfl rfl) (pi_enum (by rfl) Y.b_enumerate (pa_cons (pe_fld (pv 0) rfl) pa_nil)) ?b ?g ?t ?e
        case b=>exact blkOk_by (by show blkC n_reached_nodes (defScope s_reached_nodes) _ _=true;decide +kernel)
        case g=>intro _ _ _ _ _;exact pg_tup rfl (pgs_cons (pg_name (i:=4) nd rfl (Or.inl rfl)) (pgs_cons (pg_name (i:=5) nd rfl (Or.inl rfl)) pgs_nil))
        case t=>intro _ _ _ _ _;exact pts_one (pt_val (pe_meth0 (pv 5) Y.cl_Node Y.M_Node_is_shut GS (hr.mono (by decide)) Y.B_Node_is_shut .nil pass0))
        case e=>intro _ _ _ _ _;exact pv 4
      case s3=>exact ps_ret (pe_call GC hr rfl Y.G_nodes_come_to Y.F_nodes_come_to.kp Y.B_nodes_come_to .nil pass0 (pa_cons (pv 0) (pa_cons (pv 2) (pa_cons (pe_op op_cat (pv 3) (pv 1)) pa_nil))))
    case rd =>
      have hn:=N.wfs.sz
      refine ⟨_,rfl,net,T.c_Network,_,_,_,rfl,N.obj,Y.cl_Network,Y.na_Network_nodes,wf_nodes _ _,g.ln,_,rfl,SqL.of N.nl,fun D hD=>?_⟩
      refine lc_nodes N hD (Vbsgad.isBase s) (fun _ _=>rfl) (fun _ _=>rfl) (fun i a H' hi s' ⟨dx,hN⟩ Q hQ=>?_) fun H2 s2 hl2=>?_
      · refine ⟨_,rfl,a,T.c_Node,dx,_,_,rfl,hN,Y.cl_Node,Y.na_Node_base,nf_base _,rfl,_,rfl,?_⟩
        rw [bit_eq]
        exact hQ _ (fun _ _ e=>e)
      refine ⟨_,rfl,net,T.c_Network,_,_,_,rfl,s2 _ _ N.obj,Y.cl_Network,Y.na_Network_nodes,wf_nodes _ _,g.ln,_,rfl,SqL.of (s2 _ _ N.nl),fun D2 hD2=>?_⟩
      refine lc_nodes (N.same s2) hD2 (Vbsgad.shut s) (fun _ _=>rfl) (fun _ _=>rfl) (fun i a H' hi s' ⟨dx,hN⟩ Q hQ=>?_) fun H3 s3 hl3=>?_
      · exact ⟨_,rfl,a,dx,_,rfl,hN,nf_none _ (by decide +kernel) (by decide +kernel) (by decide +kernel),a,_,rfl,⟨dx,hN⟩,_,rfl,hQ _ (fun _ _ e=>e)⟩
      have s23:=s2.trans s3
      refine ⟨_,rfl,_,rfl,_,rfl,_,rfl,D2,fa,_,_,rfl,rfl,hl3,s23 _ _ hfa,?_,fun p hp=>?_⟩
      · rw [nis_len,nis_len]
        have:=upto_len (Vbsgad.shut s) s.nodes.length
        exact Nat.le_trans (show _≤3000 by omega) (by decide)
      have s4:Same H3 (upd H3 p (.lst (nis (upto (Vbsgad.shut s) s.nodes.length)++nis fs))):=Same.lay hp
      refine ⟨net,D,p,s,g,Vbsgad.bases s,upto (Vbsgad.shut s) s.nodes.length++fs,rfl,N.same (s23.trans s4),SqL.of (s4 _ _ (s3 _ _ hl2)),SqL.of (by rw [nis_append];exact upd_same),Th.bases_nodup s,Th.bases_lt,fun H' q s5 hq hl5=>?_⟩
      refine k H' q ((s23.trans s4).trans s5) ((s23.trans s4).free hq) ?_
      have e:Th.come s (fun a=>!(upto (Vbsgad.shut s) s.nodes.length++fs).contains a) (Vbsgad.bases s)=Th.comeB s fs:=by
        refine Th.come_congr Th.bases_lt fun x hx=>?_
        congr 1
        apply Bool.eq_iff_iff.mpr
        rw [List.contains_iff_mem,List.mem_append,Bool.or_eq_true,List.contains_iff_mem]
        unfold upto
        rw [List.mem_filter,List.mem_range]
        exact ⟨fun h=>h.elim (fun h=>.inr h.2) .inl,fun h=>h.elim .inr fun h=>.inl ⟨hx,h⟩⟩
      rw [← e]
      exact hl5
end
end Sh
end
section
namespace L2
open PySem PySem.Spec PyProof.Rows
theorem pe_k {X:Cx} {x:Str} {z:Int} {t:Tok} {pos:Pos} (hg:Gl X x) (h:X.mg x=some (.int z t)) (hd:(x == ("__debug__":Str))=false:=by decide):PE X (.Name x pos) (tC (.int z)):=pe_glob (v:=.int z) hg h ⟨_,rfl⟩ hd
end L2
namespace Sh
open PySem PySem.Spec PyProof.Rows L2
open Vbsgad (State Node)
theorem dd_fold (ns:List Int):dd ns=ns.foldl step_dedup []:=by
  unfold dd firstMet
  congr 1
  apply List.ext_getElem?
  intro i
  rw [List.getElem?_map]
  by_cases h:i < ns.length
  · rw [List.getElem?_range h,List.getElem?_eq_getElem h]
    show some (ns.getD i 0)=_
    rw [List.getD_eq_getElem?_getD,List.getElem?_eq_getElem h]
    rfl
  · rw [List.getElem?_eq_none_iff.mpr (by rw [List.length_range];omega),List.getElem?_eq_none_iff.mpr (by omega)]
    rfl
theorem fold_len:∀ (l acc:List Int),(l.foldl step_dedup acc).length≤acc.length + l.length∧((l.foldl step_dedup acc).length=acc.length + l.length↔l.Nodup∧∀ x∈l,x ∉ acc)
  | [],acc=>by simp
  | a :: l,acc=>by
    rw [List.foldl_cons,List.length_cons]
    obtain ⟨h1,h2⟩:=fold_len l (step_dedup acc a)
    unfold step_dedup at h1 h2 ⊢
    by_cases h:acc.any (· == a)=true
    · rw [if_pos h] at h1 h2 ⊢
      refine ⟨by omega,⟨fun e=>absurd e (by omega),fun ⟨_,e⟩=>?_⟩⟩
      rw [List.any_eq_true] at h
      obtain ⟨y,hy,e2⟩:=h
      have:y=a:=by simpa using e2
      exact absurd (this ▸ hy) (e a (List.mem_cons_self ..))
    · rw [if_neg h] at h1 h2 ⊢
      rw [List.length_append,List.length_singleton] at h1 h2
      refine ⟨by omega,?_⟩
      have hna:a ∉ acc:=fun q=>h (List.any_eq_true.mpr ⟨a,q,by simp⟩)
      constructor
      · intro e
        obtain ⟨n1,n2⟩:=h2.mp (by omega)
        refine ⟨List.nodup_cons.mpr ⟨fun q=>n2 a q (by simp),n1⟩,fun x hx=>?_⟩
        rcases List.mem_cons.mp hx with e | hx
        · rw [e];exact hna
        · exact fun q=>n2 x hx (List.mem_append_left _ q)
      · rintro ⟨n1,n2⟩
        obtain ⟨n3,n4⟩:=List.nodup_cons.mp n1
        have:=h2.mpr ⟨n4,fun x hx q=>by
          rcases List.mem_append.mp q with q | q
          · exact n2 x (List.mem_cons_of_mem _ hx) q
          · have:x=a:=by simpa using q
            exact n3 (this ▸ hx)⟩
        omega
theorem dd_len (ns:List Int):(dd ns).length=ns.length↔ns.Nodup:=by
  rw [dd_fold]
  have:=(fold_len ns []).2
  simp only [List.length_nil,Nat.zero_add] at this
  rw [this]
  simp
theorem nodup_toNat {l:List Int} (h:∀ z∈l,0≤z):(l.map Int.toNat).Nodup↔l.Nodup:=by
  induction l with
  | nil=>simp
  | cons a l ih =>
    rw [List.map_cons,List.nodup_cons,List.nodup_cons,ih fun z hz=>h z (List.mem_cons_of_mem _ hz)]
    constructor
    · rintro ⟨h1,h2⟩
      exact ⟨fun q=>h1 (List.mem_map.mpr ⟨a,q,rfl⟩),h2⟩
    · rintro ⟨h1,h2⟩
      refine ⟨fun q=>?_,h2⟩
      obtain ⟨b,hb,e⟩:=List.mem_map.mp q
      have e1:=h a (List.mem_cons_self ..)
      have e2:=h b (List.mem_cons_of_mem _ hb)
      have:a=b:=by omega
      exact h1 (this ▸ hb)
def zis (l:List Int):List V:=l.map V.int
theorem zis_len (l:List Int):(zis l).length=l.length:=List.length_map _
theorem zis_get {l:List Int} {i:Nat} {v:V} (h:(zis l)[i]?=some v):∃ b,l[i]?=some b∧v=.int b:=get_map h
theorem zis_nis (l:List Nat):nis l=zis (l.map fun (n:Nat)=>(n:Int)):=by unfold nis zis;rw [List.map_map];rfl
section
variable {P:Program} {w:World} {K:PySem.W.Frag} {mg:Str→Option Value} {base:Heap} {T:Ad}
def sp_Node_is_open_to_strangers (T:Ad):Sp:=fun vs H Q _=>∃ a x,vs=[.ref a]∧NodeAt T.c_Node H a x∧Q (.bl (x.halt_ && (x.free != 0 && !x.base))) H
theorem nat_gt0 (n:Nat):decide ((0:Int) < (n:Int))=(n != 0):=by
  cases n with
  | zero=>rfl
  | succ n =>
    rw [decide_eq_true (by omega)]
    rfl
theorem ok_Node_is_open_to_strangers (Y:Tx K mg T):FnOk P w K mg base CX0 1 T.f_Node_is_open_to_strangers T.d_Node_is_open_to_strangers ["self"] (sp_Node_is_open_to_strangers T):=by
  refine Y.F_Node_is_open_to_strangers.ok sc_Node_is_open_to_strangers (fun vs H Q E h=>?_) (fun cdv A outer s H vs Q E hr h=>?_)
  · obtain ⟨a,x,rfl,_⟩:=h
    rfl
  · obtain ⟨a,x,rfl,⟨dx,ha⟩,k⟩:=h
    refine ⟨_,pss_one (ps_ret (pe_and (pe_cmpR op_eq (pe_fld (pv 0) rfl) pe_int (nomark _)) (pe_and (pe_cmpR op_gt (pe_fld (pv 0) rfl) pe_int (nomark _)) (pe_one (pe_cmpR op_eq (pe_fld (pv 0) rfl) pe_int (nomark _)))))),?_⟩
    refine ⟨_,rfl,a,T.c_Node,dx,_,_,rfl,ha,Y.cl_Node,Y.na_Node_stop,nf_stop x,rfl,_,rfl,?_⟩
    rw [bit_eq]
    cases hx:x.halt_
    · rw [hx] at k
      exact iteF k
    · rw [hx] at k
      refine iteT ?_
      refine ⟨_,rfl,a,T.c_Node,dx,_,_,rfl,ha,Y.cl_Node,Y.na_Node_free,nf_free x,_,_,rfl,rfl,_,rfl,?_⟩
      rw [nat_gt0]
      cases hf:x.free != 0
      · rw [hf] at k
        exact iteF k
      · rw [hf] at k
        refine iteT ?_
        refine ⟨_,rfl,a,T.c_Node,dx,_,_,rfl,ha,Y.cl_Node,Y.na_Node_base,nf_base x,rfl,?_⟩
        rw [bit_eq0]
        exact k
def sp_Node___init__ (T:Ad):Sp:=fun vs H Q _=>∃ p dx x,vs=[.ref p,.int (Vbsgad.bit x.halt_),.int (x.free:Int),.int (Vbsgad.bit x.base)]∧H p=some (.ins T.c_Node dx []) ∧
  ∀ H':Hp,NodeAt T.c_Node H' p x→(∀ b o,H b=some o→b≠p→H' b=some o)→Q .non H'
theorem ok_Node___init__ (Y:Tx K mg T):FnOk P w K mg base CX0 1 T.f_Node___init__ T.d_Node___init__ ["self","stop","free","base"] (sp_Node___init__ T):=by
  refine Y.F_Node___init__.ok sc_Node___init__ (fun vs H Q E h=>?_) (fun cdv A outer s H vs Q E hr h=>?_)
  · obtain ⟨a,dx,x,rfl,_⟩:=h
    rfl
  · obtain ⟨p,dx,x,rfl,hp,k⟩:=h
    refine ⟨_,pss_cons (ps_fld (pv 0) (pv 1) rfl) (pss_cons (ps_fld (pv 0) (pv 2) rfl) (pss_one (ps_fld (pv 0) (pv 3) rfl))),?_⟩
    refine ⟨_,rfl,_,rfl,p,T.c_Node,dx,_,rfl,hp,Y.cl_Node,Y.na_Node_stop,(by show 0 < 1000;decide),?_⟩
    refine ⟨_,rfl,_,rfl,p,T.c_Node,dx,_,rfl,upd_same,Y.cl_Node,Y.na_Node_free,(by show 1 < 1000;decide),?_⟩
    refine ⟨_,rfl,_,rfl,p,T.c_Node,dx,_,rfl,upd_same,Y.cl_Node,Y.na_Node_base,?_,?_⟩
    · exact Nat.lt_of_le_of_lt (length_putF _ _ _) (by show 1 + 1 < 1000;decide)
    · refine k _ ⟨dx,?_⟩ fun b o e hb=>by rw [upd_ne hb,upd_ne hb,upd_ne hb];exact e
      rw [upd_same]
      congr 2
def sp_Network___init__ (T:Ad):Sp:=fun vs H Q _=>∃ p dx,vs=[.ref p]∧H p=some (.ins T.c_Network dx []) ∧
  ∀ (H':Hp) (g:Geo),NetAt T H' p Vbsgad.start g→(∀ b o,H b=some o→b≠p→H' b=some o)→H g.ln=none→H g.ll=none→g.as=[]→Q .non H'
theorem ok_Network___init__ (Y:Tx K mg T):FnOk P w K mg base CX0 1 T.f_Network___init__ T.d_Network___init__ ["self"] (sp_Network___init__ T):=by
  refine Y.F_Network___init__.ok sc_Network___init__ (fun vs H Q E h=>?_) (fun cdv A outer s H vs Q E hr h=>?_)
  · obtain ⟨a,dx,rfl,_⟩:=h
    rfl
  · obtain ⟨p,dx,rfl,hp,k⟩:=h
    refine ⟨_,pss_cons (ps_fld (pv 0) (pe_lst pa_nil) rfl) (pss_one (ps_fld (pv 0) (pe_lst pa_nil) rfl)),?_⟩
    refine ⟨Nat.zero_le _,fun a ha=>⟨_,rfl,p,T.c_Network,dx,_,rfl,by rw [upd_ne (ne_of_none hp ha)];exact hp,Y.cl_Network,Y.na_Network_nodes,(by show 0 < 1000;decide),?_⟩⟩
    have hpa:=ne_of_none hp ha
    refine ⟨Nat.zero_le _,fun b hb=>⟨_,rfl,p,T.c_Network,dx,_,rfl,by rw [upd_ne (fun e=>by rw [← e,upd_same] at hb;cases hb)];exact upd_same,Y.cl_Network,Y.na_Network_lines,(by show 1 < 1000;decide),?_⟩⟩
    have hpb:p≠b:=fun e=>by rw [← e,upd_same] at hb;cases hb
    have hab:a≠b:=fun e=>by rw [← e,upd_ne (Ne.symm hpa),upd_same] at hb;cases hb
    have hb0:H b=none:=by
      rw [upd_ne (Ne.symm hpb),upd_ne (Ne.symm hab)] at hb
      exact hb
    refine k _ ⟨dx,a,b,[],[]⟩ ⟨?_,?_,List.nodup_nil,rfl,fun i x y h=>by simp at h,?_,rfl,fun i x y h=>by simp at h,hab,Th.Wfs.start⟩ (fun c o e hc=>?_) ha hb0 rfl
    · rw [upd_same]
      congr 2
    · rw [upd_ne (Ne.symm hpa),upd_ne hab,upd_ne (Ne.symm hpa)];exact upd_same
    · rw [upd_ne (Ne.symm hpb)];exact upd_same
    · rw [upd_ne hc,upd_ne (ne_of_none e hb0),upd_ne hc,upd_ne (ne_of_none e ha)];exact e
def sp_are_in_range:Sp:=fun vs H Q _=>∃ f b,vs=[.int f,.int b]∧∀ H',Same H H'→Q (.bl (Vbsgad.within f 0 Vbsgad.PLACES && Vbsgad.within b 0 1)) H'
theorem in01 (b:Int):inV (.int b) [.int 0,.int 1]=Vbsgad.within b 0 1:=by
  show (((0:Int) == b) || (((1:Int) == b) || false))=decide (0≤b∧b≤1)
  apply Bool.eq_iff_iff.mpr
  simp
  omega
theorem ok_are_in_range (Y:Tx K mg T):FnOk P w K mg base CX0 1 T.f_are_in_range T.d_are_in_range ["free","base"] sp_are_in_range:=by
  refine Y.F_are_in_range.ok sc_are_in_range (fun vs H Q E h=>?_) (fun cdv A outer s H vs Q E hr h=>?_)
  · obtain ⟨f,b,rfl,_⟩:=h
    rfl
  · obtain ⟨f,b,rfl,k⟩:=h
    obtain ⟨t,ht⟩:=Y.k_MOST_FREE
    refine ⟨_,pss_one (ps_ret (pe_and (pe_chain op_le op_le pe_int (pv 0) (pe_k (by rfl) ht)) (pe_one (pe_cmpR op_in_seq (pv 1) (pe_tup (pa_cons pe_int (pa_cons pe_int pa_nil))) (by with_unfolding_all rfl))))),?_⟩
    refine ⟨_,rfl,_,_,rfl,rfl,_,rfl,?_⟩
    by_cases h0:0≤f
    · rw [decide_eq_true h0]
      refine iteT ⟨_,_,rfl,rfl,_,rfl,?_⟩
      by_cases h4:f≤4
      · rw [decide_eq_true h4]
        refine iteT ⟨_,rfl,by show 2≤sizeLine;decide,fun p hp=>⟨p,_,rfl,.inr (SqT.of upd_same),rfl,rfl,?_⟩⟩
        have e:Vbsgad.within f 0 Vbsgad.PLACES=true:=Th.within_iff.mpr ⟨h0,h4⟩
        rw [e] at k
        have:=k _ (Same.lay (o:=.tup [.int 0,.int 1]) hp)
        rw [← in01] at this
        exact this
      · rw [decide_eq_false h4]
        refine iteF ?_
        have e:Vbsgad.within f 0 Vbsgad.PLACES=false:=Bool.eq_false_iff.mpr fun q=>h4 (Th.within_iff.mp q).2
        rw [e] at k
        exact k _ (Same.refl _)
    · rw [decide_eq_false h0]
      refine iteF ⟨_,rfl,iteF ?_⟩
      have e:Vbsgad.within f 0 Vbsgad.PLACES=false:=Bool.eq_false_iff.mpr fun q=>h0 (Th.within_iff.mp q).1
      rw [e] at k
      exact k _ (Same.refl _)
def sp_counted:Sp:=fun vs H Q _=>∃ a xs,vs=[.ref a]∧H a=some (.lst xs)∧xs.length < 1000000∧∀ H' p,Same H H'→H p=none→H' p=some (.lst (.int (xs.length:Nat) :: xs))→Q (.ref p) H'
theorem ok_counted (Y:Tx K mg T):FnOk P w K mg base CX0 1 T.f_counted T.d_counted ["numbers"] sp_counted:=by
  refine Y.F_counted.ok sc_counted (fun vs H Q E h=>?_) (fun cdv A outer s H vs Q E hr h=>?_)
  · obtain ⟨f,b,rfl,_⟩:=h
    rfl
  · obtain ⟨a,xs,rfl,ha,hl,k⟩:=h
    refine ⟨_,pss_one (ps_ret (pe_op op_cat (pe_lst (pa_cons (pe_callB call_len_seq (by rfl) Y.b_len PySem.boot_len (pa_cons (pv 0) pa_nil)) pa_nil)) (pv 0))),?_⟩
    refine ⟨_,rfl,a,_,rfl,.inl (SqL.of ha),by show 1≤sizeLine;decide,fun p hp=>?_⟩
    have s1:Same H (upd H p (.lst [.int (xs.length:Nat)])):=Same.lay hp
    refine ⟨_,rfl,p,a,_,_,rfl,rfl,upd_same,s1 _ _ ha,?_,fun q hq=>?_⟩
    · show 1 + xs.length≤sizeLine
      rw [sizeLine_eq];omega
    · exact k _ q (s1.trans (Same.lay hq)) (s1.free hq) upd_same
end
end Sh
end
section
namespace Sh
open PySem PySem.Spec PyProof.Rows L2
open Vbsgad (State Node)
def ff (lv hh rr:Addr):List (Str × V):=[("leaving",.ref lv),("heads",.ref hh),("room",.ref rr)]
theorem ff_leaving (lv hh rr:Addr):(ff lv hh rr).lookup ("leaving":Str)=some (.ref lv):=lk_here
theorem ff_heads (lv hh rr:Addr):(ff lv hh rr).lookup ("heads":Str)=some (.ref hh):=(lk_next (by decide +kernel)).trans lk_here
theorem ff_room (lv hh rr:Addr):(ff lv hh rr).lookup ("room":Str)=some (.ref rr):=(lk_next (by decide +kernel)).trans ((lk_next (by decide +kernel)).trans lk_here)
theorem ff_none (lv hh rr:Addr) {f:Str} (h1:¬ f="leaving") (h2:¬ f="heads") (h3:¬ f="room"):(ff lv hh rr).lookup f=none:=(lk_next h1).trans ((lk_next h2).trans ((lk_next h3).trans rfl))
structure FG where
  (dx lv hh rr:Addr) (js:List Addr)
structure FlowAt (T:Ad) (H0 H:Hp) (f:Addr) (G:FG) (es:List Th.Arc) (R:Nat→Nat) (n:Nat):Prop where
  sm:Same H0 H
  obj:H f=some (.ins T.c_Flow G.dx (ff G.lv G.hh G.rr))
  adj:AdjAt H0 H G.lv G.js (Th.lvOf es)
  jl:G.js.length=n
  hl:H G.hh=some (.lst (nis (Th.hdsOf es)))
  rl:H G.rr=some (.lst (nis (Th.rms R es.length)))
  nh:H0 G.hh=none
  nr:H0 G.rr=none
  hr:G.hh≠G.rr
  lh:G.lv≠G.hh
  lr:G.lv≠G.rr
  jh:G.hh ∉ G.js
  jr:G.rr ∉ G.js
  arcs:Th.ArcsIn es n
theorem AdjAt.same {H0 H H':Hp} {D:Addr} {js:List Addr} {f:Nat→List Nat} (A:AdjAt H0 H D js f) (e:Same H H'):AdjAt H0 H' D js f :=
  ⟨e _ _ A.lst,A.nd,fun i j h=>e _ _ (A.at_ i j h),A.nw,A.nD,A.Dn⟩
theorem FlowAt.same {T:Ad} {H0 H H':Hp} {f:Addr} {G:FG} {es:List Th.Arc} {R:Nat→Nat} {n:Nat} (A:FlowAt T H0 H f G es R n) (e:Same H H'):FlowAt T H0 H' f G es R n :=
  ⟨A.sm.trans e,e _ _ A.obj,A.adj.same e,A.jl,e _ _ A.hl,e _ _ A.rl,A.nh,A.nr,A.hr,A.lh,A.lr,A.jh,A.jr,A.arcs⟩
theorem FlowAt.fne {T:Ad} {H0 H:Hp} {f:Addr} {G:FG} {es:List Th.Arc} {R:Nat→Nat} {n:Nat} (A:FlowAt T H0 H f G es R n):f≠G.rr∧f≠G.hh∧f ∉ G.js :=
  ⟨ne_of A.obj A.rl (by intro z;cases z),ne_of A.obj A.hl (by intro z;cases z),fun h=>by
    obtain ⟨i,hi⟩:=List.getElem?_of_mem h
    have:=A.adj.at_ i f hi
    rw [A.obj] at this
    cases this⟩
theorem FlowAt.setR {T:Ad} {H0 H:Hp} {f:Addr} {G:FG} {es:List Th.Arc} {R R':Nat→Nat} {n:Nat} (A:FlowAt T H0 H f G es R n):FlowAt T H0 (upd H G.rr (.lst (nis (Th.rms R' es.length)))) f G es R' n :=
  ⟨A.sm.wr A.nr,by rw [upd_ne A.fne.1];exact A.obj,⟨by rw [upd_ne A.lr];exact A.adj.lst,A.adj.nd,fun i j h=>by rw [upd_ne (fun (e:j=G.rr)=>A.jr (e ▸ List.mem_of_getElem? h))];exact A.adj.at_ i j h,A.adj.nw,A.adj.nD,A.adj.Dn⟩,A.jl,by rw [upd_ne A.hr];exact A.hl,upd_same,A.nh,A.nr,A.hr,A.lh,A.lr,A.jh,A.jr,A.arcs⟩
theorem upd_keep {H:Hp} {p b:Addr} {o u:HO} (h:H b=some u) (hne:b≠p):upd H p o b=some u:=by rw [upd_ne hne];exact h
theorem nis_set (l:List Nat) (i v:Nat):(nis l).set i (.int (v:Int))=nis (l.set i v):=by
  unfold nis
  rw [List.map_set]
theorem xor_tw (a:Nat):Builtin.bitXor (a:Int) 1=(Th.tw a:Int):=by
  rw [bitXor_and]
  have h:Builtin.bitAnd (a:Int) 1=((a % 2:Nat):Int):=by
    unfold Builtin.bitAnd
    rw [decide_eq_true (show (0:Int)≤(a:Int) by omega),decide_eq_true (show (0:Int)≤1 by omega)]
    show (((a:Int).toNat &&& (1:Int).toNat:Nat):Int)=_
    rw [Int.toNat_natCast]
    show ((a &&& 1:Nat):Int)=_
    rw [Nat.and_one_is_mod]
  rw [h]
  unfold Th.tw
  split <;> omega
section
variable {P:Program} {w:World} {K:PySem.W.Frag} {mg:Str→Option Value} {base:Heap} {T:Ad}
def sp_Flow___init__ (T:Ad):Sp:=fun vs H Q _=>∃ p dx H0,∃ n:Nat,vs=[.ref p,.int (n:Int)]∧n≤48∧H p=some (.ins T.c_Flow dx [])∧Same H0 H∧H0 p=none ∧
  ∀ (H':Hp) (G:FG),FlowAt T H0 H' p G [] (Th.R0 []) n→Q .non H'
theorem ok_Flow___init__ (Y:Tx K mg T):FnOk P w K mg base CX0 1 T.f_Flow___init__ T.d_Flow___init__ ["self","sides"] (sp_Flow___init__ T):=by
  refine Y.F_Flow___init__.ok sc_Flow___init__ (fun vs H Q E h=>?_) (fun cdv A outer s H vs Q E hr h=>?_)
  · obtain ⟨p,dx,H0,n,rfl,_⟩:=h
    rfl
  · obtain ⟨p,dx,H0,n,rfl,hn,hp,h0,h0p,k⟩:=h
    have nd:=sc_Flow___init__.nd
    refine' ⟨_,?d,?rd⟩
    case d =>
      refine' pss_cons (ps_fld (pv 0) ?c rfl) (pss_cons (ps_fld (pv 0) (pe_lst pa_nil) rfl) (pss_one (ps_fld (pv 0) (pe_lst pa_nil) rfl)))
      case c =>
        refine' pe_lc (own:=[("side",2)]) (te:=tLst tNil) (tt:=tYes) (g:=gName 2) rfl nd (pi_range1 rfl Y.b_range (pa_cons (pv 1) pa_nil)) ?b ?g ?t ?e
        case b=>exact blkOk_by (by show blkC n_Flow___init__ (defScope s_Flow___init__) _ _=true;decide +kernel)
        case g=>intro _ _ _ _ _;exact pg_name (i:=2) nd rfl (Or.inl rfl)
        case t=>intro _ _ _ _ _;exact pts_nil
        case e=>intro _ _ _ _ _;exact pe_lst pa_nil
    case rd =>
      refine ⟨_,rfl,(n:Int),rfl,by omega,by omega,fun D hD=>?_⟩
      rw [Int.toNat_natCast]
      refine lc_range (lo:=0) (n:=n) (fun i H'=>∃ js,js.length=i∧Same H H'∧AdjAt H H' D js (fun _=>[])) ⟨[],rfl,Same.lay hD,upd_same,List.nodup_nil,fun i j h=>by simp at h,fun j h=>(nomatch h),hD,fun h=>(nomatch h)⟩ ?_ ?_
      · rintro i H' hi ⟨js,hlen,s1,A1⟩
        refine ⟨rfl,?_⟩
        dsimp only [tYes]
        refine iteT ⟨by show 0≤sizeLine;exact Nat.zero_le _,fun q hq=>?_⟩
        have hq0:H q=none:=s1.free hq
        have hqD:D≠q:=ne_of_none A1.lst hq
        refine ⟨js.map V.ref,by rw [upd_ne hqD];exact A1.lst,by rw [List.length_map,hlen];exact Nat.lt_of_lt_of_le hi (Nat.le_trans hn (by decide)),js++[q],by rw [List.length_append,hlen];rfl,(s1.wr hq0).wr A1.nD,?_⟩
        have hqj:q ∉ js:=fun h=>by
          obtain ⟨m,hm⟩:=List.getElem?_of_mem h
          rw [A1.at_ m q hm] at hq
          cases hq
        refine ⟨by rw [upd_same,List.map_append];rfl,?_,fun m j hj=>?_,fun j hj=>?_,A1.nD,fun h=>?_⟩
        · rw [List.nodup_append]
          refine ⟨A1.nd,by simp,fun a ha b hb e=>?_⟩
          simp at hb
          subst hb
          exact hqj (e ▸ ha)
        · have hjD:j≠D:=fun e=>by
            have hm:=List.mem_of_getElem? hj
            rcases List.mem_append.mp hm with h | h
            · exact A1.Dn (e ▸ h)
            · simp at h
              exact hqD (by rw [← e,h])
          rw [upd_ne hjD]
          by_cases hnl:m < js.length
          · rw [List.getElem?_append_left hnl] at hj
            have hjp:j≠q:=fun e=>hqj (e ▸ List.mem_of_getElem? hj)
            rw [upd_ne hjp]
            exact A1.at_ m j hj
          · rw [List.getElem?_append_right (by omega)] at hj
            have hm:=List.mem_of_getElem? hj
            simp at hm
            subst hm
            exact upd_same
        · rcases List.mem_append.mp hj with h | h
          · exact A1.nw j h
          · simp at h
            rw [h];exact hq0
        · rcases List.mem_append.mp h with h | h
          · exact A1.Dn h
          · simp at h
            exact hqD h
      rintro H1 ⟨js,hlen,s1,A1⟩
      have hp1:=s1 _ _ hp
      refine ⟨_,rfl,p,T.c_Flow,dx,_,rfl,hp1,Y.cl_Flow,Y.na_Flow_leaving,(by show 0 < 1000;decide),?_⟩
      have hDp:D≠p:=fun e=>by rw [e,hp] at hD;cases hD
      have hjp:p ∉ js:=fun h=>by have:=A1.nw p h;rw [hp] at this;cases this
      refine ⟨Nat.zero_le _,fun a ha=>⟨_,rfl,p,T.c_Flow,dx,_,rfl,by rw [upd_ne (ne_of_none upd_same ha)];exact upd_same,Y.cl_Flow,Y.na_Flow_heads,(by show 1 < 1000;decide),?_⟩⟩
      have hpa:p≠a:=ne_of_none upd_same ha
      have ha1:H1 a=none:=by rw [upd_ne (Ne.symm hpa)] at ha;exact ha
      refine ⟨Nat.zero_le _,fun b hb=>⟨_,rfl,p,T.c_Flow,dx,_,rfl,by rw [upd_ne (ne_of_none upd_same hb)];exact upd_same,Y.cl_Flow,Y.na_Flow_room,Nat.lt_of_le_of_lt (length_putF _ _ _) (by show 1 + 1 < 1000;decide),?_⟩⟩
      have hpb:p≠b:=ne_of_none upd_same hb
      have hab:a≠b:=fun e=>by rw [← e,upd_ne (Ne.symm hpa),upd_same] at hb;cases hb
      have hb1:H1 b=none:=by
        rw [upd_ne (Ne.symm hpb),upd_ne (Ne.symm hab),upd_ne (Ne.symm hpb)] at hb
        exact hb
      have hDa:D≠a:=ne_of_none A1.lst ha1
      have hDb:D≠b:=ne_of_none A1.lst hb1
      have hja:a ∉ js:=fun h=>by obtain ⟨i,hi⟩:=List.getElem?_of_mem h;rw [A1.at_ i a hi] at ha1;cases ha1
      have hjb:b ∉ js:=fun h=>by obtain ⟨i,hi⟩:=List.getElem?_of_mem h;rw [A1.at_ i b hi] at hb1;cases hb1
      have hf0:∀ x,H x=none→H0 x=none:=fun x e=>h0.free e
      refine k _ ⟨dx,D,a,b,js⟩ ⟨fun x o e=>?_,?_,⟨?_,A1.nd,fun i j hj=>?_,fun j hj=>hf0 j (A1.nw j hj),hf0 D hD,A1.Dn⟩,hlen,?_,?_,hf0 a (s1.free ha1),hf0 b (s1.free hb1),hab,hDa,hDb,hja,hjb,Th.ArcsIn.nil n⟩
      · have hxp:x≠p:=fun q=>by rw [q,h0p] at e;cases e
        have e1:=s1 _ _ (h0 _ _ e)
        rw [upd_ne hxp,upd_ne (ne_of_none e1 hb1),upd_ne hxp,upd_ne (ne_of_none e1 ha1),upd_ne hxp]
        exact e1
      · rw [upd_same]
        congr 2
      · rw [upd_ne hDp,upd_ne hDb,upd_ne hDp,upd_ne hDa,upd_ne hDp];exact A1.lst
      · have hm:=List.mem_of_getElem? hj
        rw [upd_ne (fun (e:j=p)=>hjp (e ▸ hm)),upd_ne (fun (e:j=b)=>hjb (e ▸ hm)),upd_ne (fun (e:j=p)=>hjp (e ▸ hm)),upd_ne (fun (e:j=a)=>hja (e ▸ hm)),upd_ne (fun (e:j=p)=>hjp (e ▸ hm))]
        exact A1.at_ i j hj
      · show upd _ _ _ a=_
        rw [upd_ne (Ne.symm hpa),upd_ne hab,upd_ne (Ne.symm hpa),upd_same]
        rfl
      · show upd _ _ _ b=_
        rw [upd_ne (Ne.symm hpb),upd_same]
        rfl
def sp_Flow_add_arc (T:Ad):Sp:=fun vs H Q _=>∃ f H0 G es,∃ n t h c:Nat,vs=[.ref f,.int (t:Int),.int (h:Int),.int (c:Int)]∧FlowAt T H0 H f G es (Th.R0 es) n∧es.length≤200∧t < n∧h < n∧t≠h ∧
  ∀ H',FlowAt T H0 H' f G (es++[⟨t,h,c⟩]) (Th.R0 (es++[⟨t,h,c⟩])) n→Q .non H'
theorem ok_Flow_add_arc (Y:Tx K mg T):FnOk P w K mg base CX0 1 T.f_Flow_add_arc T.d_Flow_add_arc ["self","tail","head","room"] (sp_Flow_add_arc T):=by
  refine Y.F_Flow_add_arc.ok sc_Flow_add_arc (fun vs H Q E h=>?_) (fun cdv A outer s H vs Q E hr h=>?_)
  · obtain ⟨f,H0,G,es,n,t,h,c,rfl,_⟩:=h
    rfl
  · obtain ⟨f,H0,G,es,n,t,h,c,rfl,F,hes,ht,hh,hne,k⟩:=h
    refine ⟨_,pss_cons (ps_expr (pe_bm PySem.F.plainAttrs_list PySem.F.slot_list_append PySem.F.type_list_append mt_append (pe_ix ix_list (pe_fld (pv 0) rfl) (pv 1) (fun _ _=>rfl)) (pa_cons (pe_callB call_len_seq (by rfl) Y.b_len PySem.boot_len (pa_cons (pe_fld (pv 0) rfl) pa_nil)) pa_nil)))
      (pss_cons (ps_expr (pe_bm PySem.F.plainAttrs_list PySem.F.slot_list_append PySem.F.type_list_append mt_append (pe_ix ix_list (pe_fld (pv 0) rfl) (pv 2) (fun _ _=>rfl)) (pa_cons (pe_op op_add (pe_callB call_len_seq (by rfl) Y.b_len PySem.boot_len (pa_cons (pe_fld (pv 0) rfl) pa_nil)) pe_int) pa_nil)))
      (pss_cons (ps_expr (pe_bm PySem.F.plainAttrs_list PySem.F.slot_list_extend PySem.F.type_list_extend mt_extend (pe_fld (pv 0) rfl) (pa_cons (pe_lst (pa_cons (pv 2) (pa_cons (pv 1) pa_nil))) pa_nil)))
      (pss_one (ps_expr (pe_bm PySem.F.plainAttrs_list PySem.F.slot_list_extend PySem.F.type_list_extend mt_extend (pe_fld (pv 0) rfl) (pa_cons (pe_lst (pa_cons (pv 3) (pa_cons pe_int pa_nil))) pa_nil)))))),?_⟩
    obtain ⟨jt,hjt⟩:∃ j,G.js[t]?=some j:=⟨_,List.getElem?_eq_getElem (by rw [F.jl];exact ht)⟩
    obtain ⟨jh,hjh⟩:∃ j,G.js[h]?=some j:=⟨_,List.getElem?_eq_getElem (by rw [F.jl];exact hh)⟩
    have hmt:=List.mem_of_getElem? hjt
    have hmh:=List.mem_of_getElem? hjh
    have hj:jt≠jh:=fun e=>hne (nd_ix F.adj.nd hjt (by rw [e];exact hjh))
    have big:∀ m,m≤2 * es.length→m < sizeLine:=fun m hm=>Nat.lt_of_le_of_lt hm (Nat.lt_of_le_of_lt (show 2 * es.length≤400 by omega) (by decide))
    have hlen:((nis (Th.hdsOf es)).length:Int)=((2 * es.length:Nat):Int):=by rw [nis_len,Th.hds_len]
    refine ⟨_,rfl,f,T.c_Flow,_,_,_,rfl,F.obj,Y.cl_Flow,Y.na_Flow_leaving,ff_leaving _ _ _,_,rfl,G.lv,_,_,_,rfl,rfl,SqL.of F.adj.lst,at_of (j:=t) (v:=V.ref jt) rfl (by rw [List.getElem?_map,hjt];rfl),.inl ⟨rfl,_,SqL.of (F.adj.at_ _ _ hjt)⟩,
      _,rfl,f,T.c_Flow,_,_,_,rfl,F.obj,Y.cl_Flow,Y.na_Flow_heads,ff_heads _ _ _,G.hh,_,rfl,.inl (SqL.of F.hl),jt,_,_,rfl,rfl,F.adj.at_ _ _ hjt,by rw [nis_len];exact big _ (Th.lvOf_len es t),?_⟩
    rw [hlen]
    have A1:=F.adj.push (f':=fun i=>if i=t then Th.lvOf es i++[2 * es.length] else Th.lvOf es i) hjt (b:=2 * es.length) (if_pos rfl) (fun i hi=>if_neg hi)
    have s1:Same H0 (upd H jt (.lst (nis (Th.lvOf es t)++[V.int ((2 * es.length:Nat):Int)]))):=F.sm.wr (F.adj.nw _ hmt)
    have fj1:f≠jt:=fun e=>F.fne.2.2 (e ▸ hmt)
    have hj1:G.hh≠jt:=fun e=>F.jh (e ▸ hmt)
    have rj1:G.rr≠jt:=fun e=>F.jr (e ▸ hmt)
    have fo1:=upd_keep (o:=(.lst (nis (Th.lvOf es t)++[V.int ((2 * es.length:Nat):Int)]))) F.obj fj1
    have fh1:=upd_keep (o:=(.lst (nis (Th.lvOf es t)++[V.int ((2 * es.length:Nat):Int)]))) F.hl hj1
    have fr1:=upd_keep (o:=(.lst (nis (Th.lvOf es t)++[V.int ((2 * es.length:Nat):Int)]))) F.rl rj1
    generalize upd H jt (.lst (nis (Th.lvOf es t)++[V.int ((2 * es.length:Nat):Int)]))=H1 at A1 s1 fo1 fh1 fr1 ⊢
    have hA:=A1.at_ _ _ hjh
    rw [if_neg (Ne.symm hne)] at hA
    refine ⟨_,rfl,f,T.c_Flow,_,_,_,rfl,fo1,Y.cl_Flow,Y.na_Flow_leaving,ff_leaving _ _ _,_,rfl,G.lv,_,_,_,rfl,rfl,SqL.of A1.lst,at_of (j:=h) (v:=V.ref jh) rfl (by rw [List.getElem?_map,hjh];rfl),.inl ⟨rfl,_,SqL.of hA⟩,
      _,rfl,f,T.c_Flow,_,_,_,rfl,fo1,Y.cl_Flow,Y.na_Flow_heads,ff_heads _ _ _,G.hh,_,rfl,.inl (SqL.of fh1),_,_,rfl,rfl,jh,_,_,rfl,rfl,hA,by rw [nis_len];exact big _ (Th.lvOf_len es h),?_⟩
    dsimp only
    rw [hlen,show ((2 * es.length:Nat):Int) + 1=((2 * es.length + 1:Nat):Int) by omega]
    have e2:(if h=t then Th.lvOf es h++[2 * es.length] else Th.lvOf es h)=Th.lvOf es h:=if_neg (Ne.symm hne)
    have A2:=A1.push (f':=Th.lvOf (es++[⟨t,h,c⟩])) hjh (b:=2 * es.length + 1) (by
        rw [e2,Th.lv_snoc]
        show _++((if t=h then [2 * es.length] else [])++if h=h then [2 * es.length + 1] else [])=_
        rw [if_neg hne,if_pos rfl];rfl) (fun i hi=>by
        rw [Th.lv_snoc]
        show _++((if t=i then [2 * es.length] else [])++if h=i then [2 * es.length + 1] else [])=_
        rw [if_neg (fun (q:h=i)=>hi q.symm),List.append_nil]
        by_cases q:i=t
        · rw [if_pos q.symm,if_pos q]
        · rw [if_neg (fun z=>q z.symm),if_neg q,List.append_nil])
    rw [e2] at A2
    have s2:Same H0 (upd H1 jh (.lst (nis (Th.lvOf es h)++[V.int ((2 * es.length + 1:Nat):Int)]))):=s1.wr (F.adj.nw _ hmh)
    have fj2:f≠jh:=fun e=>F.fne.2.2 (e ▸ hmh)
    have hj2:G.hh≠jh:=fun e=>F.jh (e ▸ hmh)
    have rj2:G.rr≠jh:=fun e=>F.jr (e ▸ hmh)
    have fo2:=upd_keep (o:=(.lst (nis (Th.lvOf es h)++[V.int ((2 * es.length + 1:Nat):Int)]))) fo1 fj2
    have fh2:=upd_keep (o:=(.lst (nis (Th.lvOf es h)++[V.int ((2 * es.length + 1:Nat):Int)]))) fh1 hj2
    have fr2:=upd_keep (o:=(.lst (nis (Th.lvOf es h)++[V.int ((2 * es.length + 1:Nat):Int)]))) fr1 rj2
    generalize upd H1 jh (.lst (nis (Th.lvOf es h)++[V.int ((2 * es.length + 1:Nat):Int)]))=H2 at A2 s2 fo2 fh2 fr2 ⊢
    refine ⟨_,rfl,f,T.c_Flow,_,_,_,rfl,fo2,Y.cl_Flow,Y.na_Flow_heads,ff_heads _ _ _,.inl ⟨rfl,_,SqL.of fh2⟩,_,rfl,_,rfl,by show 2≤sizeLine;decide,fun q hq=>?_⟩
    have s3:Same H2 (upd H2 q (.lst [V.int (h:Int),V.int (t:Int)])):=Same.lay hq
    refine ⟨G.hh,q,_,_,rfl,rfl,s3 _ _ fh2,upd_same,by rw [nis_len,Th.hds_len];exact Nat.le_of_lt (Nat.lt_of_le_of_lt (show 2 * es.length + 2≤402 by omega) (by decide)),?_⟩
    have ehd:nis (Th.hdsOf es)++[V.int (h:Int),V.int (t:Int)]=nis (Th.hdsOf (es++[⟨t,h,c⟩])):=by rw [Th.hds_snoc,nis_append];rfl
    rw [ehd]
    have hqh:q≠G.hh:=fun e=>by rw [e,fh2] at hq;cases hq
    have A3:AdjAt H0 (upd (upd H2 q (.lst [V.int (h:Int),V.int (t:Int)])) G.hh (.lst (nis (Th.hdsOf (es++[⟨t,h,c⟩]))))) G.lv G.js (Th.lvOf (es++[⟨t,h,c⟩])) :=
      ⟨by rw [upd_ne F.lh];exact s3 _ _ A2.lst,A2.nd,fun i j hji=>by rw [upd_ne (fun (e:j=G.hh)=>F.jh (e ▸ List.mem_of_getElem? hji))];exact s3 _ _ (A2.at_ i j hji),A2.nw,A2.nD,A2.Dn⟩
    have s4:Same H0 (upd (upd H2 q (.lst [V.int (h:Int),V.int (t:Int)])) G.hh (.lst (nis (Th.hdsOf (es++[⟨t,h,c⟩]))))):=(s2.trans s3).wr F.nh
    have fo3:=upd_keep (o:=(.lst (nis (Th.hdsOf (es++[⟨t,h,c⟩]))))) (s3 _ _ fo2) F.fne.2.1
    have fr3:=upd_keep (o:=(.lst (nis (Th.hdsOf (es++[⟨t,h,c⟩]))))) (s3 _ _ fr2) (Ne.symm F.hr)
    have fh3:(upd (upd H2 q (.lst [V.int (h:Int),V.int (t:Int)])) G.hh (.lst (nis (Th.hdsOf (es++[⟨t,h,c⟩]))))) G.hh=some (.lst (nis (Th.hdsOf (es++[⟨t,h,c⟩])))):=upd_same
    generalize (upd (upd H2 q (.lst [V.int (h:Int),V.int (t:Int)])) G.hh (.lst (nis (Th.hdsOf (es++[⟨t,h,c⟩])))))=H3 at A3 s4 fo3 fr3 fh3 ⊢
    refine ⟨_,rfl,f,T.c_Flow,_,_,_,rfl,fo3,Y.cl_Flow,Y.na_Flow_room,ff_room _ _ _,.inl ⟨rfl,_,SqL.of fr3⟩,_,rfl,by show 2≤sizeLine;decide,fun q hq=>?_⟩
    have s5:Same H3 (upd H3 q (.lst [V.int (c:Int),V.int 0])):=Same.lay hq
    refine ⟨G.rr,q,_,_,rfl,rfl,s5 _ _ fr3,upd_same,by rw [nis_len,Th.rms_len];exact Nat.le_of_lt (Nat.lt_of_le_of_lt (show 2 * es.length + 2≤402 by omega) (by decide)),?_⟩
    have erm:nis (Th.rms (Th.R0 es) es.length)++[V.int (c:Int),V.int 0]=nis (Th.rms (Th.R0 (es++[⟨t,h,c⟩])) (es++[(⟨t,h,c⟩:Th.Arc)]).length):=by rw [Th.snoc_len,Th.rms_snoc,nis_append];rfl
    rw [erm]
    refine k _ ⟨(s4.trans s5).wr F.nr,by rw [upd_ne F.fne.1];exact s5 _ _ fo3,⟨by rw [upd_ne F.lr];exact s5 _ _ A3.lst,A3.nd,fun i j hji=>by rw [upd_ne (fun (e:j=G.rr)=>F.jr (e ▸ List.mem_of_getElem? hji))];exact s5 _ _ (A3.at_ i j hji),A3.nw,A3.nD,A3.Dn⟩,F.jl,by rw [upd_ne F.hr];exact s5 _ _ fh3,upd_same,F.nh,F.nr,F.hr,F.lh,F.lr,F.jh,F.jr,F.arcs.snoc ht hh hne⟩
end
end Sh
end
section
namespace Sh
open PySem PySem.Spec PyProof.Rows L2
open Vbsgad (State Node)
def oV:Option Nat→V
  | none=>.non
  | some a=>.int (a:Int)
def cby (ws:List Nat) (par:Nat→Option Nat):List (Key × V):=ws.map fun (x:Nat)=>((Sum.inl (x:Int):Key),oV (par x))
theorem cby_len (ws:List Nat) (par:Nat→Option Nat):(cby ws par).length=ws.length:=List.length_map _
theorem cby_val (x:Nat) (par:Nat→Option Nat):∀ ks:List Nat,valV (cby ks par) (Sum.inl (x:Int):Key)=if ks.contains x=true then some (oV (par x)) else none
  | []=>rfl
  | k :: ks=>by
    show valV (((Sum.inl (k:Int):Key),oV (par k)) :: cby ks par) _=_
    by_cases e:k=x
    · subst e
      rw [valV_pos rfl,if_pos (by simp)]
    · rw [valV_neg (fun (q:(Sum.inl (k:Int):Key)=Sum.inl (x:Int))=>e (by cases q;rfl)),cby_val x par ks]
      have:(k :: ks).contains x=ks.contains x:=by
        rw [List.contains_cons]
        have:(x == k)=false:=by simpa using fun q=>e q.symm
        rw [this];rfl
      rw [this]
theorem cby_put {x a:Nat} {par:Nat→Option Nat} {ks:List Nat} (h:ks.contains x=false):putK (cby ks par) (Sum.inl (x:Int):Key) (.int (a:Int))=cby (ks++[x]) (fun y=>if y=x then some a else par y):=by
  unfold putK
  rw [valV_any,cby_val,h]
  show cby ks par++_=_
  unfold cby
  rw [List.map_append]
  congr 1
  · refine List.map_congr_left fun y hy=>?_
    have:y≠x:=fun e=>by rw [List.contains_iff_mem.mpr (e ▸ hy)] at h;cases h
    dsimp only
    rw [if_neg this]
  · show _=[((Sum.inl (x:Int):Key),oV (if x=x then some a else par x))]
    rw [if_pos rfl]
    rfl
theorem cby_merge:∀ (ls ks:List Nat),(ks++ls).Nodup→mergeK (cby ks fun _=>none) (cby ls fun _=>none)=cby (ks++ls) fun _=>none
  | [],ks,_=>by rw [List.append_nil];rfl
  | x :: ls,ks,nd=>by
    show mergeK (putK (cby ks fun _=>none) (Sum.inl (x:Int):Key) .non) (cby ls fun _=>none)=_
    have hx:ks.contains x=false:=by
      cases q:ks.contains x with
      | false=>rfl
      | true =>
        have:=(List.nodup_append.mp nd).2.2 x (List.contains_iff_mem.mp q) x List.mem_cons_self
        exact absurd rfl this
    have e:putK (cby ks fun _=>none) (Sum.inl (x:Int):Key) .non=cby (ks++[x]) fun _=>none:=by
      unfold putK
      rw [valV_any,cby_val,hx]
      show cby ks _++_=_
      unfold cby
      rw [List.map_append]
      rfl
    rw [e,cby_merge ls (ks++[x]) (by rw [List.append_assoc];exact nd),List.append_assoc]
    rfl
theorem cget {H:Hp} {a:Addr} {ks:List Nat} {par:Nat→Option Nat} {x:Nat} (h:H a=some (.dK (cby ks par))):DGet H a (.int (x:Int)) (if ks.contains x=true then some (oV (par x)) else none):=by
  have:=DGet.k (k:=(Sum.inl (x:Int):Key)) h
  rw [cby_val] at this
  exact this
theorem paired_non {H:Hp} {K:PySem.W.Frag}:∀ {ps:List Addr} {ks:List Nat},ps.length=ks.length→(∀ (i:Nat) (p:Addr) (x:Nat),ps[i]?=some p→ks[i]?=some x→SqT K H p [.int (x:Int),.non])→Paired (fun p (kv:Key × V)=>SqT K H p [kV kv.1,kv.2]) ps (cby ks fun _=>none)
  | [],[],_,_=>.nil
  | p :: ps,x :: ks,hl,h=>.cons (h 0 p x rfl rfl) (paired_non (by simpa using hl) fun i q y h1 h2=>h (i + 1) q y (by simpa using h1) (by simpa using h2))
  | [],_ :: _,hl,_=>by simp at hl
  | _ :: _,[],hl,_=>by simp at hl
structure SeAt (H0 H:Hp) (C W:Addr) (ws:List Nat) (par:Nat→Option Nat):Prop where
  sm:Same H0 H
  cl:H C=some (.dK (cby ws par))
  wl:H W=some (.lst (nis ws))
  nC:H0 C=none
  nW:H0 W=none
  CW:C≠W
theorem SeAt.add {H0 H:Hp} {C W:Addr} {ws:List Nat} {par:Nat→Option Nat} (A:SeAt H0 H C W ws par) {y:Nat} {par':Nat→Option Nat}:SeAt H0 (upd (upd H C (.dK (cby (ws++[y]) par'))) W (.lst (nis ws++[V.int (y:Int)]))) C W (ws++[y]) par' :=
  ⟨(A.sm.wr A.nC).wr A.nW,by rw [upd_ne A.CW];exact upd_same,by rw [upd_same,nis_append];rfl,A.nC,A.nW,A.CW⟩
theorem isNon (v:Option Nat):(!decide (oV v=V.non))=v.isSome:=by
  cases v with
  | none=>rfl
  | some a=>rw [decide_eq_false (fun z=>by cases z)];rfl
theorem isSome_ite (c:Bool) (v:V):(!(if c=true then some v else none).isSome)=!c:=by cases c <;> rfl
theorem and_tail {c1 c2:Bool} {A C:Prop} (tail:(c1 && c2)=false→C) (main:c1=true→((c1 && c2)=false→C)→A):if c1=true then A else C:=by
  cases c1 with
  | true=>exact iteT (main rfl tail)
  | false=>exact iteF (tail rfl)
theorem of_iteF {A B:Prop} (h:if false=true then A else B):B:=by
  rwa [if_neg Bool.false_ne_true] at h
section
variable {P:Program} {w:World} {K:PySem.W.Frag} {mg:Str→Option Value} {base:Heap} {T:Ad}
def sp_Flow_arcs_with_room (K:PySem.W.Frag) (T:Ad):Sp:=fun vs H Q _=>∃ f sa H0 G es R,∃ n e:Nat,∃ ss,vs=[.ref f,.ref sa,.int (e:Int)]∧FlowAt T H0 H f G es R n∧es.length≤200∧n≤48∧SqL K H sa (nis ss)∧ss.Nodup∧(∀ x∈ss,x < n)∧e ∉ ss ∧
  ∀ H' p ps,Same H H'→H p=none→H' p=some (.lst (nis ps))→Th.Found es ss e R ps→ps.length≤48→Q (.ref p) H'
theorem ok_Flow_arcs_with_room (Y:Tx K mg T):FnOk P w K mg base CX0 1 T.f_Flow_arcs_with_room T.d_Flow_arcs_with_room ["self","starts","end"] (sp_Flow_arcs_with_room K T):=by
  refine Y.F_Flow_arcs_with_room.ok sc_Flow_arcs_with_room (fun vs H Q E h=>?_) (fun cdv A outer s H vs Q E hr h=>?_)
  · obtain ⟨f,sa,H0,G,es,R,n,e,ss,rfl,_⟩:=h
    rfl
  · obtain ⟨f,sa,H0,G,es,R,n,e,ss,rfl,F,hes,hn,hsa,hnd,hss,hess,k⟩:=h
    have nd:=sc_Flow_arcs_with_room.nd
    have hu:=hu_of hr
    refine' ⟨_,?d,?rd⟩
    case d =>
      refine' pss_cons ?s1 (pss_cons ?s2 (pss_cons ?s3 (pss_cons ?s4 (pss_cons ?s5 (pss_cons ?s6 (pss_cons ?s7 (pss_one ?s8)))))))
      case s1 =>
        refine' ps_set (i:=3) nd rfl (Or.inl rfl) (pe_callTy (call_dictP rfl) (by rfl) Y.b_dict (by decide +kernel) (pa_cons (pe_lc (own:=[("start",9)]) (te:=tTup (tCons (tVar 9) (tCons (tC .non) tNil))) (tt:=tYes) (g:=gName 9) rfl nd (pi_list (pv 1)) ?b ?g ?t ?e) pa_nil))
        case b=>exact blkOk_by (by show blkC n_Flow_arcs_with_room (defScope s_Flow_arcs_with_room) _ _=true;decide +kernel)
        case g=>intro _ _ _ _ _;exact pg_name (i:=9) nd rfl (Or.inl rfl)
        case t=>intro _ _ _ _ _;exact pts_nil
        case e=>intro _ _ _ _ _;exact pe_tup (pa_cons (pv 9) (pa_cons pe_non pa_nil))
      case s2=>exact ps_set (i:=4) nd rfl (Or.inl rfl) (pe_callTy call_list_of (by rfl) Y.b_list (by decide +kernel) (pa_cons (pv 1) pa_nil))
      case s3=>exact ps_set (i:=5) nd rfl (Or.inl rfl) pe_int
      case s4 =>
        exact (ps_while PassesOwn.never (PW.pt (pw_and (pt_cmpR op_lt (pv 5) (pe_callB call_len_seq (by rfl) Y.b_len PySem.boot_len (pa_cons (pv 4) pa_nil)) (nomark _)) (pw_and1 (pt_cmp (pc_dnotin hu (pv 2) (pv 3))))))
          (pss_cons (ps_for PassesOwn.never rfl (pi_list (pe_ix ix_list (pe_fld (pv 0) rfl) (pe_ix ix_list (pv 4) (pv 5) (fun _ _=>rfl)) (fun _ _=>rfl))) (pg_name (i:=7) nd rfl (Or.inl rfl))
            (pss_cons (ps_set (i:=8) nd rfl (Or.inl rfl) (pe_ix ix_list (pe_fld (pv 0) rfl) (pv 7) (fun _ _=>rfl)))
            (pss_one (ps_if (PW.pt (pw_and (pt_cmpR op_gt (pe_ix ix_list (pe_fld (pv 0) rfl) (pv 7) (fun _ _=>rfl)) pe_int (nomark _)) (pw_and1 (pt_cmp (pc_dnotin hu (pv 8) (pv 3))))))
              (pss_cons (ps_dput hu (pv 3) (pv 8) (pv 7) rfl)
              (pss_one (ps_expr (pe_bm PySem.F.plainAttrs_list PySem.F.slot_list_append PySem.F.type_list_append mt_append (pv 4) (pa_cons (pv 8) pa_nil)))))
              pss_nil))))
          (pss_one (ps_set (i:=5) nd rfl (Or.inl rfl) (pe_op op_add (pv 5) pe_int)))))
      case s5=>exact ps_set (i:=6) nd rfl (Or.inl rfl) (pe_lst pa_nil)
      case s6=>exact ps_set (i:=7) nd rfl (Or.inl rfl) (pe_dget1 hu (pv 3) (pv 2) ⟨rfl,rfl,rfl,rfl⟩)
      case s7 =>
        exact (ps_while PassesOwn.never (pt_cmpR op_notN (pv 7) pe_non (nomark _))
          (pss_cons (ps_expr (pe_bm PySem.F.plainAttrs_list PySem.F.slot_list_append PySem.F.type_list_append mt_append (pv 6) (pa_cons (pv 7) pa_nil)))
          (pss_one (ps_set (i:=7) nd rfl (Or.inl rfl) (pe_dget hu (pv 3) (pe_ix ix_list (pe_fld (pv 0) rfl) (pe_op op_xor (pv 7) pe_int) (fun _ _=>rfl)) (fun _ _=>rfl))))))
      case s8=>exact ps_ret (pv 6)
    case rd =>
      have hsl:ss.length≤n:=Th.nodup_len hnd hss
      have sz48:∀ m,m≤48→m < sizeLine:=fun m h=>Nat.lt_of_le_of_lt h (by decide)
      refine ⟨_,rfl,sa,rfl,⟨_,hsa⟩,fun L hL=>?_⟩
      refine lc_list (K:=K) (a:=sa) (xs:=nis ss) (fun i H'=>∃ ps:List Addr,ps.length=i∧Same H H'∧H' L=some (.lst (ps.map V.ref))∧∀ (m:Nat) (p:Addr) (x:Nat),ps[m]?=some p→ss[m]?=some x→H' p=some (.tup [.int (x:Int),.non]))
        ⟨[],rfl,Same.lay hL,upd_same,fun n p x h=>by simp at h⟩ (fun i H' _ ⟨_,_,s2,_⟩=>s2.seq hsa) ?_ ?_
      · rintro i v H' hv ⟨ps,hpl,s2,hLl,hps⟩
        obtain ⟨x,hx,rfl⟩:=nis_get hv
        have hi:i < ss.length:=(List.getElem?_eq_some_iff.mp hx).1
        refine ⟨rfl,?_⟩
        dsimp only [tYes]
        refine iteT ⟨_,rfl,by show 2≤sizeLine;decide,fun p hp=>?_⟩
        have s3:Same H' (upd H' p (.tup [.int (x:Int),.non])):=Same.lay hp
        refine ⟨_,s3 _ _ hLl,by rw [List.length_map,hpl];exact sz48 _ (by omega),ps++[p],by rw [List.length_append,hpl];rfl,(s2.trans s3).wr hL,by rw [upd_same,List.map_append];rfl,fun m q y hq hy=>?_⟩
        have hpL:p≠L:=fun e=>by rw [e] at hp;rw [hLl] at hp;cases hp
        by_cases hn':m < ps.length
        · rw [List.getElem?_append_left hn'] at hq
          have h1:=hps m q y hq hy
          have hqL:q≠L:=fun e=>by rw [e,hLl] at h1;cases h1
          rw [upd_ne hqL]
          exact s3 _ _ h1
        · rw [List.getElem?_append_right (by omega)] at hq
          have hlt:=(List.getElem?_eq_some_iff.mp hq).1
          simp at hlt
          have en:m=i:=by omega
          subst en
          have:q=p:=by
            rw [hpl,Nat.sub_self] at hq
            exact (Option.some.inj hq).symm
          subst this
          have:y=x:=Option.some.inj (hy.symm.trans hx)
          subst this
          rw [upd_ne hpL,upd_same]
      rintro H2 ⟨ps,hpl,s2,hLl,hps⟩
      rw [nis_len] at hpl
      refine ⟨L,ps,cby ss fun _=>none,rfl,SqL.of hLl,paired_non hpl fun i p x h1 h2=>SqT.of (hps i p x h1 h2),fun C hC=>?_⟩
      have em:mergeK [] (cby ss fun _=>none)=cby ss fun _=>none:=cby_merge ss [] hnd
      rw [em]
      have s3:Same H2 (upd H2 C (.dK (cby ss fun _=>none))):=Same.lay hC
      refine ⟨_,rfl,sa,_,rfl,.inl ((s2.trans s3).seq hsa),fun W hW=>?_⟩
      have s4:Same (upd H2 C (.dK (cby ss fun _=>none))) (upd (upd H2 C (.dK (cby ss fun _=>none))) W (.lst (nis ss))):=Same.lay hW
      have B0:SeAt H (upd (upd H2 C (.dK (cby ss fun _=>none))) W (.lst (nis ss))) C W ss (fun _=>none) :=
        ⟨(s2.trans s3).trans s4,s4 _ _ upd_same,upd_same,s2.free hC,(s2.trans s3).free hW,ne_of_none upd_same hW⟩
      have B0':=B0
      generalize (upd (upd H2 C (.dK (cby ss fun _=>none))) W (.lst (nis ss)))=H3 at B0
      refine ⟨fun m σ H'=>∃ ws,∃ pl:Nat,∃ par ar hd,σ=[some (.ref f),some (.ref sa),some (.int (e:Int)),some (.ref C),some (.ref W),some (.int (pl:Int)),none,ar,hd,none]∧SeAt H H' C W ws par∧Th.Tree es ss R ws pl par∧(∀ x∈ws,x < n)∧pl≤ws.length∧m=49 - pl,
        ⟨_,ss,0,_,none,none,rfl,B0,Th.Tree.begin hnd fun _ _=>rfl,hss,Nat.zero_le _,rfl⟩,?_⟩
      rintro m σ H' ⟨ws,pl,par,ar,hd,rfl,B,t,hws,hpl2,rfl⟩
      have F':=F.same B.sm
      have hwl:ws.length≤n:=Th.nodup_len t.nd hws
      refine ⟨_,rfl,_,rfl,W,_,rfl,.inl (SqL.of B.wl),_,_,rfl,rfl,_,rfl,?_⟩
      rw [nis_len]
      refine and_tail (c2:=!ws.contains e) (fun hf=>iteF ?_) (fun h1 tl=>⟨_,rfl,_,rfl,C,_,rfl,cget B.cl,_,rfl,?_⟩)
      · -- arcs=[];arc=came_by.get(end)
        refine ⟨Nat.zero_le _,fun Ar hAr=>?_⟩
        have s5:Same H' (upd H' Ar (.lst [])):=Same.lay hAr
        have hC5:=s5 _ _ B.cl
        refine ⟨_,rfl,C,rfl,.inl ⟨_,.inl hC5⟩,_,rfl,_,cget hC5,?_⟩
        have hArH:H Ar=none:=B.sm.free hAr
        have hCA:C≠Ar:=ne_of_none B.cl hAr
        have F5:=F'.same s5
        have hend:ws.length≤pl∨e∈ws:=by
          rw [Bool.and_eq_false_iff] at hf
          rcases hf with q | q
          · left
            have:=of_decide_eq_false q
            omega
          · right
            exact List.contains_iff_mem.mp (by simpa using q)
        have start:∃ i o,((if ws.contains e=true then some (oV (par e)) else none).getD V.non=oV o)∧i < 48∧((o=none∧Th.Found es ss e R [])∨∃ x,Th.Back es R ws e [] i x∧o=par x):=by
          by_cases he:e∈ws
          · obtain ⟨i,hi⟩:=List.getElem?_of_mem he
            have hlt:=(List.getElem?_eq_some_iff.mp hi).1
            refine ⟨i,par e,by rw [if_pos (List.contains_iff_mem.mpr he)];rfl,by omega,.inr ⟨e,⟨hi,rfl,List.nodup_nil,fun a ha=>nomatch ha⟩,rfl⟩⟩
          · have hle:ws.length≤pl:=hend.resolve_right he
            refine ⟨0,none,?_,by omega,.inl ⟨rfl,t.none hle he⟩⟩
            rw [if_neg (fun q=>he (List.contains_iff_mem.mp q))]
            rfl
        obtain ⟨i0,o0,e0,hi0,st0⟩:=start
        rw [e0]
        refine ⟨fun m σ H1=>∃ ps i o,σ=[some (.ref f),some (.ref sa),some (.int (e:Int)),some (.ref C),some (.ref W),some (.int (pl:Int)),some (.ref Ar),some (oV o),hd,none]∧Same H H1∧H1 Ar=some (.lst (nis ps))∧H1 C=some (.dK (cby ws par))∧FlowAt T H0 H1 f G es R n∧ps.length + i < 48∧((o=none∧Th.Found es ss e R ps)∨∃ x,Th.Back es R ws e ps i x∧o=par x)∧m=i,
          ⟨i0,[],i0,o0,rfl,B.sm.trans s5,upd_same,hC5,F5,by show 0 + i0 < 48;omega,st0,rfl⟩,?_⟩
        rintro i σ H1 ⟨ps,_,o,rfl,s6,hA6,hC6,F6,hlen,hst,rfl⟩
        refine ⟨_,rfl,rfl,_,rfl,?_⟩
        rw [isNon]
        cases o with
        | none =>
          refine iteF ⟨_,rfl,?_⟩
          refine k H1 Ar ps s6 hArH hA6 ?_ (by omega)
          rcases hst with ⟨_,hfo⟩ | ⟨x,b,hp⟩
          · exact hfo
          · refine .inl ⟨fun e0=>?_,b.done t hp.symm,b.nd,fun a ha=>⟨(b.ok a ha).1,(b.ok a ha).2.1⟩⟩
            subst e0
            have hxe:e=x:=b.seg
            subst hxe
            rcases t.up i e b.at_ with q | ⟨a,j,q,_⟩
            · exact hess q.2
            · rw [← hp] at q;cases q
        | some a =>
          rcases hst with ⟨q,_⟩ | ⟨x,b,hp⟩
          · cases q
          · obtain ⟨ha,j,hj,b2⟩:=b.go t hp.symm
            have hta:=Th.tw_lt ha
            refine iteT ⟨fun σ' H'=>∃ m',m' < i∧∃ ps i o,σ'=[some (.ref f),some (.ref sa),some (.int (e:Int)),some (.ref C),some (.ref W),some (.int (pl:Int)),some (.ref Ar),some (oV o),hd,none]∧Same H H'∧H' Ar=some (.lst (nis ps))∧H' C=some (.dK (cby ws par))∧FlowAt T H0 H' f G es R n∧ps.length + i < 48∧((o=none∧Th.Found es ss e R ps)∨∃ x,Th.Back es R ws e ps i x∧o=par x)∧m'=i,fun _ _ z=>z,?_⟩
            refine ⟨_,rfl,.inl ⟨rfl,_,SqL.of hA6⟩,_,rfl,Ar,_,_,rfl,rfl,hA6,by rw [nis_len];exact sz48 _ (by omega),?_⟩
            have s7:Same H (upd H1 Ar (.lst (nis ps++[oV (some a)]))):=s6.wr hArH
            have hC7:(upd H1 Ar (.lst (nis ps++[oV (some a)]))) C=some (.dK (cby ws par)):=by rw [upd_ne hCA];exact hC6
            have F7:FlowAt T H0 (upd H1 Ar (.lst (nis ps++[oV (some a)]))) f G es R n:=F.same s7
            have hx2:=b2.at_
            have hcx:ws.contains (Th.hdOf es (Th.tw a))=true:=List.contains_iff_mem.mpr (List.mem_of_getElem? hx2)
            refine ⟨_,rfl,_,rfl,f,T.c_Flow,_,_,_,rfl,F7.obj,Y.cl_Flow,Y.na_Flow_heads,ff_heads _ _ _,_,rfl,_,_,rfl,rfl,G.hh,_,_,_,rfl,rfl,SqL.of F7.hl,at_of (j:=Th.tw a) (v:=.int (Th.hdOf es (Th.tw a):Int)) (xor_tw a) (by unfold nis;rw [List.getElem?_map,Th.hds_get hta];rfl),C,oV (par (Th.hdOf es (Th.tw a))),rfl,?_,?_⟩
            · have:=cget (x:=Th.hdOf es (Th.tw a)) hC7
              rw [if_pos hcx] at this
              exact this
            · refine ⟨j,hj,ps++[a],j,_,rfl,s7,by rw [upd_same,nis_append];rfl,hC7,F7,by rw [List.length_append,List.length_singleton];omega,.inr ⟨_,b2,rfl⟩,rfl⟩
      · -- one more is looked at
        have hpl3:pl < ws.length:=by
          have:=of_decide_eq_true h1
          omega
        rw [isSome_ite]
        cases hce:ws.contains e with
        | true =>
          exact iteF (of_iteF (tl (by rw [hce,Bool.and_comm];rfl)))
        | false =>
          refine iteT ⟨fun σ' H'=>∃ m',m' < 49 - pl∧∃ ws,∃ pl:Nat,∃ par ar hd,σ'=[some (.ref f),some (.ref sa),some (.int (e:Int)),some (.ref C),some (.ref W),some (.int (pl:Int)),none,ar,hd,none]∧SeAt H H' C W ws par∧Th.Tree es ss R ws pl par∧(∀ x∈ws,x < n)∧pl≤ws.length∧m'=49 - pl,fun _ _ z=>z,?_⟩
          obtain ⟨x,hx⟩:∃ x,ws[pl]?=some x:=⟨_,List.getElem?_eq_getElem hpl3⟩
          have hxn:x < n:=hws x (List.mem_of_getElem? hx)
          obtain ⟨j,hj⟩:∃ j,G.js[x]?=some j:=⟨_,List.getElem?_eq_getElem (by rw [F.jl];exact hxn)⟩
          refine ⟨_,rfl,f,T.c_Flow,_,_,_,rfl,F'.obj,Y.cl_Flow,Y.na_Flow_leaving,ff_leaving _ _ _,_,rfl,_,rfl,W,_,_,_,rfl,rfl,SqL.of B.wl,at_of (j:=pl) (v:=.int (x:Int)) rfl (by unfold nis;rw [List.getElem?_map,hx];rfl),
            G.lv,_,_,_,rfl,rfl,SqL.of F'.adj.lst,at_of (j:=x) (v:=V.ref j) rfl (by rw [List.getElem?_map,hj];rfl),j,rfl,⟨_,SqL.of (F'.adj.at_ _ _ hj)⟩,?_⟩
          refine for_list (K:=K) (a:=j) (xs:=nis (Th.lvOf es x)) (fun i σ H2=>∃ ws2 par2 ar hd,σ=[some (.ref f),some (.ref sa),some (.int (e:Int)),some (.ref C),some (.ref W),some (.int (pl:Int)),none,ar,hd,none]∧SeAt H H2 C W ws2 par2∧Th.Tree es ss R ws2 pl par2∧(∀ y∈ws2,y < n)∧ws2[pl]?=some x∧∀ a∈(Th.lvOf es x).take i,0 < R a→Th.hdOf es a∈ws2)
            ⟨ws,par,_,_,rfl,B,t,hws,hx,fun a ha=>by simp at ha⟩ (fun i σ H2 _ ⟨_,_,_,_,_,B2,_⟩=>SqL.of ((F.same B2.sm).adj.at_ _ _ hj)) ?_ ?_
          · rintro i v σ H2 hv ⟨ws2,par2,ar2,hd2,rfl,B2,t2,hws2,hx2,hdone⟩
            obtain ⟨a,ha,rfl⟩:=nis_get hv
            obtain ⟨ha1,ha2⟩:=Th.mem_lvOf.mp (List.mem_of_getElem? ha)
            have F2:=F.same B2.sm
            refine ⟨_,rfl,f,T.c_Flow,_,_,_,rfl,F2.obj,Y.cl_Flow,Y.na_Flow_heads,ff_heads _ _ _,_,rfl,G.hh,_,_,_,rfl,rfl,SqL.of F2.hl,at_of (j:=a) (v:=.int (Th.hdOf es a:Int)) rfl (by unfold nis;rw [List.getElem?_map,Th.hds_get ha1];rfl),?_⟩
            refine ⟨_,rfl,f,T.c_Flow,_,_,_,rfl,F2.obj,Y.cl_Flow,Y.na_Flow_room,ff_room _ _ _,_,rfl,G.rr,_,_,_,rfl,rfl,SqL.of F2.rl,at_of (j:=a) (v:=.int (R a:Int)) rfl (by unfold nis;rw [List.getElem?_map,Th.rms_get ha1];rfl),_,_,rfl,rfl,_,rfl,?_⟩
            refine and_tail (c2:=!ws2.contains (Th.hdOf es a)) (fun hf=>iteF ?_) (fun h1 tl=>⟨_,rfl,_,rfl,C,_,rfl,cget B2.cl,_,rfl,?_⟩)
            · refine ⟨ws2,par2,_,_,rfl,B2,t2,hws2,hx2,fun b hb hRb=>?_⟩
              rw [take_snoc ha] at hb
              rcases List.mem_append.mp hb with hb | hb
              · exact hdone b hb hRb
              · have:b=a:=by simpa using hb
                subst this
                rw [Bool.and_eq_false_iff] at hf
                rcases hf with q | q
                · have:=of_decide_eq_false q
                  omega
                · exact List.contains_iff_mem.mp (by simpa using q)
            · rw [isSome_ite]
              cases hch:ws2.contains (Th.hdOf es a) with
              | true =>
                exact iteF (of_iteF (tl (by rw [hch,Bool.and_comm];rfl)))
              | false =>
                have hRa:0 < R a:=by
                  have:=of_decide_eq_true h1
                  omega
                have hnw:Th.hdOf es a ∉ ws2:=fun q=>by rw [List.contains_iff_mem.mpr q] at hch;cases hch
                have hw2l:ws2.length≤n:=Th.nodup_len t2.nd hws2
                have hput:=DPut.k (k:=(Sum.inl (Th.hdOf es a:Int):Key)) (v:=.int (a:Int)) B2.cl (by rw [cby_len];exact sz48 _ (by omega))
                rw [cby_put hch] at hput
                refine iteT ⟨_,rfl,_,rfl,_,rfl,C,_,rfl,hput,?_⟩
                have hW3:(upd H2 C (.dK (cby (ws2++[Th.hdOf es a]) fun y=>if y=Th.hdOf es a then some a else par2 y))) W=some (.lst (nis ws2)):=by rw [upd_ne (Ne.symm B2.CW)];exact B2.wl
                refine ⟨_,rfl,.inl ⟨rfl,_,SqL.of hW3⟩,_,rfl,W,_,_,rfl,rfl,hW3,by rw [nis_len];exact sz48 _ (by omega),?_⟩
                refine ⟨ws2++[Th.hdOf es a],_,_,_,rfl,B2.add,t2.add ha1 hRa (by rw [ha2];exact hx2) hnw,fun y hy=>?_,Th.get_left hx2,fun b hb hRb=>?_⟩
                · rcases List.mem_append.mp hy with hy | hy
                  · exact hws2 y hy
                  · rw [List.mem_singleton.mp hy];exact F.arcs.hd ha1
                · rw [take_snoc ha] at hb
                  rcases List.mem_append.mp hb with hb | hb
                  · exact List.mem_append_left _ (hdone b hb hRb)
                  · have:b=a:=by simpa using hb
                    subst this
                    exact List.mem_append_right _ (List.mem_singleton.mpr rfl)
          · rintro σ H2 ⟨ws2,par2,ar2,hd2,rfl,B2,t2,hws2,hx2,hdone⟩
            rw [nis_len,List.take_length] at hdone
            refine ⟨_,rfl,_,_,rfl,rfl,?_⟩
            have hlt2:=(List.getElem?_eq_some_iff.mp hx2).1
            have hw2l:ws2.length≤n:=Th.nodup_len t2.nd hws2
            dsimp only
            rw [show (pl:Int) + 1=((pl + 1:Nat):Int) by omega]
            exact ⟨49 - (pl + 1),by omega,ws2,pl + 1,par2,_,_,rfl,B2,t2.next hx2 fun a ha hta hRa=>hdone a (Th.mem_lvOf.mpr ⟨ha,hta⟩) hRa,hws2,hlt2,rfl⟩
end
end Sh
end
section
namespace Sh
open PySem PySem.Spec PyProof.Rows L2
open Vbsgad (State Node)
section
variable {P:Program} {w:World} {K:PySem.W.Frag} {mg:Str→Option Value} {base:Heap} {T:Ad}
def sp_Flow_push_along (K:PySem.W.Frag) (T:Ad):Sp:=fun vs H Q _=>∃ f aa H0 G es R,∃ n:Nat,∃ ps,vs=[.ref f,.ref aa]∧FlowAt T H0 H f G es R n∧es.length≤200∧H aa=some (.lst (nis ps))∧aa≠G.rr∧ps.length≤48∧ps≠[]∧ps.Nodup∧(∀ a∈ps,a < 2 * es.length∧0 < R a) ∧
  ∀ H',∀ k:Nat,0 < k→(∀ a∈ps,k≤R a)→FlowAt T H0 H' f G es (Th.pushAll R k ps) n→(∀ b o,H b=some o→b≠G.rr→H' b=some o)→Q (.int (k:Int)) H'
theorem ok_Flow_push_along (Y:Tx K mg T):FnOk P w K mg base CX0 1 T.f_Flow_push_along T.d_Flow_push_along ["self","arcs"] (sp_Flow_push_along K T):=by
  refine Y.F_Flow_push_along.ok sc_Flow_push_along (fun vs H Q E h=>?_) (fun cdv A outer s H vs Q E hr h=>?_)
  · obtain ⟨f,aa,H0,G,es,R,n,ps,rfl,_⟩:=h
    rfl
  · obtain ⟨f,aa,H0,G,es,R,n,ps,rfl,F,hes,haa,hne,hpl,hps,hpn,hok,k⟩:=h
    have nd:=sc_Flow_push_along.nd
    refine' ⟨_,?d,?rd⟩
    case d =>
      refine' pss_cons ?s1 (pss_cons ?s2 (pss_one (ps_ret (pv 2))))
      case s1 =>
        refine' ps_set (i:=2) nd rfl (Or.inl rfl) (pe_callB (cr_min rfl) (by rfl) Y.b_min (by decide +kernel) (pa_cons (pe_lc (own:=[("arc",3)]) (te:=tOp (rIxL K) (tFld K (tVar 0) "room") (tVar 3)) (tt:=tYes) (g:=gName 3) rfl nd (pi_list (pv 1)) ?b ?g ?t ?e) pa_nil))
        case b=>exact blkOk_by (by show blkC n_Flow_push_along (defScope s_Flow_push_along) _ _=true;decide +kernel)
        case g=>intro _ _ _ _ _;exact pg_name (i:=3) nd rfl (Or.inl rfl)
        case t=>intro _ _ _ _ _;exact pts_nil
        case e=>intro _ _ _ _ _;exact pe_ix ix_list (pe_fld (pv 0) rfl) (pv 3) (fun _ _=>rfl)
      case s2 =>
        exact ps_for PassesOwn.never rfl (pi_list (pv 1)) (pg_name (i:=3) nd rfl (Or.inl rfl))
          (pss_cons (ps_asg (pe_op op_sub (pe_ix ix_list (pe_fld (pv 0) rfl) (pv 3) (fun _ _=>rfl)) (pv 2)) (pg_sub (pe_fld (pv 0) rfl) (pv 3) set_list))
          (pss_one (ps_asg (pe_op op_add (pe_ix ix_list (pe_fld (pv 0) rfl) (pe_op op_xor (pv 3) pe_int) (fun _ _=>rfl)) (pv 2)) (pg_sub (pe_fld (pv 0) rfl) (pe_op op_xor (pv 3) pe_int) set_list))))
    case rd =>
      have sz48:∀ m,m≤48→m < sizeLine:=fun m h=>Nat.lt_of_le_of_lt h (by decide)
      refine ⟨_,rfl,aa,rfl,⟨_,SqL.of haa⟩,fun L hL=>?_⟩
      refine lc_list (K:=K) (a:=aa) (xs:=nis ps) (fun i H'=>Same H H'∧H' L=some (.lst (nis ((ps.take i).map R)))) ⟨Same.lay hL,upd_same⟩ (fun i H' _ ⟨s2,_⟩=>SqL.of (s2 _ _ haa)) ?_ ?_
      · rintro i v H' hv ⟨s2,hLl⟩
        obtain ⟨a,ha,rfl⟩:=nis_get hv
        have hi:i < ps.length:=(List.getElem?_eq_some_iff.mp ha).1
        have ha1:=(hok a (List.mem_of_getElem? ha)).1
        have F2:=F.same s2
        refine ⟨rfl,?_⟩
        dsimp only [tYes]
        refine iteT ⟨_,rfl,f,T.c_Flow,_,_,_,rfl,F2.obj,Y.cl_Flow,Y.na_Flow_room,ff_room _ _ _,_,rfl,G.rr,_,_,_,rfl,rfl,SqL.of F2.rl,at_of (j:=a) (v:=.int (R a:Int)) rfl (by unfold nis;rw [List.getElem?_map,Th.rms_get ha1];rfl),
          _,hLl,by rw [nis_len,List.length_map,List.length_take];exact sz48 _ (by omega),s2.wr hL,?_⟩
        rw [upd_same,take_snoc ha,List.map_append,nis_append]
        rfl
      rintro H1 ⟨s1,hLl⟩
      rw [nis_len,List.take_length] at hLl
      refine ⟨L,(ps.map R).map fun (x:Nat)=>(x:Int),rfl,SqL.of (by rw [hLl,zis_nis];rfl),by rw [List.length_map,List.length_map];exact List.length_pos_iff.mpr hps,fun m hm hmin=>?_⟩
      obtain ⟨kk,hkk,rfl⟩:=List.mem_map.mp hm
      obtain ⟨a0,ha0,rfl⟩:=List.mem_map.mp hkk
      have hk0:0 < R a0:=(hok a0 ha0).2
      have hkm:∀ a∈ps,R a0≤R a:=fun a ha=>by
        have:=hmin (R a:Int) (List.mem_map.mpr ⟨R a,List.mem_map.mpr ⟨a,ha,rfl⟩,rfl⟩)
        omega
      refine ⟨_,rfl,aa,rfl,⟨_,SqL.of (s1 _ _ haa)⟩,?_⟩
      refine for_list (K:=K) (a:=aa) (xs:=nis ps) (fun i σ H'=>∃ ar,σ=[some (.ref f),some (.ref aa),some (.int (R a0:Int)),ar]∧FlowAt T H0 H' f G es (Th.pushAll R (R a0) (ps.take i)) n∧∀ b o,H b=some o→b≠G.rr→H' b=some o)
        ⟨_,rfl,F.same s1,fun b o e _=>s1 _ _ e⟩ (fun i σ H' _ ⟨_,_,_,fr⟩=>SqL.of (fr _ _ haa hne)) ?_ ?_
      · rintro i v σ H2 hv ⟨ar,rfl,F2,fr2⟩
        obtain ⟨a,ha,rfl⟩:=nis_get hv
        have hm:=List.mem_of_getElem? ha
        have hi:i < ps.length:=(List.getElem?_eq_some_iff.mp ha).1
        have ha1:=(hok a hm).1
        have hta:=Th.tw_lt ha1
        have hnot:a ∉ ps.take i:=fun q=>by
          obtain ⟨j,hj⟩:=List.getElem?_of_mem q
          have hji:j < i:=by
            have:=(List.getElem?_eq_some_iff.mp hj).1
            rw [List.length_take] at this
            omega
          rw [List.getElem?_take_of_lt hji] at hj
          have:=Th.ix_eq hpn hj ha
          omega
        have hge:R a≤Th.pushAll R (R a0) (ps.take i) a:=Th.pushAll_ge _ _ hnot
        have hk2:R a0≤Th.pushAll R (R a0) (ps.take i) a:=Nat.le_trans (hkm a hm) hge
        have eR:Th.pushAll R (R a0) (ps.take (i + 1))=Th.push1 (Th.pushAll R (R a0) (ps.take i)) (R a0) a:=by rw [take_snoc ha,Th.pushAll_snoc]
        generalize Th.pushAll R (R a0) (ps.take i)=R1 at F2 hk2 eR hge
        refine ⟨_,rfl,f,T.c_Flow,_,_,_,rfl,F2.obj,Y.cl_Flow,Y.na_Flow_room,ff_room _ _ _,_,rfl,G.rr,_,_,_,rfl,rfl,SqL.of F2.rl,at_of (j:=a) (v:=.int (R1 a:Int)) rfl (by unfold nis;rw [List.getElem?_map,Th.rms_get ha1];rfl),_,rfl,_,_,rfl,rfl,
          _,rfl,f,T.c_Flow,_,_,_,rfl,F2.obj,Y.cl_Flow,Y.na_Flow_room,ff_room _ _ _,_,rfl,G.rr,_,_,a,rfl,rfl,F2.rl,by rw [nis_len,Th.rms_len];exact ixN_nat ha1,?_⟩
        dsimp only
        rw [show (R1 a:Int) - (R a0:Int)=((R1 a - R a0:Nat):Int) by omega,nis_set,Th.rms_set]
        have F3:=F2.setR (R':=fun b=>if b=a then R1 a - R a0 else R1 b)
        have fr3:∀ b o,H b=some o→b≠G.rr→(upd H2 G.rr (.lst (nis (Th.rms (fun b=>if b=a then R1 a - R a0 else R1 b) es.length)))) b=some o:=fun b o e hb=>by rw [upd_ne hb];exact fr2 b o e hb
        generalize upd H2 G.rr (.lst (nis (Th.rms (fun b=>if b=a then R1 a - R a0 else R1 b) es.length)))=H3 at F3 fr3 ⊢
        have htv:(fun b=>if b=a then R1 a - R a0 else R1 b) (Th.tw a)=R1 (Th.tw a):=if_neg (Th.tw_ne a)
        refine ⟨_,rfl,f,T.c_Flow,_,_,_,rfl,F3.obj,Y.cl_Flow,Y.na_Flow_room,ff_room _ _ _,_,rfl,_,_,rfl,rfl,G.rr,_,_,_,rfl,rfl,SqL.of F3.rl,at_of (j:=Th.tw a) (v:=.int (R1 (Th.tw a):Int)) (xor_tw a) (by unfold nis;rw [List.getElem?_map,Th.rms_get hta];exact congrArg (fun (z:Nat)=>some (V.int (z:Int))) htv),_,rfl,_,_,rfl,rfl,
          _,rfl,f,T.c_Flow,_,_,_,rfl,F3.obj,Y.cl_Flow,Y.na_Flow_room,ff_room _ _ _,_,rfl,_,_,rfl,rfl,G.rr,_,_,Th.tw a,rfl,rfl,F3.rl,by rw [xor_tw,nis_len,Th.rms_len];exact ixN_nat hta,?_⟩
        dsimp only
        rw [show (R1 (Th.tw a):Int) + (R a0:Int)=((R1 (Th.tw a) + R a0:Nat):Int) by omega,nis_set,Th.rms_set]
        refine ⟨_,rfl,?_,fun b o e hb=>by rw [upd_ne hb];exact fr3 b o e hb⟩
        rw [eR]
        have e4:(fun b=>if b=Th.tw a then R1 (Th.tw a) + R a0 else (fun b=>if b=a then R1 a - R a0 else R1 b) b)=Th.push1 R1 (R a0) a:=by
          funext b
          unfold Th.push1
          by_cases q:b=Th.tw a
          · rw [if_pos q,if_pos q,q]
          · rw [if_neg q,if_neg q]
            by_cases q2:b=a
            · rw [if_pos q2];dsimp only;rw [if_pos q2,q2]
            · rw [if_neg q2];dsimp only;rw [if_neg q2]
        rw [← e4]
        exact F3.setR
      · rintro σ H2 ⟨ar,rfl,F2,fr2⟩
        rw [nis_len,List.take_length] at F2
        exact ⟨_,rfl,k H2 (R a0) hk0 hkm F2 fr2⟩
def sp_Flow_most (K:PySem.W.Frag) (T:Ad):Sp:=fun vs H Q _=>∃ f sa H0 G es,∃ n e:Nat,∃ ss,vs=[.ref f,.ref sa,.int (e:Int)]∧FlowAt T H0 H f G es (Th.R0 es) n∧es.length≤200∧n≤48∧H sa=some (.lst (nis ss))∧sa≠G.rr∧ss.Nodup∧(∀ x∈ss,x < n)∧e ∉ ss ∧
  (∀ R v,Th.Runs es ss e R v→v≤96)∧∀ H' R,∀ v:Nat,Th.Runs es ss e R v→Th.Found es ss e R []→Same H0 H'→Q (.int (v:Int)) H'
theorem ok_Flow_most (Y:Tx K mg T):FnOk P w K mg base CX0 2 T.f_Flow_most T.d_Flow_most ["self","starts","end"] (sp_Flow_most K T):=by
  have G1:=ok_Flow_arcs_with_room (P:=P) (w:=w) (base:=base) Y
  have G2:=ok_Flow_push_along (P:=P) (w:=w) (base:=base) Y
  refine Y.F_Flow_most.ok sc_Flow_most (fun vs H Q E h=>?_) (fun cdv A outer s H vs Q E hr h=>?_)
  · obtain ⟨f,sa,H0,G,es,n,e,ss,rfl,_⟩:=h
    rfl
  · obtain ⟨f,sa,H0,G,es,n,e,ss,rfl,F,hes,hn,hsa,hne,hnd,hss,hess,hB,k⟩:=h
    have nd:=sc_Flow_most.nd
    refine ⟨_,pss_cons (ps_set (i:=3) nd rfl (Or.inl rfl) pe_int)
      (pss_cons (ps_set (i:=4) nd rfl (Or.inl rfl) (pe_meth (pv 0) Y.cl_Flow Y.M_Flow_arcs_with_room G1 hr Y.B_Flow_arcs_with_room .nil pass0 (pa_cons (pv 1) (pa_cons (pv 2) pa_nil))))
      (pss_cons (ps_while PassesOwn.never (pt_truth (pv 4) (fun _=>rfl))
        (pss_cons (ps_set (i:=3) nd rfl (Or.inl rfl) (pe_op op_add (pv 3) (pe_meth (pv 0) Y.cl_Flow Y.M_Flow_push_along G2 hr Y.B_Flow_push_along .nil pass0 (pa_cons (pv 4) pa_nil))))
        (pss_one (ps_set (i:=4) nd rfl (Or.inl rfl) (pe_meth (pv 0) Y.cl_Flow Y.M_Flow_arcs_with_room G1 hr Y.B_Flow_arcs_with_room .nil pass0 (pa_cons (pv 1) (pa_cons (pv 2) pa_nil)))))))
      (pss_one (ps_ret (pv 3))))),?_⟩
    have none1:∀ lv hh rr,(ff lv hh rr).lookup ("arcs_with_room":Str)=none:=fun lv hh rr=>ff_none lv hh rr (by decide +kernel) (by decide +kernel) (by decide +kernel)
    have none2:∀ lv hh rr,(ff lv hh rr).lookup ("push_along":Str)=none:=fun lv hh rr=>ff_none lv hh rr (by decide +kernel) (by decide +kernel) (by decide +kernel)
    refine ⟨_,rfl,f,_,_,rfl,F.obj,none1 _ _ _,_,rfl,_,rfl,f,sa,H0,G,es,_,n,e,ss,rfl,F,hes,hn,SqL.of hsa,hnd,hss,hess,fun H1 p ps s1 hp hl hfo hpl=>?_⟩
    refine ⟨fun m σ H'=>∃ R v a ps,σ=[some (.ref f),some (.ref sa),some (.int (e:Int)),some (.int ((v:Nat):Int)),some (.ref a)]∧FlowAt T H0 H' f G es R n∧Th.Runs es ss e R v∧H' a=some (.lst (nis ps))∧a≠G.rr∧Th.Found es ss e R ps∧ps.length≤48∧H' sa=some (.lst (nis ss))∧m=97 - v,
      ⟨_,_,0,p,ps,rfl,F.same s1,Th.runs0 es ss e,hl,fun q=>?_,hfo,hpl,s1 _ _ hsa,rfl⟩,?_⟩
    · rw [q,F.rl] at hp;cases hp
    rintro m σ H' ⟨R,v,a,ps,rfl,F2,hR,ha,har,hfo2,hpl2,hsa2,rfl⟩
    refine ⟨_,rfl,_,.inl ⟨_,SqL.of ha,rfl⟩,?_⟩
    by_cases hps:ps=[]
    · subst hps
      refine iteF ⟨_,rfl,?_⟩
      exact k H' R v hR hfo2 F2.sm
    · have hne1:(!(nis ps).isEmpty)=true:=by
        cases ps with
        | nil=>exact absurd rfl hps
        | cons=>rfl
      rw [hne1]
      obtain ⟨hw,hpn,hpo⟩:=hfo2.more hps
      refine iteT ⟨fun σ' H'=>∃ m',m' < 97 - v∧∃ R v a ps,σ'=[some (.ref f),some (.ref sa),some (.int (e:Int)),some (.int ((v:Nat):Int)),some (.ref a)]∧FlowAt T H0 H' f G es R n∧Th.Runs es ss e R v∧H' a=some (.lst (nis ps))∧a≠G.rr∧Th.Found es ss e R ps∧ps.length≤48∧H' sa=some (.lst (nis ss))∧m'=97 - v,fun _ _ z=>z,?_⟩
      refine ⟨_,rfl,_,rfl,f,_,_,rfl,F2.obj,none2 _ _ _,_,rfl,f,a,H0,G,es,R,n,ps,rfl,F2,hes,ha,har,hpl2,hps,hpn,hpo,fun H3 kk hk0 hkm F3 fr3=>?_⟩
      refine ⟨_,_,rfl,rfl,?_⟩
      have hR3:Th.Runs es ss e (Th.pushAll R kk ps) (v + kk):=hR.push hw (fun b hb=>⟨(hpo b hb).1,hkm b hb⟩) hpn
      have hB3:=hB _ _ hR3
      have hsa3:=fr3 _ _ hsa2 hne
      refine ⟨_,rfl,f,_,_,rfl,F3.obj,none1 _ _ _,_,rfl,_,rfl,f,sa,H0,G,es,_,n,e,ss,rfl,F3,hes,hn,SqL.of hsa3,hnd,hss,hess,fun H4 p4 ps4 s4 hp4 hl4 hfo4 hpl4=>?_⟩
      dsimp only
      rw [show (v:Int) + (kk:Int)=((v + kk:Nat):Int) by omega]
      refine ⟨97 - (v + kk),by omega,_,v + kk,p4,ps4,rfl,F3.same s4,hR3,hl4,fun q=>?_,hfo4,hpl4,s4 _ _ hsa3,rfl⟩
      rw [q,F3.rl] at hp4;cases hp4
end
end Sh
end
section
namespace L2
open PySem PySem.Spec PyProof.Rows
theorem for_enum {K:PySem.W.Frag} {a:Addr} {xs:List V} {g:TG} {tb:TS} {D:Ends} {σ:St} {H:Hp} (Pv:Nat→St→Hp→Prop) (h0:Pv 0 σ H) (hl:∀ i σ H,i≤xs.length→Pv i σ H→SqL K H a xs)
    (hs:∀ i x σ H T,xs[i]?=some x→Pv i σ H→H T=none→g (.ref T) σ (upd H T (.tup [.int (i:Nat),x])) fun σ2 H2=>tb { D with nx:=Pv (i + 1),ct:=Pv (i + 1),bk:=D.nx } σ2 H2) (hd:∀ σ H,Pv xs.length σ H→D.nx σ H) :
    ∃ W:Nat→Nat→St→Hp→Prop,(∃ m,W 0 m σ H)∧∀ i m σ H,W i m σ H →
      ((Ite K a).stop i H∧D.nx σ H)∨((Ite K a).go i H∧∃ N:St→Hp→Prop,(∀ σ' H',N σ' H'→∃ m',m' < m∧W (i + 1) m' σ' H')∧∀ x H',(Ite K a).yld i H x H'→g x σ H' fun σ2 H2=>tb { D with nx:=N,ct:=N,bk:=D.nx } σ2 H2):=by
  refine ⟨fun i m σ H=>m=xs.length - i∧i≤xs.length∧Pv i σ H,⟨xs.length,by simp,Nat.zero_le _,h0⟩,?_⟩
  rintro i m σ H ⟨rfl,hi,p⟩
  have q:=hl i σ H hi p
  by_cases hlt:i < xs.length
  · refine .inr ⟨⟨xs,xs[i],q,by simp [hlt]⟩,Pv (i + 1),fun σ' H' p'=>⟨xs.length - (i + 1),by omega,rfl,hlt,p'⟩,fun x H' y=>?_⟩
    obtain ⟨T,z,e1,e2,e3,y⟩:=y
    subst e1
    subst e3
    exact hs i z σ _ T (y xs q) p e2
  · have e:i=xs.length:=by omega
    subst e
    exact .inl ⟨⟨xs,q,Nat.le_refl _⟩,hd σ H p⟩
end L2
namespace Sh
open PySem PySem.Spec PyProof.Rows L2
open Vbsgad (State Node)
theorem ne_int (a b:Nat):(!decide (V.int (a:Int)=V.int (b:Int)))=(a != b):=by
  rw [dec_int]
  unfold bne
  congr 1
  apply Bool.eq_iff_iff.mpr
  simp
  omega
section
variable {P:Program} {w:World} {K:PySem.W.Frag} {mg:Str→Option Value} {base:Heap} {T:Ad}
def sp_stops_to_fill (T:Ad):Sp:=fun vs H Q _=>∃ net s g,∃ gl:Nat,vs=[.ref net,.int (gl:Int)]∧NetAt T H net s g ∧
  ∀ H' p,Same H H'→H p=none→H' p=some (.lst (nis (Vbsgad.fillables s gl)))→Q (.ref p) H'
theorem ok_stops_to_fill (Y:Tx K mg T):FnOk P w K mg base CX0 2 T.f_stops_to_fill T.d_stops_to_fill ["network","goal"] (sp_stops_to_fill T):=by
  have G1:=ok_Node_is_open_to_strangers (P:=P) (w:=w) (base:=base) Y
  refine Y.F_stops_to_fill.ok sc_stops_to_fill (fun vs H Q E h=>?_) (fun cdv A outer s H vs Q E hr h=>?_)
  · obtain ⟨net,s,g,gl,rfl,_⟩:=h
    rfl
  · obtain ⟨net,s,g,gl,rfl,N,k⟩:=h
    have nd:=sc_stops_to_fill.nd
    refine' ⟨_,?d,?rd⟩
    case d =>
      refine' pss_one (ps_ret (pe_lc (own:=[("stop",2),("node",3)]) (te:=tVar 2) (tt:=tAnd (tB (tMeth T.c_Node "is_open_to_strangers" (sp_Node_is_open_to_strangers T) [] E0 (tVar 3) tNil)) (tTest (tOp rNe (tVar 2) (tVar 1)))) (g:=gTup K 2 (gCons (gName 2) (gCons (gName 3) gNil))) rfl nd (pi_enum (by rfl) Y.b_enumerate (pa_cons (pe_fld (pv 0) rfl) pa_nil)) ?b ?g ?t ?e))
      case b=>exact blkOk_by (by show blkC n_stops_to_fill (defScope s_stops_to_fill) _ _=true;decide +kernel)
      case g=>intro _ _ _ _ _;exact pg_tup rfl (pgs_cons (pg_name (i:=2) nd rfl (Or.inl rfl)) (pgs_cons (pg_name (i:=3) nd rfl (Or.inl rfl)) pgs_nil))
      case t=>intro _ _ _ _ _;exact pts_one (PW.pt (pw_and (pt_val (pe_meth0 (pv 3) Y.cl_Node Y.M_Node_is_open_to_strangers G1 hr Y.B_Node_is_open_to_strangers .nil pass0)) (pw_and1 (pt_cmpR op_ne (pv 2) (pv 1) (nomark _)))))
      case e=>intro _ _ _ _ _;exact pv 2
    case rd =>
      refine ⟨_,rfl,net,T.c_Network,_,_,_,rfl,N.obj,Y.cl_Network,Y.na_Network_nodes,wf_nodes _ _,g.ln,_,rfl,SqL.of N.nl,fun D hD=>?_⟩
      refine lc_nodes N hD (fun a=>Vbsgad.fillable s a && a != gl) (fun _ _=>rfl) (fun _ _=>rfl) (fun i a H' hi s' ⟨dx,hN⟩ Q hQ=>?_) fun H2 s2 hl2=>k H2 D s2 hD hl2
      refine ⟨_,rfl,a,dx,_,rfl,hN,nf_none _ (by decide +kernel) (by decide +kernel) (by decide +kernel),a,_,rfl,⟨dx,hN⟩,_,rfl,?_⟩
      have e:((Vbsgad.nodeOf s i).halt_ && ((Vbsgad.nodeOf s i).free != 0 && !(Vbsgad.nodeOf s i).base))=Vbsgad.fillable s i:=rfl
      rw [e]
      have hQ':=hQ _ (Same.refl _)
      cases hf:Vbsgad.fillable s i with
      | false=>rw [hf] at hQ';exact iteF hQ'
      | true =>
        rw [hf] at hQ'
        refine iteT ⟨_,rfl,_,rfl,rfl,_,rfl,?_⟩
        rw [ne_int]
        exact hQ'
def sp_is_cut_off (T:Ad):Sp:=fun vs H Q _=>∃ net fa s g,∃ gl:Nat,∃ fs,vs=[.ref net,.int (gl:Int),.ref fa]∧NetAt T H net s g∧H fa=some (.lst (nis fs))∧fs.length≤1000 ∧
  ∀ H',Same H H'→Q (.bl (!(Th.comeB s (fs.filter fun b=>b != gl)).contains gl)) H'
theorem ok_is_cut_off (Y:Tx K mg T):FnOk P w K mg base CX0 4 T.f_is_cut_off T.d_is_cut_off ["network","goal","filled"] (sp_is_cut_off T):=by
  have G1:=ok_reached_nodes (P:=P) (w:=w) (base:=base) Y
  refine Y.F_is_cut_off.ok sc_is_cut_off (fun vs H Q E h=>?_) (fun cdv A outer s H vs Q E hr h=>?_)
  · obtain ⟨net,fa,s,g,gl,fs,rfl,_⟩:=h
    rfl
  · obtain ⟨net,fa,s,g,gl,fs,rfl,N,hfa,hfl,k⟩:=h
    have nd:=sc_is_cut_off.nd
    refine' ⟨_,?d,?rd⟩
    case d =>
      refine' pss_one (ps_ret (pe_cmpR op_notIn_seq (pv 1) (pe_call G1 hr (by rfl) Y.G_reached_nodes Y.F_reached_nodes.kp Y.B_reached_nodes .nil pass0 (pa_cons (pv 0) (pa_cons (pe_lc (own:=[("stop",3)]) (te:=tVar 3) (tt:=tTest (tOp rNe (tVar 3) (tVar 1))) (g:=gName 3) rfl nd (pi_list (pv 2)) ?b ?g ?t ?e) pa_nil))) (by with_unfolding_all rfl)))
      case b=>exact blkOk_by (by show blkC n_is_cut_off (defScope s_is_cut_off) _ _=true;decide +kernel)
      case g=>intro _ _ _ _ _;exact pg_name (i:=3) nd rfl (Or.inl rfl)
      case t=>intro _ _ _ _ _;exact pts_one (pt_cmpR op_ne (pv 3) (pv 1) (nomark _))
      case e=>intro _ _ _ _ _;exact pv 3
    case rd =>
      refine ⟨_,rfl,_,rfl,_,rfl,fa,rfl,⟨_,SqL.of hfa⟩,fun D hD=>?_⟩
      refine lc_filter (SqL.of hfa) (Nat.le_of_lt (Nat.lt_of_le_of_lt hfl (by decide))) hD (fun b=>b != gl) (fun _=>rfl) (fun _=>rfl) (fun i x H' hx s' Q hQ=>?_) fun H2 s2 hl2=>?_
      · refine ⟨_,rfl,_,rfl,rfl,_,rfl,?_⟩
        rw [ne_int]
        exact hQ _ (Same.refl _)
      refine ⟨net,D,s,g,_,rfl,N.same s2,hl2,?_,fun H3 p s3 hp hl3=>?_⟩
      · have:=List.length_filter_le (fun b=>b != gl) fs
        omega
      refine ⟨p,_,rfl,.inl (SqL.of hl3),rfl,flat_nis _,?_⟩
      have e1:(if true=true then !inV (.int (gl:Nat)) (nis (Th.comeB s (fs.filter fun b=>b != gl))) else inV (.int (gl:Nat)) (nis (Th.comeB s (fs.filter fun b=>b != gl))))=!(Th.comeB s (fs.filter fun b=>b != gl)).contains gl:=(if_pos rfl).trans (congrArg _ (inV_nis gl _))
      rw [e1]
      exact k H3 (s2.trans s3)
def sp_room_at (T:Ad):Sp:=fun vs H Q _=>∃ a x,vs=[.ref a]∧NodeAt T.c_Node H a x∧Q (.int (((if x.halt_=false∨x.base=true then 97 else x.free:Nat)):Int)) H
theorem ok_room_at (Y:Tx K mg T):FnOk P w K mg base CX0 1 T.f_room_at T.d_room_at ["node"] (sp_room_at T):=by
  refine Y.F_room_at.ok sc_room_at (fun vs H Q E h=>?_) (fun cdv A outer s H vs Q E hr h=>?_)
  · obtain ⟨a,x,rfl,_⟩:=h
    rfl
  · obtain ⟨a,x,rfl,⟨dx,ha⟩,k⟩:=h
    obtain ⟨t1,k1⟩:=Y.k_PLENTY
    refine ⟨_,pss_cons (ps_if (PW.pt (pw_or (pt_cmpR op_eq (pe_fld (pv 0) rfl) pe_int (nomark _)) (pw_or1 (pt_cmpR op_eq (pe_fld (pv 0) rfl) pe_int (nomark _))))) (pss_one (ps_ret (pe_k (by rfl) k1))) pss_nil)
      (pss_one (ps_ret (pe_fld (pv 0) rfl))),?_⟩
    refine ⟨_,rfl,a,T.c_Node,dx,_,_,rfl,ha,Y.cl_Node,Y.na_Node_stop,nf_stop x,rfl,_,rfl,?_⟩
    rw [bit_eq0]
    cases hh:x.halt_ with
    | false =>
      rw [hh,if_pos (.inl rfl)] at k
      exact iteT (iteT k)
    | true =>
      refine iteF ⟨_,rfl,a,T.c_Node,dx,_,_,rfl,ha,Y.cl_Node,Y.na_Node_base,nf_base x,rfl,_,rfl,?_⟩
      rw [bit_eq]
      cases hb:x.base with
      | true =>
        rw [hb,if_pos (.inr rfl)] at k
        exact iteT k
      | false =>
        rw [hh,hb,if_neg (by simp)] at k
        exact iteF ⟨_,rfl,a,T.c_Node,dx,_,_,rfl,ha,Y.cl_Node,Y.na_Node_free,nf_free x,k⟩
def sp_needed_nodes (T:Ad):Sp:=fun vs H Q _=>∃ net s g,∃ gl:Nat,vs=[.ref net,.int (gl:Int)]∧NetAt T H net s g ∧
  ∀ H' p,Same H H'→H p=none→H' p=some (.lst (nis (Vbsgad.needed s gl)))→Q (.ref p) H'
theorem ok_needed_nodes (Y:Tx K mg T):FnOk P w K mg base CX0 4 T.f_needed_nodes T.d_needed_nodes ["network","goal"] (sp_needed_nodes T):=by
  have G1:=ok_reached_nodes (P:=P) (w:=w) (base:=base) Y
  refine Y.F_needed_nodes.ok sc_needed_nodes (fun vs H Q E h=>?_) (fun cdv A outer s H vs Q E hr h=>?_)
  · obtain ⟨net,s,g,gl,rfl,_⟩:=h
    rfl
  · obtain ⟨net,s,g,gl,rfl,N,k⟩:=h
    have nd:=sc_needed_nodes.nd
    have hn:=N.wfs.sz
    refine' ⟨_,?d,?rd⟩
    case d =>
      refine' pss_cons (ps_if (pt_cmpR op_notIn_seq (pv 1) (pe_call G1 hr (by rfl) Y.G_reached_nodes Y.F_reached_nodes.kp Y.B_reached_nodes .nil pass0 (pa_cons (pv 0) (pa_cons (pe_lst pa_nil) pa_nil))) (by with_unfolding_all rfl)) (pss_one (ps_ret (pe_lst pa_nil))) pss_nil) (pss_cons ?s2 (pss_one ?s3))
      case s2 =>
        refine' ps_setLc (i:=2) (own:=[("number",3)]) (te:=tVar 3) (tt:=tTest (tOp rNe (tVar 3) (tVar 1))) (g:=gName 3) rfl nd rfl rfl (sw_true rfl rfl rfl rfl) (pi_range1 rfl Y.b_range (pa_cons (pe_callB call_len_seq (by rfl) Y.b_len PySem.boot_len (pa_cons (pe_fld (pv 0) rfl) pa_nil)) pa_nil)) ?b ?g ?t ?e
        case b=>exact blkOk_by (by show blkC n_needed_nodes (defScope s_needed_nodes) _ _=true;decide +kernel)
        case g=>intro _ _ _ _ _;exact pg_name (i:=3) nd rfl (Or.inl rfl)
        case t=>intro _ _ _ _ _;exact pts_one (pt_cmpR op_ne (pv 3) (pv 1) (nomark _))
        case e=>intro _ _ _ _ _;exact pv 3
      case s3 =>
        refine' ps_ret (pe_lc (own:=[("number",3)]) (te:=tVar 3) (tt:=tTest (tOp (rIn K true) (tVar 1) (tCall (sp_reached_nodes K T) [] E0 (tCons (tVar 0) (tCons (tLst (tCons (tVar 3) tNil)) tNil))))) (g:=gName 3) rfl nd (pi_list (pv 2)) ?b ?g ?t ?e)
        case b=>exact blkOk_by (by show blkC n_needed_nodes (defScope s_needed_nodes) _ _=true;decide +kernel)
        case g=>intro _ _ _ _ _;exact pg_name (i:=3) nd rfl (Or.inl rfl)
        case t=>intro _ _ _ _ _;exact pts_one (pt_cmpR op_notIn_seq (pv 1) (pe_call G1 hr (by rfl) Y.G_reached_nodes Y.F_reached_nodes.kp Y.B_reached_nodes .nil pass0 (pa_cons (pv 0) (pa_cons (pe_lst (pa_cons (pv 3) pa_nil)) pa_nil))) (by with_unfolding_all rfl))
        case e=>intro _ _ _ _ _;exact pv 3
    case rd =>
      have notin:∀ l:List Nat,(if true=true then !inV (.int (gl:Nat)) (nis l) else inV (.int (gl:Nat)) (nis l))=!l.contains gl:=fun l=>(if_pos rfl).trans (congrArg _ (inV_nis gl _))
      refine ⟨_,rfl,_,rfl,Nat.zero_le _,fun p hp=>?_⟩
      have s1:Same H (upd H p (.lst [])):=Same.lay hp
      refine ⟨net,p,s,g,[],rfl,N.same s1,upd_same,Nat.zero_le _,fun H1 q s2 hq hl=>?_⟩
      have s12:=s1.trans s2
      refine ⟨q,_,rfl,.inl (SqL.of hl),rfl,flat_nis _,_,rfl,?_⟩
      rw [notin]
      rw [Th.needed_eq] at k
      cases hc:(Th.comeB s []).contains gl with
      | false =>
        rw [hc,if_neg (by simp)] at k
        refine iteT ⟨Nat.zero_le _,fun r hr2=>?_⟩
        exact k _ r (s12.trans (Same.lay hr2)) (s12.free hr2) upd_same
      | true =>
        rw [hc,if_pos rfl] at k
        refine iteF ⟨_,rfl,net,T.c_Network,_,_,_,rfl,s12 _ _ N.obj,Y.cl_Network,Y.na_Network_nodes,wf_nodes _ _,g.ln,_,rfl,.inl (SqL.of (s12 _ _ N.nl)),((g.as.map V.ref).length:Int),rfl,?_,?_,fun D hD=>?_⟩
        · omega
        · rw [List.length_map,N.len];omega
        rw [List.length_map,N.len,Int.toNat_natCast]
        refine lc_range (lo:=0) (n:=s.nodes.length) (fun i H'=>Same H1 H'∧H' D=some (.lst (nis ((List.range i).filter fun a=>a != gl)))) ⟨Same.lay hD,upd_same⟩ ?_ ?_
        · rintro i H' hi ⟨s3,hDl⟩
          rw [Int.zero_add]
          refine ⟨rfl,_,rfl,_,rfl,rfl,_,rfl,?_⟩
          rw [ne_int]
          have hlen:((List.range i).filter fun a=>a != gl).length≤i:=by
            have:=List.length_filter_le (fun a=>a != gl) (List.range i)
            rw [List.length_range] at this
            exact this
          cases hb:(i != gl) with
          | true =>
            refine iteT ⟨_,rfl,_,hDl,by rw [nis_len];exact Nat.lt_of_le_of_lt hlen (Nat.lt_of_lt_of_le hi (small24 hn)),s3.wr hD,?_⟩
            rw [upd_same,List.range_succ,List.filter_append,show List.filter (fun a=>a != gl) [i]=[i] by rw [List.filter_cons,hb];rfl,nis_append]
            rfl
          | false =>
            refine iteF ⟨s3,?_⟩
            rw [List.range_succ,List.filter_append,show List.filter (fun a=>a != gl) [i]=[] by rw [List.filter_cons,hb];rfl,List.append_nil]
            exact hDl
        rintro H3 ⟨s3,hDl⟩
        have hlen:((List.range s.nodes.length).filter fun a=>a != gl).length≤s.nodes.length:=by
          have:=List.length_filter_le (fun a=>a != gl) (List.range s.nodes.length)
          rw [List.length_range] at this
          exact this
        have s123:=s12.trans s3
        refine ⟨_,rfl,D,rfl,⟨_,SqL.of hDl⟩,fun D2 hD2=>?_⟩
        refine lc_filter (SqL.of hDl) (Nat.le_trans hlen (small24 hn)) hD2 (fun a=>!(Th.comeB s [a]).contains gl) (fun _=>rfl) (fun _=>rfl) (fun i x H' hx s' Q hQ=>?_) fun H4 s4 hl4=>k H4 D2 (s123.trans s4) (s123.free hD2) hl4
        refine ⟨_,rfl,_,rfl,_,rfl,by show 1≤sizeLine;decide,fun r hr2=>?_⟩
        have s5:Same H' (upd H' r (.lst [.int (x:Int)])):=Same.lay hr2
        refine ⟨net,r,s,g,[x],rfl,N.same ((s123.trans s').trans s5),upd_same,by show 1≤2000;omega,fun H5 q5 s6 hq5 hl5=>?_⟩
        refine ⟨q5,_,rfl,.inl (SqL.of hl5),rfl,flat_nis _,_,rfl,?_⟩
        rw [notin]
        exact hQ _ (s5.trans s6)
end
end Sh
end
section
namespace Sh
open PySem PySem.Spec PyProof.Rows L2
open Vbsgad (State Node)
section
variable {P:Program} {w:World} {K:PySem.W.Frag} {mg:Str→Option Value} {base:Heap} {T:Ad}
def sp_least_price (T:Ad):Sp:=fun vs H Q _=>∃ net fa s g,∃ gl:Nat,∃ X,vs=[.ref net,.int (gl:Int),.ref fa]∧NetAt T H net s g∧H fa=some (.lst (nis X))∧gl < s.nodes.length∧(∀ x∈X,Vbsgad.fillable s x=true)∧(¬ ∀ F,¬ Th.Cut (Vbsgad.filled s X) gl F) ∧
  ∀ H',∀ v:Nat,Same H H'→Vbsgad.least (Vbsgad.filled s X) gl=some v→Q (.int (v:Int)) H'
theorem ok_least_price (Y:Tx K mg T):FnOk P w K mg base CX0 3 T.f_least_price T.d_least_price ["network","goal","filled"] (sp_least_price T):=by
  have G1:=ok_Flow___init__ (P:=P) (w:=w) (base:=base) Y
  have G2:=ok_Flow_add_arc (P:=P) (w:=w) (base:=base) Y
  have G3:=ok_room_at (P:=P) (w:=w) (base:=base) Y
  have G4:=ok_Flow_most (P:=P) (w:=w) (base:=base) Y
  refine Y.F_least_price.ok sc_least_price (fun vs H Q E h=>?_) (fun cdv A outer s H vs Q E hr h=>?_)
  · obtain ⟨net,fa,s,g,gl,X,rfl,_⟩:=h
    rfl
  · obtain ⟨net,fa,s,g,gl,X,rfl,N,hfa,hgl,hX,hcut,k⟩:=h
    have nd:=sc_least_price.nd
    have hr1:Room 1 _:=hr.mono (by decide)
    obtain ⟨t1,k1⟩:=Y.k_PLENTY
    refine' ⟨_,?d,?rd⟩
    case d =>
      refine' pss_cons (ps_set (i:=3) nd rfl (Or.inl rfl) (pe_make Y.mk_Flow G1 hr (by rfl) Y.gc_Flow Y.B_Flow___init__ .nil pass0 (pa_cons (pe_op op_mul pe_int (pe_callB call_len_seq (by rfl) Y.b_len PySem.boot_len (pa_cons (pe_fld (pv 0) rfl) pa_nil))) pa_nil)))
        (pss_cons ?s2 (pss_cons ?s3 (pss_cons ?s4 (pss_one ?s5))))
      case s2 =>
        exact ps_for PassesOwn.never rfl (pi_enum (by rfl) Y.b_enumerate (pa_cons (pe_fld (pv 0) rfl) pa_nil)) (pg_tup rfl (pgs_cons (pg_name (i:=6) nd rfl (Or.inl rfl)) (pgs_cons (pg_name (i:=7) nd rfl (Or.inl rfl)) pgs_nil)))
          (pss_one (ps_if (pt_cmpR op_notIn_seq (pv 6) (pv 2) (by with_unfolding_all rfl))
            (pss_one (ps_expr (pe_meth (pv 3) Y.cl_Flow Y.M_Flow_add_arc G2 hr1 Y.B_Flow_add_arc .nil pass0 (pa_cons (pe_op op_mul pe_int (pv 6)) (pa_cons (pe_op op_add (pe_op op_mul pe_int (pv 6)) pe_int) (pa_cons (pe_call G3 hr1 (by rfl) Y.G_room_at Y.F_room_at.kp Y.B_room_at .nil pass0 (pa_cons (pv 7) pa_nil)) pa_nil)))))) pss_nil))
      case s3 =>
        exact ps_for PassesOwn.never rfl (pi_list (pe_fld (pv 0) rfl)) (pg_name (i:=4) nd rfl (Or.inl rfl))
          (pss_cons (ps_expr (pe_meth (pv 3) Y.cl_Flow Y.M_Flow_add_arc G2 hr1 Y.B_Flow_add_arc .nil pass0 (pa_cons (pe_op op_add (pe_op op_mul pe_int (pe_ix ix_tup (pv 4) pe_int (fun _ _=>rfl))) pe_int) (pa_cons (pe_op op_mul pe_int (pe_ix ix_tup (pv 4) pe_int (fun _ _=>rfl))) (pa_cons (pe_k (by rfl) k1) pa_nil)))))
          (pss_one (ps_expr (pe_meth (pv 3) Y.cl_Flow Y.M_Flow_add_arc G2 hr1 Y.B_Flow_add_arc .nil pass0 (pa_cons (pe_op op_add (pe_op op_mul pe_int (pe_ix ix_tup (pv 4) pe_int (fun _ _=>rfl))) pe_int) (pa_cons (pe_op op_mul pe_int (pe_ix ix_tup (pv 4) pe_int (fun _ _=>rfl))) (pa_cons (pe_k (by rfl) k1) pa_nil)))))))
      case s4 =>
        refine' ps_setLc (i:=5) (own:=[("number",6),("node",7)]) (te:=tOp (rI0 fun i j=>.int (i + j)) (tOp (rI CMul fun i j=>.int (i * j)) (tC (.int 2)) (tVar 6)) (tC (.int 1))) (tt:=tTest (tOp rEq (tFld K (tVar 7) "base") (tC (.int 1)))) (g:=gTup K 2 (gCons (gName 6) (gCons (gName 7) gNil))) rfl nd rfl rfl (sw_true rfl rfl rfl rfl) (pi_enum (by rfl) Y.b_enumerate (pa_cons (pe_fld (pv 0) rfl) pa_nil)) ?b ?g ?t ?e
        case b=>exact blkOk_by (by show blkC n_least_price (defScope s_least_price) _ _=true;decide +kernel)
        case g=>intro _ _ _ _ _;exact pg_tup rfl (pgs_cons (pg_name (i:=6) nd rfl (Or.inl rfl)) (pgs_cons (pg_name (i:=7) nd rfl (Or.inl rfl)) pgs_nil))
        case t=>intro _ _ _ _ _;exact pts_one (pt_cmpR op_eq (pe_fld (pv 7) rfl) pe_int (nomark _))
        case e=>intro _ _ _ _ _;exact pe_op op_add (pe_op op_mul pe_int (pv 6)) pe_int
      case s5=>exact ps_ret (pe_meth (pv 3) Y.cl_Flow Y.M_Flow_most G4 hr Y.B_Flow_most .nil pass0 (pa_cons (pv 5) (pa_cons (pe_op op_mul pe_int (pv 1)) pa_nil)))
    case rd =>
      have hn:=N.wfs.sz
      have hll:=N.wfs.ll
      have nadd:∀ lv hh rr,(ff lv hh rr).lookup ("add_arc":Str)=none:=fun lv hh rr=>ff_none lv hh rr (by decide +kernel) (by decide +kernel) (by decide +kernel)
      refine ⟨_,rfl,net,T.c_Network,_,_,_,rfl,N.obj,Y.cl_Network,Y.na_Network_nodes,wf_nodes _ _,g.ln,_,rfl,.inl (SqL.of N.nl),_,_,rfl,rfl,.inl ⟨by decide,by decide⟩,fun f dx hf hdx hfd=>?_⟩
      have e1:(2:Int) * ((g.as.map V.ref).length:Int)=((2 * s.nodes.length:Nat):Int):=by rw [List.length_map,N.len];omega
      have s0:Same H (upd (upd H dx (.own f)) f (.ins T.c_Flow dx [])):=(Same.lay hdx).trans (Same.lay (by rw [upd_ne (Ne.symm hfd)];exact hf))
      refine ⟨f,dx,H,2 * s.nodes.length,(by show [V.ref f,V.int ((2:Int) * ((g.as.map V.ref).length:Int))]=_;rw [e1]),by omega,upd_same,s0,hf,fun H1 G F1=>⟨rfl,?_⟩⟩
      refine ⟨_,rfl,net,T.c_Network,_,_,_,rfl,F1.sm _ _ N.obj,Y.cl_Network,Y.na_Network_nodes,wf_nodes _ _,g.ln,_,rfl,SqL.of (F1.sm _ _ N.nl),?_⟩
      refine for_enum (K:=K) (a:=g.ln) (xs:=g.as.map V.ref) (fun i σ H'=>∃ nu no,σ=[some (.ref net),some (.int (gl:Int)),some (.ref fa),some (.ref f),none,none,nu,no]∧FlowAt T H H' f G (Th.nodeArcs s X i) (Th.R0 (Th.nodeArcs s X i)) (2 * s.nodes.length))
        ⟨none,none,rfl,F1⟩ (fun i σ H' _ ⟨_,_,_,F2⟩=>SqL.of (F2.sm _ _ N.nl)) ?_ ?_
      · rintro i x σ H2 Tp hx ⟨nu,no,rfl,F2⟩ hTp
        obtain ⟨a,ha,rfl⟩:=get_map hx
        have hi:i < s.nodes.length:=by rw [← N.len];exact (List.getElem?_eq_some_iff.mp ha).1
        obtain ⟨a',ha',hx',dxa,hnode⟩:=N.node hi
        obtain rfl:a=a':=Option.some.inj (ha.symm.trans ha')
        have s3:Same H2 (upd H2 Tp (.tup [.int (i:Nat),.ref a])):=Same.lay hTp
        have F3:=F2.same s3
        refine ⟨Tp,_,rfl,SqT.of upd_same,rfl,_,_,rfl,_,_,rfl,rfl,?_⟩
        generalize upd H2 Tp (.tup [.int (i:Nat),.ref a])=H3 at F3 s3
        refine ⟨_,rfl,_,rfl,fa,_,rfl,.inl (SqL.of (F3.sm _ _ hfa)),rfl,flat_nis _,_,rfl,?_⟩
        have e2:(if true=true then !inV (.int (i:Nat)) (nis X) else inV (.int (i:Nat)) (nis X))=!X.contains i:=(if_pos rfl).trans (congrArg _ (inV_nis i X))
        rw [e2]
        cases hc:X.contains i with
        | true =>
          refine iteF ⟨_,_,rfl,?_⟩
          rw [Th.nodeArcs_succ,if_pos hc]
          exact F3
        | false =>
          have hlen:=Th.nodeArcs_len s X i
          refine iteT ⟨_,rfl,f,_,_,rfl,F3.obj,nadd _ _ _,_,rfl,_,_,rfl,rfl,.inl ⟨by decide,by decide⟩,_,rfl,_,_,rfl,rfl,.inl ⟨by decide,by decide⟩,_,_,rfl,rfl,_,rfl,a,_,rfl,⟨dxa,F3.sm _ _ hnode⟩,?_⟩
          refine ⟨f,H,G,_,2 * s.nodes.length,2 * i,2 * i + 1,_,rfl,F3,by omega,by omega,by omega,by omega,fun H4 F4=>⟨_,_,rfl,?_⟩⟩
          rw [Th.nodeArcs_succ,if_neg (by rw [hc];simp)]
          exact F4
      rintro σ H2 ⟨nu,no,rfl,F2⟩
      rw [List.length_map,N.len] at F2
      refine ⟨_,rfl,net,T.c_Network,_,_,_,rfl,F2.sm _ _ N.obj,Y.cl_Network,Y.na_Network_lines,wf_lines _ _,g.ll,rfl,⟨_,SqL.of (F2.sm _ _ N.tl)⟩,?_⟩
      have hnl:=Th.nodeArcs_len s X s.nodes.length
      refine for_list (K:=K) (a:=g.ll) (xs:=g.ts.map V.ref) (fun i σ H'=>∃ li,σ=[some (.ref net),some (.int (gl:Int)),some (.ref fa),some (.ref f),li,none,nu,no]∧FlowAt T H H' f G (Th.nodeArcs s X s.nodes.length++(s.lines.take i).flatMap Th.lineArcs) (Th.R0 (Th.nodeArcs s X s.nodes.length++(s.lines.take i).flatMap Th.lineArcs)) (2 * s.nodes.length))
        ⟨_,rfl,by rw [List.take_zero,List.flatMap_nil,List.append_nil];exact F2⟩ (fun i σ H' _ ⟨_,_,F3⟩=>SqL.of (F3.sm _ _ N.tl)) ?_ ?_
      · rintro i y σ H3 hy ⟨li,rfl,F3⟩
        obtain ⟨t,ht,rfl⟩:=get_map hy
        have hi:i < s.lines.length:=by rw [← N.tlen];exact (List.getElem?_eq_some_iff.mp ht).1
        obtain ⟨l,hl'⟩:∃ l,s.lines[i]?=some l:=⟨_,List.getElem?_eq_getElem hi⟩
        have htt:=N.tat i t l ht hl'
        obtain ⟨q1,q2,q3⟩:=N.wfs.lin l (List.mem_of_getElem? hl')
        have hlen:(Th.nodeArcs s X s.nodes.length++(s.lines.take i).flatMap Th.lineArcs).length≤150:=by
          rw [List.length_append]
          have:=Th.lineArcs_len { s with lines:=s.lines.take i }
          have e:((s.lines.take i).flatMap Th.lineArcs).length=2 * (s.lines.take i).length:=this
          rw [e,List.length_take]
          omega
        have esn:=Th.lines_snoc s hl'
        have es2:Th.nodeArcs s X s.nodes.length++(s.lines.take (i + 1)).flatMap Th.lineArcs=(Th.nodeArcs s X s.nodes.length++(s.lines.take i).flatMap Th.lineArcs)++[⟨2 * l.1 + 1,2 * l.2,97⟩]++[⟨2 * l.2 + 1,2 * l.1,97⟩]:=by
          rw [esn,List.append_assoc,List.append_assoc,List.append_assoc]
        generalize Th.nodeArcs s X s.nodes.length++(s.lines.take i).flatMap Th.lineArcs=es at F3 hlen es2
        have htt3:=F3.sm _ _ htt
        refine ⟨_,rfl,f,_,_,rfl,F3.obj,nadd _ _ _,_,rfl,t,_,_,_,rfl,rfl,SqT.of htt3,rfl,_,_,rfl,rfl,.inl ⟨by decide,by decide⟩,_,_,rfl,rfl,_,rfl,t,_,_,_,rfl,rfl,SqT.of htt3,rfl,_,_,rfl,rfl,.inl ⟨by decide,by decide⟩,?_⟩
        refine ⟨f,H,G,es,2 * s.nodes.length,2 * l.1 + 1,2 * l.2,97,rfl,F3,by omega,by omega,by omega,by omega,fun H4 F4=>?_⟩
        have htt4:=F4.sm _ _ htt
        refine ⟨_,rfl,f,_,_,rfl,F4.obj,nadd _ _ _,_,rfl,t,_,_,_,rfl,rfl,SqT.of htt4,rfl,_,_,rfl,rfl,.inl ⟨by decide,by decide⟩,_,_,rfl,rfl,_,rfl,t,_,_,_,rfl,rfl,SqT.of htt4,rfl,_,_,rfl,rfl,.inl ⟨by decide,by decide⟩,?_⟩
        refine ⟨f,H,G,_,2 * s.nodes.length,2 * l.2 + 1,2 * l.1,97,rfl,F4,by rw [Th.snoc_len];omega,by omega,by omega,by omega,fun H5 F5=>⟨_,rfl,?_⟩⟩
        rw [es2]
        exact F5
      rintro σ H3 ⟨li,rfl,F3⟩
      rw [List.length_map,N.tlen,List.take_length] at F3
      have ees:Th.nodeArcs s X s.nodes.length++s.lines.flatMap Th.lineArcs=Th.arcsOf s X:=rfl
      rw [ees] at F3
      have hal:(Th.arcsOf s X).length≤200:=by
        unfold Th.arcsOf
        rw [List.length_append,Th.lineArcs_len]
        have:(Th.nodeArcs s X (Vbsgad.size s)).length≤s.nodes.length:=hnl
        omega
      refine ⟨_,rfl,net,T.c_Network,_,_,_,rfl,F3.sm _ _ N.obj,Y.cl_Network,Y.na_Network_nodes,wf_nodes _ _,g.ln,_,rfl,SqL.of (F3.sm _ _ N.nl),fun D hD=>?_⟩
      refine lc_enum (K:=K) (a:=g.ln) (xs:=g.as.map V.ref) (fun i H'=>Same H3 H'∧H' D=some (.lst (nis ((upto (Vbsgad.isBase s) i).map fun b=>2 * b + 1)))) ⟨Same.lay hD,upd_same⟩
        (fun i H' _ ⟨s4,_⟩=>SqL.of (s4 _ _ (F3.sm _ _ N.nl))) ?_ ?_
      · rintro i x H' Tp hx ⟨s4,hDl⟩ hTp
        obtain ⟨a,ha,rfl⟩:=get_map hx
        have hi:i < s.nodes.length:=by rw [← N.len];exact (List.getElem?_eq_some_iff.mp ha).1
        obtain ⟨a',ha',hx',dxa,hnode⟩:=N.node hi
        obtain rfl:a=a':=Option.some.inj (ha.symm.trans ha')
        have s5:Same H' (upd H' Tp (.tup [.int (i:Nat),.ref a])):=Same.lay hTp
        refine ⟨Tp,_,rfl,SqT.of upd_same,rfl,_,_,rfl,_,_,rfl,rfl,rfl,_,rfl,a,T.c_Node,dxa,_,_,rfl,s5 _ _ (s4 _ _ (F3.sm _ _ hnode)),Y.cl_Node,Y.na_Node_base,nf_base _,rfl,_,rfl,?_⟩
        rw [bit_eq]
        have hle:=upto_len (Vbsgad.isBase s) i
        cases hb:(Vbsgad.nodeOf s i).base with
        | true =>
          refine iteT ⟨_,rfl,_,_,rfl,rfl,.inl ⟨by decide,by decide⟩,_,_,rfl,rfl,_,s5 _ _ hDl,by rw [nis_len,List.length_map];exact Nat.lt_of_le_of_lt hle (Nat.lt_of_lt_of_le hi (small24 hn)),(s4.trans s5).wr hD,?_⟩
          rw [upd_same,upto_succ,if_pos (show Vbsgad.isBase s i=true from hb),List.map_append,nis_append]
          rfl
        | false =>
          refine iteF ⟨s4.trans s5,?_⟩
          rw [upto_succ,if_neg (show ¬ Vbsgad.isBase s i=true by rw [show Vbsgad.isBase s i=false from hb];simp)]
          exact s5 _ _ hDl
      rintro H4 ⟨s4,hDl⟩
      rw [List.length_map,N.len] at hDl
      have F4:=F3.same s4
      have est:(upto (Vbsgad.isBase s) s.nodes.length).map (fun b=>2 * b + 1)=Th.startsOf s:=rfl
      rw [est] at hDl
      refine ⟨_,rfl,f,_,_,rfl,F4.obj,ff_none _ _ _ (by decide +kernel) (by decide +kernel) (by decide +kernel),_,rfl,_,rfl,_,_,rfl,rfl,.inl ⟨by decide,by decide⟩,?_⟩
      refine ⟨f,D,H,G,Th.arcsOf s X,2 * s.nodes.length,2 * gl,Th.startsOf s,rfl,F4,hal,by omega,hDl,fun q=>?_,Th.startsOf_nodup s,fun x hx=>Th.startsOf_lt hx,Th.startsOf_odd,fun R v hR=>hR.bound N.wfs hcut,fun H5 R v hR hfo s5=>?_⟩
      · rw [q,F3.rl] at hD;cases hD
      · exact k H5 v s5 (hR.least N.wfs hX hgl hcut hfo)
end
end Sh
end
section
namespace Sh
open PySem PySem.Spec PyProof.Rows L2
open Vbsgad (State Node)
theorem fillables_len (s:State) (g:Nat):(Vbsgad.fillables s g).length≤s.nodes.length:=by
  have:=List.length_filter_le (fun a=>Vbsgad.fillable s a && a != g) (List.range (Vbsgad.size s))
  rw [List.length_range] at this
  exact this
theorem tight_len' (s:State) (g:Nat):(Vbsgad.tight s g).length≤s.nodes.length:=by
  unfold Vbsgad.tight
  split
  · exact Nat.zero_le _
  · exact Nat.le_trans (List.length_filter_le _ _) (fillables_len s g)
section
variable {P:Program} {w:World} {K:PySem.W.Frag} {mg:Str→Option Value} {base:Heap} {T:Ad}
def sp_least_number (T:Ad):Sp:=fun vs H Q _=>∃ net s g,∃ gl:Nat,vs=[.ref net,.int (gl:Int)]∧NetAt T H net s g∧gl < s.nodes.length∧∀ H',Same H H'→Q (oV (Vbsgad.least s gl)) H'
theorem ok_least_number (Y:Tx K mg T):FnOk P w K mg base CX0 5 T.f_least_number T.d_least_number ["network","goal"] (sp_least_number T):=by
  have G1:=ok_is_cut_off (P:=P) (w:=w) (base:=base) Y
  have G2:=ok_stops_to_fill (P:=P) (w:=w) (base:=base) Y
  have G3:=ok_least_price (P:=P) (w:=w) (base:=base) Y
  refine Y.F_least_number.ok sc_least_number (fun vs H Q E h=>?_) (fun cdv A outer s H vs Q E hr h=>?_)
  · obtain ⟨net,s,g,gl,rfl,_⟩:=h
    rfl
  · obtain ⟨net,s,g,gl,rfl,N,hgl,k⟩:=h
    have hr2:Room 2 _:=hr.mono (by decide)
    have hr3:Room 3 _:=hr.mono (by decide)
    have hn:=N.wfs.sz
    refine ⟨_,pss_cons (ps_if (pt_not (pt_val (pe_call G1 hr (by rfl) Y.G_is_cut_off Y.F_is_cut_off.kp Y.B_is_cut_off .nil pass0 (pa_cons (pv 0) (pa_cons (pv 1) (pa_cons (pe_call G2 hr2 (by rfl) Y.G_stops_to_fill Y.F_stops_to_fill.kp Y.B_stops_to_fill .nil pass0 (pa_cons (pv 0) (pa_cons (pv 1) pa_nil))) pa_nil))))))
      (pss_one (ps_ret pe_non)) pss_nil)
      (pss_one (ps_ret (pe_call G3 hr3 (by rfl) Y.G_least_price Y.F_least_price.kp Y.B_least_price .nil pass0 (pa_cons (pv 0) (pa_cons (pv 1) (pa_cons (pe_lst pa_nil) pa_nil)))))),?_⟩
    refine ⟨_,rfl,_,rfl,_,rfl,_,rfl,net,s,g,gl,rfl,N,fun H1 p s1 hp hl=>?_⟩
    have hfl:=fillables_len s gl
    refine ⟨net,p,s,g,gl,_,rfl,N.same s1,hl,by omega,fun H2 s2=>⟨_,rfl,?_⟩⟩
    have s12:=s1.trans s2
    rw [Th.fillables_ne,Th.cut_open]
    cases ho:Vbsgad.open_ s gl with
    | true =>
      rw [Th.least_open ho] at k
      exact iteT (k H2 s12)
    | false =>
      refine iteF ⟨_,rfl,_,rfl,Nat.zero_le _,fun q hq=>?_⟩
      have s3:Same H2 (upd H2 q (.lst [])):=Same.lay hq
      refine ⟨net,q,s,g,gl,[],rfl,N.same (s12.trans s3),upd_same,hgl,fun x h=>(nomatch h),by rw [Th.filled_nil];exact Th.not_open ho,fun H3 v s4 hv=>?_⟩
      rw [Th.filled_nil] at hv
      rw [hv] at k
      exact k H3 ((s12.trans s3).trans s4)
def sp_tight_stops (T:Ad):Sp:=fun vs H Q _=>∃ net s g,∃ gl:Nat,vs=[.ref net,.int (gl:Int)]∧NetAt T H net s g∧gl < s.nodes.length ∧
  ∀ H' p,Same H H'→H p=none→H' p=some (.lst (nis (Vbsgad.tight s gl)))→Q (.ref p) H'
theorem eq_nat (a b:Nat):decide (V.int (a:Int)=V.int (b:Int))=decide (a=b):=by
  rw [dec_int]
  apply Bool.eq_iff_iff.mpr
  simp
  omega
theorem ok_tight_stops (Y:Tx K mg T):FnOk P w K mg base CX0 6 T.f_tight_stops T.d_tight_stops ["network","goal"] (sp_tight_stops T):=by
  have G1:=ok_least_number (P:=P) (w:=w) (base:=base) Y
  have G2:=ok_stops_to_fill (P:=P) (w:=w) (base:=base) Y
  have G3:=ok_least_price (P:=P) (w:=w) (base:=base) Y
  refine Y.F_tight_stops.ok sc_tight_stops (fun vs H Q E h=>?_) (fun cdv A outer s H vs Q E hr h=>?_)
  · obtain ⟨net,s,g,gl,rfl,_⟩:=h
    rfl
  · obtain ⟨net,s,g,gl,rfl,N,hgl,k⟩:=h
    have nd:=sc_tight_stops.nd
    have hr2:Room 2 _:=hr.mono (by decide)
    have hr3:Room 3 _:=hr.mono (by decide)
    have hn:=N.wfs.sz
    refine ⟨_,pss_cons (ps_set (i:=2) nd rfl (Or.inl rfl) (pe_call G1 hr (by rfl) Y.G_least_number Y.F_least_number.kp Y.B_least_number .nil pass0 (pa_cons (pv 0) (pa_cons (pv 1) pa_nil))))
      (pss_cons (ps_if (PW.pt (pw_or (pt_cmpR op_isN (pv 2) pe_non (nomark _)) (pw_or1 (pt_cmpR op_eq (pv 2) pe_int (nomark _))))) (pss_one (ps_ret (pe_lst pa_nil))) pss_nil)
      (pss_cons (ps_set (i:=3) nd rfl (Or.inl rfl) (pe_lst pa_nil))
      (pss_cons (ps_for PassesOwn.never rfl (pi_list (pe_call G2 hr2 (by rfl) Y.G_stops_to_fill Y.F_stops_to_fill.kp Y.B_stops_to_fill .nil pass0 (pa_cons (pv 0) (pa_cons (pv 1) pa_nil)))) (pg_name (i:=4) nd rfl (Or.inl rfl))
        (pss_one (ps_if (pt_cmpR op_eq (pe_op op_add (pe_fld (pe_ix ix_list (pe_fld (pv 0) rfl) (pv 4) (fun _ _=>rfl)) rfl) (pe_call G3 hr3 (by rfl) Y.G_least_price Y.F_least_price.kp Y.B_least_price .nil pass0 (pa_cons (pv 0) (pa_cons (pv 1) (pa_cons (pe_lst (pa_cons (pv 4) pa_nil)) pa_nil))))) (pv 2) (nomark _))
          (pss_one (ps_expr (pe_bm PySem.F.plainAttrs_list PySem.F.slot_list_append PySem.F.type_list_append mt_append (pv 3) (pa_cons (pv 4) pa_nil)))) pss_nil)))
      (pss_one (ps_ret (pv 3)))))),?_⟩
    refine ⟨_,rfl,_,rfl,net,s,g,gl,rfl,N,hgl,fun H1 s1=>?_⟩
    cases hle:Vbsgad.least s gl with
    | none =>
      rw [Th.tight_none hle] at k
      refine ⟨_,rfl,rfl,_,rfl,iteT (iteT ⟨Nat.zero_le _,fun p hp=>?_⟩)⟩
      exact k _ p (s1.trans (Same.lay hp)) (s1.free hp) upd_same
    | some n =>
      refine ⟨_,rfl,rfl,_,rfl,?_⟩
      have e1:decide (oV (some n)=V.non)=false:=decide_eq_false (fun z=>by cases z)
      rw [e1]
      refine iteF ⟨_,rfl,rfl,_,rfl,?_⟩
      have e2:decide (oV (some n)=V.int 0)=(n == 0):=nat_eq0 n
      rw [e2]
      cases hz:(n == 0) with
      | true =>
        have:n=0:=by simpa using hz
        rw [this] at hle
        rw [Th.tight_zero hle] at k
        refine iteT ⟨Nat.zero_le _,fun p hp=>?_⟩
        exact k _ p (s1.trans (Same.lay hp)) (s1.free hp) upd_same
      | false =>
        refine iteF ⟨Nat.zero_le _,fun D hD=>?_⟩
        have s2:Same H1 (upd H1 D (.lst [])):=Same.lay hD
        have s12:=s1.trans s2
        refine ⟨_,rfl,_,rfl,net,s,g,gl,rfl,N.same s12,fun H3 p s3 hp hl=>⟨p,rfl,⟨_,SqL.of hl⟩,?_⟩⟩
        have hfl:=fillables_len s gl
        have hcut:¬ ∀ F,¬ Th.Cut s gl F:=fun q=>by rw [Th.least_none.mpr q] at hle;cases hle
        refine for_list (K:=K) (a:=p) (xs:=nis (Vbsgad.fillables s gl)) (fun i σ H'=>∃ st,σ=[some (.ref net),some (.int (gl:Int)),some (oV (some n)),some (.ref D),st]∧Same H H'∧H' p=some (.lst (nis (Vbsgad.fillables s gl)))∧H' D=some (.lst (nis (((Vbsgad.fillables s gl).take i).filter fun a=>Vbsgad.least (Vbsgad.filled s [a]) gl == some (n - (Vbsgad.nodeOf s a).free) && decide ((Vbsgad.nodeOf s a).free≤n)))))
          ⟨_,rfl,s12.trans s3,hl,s3 _ _ upd_same⟩ (fun i σ H' _ ⟨_,_,_,h,_⟩=>SqL.of h) ?_ ?_
        · rintro i v σ H4 hv ⟨st,rfl,s4,hp4,hD4⟩
          obtain ⟨x,hx,rfl⟩:=nis_get hv
          obtain ⟨hx1,hx2,hx3⟩:=Th.mem_fillables.mp (List.mem_of_getElem? hx)
          obtain ⟨a,ha,hnx,dx,hnode⟩:=N.node (i:=x) hx1
          refine ⟨_,rfl,net,T.c_Network,_,_,_,rfl,s4 _ _ N.obj,Y.cl_Network,Y.na_Network_nodes,wf_nodes _ _,_,rfl,g.ln,_,_,_,rfl,rfl,SqL.of (s4 _ _ N.nl),at_of (j:=x) (v:=V.ref a) rfl (by rw [List.getElem?_map,ha];rfl),a,T.c_Node,dx,_,_,rfl,s4 _ _ hnode,Y.cl_Node,Y.na_Node_free,nf_free _,_,rfl,_,rfl,_,rfl,by show 1≤sizeLine;decide,fun q hq=>?_⟩
          have s5:Same H4 (upd H4 q (.lst [.int (x:Int)])):=Same.lay hq
          refine ⟨net,q,s,g,gl,[x],rfl,N.same (s4.trans s5),upd_same,hgl,fun y hy=>by rw [List.mem_singleton.mp hy];exact hx2,Th.cut_filled (fun y hy=>by rw [List.mem_singleton.mp hy];exact hx2) hcut,fun H5 v s6 hv5=>?_⟩
          have s56:=s5.trans s6
          refine ⟨_,_,rfl,rfl,_,rfl,rfl,_,rfl,?_⟩
          have e3:decide (V.int (((Vbsgad.nodeOf s x).free:Int) + (v:Int))=oV (some n))=decide ((Vbsgad.nodeOf s x).free + v=n):=eq_nat ((Vbsgad.nodeOf s x).free + v) n
          rw [e3,← Th.tight_test hv5]
          have hpD:p≠D:=fun e=>by rw [e,upd_same] at hp;cases hp
          have hDH:H D=none:=s1.free hD
          have hlen:(((Vbsgad.fillables s gl).take i).filter fun a=>Vbsgad.least (Vbsgad.filled s [a]) gl == some (n - (Vbsgad.nodeOf s a).free) && decide ((Vbsgad.nodeOf s a).free≤n)).length < sizeLine:=by
            have h1:=List.length_filter_le (fun a=>Vbsgad.least (Vbsgad.filled s [a]) gl == some (n - (Vbsgad.nodeOf s a).free) && decide ((Vbsgad.nodeOf s a).free≤n)) ((Vbsgad.fillables s gl).take i)
            rw [List.length_take] at h1
            exact Nat.lt_of_le_of_lt (show _≤24 by omega) (by decide)
          cases hb:(Vbsgad.least (Vbsgad.filled s [x]) gl == some (n - (Vbsgad.nodeOf s x).free) && decide ((Vbsgad.nodeOf s x).free≤n)) with
          | true =>
            refine iteT ⟨_,rfl,.inl ⟨rfl,_,SqL.of (s56 _ _ hD4)⟩,_,rfl,D,_,_,rfl,rfl,s56 _ _ hD4,by rw [nis_len];exact hlen,?_⟩
            refine ⟨_,rfl,(s4.trans s56).wr hDH,by rw [upd_ne hpD];exact s56 _ _ hp4,?_⟩
            rw [upd_same,take_snoc hx,List.filter_append,List.filter_cons,hb,nis_append]
            rfl
          | false =>
            refine iteF ⟨_,rfl,s4.trans s56,s56 _ _ hp4,?_⟩
            rw [take_snoc hx,List.filter_append,List.filter_cons,hb]
            simp only [Bool.false_eq_true,if_false,List.filter_nil,List.append_nil]
            exact s56 _ _ hD4
        · rintro σ H4 ⟨st,rfl,s4,hp4,hD4⟩
          rw [nis_len,List.take_length,← Th.tight_eq hle] at hD4
          exact ⟨_,rfl,k H4 D s4 (s1.free hD) hD4⟩
def sp_nearest_stops (T:Ad):Sp:=fun vs H Q _=>∃ net s g,∃ gl:Nat,vs=[.ref net,.int (gl:Int)]∧NetAt T H net s g∧gl < s.nodes.length ∧
  ∀ H' p,Same H H'→H p=none→H' p=some (.lst (nis (Vbsgad.nearest s gl)))→Q (.ref p) H'
theorem ok_nearest_stops (Y:Tx K mg T):FnOk P w K mg base CX0 7 T.f_nearest_stops T.d_nearest_stops ["network","goal"] (sp_nearest_stops T):=by
  have G1:=ok_tight_stops (P:=P) (w:=w) (base:=base) Y
  have G2:=ok_reached_nodes (P:=P) (w:=w) (base:=base) Y
  refine Y.F_nearest_stops.ok sc_nearest_stops (fun vs H Q E h=>?_) (fun cdv A outer s H vs Q E hr h=>?_)
  · obtain ⟨net,s,g,gl,rfl,_⟩:=h
    rfl
  · obtain ⟨net,s,g,gl,rfl,N,hgl,k⟩:=h
    have nd:=sc_nearest_stops.nd
    have hr3:Room 3 _:=hr.mono (by decide)
    have hn:=N.wfs.sz
    refine' ⟨_,?d,?rd⟩
    case d =>
      refine' pss_cons (ps_set (i:=2) nd rfl (Or.inl rfl) (pe_call G1 hr (by rfl) Y.G_tight_stops Y.F_tight_stops.kp Y.B_tight_stops .nil pass0 (pa_cons (pv 0) (pa_cons (pv 1) pa_nil))))
        (pss_cons (ps_set (i:=3) nd rfl (Or.inr rfl) (pe_call G2 hr3 (by rfl) Y.G_reached_nodes Y.F_reached_nodes.kp Y.B_reached_nodes .nil pass0 (pa_cons (pv 0) (pa_cons (pe_op op_cat (pv 2) (pe_lst (pa_cons (pv 1) pa_nil))) pa_nil))))
        (pss_one (ps_ret (pe_lc (own:=[("stop",4)]) (te:=tVar 4) (tt:=tTest (tOp (rIn K false) (tVar 4) (tVar 3))) (g:=gName 4) rfl nd (pi_list (pv 2)) ?b ?g ?t ?e))))
      case b=>exact blkOk_by (by show blkC n_nearest_stops (defScope s_nearest_stops) _ _=true;decide +kernel)
      case g=>intro _ _ _ _ _;exact pg_name (i:=4) nd rfl (Or.inl rfl)
      case t=>intro _ _ _ _ _;exact pts_one (pt_cmpR op_in_seq (pv 4) (pv 3) (by with_unfolding_all rfl))
      case e=>intro _ _ _ _ _;exact pv 4
    case rd =>
      have htl:=tight_len' s gl
      refine ⟨_,rfl,_,rfl,net,s,g,gl,rfl,N,hgl,fun H1 p s1 hp hl=>?_⟩
      refine ⟨_,rfl,_,rfl,_,rfl,by show 1≤sizeLine;decide,fun q hq=>?_⟩
      have s2:Same H1 (upd H1 q (.lst [.int (gl:Int)])):=Same.lay hq
      refine ⟨p,q,_,_,rfl,rfl,s2 _ _ hl,upd_same,by rw [nis_len];exact Nat.le_trans (show _≤25 by show _ + 1≤25;omega) (by decide),fun r hr2=>?_⟩
      have s3:Same (upd H1 q (.lst [.int (gl:Int)])) (upd (upd H1 q (.lst [.int (gl:Int)])) r (.lst (nis (Vbsgad.tight s gl)++[.int (gl:Int)]))):=Same.lay hr2
      have s123:=(s1.trans s2).trans s3
      refine ⟨net,r,s,g,Vbsgad.tight s gl++[gl],rfl,N.same s123,by rw [upd_same,nis_append];rfl,by rw [List.length_append,List.length_singleton];omega,fun H4 u s4 hu hl4=>?_⟩
      have s1234:=s123.trans s4
      have hl':=s4 _ _ (s3 _ _ (s2 _ _ hl))
      refine ⟨_,rfl,p,rfl,⟨_,SqL.of hl'⟩,fun D hD=>?_⟩
      refine lc_filter (SqL.of hl') (Nat.le_trans htl (small24 hn)) hD (fun a=>(Th.comeB s (Vbsgad.tight s gl++[gl])).contains a) (fun _=>rfl) (fun _=>rfl) (fun i x H' hx s' Q hQ=>?_) fun H5 s5 hl5=>?_
      · refine ⟨_,rfl,_,rfl,u,_,rfl,.inl (SqL.of (s' _ _ hl4)),rfl,flat_nis _,_,rfl,?_⟩
        have e1:(if false=true then !inV (.int (x:Nat)) (nis (Th.comeB s (Vbsgad.tight s gl++[gl]))) else inV (.int (x:Nat)) (nis (Th.comeB s (Vbsgad.tight s gl++[gl]))))=(Th.comeB s (Vbsgad.tight s gl++[gl])).contains x:=(if_neg (by simp)).trans (inV_nis x _)
        rw [e1]
        exact hQ _ (Same.refl _)
      · rw [← Th.nearest_eq] at hl5
        exact k H5 D (s1234.trans s5) (s1234.free hD) hl5
def sp_furthest_stops (T:Ad):Sp:=fun vs H Q _=>∃ net s g,∃ gl:Nat,vs=[.ref net,.int (gl:Int)]∧NetAt T H net s g∧gl < s.nodes.length ∧
  ∀ H' p,Same H H'→H p=none→H' p=some (.lst (nis (Vbsgad.furthest s gl)))→Q (.ref p) H'
theorem ok_furthest_stops (Y:Tx K mg T):FnOk P w K mg base CX0 7 T.f_furthest_stops T.d_furthest_stops ["network","goal"] (sp_furthest_stops T):=by
  have G1:=ok_tight_stops (P:=P) (w:=w) (base:=base) Y
  have G2:=ok_nodes_come_to (P:=P) (w:=w) (base:=base) Y
  have G3:=ok_Node_is_shut (P:=P) (w:=w) (base:=base) Y
  refine Y.F_furthest_stops.ok sc_furthest_stops (fun vs H Q E h=>?_) (fun cdv A outer s H vs Q E hr h=>?_)
  · obtain ⟨net,s,g,gl,rfl,_⟩:=h
    rfl
  · obtain ⟨net,s,g,gl,rfl,N,hgl,k⟩:=h
    have nd:=sc_furthest_stops.nd
    have hr1:Room 1 _:=hr.mono (by decide)
    have hr2:Room 2 _:=hr.mono (by decide)
    have hn:=N.wfs.sz
    refine' ⟨_,?d,?rd⟩
    case d =>
      refine' pss_cons (ps_set (i:=2) nd rfl (Or.inl rfl) (pe_call G1 hr (by rfl) Y.G_tight_stops Y.F_tight_stops.kp Y.B_tight_stops .nil pass0 (pa_cons (pv 0) (pa_cons (pv 1) pa_nil))))
        (pss_cons ?s2 (pss_cons ?s3 (pss_cons ?s4 (pss_one ?s5))))
      case s2 =>
        refine' ps_setLc (i:=3) (own:=[("number",6),("node",8)]) (te:=tVar 6) (tt:=tOr (tB (tMeth T.c_Node "is_shut" (sp_Node_is_shut T) [] E0 (tVar 8) tNil)) (tTest (tOp rEq (tFld K (tVar 8) "base") (tC (.int 1))))) (g:=gTup K 2 (gCons (gName 6) (gCons (gName 8) gNil))) rfl nd rfl rfl (sw_true rfl rfl rfl rfl) (pi_enum (by rfl) Y.b_enumerate (pa_cons (pe_fld (pv 0) rfl) pa_nil)) ?b ?g ?t ?e
        case b=>exact blkOk_by (by show blkC n_furthest_stops (defScope s_furthest_stops) _ _=true;decide +kernel)
        case g=>intro _ _ _ _ _;exact pg_tup rfl (pgs_cons (pg_name (i:=6) nd rfl (Or.inl rfl)) (pgs_cons (pg_name (i:=8) nd rfl (Or.inl rfl)) pgs_nil))
        case t=>intro _ _ _ _ _;exact pts_one (PW.pt (pw_or (pt_val (pe_meth0 (pv 8) Y.cl_Node Y.M_Node_is_shut G3 hr1 Y.B_Node_is_shut .nil pass0)) (pw_or1 (pt_cmpR op_eq (pe_fld (pv 8) rfl) pe_int (nomark _)))))
        case e=>intro _ _ _ _ _;exact pv 6
      case s3 =>
        refine' ps_setLc (i:=4) (own:=[("number",6)]) (te:=tVar 6) (tt:=tTest (tOp rNe (tVar 6) (tVar 1))) (g:=gName 6) rfl nd rfl rfl (sw_true rfl rfl rfl rfl) (pi_list (pe_op op_cat (pv 3) (pv 2))) ?b ?g ?t ?e
        case b=>exact blkOk_by (by show blkC n_furthest_stops (defScope s_furthest_stops) _ _=true;decide +kernel)
        case g=>intro _ _ _ _ _;exact pg_name (i:=6) nd rfl (Or.inl rfl)
        case t=>intro _ _ _ _ _;exact pts_one (pt_cmpR op_ne (pv 6) (pv 1) (nomark _))
        case e=>intro _ _ _ _ _;exact pv 6
      case s4=>exact ps_set (i:=5) nd rfl (Or.inr rfl) (pe_call G2 hr2 (by rfl) Y.G_nodes_come_to Y.F_nodes_come_to.kp Y.B_nodes_come_to .nil pass0 (pa_cons (pv 0) (pa_cons (pe_lst (pa_cons (pv 1) pa_nil)) (pa_cons (pv 4) pa_nil))))
      case s5 =>
        refine' ps_ret (pe_lc (own:=[("stop",7)]) (te:=tVar 7) (tt:=tTest (tOp (rIn K false) (tVar 7) (tVar 5))) (g:=gName 7) rfl nd (pi_list (pv 2)) ?b ?g ?t ?e)
        case b=>exact blkOk_by (by show blkC n_furthest_stops (defScope s_furthest_stops) _ _=true;decide +kernel)
        case g=>intro _ _ _ _ _;exact pg_name (i:=7) nd rfl (Or.inl rfl)
        case t=>intro _ _ _ _ _;exact pts_one (pt_cmpR op_in_seq (pv 7) (pv 5) (by with_unfolding_all rfl))
        case e=>intro _ _ _ _ _;exact pv 7
    case rd =>
      have htl:=tight_len' s gl
      refine ⟨_,rfl,_,rfl,net,s,g,gl,rfl,N,hgl,fun H1 p s1 hp hl=>?_⟩
      refine ⟨_,rfl,net,T.c_Network,_,_,_,rfl,s1 _ _ N.obj,Y.cl_Network,Y.na_Network_nodes,wf_nodes _ _,g.ln,_,rfl,SqL.of (s1 _ _ N.nl),fun D hD=>?_⟩
      refine lc_nodes (N.same s1) hD (fun a=>Vbsgad.shut s a || Vbsgad.isBase s a) (fun _ _=>rfl) (fun _ _=>rfl) (fun i a H' hi s' ⟨dx,hN⟩ Q hQ=>?_) fun H2 s2 hl2=>?_
      · refine ⟨_,rfl,a,dx,_,rfl,hN,nf_none _ (by decide +kernel) (by decide +kernel) (by decide +kernel),a,_,rfl,⟨dx,hN⟩,_,rfl,?_⟩
        have e:((Vbsgad.nodeOf s i).halt_ && ((Vbsgad.nodeOf s i).free == 0 && !(Vbsgad.nodeOf s i).base))=Vbsgad.shut s i:=rfl
        rw [e]
        have hQ':=hQ _ (Same.refl _)
        skip
        cases hf:Vbsgad.shut s i with
        | true=>rw [hf] at hQ';exact iteT hQ'
        | false =>
          rw [hf] at hQ'
          refine iteF ⟨_,rfl,a,T.c_Node,dx,_,_,rfl,hN,Y.cl_Node,Y.na_Node_base,nf_base _,rfl,_,rfl,?_⟩
          rw [bit_eq]
          exact hQ'
      have ecl:upto (fun a=>Vbsgad.shut s a || Vbsgad.isBase s a) s.nodes.length=Th.closed s:=rfl
      rw [ecl] at hl2
      have hcl:(Th.closed s).length≤s.nodes.length:=upto_len _ _
      have s12:=s1.trans s2
      refine ⟨_,rfl,_,rfl,D,p,_,_,rfl,rfl,hl2,s2 _ _ hl,by rw [nis_len,nis_len];exact Nat.le_trans (show _≤48 by omega) (by decide),fun q hq=>⟨q,rfl,⟨_,SqL.of upd_same⟩,fun D2 hD2=>?_⟩⟩
      have s3:Same H2 (upd H2 q (.lst (nis (Th.closed s)++nis (Vbsgad.tight s gl)))):=Same.lay hq
      have hq3:(upd H2 q (.lst (nis (Th.closed s)++nis (Vbsgad.tight s gl)))) q=some (.lst (nis (Th.closed s++Vbsgad.tight s gl))):=by rw [upd_same,nis_append]
      generalize upd H2 q (.lst (nis (Th.closed s)++nis (Vbsgad.tight s gl)))=H3 at s3 hq3 hD2
      have s123:=s12.trans s3
      refine lc_filter (SqL.of hq3) (by rw [List.length_append];exact Nat.le_trans (show _≤48 by omega) (by decide)) hD2 (fun a=>a != gl) (fun _=>rfl) (fun _=>rfl) (fun i x H' hx s' Q hQ=>?_) fun H4 s4 hl4=>?_
      · refine ⟨_,rfl,_,rfl,rfl,_,rfl,?_⟩
        rw [ne_int]
        exact hQ _ (Same.refl _)
      have s1234:=s123.trans s4
      refine ⟨_,rfl,_,rfl,by show 1≤sizeLine;decide,fun r hr3=>⟨_,rfl,?_⟩⟩
      have s5:Same H4 (upd H4 r (.lst [.int (gl:Int)])):=Same.lay hr3
      refine ⟨net,r,D2,s,g,[gl],Th.barred s gl,rfl,N.same (s1234.trans s5),SqL.of upd_same,SqL.of (s5 _ _ hl4),by simp,fun x hx=>by rw [List.mem_singleton.mp hx];exact hgl,fun H6 u s6 hu hl6=>?_⟩
      have s16:=(s1234.trans s5).trans s6
      have hl':=s6 _ _ (s5 _ _ (s4 _ _ (s3 _ _ (s2 _ _ hl))))
      refine ⟨_,rfl,p,rfl,⟨_,SqL.of hl'⟩,fun D3 hD3=>?_⟩
      refine lc_filter (SqL.of hl') (Nat.le_trans htl (small24 hn)) hD3 (fun a=>(Th.come s (fun x=>!(Th.barred s gl).contains x) [gl]).contains a) (fun _=>rfl) (fun _=>rfl) (fun i x H' hx s' Q hQ=>?_) fun H7 s7 hl7=>?_
      · refine ⟨_,rfl,_,rfl,u,_,rfl,.inl (SqL.of (s' _ _ hl6)),rfl,flat_nis _,_,rfl,?_⟩
        have e1:∀ l:List Nat,(if false=true then !inV (.int (x:Nat)) (nis l) else inV (.int (x:Nat)) (nis l))=l.contains x:=fun l=>(if_neg (by simp)).trans (inV_nis x _)
        rw [e1]
        exact hQ _ (Same.refl _)
      · rw [← Th.furthest_eq hgl] at hl7
        exact k H7 D3 (s16.trans s7) (s16.free hD3) hl7
end
end Sh
end
section
namespace Sh
open PySem PySem.Spec PyProof.Rows L2
open Vbsgad (State Node)
def bzs (f:Int→Bool) (l:List Int):List V:=(l.map f).map V.bl
theorem bzs_snoc (f:Int→Bool) {l:List Int} {i:Nat} {z:Int} (h:l[i]?=some z):bzs f (l.take (i + 1))=bzs f (l.take i)++[.bl (f z)]:=by
  unfold bzs
  rw [take_snoc h,List.map_append,List.map_append]
  rfl
theorem bzs_len (f:Int→Bool) (l:List Int):(bzs f l).length=l.length:=by unfold bzs;rw [List.length_map,List.length_map]
theorem all_map (f:Int→Bool) (l:List Int):(l.map f).all id=l.all f:=by rw [List.all_map];rfl
def inN (s:State) (z:Int):Bool:=decide (0≤z∧z < (s.nodes.length:Int))
theorem inN_within (s:State) (l:List Int):l.all (inN s)=l.all fun z=>Vbsgad.within z 0 ((Vbsgad.size s:Int) - 1):=by
  congr 1
  funext z
  unfold inN Vbsgad.within
  apply Bool.eq_iff_iff.mpr
  rw [decide_eq_true_iff,decide_eq_true_iff]
  show _↔0≤z∧z≤(s.nodes.length:Int) - 1
  omega
section
variable {P:Program} {w:World} {K:PySem.W.Frag} {mg:Str→Option Value} {base:Heap} {T:Ad}
def rowV (r:Vbsgad.Got (List Nat)):V:=match r with
  | .ok _=>.non
  | .error e=>.int e
def sp_row_refusal (K:PySem.W.Frag) (T:Ad):Sp:=fun vs H Q _=>∃ net r s g zs,vs=[.ref net,.ref r]∧NetAt T H net s g∧SqL K H r (zis zs)∧zs.length≤1000∧∀ H',Same H H'→Q (rowV (Vbsgad.rowGot s zs)) H'
theorem ok_row_refusal (Y:Tx K mg T):FnOk P w K mg base CX0 2 T.f_row_refusal T.d_row_refusal ["network","row"] (sp_row_refusal K T):=by
  have G1:=ok_Network_has_node (P:=P) (w:=w) (base:=base) Y
  have G2:=ok_Node_is_open_to_strangers (P:=P) (w:=w) (base:=base) Y
  refine Y.F_row_refusal.ok sc_row_refusal (fun vs H Q E h=>?_) (fun cdv A outer s H vs Q E hr h=>?_)
  · obtain ⟨net,r,s,g,zs,rfl,_⟩:=h
    rfl
  · obtain ⟨net,r,s,g,zs,rfl,N,hrow,hlen,k⟩:=h
    have nd:=sc_row_refusal.nd
    obtain ⟨t1,k1⟩:=Y.k_NO_SUCH_NODE
    obtain ⟨t2,k2⟩:=Y.k_NOT_THAT_KIND
    obtain ⟨t3,k3⟩:=Y.k_THERE_TWICE
    refine' ⟨_,?d,?rd⟩
    case d =>
      refine' pss_cons (ps_if (pt_not (pt_val (pe_callB (cr_all rfl) (by rfl) Y.b_all (by decide +kernel) (pa_cons ?c1 pa_nil)))) (pss_one (ps_ret (pe_k (by rfl) k1))) pss_nil)
        (pss_cons (ps_if (pt_not (pt_val (pe_callB (cr_all rfl) (by rfl) Y.b_all (by decide +kernel) (pa_cons ?c2 pa_nil)))) (pss_one (ps_ret (pe_k (by rfl) k2))) pss_nil)
        (pss_cons (ps_if (pt_cmpR op_ne (pe_callB call_lenSet (by rfl) Y.b_len PySem.boot_len (pa_cons (pe_callTy (call_setL rfl) (by rfl) Y.b_set (by decide +kernel) (pa_cons (pv 1) pa_nil)) pa_nil)) (pe_callB call_len_seq (by rfl) Y.b_len PySem.boot_len (pa_cons (pv 1) pa_nil)) (nomark _)) (pss_one (ps_ret (pe_k (by rfl) k3))) pss_nil)
        (pss_one (ps_ret pe_non))))
      case c1 =>
        refine' pe_lc (own:=[("number",2)]) (te:=tMeth T.c_Network "has_node" (sp_Network_has_node T) [] E0 (tVar 0) (tCons (tVar 2) tNil)) (tt:=tYes) (g:=gName 2) rfl nd (pi_list (pv 1)) ?b ?g ?t ?e
        case b=>exact blkOk_by (by show blkC n_row_refusal (defScope s_row_refusal) _ _=true;decide +kernel)
        case g=>intro _ _ _ _ _;exact pg_name (i:=2) nd rfl (Or.inl rfl)
        case t=>intro _ _ _ _ _;exact pts_nil
        case e=>intro _ _ _ _ _;exact pe_meth (pv 0) Y.cl_Network Y.M_Network_has_node G1 hr Y.B_Network_has_node .nil pass0 (pa_cons (pv 2) pa_nil)
      case c2 =>
        refine' pe_lc (own:=[("number",2)]) (te:=tMeth T.c_Node "is_open_to_strangers" (sp_Node_is_open_to_strangers T) [] E0 (tOp (rIxL K) (tFld K (tVar 0) "nodes") (tVar 2)) tNil) (tt:=tYes) (g:=gName 2) rfl nd (pi_list (pv 1)) ?b ?g ?t ?e
        case b=>exact blkOk_by (by show blkC n_row_refusal (defScope s_row_refusal) _ _=true;decide +kernel)
        case g=>intro _ _ _ _ _;exact pg_name (i:=2) nd rfl (Or.inl rfl)
        case t=>intro _ _ _ _ _;exact pts_nil
        case e=>intro _ _ _ _ _;exact pe_meth0 (pe_ix ix_list (pe_fld (pv 0) rfl) (pv 2) (fun _ _=>rfl)) Y.cl_Node Y.M_Node_is_open_to_strangers G2 hr Y.B_Node_is_open_to_strangers .nil pass0
    case rd =>
      have hbig:∀ n,n≤1000→n < sizeLine:=fun n h=>Nat.lt_of_le_of_lt h (by decide)
      have eg:Vbsgad.rowGot s zs=if (zs.all (inN s))=false then .error (-1) else if (zs.all fun z=>Vbsgad.fillable s z.toNat)=false then .error (-3) else if Vbsgad.twice (zs.map Int.toNat)=true then .error (-6) else .ok (zs.map Int.toNat):=by
        unfold Vbsgad.rowGot
        rw [inN_within]
      rw [eg] at k
      refine ⟨_,rfl,r,rfl,⟨_,hrow⟩,fun D hD=>?_⟩
      refine lc_list (K:=K) (a:=r) (xs:=zis zs) (fun i H'=>Same H H'∧H' D=some (.lst (bzs (inN s) (zs.take i)))) ⟨Same.lay hD,upd_same⟩
        (fun i H' _ ⟨s1,_⟩=>s1.seq hrow) ?_ ?_
      · rintro i x H' hx ⟨s1,hl⟩
        obtain ⟨z,hz,rfl⟩:=zis_get hx
        have hi:i < zs.length:=(List.getElem?_eq_some_iff.mp hz).1
        refine ⟨rfl,?_⟩
        dsimp only [tYes]
        refine iteT ⟨_,rfl,net,_,_,rfl,s1 _ _ N.obj,wf_none _ _ (by decide +kernel) (by decide +kernel),_,rfl,net,z,s,g,rfl,N.same s1,_,hl,by rw [bzs_len,List.length_take];exact hbig _ (by omega),s1.wr hD,?_⟩
        rw [upd_same,bzs_snoc _ hz]
        rfl
      rintro H1 ⟨s1,hl1⟩
      rw [zis_len,List.take_length] at hl1
      refine ⟨D,_,rfl,SqL.of hl1,_,rfl,?_⟩
      rw [all_map]
      cases hall:zs.all (inN s) with
      | false =>
        rw [hall] at k
        exact iteT (k H1 s1)
      | true =>
        rw [hall] at k
        refine iteF ?_
        have hin:∀ z∈zs,0≤z∧z < (s.nodes.length:Int):=fun z hz=>by
          have:=List.all_eq_true.mp hall z hz
          exact of_decide_eq_true this
        have N1:=N.same s1
        have hrow1:SqL K H1 r (zis zs):=s1.seq hrow
        refine ⟨_,rfl,r,rfl,⟨_,hrow1⟩,fun D2 hD2=>?_⟩
        refine lc_list (K:=K) (a:=r) (xs:=zis zs) (fun i H'=>Same H1 H'∧H' D2=some (.lst (bzs (fun z=>Vbsgad.fillable s z.toNat) (zs.take i)))) ⟨Same.lay hD2,upd_same⟩
          (fun i H' _ ⟨s2,_⟩=>s2.seq hrow1) ?_ ?_
        · rintro i x H' hx ⟨s2,hl⟩
          obtain ⟨z,hz,rfl⟩:=zis_get hx
          have hi:i < zs.length:=(List.getElem?_eq_some_iff.mp hz).1
          obtain ⟨q1,q2⟩:=hin z (List.mem_of_getElem? hz)
          have hzl:z.toNat < s.nodes.length:=by omega
          obtain ⟨a,ha,hnx,dx,hnode⟩:=N1.node hzl
          refine ⟨rfl,?_⟩
          dsimp only [tYes]
          refine iteT ⟨_,rfl,net,T.c_Network,_,_,_,rfl,s2 _ _ N1.obj,Y.cl_Network,Y.na_Network_nodes,wf_nodes _ _,_,rfl,g.ln,_,_,_,rfl,rfl,SqL.of (s2 _ _ N1.nl),at_of (j:=z.toNat) (v:=V.ref a) (by omega) (by rw [List.getElem?_map,ha];rfl),a,dx,_,rfl,s2 _ _ hnode,nf_none _ (by decide +kernel) (by decide +kernel) (by decide +kernel),a,_,rfl,⟨dx,s2 _ _ hnode⟩,_,hl,by rw [bzs_len,List.length_take];exact hbig _ (by omega),s2.wr hD2,?_⟩
          rw [upd_same,bzs_snoc _ hz]
          rfl
        rintro H2 ⟨s2,hl2⟩
        rw [zis_len,List.take_length] at hl2
        refine ⟨D2,_,rfl,SqL.of hl2,_,rfl,?_⟩
        rw [all_map]
        cases hall2:zs.all fun z=>Vbsgad.fillable s z.toNat with
        | false =>
          rw [hall2] at k
          exact iteT (k H2 (s1.trans s2))
        | true =>
          rw [hall2] at k
          refine iteF ?_
          have hrow2:SqL K H2 r (zis zs):=s2.seq hrow1
          refine ⟨_,rfl,r,zs,rfl,hrow2,by omega,fun p hp=>?_⟩
          have s3:Same H2 (upd H2 p (.set (fun k=>(dd zs).any (· == k)) (dd zs).length)):=Same.lay hp
          refine ⟨p,_,_,rfl,upd_same,_,rfl,r,_,rfl,.inl (s3.seq hrow2),rfl,_,rfl,?_⟩
          have hs:=(s1.trans s2).trans s3
          have etw:Vbsgad.twice (zs.map Int.toNat)=false↔(dd zs).length=zs.length:=by
            rw [Th.twice_iff,nodup_toNat fun z hz=>(hin z hz).1,dd_len]
          rw [dec_int,zis_len]
          by_cases hd:(dd zs).length=zs.length
          · rw [etw.mpr hd] at k
            have e:(!(((dd zs).length:Int) == (zs.length:Int)))=false:=by rw [hd];simp
            rw [e]
            exact iteF (k _ hs)
          · have e1:Vbsgad.twice (zs.map Int.toNat)=true:=by
              cases q:Vbsgad.twice (zs.map Int.toNat) with
              | true=>rfl
              | false=>exact absurd (etw.mp q) hd
            rw [e1] at k
            have e:(!(((dd zs).length:Int) == (zs.length:Int)))=true:=by
              simp
              omega
            rw [e]
            exact iteT (k _ hs)
end
end Sh
end
section
namespace Sh
open PySem PySem.Spec PyProof.Rows L2
open Vbsgad (State Node)
theorem erase_map {α β:Type} (f:α→β):∀ (l:List α) (i:Nat),(l.map f).eraseIdx i=(l.eraseIdx i).map f
  | [],_=>rfl
  | _ :: _,0=>rfl
  | a :: l,i + 1=>congrArg (List.cons (f a)) (erase_map f l i)
def OwnN (net:Addr) (g:Geo) (b:Addr):Prop:=b=net∨b=g.ln∨b=g.ll∨b∈g.as
structure Chg (H H':Hp) (net:Addr) (g g':Geo):Prop where
  keep:∀ b o,H b=some o→¬ OwnN net g b→H' b=some o
  new:∀ b,OwnN net g' b→OwnN net g b∨H b=none
  there:∀ b,H' b=none→H b=none
theorem upd_none {H:Hp} {p b:Addr} {o:HO} (h:upd H p o b=none):H b=none:=by
  by_cases e:b=p
  · rw [e,upd_same] at h;cases h
  · rw [upd_ne e] at h;exact h
theorem Chg.same {H H':Hp} {net:Addr} {g:Geo} (s:Same H H'):Chg H H' net g g:=⟨fun b o e _=>s b o e,fun b h=>.inl h,fun b h=>s.free h⟩
theorem Chg.trans {H H1 H2:Hp} {net:Addr} {g g1 g2:Geo} (a:Chg H H1 net g g1) (b:Chg H1 H2 net g1 g2):Chg H H2 net g g2:=by
  have key:∀ x o,H x=some o→¬ OwnN net g x→¬ OwnN net g1 x:=fun x o e hn h=>by
    rcases a.new x h with q | q
    · exact hn q
    · rw [e] at q;cases q
  refine ⟨fun x o e hn=>b.keep x o (a.keep x o e hn) (key x o e hn),fun x h=>?_,fun x h=>a.there x (b.there x h)⟩
  rcases b.new x h with q | q
  · exact a.new x q
  · exact .inr (a.there x q)
theorem Chg.own {H:Hp} {net:Addr} {g:Geo} {p:Addr} {o:HO} (h:OwnN net g p):Chg H (upd H p o) net g g :=
  ⟨fun b u e hn=>by rw [upd_ne (fun (q:b=p)=>hn (q ▸ h))];exact e,fun b h=>.inl h,fun b h=>upd_none h⟩
section
variable {T:Ad} {H:Hp} {net:Addr} {s:State} {g:Geo}
theorem NetAt.kinds (N:NetAt T H net s g):net≠g.ln∧net≠g.ll∧(∀ a∈g.as,a≠g.ln∧a≠g.ll):=by
  refine ⟨ne_of N.obj N.nl (by intro z;cases z),ne_of N.obj N.tl (by intro z;cases z),fun a ha=>?_⟩
  obtain ⟨i,hi⟩:=List.getElem?_of_mem ha
  have hl:i < s.nodes.length:=by rw [← N.len];exact (List.getElem?_eq_some_iff.mp hi).1
  obtain ⟨a',ha',_,dx,hn⟩:=N.node hl
  obtain rfl:a=a':=Option.some.inj (hi.symm.trans ha')
  exact ⟨ne_of hn N.nl (by intro z;cases z),ne_of hn N.tl (by intro z;cases z)⟩
theorem NetAt.tupne (N:NetAt T H net s g) {i:Nat} {t:Addr} (ht:g.ts[i]?=some t):∃ l,s.lines[i]?=some l∧H t=some (.tup [.int (l.1:Nat),.int (l.2:Nat)]):=by
  have hl:i < s.lines.length:=by rw [← N.tlen];exact (List.getElem?_eq_some_iff.mp ht).1
  exact ⟨_,List.getElem?_eq_getElem hl,N.tat i t _ ht (List.getElem?_eq_getElem hl)⟩
theorem NetAt.setNode (N:NetAt T H net s g) {i:Nat} {a dx:Addr} {x y:Node} (ha:g.as[i]?=some a) (hH:H a=some (.ins T.c_Node dx (nf x))) (hw:Th.Wfs { s with nodes:=s.nodes.set i y }) :
    NetAt T (upd H a (.ins T.c_Node dx (nf y))) net { s with nodes:=s.nodes.set i y } g:=by
  have hm:=List.mem_of_getElem? ha
  obtain ⟨h1,h2⟩:=N.kinds.2.2 a hm
  have hna:net≠a:=ne_of N.obj hH (by intro z;have q:=congrArg List.length (HO.ins.inj z).2.2;exact absurd q (by show ¬ 2=3;decide))
  refine ⟨by rw [upd_ne hna];exact N.obj,by rw [upd_ne (Ne.symm h1)];exact N.nl,N.nd,by rw [List.length_set];exact N.len,fun j b z hj hz=>?_,by rw [upd_ne (Ne.symm h2)];exact N.tl,N.tlen,fun j t l hj hl=>?_,N.ne,hw⟩
  · by_cases e:j=i
    · subst e
      obtain rfl:b=a:=Option.some.inj (hj.symm.trans ha)
      have hil:j < s.nodes.length:=by rw [← N.len];exact (List.getElem?_eq_some_iff.mp ha).1
      have:z=y:=by
        have hz':(s.nodes.set j y)[j]?=some z:=hz
        rw [List.getElem?_set_self hil] at hz'
        exact (Option.some.inj hz').symm
      subst this
      exact ⟨dx,upd_same⟩
    · have hne:b≠a:=fun q=>e (nd_ix N.nd hj (by rw [q];exact ha))
      have hz':(s.nodes.set i y)[j]?=some z:=hz
      rw [List.getElem?_set_ne (fun q=>e q.symm)] at hz'
      obtain ⟨d,hd⟩:=N.at_ j b z hj hz'
      exact ⟨d,by rw [upd_ne hne];exact hd⟩
  · have ht:=N.tat j t l hj hl
    rw [upd_ne (ne_of ht hH (by intro z;cases z))]
    exact ht
theorem NetAt.addNode (N:NetAt T H net s g) {a:Addr} {x:Node} (ha:a ∉ g.as) (hH:NodeAt T.c_Node H a x) (hw:Th.Wfs { s with nodes:=s.nodes++[x] }) :
    NetAt T (upd H g.ln (.lst (g.as.map V.ref++[.ref a]))) net { s with nodes:=s.nodes++[x] } { g with as:=g.as++[a] }:=by
  obtain ⟨k1,k2,k3⟩:=N.kinds
  obtain ⟨dx,hd⟩:=hH
  have hal:a≠g.ln:=ne_of hd N.nl (by intro z;cases z)
  refine ⟨by rw [upd_ne k1];exact N.obj,by rw [List.map_append];exact upd_same,?_,by rw [List.length_append,List.length_append,N.len];rfl,fun j b z hj hz=>?_,by rw [upd_ne (Ne.symm N.ne)];exact N.tl,N.tlen,fun j t l hj hl=>?_,N.ne,hw⟩
  · show (g.as++[a]).Nodup
    rw [List.nodup_append]
    refine ⟨N.nd,by simp,fun b hb c hc e=>?_⟩
    simp at hc
    exact ha (by rw [← hc,← e];exact hb)
  · have hj':(g.as++[a])[j]?=some b:=hj
    have hz':(s.nodes++[x])[j]?=some z:=hz
    by_cases hjl:j < g.as.length
    · rw [List.getElem?_append_left hjl] at hj'
      rw [List.getElem?_append_left (by rw [← N.len];exact hjl)] at hz'
      obtain ⟨d,hd'⟩:=N.at_ j b z hj' hz'
      exact ⟨d,by rw [upd_ne (k3 b (List.mem_of_getElem? hj')).1];exact hd'⟩
    · rw [List.getElem?_append_right (by omega)] at hj'
      rw [List.getElem?_append_right (by rw [← N.len];omega),← N.len] at hz'
      have e1:=List.mem_of_getElem? hj'
      have e2:=List.mem_of_getElem? hz'
      simp at e1 e2
      subst e1
      subst e2
      exact ⟨dx,by rw [upd_ne hal];exact hd⟩
  · have ht:=N.tat j t l hj hl
    rw [upd_ne (ne_of ht N.nl (by intro z;cases z))]
    exact ht
theorem NetAt.addLine (N:NetAt T H net s g) {t:Addr} {l:Nat × Nat} (ht:H t=some (.tup [.int (l.1:Nat),.int (l.2:Nat)])) (hw:Th.Wfs { s with lines:=s.lines++[l] }) :
    NetAt T (upd H g.ll (.lst (g.ts.map V.ref++[.ref t]))) net { s with lines:=s.lines++[l] } { g with ts:=g.ts++[t] }:=by
  obtain ⟨k1,k2,k3⟩:=N.kinds
  refine ⟨by rw [upd_ne k2];exact N.obj,by rw [upd_ne N.ne];exact N.nl,N.nd,N.len,fun j b z hj hz=>?_,by rw [List.map_append];exact upd_same,by rw [List.length_append,List.length_append,N.tlen];rfl,fun j t' l' hj hl=>?_,N.ne,hw⟩
  · obtain ⟨d,hd⟩:=N.at_ j b z hj hz
    exact ⟨d,by rw [upd_ne (k3 b (List.mem_of_getElem? hj)).2];exact hd⟩
  · have hj':(g.ts++[t])[j]?=some t':=hj
    have hl':(s.lines++[l])[j]?=some l':=hl
    have htl:H t'=some (.tup [.int (l'.1:Nat),.int (l'.2:Nat)]):=by
      by_cases hjl:j < g.ts.length
      · rw [List.getElem?_append_left hjl] at hj'
        rw [List.getElem?_append_left (by rw [← N.tlen];exact hjl)] at hl'
        exact N.tat j t' l' hj' hl'
      · rw [List.getElem?_append_right (by omega)] at hj'
        rw [List.getElem?_append_right (by rw [← N.tlen];omega),← N.tlen] at hl'
        have e1:=List.mem_of_getElem? hj'
        have e2:=List.mem_of_getElem? hl'
        simp at e1 e2
        subst e1
        subst e2
        exact ht
    rw [upd_ne (ne_of htl N.tl (by intro z;cases z))]
    exact htl
theorem NetAt.dropLine (N:NetAt T H net s g) (i:Nat) (hw:Th.Wfs { s with lines:=s.lines.eraseIdx i }) :
    NetAt T (upd H g.ll (.lst ((g.ts.map V.ref).eraseIdx i))) net { s with lines:=s.lines.eraseIdx i } { g with ts:=g.ts.eraseIdx i }:=by
  obtain ⟨k1,k2,k3⟩:=N.kinds
  refine ⟨by rw [upd_ne k2];exact N.obj,by rw [upd_ne N.ne];exact N.nl,N.nd,N.len,fun j b z hj hz=>?_,?_,?_,fun j t' l' hj hl=>?_,N.ne,hw⟩
  · obtain ⟨d,hd⟩:=N.at_ j b z hj hz
    exact ⟨d,by rw [upd_ne (k3 b (List.mem_of_getElem? hj)).2];exact hd⟩
  · show upd H g.ll _ g.ll=some (.lst ((g.ts.eraseIdx i).map V.ref))
    rw [upd_same,erase_map]
  · show (g.ts.eraseIdx i).length=(s.lines.eraseIdx i).length
    rw [List.length_eraseIdx,List.length_eraseIdx,N.tlen]
  · have hj':(g.ts.eraseIdx i)[j]?=some t':=hj
    have hl':(s.lines.eraseIdx i)[j]?=some l':=hl
    rw [List.getElem?_eraseIdx] at hj' hl'
    have htl:H t'=some (.tup [.int (l'.1:Nat),.int (l'.2:Nat)]):=by
      split at hj'
      · rename_i hlt
        rw [if_pos hlt] at hl'
        exact N.tat _ t' l' hj' hl'
      · rename_i hlt
        rw [if_neg hlt] at hl'
        exact N.tat _ t' l' hj' hl'
    rw [upd_ne (ne_of htl N.tl (by intro z;cases z))]
    exact htl
end
def spA0 (T:Ad) (p:Int) (n:Nat):Sp:=fun vs H Q _=>∃ net a s g xs,vs=[.ref net,.ref a]∧NetAt T H net s g∧H a=some (.lst (zis xs))∧xs.length=n∧¬ OwnN net g a ∧
  ∀ H' q g',NetAt T H' net (VbsgadNeutral.step s [p :: xs]).1 g'→Chg H H' net g g'→H q=none→H' q=some (.lst (zis (VbsgadNeutral.step s [p :: xs]).2))→Q (.ref q) H'
def spA1 (T:Ad) (p:Int) (n:Nat):Sp:=fun vs H Q _=>∃ net a r s g xs row,vs=[.ref net,.ref a]∧NetAt T H net s g∧H a=some (.lst (zis xs++[.ref r]))∧H r=some (.lst (zis row))∧xs.length=n∧row.length≤1000∧¬ OwnN net g a∧¬ OwnN net g r ∧
  ∀ H' q g',NetAt T H' net (VbsgadNeutral.step s [p :: xs,row]).1 g'→Chg H H' net g g'→H q=none→H' q=some (.lst (zis (VbsgadNeutral.step s [p :: xs,row]).2))→Q (.ref q) H'
theorem len0 {xs:List Int} (h:xs.length=0):xs=[]:=List.length_eq_zero_iff.mp h
theorem len1:∀ {xs:List Int},xs.length=1→∃ a,xs=[a]
  | [a],_=>⟨a,rfl⟩
theorem len2:∀ {xs:List Int},xs.length=2→∃ a b,xs=[a,b]
  | [a,b],_=>⟨a,b,rfl⟩
theorem len3:∀ {xs:List Int},xs.length=3→∃ a b c,xs=[a,b,c]
  | [a,b,c],_=>⟨a,b,c,rfl⟩
end Sh
end
section
namespace Sh
open PySem PySem.Spec PyProof.Rows L2
open Vbsgad (State Node)
theorem one_le:(1:Nat)≤sizeLine:=by decide
section
variable {P:Program} {w:World} {K:PySem.W.Frag} {mg:Str→Option Value} {base:Heap} {T:Ad}
theorem bit_of {z:Int} (h:z=0∨z=1):Vbsgad.bit (z == 1)=z:=by
  rcases h with rfl | rfl <;> rfl
theorem within01 {z:Int} (h:Vbsgad.within z 0 1=true):z=0∨z=1:=by
  have:=Th.within_iff.mp h
  omega
theorem notin01 (b:Int):(if true=true then !inV (.int b) [.int 0,.int 1] else inV (.int b) [.int 0,.int 1])=!Vbsgad.within b 0 1:=by
  rw [if_pos rfl,in01]
theorem step_node (s:State) (a b c:Int):VbsgadNeutral.step s [[0,a,b,c]]=Vbsgad.step s (.node a b c):=rfl
theorem node_no {s:State} {a b c:Int} (h:(Vbsgad.within a 0 1 && (Vbsgad.within b 0 Vbsgad.PLACES && Vbsgad.within c 0 1))=false∨(a=0∧(b≠0∨c≠0))):Vbsgad.step s (.node a b c)=(s,[-2]):=by
  show Vbsgad.change s (if _ then _ else _)=_
  rw [if_pos h]
  rfl
theorem node_full {s:State} {a b c:Int} (h:¬ ((Vbsgad.within a 0 1 && (Vbsgad.within b 0 Vbsgad.PLACES && Vbsgad.within c 0 1))=false∨(a=0∧(b≠0∨c≠0)))) (h2:24≤s.nodes.length):Vbsgad.step s (.node a b c)=(s,[-4]):=by
  show Vbsgad.change s (if _ then _ else _)=_
  rw [if_neg h,if_pos (show Vbsgad.NODES≤Vbsgad.size s from h2)]
  rfl
theorem node_ok {s:State} {a b c:Int} (h:¬ ((Vbsgad.within a 0 1 && (Vbsgad.within b 0 Vbsgad.PLACES && Vbsgad.within c 0 1))=false∨(a=0∧(b≠0∨c≠0)))) (h2:¬ 24≤s.nodes.length) :
    Vbsgad.step s (.node a b c)=({ s with nodes:=s.nodes++[⟨a == 1,b.toNat,c == 1⟩] },[(s.nodes.length:Int)]):=by
  show Vbsgad.change s (if _ then _ else _)=_
  rw [if_neg h,if_neg (show ¬ Vbsgad.NODES≤Vbsgad.size s from h2)]
  rfl
theorem ok_answer_node (Y:Tx K mg T):FnOk P w K mg base CX0 3 T.f_answer_node T.d_answer_node ["network","arguments"] (spA0 T 0 3):=by
  have G1:=ok_are_in_range (P:=P) (w:=w) (base:=base) Y
  have G2:=ok_Node___init__ (P:=P) (w:=w) (base:=base) Y
  refine Y.F_answer_node.ok sc_answer_node (fun vs H Q E h=>?_) (fun cdv A outer s H vs Q E hr h=>?_)
  · obtain ⟨net,a,s,g,xs,rfl,_⟩:=h
    rfl
  · obtain ⟨net,a,s,g,xs,rfl,N,ha,hx,hown,k⟩:=h
    obtain ⟨st,f,b,rfl⟩:=len3 hx
    rw [step_node] at k
    have nd:=sc_answer_node.nd
    have hr1:Room 1 _:=hr.mono (by decide)
    obtain ⟨t1,k1⟩:=Y.k_OUT_OF_RANGE
    obtain ⟨t2,k2⟩:=Y.k_NO_MORE_ROOM
    obtain ⟨t3,k3⟩:=Y.k_MOST_NODES
    refine ⟨_,pss_cons (ps_set (i:=2) nd rfl (Or.inl rfl) (pe_ix ix_list (pv 1) pe_int (fun _ _=>rfl)))
      (pss_cons (ps_set (i:=3) nd rfl (Or.inl rfl) (pe_ix ix_list (pv 1) pe_int (fun _ _=>rfl)))
      (pss_cons (ps_set (i:=4) nd rfl (Or.inl rfl) (pe_ix ix_list (pv 1) pe_int (fun _ _=>rfl)))
      (pss_cons (ps_if (PW.pt (pw_or (pt_cmpR op_notIn_seq (pv 2) (pe_tup (pa_cons pe_int (pa_cons pe_int pa_nil))) (by with_unfolding_all rfl)) (pw_or1 (pt_not (pt_val (pe_call G1 hr1 (by rfl) Y.G_are_in_range Y.F_are_in_range.kp Y.B_are_in_range .nil pass0 (pa_cons (pv 3) (pa_cons (pv 4) pa_nil))))))))
        (pss_one (ps_ret (pe_lst (pa_cons (pe_k (by rfl) k1) pa_nil)))) pss_nil)
      (pss_cons (ps_if (PW.pt (pw_and (pt_cmpR op_eq (pv 2) pe_int (nomark _)) (pw_and1 (PW.pt (pw_or (pt_cmpR op_ne (pv 3) pe_int (nomark _)) (pw_or1 (pt_cmpR op_ne (pv 4) pe_int (nomark _))))))))
        (pss_one (ps_ret (pe_lst (pa_cons (pe_k (by rfl) k1) pa_nil)))) pss_nil)
      (pss_cons (ps_if (pt_cmpR op_eq (pe_callB call_len_seq (by rfl) Y.b_len PySem.boot_len (pa_cons (pe_fld (pv 0) rfl) pa_nil)) (pe_k (by rfl) k3) (nomark _))
        (pss_one (ps_ret (pe_lst (pa_cons (pe_k (by rfl) k2) pa_nil)))) pss_nil)
      (pss_cons (ps_expr (pe_bm PySem.F.plainAttrs_list PySem.F.slot_list_append PySem.F.type_list_append mt_append (pe_fld (pv 0) rfl) (pa_cons (pe_make Y.mk_Node G2 hr (by rfl) Y.gc_Node Y.B_Node___init__ .nil pass0 (pa_cons (pv 2) (pa_cons (pv 3) (pa_cons (pv 4) pa_nil)))) pa_nil)))
      (pss_one (ps_ret (pe_lst (pa_cons (pe_op op_sub (pe_callB call_len_seq (by rfl) Y.b_len PySem.boot_len (pa_cons (pe_fld (pv 0) rfl) pa_nil)) pe_int) pa_nil)))))))))),?_⟩
    refine ⟨_,rfl,a,_,_,_,rfl,rfl,SqL.of ha,rfl,?_⟩
    refine ⟨_,rfl,a,_,_,_,rfl,rfl,SqL.of ha,rfl,?_⟩
    refine ⟨_,rfl,a,_,_,_,rfl,rfl,SqL.of ha,rfl,?_⟩
    refine ⟨_,rfl,by show 2≤sizeLine;decide,fun p hp=>⟨p,_,rfl,.inr (SqT.of upd_same),rfl,rfl,_,rfl,?_⟩⟩
    have s1:Same H (upd H p (.tup [.int 0,.int 1])):=Same.lay hp
    have no:∀ H1,Same H H1→((Vbsgad.within st 0 1 && (Vbsgad.within f 0 Vbsgad.PLACES && Vbsgad.within b 0 1))=false∨(st=0∧(f≠0∨b≠0)))→∀ q,H1 q=none→Q (.ref q) (upd H1 q (.lst [.int (-2)])):=by
      intro H1 sm hc q hq
      rw [node_no hc] at k
      exact k _ q g (N.same (sm.trans (Same.lay hq))) (Chg.same (sm.trans (Same.lay hq))) (sm.free hq) upd_same
    rw [notin01]
    cases w1:Vbsgad.within st 0 1 with
    | false =>
      exact iteT (iteT ⟨one_le,fun q hq=>no _ s1 (.inl (by rw [w1];rfl)) q hq⟩)
    | true =>
      refine iteF ⟨_,rfl,_,rfl,f,b,rfl,fun H1 s2=>⟨_,rfl,?_⟩⟩
      have s12:=s1.trans s2
      cases w2:Vbsgad.within f 0 Vbsgad.PLACES && Vbsgad.within b 0 1 with
      | false =>
        exact iteT ⟨one_le,fun q hq=>no _ s12 (.inl (by rw [w1,w2];rfl)) q hq⟩
      | true =>
        refine iteF ?_
        have hw:Vbsgad.within f 0 Vbsgad.PLACES=true∧Vbsgad.within b 0 1=true:=by simpa using w2
        have hst:=within01 w1
        have hb:=within01 hw.2
        have hf:0≤f∧f≤4:=Th.within_iff.mp hw.1
        have go:¬ (st=0∧(f≠0∨b≠0))→∀ R,R=(fun v H'=>Q v H')→tSeq (tIfS (tTest (tOp rEq (tCB (fun xs H Q=>∃ p ys,xs=[V.ref p]∧(SqL K H p ys∨SqT K H p ys)∧Q (.int ys.length) H) (tCons (tFld K (tVar 0) "nodes") tNil)) (tC (.int 24)))) (tRet (tLst (tCons (tC (.int (-4))) tNil))) tNext)
            (tSeq (tDrop (tBM K "list" rAppend (tFld K (tVar 0) "nodes") (tCons (tMake T.c_Node (sp_Node___init__ T) [] E0 (tCons (tVar 2) (tCons (tVar 3) (tCons (tVar 4) tNil)))) tNil)))
            (tRet (tLst (tCons (tOp (rI0 fun i j=>.int (i - j)) (tCB (fun xs H Q=>∃ p ys,xs=[V.ref p]∧(SqL K H p ys∨SqT K H p ys)∧Q (.int ys.length) H) (tCons (tFld K (tVar 0) "nodes") tNil)) (tC (.int 1))) tNil)))) { nx:=fun _ H'=>Q .non H',rt:=R } [some (.ref net),some (.ref a),some (.int st),some (.int f),some (.int b)] H1:=by
          intro hcc R hR
          subst hR
          have hnc:¬ ((Vbsgad.within st 0 1 && (Vbsgad.within f 0 Vbsgad.PLACES && Vbsgad.within b 0 1))=false∨(st=0∧(f≠0∨b≠0))):=by
            rintro (q | q)
            · rw [w1,w2] at q;cases q
            · exact hcc q
          have N1:=N.same s12
          refine ⟨_,rfl,net,T.c_Network,_,_,_,rfl,N1.obj,Y.cl_Network,Y.na_Network_nodes,wf_nodes _ _,_,_,rfl,.inl (SqL.of N1.nl),rfl,_,rfl,?_⟩
          have elen:decide (V.int ((g.as.map V.ref).length:Nat)=V.int 24)=decide (s.nodes.length=24):=by
            rw [dec_int,List.length_map,N.len]
            apply Bool.eq_iff_iff.mpr
            simp
            omega
          rw [elen]
          have hsz:=N.wfs.sz
          by_cases h24:s.nodes.length=24
          · rw [decide_eq_true h24]
            refine iteT ⟨one_le,fun q hq=>?_⟩
            rw [node_full hnc (by omega)] at k
            exact k _ q g (N.same (s12.trans (Same.lay hq))) (Chg.same (s12.trans (Same.lay hq))) (s12.free hq) upd_same
          · rw [decide_eq_false h24]
            refine iteF ?_
            rw [node_ok hnc (by omega)] at k
            have hwf:Th.Wfs { s with nodes:=s.nodes++[⟨st == 1,f.toNat,b == 1⟩] }:=by
              have:=N.wfs.step (.node st f b)
              rw [node_ok hnc (by omega)] at this
              exact this
            refine ⟨_,rfl,net,T.c_Network,_,_,_,rfl,N1.obj,Y.cl_Network,Y.na_Network_nodes,wf_nodes _ _,.inl ⟨rfl,_,SqL.of N1.nl⟩,_,rfl,_,rfl,_,rfl,fun x dx hx hdx hne=>?_⟩
            refine ⟨x,dx,⟨st == 1,f.toNat,b == 1⟩,?_,upd_same,fun H2 hN2 kp=>⟨rfl,?_⟩⟩
            · show [V.ref x,V.int st,V.int f,V.int b]=[V.ref x,V.int (Vbsgad.bit (st == 1)),V.int (f.toNat:Int),V.int (Vbsgad.bit (b == 1))]
              rw [bit_of hst,bit_of hb,Int.toNat_of_nonneg hf.1]
            have s3:Same H1 H2:=Same.made hx hdx kp
            have N2:=N1.same s3
            refine ⟨g.ln,_,_,rfl,rfl,N2.nl,by rw [List.length_map,N.len];exact Nat.lt_of_le_of_lt hsz (by decide),?_⟩
            have hxa:x ∉ g.as:=fun q=>by
              obtain ⟨i,hi⟩:=List.getElem?_of_mem q
              have hl:i < s.nodes.length:=by rw [← N.len];exact (List.getElem?_eq_some_iff.mp hi).1
              obtain ⟨a',ha',_,d,hn⟩:=N1.node hl
              obtain rfl:x=a':=Option.some.inj (hi.symm.trans ha')
              rw [hn] at hx
              cases hx
            have N3:=N2.addNode hxa hN2 hwf
            have hx0:H x=none:=s12.free hx
            have C3:Chg H (upd H2 g.ln (.lst (g.as.map V.ref++[.ref x]))) net g { g with as:=g.as++[x] }:=by
              refine ⟨fun c o e hn=>?_,fun c hc=>?_,fun c hc=>s12.free (s3.free (upd_none hc))⟩
              · rw [upd_ne (fun (q:c=g.ln)=>hn (.inr (.inl q)))]
                exact s3 _ _ (s12 _ _ e)
              · rcases hc with q | q | q | q
                · exact .inl (.inl q)
                · exact .inl (.inr (.inl q))
                · exact .inl (.inr (.inr (.inl q)))
                · rcases List.mem_append.mp q with q | q
                  · exact .inl (.inr (.inr (.inr q)))
                  · simp at q
                    rw [q];exact .inr hx0
            refine ⟨_,rfl,net,T.c_Network,_,_,_,rfl,N3.obj,Y.cl_Network,Y.na_Network_nodes,wf_nodes _ _,_,_,rfl,.inl (SqL.of N3.nl),_,_,rfl,rfl,one_le,fun q hq=>?_⟩
            have e5:(((g.as++[x]).map V.ref).length:Int) - 1=(s.nodes.length:Int):=by
              rw [List.length_map,List.length_append,N.len,List.length_singleton]
              omega
            refine k _ q { g with as:=g.as++[x] } (N3.same (Same.lay hq)) (C3.trans (Chg.same (Same.lay hq))) (C3.there q hq) ?_
            rw [upd_same]
            exact congrArg (fun z=>some (HO.lst [V.int z])) e5
        refine ⟨_,rfl,rfl,_,rfl,?_⟩
        by_cases h0:st=0
        · rw [decide_eq_true (show V.int st=V.int 0 by rw [h0])]
          refine iteT ⟨_,rfl,rfl,_,rfl,?_⟩
          by_cases hf0:f=0
          · rw [decide_eq_true (show V.int f=V.int 0 by rw [hf0])]
            refine iteF ⟨_,rfl,rfl,_,rfl,?_⟩
            by_cases hb0:b=0
            · rw [decide_eq_true (show V.int b=V.int 0 by rw [hb0])]
              refine iteF ?_
              exact go (fun q=>q.2.elim (fun z=>z hf0) fun z=>z hb0) _ rfl
            · rw [decide_eq_false (show ¬ V.int b=V.int 0 from fun z=>hb0 (V.int.inj z))]
              refine iteT ⟨one_le,fun q hq=>no _ s12 (.inr ⟨h0,.inr hb0⟩) q hq⟩
          · rw [decide_eq_false (show ¬ V.int f=V.int 0 from fun z=>hf0 (V.int.inj z))]
            refine iteT (iteT ⟨one_le,fun q hq=>no _ s12 (.inr ⟨h0,.inl hf0⟩) q hq⟩)
        · rw [decide_eq_false (show ¬ V.int st=V.int 0 from fun z=>h0 (V.int.inj z))]
          refine iteF (iteF ?_)
          exact go (fun q=>h0 q.1) _ rfl
end
end Sh
end
section
namespace Sh
open PySem PySem.Spec PyProof.Rows L2
open Vbsgad (State Node)
section
variable {P:Program} {w:World} {K:PySem.W.Frag} {mg:Str→Option Value} {base:Heap} {T:Ad}
theorem inN_true {s:State} {z:Int}:inN s z=true↔0≤z∧z < (Vbsgad.size s:Int):=decide_eq_true_iff
theorem got_ok {s:State} {z:Int} (h:inN s z=true):Vbsgad.nodeGot s z=.ok z.toNat:=Th.nodeGot_ok (inN_true.mp h)
theorem got_no {s:State} {z:Int} (h:inN s z=false):Vbsgad.nodeGot s z=.error (-1):=Th.nodeGot_no fun q=>by rw [inN_true.mpr q] at h;cases h
theorem line_no {s:State} {a b:Int} (h:inN s a=false∨inN s b=false):Vbsgad.step s (.line a b)=(s,[-1]):=by
  show Vbsgad.change s ((Vbsgad.nodeGot s a).bind _)=_
  rcases h with h | h
  · rw [got_no h];rfl
  · cases ha:inN s a with
    | false=>rw [got_no ha];rfl
    | true =>
      rw [got_ok ha]
      show Vbsgad.change s ((Vbsgad.nodeGot s b).bind _)=_
      rw [got_no h];rfl
theorem line_is {s:State} {a b:Int} (ha:inN s a=true) (hb:inN s b=true):Vbsgad.step s (.line a b)=Vbsgad.change s (if a.toNat=b.toNat then .error (-2) else if Vbsgad.joined s a.toNat b.toNat=true then .error (-7) else if 48≤s.lines.length then .error (-4) else .ok ({ s with lines:=s.lines++[(a.toNat,b.toNat)] },[(s.lines.length:Int)])):=by
  show Vbsgad.change s ((Vbsgad.nodeGot s a).bind _)=_
  rw [got_ok ha]
  show Vbsgad.change s ((Vbsgad.nodeGot s b).bind _)=_
  rw [got_ok hb]
  rfl
theorem ok_answer_line (Y:Tx K mg T):FnOk P w K mg base CX0 3 T.f_answer_line T.d_answer_line ["network","arguments"] (spA0 T 1 2):=by
  have G1:=ok_Network_has_node (P:=P) (w:=w) (base:=base) Y
  have G2:=ok_Network_are_joined (P:=P) (w:=w) (base:=base) Y
  refine Y.F_answer_line.ok sc_answer_line (fun vs H Q E h=>?_) (fun cdv A outer s H vs Q E hr h=>?_)
  · obtain ⟨net,a,s,g,xs,rfl,_⟩:=h
    rfl
  · obtain ⟨net,ar,s,g,xs,rfl,N,har,hx,hown,k⟩:=h
    obtain ⟨a,b,rfl⟩:=len2 hx
    have k:∀ H' q g',NetAt T H' net (Vbsgad.step s (.line a b)).1 g'→Chg H H' net g g'→H q=none→H' q=some (.lst (zis (Vbsgad.step s (.line a b)).2))→Q (.ref q) H':=k
    have nd:=sc_answer_line.nd
    have hr1:Room 1 _:=hr.mono (by decide)
    obtain ⟨t1,k1⟩:=Y.k_NO_SUCH_NODE
    obtain ⟨t2,k2⟩:=Y.k_OUT_OF_RANGE
    obtain ⟨t3,k3⟩:=Y.k_JOINED_ALREADY
    obtain ⟨t4,k4⟩:=Y.k_NO_MORE_ROOM
    obtain ⟨t5,k5⟩:=Y.k_MOST_LINES
    refine ⟨_,pss_cons (ps_set (i:=2) nd rfl (Or.inl rfl) (pe_ix ix_list (pv 1) pe_int (fun _ _=>rfl)))
      (pss_cons (ps_set (i:=3) nd rfl (Or.inl rfl) (pe_ix ix_list (pv 1) pe_int (fun _ _=>rfl)))
      (pss_cons (ps_if (PW.pt (pw_or (pt_not (pt_val (pe_meth (pv 0) Y.cl_Network Y.M_Network_has_node G1 hr1 Y.B_Network_has_node .nil pass0 (pa_cons (pv 2) pa_nil)))) (pw_or1 (pt_not (pt_val (pe_meth (pv 0) Y.cl_Network Y.M_Network_has_node G1 hr1 Y.B_Network_has_node .nil pass0 (pa_cons (pv 3) pa_nil)))))))
        (pss_one (ps_ret (pe_lst (pa_cons (pe_k (by rfl) k1) pa_nil)))) pss_nil)
      (pss_cons (ps_if (pt_cmpR op_eq (pv 2) (pv 3) (nomark _)) (pss_one (ps_ret (pe_lst (pa_cons (pe_k (by rfl) k2) pa_nil)))) pss_nil)
      (pss_cons (ps_if (pt_val (pe_meth (pv 0) Y.cl_Network Y.M_Network_are_joined G2 hr1 Y.B_Network_are_joined .nil pass0 (pa_cons (pv 2) (pa_cons (pv 3) pa_nil)))) (pss_one (ps_ret (pe_lst (pa_cons (pe_k (by rfl) k3) pa_nil)))) pss_nil)
      (pss_cons (ps_if (pt_cmpR op_eq (pe_callB call_len_seq (by rfl) Y.b_len PySem.boot_len (pa_cons (pe_fld (pv 0) rfl) pa_nil)) (pe_k (by rfl) k5) (nomark _)) (pss_one (ps_ret (pe_lst (pa_cons (pe_k (by rfl) k4) pa_nil)))) pss_nil)
      (pss_cons (ps_expr (pe_bm PySem.F.plainAttrs_list PySem.F.slot_list_append PySem.F.type_list_append mt_append (pe_fld (pv 0) rfl) (pa_cons (pe_tup (pa_cons (pv 2) (pa_cons (pv 3) pa_nil))) pa_nil)))
      (pss_one (ps_ret (pe_lst (pa_cons (pe_op op_sub (pe_callB call_len_seq (by rfl) Y.b_len PySem.boot_len (pa_cons (pe_fld (pv 0) rfl) pa_nil)) pe_int) pa_nil)))))))))),?_⟩
    have no:∀ (e:Int) H1,Same H H1→Vbsgad.step s (.line a b)=(s,[e])→∀ q,H1 q=none→Q (.ref q) (upd H1 q (.lst [.int e])):=by
      intro e H1 sm hc q hq
      rw [hc] at k
      exact k _ q g (N.same (sm.trans (Same.lay hq))) (Chg.same (sm.trans (Same.lay hq))) (sm.free hq) upd_same
    refine ⟨_,rfl,ar,_,_,_,rfl,rfl,SqL.of har,rfl,?_⟩
    refine ⟨_,rfl,ar,_,_,_,rfl,rfl,SqL.of har,rfl,?_⟩
    refine ⟨_,rfl,net,_,_,rfl,N.obj,wf_none _ _ (by decide +kernel) (by decide +kernel),_,rfl,net,a,s,g,rfl,N,_,rfl,?_⟩
    show if (!inN s a)=true then _ else _
    cases ia:inN s a with
    | false=>exact iteT (iteT ⟨one_le,no (-1) H (Same.refl _) (line_no (.inl ia))⟩)
    | true =>
      refine iteF ⟨_,rfl,net,_,_,rfl,N.obj,wf_none _ _ (by decide +kernel) (by decide +kernel),_,rfl,net,b,s,g,rfl,N,_,rfl,?_⟩
      show if (!inN s b)=true then _ else _
      cases ib:inN s b with
      | false=>exact iteT ⟨one_le,no (-1) H (Same.refl _) (line_no (.inr ib))⟩
      | true =>
        refine iteF ?_
        rw [line_is ia ib] at k no
        obtain ⟨a0,a1⟩:=inN_true.mp ia
        obtain ⟨b0,b1⟩:=inN_true.mp ib
        have a1':a.toNat < s.nodes.length:=by have:Vbsgad.size s=s.nodes.length:=rfl;omega
        have b1':b.toNat < s.nodes.length:=by have:Vbsgad.size s=s.nodes.length:=rfl;omega
        refine ⟨_,rfl,_,rfl,rfl,_,rfl,?_⟩
        by_cases hab:a=b
        · rw [decide_eq_true (show V.int a=V.int b by rw [hab])]
          exact iteT ⟨one_le,no (-2) H (Same.refl _) (by rw [if_pos (by rw [hab])];rfl)⟩
        · rw [decide_eq_false (show ¬ V.int a=V.int b from fun z=>hab (V.int.inj z))]
          have hab':¬ a.toNat=b.toNat:=by omega
          rw [if_neg hab'] at k no
          refine iteF ⟨_,rfl,net,_,_,rfl,N.obj,wf_none _ _ (by decide +kernel) (by decide +kernel),_,rfl,_,rfl,net,s,g,a.toNat,b.toNat,?_,N,fun H1 s1=>⟨_,rfl,?_⟩⟩
          · show [V.ref net,V.int a,V.int b]=[V.ref net,V.int (a.toNat:Int),V.int (b.toNat:Int)]
            rw [Int.toNat_of_nonneg a0,Int.toNat_of_nonneg b0]
          cases ij:Vbsgad.joined s a.toNat b.toNat with
          | true=>exact iteT ⟨one_le,no (-7) H1 s1 (by rw [if_pos ij];rfl)⟩
          | false =>
            have ij':¬ Vbsgad.joined s a.toNat b.toNat=true:=by rw [ij];simp
            rw [if_neg ij'] at k no
            have N1:=N.same s1
            refine iteF ⟨_,rfl,net,T.c_Network,_,_,_,rfl,N1.obj,Y.cl_Network,Y.na_Network_lines,wf_lines _ _,_,_,rfl,.inl (SqL.of N1.tl),rfl,_,rfl,?_⟩
            have elen:decide (V.int ((g.ts.map V.ref).length:Nat)=V.int 48)=decide (s.lines.length=48):=by
              rw [dec_int,List.length_map,N.tlen]
              apply Bool.eq_iff_iff.mpr
              simp
              omega
            rw [elen]
            have hll:=N.wfs.ll
            by_cases h48:s.lines.length=48
            · rw [decide_eq_true h48]
              exact iteT ⟨one_le,no (-4) H1 s1 (by rw [if_pos (by omega)];rfl)⟩
            · rw [decide_eq_false h48]
              rw [if_neg (by omega)] at k
              have hwf:Th.Wfs { s with lines:=s.lines++[(a.toNat,b.toNat)] }:=by
                have:=N.wfs.step (.line a b)
                rw [line_is ia ib,if_neg hab',if_neg ij',if_neg (by omega)] at this
                exact this
              refine iteF ⟨_,rfl,net,T.c_Network,_,_,_,rfl,N1.obj,Y.cl_Network,Y.na_Network_lines,wf_lines _ _,.inl ⟨rfl,_,SqL.of N1.tl⟩,_,rfl,_,rfl,by show 2≤sizeLine;decide,fun t ht=>?_⟩
              have s2:Same H1 (upd H1 t (.tup [.int a,.int b])):=Same.lay ht
              have N2:=N1.same s2
              refine ⟨g.ll,_,_,rfl,rfl,N2.tl,by rw [List.length_map,N.tlen];exact small48 hll,?_⟩
              have htt:(upd H1 t (.tup [.int a,.int b])) t=some (.tup [.int (a.toNat:Nat),.int (b.toNat:Nat)]):=by
                rw [upd_same,Int.toNat_of_nonneg a0,Int.toNat_of_nonneg b0]
              have N3:=N2.addLine (l:=(a.toNat,b.toNat)) htt hwf
              have C3:Chg H (upd (upd H1 t (.tup [.int a,.int b])) g.ll (.lst (g.ts.map V.ref++[.ref t]))) net g { g with ts:=g.ts++[t] }:=by
                refine ⟨fun c o e hn=>?_,fun c hc=>.inl hc,fun c hc=>s1.free (s2.free (upd_none hc))⟩
                rw [upd_ne (fun (q:c=g.ll)=>hn (.inr (.inr (.inl q))))]
                exact s2 _ _ (s1 _ _ e)
              refine ⟨_,rfl,net,T.c_Network,_,_,_,rfl,N3.obj,Y.cl_Network,Y.na_Network_lines,wf_lines _ _,_,_,rfl,.inl (SqL.of N3.tl),_,_,rfl,rfl,one_le,fun q hq=>?_⟩
              have e5:(((g.ts++[t]).map V.ref).length:Int) - 1=(s.lines.length:Int):=by
                rw [List.length_map,List.length_append,N.tlen,List.length_singleton]
                omega
              refine k _ q { g with ts:=g.ts++[t] } (N3.same (Same.lay hq)) (C3.trans (Chg.same (Same.lay hq))) (C3.there q hq) ?_
              rw [upd_same]
              exact congrArg (fun z=>some (HO.lst [V.int z])) e5
theorem set_no {s:State} {a f b:Int} (h:inN s a=false):Vbsgad.step s (.set a f b)=(s,[-1]):=by
  show Vbsgad.change s ((Vbsgad.nodeGot s a).bind _)=_
  rw [got_no h];rfl
theorem set_is {s:State} {a f b:Int} (h:inN s a=true):Vbsgad.step s (.set a f b)=Vbsgad.change s (if (Vbsgad.within f 0 Vbsgad.PLACES && Vbsgad.within b 0 1)=false then .error (-2) else if (Vbsgad.nodeOf s a.toNat).halt_=false then .error (-3) else .ok ({ s with nodes:=s.nodes.set a.toNat ⟨true,f.toNat,b == 1⟩ },[0])):=by
  show Vbsgad.change s ((Vbsgad.nodeGot s a).bind _)=_
  rw [got_ok h];rfl
theorem ok_answer_set (Y:Tx K mg T):FnOk P w K mg base CX0 3 T.f_answer_set T.d_answer_set ["network","arguments"] (spA0 T 2 3):=by
  have G1:=ok_Network_has_node (P:=P) (w:=w) (base:=base) Y
  have G2:=ok_are_in_range (P:=P) (w:=w) (base:=base) Y
  refine Y.F_answer_set.ok sc_answer_set (fun vs H Q E h=>?_) (fun cdv A outer s H vs Q E hr h=>?_)
  · obtain ⟨net,a,s,g,xs,rfl,_⟩:=h
    rfl
  · obtain ⟨net,ar,s,g,xs,rfl,N,har,hx,hown,k⟩:=h
    obtain ⟨a,f,b,rfl⟩:=len3 hx
    have k:∀ H' q g',NetAt T H' net (Vbsgad.step s (.set a f b)).1 g'→Chg H H' net g g'→H q=none→H' q=some (.lst (zis (Vbsgad.step s (.set a f b)).2))→Q (.ref q) H':=k
    have nd:=sc_answer_set.nd
    have hr1:Room 1 _:=hr.mono (by decide)
    obtain ⟨t1,k1⟩:=Y.k_NO_SUCH_NODE
    obtain ⟨t2,k2⟩:=Y.k_OUT_OF_RANGE
    obtain ⟨t3,k3⟩:=Y.k_NOT_THAT_KIND
    refine ⟨_,pss_cons (ps_set (i:=2) nd rfl (Or.inl rfl) (pe_ix ix_list (pv 1) pe_int (fun _ _=>rfl)))
      (pss_cons (ps_set (i:=3) nd rfl (Or.inl rfl) (pe_ix ix_list (pv 1) pe_int (fun _ _=>rfl)))
      (pss_cons (ps_set (i:=4) nd rfl (Or.inl rfl) (pe_ix ix_list (pv 1) pe_int (fun _ _=>rfl)))
      (pss_cons (ps_if (pt_not (pt_val (pe_meth (pv 0) Y.cl_Network Y.M_Network_has_node G1 hr1 Y.B_Network_has_node .nil pass0 (pa_cons (pv 2) pa_nil)))) (pss_one (ps_ret (pe_lst (pa_cons (pe_k (by rfl) k1) pa_nil)))) pss_nil)
      (pss_cons (ps_if (pt_not (pt_val (pe_call G2 hr1 (by rfl) Y.G_are_in_range Y.F_are_in_range.kp Y.B_are_in_range .nil pass0 (pa_cons (pv 3) (pa_cons (pv 4) pa_nil))))) (pss_one (ps_ret (pe_lst (pa_cons (pe_k (by rfl) k2) pa_nil)))) pss_nil)
      (pss_cons (ps_set (i:=5) nd rfl (Or.inl rfl) (pe_ix ix_list (pe_fld (pv 0) rfl) (pv 2) (fun _ _=>rfl)))
      (pss_cons (ps_if (pt_cmpR op_eq (pe_fld (pv 5) rfl) pe_int (nomark _)) (pss_one (ps_ret (pe_lst (pa_cons (pe_k (by rfl) k3) pa_nil)))) pss_nil)
      (pss_cons (ps_fld (pv 5) (pv 3) rfl)
      (pss_cons (ps_fld (pv 5) (pv 4) rfl)
      (pss_one (ps_ret (pe_lst (pa_cons pe_int pa_nil)))))))))))),?_⟩
    have no:∀ (e:Int) H1,Same H H1→Vbsgad.step s (.set a f b)=(s,[e])→∀ q,H1 q=none→Q (.ref q) (upd H1 q (.lst [.int e])):=by
      intro e H1 sm hc q hq
      rw [hc] at k
      exact k _ q g (N.same (sm.trans (Same.lay hq))) (Chg.same (sm.trans (Same.lay hq))) (sm.free hq) upd_same
    refine ⟨_,rfl,ar,_,_,_,rfl,rfl,SqL.of har,rfl,?_⟩
    refine ⟨_,rfl,ar,_,_,_,rfl,rfl,SqL.of har,rfl,?_⟩
    refine ⟨_,rfl,ar,_,_,_,rfl,rfl,SqL.of har,rfl,?_⟩
    refine ⟨_,rfl,net,_,_,rfl,N.obj,wf_none _ _ (by decide +kernel) (by decide +kernel),_,rfl,net,a,s,g,rfl,N,_,rfl,?_⟩
    show if (!inN s a)=true then _ else _
    cases ia:inN s a with
    | false=>exact iteT ⟨one_le,no (-1) H (Same.refl _) (set_no ia)⟩
    | true =>
      rw [set_is ia] at k no
      obtain ⟨a0,a1⟩:=inN_true.mp ia
      have a1':a.toNat < s.nodes.length:=by have:Vbsgad.size s=s.nodes.length:=rfl;omega
      refine iteF ⟨_,rfl,_,rfl,f,b,rfl,fun H1 s1=>⟨_,rfl,?_⟩⟩
      cases w2:Vbsgad.within f 0 Vbsgad.PLACES && Vbsgad.within b 0 1 with
      | false=>exact iteT ⟨one_le,no (-2) H1 s1 (by rw [if_pos w2];rfl)⟩
      | true =>
        have w2':¬ (Vbsgad.within f 0 Vbsgad.PLACES && Vbsgad.within b 0 1)=false:=by rw [w2];simp
        rw [if_neg w2'] at k no
        have hw:Vbsgad.within f 0 Vbsgad.PLACES=true∧Vbsgad.within b 0 1=true:=by simpa using w2
        have hb:=within01 hw.2
        have hf:0≤f∧f≤4:=Th.within_iff.mp hw.1
        have N1:=N.same s1
        obtain ⟨c,hc,hnx,dx,hnode⟩:=N1.node a1'
        refine iteF ⟨_,rfl,net,T.c_Network,_,_,_,rfl,N1.obj,Y.cl_Network,Y.na_Network_nodes,wf_nodes _ _,_,rfl,g.ln,_,_,_,rfl,rfl,SqL.of N1.nl,at_of (j:=a.toNat) (v:=V.ref c) (by omega) (by rw [List.getElem?_map,hc];rfl),?_⟩
        refine ⟨_,rfl,c,T.c_Node,dx,_,_,rfl,hnode,Y.cl_Node,Y.na_Node_stop,nf_stop _,rfl,_,rfl,?_⟩
        rw [bit_eq0]
        cases hh:(Vbsgad.nodeOf s a.toNat).halt_ with
        | false=>exact iteT ⟨one_le,no (-3) H1 s1 (by rw [if_pos hh];rfl)⟩
        | true =>
          have hh':¬ (Vbsgad.nodeOf s a.toNat).halt_=false:=by rw [hh];simp
          rw [if_neg hh'] at k
          have hwf:Th.Wfs { s with nodes:=s.nodes.set a.toNat ⟨true,f.toNat,b == 1⟩ }:=by
            have:=N.wfs.step (.set a f b)
            rw [set_is ia,if_neg w2',if_neg hh'] at this
            exact this
          refine iteF ⟨_,rfl,_,rfl,c,T.c_Node,dx,_,rfl,hnode,Y.cl_Node,Y.na_Node_free,(by show 3 < 1000;decide),?_⟩
          have e1:putF "free" (.int f) (nf (Vbsgad.nodeOf s a.toNat))=nf { Vbsgad.nodeOf s a.toNat with free:=f.toNat }:=by
            have:=nf_put_free (Vbsgad.nodeOf s a.toNat) f.toNat
            rw [Int.toNat_of_nonneg hf.1] at this
            exact this
          rw [e1]
          refine ⟨_,rfl,_,rfl,c,T.c_Node,dx,_,rfl,upd_same,Y.cl_Node,Y.na_Node_base,(by show 3 < 1000;decide),?_⟩
          have e2:putF "base" (.int b) (nf { Vbsgad.nodeOf s a.toNat with free:=f.toNat })=nf ⟨true,f.toNat,b == 1⟩:=by
            have:=nf_put_base { Vbsgad.nodeOf s a.toNat with free:=f.toNat } (b == 1)
            rw [bit_of hb] at this
            rw [this]
            show nf ⟨(Vbsgad.nodeOf s a.toNat).halt_,f.toNat,b == 1⟩=_
            rw [hh]
          rw [e2,upd_upd]
          have N2:=N1.setNode hc hnode hwf
          have hcown:OwnN net g c:=.inr (.inr (.inr (List.mem_of_getElem? hc)))
          have C2:=(Chg.same (net:=net) (g:=g) s1).trans (Chg.own (H:=H1) (o:=.ins T.c_Node dx (nf ⟨true,f.toNat,b == 1⟩)) hcown)
          refine ⟨one_le,fun q hq=>?_⟩
          exact k _ q g (N2.same (Same.lay hq)) (C2.trans (Chg.same (Same.lay hq))) (C2.there q hq) upd_same
theorem fill_no {s:State} {a:Int} (h:inN s a=false):Vbsgad.step s (.fill a)=(s,[-1]):=by
  show Vbsgad.change s ((Vbsgad.nodeGot s a).bind _)=_
  rw [got_no h];rfl
theorem fill_is {s:State} {a:Int} (h:inN s a=true):Vbsgad.step s (.fill a)=Vbsgad.change s (if Vbsgad.fillable s a.toNat=false then .error (-3) else .ok ({ s with nodes:=s.nodes.set a.toNat { Vbsgad.nodeOf s a.toNat with free:=(Vbsgad.nodeOf s a.toNat).free - 1 } },[(((Vbsgad.nodeOf s a.toNat).free - 1:Nat):Int)])):=by
  show Vbsgad.change s ((Vbsgad.nodeGot s a).bind _)=_
  rw [got_ok h];rfl
theorem ok_answer_fill (Y:Tx K mg T):FnOk P w K mg base CX0 3 T.f_answer_fill T.d_answer_fill ["network","arguments"] (spA0 T 6 1):=by
  have G1:=ok_Network_has_node (P:=P) (w:=w) (base:=base) Y
  have G2:=ok_Node_is_open_to_strangers (P:=P) (w:=w) (base:=base) Y
  refine Y.F_answer_fill.ok sc_answer_fill (fun vs H Q E h=>?_) (fun cdv A outer s H vs Q E hr h=>?_)
  · obtain ⟨net,a,s,g,xs,rfl,_⟩:=h
    rfl
  · obtain ⟨net,ar,s,g,xs,rfl,N,har,hx,hown,k⟩:=h
    obtain ⟨a,rfl⟩:=len1 hx
    have k:∀ H' q g',NetAt T H' net (Vbsgad.step s (.fill a)).1 g'→Chg H H' net g g'→H q=none→H' q=some (.lst (zis (Vbsgad.step s (.fill a)).2))→Q (.ref q) H':=k
    have nd:=sc_answer_fill.nd
    have hr1:Room 1 _:=hr.mono (by decide)
    obtain ⟨t1,k1⟩:=Y.k_NO_SUCH_NODE
    obtain ⟨t3,k3⟩:=Y.k_NOT_THAT_KIND
    refine ⟨_,pss_cons (ps_set (i:=2) nd rfl (Or.inl rfl) (pe_ix ix_list (pv 1) pe_int (fun _ _=>rfl)))
      (pss_cons (ps_if (pt_not (pt_val (pe_meth (pv 0) Y.cl_Network Y.M_Network_has_node G1 hr1 Y.B_Network_has_node .nil pass0 (pa_cons (pv 2) pa_nil)))) (pss_one (ps_ret (pe_lst (pa_cons (pe_k (by rfl) k1) pa_nil)))) pss_nil)
      (pss_cons (ps_set (i:=3) nd rfl (Or.inl rfl) (pe_ix ix_list (pe_fld (pv 0) rfl) (pv 2) (fun _ _=>rfl)))
      (pss_cons (ps_if (pt_not (pt_val (pe_meth0 (pv 3) Y.cl_Node Y.M_Node_is_open_to_strangers G2 hr1 Y.B_Node_is_open_to_strangers .nil pass0))) (pss_one (ps_ret (pe_lst (pa_cons (pe_k (by rfl) k3) pa_nil)))) pss_nil)
      (pss_cons (ps_fld (pv 3) (pe_op op_sub (pe_fld (pv 3) rfl) pe_int) rfl)
      (pss_one (ps_ret (pe_lst (pa_cons (pe_fld (pv 3) rfl) pa_nil)))))))),?_⟩
    have no:∀ (e:Int) H1,Same H H1→Vbsgad.step s (.fill a)=(s,[e])→∀ q,H1 q=none→Q (.ref q) (upd H1 q (.lst [.int e])):=by
      intro e H1 sm hc q hq
      rw [hc] at k
      exact k _ q g (N.same (sm.trans (Same.lay hq))) (Chg.same (sm.trans (Same.lay hq))) (sm.free hq) upd_same
    refine ⟨_,rfl,ar,_,_,_,rfl,rfl,SqL.of har,rfl,?_⟩
    refine ⟨_,rfl,net,_,_,rfl,N.obj,wf_none _ _ (by decide +kernel) (by decide +kernel),_,rfl,net,a,s,g,rfl,N,_,rfl,?_⟩
    show if (!inN s a)=true then _ else _
    cases ia:inN s a with
    | false=>exact iteT ⟨one_le,no (-1) H (Same.refl _) (fill_no ia)⟩
    | true =>
      rw [fill_is ia] at k no
      obtain ⟨a0,a1⟩:=inN_true.mp ia
      have a1':a.toNat < s.nodes.length:=by have:Vbsgad.size s=s.nodes.length:=rfl;omega
      obtain ⟨c,hc,hnx,dx,hnode⟩:=N.node a1'
      refine iteF ⟨_,rfl,net,T.c_Network,_,_,_,rfl,N.obj,Y.cl_Network,Y.na_Network_nodes,wf_nodes _ _,_,rfl,g.ln,_,_,_,rfl,rfl,SqL.of N.nl,at_of (j:=a.toNat) (v:=V.ref c) (by omega) (by rw [List.getElem?_map,hc];rfl),?_⟩
      refine ⟨_,rfl,c,dx,_,rfl,hnode,nf_none _ (by decide +kernel) (by decide +kernel) (by decide +kernel),c,_,rfl,⟨dx,hnode⟩,_,rfl,?_⟩
      show if (!Vbsgad.fillable s a.toNat)=true then _ else _
      cases hfl:Vbsgad.fillable s a.toNat with
      | false=>exact iteT ⟨one_le,no (-3) H (Same.refl _) (by rw [if_pos hfl];rfl)⟩
      | true =>
        have hfl':¬ Vbsgad.fillable s a.toNat=false:=by rw [hfl];simp
        rw [if_neg hfl'] at k
        have hpos:0 < (Vbsgad.nodeOf s a.toNat).free:=by
          unfold Vbsgad.fillable at hfl
          simp at hfl
          omega
        have hwf:Th.Wfs { s with nodes:=s.nodes.set a.toNat { Vbsgad.nodeOf s a.toNat with free:=(Vbsgad.nodeOf s a.toNat).free - 1 } }:=by
          have:=N.wfs.step (.fill a)
          rw [fill_is ia,if_neg hfl'] at this
          exact this
        refine iteF ⟨_,rfl,c,T.c_Node,dx,_,_,rfl,hnode,Y.cl_Node,Y.na_Node_free,nf_free _,_,_,rfl,rfl,_,rfl,c,T.c_Node,dx,_,rfl,hnode,Y.cl_Node,Y.na_Node_free,(by show 3 < 1000;decide),?_⟩
        have e0:((Vbsgad.nodeOf s a.toNat).free:Int) - 1=(((Vbsgad.nodeOf s a.toNat).free - 1:Nat):Int):=by omega
        have e1:putF "free" (.int (((Vbsgad.nodeOf s a.toNat).free:Int) - 1)) (nf (Vbsgad.nodeOf s a.toNat))=nf { Vbsgad.nodeOf s a.toNat with free:=(Vbsgad.nodeOf s a.toNat).free - 1 }:=by
          rw [e0]
          exact nf_put_free _ _
        have N2:=N.setNode hc hnode hwf
        rw [← e1] at N2
        have hcown:OwnN net g c:=.inr (.inr (.inr (List.mem_of_getElem? hc)))
        have C2:=Chg.own (H:=H) (o:=.ins T.c_Node dx (putF "free" (.int (((Vbsgad.nodeOf s a.toNat).free:Int) - 1)) (nf (Vbsgad.nodeOf s a.toNat)))) hcown
        refine ⟨_,rfl,c,T.c_Node,dx,_,_,rfl,upd_same,Y.cl_Node,Y.na_Node_free,by rw [e1];exact nf_free _,one_le,fun q hq=>?_⟩
        exact k _ q g (N2.same (Same.lay hq)) (C2.trans (Chg.same (Same.lay hq))) (C2.there q hq) upd_same
end
end Sh
end
section
namespace Sh
open PySem PySem.Spec PyProof.Rows L2
open Vbsgad (State Node)
section
variable {P:Program} {w:World} {K:PySem.W.Frag} {mg:Str→Option Value} {base:Heap} {T:Ad}
def inL (s:State) (z:Int):Bool:=decide (0≤z∧z < (s.lines.length:Int))
theorem unline_no {s:State} {a:Int} (h:inL s a=false):Vbsgad.step s (.unline a)=(s,[-5]):=by
  show Vbsgad.change s ((Vbsgad.lineGot s a).bind _)=_
  unfold Vbsgad.lineGot
  rw [if_neg (of_decide_eq_false h)];rfl
theorem unline_is {s:State} {a:Int} (h:inL s a=true):Vbsgad.step s (.unline a)=({ s with lines:=s.lines.eraseIdx a.toNat },[0]):=by
  show Vbsgad.change s ((Vbsgad.lineGot s a).bind _)=_
  unfold Vbsgad.lineGot
  rw [if_pos (of_decide_eq_true h)];rfl
theorem ok_answer_unline (Y:Tx K mg T):FnOk P w K mg base CX0 3 T.f_answer_unline T.d_answer_unline ["network","arguments"] (spA0 T 3 1):=by
  have G1:=ok_Network_has_line (P:=P) (w:=w) (base:=base) Y
  refine Y.F_answer_unline.ok sc_answer_unline (fun vs H Q E h=>?_) (fun cdv A outer s H vs Q E hr h=>?_)
  · obtain ⟨net,a,s,g,xs,rfl,_⟩:=h
    rfl
  · obtain ⟨net,ar,s,g,xs,rfl,N,har,hx,hown,k⟩:=h
    obtain ⟨a,rfl⟩:=len1 hx
    have k:∀ H' q g',NetAt T H' net (Vbsgad.step s (.unline a)).1 g'→Chg H H' net g g'→H q=none→H' q=some (.lst (zis (Vbsgad.step s (.unline a)).2))→Q (.ref q) H':=k
    have nd:=sc_answer_unline.nd
    have hr1:Room 1 _:=hr.mono (by decide)
    obtain ⟨t1,k1⟩:=Y.k_NO_SUCH_LINE
    refine ⟨_,pss_cons (ps_set (i:=2) nd rfl (Or.inl rfl) (pe_ix ix_list (pv 1) pe_int (fun _ _=>rfl)))
      (pss_cons (ps_if (pt_not (pt_val (pe_meth (pv 0) Y.cl_Network Y.M_Network_has_line G1 hr1 Y.B_Network_has_line .nil pass0 (pa_cons (pv 2) pa_nil)))) (pss_one (ps_ret (pe_lst (pa_cons (pe_k (by rfl) k1) pa_nil)))) pss_nil)
      (pss_cons (ps_expr (pe_bm PySem.F.plainAttrs_list PySem.F.slot_list_pop PySem.F.type_list_pop mt_popAt (pe_fld (pv 0) rfl) (pa_cons (pv 2) pa_nil)))
      (pss_one (ps_ret (pe_lst (pa_cons pe_int pa_nil)))))),?_⟩
    refine ⟨_,rfl,ar,_,_,_,rfl,rfl,SqL.of har,rfl,?_⟩
    refine ⟨_,rfl,net,_,_,rfl,N.obj,wf_none _ _ (by decide +kernel) (by decide +kernel),_,rfl,net,a,s,g,rfl,N,_,rfl,?_⟩
    show if (!inL s a)=true then _ else _
    cases ia:inL s a with
    | false =>
      rw [unline_no ia] at k
      refine iteT ⟨one_le,fun q hq=>?_⟩
      exact k _ q g (N.same (Same.lay hq)) (Chg.same (Same.lay hq)) hq upd_same
    | true =>
      obtain ⟨a0,a1⟩:=of_decide_eq_true ia
      have hwf:Th.Wfs { s with lines:=s.lines.eraseIdx a.toNat }:=by
        have:=N.wfs.step (.unline a)
        rw [unline_is ia] at this
        exact this
      rw [unline_is ia] at k
      have hal:a.toNat < g.ts.length:=by rw [N.tlen];omega
      have hll:=N.wfs.ll
      refine iteF ⟨_,rfl,net,T.c_Network,_,_,_,rfl,N.obj,Y.cl_Network,Y.na_Network_lines,wf_lines _ _,.inl ⟨rfl,_,SqL.of N.tl⟩,_,rfl,g.ll,_,a,a.toNat,V.ref (g.ts[a.toNat]),rfl,rfl,N.tl,by omega,by omega,?_,?_,?_⟩
      · refine (ixN_seq (j:=a.toNat) ?_).1
        unfold ixN
        rw [if_pos a0,if_pos (by rw [List.length_map];omega)]
      · rw [List.getElem?_map,List.getElem?_eq_getElem hal];rfl
      · have N2:=N.dropLine a.toNat hwf
        have C2:Chg H (upd H g.ll (.lst ((g.ts.map V.ref).eraseIdx a.toNat))) net g { g with ts:=g.ts.eraseIdx a.toNat } :=
          ⟨fun b u e hn=>by rw [upd_ne (fun (q:b=g.ll)=>hn (.inr (.inr (.inl q))))];exact e,fun b h=>.inl h,fun b h=>upd_none h⟩
        refine ⟨one_le,fun q hq=>?_⟩
        exact k _ q { g with ts:=g.ts.eraseIdx a.toNat } (N2.same (Same.lay hq)) (C2.trans (Chg.same (Same.lay hq))) (C2.there q hq) upd_same
theorem ok_answer_clear (Y:Tx K mg T):FnOk P w K mg base CX0 3 T.f_answer_clear T.d_answer_clear ["network","arguments"] (spA0 T 4 0):=by
  refine Y.F_answer_clear.ok sc_answer_clear (fun vs H Q E h=>?_) (fun cdv A outer s H vs Q E hr h=>?_)
  · obtain ⟨net,a,s,g,xs,rfl,_⟩:=h
    rfl
  · obtain ⟨net,ar,s,g,xs,rfl,N,har,hx,hown,k⟩:=h
    obtain rfl:=len0 hx
    have k:∀ H' q g',NetAt T H' net Vbsgad.start g'→Chg H H' net g g'→H q=none→H' q=some (.lst [.int 0])→Q (.ref q) H':=k
    refine ⟨_,pss_cons (ps_fld (pv 0) (pe_lst pa_nil) rfl) (pss_cons (ps_fld (pv 0) (pe_lst pa_nil) rfl) (pss_one (ps_ret (pe_lst (pa_cons pe_int pa_nil))))),?_⟩
    refine ⟨Nat.zero_le _,fun a ha=>⟨_,rfl,net,T.c_Network,_,_,rfl,by rw [upd_ne (ne_of_none N.obj ha)];exact N.obj,Y.cl_Network,Y.na_Network_nodes,(by show 2 < 1000;decide),?_⟩⟩
    have hna:=ne_of_none N.obj ha
    have e1:putF "nodes" (.ref a) (wf g.ln g.ll)=wf a g.ll:=putF_here
    rw [e1]
    refine ⟨Nat.zero_le _,fun b hb=>⟨_,rfl,net,T.c_Network,_,_,rfl,by rw [upd_ne (fun e=>by rw [← e,upd_same] at hb;cases hb)];exact upd_same,Y.cl_Network,Y.na_Network_lines,(by show 2 < 1000;decide),?_⟩⟩
    have e2:putF "lines" (.ref b) (wf a g.ll)=wf a b:=(putF_next (by decide +kernel)).trans (congrArg _ putF_here)
    rw [e2]
    have hnb:net≠b:=fun e=>by rw [← e,upd_same] at hb;cases hb
    have hab:a≠b:=fun e=>by rw [← e,upd_ne (Ne.symm hna),upd_same] at hb;cases hb
    have hb0:H b=none:=by
      rw [upd_ne (Ne.symm hnb),upd_ne (Ne.symm hab)] at hb
      exact hb
    have N2:NetAt T (upd (upd (upd (upd H a (.lst [])) net (.ins T.c_Network g.dn (wf a g.ll))) b (.lst [])) net (.ins T.c_Network g.dn (wf a b))) net Vbsgad.start ⟨g.dn,a,b,[],[]⟩:=by
      refine ⟨upd_same,?_,List.nodup_nil,rfl,fun i x y h=>by simp at h,?_,rfl,fun i x y h=>by simp at h,hab,Th.Wfs.start⟩
      · rw [upd_ne (Ne.symm hna),upd_ne hab,upd_ne (Ne.symm hna)];exact upd_same
      · rw [upd_ne (Ne.symm hnb)];exact upd_same
    have C2:Chg H (upd (upd (upd (upd H a (.lst [])) net (.ins T.c_Network g.dn (wf a g.ll))) b (.lst [])) net (.ins T.c_Network g.dn (wf a b))) net g ⟨g.dn,a,b,[],[]⟩:=by
      refine ⟨fun c o e hn=>?_,fun c hc=>?_,fun c h=>upd_none (upd_none (upd_none (upd_none h)))⟩
      · have hcn:c≠net:=fun q=>hn (.inl q)
        rw [upd_ne hcn,upd_ne (ne_of_none e hb0),upd_ne hcn,upd_ne (ne_of_none e ha)]
        exact e
      · rcases hc with q | q | q | q
        · exact .inl (.inl q)
        · rw [q];exact .inr ha
        · rw [q];exact .inr hb0
        · cases q
    refine ⟨one_le,fun q hq=>?_⟩
    exact k _ q ⟨g.dn,a,b,[],[]⟩ (N2.same (Same.lay hq)) (C2.trans (Chg.same (Same.lay hq))) (C2.there q hq) upd_same
theorem zis_append (a b:List Int):zis (a++b)=zis a++zis b:=List.map_append
def nodesFlat (l:List Node):List Int:=l.flatMap Vbsgad.nodeNums
def linesFlat (l:List (Nat × Nat)):List Int:=l.flatMap fun (l:Nat × Nat)=>[(l.1:Int),(l.2:Int)]
theorem nodesFlat_snoc {l:List Node} {i:Nat} {x:Node} (h:l[i]?=some x):nodesFlat (l.take (i + 1))=nodesFlat (l.take i)++Vbsgad.nodeNums x:=by
  unfold nodesFlat
  rw [take_snoc h,List.flatMap_append]
  simp
theorem linesFlat_snoc {l:List (Nat × Nat)} {i:Nat} {x:Nat × Nat} (h:l[i]?=some x):linesFlat (l.take (i + 1))=linesFlat (l.take i)++[(x.1:Int),(x.2:Int)]:=by
  unfold linesFlat
  rw [take_snoc h,List.flatMap_append]
  simp
theorem nodesFlat_len (l:List Node):(nodesFlat l).length=3 * l.length:=by
  induction l with
  | nil=>rfl
  | cons x l ih =>
    have e:nodesFlat (x :: l)=Vbsgad.nodeNums x++nodesFlat l:=rfl
    rw [e,List.length_append,ih,List.length_cons]
    show 3 + _=_
    omega
theorem linesFlat_len (l:List (Nat × Nat)):(linesFlat l).length=2 * l.length:=by
  induction l with
  | nil=>rfl
  | cons x l ih =>
    have e:linesFlat (x :: l)=[(x.1:Int),(x.2:Int)]++linesFlat l:=rfl
    rw [e,List.length_append,ih,show (x :: l).length=l.length + 1 from rfl,show ([(x.1:Int),(x.2:Int)]:List Int).length=2 from rfl]
    omega
theorem ok_answer_graph (Y:Tx K mg T):FnOk P w K mg base CX0 3 T.f_answer_graph T.d_answer_graph ["network","arguments"] (spA0 T 5 0):=by
  refine Y.F_answer_graph.ok sc_answer_graph (fun vs H Q E h=>?_) (fun cdv A outer s H vs Q E hr h=>?_)
  · obtain ⟨net,a,s,g,xs,rfl,_⟩:=h
    rfl
  · obtain ⟨net,ar,s,g,xs,rfl,N,har,hx,hown,k⟩:=h
    obtain rfl:=len0 hx
    have k:∀ H' q g',NetAt T H' net s g'→Chg H H' net g g'→H q=none→H' q=some (.lst (zis (((s.nodes.length:Int) :: nodesFlat s.nodes)++((s.lines.length:Int) :: linesFlat s.lines))))→Q (.ref q) H':=k
    have nd:=sc_answer_graph.nd
    refine ⟨_,pss_cons (ps_set (i:=2) nd rfl (Or.inl rfl) (pe_lst (pa_cons (pe_callB call_len_seq (by rfl) Y.b_len PySem.boot_len (pa_cons (pe_fld (pv 0) rfl) pa_nil)) pa_nil)))
      (pss_cons (ps_for PassesOwn.never rfl (pi_list (pe_fld (pv 0) rfl)) (pg_name (i:=3) nd rfl (Or.inl rfl))
        (pss_one (ps_expr (pe_bm PySem.F.plainAttrs_list PySem.F.slot_list_extend PySem.F.type_list_extend mt_extend (pv 2) (pa_cons (pe_lst (pa_cons (pe_fld (pv 3) rfl) (pa_cons (pe_fld (pv 3) rfl) (pa_cons (pe_fld (pv 3) rfl) pa_nil)))) pa_nil)))))
      (pss_cons (ps_expr (pe_bm PySem.F.plainAttrs_list PySem.F.slot_list_append PySem.F.type_list_append mt_append (pv 2) (pa_cons (pe_callB call_len_seq (by rfl) Y.b_len PySem.boot_len (pa_cons (pe_fld (pv 0) rfl) pa_nil)) pa_nil)))
      (pss_cons (ps_for PassesOwn.never rfl (pi_list (pe_fld (pv 0) rfl)) (pg_name (i:=4) nd rfl (Or.inl rfl))
        (pss_one (ps_expr (pe_bm PySem.F.plainAttrs_list PySem.F.slot_list_extend PySem.F.type_list_extend mt_extend (pv 2) (pa_cons (pe_lst (pa_cons (pe_ix ix_tup (pv 4) pe_int (fun _ _=>rfl)) (pa_cons (pe_ix ix_tup (pv 4) pe_int (fun _ _=>rfl)) pa_nil))) pa_nil)))))
      (pss_one (ps_ret (pv 2)))))),?_⟩
    have hn:=N.wfs.sz
    have hll:=N.wfs.ll
    have small:∀ n,n≤500→n < sizeLine:=fun n h=>Nat.lt_of_le_of_lt h (by decide)
    refine ⟨_,rfl,net,T.c_Network,_,_,_,rfl,N.obj,Y.cl_Network,Y.na_Network_nodes,wf_nodes _ _,_,_,rfl,.inl (SqL.of N.nl),one_le,fun t ht=>?_⟩
    have s1:Same H (upd H t (.lst [.int ((g.as.map V.ref).length:Nat)])):=Same.lay ht
    refine ⟨_,rfl,net,T.c_Network,_,_,_,rfl,s1 _ _ N.obj,Y.cl_Network,Y.na_Network_nodes,wf_nodes _ _,g.ln,rfl,⟨_,SqL.of (s1 _ _ N.nl)⟩,?_⟩
    refine for_list (K:=K) (a:=g.ln) (xs:=g.as.map V.ref) (fun i σ H'=>∃ v,σ=[some (.ref net),some (.ref ar),some (.ref t),v,none]∧Same H H'∧H' t=some (.lst (zis ((s.nodes.length:Int) :: nodesFlat (s.nodes.take i)))))
      ⟨none,rfl,s1,by rw [upd_same,List.length_map,N.len];rfl⟩ (fun i σ H' _ ⟨_,_,s2,_⟩=>SqL.of (s2 _ _ N.nl)) ?_ ?_
    · rintro i x σ H' hx ⟨v,rfl,s2,hl⟩
      obtain ⟨a,ha,rfl⟩:=get_map hx
      have hi:i < s.nodes.length:=by rw [← N.len];exact (List.getElem?_eq_some_iff.mp ha).1
      obtain ⟨a',ha',hnx,dx,hnode⟩:=N.node hi
      obtain rfl:a=a':=Option.some.inj (ha.symm.trans ha')
      have hnode':=s2 _ _ hnode
      refine ⟨_,rfl,.inl ⟨rfl,_,SqL.of hl⟩,_,rfl,a,T.c_Node,dx,_,_,rfl,hnode',Y.cl_Node,Y.na_Node_stop,nf_stop _,_,rfl,a,T.c_Node,dx,_,_,rfl,hnode',Y.cl_Node,Y.na_Node_free,nf_free _,_,rfl,a,T.c_Node,dx,_,_,rfl,hnode',Y.cl_Node,Y.na_Node_base,nf_base _,by show 3≤sizeLine;decide,fun p hp=>?_⟩
      have s3:=Same.lay (o:=.lst [.int (Vbsgad.bit (Vbsgad.nodeOf s i).halt_),.int ((Vbsgad.nodeOf s i).free:Int),.int (Vbsgad.bit (Vbsgad.nodeOf s i).base)]) hp
      refine ⟨t,p,_,_,rfl,rfl,s3 _ _ hl,upd_same,?_,?_⟩
      · rw [zis_len,List.length_cons,nodesFlat_len,List.length_take]
        exact Nat.le_of_lt (small _ (by show _ + 3≤500;omega))
      · refine ⟨_,rfl,(s2.trans s3).wr ht,?_⟩
        rw [upd_same,nodesFlat_snoc hnx,← List.cons_append,zis_append]
        rfl
    rintro σ H1 ⟨v,rfl,s2,hl1⟩
    rw [List.length_map,N.len,List.take_length] at hl1
    refine ⟨_,rfl,.inl ⟨rfl,_,SqL.of hl1⟩,_,rfl,net,T.c_Network,_,_,_,rfl,s2 _ _ N.obj,Y.cl_Network,Y.na_Network_lines,wf_lines _ _,_,_,rfl,.inl (SqL.of (s2 _ _ N.tl)),t,_,_,rfl,rfl,hl1,?_,?_⟩
    · rw [zis_len,List.length_cons,nodesFlat_len]
      exact small _ (by omega)
    have s3:Same H (upd H1 t (.lst (zis ((s.nodes.length:Int) :: nodesFlat s.nodes)++[.int ((g.ts.map V.ref).length:Nat)]))):=s2.wr ht
    refine ⟨_,rfl,net,T.c_Network,_,_,_,rfl,s3 _ _ N.obj,Y.cl_Network,Y.na_Network_lines,wf_lines _ _,g.ll,rfl,⟨_,SqL.of (s3 _ _ N.tl)⟩,?_⟩
    refine for_list (K:=K) (a:=g.ll) (xs:=g.ts.map V.ref) (fun i σ H'=>∃ u,σ=[some (.ref net),some (.ref ar),some (.ref t),v,u]∧Same H H'∧H' t=some (.lst (zis (((s.nodes.length:Int) :: nodesFlat s.nodes)++((s.lines.length:Int) :: linesFlat (s.lines.take i))))))
      ⟨none,rfl,s3,?_⟩ (fun i σ H' _ ⟨_,_,s4,_⟩=>SqL.of (s4 _ _ N.tl)) ?_ ?_
    · rw [upd_same,zis_append,List.length_map,N.tlen]
      rfl
    · rintro i x σ H' hx ⟨u,rfl,s4,hl⟩
      obtain ⟨tt,htt,rfl⟩:=get_map hx
      obtain ⟨l,hli,htl⟩:=N.tupne htt
      have hi:i < s.lines.length:=(List.getElem?_eq_some_iff.mp hli).1
      have htl':=s4 _ _ htl
      refine ⟨_,rfl,.inl ⟨rfl,_,SqL.of hl⟩,_,rfl,tt,_,_,_,rfl,rfl,SqT.of htl',rfl,_,rfl,tt,_,_,_,rfl,rfl,SqT.of htl',rfl,by show 2≤sizeLine;decide,fun p hp=>?_⟩
      have s5:=Same.lay (o:=.lst [.int ((l.1:Nat):Int),.int ((l.2:Nat):Int)]) hp
      refine ⟨t,p,_,_,rfl,rfl,s5 _ _ hl,upd_same,?_,?_⟩
      · rw [zis_len,List.length_append,List.length_cons,List.length_cons,nodesFlat_len,linesFlat_len,List.length_take]
        exact Nat.le_of_lt (small _ (by show _ + 2≤500;omega))
      · refine ⟨_,rfl,(s4.trans s5).wr ht,?_⟩
        rw [upd_same,linesFlat_snoc hli,← List.cons_append,← List.append_assoc]
        simp only [zis_append]
        rfl
    rintro σ H2 ⟨u,rfl,s4,hl2⟩
    rw [List.length_map,N.tlen,List.take_length] at hl2
    exact ⟨_,rfl,k H2 t g (N.same s4) (Chg.same s4) ht hl2⟩
theorem one_flat (l:List Nat):l.flatMap Vbsgad.one=l.map fun (n:Nat)=>(n:Int):=by
  induction l with
  | nil=>rfl
  | cons a l ih =>
    rw [List.flatMap_cons,ih]
    rfl
theorem counted_one (l:List Nat):zis (Vbsgad.counted Vbsgad.one l)=.int (l.length:Nat) :: nis l:=by
  unfold Vbsgad.counted
  rw [one_flat,zis_nis]
  rfl
theorem reached_len (s:State):(Vbsgad.reached s).length≤s.nodes.length:=by
  have h:=Th.reached_eq (s:=s) (q:=fun x=>(Vbsgad.reached s).contains x) fun x _=>by rw [List.contains_iff_mem,Th.mem_reached]
  rw [h]
  exact upto_len _ _
theorem rowGot_ok {s:State} {row:List Int} {fs:List Nat} (hg:Vbsgad.rowGot s row=.ok fs):fs=row.map Int.toNat∧(∀ z∈row,0≤z)∧(∀ x∈fs,Vbsgad.fillable s x=true)∧(∀ x∈fs,x < s.nodes.length)∧fs.Nodup:=by
  unfold Vbsgad.rowGot at hg
  split at hg
  · cases hg
  · rename_i h1
    split at hg
    · cases hg
    · rename_i h2
      split at hg
      · cases hg
      · rename_i h3
        cases hg
        have h1':(row.all fun z=>Vbsgad.within z 0 ((Vbsgad.size s:Int) - 1))=true:=by simpa using h1
        have h2':(row.all fun z=>Vbsgad.fillable s z.toNat)=true:=by simpa using h2
        have h3':Vbsgad.twice (row.map Int.toNat)=false:=by simpa using h3
        refine ⟨rfl,fun z hz=>(Th.within_iff.mp (List.all_eq_true.mp h1' z hz)).1,fun x hx=>?_,fun x hx=>?_,(Th.twice_iff _).mp h3'⟩
        · obtain ⟨z,hz,rfl⟩:=List.mem_map.mp hx
          exact List.all_eq_true.mp h2' z hz
        · obtain ⟨z,hz,rfl⟩:=List.mem_map.mp hx
          have:=Th.within_iff.mp (List.all_eq_true.mp h1' z hz)
          have e:(Vbsgad.size s:Int)=(s.nodes.length:Int):=rfl
          omega
theorem rowGot_row {s:State} {row:List Int} {fs:List Nat} (hg:Vbsgad.rowGot s row=.ok fs):zis row=nis fs:=by
  obtain ⟨e1,e2,_⟩:=rowGot_ok hg
  rw [e1]
  unfold zis nis
  rw [List.map_map]
  apply List.map_congr_left
  intro z hz
  show V.int z=V.int (z.toNat:Int)
  rw [Int.toNat_of_nonneg (e2 z hz)]
theorem ok_answer_reach (Y:Tx K mg T):FnOk P w K mg base CX0 4 T.f_answer_reach T.d_answer_reach ["network","arguments"] (spA0 T 7 0):=by
  have G1:=ok_counted (P:=P) (w:=w) (base:=base) Y
  have G2:=ok_reached_nodes (P:=P) (w:=w) (base:=base) Y
  refine Y.F_answer_reach.ok sc_answer_reach (fun vs H Q E h=>?_) (fun cdv A outer s H vs Q E hr h=>?_)
  · obtain ⟨net,a,s,g,xs,rfl,_⟩:=h
    rfl
  · obtain ⟨net,ar,s,g,xs,rfl,N,har,hx,hown,k⟩:=h
    obtain rfl:=len0 hx
    have k:∀ H' q g',NetAt T H' net s g'→Chg H H' net g g'→H q=none→H' q=some (.lst (zis (Vbsgad.counted Vbsgad.one (Vbsgad.reached s))))→Q (.ref q) H':=k
    have hr1:Room 1 _:=hr.mono (by decide)
    have hr2:Room 2 _:=hr.mono (by decide)
    have hr3':Room 3 _:=hr
    refine ⟨_,pss_one (ps_ret (pe_call G1 hr1 (by rfl) Y.G_counted Y.F_counted.kp Y.B_counted .nil pass0 (pa_cons (pe_call G2 hr3' (by rfl) Y.G_reached_nodes Y.F_reached_nodes.kp Y.B_reached_nodes .nil pass0 (pa_cons (pv 0) (pa_cons (pe_lst pa_nil) pa_nil))) pa_nil))),?_⟩
    refine ⟨_,rfl,Nat.zero_le _,fun p hp=>?_⟩
    have s1:Same H (upd H p (.lst [])):=Same.lay hp
    refine ⟨net,p,s,g,[],rfl,N.same s1,upd_same,Nat.zero_le _,fun H1 q s2 hq hl=>?_⟩
    rw [Th.comeB_nil] at hl
    have hlen:=reached_len s
    have hn:=N.wfs.sz
    refine ⟨q,_,rfl,hl,by rw [nis_len];omega,fun H2 r s3 hr3 hl2=>?_⟩
    refine k H2 r g (N.same ((s1.trans s2).trans s3)) (Chg.same ((s1.trans s2).trans s3)) ((s1.trans s2).free hr3) ?_
    rw [hl2,counted_one,nis_len]
theorem ok_answer_reach_if (Y:Tx K mg T):FnOk P w K mg base CX0 4 T.f_answer_reach_if T.d_answer_reach_if ["network","arguments"] (spA1 T 8 0):=by
  have G1:=ok_counted (P:=P) (w:=w) (base:=base) Y
  have G2:=ok_reached_nodes (P:=P) (w:=w) (base:=base) Y
  have G3:=ok_row_refusal (P:=P) (w:=w) (base:=base) Y
  refine Y.F_answer_reach_if.ok sc_answer_reach_if (fun vs H Q E h=>?_) (fun cdv A outer s H vs Q E hr h=>?_)
  · obtain ⟨net,a,r,s,g,xs,row,rfl,_⟩:=h
    rfl
  · obtain ⟨net,ar,r,s,g,xs,row,rfl,N,har,hrow,hx,hlr,hown,hown2,k⟩:=h
    obtain rfl:=len0 hx
    have k:∀ H' q g',NetAt T H' net s g'→Chg H H' net g g'→H q=none→H' q=some (.lst (zis (Vbsgad.step s (.reachIf row)).2))→Q (.ref q) H':=k
    have nd:=sc_answer_reach_if.nd
    have hr1:Room 1 _:=hr.mono (by decide)
    have hr2:Room 2 _:=hr.mono (by decide)
    have hr3':Room 3 _:=hr
    refine ⟨_,pss_cons (ps_set (i:=2) nd rfl (Or.inl rfl) (pe_ix ix_list (pv 1) pe_int (fun _ _=>rfl)))
      (pss_cons (ps_set (i:=3) nd rfl (Or.inl rfl) (pe_call G3 hr2 (by rfl) Y.G_row_refusal Y.F_row_refusal.kp Y.B_row_refusal .nil pass0 (pa_cons (pv 0) (pa_cons (pv 2) pa_nil))))
      (pss_cons (ps_if (pt_cmpR op_notN (pv 3) pe_non (nomark _)) (pss_one (ps_ret (pe_lst (pa_cons (pv 3) pa_nil)))) pss_nil)
      (pss_one (ps_ret (pe_call G1 hr1 (by rfl) Y.G_counted Y.F_counted.kp Y.B_counted .nil pass0 (pa_cons (pe_call G2 hr3' (by rfl) Y.G_reached_nodes Y.F_reached_nodes.kp Y.B_reached_nodes .nil pass0 (pa_cons (pv 0) (pa_cons (pv 2) pa_nil))) pa_nil)))))),?_⟩
    refine ⟨_,rfl,ar,_,_,_,rfl,rfl,SqL.of har,rfl,?_⟩
    refine ⟨_,rfl,_,rfl,net,r,s,g,row,rfl,N,SqL.of hrow,hlr,fun H1 s1=>?_⟩
    refine ⟨_,rfl,rfl,_,rfl,?_⟩
    cases hg:Vbsgad.rowGot s row with
    | error e =>
      have es:(Vbsgad.step s (.reachIf row)).2=[e]:=by
        show (match (Vbsgad.rowGot s row).bind _ with | .ok a=>a | .error e=>[e])=[e]
        rw [hg];rfl
      rw [es] at k
      have ed:(!decide (rowV (.error e)=V.non))=true:=by
        rw [decide_eq_false (show ¬ rowV (.error e)=V.non from fun z=>(nomatch z))];rfl
      rw [ed]
      refine iteT ⟨_,rfl,one_le,fun q hq=>?_⟩
      exact k _ q g (N.same (s1.trans (Same.lay hq))) (Chg.same (s1.trans (Same.lay hq))) (s1.free hq) upd_same
    | ok fs =>
      have es:(Vbsgad.step s (.reachIf row)).2=Vbsgad.counted Vbsgad.one (Vbsgad.reached (Vbsgad.filled s fs)):=by
        show (match (Vbsgad.rowGot s row).bind _ with | .ok a=>a | .error e=>[e])=_
        rw [hg];rfl
      rw [es] at k
      have ed:(!decide (rowV (.ok fs)=V.non))=false:=by
        rw [decide_eq_true (show rowV (.ok fs)=V.non from rfl)];rfl
      rw [ed]
      have hfs:=rowGot_ok hg
      obtain ⟨e1,e2,e3,e4,e5⟩:=hfs
      have erow:zis row=nis fs:=rowGot_row hg
      rw [erow] at hrow
      have hrow1:=s1 _ _ hrow
      refine iteF ⟨_,rfl,_,rfl,net,r,s,g,fs,rfl,N.same s1,hrow1,by rw [e1,List.length_map];omega,fun H2 q s2 hq hl=>?_⟩
      rw [Th.comeB_filled e3] at hl
      have hlen:=reached_len (Vbsgad.filled s fs)
      have hlen2:(Vbsgad.filled s fs).nodes.length=s.nodes.length:=Th.filled_size s fs
      have hn:=N.wfs.sz
      refine ⟨q,_,rfl,hl,by rw [nis_len];omega,fun H3 r3 s3 hr3 hl2=>?_⟩
      refine k H3 r3 g (N.same ((s1.trans s2).trans s3)) (Chg.same ((s1.trans s2).trans s3)) ((s1.trans s2).free hr3) ?_
      rw [hl2,counted_one,nis_len]
end
end Sh
end
section
namespace Sh
open PySem PySem.Spec PyProof.Rows L2
open Vbsgad (State Node)
theorem counted_len {α:Type} {f:α→List Int} {m:Nat} (hf:∀ x,(f x).length≤m) (l:List α):(Vbsgad.counted f l).length≤1 + m * l.length:=by
  have key:∀ l:List α,(l.flatMap f).length≤m * l.length:=fun l=>by
    induction l with
    | nil=>exact Nat.zero_le _
    | cons a l ih =>
      rw [List.flatMap_cons,List.length_append,List.length_cons,Nat.mul_succ]
      have:=hf a
      omega
  unfold Vbsgad.counted
  rw [List.length_cons]
  have:=key l
  omega
theorem range_filter_len (n:Nat) (p:Nat→Bool):((List.range n).filter p).length≤n:=upto_len p n
theorem tight_len (s:State) (g:Nat):(Vbsgad.tight s g).length≤s.nodes.length:=by
  unfold Vbsgad.tight
  split
  · exact Nat.zero_le _
  · exact Nat.le_trans (List.length_filter_le _ _) (range_filter_len _ _)
theorem ask_len {s:State} {r:Vbsgad.Got Vbsgad.Answer} {m:Nat} (hm:1≤m) (h:∀ a,r=.ok a→a.length≤m):(Vbsgad.ask s r).2.length≤m:=by
  unfold Vbsgad.ask
  cases r with
  | ok a=>exact h a rfl
  | error e=>exact hm
theorem bind_ok {α β:Type} {r:Vbsgad.Got α} {f:α→Vbsgad.Got β} {b:β} (h:r.bind f=.ok b):∃ a,r=.ok a∧f a=.ok b:=by
  cases r with
  | ok a=>exact ⟨a,rfl,h⟩
  | error e=>cases h
theorem change_len {s:State} {r:Vbsgad.Got (State × Vbsgad.Answer)} (h:∀ a,r=.ok a→a.2.length≤1):(Vbsgad.change s r).2.length≤1:=by
  unfold Vbsgad.change
  cases r with
  | ok a=>exact h a rfl
  | error e=>exact Nat.le_refl _
theorem told_len (o:Option Nat):(Vbsgad.told o).length≤2:=by
  cases o with
  | none=>exact (by decide:1≤2)
  | some n=>exact Nat.le_refl 2
theorem step_len {s:State} (h:Th.Wfs s) (c:Vbsgad.Call):(Vbsgad.step s c).2.length≤190:=by
  have hn:=h.sz
  have hl:=h.ll
  have hone:∀ x:Nat,(Vbsgad.one x).length≤1:=fun _=>Nat.le_refl _
  have c1:∀ l:List Nat,l.length≤s.nodes.length→(Vbsgad.counted Vbsgad.one l).length≤190:=fun l hl=>by
    have:=counted_len hone l
    omega
  cases c with
  | node st f b =>
    refine Nat.le_trans (change_len fun a e=>?_) (by decide)
    split at e
    · cases e
    · split at e
      · cases e
      · cases e;exact Nat.le_refl _
  | line a b =>
    refine Nat.le_trans (change_len fun a e=>?_) (by decide)
    obtain ⟨x,_,e⟩:=bind_ok e
    obtain ⟨y,_,e⟩:=bind_ok e
    split at e
    · cases e
    · split at e
      · cases e
      · split at e
        · cases e
        · cases e;exact Nat.le_refl _
  | set a f b =>
    refine Nat.le_trans (change_len fun a e=>?_) (by decide)
    obtain ⟨x,_,e⟩:=bind_ok e
    split at e
    · cases e
    · split at e
      · cases e
      · cases e;exact Nat.le_refl _
  | unline k =>
    refine Nat.le_trans (change_len fun a e=>?_) (by decide)
    obtain ⟨x,_,e⟩:=bind_ok e
    cases e;exact Nat.le_refl _
  | clear=>show 1≤190;decide
  | graph =>
    refine ask_len (by decide) fun a e=>?_
    cases e
    have e1:=counted_len (f:=Vbsgad.nodeNums) (m:=3) (fun _=>Nat.le_refl _) s.nodes
    have e2:=counted_len (f:=fun (l:Nat × Nat)=>[(l.1:Int),(l.2:Int)]) (m:=2) (fun _=>Nat.le_refl _) s.lines
    rw [List.length_append]
    omega
  | fill a =>
    refine Nat.le_trans (change_len fun a e=>?_) (by decide)
    obtain ⟨x,_,e⟩:=bind_ok e
    split at e
    · cases e
    · cases e;exact Nat.le_refl _
  | reach =>
    refine ask_len (by decide) fun a e=>?_
    cases e
    exact c1 _ (reached_len s)
  | reachIf l =>
    refine ask_len (by decide) fun a e=>?_
    obtain ⟨x,_,e⟩:=bind_ok e
    cases e
    have:=reached_len (Vbsgad.filled s x)
    exact c1 _ (by rw [show (Vbsgad.filled s x).nodes.length=s.nodes.length from Th.filled_size s x] at this;exact this)
  | least g =>
    refine ask_len (by decide) fun a e=>?_
    obtain ⟨x,_,e⟩:=bind_ok e
    cases e
    exact Nat.le_trans (told_len _) (by decide)
  | tight g =>
    refine ask_len (by decide) fun a e=>?_
    obtain ⟨x,_,e⟩:=bind_ok e
    cases e
    exact c1 _ (tight_len s x)
  | nearest g =>
    refine ask_len (by decide) fun a e=>?_
    obtain ⟨x,_,e⟩:=bind_ok e
    cases e
    exact c1 _ (Nat.le_trans (List.length_filter_le _ _) (tight_len s x))
  | furthest g =>
    refine ask_len (by decide) fun a e=>?_
    obtain ⟨x,_,e⟩:=bind_ok e
    cases e
    exact c1 _ (Nat.le_trans (List.length_filter_le _ _) (tight_len s x))
  | cuts g l =>
    refine ask_len (by decide) fun a e=>?_
    obtain ⟨x,_,e⟩:=bind_ok e
    obtain ⟨y,_,e⟩:=bind_ok e
    cases e
    show 2≤190
    decide
  | ways g l =>
    refine ask_len (by decide) fun a e=>?_
    obtain ⟨x,_,e⟩:=bind_ok e
    split at e
    · cases e
      unfold Vbsgad.judged
      split
      · show 3≤190;decide
      · split
        · show 2≤190;decide
        · show 2≤190;decide
    · cases e
  | needed g =>
    refine ask_len (by decide) fun a e=>?_
    obtain ⟨x,_,e⟩:=bind_ok e
    cases e
    refine c1 _ ?_
    unfold Vbsgad.needed
    split
    · exact Nat.zero_le _
    · exact range_filter_len _ _
  | all =>
    refine ask_len (by decide) fun a e=>?_
    cases e
    have e1:=counted_len (f:=fun (a:Nat)=>(a:Int) :: Vbsgad.told (Vbsgad.least s a)) (m:=3) (fun x=>by have:=told_len (Vbsgad.least s x);rw [List.length_cons];omega) (Vbsgad.stops s)
    have e2:(Vbsgad.stops s).length≤s.nodes.length:=range_filter_len _ _
    omega
  | weakest =>
    refine ask_len (by decide) fun a e=>?_
    split at e
    · cases e;show 3≤190;decide
    · cases e;show 1≤190;decide
theorem nstep_len {s:State} (h:Th.Wfs s) (c:List (List Int)):(VbsgadNeutral.step s c).2.length≤190:=by
  unfold VbsgadNeutral.step
  split
  · exact step_len h _
  · exact Nat.zero_le _
theorem cut_is (l:List Int) (i n:Nat) (h:i + n≤l.length):cutV (zis l) (some (i:Int)) (some ((i:Int) + (n:Int)))=zis ((l.drop i).take n):=by
  unfold cutV
  rw [zis_len]
  have e1:HT.sIx l.length 0 (some (i:Int))=i:=by rw [HT.sIx_nat];omega
  have e2:HT.sIx l.length l.length (some ((i:Int) + (n:Int)))=i + n:=by
    rw [show (i:Int) + (n:Int)=((i + n:Nat):Int) by omega,HT.sIx_nat];omega
  rw [e1,e2,show i + n - i=n by omega]
  unfold zis
  rw [← List.map_drop,← List.map_take]
theorem NetAt.other {T:Ad} {H:Hp} {net:Addr} {s:State} {g:Geo} (N:NetAt T H net s g) {t:Addr} {xs ys:List V} (ht:H t=some (.lst xs)) (hn:¬ OwnN net g t):NetAt T (upd H t (.lst ys)) net s g:=by
  have h1:net≠t:=fun e=>hn (.inl e.symm)
  have h2:g.ln≠t:=fun e=>hn (.inr (.inl e.symm))
  have h3:g.ll≠t:=fun e=>hn (.inr (.inr (.inl e.symm)))
  refine ⟨by rw [upd_ne h1];exact N.obj,by rw [upd_ne h2];exact N.nl,N.nd,N.len,fun i a x ha hx=>?_,by rw [upd_ne h3];exact N.tl,N.tlen,fun i c l hc hl=>?_,N.ne,N.wfs⟩
  · obtain ⟨d,hd⟩:=N.at_ i a x ha hx
    exact ⟨d,by rw [upd_ne (fun (e:a=t)=>hn (.inr (.inr (.inr (e ▸ List.mem_of_getElem? ha)))))];exact hd⟩
  · have:=N.tat i c l hc hl
    rw [upd_ne (ne_of this ht (by intro z;cases z))]
    exact this
structure Tbl (P:Program) (w:World) (K:PySem.W.Frag) (mg:Str→Option Value) (base:Heap) (T:Ad) (dC:Addr) (kvs:List (Int × V)):Prop where
  gl:mg "CALLS"=some (.ref dC)
  kd:KDict P w K dC kvs
  at_:∀ (p:Int) (n k:Nat),PyVbsgad.shape p=some (n,k)→∃ tp f fd,valV kvs p=some (.ref tp)∧(∀ H,SqT K H tp [.int (n:Nat),.int (k:Nat),.ref f]) ∧
    FnOk P w K mg base CX0 9 f fd ["network","arguments"] (if k=0 then spA0 T p n else spA1 T p n)∧PySem.W.keepIn K (.ref f)=true∧Binds K fd ["network","arguments"] []
theorem told_cons (a:List Int) (l:List (List Int)):PyFlat.told (a :: l)=((a.length:Int) :: a)++PyFlat.told l:=rfl
theorem drop_at {l:List Int} {i:Nat} {p:Int} {r:List Int} (h:l.drop i=p :: r):l[i]?=some p∧r=l.drop (i + 1)∧i < l.length:=by
  have hlt:i < l.length:=by
    apply Classical.byContradiction
    intro hn
    rw [List.drop_eq_nil_of_le (by omega)] at h
    cases h
  rw [List.drop_eq_getElem_cons hlt] at h
  have e1:=(List.cons.inj h).1
  have e2:=(List.cons.inj h).2
  exact ⟨by rw [List.getElem?_eq_getElem hlt,e1],e2.symm,hlt⟩
def Arg (K:PySem.W.Frag) (H:Hp) (net:Addr) (g:Geo) (t a:Addr) (l:List Int):Prop :=
  (∀ H',SqL K H' a (zis l))∨∃ o,H a=some o∧(o=.lst (zis l)∨∃ ob,o=.frz ob (.lst (zis l)))∧¬ OwnN net g a∧a≠t
theorem Arg.sq {K:PySem.W.Frag} {H:Hp} {net:Addr} {g:Geo} {t a:Addr} {l:List Int} (h:Arg K H net g t a l):SqL K H a (zis l):=by
  rcases h with h | ⟨o,h1,h2,_⟩
  · exact h H
  · rcases h2 with e | ⟨ob,e⟩
    · exact .inl (.inl (by rw [h1,e]))
    · exact .inl (.inr ⟨ob,by rw [h1,e]⟩)
theorem Arg.chg {K:PySem.W.Frag} {H H':Hp} {net:Addr} {g g':Geo} {t a:Addr} {l:List Int} (h:Arg K H net g t a l) (c:Chg H H' net g g'):Arg K H' net g' t a l:=by
  rcases h with h | ⟨o,h1,h2,h3,h4⟩
  · exact .inl h
  · refine .inr ⟨o,c.keep a o h1 h3,h2,fun q=>?_,h4⟩
    rcases c.new a q with z | z
    · exact h3 z
    · rw [h1] at z;cases z
theorem Arg.put {K:PySem.W.Frag} {H:Hp} {net:Addr} {g:Geo} {t a:Addr} {l:List Int} {o:HO} (h:Arg K H net g t a l):Arg K (upd H t o) net g t a l:=by
  rcases h with h | ⟨u,h1,h2,h3,h4⟩
  · exact .inl h
  · exact .inr ⟨u,by rw [upd_ne h4];exact h1,h2,h3,h4⟩
theorem NetAt.notOwn {T:Ad} {H:Hp} {net:Addr} {s:State} {g:Geo} (N:NetAt T H net s g) {t:Addr} (ht:H t=none):¬ OwnN net g t:=by
  rintro (e | e | e | e)
  · rw [e,N.obj] at ht;cases ht
  · rw [e,N.nl] at ht;cases ht
  · rw [e,N.tl] at ht;cases ht
  · obtain ⟨i,hi⟩:=List.getElem?_of_mem e
    have hl:i < s.nodes.length:=by rw [← N.len];exact (List.getElem?_eq_some_iff.mp hi).1
    obtain ⟨a',ha',_,d,hn⟩:=N.node hl
    obtain rfl:t=a':=Option.some.inj (hi.symm.trans ha')
    rw [hn] at ht;cases ht
structure Loop (K:PySem.W.Frag) (T:Ad) (l fin:List Int) (a net t:Addr) (place:Nat) (H:Hp) (s:State) (g:Geo) (acc:List Int) (rest:List (List (List Int))):Prop where
  N:NetAt T H net s g
  tl:H t=some (.lst (zis acc))
  tn:¬ OwnN net g t
  al:Arg K H net g t a l
  le:place≤l.length
  rd:∃ f,PyFlat.calls PyVbsgad.shape f (l.drop place)=some rest
  ask:∀ c∈rest,VbsgadNeutral.asked1 c=true
  fin:fin=acc++PyFlat.told (PyFlat.played VbsgadNeutral.step s rest)
  bd:acc.length + 200 * rest.length≤80000
end Sh
end
section
namespace Sh
open PySem PySem.Spec PyProof.Rows L2
open Vbsgad (State Node)
section
variable {P:Program} {w:World} {K:PySem.W.Frag} {mg:Str→Option Value} {base:Heap} {T:Ad}
def sp_answers (K:PySem.W.Frag):Sp:=fun vs H Q _=>∃ a l,vs=[.ref a]∧SqL K H a (zis l)∧l.length≤30000∧PyVbsgad.answers_asked l=true∧∀ H' p,H' p=some (.lst (zis (PyVbsgad.answers l)))→Q (.ref p) H'
theorem asked_cs {l:List Int} (h:PyVbsgad.answers_asked l=true):∃ cs,PyFlat.calls PyVbsgad.shape l.length l=some cs∧cs.length≤400∧(∀ c∈cs,VbsgadNeutral.asked1 c=true)∧PyVbsgad.answers l=PyFlat.told (PyFlat.played VbsgadNeutral.step VbsgadNeutral.start cs):=by
  unfold PyVbsgad.answers_asked at h
  unfold PyVbsgad.answers
  rw [Th.calls_eq] at h ⊢
  cases e:PyFlat.calls PyVbsgad.shape l.length l with
  | none=>rw [e] at h;cases h
  | some cs =>
    rw [e] at h
    have h':(PyFlat.atMost 400 cs && VbsgadNeutral.asked cs)=true:=h
    rw [Bool.and_eq_true] at h'
    refine ⟨cs,rfl,of_decide_eq_true h'.1,fun c hc=>?_,rfl⟩
    have h2:=h'.2
    unfold VbsgadNeutral.asked at h2
    rw [Bool.and_eq_true] at h2
    exact List.all_eq_true.mp h2.1 c hc
theorem asked_row {p:Int} {n:Nat} {r row:List Int} (hs:PyVbsgad.shape p=some (n,1)) (hl:n≤r.length) (h:VbsgadNeutral.asked1 [p :: r.take n,row]=true):row.length≤1000:=by
  have end_:∀ {a b:Bool},(a && (b && decide (row.length≤1000)))=true→row.length≤1000:=by
    intro a b e
    rw [Bool.and_eq_true,Bool.and_eq_true] at e
    exact of_decide_eq_true e.2.2
  have m:(p,n,1)∈[((8:Int),0,1),(13,1,1),(14,1,1)]:=by
    have all:∀ q∈Th.shapes,q.2.2=1→q∈[((8:Int),0,1),(13,1,1),(14,1,1)]:=by decide
    exact all _ (Th.shape_mem hs) rfl
  simp only [List.mem_cons,Prod.mk.injEq,List.not_mem_nil,or_false] at m
  rcases m with ⟨rfl,rfl,_⟩ | ⟨rfl,rfl,_⟩ | ⟨rfl,rfl,_⟩
  · have h':(row.all (fun z=>VbsgadNeutral.whole32 z) && decide (row.length≤1000))=true:=h
    rw [Bool.and_eq_true] at h'
    exact of_decide_eq_true h'.2
  · match r,hl with
    | x :: _,_=>exact end_ (a:=VbsgadNeutral.whole32 x) (b:=row.all (fun z=>VbsgadNeutral.whole32 z)) h
  · match r,hl with
    | x :: _,_=>exact end_ (a:=VbsgadNeutral.whole32 x) (b:=row.all (fun z=>VbsgadNeutral.whole32 z)) h
theorem ok_answers (Y:Tx K mg T) {dC:Addr} {kvs:List (Int × V)} (B:Tbl P w K mg base T dC kvs):FnOk P w K mg base CX0 11 T.f_answers T.d_answers ["calls"] (sp_answers K):=by
  have G1:=ok_Network___init__ (P:=P) (w:=w) (base:=base) Y
  have G2:=ok_counted (P:=P) (w:=w) (base:=base) Y
  refine Y.F_answers.ok sc_answers (fun vs H Q E h=>?_) (fun cdv A outer sh H vs Q E hr h=>?_)
  · obtain ⟨a,l,rfl,_⟩:=h
    rfl
  · obtain ⟨a,l,rfl,hal,hll,hask,k⟩:=h
    obtain ⟨cs,hcs,hc400,hcask,hans⟩:=asked_cs hask
    rw [hans] at k
    have nd:=sc_answers.nd
    have hr1:Room 1 _:=hr.mono (by decide)
    have hr2:Room 2 _:=hr.mono (by decide)
    have hr9:Room 9 _:=hr.mono (by decide)
    refine ⟨_,pss_cons (ps_set (i:=1) nd rfl (Or.inl rfl) (pe_make0 Y.mk_Network G1 hr2 (by rfl) Y.gc_Network Y.B_Network___init__ .nil pass0))
      (pss_cons (ps_set (i:=2) nd rfl (Or.inl rfl) (pe_lst pa_nil))
      (pss_cons (ps_set (i:=3) nd rfl (Or.inl rfl) pe_int)
      (pss_cons (ps_while PassesOwn.never (pt_cmpR op_lt (pv 3) (pe_callB call_len_seq (by rfl) Y.b_len PySem.boot_len (pa_cons (pv 0) pa_nil)) (nomark _))
        (pss_cons (ps_set (i:=4) nd rfl (Or.inl rfl) (pe_kdict (pe_glob (v:=.ref dC) (by rfl) B.gl rfl) (pe_ix ix_list (pv 0) (pv 3) (fun _ _=>rfl)) (fun _ _=>rfl)))
        (pss_cons (ps_set (i:=5) nd rfl (Or.inl rfl) (pe_op op_add (pe_op op_add (pv 3) pe_int) (pe_ix ix_tup (pv 4) pe_int (fun _ _=>rfl))))
        (pss_cons (ps_set (i:=6) nd rfl (Or.inl rfl) (pe_slice sl_list (pv 0) (po_some (pe_op op_add (pv 3) pe_int)) (po_some (pv 5))))
        (pss_cons (ps_if (pt_cmpR op_eq (pe_ix ix_tup (pv 4) pe_int (fun _ _=>rfl)) pe_int (nomark _))
          (pss_cons (ps_set (i:=8) nd rfl (Or.inl rfl) (pe_op op_add (pe_op op_add (pv 5) pe_int) (pe_ix ix_list (pv 0) (pv 5) (fun _ _=>rfl))))
          (pss_cons (ps_expr (pe_bm PySem.F.plainAttrs_list PySem.F.slot_list_append PySem.F.type_list_append mt_append (pv 6) (pa_cons (pe_slice sl_list (pv 0) (po_some (pe_op op_add (pv 5) pe_int)) (po_some (pv 8))) pa_nil)))
          (pss_one (ps_set (i:=5) nd rfl (Or.inl rfl) (pv 8)))))
          pss_nil)
        (pss_cons (ps_set (i:=7) nd rfl (Or.inl rfl) (pe_ix ix_tup (pv 4) pe_int (fun _ _=>rfl)))
        (pss_cons (ps_expr (pe_bm PySem.F.plainAttrs_list PySem.F.slot_list_extend PySem.F.type_list_extend mt_extend (pv 2) (pa_cons (pe_call G2 hr1 (by rfl) Y.G_counted Y.F_counted.kp Y.B_counted .nil pass0 (pa_cons (pe_callL (CX:=CX0) (E:=E0) (i:=7) rfl (Or.inl rfl) pass0 (pa_cons (pv 1) (pa_cons (pv 6) pa_nil))) pa_nil)) pa_nil)))
        (pss_one (ps_set (i:=3) nd rfl (Or.inl rfl) (pv 5))))))))))
      (pss_one (ps_ret (pv 2)))))),?_⟩
    intro net dn hnet hdn hne
    refine ⟨net,dn,rfl,upd_same,fun H1 g N1 kp hln hll' has=>⟨rfl,?_⟩⟩
    have s1:Same H H1:=Same.made hnet hdn kp
    refine ⟨Nat.zero_le _,fun t ht=>?_⟩
    have s2:Same H1 (upd H1 t (.lst [])):=Same.lay ht
    have A0:Arg K H1 net g t a l:=by
      rcases hal with h | h
      · have key:∀ o,H a=some o→(o=.lst (zis l)∨∃ ob,o=.frz ob (.lst (zis l)))→Arg K H1 net g t a l:=fun o h1 h2=>by
          refine .inr ⟨o,s1 _ _ h1,h2,?_,ne_of_none (s1 _ _ h1) ht⟩
          have hb:∀ b,(upd (upd H dn (.own net)) net (.ins T.c_Network dn [])) b=none→a≠b:=fun b hb e=>by
            have:=upd_none (upd_none hb)
            rw [← e,h1] at this
            cases this
          rintro (e | e | e | e)
          · rw [e] at h1;rw [h1] at hnet;cases hnet
          · exact hb _ hln e
          · exact hb _ hll' e
          · rw [has] at e;cases e
        rcases h with h | ⟨ob,h⟩
        · exact key _ h (.inl rfl)
        · exact key _ h (.inr ⟨ob,rfl⟩)
      · exact .inl fun H'=>.inr h
    have L0:Loop K T l (PyFlat.told (PyFlat.played VbsgadNeutral.step VbsgadNeutral.start cs)) a net t 0 (upd H1 t (.lst [])) Vbsgad.start g [] cs :=
      ⟨N1.same s2,upd_same,N1.notOwn ht,A0.put,Nat.zero_le _,⟨_,hcs⟩,hcask,rfl,by show 0 + 200 * cs.length≤80000;omega⟩
    refine ⟨fun m σ H'=>∃ (place:Nat) (s:State) (g:Geo) (acc:List Int) (rest:List (List (List Int))) (v4 v5 v6 v7 v8:Option V),σ=[some (.ref a),some (.ref net),some (.ref t),some (.int (place:Int)),v4,v5,v6,v7,v8]∧m=l.length - place∧Loop K T l (PyFlat.told (PyFlat.played VbsgadNeutral.step VbsgadNeutral.start cs)) a net t place H' s g acc rest,
      ⟨_,0,_,_,_,_,none,none,none,none,none,rfl,rfl,L0⟩,?_⟩
    rintro m σ H2 ⟨place,s,g,acc,rest,v4,v5,v6,v7,v8,rfl,rfl,L⟩
    have al:=L.al.sq
    refine ⟨_,rfl,_,rfl,a,_,rfl,.inl al,_,_,rfl,rfl,_,rfl,?_⟩
    rw [zis_len]
    obtain ⟨f,hrd⟩:=L.rd
    by_cases hlt:(place:Int) < (l.length:Int)
    · rw [decide_eq_true hlt]
      refine iteT ⟨fun σ' H'=>∃ m',m' < l.length - place∧∃ (place:Nat) (s:State) (g:Geo) (acc:List Int) (rest:List (List (List Int))) (v4 v5 v6 v7 v8:Option V),σ'=[some (.ref a),some (.ref net),some (.ref t),some (.int (place:Int)),v4,v5,v6,v7,v8]∧m'=l.length - place∧Loop K T l (PyFlat.told (PyFlat.played VbsgadNeutral.step VbsgadNeutral.start cs)) a net t place H' s g acc rest,fun _ _ z=>z,?_⟩
      rcases Th.calls_step hrd with ⟨e,_⟩ | ⟨p,r,n,kk,c,tl,cs',f',e1,e2,e3,e4,e5,e6⟩
      · exfalso
        have:=congrArg List.length e
        rw [List.length_drop,List.length_nil] at this
        omega
      subst e5
      obtain ⟨d1,d2,d3⟩:=drop_at e1
      obtain ⟨tp,fa,fd,t1,t2,t3,t4,t5⟩:=B.at_ p n kk e2
      have hrl:r.length=l.length - (place + 1):=by rw [d2,List.length_drop]
      refine ⟨_,rfl,_,rfl,a,_,_,_,rfl,rfl,al,at_of (j:=place) (v:=V.int p) rfl (by unfold zis;rw [List.getElem?_map,d1];rfl),dC,p,kvs,_,rfl,rfl,B.kd,t1,?_⟩
      refine ⟨_,rfl,_,_,rfl,rfl,_,rfl,tp,_,_,_,rfl,rfl,t2 _,rfl,_,_,rfl,rfl,?_⟩
      refine ⟨_,rfl,_,rfl,_,_,rfl,rfl,_,rfl,_,rfl,_,rfl,a,_,rfl,al,fun ag hag=>?_⟩
      have ec:cutV (zis l) (some ((place:Int) + 1)) (some ((place:Int) + 1 + (n:Int)))=zis (r.take n):=by
        rw [show (place:Int) + 1=((place + 1:Nat):Int) by omega,cut_is l (place + 1) n (by omega),← d2]
      rw [ec]
      have sa:Same H2 (upd H2 ag (.lst (zis (r.take n)))):=Same.lay hag
      have hask1:VbsgadNeutral.asked1 c=true:=L.ask c (List.mem_cons_self ..)
      have tail:∀ (D:Ends) (H4:Hp) (ag:Addr) (b:Nat) (bi:Int) (w8:Option V),bi=(b:Int)→(∀ H5 g5 acc5 w7,Loop K T l (PyFlat.told (PyFlat.played VbsgadNeutral.step VbsgadNeutral.start cs)) a net t b H5 (VbsgadNeutral.step s c).1 g5 acc5 cs'→D.nx [some (.ref a),some (.ref net),some (.ref t),some (.int (b:Int)),some (.ref tp),some (.int (b:Int)),some (.ref ag),w7,w8] H5) →
          Same H2 H4→tl=l.drop b→b≤l.length →
          (∀ Q':VK,(∀ H' q g',NetAt T H' net (VbsgadNeutral.step s c).1 g'→Chg H4 H' net g g'→H4 q=none→H' q=some (.lst (zis (VbsgadNeutral.step s c).2))→Q' (.ref q) H')→(if kk=0 then spA0 T p n else spA1 T p n) [.ref net,.ref ag] H4 Q' E0) →
          tSeq (tAsg (tOp (rIxT K) (tVar 4) (tC (.int 2))) (gName 7)) (tSeq (tDrop (tBM K "list" rExtend (tVar 2) (tCons (tCall sp_counted [] E0 (tCons (tCallL (cxOf CX0 P w K mg base n_answers "answers" (defScope s_answers) T.f_answers cdv A outer sh H E).nox CX0 7 E0 (tCons (tVar 1) (tCons (tVar 6) tNil))) tNil)) tNil))) (tAsg (tVar 5) (gName 3))) D
            [some (.ref a),some (.ref net),some (.ref t),some (.int (place:Int)),some (.ref tp),some (.int bi),some (.ref ag),v7,w8] H4:=by
        intro D H4 ag b bi w8 hbi hD s4 htl hb hsp
        subst hbi
        refine ⟨_,rfl,tp,_,_,_,rfl,rfl,t2 _,rfl,?_⟩
        have ht4:=s4 _ _ L.tl
        refine ⟨_,rfl,.inl ⟨rfl,_,SqL.of ht4⟩,fa,fd,_,_,9,rfl,t3,hr9,t4,t5,_,rfl,_,rfl,?_⟩
        refine hsp _ fun H5 q g' N5 C5 hq5 hl5=>?_
        have hlen:=nstep_len L.N.wfs c
        refine ⟨q,_,rfl,hl5,by rw [zis_len];omega,fun H6 u s6 hu6 hl6=>?_⟩
        have ht5:H5 t=some (.lst (zis acc)):=C5.keep t _ ht4 L.tn
        have ht6:=s6 _ _ ht5
        have htu:t≠u:=ne_of_none ht5 hu6
        have hbd:=L.bd
        rw [List.length_cons] at hbd
        refine ⟨t,u,_,_,rfl,rfl,ht6,hl6,?_,?_⟩
        · rw [List.length_cons,zis_len,zis_len,sizeLine_eq]
          omega
        have C4:Chg H2 H4 net g g:=Chg.same s4
        have C6:Chg H2 H6 net g g':=(C4.trans C5).trans (Chg.same s6)
        have htn':¬ OwnN net g' t:=fun z=>by
          rcases C6.new t z with z | z
          · exact L.tn z
          · rw [L.tl] at z;cases z
        have N6:=(N5.same s6).other (ys:=zis acc++(.int ((zis (VbsgadNeutral.step s c).2).length:Nat) :: zis (VbsgadNeutral.step s c).2)) ht6 htn'
        refine ⟨_,rfl,hD _ g' (acc++(((VbsgadNeutral.step s c).2.length:Int) :: (VbsgadNeutral.step s c).2)) _ ⟨N6,?_,htn',(L.al.chg C6).put,hb,⟨f',by rw [← htl];exact e6⟩,fun c' hc'=>L.ask c' (List.mem_cons_of_mem _ hc'),?_,?_⟩⟩
        · rw [upd_same,zis_append,zis_len]
          rfl
        · rw [L.fin]
          show acc++PyFlat.told ((VbsgadNeutral.step s c).2 :: PyFlat.played VbsgadNeutral.step (VbsgadNeutral.step s c).1 cs')=_
          rw [told_cons,List.append_assoc]
        · rw [List.length_append,List.length_cons]
          omega
      have hagn:¬ OwnN net g ag:=L.N.notOwn hag
      refine ⟨_,rfl,tp,_,_,_,rfl,rfl,t2 _,rfl,rfl,_,rfl,?_⟩
      cases e4 with
      | plain hk =>
        subst hk
        refine iteF ?_
        refine tail _ _ ag (place + 1 + n) _ _ (by omega) ?_ sa (by rw [d2,List.drop_drop]) (by omega) ?_
        · intro H5 g5 acc5 w7 L5
          exact ⟨l.length - (place + 1 + n),by omega,place + 1 + n,_,g5,acc5,cs',_,_,_,_,_,rfl,rfl,L5⟩
        · intro Q' hQ
          rw [if_pos rfl]
          exact ⟨net,ag,s,g,r.take n,rfl,L.N.same sa,upd_same,by rw [List.length_take];omega,hagn,hQ⟩
      | @row mm r2 hk hd hm0 hm1 =>
        subst hk
        refine iteT ?_
        have hd':l.drop (place + 1 + n)=mm :: r2:=by rw [← hd,d2,List.drop_drop]
        obtain ⟨x1,x2,x3⟩:=drop_at hd'
        have hr2:r2.length=l.length - (place + 1 + n + 1):=by rw [x2,List.length_drop]
        have ala:SqL K (upd H2 ag (.lst (zis (r.take n)))) a (zis l):=sa.seq al
        refine ⟨_,rfl,_,_,rfl,rfl,_,rfl,_,rfl,a,_,_,_,rfl,rfl,ala,at_of (j:=place + 1 + n) (v:=V.int mm) (by omega) (by unfold zis;rw [List.getElem?_map,x1];rfl),_,_,rfl,rfl,?_⟩
        refine ⟨_,rfl,.inl ⟨rfl,_,SqL.of upd_same⟩,_,rfl,_,rfl,_,_,rfl,rfl,_,rfl,_,rfl,_,rfl,a,_,rfl,ala,fun rw' hrw=>?_⟩
        have ec2:cutV (zis l) (some ((place:Int) + 1 + (n:Int) + 1)) (some ((place:Int) + 1 + (n:Int) + 1 + mm))=zis (r2.take mm.toNat):=by
          rw [show (place:Int) + 1 + (n:Int) + 1=((place + 1 + n + 1:Nat):Int) by omega,show mm=((mm.toNat:Nat):Int) by omega,cut_is l (place + 1 + n + 1) mm.toNat (by omega),← x2]
          rfl
        rw [ec2]
        have sr:Same (upd H2 ag (.lst (zis (r.take n)))) (upd (upd H2 ag (.lst (zis (r.take n)))) rw' (.lst (zis (r2.take mm.toNat)))):=Same.lay hrw
        have hagr:ag≠rw':=ne_of_none (H:=upd H2 ag (.lst (zis (r.take n)))) upd_same hrw
        have hr0:H2 rw'=none:=upd_none hrw
        refine ⟨ag,_,_,rfl,rfl,by rw [upd_ne hagr];exact upd_same,by rw [zis_len,List.length_take];exact Nat.lt_of_le_of_lt (Nat.min_le_right _ _) (by rw [sizeLine_eq];omega),?_⟩
        have s4:Same H2 (upd (upd (upd H2 ag (.lst (zis (r.take n)))) rw' (.lst (zis (r2.take mm.toNat)))) ag (.lst (zis (r.take n)++[.ref rw']))):=(sa.trans sr).wr hag
        refine ⟨_,rfl,?_⟩
        have eb:(place:Int) + 1 + (n:Int) + 1 + mm=((place + 1 + n + 1 + mm.toNat:Nat):Int):=by omega
        refine tail _ _ ag (place + 1 + n + 1 + mm.toNat) _ _ eb ?_ s4 (by rw [x2,List.drop_drop]) (by omega) ?_
        · intro H5 g5 acc5 w7 L5
          exact ⟨l.length - (place + 1 + n + 1 + mm.toNat),by omega,_,_,g5,acc5,cs',_,_,_,_,_,rfl,rfl,L5⟩
        · intro Q' hQ
          rw [if_neg (by decide)]
          refine ⟨net,ag,rw',s,g,r.take n,r2.take mm.toNat,rfl,L.N.same s4,upd_same,by rw [upd_ne (Ne.symm hagr)];exact upd_same,by rw [List.length_take];omega,asked_row e2 e3 hask1,hagn,L.N.notOwn hr0,hQ⟩
    · rw [decide_eq_false hlt]
      refine iteF ?_
      have hpl:place=l.length:=by have:=L.le;omega
      rw [hpl,List.drop_length] at hrd
      have hrest:rest=[]:=by
        rcases Th.calls_step hrd with ⟨_,e⟩ | ⟨p,r,n,kk,c,tl,cs',f',e1,_⟩
        · exact e
        · cases e1
      have hf:=L.fin
      rw [hrest] at hf
      have hf':PyFlat.told (PyFlat.played VbsgadNeutral.step VbsgadNeutral.start cs)=acc:=by
        rw [hf]
        exact List.append_nil _
      refine ⟨_,rfl,k H2 t ?_⟩
      rw [hf']
      exact L.tl
end
end Sh
end
section
namespace Sh
open PySem PySem.Spec PyProof.Rows L2
open Vbsgad (State Node)
theorem ask_no {s:State} {a:Int} {f:Nat→Vbsgad.Got Vbsgad.Answer} (h:inN s a=false):Vbsgad.ask s ((Vbsgad.nodeGot s a).bind f)=(s,[-1]):=by
  rw [got_no h];rfl
theorem ask_is {s:State} {a:Int} {f:Nat→Vbsgad.Got Vbsgad.Answer} (h:inN s a=true):Vbsgad.ask s ((Vbsgad.nodeGot s a).bind f)=Vbsgad.ask s (f a.toNat):=by
  rw [got_ok h];rfl
theorem inN_lt {s:State} {a:Int} (h:inN s a=true):a.toNat < s.nodes.length∧(a.toNat:Int)=a:=by
  obtain ⟨a0,a1⟩:=inN_true.mp h
  have:Vbsgad.size s=s.nodes.length:=rfl
  constructor <;> omega
theorem nearest_len (s:State) (g:Nat):(Vbsgad.nearest s g).length≤s.nodes.length:=Nat.le_trans (List.length_filter_le _ _) (tight_len s g)
theorem furthest_len (s:State) (g:Nat):(Vbsgad.furthest s g).length≤s.nodes.length:=Nat.le_trans (List.length_filter_le _ _) (tight_len s g)
theorem needed_len (s:State) (g:Nat):(Vbsgad.needed s g).length≤s.nodes.length:=by
  unfold Vbsgad.needed
  split
  · exact Nat.zero_le _
  · exact range_filter_len _ _
section
variable {P:Program} {w:World} {K:PySem.W.Frag} {mg:Str→Option Value} {base:Heap} {T:Ad}
theorem ok_answer_tight (Y:Tx K mg T):FnOk P w K mg base CX0 8 T.f_answer_tight T.d_answer_tight ["network","arguments"] (spA0 T 10 1):=by
  have G1:=ok_Network_has_node (P:=P) (w:=w) (base:=base) Y
  have G2:=ok_counted (P:=P) (w:=w) (base:=base) Y
  have G3:=ok_tight_stops (P:=P) (w:=w) (base:=base) Y
  refine Y.F_answer_tight.ok sc_answer_tight (fun vs H Q E h=>?_) (fun cdv A outer s H vs Q E hr h=>?_)
  · obtain ⟨net,a,s,g,xs,rfl,_⟩:=h
    rfl
  · obtain ⟨net,ar,s,g,xs,rfl,N,har,hx,hown,k⟩:=h
    obtain ⟨a,rfl⟩:=len1 hx
    have k2:∀ H' q g',NetAt T H' net (Vbsgad.step s (.tight a)).1 g'→Chg H H' net g g'→H q=none→H' q=some (.lst (zis (Vbsgad.step s (.tight a)).2))→Q (.ref q) H':=k
    clear k
    have nd:=sc_answer_tight.nd
    have hr1:Room 1 _:=hr.mono (by decide)
    have hr3:Room 6 _:=hr.mono (by decide)
    have hn:=N.wfs.sz
    obtain ⟨t1,k1⟩:=Y.k_NO_SUCH_NODE
    refine ⟨_,pss_cons (ps_set (i:=2) nd rfl (Or.inl rfl) (pe_ix ix_list (pv 1) pe_int (fun _ _=>rfl)))
      (pss_cons (ps_if (pt_not (pt_val (pe_meth (pv 0) Y.cl_Network Y.M_Network_has_node G1 hr1 Y.B_Network_has_node .nil pass0 (pa_cons (pv 2) pa_nil)))) (pss_one (ps_ret (pe_lst (pa_cons (pe_k (by rfl) k1) pa_nil)))) pss_nil)
      (pss_one (ps_ret (pe_call G2 hr1 (by rfl) Y.G_counted Y.F_counted.kp Y.B_counted .nil pass0 (pa_cons (pe_call G3 hr3 (by rfl) Y.G_tight_stops Y.F_tight_stops.kp Y.B_tight_stops .nil pass0 (pa_cons (pv 0) (pa_cons (pv 2) pa_nil))) pa_nil))))),?_⟩
    refine ⟨_,rfl,ar,_,_,_,rfl,rfl,SqL.of har,rfl,?_⟩
    refine ⟨_,rfl,net,_,_,rfl,N.obj,wf_none _ _ (by decide +kernel) (by decide +kernel),_,rfl,net,a,s,g,rfl,N,_,rfl,?_⟩
    show if (!inN s a)=true then _ else _
    have hst:Vbsgad.step s (.tight a)=Vbsgad.ask s ((Vbsgad.nodeGot s a).bind fun a=>.ok (Vbsgad.counted Vbsgad.one (Vbsgad.tight s a))):=rfl
    rw [hst] at k2
    cases ia:inN s a with
    | false =>
      rw [ask_no ia] at k2
      exact iteT ⟨one_le,fun q hq=>k2 _ q g (N.same (Same.lay hq)) (Chg.same (Same.lay hq)) hq upd_same⟩
    | true =>
      rw [ask_is ia] at k2
      obtain ⟨h1,h2⟩:=inN_lt ia
      generalize a.toNat=b at h1 h2 k2
      subst h2
      refine iteF ⟨_,rfl,_,rfl,net,s,g,b,rfl,N,h1,fun H1 p s1 hp hl=>?_⟩
      have hlen:=tight_len s b
      refine ⟨p,_,rfl,hl,by rw [nis_len];omega,fun H2 r s2 hr2 hl2=>?_⟩
      refine k2 H2 r g (N.same (s1.trans s2)) (Chg.same (s1.trans s2)) (s1.free hr2) ?_
      show H2 r=some (.lst (zis (Vbsgad.counted Vbsgad.one (Vbsgad.tight s b))))
      rw [hl2,counted_one,nis_len]
theorem ok_answer_nearest (Y:Tx K mg T):FnOk P w K mg base CX0 8 T.f_answer_nearest T.d_answer_nearest ["network","arguments"] (spA0 T 11 1):=by
  have G1:=ok_Network_has_node (P:=P) (w:=w) (base:=base) Y
  have G2:=ok_counted (P:=P) (w:=w) (base:=base) Y
  have G3:=ok_nearest_stops (P:=P) (w:=w) (base:=base) Y
  refine Y.F_answer_nearest.ok sc_answer_nearest (fun vs H Q E h=>?_) (fun cdv A outer s H vs Q E hr h=>?_)
  · obtain ⟨net,a,s,g,xs,rfl,_⟩:=h
    rfl
  · obtain ⟨net,ar,s,g,xs,rfl,N,har,hx,hown,k⟩:=h
    obtain ⟨a,rfl⟩:=len1 hx
    have k2:∀ H' q g',NetAt T H' net (Vbsgad.step s (.nearest a)).1 g'→Chg H H' net g g'→H q=none→H' q=some (.lst (zis (Vbsgad.step s (.nearest a)).2))→Q (.ref q) H':=k
    clear k
    have nd:=sc_answer_nearest.nd
    have hr1:Room 1 _:=hr.mono (by decide)
    have hr3:Room 7 _:=hr.mono (by decide)
    have hn:=N.wfs.sz
    obtain ⟨t1,k1⟩:=Y.k_NO_SUCH_NODE
    refine ⟨_,pss_cons (ps_set (i:=2) nd rfl (Or.inl rfl) (pe_ix ix_list (pv 1) pe_int (fun _ _=>rfl)))
      (pss_cons (ps_if (pt_not (pt_val (pe_meth (pv 0) Y.cl_Network Y.M_Network_has_node G1 hr1 Y.B_Network_has_node .nil pass0 (pa_cons (pv 2) pa_nil)))) (pss_one (ps_ret (pe_lst (pa_cons (pe_k (by rfl) k1) pa_nil)))) pss_nil)
      (pss_one (ps_ret (pe_call G2 hr1 (by rfl) Y.G_counted Y.F_counted.kp Y.B_counted .nil pass0 (pa_cons (pe_call G3 hr3 (by rfl) Y.G_nearest_stops Y.F_nearest_stops.kp Y.B_nearest_stops .nil pass0 (pa_cons (pv 0) (pa_cons (pv 2) pa_nil))) pa_nil))))),?_⟩
    refine ⟨_,rfl,ar,_,_,_,rfl,rfl,SqL.of har,rfl,?_⟩
    refine ⟨_,rfl,net,_,_,rfl,N.obj,wf_none _ _ (by decide +kernel) (by decide +kernel),_,rfl,net,a,s,g,rfl,N,_,rfl,?_⟩
    show if (!inN s a)=true then _ else _
    have hst:Vbsgad.step s (.nearest a)=Vbsgad.ask s ((Vbsgad.nodeGot s a).bind fun a=>.ok (Vbsgad.counted Vbsgad.one (Vbsgad.nearest s a))):=rfl
    rw [hst] at k2
    cases ia:inN s a with
    | false =>
      rw [ask_no ia] at k2
      exact iteT ⟨one_le,fun q hq=>k2 _ q g (N.same (Same.lay hq)) (Chg.same (Same.lay hq)) hq upd_same⟩
    | true =>
      rw [ask_is ia] at k2
      obtain ⟨h1,h2⟩:=inN_lt ia
      generalize a.toNat=b at h1 h2 k2
      subst h2
      refine iteF ⟨_,rfl,_,rfl,net,s,g,b,rfl,N,h1,fun H1 p s1 hp hl=>?_⟩
      have hlen:=nearest_len s b
      refine ⟨p,_,rfl,hl,by rw [nis_len];omega,fun H2 r s2 hr2 hl2=>?_⟩
      refine k2 H2 r g (N.same (s1.trans s2)) (Chg.same (s1.trans s2)) (s1.free hr2) ?_
      show H2 r=some (.lst (zis (Vbsgad.counted Vbsgad.one (Vbsgad.nearest s b))))
      rw [hl2,counted_one,nis_len]
theorem ok_answer_furthest (Y:Tx K mg T):FnOk P w K mg base CX0 8 T.f_answer_furthest T.d_answer_furthest ["network","arguments"] (spA0 T 12 1):=by
  have G1:=ok_Network_has_node (P:=P) (w:=w) (base:=base) Y
  have G2:=ok_counted (P:=P) (w:=w) (base:=base) Y
  have G3:=ok_furthest_stops (P:=P) (w:=w) (base:=base) Y
  refine Y.F_answer_furthest.ok sc_answer_furthest (fun vs H Q E h=>?_) (fun cdv A outer s H vs Q E hr h=>?_)
  · obtain ⟨net,a,s,g,xs,rfl,_⟩:=h
    rfl
  · obtain ⟨net,ar,s,g,xs,rfl,N,har,hx,hown,k⟩:=h
    obtain ⟨a,rfl⟩:=len1 hx
    have k2:∀ H' q g',NetAt T H' net (Vbsgad.step s (.furthest a)).1 g'→Chg H H' net g g'→H q=none→H' q=some (.lst (zis (Vbsgad.step s (.furthest a)).2))→Q (.ref q) H':=k
    clear k
    have nd:=sc_answer_furthest.nd
    have hr1:Room 1 _:=hr.mono (by decide)
    have hr3:Room 7 _:=hr.mono (by decide)
    have hn:=N.wfs.sz
    obtain ⟨t1,k1⟩:=Y.k_NO_SUCH_NODE
    refine ⟨_,pss_cons (ps_set (i:=2) nd rfl (Or.inl rfl) (pe_ix ix_list (pv 1) pe_int (fun _ _=>rfl)))
      (pss_cons (ps_if (pt_not (pt_val (pe_meth (pv 0) Y.cl_Network Y.M_Network_has_node G1 hr1 Y.B_Network_has_node .nil pass0 (pa_cons (pv 2) pa_nil)))) (pss_one (ps_ret (pe_lst (pa_cons (pe_k (by rfl) k1) pa_nil)))) pss_nil)
      (pss_one (ps_ret (pe_call G2 hr1 (by rfl) Y.G_counted Y.F_counted.kp Y.B_counted .nil pass0 (pa_cons (pe_call G3 hr3 (by rfl) Y.G_furthest_stops Y.F_furthest_stops.kp Y.B_furthest_stops .nil pass0 (pa_cons (pv 0) (pa_cons (pv 2) pa_nil))) pa_nil))))),?_⟩
    refine ⟨_,rfl,ar,_,_,_,rfl,rfl,SqL.of har,rfl,?_⟩
    refine ⟨_,rfl,net,_,_,rfl,N.obj,wf_none _ _ (by decide +kernel) (by decide +kernel),_,rfl,net,a,s,g,rfl,N,_,rfl,?_⟩
    show if (!inN s a)=true then _ else _
    have hst:Vbsgad.step s (.furthest a)=Vbsgad.ask s ((Vbsgad.nodeGot s a).bind fun a=>.ok (Vbsgad.counted Vbsgad.one (Vbsgad.furthest s a))):=rfl
    rw [hst] at k2
    cases ia:inN s a with
    | false =>
      rw [ask_no ia] at k2
      exact iteT ⟨one_le,fun q hq=>k2 _ q g (N.same (Same.lay hq)) (Chg.same (Same.lay hq)) hq upd_same⟩
    | true =>
      rw [ask_is ia] at k2
      obtain ⟨h1,h2⟩:=inN_lt ia
      generalize a.toNat=b at h1 h2 k2
      subst h2
      refine iteF ⟨_,rfl,_,rfl,net,s,g,b,rfl,N,h1,fun H1 p s1 hp hl=>?_⟩
      have hlen:=furthest_len s b
      refine ⟨p,_,rfl,hl,by rw [nis_len];omega,fun H2 r s2 hr2 hl2=>?_⟩
      refine k2 H2 r g (N.same (s1.trans s2)) (Chg.same (s1.trans s2)) (s1.free hr2) ?_
      show H2 r=some (.lst (zis (Vbsgad.counted Vbsgad.one (Vbsgad.furthest s b))))
      rw [hl2,counted_one,nis_len]
theorem ok_answer_needed (Y:Tx K mg T):FnOk P w K mg base CX0 8 T.f_answer_needed T.d_answer_needed ["network","arguments"] (spA0 T 15 1):=by
  have G1:=ok_Network_has_node (P:=P) (w:=w) (base:=base) Y
  have G2:=ok_counted (P:=P) (w:=w) (base:=base) Y
  have G3:=ok_needed_nodes (P:=P) (w:=w) (base:=base) Y
  refine Y.F_answer_needed.ok sc_answer_needed (fun vs H Q E h=>?_) (fun cdv A outer s H vs Q E hr h=>?_)
  · obtain ⟨net,a,s,g,xs,rfl,_⟩:=h
    rfl
  · obtain ⟨net,ar,s,g,xs,rfl,N,har,hx,hown,k⟩:=h
    obtain ⟨a,rfl⟩:=len1 hx
    have k2:∀ H' q g',NetAt T H' net (Vbsgad.step s (.needed a)).1 g'→Chg H H' net g g'→H q=none→H' q=some (.lst (zis (Vbsgad.step s (.needed a)).2))→Q (.ref q) H':=k
    clear k
    have nd:=sc_answer_needed.nd
    have hr1:Room 1 _:=hr.mono (by decide)
    have hr3:Room 4 _:=hr.mono (by decide)
    have hn:=N.wfs.sz
    obtain ⟨t1,k1⟩:=Y.k_NO_SUCH_NODE
    refine ⟨_,pss_cons (ps_set (i:=2) nd rfl (Or.inl rfl) (pe_ix ix_list (pv 1) pe_int (fun _ _=>rfl)))
      (pss_cons (ps_if (pt_not (pt_val (pe_meth (pv 0) Y.cl_Network Y.M_Network_has_node G1 hr1 Y.B_Network_has_node .nil pass0 (pa_cons (pv 2) pa_nil)))) (pss_one (ps_ret (pe_lst (pa_cons (pe_k (by rfl) k1) pa_nil)))) pss_nil)
      (pss_one (ps_ret (pe_call G2 hr1 (by rfl) Y.G_counted Y.F_counted.kp Y.B_counted .nil pass0 (pa_cons (pe_call G3 hr3 (by rfl) Y.G_needed_nodes Y.F_needed_nodes.kp Y.B_needed_nodes .nil pass0 (pa_cons (pv 0) (pa_cons (pv 2) pa_nil))) pa_nil))))),?_⟩
    refine ⟨_,rfl,ar,_,_,_,rfl,rfl,SqL.of har,rfl,?_⟩
    refine ⟨_,rfl,net,_,_,rfl,N.obj,wf_none _ _ (by decide +kernel) (by decide +kernel),_,rfl,net,a,s,g,rfl,N,_,rfl,?_⟩
    show if (!inN s a)=true then _ else _
    have hst:Vbsgad.step s (.needed a)=Vbsgad.ask s ((Vbsgad.nodeGot s a).bind fun a=>.ok (Vbsgad.counted Vbsgad.one (Vbsgad.needed s a))):=rfl
    rw [hst] at k2
    cases ia:inN s a with
    | false =>
      rw [ask_no ia] at k2
      exact iteT ⟨one_le,fun q hq=>k2 _ q g (N.same (Same.lay hq)) (Chg.same (Same.lay hq)) hq upd_same⟩
    | true =>
      rw [ask_is ia] at k2
      obtain ⟨h1,h2⟩:=inN_lt ia
      generalize a.toNat=b at h1 h2 k2
      subst h2
      refine iteF ⟨_,rfl,_,rfl,net,s,g,b,rfl,N,fun H1 p s1 hp hl=>?_⟩
      have hlen:=needed_len s b
      refine ⟨p,_,rfl,hl,by rw [nis_len];omega,fun H2 r s2 hr2 hl2=>?_⟩
      refine k2 H2 r g (N.same (s1.trans s2)) (Chg.same (s1.trans s2)) (s1.free hr2) ?_
      show H2 r=some (.lst (zis (Vbsgad.counted Vbsgad.one (Vbsgad.needed s b))))
      rw [hl2,counted_one,nis_len]
def sp_told_least (T:Ad):Sp:=fun vs H Q _=>∃ net s g,∃ gl:Nat,vs=[.ref net,.int (gl:Int)]∧NetAt T H net s g∧gl < s.nodes.length ∧
  ∀ H' p,Same H H'→H p=none→H' p=some (.lst (zis (Vbsgad.told (Vbsgad.least s gl))))→Q (.ref p) H'
theorem ok_told_least (Y:Tx K mg T):FnOk P w K mg base CX0 6 T.f_told_least T.d_told_least ["network","goal"] (sp_told_least T):=by
  have G1:=ok_least_number (P:=P) (w:=w) (base:=base) Y
  refine Y.F_told_least.ok sc_told_least (fun vs H Q E h=>?_) (fun cdv A outer s H vs Q E hr h=>?_)
  · obtain ⟨net,s,g,gl,rfl,_⟩:=h
    rfl
  · obtain ⟨net,s,g,gl,rfl,N,hgl,k⟩:=h
    have nd:=sc_told_least.nd
    refine ⟨_,pss_cons (ps_set (i:=2) nd rfl (Or.inl rfl) (pe_call G1 hr (by rfl) Y.G_least_number Y.F_least_number.kp Y.B_least_number .nil pass0 (pa_cons (pv 0) (pa_cons (pv 1) pa_nil))))
      (pss_cons (ps_if (pt_cmpR op_isN (pv 2) pe_non (nomark _)) (pss_one (ps_ret (pe_lst (pa_cons pe_int pa_nil)))) pss_nil)
      (pss_one (ps_ret (pe_lst (pa_cons pe_int (pa_cons (pv 2) pa_nil)))))),?_⟩
    refine ⟨_,rfl,_,rfl,net,s,g,gl,rfl,N,hgl,fun H1 s1=>?_⟩
    refine ⟨_,rfl,rfl,_,rfl,?_⟩
    cases hl:Vbsgad.least s gl with
    | none =>
      rw [hl] at k
      exact iteT ⟨one_le,fun p hp=>k _ p (s1.trans (Same.lay hp)) (s1.free hp) upd_same⟩
    | some n =>
      rw [hl] at k
      have e1:decide (oV (some n)=V.non)=false:=decide_eq_false (fun z=>by cases z)
      rw [e1]
      exact iteF ⟨_,rfl,by show 2≤sizeLine;decide,fun p hp=>k _ p (s1.trans (Same.lay hp)) (s1.free hp) upd_same⟩
theorem ok_answer_least (Y:Tx K mg T):FnOk P w K mg base CX0 8 T.f_answer_least T.d_answer_least ["network","arguments"] (spA0 T 9 1):=by
  have G1:=ok_Network_has_node (P:=P) (w:=w) (base:=base) Y
  have G3:=ok_told_least (P:=P) (w:=w) (base:=base) Y
  refine Y.F_answer_least.ok sc_answer_least (fun vs H Q E h=>?_) (fun cdv A outer s H vs Q E hr h=>?_)
  · obtain ⟨net,a,s,g,xs,rfl,_⟩:=h
    rfl
  · obtain ⟨net,ar,s,g,xs,rfl,N,har,hx,hown,k⟩:=h
    obtain ⟨a,rfl⟩:=len1 hx
    have k2:∀ H' q g',NetAt T H' net (Vbsgad.step s (.least a)).1 g'→Chg H H' net g g'→H q=none→H' q=some (.lst (zis (Vbsgad.step s (.least a)).2))→Q (.ref q) H':=k
    clear k
    have nd:=sc_answer_least.nd
    have hr1:Room 1 _:=hr.mono (by decide)
    have hr3:Room 6 _:=hr.mono (by decide)
    obtain ⟨t1,k1⟩:=Y.k_NO_SUCH_NODE
    refine ⟨_,pss_cons (ps_set (i:=2) nd rfl (Or.inl rfl) (pe_ix ix_list (pv 1) pe_int (fun _ _=>rfl)))
      (pss_cons (ps_if (pt_not (pt_val (pe_meth (pv 0) Y.cl_Network Y.M_Network_has_node G1 hr1 Y.B_Network_has_node .nil pass0 (pa_cons (pv 2) pa_nil)))) (pss_one (ps_ret (pe_lst (pa_cons (pe_k (by rfl) k1) pa_nil)))) pss_nil)
      (pss_one (ps_ret (pe_call G3 hr3 (by rfl) Y.G_told_least Y.F_told_least.kp Y.B_told_least .nil pass0 (pa_cons (pv 0) (pa_cons (pv 2) pa_nil)))))),?_⟩
    refine ⟨_,rfl,ar,_,_,_,rfl,rfl,SqL.of har,rfl,?_⟩
    refine ⟨_,rfl,net,_,_,rfl,N.obj,wf_none _ _ (by decide +kernel) (by decide +kernel),_,rfl,net,a,s,g,rfl,N,_,rfl,?_⟩
    show if (!inN s a)=true then _ else _
    have hst:Vbsgad.step s (.least a)=Vbsgad.ask s ((Vbsgad.nodeGot s a).bind fun a=>.ok (Vbsgad.told (Vbsgad.least s a))):=rfl
    rw [hst] at k2
    cases ia:inN s a with
    | false =>
      rw [ask_no ia] at k2
      exact iteT ⟨one_le,fun q hq=>k2 _ q g (N.same (Same.lay hq)) (Chg.same (Same.lay hq)) hq upd_same⟩
    | true =>
      rw [ask_is ia] at k2
      obtain ⟨h1,h2⟩:=inN_lt ia
      generalize a.toNat=b at h1 h2 k2
      subst h2
      refine iteF ⟨_,rfl,_,rfl,net,s,g,b,rfl,N,h1,fun H1 p s1 hp hl=>?_⟩
      exact k2 H1 p g (N.same s1) (Chg.same s1) hp hl
theorem ok_answer_all (Y:Tx K mg T):FnOk P w K mg base CX0 8 T.f_answer_all T.d_answer_all ["network","arguments"] (spA0 T 16 0):=by
  have G3:=ok_told_least (P:=P) (w:=w) (base:=base) Y
  refine Y.F_answer_all.ok sc_answer_all (fun vs H Q E h=>?_) (fun cdv A outer s H vs Q E hr h=>?_)
  · obtain ⟨net,a,s,g,xs,rfl,_⟩:=h
    rfl
  · obtain ⟨net,ar,s,g,xs,rfl,N,har,hx,hown,k⟩:=h
    obtain rfl:=len0 hx
    have k:∀ H' q g',NetAt T H' net s g'→Chg H H' net g g'→H q=none→H' q=some (.lst (zis (Vbsgad.counted (fun (a:Nat)=>(a:Int) :: Vbsgad.told (Vbsgad.least s a)) (Vbsgad.stops s))))→Q (.ref q) H':=k
    have nd:=sc_answer_all.nd
    have hr3:Room 6 _:=hr.mono (by decide)
    have hn:=N.wfs.sz
    refine' ⟨_,?d,?rd⟩
    case d =>
      refine' pss_cons ?s1 (pss_cons (ps_set (i:=3) nd rfl (Or.inl rfl) (pe_lst (pa_cons (pe_callB call_len_seq (by rfl) Y.b_len PySem.boot_len (pa_cons (pv 2) pa_nil)) pa_nil)))
        (pss_cons (ps_for PassesOwn.never rfl (pi_list (pv 2)) (pg_name (i:=4) nd rfl (Or.inl rfl))
          (pss_cons (ps_expr (pe_bm PySem.F.plainAttrs_list PySem.F.slot_list_append PySem.F.type_list_append mt_append (pv 3) (pa_cons (pv 4) pa_nil)))
          (pss_one (ps_expr (pe_bm PySem.F.plainAttrs_list PySem.F.slot_list_extend PySem.F.type_list_extend mt_extend (pv 3) (pa_cons (pe_call G3 hr3 (by rfl) Y.G_told_least Y.F_told_least.kp Y.B_told_least .nil pass0 (pa_cons (pv 0) (pa_cons (pv 4) pa_nil))) pa_nil))))))
        (pss_one (ps_ret (pv 3)))))
      case s1 =>
        refine' ps_setLc (i:=2) (own:=[("number",5),("node",6)]) (te:=tVar 5) (tt:=tTest (tOp rEq (tFld K (tVar 6) "stop") (tC (.int 1)))) (g:=gTup K 2 (gCons (gName 5) (gCons (gName 6) gNil))) rfl nd rfl rfl (sw_true rfl rfl rfl rfl) (pi_enum (by rfl) Y.b_enumerate (pa_cons (pe_fld (pv 0) rfl) pa_nil)) ?b ?g ?t ?e
        case b=>exact blkOk_by (by show blkC n_answer_all (defScope s_answer_all) _ _=true;decide +kernel)
        case g=>intro _ _ _ _ _;exact pg_tup rfl (pgs_cons (pg_name (i:=5) nd rfl (Or.inl rfl)) (pgs_cons (pg_name (i:=6) nd rfl (Or.inl rfl)) pgs_nil))
        case t=>intro _ _ _ _ _;exact pts_one (pt_cmpR op_eq (pe_fld (pv 6) rfl) pe_int (nomark _))
        case e=>intro _ _ _ _ _;exact pv 5
    case rd =>
      refine ⟨_,rfl,net,T.c_Network,_,_,_,rfl,N.obj,Y.cl_Network,Y.na_Network_nodes,wf_nodes _ _,g.ln,_,rfl,SqL.of N.nl,fun D hD=>?_⟩
      refine lc_nodes N hD (fun a=>(Vbsgad.nodeOf s a).halt_) (fun _ _=>rfl) (fun _ _=>rfl) (fun i a H' hi s' ⟨dx,hN⟩ Q hQ=>?_) fun H1 s1 hl1=>?_
      · refine ⟨_,rfl,a,T.c_Node,dx,_,_,rfl,hN,Y.cl_Node,Y.na_Node_stop,nf_stop _,rfl,_,rfl,?_⟩
        rw [bit_eq]
        exact hQ _ (Same.refl _)
      have est:upto (fun a=>(Vbsgad.nodeOf s a).halt_) s.nodes.length=Vbsgad.stops s:=rfl
      rw [est] at hl1
      have hsl:(Vbsgad.stops s).length≤s.nodes.length:=range_filter_len _ _
      refine ⟨_,rfl,D,_,rfl,.inl (SqL.of hl1),one_le,fun R hR=>?_⟩
      rw [nis_len]
      have s2:Same H1 (upd H1 R (.lst [.int ((Vbsgad.stops s).length:Nat)])):=Same.lay hR
      have hRH:H R=none:=s1.free hR
      have hDR:D≠R:=ne_of_none hl1 hR
      refine ⟨_,rfl,D,rfl,⟨_,SqL.of (s2 _ _ hl1)⟩,?_⟩
      refine for_list (K:=K) (a:=D) (xs:=nis (Vbsgad.stops s)) (fun i σ H'=>∃ st,σ=[some (.ref net),some (.ref ar),some (.ref D),some (.ref R),st,none,none]∧Same H H'∧H' D=some (.lst (nis (Vbsgad.stops s)))∧H' R=some (.lst (.int ((Vbsgad.stops s).length:Nat) :: zis (((Vbsgad.stops s).take i).flatMap fun (a:Nat)=>(a:Int) :: Vbsgad.told (Vbsgad.least s a)))))
        ⟨_,rfl,s1.trans s2,s2 _ _ hl1,upd_same⟩ (fun i σ H' _ ⟨_,_,_,h,_⟩=>SqL.of h) ?_ ?_
      · rintro i v σ H2 hv ⟨st,rfl,s3,hD3,hR3⟩
        obtain ⟨x,hx,rfl⟩:=nis_get hv
        have hi:i < (Vbsgad.stops s).length:=(List.getElem?_eq_some_iff.mp hx).1
        have hxl:x < s.nodes.length:=List.mem_range.mp (List.mem_filter.mp (List.mem_of_getElem? hx)).1
        have hlen:(((Vbsgad.stops s).take i).flatMap fun (a:Nat)=>(a:Int) :: Vbsgad.told (Vbsgad.least s a)).length≤3 * 24:=by
          have:=counted_len (f:=fun (a:Nat)=>(a:Int) :: Vbsgad.told (Vbsgad.least s a)) (m:=3) (fun x=>by rw [List.length_cons];have:=told_len (Vbsgad.least s x);omega) ((Vbsgad.stops s).take i)
          unfold Vbsgad.counted at this
          rw [List.length_cons,List.length_take] at this
          omega
        have big:∀ m,m≤100→m < sizeLine:=fun m h=>Nat.lt_of_le_of_lt h (by decide)
        refine ⟨_,rfl,.inl ⟨rfl,_,SqL.of hR3⟩,_,rfl,R,_,_,rfl,rfl,hR3,by rw [List.length_cons,zis_len];exact big _ (by omega),?_⟩
        have s4:Same H (upd H2 R (.lst ((.int ((Vbsgad.stops s).length:Nat) :: zis (((Vbsgad.stops s).take i).flatMap fun (a:Nat)=>(a:Int) :: Vbsgad.told (Vbsgad.least s a)))++[.int (x:Int)]))):=s3.wr hRH
        have hD4:(upd H2 R (.lst ((.int ((Vbsgad.stops s).length:Nat) :: zis (((Vbsgad.stops s).take i).flatMap fun (a:Nat)=>(a:Int) :: Vbsgad.told (Vbsgad.least s a)))++[.int (x:Int)]))) D=some (.lst (nis (Vbsgad.stops s))):=by rw [upd_ne hDR];exact hD3
        have hR4:(upd H2 R (.lst ((.int ((Vbsgad.stops s).length:Nat) :: zis (((Vbsgad.stops s).take i).flatMap fun (a:Nat)=>(a:Int) :: Vbsgad.told (Vbsgad.least s a)))++[.int (x:Int)]))) R=some (.lst ((.int ((Vbsgad.stops s).length:Nat) :: zis (((Vbsgad.stops s).take i).flatMap fun (a:Nat)=>(a:Int) :: Vbsgad.told (Vbsgad.least s a)))++[.int (x:Int)])):=upd_same
        generalize upd H2 R (.lst ((.int ((Vbsgad.stops s).length:Nat) :: zis (((Vbsgad.stops s).take i).flatMap fun (a:Nat)=>(a:Int) :: Vbsgad.told (Vbsgad.least s a)))++[.int (x:Int)]))=H4 at s4 hD4 hR4 ⊢
        refine ⟨_,rfl,.inl ⟨rfl,_,SqL.of hR4⟩,_,rfl,_,rfl,net,s,g,x,rfl,N.same s4,hxl,fun H5 p s5 hp hl5=>?_⟩
        have htl:=told_len (Vbsgad.least s x)
        refine ⟨R,p,_,_,rfl,rfl,s5 _ _ hR4,hl5,by rw [List.length_append,List.length_cons,zis_len,zis_len];exact Nat.le_of_lt (big _ (by show _ + 1 + 1 + _≤100;omega)),?_⟩
        refine ⟨_,rfl,(s4.trans s5).wr hRH,by rw [upd_ne hDR];exact s5 _ _ hD4,?_⟩
        rw [upd_same,take_snoc hx,List.flatMap_append]
        show some (HO.lst _)=some (HO.lst (_ :: zis (_++(((x:Int) :: Vbsgad.told (Vbsgad.least s x))++[]))))
        rw [List.append_nil]
        unfold zis
        rw [List.map_append,List.map_cons,List.append_assoc]
        rfl
      · rintro σ H2 ⟨st,rfl,s3,hD3,hR3⟩
        rw [nis_len,List.take_length] at hR3
        exact ⟨_,rfl,k H2 R g (N.same s3) (Chg.same s3) hRH hR3⟩
end
end Sh
end
section
namespace Sh
open PySem PySem.Spec PyProof.Rows L2
open Vbsgad (State Node)
def WAt (H:Hp) (v:V):Option (Nat × Nat)→Prop
  | none=>v=.non
  | some c=>∃ t,v=.ref t∧H t=some (.tup [.int (c.1:Int),.int (c.2:Int)])
theorem WAt.same {H H':Hp} {v:V} {o:Option (Nat × Nat)} (h:WAt H v o) (e:Same H H'):WAt H' v o:=by
  cases o with
  | none=>exact h
  | some c=>obtain ⟨t,h1,h2⟩:=h;exact ⟨t,h1,e _ _ h2⟩
theorem weak_no {s:State} {b:Option (Nat × Nat)} {x:Nat} (h:((Vbsgad.nodeOf s x).halt_ && !(Vbsgad.nodeOf s x).base)=false):Th.weakStep s b x=b:=by
  unfold Th.weakStep
  rw [if_neg]
  intro ⟨h1,h2⟩
  have h2':(Vbsgad.nodeOf s x).base=false:=h2
  rw [h1,h2'] at h
  cases h
theorem weak_yes {s:State} {b:Option (Nat × Nat)} {x:Nat} (h1:(Vbsgad.nodeOf s x).halt_=true) (h2:(Vbsgad.nodeOf s x).base=false):Th.weakStep s b x=match Vbsgad.least s x with
    | none=>b
    | some n=>match b with
      | none=>some (x,n)
      | some c=>if n < c.2 then some (x,n) else b:=by
  unfold Th.weakStep
  rw [if_pos ⟨h1,h2⟩]
  try (cases Vbsgad.least s x <;> cases b <;> rfl)
section
variable {P:Program} {w:World} {K:PySem.W.Frag} {mg:Str→Option Value} {base:Heap} {T:Ad}
def sp_weakest_stop (T:Ad):Sp:=fun vs H Q _=>∃ net s g,vs=[.ref net]∧NetAt T H net s g∧∀ H' v,Same H H'→WAt H' v (Vbsgad.weakest s)→Q v H'
theorem ok_weakest_stop (Y:Tx K mg T):FnOk P w K mg base CX0 6 T.f_weakest_stop T.d_weakest_stop ["network"] (sp_weakest_stop T):=by
  have G1:=ok_reached_nodes (P:=P) (w:=w) (base:=base) Y
  have G2:=ok_least_number (P:=P) (w:=w) (base:=base) Y
  refine Y.F_weakest_stop.ok sc_weakest_stop (fun vs H Q E h=>?_) (fun cdv A outer s H vs Q E hr h=>?_)
  · obtain ⟨net,s,g,rfl,_⟩:=h
    rfl
  · obtain ⟨net,s,g,rfl,N,k⟩:=h
    have nd:=sc_weakest_stop.nd
    have hr3:Room 3 _:=hr.mono (by decide)
    refine ⟨_,pss_cons (ps_set (i:=1) nd rfl (Or.inl rfl) pe_non)
      (pss_cons (ps_for PassesOwn.never rfl (pi_list (pe_call G1 hr3 (by rfl) Y.G_reached_nodes Y.F_reached_nodes.kp Y.B_reached_nodes .nil pass0 (pa_cons (pv 0) (pa_cons (pe_lst pa_nil) pa_nil)))) (pg_name (i:=2) nd rfl (Or.inl rfl))
        (pss_cons (ps_set (i:=3) nd rfl (Or.inl rfl) (pe_ix ix_list (pe_fld (pv 0) rfl) (pv 2) (fun _ _=>rfl)))
        (pss_one (ps_if (PW.pt (pw_and (pt_cmpR op_eq (pe_fld (pv 3) rfl) pe_int (nomark _)) (pw_and1 (pt_cmpR op_eq (pe_fld (pv 3) rfl) pe_int (nomark _)))))
          (pss_cons (ps_set (i:=4) nd rfl (Or.inl rfl) (pe_call G2 hr (by rfl) Y.G_least_number Y.F_least_number.kp Y.B_least_number .nil pass0 (pa_cons (pv 0) (pa_cons (pv 2) pa_nil))))
          (pss_one (ps_if (PW.pt (pw_and (pt_cmpR op_notN (pv 4) pe_non (nomark _)) (pw_and1 (PW.pt (pw_or (pt_cmpR op_isN (pv 1) pe_non (nomark _)) (pw_or1 (pt_cmpR op_lt (pv 4) (pe_ix ix_tup (pv 1) pe_int (fun _ _=>rfl)) (nomark _))))))))
            (pss_one (ps_set (i:=1) nd rfl (Or.inl rfl) (pe_tup (pa_cons (pv 2) (pa_cons (pv 4) pa_nil))))) pss_nil)))
          pss_nil))))
      (pss_one (ps_ret (pv 1)))),?_⟩
    refine ⟨_,rfl,Nat.zero_le _,fun p hp=>?_⟩
    have s1:Same H (upd H p (.lst [])):=Same.lay hp
    refine ⟨net,p,s,g,[],rfl,N.same s1,upd_same,Nat.zero_le _,fun H1 q s2 hq hl=>⟨q,rfl,⟨_,SqL.of hl⟩,?_⟩⟩
    have s12:=s1.trans s2
    refine for_list (K:=K) (a:=q) (xs:=nis (Th.comeB s [])) (fun i σ H'=>∃ wv st nn le,σ=[some (.ref net),some wv,st,nn,le]∧Same H H'∧H' q=some (.lst (nis (Th.comeB s [])))∧WAt H' wv (((Th.comeB s []).take i).foldl (Th.weakStep s) none))
      ⟨_,_,_,_,rfl,s12,hl,rfl⟩ (fun i σ H' _ ⟨_,_,_,_,_,_,h,_⟩=>SqL.of h) ?_ ?_
    · rintro i v σ H2 hv ⟨wv,st,nn,le,rfl,s3,hq3,hw⟩
      obtain ⟨x,hx,rfl⟩:=nis_get hv
      have hxl:x < s.nodes.length:=Th.come_lt (List.mem_of_getElem? hx)
      obtain ⟨a,ha,hnx,dx,hnode⟩:=N.node hxl
      have hn3:=s3 _ _ hnode
      have efold:((Th.comeB s []).take (i + 1)).foldl (Th.weakStep s) none=Th.weakStep s (((Th.comeB s []).take i).foldl (Th.weakStep s) none) x:=by
        rw [take_snoc hx,List.foldl_append];rfl
      rw [efold]
      generalize ((Th.comeB s []).take i).foldl (Th.weakStep s) none=b at hw
      refine ⟨_,rfl,net,T.c_Network,_,_,_,rfl,s3 _ _ N.obj,Y.cl_Network,Y.na_Network_nodes,wf_nodes _ _,_,rfl,g.ln,_,_,_,rfl,rfl,SqL.of (s3 _ _ N.nl),at_of (j:=x) (v:=V.ref a) rfl (by rw [List.getElem?_map,ha];rfl),?_⟩
      refine ⟨_,rfl,a,T.c_Node,dx,_,_,rfl,hn3,Y.cl_Node,Y.na_Node_stop,nf_stop _,rfl,_,rfl,?_⟩
      rw [bit_eq]
      refine and_tail (c2:=!(Vbsgad.nodeOf s x).base) (fun hf=>iteF ?_) (fun h1 tl=>⟨_,rfl,a,T.c_Node,dx,_,_,rfl,hn3,Y.cl_Node,Y.na_Node_base,nf_base _,rfl,_,rfl,?_⟩)
      · refine ⟨wv,_,_,_,rfl,s3,hq3,?_⟩
        rw [weak_no hf]
        exact hw
      rw [bit_eq0]
      cases hb:(Vbsgad.nodeOf s x).base with
      | true=>exact iteF (of_iteF (tl (by rw [hb,Bool.and_comm];rfl)))
      | false =>
        refine iteT ⟨_,rfl,_,rfl,net,s,g,x,rfl,N.same s3,hxl,fun H4 s4=>?_⟩
        have s34:=s3.trans s4
        have hq4:=s4 _ _ hq3
        have hw4:=hw.same s4
        rw [weak_yes h1 hb]
        refine ⟨_,rfl,rfl,_,rfl,?_⟩
        rw [isNon]
        cases hle:Vbsgad.least s x with
        | none=>exact iteF (iteF ⟨wv,_,_,_,rfl,s34,hq4,hw4⟩)
        | some n =>
          refine iteT ⟨_,rfl,rfl,_,rfl,?_⟩
          cases b with
          | none =>
            have e1:wv=V.non:=hw4
            subst e1
            refine iteT (iteT ⟨_,rfl,_,rfl,by show 2≤sizeLine;decide,fun t ht=>?_⟩)
            exact ⟨_,_,_,_,rfl,s34.trans (Same.lay ht),(Same.lay ht) _ _ hq4,t,rfl,upd_same⟩
          | some c =>
            obtain ⟨t,e1,ht⟩:=hw4
            subst e1
            have e2:decide (V.ref t=V.non)=false:=decide_eq_false (fun z=>by cases z)
            rw [e2]
            refine iteF ⟨_,rfl,_,rfl,t,_,_,_,rfl,rfl,SqT.of ht,rfl,_,_,rfl,rfl,_,rfl,?_⟩
            by_cases hlt:n < c.2
            · rw [decide_eq_true (show (n:Int) < (c.2:Int) by omega)]
              refine iteT ⟨_,rfl,_,rfl,by show 2≤sizeLine;decide,fun t2 ht2=>?_⟩
              refine ⟨_,_,_,_,rfl,s34.trans (Same.lay ht2),(Same.lay ht2) _ _ hq4,?_⟩
              dsimp only
              rw [if_pos hlt]
              exact ⟨t2,rfl,upd_same⟩
            · rw [decide_eq_false (show ¬ (n:Int) < (c.2:Int) by omega)]
              refine iteF ⟨_,_,_,_,rfl,s34,hq4,?_⟩
              dsimp only
              rw [if_neg hlt]
              exact ⟨t,rfl,ht⟩
    · rintro σ H2 ⟨wv,st,nn,le,rfl,s3,hq3,hw⟩
      rw [nis_len,List.take_length,← Th.weakest_eq] at hw
      exact ⟨_,rfl,k H2 wv s3 hw⟩
theorem ok_answer_weakest (Y:Tx K mg T):FnOk P w K mg base CX0 8 T.f_answer_weakest T.d_answer_weakest ["network","arguments"] (spA0 T 17 0):=by
  have G1:=ok_weakest_stop (P:=P) (w:=w) (base:=base) Y
  refine Y.F_answer_weakest.ok sc_answer_weakest (fun vs H Q E h=>?_) (fun cdv A outer s H vs Q E hr h=>?_)
  · obtain ⟨net,a,s,g,xs,rfl,_⟩:=h
    rfl
  · obtain ⟨net,ar,s,g,xs,rfl,N,har,hx,hown,k⟩:=h
    obtain rfl:=len0 hx
    have k:∀ H' q g',NetAt T H' net (Vbsgad.step s .weakest).1 g'→Chg H H' net g g'→H q=none→H' q=some (.lst (zis (Vbsgad.step s .weakest).2))→Q (.ref q) H':=k
    have nd:=sc_answer_weakest.nd
    have hr6:Room 6 _:=hr.mono (by decide)
    have hst:Vbsgad.step s .weakest=Vbsgad.ask s (match Vbsgad.weakest s with
      | some x=>.ok [1,(x.1:Int),(x.2:Int)]
      | none=>.ok [0]):=rfl
    rw [hst] at k
    refine ⟨_,pss_cons (ps_set (i:=2) nd rfl (Or.inl rfl) (pe_call G1 hr6 (by rfl) Y.G_weakest_stop Y.F_weakest_stop.kp Y.B_weakest_stop .nil pass0 (pa_cons (pv 0) pa_nil)))
      (pss_cons (ps_if (pt_cmpR op_isN (pv 2) pe_non (nomark _)) (pss_one (ps_ret (pe_lst (pa_cons pe_int pa_nil)))) pss_nil)
      (pss_one (ps_ret (pe_lst (pa_cons pe_int (pa_cons (pe_ix ix_tup (pv 2) pe_int (fun _ _=>rfl)) (pa_cons (pe_ix ix_tup (pv 2) pe_int (fun _ _=>rfl)) pa_nil))))))),?_⟩
    refine ⟨_,rfl,net,s,g,rfl,N,fun H1 v s1 hw=>?_⟩
    cases hwk:Vbsgad.weakest s with
    | none =>
      rw [hwk] at hw k
      have e1:v=V.non:=hw
      subst e1
      refine ⟨_,rfl,rfl,_,rfl,iteT ⟨one_le,fun p hp=>?_⟩⟩
      exact k _ p g (N.same (s1.trans (Same.lay hp))) (Chg.same (s1.trans (Same.lay hp))) (s1.free hp) upd_same
    | some c =>
      rw [hwk] at hw k
      obtain ⟨t,e1,ht⟩:=hw
      subst e1
      refine ⟨_,rfl,rfl,_,rfl,?_⟩
      have e2:decide (V.ref t=V.non)=false:=decide_eq_false (fun z=>by cases z)
      rw [e2]
      refine iteF ⟨_,rfl,t,_,_,_,rfl,rfl,SqT.of ht,rfl,_,rfl,t,_,_,_,rfl,rfl,SqT.of ht,rfl,by show 3≤sizeLine;decide,fun p hp=>?_⟩
      exact k _ p g (N.same (s1.trans (Same.lay hp))) (Chg.same (s1.trans (Same.lay hp))) (s1.free hp) upd_same
theorem ok_answer_cuts (Y:Tx K mg T):FnOk P w K mg base CX0 8 T.f_answer_cuts T.d_answer_cuts ["network","arguments"] (spA1 T 13 1):=by
  have G1:=ok_Network_has_node (P:=P) (w:=w) (base:=base) Y
  have G2:=ok_is_cut_off (P:=P) (w:=w) (base:=base) Y
  have G3:=ok_row_refusal (P:=P) (w:=w) (base:=base) Y
  refine Y.F_answer_cuts.ok sc_answer_cuts (fun vs H Q E h=>?_) (fun cdv A outer s H vs Q E hr h=>?_)
  · obtain ⟨net,a,r,s,g,xs,row,rfl,_⟩:=h
    rfl
  · obtain ⟨net,ar,r,s,g,xs,row,rfl,N,har,hrow,hx,hlr,hown,hown2,k⟩:=h
    obtain ⟨a,rfl⟩:=len1 hx
    have k2:∀ H' q g',NetAt T H' net (Vbsgad.step s (.cuts a row)).1 g'→Chg H H' net g g'→H q=none→H' q=some (.lst (zis (Vbsgad.step s (.cuts a row)).2))→Q (.ref q) H':=k
    clear k
    have hst:Vbsgad.step s (.cuts a row)=Vbsgad.ask s ((Vbsgad.nodeGot s a).bind fun a=>(Vbsgad.rowGot s row).bind fun f=>.ok [Vbsgad.bit (Vbsgad.cuts s a (f.filter fun b=>b != a)),(Vbsgad.places s f:Int)]):=rfl
    rw [hst] at k2
    have nd:=sc_answer_cuts.nd
    have hr1:Room 1 _:=hr.mono (by decide)
    have hr2:Room 2 _:=hr.mono (by decide)
    have hr4:Room 4 _:=hr.mono (by decide)
    obtain ⟨t1,k1⟩:=Y.k_NO_SUCH_NODE
    refine' ⟨_,?d,?rd⟩
    case d =>
      refine' pss_cons (ps_set (i:=2) nd rfl (Or.inl rfl) (pe_ix ix_list (pv 1) pe_int (fun _ _=>rfl)))
        (pss_cons (ps_set (i:=3) nd rfl (Or.inl rfl) (pe_ix ix_list (pv 1) pe_int (fun _ _=>rfl)))
        (pss_cons (ps_if (pt_not (pt_val (pe_meth (pv 0) Y.cl_Network Y.M_Network_has_node G1 hr1 Y.B_Network_has_node .nil pass0 (pa_cons (pv 2) pa_nil)))) (pss_one (ps_ret (pe_lst (pa_cons (pe_k (by rfl) k1) pa_nil)))) pss_nil)
        (pss_cons (ps_set (i:=4) nd rfl (Or.inl rfl) (pe_call G3 hr2 (by rfl) Y.G_row_refusal Y.F_row_refusal.kp Y.B_row_refusal .nil pass0 (pa_cons (pv 0) (pa_cons (pv 3) pa_nil))))
        (pss_cons (ps_if (pt_cmpR op_notN (pv 4) pe_non (nomark _)) (pss_one (ps_ret (pe_lst (pa_cons (pv 4) pa_nil)))) pss_nil)
        (pss_cons (ps_set (i:=5) nd rfl (Or.inl rfl) (pe_callB (cr_sum rfl) (by rfl) Y.b_sum (by decide +kernel) (pa_cons ?c pa_nil)))
        (pss_cons (ps_if (pt_val (pe_call G2 hr4 (by rfl) Y.G_is_cut_off Y.F_is_cut_off.kp Y.B_is_cut_off .nil pass0 (pa_cons (pv 0) (pa_cons (pv 2) (pa_cons (pv 3) pa_nil))))) (pss_one (ps_ret (pe_lst (pa_cons pe_int (pa_cons (pv 5) pa_nil))))) pss_nil)
        (pss_one (ps_ret (pe_lst (pa_cons pe_int (pa_cons (pv 5) pa_nil)))))))))))
      case c =>
        refine' pe_lc (own:=[("stop",6)]) (te:=tFld K (tOp (rIxL K) (tFld K (tVar 0) "nodes") (tVar 6)) "free") (tt:=tYes) (g:=gName 6) rfl nd (pi_list (pv 3)) ?b ?g ?t ?e
        case b=>exact blkOk_by (by show blkC n_answer_cuts (defScope s_answer_cuts) _ _=true;decide +kernel)
        case g=>intro _ _ _ _ _;exact pg_name (i:=6) nd rfl (Or.inl rfl)
        case t=>intro _ _ _ _ _;exact pts_nil
        case e=>intro _ _ _ _ _;exact pe_fld (pe_ix ix_list (pe_fld (pv 0) rfl) (pv 6) (fun _ _=>rfl)) rfl
    case rd =>
      refine ⟨_,rfl,ar,_,_,_,rfl,rfl,SqL.of har,rfl,?_⟩
      refine ⟨_,rfl,ar,_,_,_,rfl,rfl,SqL.of har,rfl,?_⟩
      refine ⟨_,rfl,net,_,_,rfl,N.obj,wf_none _ _ (by decide +kernel) (by decide +kernel),_,rfl,net,a,s,g,rfl,N,_,rfl,?_⟩
      show if (!inN s a)=true then _ else _
      cases ia:inN s a with
      | false =>
        rw [ask_no ia] at k2
        exact iteT ⟨one_le,fun q hq=>k2 _ q g (N.same (Same.lay hq)) (Chg.same (Same.lay hq)) hq upd_same⟩
      | true =>
        rw [ask_is ia] at k2
        obtain ⟨h1,h2⟩:=inN_lt ia
        generalize a.toNat=b at h1 h2 k2
        subst h2
        refine iteF ⟨_,rfl,_,rfl,net,r,s,g,row,rfl,N,SqL.of hrow,hlr,fun H1 s1=>?_⟩
        refine ⟨_,rfl,rfl,_,rfl,?_⟩
        cases hg:Vbsgad.rowGot s row with
        | error e =>
          rw [hg] at k2
          have ed:(!decide (rowV (.error e)=V.non))=true:=by
            rw [decide_eq_false (show ¬ rowV (.error e)=V.non from fun z=>(nomatch z))];rfl
          rw [ed]
          refine iteT ⟨_,rfl,one_le,fun q hq=>?_⟩
          exact k2 _ q g (N.same (s1.trans (Same.lay hq))) (Chg.same (s1.trans (Same.lay hq))) (s1.free hq) upd_same
        | ok fs =>
          rw [hg] at k2
          have ed:(!decide (rowV (.ok fs)=V.non))=false:=by
            rw [decide_eq_true (show rowV (.ok fs)=V.non from rfl)];rfl
          rw [ed]
          obtain ⟨e1,e2,e3,e4,e5⟩:=rowGot_ok hg
          have erow:zis row=nis fs:=rowGot_row hg
          have hfl:fs.length≤1000:=by rw [e1,List.length_map];exact hlr
          rw [erow] at hrow
          have hrow1:=s1 _ _ hrow
          refine iteF ⟨_,rfl,r,rfl,⟨_,SqL.of hrow1⟩,fun L hL=>?_⟩
          refine lc_list (K:=K) (a:=r) (xs:=nis fs) (fun i H'=>Same H1 H'∧H' L=some (.lst (nis ((fs.take i).map fun a=>(Vbsgad.nodeOf s a).free)))) ⟨Same.lay hL,upd_same⟩ (fun i H' _ ⟨s2,_⟩=>SqL.of (s2 _ _ hrow1)) ?_ ?_
          · rintro i v H' hv ⟨s2,hLl⟩
            obtain ⟨x,hx,rfl⟩:=nis_get hv
            have hxl:=e4 x (List.mem_of_getElem? hx)
            have hi:i < fs.length:=(List.getElem?_eq_some_iff.mp hx).1
            obtain ⟨c,hc,hnx,dx,hnode⟩:=N.node hxl
            have s12:=s1.trans s2
            refine ⟨rfl,?_⟩
            dsimp only [tYes]
            refine iteT ⟨_,rfl,net,T.c_Network,_,_,_,rfl,s12 _ _ N.obj,Y.cl_Network,Y.na_Network_nodes,wf_nodes _ _,_,rfl,g.ln,_,_,_,rfl,rfl,SqL.of (s12 _ _ N.nl),at_of (j:=x) (v:=V.ref c) rfl (by rw [List.getElem?_map,hc];rfl),c,T.c_Node,dx,_,_,rfl,s12 _ _ hnode,Y.cl_Node,Y.na_Node_free,nf_free _,
              _,hLl,by rw [nis_len,List.length_map,List.length_take];exact Nat.lt_of_le_of_lt (show _≤1000 by omega) (by decide),s2.wr hL,?_⟩
            rw [upd_same,take_snoc hx,List.map_append,nis_append]
            rfl
          rintro H2 ⟨s2,hLl⟩
          rw [nis_len,List.take_length] at hLl
          have s12:=s1.trans s2
          refine ⟨L,(fs.map fun a=>(Vbsgad.nodeOf s a).free).map fun (x:Nat)=>(x:Int),rfl,SqL.of (by rw [hLl,zis_nis];rfl),?_⟩
          have esum:∀ l:List Nat,(l.map fun (x:Nat)=>(x:Int)).sum=(l.sum:Int):=fun l=>by
            induction l with
            | nil=>rfl
            | cons a l ih=>rw [List.map_cons,List.sum_cons,List.sum_cons,ih];omega
          rw [esum]
          refine ⟨_,rfl,_,rfl,_,rfl,net,r,s,g,b,fs,rfl,N.same s12,s2 _ _ hrow1,hfl,fun H3 s3=>⟨_,rfl,?_⟩⟩
          rw [Th.cut_off e3]
          have s123:=s12.trans s3
          have k':∀ H' q,Same H H'→H q=none→H' q=some (.lst (zis [Vbsgad.bit (Vbsgad.cuts s b (fs.filter fun b_1=>b_1 != b)),(Vbsgad.places s fs:Int)]))→Q (.ref q) H':=fun H' q s' hq hl=>k2 H' q g (N.same s') (Chg.same s') hq hl
          cases hcut:Vbsgad.cuts s b (fs.filter fun b_1=>b_1 != b) with
          | true =>
            rw [hcut] at k'
            exact iteT ⟨_,rfl,by show 2≤sizeLine;decide,fun q hq=>k' _ q (s123.trans (Same.lay hq)) (s123.free hq) upd_same⟩
          | false =>
            rw [hcut] at k'
            exact iteF ⟨_,rfl,by show 2≤sizeLine;decide,fun q hq=>k' _ q (s123.trans (Same.lay hq)) (s123.free hq) upd_same⟩
end
end Sh
end
section
namespace Sh
open PySem PySem.Spec PyProof.Rows L2
open Vbsgad (State Node)
theorem cut_tail (l:List Nat):cutV (nis l) (some 1) none=nis (l.drop 1):=by
  unfold cutV
  have e1:HT.sIx (nis l).length 0 (some 1)=min 1 (nis l).length:=HT.sIx_nat _ _ 1
  have e2:HT.sIx (nis l).length (nis l).length none=(nis l).length:=rfl
  rw [e1,e2]
  unfold nis
  cases l with
  | nil=>rfl
  | cons a l =>
    rw [List.map_cons,List.length_cons,show min 1 ((l.map fun (b:Nat)=>V.int (b:Int)).length + 1)=1 by omega]
    show List.take _ (l.map _)=l.map _
    rw [List.take_of_length_le (by omega)]
theorem cut_mid (l:List Nat):cutV (nis l) (some 1) (some (-1))=nis ((l.drop 1).dropLast):=by
  unfold cutV
  have e1:HT.sIx (nis l).length 0 (some 1)=min 1 (nis l).length:=HT.sIx_nat _ _ 1
  have e2:HT.sIx (nis l).length (nis l).length (some (-1))=(nis l).length - 1:=by
    show (if (-1:Int) < 0 then ((-1:Int) + ((nis l).length:Int)).toNat else min (-1:Int).toNat (nis l).length)=_
    rw [if_pos (by omega)]
    omega
  rw [e1,e2]
  unfold nis
  cases l with
  | nil=>rfl
  | cons a l =>
    rw [List.map_cons,List.length_cons,show min 1 ((l.map fun (b:Nat)=>V.int (b:Int)).length + 1)=1 by omega]
    show List.take _ (l.map _)=(List.dropLast l).map _
    rw [List.map_dropLast,List.dropLast_eq_take]
    congr 1
structure WaysAt (H:Hp) (p:Addr) (js:List Addr) (ws:List (List Nat)):Prop where
  lst:H p=some (.lst (js.map V.ref))
  len:js.length=ws.length
  at_:∀ (i:Nat) (j:Addr) (w:List Nat),js[i]?=some j→ws[i]?=some w→H j=some (.lst (nis w))
theorem WaysAt.same {H H':Hp} {p:Addr} {js:List Addr} {ws:List (List Nat)} (W:WaysAt H p js ws) (e:Same H H'):WaysAt H' p js ws :=
  ⟨e _ _ W.lst,W.len,fun i j w h1 h2=>e _ _ (W.at_ i j w h1 h2)⟩
theorem WaysAt.get {H:Hp} {p:Addr} {js:List Addr} {ws:List (List Nat)} (W:WaysAt H p js ws) {i:Nat} {j:Addr} (h:js[i]?=some j):∃ w,ws[i]?=some w∧H j=some (.lst (nis w)):=by
  have hi:i < ws.length:=by rw [← W.len];exact (List.getElem?_eq_some_iff.mp h).1
  exact ⟨_,List.getElem?_eq_getElem hi,W.at_ i j _ h (List.getElem?_eq_getElem hi)⟩
def WsV (H:Hp) (v:V):Option (List (List Nat))→Prop
  | none=>v=.non
  | some ws=>∃ p js,v=.ref p∧WaysAt H p js ws
section
variable {P:Program} {w:World} {K:PySem.W.Frag} {mg:Str→Option Value} {base:Heap} {T:Ad}
def sp_ways_of_row (K:PySem.W.Frag):Sp:=fun vs H Q _=>∃ r zs,vs=[.ref r]∧H r=some (.lst (zis zs))∧zs.length≤1000∧∀ H' v,Same H H'→WsV H' v (Th.waysR zs)→Q v H'
theorem ok_ways_of_row (Y:Tx K mg T):FnOk P w K mg base CX0 1 T.f_ways_of_row T.d_ways_of_row ["row"] (sp_ways_of_row K):=by
  refine Y.F_ways_of_row.ok sc_ways_of_row (fun vs H Q E h=>?_) (fun cdv A outer s H vs Q E hr h=>?_)
  · obtain ⟨r,zs,rfl,_⟩:=h
    rfl
  · obtain ⟨r,zs,rfl,hrow,hlen,k⟩:=h
    have nd:=sc_ways_of_row.nd
    refine' ⟨_,?d,?rd⟩
    case d =>
      refine' pss_cons (ps_if (pt_val (pe_callB (cr_any rfl) (by rfl) Y.b_any (by decide +kernel) (pa_cons ?c pa_nil))) (pss_one (ps_ret pe_non)) pss_nil)
        (pss_cons (ps_set (i:=1) nd rfl (Or.inl rfl) (pe_lst pa_nil))
        (pss_cons (ps_set (i:=2) nd rfl (Or.inl rfl) pe_int)
        (pss_cons (ps_while PassesOwn.never (pt_cmpR op_lt (pv 2) (pe_callB call_len_seq (by rfl) Y.b_len PySem.boot_len (pa_cons (pv 0) pa_nil)) (nomark _))
          (pss_cons (ps_set (i:=3) nd rfl (Or.inl rfl) (pe_op op_add (pe_op op_add (pv 2) pe_int) (pe_ix ix_list (pv 0) (pv 2) (fun _ _=>rfl))))
          (pss_cons (ps_if (pt_cmpR op_gt (pv 3) (pe_callB call_len_seq (by rfl) Y.b_len PySem.boot_len (pa_cons (pv 0) pa_nil)) (nomark _)) (pss_one (ps_ret pe_non)) pss_nil)
          (pss_cons (ps_expr (pe_bm PySem.F.plainAttrs_list PySem.F.slot_list_append PySem.F.type_list_append mt_append (pv 1) (pa_cons (pe_slice sl_list (pv 0) (po_some (pe_op op_add (pv 2) pe_int)) (po_some (pv 3))) pa_nil)))
          (pss_one (ps_set (i:=2) nd rfl (Or.inl rfl) (pv 3)))))))
        (pss_one (ps_ret (pv 1))))))
      case c =>
        refine' pe_lc (own:=[("number",4)]) (te:=tOp (rI0 fun i j=>.bl (decide (i < j))) (tVar 4) (tC (.int 0))) (tt:=tYes) (g:=gName 4) rfl nd (pi_list (pv 0)) ?b ?g ?t ?e
        case b=>exact blkOk_by (by show blkC n_ways_of_row (defScope s_ways_of_row) _ _=true;decide +kernel)
        case g=>intro _ _ _ _ _;exact pg_name (i:=4) nd rfl (Or.inl rfl)
        case t=>intro _ _ _ _ _;exact pts_nil
        case e=>intro _ _ _ _ _;exact pe_cmpR op_lt (pv 4) pe_int (nomark _)
    case rd =>
      refine ⟨_,rfl,r,rfl,⟨_,SqL.of hrow⟩,fun L hL=>?_⟩
      refine lc_list (K:=K) (a:=r) (xs:=zis zs) (fun i H'=>Same H H'∧H' L=some (.lst (bzs (fun z=>decide (z < 0)) (zs.take i)))) ⟨Same.lay hL,upd_same⟩ (fun i H' _ ⟨s2,_⟩=>SqL.of (s2 _ _ hrow)) ?_ ?_
      · rintro i v H' hv ⟨s2,hLl⟩
        obtain ⟨z,hz,rfl⟩:=zis_get hv
        have hi:i < zs.length:=(List.getElem?_eq_some_iff.mp hz).1
        refine ⟨rfl,?_⟩
        dsimp only [tYes]
        refine iteT ⟨_,rfl,_,_,rfl,rfl,_,hLl,by rw [bzs_len,List.length_take];exact Nat.lt_of_le_of_lt (show _≤1000 by omega) (by decide),s2.wr hL,?_⟩
        rw [upd_same,bzs_snoc _ hz]
      rintro H1 ⟨s1,hLl⟩
      rw [zis_len,List.take_length] at hLl
      refine ⟨L,zs.map fun z=>decide (z < 0),rfl,SqL.of hLl,_,rfl,?_⟩
      have eany:(zs.map fun z=>decide (z < 0)).any id=zs.any fun z=>decide (z < 0):=by rw [List.any_map];rfl
      rw [eany]
      cases hneg:zs.any fun z=>decide (z < 0) with
      | true =>
        rw [Th.waysR_neg _ zs (Nat.le_refl _) hneg] at k
        exact iteT (k H1 .non s1 rfl)
      | false =>
        have hnn:∀ z∈zs,0≤z:=fun z hz=>by
          have:=List.any_eq_false.mp hneg z hz
          simp at this
          exact this
        refine iteF ⟨Nat.zero_le _,fun W hW=>?_⟩
        have s2:Same H1 (upd H1 W (.lst [])):=Same.lay hW
        have s12:=s1.trans s2
        have hWH:H W=none:=s1.free hW
        refine ⟨fun m σ H'=>∃ pl:Nat,∃ en js ws,σ=[some (.ref r),some (.ref W),some (.int (pl:Int)),en,none]∧Same H H'∧WaysAt H' W js ws∧W ∉ js∧Th.waysR zs=(Th.waysR (zs.drop pl)).map (fun l=>ws++l)∧pl≤zs.length∧ws.length≤pl∧m=zs.length - pl,
          ⟨_,0,none,[],[],rfl,s12,⟨upd_same,rfl,fun i j w h=>by simp at h⟩,fun h=>(nomatch h),?_,Nat.zero_le _,Nat.zero_le _,rfl⟩,?_⟩
        · rw [List.drop_zero]
          cases Th.waysR zs <;> rfl
        rintro m σ H' ⟨pl,en,js,ws,rfl,s3,W3,hWj,hways,hpl,hwl,rfl⟩
        have hrow3:=s3 _ _ hrow
        refine ⟨_,rfl,_,rfl,r,_,rfl,.inl (SqL.of hrow3),_,_,rfl,rfl,_,rfl,?_⟩
        rw [zis_len]
        by_cases hlt:pl < zs.length
        · rw [decide_eq_true (show (pl:Int) < (zs.length:Int) by omega)]
          obtain ⟨n,hn⟩:∃ n,zs[pl]?=some n:=⟨_,List.getElem?_eq_getElem hlt⟩
          have hn0:0≤n:=hnn n (List.mem_of_getElem? hn)
          obtain ⟨b,rfl⟩:∃ b:Nat,n=(b:Int):=⟨n.toNat,by omega⟩
          obtain ⟨hA,hB⟩:=Th.waysR_at hnn hn
          rw [Int.toNat_natCast] at hA hB
          refine iteT ⟨fun σ' H'=>∃ m',m' < zs.length - pl∧∃ pl:Nat,∃ en js ws,σ'=[some (.ref r),some (.ref W),some (.int (pl:Int)),en,none]∧Same H H'∧WaysAt H' W js ws∧W ∉ js∧Th.waysR zs=(Th.waysR (zs.drop pl)).map (fun l=>ws++l)∧pl≤zs.length∧ws.length≤pl∧m'=zs.length - pl,fun _ _ z=>z,?_⟩
          refine ⟨_,rfl,_,_,rfl,rfl,_,rfl,_,rfl,r,_,_,_,rfl,rfl,SqL.of hrow3,at_of (j:=pl) (v:=.int (b:Int)) rfl (by unfold zis;rw [List.getElem?_map,hn];rfl),_,_,rfl,rfl,?_⟩
          refine ⟨_,rfl,_,rfl,r,_,rfl,.inl (SqL.of hrow3),_,_,rfl,rfl,_,rfl,?_⟩
          dsimp only
          rw [zis_len]
          by_cases hend:zs.length < pl + 1 + b
          · rw [decide_eq_true (show (zs.length:Int) < (pl:Int) + 1 + (b:Int) by omega)]
            rw [hB hend] at hways
            rw [hways] at k
            exact iteT (k H' .non s3 rfl)
          · rw [decide_eq_false (show ¬ (zs.length:Int) < (pl:Int) + 1 + (b:Int) by omega)]
            refine iteF ⟨_,rfl,.inl ⟨rfl,_,SqL.of W3.lst⟩,_,rfl,_,rfl,_,_,rfl,rfl,_,rfl,_,rfl,_,rfl,r,_,rfl,SqL.of hrow3,fun p hp=>?_⟩
            have ecut:cutV (zis zs) (some ((pl:Int) + 1)) (some ((pl:Int) + 1 + (b:Int)))=nis (((zs.drop (pl + 1)).take b).map Int.toNat):=by
              have:=cut_is zs (pl + 1) b (by omega)
              rw [show ((pl + 1:Nat):Int)=(pl:Int) + 1 by omega] at this
              rw [this,zis_nis,Th.toNat_cast fun z hz=>hnn z (List.mem_of_mem_drop (List.mem_of_mem_take hz))]
            dsimp only
            rw [ecut]
            have s4:Same H' (upd H' p (.lst (nis (((zs.drop (pl + 1)).take b).map Int.toNat)))):=Same.lay hp
            have hpj:p ∉ js:=fun h=>by
              obtain ⟨i,hi⟩:=List.getElem?_of_mem h
              obtain ⟨w',_,h2⟩:=W3.get hi
              rw [h2] at hp;cases hp
            have hpW:p≠W:=fun e=>by rw [e,W3.lst] at hp;cases hp
            refine ⟨W,_,_,rfl,rfl,s4 _ _ W3.lst,by rw [List.length_map,W3.len];exact Nat.lt_of_le_of_lt (show _≤1000 by omega) (by decide),?_⟩
            refine ⟨_,rfl,?_⟩
            dsimp only
            rw [show (pl:Int) + 1 + (b:Int)=((pl + 1 + b:Nat):Int) by omega]
            refine ⟨zs.length - (pl + 1 + b),by omega,pl + 1 + b,_,js++[p],ws++[((zs.drop (pl + 1)).take b).map Int.toNat],rfl,(s3.trans s4).wr hWH,⟨by rw [upd_same,List.map_append];rfl,by rw [List.length_append,List.length_append,W3.len];rfl,fun i j w' hj hw=>?_⟩,fun h=>?_,?_,by omega,by rw [List.length_append,List.length_singleton];omega,rfl⟩
            · by_cases hi:i < js.length
              · rw [List.getElem?_append_left hi] at hj
                rw [List.getElem?_append_left (by rw [← W3.len];exact hi)] at hw
                rw [upd_ne (fun (e:j=W)=>hWj (e ▸ List.mem_of_getElem? hj))]
                exact s4 _ _ (W3.at_ i j w' hj hw)
              · rw [List.getElem?_append_right (by omega)] at hj
                rw [List.getElem?_append_right (by rw [← W3.len];omega)] at hw
                have hlt1:=(List.getElem?_eq_some_iff.mp hj).1
                simp at hlt1
                rw [show i - js.length=0 by omega] at hj
                rw [show i - ws.length=0 by rw [← W3.len];omega] at hw
                have e1:p=j:=Option.some.inj hj
                have e2:((zs.drop (pl + 1)).take b).map Int.toNat=w':=Option.some.inj hw
                rw [← e1,← e2,upd_ne hpW,upd_same]
            · rcases List.mem_append.mp h with h | h
              · exact hWj h
              · exact hpW (List.mem_singleton.mp h).symm
            · rw [hways,hA (by omega),Option.map_map]
              congr 1
              funext l
              show ws++(_ :: l)=(ws++[_])++l
              rw [List.append_assoc]
              rfl
        · rw [decide_eq_false (show ¬ (pl:Int) < (zs.length:Int) by omega)]
          refine iteF ⟨_,rfl,?_⟩
          have hd:zs.drop pl=[]:=List.drop_eq_nil_of_le (by omega)
          rw [hd,Th.waysR_nil] at hways
          have e:(some []:Option (List (List Nat))).map (fun l=>ws++l)=some ws:=by show some (ws++[])=some ws;rw [List.append_nil]
          rw [e] at hways
          rw [hways] at k
          exact k H' _ s3 ⟨W,js,rfl,W3⟩
def sp_lets_through (T:Ad):Sp:=fun vs H Q _=>∃ a x,vs=[.ref a]∧NodeAt T.c_Node H a x∧Q (.bl (!(x.halt_ && (x.free == 0 && !x.base)) && !x.base)) H
theorem ok_lets_through (Y:Tx K mg T):FnOk P w K mg base CX0 2 T.f_lets_through T.d_lets_through ["node"] (sp_lets_through T):=by
  have G1:=ok_Node_is_shut (P:=P) (w:=w) (base:=base) Y
  refine Y.F_lets_through.ok sc_lets_through (fun vs H Q E h=>?_) (fun cdv A outer s H vs Q E hr h=>?_)
  · obtain ⟨a,x,rfl,_⟩:=h
    rfl
  · obtain ⟨a,x,rfl,⟨dx,ha⟩,k⟩:=h
    refine ⟨_,pss_one (ps_ret (pe_and (pe_not (pe_meth0 (pv 0) Y.cl_Node Y.M_Node_is_shut G1 hr Y.B_Node_is_shut .nil pass0)) (pe_one (pe_cmpR op_eq (pe_fld (pv 0) rfl) pe_int (nomark _))))),?_⟩
    refine ⟨_,rfl,a,dx,_,rfl,ha,nf_none _ (by decide +kernel) (by decide +kernel) (by decide +kernel),a,_,rfl,⟨dx,ha⟩,_,rfl,_,rfl,?_⟩
    cases hs:(x.halt_ && (x.free == 0 && !x.base)) with
    | true=>rw [hs] at k;exact iteF k
    | false =>
      rw [hs] at k
      refine iteT ⟨_,rfl,a,T.c_Node,dx,_,_,rfl,ha,Y.cl_Node,Y.na_Node_base,nf_base _,rfl,?_⟩
      rw [bit_eq0]
      exact k
def sp_begins_at_base (K:PySem.W.Frag) (T:Ad):Sp:=fun vs H Q _=>∃ net wa s g l,vs=[.ref net,.ref wa]∧NetAt T H net s g∧SqL K H wa (nis l)∧Q (.bl (l.head?.any fun a=>decide (a < Vbsgad.size s) && Vbsgad.isBase s a)) H
theorem ok_begins_at_base (Y:Tx K mg T):FnOk P w K mg base CX0 2 T.f_begins_at_base T.d_begins_at_base ["network","way"] (sp_begins_at_base K T):=by
  have G1:=ok_Network_has_node (P:=P) (w:=w) (base:=base) Y
  refine Y.F_begins_at_base.ok sc_begins_at_base (fun vs H Q E h=>?_) (fun cdv A outer s H vs Q E hr h=>?_)
  · obtain ⟨net,wa,s,g,l,rfl,_⟩:=h
    rfl
  · obtain ⟨net,wa,s,g,l,rfl,N,hwa,k⟩:=h
    refine ⟨_,pss_one (ps_ret (pe_and (pe_cmpR op_gt (pe_callB call_len_seq (by rfl) Y.b_len PySem.boot_len (pa_cons (pv 1) pa_nil)) pe_int (nomark _))
      (pe_and (pe_meth (pv 0) Y.cl_Network Y.M_Network_has_node G1 hr Y.B_Network_has_node .nil pass0 (pa_cons (pe_ix ix_list (pv 1) pe_int (fun _ _=>rfl)) pa_nil))
      (pe_one (pe_cmpR op_eq (pe_fld (pe_ix ix_list (pe_fld (pv 0) rfl) (pe_ix ix_list (pv 1) pe_int (fun _ _=>rfl)) (fun _ _=>rfl)) rfl) pe_int (nomark _)))))),?_⟩
    refine ⟨_,rfl,wa,_,rfl,.inl hwa,_,_,rfl,rfl,_,rfl,?_⟩
    rw [nis_len]
    cases l with
    | nil=>exact iteF k
    | cons x l =>
      rw [decide_eq_true (show (0:Int) < ((x :: l).length:Int) by rw [List.length_cons];omega)]
      refine iteT ⟨_,rfl,net,_,_,rfl,N.obj,wf_none _ _ (by decide +kernel) (by decide +kernel),_,rfl,wa,_,_,_,rfl,rfl,hwa,at_of (j:=0) (v:=.int (x:Int)) rfl rfl,net,_,s,g,rfl,N,_,rfl,?_⟩
      have k':Q (.bl (decide (x < Vbsgad.size s) && Vbsgad.isBase s x)) H:=k
      by_cases hx:x < s.nodes.length
      · rw [decide_eq_true (show x < Vbsgad.size s from hx)] at k'
        rw [decide_eq_true (show 0≤(x:Int)∧(x:Int) < (s.nodes.length:Int) from ⟨by omega,by omega⟩)]
        obtain ⟨c,hc,hnx,dx,hnode⟩:=N.node hx
        refine iteT ⟨_,rfl,net,T.c_Network,_,_,_,rfl,N.obj,Y.cl_Network,Y.na_Network_nodes,wf_nodes _ _,_,rfl,wa,_,_,_,rfl,rfl,hwa,at_of (j:=0) (v:=.int (x:Int)) rfl rfl,g.ln,_,_,_,rfl,rfl,SqL.of N.nl,at_of (j:=x) (v:=V.ref c) rfl (by rw [List.getElem?_map,hc];rfl),c,T.c_Node,dx,_,_,rfl,hnode,Y.cl_Node,Y.na_Node_base,nf_base _,rfl,?_⟩
        rw [bit_eq]
        exact k'
      · rw [decide_eq_false (show ¬ x < Vbsgad.size s from hx)] at k'
        rw [decide_eq_false (show ¬ (0≤(x:Int)∧(x:Int) < (s.nodes.length:Int)) by omega)]
        exact iteF k'
end
end Sh
end
section
namespace L2
open PySem PySem.Spec PyProof.Rows
theorem lc_zip {K:PySem.W.Frag} {a b:Addr} {xs ys:List V} {g:TG} {tt:TT} {te:TE} {vs:List Nat} {σ:St} {H1:Hp} {D:Addr} {Qd:Hp→Prop} (Pv:Nat→Hp→Prop) (h0:Pv 0 (upd H1 D (.lst []))) (hl:∀ i H,i≤min xs.length ys.length→Pv i H→SqL K H a xs∧SqL K H b ys)
    (hs:∀ i x y H T,xs[i]?=some x→ys[i]?=some y→Pv i H→H T=none→g (.ref T) (wipe σ vs) (upd H T (.tup [x,y])) fun σ2 H2=>wipe σ2 vs=wipe σ vs∧tt σ2 H2 fun c H3 =>
      if c=true then te σ2 H3 fun y H4=>∃ acc,H4 D=some (.lst acc)∧acc.length < sizeLine∧Pv (i + 1) (upd H4 D (.lst (acc++[y]))) else Pv (i + 1) H3) (hd:∀ H,Pv (min xs.length ys.length) H→Qd H) :
    ∃ W:Nat→Nat→Hp→Prop,(∃ m,W 0 m (upd H1 D (.lst [])))∧∀ i m H,W i m H →
      ((Itz K a b).stop i H∧Qd H)∨((Itz K a b).go i H∧∃ Nx:Hp→Prop,(∀ H',Nx H'→∃ m',m' < m∧W (i + 1) m' H')∧∀ x H',(Itz K a b).yld i H x H'→g x (wipe σ vs) H' fun σ2 H2=>wipe σ2 vs=wipe σ vs∧tt σ2 H2 fun b H3 =>
        if b=true then te σ2 H3 fun y H4=>∃ acc,H4 D=some (.lst acc)∧acc.length < sizeLine∧Nx (upd H4 D (.lst (acc++[y]))) else Nx H3):=by
  refine ⟨fun i m H=>m=min xs.length ys.length - i∧i≤min xs.length ys.length∧Pv i H,⟨min xs.length ys.length,by simp,Nat.zero_le _,h0⟩,?_⟩
  rintro i m H ⟨rfl,hi,p⟩
  obtain ⟨q1,q2⟩:=hl i H hi p
  by_cases hlt:i < min xs.length ys.length
  · have hx:i < xs.length:=by omega
    have hy:i < ys.length:=by omega
    refine .inr ⟨⟨xs,ys,xs[i],ys[i],q1,q2,by simp [hx],by simp [hy]⟩,Pv (i + 1),fun H' p'=>⟨min xs.length ys.length - (i + 1),by omega,rfl,hlt,p'⟩,fun x H' y=>?_⟩
    obtain ⟨T,z,z2,e1,e2,e3,y1,y2⟩:=y
    subst e1
    subst e3
    exact hs i z z2 _ T (y1 xs q1) (y2 ys q2) p e2
  · have e:i=min xs.length ys.length:=by omega
    subst e
    exact .inl ⟨⟨xs,ys,q1,q2,by omega⟩,hd H p⟩
end L2
namespace Sh
open PySem PySem.Spec PyProof.Rows L2
open Vbsgad (State Node)
theorem nat_nodup (l:List Nat):(l.map fun (x:Nat)=>(x:Int)).Nodup↔l.Nodup:=by
  unfold List.Nodup
  rw [List.pairwise_map]
  exact ⟨fun h=>h.imp fun {a b} q e=>q (by rw [e]),fun h=>h.imp fun {a b} q e=>q (by omega)⟩
theorem last_at {l:List Nat} (h:l≠[]):∃ x,l.getLast?=some x∧atI (nis l) (-1)=some (.int (x:Int)):=by
  obtain ⟨l',x,e,h1,_⟩:=nis_last h
  refine ⟨x,by rw [e,List.getLast?_append];rfl,?_⟩
  unfold atI
  have hlen:0 < (nis l).length:=by rw [nis_len];exact List.length_pos_iff.mpr h
  have e2:ixN (nis l).length (-1)=some ((nis l).length - 1):=by
    unfold ixN
    rw [if_neg (by omega),if_pos (by omega)]
    congr 1
    omega
  rw [e2]
  exact h1
theorem zip_all (f:Nat→Nat→Bool) (l:List Nat):((l.zip (l.drop 1)).all fun t=>f t.1 t.2)=(((l.zip (l.drop 1)).map fun t=>f t.1 t.2).all id):=by
  rw [List.all_map];rfl
section
variable {P:Program} {w:World} {K:PySem.W.Frag} {mg:Str→Option Value} {base:Heap} {T:Ad}
def sp_wrong_of_way (T:Ad):Sp:=fun vs H Q _=>∃ net wa s g,∃ gl:Nat,∃ l,vs=[.ref net,.int (gl:Int),.ref wa]∧NetAt T H net s g∧H wa=some (.lst (nis l))∧l.length≤1000∧∀ H',Same H H'→Q (.int (Vbsgad.wrongWay s gl l:Int)) H'
theorem ok_wrong_of_way (Y:Tx K mg T):FnOk P w K mg base CX0 3 T.f_wrong_of_way T.d_wrong_of_way ["network","goal","way"] (sp_wrong_of_way T):=by
  have G1:=ok_begins_at_base (P:=P) (w:=w) (base:=base) Y
  have G2:=ok_Network_are_joined (P:=P) (w:=w) (base:=base) Y
  have G3:=ok_lets_through (P:=P) (w:=w) (base:=base) Y
  refine Y.F_wrong_of_way.ok sc_wrong_of_way (fun vs H Q E h=>?_) (fun cdv A outer s H vs Q E hr h=>?_)
  · obtain ⟨net,wa,s,g,gl,l,rfl,_⟩:=h
    rfl
  · obtain ⟨net,wa,s,g,gl,l,rfl,N,hwa,hlen,k⟩:=h
    have nd:=sc_wrong_of_way.nd
    have hr1:Room 1 _:=hr.mono (by decide)
    obtain ⟨t0,k0⟩:=Y.k_NOTHING_WRONG
    obtain ⟨t1,k1⟩:=Y.k_NO_BASE_AT_ITS_BEGINNING
    obtain ⟨t2,k2⟩:=Y.k_NO_GOAL_AT_ITS_END
    obtain ⟨t3,k3⟩:=Y.k_NOT_JOINED
    obtain ⟨t4,k4⟩:=Y.k_SAME_NODE_AGAIN
    obtain ⟨t5,k5⟩:=Y.k_NO_WAY_THROUGH
    refine' ⟨_,?d,?rd⟩
    case d =>
      refine' pss_cons (ps_if (pt_not (pt_val (pe_call G1 hr (by rfl) Y.G_begins_at_base Y.F_begins_at_base.kp Y.B_begins_at_base .nil pass0 (pa_cons (pv 0) (pa_cons (pv 2) pa_nil))))) (pss_one (ps_ret (pe_k (by rfl) k1))) pss_nil)
        (pss_cons (ps_if (pt_cmpR op_ne (pe_ix ix_list (pv 2) (pe_un un_neg pe_int) (fun _ _=>rfl)) (pv 1) (nomark _)) (pss_one (ps_ret (pe_k (by rfl) k2))) pss_nil)
        (pss_cons (ps_if (pt_not (pt_val (pe_callB (cr_all rfl) (by rfl) Y.b_all (by decide +kernel) (pa_cons ?c1 pa_nil)))) (pss_one (ps_ret (pe_k (by rfl) k3))) pss_nil)
        (pss_cons (ps_if (pt_cmpR op_ne (pe_callB call_lenSet (by rfl) Y.b_len PySem.boot_len (pa_cons (pe_callTy (call_setL rfl) (by rfl) Y.b_set (by decide +kernel) (pa_cons (pv 2) pa_nil)) pa_nil)) (pe_callB call_len_seq (by rfl) Y.b_len PySem.boot_len (pa_cons (pv 2) pa_nil)) (nomark _)) (pss_one (ps_ret (pe_k (by rfl) k4))) pss_nil)
        (pss_cons (ps_if (pt_not (pt_val (pe_callB (cr_all rfl) (by rfl) Y.b_all (by decide +kernel) (pa_cons ?c2 pa_nil)))) (pss_one (ps_ret (pe_k (by rfl) k5))) pss_nil)
        (pss_one (ps_ret (pe_k (by rfl) k0)))))))
      case c1 =>
        refine' pe_lc (own:=[("a",4),("b",5)]) (te:=tMeth T.c_Network "are_joined" (sp_Network_are_joined T) [] E0 (tVar 0) (tCons (tVar 4) (tCons (tVar 5) tNil))) (tt:=tYes) (g:=gTup K 2 (gCons (gName 4) (gCons (gName 5) gNil))) rfl nd (pi_zip (by rfl) Y.b_zip (pa_cons (pv 2) (pa_cons (pe_slice sl_list (pv 2) (po_some pe_int) po_none) pa_nil))) ?b ?g ?t ?e
        case b=>exact blkOk_by (by show blkC n_wrong_of_way (defScope s_wrong_of_way) _ _=true;decide +kernel)
        case g=>intro _ _ _ _ _;exact pg_tup rfl (pgs_cons (pg_name (i:=4) nd rfl (Or.inl rfl)) (pgs_cons (pg_name (i:=5) nd rfl (Or.inl rfl)) pgs_nil))
        case t=>intro _ _ _ _ _;exact pts_nil
        case e=>intro _ _ _ _ _;exact pe_meth (pv 0) Y.cl_Network Y.M_Network_are_joined G2 hr1 Y.B_Network_are_joined .nil pass0 (pa_cons (pv 4) (pa_cons (pv 5) pa_nil))
      case c2 =>
        refine' pe_lc (own:=[("number",3)]) (te:=tCall (sp_lets_through T) [] E0 (tCons (tOp (rIxL K) (tFld K (tVar 0) "nodes") (tVar 3)) tNil)) (tt:=tYes) (g:=gName 3) rfl nd (pi_list (pe_slice sl_list (pv 2) (po_some pe_int) (po_some (pe_un un_neg pe_int)))) ?b ?g ?t ?e
        case b=>exact blkOk_by (by show blkC n_wrong_of_way (defScope s_wrong_of_way) _ _=true;decide +kernel)
        case g=>intro _ _ _ _ _;exact pg_name (i:=3) nd rfl (Or.inl rfl)
        case t=>intro _ _ _ _ _;exact pts_nil
        case e=>intro _ _ _ _ _;exact pe_call G3 hr (by rfl) Y.G_lets_through Y.F_lets_through.kp Y.B_lets_through .nil pass0 (pa_cons (pe_ix ix_list (pe_fld (pv 0) rfl) (pv 3) (fun _ _=>rfl)) pa_nil)
    case rd =>
      have sz:∀ m,m≤1000→m < sizeLine:=fun m h=>Nat.lt_of_le_of_lt h (by decide)
      refine ⟨_,rfl,_,rfl,net,wa,s,g,l,rfl,N,SqL.of hwa,_,rfl,?_⟩
      cases h1:l.head?.any fun a=>decide (a < Vbsgad.size s) && Vbsgad.isBase s a with
      | false =>
        rw [Th.wrong1 h1] at k
        exact iteT (k H (Same.refl _))
      | true =>
        have hne:l≠[]:=fun e=>by rw [e] at h1;cases h1
        obtain ⟨x,hx1,hx2⟩:=last_at hne
        refine iteF ⟨_,rfl,_,rfl,wa,_,_,_,rfl,rfl,SqL.of hwa,hx2,_,rfl,rfl,_,rfl,?_⟩
        rw [ne_int]
        by_cases h2:x=gl
        · subst h2
          have e1:(x != x)=false:=by simp
          rw [e1]
          refine iteF ⟨_,rfl,_,rfl,_,rfl,wa,_,rfl,SqL.of hwa,fun p hp=>?_⟩
          dsimp only
          rw [cut_tail]
          have s1:Same H (upd H p (.lst (nis (l.drop 1)))):=Same.lay hp
          refine ⟨wa,p,_,_,rfl,SqL.of (s1 _ _ hwa),SqL.of upd_same,fun D hD=>?_⟩
          have hp1:(upd H p (.lst (nis (l.drop 1)))) p=some (.lst (nis (l.drop 1))):=upd_same
          generalize upd H p (.lst (nis (l.drop 1)))=H1 at s1 hp1 hD
          have hmin:min (nis l).length (nis (l.drop 1)).length=(l.zip (l.drop 1)).length:=by rw [nis_len,nis_len,List.length_zip]
          refine lc_zip (K:=K) (a:=wa) (b:=p) (xs:=nis l) (ys:=nis (l.drop 1)) (fun i H'=>Same H1 H'∧H' D=some (.lst ((((l.zip (l.drop 1)).take i).map fun t=>Vbsgad.joined s t.1 t.2).map V.bl))) ⟨Same.lay hD,upd_same⟩
            (fun i H' _ ⟨s2,_⟩=>⟨SqL.of (s2 _ _ (s1 _ _ hwa)),SqL.of (s2 _ _ hp1)⟩) ?_ ?_
          · rintro i u v H' Tp hu hv ⟨s2,hDl⟩ hT
            obtain ⟨y,hy,rfl⟩:=nis_get hu
            obtain ⟨z,hz,rfl⟩:=nis_get hv
            have s3:Same H' (upd H' Tp (.tup [.int (y:Int),.int (z:Int)])):=Same.lay hT
            have hi:i < l.length:=(List.getElem?_eq_some_iff.mp hy).1
            have hzip:(l.zip (l.drop 1))[i]?=some (y,z):=by rw [List.getElem?_zip_eq_some];exact ⟨hy,hz⟩
            refine ⟨Tp,_,rfl,SqT.of upd_same,rfl,_,_,rfl,_,_,rfl,rfl,rfl,?_⟩
            have s123:=(s1.trans s2).trans s3
            dsimp only [tYes]
            refine iteT ⟨_,rfl,net,_,_,rfl,s123 _ _ N.obj,wf_none _ _ (by decide +kernel) (by decide +kernel),_,rfl,_,rfl,net,s,g,y,z,rfl,N.same s123,fun H4 s4=>?_⟩
            refine ⟨_,s4 _ _ (s3 _ _ hDl),by rw [List.length_map,List.length_map,List.length_take];exact sz _ (by omega),((s2.trans s3).trans s4).wr hD,?_⟩
            rw [upd_same,take_snoc hzip,List.map_append,List.map_append]
            rfl
          rintro H2 ⟨s2,hDl⟩
          rw [hmin,List.take_length] at hDl
          have s12:=s1.trans s2
          refine ⟨D,_,rfl,SqL.of hDl,_,rfl,?_⟩
          rw [← zip_all (Vbsgad.joined s)]
          cases h3:(l.zip (l.drop 1)).all fun t=>Vbsgad.joined s t.1 t.2 with
          | false =>
            rw [Th.wrong3 h1 hx1 h3] at k
            exact iteT (k H2 s12)
          | true =>
            have hwa2:=s12 _ _ hwa
            refine iteF ⟨_,rfl,wa,l.map fun (x:Nat)=>(x:Int),rfl,SqL.of (by rw [hwa2,zis_nis];rfl),by rw [List.length_map];omega,fun q hq=>?_⟩
            refine ⟨q,_,_,rfl,upd_same,?_⟩
            have s3:Same H2 (upd H2 q (.set (fun k=>(dd (l.map fun (x:Nat)=>(x:Int))).any (· == k)) (dd (l.map fun (x:Nat)=>(x:Int))).length)):=Same.lay hq
            generalize upd H2 q (.set (fun k=>(dd (l.map fun (x:Nat)=>(x:Int))).any (· == k)) (dd (l.map fun (x:Nat)=>(x:Int))).length)=H3 at s3 ⊢
            have s123:=s12.trans s3
            refine ⟨_,rfl,wa,_,rfl,.inl (SqL.of (s123 _ _ hwa)),rfl,_,rfl,?_⟩
            rw [nis_len,ne_int]
            have hdd:=dd_len (l.map fun (x:Nat)=>(x:Int))
            rw [List.length_map,nat_nodup,← Th.twice_iff] at hdd
            cases h4:Vbsgad.twice l with
            | true =>
              rw [Th.wrong4 h1 hx1 h3 h4] at k
              have e2:((dd (l.map fun (x:Nat)=>(x:Int))).length != l.length)=true:=by
                simp only [bne_iff_ne,ne_eq]
                intro e
                rw [hdd.mp e] at h4
                cases h4
              rw [e2]
              exact iteT (k H3 s123)
            | false =>
              have e2:((dd (l.map fun (x:Nat)=>(x:Int))).length != l.length)=false:=by
                rw [hdd.mpr h4];simp
              rw [e2]
              have hwa3:=s123 _ _ hwa
              refine iteF ⟨_,rfl,_,rfl,_,rfl,_,rfl,wa,_,rfl,SqL.of hwa3,fun r hr2=>⟨r,rfl,⟨_,SqL.of upd_same⟩,fun D2 hD2=>?_⟩⟩
              dsimp only at hD2 ⊢
              have ecut:cutV (nis l) (some 1) (some (-1))=nis ((l.drop 1).dropLast):=cut_mid l
              rw [ecut] at hD2 ⊢
              have s4:Same H3 (upd H3 r (.lst (nis ((l.drop 1).dropLast)))):=Same.lay hr2
              have hr4:(upd H3 r (.lst (nis ((l.drop 1).dropLast)))) r=some (.lst (nis ((l.drop 1).dropLast))):=upd_same
              generalize upd H3 r (.lst (nis ((l.drop 1).dropLast)))=H4 at s4 hr4 hD2 ⊢
              have s1234:=s123.trans s4
              have hml:((l.drop 1).dropLast).length≤1000:=by rw [List.length_dropLast,List.length_drop];omega
              have hmid:∀ y∈(l.drop 1).dropLast,y < s.nodes.length:=fun y hy=>Th.between_lt N.wfs h3 y (List.dropLast_subset _ hy)
              refine lc_list (K:=K) (a:=r) (xs:=nis ((l.drop 1).dropLast)) (fun i H'=>Same H4 H'∧H' D2=some (.lst (((((l.drop 1).dropLast).take i).map fun y=>!Vbsgad.shut s y && !Vbsgad.isBase s y).map V.bl))) ⟨Same.lay hD2,upd_same⟩ (fun i H' _ ⟨s5,_⟩=>SqL.of (s5 _ _ hr4)) ?_ ?_
              · rintro i v H' hv ⟨s5,hDl5⟩
                obtain ⟨y,hy,rfl⟩:=nis_get hv
                have hyl:=hmid y (List.mem_of_getElem? hy)
                have hi:i < ((l.drop 1).dropLast).length:=(List.getElem?_eq_some_iff.mp hy).1
                obtain ⟨c,hc,hnx,dx,hnode⟩:=N.node hyl
                have s15:=s1234.trans s5
                refine ⟨rfl,?_⟩
                dsimp only [tYes]
                refine iteT ⟨_,rfl,net,T.c_Network,_,_,_,rfl,s15 _ _ N.obj,Y.cl_Network,Y.na_Network_nodes,wf_nodes _ _,_,rfl,g.ln,_,_,_,rfl,rfl,SqL.of (s15 _ _ N.nl),at_of (j:=y) (v:=V.ref c) rfl (by rw [List.getElem?_map,hc];rfl),c,_,rfl,⟨dx,s15 _ _ hnode⟩,
                  _,hDl5,by rw [List.length_map,List.length_map,List.length_take];exact sz _ (by omega),s5.wr hD2,?_⟩
                rw [upd_same,take_snoc hy,List.map_append,List.map_append]
                rfl
              rintro H5 ⟨s5,hDl5⟩
              rw [nis_len,List.take_length] at hDl5
              have s15:=s1234.trans s5
              refine ⟨D2,_,rfl,SqL.of hDl5,_,rfl,?_⟩
              have eall:((((l.drop 1).dropLast).map fun y=>!Vbsgad.shut s y && !Vbsgad.isBase s y).all id)=!((l.drop 1).dropLast.any fun a=>Vbsgad.shut s a || Vbsgad.isBase s a):=by
                rw [List.all_map]
                induction (l.drop 1).dropLast with
                | nil=>rfl
                | cons y m ih =>
                  rw [List.all_cons,List.any_cons,ih]
                  show ((!Vbsgad.shut s y && !Vbsgad.isBase s y) && _)=_
                  cases Vbsgad.shut s y <;> cases Vbsgad.isBase s y <;> rfl
              rw [eall]
              cases h5:(l.drop 1).dropLast.any fun a=>Vbsgad.shut s a || Vbsgad.isBase s a with
              | true =>
                rw [Th.wrong5 h1 hx1 h3 h4 h5] at k
                exact iteT (k H5 s15)
              | false =>
                rw [Th.wrong0 h1 hx1 h3 h4 h5] at k
                exact iteF (k H5 s15)
        · have e1:(x != gl)=true:=by simpa using h2
          rw [e1]
          rw [Th.wrong2 h1 (by rw [hx1];intro e;exact h2 (Option.some.inj e))] at k
          exact iteT (k H (Same.refl _))
end
end Sh
end
section
namespace Sh
open PySem PySem.Spec PyProof.Rows L2
open Vbsgad (State Node)
theorem ways_bound:∀ (k:Nat) (l:List Int) (ws:List (List Nat)),l.length≤k→Th.waysR l=some ws→ws.length≤l.length∧∀ w∈ws,w.length≤l.length
  | k,[],ws,_,h=>by
    rw [Th.waysR_nil] at h
    cases h
    exact ⟨Nat.le_refl _,fun w h=>nomatch h⟩
  | 0,_ :: _,_,hk,_=>by simp at hk
  | k + 1,n :: r,ws,hk,h=>by
    have hk':r.length + 1≤k + 1:=hk
    rw [Th.waysR_cons] at h
    split at h
    · cases h
    · cases e:Th.waysR (r.drop n.toNat) with
      | none=>rw [e] at h;cases h
      | some ws' =>
        rw [e] at h
        have h':(r.take n.toNat).map Int.toNat :: ws'=ws:=Option.some.inj h
        subst h'
        obtain ⟨h1,h2⟩:=ways_bound k (r.drop n.toNat) ws' (by rw [List.length_drop];omega) e
        rw [List.length_drop] at h1 h2
        refine ⟨by rw [List.length_cons,List.length_cons];omega,fun w hw=>?_⟩
        rw [List.length_cons]
        rcases List.mem_cons.mp hw with e2 | hw
        · rw [e2,List.length_map,List.length_take];omega
        · have:=h2 w hw;omega
section
variable {P:Program} {w:World} {K:PySem.W.Frag} {mg:Str→Option Value} {base:Heap} {T:Ad}
def sp_crowded_stop (T:Ad):Sp:=fun vs H Q _=>∃ net wa s g,∃ gl:Nat,∃ js ws,vs=[.ref net,.int (gl:Int),.ref wa]∧NetAt T H net s g∧WaysAt H wa js ws∧ws.length≤1000∧(∀ l∈ws,l.length≤1000) ∧
  ∀ H',Same H H'→Q (oV ((Vbsgad.fillables s gl).find? fun a=>decide ((Vbsgad.nodeOf s a).free < Vbsgad.used ws a))) H'
theorem ok_crowded_stop (Y:Tx K mg T):FnOk P w K mg base CX0 3 T.f_crowded_stop T.d_crowded_stop ["network","goal","ways"] (sp_crowded_stop T):=by
  have G1:=ok_stops_to_fill (P:=P) (w:=w) (base:=base) Y
  refine Y.F_crowded_stop.ok sc_crowded_stop (fun vs H Q E h=>?_) (fun cdv A outer s H vs Q E hr h=>?_)
  · obtain ⟨net,wa,s,g,gl,js,ws,rfl,_⟩:=h
    rfl
  · obtain ⟨net,wa,s,g,gl,js,ws,rfl,N,W,hwl,hwb,k⟩:=h
    have nd:=sc_crowded_stop.nd
    refine' ⟨_,?d,?rd⟩
    case d =>
      refine' pss_cons (ps_for PassesOwn.never rfl (pi_list (pe_call G1 hr (by rfl) Y.G_stops_to_fill Y.F_stops_to_fill.kp Y.B_stops_to_fill .nil pass0 (pa_cons (pv 0) (pa_cons (pv 1) pa_nil)))) (pg_name (i:=3) nd rfl (Or.inr rfl))
        (pss_cons ?c (pss_one (ps_if (pt_cmpR op_gt (pe_callB call_len_seq (by rfl) Y.b_len PySem.boot_len (pa_cons (pv 4) pa_nil)) (pe_fld (pe_ix ix_list (pe_fld (pv 0) rfl) (pv 3) (fun _ _=>rfl)) rfl) (nomark _)) (pss_one (ps_ret (pv 3))) pss_nil)))) (pss_one (ps_ret pe_non))
      case c =>
        refine' ps_setLc (i:=4) (own:=[("way",5)]) (te:=tVar 5) (tt:=tTest (tOp (rIn K false) (tVar 3) (tSl (rSlL K) (tVar 5) (tPart (tC (.int 1))) (tPart (tUn (rU fun i=>.int (-i)) (tC (.int 1))))))) (g:=gName 5) rfl nd rfl rfl (sw_true rfl rfl rfl rfl) (pi_list (pv 2)) ?b ?g ?t ?e
        case b=>exact blkOk_by (by show blkC n_crowded_stop (defScope s_crowded_stop) _ _=true;decide +kernel)
        case g=>intro _ _ _ _ _;exact pg_name (i:=5) nd rfl (Or.inl rfl)
        case t=>intro _ _ _ _ _;exact pts_one (pt_cmpR op_in_seq (pv 3) (pe_slice sl_list (pv 5) (po_some pe_int) (po_some (pe_un un_neg pe_int))) (by with_unfolding_all rfl))
        case e=>intro _ _ _ _ _;exact pv 5
    case rd =>
      have sz:∀ m,m≤1000→m < sizeLine:=fun m h=>Nat.lt_of_le_of_lt h (by decide)
      have hn:=N.wfs.sz
      refine ⟨_,rfl,_,rfl,net,s,g,gl,rfl,N,fun H1 p s1 hp hl=>⟨p,rfl,⟨_,SqL.of hl⟩,?_⟩⟩
      refine for_list (K:=K) (a:=p) (xs:=nis (Vbsgad.fillables s gl)) (fun i σ H'=>∃ st th,σ=[some (.ref net),some (.int (gl:Int)),some (.ref wa),st,th,none]∧Same H H'∧H' p=some (.lst (nis (Vbsgad.fillables s gl)))∧∀ j b,j < i→(Vbsgad.fillables s gl)[j]?=some b→decide ((Vbsgad.nodeOf s b).free < Vbsgad.used ws b)=false)
        ⟨_,_,rfl,s1,hl,fun j b hj=>by omega⟩ (fun i σ H' _ ⟨_,_,_,_,h,_⟩=>SqL.of h) ?_ ?_
      · rintro i v σ H2 hv ⟨st,th,rfl,s2,hp2,hbef⟩
        obtain ⟨x,hx,rfl⟩:=nis_get hv
        obtain ⟨hx1,hx2,hx3⟩:=Th.mem_fillables.mp (List.mem_of_getElem? hx)
        have W2:=W.same s2
        refine ⟨_,rfl,wa,rfl,⟨_,SqL.of W2.lst⟩,fun D hD=>?_⟩
        refine lc_list (K:=K) (a:=wa) (xs:=js.map V.ref) (fun n H'=>Same H2 H'∧∃ rs,H' D=some (.lst rs)∧rs.length=Vbsgad.used (ws.take n) x) ⟨Same.lay hD,[],upd_same,rfl⟩ (fun n H' _ ⟨s3,_⟩=>SqL.of (s3 _ _ W2.lst)) ?_ ?_
        · rintro n v H' hv ⟨s3,rs,hDl,hrl⟩
          obtain ⟨j,hj,rfl⟩:=get_map hv
          obtain ⟨l,hl1,hl2⟩:=W2.get hj
          have hni:n < ws.length:=(List.getElem?_eq_some_iff.mp hl1).1
          refine ⟨rfl,_,rfl,_,rfl,_,rfl,_,rfl,_,rfl,j,_,rfl,SqL.of (s3 _ _ hl2),fun q hq=>?_⟩
          have ecut:cutV (nis l) (some 1) (some (-1))=nis ((l.drop 1).dropLast):=cut_mid l
          have s4:Same H' (upd H' q (.lst (cutV (nis l) (some 1) (some (-1))))):=Same.lay hq
          refine ⟨q,_,rfl,.inl (SqL.of upd_same),rfl,?_,_,rfl,?_⟩
          · show (cutV (nis l) (some 1) (some (-1))).all flatV=true
            rw [ecut];exact flat_nis _
          have e1:(if false=true then !inV (.int (x:Nat)) (cutV (nis l) (some 1) (some (-1))) else inV (.int (x:Nat)) (cutV (nis l) (some 1) (some (-1))))=((l.drop 1).dropLast).contains x:=(if_neg (by simp)).trans (by rw [ecut];exact inV_nis x _)
          have eu:Vbsgad.used (ws.take (n + 1)) x=Vbsgad.used (ws.take n) x + if ((l.drop 1).dropLast).contains x=true then 1 else 0:=by
            unfold Vbsgad.used
            rw [take_snoc hl1,List.filter_append,List.length_append,List.filter_cons]
            cases ((l.drop 1).dropLast).contains x <;> rfl
          have hub:Vbsgad.used (ws.take n) x≤1000:=by
            unfold Vbsgad.used
            have:=List.length_filter_le (fun l=>((l.drop 1).dropLast).contains x) (ws.take n)
            rw [List.length_take] at this
            omega
          show if (if false=true then !inV (.int (x:Nat)) (cutV (nis l) (some 1) (some (-1))) else inV (.int (x:Nat)) (cutV (nis l) (some 1) (some (-1))))=true then _ else _
          rw [e1]
          rw [eu]
          cases hc:((l.drop 1).dropLast).contains x with
          | true =>
            refine iteT ⟨_,rfl,_,s4 _ _ hDl,by rw [hrl];exact sz _ hub,(s3.trans s4).wr hD,_,upd_same,?_⟩
            rw [List.length_append,hrl]
            rfl
          | false=>exact iteF ⟨s3.trans s4,rs,s4 _ _ hDl,by rw [hrl];rfl⟩
        rintro H3 ⟨s3,rs,hDl,hrl⟩
        rw [List.length_map,W.len,List.take_length] at hrl
        obtain ⟨a,ha,hnx,dx,hnode⟩:=N.node (i:=x) hx1
        have s23:=s2.trans s3
        refine ⟨_,rfl,D,_,rfl,.inl (SqL.of hDl),_,rfl,net,T.c_Network,_,_,_,rfl,s23 _ _ N.obj,Y.cl_Network,Y.na_Network_nodes,wf_nodes _ _,_,rfl,g.ln,_,_,_,rfl,rfl,SqL.of (s23 _ _ N.nl),at_of (j:=x) (v:=V.ref a) rfl (by rw [List.getElem?_map,ha];rfl),a,T.c_Node,dx,_,_,rfl,s23 _ _ hnode,Y.cl_Node,Y.na_Node_free,nf_free _,_,_,rfl,rfl,_,rfl,?_⟩
        rw [hrl]
        have e2:decide (((Vbsgad.nodeOf s x).free:Int) < ((Vbsgad.used ws x:Nat):Int))=decide ((Vbsgad.nodeOf s x).free < Vbsgad.used ws x):=by
          apply Bool.eq_iff_iff.mpr
          rw [decide_eq_true_iff,decide_eq_true_iff]
          omega
        rw [e2]
        cases hb:decide ((Vbsgad.nodeOf s x).free < Vbsgad.used ws x) with
        | true =>
          refine iteT ⟨_,rfl,?_⟩
          rw [Th.find_first hx hb hbef] at k
          exact k H3 s23
        | false =>
          refine iteF ⟨_,_,rfl,s23,s3 _ _ hp2,fun j b hj hjb=>?_⟩
          by_cases e:j=i
          · subst e
            have:b=x:=Option.some.inj (hjb.symm.trans hx)
            rw [this];exact hb
          · exact hbef j b (by omega) hjb
      · rintro σ H2 ⟨st,th,rfl,s2,hp2,hbef⟩
        have hnone:(Vbsgad.fillables s gl).find? (fun a=>decide ((Vbsgad.nodeOf s a).free < Vbsgad.used ws a))=none:=by
          rw [List.find?_eq_none]
          intro b hb
          obtain ⟨j,hj⟩:=List.getElem?_of_mem hb
          have hlt:=(List.getElem?_eq_some_iff.mp hj).1
          rw [hbef j b (by rw [nis_len];exact hlt) hj]
          simp
        rw [hnone] at k
        exact k H2 s2
theorem ok_answer_ways (Y:Tx K mg T):FnOk P w K mg base CX0 8 T.f_answer_ways T.d_answer_ways ["network","arguments"] (spA1 T 14 1):=by
  have G1:=ok_Network_has_node (P:=P) (w:=w) (base:=base) Y
  have G2:=ok_ways_of_row (P:=P) (w:=w) (base:=base) Y
  have G3:=ok_wrong_of_way (P:=P) (w:=w) (base:=base) Y
  have G4:=ok_crowded_stop (P:=P) (w:=w) (base:=base) Y
  refine Y.F_answer_ways.ok sc_answer_ways (fun vs H Q E h=>?_) (fun cdv A outer s H vs Q E hr h=>?_)
  · obtain ⟨net,a,r,s,g,xs,row,rfl,_⟩:=h
    rfl
  · obtain ⟨net,ar,r,s,g,xs,row,rfl,N,har,hrow,hx,hlr,hown,hown2,k⟩:=h
    obtain ⟨a,rfl⟩:=len1 hx
    have k2:∀ H' q g',NetAt T H' net (Vbsgad.step s (.ways a row)).1 g'→Chg H H' net g g'→H q=none→H' q=some (.lst (zis (Vbsgad.step s (.ways a row)).2))→Q (.ref q) H':=k
    clear k
    have hst:Vbsgad.step s (.ways a row)=Vbsgad.ask s ((Vbsgad.nodeGot s a).bind fun a=>match Th.waysR row with
      | some ws=>.ok (Vbsgad.judged s a ws)
      | none=>.error (-8)):=rfl
    rw [hst] at k2
    have nd:=sc_answer_ways.nd
    have hr1:Room 1 _:=hr.mono (by decide)
    have hr3:Room 3 _:=hr.mono (by decide)
    obtain ⟨t1,k1⟩:=Y.k_NO_SUCH_NODE
    obtain ⟨t8,k8⟩:=Y.k_BADLY_TOLD_WAYS
    obtain ⟨t0,k0⟩:=Y.k_NOTHING_WRONG
    refine ⟨_,pss_cons (ps_set (i:=2) nd rfl (Or.inl rfl) (pe_ix ix_list (pv 1) pe_int (fun _ _=>rfl)))
      (pss_cons (ps_if (pt_not (pt_val (pe_meth (pv 0) Y.cl_Network Y.M_Network_has_node G1 hr1 Y.B_Network_has_node .nil pass0 (pa_cons (pv 2) pa_nil)))) (pss_one (ps_ret (pe_lst (pa_cons (pe_k (by rfl) k1) pa_nil)))) pss_nil)
      (pss_cons (ps_set (i:=3) nd rfl (Or.inl rfl) (pe_call G2 hr1 (by rfl) Y.G_ways_of_row Y.F_ways_of_row.kp Y.B_ways_of_row .nil pass0 (pa_cons (pe_ix ix_list (pv 1) pe_int (fun _ _=>rfl)) pa_nil)))
      (pss_cons (ps_if (pt_cmpR op_isN (pv 3) pe_non (nomark _)) (pss_one (ps_ret (pe_lst (pa_cons (pe_k (by rfl) k8) pa_nil)))) pss_nil)
      (pss_cons (ps_for PassesOwn.never rfl (pi_enum (by rfl) Y.b_enumerate (pa_cons (pv 3) pa_nil)) (pg_tup rfl (pgs_cons (pg_name (i:=5) nd rfl (Or.inl rfl)) (pgs_cons (pg_name (i:=6) nd rfl (Or.inl rfl)) pgs_nil)))
        (pss_cons (ps_set (i:=7) nd rfl (Or.inl rfl) (pe_call G3 hr3 (by rfl) Y.G_wrong_of_way Y.F_wrong_of_way.kp Y.B_wrong_of_way .nil pass0 (pa_cons (pv 0) (pa_cons (pv 2) (pa_cons (pv 6) pa_nil)))))
        (pss_one (ps_if (pt_cmpR op_ne (pv 7) (pe_k (by rfl) k0) (nomark _)) (pss_one (ps_ret (pe_lst (pa_cons pe_int (pa_cons (pv 5) (pa_cons (pv 7) pa_nil)))))) pss_nil))))
      (pss_cons (ps_set (i:=4) nd rfl (Or.inl rfl) (pe_call G4 hr3 (by rfl) Y.G_crowded_stop Y.F_crowded_stop.kp Y.B_crowded_stop .nil pass0 (pa_cons (pv 0) (pa_cons (pv 2) (pa_cons (pv 3) pa_nil)))))
      (pss_cons (ps_if (pt_cmpR op_notN (pv 4) pe_non (nomark _)) (pss_one (ps_ret (pe_lst (pa_cons pe_int (pa_cons (pv 4) pa_nil))))) pss_nil)
      (pss_one (ps_ret (pe_lst (pa_cons pe_int (pa_cons (pe_callB call_len_seq (by rfl) Y.b_len PySem.boot_len (pa_cons (pv 3) pa_nil)) pa_nil))))))))))),?_⟩
    refine ⟨_,rfl,ar,_,_,_,rfl,rfl,SqL.of har,rfl,?_⟩
    refine ⟨_,rfl,net,_,_,rfl,N.obj,wf_none _ _ (by decide +kernel) (by decide +kernel),_,rfl,net,a,s,g,rfl,N,_,rfl,?_⟩
    show if (!inN s a)=true then _ else _
    cases ia:inN s a with
    | false =>
      rw [ask_no ia] at k2
      exact iteT ⟨one_le,fun q hq=>k2 _ q g (N.same (Same.lay hq)) (Chg.same (Same.lay hq)) hq upd_same⟩
    | true =>
      rw [ask_is ia] at k2
      obtain ⟨h1,h2⟩:=inN_lt ia
      generalize a.toNat=b at h1 h2 k2
      subst h2
      refine iteF ⟨_,rfl,ar,_,_,_,rfl,rfl,SqL.of har,rfl,r,row,rfl,hrow,hlr,fun H1 v s1 hv=>?_⟩
      refine ⟨_,rfl,rfl,_,rfl,?_⟩
      have k3:∀ (ans:List Int),Vbsgad.ask s (match Th.waysR row with
        | some ws=>.ok (Vbsgad.judged s b ws)
        | none=>.error (-8))=(s,ans)→∀ H' q,Same H H'→H' q=none→Q (.ref q) (upd H' q (.lst (zis ans))):=by
        intro ans he H' q sm hq
        rw [he] at k2
        exact k2 _ q g (N.same (sm.trans (Same.lay hq))) (Chg.same (sm.trans (Same.lay hq))) (sm.free hq) upd_same
      cases hways:Th.waysR row with
      | none =>
        rw [hways] at hv k3
        have e1:v=V.non:=hv
        subst e1
        exact iteT ⟨one_le,fun q hq=>k3 [-8] rfl H1 q s1 hq⟩
      | some ws =>
        rw [hways] at hv k3
        obtain ⟨p,js,e1,W⟩:=hv
        subst e1
        obtain ⟨hb1,hb2⟩:=ways_bound _ row ws (Nat.le_refl _) hways
        have e2:decide (V.ref p=V.non)=false:=decide_eq_false (fun z=>by cases z)
        rw [e2]
        refine iteF ⟨_,rfl,p,_,rfl,SqL.of W.lst,?_⟩
        refine for_enum (K:=K) (a:=p) (xs:=js.map V.ref) (fun i σ H'=>∃ pl wy wr,σ=[some (.ref net),some (.ref ar),some (.int (b:Int)),some (.ref p),none,pl,wy,wr]∧Same H1 H'∧∀ j u,j < i→ws[j]?=some u→Vbsgad.wrongWay s b u=0)
          ⟨_,_,_,rfl,Same.refl _,fun j u hj=>by omega⟩ (fun i σ H' _ ⟨_,_,_,_,s2,_⟩=>SqL.of (s2 _ _ W.lst)) ?_ ?_
        · rintro i x σ H2 Tp hx ⟨pl,wy,wr,rfl,s2,hbef⟩ hTp
          obtain ⟨j,hj,rfl⟩:=get_map hx
          obtain ⟨l,hl1,hl2⟩:=W.get hj
          have s3:Same H2 (upd H2 Tp (.tup [.int (i:Nat),.ref j])):=Same.lay hTp
          have s13:=(s1.trans s2).trans s3
          have hl3:=s3 _ _ (s2 _ _ hl2)
          refine ⟨Tp,_,rfl,SqT.of upd_same,rfl,_,_,rfl,_,_,rfl,rfl,?_⟩
          generalize upd H2 Tp (.tup [.int (i:Nat),.ref j])=H3 at s3 s13 hl3
          refine ⟨_,rfl,_,rfl,_,rfl,net,j,s,g,b,l,rfl,N.same s13,hl3,Nat.le_trans (hb2 l (List.mem_of_getElem? hl1)) hlr,fun H4 s4=>?_⟩
          refine ⟨_,rfl,rfl,_,rfl,?_⟩
          have e3:(!decide (V.int (Vbsgad.wrongWay s b l:Int)=V.int 0))=(Vbsgad.wrongWay s b l != 0):=ne_int _ 0
          rw [e3]
          cases hw:(Vbsgad.wrongWay s b l != 0) with
          | true =>
            have hw':Vbsgad.wrongWay s b l≠0:=by simpa using hw
            refine iteT ⟨_,rfl,_,rfl,by show 3≤sizeLine;decide,fun q hq=>?_⟩
            have hjd:=Th.judged_wrong hl1 hw' hbef
            exact k3 [1,(i:Int),(Vbsgad.wrongWay s b l:Int)] (by show (s,Vbsgad.judged s b ws)=_;rw [hjd]) H4 q (s13.trans s4) hq
          | false =>
            have hw':Vbsgad.wrongWay s b l=0:=by simpa using hw
            refine iteF ⟨_,_,_,rfl,(s2.trans s3).trans s4,fun n u hn hu=>?_⟩
            by_cases e:n=i
            · subst e
              have:u=l:=Option.some.inj (hu.symm.trans hl1)
              rw [this];exact hw'
            · exact hbef n u (by omega) hu
        · rintro σ H2 ⟨pl,wy,wr,rfl,s2,hbef⟩
          rw [List.length_map,W.len] at hbef
          have hall:∀ u∈ws,Vbsgad.wrongWay s b u=0:=fun u hu=>by
            obtain ⟨n,hn⟩:=List.getElem?_of_mem hu
            exact hbef n u (List.getElem?_eq_some_iff.mp hn).1 hn
          have hjd:=Th.judged_ok hall
          have s12:=s1.trans s2
          refine ⟨_,rfl,_,rfl,_,rfl,net,p,s,g,b,js,ws,rfl,N.same s12,W.same s2,by omega,fun l hl=>Nat.le_trans (hb2 l hl) hlr,fun H3 s3=>?_⟩
          refine ⟨_,rfl,rfl,_,rfl,?_⟩
          rw [isNon]
          have s123:=s12.trans s3
          cases hf:(Vbsgad.fillables s b).find? fun a=>decide ((Vbsgad.nodeOf s a).free < Vbsgad.used ws a) with
          | some c =>
            rw [hf] at hjd
            exact iteT ⟨_,rfl,by show 2≤sizeLine;decide,fun q hq=>k3 [2,(c:Int)] (by show (s,Vbsgad.judged s b ws)=_;rw [hjd]) H3 q s123 hq⟩
          | none =>
            rw [hf] at hjd
            refine iteF ⟨_,rfl,p,_,rfl,.inl (SqL.of (s3 _ _ (s2 _ _ W.lst))),by show 2≤sizeLine;decide,fun q hq=>?_⟩
            rw [List.length_map,W.len]
            exact k3 [0,(ws.length:Int)] (by show (s,Vbsgad.judged s b ws)=_;rw [hjd]) H3 q s123 hq
end
end Sh
end
section
namespace Sh
open PySem PySem.Spec PyProof.Rows L2
def Made (K:PySem.W.Frag) (mg:Str→Option Value):Prop:=∃ T:Ad,Tx K mg T∧(∀ (s:Shared) (us:List Value),us.length=1→BindsTo s T.d_answers ⟨us,[]⟩ ((["calls"]:List Str).zip us))∧(∃ d,mg "CALLS"=some (.ref d)∧(∀ P w,∃ kvs,KDict P w K d kvs∧(∃ tp,valV kvs (0)=some (.ref tp)∧∀ H,SqT K H tp [.int (3),.int (0),.ref T.f_answer_node])∧(∃ tp,valV kvs (1)=some (.ref tp)∧∀ H,SqT K H tp [.int (2),.int (0),.ref T.f_answer_line])∧(∃ tp,valV kvs (2)=some (.ref tp)∧∀ H,SqT K H tp [.int (3),.int (0),.ref T.f_answer_set])∧(∃ tp,valV kvs (3)=some (.ref tp)∧∀ H,SqT K H tp [.int (1),.int (0),.ref T.f_answer_unline])∧(∃ tp,valV kvs (4)=some (.ref tp)∧∀ H,SqT K H tp [.int (0),.int (0),.ref T.f_answer_clear])∧(∃ tp,valV kvs (5)=some (.ref tp)∧∀ H,SqT K H tp [.int (0),.int (0),.ref T.f_answer_graph])∧(∃ tp,valV kvs (6)=some (.ref tp)∧∀ H,SqT K H tp [.int (1),.int (0),.ref T.f_answer_fill])∧(∃ tp,valV kvs (7)=some (.ref tp)∧∀ H,SqT K H tp [.int (0),.int (0),.ref T.f_answer_reach])∧(∃ tp,valV kvs (8)=some (.ref tp)∧∀ H,SqT K H tp [.int (0),.int (1),.ref T.f_answer_reach_if])∧(∃ tp,valV kvs (9)=some (.ref tp)∧∀ H,SqT K H tp [.int (1),.int (0),.ref T.f_answer_least])∧(∃ tp,valV kvs (10)=some (.ref tp)∧∀ H,SqT K H tp [.int (1),.int (0),.ref T.f_answer_tight])∧(∃ tp,valV kvs (11)=some (.ref tp)∧∀ H,SqT K H tp [.int (1),.int (0),.ref T.f_answer_nearest])∧(∃ tp,valV kvs (12)=some (.ref tp)∧∀ H,SqT K H tp [.int (1),.int (0),.ref T.f_answer_furthest])∧(∃ tp,valV kvs (13)=some (.ref tp)∧∀ H,SqT K H tp [.int (1),.int (1),.ref T.f_answer_cuts])∧(∃ tp,valV kvs (14)=some (.ref tp)∧∀ H,SqT K H tp [.int (1),.int (1),.ref T.f_answer_ways])∧(∃ tp,valV kvs (15)=some (.ref tp)∧∀ H,SqT K H tp [.int (1),.int (0),.ref T.f_answer_needed])∧(∃ tp,valV kvs (16)=some (.ref tp)∧∀ H,SqT K H tp [.int (0),.int (0),.ref T.f_answer_all])∧(∃ tp,valV kvs (17)=some (.ref tp)∧∀ H,SqT K H tp [.int (0),.int (0),.ref T.f_answer_weakest])))
theorem tx_mk {K:PySem.W.Frag} {h:Heap} {mg:Str→Option Value} (X:K.In h) (G:h.Ns mainGlobals mg)
    {c_Flow:Addr}
    {c_Node:Addr}
    {c_Network:Addr}
    {fZ14:Addr} {ocZ14 kVZ14 dcZ14 pmZ14 cdZ14 ctZ14:Value} {odZ14 anZ14:Option Addr} {slZ14:Array (Option Value)}
    {fZ22:Addr} {ocZ22 kVZ22 dcZ22 pmZ22 cdZ22 ctZ22:Value} {odZ22 anZ22:Option Addr} {slZ22:Array (Option Value)}
    {fZ1:Addr} {ocZ1 kVZ1 dcZ1 pmZ1 cdZ1 ctZ1:Value} {odZ1 anZ1:Option Addr} {slZ1:Array (Option Value)}
    {fZ7:Addr} {ocZ7 kVZ7 dcZ7 pmZ7 cdZ7 ctZ7:Value} {odZ7 anZ7:Option Addr} {slZ7:Array (Option Value)}
    {fZ49:Addr} {ocZ49 kVZ49 dcZ49 pmZ49 cdZ49 ctZ49:Value} {odZ49 anZ49:Option Addr} {slZ49:Array (Option Value)}
    {fZ15:Addr} {ocZ15 kVZ15 dcZ15 pmZ15 cdZ15 ctZ15:Value} {odZ15 anZ15:Option Addr} {slZ15:Array (Option Value)}
    {fZ16:Addr} {ocZ16 kVZ16 dcZ16 pmZ16 cdZ16 ctZ16:Value} {odZ16 anZ16:Option Addr} {slZ16:Array (Option Value)}
    {fZ23:Addr} {ocZ23 kVZ23 dcZ23 pmZ23 cdZ23 ctZ23:Value} {odZ23 anZ23:Option Addr} {slZ23:Array (Option Value)}
    {fZ45:Addr} {ocZ45 kVZ45 dcZ45 pmZ45 cdZ45 ctZ45:Value} {odZ45 anZ45:Option Addr} {slZ45:Array (Option Value)}
    {fZ17:Addr} {ocZ17 kVZ17 dcZ17 pmZ17 cdZ17 ctZ17:Value} {odZ17 anZ17:Option Addr} {slZ17:Array (Option Value)}
    {fZ50:Addr} {ocZ50 kVZ50 dcZ50 pmZ50 cdZ50 ctZ50:Value} {odZ50 anZ50:Option Addr} {slZ50:Array (Option Value)}
    {fZ36:Addr} {ocZ36 kVZ36 dcZ36 pmZ36 cdZ36 ctZ36:Value} {odZ36 anZ36:Option Addr} {slZ36:Array (Option Value)}
    {fZ24:Addr} {ocZ24 kVZ24 dcZ24 pmZ24 cdZ24 ctZ24:Value} {odZ24 anZ24:Option Addr} {slZ24:Array (Option Value)}
    {fZ37:Addr} {ocZ37 kVZ37 dcZ37 pmZ37 cdZ37 ctZ37:Value} {odZ37 anZ37:Option Addr} {slZ37:Array (Option Value)}
    {fZ18:Addr} {ocZ18 kVZ18 dcZ18 pmZ18 cdZ18 ctZ18:Value} {odZ18 anZ18:Option Addr} {slZ18:Array (Option Value)}
    {fZ10:Addr} {ocZ10 kVZ10 dcZ10 pmZ10 cdZ10 ctZ10:Value} {odZ10 anZ10:Option Addr} {slZ10:Array (Option Value)}
    {fZ25:Addr} {ocZ25 kVZ25 dcZ25 pmZ25 cdZ25 ctZ25:Value} {odZ25 anZ25:Option Addr} {slZ25:Array (Option Value)}
    {fZ19:Addr} {ocZ19 kVZ19 dcZ19 pmZ19 cdZ19 ctZ19:Value} {odZ19 anZ19:Option Addr} {slZ19:Array (Option Value)}
    {fZ26:Addr} {ocZ26 kVZ26 dcZ26 pmZ26 cdZ26 ctZ26:Value} {odZ26 anZ26:Option Addr} {slZ26:Array (Option Value)}
    {fZ0:Addr} {ocZ0 kVZ0 dcZ0 pmZ0 cdZ0 ctZ0:Value} {odZ0 anZ0:Option Addr} {slZ0:Array (Option Value)}
    {fZ4:Addr} {ocZ4 kVZ4 dcZ4 pmZ4 cdZ4 ctZ4:Value} {odZ4 anZ4:Option Addr} {slZ4:Array (Option Value)}
    {fZ5:Addr} {ocZ5 kVZ5 dcZ5 pmZ5 cdZ5 ctZ5:Value} {odZ5 anZ5:Option Addr} {slZ5:Array (Option Value)}
    {fZ6:Addr} {ocZ6 kVZ6 dcZ6 pmZ6 cdZ6 ctZ6:Value} {odZ6 anZ6:Option Addr} {slZ6:Array (Option Value)}
    {fZ2:Addr} {ocZ2 kVZ2 dcZ2 pmZ2 cdZ2 ctZ2:Value} {odZ2 anZ2:Option Addr} {slZ2:Array (Option Value)}
    {fZ3:Addr} {ocZ3 kVZ3 dcZ3 pmZ3 cdZ3 ctZ3:Value} {odZ3 anZ3:Option Addr} {slZ3:Array (Option Value)}
    {fZ38:Addr} {ocZ38 kVZ38 dcZ38 pmZ38 cdZ38 ctZ38:Value} {odZ38 anZ38:Option Addr} {slZ38:Array (Option Value)}
    {fZ11:Addr} {ocZ11 kVZ11 dcZ11 pmZ11 cdZ11 ctZ11:Value} {odZ11 anZ11:Option Addr} {slZ11:Array (Option Value)}
    {fZ27:Addr} {ocZ27 kVZ27 dcZ27 pmZ27 cdZ27 ctZ27:Value} {odZ27 anZ27:Option Addr} {slZ27:Array (Option Value)}
    {fZ28:Addr} {ocZ28 kVZ28 dcZ28 pmZ28 cdZ28 ctZ28:Value} {odZ28 anZ28:Option Addr} {slZ28:Array (Option Value)}
    {fZ29:Addr} {ocZ29 kVZ29 dcZ29 pmZ29 cdZ29 ctZ29:Value} {odZ29 anZ29:Option Addr} {slZ29:Array (Option Value)}
    {fZ30:Addr} {ocZ30 kVZ30 dcZ30 pmZ30 cdZ30 ctZ30:Value} {odZ30 anZ30:Option Addr} {slZ30:Array (Option Value)}
    {fZ51:Addr} {ocZ51 kVZ51 dcZ51 pmZ51 cdZ51 ctZ51:Value} {odZ51 anZ51:Option Addr} {slZ51:Array (Option Value)}
    {fZ39:Addr} {ocZ39 kVZ39 dcZ39 pmZ39 cdZ39 ctZ39:Value} {odZ39 anZ39:Option Addr} {slZ39:Array (Option Value)}
    {fZ40:Addr} {ocZ40 kVZ40 dcZ40 pmZ40 cdZ40 ctZ40:Value} {odZ40 anZ40:Option Addr} {slZ40:Array (Option Value)}
    {fZ41:Addr} {ocZ41 kVZ41 dcZ41 pmZ41 cdZ41 ctZ41:Value} {odZ41 anZ41:Option Addr} {slZ41:Array (Option Value)}
    {fZ46:Addr} {ocZ46 kVZ46 dcZ46 pmZ46 cdZ46 ctZ46:Value} {odZ46 anZ46:Option Addr} {slZ46:Array (Option Value)}
    {fZ20:Addr} {ocZ20 kVZ20 dcZ20 pmZ20 cdZ20 ctZ20:Value} {odZ20 anZ20:Option Addr} {slZ20:Array (Option Value)}
    {fZ31:Addr} {ocZ31 kVZ31 dcZ31 pmZ31 cdZ31 ctZ31:Value} {odZ31 anZ31:Option Addr} {slZ31:Array (Option Value)}
    {fZ32:Addr} {ocZ32 kVZ32 dcZ32 pmZ32 cdZ32 ctZ32:Value} {odZ32 anZ32:Option Addr} {slZ32:Array (Option Value)}
    {fZ42:Addr} {ocZ42 kVZ42 dcZ42 pmZ42 cdZ42 ctZ42:Value} {odZ42 anZ42:Option Addr} {slZ42:Array (Option Value)}
    {fZ33:Addr} {ocZ33 kVZ33 dcZ33 pmZ33 cdZ33 ctZ33:Value} {odZ33 anZ33:Option Addr} {slZ33:Array (Option Value)}
    {fZ8:Addr} {ocZ8 kVZ8 dcZ8 pmZ8 cdZ8 ctZ8:Value} {odZ8 anZ8:Option Addr} {slZ8:Array (Option Value)}
    {fZ47:Addr} {ocZ47 kVZ47 dcZ47 pmZ47 cdZ47 ctZ47:Value} {odZ47 anZ47:Option Addr} {slZ47:Array (Option Value)}
    {fZ34:Addr} {ocZ34 kVZ34 dcZ34 pmZ34 cdZ34 ctZ34:Value} {odZ34 anZ34:Option Addr} {slZ34:Array (Option Value)}
    {fZ35:Addr} {ocZ35 kVZ35 dcZ35 pmZ35 cdZ35 ctZ35:Value} {odZ35 anZ35:Option Addr} {slZ35:Array (Option Value)}
    {fZ12:Addr} {ocZ12 kVZ12 dcZ12 pmZ12 cdZ12 ctZ12:Value} {odZ12 anZ12:Option Addr} {slZ12:Array (Option Value)}
    {fZ9:Addr} {ocZ9 kVZ9 dcZ9 pmZ9 cdZ9 ctZ9:Value} {odZ9 anZ9:Option Addr} {slZ9:Array (Option Value)}
    {fZ43:Addr} {ocZ43 kVZ43 dcZ43 pmZ43 cdZ43 ctZ43:Value} {odZ43 anZ43:Option Addr} {slZ43:Array (Option Value)}
    {fZ44:Addr} {ocZ44 kVZ44 dcZ44 pmZ44 cdZ44 ctZ44:Value} {odZ44 anZ44:Option Addr} {slZ44:Array (Option Value)}
    {fZ21:Addr} {ocZ21 kVZ21 dcZ21 pmZ21 cdZ21 ctZ21:Value} {odZ21 anZ21:Option Addr} {slZ21:Array (Option Value)}
    {fZ48:Addr} {ocZ48 kVZ48 dcZ48 pmZ48 cdZ48 ctZ48:Value} {odZ48 anZ48:Option Addr} {slZ48:Array (Option Value)}
    {fZ13:Addr} {ocZ13 kVZ13 dcZ13 pmZ13 cdZ13 ctZ13:Value} {odZ13 anZ13:Option Addr} {slZ13:Array (Option Value)}
    {fZ52:Addr} {ocZ52 kVZ52 dcZ52 pmZ52 cdZ52 ctZ52:Value} {odZ52 anZ52:Option Addr} {slZ52:Array (Option Value)}
    {t_PLENTY:Tok}
    {t_MOST_NODES:Tok}
    {t_MOST_LINES:Tok}
    {t_MOST_FREE:Tok}
    {t_NO_SUCH_NODE:Tok}
    {t_OUT_OF_RANGE:Tok}
    {t_NOT_THAT_KIND:Tok}
    {t_NO_MORE_ROOM:Tok}
    {t_NO_SUCH_LINE:Tok}
    {t_THERE_TWICE:Tok}
    {t_JOINED_ALREADY:Tok}
    {t_BADLY_TOLD_WAYS:Tok}
    {t_NOTHING_WRONG:Tok}
    {t_NO_BASE_AT_ITS_BEGINNING:Tok}
    {t_NO_GOAL_AT_ITS_END:Tok}
    {t_NOT_JOINED:Tok}
    {t_SAME_NODE_AGAIN:Tok}
    {t_NO_WAY_THROUGH:Tok}
    {d_CALLS:Addr} {ep_CALLS:Nat}
    {qY0:Tok} {tpY0:Addr} {tdY0:Option Addr} {tnY0:Nat} {tslY0:Array (Option Value)}
    {qY1:Tok} {tpY1:Addr} {tdY1:Option Addr} {tnY1:Nat} {tslY1:Array (Option Value)}
    {qY2:Tok} {tpY2:Addr} {tdY2:Option Addr} {tnY2:Nat} {tslY2:Array (Option Value)}
    {qY3:Tok} {tpY3:Addr} {tdY3:Option Addr} {tnY3:Nat} {tslY3:Array (Option Value)}
    {qY4:Tok} {tpY4:Addr} {tdY4:Option Addr} {tnY4:Nat} {tslY4:Array (Option Value)}
    {qY5:Tok} {tpY5:Addr} {tdY5:Option Addr} {tnY5:Nat} {tslY5:Array (Option Value)}
    {qY6:Tok} {tpY6:Addr} {tdY6:Option Addr} {tnY6:Nat} {tslY6:Array (Option Value)}
    {qY7:Tok} {tpY7:Addr} {tdY7:Option Addr} {tnY7:Nat} {tslY7:Array (Option Value)}
    {qY8:Tok} {tpY8:Addr} {tdY8:Option Addr} {tnY8:Nat} {tslY8:Array (Option Value)}
    {qY9:Tok} {tpY9:Addr} {tdY9:Option Addr} {tnY9:Nat} {tslY9:Array (Option Value)}
    {qY10:Tok} {tpY10:Addr} {tdY10:Option Addr} {tnY10:Nat} {tslY10:Array (Option Value)}
    {qY11:Tok} {tpY11:Addr} {tdY11:Option Addr} {tnY11:Nat} {tslY11:Array (Option Value)}
    {qY12:Tok} {tpY12:Addr} {tdY12:Option Addr} {tnY12:Nat} {tslY12:Array (Option Value)}
    {qY13:Tok} {tpY13:Addr} {tdY13:Option Addr} {tnY13:Nat} {tslY13:Array (Option Value)}
    {qY14:Tok} {tpY14:Addr} {tdY14:Option Addr} {tnY14:Nat} {tslY14:Array (Option Value)}
    {qY15:Tok} {tpY15:Addr} {tdY15:Option Addr} {tnY15:Nat} {tslY15:Array (Option Value)}
    {qY16:Tok} {tpY16:Addr} {tdY16:Option Addr} {tnY16:Nat} {tslY16:Array (Option Value)}
    {qY17:Tok} {tpY17:Addr} {tdY17:Option Addr} {tnY17:Nat} {tslY17:Array (Option Value)}
    {wY0_0:Tok}
    {wY0_1:Tok}
    {wY1_0:Tok}
    {wY1_1:Tok}
    {wY2_0:Tok}
    {wY2_1:Tok}
    {wY3_0:Tok}
    {wY3_1:Tok}
    {wY4_0:Tok}
    {wY4_1:Tok}
    {wY5_0:Tok}
    {wY5_1:Tok}
    {wY6_0:Tok}
    {wY6_1:Tok}
    {wY7_0:Tok}
    {wY7_1:Tok}
    {wY8_0:Tok}
    {wY8_1:Tok}
    {wY9_0:Tok}
    {wY9_1:Tok}
    {wY10_0:Tok}
    {wY10_1:Tok}
    {wY11_0:Tok}
    {wY11_1:Tok}
    {wY12_0:Tok}
    {wY12_1:Tok}
    {wY13_0:Tok}
    {wY13_1:Tok}
    {wY14_0:Tok}
    {wY14_1:Tok}
    {wY15_0:Tok}
    {wY15_1:Tok}
    {wY16_0:Tok}
    {wY16_1:Tok}
    {wY17_0:Tok}
    {wY17_1:Tok}
    (p_ac_Flow:PySem.W.nsIn K mainGlobals "Flow"=some (some (.ref c_Flow)))
    (p_ac_Node:PySem.W.nsIn K mainGlobals "Node"=some (some (.ref c_Node)))
    (p_ac_Network:PySem.W.nsIn K mainGlobals "Network"=some (some (.ref c_Network)))
    (paZ14:PySem.W.findIn K (.ref c_Flow) "__init__"=some (some (.ref fZ14)))
    (piZ14:PySem.W.isFn K (.ref fZ14)=true)
    (plZ14:K.lookup fZ14=some ⟨ocZ14,odZ14,.func (PySem.W.fnOf "__init__" "Flow.__init__" (defArgs s_Flow___init__) (defBody s_Flow___init__) (defScope s_Flow___init__) .none kVZ14 dcZ14 pmZ14 anZ14 cdZ14 ctZ14),slZ14⟩)
    (pcZ14:PySem.W.codeIn K cdZ14 "Flow.__init__"=true)
    (pkZ14:PySem.W.keepIn K (.ref fZ14)=true)
    (paZ22:PySem.W.findIn K (.ref c_Flow) "add_arc"=some (some (.ref fZ22)))
    (piZ22:PySem.W.isFn K (.ref fZ22)=true)
    (plZ22:K.lookup fZ22=some ⟨ocZ22,odZ22,.func (PySem.W.fnOf "add_arc" "Flow.add_arc" (defArgs s_Flow_add_arc) (defBody s_Flow_add_arc) (defScope s_Flow_add_arc) .none kVZ22 dcZ22 pmZ22 anZ22 cdZ22 ctZ22),slZ22⟩)
    (pcZ22:PySem.W.codeIn K cdZ22 "Flow.add_arc"=true)
    (pkZ22:PySem.W.keepIn K (.ref fZ22)=true)
    (paZ1:PySem.W.findIn K (.ref c_Flow) "arcs_with_room"=some (some (.ref fZ1)))
    (piZ1:PySem.W.isFn K (.ref fZ1)=true)
    (plZ1:K.lookup fZ1=some ⟨ocZ1,odZ1,.func (PySem.W.fnOf "arcs_with_room" "Flow.arcs_with_room" (defArgs s_Flow_arcs_with_room) (defBody s_Flow_arcs_with_room) (defScope s_Flow_arcs_with_room) .none kVZ1 dcZ1 pmZ1 anZ1 cdZ1 ctZ1),slZ1⟩)
    (pcZ1:PySem.W.codeIn K cdZ1 "Flow.arcs_with_room"=true)
    (pkZ1:PySem.W.keepIn K (.ref fZ1)=true)
    (paZ7:PySem.W.findIn K (.ref c_Flow) "push_along"=some (some (.ref fZ7)))
    (piZ7:PySem.W.isFn K (.ref fZ7)=true)
    (plZ7:K.lookup fZ7=some ⟨ocZ7,odZ7,.func (PySem.W.fnOf "push_along" "Flow.push_along" (defArgs s_Flow_push_along) (defBody s_Flow_push_along) (defScope s_Flow_push_along) .none kVZ7 dcZ7 pmZ7 anZ7 cdZ7 ctZ7),slZ7⟩)
    (pcZ7:PySem.W.codeIn K cdZ7 "Flow.push_along"=true)
    (pkZ7:PySem.W.keepIn K (.ref fZ7)=true)
    (paZ49:PySem.W.findIn K (.ref c_Flow) "most"=some (some (.ref fZ49)))
    (piZ49:PySem.W.isFn K (.ref fZ49)=true)
    (plZ49:K.lookup fZ49=some ⟨ocZ49,odZ49,.func (PySem.W.fnOf "most" "Flow.most" (defArgs s_Flow_most) (defBody s_Flow_most) (defScope s_Flow_most) .none kVZ49 dcZ49 pmZ49 anZ49 cdZ49 ctZ49),slZ49⟩)
    (pcZ49:PySem.W.codeIn K cdZ49 "Flow.most"=true)
    (pkZ49:PySem.W.keepIn K (.ref fZ49)=true)
    (paZ15:PySem.W.nsIn K mainGlobals "nodes_come_to"=some (some (.ref fZ15)))
    (plZ15:K.lookup fZ15=some ⟨ocZ15,odZ15,.func (PySem.W.fnOf "nodes_come_to" "nodes_come_to" (defArgs s_nodes_come_to) (defBody s_nodes_come_to) (defScope s_nodes_come_to) .none kVZ15 dcZ15 pmZ15 anZ15 cdZ15 ctZ15),slZ15⟩)
    (pcZ15:PySem.W.codeIn K cdZ15 "nodes_come_to"=true)
    (pkZ15:PySem.W.keepIn K (.ref fZ15)=true)
    (paZ16:PySem.W.nsIn K mainGlobals "reached_nodes"=some (some (.ref fZ16)))
    (plZ16:K.lookup fZ16=some ⟨ocZ16,odZ16,.func (PySem.W.fnOf "reached_nodes" "reached_nodes" (defArgs s_reached_nodes) (defBody s_reached_nodes) (defScope s_reached_nodes) .none kVZ16 dcZ16 pmZ16 anZ16 cdZ16 ctZ16),slZ16⟩)
    (pcZ16:PySem.W.codeIn K cdZ16 "reached_nodes"=true)
    (pkZ16:PySem.W.keepIn K (.ref fZ16)=true)
    (paZ23:PySem.W.nsIn K mainGlobals "needed_nodes"=some (some (.ref fZ23)))
    (plZ23:K.lookup fZ23=some ⟨ocZ23,odZ23,.func (PySem.W.fnOf "needed_nodes" "needed_nodes" (defArgs s_needed_nodes) (defBody s_needed_nodes) (defScope s_needed_nodes) .none kVZ23 dcZ23 pmZ23 anZ23 cdZ23 ctZ23),slZ23⟩)
    (pcZ23:PySem.W.codeIn K cdZ23 "needed_nodes"=true)
    (pkZ23:PySem.W.keepIn K (.ref fZ23)=true)
    (paZ45:PySem.W.nsIn K mainGlobals "is_cut_off"=some (some (.ref fZ45)))
    (plZ45:K.lookup fZ45=some ⟨ocZ45,odZ45,.func (PySem.W.fnOf "is_cut_off" "is_cut_off" (defArgs s_is_cut_off) (defBody s_is_cut_off) (defScope s_is_cut_off) .none kVZ45 dcZ45 pmZ45 anZ45 cdZ45 ctZ45),slZ45⟩)
    (pcZ45:PySem.W.codeIn K cdZ45 "is_cut_off"=true)
    (pkZ45:PySem.W.keepIn K (.ref fZ45)=true)
    (paZ17:PySem.W.nsIn K mainGlobals "stops_to_fill"=some (some (.ref fZ17)))
    (plZ17:K.lookup fZ17=some ⟨ocZ17,odZ17,.func (PySem.W.fnOf "stops_to_fill" "stops_to_fill" (defArgs s_stops_to_fill) (defBody s_stops_to_fill) (defScope s_stops_to_fill) .none kVZ17 dcZ17 pmZ17 anZ17 cdZ17 ctZ17),slZ17⟩)
    (pcZ17:PySem.W.codeIn K cdZ17 "stops_to_fill"=true)
    (pkZ17:PySem.W.keepIn K (.ref fZ17)=true)
    (paZ50:PySem.W.nsIn K mainGlobals "room_at"=some (some (.ref fZ50)))
    (plZ50:K.lookup fZ50=some ⟨ocZ50,odZ50,.func (PySem.W.fnOf "room_at" "room_at" (defArgs s_room_at) (defBody s_room_at) (defScope s_room_at) .none kVZ50 dcZ50 pmZ50 anZ50 cdZ50 ctZ50),slZ50⟩)
    (pcZ50:PySem.W.codeIn K cdZ50 "room_at"=true)
    (pkZ50:PySem.W.keepIn K (.ref fZ50)=true)
    (paZ36:PySem.W.nsIn K mainGlobals "least_price"=some (some (.ref fZ36)))
    (plZ36:K.lookup fZ36=some ⟨ocZ36,odZ36,.func (PySem.W.fnOf "least_price" "least_price" (defArgs s_least_price) (defBody s_least_price) (defScope s_least_price) .none kVZ36 dcZ36 pmZ36 anZ36 cdZ36 ctZ36),slZ36⟩)
    (pcZ36:PySem.W.codeIn K cdZ36 "least_price"=true)
    (pkZ36:PySem.W.keepIn K (.ref fZ36)=true)
    (paZ24:PySem.W.nsIn K mainGlobals "least_number"=some (some (.ref fZ24)))
    (plZ24:K.lookup fZ24=some ⟨ocZ24,odZ24,.func (PySem.W.fnOf "least_number" "least_number" (defArgs s_least_number) (defBody s_least_number) (defScope s_least_number) .none kVZ24 dcZ24 pmZ24 anZ24 cdZ24 ctZ24),slZ24⟩)
    (pcZ24:PySem.W.codeIn K cdZ24 "least_number"=true)
    (pkZ24:PySem.W.keepIn K (.ref fZ24)=true)
    (paZ37:PySem.W.nsIn K mainGlobals "tight_stops"=some (some (.ref fZ37)))
    (plZ37:K.lookup fZ37=some ⟨ocZ37,odZ37,.func (PySem.W.fnOf "tight_stops" "tight_stops" (defArgs s_tight_stops) (defBody s_tight_stops) (defScope s_tight_stops) .none kVZ37 dcZ37 pmZ37 anZ37 cdZ37 ctZ37),slZ37⟩)
    (pcZ37:PySem.W.codeIn K cdZ37 "tight_stops"=true)
    (pkZ37:PySem.W.keepIn K (.ref fZ37)=true)
    (paZ18:PySem.W.nsIn K mainGlobals "nearest_stops"=some (some (.ref fZ18)))
    (plZ18:K.lookup fZ18=some ⟨ocZ18,odZ18,.func (PySem.W.fnOf "nearest_stops" "nearest_stops" (defArgs s_nearest_stops) (defBody s_nearest_stops) (defScope s_nearest_stops) .none kVZ18 dcZ18 pmZ18 anZ18 cdZ18 ctZ18),slZ18⟩)
    (pcZ18:PySem.W.codeIn K cdZ18 "nearest_stops"=true)
    (pkZ18:PySem.W.keepIn K (.ref fZ18)=true)
    (paZ10:PySem.W.nsIn K mainGlobals "furthest_stops"=some (some (.ref fZ10)))
    (plZ10:K.lookup fZ10=some ⟨ocZ10,odZ10,.func (PySem.W.fnOf "furthest_stops" "furthest_stops" (defArgs s_furthest_stops) (defBody s_furthest_stops) (defScope s_furthest_stops) .none kVZ10 dcZ10 pmZ10 anZ10 cdZ10 ctZ10),slZ10⟩)
    (pcZ10:PySem.W.codeIn K cdZ10 "furthest_stops"=true)
    (pkZ10:PySem.W.keepIn K (.ref fZ10)=true)
    (paZ25:PySem.W.nsIn K mainGlobals "weakest_stop"=some (some (.ref fZ25)))
    (plZ25:K.lookup fZ25=some ⟨ocZ25,odZ25,.func (PySem.W.fnOf "weakest_stop" "weakest_stop" (defArgs s_weakest_stop) (defBody s_weakest_stop) (defScope s_weakest_stop) .none kVZ25 dcZ25 pmZ25 anZ25 cdZ25 ctZ25),slZ25⟩)
    (pcZ25:PySem.W.codeIn K cdZ25 "weakest_stop"=true)
    (pkZ25:PySem.W.keepIn K (.ref fZ25)=true)
    (paZ19:PySem.W.findIn K (.ref c_Node) "__init__"=some (some (.ref fZ19)))
    (piZ19:PySem.W.isFn K (.ref fZ19)=true)
    (plZ19:K.lookup fZ19=some ⟨ocZ19,odZ19,.func (PySem.W.fnOf "__init__" "Node.__init__" (defArgs s_Node___init__) (defBody s_Node___init__) (defScope s_Node___init__) .none kVZ19 dcZ19 pmZ19 anZ19 cdZ19 ctZ19),slZ19⟩)
    (pcZ19:PySem.W.codeIn K cdZ19 "Node.__init__"=true)
    (pkZ19:PySem.W.keepIn K (.ref fZ19)=true)
    (paZ26:PySem.W.findIn K (.ref c_Node) "is_shut"=some (some (.ref fZ26)))
    (piZ26:PySem.W.isFn K (.ref fZ26)=true)
    (plZ26:K.lookup fZ26=some ⟨ocZ26,odZ26,.func (PySem.W.fnOf "is_shut" "Node.is_shut" (defArgs s_Node_is_shut) (defBody s_Node_is_shut) (defScope s_Node_is_shut) .none kVZ26 dcZ26 pmZ26 anZ26 cdZ26 ctZ26),slZ26⟩)
    (pcZ26:PySem.W.codeIn K cdZ26 "Node.is_shut"=true)
    (pkZ26:PySem.W.keepIn K (.ref fZ26)=true)
    (paZ0:PySem.W.findIn K (.ref c_Node) "is_open_to_strangers"=some (some (.ref fZ0)))
    (piZ0:PySem.W.isFn K (.ref fZ0)=true)
    (plZ0:K.lookup fZ0=some ⟨ocZ0,odZ0,.func (PySem.W.fnOf "is_open_to_strangers" "Node.is_open_to_strangers" (defArgs s_Node_is_open_to_strangers) (defBody s_Node_is_open_to_strangers) (defScope s_Node_is_open_to_strangers) .none kVZ0 dcZ0 pmZ0 anZ0 cdZ0 ctZ0),slZ0⟩)
    (pcZ0:PySem.W.codeIn K cdZ0 "Node.is_open_to_strangers"=true)
    (pkZ0:PySem.W.keepIn K (.ref fZ0)=true)
    (paZ4:PySem.W.findIn K (.ref c_Network) "__init__"=some (some (.ref fZ4)))
    (piZ4:PySem.W.isFn K (.ref fZ4)=true)
    (plZ4:K.lookup fZ4=some ⟨ocZ4,odZ4,.func (PySem.W.fnOf "__init__" "Network.__init__" (defArgs s_Network___init__) (defBody s_Network___init__) (defScope s_Network___init__) .none kVZ4 dcZ4 pmZ4 anZ4 cdZ4 ctZ4),slZ4⟩)
    (pcZ4:PySem.W.codeIn K cdZ4 "Network.__init__"=true)
    (pkZ4:PySem.W.keepIn K (.ref fZ4)=true)
    (paZ5:PySem.W.findIn K (.ref c_Network) "has_node"=some (some (.ref fZ5)))
    (piZ5:PySem.W.isFn K (.ref fZ5)=true)
    (plZ5:K.lookup fZ5=some ⟨ocZ5,odZ5,.func (PySem.W.fnOf "has_node" "Network.has_node" (defArgs s_Network_has_node) (defBody s_Network_has_node) (defScope s_Network_has_node) .none kVZ5 dcZ5 pmZ5 anZ5 cdZ5 ctZ5),slZ5⟩)
    (pcZ5:PySem.W.codeIn K cdZ5 "Network.has_node"=true)
    (pkZ5:PySem.W.keepIn K (.ref fZ5)=true)
    (paZ6:PySem.W.findIn K (.ref c_Network) "has_line"=some (some (.ref fZ6)))
    (piZ6:PySem.W.isFn K (.ref fZ6)=true)
    (plZ6:K.lookup fZ6=some ⟨ocZ6,odZ6,.func (PySem.W.fnOf "has_line" "Network.has_line" (defArgs s_Network_has_line) (defBody s_Network_has_line) (defScope s_Network_has_line) .none kVZ6 dcZ6 pmZ6 anZ6 cdZ6 ctZ6),slZ6⟩)
    (pcZ6:PySem.W.codeIn K cdZ6 "Network.has_line"=true)
    (pkZ6:PySem.W.keepIn K (.ref fZ6)=true)
    (paZ2:PySem.W.findIn K (.ref c_Network) "are_joined"=some (some (.ref fZ2)))
    (piZ2:PySem.W.isFn K (.ref fZ2)=true)
    (plZ2:K.lookup fZ2=some ⟨ocZ2,odZ2,.func (PySem.W.fnOf "are_joined" "Network.are_joined" (defArgs s_Network_are_joined) (defBody s_Network_are_joined) (defScope s_Network_are_joined) .none kVZ2 dcZ2 pmZ2 anZ2 cdZ2 ctZ2),slZ2⟩)
    (pcZ2:PySem.W.codeIn K cdZ2 "Network.are_joined"=true)
    (pkZ2:PySem.W.keepIn K (.ref fZ2)=true)
    (paZ3:PySem.W.findIn K (.ref c_Network) "neighbours"=some (some (.ref fZ3)))
    (piZ3:PySem.W.isFn K (.ref fZ3)=true)
    (plZ3:K.lookup fZ3=some ⟨ocZ3,odZ3,.func (PySem.W.fnOf "neighbours" "Network.neighbours" (defArgs s_Network_neighbours) (defBody s_Network_neighbours) (defScope s_Network_neighbours) .none kVZ3 dcZ3 pmZ3 anZ3 cdZ3 ctZ3),slZ3⟩)
    (pcZ3:PySem.W.codeIn K cdZ3 "Network.neighbours"=true)
    (pkZ3:PySem.W.keepIn K (.ref fZ3)=true)
    (paZ38:PySem.W.nsIn K mainGlobals "ways_of_row"=some (some (.ref fZ38)))
    (plZ38:K.lookup fZ38=some ⟨ocZ38,odZ38,.func (PySem.W.fnOf "ways_of_row" "ways_of_row" (defArgs s_ways_of_row) (defBody s_ways_of_row) (defScope s_ways_of_row) .none kVZ38 dcZ38 pmZ38 anZ38 cdZ38 ctZ38),slZ38⟩)
    (pcZ38:PySem.W.codeIn K cdZ38 "ways_of_row"=true)
    (pkZ38:PySem.W.keepIn K (.ref fZ38)=true)
    (paZ11:PySem.W.nsIn K mainGlobals "begins_at_base"=some (some (.ref fZ11)))
    (plZ11:K.lookup fZ11=some ⟨ocZ11,odZ11,.func (PySem.W.fnOf "begins_at_base" "begins_at_base" (defArgs s_begins_at_base) (defBody s_begins_at_base) (defScope s_begins_at_base) .none kVZ11 dcZ11 pmZ11 anZ11 cdZ11 ctZ11),slZ11⟩)
    (pcZ11:PySem.W.codeIn K cdZ11 "begins_at_base"=true)
    (pkZ11:PySem.W.keepIn K (.ref fZ11)=true)
    (paZ27:PySem.W.nsIn K mainGlobals "lets_through"=some (some (.ref fZ27)))
    (plZ27:K.lookup fZ27=some ⟨ocZ27,odZ27,.func (PySem.W.fnOf "lets_through" "lets_through" (defArgs s_lets_through) (defBody s_lets_through) (defScope s_lets_through) .none kVZ27 dcZ27 pmZ27 anZ27 cdZ27 ctZ27),slZ27⟩)
    (pcZ27:PySem.W.codeIn K cdZ27 "lets_through"=true)
    (pkZ27:PySem.W.keepIn K (.ref fZ27)=true)
    (paZ28:PySem.W.nsIn K mainGlobals "wrong_of_way"=some (some (.ref fZ28)))
    (plZ28:K.lookup fZ28=some ⟨ocZ28,odZ28,.func (PySem.W.fnOf "wrong_of_way" "wrong_of_way" (defArgs s_wrong_of_way) (defBody s_wrong_of_way) (defScope s_wrong_of_way) .none kVZ28 dcZ28 pmZ28 anZ28 cdZ28 ctZ28),slZ28⟩)
    (pcZ28:PySem.W.codeIn K cdZ28 "wrong_of_way"=true)
    (pkZ28:PySem.W.keepIn K (.ref fZ28)=true)
    (paZ29:PySem.W.nsIn K mainGlobals "crowded_stop"=some (some (.ref fZ29)))
    (plZ29:K.lookup fZ29=some ⟨ocZ29,odZ29,.func (PySem.W.fnOf "crowded_stop" "crowded_stop" (defArgs s_crowded_stop) (defBody s_crowded_stop) (defScope s_crowded_stop) .none kVZ29 dcZ29 pmZ29 anZ29 cdZ29 ctZ29),slZ29⟩)
    (pcZ29:PySem.W.codeIn K cdZ29 "crowded_stop"=true)
    (pkZ29:PySem.W.keepIn K (.ref fZ29)=true)
    (paZ30:PySem.W.nsIn K mainGlobals "are_in_range"=some (some (.ref fZ30)))
    (plZ30:K.lookup fZ30=some ⟨ocZ30,odZ30,.func (PySem.W.fnOf "are_in_range" "are_in_range" (defArgs s_are_in_range) (defBody s_are_in_range) (defScope s_are_in_range) .none kVZ30 dcZ30 pmZ30 anZ30 cdZ30 ctZ30),slZ30⟩)
    (pcZ30:PySem.W.codeIn K cdZ30 "are_in_range"=true)
    (pkZ30:PySem.W.keepIn K (.ref fZ30)=true)
    (paZ51:PySem.W.nsIn K mainGlobals "counted"=some (some (.ref fZ51)))
    (plZ51:K.lookup fZ51=some ⟨ocZ51,odZ51,.func (PySem.W.fnOf "counted" "counted" (defArgs s_counted) (defBody s_counted) (defScope s_counted) .none kVZ51 dcZ51 pmZ51 anZ51 cdZ51 ctZ51),slZ51⟩)
    (pcZ51:PySem.W.codeIn K cdZ51 "counted"=true)
    (pkZ51:PySem.W.keepIn K (.ref fZ51)=true)
    (paZ39:PySem.W.nsIn K mainGlobals "row_refusal"=some (some (.ref fZ39)))
    (plZ39:K.lookup fZ39=some ⟨ocZ39,odZ39,.func (PySem.W.fnOf "row_refusal" "row_refusal" (defArgs s_row_refusal) (defBody s_row_refusal) (defScope s_row_refusal) .none kVZ39 dcZ39 pmZ39 anZ39 cdZ39 ctZ39),slZ39⟩)
    (pcZ39:PySem.W.codeIn K cdZ39 "row_refusal"=true)
    (pkZ39:PySem.W.keepIn K (.ref fZ39)=true)
    (paZ40:PySem.W.nsIn K mainGlobals "answer_node"=some (some (.ref fZ40)))
    (plZ40:K.lookup fZ40=some ⟨ocZ40,odZ40,.func (PySem.W.fnOf "answer_node" "answer_node" (defArgs s_answer_node) (defBody s_answer_node) (defScope s_answer_node) .none kVZ40 dcZ40 pmZ40 anZ40 cdZ40 ctZ40),slZ40⟩)
    (pcZ40:PySem.W.codeIn K cdZ40 "answer_node"=true)
    (pkZ40:PySem.W.keepIn K (.ref fZ40)=true)
    (paZ41:PySem.W.nsIn K mainGlobals "answer_line"=some (some (.ref fZ41)))
    (plZ41:K.lookup fZ41=some ⟨ocZ41,odZ41,.func (PySem.W.fnOf "answer_line" "answer_line" (defArgs s_answer_line) (defBody s_answer_line) (defScope s_answer_line) .none kVZ41 dcZ41 pmZ41 anZ41 cdZ41 ctZ41),slZ41⟩)
    (pcZ41:PySem.W.codeIn K cdZ41 "answer_line"=true)
    (pkZ41:PySem.W.keepIn K (.ref fZ41)=true)
    (paZ46:PySem.W.nsIn K mainGlobals "answer_set"=some (some (.ref fZ46)))
    (plZ46:K.lookup fZ46=some ⟨ocZ46,odZ46,.func (PySem.W.fnOf "answer_set" "answer_set" (defArgs s_answer_set) (defBody s_answer_set) (defScope s_answer_set) .none kVZ46 dcZ46 pmZ46 anZ46 cdZ46 ctZ46),slZ46⟩)
    (pcZ46:PySem.W.codeIn K cdZ46 "answer_set"=true)
    (pkZ46:PySem.W.keepIn K (.ref fZ46)=true)
    (paZ20:PySem.W.nsIn K mainGlobals "answer_unline"=some (some (.ref fZ20)))
    (plZ20:K.lookup fZ20=some ⟨ocZ20,odZ20,.func (PySem.W.fnOf "answer_unline" "answer_unline" (defArgs s_answer_unline) (defBody s_answer_unline) (defScope s_answer_unline) .none kVZ20 dcZ20 pmZ20 anZ20 cdZ20 ctZ20),slZ20⟩)
    (pcZ20:PySem.W.codeIn K cdZ20 "answer_unline"=true)
    (pkZ20:PySem.W.keepIn K (.ref fZ20)=true)
    (paZ31:PySem.W.nsIn K mainGlobals "answer_clear"=some (some (.ref fZ31)))
    (plZ31:K.lookup fZ31=some ⟨ocZ31,odZ31,.func (PySem.W.fnOf "answer_clear" "answer_clear" (defArgs s_answer_clear) (defBody s_answer_clear) (defScope s_answer_clear) .none kVZ31 dcZ31 pmZ31 anZ31 cdZ31 ctZ31),slZ31⟩)
    (pcZ31:PySem.W.codeIn K cdZ31 "answer_clear"=true)
    (pkZ31:PySem.W.keepIn K (.ref fZ31)=true)
    (paZ32:PySem.W.nsIn K mainGlobals "answer_graph"=some (some (.ref fZ32)))
    (plZ32:K.lookup fZ32=some ⟨ocZ32,odZ32,.func (PySem.W.fnOf "answer_graph" "answer_graph" (defArgs s_answer_graph) (defBody s_answer_graph) (defScope s_answer_graph) .none kVZ32 dcZ32 pmZ32 anZ32 cdZ32 ctZ32),slZ32⟩)
    (pcZ32:PySem.W.codeIn K cdZ32 "answer_graph"=true)
    (pkZ32:PySem.W.keepIn K (.ref fZ32)=true)
    (paZ42:PySem.W.nsIn K mainGlobals "answer_fill"=some (some (.ref fZ42)))
    (plZ42:K.lookup fZ42=some ⟨ocZ42,odZ42,.func (PySem.W.fnOf "answer_fill" "answer_fill" (defArgs s_answer_fill) (defBody s_answer_fill) (defScope s_answer_fill) .none kVZ42 dcZ42 pmZ42 anZ42 cdZ42 ctZ42),slZ42⟩)
    (pcZ42:PySem.W.codeIn K cdZ42 "answer_fill"=true)
    (pkZ42:PySem.W.keepIn K (.ref fZ42)=true)
    (paZ33:PySem.W.nsIn K mainGlobals "answer_reach"=some (some (.ref fZ33)))
    (plZ33:K.lookup fZ33=some ⟨ocZ33,odZ33,.func (PySem.W.fnOf "answer_reach" "answer_reach" (defArgs s_answer_reach) (defBody s_answer_reach) (defScope s_answer_reach) .none kVZ33 dcZ33 pmZ33 anZ33 cdZ33 ctZ33),slZ33⟩)
    (pcZ33:PySem.W.codeIn K cdZ33 "answer_reach"=true)
    (pkZ33:PySem.W.keepIn K (.ref fZ33)=true)
    (paZ8:PySem.W.nsIn K mainGlobals "answer_reach_if"=some (some (.ref fZ8)))
    (plZ8:K.lookup fZ8=some ⟨ocZ8,odZ8,.func (PySem.W.fnOf "answer_reach_if" "answer_reach_if" (defArgs s_answer_reach_if) (defBody s_answer_reach_if) (defScope s_answer_reach_if) .none kVZ8 dcZ8 pmZ8 anZ8 cdZ8 ctZ8),slZ8⟩)
    (pcZ8:PySem.W.codeIn K cdZ8 "answer_reach_if"=true)
    (pkZ8:PySem.W.keepIn K (.ref fZ8)=true)
    (paZ47:PySem.W.nsIn K mainGlobals "told_least"=some (some (.ref fZ47)))
    (plZ47:K.lookup fZ47=some ⟨ocZ47,odZ47,.func (PySem.W.fnOf "told_least" "told_least" (defArgs s_told_least) (defBody s_told_least) (defScope s_told_least) .none kVZ47 dcZ47 pmZ47 anZ47 cdZ47 ctZ47),slZ47⟩)
    (pcZ47:PySem.W.codeIn K cdZ47 "told_least"=true)
    (pkZ47:PySem.W.keepIn K (.ref fZ47)=true)
    (paZ34:PySem.W.nsIn K mainGlobals "answer_least"=some (some (.ref fZ34)))
    (plZ34:K.lookup fZ34=some ⟨ocZ34,odZ34,.func (PySem.W.fnOf "answer_least" "answer_least" (defArgs s_answer_least) (defBody s_answer_least) (defScope s_answer_least) .none kVZ34 dcZ34 pmZ34 anZ34 cdZ34 ctZ34),slZ34⟩)
    (pcZ34:PySem.W.codeIn K cdZ34 "answer_least"=true)
    (pkZ34:PySem.W.keepIn K (.ref fZ34)=true)
    (paZ35:PySem.W.nsIn K mainGlobals "answer_tight"=some (some (.ref fZ35)))
    (plZ35:K.lookup fZ35=some ⟨ocZ35,odZ35,.func (PySem.W.fnOf "answer_tight" "answer_tight" (defArgs s_answer_tight) (defBody s_answer_tight) (defScope s_answer_tight) .none kVZ35 dcZ35 pmZ35 anZ35 cdZ35 ctZ35),slZ35⟩)
    (pcZ35:PySem.W.codeIn K cdZ35 "answer_tight"=true)
    (pkZ35:PySem.W.keepIn K (.ref fZ35)=true)
    (paZ12:PySem.W.nsIn K mainGlobals "answer_nearest"=some (some (.ref fZ12)))
    (plZ12:K.lookup fZ12=some ⟨ocZ12,odZ12,.func (PySem.W.fnOf "answer_nearest" "answer_nearest" (defArgs s_answer_nearest) (defBody s_answer_nearest) (defScope s_answer_nearest) .none kVZ12 dcZ12 pmZ12 anZ12 cdZ12 ctZ12),slZ12⟩)
    (pcZ12:PySem.W.codeIn K cdZ12 "answer_nearest"=true)
    (pkZ12:PySem.W.keepIn K (.ref fZ12)=true)
    (paZ9:PySem.W.nsIn K mainGlobals "answer_furthest"=some (some (.ref fZ9)))
    (plZ9:K.lookup fZ9=some ⟨ocZ9,odZ9,.func (PySem.W.fnOf "answer_furthest" "answer_furthest" (defArgs s_answer_furthest) (defBody s_answer_furthest) (defScope s_answer_furthest) .none kVZ9 dcZ9 pmZ9 anZ9 cdZ9 ctZ9),slZ9⟩)
    (pcZ9:PySem.W.codeIn K cdZ9 "answer_furthest"=true)
    (pkZ9:PySem.W.keepIn K (.ref fZ9)=true)
    (paZ43:PySem.W.nsIn K mainGlobals "answer_cuts"=some (some (.ref fZ43)))
    (plZ43:K.lookup fZ43=some ⟨ocZ43,odZ43,.func (PySem.W.fnOf "answer_cuts" "answer_cuts" (defArgs s_answer_cuts) (defBody s_answer_cuts) (defScope s_answer_cuts) .none kVZ43 dcZ43 pmZ43 anZ43 cdZ43 ctZ43),slZ43⟩)
    (pcZ43:PySem.W.codeIn K cdZ43 "answer_cuts"=true)
    (pkZ43:PySem.W.keepIn K (.ref fZ43)=true)
    (paZ44:PySem.W.nsIn K mainGlobals "answer_ways"=some (some (.ref fZ44)))
    (plZ44:K.lookup fZ44=some ⟨ocZ44,odZ44,.func (PySem.W.fnOf "answer_ways" "answer_ways" (defArgs s_answer_ways) (defBody s_answer_ways) (defScope s_answer_ways) .none kVZ44 dcZ44 pmZ44 anZ44 cdZ44 ctZ44),slZ44⟩)
    (pcZ44:PySem.W.codeIn K cdZ44 "answer_ways"=true)
    (pkZ44:PySem.W.keepIn K (.ref fZ44)=true)
    (paZ21:PySem.W.nsIn K mainGlobals "answer_needed"=some (some (.ref fZ21)))
    (plZ21:K.lookup fZ21=some ⟨ocZ21,odZ21,.func (PySem.W.fnOf "answer_needed" "answer_needed" (defArgs s_answer_needed) (defBody s_answer_needed) (defScope s_answer_needed) .none kVZ21 dcZ21 pmZ21 anZ21 cdZ21 ctZ21),slZ21⟩)
    (pcZ21:PySem.W.codeIn K cdZ21 "answer_needed"=true)
    (pkZ21:PySem.W.keepIn K (.ref fZ21)=true)
    (paZ48:PySem.W.nsIn K mainGlobals "answer_all"=some (some (.ref fZ48)))
    (plZ48:K.lookup fZ48=some ⟨ocZ48,odZ48,.func (PySem.W.fnOf "answer_all" "answer_all" (defArgs s_answer_all) (defBody s_answer_all) (defScope s_answer_all) .none kVZ48 dcZ48 pmZ48 anZ48 cdZ48 ctZ48),slZ48⟩)
    (pcZ48:PySem.W.codeIn K cdZ48 "answer_all"=true)
    (pkZ48:PySem.W.keepIn K (.ref fZ48)=true)
    (paZ13:PySem.W.nsIn K mainGlobals "answer_weakest"=some (some (.ref fZ13)))
    (plZ13:K.lookup fZ13=some ⟨ocZ13,odZ13,.func (PySem.W.fnOf "answer_weakest" "answer_weakest" (defArgs s_answer_weakest) (defBody s_answer_weakest) (defScope s_answer_weakest) .none kVZ13 dcZ13 pmZ13 anZ13 cdZ13 ctZ13),slZ13⟩)
    (pcZ13:PySem.W.codeIn K cdZ13 "answer_weakest"=true)
    (pkZ13:PySem.W.keepIn K (.ref fZ13)=true)
    (paZ52:PySem.W.nsIn K mainGlobals "answers"=some (some (.ref fZ52)))
    (plZ52:K.lookup fZ52=some ⟨ocZ52,odZ52,.func (PySem.W.fnOf "answers" "answers" (defArgs s_answers) (defBody s_answers) (defScope s_answers) .none kVZ52 dcZ52 pmZ52 anZ52 cdZ52 ctZ52),slZ52⟩)
    (pcZ52:PySem.W.codeIn K cdZ52 "answers"=true)
    (pkZ52:PySem.W.keepIn K (.ref fZ52)=true)
    (p_pg_Flow:PySem.W.plainGet K c_Flow Str.empty=true)
    (p_hd_Flow:PySem.W.hasDictIn K c_Flow=true)
    (p_po_Flow:PySem.W.plainOver K c_Flow=true)
    (p_sa_Flow:PySem.W.findIn K (.ref c_Flow) "__setattr__"=some (some (.builtin "object.__setattr__")))
    (p_mk_Flow:PySem.W.makesIn K c_Flow=true)
    (p_kc_Flow:PySem.W.keepIn K (.ref c_Flow)=true)
    (p_na_Flow_leaving:PySem.W.findIn K (.ref c_Flow) "leaving"=some none)
    (p_na_Flow_heads:PySem.W.findIn K (.ref c_Flow) "heads"=some none)
    (p_na_Flow_room:PySem.W.findIn K (.ref c_Flow) "room"=some none)
    (p_pg_Node:PySem.W.plainGet K c_Node Str.empty=true)
    (p_hd_Node:PySem.W.hasDictIn K c_Node=true)
    (p_po_Node:PySem.W.plainOver K c_Node=true)
    (p_sa_Node:PySem.W.findIn K (.ref c_Node) "__setattr__"=some (some (.builtin "object.__setattr__")))
    (p_mk_Node:PySem.W.makesIn K c_Node=true)
    (p_kc_Node:PySem.W.keepIn K (.ref c_Node)=true)
    (p_na_Node_stop:PySem.W.findIn K (.ref c_Node) "stop"=some none)
    (p_na_Node_free:PySem.W.findIn K (.ref c_Node) "free"=some none)
    (p_na_Node_base:PySem.W.findIn K (.ref c_Node) "base"=some none)
    (p_pg_Network:PySem.W.plainGet K c_Network Str.empty=true)
    (p_hd_Network:PySem.W.hasDictIn K c_Network=true)
    (p_po_Network:PySem.W.plainOver K c_Network=true)
    (p_sa_Network:PySem.W.findIn K (.ref c_Network) "__setattr__"=some (some (.builtin "object.__setattr__")))
    (p_mk_Network:PySem.W.makesIn K c_Network=true)
    (p_kc_Network:PySem.W.keepIn K (.ref c_Network)=true)
    (p_na_Network_nodes:PySem.W.findIn K (.ref c_Network) "nodes"=some none)
    (p_na_Network_lines:PySem.W.findIn K (.ref c_Network) "lines"=some none)
    (p_g_PLENTY:PySem.W.nsIn K mainGlobals "PLENTY"=some (some (.int (97) t_PLENTY)))
    (p_g_MOST_NODES:PySem.W.nsIn K mainGlobals "MOST_NODES"=some (some (.int (24) t_MOST_NODES)))
    (p_g_MOST_LINES:PySem.W.nsIn K mainGlobals "MOST_LINES"=some (some (.int (48) t_MOST_LINES)))
    (p_g_MOST_FREE:PySem.W.nsIn K mainGlobals "MOST_FREE"=some (some (.int (4) t_MOST_FREE)))
    (p_g_NO_SUCH_NODE:PySem.W.nsIn K mainGlobals "NO_SUCH_NODE"=some (some (.int (-1) t_NO_SUCH_NODE)))
    (p_g_OUT_OF_RANGE:PySem.W.nsIn K mainGlobals "OUT_OF_RANGE"=some (some (.int (-2) t_OUT_OF_RANGE)))
    (p_g_NOT_THAT_KIND:PySem.W.nsIn K mainGlobals "NOT_THAT_KIND"=some (some (.int (-3) t_NOT_THAT_KIND)))
    (p_g_NO_MORE_ROOM:PySem.W.nsIn K mainGlobals "NO_MORE_ROOM"=some (some (.int (-4) t_NO_MORE_ROOM)))
    (p_g_NO_SUCH_LINE:PySem.W.nsIn K mainGlobals "NO_SUCH_LINE"=some (some (.int (-5) t_NO_SUCH_LINE)))
    (p_g_THERE_TWICE:PySem.W.nsIn K mainGlobals "THERE_TWICE"=some (some (.int (-6) t_THERE_TWICE)))
    (p_g_JOINED_ALREADY:PySem.W.nsIn K mainGlobals "JOINED_ALREADY"=some (some (.int (-7) t_JOINED_ALREADY)))
    (p_g_BADLY_TOLD_WAYS:PySem.W.nsIn K mainGlobals "BADLY_TOLD_WAYS"=some (some (.int (-8) t_BADLY_TOLD_WAYS)))
    (p_g_NOTHING_WRONG:PySem.W.nsIn K mainGlobals "NOTHING_WRONG"=some (some (.int (0) t_NOTHING_WRONG)))
    (p_g_NO_BASE_AT_ITS_BEGINNING:PySem.W.nsIn K mainGlobals "NO_BASE_AT_ITS_BEGINNING"=some (some (.int (1) t_NO_BASE_AT_ITS_BEGINNING)))
    (p_g_NO_GOAL_AT_ITS_END:PySem.W.nsIn K mainGlobals "NO_GOAL_AT_ITS_END"=some (some (.int (2) t_NO_GOAL_AT_ITS_END)))
    (p_g_NOT_JOINED:PySem.W.nsIn K mainGlobals "NOT_JOINED"=some (some (.int (3) t_NOT_JOINED)))
    (p_g_SAME_NODE_AGAIN:PySem.W.nsIn K mainGlobals "SAME_NODE_AGAIN"=some (some (.int (4) t_SAME_NODE_AGAIN)))
    (p_g_NO_WAY_THROUGH:PySem.W.nsIn K mainGlobals "NO_WAY_THROUGH"=some (some (.int (5) t_NO_WAY_THROUGH)))
    (p_z_len:PySem.W.nsIn K mainGlobals "len"=some none)
    (p_z_range:PySem.W.nsIn K mainGlobals "range"=some none)
    (p_z_enumerate:PySem.W.nsIn K mainGlobals "enumerate"=some none)
    (p_z_zip:PySem.W.nsIn K mainGlobals "zip"=some none)
    (p_z_min:PySem.W.nsIn K mainGlobals "min"=some none)
    (p_z_sum:PySem.W.nsIn K mainGlobals "sum"=some none)
    (p_z_sorted:PySem.W.nsIn K mainGlobals "sorted"=some none)
    (p_z_list:PySem.W.nsIn K mainGlobals "list"=some none)
    (p_z_dict:PySem.W.nsIn K mainGlobals "dict"=some none)
    (p_z_set:PySem.W.nsIn K mainGlobals "set"=some none)
    (p_z_any:PySem.W.nsIn K mainGlobals "any"=some none)
    (p_z_all:PySem.W.nsIn K mainGlobals "all"=some none)
    (p_gt_CALLS:PySem.W.nsIn K mainGlobals "CALLS"=some (some (.ref d_CALLS)))
    (p_lt_CALLS:K.lookup d_CALLS=some ⟨.type "dict",none,.dict #[⟨hashInt (0),.int (0) qY0,.ref tpY0⟩,⟨hashInt (1),.int (1) qY1,.ref tpY1⟩,⟨hashInt (2),.int (2) qY2,.ref tpY2⟩,⟨hashInt (3),.int (3) qY3,.ref tpY3⟩,⟨hashInt (4),.int (4) qY4,.ref tpY4⟩,⟨hashInt (5),.int (5) qY5,.ref tpY5⟩,⟨hashInt (6),.int (6) qY6,.ref tpY6⟩,⟨hashInt (7),.int (7) qY7,.ref tpY7⟩,⟨hashInt (8),.int (8) qY8,.ref tpY8⟩,⟨hashInt (9),.int (9) qY9,.ref tpY9⟩,⟨hashInt (10),.int (10) qY10,.ref tpY10⟩,⟨hashInt (11),.int (11) qY11,.ref tpY11⟩,⟨hashInt (12),.int (12) qY12,.ref tpY12⟩,⟨hashInt (13),.int (13) qY13,.ref tpY13⟩,⟨hashInt (14),.int (14) qY14,.ref tpY14⟩,⟨hashInt (15),.int (15) qY15,.ref tpY15⟩,⟨hashInt (16),.int (16) qY16,.ref tpY16⟩,⟨hashInt (17),.int (17) qY17,.ref tpY17⟩] ep_CALLS,#[]⟩)
    (pLY0:K.lookup tpY0=some ⟨.type "tuple",tdY0,.seq #[.int (3) wY0_0,.int (0) wY0_1,.ref fZ40] tnY0,tslY0⟩)
    (pLY1:K.lookup tpY1=some ⟨.type "tuple",tdY1,.seq #[.int (2) wY1_0,.int (0) wY1_1,.ref fZ41] tnY1,tslY1⟩)
    (pLY2:K.lookup tpY2=some ⟨.type "tuple",tdY2,.seq #[.int (3) wY2_0,.int (0) wY2_1,.ref fZ46] tnY2,tslY2⟩)
    (pLY3:K.lookup tpY3=some ⟨.type "tuple",tdY3,.seq #[.int (1) wY3_0,.int (0) wY3_1,.ref fZ20] tnY3,tslY3⟩)
    (pLY4:K.lookup tpY4=some ⟨.type "tuple",tdY4,.seq #[.int (0) wY4_0,.int (0) wY4_1,.ref fZ31] tnY4,tslY4⟩)
    (pLY5:K.lookup tpY5=some ⟨.type "tuple",tdY5,.seq #[.int (0) wY5_0,.int (0) wY5_1,.ref fZ32] tnY5,tslY5⟩)
    (pLY6:K.lookup tpY6=some ⟨.type "tuple",tdY6,.seq #[.int (1) wY6_0,.int (0) wY6_1,.ref fZ42] tnY6,tslY6⟩)
    (pLY7:K.lookup tpY7=some ⟨.type "tuple",tdY7,.seq #[.int (0) wY7_0,.int (0) wY7_1,.ref fZ33] tnY7,tslY7⟩)
    (pLY8:K.lookup tpY8=some ⟨.type "tuple",tdY8,.seq #[.int (0) wY8_0,.int (1) wY8_1,.ref fZ8] tnY8,tslY8⟩)
    (pLY9:K.lookup tpY9=some ⟨.type "tuple",tdY9,.seq #[.int (1) wY9_0,.int (0) wY9_1,.ref fZ34] tnY9,tslY9⟩)
    (pLY10:K.lookup tpY10=some ⟨.type "tuple",tdY10,.seq #[.int (1) wY10_0,.int (0) wY10_1,.ref fZ35] tnY10,tslY10⟩)
    (pLY11:K.lookup tpY11=some ⟨.type "tuple",tdY11,.seq #[.int (1) wY11_0,.int (0) wY11_1,.ref fZ12] tnY11,tslY11⟩)
    (pLY12:K.lookup tpY12=some ⟨.type "tuple",tdY12,.seq #[.int (1) wY12_0,.int (0) wY12_1,.ref fZ9] tnY12,tslY12⟩)
    (pLY13:K.lookup tpY13=some ⟨.type "tuple",tdY13,.seq #[.int (1) wY13_0,.int (1) wY13_1,.ref fZ43] tnY13,tslY13⟩)
    (pLY14:K.lookup tpY14=some ⟨.type "tuple",tdY14,.seq #[.int (1) wY14_0,.int (1) wY14_1,.ref fZ44] tnY14,tslY14⟩)
    (pLY15:K.lookup tpY15=some ⟨.type "tuple",tdY15,.seq #[.int (1) wY15_0,.int (0) wY15_1,.ref fZ21] tnY15,tslY15⟩)
    (pLY16:K.lookup tpY16=some ⟨.type "tuple",tdY16,.seq #[.int (0) wY16_0,.int (0) wY16_1,.ref fZ48] tnY16,tslY16⟩)
    (pLY17:K.lookup tpY17=some ⟨.type "tuple",tdY17,.seq #[.int (0) wY17_0,.int (0) wY17_1,.ref fZ13] tnY17,tslY17⟩)
    : Made K mg:=by
  unfold Made
  have FZ14:=fun_mk (st:=s_Flow___init__) plZ14 pcZ14 pkZ14
  have BZ14:=FZ14.binds (ps:=["self","sides"]) fun _ _ _ _ _ _ us hl=>match us,hl with | [_,_],_=>rfl
  have FZ22:=fun_mk (st:=s_Flow_add_arc) plZ22 pcZ22 pkZ22
  have BZ22:=FZ22.binds (ps:=["self","tail","head","room"]) fun _ _ _ _ _ _ us hl=>match us,hl with | [_,_,_,_],_=>rfl
  have FZ1:=fun_mk (st:=s_Flow_arcs_with_room) plZ1 pcZ1 pkZ1
  have BZ1:=FZ1.binds (ps:=["self","starts","end"]) fun _ _ _ _ _ _ us hl=>match us,hl with | [_,_,_],_=>rfl
  have FZ7:=fun_mk (st:=s_Flow_push_along) plZ7 pcZ7 pkZ7
  have BZ7:=FZ7.binds (ps:=["self","arcs"]) fun _ _ _ _ _ _ us hl=>match us,hl with | [_,_],_=>rfl
  have FZ49:=fun_mk (st:=s_Flow_most) plZ49 pcZ49 pkZ49
  have BZ49:=FZ49.binds (ps:=["self","starts","end"]) fun _ _ _ _ _ _ us hl=>match us,hl with | [_,_,_],_=>rfl
  have FZ15:=fun_mk (st:=s_nodes_come_to) plZ15 pcZ15 pkZ15
  have BZ15:=FZ15.binds (ps:=["network","starts","barred"]) fun _ _ _ _ _ _ us hl=>match us,hl with | [_,_,_],_=>rfl
  have FZ16:=fun_mk (st:=s_reached_nodes) plZ16 pcZ16 pkZ16
  have BZ16:=FZ16.binds (ps:=["network","barred"]) fun _ _ _ _ _ _ us hl=>match us,hl with | [_,_],_=>rfl
  have FZ23:=fun_mk (st:=s_needed_nodes) plZ23 pcZ23 pkZ23
  have BZ23:=FZ23.binds (ps:=["network","goal"]) fun _ _ _ _ _ _ us hl=>match us,hl with | [_,_],_=>rfl
  have FZ45:=fun_mk (st:=s_is_cut_off) plZ45 pcZ45 pkZ45
  have BZ45:=FZ45.binds (ps:=["network","goal","filled"]) fun _ _ _ _ _ _ us hl=>match us,hl with | [_,_,_],_=>rfl
  have FZ17:=fun_mk (st:=s_stops_to_fill) plZ17 pcZ17 pkZ17
  have BZ17:=FZ17.binds (ps:=["network","goal"]) fun _ _ _ _ _ _ us hl=>match us,hl with | [_,_],_=>rfl
  have FZ50:=fun_mk (st:=s_room_at) plZ50 pcZ50 pkZ50
  have BZ50:=FZ50.binds (ps:=["node"]) fun _ _ _ _ _ _ us hl=>match us,hl with | [_],_=>rfl
  have FZ36:=fun_mk (st:=s_least_price) plZ36 pcZ36 pkZ36
  have BZ36:=FZ36.binds (ps:=["network","goal","filled"]) fun _ _ _ _ _ _ us hl=>match us,hl with | [_,_,_],_=>rfl
  have FZ24:=fun_mk (st:=s_least_number) plZ24 pcZ24 pkZ24
  have BZ24:=FZ24.binds (ps:=["network","goal"]) fun _ _ _ _ _ _ us hl=>match us,hl with | [_,_],_=>rfl
  have FZ37:=fun_mk (st:=s_tight_stops) plZ37 pcZ37 pkZ37
  have BZ37:=FZ37.binds (ps:=["network","goal"]) fun _ _ _ _ _ _ us hl=>match us,hl with | [_,_],_=>rfl
  have FZ18:=fun_mk (st:=s_nearest_stops) plZ18 pcZ18 pkZ18
  have BZ18:=FZ18.binds (ps:=["network","goal"]) fun _ _ _ _ _ _ us hl=>match us,hl with | [_,_],_=>rfl
  have FZ10:=fun_mk (st:=s_furthest_stops) plZ10 pcZ10 pkZ10
  have BZ10:=FZ10.binds (ps:=["network","goal"]) fun _ _ _ _ _ _ us hl=>match us,hl with | [_,_],_=>rfl
  have FZ25:=fun_mk (st:=s_weakest_stop) plZ25 pcZ25 pkZ25
  have BZ25:=FZ25.binds (ps:=["network"]) fun _ _ _ _ _ _ us hl=>match us,hl with | [_],_=>rfl
  have FZ19:=fun_mk (st:=s_Node___init__) plZ19 pcZ19 pkZ19
  have BZ19:=FZ19.binds (ps:=["self","stop","free","base"]) fun _ _ _ _ _ _ us hl=>match us,hl with | [_,_,_,_],_=>rfl
  have FZ26:=fun_mk (st:=s_Node_is_shut) plZ26 pcZ26 pkZ26
  have BZ26:=FZ26.binds (ps:=["self"]) fun _ _ _ _ _ _ us hl=>match us,hl with | [_],_=>rfl
  have FZ0:=fun_mk (st:=s_Node_is_open_to_strangers) plZ0 pcZ0 pkZ0
  have BZ0:=FZ0.binds (ps:=["self"]) fun _ _ _ _ _ _ us hl=>match us,hl with | [_],_=>rfl
  have FZ4:=fun_mk (st:=s_Network___init__) plZ4 pcZ4 pkZ4
  have BZ4:=FZ4.binds (ps:=["self"]) fun _ _ _ _ _ _ us hl=>match us,hl with | [_],_=>rfl
  have FZ5:=fun_mk (st:=s_Network_has_node) plZ5 pcZ5 pkZ5
  have BZ5:=FZ5.binds (ps:=["self","number"]) fun _ _ _ _ _ _ us hl=>match us,hl with | [_,_],_=>rfl
  have FZ6:=fun_mk (st:=s_Network_has_line) plZ6 pcZ6 pkZ6
  have BZ6:=FZ6.binds (ps:=["self","number"]) fun _ _ _ _ _ _ us hl=>match us,hl with | [_,_],_=>rfl
  have FZ2:=fun_mk (st:=s_Network_are_joined) plZ2 pcZ2 pkZ2
  have BZ2:=FZ2.binds (ps:=["self","a","b"]) fun _ _ _ _ _ _ us hl=>match us,hl with | [_,_,_],_=>rfl
  have FZ3:=fun_mk (st:=s_Network_neighbours) plZ3 pcZ3 pkZ3
  have BZ3:=FZ3.binds (ps:=["self"]) fun _ _ _ _ _ _ us hl=>match us,hl with | [_],_=>rfl
  have FZ38:=fun_mk (st:=s_ways_of_row) plZ38 pcZ38 pkZ38
  have BZ38:=FZ38.binds (ps:=["row"]) fun _ _ _ _ _ _ us hl=>match us,hl with | [_],_=>rfl
  have FZ11:=fun_mk (st:=s_begins_at_base) plZ11 pcZ11 pkZ11
  have BZ11:=FZ11.binds (ps:=["network","way"]) fun _ _ _ _ _ _ us hl=>match us,hl with | [_,_],_=>rfl
  have FZ27:=fun_mk (st:=s_lets_through) plZ27 pcZ27 pkZ27
  have BZ27:=FZ27.binds (ps:=["node"]) fun _ _ _ _ _ _ us hl=>match us,hl with | [_],_=>rfl
  have FZ28:=fun_mk (st:=s_wrong_of_way) plZ28 pcZ28 pkZ28
  have BZ28:=FZ28.binds (ps:=["network","goal","way"]) fun _ _ _ _ _ _ us hl=>match us,hl with | [_,_,_],_=>rfl
  have FZ29:=fun_mk (st:=s_crowded_stop) plZ29 pcZ29 pkZ29
  have BZ29:=FZ29.binds (ps:=["network","goal","ways"]) fun _ _ _ _ _ _ us hl=>match us,hl with | [_,_,_],_=>rfl
  have FZ30:=fun_mk (st:=s_are_in_range) plZ30 pcZ30 pkZ30
  have BZ30:=FZ30.binds (ps:=["free","base"]) fun _ _ _ _ _ _ us hl=>match us,hl with | [_,_],_=>rfl
  have FZ51:=fun_mk (st:=s_counted) plZ51 pcZ51 pkZ51
  have BZ51:=FZ51.binds (ps:=["numbers"]) fun _ _ _ _ _ _ us hl=>match us,hl with | [_],_=>rfl
  have FZ39:=fun_mk (st:=s_row_refusal) plZ39 pcZ39 pkZ39
  have BZ39:=FZ39.binds (ps:=["network","row"]) fun _ _ _ _ _ _ us hl=>match us,hl with | [_,_],_=>rfl
  have FZ40:=fun_mk (st:=s_answer_node) plZ40 pcZ40 pkZ40
  have BZ40:=FZ40.binds (ps:=["network","arguments"]) fun _ _ _ _ _ _ us hl=>match us,hl with | [_,_],_=>rfl
  have FZ41:=fun_mk (st:=s_answer_line) plZ41 pcZ41 pkZ41
  have BZ41:=FZ41.binds (ps:=["network","arguments"]) fun _ _ _ _ _ _ us hl=>match us,hl with | [_,_],_=>rfl
  have FZ46:=fun_mk (st:=s_answer_set) plZ46 pcZ46 pkZ46
  have BZ46:=FZ46.binds (ps:=["network","arguments"]) fun _ _ _ _ _ _ us hl=>match us,hl with | [_,_],_=>rfl
  have FZ20:=fun_mk (st:=s_answer_unline) plZ20 pcZ20 pkZ20
  have BZ20:=FZ20.binds (ps:=["network","arguments"]) fun _ _ _ _ _ _ us hl=>match us,hl with | [_,_],_=>rfl
  have FZ31:=fun_mk (st:=s_answer_clear) plZ31 pcZ31 pkZ31
  have BZ31:=FZ31.binds (ps:=["network","arguments"]) fun _ _ _ _ _ _ us hl=>match us,hl with | [_,_],_=>rfl
  have FZ32:=fun_mk (st:=s_answer_graph) plZ32 pcZ32 pkZ32
  have BZ32:=FZ32.binds (ps:=["network","arguments"]) fun _ _ _ _ _ _ us hl=>match us,hl with | [_,_],_=>rfl
  have FZ42:=fun_mk (st:=s_answer_fill) plZ42 pcZ42 pkZ42
  have BZ42:=FZ42.binds (ps:=["network","arguments"]) fun _ _ _ _ _ _ us hl=>match us,hl with | [_,_],_=>rfl
  have FZ33:=fun_mk (st:=s_answer_reach) plZ33 pcZ33 pkZ33
  have BZ33:=FZ33.binds (ps:=["network","arguments"]) fun _ _ _ _ _ _ us hl=>match us,hl with | [_,_],_=>rfl
  have FZ8:=fun_mk (st:=s_answer_reach_if) plZ8 pcZ8 pkZ8
  have BZ8:=FZ8.binds (ps:=["network","arguments"]) fun _ _ _ _ _ _ us hl=>match us,hl with | [_,_],_=>rfl
  have FZ47:=fun_mk (st:=s_told_least) plZ47 pcZ47 pkZ47
  have BZ47:=FZ47.binds (ps:=["network","goal"]) fun _ _ _ _ _ _ us hl=>match us,hl with | [_,_],_=>rfl
  have FZ34:=fun_mk (st:=s_answer_least) plZ34 pcZ34 pkZ34
  have BZ34:=FZ34.binds (ps:=["network","arguments"]) fun _ _ _ _ _ _ us hl=>match us,hl with | [_,_],_=>rfl
  have FZ35:=fun_mk (st:=s_answer_tight) plZ35 pcZ35 pkZ35
  have BZ35:=FZ35.binds (ps:=["network","arguments"]) fun _ _ _ _ _ _ us hl=>match us,hl with | [_,_],_=>rfl
  have FZ12:=fun_mk (st:=s_answer_nearest) plZ12 pcZ12 pkZ12
  have BZ12:=FZ12.binds (ps:=["network","arguments"]) fun _ _ _ _ _ _ us hl=>match us,hl with | [_,_],_=>rfl
  have FZ9:=fun_mk (st:=s_answer_furthest) plZ9 pcZ9 pkZ9
  have BZ9:=FZ9.binds (ps:=["network","arguments"]) fun _ _ _ _ _ _ us hl=>match us,hl with | [_,_],_=>rfl
  have FZ43:=fun_mk (st:=s_answer_cuts) plZ43 pcZ43 pkZ43
  have BZ43:=FZ43.binds (ps:=["network","arguments"]) fun _ _ _ _ _ _ us hl=>match us,hl with | [_,_],_=>rfl
  have FZ44:=fun_mk (st:=s_answer_ways) plZ44 pcZ44 pkZ44
  have BZ44:=FZ44.binds (ps:=["network","arguments"]) fun _ _ _ _ _ _ us hl=>match us,hl with | [_,_],_=>rfl
  have FZ21:=fun_mk (st:=s_answer_needed) plZ21 pcZ21 pkZ21
  have BZ21:=FZ21.binds (ps:=["network","arguments"]) fun _ _ _ _ _ _ us hl=>match us,hl with | [_,_],_=>rfl
  have FZ48:=fun_mk (st:=s_answer_all) plZ48 pcZ48 pkZ48
  have BZ48:=FZ48.binds (ps:=["network","arguments"]) fun _ _ _ _ _ _ us hl=>match us,hl with | [_,_],_=>rfl
  have FZ13:=fun_mk (st:=s_answer_weakest) plZ13 pcZ13 pkZ13
  have BZ13:=FZ13.binds (ps:=["network","arguments"]) fun _ _ _ _ _ _ us hl=>match us,hl with | [_,_],_=>rfl
  have FZ52:=fun_mk (st:=s_answers) plZ52 pcZ52 pkZ52
  have BZ52:=FZ52.binds (ps:=["calls"]) fun _ _ _ _ _ _ us hl=>match us,hl with | [_],_=>rfl
  refine ⟨⟨c_Flow,c_Node,c_Network,fZ14,fZ22,fZ1,fZ7,fZ49,fZ15,fZ16,fZ23,fZ45,fZ17,fZ50,fZ36,fZ24,fZ37,fZ18,fZ10,fZ25,fZ19,fZ26,fZ0,fZ4,fZ5,fZ6,fZ2,fZ3,fZ38,fZ11,fZ27,fZ28,fZ29,fZ30,fZ51,fZ39,fZ40,fZ41,fZ46,fZ20,fZ31,fZ32,fZ42,fZ33,fZ8,fZ47,fZ34,fZ35,fZ12,fZ9,fZ43,fZ44,fZ21,fZ48,fZ13,fZ52,PySem.W.fnOf "__init__" "Flow.__init__" (defArgs s_Flow___init__) (defBody s_Flow___init__) (defScope s_Flow___init__) .none kVZ14 dcZ14 pmZ14 anZ14 cdZ14 ctZ14,PySem.W.fnOf "add_arc" "Flow.add_arc" (defArgs s_Flow_add_arc) (defBody s_Flow_add_arc) (defScope s_Flow_add_arc) .none kVZ22 dcZ22 pmZ22 anZ22 cdZ22 ctZ22,PySem.W.fnOf "arcs_with_room" "Flow.arcs_with_room" (defArgs s_Flow_arcs_with_room) (defBody s_Flow_arcs_with_room) (defScope s_Flow_arcs_with_room) .none kVZ1 dcZ1 pmZ1 anZ1 cdZ1 ctZ1,PySem.W.fnOf "push_along" "Flow.push_along" (defArgs s_Flow_push_along) (defBody s_Flow_push_along) (defScope s_Flow_push_along) .none kVZ7 dcZ7 pmZ7 anZ7 cdZ7 ctZ7,PySem.W.fnOf "most" "Flow.most" (defArgs s_Flow_most) (defBody s_Flow_most) (defScope s_Flow_most) .none kVZ49 dcZ49 pmZ49 anZ49 cdZ49 ctZ49,PySem.W.fnOf "nodes_come_to" "nodes_come_to" (defArgs s_nodes_come_to) (defBody s_nodes_come_to) (defScope s_nodes_come_to) .none kVZ15 dcZ15 pmZ15 anZ15 cdZ15 ctZ15,PySem.W.fnOf "reached_nodes" "reached_nodes" (defArgs s_reached_nodes) (defBody s_reached_nodes) (defScope s_reached_nodes) .none kVZ16 dcZ16 pmZ16 anZ16 cdZ16 ctZ16,PySem.W.fnOf "needed_nodes" "needed_nodes" (defArgs s_needed_nodes) (defBody s_needed_nodes) (defScope s_needed_nodes) .none kVZ23 dcZ23 pmZ23 anZ23 cdZ23 ctZ23,PySem.W.fnOf "is_cut_off" "is_cut_off" (defArgs s_is_cut_off) (defBody s_is_cut_off) (defScope s_is_cut_off) .none kVZ45 dcZ45 pmZ45 anZ45 cdZ45 ctZ45,PySem.W.fnOf "stops_to_fill" "stops_to_fill" (defArgs s_stops_to_fill) (defBody s_stops_to_fill) (defScope s_stops_to_fill) .none kVZ17 dcZ17 pmZ17 anZ17 cdZ17 ctZ17,PySem.W.fnOf "room_at" "room_at" (defArgs s_room_at) (defBody s_room_at) (defScope s_room_at) .none kVZ50 dcZ50 pmZ50 anZ50 cdZ50 ctZ50,PySem.W.fnOf "least_price" "least_price" (defArgs s_least_price) (defBody s_least_price) (defScope s_least_price) .none kVZ36 dcZ36 pmZ36 anZ36 cdZ36 ctZ36,PySem.W.fnOf "least_number" "least_number" (defArgs s_least_number) (defBody s_least_number) (defScope s_least_number) .none kVZ24 dcZ24 pmZ24 anZ24 cdZ24 ctZ24,PySem.W.fnOf "tight_stops" "tight_stops" (defArgs s_tight_stops) (defBody s_tight_stops) (defScope s_tight_stops) .none kVZ37 dcZ37 pmZ37 anZ37 cdZ37 ctZ37,PySem.W.fnOf "nearest_stops" "nearest_stops" (defArgs s_nearest_stops) (defBody s_nearest_stops) (defScope s_nearest_stops) .none kVZ18 dcZ18 pmZ18 anZ18 cdZ18 ctZ18,PySem.W.fnOf "furthest_stops" "furthest_stops" (defArgs s_furthest_stops) (defBody s_furthest_stops) (defScope s_furthest_stops) .none kVZ10 dcZ10 pmZ10 anZ10 cdZ10 ctZ10,PySem.W.fnOf "weakest_stop" "weakest_stop" (defArgs s_weakest_stop) (defBody s_weakest_stop) (defScope s_weakest_stop) .none kVZ25 dcZ25 pmZ25 anZ25 cdZ25 ctZ25,PySem.W.fnOf "__init__" "Node.__init__" (defArgs s_Node___init__) (defBody s_Node___init__) (defScope s_Node___init__) .none kVZ19 dcZ19 pmZ19 anZ19 cdZ19 ctZ19,PySem.W.fnOf "is_shut" "Node.is_shut" (defArgs s_Node_is_shut) (defBody s_Node_is_shut) (defScope s_Node_is_shut) .none kVZ26 dcZ26 pmZ26 anZ26 cdZ26 ctZ26,PySem.W.fnOf "is_open_to_strangers" "Node.is_open_to_strangers" (defArgs s_Node_is_open_to_strangers) (defBody s_Node_is_open_to_strangers) (defScope s_Node_is_open_to_strangers) .none kVZ0 dcZ0 pmZ0 anZ0 cdZ0 ctZ0,PySem.W.fnOf "__init__" "Network.__init__" (defArgs s_Network___init__) (defBody s_Network___init__) (defScope s_Network___init__) .none kVZ4 dcZ4 pmZ4 anZ4 cdZ4 ctZ4,PySem.W.fnOf "has_node" "Network.has_node" (defArgs s_Network_has_node) (defBody s_Network_has_node) (defScope s_Network_has_node) .none kVZ5 dcZ5 pmZ5 anZ5 cdZ5 ctZ5,PySem.W.fnOf "has_line" "Network.has_line" (defArgs s_Network_has_line) (defBody s_Network_has_line) (defScope s_Network_has_line) .none kVZ6 dcZ6 pmZ6 anZ6 cdZ6 ctZ6,PySem.W.fnOf "are_joined" "Network.are_joined" (defArgs s_Network_are_joined) (defBody s_Network_are_joined) (defScope s_Network_are_joined) .none kVZ2 dcZ2 pmZ2 anZ2 cdZ2 ctZ2,PySem.W.fnOf "neighbours" "Network.neighbours" (defArgs s_Network_neighbours) (defBody s_Network_neighbours) (defScope s_Network_neighbours) .none kVZ3 dcZ3 pmZ3 anZ3 cdZ3 ctZ3,PySem.W.fnOf "ways_of_row" "ways_of_row" (defArgs s_ways_of_row) (defBody s_ways_of_row) (defScope s_ways_of_row) .none kVZ38 dcZ38 pmZ38 anZ38 cdZ38 ctZ38,PySem.W.fnOf "begins_at_base" "begins_at_base" (defArgs s_begins_at_base) (defBody s_begins_at_base) (defScope s_begins_at_base) .none kVZ11 dcZ11 pmZ11 anZ11 cdZ11 ctZ11,PySem.W.fnOf "lets_through" "lets_through" (defArgs s_lets_through) (defBody s_lets_through) (defScope s_lets_through) .none kVZ27 dcZ27 pmZ27 anZ27 cdZ27 ctZ27,PySem.W.fnOf "wrong_of_way" "wrong_of_way" (defArgs s_wrong_of_way) (defBody s_wrong_of_way) (defScope s_wrong_of_way) .none kVZ28 dcZ28 pmZ28 anZ28 cdZ28 ctZ28,PySem.W.fnOf "crowded_stop" "crowded_stop" (defArgs s_crowded_stop) (defBody s_crowded_stop) (defScope s_crowded_stop) .none kVZ29 dcZ29 pmZ29 anZ29 cdZ29 ctZ29,PySem.W.fnOf "are_in_range" "are_in_range" (defArgs s_are_in_range) (defBody s_are_in_range) (defScope s_are_in_range) .none kVZ30 dcZ30 pmZ30 anZ30 cdZ30 ctZ30,PySem.W.fnOf "counted" "counted" (defArgs s_counted) (defBody s_counted) (defScope s_counted) .none kVZ51 dcZ51 pmZ51 anZ51 cdZ51 ctZ51,PySem.W.fnOf "row_refusal" "row_refusal" (defArgs s_row_refusal) (defBody s_row_refusal) (defScope s_row_refusal) .none kVZ39 dcZ39 pmZ39 anZ39 cdZ39 ctZ39,PySem.W.fnOf "answer_node" "answer_node" (defArgs s_answer_node) (defBody s_answer_node) (defScope s_answer_node) .none kVZ40 dcZ40 pmZ40 anZ40 cdZ40 ctZ40,PySem.W.fnOf "answer_line" "answer_line" (defArgs s_answer_line) (defBody s_answer_line) (defScope s_answer_line) .none kVZ41 dcZ41 pmZ41 anZ41 cdZ41 ctZ41,PySem.W.fnOf "answer_set" "answer_set" (defArgs s_answer_set) (defBody s_answer_set) (defScope s_answer_set) .none kVZ46 dcZ46 pmZ46 anZ46 cdZ46 ctZ46,PySem.W.fnOf "answer_unline" "answer_unline" (defArgs s_answer_unline) (defBody s_answer_unline) (defScope s_answer_unline) .none kVZ20 dcZ20 pmZ20 anZ20 cdZ20 ctZ20,PySem.W.fnOf "answer_clear" "answer_clear" (defArgs s_answer_clear) (defBody s_answer_clear) (defScope s_answer_clear) .none kVZ31 dcZ31 pmZ31 anZ31 cdZ31 ctZ31,PySem.W.fnOf "answer_graph" "answer_graph" (defArgs s_answer_graph) (defBody s_answer_graph) (defScope s_answer_graph) .none kVZ32 dcZ32 pmZ32 anZ32 cdZ32 ctZ32,PySem.W.fnOf "answer_fill" "answer_fill" (defArgs s_answer_fill) (defBody s_answer_fill) (defScope s_answer_fill) .none kVZ42 dcZ42 pmZ42 anZ42 cdZ42 ctZ42,PySem.W.fnOf "answer_reach" "answer_reach" (defArgs s_answer_reach) (defBody s_answer_reach) (defScope s_answer_reach) .none kVZ33 dcZ33 pmZ33 anZ33 cdZ33 ctZ33,PySem.W.fnOf "answer_reach_if" "answer_reach_if" (defArgs s_answer_reach_if) (defBody s_answer_reach_if) (defScope s_answer_reach_if) .none kVZ8 dcZ8 pmZ8 anZ8 cdZ8 ctZ8,PySem.W.fnOf "told_least" "told_least" (defArgs s_told_least) (defBody s_told_least) (defScope s_told_least) .none kVZ47 dcZ47 pmZ47 anZ47 cdZ47 ctZ47,PySem.W.fnOf "answer_least" "answer_least" (defArgs s_answer_least) (defBody s_answer_least) (defScope s_answer_least) .none kVZ34 dcZ34 pmZ34 anZ34 cdZ34 ctZ34,PySem.W.fnOf "answer_tight" "answer_tight" (defArgs s_answer_tight) (defBody s_answer_tight) (defScope s_answer_tight) .none kVZ35 dcZ35 pmZ35 anZ35 cdZ35 ctZ35,PySem.W.fnOf "answer_nearest" "answer_nearest" (defArgs s_answer_nearest) (defBody s_answer_nearest) (defScope s_answer_nearest) .none kVZ12 dcZ12 pmZ12 anZ12 cdZ12 ctZ12,PySem.W.fnOf "answer_furthest" "answer_furthest" (defArgs s_answer_furthest) (defBody s_answer_furthest) (defScope s_answer_furthest) .none kVZ9 dcZ9 pmZ9 anZ9 cdZ9 ctZ9,PySem.W.fnOf "answer_cuts" "answer_cuts" (defArgs s_answer_cuts) (defBody s_answer_cuts) (defScope s_answer_cuts) .none kVZ43 dcZ43 pmZ43 anZ43 cdZ43 ctZ43,PySem.W.fnOf "answer_ways" "answer_ways" (defArgs s_answer_ways) (defBody s_answer_ways) (defScope s_answer_ways) .none kVZ44 dcZ44 pmZ44 anZ44 cdZ44 ctZ44,PySem.W.fnOf "answer_needed" "answer_needed" (defArgs s_answer_needed) (defBody s_answer_needed) (defScope s_answer_needed) .none kVZ21 dcZ21 pmZ21 anZ21 cdZ21 ctZ21,PySem.W.fnOf "answer_all" "answer_all" (defArgs s_answer_all) (defBody s_answer_all) (defScope s_answer_all) .none kVZ48 dcZ48 pmZ48 anZ48 cdZ48 ctZ48,PySem.W.fnOf "answer_weakest" "answer_weakest" (defArgs s_answer_weakest) (defBody s_answer_weakest) (defScope s_answer_weakest) .none kVZ13 dcZ13 pmZ13 anZ13 cdZ13 ctZ13,PySem.W.fnOf "answers" "answers" (defArgs s_answers) (defBody s_answers) (defScope s_answers) .none kVZ52 dcZ52 pmZ52 anZ52 cdZ52 ctZ52⟩,⟨?f_0,?f_1,?f_2,?f_3,?f_4,?f_5,?f_6,?f_7,?f_8,?f_9,?f_10,?f_11,?f_12,?f_13,?f_14,?f_15,?f_16,?f_17,?f_18,?f_19,?f_20,?f_21,?f_22,?f_23,?f_24,?f_25,?f_26,?f_27,?f_28,?f_29,?f_30,?f_31,?f_32,?f_33,?f_34,?f_35,?f_36,?f_37,?f_38,?f_39,?f_40,?f_41,?f_42,?f_43,?f_44,?f_45,?f_46,?f_47,?f_48,?f_49,?f_50,?f_51,?f_52,?f_53,?f_54,?f_55,?f_56,?f_57,?f_58,?f_59,?f_60,?f_61,?f_62,?f_63,?f_64,?f_65,?f_66,?f_67,?f_68,?f_69,?f_70,?f_71,?f_72,?f_73,?f_74,?f_75,?f_76,?f_77,?f_78,?f_79,?f_80,?f_81,?f_82,?f_83,?f_84,?f_85,?f_86,?f_87,?f_88,?f_89,?f_90,?f_91,?f_92,?f_93,?f_94,?f_95,?f_96,?f_97,?f_98,?f_99,?f_100,?f_101,?f_102,?f_103,?f_104,?f_105,?f_106,?f_107,?f_108,?f_109,?f_110,?f_111,?f_112,?f_113,?f_114,?f_115,?f_116,?f_117,?f_118,?f_119,?f_120,?f_121,?f_122,?f_123,?f_124,?f_125,?f_126,?f_127,?f_128,?f_129,?f_130,?f_131,?f_132,?f_133,?f_134,?f_135,?f_136,?f_137,?f_138,?f_139,?f_140,?f_141,?f_142,?f_143,?f_144,?f_145,?f_146,?f_147,?f_148,?f_149,?f_150,?f_151,?f_152,?f_153,?f_154,?f_155,?f_156,?f_157,?f_158,?f_159,?f_160,?f_161,?f_162,?f_163,?f_164,?f_165,?f_166,?f_167,?f_168,?f_169,?f_170,?f_171,?f_172,?f_173,?f_174,?f_175,?f_176,?f_177,?f_178,?f_179,?f_180,?f_181,?f_182,?f_183,?f_184,?f_185,?f_186,?f_187,?f_188,?f_189,?f_190,?f_191,?f_192,?f_193,?f_194,?f_195,?f_196,?f_197,?f_198,?f_199,?f_200,?f_201,?f_202⟩,?R,?T_CALLS⟩
  case f_0=>exact ⟨p_pg_Flow,p_hd_Flow,p_po_Flow,p_sa_Flow⟩
  case f_1=>exact PySem.W.mg_of X G p_ac_Flow
  case f_2=>exact p_na_Flow_leaving
  case f_3=>exact p_na_Flow_heads
  case f_4=>exact p_na_Flow_room
  case f_5=>exact ⟨p_mk_Flow,paZ14,piZ14,p_kc_Flow⟩
  case f_6=>exact ⟨p_pg_Node,p_hd_Node,p_po_Node,p_sa_Node⟩
  case f_7=>exact PySem.W.mg_of X G p_ac_Node
  case f_8=>exact p_na_Node_stop
  case f_9=>exact p_na_Node_free
  case f_10=>exact p_na_Node_base
  case f_11=>exact ⟨p_mk_Node,paZ19,piZ19,p_kc_Node⟩
  case f_12=>exact ⟨p_pg_Network,p_hd_Network,p_po_Network,p_sa_Network⟩
  case f_13=>exact PySem.W.mg_of X G p_ac_Network
  case f_14=>exact p_na_Network_nodes
  case f_15=>exact p_na_Network_lines
  case f_16=>exact ⟨p_mk_Network,paZ4,piZ4,p_kc_Network⟩
  case f_17=>exact FZ14
  case f_18=>exact BZ14
  case f_19=>exact FZ22
  case f_20=>exact BZ22
  case f_21=>exact ⟨paZ22,piZ22,pkZ22⟩
  case f_22=>exact FZ1
  case f_23=>exact BZ1
  case f_24=>exact ⟨paZ1,piZ1,pkZ1⟩
  case f_25=>exact FZ7
  case f_26=>exact BZ7
  case f_27=>exact ⟨paZ7,piZ7,pkZ7⟩
  case f_28=>exact FZ49
  case f_29=>exact BZ49
  case f_30=>exact ⟨paZ49,piZ49,pkZ49⟩
  case f_31=>exact FZ15
  case f_32=>exact BZ15
  case f_33=>exact PySem.W.mg_of X G paZ15
  case f_34=>exact FZ16
  case f_35=>exact BZ16
  case f_36=>exact PySem.W.mg_of X G paZ16
  case f_37=>exact FZ23
  case f_38=>exact BZ23
  case f_39=>exact PySem.W.mg_of X G paZ23
  case f_40=>exact FZ45
  case f_41=>exact BZ45
  case f_42=>exact PySem.W.mg_of X G paZ45
  case f_43=>exact FZ17
  case f_44=>exact BZ17
  case f_45=>exact PySem.W.mg_of X G paZ17
  case f_46=>exact FZ50
  case f_47=>exact BZ50
  case f_48=>exact PySem.W.mg_of X G paZ50
  case f_49=>exact FZ36
  case f_50=>exact BZ36
  case f_51=>exact PySem.W.mg_of X G paZ36
  case f_52=>exact FZ24
  case f_53=>exact BZ24
  case f_54=>exact PySem.W.mg_of X G paZ24
  case f_55=>exact FZ37
  case f_56=>exact BZ37
  case f_57=>exact PySem.W.mg_of X G paZ37
  case f_58=>exact FZ18
  case f_59=>exact BZ18
  case f_60=>exact PySem.W.mg_of X G paZ18
  case f_61=>exact FZ10
  case f_62=>exact BZ10
  case f_63=>exact PySem.W.mg_of X G paZ10
  case f_64=>exact FZ25
  case f_65=>exact BZ25
  case f_66=>exact PySem.W.mg_of X G paZ25
  case f_67=>exact FZ19
  case f_68=>exact BZ19
  case f_69=>exact FZ26
  case f_70=>exact BZ26
  case f_71=>exact ⟨paZ26,piZ26,pkZ26⟩
  case f_72=>exact FZ0
  case f_73=>exact BZ0
  case f_74=>exact ⟨paZ0,piZ0,pkZ0⟩
  case f_75=>exact FZ4
  case f_76=>exact BZ4
  case f_77=>exact FZ5
  case f_78=>exact BZ5
  case f_79=>exact ⟨paZ5,piZ5,pkZ5⟩
  case f_80=>exact FZ6
  case f_81=>exact BZ6
  case f_82=>exact ⟨paZ6,piZ6,pkZ6⟩
  case f_83=>exact FZ2
  case f_84=>exact BZ2
  case f_85=>exact ⟨paZ2,piZ2,pkZ2⟩
  case f_86=>exact FZ3
  case f_87=>exact BZ3
  case f_88=>exact ⟨paZ3,piZ3,pkZ3⟩
  case f_89=>exact FZ38
  case f_90=>exact BZ38
  case f_91=>exact PySem.W.mg_of X G paZ38
  case f_92=>exact FZ11
  case f_93=>exact BZ11
  case f_94=>exact PySem.W.mg_of X G paZ11
  case f_95=>exact FZ27
  case f_96=>exact BZ27
  case f_97=>exact PySem.W.mg_of X G paZ27
  case f_98=>exact FZ28
  case f_99=>exact BZ28
  case f_100=>exact PySem.W.mg_of X G paZ28
  case f_101=>exact FZ29
  case f_102=>exact BZ29
  case f_103=>exact PySem.W.mg_of X G paZ29
  case f_104=>exact FZ30
  case f_105=>exact BZ30
  case f_106=>exact PySem.W.mg_of X G paZ30
  case f_107=>exact FZ51
  case f_108=>exact BZ51
  case f_109=>exact PySem.W.mg_of X G paZ51
  case f_110=>exact FZ39
  case f_111=>exact BZ39
  case f_112=>exact PySem.W.mg_of X G paZ39
  case f_113=>exact FZ40
  case f_114=>exact BZ40
  case f_115=>exact PySem.W.mg_of X G paZ40
  case f_116=>exact FZ41
  case f_117=>exact BZ41
  case f_118=>exact PySem.W.mg_of X G paZ41
  case f_119=>exact FZ46
  case f_120=>exact BZ46
  case f_121=>exact PySem.W.mg_of X G paZ46
  case f_122=>exact FZ20
  case f_123=>exact BZ20
  case f_124=>exact PySem.W.mg_of X G paZ20
  case f_125=>exact FZ31
  case f_126=>exact BZ31
  case f_127=>exact PySem.W.mg_of X G paZ31
  case f_128=>exact FZ32
  case f_129=>exact BZ32
  case f_130=>exact PySem.W.mg_of X G paZ32
  case f_131=>exact FZ42
  case f_132=>exact BZ42
  case f_133=>exact PySem.W.mg_of X G paZ42
  case f_134=>exact FZ33
  case f_135=>exact BZ33
  case f_136=>exact PySem.W.mg_of X G paZ33
  case f_137=>exact FZ8
  case f_138=>exact BZ8
  case f_139=>exact PySem.W.mg_of X G paZ8
  case f_140=>exact FZ47
  case f_141=>exact BZ47
  case f_142=>exact PySem.W.mg_of X G paZ47
  case f_143=>exact FZ34
  case f_144=>exact BZ34
  case f_145=>exact PySem.W.mg_of X G paZ34
  case f_146=>exact FZ35
  case f_147=>exact BZ35
  case f_148=>exact PySem.W.mg_of X G paZ35
  case f_149=>exact FZ12
  case f_150=>exact BZ12
  case f_151=>exact PySem.W.mg_of X G paZ12
  case f_152=>exact FZ9
  case f_153=>exact BZ9
  case f_154=>exact PySem.W.mg_of X G paZ9
  case f_155=>exact FZ43
  case f_156=>exact BZ43
  case f_157=>exact PySem.W.mg_of X G paZ43
  case f_158=>exact FZ44
  case f_159=>exact BZ44
  case f_160=>exact PySem.W.mg_of X G paZ44
  case f_161=>exact FZ21
  case f_162=>exact BZ21
  case f_163=>exact PySem.W.mg_of X G paZ21
  case f_164=>exact FZ48
  case f_165=>exact BZ48
  case f_166=>exact PySem.W.mg_of X G paZ48
  case f_167=>exact FZ13
  case f_168=>exact BZ13
  case f_169=>exact PySem.W.mg_of X G paZ13
  case f_170=>exact FZ52
  case f_171=>exact BZ52
  case f_172=>exact PySem.W.mg_of X G paZ52
  case f_173=>exact ⟨_,PySem.W.mg_of X G p_g_PLENTY⟩
  case f_174=>exact ⟨_,PySem.W.mg_of X G p_g_MOST_NODES⟩
  case f_175=>exact ⟨_,PySem.W.mg_of X G p_g_MOST_LINES⟩
  case f_176=>exact ⟨_,PySem.W.mg_of X G p_g_MOST_FREE⟩
  case f_177=>exact ⟨_,PySem.W.mg_of X G p_g_NO_SUCH_NODE⟩
  case f_178=>exact ⟨_,PySem.W.mg_of X G p_g_OUT_OF_RANGE⟩
  case f_179=>exact ⟨_,PySem.W.mg_of X G p_g_NOT_THAT_KIND⟩
  case f_180=>exact ⟨_,PySem.W.mg_of X G p_g_NO_MORE_ROOM⟩
  case f_181=>exact ⟨_,PySem.W.mg_of X G p_g_NO_SUCH_LINE⟩
  case f_182=>exact ⟨_,PySem.W.mg_of X G p_g_THERE_TWICE⟩
  case f_183=>exact ⟨_,PySem.W.mg_of X G p_g_JOINED_ALREADY⟩
  case f_184=>exact ⟨_,PySem.W.mg_of X G p_g_BADLY_TOLD_WAYS⟩
  case f_185=>exact ⟨_,PySem.W.mg_of X G p_g_NOTHING_WRONG⟩
  case f_186=>exact ⟨_,PySem.W.mg_of X G p_g_NO_BASE_AT_ITS_BEGINNING⟩
  case f_187=>exact ⟨_,PySem.W.mg_of X G p_g_NO_GOAL_AT_ITS_END⟩
  case f_188=>exact ⟨_,PySem.W.mg_of X G p_g_NOT_JOINED⟩
  case f_189=>exact ⟨_,PySem.W.mg_of X G p_g_SAME_NODE_AGAIN⟩
  case f_190=>exact ⟨_,PySem.W.mg_of X G p_g_NO_WAY_THROUGH⟩
  case f_191=>exact PySem.W.mg_none_of X G p_z_len
  case f_192=>exact PySem.W.mg_none_of X G p_z_range
  case f_193=>exact PySem.W.mg_none_of X G p_z_enumerate
  case f_194=>exact PySem.W.mg_none_of X G p_z_zip
  case f_195=>exact PySem.W.mg_none_of X G p_z_min
  case f_196=>exact PySem.W.mg_none_of X G p_z_sum
  case f_197=>exact PySem.W.mg_none_of X G p_z_sorted
  case f_198=>exact PySem.W.mg_none_of X G p_z_list
  case f_199=>exact PySem.W.mg_none_of X G p_z_dict
  case f_200=>exact PySem.W.mg_none_of X G p_z_set
  case f_201=>exact PySem.W.mg_none_of X G p_z_any
  case f_202=>exact PySem.W.mg_none_of X G p_z_all
  case R=>exact fun s us hu=>match us,hu with | [_],_=>.of_eq rfl
  case T_CALLS =>
    refine ⟨d_CALLS,PySem.W.mg_of X G p_gt_CALLS,fun P w=>⟨_,kdict_of [((0:Int),qY0,tpY0),((1:Int),qY1,tpY1),((2:Int),qY2,tpY2),((3:Int),qY3,tpY3),((4:Int),qY4,tpY4),((5:Int),qY5,tpY5),((6:Int),qY6,tpY6),((7:Int),qY7,tpY7),((8:Int),qY8,tpY8),((9:Int),qY9,tpY9),((10:Int),qY10,tpY10),((11:Int),qY11,tpY11),((12:Int),qY12,tpY12),((13:Int),qY13,tpY13),((14:Int),qY14,tpY14),((15:Int),qY15,tpY15),((16:Int),qY16,tpY16),((17:Int),qY17,tpY17)] p_lt_CALLS (by show ([0,1,2,3,4,5,6,7,8,9,10,11,12,13,14,15,16,17]:List Int).Nodup;decide),⟨tpY0,rfl,fun H=>.inr ⟨_,_,_,pLY0,rfl,rfl,by show 3≤sizeLine;decide,.cons ⟨_,rfl⟩ (.cons ⟨_,rfl⟩ (.cons rfl (.nil)))⟩⟩,⟨tpY1,rfl,fun H=>.inr ⟨_,_,_,pLY1,rfl,rfl,by show 3≤sizeLine;decide,.cons ⟨_,rfl⟩ (.cons ⟨_,rfl⟩ (.cons rfl (.nil)))⟩⟩,⟨tpY2,rfl,fun H=>.inr ⟨_,_,_,pLY2,rfl,rfl,by show 3≤sizeLine;decide,.cons ⟨_,rfl⟩ (.cons ⟨_,rfl⟩ (.cons rfl (.nil)))⟩⟩,⟨tpY3,rfl,fun H=>.inr ⟨_,_,_,pLY3,rfl,rfl,by show 3≤sizeLine;decide,.cons ⟨_,rfl⟩ (.cons ⟨_,rfl⟩ (.cons rfl (.nil)))⟩⟩,⟨tpY4,rfl,fun H=>.inr ⟨_,_,_,pLY4,rfl,rfl,by show 3≤sizeLine;decide,.cons ⟨_,rfl⟩ (.cons ⟨_,rfl⟩ (.cons rfl (.nil)))⟩⟩,⟨tpY5,rfl,fun H=>.inr ⟨_,_,_,pLY5,rfl,rfl,by show 3≤sizeLine;decide,.cons ⟨_,rfl⟩ (.cons ⟨_,rfl⟩ (.cons rfl (.nil)))⟩⟩,⟨tpY6,rfl,fun H=>.inr ⟨_,_,_,pLY6,rfl,rfl,by show 3≤sizeLine;decide,.cons ⟨_,rfl⟩ (.cons ⟨_,rfl⟩ (.cons rfl (.nil)))⟩⟩,⟨tpY7,rfl,fun H=>.inr ⟨_,_,_,pLY7,rfl,rfl,by show 3≤sizeLine;decide,.cons ⟨_,rfl⟩ (.cons ⟨_,rfl⟩ (.cons rfl (.nil)))⟩⟩,⟨tpY8,rfl,fun H=>.inr ⟨_,_,_,pLY8,rfl,rfl,by show 3≤sizeLine;decide,.cons ⟨_,rfl⟩ (.cons ⟨_,rfl⟩ (.cons rfl (.nil)))⟩⟩,⟨tpY9,rfl,fun H=>.inr ⟨_,_,_,pLY9,rfl,rfl,by show 3≤sizeLine;decide,.cons ⟨_,rfl⟩ (.cons ⟨_,rfl⟩ (.cons rfl (.nil)))⟩⟩,⟨tpY10,rfl,fun H=>.inr ⟨_,_,_,pLY10,rfl,rfl,by show 3≤sizeLine;decide,.cons ⟨_,rfl⟩ (.cons ⟨_,rfl⟩ (.cons rfl (.nil)))⟩⟩,⟨tpY11,rfl,fun H=>.inr ⟨_,_,_,pLY11,rfl,rfl,by show 3≤sizeLine;decide,.cons ⟨_,rfl⟩ (.cons ⟨_,rfl⟩ (.cons rfl (.nil)))⟩⟩,⟨tpY12,rfl,fun H=>.inr ⟨_,_,_,pLY12,rfl,rfl,by show 3≤sizeLine;decide,.cons ⟨_,rfl⟩ (.cons ⟨_,rfl⟩ (.cons rfl (.nil)))⟩⟩,⟨tpY13,rfl,fun H=>.inr ⟨_,_,_,pLY13,rfl,rfl,by show 3≤sizeLine;decide,.cons ⟨_,rfl⟩ (.cons ⟨_,rfl⟩ (.cons rfl (.nil)))⟩⟩,⟨tpY14,rfl,fun H=>.inr ⟨_,_,_,pLY14,rfl,rfl,by show 3≤sizeLine;decide,.cons ⟨_,rfl⟩ (.cons ⟨_,rfl⟩ (.cons rfl (.nil)))⟩⟩,⟨tpY15,rfl,fun H=>.inr ⟨_,_,_,pLY15,rfl,rfl,by show 3≤sizeLine;decide,.cons ⟨_,rfl⟩ (.cons ⟨_,rfl⟩ (.cons rfl (.nil)))⟩⟩,⟨tpY16,rfl,fun H=>.inr ⟨_,_,_,pLY16,rfl,rfl,by show 3≤sizeLine;decide,.cons ⟨_,rfl⟩ (.cons ⟨_,rfl⟩ (.cons rfl (.nil)))⟩⟩,⟨tpY17,rfl,fun H=>.inr ⟨_,_,_,pLY17,rfl,rfl,by show 3≤sizeLine;decide,.cons ⟨_,rfl⟩ (.cons ⟨_,rfl⟩ (.cons rfl (.nil)))⟩⟩⟩⟩
end Sh
end
section
namespace Sh
open PySem PySem.Spec PyProof.Rows L2
theorem tbl_at {P:Program} {w:World} {K:PySem.W.Frag} {mg:Str→Option Value} {base:Heap} {T:Ad} (Y:Tx K mg T) {kvs:List (Int × V)} (h0:∃ tp,valV kvs (0)=some (.ref tp)∧∀ H,SqT K H tp [.int (3),.int (0),.ref T.f_answer_node]) (h1:∃ tp,valV kvs (1)=some (.ref tp)∧∀ H,SqT K H tp [.int (2),.int (0),.ref T.f_answer_line]) (h2:∃ tp,valV kvs (2)=some (.ref tp)∧∀ H,SqT K H tp [.int (3),.int (0),.ref T.f_answer_set]) (h3:∃ tp,valV kvs (3)=some (.ref tp)∧∀ H,SqT K H tp [.int (1),.int (0),.ref T.f_answer_unline]) (h4:∃ tp,valV kvs (4)=some (.ref tp)∧∀ H,SqT K H tp [.int (0),.int (0),.ref T.f_answer_clear]) (h5:∃ tp,valV kvs (5)=some (.ref tp)∧∀ H,SqT K H tp [.int (0),.int (0),.ref T.f_answer_graph]) (h6:∃ tp,valV kvs (6)=some (.ref tp)∧∀ H,SqT K H tp [.int (1),.int (0),.ref T.f_answer_fill]) (h7:∃ tp,valV kvs (7)=some (.ref tp)∧∀ H,SqT K H tp [.int (0),.int (0),.ref T.f_answer_reach]) (h8:∃ tp,valV kvs (8)=some (.ref tp)∧∀ H,SqT K H tp [.int (0),.int (1),.ref T.f_answer_reach_if]) (h9:∃ tp,valV kvs (9)=some (.ref tp)∧∀ H,SqT K H tp [.int (1),.int (0),.ref T.f_answer_least]) (h10:∃ tp,valV kvs (10)=some (.ref tp)∧∀ H,SqT K H tp [.int (1),.int (0),.ref T.f_answer_tight]) (h11:∃ tp,valV kvs (11)=some (.ref tp)∧∀ H,SqT K H tp [.int (1),.int (0),.ref T.f_answer_nearest]) (h12:∃ tp,valV kvs (12)=some (.ref tp)∧∀ H,SqT K H tp [.int (1),.int (0),.ref T.f_answer_furthest]) (h13:∃ tp,valV kvs (13)=some (.ref tp)∧∀ H,SqT K H tp [.int (1),.int (1),.ref T.f_answer_cuts]) (h14:∃ tp,valV kvs (14)=some (.ref tp)∧∀ H,SqT K H tp [.int (1),.int (1),.ref T.f_answer_ways]) (h15:∃ tp,valV kvs (15)=some (.ref tp)∧∀ H,SqT K H tp [.int (1),.int (0),.ref T.f_answer_needed]) (h16:∃ tp,valV kvs (16)=some (.ref tp)∧∀ H,SqT K H tp [.int (0),.int (0),.ref T.f_answer_all]) (h17:∃ tp,valV kvs (17)=some (.ref tp)∧∀ H,SqT K H tp [.int (0),.int (0),.ref T.f_answer_weakest])
    (p:Int) (n k:Nat) (hs:PyVbsgad.shape p=some (n,k)):∃ tp f fd,valV kvs p=some (.ref tp)∧(∀ H,SqT K H tp [.int (n:Nat),.int (k:Nat),.ref f]) ∧
    FnOk P w K mg base CX0 9 f fd ["network","arguments"] (if k=0 then spA0 T p n else spA1 T p n)∧PySem.W.keepIn K (.ref f)=true∧Binds K fd ["network","arguments"] []:=by
  have m:=Th.shape_mem hs
  clear hs
  unfold Th.shapes at m
  rcases List.mem_cons.mp m with e | m
  · obtain ⟨tp,e1,e2⟩:=h0
    cases e
    exact ⟨tp,T.f_answer_node,T.d_answer_node,e1,e2,(ok_answer_node Y).mono (by decide),Y.F_answer_node.kp,Y.B_answer_node⟩
  rcases List.mem_cons.mp m with e | m
  · obtain ⟨tp,e1,e2⟩:=h1
    cases e
    exact ⟨tp,T.f_answer_line,T.d_answer_line,e1,e2,(ok_answer_line Y).mono (by decide),Y.F_answer_line.kp,Y.B_answer_line⟩
  rcases List.mem_cons.mp m with e | m
  · obtain ⟨tp,e1,e2⟩:=h2
    cases e
    exact ⟨tp,T.f_answer_set,T.d_answer_set,e1,e2,(ok_answer_set Y).mono (by decide),Y.F_answer_set.kp,Y.B_answer_set⟩
  rcases List.mem_cons.mp m with e | m
  · obtain ⟨tp,e1,e2⟩:=h3
    cases e
    exact ⟨tp,T.f_answer_unline,T.d_answer_unline,e1,e2,(ok_answer_unline Y).mono (by decide),Y.F_answer_unline.kp,Y.B_answer_unline⟩
  rcases List.mem_cons.mp m with e | m
  · obtain ⟨tp,e1,e2⟩:=h4
    cases e
    exact ⟨tp,T.f_answer_clear,T.d_answer_clear,e1,e2,(ok_answer_clear Y).mono (by decide),Y.F_answer_clear.kp,Y.B_answer_clear⟩
  rcases List.mem_cons.mp m with e | m
  · obtain ⟨tp,e1,e2⟩:=h5
    cases e
    exact ⟨tp,T.f_answer_graph,T.d_answer_graph,e1,e2,(ok_answer_graph Y).mono (by decide),Y.F_answer_graph.kp,Y.B_answer_graph⟩
  rcases List.mem_cons.mp m with e | m
  · obtain ⟨tp,e1,e2⟩:=h6
    cases e
    exact ⟨tp,T.f_answer_fill,T.d_answer_fill,e1,e2,(ok_answer_fill Y).mono (by decide),Y.F_answer_fill.kp,Y.B_answer_fill⟩
  rcases List.mem_cons.mp m with e | m
  · obtain ⟨tp,e1,e2⟩:=h7
    cases e
    exact ⟨tp,T.f_answer_reach,T.d_answer_reach,e1,e2,(ok_answer_reach Y).mono (by decide),Y.F_answer_reach.kp,Y.B_answer_reach⟩
  rcases List.mem_cons.mp m with e | m
  · obtain ⟨tp,e1,e2⟩:=h8
    cases e
    exact ⟨tp,T.f_answer_reach_if,T.d_answer_reach_if,e1,e2,(ok_answer_reach_if Y).mono (by decide),Y.F_answer_reach_if.kp,Y.B_answer_reach_if⟩
  rcases List.mem_cons.mp m with e | m
  · obtain ⟨tp,e1,e2⟩:=h9
    cases e
    exact ⟨tp,T.f_answer_least,T.d_answer_least,e1,e2,(ok_answer_least Y).mono (by decide),Y.F_answer_least.kp,Y.B_answer_least⟩
  rcases List.mem_cons.mp m with e | m
  · obtain ⟨tp,e1,e2⟩:=h10
    cases e
    exact ⟨tp,T.f_answer_tight,T.d_answer_tight,e1,e2,(ok_answer_tight Y).mono (by decide),Y.F_answer_tight.kp,Y.B_answer_tight⟩
  rcases List.mem_cons.mp m with e | m
  · obtain ⟨tp,e1,e2⟩:=h11
    cases e
    exact ⟨tp,T.f_answer_nearest,T.d_answer_nearest,e1,e2,(ok_answer_nearest Y).mono (by decide),Y.F_answer_nearest.kp,Y.B_answer_nearest⟩
  rcases List.mem_cons.mp m with e | m
  · obtain ⟨tp,e1,e2⟩:=h12
    cases e
    exact ⟨tp,T.f_answer_furthest,T.d_answer_furthest,e1,e2,(ok_answer_furthest Y).mono (by decide),Y.F_answer_furthest.kp,Y.B_answer_furthest⟩
  rcases List.mem_cons.mp m with e | m
  · obtain ⟨tp,e1,e2⟩:=h13
    cases e
    exact ⟨tp,T.f_answer_cuts,T.d_answer_cuts,e1,e2,(ok_answer_cuts Y).mono (by decide),Y.F_answer_cuts.kp,Y.B_answer_cuts⟩
  rcases List.mem_cons.mp m with e | m
  · obtain ⟨tp,e1,e2⟩:=h14
    cases e
    exact ⟨tp,T.f_answer_ways,T.d_answer_ways,e1,e2,(ok_answer_ways Y).mono (by decide),Y.F_answer_ways.kp,Y.B_answer_ways⟩
  rcases List.mem_cons.mp m with e | m
  · obtain ⟨tp,e1,e2⟩:=h15
    cases e
    exact ⟨tp,T.f_answer_needed,T.d_answer_needed,e1,e2,(ok_answer_needed Y).mono (by decide),Y.F_answer_needed.kp,Y.B_answer_needed⟩
  rcases List.mem_cons.mp m with e | m
  · obtain ⟨tp,e1,e2⟩:=h16
    cases e
    exact ⟨tp,T.f_answer_all,T.d_answer_all,e1,e2,(ok_answer_all Y).mono (by decide),Y.F_answer_all.kp,Y.B_answer_all⟩
  rcases List.mem_cons.mp m with e | m
  · obtain ⟨tp,e1,e2⟩:=h17
    cases e
    exact ⟨tp,T.f_answer_weakest,T.d_answer_weakest,e1,e2,(ok_answer_weakest Y).mono (by decide),Y.F_answer_weakest.kp,Y.B_answer_weakest⟩
  cases m
end Sh
end
section
namespace Hd
open PySem PySem.W PySem.Calls PyProof.Rows
noncomputable def runT (tb:String→Option Builtin) (p:Program) (w:World) (n₀:Nat) (ann:Option Value) (n:Nat):SharedT→Thread→Option SharedT :=
  Nat.rec (fun _ _=>none) (fun _ ih s t=>match through t with
    | true=>some s
    | false=>match stepOk n₀ ann t with
      | false=>none
      | true=>match stepT (denote tb) p w s t with
        | some (s',t')=>ih s' t'
        | none=>none) n
theorem runT_spec {tb:String→Option Builtin} {p:Program} {w:World} {n₀:Nat} {ann:Option Value}:∀ (n:Nat) {s r:SharedT} {t:Thread},runT tb p w n₀ ann n s t=some r→topRun tb p w n₀ ann n s.abs t=some r.abs
  | 0,_,_,_,h=>by cases h
  | n + 1,s,r,t,h=>by
    have h':(match through t with
      | true=>some s
      | false=>match stepOk n₀ ann t with
        | false=>none
        | true=>match stepT (denote tb) p w s t with
          | some (s',t')=>runT tb p w n₀ ann n s' t'
          | none=>none)=some r:=h
    clear h
    unfold topRun
    cases ht:through t with
    | true=>rw [ht] at h';cases h';rfl
    | false =>
      rw [ht] at h'
      cases hk:stepOk n₀ ann t with
      | false=>rw [hk] at h';cases h'
      | true =>
        rw [hk] at h'
        cases hs:stepT (denote tb) p w s t with
        | none=>rw [hs] at h';cases h'
        | some x =>
          obtain ⟨s2,t2⟩:=x
          rw [hs] at h'
          rw [stepT_spec hs]
          exact runT_spec n h'
def mkT (l:List Obj):Nat→Nat→Nat→BT
  | 0,_,_=>.nil
  | f + 1,a,b=>match l[b]? with
    | some o=>.node o (mkT l f (2 * a) (a + b)) (mkT l f (2 * a) (2 * a + b))
    | none=>.nil
noncomputable def runF (p:Program) (w:World) (n₀:Nat) (ann:Option Value) (n:Nat):SharedT→Thread→Option SharedT :=
  Nat.rec (fun _ _=>none) (fun _ ih s t=>match through t with
    | true=>some s
    | false=>match PySem.W.Fast.tw6613529449190102663 n₀ ann t with
      | false=>none
      | true=>match PySem.W.Fast.tw10156331382660048174 (PySem.W.Fast.tw11892475500146522536 PySem.W.Fast.tw14364793385576792824) p w s t with
        | some (s',t')=>ih s' t'
        | none=>none) n
theorem runF_eq (p:Program) (w:World) (n₀:Nat) (ann:Option Value) (n:Nat):runT treeTable p w n₀ ann n=runF p w n₀ ann n:=by
  unfold runT runF
  rw [PySem.W.Fast.te6613529449190102663,PySem.W.Fast.te10156331382660048174,PySem.W.Fast.te11892475500146522536,PySem.W.Fast.te14364793385576792824]
abbrev RunOk (p q:Program) (loose:List Str) (Xt:Shared→Bool) (K:Params→Frag) (N m₀ k₀:Nat) (H₀:Params→Heap) (d₀:Drawn) (ann:Option Value) (w:World):Prop :=
  (fun os=>(runF p w m₀ ann N ⟨mkT (H₀ w.params).objs.toList 9 1 0,m₀,(H₀ w.params).life,Array.mk [],d₀,k₀,os⟩ (topStub p)).map (fun s =>
    ((staticsOk (PySem.W.Fast.tw5923862056798008813 p.main.body) (H₀ w.params) s.abs.heap && namesBound p s.abs.heap && gensDone s.abs && laidKept (H₀ w.params) s.abs.heap),
      PySem.W.Fast.tw4187177175401517315 q loose (PySem.W.Fast.tw5923862056798008813 p.main.body) Xt true s.abs,List.map (fun x=>s.abs.heap.get? x.1) (K w.params))))=fun _=>some (true,openGood q loose,List.map (fun x=>some x.2) (K w.params))
theorem left_of {p q:Program} {loose:List Str} {Xt:Shared→Bool} {K:Params→Frag} {as:List Addr} {e:∀ P,as=(K P).map (·.1)} {N m₀ k₀:Nat} {H₀:Params→Heap} {d₀:Drawn} {ann:Option Value}
    (hO:∀ w:World,(fencedOpening treeTable p w N).map (fun s=>(s.heap,s.gens,s.drawn,s.toks))=some (H₀ w.params,Array.mk [],d₀,k₀))
    (hG:∀ w:World,(H₀ w.params).isNs mainGlobals=true) (hS:∀ w:World,(H₀ w.params).objs.size=m₀) (hA:∀ w:World,(H₀ w.params).nsMap mainGlobals "__annotations__"=ann)
    (hT:∀ w:World,absHeap (mkT (H₀ w.params).objs.toList 9 1 0) m₀ (H₀ w.params).life=H₀ w.params)
    (hR:∀ w:World,RunOk p q loose Xt K N m₀ k₀ H₀ d₀ ann w) :
    LeftO p q loose Xt (Hook.obs (kHook K as e)) (Hook.val (kHook K as e)) N:=fun w=>by
  obtain ⟨s0,e0,e1⟩:=Option.map_eq_some_iff.mp (hO w)
  obtain ⟨h,gs,d,k,os⟩:=s0
  have e2:(h,gs,d,k)=(H₀ w.params,Array.mk [],d₀,k₀):=e1
  cases e2
  obtain ⟨s1,r1,l⟩:=Option.map_eq_some_iff.mp (congrFun (hR w) os)
  rw [← PySem.W.Fast.te5923862056798008813,← PySem.W.Fast.te4187177175401517315] at l
  have l1:=congrArg Prod.fst l
  have l2:=congrArg (fun x=>x.2.1) l
  have l3:=congrArg (fun x=>x.2.2) l
  clear l
  dsimp only at l1 l2 l3
  have r:=runT_spec N ((congrFun (congrFun (runF_eq p w m₀ ann N) _) _).trans r1)
  have eA:SharedT.abs ⟨mkT (H₀ w.params).objs.toList 9 1 0,m₀,(H₀ w.params).life,Array.mk [],d₀,k₀,os⟩=⟨H₀ w.params,Array.mk [],d₀,k₀,os⟩:=congrArg (fun z=>Shared.mk z _ _ _ _) (hT w)
  rw [eA] at r
  have t:topFrom treeTable p w N ⟨H₀ w.params,Array.mk [],d₀,k₀,os⟩=some s1.abs:=by
    unfold topFrom
    simp only [hG w,hS w,hA w,r,Option.bind_some,l1]
    rfl
  have o:openEnds treeTable p w N=some s1.abs:=by
    unfold openEnds
    rw [e0]
    exact t
  rw [o]
  refine congrArg some (Prod.ext l2 ?_)
  show as.map s1.abs.heap.get?=(K w.params).map fun x=>some x.2
  rw [← l3,e w.params,List.map_map]
  rfl
end Hd
end
open PySem PySem.W PyProof.Rows
namespace Hd
abbrev pw:=PySem.Challenge.pw_shutoff_s01_answers
abbrev rw_:=PySem.Challenge.rw_shutoff_s01_answers
def viewQ:Program:={ pw with main:={ pw.main with body:=(pw.main.body.drop 67).take 1 } }
def loose:List Str:=List.map Str.ofString ["Flow","nodes_come_to","reached_nodes","needed_nodes","PLENTY","is_cut_off","stops_to_fill","room_at","least_price","least_number","tight_stops","nearest_stops","furthest_stops","weakest_stop","MOST_NODES","MOST_LINES","MOST_FREE","Node","Network","NO_SUCH_NODE","OUT_OF_RANGE","NOT_THAT_KIND","NO_MORE_ROOM","NO_SUCH_LINE","THERE_TWICE","JOINED_ALREADY","BADLY_TOLD_WAYS","NOTHING_WRONG","NO_BASE_AT_ITS_BEGINNING","NO_GOAL_AT_ITS_END","NOT_JOINED","SAME_NODE_AGAIN","NO_WAY_THROUGH","ways_of_row","begins_at_base","lets_through","wrong_of_way","crowded_stop","are_in_range","counted","row_refusal","answer_node","answer_line","answer_set","answer_unline","answer_clear","answer_graph","answer_fill","answer_reach","answer_reach_if","told_least","answer_least","answer_tight","answer_nearest","answer_furthest","answer_cuts","answer_ways","answer_needed","answer_all","answer_weakest","CALLS"]
section
local macro_rules | `(tactic| o_headS $H)=>`(tactic| contradiction)
theorem k (h:False):rw_.Holds:=by k_headS
end
abbrev Xt (s:Shared):Bool:=xlAt viewQ [] s && recOk [] s
theorem b0:∀ w:World,RunOk pw viewQ loose Xt k.heap_1 2790 11 boot_toks boot_heap boot_drawn (some (.ref 6)) (w.withFollow "special-get-raises" false):=fun w=>by kernel_rfl
theorem b1:∀ w:World,RunOk pw viewQ loose Xt k.heap_1 2790 11 boot_toks boot_heap boot_drawn (some (.ref 6)) (w.withFollow "special-get-raises" true):=fun w=>by kernel_rfl
def as:List Addr:=(List.range 412).filter (Nat.testBit 0xdb7ffffb73b76e76eddbb76eddbb76eddbb76edceddb9ceddb93f9dbb76ed007f6edda036e73b76e76e739ce4fedce76e40000c)
theorem as_eq (P:Params):as=(k.heap_1 P).map (·.1):=by kernel_rfl
theorem well:rw_.wellSaid=true:=by decide +kernel
theorem left:LeftO rw_.prog viewQ loose Xt (Hook.obs (kHook k.heap_1 as as_eq)) (Hook.val (kHook k.heap_1 as as_eq)) 2790 :=
  left_of (H₀:=boot_heap) (boot_open (by kernel_rfl) (by decide +kernel) (fun s=>by kernel_rfl)) (fun w=>by kernel_rfl) (fun w=>by kernel_rfl) (fun w=>by kernel_rfl) (fun w=>by kernel_rfl) (byRow2 "special-get-raises" b0 b1)
end Hd
set_option maxRecDepth 100000 in
set_option maxHeartbeats 0 in
theorem PySem.Challenge.cw_shutoff_s01_answers_holds : PySem.Challenge.rw_shutoff_s01_answers.Holds := by
  w_on
  refine holds_os (XP:=XL Hd.viewQ []) (YP:=Hook.says (kHook Hd.k.heap_1 Hd.as Hd.as_eq)) Hd.left (Hook.of (kHook Hd.k.heap_1 Hd.as Hd.as_eq)) (Hook.keeps (kHook Hd.k.heap_1 Hd.as Hd.as_eq)) (fun s e=>xl_of s (Bool.and_eq_true_iff.mp e).1) XL.keeps (by rfl) (by rfl) (by rfl) (fun s e=>recFacts_of (Bool.and_eq_true_iff.mp e).2) os_shapes Hd.well (by decide +kernel) ⟨rfl,rfl,rfl,rfl,rfl,by decide +kernel⟩ ⟨[.list [.int 4]],by decide +kernel,by decide +kernel⟩ ?_
  k_fillS
  refine L2.walk_specK (r:=PySem.Challenge.rw_shutoff_s01_answers) (k:=11) (CX:=L2.CX0) (ps:=["calls"]) (sp:=Sh.sp_answers) Hd.well rfl rfl ⟨rfl,by decide,by decide⟩ (fun w h Y=>PySem.W.kIn_of Y) ?F ?S (fun _ _ _ _ z=>z)
  case F =>
    intro w mg fa h Y KX G hmg
    have z:Sh.Made (L2.KOf KX) mg:=by
     dsimp only [L2.KOf]
     refine' Sh.tx_mk KX G ?p_ac_Flow ?p_ac_Node ?p_ac_Network ?paZ14 ?piZ14 ?plZ14 ?pcZ14 ?pkZ14 ?paZ22 ?piZ22 ?plZ22 ?pcZ22 ?pkZ22 ?paZ1 ?piZ1 ?plZ1 ?pcZ1 ?pkZ1 ?paZ7 ?piZ7 ?plZ7 ?pcZ7 ?pkZ7 ?paZ49 ?piZ49 ?plZ49 ?pcZ49 ?pkZ49 ?paZ15 ?plZ15 ?pcZ15 ?pkZ15 ?paZ16 ?plZ16 ?pcZ16 ?pkZ16 ?paZ23 ?plZ23 ?pcZ23 ?pkZ23 ?paZ45 ?plZ45 ?pcZ45 ?pkZ45 ?paZ17 ?plZ17 ?pcZ17 ?pkZ17 ?paZ50 ?plZ50 ?pcZ50 ?pkZ50 ?paZ36 ?plZ36 ?pcZ36 ?pkZ36 ?paZ24 ?plZ24 ?pcZ24 ?pkZ24 ?paZ37 ?plZ37 ?pcZ37 ?pkZ37 ?paZ18 ?plZ18 ?pcZ18 ?pkZ18 ?paZ10 ?plZ10 ?pcZ10 ?pkZ10 ?paZ25 ?plZ25 ?pcZ25 ?pkZ25 ?paZ19 ?piZ19 ?plZ19 ?pcZ19 ?pkZ19 ?paZ26 ?piZ26 ?plZ26 ?pcZ26 ?pkZ26 ?paZ0 ?piZ0 ?plZ0 ?pcZ0 ?pkZ0 ?paZ4 ?piZ4 ?plZ4 ?pcZ4 ?pkZ4 ?paZ5 ?piZ5 ?plZ5 ?pcZ5 ?pkZ5 ?paZ6 ?piZ6 ?plZ6 ?pcZ6 ?pkZ6 ?paZ2 ?piZ2 ?plZ2 ?pcZ2 ?pkZ2 ?paZ3 ?piZ3 ?plZ3 ?pcZ3 ?pkZ3 ?paZ38 ?plZ38 ?pcZ38 ?pkZ38 ?paZ11 ?plZ11 ?pcZ11 ?pkZ11 ?paZ27 ?plZ27 ?pcZ27 ?pkZ27 ?paZ28 ?plZ28 ?pcZ28 ?pkZ28 ?paZ29 ?plZ29 ?pcZ29 ?pkZ29 ?paZ30 ?plZ30 ?pcZ30 ?pkZ30 ?paZ51 ?plZ51 ?pcZ51 ?pkZ51 ?paZ39 ?plZ39 ?pcZ39 ?pkZ39 ?paZ40 ?plZ40 ?pcZ40 ?pkZ40 ?paZ41 ?plZ41 ?pcZ41 ?pkZ41 ?paZ46 ?plZ46 ?pcZ46 ?pkZ46 ?paZ20 ?plZ20 ?pcZ20 ?pkZ20 ?paZ31 ?plZ31 ?pcZ31 ?pkZ31 ?paZ32 ?plZ32 ?pcZ32 ?pkZ32 ?paZ42 ?plZ42 ?pcZ42 ?pkZ42 ?paZ33 ?plZ33 ?pcZ33 ?pkZ33 ?paZ8 ?plZ8 ?pcZ8 ?pkZ8 ?paZ47 ?plZ47 ?pcZ47 ?pkZ47 ?paZ34 ?plZ34 ?pcZ34 ?pkZ34 ?paZ35 ?plZ35 ?pcZ35 ?pkZ35 ?paZ12 ?plZ12 ?pcZ12 ?pkZ12 ?paZ9 ?plZ9 ?pcZ9 ?pkZ9 ?paZ43 ?plZ43 ?pcZ43 ?pkZ43 ?paZ44 ?plZ44 ?pcZ44 ?pkZ44 ?paZ21 ?plZ21 ?pcZ21 ?pkZ21 ?paZ48 ?plZ48 ?pcZ48 ?pkZ48 ?paZ13 ?plZ13 ?pcZ13 ?pkZ13 ?paZ52 ?plZ52 ?pcZ52 ?pkZ52 ?p_pg_Flow ?p_hd_Flow ?p_po_Flow ?p_sa_Flow ?p_mk_Flow ?p_kc_Flow ?p_na_Flow_leaving ?p_na_Flow_heads ?p_na_Flow_room ?p_pg_Node ?p_hd_Node ?p_po_Node ?p_sa_Node ?p_mk_Node ?p_kc_Node ?p_na_Node_stop ?p_na_Node_free ?p_na_Node_base ?p_pg_Network ?p_hd_Network ?p_po_Network ?p_sa_Network ?p_mk_Network ?p_kc_Network ?p_na_Network_nodes ?p_na_Network_lines ?p_g_PLENTY ?p_g_MOST_NODES ?p_g_MOST_LINES ?p_g_MOST_FREE ?p_g_NO_SUCH_NODE ?p_g_OUT_OF_RANGE ?p_g_NOT_THAT_KIND ?p_g_NO_MORE_ROOM ?p_g_NO_SUCH_LINE ?p_g_THERE_TWICE ?p_g_JOINED_ALREADY ?p_g_BADLY_TOLD_WAYS ?p_g_NOTHING_WRONG ?p_g_NO_BASE_AT_ITS_BEGINNING ?p_g_NO_GOAL_AT_ITS_END ?p_g_NOT_JOINED ?p_g_SAME_NODE_AGAIN ?p_g_NO_WAY_THROUGH ?p_z_len ?p_z_range ?p_z_enumerate ?p_z_zip ?p_z_min ?p_z_sum ?p_z_sorted ?p_z_list ?p_z_dict ?p_z_set ?p_z_any ?p_z_all ?p_gt_CALLS ?p_lt_CALLS ?pLY0 ?pLY1 ?pLY2 ?pLY3 ?pLY4 ?pLY5 ?pLY6 ?pLY7 ?pLY8 ?pLY9 ?pLY10 ?pLY11 ?pLY12 ?pLY13 ?pLY14 ?pLY15 ?pLY16 ?pLY17
     (case p_ac_Flow=>k_is)
     (case p_ac_Node=>k_is)
     (case p_ac_Network=>k_is)
     (case paZ14=>k_is)
     (case piZ14=>k_is)
     (case plZ14=>k_is)
     (case pcZ14=>k_is)
     (case pkZ14=>k_is)
     (case paZ22=>k_is)
     (case piZ22=>k_is)
     (case plZ22=>k_is)
     (case pcZ22=>k_is)
     (case pkZ22=>k_is)
     (case paZ1=>k_is)
     (case piZ1=>k_is)
     (case plZ1=>k_is)
     (case pcZ1=>k_is)
     (case pkZ1=>k_is)
     (case paZ7=>k_is)
     (case piZ7=>k_is)
     (case plZ7=>k_is)
     (case pcZ7=>k_is)
     (case pkZ7=>k_is)
     (case paZ49=>k_is)
     (case piZ49=>k_is)
     (case plZ49=>k_is)
     (case pcZ49=>k_is)
     (case pkZ49=>k_is)
     (case paZ15=>k_is)
     (case plZ15=>k_is)
     (case pcZ15=>k_is)
     (case pkZ15=>k_is)
     (case paZ16=>k_is)
     (case plZ16=>k_is)
     (case pcZ16=>k_is)
     (case pkZ16=>k_is)
     (case paZ23=>k_is)
     (case plZ23=>k_is)
     (case pcZ23=>k_is)
     (case pkZ23=>k_is)
     (case paZ45=>k_is)
     (case plZ45=>k_is)
     (case pcZ45=>k_is)
     (case pkZ45=>k_is)
     (case paZ17=>k_is)
     (case plZ17=>k_is)
     (case pcZ17=>k_is)
     (case pkZ17=>k_is)
     (case paZ50=>k_is)
     (case plZ50=>k_is)
     (case pcZ50=>k_is)
     (case pkZ50=>k_is)
     (case paZ36=>k_is)
     (case plZ36=>k_is)
     (case pcZ36=>k_is)
     (case pkZ36=>k_is)
     (case paZ24=>k_is)
     (case plZ24=>k_is)
     (case pcZ24=>k_is)
     (case pkZ24=>k_is)
     (case paZ37=>k_is)
     (case plZ37=>k_is)
     (case pcZ37=>k_is)
     (case pkZ37=>k_is)
     (case paZ18=>k_is)
     (case plZ18=>k_is)
     (case pcZ18=>k_is)
     (case pkZ18=>k_is)
     (case paZ10=>k_is)
     (case plZ10=>k_is)
     (case pcZ10=>k_is)
     (case pkZ10=>k_is)
     (case paZ25=>k_is)
     (case plZ25=>k_is)
     (case pcZ25=>k_is)
     (case pkZ25=>k_is)
     (case paZ19=>k_is)
     (case piZ19=>k_is)
     (case plZ19=>k_is)
     (case pcZ19=>k_is)
     (case pkZ19=>k_is)
     (case paZ26=>k_is)
     (case piZ26=>k_is)
     (case plZ26=>k_is)
     (case pcZ26=>k_is)
     (case pkZ26=>k_is)
     (case paZ0=>k_is)
     (case piZ0=>k_is)
     (case plZ0=>k_is)
     (case pcZ0=>k_is)
     (case pkZ0=>k_is)
     (case paZ4=>k_is)
     (case piZ4=>k_is)
     (case plZ4=>k_is)
     (case pcZ4=>k_is)
     (case pkZ4=>k_is)
     (case paZ5=>k_is)
     (case piZ5=>k_is)
     (case plZ5=>k_is)
     (case pcZ5=>k_is)
     (case pkZ5=>k_is)
     (case paZ6=>k_is)
     (case piZ6=>k_is)
     (case plZ6=>k_is)
     (case pcZ6=>k_is)
     (case pkZ6=>k_is)
     (case paZ2=>k_is)
     (case piZ2=>k_is)
     (case plZ2=>k_is)
     (case pcZ2=>k_is)
     (case pkZ2=>k_is)
     (case paZ3=>k_is)
     (case piZ3=>k_is)
     (case plZ3=>k_is)
     (case pcZ3=>k_is)
     (case pkZ3=>k_is)
     (case paZ38=>k_is)
     (case plZ38=>k_is)
     (case pcZ38=>k_is)
     (case pkZ38=>k_is)
     (case paZ11=>k_is)
     (case plZ11=>k_is)
     (case pcZ11=>k_is)
     (case pkZ11=>k_is)
     (case paZ27=>k_is)
     (case plZ27=>k_is)
     (case pcZ27=>k_is)
     (case pkZ27=>k_is)
     (case paZ28=>k_is)
     (case plZ28=>k_is)
     (case pcZ28=>k_is)
     (case pkZ28=>k_is)
     (case paZ29=>k_is)
     (case plZ29=>k_is)
     (case pcZ29=>k_is)
     (case pkZ29=>k_is)
     (case paZ30=>k_is)
     (case plZ30=>k_is)
     (case pcZ30=>k_is)
     (case pkZ30=>k_is)
     (case paZ51=>k_is)
     (case plZ51=>k_is)
     (case pcZ51=>k_is)
     (case pkZ51=>k_is)
     (case paZ39=>k_is)
     (case plZ39=>k_is)
     (case pcZ39=>k_is)
     (case pkZ39=>k_is)
     (case paZ40=>k_is)
     (case plZ40=>k_is)
     (case pcZ40=>k_is)
     (case pkZ40=>k_is)
     (case paZ41=>k_is)
     (case plZ41=>k_is)
     (case pcZ41=>k_is)
     (case pkZ41=>k_is)
     (case paZ46=>k_is)
     (case plZ46=>k_is)
     (case pcZ46=>k_is)
     (case pkZ46=>k_is)
     (case paZ20=>k_is)
     (case plZ20=>k_is)
     (case pcZ20=>k_is)
     (case pkZ20=>k_is)
     (case paZ31=>k_is)
     (case plZ31=>k_is)
     (case pcZ31=>k_is)
     (case pkZ31=>k_is)
     (case paZ32=>k_is)
     (case plZ32=>k_is)
     (case pcZ32=>k_is)
     (case pkZ32=>k_is)
     (case paZ42=>k_is)
     (case plZ42=>k_is)
     (case pcZ42=>k_is)
     (case pkZ42=>k_is)
     (case paZ33=>k_is)
     (case plZ33=>k_is)
     (case pcZ33=>k_is)
     (case pkZ33=>k_is)
     (case paZ8=>k_is)
     (case plZ8=>k_is)
     (case pcZ8=>k_is)
     (case pkZ8=>k_is)
     (case paZ47=>k_is)
     (case plZ47=>k_is)
     (case pcZ47=>k_is)
     (case pkZ47=>k_is)
     (case paZ34=>k_is)
     (case plZ34=>k_is)
     (case pcZ34=>k_is)
     (case pkZ34=>k_is)
     (case paZ35=>k_is)
     (case plZ35=>k_is)
     (case pcZ35=>k_is)
     (case pkZ35=>k_is)
     (case paZ12=>k_is)
     (case plZ12=>k_is)
     (case pcZ12=>k_is)
     (case pkZ12=>k_is)
     (case paZ9=>k_is)
     (case plZ9=>k_is)
     (case pcZ9=>k_is)
     (case pkZ9=>k_is)
     (case paZ43=>k_is)
     (case plZ43=>k_is)
     (case pcZ43=>k_is)
     (case pkZ43=>k_is)
     (case paZ44=>k_is)
     (case plZ44=>k_is)
     (case pcZ44=>k_is)
     (case pkZ44=>k_is)
     (case paZ21=>k_is)
     (case plZ21=>k_is)
     (case pcZ21=>k_is)
     (case pkZ21=>k_is)
     (case paZ48=>k_is)
     (case plZ48=>k_is)
     (case pcZ48=>k_is)
     (case pkZ48=>k_is)
     (case paZ13=>k_is)
     (case plZ13=>k_is)
     (case pcZ13=>k_is)
     (case pkZ13=>k_is)
     (case paZ52=>k_is)
     (case plZ52=>k_is)
     (case pcZ52=>k_is)
     (case pkZ52=>k_is)
     (case p_pg_Flow=>k_is)
     (case p_hd_Flow=>k_is)
     (case p_po_Flow=>k_is)
     (case p_sa_Flow=>k_is)
     (case p_mk_Flow=>k_is)
     (case p_kc_Flow=>k_is)
     (case p_na_Flow_leaving=>k_is)
     (case p_na_Flow_heads=>k_is)
     (case p_na_Flow_room=>k_is)
     (case p_pg_Node=>k_is)
     (case p_hd_Node=>k_is)
     (case p_po_Node=>k_is)
     (case p_sa_Node=>k_is)
     (case p_mk_Node=>k_is)
     (case p_kc_Node=>k_is)
     (case p_na_Node_stop=>k_is)
     (case p_na_Node_free=>k_is)
     (case p_na_Node_base=>k_is)
     (case p_pg_Network=>k_is)
     (case p_hd_Network=>k_is)
     (case p_po_Network=>k_is)
     (case p_sa_Network=>k_is)
     (case p_mk_Network=>k_is)
     (case p_kc_Network=>k_is)
     (case p_na_Network_nodes=>k_is)
     (case p_na_Network_lines=>k_is)
     (case p_g_PLENTY=>k_is)
     (case p_g_MOST_NODES=>k_is)
     (case p_g_MOST_LINES=>k_is)
     (case p_g_MOST_FREE=>k_is)
     (case p_g_NO_SUCH_NODE=>k_is)
     (case p_g_OUT_OF_RANGE=>k_is)
     (case p_g_NOT_THAT_KIND=>k_is)
     (case p_g_NO_MORE_ROOM=>k_is)
     (case p_g_NO_SUCH_LINE=>k_is)
     (case p_g_THERE_TWICE=>k_is)
     (case p_g_JOINED_ALREADY=>k_is)
     (case p_g_BADLY_TOLD_WAYS=>k_is)
     (case p_g_NOTHING_WRONG=>k_is)
     (case p_g_NO_BASE_AT_ITS_BEGINNING=>k_is)
     (case p_g_NO_GOAL_AT_ITS_END=>k_is)
     (case p_g_NOT_JOINED=>k_is)
     (case p_g_SAME_NODE_AGAIN=>k_is)
     (case p_g_NO_WAY_THROUGH=>k_is)
     (case p_z_len=>k_is)
     (case p_z_range=>k_is)
     (case p_z_enumerate=>k_is)
     (case p_z_zip=>k_is)
     (case p_z_min=>k_is)
     (case p_z_sum=>k_is)
     (case p_z_sorted=>k_is)
     (case p_z_list=>k_is)
     (case p_z_dict=>k_is)
     (case p_z_set=>k_is)
     (case p_z_any=>k_is)
     (case p_z_all=>k_is)
     (case p_gt_CALLS=>k_is)
     (case p_lt_CALLS=>k_is)
     (case pLY0=>k_is)
     (case pLY1=>k_is)
     (case pLY2=>k_is)
     (case pLY3=>k_is)
     (case pLY4=>k_is)
     (case pLY5=>k_is)
     (case pLY6=>k_is)
     (case pLY7=>k_is)
     (case pLY8=>k_is)
     (case pLY9=>k_is)
     (case pLY10=>k_is)
     (case pLY11=>k_is)
     (case pLY12=>k_is)
     (case pLY13=>k_is)
     (case pLY14=>k_is)
     (case pLY15=>k_is)
     (case pLY16=>k_is)
     (case pLY17=>k_is)
    obtain ⟨T,Y1,hb,dC,hC,hT⟩:=z
    have e:=hmg.symm.trans Y1.G_answers
    cases e
    refine ⟨T.d_answers,hb,fun base kb nb=>?_⟩
    obtain ⟨kvs,hkd,h0,h1,h2,h3,h4,h5,h6,h7,h8,h9,h10,h11,h12,h13,h14,h15,h16,h17⟩:=hT PySem.Challenge.rw_shutoff_s01_answers.prog w
    exact Sh.ok_answers Y1 (dC:=dC) (kvs:=kvs) ⟨hC,hkd,Sh.tbl_at Y1 h0 h1 h2 h3 h4 h5 h6 h7 h8 h9 h10 h11 h12 h13 h14 h15 h16 h17⟩
  case S =>
    intro K H xs a hO hwi hask hx
    cases hx with
    | cons h1 h2 =>
      cases h2
      cases h1 with
      | lst hs ha =>
        have e:=L2.ints_dw a.1 _ ha
        subst e
        have q:((Codec.inLen 0 30000 a.1 && a.1.all (Codec.inInt (-2147483648) 2147483647)) && true)=true:=hwi
        rw [Bool.and_eq_true,Bool.and_eq_true] at q
        exact ⟨_,a.1,rfl,hs,(Codec.inNat_iff.mp q.1.1).2,hask,fun H' p hp=>.lst (L2.SqL.of hp) (L2.dw_ints _)⟩
