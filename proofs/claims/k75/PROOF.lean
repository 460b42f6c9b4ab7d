import PyProof.Rows.All
import Wide.All
import OpenK.AllK
import Wide.FinOn
import Lean
import PyProof.EqAt
import PyProof.EqKinds
import PyProof.TupleCall
import PySem.Challenge.RW_outweave_k75_patches_both_ways
set_option Elab.async false
set_option linter.all false
set_option maxRecDepth 100000
set_option maxHeartbeats 4000000
section
open PySem PyProof.Rows
abbrev za:=@wpAny_bind
abbrev zb:=@Nat.le_refl
abbrev zc:=@wpAny_pure
abbrev zd:=@List.length_map
abbrev ze:=@List.getElem?_eq_some_iff
abbrev zf:=@Heap.lt_size
abbrev zg:=@List.length_append
abbrev zh:=@List.getElem?_eq_getElem
abbrev zj:=@List.getElem?_set_ne
abbrev zk:=@decide_eq_false
abbrev zl:=@List.map_cons
abbrev zm:=@List.getElem?_map
abbrev zn:=@List.mem_cons
abbrev zo:=@List.mem_singleton
abbrev zp:=@Bool.false_ne_true
abbrev zq:=@List.mem_cons_self
abbrev zr:=@List.getElem?_append_left
abbrev zt:=@List.size_toArray
abbrev zu:=@List.mem_cons_of_mem
abbrev zv:=@Bool.and_eq_true
abbrev zw:=@decide_eq_true
abbrev zx:=@List.mem_of_getElem?
abbrev zy:=@Heap.get?_push_of_some
abbrev zz:=@List.mem_append
abbrev zA:=@List.length_cons
abbrev zB:=@Nat.ne_of_lt
abbrev zC:=@Nat.zero_add
abbrev zD:=@Nat.le_trans
abbrev zE:=@List.getElem?_append_right
abbrev zF:=@Option.some.inj
abbrev zG:=@Nat.lt_of_lt_of_le
abbrev zH:=@Heap.get?_push_size
abbrev zI:=@List.mem_append_right
abbrev zJ:=@List.nil_append
abbrev zK:=@List.getElem?_set_self
abbrev zL:=@List.mem_map
abbrev zM:=@List.map_append
abbrev zN:=@List.length_set
abbrev zO:=@List.append_nil
abbrev zP:=@List.append_assoc
abbrev zQ:=@List.map_nil
abbrev zR:=@Nat.lt_irrefl
abbrev zS:=@wpAny_mono
abbrev zT:=@wpAny_holding
abbrev zU:=@List.map_map
abbrev zV:=@List.getElem?_eq_none
abbrev zW:=@Nat.le_add_right
abbrev zX:=@List.length_singleton
abbrev zY:=@List.getD_eq_getElem?_getD
abbrev zZ:=@List.nodup_append
abbrev ja:=@List.mem_append_left
abbrev jb:=@Heap.get?_update_other
abbrev jc:=@Int.emod_nonneg
abbrev jd:=@Int.emod_lt_of_pos
abbrev je:=@wpAny_updateSeq
abbrev jf:=@List.getElem_mem
abbrev jg:=@of_decide_eq_true
abbrev jh:=@List.map_congr_left
abbrev ji:=@Nat.lt_succ_self
abbrev jj:=@List.length_nil
abbrev jk:=@Nat.lt_succ_of_lt
abbrev jl:=@Int.natCast_add
abbrev jm:=@List.all_eq_true
abbrev jn:=@List.ext_getElem?
end
namespace PySem.W.Fast
abbrev tw10164231633615226215:=()
abbrev tw1257483075125877909:=()
abbrev tw6634700402197741522:=()
abbrev tw17716067675363799746:=()
abbrev tw14145620394220197956:=()
abbrev tw2890976721198177095:=()
abbrev tw12022865038208538868:=()
abbrev tw4462306835703902333:=()
abbrev tw385134165655849220:=()
abbrev tw8049353347605732134:=()
abbrev tw10746567246628557237:=()
abbrev tw16564570400478765526:=()
abbrev tw13306788075062110512:=()
abbrev tw3533801626845428746:=()
abbrev tw17698704695694370127:=()
abbrev tw10609226952797450397:=()
end PySem.W.Fast
namespace PySem.W.Fast
end PySem.W.Fast
namespace L2
open PySem PySem.Spec PyProof.Rows
abbrev Key:=Sum Int Str
def Qim:Key→Value→Bool
 | .inl k,v=>Value.isInt k v
 | .inr x,v=>Value.isStrOf x v
def Qwm (w:World):Key→Int
 | .inl k=>hashInt k
 | .inr x=>hashStr w x
theorem Qcc:∀{k:Key}{v:Value},Qim k v=true→(∃i t,k=Sum.inl i∧v=Value.int i t)∨(∃x t,k=Sum.inr x∧v=Value.str x t)
 | .inl i,v,h=>by
  obtain ⟨t,e⟩:=Value.isInt_shape (k:=i) (v:=v) h;exact .inl ⟨i,t,rfl,e⟩
 | .inr x,v,h=>by
  obtain ⟨t,e⟩:=Value.isStrOf_shape (x:=x) (v:=v) h;exact .inr ⟨x,t,rfl,e⟩
theorem Qn1 (i:Int) (t:Tok):Qim (.inl i) (.int i t)=true:=by simp [Qim,Value.isInt]
theorem Qoq (x:Str) (t:Tok):Qim (.inr x) (.str x t)=true:=by simp [Qim,Value.isStrOf]
theorem Qum (a b:Int):decide ((Sum.inl a:Key)=Sum.inl b)=(a == b):=by
 by_cases e:a=b
 ·subst e; simp
 ·have h:¬(Sum.inl a:Key)=Sum.inl b:=fun q=>e (Sum.inl.inj q)
  rw [zk h];exact (beq_eq_false_iff_ne.mpr e).symm
theorem QtA (a b:Str):decide ((Sum.inr a:Key)=Sum.inr b)=decide (a=b):=by
 by_cases e:a=b
 ·subst e; simp
 ·have h:¬(Sum.inr a:Key)=Sum.inr b:=fun q=>e (Sum.inr.inj q)
  rw [zk h,zk e]
theorem QuO (a:Int) (b:Str):decide ((Sum.inl a:Key)=Sum.inr b)=false:=zk (fun q=>nomatch q)
theorem Qt0 (a:Str) (b:Int):decide ((Sum.inr a:Key)=Sum.inl b)=false:=zk (fun q=>nomatch q)
def Qb6 (prog:Program) (w:World):PySem.KeyKind prog w Key where
 is:=Qim
 hash:=Qwm w
 inj:=fun v a b ha hb=>by
  rcases Qcc ha with ⟨i,t,rfl,rfl⟩ | ⟨x,t,rfl,rfl⟩
  ·rcases Qcc hb with ⟨j,u,rfl,e⟩ | ⟨y,u,rfl,e⟩
   ·injection e with e1 _; rw [e1]
   ·exact nomatch e
  ·rcases Qcc hb with ⟨j,u,rfl,e⟩ | ⟨y,u,rfl,e⟩
   ·exact nomatch e
   ·injection e with e1 _; rw [e1]
 byValue:=fun k v h=>by
  rcases Qcc h with ⟨i,t,rfl,rfl⟩ | ⟨x,t,rfl,rfl⟩ <;> rfl
 pyHash:=fun hv h=>by
  rcases Qcc hv with ⟨i,t,rfl,rfl⟩ | ⟨x,t,rfl,rfl⟩
  ·exact wpAny_pyHash_int h
  ·exact wpAny_pyHash_str h
 eqBool:=fun hu hv h=>by
  rcases Qcc hu with ⟨i,t,rfl,rfl⟩ | ⟨x,t,rfl,rfl⟩
  ·rcases Qcc hv with ⟨j,u,rfl,rfl⟩ | ⟨y,u,rfl,rfl⟩
   ·rw [Qum] at h; exact wpAny_eqBool_int h
   ·rw [QuO] at h; exact SeqAt.EqAt.int_str i t y u _ _ _ _ h
  ·rcases Qcc hv with ⟨j,u,rfl,rfl⟩ | ⟨y,u,rfl,rfl⟩
   ·rw [Qt0] at h; exact SeqAt.EqAt.str_int x t j u _ _ _ _ h
   ·rw [QtA] at h; exact wpAny_eqBool_str h
 «strs»:=fun k x t v h=>by
  rcases Qcc h with ⟨i,u,rfl,e⟩ | ⟨y,u,rfl,e⟩
  ·exact nomatch e
  ·injection e with e1 _
   subst e1
   cases v <;> rfl
theorem Qme (prog:Program) (w:World) (i:Int) (t:Tok):(Qb6 prog w).is (.inl i) (.int i t)=true:=Qn1 i t
theorem Qmd (prog:Program) (w:World) (x:Str) (t:Tok):(Qb6 prog w).is (.inr x) (.str x t)=true:=Qoq x t
inductive V where
 | non | bl (b:Bool) | int (i:Int) | str (x:Str) | byt (b:Array UInt8) | flt (b:UInt64) | ref (a:Addr) | ty (n:String)
 deriving DecidableEq
def RelV:V→Value→Prop
 | .non,u=>u=Value.none
 | .bl b,u=>u=Value.bool b
 | .int i,u=>∃t,u=Value.int i t
 | .str x,u=>∃t,u=Value.str x t
 | .byt b,u=>∃t,u=Value.bytes b t
 | .flt b,u=>∃t,u=Value.float b t
 | .ref a,u=>u=Value.ref a
 | .ty n,u=>u=Value.type n
abbrev QaG:List V→List Value→Prop:=Paired RelV
theorem QaG.length {xs:List V}{us:List Value} (r:QaG xs us):xs.length=us.length:=Paired.length r
theorem QaG.get:∀{xs:List V}{us:List Value}{i:Nat}{x:V},QaG xs us→xs[i]? = some x→∃u,us[i]? = some u∧RelV x u
 | _,_,_,_,.nil,e=>by simp at e
 | _,_,0,_,.cons r _,e=>by simp at e; subst e; exact ⟨_,rfl,r⟩
 | _,_,i+1,x,.cons _ t,e=>by
  obtain ⟨u,h1,h2⟩:=QaG.get (i:=i) (x:=x) t (by simpa using e);exact ⟨u,by simpa using h1,h2⟩
theorem QaG.set {x:V}{u:Value} (r:RelV x u):∀{xs:List V}{us:List Value} (i:Nat),QaG xs us→QaG (xs.set i x) (us.set i u)
 | _,_,_,.nil=>.nil
 | _,_,0,.cons _ t=>.cons r t
 | _,_,i+1,.cons q t=>.cons q (QaG.set r i t)
theorem QaG.append:∀{xs ys:List V}{us ws:List Value},QaG xs us→QaG ys ws→QaG (xs++ys) (us++ws)
 | _,_,_,_,.nil,s=>s
 | _,_,_,_,.cons r t,s=>.cons r (QaG.append t s)
theorem QaG.take:∀{xs:List V}{us:List Value} (n:Nat),QaG xs us→QaG (xs.take n) (us.take n)
 | _,_,0,_=>.nil
 | _,_,_+1,.nil=>.nil
 | _,_,n+1,.cons r t=>.cons r (QaG.take n t)
theorem QaG.drop:∀{xs:List V}{us:List Value} (n:Nat),QaG xs us→QaG (xs.drop n) (us.drop n)
 | _,_,0,r=>r
 | _,_,_+1,.nil=>.nil
 | _,_,n+1,.cons _ t=>QaG.drop n t
def Qd6:Option V→Option Value→Prop
 | some v,some u=>RelV v u
 | none,none=>True
 | _,_=>False
def KV {κ:Type}:List (κ×V)→List (κ×Value)→Prop:=Paired fun (p:κ×V) (q:κ×Value)=>p.1=q.1∧RelV p.2 q.2
def kV:Key→V
 | .inl i=>.int i
 | .inr x=>.str x
inductive HO where
  | lst (xs:List V)
  | tup (xs:List V)
  | dK (kvs:List (Key×V)) | dT (kvs:List (List Key×V))
  | set (S:Int→Bool) (n:Nat)
  | ins (C dx:Addr) (fs:List (Str×V))
  | own (x:Addr)
  | xd (fs:List (Str×V))
  | met (f x:Addr)
  | rng (lo hi:Int)
  | frz (o:Obj) (u:HO)
  | tbl (ps:Array Value)
  | ext (φ:Heap→Prop)
abbrev Hp:=Addr→Option HO
def upd (H:Hp) (a:Addr) (o:HO):Hp:=fun b=>if b=a then some o else H b
theorem QaF {H:Hp}{a:Addr}{o:HO}:upd H a o a=some o:=by unfold upd; rw [if_pos rfl]
theorem Qap {H:Hp}{a b:Addr}{o:HO} (h:b≠a):upd H a o b=H b:=by unfold upd; rw [if_neg h]
theorem ne_of {H:Hp}{a b:Addr}{o u:HO} (h:H a=some o) (h':H b=some u) (d:o≠u):a≠b:=by
 intro e; subst e; rw [h] at h'; exact d (zF h')
theorem QaD {H:Hp}{a b:Addr}{o:HO} (h:H a=some o) (h':H b=none):a≠b:=by
 intro e; subst e; rw [h] at h'; cases h'
section
variable (P:Program) (w:World)
def Qbq (H:Hp) (h:Heap) (a:Addr):HO→Prop
 | .lst xs=>xs.length≤sizeLine∧∃(its:List Value) (n:Nat),QaG xs its∧h.get? a=some { cls:=.type "list",data:=.seq its.toArray n }
 | .tup xs=>xs.length≤sizeLine∧∃its:List Value,QaG xs its∧IsTup h a its.toArray
 | .dK kvs=>kvs.length≤sizeLine∧(a == sysModules)=false∧∃vs,KV kvs vs∧h.DictOf (Qb6 P w) a vs
 | .dT kvs=>kvs.length≤sizeLine∧(a == sysModules)=false∧∃xs:List (List Key×Addr×Value),
   Paired (fun (p:List Key×V) (q:List Key×Addr×Value)=>p.1=q.1∧H q.2.1=some (.tup (p.1.map kV))∧RelV p.2 q.2.2) kvs xs ∧
   ∃o es ep,h.get? a=some o∧o.ExactDict∧o.data = .dict es ep∧es.toList=xs.map (entryOfKey (tupleKind (Qb6 P w)))∧(xs.map (·.1)).Nodup
 | .set S n=>h.SetOf (intKind P w) a S n
 | .ins C dx fs=>H dx=some (.own a)∧fs.length≤1000∧dx≠a∧h.get? a=some (PySem.W.instObj C dx) ∧
   ∃mA,h.Ns1 dx mA∧(∀f,Qd6 (fs.lookup f) (mA f))∧PySem.Within mA (fs.map (·.1))
 | .own _=>∃o,h.get? a=some o
 | .xd fs=>∃mA,h.Ns1 a mA∧∀f,Qd6 (fs.lookup f) (mA f)
 | .rng lo hi=>∃t u v,h.get? a=some { cls:=.type "range",data:=.fields #[.int lo t,.int hi u,.int 1 v] }
 | .frz o u=>h.get? a=some o∧Qbq H h a u
 | .tbl ps=>h.get? a=some { cls:=.none,data:=.fields ps }
 | .met f x=>h.get? a=some (PySem.W.methodObj (.ref f) (.ref x))
 | .ext φ=>φ h∧(∃o,h.get? a=some o)∧∀h1 h2:Heap,φ h1→(∀o,h1.get? a=some o→h2.get? a=some o)→φ h2
def HOk (H:Hp) (h:Heap):Prop:=∀a o,H a=some o→Qbq P w H h a o
end
section
variable {P:Program}{w:World}{H H':Hp}{h h':Heap}{a:Addr}{o:HO}
theorem Qbq.lt (x:Qbq P w H h a o):a < h.objs.size:=by
 cases o with
 | lst xs=>obtain ⟨_,_,_,_,e⟩:=x; exact zf e
 | tup xs=>obtain ⟨_,_,_,p⟩:=x; exact p.lt
 | dK kvs=>obtain ⟨_,_,_,_,o,_,_,e,_⟩:=x; exact zf e
 | dT kvs=>obtain ⟨_,_,_,_,o,_,_,e,_⟩:=x; exact zf e
 | set S n=>obtain ⟨o,_,_,_,e,_⟩:=x; exact zf e
 | ins C dx fs=>obtain ⟨_,_,_,e,_⟩:=x; exact zf e
 | own y=>obtain ⟨_,e⟩:=x; exact zf e
 | xd fs=>obtain ⟨_,⟨_,_,_,e,_⟩,_⟩:=x; exact zf e
 | rng lo hi=>obtain ⟨_,_,_,e⟩:=x; exact zf e
 | frz ob u=>obtain ⟨e,_⟩:=x; exact zf e
 | tbl ps=>exact zf (show h.get? a=some _ from x)
 | met f y=>exact zf (show h.get? a=some _ from x)
 | ext φ=>obtain ⟨_,⟨_,e⟩,_⟩:=x; exact zf e
theorem Paired.mapP {α β:Type}{F G:α→β→Prop}:∀{l₁:List α}{l₂:List β},Paired F l₁ l₂→(∀a b,F a b→G a b)→Paired G l₁ l₂
 | _,_,.nil,_=>.nil
 | _,_,.cons r t,f=>.cons (f _ _ r) (Paired.mapP t f)
theorem Qbq.stay (x:Qbq P w H h a o) (k:∀b u,(b=a∨H b=some (.own a))→h.get? b=some u→h'.get? b=some u)
  (ho:∀b,H b=some (.own a)→H' b=some (.own a)) (ht:∀b xs,H b=some (.tup xs)→H' b=some (.tup xs)):Qbq P w H' h' a o:=by
 induction o with
 | lst xs=>obtain ⟨z,its,n,r,e⟩:=x; exact ⟨z,its,n,r,k _ _ (.inl rfl) e⟩
 | tup xs=>obtain ⟨z,its,r,ob,e,c⟩:=x; exact ⟨z,its,r,ob,k _ _ (.inl rfl) e,c⟩
 | dK kvs=>obtain ⟨z,y,vs,r,ob,es,ep,e,c⟩:=x; exact ⟨z,y,vs,r,ob,es,ep,k _ _ (.inl rfl) e,c⟩
 | dT kvs =>
  obtain ⟨z,y,xs,r,ob,es,ep,e,c⟩:=x;exact ⟨z,y,xs,Paired.mapP r fun p q z=>⟨z.1,ht _ _ z.2.1,z.2.2⟩,ob,es,ep,k _ _ (.inl rfl) e,c⟩
 | set S n=>obtain ⟨ob,es,ep,t,e,c⟩:=x; exact ⟨ob,es,ep,t,k _ _ (.inl rfl) e,c⟩
 | ins C dx fs =>
  obtain ⟨d,z,ne,e,mA,⟨od,es,ep,e2,c⟩,r⟩:=x;exact ⟨ho _ d,z,ne,k _ _ (.inl rfl) e,mA,⟨od,es,ep,k _ _ (.inr d) e2,c⟩,r⟩
 | own y=>obtain ⟨ob,e⟩:=x; exact ⟨ob,k _ _ (.inl rfl) e⟩
 | xd fs=>obtain ⟨mA,⟨od,es,ep,e,c⟩,r⟩:=x; exact ⟨mA,⟨od,es,ep,k _ _ (.inl rfl) e,c⟩,r⟩
 | rng lo hi=>obtain ⟨t,u,v,e⟩:=x; exact ⟨t,u,v,k _ _ (.inl rfl) e⟩
 | frz ob u ih=>obtain ⟨e,q⟩:=x; exact ⟨k _ _ (.inl rfl) e,ih q⟩
 | tbl ps =>
  have e:h.get? a=some { cls:=.none,data:=.fields ps }:=x;show h'.get? a=some { cls:=.none,data:=.fields ps };exact k a _ (.inl rfl) e
 | met f y =>
  have e:h.get? a=some (PySem.W.methodObj (.ref f) (.ref y)):=x;show h'.get? a=some (PySem.W.methodObj (.ref f) (.ref y));exact k a _ (.inl rfl) e
 | ext φ=>obtain ⟨p,⟨o,e⟩,st⟩:=x; exact ⟨st _ _ p fun o q=>k _ _ (.inl rfl) q,⟨o,k _ _ (.inl rfl) e⟩,st⟩
theorem HOk.lt (x:HOk P w H h) (e:H a=some o):a < h.objs.size:=(x a o e).lt
theorem HOk.fresh (x:HOk P w H h) (e:h.objs.size≤a):H a=none:=by
 cases q:H a with
 | none=>rfl
 | some u=>exact absurd (zG (x.lt q) e) (zR _)
theorem HOk.kept (x:HOk P w H h) (k:∀b u,h.get? b=some u→h'.get? b=some u):HOk P w H h':=fun a o e =>
 (x a o e).stay (fun b u _ q=>k b u q) (fun _ q=>q) fun _ _ q=>q
theorem HOk.laid (x:HOk P w H h) (k:∀b u,h.get? b=some u→h'.get? b=some u) (hp:h.objs.size≤a) (new:Qbq P w (upd H a o) h' a o):HOk P w (upd H a o) h':=fun b u e=>by
 have hn:=x.fresh hp
 by_cases hb:b=a
 ·subst hb; rw [QaF] at e; cases e; exact new
 ·rw [Qap hb] at e
  exact (x b u e).stay (fun c v _ q=>k c v q) (fun c q=>by rw [Qap (QaD q hn)]; exact q) fun c xs q=>by rw [Qap (QaD q hn)]; exact q
end
def Rd (H:Hp) (a:Addr) (u:HO):Prop:=H a=some u∨∃o,H a=some (.frz o u)
theorem Rd.ok {P:Program}{w:World}{H:Hp}{h:Heap}{a:Addr}{u:HO} (r:Rd H a u) (x:HOk P w H h):Qbq P w H h a u:=by
 rcases r with r | ⟨o,r⟩
 ·exact x a u r
 ·obtain ⟨_,q⟩:=x a _ r;exact q
def Mut:Option HO→Prop
 | some (.lst _)=>True
 | some (.dK _)=>True
 | some (.dT _)=>True
 | some (.set _ _)=>True
 | some (.ins _ _ _)=>True
 | some (.ext _)=>True
 | _=>False
section
variable {P:Program}{w:World}{H:Hp}{h h':Heap}{x e:Addr}{o':HO}
theorem HOk.write (ok:HOk P w H h) (mu:Mut (H x)) (he:e=x∨H e=some (.own x)) (k:∀b u,b≠e→h.get? b=some u→h'.get? b=some u) (heo:∃u,h'.get? e=some u)
  (new:Qbq P w (upd H x o') h' x o'):HOk P w (upd H x o') h':=fun b u q=>by
 have nown:∀c y,H c=some (.own y)→c≠x:=fun c y r z=>by subst z; rw [r] at mu; exact mu
 have ntup:∀c xs,H c=some (.tup xs)→c≠x:=fun c xs r z=>by subst z; rw [r] at mu; exact mu
 by_cases hb:b=x
 ·subst hb; rw [QaF] at q; cases q; exact new
 ·rw [Qap hb] at q
  by_cases hbe:b=e
  ·have q':H b=some (.own x):=by
    rcases he with z | z
    ·exact absurd (hbe.trans z) hb
    ·rw [hbe]; exact z
   rw [q] at q'; cases q';obtain ⟨v,hv⟩:=heo;exact ⟨v,by rw [hbe]; exact hv⟩
  ·refine (ok b u q).stay (fun c v hc r=>k c v ?_ r) (fun c r=>by rw [Qap (nown c b r)]; exact r) fun c xs r=>by rw [Qap (ntup c xs r)]; exact r
   rcases hc with rfl | hc
   ·exact hbe
   ·rintro rfl
    rcases he with z | z
    ·exact nown c b hc z
    ·rw [hc] at z; cases z; exact hb rfl
end
structure Un (fs ex:List Addr) (H H':Hp) (h h':Heap):Prop where
 keep:∀b o,h.get? b=some o→H b=none→b∉fs→b∉ex→h'.get? b=some o
 slot:∀b o,h.get? b=some o→H b=none→b∈fs→b∉ex→∃sl,h'.get? b=some { o with slots:=sl }
 free:∀b o,h.get? b=some o→H b=none→b∉ex→H' b=none
 there:∀b o,h.get? b=some o→b∉ex→∃o',h'.get? b=some o'
 tups:∀b xs,H b=some (.tup xs)→H' b=some (.tup xs)
 frzs:∀b o u,H b=some (.frz o u)→H' b=some (.frz o u)
 tbls:∀b ps,H b=some (.tbl ps)→∃more,H' b=some (.tbl (ps++more))
section
variable {fs fs' ex ex':List Addr}{H H1 H2:Hp}{h h1 h2 h':Heap}{a x e:Addr}{o:HO}
theorem Un.any (u:Un fs ex H H1 h h1) {b:Addr}{ob:Obj} (q:h.get? b=some ob) (n:H b=none) (hx:b∉ex):∃sl,h1.get? b=some { ob with slots:=sl }:=by
 by_cases hb:b∈fs
 ·exact u.slot b ob q n hb hx
 ·exact ⟨ob.slots,u.keep b ob q n hb hx⟩
theorem Un.kept (k:∀b u,h.get? b=some u→h'.get? b=some u):Un fs ex H H h h' :=
 ⟨fun b ob q _ _ _=>k b ob q,fun b ob q _ _ _=>⟨ob.slots,k b ob q⟩,fun _ _ _ n _=>n,fun b ob q _=>⟨ob,k b ob q⟩,fun _ _ q=>q,fun _ _ _ q=>q,fun _ ps q=>⟨#[],by rw [q]; simp⟩⟩
theorem Un.refl:Un fs ex H H h h:=Un.kept fun _ _ q=>q
theorem Un.laid (k:∀b u,h.get? b=some u→h'.get? b=some u) (hp:h.objs.size≤a) (hn:H a=none):Un fs ex H (upd H a o) h h' where
 keep:=fun b u q _ _ _=>k b u q
 slot:=fun b u q _ _ _=>⟨u.slots,k b u q⟩
 free:=fun b u q n _=>by rw [Qap (zB (zG (zf q) hp))]; exact n
 there:=fun b u q _=>⟨u,k b u q⟩
 tups:=fun b xs q=>by rw [Qap (QaD q hn)]; exact q
 frzs:=fun b u xs q=>by rw [Qap (QaD q hn)]; exact q
 tbls:=fun b ps q=>⟨#[],by rw [Qap (QaD q hn),q]; simp⟩
theorem Un.write (mu:Mut (H x)) (he:e=x∨H e=some (.own x)) (k:∀b u,b≠e→h.get? b=some u→h'.get? b=some u) (heo:∃u,h'.get? e=some u):Un fs ex H (upd H x o) h h':=by
 have hx:∀b,H b=none→b≠x:=fun b n z=>by subst z; rw [n] at mu; exact mu
 have hb:∀b,H b=none→b≠e:=fun b n z=>by
  subst z
  rcases he with r | r
  ·exact hx b n r
  ·rw [n] at r; cases r
 have hm:∀b u,H b=some u→¬Mut (some u)→b≠x:=fun b u q nm z=>by subst z; rw [q] at mu; exact nm mu
 refine ⟨fun b u q n _ _=>k b u (hb b n) q,fun b u q n _ _=>⟨u.slots,k b u (hb b n) q⟩,fun b u q n _=>by rw [Qap (hx b n)]; exact n,fun b u q _=>?_,
  fun b xs q=>by rw [Qap (hm b _ q fun z=>z)]; exact q,fun b u xs q=>by rw [Qap (hm b _ q fun z=>z)]; exact q,fun b ps q=>⟨#[],by rw [Qap (hm b _ q fun z=>z),q]; simp⟩⟩
 by_cases hbe:b=e
 ·subst hbe; exact heo
 ·exact ⟨u,k b u hbe q⟩
end
def trk (h:Heap) (H:Hp):List Addr:=(List.range h.objs.size).filter fun a=>(H a).isSome
def QeB (h:Heap) (H:Hp):Heap:=PySem.W.hideAll h (trk h H)
theorem Qkp (h:Heap) (H:Hp):(QeB h H).objs.size=h.objs.size:=PySem.W.hideAll_size _ _
theorem Ql1 {h:Heap}{H:Hp}{b:Addr}{o:Obj} (e:h.get? b=some o) (n:H b=none):(QeB h H).get? b=some o :=
 PySem.W.hideAll_get _ e fun hm=>by
  have q:(H b).isSome=true:=(List.mem_filter.mp hm).2;rw [n] at q; simp at q
theorem Qmi {h:Heap}{H:Hp}{b:Addr}{o:Obj} (e:(QeB h H).get? b=some o):h.get? b=some o∧H b=none:=by
 have e':h.get? b=some o:=PySem.W.of_hideAll (trk h H) e;refine ⟨e',?_⟩
 cases q:H b with
 | none=>rfl
 | some x =>
  have hm:b∈trk h H:=List.mem_filter.mpr ⟨List.mem_range.mpr (zf e'),by simp [q]⟩;have z:(QeB h H).get? b=none:=PySem.W.hideAll_none (trk h H) hm;rw [z] at e; cases e
def Qsi (g h:Heap) (L:Addr):List (Addr×Obj):=(List.range h.objs.size).filterMap fun a=>if a=L∨(g.get? a).isSome=true then none else (h.get? a).map fun o=>(a,o)
def rest (g h:Heap) (L d:Addr):List (Addr×Obj):=(Qsi g h L).filter fun p=>decide (p.1≠d)
structure Mod (K:PySem.W.Frag) (mg:Str→Option Value) (base:Heap):Prop where
 kin:K.In base
 glob:base.Ns mainGlobals mg
 blt:∃mb,base.Ns builtinsNs mb∧∀x:Str,x≠"__name__"→mb x=bootBuiltins x
 nolimit:base.NoLimit
structure Cx where
 prog:Program
 w:World
 K:PySem.W.Frag
 mg:Str→Option Value
 base:Heap
 A:Around
 N:List Str
 s₀:Shared
 H₀:Hp
 env:Env
 outer:List Env
 stack:List Env
 ex:List Addr
 fn:Str→Bool
 calm:Bool
 pn:List (Addr×Obj)
 xe:Value→Shared→Prop
def frs (l:List Env):List Addr:=l.filterMap (·.frame)
abbrev Cx.fs (X:Cx):List Addr:=frs X.outer
def Vis (sc:Scope) (x:Str):Prop:=sc.names.lookup x=some .local∨sc.names.lookup x=some .cell∨sc.names.lookup x=some .free
def Loc (sc:Scope) (x:Str):Prop:=sc.names.lookup x=some .local∨sc.names.lookup x=some .cell
def Look (env:Env) (h:Heap) (m:Str→Option Value) (x:Str) (u:Value):Prop :=
 (env.kindOf x=some .local∧m x=some u)∨((env.kindOf x=some .cell∨env.kindOf x=some .free)∧∃c,env.cells.lookup x=some c∧h.IsCell c (some u))
structure Cx.Ok (X:Cx):Prop where
 mod:Mod X.K X.mg X.base
 kind:X.env.scope.kind = .function
 glob:X.env.globals=mainGlobals
 blt:X.env.builtins=builtinsNs
 above:X.s₀.heap.objs.size≤X.env.locals
 inj:∀x y c,X.env.cells.lookup x=some c→X.env.cells.lookup y=some c→x=y
 has:∀x,(X.env.kindOf x=some .cell∨X.env.kindOf x=some .free)→∃c,X.env.cells.lookup x=some c
 cab:∀x c,X.fn x=true→X.env.cells.lookup x=some c→X.s₀.heap.objs.size≤c
 hd:X.calm=true→X.A.handled=none
 frames:X.A.frames=some X.stack
 stk:X.stack=X.outer∨(X.stack=X.env::X.outer∧X.env.frame=some X.env.locals)
 exf:∀b∈X.ex,b≠X.env.locals∧∀x c,X.env.cells.lookup x=some c→c≠b
 bs:∀b o,X.base.get? b=some o→X.s₀.heap.get? b=some o∧X.H₀ b=none
 bsz:X.base.objs.size≤X.s₀.heap.objs.size
 noex:∀b o,X.base.get? b=some o→b∉X.ex
 exfs:∀b∈X.ex,b∉X.fs
 funs:X.s₀.heap.FunFrames X.base X.outer
 frf:∀b∈X.fs,X.H₀ b=none
structure Inv (X:Cx) (pins:List (Addr×Obj)) (σ:List (Option V)) (H:Hp) (s:Shared):Prop where
 ok:X.Ok
 os:s.os=X.s₀.os
 bare:AllBare s.gens
 base:Un X.fs X.ex X.H₀ H X.s₀.heap s.heap
 loc:∃m,s.heap.Ns X.env.locals m∧∀(i:Nat) (x:Str) (v:V),X.N[i]? = some x→σ[i]? = some (some v)→Vis X.env.scope x→∃u,RelV v u∧Look X.env s.heap m x u
 cell:∀x c,X.env.cells.lookup x=some c→∃v,s.heap.IsCell c v
 free:H X.env.locals=none
 freeC:∀x c,X.env.cells.lookup x=some c→H c=none
 pin:∀p∈X.pn++pins,s.heap.get? p.1=some p.2∧H p.1=none∧p.1≠X.env.locals∧p.1∉X.fs∧∀v,p.2.data≠.cell v
 hok:HOk X.prog X.w H s.heap
 len:σ.length=X.N.length
section
variable {X:Cx}{pins:List (Addr×Obj)}{σ:List (Option V)}{H H':Hp}{s:Shared}{h':Heap}
theorem Cx.Ok.nofr (ok:X.Ok) {b:Addr}{o:Obj} (e:X.base.get? b=some o):b∉X.fs:=fun hb=>by
 have:=(ok.funs.mem hb).1
 rw [e] at this; cases this
theorem Inv.bs (I:Inv X pins σ H s):∀b o,X.base.get? b=some o→s.heap.get? b=some o∧H b=none:=fun b o e =>
 ⟨I.base.keep b o (I.ok.bs b o e).1 (I.ok.bs b o e).2 (I.ok.nofr e) (I.ok.noex b o e),I.base.free b o (I.ok.bs b o e).1 (I.ok.bs b o e).2 (I.ok.noex b o e)⟩
theorem Inv.bk (I:Inv X pins σ H s):∀b o,X.base.get? b=some o→s.heap.get? b=some o:=fun b o e=>(I.bs b o e).1
theorem Inv.mod (I:Inv X pins σ H s):Mod X.K X.mg X.base:=I.ok.mod
theorem Inv.kIn (I:Inv X pins σ H s):X.K.In s.heap:=I.ok.mod.kin.keeps I.bk
theorem Inv.lt (I:Inv X pins σ H s):X.env.locals < s.heap.objs.size:=let ⟨_,hn,_⟩:=I.loc; hn.lt
theorem Inv.sz (I:Inv X pins σ H s):X.s₀.heap.objs.size≤s.heap.objs.size:=zD I.ok.above (Nat.le_of_lt I.lt)
theorem Inv.nofs (I:Inv X pins σ H s) {a:Addr} (h:s.heap.objs.size≤a):a∉X.fs:=fun hb=>by
 obtain ⟨_,o,ho,_⟩:=I.ok.funs.mem hb;exact absurd (zG (zf ho) (zD I.sz h)) (zR _)
theorem Inv.cne (I:Inv X pins σ H s):∀x c,X.env.cells.lookup x=some c→c≠X.env.locals:=fun x c e z=>by
 obtain ⟨v,o,ho,hd⟩:=I.cell x c e;obtain ⟨m,⟨o',es,ep,ho',hd',_⟩,_⟩:=I.loc;rw [z,ho'] at ho; cases ho; rw [hd'] at hd; cases hd
theorem Inv.funs (I:Inv X pins σ H s):s.heap.FunFrames X.base X.outer:=by
 have all:∀(l:List Env),(∀b∈frs l,b∈X.fs)→X.s₀.heap.FunFrames X.base l→s.heap.FunFrames X.base l:=by
  intro l
  induction l with
  | nil=>intro _ _; trivial
  | cons env r ih =>
   intro hs hl;obtain ⟨hk,⟨L,o,hf,hn,ho,hd⟩,hr⟩:=hl;have hL:L∈X.fs:=hs L (by unfold frs; rw [List.filterMap_cons,hf]; exact zq)
   obtain ⟨sl,e⟩:=I.base.slot L o ho (I.ok.frf L hL) hL fun z=>I.ok.exfs L z hL
   exact ⟨hk,⟨L,_,hf,hn,e,hd⟩,ih (fun b hb=>hs b (by unfold frs; rw [List.filterMap_cons,hf]; exact zu _ hb)) hr⟩
 exact all X.outer (fun _ hb=>hb) I.ok.funs
theorem Inv.stack (I:Inv X pins σ H s):s.heap.FunFrames X.base X.stack:=by
 rcases I.ok.stk with e | ⟨e,hf⟩
 ·rw [e]; exact I.funs
 ·rw [e];obtain ⟨m,hn,_⟩:=I.loc;refine .cons (by rw [I.ok.kind]; decide) hf hn ?_ I.funs;exact Heap.get?_none_of_le (zD I.ok.bsz I.ok.above)
theorem Inv.stkSub (I:Inv X pins σ H s):∀b∈frs X.stack,b∈X.env.locals::X.fs:=fun b hb=>by
 rcases I.ok.stk with e | ⟨e,hf⟩
 ·rw [e] at hb; exact zu _ hb
 ·rw [e] at hb;unfold frs at hb;rw [List.filterMap_cons,hf] at hb;exact hb
theorem Inv.stkFree (I:Inv X pins σ H s):∀b∈frs X.stack,H b=none:=fun b hb=>by
 rcases zn.mp (I.stkSub b hb) with e | hb
 ·rw [e]; exact I.free
 ·obtain ⟨_,o,ho,_⟩:=I.ok.funs.mem hb
  exact I.base.free b o ho (I.ok.frf b hb) fun z=>I.ok.exfs b z hb
theorem Inv.step {g':Array GenState}{t':Nat}{d':Drawn}{ch:List Addr} (I:Inv X pins σ H s)
  (hch:∀b∈ch,(b∈X.ex∨X.s₀.heap.objs.size≤b)∧b≠X.env.locals∧(∀x c,X.env.cells.lookup x=some c→c≠b)∧∀p∈X.pn++pins,p.1≠b)
  (keep:∀b o,b≠X.env.locals→b∉X.fs→b∉ch→s.heap.get? b=some o→H b=none→h'.get? b=some o)
  (slot:∀b o,b≠X.env.locals→b∈X.fs→b∉ch→s.heap.get? b=some o→H b=none→∃sl,h'.get? b=some { o with slots:=sl }) (free:∀b o,b∉ch→s.heap.get? b=some o→H b=none→H' b=none)
  (there:∀b o,b∉ch→s.heap.get? b=some o→∃o',h'.get? b=some o')
  (tups:∀b xs,H b=some (.tup xs)→H' b=some (.tup xs)) (frzs:∀b o u,H b=some (.frz o u)→H' b=some (.frz o u)) (tbls:∀b ps,H b=some (.tbl ps)→∃more,H' b=some (.tbl (ps++more)))
  (ns:∀m,s.heap.Ns X.env.locals m→h'.Ns X.env.locals m) (hok:HOk X.prog X.w H' h') (hg:AllBare g') :
  Inv X pins σ H' { s with heap:=h',gens:=g',drawn:=d',toks:=t' }:=by
 have neL:∀b o,X.s₀.heap.get? b=some o→b≠X.env.locals:=fun b o e=>zB (zG (zf e) I.ok.above)
 have neC:∀b o,X.s₀.heap.get? b=some o→b∉X.ex→b∉ch:=fun b o e hx hb=>by
  rcases (hch b hb).1 with z | z
  ·exact hx z
  ·exact absurd (zG (zf e) z) (zR _)
 have cellK:∀x c,X.env.cells.lookup x=some c→∀v,s.heap.IsCell c v→h'.IsCell c v:=fun x c e v ⟨o,ho,hd⟩=>by
  have nch:c∉ch:=fun z=>(hch c z).2.2.1 x c e rfl
  by_cases hc:c∈X.fs
  ·obtain ⟨sl,q⟩:=slot c o (I.cne x c e) hc nch ho (I.freeC x c e);exact ⟨_,q,hd⟩
  ·exact ⟨o,keep c o (I.cne x c e) hc nch ho (I.freeC x c e),hd⟩
 refine ⟨I.ok,I.os,hg,⟨fun b o e n hb hx=>?_,fun b o e n hb hx=>?_,fun b o e n hx=>?_,fun b o e hx=>?_,fun b xs e=>tups b xs (I.base.tups b xs e),fun b o xs e=>frzs b o xs (I.base.frzs b o xs e),fun b ps e=>?_⟩,?_,fun x c e=>?_,?_,fun x c e=>?_,fun p hp=>?_,hok,I.len⟩
 ·exact keep b o (neL b o e) hb (neC b o e hx) (I.base.keep b o e n hb hx) (I.base.free b o e n hx)
 ·obtain ⟨sl,e1⟩:=I.base.slot b o e n hb hx;obtain ⟨sl',e2⟩:=slot b _ (neL b o e) hb (neC b o e hx) e1 (I.base.free b o e n hx);exact ⟨sl',e2⟩
 ·obtain ⟨o',e1⟩:=I.base.there b o e hx;exact free b o' (neC b o e hx) e1 (I.base.free b o e n hx)
 ·obtain ⟨o',e1⟩:=I.base.there b o e hx;exact there b o' (neC b o e hx) e1
 ·obtain ⟨m1,e1⟩:=I.base.tbls b ps e;obtain ⟨m2,e2⟩:=tbls b _ e1;exact ⟨m1++m2,by rw [e2,Array.append_assoc]⟩
 ·obtain ⟨m,hn,hl⟩:=I.loc;refine ⟨m,ns m hn,fun i x v e1 e2 e3=>?_⟩;obtain ⟨u,r,l⟩:=hl i x v e1 e2 e3;refine ⟨u,r,?_⟩
  rcases l with l | ⟨k,c,e,z⟩
  ·exact .inl l
  ·exact .inr ⟨k,c,e,cellK x c e _ z⟩
 ·obtain ⟨v,z⟩:=I.cell x c e;exact ⟨v,cellK x c e v z⟩
 ·obtain ⟨m,⟨o,_,_,ho,_⟩,_⟩:=I.loc;exact free _ o (fun z=>(hch _ z).2.1 rfl) ho I.free
 ·obtain ⟨v,o,ho,hd⟩:=I.cell x c e;exact free c o (fun z=>(hch c z).2.2.1 x c e rfl) ho (I.freeC x c e)
 ·obtain ⟨e,n,ne,nf,d⟩:=I.pin p hp
  have nch:p.1∉ch:=fun z=>(hch p.1 z).2.2.2 p hp rfl
  exact ⟨keep p.1 p.2 ne nf nch e n,free p.1 p.2 nch e n,ne,nf,d⟩
theorem Inv.un {t':Nat} (I:Inv X pins σ H s) (u:Un X.fs [] H H' s.heap h') (hok:HOk X.prog X.w H' h'):Inv X pins σ H' { s with heap:=h',toks:=t' }:=by
 obtain ⟨m,⟨o,es,ep,ho,r⟩,_⟩:=id I.loc;obtain ⟨sl,hL⟩:=u.any ho I.free (by simp)
 exact I.step (g':=s.gens) (d':=s.drawn) (ch:=[]) (fun _ z=>nomatch z) (fun b o _ hb _ e n=>u.keep b o e n hb (by simp)) (fun b o _ hb _ e n=>u.slot b o e n hb (by simp)) (fun b o _ e n=>u.free b o e n (by simp)) (fun b o _ e=>u.there b o e (by simp)) u.tups u.frzs u.tbls (fun m' hm=>by
  obtain ⟨o',es',ep',ho',r'⟩:=hm;rw [ho] at ho'; cases ho'
  exact ⟨_,es',ep',hL,r'⟩) hok I.bare
theorem Inv.call {g':Array GenState}{t':Nat}{d':Drawn}{ch:List Addr} (I:Inv X pins σ H s) (u:Un (frs X.stack) ch H H' s.heap h') (hok:HOk X.prog X.w H' h') (hg:AllBare g')
  (hch:∀b∈ch,(b∈X.ex∨X.s₀.heap.objs.size≤b)∧b≠X.env.locals∧(∀x c,X.env.cells.lookup x=some c→c≠b)∧∀p∈X.pn++pins,p.1≠b) :
  Inv X pins σ H' { s with heap:=h',gens:=g',drawn:=d',toks:=t' }:=by
 obtain ⟨m,⟨o,es,ep,ho,r⟩,_⟩:=id I.loc
 obtain ⟨sl,hL⟩:=u.any ho I.free fun z=>(hch _ z).2.1 rfl
 exact I.step (ch:=ch) hch (fun b o hL hb hc e n=>u.keep b o e n (fun z=>(zn.mp (I.stkSub b z)).elim hL hb) hc) (fun b o _ _ hc e n=>u.any e n hc) (fun b o hc e n=>u.free b o e n hc) (fun b o hc e=>u.there b o e hc) u.tups u.frzs u.tbls (fun m' hm=>by
  obtain ⟨o',es',ep',ho',r'⟩:=hm;rw [ho] at ho'; cases ho'
  exact ⟨_,es',ep',hL,r'⟩) hok hg
theorem Inv.turned {t':Nat}{it:Addr} (I:Inv X pins σ H s) (k:∀b o,b≠it→s.heap.get? b=some o→h'.get? b=some o) (hn:H it=none) (hL:it≠X.env.locals)
  (h1:it∈X.ex∨X.s₀.heap.objs.size≤it) (h2:∀x c,X.env.cells.lookup x=some c→c≠it) (h3:∀p∈X.pn++pins,p.1≠it):Inv X pins σ H { s with heap:=h',toks:=t' }:=by
 have nit:∀b u,H b=some u→b≠it:=fun b u e z=>by rw [z,hn] at e; cases e
 refine I.step (g':=s.gens) (d':=s.drawn) (ch:=[it]) (fun b hb=>?_) (fun b o _ _ hc e _=>k b o (fun z=>hc (by simp [z])) e) (fun b o _ _ hc e _=>⟨o.slots,k b o (fun z=>hc (by simp [z])) e⟩) (fun _ _ _ _ n=>n)
  (fun b o hc e=>⟨o,k b o (fun z=>hc (by simp [z])) e⟩) (fun _ _ e=>e) (fun _ _ _ e=>e) (fun b ps e=>⟨#[],by rw [e]; simp⟩) (fun m hm=>?_) (fun b u e=>?_) I.bare
 ·have e:b=it:=by simpa using hb
  subst e;exact ⟨h1,hL,h2,h3⟩
 ·obtain ⟨o,es,ep,ho,r⟩:=hm;exact ⟨o,es,ep,k _ o (Ne.symm hL) ho,r⟩
 ·refine (I.hok b u e).stay (fun c v hc q=>k c v ?_ q) (fun _ q=>q) fun _ _ q=>q
  rcases hc with z | z
  ·rw [z]; exact nit b u e
  ·exact nit c _ z
theorem Inv.tok (I:Inv X pins σ H s) (t:Nat):Inv X pins σ H { s with toks:=t }:=I.un (h':=s.heap) (t':=t) Un.refl I.hok
theorem Inv.kept {t':Nat} (I:Inv X pins σ H s) (k:∀b u,s.heap.get? b=some u→h'.get? b=some u):Inv X pins σ H { s with heap:=h',toks:=t' }:=I.un (Un.kept k) (I.hok.kept k)
theorem Inv.laid {a:Addr}{o:HO}{t':Nat} (I:Inv X pins σ H s) (k:∀b u,s.heap.get? b=some u→h'.get? b=some u) (hp:s.heap.objs.size≤a) (new:Qbq X.prog X.w (upd H a o) h' a o) :
  Inv X pins σ (upd H a o) { s with heap:=h',toks:=t' }:=I.un (Un.laid k hp (I.hok.fresh hp)) (I.hok.laid k hp new)
theorem Inv.write {x e:Addr}{o:HO}{t':Nat} (I:Inv X pins σ H s) (mu:Mut (H x)) (he:e=x∨H e=some (.own x)) (k:∀b u,b≠e→s.heap.get? b=some u→h'.get? b=some u) (heo:∃u,h'.get? e=some u)
  (new:Qbq X.prog X.w (upd H x o) h' x o):Inv X pins σ (upd H x o) { s with heap:=h',toks:=t' }:=I.un (Un.write mu he k heo) (I.hok.write mu he k heo new)
theorem Inv.pins_of {pins':List (Addr×Obj)} (I:Inv X pins σ H s) (h:∀p∈pins',s.heap.get? p.1=some p.2∧H p.1=none∧p.1≠X.env.locals∧p.1∉X.fs∧∀v,p.2.data≠.cell v):Inv X pins' σ H s :=
 ⟨I.ok,I.os,I.bare,I.base,I.loc,I.cell,I.free,I.freeC,fun p hp=>(zz.mp hp).elim (fun z=>I.pin p (ja _ z)) (h p),I.hok,I.len⟩
theorem Qla {N:List Str} (hN:N.Nodup) {i j:Nat}{x:Str} (a:N[i]? = some x) (b:N[j]? = some x):i=j:=by
 obtain ⟨h1,e1⟩:=ze.mp a;obtain ⟨h2,e2⟩:=ze.mp b;exact (List.getElem_inj hN).mp (e1.trans e2.symm)
theorem Qon {M:Model}{A:Around}{E:Value→Shared→Prop}{i:Nat}{x:Str}{v:V}{u:Value}{Q:Unit→Shared→Prop} (I:Inv X pins σ H s) (hN:X.N.Nodup) (hi:X.N[i]? = some x) (hx:Loc X.env.scope x) (r:RelV v u)
  (h:∀s',Inv X pins (σ.set i (some v)) H s'→(∃a,Heap.SameBut a s.heap s'.heap∧(a=X.env.locals∨X.env.cells.lookup x=some a))→Q () s') (hf:X.fn x=true∨X.env.scope.names.lookup x=some .local:=by first | exact .inl rfl | exact .inr rfl | assumption):wpAny M A (storeName X.env x u) Q E s:=by
 obtain ⟨m,hn,hl⟩:=id I.loc
 have hcls:(X.env.scope.kind == .class || (X.env.scope.kind == .module&&X.env.locals != X.env.globals))=false:=by rw [I.ok.kind]; rfl
 have hiσ:i < σ.length:=by rw [I.len]; exact (ze.mp hi).1
 have cne:=I.cne
 have tracked:∀{a:Addr}{h':Heap},(∃o,s.heap.get? a=some o∧H a=none)→Heap.SameBut a s.heap h'→HOk X.prog X.w H h':=fun {a h'} ha hs b ob e=>by
  obtain ⟨_,_,hfree⟩:=ha
  refine (I.hok b ob e).stay (fun c w' hc q=>(hs.2 c ?_).trans q) (fun _ q=>q) fun _ _ q=>q
  rintro rfl
  rcases hc with rfl | hc
  ·rw [hfree] at e; cases e
  ·rw [hfree] at hc; cases hc
 rcases hx with hk | hk
 ·refine wpAny_storeName_local hk hn (fun h' hn' hs=>?_) hcls;obtain ⟨oL,_,_,hoL,_⟩:=id hn;refine h _ ⟨I.ok,I.os,I.bare,⟨fun b o e n hb hx=>?_,fun b o e n hb hx=>?_,I.base.free,fun b o e hx=>?_,I.base.tups,I.base.frzs,I.base.tbls⟩,⟨_,hn',fun j y v' e1 e2 e3=>?_⟩,fun y c e=>?_,I.free,I.freeC,fun p hp=>?_,tracked ⟨oL,hoL,I.free⟩ hs,by simpa using I.len⟩ ⟨_,hs,.inl rfl⟩
  ·exact (hs.2 b (zB (zG (zf e) I.ok.above))).trans (I.base.keep b o e n hb hx)
  ·obtain ⟨sl,e1⟩:=I.base.slot b o e n hb hx;exact ⟨sl,(hs.2 b (zB (zG (zf e) I.ok.above))).trans e1⟩
  ·obtain ⟨o',e1⟩:=I.base.there b o e hx;exact ⟨o',(hs.2 b (zB (zG (zf e) I.ok.above))).trans e1⟩
  ·by_cases hj:j=i
   ·subst hj;rw [hi] at e1; cases e1;rw [zK hiσ] at e2;cases e2;exact ⟨u,r,.inl ⟨hk,by simp⟩⟩
   ·rw [zj (Ne.symm hj)] at e2;obtain ⟨u',r',q⟩:=hl j y v' e1 e2 e3;refine ⟨u',r',?_⟩
    rcases q with ⟨k,e⟩ | ⟨k,c,e,z⟩
    ·refine .inl ⟨k,?_⟩
     have:y≠x:=fun e=>hj (Qla hN e1 (e ▸ hi))
     simp [this,e]
    ·exact .inr ⟨k,c,e,z.sameBut hs (cne y c e)⟩
  ·obtain ⟨w',z⟩:=I.cell y c e;exact ⟨w',z.sameBut hs (cne y c e)⟩
  ·obtain ⟨e,n,ne,nf,d⟩:=I.pin p hp;exact ⟨(hs.2 p.1 ne).trans e,n,ne,nf,d⟩
 ·have hfn:X.fn x=true:=by
   rcases hf with z | z
   ·exact z
   ·rw [z] at hk; cases hk
  obtain ⟨c,hc⟩:=I.ok.has x (.inl hk);obtain ⟨w',z⟩:=I.cell x c hc;refine wpAny_storeName_cell I.ok.kind hk hc z (fun h' hc' hs=>?_);obtain ⟨oc,hoc,hocd⟩:=id z;refine h { s with heap:=h' } ⟨I.ok,I.os,I.bare,⟨fun b o e n hb hx=>?_,fun b o e n hb hx=>?_,I.base.free,fun b o e hx=>?_,I.base.tups,I.base.frzs,I.base.tbls⟩,⟨m,hn.sameBut hs (Ne.symm (cne x c hc)),fun j y v' e1 e2 e3=>?_⟩,fun y c' e=>?_,I.free,I.freeC,fun p hp=>?_,tracked ⟨oc,hoc,I.freeC x c hc⟩ hs,by simpa using I.len⟩ ⟨c,hs,.inr hc⟩
  ·exact (hs.2 b (zB (zG (zf e) (I.ok.cab x c hfn hc)))).trans (I.base.keep b o e n hb hx)
  ·obtain ⟨sl,e1⟩:=I.base.slot b o e n hb hx;exact ⟨sl,(hs.2 b (zB (zG (zf e) (I.ok.cab x c hfn hc)))).trans e1⟩
  ·obtain ⟨o',e1⟩:=I.base.there b o e hx;exact ⟨o',(hs.2 b (zB (zG (zf e) (I.ok.cab x c hfn hc)))).trans e1⟩
  ·by_cases hj:j=i
   ·subst hj;rw [hi] at e1; cases e1;rw [zK hiσ] at e2;cases e2;exact ⟨u,r,.inr ⟨.inl hk,c,hc,hc'⟩⟩
   ·rw [zj (Ne.symm hj)] at e2;obtain ⟨u',r',q⟩:=hl j y v' e1 e2 e3;refine ⟨u',r',?_⟩
    rcases q with q | ⟨k,c',e,z'⟩
    ·exact .inl q
    ·refine .inr ⟨k,c',e,z'.sameBut hs ?_⟩;rintro rfl;exact hj (Qla hN e1 (I.ok.inj _ _ _ e hc ▸ hi))
  ·by_cases hcc:c'=c
   ·subst hcc; exact ⟨_,hc'⟩
   ·obtain ⟨w2,z2⟩:=I.cell y c' e;exact ⟨w2,z2.sameBut hs hcc⟩
  ·obtain ⟨e,n,ne,nf,d⟩:=I.pin p hp;refine ⟨(hs.2 p.1 ?_).trans e,n,ne,nf,d⟩;intro q;rw [q,hoc] at e;have q':oc=p.2:=zF e;exact d w' (by rw [←q']; exact hocd)
theorem Qi0 {M:Model}{A:Around}{E:Value→Shared→Prop}{i:Nat}{x:Str}{v:V}{u:Value}{Q:Unit→Shared→Prop} (I:Inv X pins σ H s) (hN:X.N.Nodup) (hi:X.N[i]? = some x) (hx:Loc X.env.scope x) (r:RelV v u)
  (h:∀s',Inv X pins (σ.set i (some v)) H s'→Q () s') (hf:X.fn x=true∨X.env.scope.names.lookup x=some .local:=by first | exact .inl rfl | exact .inr rfl | assumption):wpAny M A (storeName X.env x u) Q E s :=
 Qon I hN hi hx r (fun s' I' _=>h s' I') hf
theorem Inv.call' {s':Shared}{ch:List Addr} (I:Inv X pins σ H s) (ho:s'.os=s.os) (u:Un (frs X.stack) ch H H' s.heap s'.heap) (hok:HOk X.prog X.w H' s'.heap) (hg:AllBare s'.gens)
  (hch:∀b∈ch,(b∈X.ex∨X.s₀.heap.objs.size≤b)∧b≠X.env.locals∧(∀x c,X.env.cells.lookup x=some c→c≠b)∧∀p∈X.pn++pins,p.1≠b):Inv X pins σ H' s':=by
 obtain ⟨h',g',d',t',o'⟩:=s';have e:o'=s.os:=ho;subst e;exact I.call (g':=g') (t':=t') (d':=d') u hok hg hch
end
abbrev XK:=Value→Option Addr→Hp→Prop
abbrev St:=List (Option V)
abbrev VK:=V→Hp→Prop
abbrev TE:=St→Hp→VK→Prop
abbrev TT:=St→Hp→(Bool→Hp→Prop)→Prop
abbrev TA:=St→Hp→(List V→Hp→Prop)→Prop
structure Ends where
 nx:St→Hp→Prop
 rt:VK
 bk:St→Hp→Prop:=fun _ _=>False
 ct:St→Hp→Prop:=fun _ _=>False
abbrev TS:=Ends→St→Hp→Prop
def EP (X:Cx) (pins:List (Addr×Obj)) (σ:St) (Q:VK) (u:Value) (s':Shared):Prop:=∃v H',Inv X pins σ H' s'∧RelV v u∧Q v H'
def TP (X:Cx) (pins:List (Addr×Obj)) (σ:St) (Q:Bool→Hp→Prop) (b:Bool) (s':Shared):Prop:=∃H',Inv X pins σ H' s'∧Q b H'
def AP (X:Cx) (pins:List (Addr×Obj)) (σ:St) (Q:List V→Hp→Prop) (us:List Value) (s':Shared):Prop:=∃vs H',Inv X pins σ H' s'∧QaG vs us∧Q vs H'
def SP (X:Cx) (pins:List (Addr×Obj)) (D:Ends) (f:Flow) (s':Shared):Prop :=
 match f with
 | .next=>∃σ' H',Inv X pins σ' H' s'∧D.nx σ' H'
 | .brk=>∃σ' H',Inv X pins σ' H' s'∧D.bk σ' H'
 | .cont=>∃σ' H',Inv X pins σ' H' s'∧D.ct σ' H'
 | .ret u=>∃v σ' H',Inv X pins σ' H' s'∧RelV v u∧D.rt v H'
def PE (X:Cx) (e:Expr) (t:TE):Prop :=
 ∀(pins:List (Addr×Obj)) (s:Shared) (σ:St) (H:Hp) (Q:VK),Inv X pins σ H s→t σ H Q→wpAny (model X.prog X.w) X.A (eval e X.env) (EP X pins σ Q) X.xe s
def PT (X:Cx) (e:Expr) (t:TT):Prop :=
 ∀(pins:List (Addr×Obj)) (s:Shared) (σ:St) (H:Hp) (Q:Bool→Hp→Prop),Inv X pins σ H s→t σ H Q→wpAny (model X.prog X.w) X.A (isTrue e X.env (eval e X.env)) (TP X pins σ Q) X.xe s
def PW (X:Cx) (e:Expr) (t:TT):Prop :=
 ∀(whole:Sem Value) (pins:List (Addr×Obj)) (s:Shared) (σ:St) (H:Hp) (Q:Bool→Hp→Prop),Inv X pins σ H s→t σ H Q→wpAny (model X.prog X.w) X.A (isTrue e X.env whole) (TP X pins σ Q) X.xe s
theorem PW.pt {X:Cx}{e:Expr}{t:TT} (h:PW X e t):PT X e t:=h _
def PA (X:Cx) (es:List Expr) (t:TA):Prop :=
 ∀(pos:Pos) (pins:List (Addr×Obj)) (s:Shared) (σ:St) (H:Hp) (Q:List V→Hp→Prop),Inv X pins σ H s→t σ H Q→wpAny (model X.prog X.w) X.A (spliced (backTo pos (starEach es X.env))) (AP X pins σ Q) X.xe s
def PS (X:Cx) (st:Stmt) (t:TS):Prop :=
 ∀(pins:List (Addr×Obj)) (s:Shared) (σ:St) (H:Hp) (D:Ends),Inv X pins σ H s→t D σ H→wpAny (model X.prog X.w) X.A (exec st X.env) (SP X pins D) X.xe s
def PSs (X:Cx) (st:List Stmt) (t:TS):Prop :=
 ∀(pins:List (Addr×Obj)) (s:Shared) (σ:St) (H:Hp) (D:Ends),Inv X pins σ H s→t D σ H→wpAny (model X.prog X.w) X.A (execs st X.env) (SP X pins D) X.xe s
theorem thn {α:Type}{t:Sem α}{Q Q':α→Shared→Prop}{M:Model}{A:Around}{E:Value→Shared→Prop}{s:Shared} (h:wpAny M A t Q E s) (hQ:∀a s,Q a s→Q' a s):wpAny M A t Q' E s:=zS h hQ fun _ _ x=>x
section
variable {X:Cx}
def Qwo (i:Nat):TE:=fun σ H Q=>∃v,σ[i]? = some (some v)∧Q v H
def tC (v:V):TE:=fun _ H Q=>Q v H
theorem Qgb {i:Nat}{x:Str}{pos:Pos} (hN:X.N[i]? = some x) (hv:Vis X.env.scope x) (hd:(x == ("__debug__":Str))=false:=by decide) (hcd:(x == ("__classdict__":Str))=false:=by decide):PE X (.Name x pos) (Qwo i):=by
 intro pins s σ H Q I h;obtain ⟨v,e,h⟩:=h;obtain ⟨m,hn,hl⟩:=I.loc;obtain ⟨u,r,l⟩:=hl i x v hN e hv;have fin:EP X pins σ Q u s:=⟨v,H,I,r,h⟩
 rcases l with ⟨hk,hm⟩ | ⟨hk,c,hc,hcell⟩
 ·exact wpAny_Name (wpAny_loadName_local I.ok.kind hk hn hm fin) hd
 ·rcases hk with hk | hk
  ·exact wpAny_Name (wpAny_loadName_cell I.ok.kind hk hc hcell fin) hd
  ·exact wpAny_Name (wpAny_loadName_free I.ok.kind hk hc hcell fin hcd) hd
theorem QuK {i j pos}:PE X (.Constant (.int i) j pos) (tC (.int i)):=fun _ _ _ H _ I h=>wpAny_Constant_int ⟨.int i,H,I.tok _,⟨_,rfl⟩,h⟩
theorem QvJ {b j pos}:PE X (.Constant (.bool b) j pos) (tC (.bl b)):=fun _ _ _ H _ I h=>Constant_bool ⟨.bl b,H,I,rfl,h⟩
theorem Qtf {j pos}:PE X (.Constant .none j pos) (tC .non):=fun _ _ _ H _ I h=>Constant_none ⟨.non,H,I,rfl,h⟩
theorem Qth {x j pos}:PE X (.Constant (.str x) j pos) (tC (.str x)):=fun _ _ _ H _ I h=>Calls.Constant_str ⟨.str x,H,I.tok _,⟨_,rfl⟩,h⟩
def Gl (X:Cx) (x:Str):Prop:=X.env.kindOf x=some .globalImplicit
theorem QjP {E:Value→Shared→Prop}{pins:List (Addr×Obj)}{s:Shared}{σ:St}{H:Hp}{x:Str}{u:Value}{pos:Pos}{Q:Value→Shared→Prop} (I:Inv X pins σ H s) (hg:Gl X x) (hm:X.mg x=some u) (h:Q u s)
  (hd:(x == ("__debug__":Str))=false:=by decide):wpAny (model X.prog X.w) X.A (eval (.Name x pos) X.env) Q E s :=
 Calls.Name_function_global I.ok.kind hg (Calls.loadGlobal_global (by rw [I.ok.glob]; exact I.mod.glob.keeps I.bk) hm h) hd
theorem QdJ {E:Value→Shared→Prop}{pins:List (Addr×Obj)}{s:Shared}{σ:St}{H:Hp}{x:Str}{u:Value}{pos:Pos}{Q:Value→Shared→Prop} (I:Inv X pins σ H s) (hg:Gl X x) (hm:X.mg x=none) (hv:bootBuiltins x=some u) (h:Q u s)
  (hn:x≠"__name__":=by decide) (hd:(x == ("__debug__":Str))=false:=by decide):wpAny (model X.prog X.w) X.A (eval (.Name x pos) X.env) Q E s:=by
 obtain ⟨mb,h1,h2⟩:=I.mod.blt;exact Calls.Name_function_global I.ok.kind hg (Calls.loadGlobal_builtin (by rw [I.ok.glob]; exact I.mod.glob.keeps I.bk) hm (by rw [I.ok.blt]; exact h1.keeps I.bk) ((h2 x hn).trans hv) h) hd
theorem Qrx {x:Str}{v:V}{u:Value}{pos:Pos} (hg:Gl X x) (hm:X.mg x=some u) (r:RelV v u) (hd:(x == ("__debug__":Str))=false:=by decide):PE X (.Name x pos) (tC v) :=
 fun _ _ _ H _ I h=>QjP I hg hm ⟨v,H,I,r,h⟩ hd
theorem Qrs {x:Str}{v:V}{u:Value}{pos:Pos} (hg:Gl X x) (hm:X.mg x=none) (hv:bootBuiltins x=some u) (r:RelV v u) (hn:x≠"__name__":=by decide) (hd:(x == ("__debug__":Str))=false:=by decide):PE X (.Name x pos) (tC v) :=
 fun _ _ _ H _ I h=>QdJ I hg hm hv ⟨v,H,I,r,h⟩ hn hd
variable {a b:Expr}{ta tb:TE}{pos:Pos}
def PC (X:Cx) (op:CmpOp) (a b:Expr) (t:TE):Prop :=
 ∀(pins:List (Addr×Obj)) (s:Shared) (σ:St) (H:Hp) (Q:VK),Inv X pins σ H s→t σ H Q →
  wpAny (model X.prog X.w) X.A (eval a X.env) (fun v s₁=>wpAny (model X.prog X.w) X.A (eval b X.env) (fun u s₂=>wpAny (model X.prog X.w) X.A (compareOp op v u) (EP X pins σ Q) X.xe s₂) X.xe s₁) X.xe s
theorem Qp9 (b:Expr) {op:CmpOp} (h:op≠.In) (h2:op≠.NotIn):behindInMarks op b=false:=by
 have e1:(op == CmpOp.In)=false:=by cases op <;> first | rfl | exact absurd rfl h
 have e2:(op == CmpOp.NotIn)=false:=by cases op <;> first | rfl | exact absurd rfl h2
 cases b <;> simp [behindInMarks,e1,e2]
def Qt9 (ta:TE):TE:=fun σ H Q=>ta σ H fun x H1=>Q (.bl (decide (x = .non))) H1
def Qrc (ta:TE):TE:=fun σ H Q=>ta σ H fun x H1=>Q (.bl (!decide (x = .non))) H1
theorem RelV.none_iff {x:V}{v:Value} (r:RelV x v):(v == Value.none)=decide (x = .non):=by
 cases x with
 | non=>cases r; rfl
 | bl _=>cases r; rfl
 | int _=>obtain ⟨t,rfl⟩:=r; rfl
 | str _=>obtain ⟨t,rfl⟩:=r; rfl
 | byt _=>obtain ⟨t,rfl⟩:=r; rfl
 | flt _=>obtain ⟨t,rfl⟩:=r; rfl
 | ref _=>cases r; rfl
 | ty _=>cases r; rfl
theorem Qs3 {j pos'} (ha:PE X a ta):PC X .Is a (.Constant .none j pos') (Qt9 ta):=by
 intro pins s σ H Q I h
 refine thn (ha pins s σ H _ I h) fun v s1 ⟨x,H1,I1,r1,q1⟩=>?_
 exact Constant_none (is_none_gen ⟨.bl _,H1,I1,by rw [r1.none_iff]; rfl,q1⟩)
theorem QrD {j pos'} (ha:PE X a ta):PC X .IsNot a (.Constant .none j pos') (Qrc ta):=by
 intro pins s σ H Q I h
 refine thn (ha pins s σ H _ I h) fun v s1 ⟨x,H1,I1,r1,q1⟩=>?_
 exact Constant_none (isnot_none_gen ⟨.bl _,H1,I1,by rw [r1.none_iff]; rfl,q1⟩)
def tB (t:TE):TT:=fun σ H Q=>t σ H fun x H1=>∃c,x = .bl c∧Q c H1
theorem QlN {op:CmpOp}{t:TE} (h:PC X op a b t) (h1:behindInMarks op b=false:=by first | exact Qp9 _ (by decide) (by decide) | rfl):PT X (.Compare a [op] [b] pos) (tB t):=by
 intro pins s σ H Q I hw;refine wpAny_isTrue_Compare1 (thn (h pins s σ H _ I hw) fun v s1 h1=>thn h1 fun u s2 h2=>thn h2 fun c s3 ⟨x,H1,I1,r1,q1⟩=>?_) h1;obtain ⟨d,rfl,q⟩:=q1;cases r1;exact wpAny_truthy_bool ⟨H1,I1,q⟩
variable {tA tB':TT}{rest:List Expr}
def QtT (t u:TT):TT:=fun σ H Q=>t σ H fun c H1=>if c=true then u σ H1 Q else Q false H1
def tOr (t u:TT):TT:=fun σ H Q=>t σ H fun c H1=>if c=true then Q true H1 else u σ H1 Q
def QwE (t:TT):TT:=fun σ H Q=>t σ H fun c H1=>Q (!c) H1
theorem QsQ (ha:PT X a tA):PW X (.BoolOp .And [a] pos) tA:=by
 intro wh pins s σ H Q I h;refine isTrue_and (thn (ha pins s σ H Q I h) fun c s1 e=>?_)
 cases c with
 | true=>exact isTrue_and_nil e
 | false=>exact e
theorem QtS (ha:PT X a tA):PW X (.BoolOp .Or [a] pos) tA:=by
 intro wh pins s σ H Q I h;refine isTrue_or (thn (ha pins s σ H Q I h) fun c s1 e=>?_)
 cases c with
 | false=>exact isTrue_or_nil e
 | true=>exact e
theorem Qtl (ha:PT X a tA) (hb:PW X (.BoolOp .And (b::rest) pos) tB'):PW X (.BoolOp .And (a::b::rest) pos) (QtT tA tB'):=by
 intro wh pins s σ H Q I h;refine isTrue_and (thn (ha pins s σ H _ I h) fun c s1 ⟨H1,I1,q1⟩=>?_)
 cases c with
 | true=>exact hb wh pins s1 σ H1 Q I1 q1
 | false=>exact ⟨H1,I1,q1⟩
theorem Qvr (ha:PT X a tA) (hb:PW X (.BoolOp .Or (b::rest) pos) tB'):PW X (.BoolOp .Or (a::b::rest) pos) (tOr tA tB'):=by
 intro wh pins s σ H Q I h;refine isTrue_or (thn (ha pins s σ H _ I h) fun c s1 ⟨H1,I1,q1⟩=>?_)
 cases c with
 | true=>exact ⟨H1,I1,q1⟩
 | false=>exact hb wh pins s1 σ H1 Q I1 q1
theorem Qs2 (ha:PT X a tA):PT X (.UnaryOp .Not a pos) (QwE tA):=by
 intro pins s σ H Q I h;exact isTrue_not (ha pins s σ H (fun c H1=>Q (!c) H1) I h)
def QuY (ta tb:TE):TE:=fun σ H Q=>ta σ H fun x H1=>∃c,x = .bl c∧if c=true then tb σ H1 Q else Q (.bl false) H1
def QvO (ta:TE):TE:=fun σ H Q=>ta σ H fun x H1=>∃c,x = .bl c∧Q (.bl (!c)) H1
theorem QuC {op}{t:TE} (h:PE X a t):PE X (.BoolOp op [a] pos) t:=fun pins s σ H Q I hw=>BoolOp_one (h pins s σ H Q I hw)
theorem Qs4 (ha:PE X a ta) (hb:PE X (.BoolOp .And (b::rest) pos) tb):PE X (.BoolOp .And (a::b::rest) pos) (QuY ta tb):=by
 intro pins s σ H Q I h;refine BoolOp_and (thn (ha pins s σ H _ I h) fun v s1 ⟨x,H1,I1,r1,q1⟩=>?_);obtain ⟨c,rfl,q1⟩:=q1;cases r1;refine wpAny_truthy_bool ?_
 cases c with
 | true=>exact hb pins s1 σ H1 Q I1 q1
 | false=>exact ⟨.bl false,H1,I1,rfl,q1⟩
theorem QtO (ha:PE X a ta):PE X (.UnaryOp .Not a pos) (QvO ta):=by
 intro pins s σ H Q I h;refine UnaryOp_ (thn (ha pins s σ H _ I h) fun v s1 ⟨x,H1,I1,r1,q1⟩=>?_);obtain ⟨c,rfl,q1⟩:=q1;cases r1;exact not_of (wpAny_truthy_bool ⟨.bl (!c),H1,I1,rfl,q1⟩)
def tIf (t:TT) (ta tb:TE):TE:=fun σ H Q=>t σ H fun c H1=>if c=true then ta σ H1 Q else tb σ H1 Q
theorem QpO {c:Expr} (hc:PT X c tA) (ha:PE X a ta) (hb:PE X b tb):PE X (.IfExp c a b pos) (tIf tA ta tb):=by
 intro pins s σ H Q I h;refine wpAny_IfExp (thn (hc pins s σ H _ I h) fun d s1 ⟨H1,I1,q1⟩=>?_)
 cases d with
 | true=>exact ha pins s1 σ H1 Q I1 q1
 | false=>exact hb pins s1 σ H1 Q I1 q1
end
def SqL (K:PySem.W.Frag) (H:Hp) (a:Addr) (xs:List V):Prop :=
 Rd H a (.lst xs) ∨
  ∃(o:Obj) (its:Array Value) (n:Nat),K.lookup a=some o∧o.cls = .type "list"∧o.dict=none∧o.data = .seq its n∧its.size≤sizeLine∧QaG xs its.toList
def SqT (K:PySem.W.Frag) (H:Hp) (a:Addr) (xs:List V):Prop :=
 Rd H a (.tup xs) ∨
  ∃(o:Obj) (its:Array Value) (n:Nat),K.lookup a=some o∧o.cls = .type "tuple"∧o.data = .seq its n∧its.size≤sizeLine∧QaG xs its.toList
def Qwb:Value→Option V
 | .none=>some .non
 | .bool b=>some (.bl b)
 | .int i _=>some (.int i)
 | .str x _=>some (.str x)
 | .bytes b _=>some (.byt b)
 | .float b _=>some (.flt b)
 | .ref a=>some (.ref a)
 | .type n=>some (.ty n)
 | _=>none
theorem RelV.abs {x:V}{u:Value} (r:RelV x u):Qwb u=some x:=by
 cases x with
 | non=>cases r; rfl
 | bl _=>cases r; rfl
 | int _=>obtain ⟨t,rfl⟩:=r; rfl
 | str _=>obtain ⟨t,rfl⟩:=r; rfl
 | byt _=>obtain ⟨t,rfl⟩:=r; rfl
 | flt _=>obtain ⟨t,rfl⟩:=r; rfl
 | ref _=>cases r; rfl
 | ty _=>cases r; rfl
theorem RelV.inj {x y:V}{u:Value} (r:RelV x u) (q:RelV y u):x=y:=zF (r.abs.symm.trans q.abs)
theorem QaG.inj:∀{xs ys:List V}{us:List Value},QaG xs us→QaG ys us→xs=ys
 | _,_,_,.nil,.nil=>rfl
 | _,_,_,.cons r t,.cons r' t'=>by rw [r.inj r',QaG.inj t t']
section
variable {X:Cx}{pins:List (Addr×Obj)}{σ:St}{H:Hp}{s:Shared}{a:Addr}{xs ys:List V}
theorem Inv.list (I:Inv X pins σ H s) (h:SqL X.K H a xs):∃its:List Value,QaG xs its∧PlainL s.heap a its.toArray∧xs.length≤sizeLine:=by
 rcases h with h | ⟨o,its,n,hk,hc,hd,hs,hz,r⟩
 ·obtain ⟨z,its,n,r,e⟩:=h.ok I.hok;exact ⟨its,r,⟨_,n,e,rfl,rfl,rfl⟩,z⟩
 ·refine ⟨its.toList,r,⟨o,n,I.kIn a o hk,hc,hd,by simpa using hs⟩,?_⟩;have e:=r.length;simp only [Array.length_toList] at e;omega
theorem Inv.tuple (I:Inv X pins σ H s) (h:SqT X.K H a xs):∃its:List Value,QaG xs its∧IsTup s.heap a its.toArray∧xs.length≤sizeLine:=by
 rcases h with h | ⟨o,its,n,hk,hc,hs,hz,r⟩
 ·obtain ⟨z,its,r,p⟩:=h.ok I.hok;exact ⟨its,r,p,z⟩
 ·refine ⟨its.toList,r,⟨o,I.kIn a o hk,hc,n,by simpa using hs⟩,?_⟩;have e:=r.length;simp only [Array.length_toList] at e;omega
theorem Inv.list_inj (I:Inv X pins σ H s) (h:SqL X.K H a xs) (h':SqL X.K H a ys):xs=ys:=by
 obtain ⟨its,r,⟨o,n,e,_,_,d⟩,_⟩:=I.list h;obtain ⟨its',r',⟨o',n',e',_,_,d'⟩,_⟩:=I.list h';rw [e] at e'; cases e';rw [d] at d'
 injection d' with d1 _
 have:its=its':=by simpa using congrArg Array.toList d1
 subst this;exact r.inj r'
theorem Inv.tuple_inj (I:Inv X pins σ H s) (h:SqT X.K H a xs) (h':SqT X.K H a ys):xs=ys:=by
 obtain ⟨its,r,⟨o,e,_,n,d⟩,_⟩:=I.tuple h;obtain ⟨its',r',⟨o',e',_,n',d'⟩,_⟩:=I.tuple h';rw [e] at e'; cases e';rw [d] at d'
 injection d' with d1 _
 have:its=its':=by simpa using congrArg Array.toList d1
 subst this;exact r.inj r'
end
abbrev Cx.wish (X:Cx) (E:Value→Shared→Prop):Cx:={ X with xe:=E }
abbrev Cx.nox (X:Cx):Cx:=X.wish fun _ _=>False
theorem Cx.Ok.wish {X:Cx} (ok:X.Ok) (E:Value→Shared→Prop):(X.wish E).Ok :=
 ⟨ok.mod,ok.kind,ok.glob,ok.blt,ok.above,ok.inj,ok.has,ok.cab,ok.hd,ok.frames,ok.stk,ok.exf,ok.bs,ok.bsz,ok.noex,ok.exfs,ok.funs,ok.frf⟩
theorem Cx.Ok.unwish {X:Cx}{E:Value→Shared→Prop} (ok:(X.wish E).Ok):X.Ok :=
 ⟨ok.mod,ok.kind,ok.glob,ok.blt,ok.above,ok.inj,ok.has,ok.cab,ok.hd,ok.frames,ok.stk,ok.exf,ok.bs,ok.bsz,ok.noex,ok.exfs,ok.funs,ok.frf⟩
section
variable {X:Cx}{pins:List (Addr×Obj)}{σ:St}{H:Hp}{s:Shared}{E:Value→Shared→Prop}
theorem Inv.wish (I:Inv X pins σ H s) (E:Value→Shared→Prop):Inv (X.wish E) pins σ H s:=⟨I.ok.wish E,I.os,I.bare,I.base,I.loc,I.cell,I.free,I.freeC,I.pin,I.hok,I.len⟩
theorem Inv.unwish (I:Inv (X.wish E) pins σ H s):Inv X pins σ H s:=⟨I.ok.unwish,I.os,I.bare,I.base,I.loc,I.cell,I.free,I.freeC,I.pin,I.hok,I.len⟩
theorem SP.unwish {D:Ends}{f:Flow}{s':Shared} (h:SP (X.wish E) pins D f s'):SP X pins D f s':=by
 cases f with
 | next=>obtain ⟨σ',H',I,q⟩:=h; exact ⟨σ',H',I.unwish,q⟩
 | brk=>obtain ⟨σ',H',I,q⟩:=h; exact ⟨σ',H',I.unwish,q⟩
 | cont=>obtain ⟨σ',H',I,q⟩:=h; exact ⟨σ',H',I.unwish,q⟩
 | ret u=>obtain ⟨v,σ',H',I,r,q⟩:=h; exact ⟨v,σ',H',I.unwish,r,q⟩
theorem PSs.nox {st:List Stmt}{t:TS} (h:PSs X.nox st t):PSs X st t:=fun pins s σ H D I hw =>
 zS (h pins s σ H D (I.wish _) hw) (fun _ _ q=>q.unwish) fun _ _ z=>False.elim z
end
section
variable {X:Cx}{st:Stmt}{rest:List Stmt}{t u:TS}{e:Expr}{te:TE}{pos:Pos}
def Qu8:TS:=fun D σ H=>D.nx σ H
def Qv3 (t u:TS):TS:=fun D σ H=>t { D with nx:=u D } σ H
theorem QrP:PSs X [] Qu8:=fun _ _ σ H _ I h=>wpAny_execs_nil ⟨σ,H,I,h⟩
theorem QpJ (h1:PS X st t) (h2:PSs X rest u):PSs X (st::rest) (Qv3 t u):=by
 intro pins s σ H D I h;refine wpAny_execs_cons (thn (h1 pins s σ H { D with nx:=u D } I h) fun f s1 q=>?_)
 cases f with
 | next =>
  obtain ⟨σ',H',I',q⟩:=q;exact h2 pins s1 σ' H' D I' q
 | ret v=>exact q
 | brk=>exact q
 | cont=>exact q
theorem Qsx (h1:PS X st t):PSs X [st] t:=by
 intro pins s σ H D I h;refine wpAny_execs_cons (thn (h1 pins s σ H D I h) fun f s1 q=>?_)
 cases f with
 | next=>exact wpAny_execs_nil q
 | ret v=>exact q
 | brk=>exact q
 | cont=>exact q
theorem Inv.quiet {pins:List (Addr×Obj)}{σ:St}{H:Hp}{s:Shared} (I:Inv X pins σ H s):interactive X.env=false:=by simp [interactive,I.ok.kind]
def Qu9 (te:TE):TS:=fun D σ H=>te σ H fun _ H1=>D.nx σ H1
theorem QeV (he:PE X e te) (hs:swapsWith e none pos.line X.env=pure false:=by rfl):PS X (.Expr e pos) (Qu9 te):=by
 intro pins s σ H D I h;exact wpAny_Expr_any (thn (he pins s σ H _ I h) fun v s1 ⟨x,H1,I1,r1,q1⟩=>⟨σ,H1,I1,q1⟩) I.quiet hs
def QwB (te:TE):TS:=fun D σ H=>te σ H D.rt
theorem Qn5 (he:PE X e te):PS X (.Return (some e) pos) (QwB te):=by
 intro pins s σ H D I h;exact wpAny_Return_some (thn (he pins s σ H _ I h) fun v s1 ⟨x,H1,I1,r1,q1⟩=>⟨x,σ,H1,I1,r1,q1⟩)
def QwM (c:TT) (t u:TS):TS:=fun D σ H=>c σ H fun b H1=>if b=true then t D σ H1 else u D σ H1
theorem Qu7 {c:Expr}{a b:List Stmt}{tc:TT} (hc:PT X c tc) (ha:PSs X a t) (hb:PSs X b u):PS X (.If c a b pos) (QwM tc t u):=by
 intro pins s σ H D I h;refine wpAny_If (thn (hc pins s σ H _ I h) fun d s1 ⟨H1,I1,q1⟩=>?_)
 cases d with
 | true=>exact ha pins s1 σ H1 D I1 q1
 | false=>exact hb pins s1 σ H1 D I1 q1
end
abbrev TG:=V→St→Hp→(St→Hp→Prop)→Prop
abbrev TGs:=List V→St→Hp→(St→Hp→Prop)→Prop
def PG (X:Cx) (target:Expr) (t:TG):Prop :=
 ∀(pins:List (Addr×Obj)) (s:Shared) (σ:St) (H:Hp) (v:V) (u:Value) (Q:St→Hp→Prop),Inv X pins σ H s→RelV v u→t v σ H Q →
  wpAny (model X.prog X.w) X.A (assign target X.env u) (fun _ s'=>∃σ' H',Inv X pins σ' H' s'∧Q σ' H') X.xe s
def PGs (X:Cx) (ts:List Expr) (t:TGs):Prop :=
 ∀(pins:List (Addr×Obj)) (s:Shared) (σ:St) (H:Hp) (vs:List V) (us:List Value) (Q:St→Hp→Prop),Inv X pins σ H s→QaG vs us→t vs σ H Q →
  wpAny (model X.prog X.w) X.A (assignInOrder ((assignEach ts X.env).map (·.2)) us) (fun _ s'=>∃σ' H',Inv X pins σ' H' s'∧Q σ' H') X.xe s
abbrev QqF:=V→V→V→Hp→(Hp→Prop)→Prop
def QuE (X:Cx) (t:QqF):Prop :=
 ∀(pins:List (Addr×Obj)) (s:Shared) (σ:St) (H:Hp) (o i v:V) (ov iv u:Value) (Q:Hp→Prop),Inv X pins σ H s→RelV o ov→RelV i iv→RelV v u→t o i v H Q →
  wpAny (model X.prog X.w) X.A (setItem ov iv u) (fun _ s'=>∃H',Inv X pins σ H' s'∧Q H') X.xe s
section
variable {X:Cx}{pos:Pos}
def Qji (i:Nat):TG:=fun v σ H Q=>Q (σ.set i (some v)) H
theorem Qsy {i:Nat}{x:Str} (hN:X.N.Nodup) (hi:X.N[i]? = some x) (hx:Loc X.env.scope x) (hf:X.fn x=true∨X.env.scope.names.lookup x=some .local:=by first | exact .inl rfl | exact .inr rfl | assumption):PG X (.Name x pos) (Qji i):=by
 intro pins s σ H v u Q I r h;exact wpAny_assign_Name (Qi0 I hN hi hx r (fun s' I'=>⟨_,H,I',h⟩) hf)
def Qwp:TGs:=fun vs σ H Q=>vs = []∧Q σ H
def Qvl (t:TG) (u:TGs):TGs:=fun vs σ H Q=>∃v r,vs=v::r∧t v σ H fun σ' H'=>u r σ' H' Q
theorem QsL:PGs X [] Qwp:=by
 intro pins s σ H vs us Q I r h;obtain ⟨e,h⟩:=h;subst e;cases r;exact assignInOrder_nil ⟨σ,H,I,h⟩
theorem Qqh {e:Expr}{es:List Expr}{t:TG}{u:TGs} (h1:PG X e t) (h2:PGs X es u)
  (hs:(assignEach (e::es) X.env).map (·.2)=assign e X.env::(assignEach es X.env).map (·.2):=by rfl):PGs X (e::es) (Qvl t u):=by
 intro pins s σ H vs us Q I r h;obtain ⟨v,vr,e1,h⟩:=h;subst e1
 cases r with
 | cons r rr =>
  rw [hs];refine assignInOrder_cons (thn (h1 pins s σ H _ _ _ I r h) fun _ s1 ⟨σ1,H1,I1,q1⟩=>?_);exact h2 pins s1 σ1 H1 _ _ Q I1 rr q1
def Qwl (K:PySem.W.Frag) (n:Nat) (t:TGs):TG:=fun v σ H Q=>∃a xs,v = .ref a∧SqT K H a xs∧xs.length=n∧t xs σ H Q
theorem Qte {es:List Expr}{k:Nat}{t:TGs}{n:Nat} (hc:X.calm=true) (h:PGs X es t)
  (hn:(assignEach es X.env).length=n:=by rfl) (hst:(assignEach es X.env).findIdx? (·.1)=none:=by rfl):PG X (.Tuple es k pos) (Qwl X.K n t):=by
 intro pins s σ H v u Q I r hw;obtain ⟨a,xs,e1,hq,hl,hw⟩:=hw;subst e1;cases r;obtain ⟨its,rv,ht,hz⟩:=I.tuple hq
 refine assign_Tuple_tuple (I.ok.hd hc) ht (by simp [hn,←hl,rv.length]) hst fun h' hx=>?_
 have I1:Inv X pins σ H { s with heap:=h' }:=I.kept (t':=s.toks) fun b o e=>hx b o (zB (zf e)) e
 exact h pins _ σ H xs _ Q I1 (by simpa using rv) hw
def QwS (to ti:TE) (t:QqF):TG:=fun v σ H Q=>to σ H fun o H1=>ti σ H1 fun i H2=>t o i v H2 fun H3=>Q σ H3
theorem Qt4 {o i:Expr}{to ti:TE}{t:QqF} (ho:PE X o to) (hi:PE X i ti) (hs:QuE X t)
  (ha:∀v,assign (.Subscript o i pos) X.env v=(do
   let ov ←holding [v] (eval o X.env)
   let iv ←holding [v,ov] (eval i X.env)
   standAt pos
   holding [v,ov,iv] (setItem ov iv v)
   release [v,ov,iv] []):=by intro _; rfl):PG X (.Subscript o i pos) (QwS to ti t):=by
 intro pins s σ H v u Q I r h;rw [ha];refine za (zT (thn (ho pins s σ H _ I h) fun ov s1 ⟨x,H1,I1,r1,q1⟩=>?_));refine za (zT (thn (hi pins s1 σ H1 _ I1 q1) fun iv s2 ⟨y,H2,I2,r2,q2⟩=>?_));refine za (wpAny_standAt (za (zT (thn (hs pins s2 σ H2 x y v ov iv u _ I2 r1 r2 r q2) fun _ s3 ⟨H3,I3,q3⟩=>?_))));exact wpAny_release ⟨σ,H3,I3,q3⟩
def QlI (te:TE) (g:TG):TS:=fun D σ H=>te σ H fun x H1=>g x σ H1 D.nx
theorem Qpl {tg e:Expr}{te:TE}{g:TG} (he:PE X e te) (hg:PG X tg g) (hs:swapsWithSole [tg] e pos.line X.env=pure false:=by rfl) (hw:swappedStores [tg] e X.env=pure none:=by rfl)
  (h1:(assignEach [tg] X.env).map (·.2) = [assign tg X.env]:=by rfl):PS X (.Assign [tg] e pos) (QlI te g):=by
 intro pins s σ H D I h;refine wpAny_Assign_stores (thn (he pins s σ H _ I h) fun v s1 ⟨x,H1,I1,r1,q1⟩=>?_) hs hw;rw [h1]
 exact thn (hg pins s1 σ H1 x v _ I1 r1 q1) fun _ s2 q=>q
theorem Qo4 {i:Nat}{x:Str}{e:Expr}{te:TE}{pos':Pos} (hN:X.N.Nodup) (hi:X.N[i]? = some x) (hx:Loc X.env.scope x) (he:PE X e te) (hs:swapsWith e (some (.Name x pos')) pos.line X.env=pure false:=by rfl) (hf:X.fn x=true∨X.env.scope.names.lookup x=some .local:=by first | exact .inl rfl | exact .inr rfl | assumption) :
  PS X (.Assign [.Name x pos'] e pos) (QlI te (Qji i)):=by
 intro pins s σ H D I h;refine wpAny_Assign_Name (thn (he pins s σ H _ I h) fun v s1 ⟨y,H1,I1,r1,q1⟩=>?_) hs;exact Qi0 I1 hN hi hx r1 (fun s2 I2=>⟨_,H1,I2,q1⟩) hf
end
section
variable {X:Cx}{pos:Pos}
def Qow (c:TT) (tb:TS):TS:=fun D σ H=>∃W:Nat→St→Hp→Prop,(∃m,W m σ H)∧∀m σ H,W m σ H →
 c σ H fun b H1=>if b=true then ∃N:St→Hp→Prop,(∀σ' H',N σ' H'→∃m',m' < m∧W m' σ' H')∧tb { D with nx:=N,ct:=N,bk:=D.nx } σ H1 else D.nx σ H1
theorem QqE {c:Expr}{body:List Stmt}{tc:TT}{tb:TS} (hp:PassesOwn (model X.prog X.w) X.A X.env X.xe) (hc:PT X c tc) (hb:PSs X body tb):PS X (.While c body [] pos) (Qow tc tb):=by
 intro pins s σ H D I h;obtain ⟨W,⟨m0,w0⟩,turn⟩:=h;refine wpAny_While (codeAny_whileLoop (fun n s'=>∃σ' H',Inv X pins σ' H' s'∧W n σ' H') ?_ m0 ⟨σ,H,I,w0⟩);rintro n s1 ⟨σ1,H1,I1,w1⟩;refine wpAny_passesOwn hp (thn (hc pins s1 σ1 H1 _ I1 (turn n σ1 H1 w1)) fun b s2 ⟨H2,I2,q2⟩=>?_)
 cases b with
 | true =>
  obtain ⟨N,hN,q2⟩:=q2;rw [if_pos rfl];refine wpAny_passesOwn hp (thn (hb pins s2 σ1 H2 _ I2 q2) fun f s3 q3=>?_)
  cases f with
  | next =>
   obtain ⟨σ3,H3,I3,n3⟩:=q3;obtain ⟨m',hm,w3⟩:=hN σ3 H3 n3;exact ⟨m',hm,σ3,H3,I3,w3⟩
  | cont =>
   obtain ⟨σ3,H3,I3,n3⟩:=q3;obtain ⟨m',hm,w3⟩:=hN σ3 H3 n3;exact ⟨m',hm,σ3,H3,I3,w3⟩
  | brk=>exact q3
  | ret v=>exact q3
 | false =>
  rw [if_neg zp];exact wpAny_execs_nil ⟨σ1,H2,I2,q2⟩
end
structure It where
 go:Nat→Hp→Prop
 yld:Nat→Hp→V→Hp→Prop
 stop:Nat→Hp→Prop
def QeM (X:Cx) (pins:List (Addr×Obj)) (H:Hp) (b:Addr):Prop :=
 H b=none∧b≠X.env.locals∧b∉X.fs∧(b∈X.ex∨X.s₀.heap.objs.size≤b)∧(∀x c,X.env.cells.lookup x=some c→c≠b)∧∀p∈X.pn++pins,p.1≠b
theorem Inv.fpOk {X:Cx}{pins:List (Addr×Obj)}{σ:St}{H H':Hp}{s:Shared}{b:Addr} (I:Inv X pins σ H s) (hb:s.heap.objs.size≤b) (hn:H' b=none):QeM X pins H' b:=by
 refine ⟨hn,Nat.ne_of_gt (zG I.lt hb),I.nofs hb,.inr (zD I.sz hb),fun x c e z=>?_,fun p hp z=>?_⟩
 ·obtain ⟨v,q⟩:=I.cell x c e;exact absurd (zG q.lt (by rw [z]; exact hb)) (zR _)
 ·exact absurd (zG (zf (I.pin p hp).1) (by rw [z]; exact hb)) (zR _)
structure Turn (P:Program) (w:World) (K:PySem.W.Frag) (tg:Expr) (J:It) (fp:List Addr) (it:Addr) (tn:Nat→Heap→Prop):Prop where
 mem:it∈fp
 obj:∀i h,tn i h→∀b∈fp,∃o,h.get? b=some o∧∀v,o.data≠.cell v
 keep:∀i h h',tn i h→(∀b∈fp,∀o,h.get? b=some o→h'.get? b=some o)→tn i h'
 item:∀(X:Cx),X.prog=P→X.w=w→X.K=K→X.calm=true→∀(i:Nat) (pins:List (Addr×Obj)) (s:Shared) (σ:St) (H:Hp) (E:Value→Shared→Prop),Inv X pins σ H s→(∀b∈fp,QeM X pins H b)→tn i s.heap→J.go i H →
  wpAny (model P w) X.A (pyNext (.ref it)) (fun r s1=>∃u,r=some u ∧
   wpAny (model P w) X.A (letOwnedTupleGo tg (.ref it) u) (fun _ s2=>∃x H',Inv X pins σ H' s2∧RelV x u∧J.yld i H x H'∧tn (i+1) s2.heap∧∀b∈fp,H' b=none) E s1) E s
 done:∀(X:Cx),X.prog=P→X.w=w→X.K=K→X.calm=true→∀(i:Nat) (pins:List (Addr×Obj)) (s:Shared) (σ:St) (H:Hp) (E:Value→Shared→Prop),Inv X pins σ H s→(∀b∈fp,QeM X pins H b)→tn i s.heap→J.stop i H →
  wpAny (model P w) X.A (pyNext (.ref it)) (fun r s1=>r=none∧Inv X pins σ H s1) E s
 self:∀(A:Around) (i:Nat) (s:Shared) (Q:Value→Shared→Prop) (E:Value→Shared→Prop),tn i s.heap→Q (.ref it) s→wpAny (model P w) A (pyIter (.ref it)) Q E s
abbrev TI:=St→Hp→(It→Hp→Prop)→Prop
def PIE (X:Cx) (pins:List (Addr×Obj)) (σ:St) (tg:Expr) (R:It→Hp→Prop) (itv:Value) (s2:Shared):Prop :=
 ∃(it:Addr) (fp:List Addr) (tn:Nat→Heap→Prop) (J:It) (H':Hp),itv = .ref it∧Inv X pins σ H' s2∧Turn X.prog X.w X.K tg J fp it tn∧tn 0 s2.heap∧(∀b∈fp,QeM X pins H' b)∧R J H'
def PI (X:Cx) (tg iter:Expr) (wi:TI):Prop :=
 ∀(pins:List (Addr×Obj)) (s:Shared) (σ:St) (H:Hp) (R:It→Hp→Prop),Inv X pins σ H s→wi σ H R →
  wpAny (model X.prog X.w) X.A (eval iter X.env) (fun v s1=>wpAny (model X.prog X.w) X.A (pyIter v) (PIE X pins σ tg R) X.xe s1) X.xe s
theorem Qiw {M:Model}{A:Around}{E:Value→Shared→Prop}{s:Shared}{tg:Expr}{it:Addr}{u:Value}{o:Obj}{n:String}{vs:Array Value}{Q:Unit→Shared→Prop} (ho:s.heap.get? it=some o) (hc:o.cls = .type n) (hd:o.data = .fields vs)
  (hn:["enumerate","zip","dict_itemiterator","dict_reverseitemiterator","odict_iterator","itertools.zip_longest","itertools.pairwise"].contains n=false) (hQ:Q () s):wpAny M A (letOwnedTupleGo tg (.ref it) u) Q E s:=by
 unfold letOwnedTupleGo
 cases tg <;> first
  | exact zc hQ
  | (cases u <;> first
    | exact zc hQ
    | (refine za (wpAny_load ho ?_)
       rw [hc,hd];show wpAny M A (if (["enumerate","zip","dict_itemiterator","dict_reverseitemiterator","odict_iterator","itertools.zip_longest","itertools.pairwise"].contains n&&vs[0]? == some (rawInt _))=true then _ else _) Q E s;rw [if_neg (by intro h; rw [hn,Bool.false_and] at h; cases h)]
       exact zc hQ))
def Itl (K:PySem.W.Frag) (a:Addr):It :=
 ⟨fun i H=>∃xs x,SqL K H a xs∧xs[i]? = some x,fun i H x H'=>H'=H∧∀xs,SqL K H a xs→xs[i]? = some x,fun i H=>∃xs,SqL K H a xs∧xs.length≤i⟩
def Itt (K:PySem.W.Frag) (a:Addr):It :=
 ⟨fun i H=>∃xs x,SqT K H a xs∧xs[i]? = some x,fun i H x H'=>H'=H∧∀xs,SqT K H a xs→xs[i]? = some x,fun i H=>∃xs,SqT K H a xs∧xs.length≤i⟩
def Itr (lo:Int) (n:Nat):It:=⟨fun i _=>i < n,fun i H x H'=>H'=H∧x = .int (lo+i),fun i _=>n≤i⟩
theorem Qo0 {P:Program}{w:World}{K:PySem.W.Frag}{tg:Expr} (a it:Addr):Turn P w K tg (Itl K a) [it] it (fun i h=>h.IsListIter it a i) where
 mem:=by simp
 obj:=fun i h st b hb=>by
  have e:b=it:=by simpa using hb
  subst e;obtain ⟨o,e,c,d⟩:=st;exact ⟨o,e,fun v z=>by rw [d] at z; cases z⟩
 keep:=fun i h h' st k=>st.at fun o e=>k it (by simp) o e
 item:=by
  intro X hP hw hK hc i pins s σ H E I hf st hg;subst hP hw hK;obtain ⟨xs,x,hq,hx⟩:=hg;obtain ⟨its,rv,p,hz⟩:=I.list hq;obtain ⟨u,hu,ru⟩:=rv.get hx;obtain ⟨f0,f1,f2,f3,f4,f5⟩:=hf it (by simp)
  refine wpAny_pyNext_list_item st p.isList (x:=u) (by simpa using hu) fun h' st' sb=>?_
  have I1:Inv X pins σ H { s with heap:=h' }:=I.turned (t':=s.toks) (fun b o hb e=>(sb.2 b hb).trans e) f0 f1 f3 f4 f5;obtain ⟨o,e,c,d⟩:=id st';exact ⟨u,rfl,Qiw (s:={ s with heap:=h' }) e c d (by decide) ⟨x,H,I1,ru,⟨rfl,fun ys hy=>by rw [I.list_inj hy hq]; exact hx⟩,st',fun b hb=>(hf b hb).1⟩⟩
 done:=by
  intro X hP hw hK hc i pins s σ H E I hf st hg;subst hP hw hK;obtain ⟨xs,hq,hx⟩:=hg;obtain ⟨its,rv,p,hz⟩:=I.list hq;obtain ⟨f0,f1,f2,f3,f4,f5⟩:=hf it (by simp);have hl:=rv.length
  exact wpAny_pyNext_list_end (I.ok.hd hc) st p.isList (by simp; omega) fun h' eb=>⟨rfl,I.turned (t':=s.toks) (fun b o hb e=>eb b o hb e) f0 f1 f3 f4 f5⟩
 self:=fun _ _ _ _ _ st h=>wpAny_pyIter_listiter st h
theorem QnJ {P:Program}{w:World}{K:PySem.W.Frag}{tg:Expr} (a it:Addr):Turn P w K tg (Itt K a) [it] it (fun i h=>h.IsTupleIter it a i) where
 mem:=by simp
 obj:=fun i h st b hb=>by
  have e:b=it:=by simpa using hb
  subst e;obtain ⟨o,e,c,d⟩:=st;exact ⟨o,e,fun v z=>by rw [d] at z; cases z⟩
 keep:=fun i h h' st k=>st.at fun o e=>k it (by simp) o e
 item:=by
  intro X hP hw hK hc i pins s σ H E I hf st hg;subst hP hw hK;obtain ⟨xs,x,hq,hx⟩:=hg;obtain ⟨its,rv,p,hz⟩:=I.tuple hq;obtain ⟨u,hu,ru⟩:=rv.get hx;obtain ⟨f0,f1,f2,f3,f4,f5⟩:=hf it (by simp)
  refine wpAny_pyNext_tuple_item st (show s.heap.IsTuple a its.toArray from p) (x:=u) (by simpa using hu) fun h' st' sb=>?_
  have I1:Inv X pins σ H { s with heap:=h' }:=I.turned (t':=s.toks) (fun b o hb e=>(sb.2 b hb).trans e) f0 f1 f3 f4 f5;obtain ⟨o,e,c,d⟩:=id st';exact ⟨u,rfl,Qiw (s:={ s with heap:=h' }) e c d (by decide) ⟨x,H,I1,ru,⟨rfl,fun ys hy=>by rw [I.tuple_inj hy hq]; exact hx⟩,st',fun b hb=>(hf b hb).1⟩⟩
 done:=by
  intro X hP hw hK hc i pins s σ H E I hf st hg;subst hP hw hK;obtain ⟨xs,hq,hx⟩:=hg;obtain ⟨its,rv,p,hz⟩:=I.tuple hq;obtain ⟨f0,f1,f2,f3,f4,f5⟩:=hf it (by simp);have hl:=rv.length
  exact wpAny_pyNext_tuple_end (I.ok.hd hc) st (show s.heap.IsTuple a its.toArray from p) (by simp; omega) fun h' eb=>⟨rfl,I.turned (t':=s.toks) (fun b o hb e=>eb b o hb e) f0 f1 f3 f4 f5⟩
 self:=fun _ _ _ _ _ st h=>wpAny_pyIter_tupleiter st h
theorem Qm9 {P:Program}{w:World}{K:PySem.W.Frag}{tg:Expr} (it:Addr) (lo:Int) (n:Nat):Turn P w K tg (Itr lo n) [it] it (fun i h=>IsRangeIter h it (lo+(i:Nat) * 1) ((n:Int) - (i:Nat)) 1) where
 mem:=by simp
 obj:=fun i h st b hb=>by
  have e:b=it:=by simpa using hb
  subst e
  exact ⟨_,st,fun v z=>by
   have z':Data.fields _=Data.cell v:=z
   cases z'⟩
 keep:=fun i h h' st k=>k it (by simp) _ st
 item:=by
  intro X hP hw hK hc i pins s σ H E I hf st hg;subst hP hw hK;obtain ⟨f0,f1,f2,f3,f4,f5⟩:=hf it (by simp);have W:=Walks.range (prog:=X.prog) (w:=X.w) (I.ok.hd hc) it lo 1 n
  refine W.item i s _ _ hg st fun v h' tk hv st' kk=>?_
  obtain ⟨t,rfl⟩:=hv;have I1:Inv X pins σ H { s with heap:=h',toks:=tk }:=I.turned (fun b o hb e=>kk b o (by simpa using hb) e) f0 f1 f3 f4 f5;refine ⟨_,rfl,Qiw (s:={ s with heap:=h',toks:=tk }) (n:="range_iterator") st' rfl rfl (by decide) ⟨.int (lo+i),H,I1,⟨t,?_⟩,⟨rfl,rfl⟩,st',fun b hb=>(hf b hb).1⟩⟩;rw [Int.mul_one]
 done:=by
  intro X hP hw hK hc i pins s σ H E I hf st hg;subst hP hw hK;obtain ⟨f0,f1,f2,f3,f4,f5⟩:=hf it (by simp)
  exact wpAny_pyNext_range_end (I.ok.hd hc) st (by have:n≤i:=hg; omega) fun h' eb=>⟨rfl,I.turned (t':=s.toks) (fun b o hb e=>eb b o hb e) f0 f1 f3 f4 f5⟩
 self:=fun _ _ _ _ _ st h=>wpAny_pyIter_rangeiter st h
section
variable {X:Cx}{tg:Expr}
def Qvd (K:PySem.W.Frag) (tl:TE):TI:=fun σ H R=>tl σ H fun x H1=>∃a,x = .ref a∧(∃xs,SqL K H1 a xs)∧R (Itl K a) H1
def Qwe (K:PySem.W.Frag) (tl:TE):TI:=fun σ H R=>tl σ H fun x H1=>∃a,x = .ref a∧(∃xs,SqT K H1 a xs)∧R (Itt K a) H1
theorem Qmw {l:Expr}{tl:TE} (hl:PE X l tl):PI X tg l (Qvd X.K tl):=by
 intro pins s σ H R I h
 refine thn (hl pins s σ H _ I h) fun v s1 ⟨x,H1,I1,r1,q1⟩=>?_
 obtain ⟨a,e,⟨xs,hq⟩,q⟩:=q1;subst e;cases r1;obtain ⟨its,rv,p,hz⟩:=I1.list hq;refine wpAny_pyIter_list p.isList ?_;refine ⟨s1.heap.objs.size,[s1.heap.objs.size],_,_,H1,rfl,I1.kept (t':=s1.toks) fun b o e=>zy _ e,Qo0 a _,⟨_,zH _ rfl,rfl,rfl⟩,fun b hb=>?_,q⟩
 have e:b=s1.heap.objs.size:=by simpa using hb
 subst e;exact I1.fpOk (zb _) (I1.hok.fresh (zb _))
theorem Qs6 {l:Expr}{tl:TE} (hl:PE X l tl):PI X tg l (Qwe X.K tl):=by
 intro pins s σ H R I h
 refine thn (hl pins s σ H _ I h) fun v s1 ⟨x,H1,I1,r1,q1⟩=>?_
 obtain ⟨a,e,⟨xs,hq⟩,q⟩:=q1;subst e;cases r1;obtain ⟨its,rv,p,hz⟩:=I1.tuple hq;refine wpAny_pyIter_tuple (show s1.heap.IsTuple a its.toArray from p) ?_;refine ⟨s1.heap.objs.size,[s1.heap.objs.size],_,_,H1,rfl,I1.kept (t':=s1.toks) fun b o e=>zy _ e,QnJ a _,⟨_,zH _ rfl,rfl,rfl⟩,fun b hb=>?_,q⟩
 have e:b=s1.heap.objs.size:=by simpa using hb
 subst e;exact I1.fpOk (zb _) (I1.hok.fresh (zb _))
theorem QqQ {pins:List (Addr×Obj)}{σ:St}{H:Hp}{s:Shared}{R:It→Hp→Prop}{E:Value→Shared→Prop}{lo hi:Int}{t u v:Tok}{tk:Nat} (I:Inv X pins σ H s) (h1:-(2 ^ 62)≤lo) (h2:lo < 2 ^ 62) (h3:-(2 ^ 62)≤hi) (h4:hi < 2 ^ 62)
  (q:R (Itr lo (hi - lo).toNat) H):wpAny (model X.prog X.w) X.A (pyIter (.ref s.heap.objs.size)) (PIE X pins σ tg R) E { s with heap:=s.heap.push { cls:=.type "range",data:=.fields #[.int lo t,.int hi u,.int 1 v] },toks:=tk }:=by
 refine wpAny_pyIter_range (IsRange.new ..) (small_one h1 h2 h3 h4) ?_
 have I1:Inv X pins σ H { s with heap:=s.heap.push { cls:=.type "range",data:=.fields #[.int lo t,.int hi u,.int 1 v] },toks:=tk }:=I.kept fun b o e=>zy _ e
 refine ⟨(s.heap.push { cls:=.type "range",data:=.fields #[.int lo t,.int hi u,.int 1 v] }).objs.size,[(s.heap.push { cls:=.type "range",data:=.fields #[.int lo t,.int hi u,.int 1 v] }).objs.size],_,_,H,rfl,
  I1.kept (t':=tk) fun b o e=>zy _ e,Qm9 _ lo (hi - lo).toNat,?_,fun b hb=>?_,q⟩
 ·have e1:lo+((0:Nat):Int) * 1=lo:=by simp
  have e2:(((hi - lo).toNat:Nat):Int) - ((0:Nat):Int)=Builtin.Range.rangeSize lo hi 1:=by rw [rangeSize_one]; split <;> omega
  show IsRangeIter _ _ (lo+((0:Nat):Int) * 1) ((((hi - lo).toNat:Nat):Int) - ((0:Nat):Int)) 1;rw [e1,e2];exact zH _ rfl
 ·have e:b=(s.heap.push { cls:=.type "range",data:=.fields #[.int lo t,.int hi u,.int 1 v] }).objs.size:=by simpa using hb
  subst e;exact I1.fpOk (zb _) (I1.hok.fresh (zb _))
def Qvb (ta:TA):TI:=fun σ H R=>ta σ H fun vs H1=>∃j:Int,vs = [.int j]∧-(2 ^ 62)≤j∧j < 2 ^ 62∧R (Itr 0 j.toNat) H1
theorem QoV {a:Expr}{ta:TA}{p pos:Pos} (hg:Gl X "range") (hm:X.mg "range" = none) (ha:PA X [a] ta) (hs:starEach [a] X.env = [(false,eval a X.env)]:=by rfl):PI X tg (.Call (.Name "range" p) [a] [] pos) (Qvb ta):=by
 intro pins s σ H R I h;refine Call_ (QdJ I hg hm boot_range (PyProof.Rows.callWith_type1 (thn (ha pos pins s σ H _ I h) fun us s1 ⟨vs,H1,I1,r1,q1⟩=>?_) hs rfl));obtain ⟨j,e,q1,q2,q⟩:=q1;subst e
 cases r1 with
 | cons r rr =>
  cases rr;obtain ⟨t,rfl⟩:=r;exact call_range_1 (QqQ I1 (by omega) (by omega) q1 q2 (by simpa using q))
def Qqj (wi:TI) (g:TG) (tb:TS):TS:=fun D σ H=>wi σ H fun J H1=>∃W:Nat→Nat→St→Hp→Prop,(∃m,W 0 m σ H1)∧∀i m σ H,W i m σ H →
 (J.stop i H∧D.nx σ H)∨(J.go i H∧∃N:St→Hp→Prop,(∀σ' H',N σ' H'→∃m',m' < m∧W (i+1) m' σ' H')∧∀x H',J.yld i H x H'→g x σ H' fun σ2 H2=>tb { D with nx:=N,ct:=N,bk:=D.nx } σ2 H2)
def Qh6 (fp:List Addr) (h:Heap):List (Addr×Obj):=fp.filterMap fun b=>(h.get? b).map fun o=>(b,o)
theorem Qfw {fp:List Addr}{h:Heap}{b:Addr}{o:Obj} (hb:b∈fp) (e:h.get? b=some o):(b,o)∈Qh6 fp h:=List.mem_filterMap.mpr ⟨b,hb,by rw [e]; rfl⟩
theorem Qpd {fp:List Addr}{h:Heap}{p:Addr×Obj} (hp:p∈Qh6 fp h):p.1∈fp∧h.get? p.1=some p.2:=by
 obtain ⟨b,hb,e⟩:=List.mem_filterMap.mp hp
 cases q:h.get? b with
 | none=>rw [q] at e; cases e
 | some o =>
  rw [q] at e;have e':(b,o)=p:=zF e;subst e';exact ⟨hb,q⟩
theorem Inv.pinned {pins:List (Addr×Obj)}{σ:St}{H:Hp}{s:Shared}{fp:List Addr} (I:Inv X pins σ H s) (hf:∀b∈fp,QeM X pins H b) (ho:∀b∈fp,∃o,s.heap.get? b=some o∧∀v,o.data≠.cell v):Inv X (pins++Qh6 fp s.heap) σ H s :=
 I.pins_of fun p hp=>(zz.mp hp).elim (fun z=>I.pin p (zI _ z)) fun z=>by
  obtain ⟨hb,e⟩:=Qpd z;obtain ⟨f0,f1,f2,_⟩:=hf p.1 hb;obtain ⟨o,e',d⟩:=ho p.1 hb;rw [e] at e'; cases e';exact ⟨e,f0,f1,f2,d⟩
theorem Inv.unpinned {pins pl:List (Addr×Obj)}{σ:St}{H:Hp}{s:Shared} (I:Inv X (pins++pl) σ H s):Inv X pins σ H s:=I.pins_of fun p hp=>I.pin p (zI _ (ja _ hp))
theorem Qpj {iter:Expr}{body:List Stmt}{wi:TI}{g:TG}{tb:TS}{pos:Pos} (hp:PassesOwn (model X.prog X.w) X.A X.env X.xe) (hc:X.calm=true) (hi:PI X tg iter wi) (hg:PG X tg g) (hb:PSs X body tb)
  (hs:∀x,foldedSetIterable iter X.env x=pure x:=by intro _; rfl):PS X (.For tg iter body [] pos) (Qqj wi g tb):=by
 intro pins s σ H D I h;refine wpAny_For (thn (hi pins s σ H _ I h) fun v s1 h1=>thn h1 fun itv s2 h2=>?_) hs;obtain ⟨it,fp,tn,J,H2,e,I2,T,st2,f2,W,⟨m0,w0⟩,turn⟩:=h2;subst e
 have stat:∀{H':Hp},(∀b∈fp,H' b=none)→∀b∈fp,QeM X pins H' b:=fun hn b hb=>⟨hn b hb,(f2 b hb).2⟩
 refine codeAny_forLoop_any (fun n s'=>∃i σ' H',Inv X pins σ' H' s'∧tn i s'.heap∧(∀b∈fp,H' b=none)∧W i n σ' H') ?_ m0 ⟨0,σ,H2,I2,st2,fun b hb=>(f2 b hb).1,w0⟩;rintro n s3 ⟨i,σ3,H3,I3,st3,fr3,w3⟩
 rcases turn i n σ3 H3 w3 with ⟨stop,qn⟩ | ⟨go,N,hN,step⟩
 ·refine wpAny_passesOwn hp (thn (T.done X rfl rfl rfl hc i pins s3 σ3 H3 X.xe I3 (stat fr3) st3 stop) fun r s4 ⟨hr,I4⟩=>?_);subst hr;exact wpAny_execs_nil ⟨σ3,H3,I4,qn⟩
 ·refine wpAny_passesOwn hp (thn (T.item X rfl rfl rfl hc i pins s3 σ3 H3 X.xe I3 (stat fr3) st3 go) fun r s4 ⟨u,hr,h4⟩=>?_);subst hr;refine wpAny_passesOwn hp (thn h4 fun _ s5 ⟨x,H5,I5,r5,y5,st5,fr5⟩=>?_);have I5':=I5.pinned (stat fr5) (T.obj _ _ st5);refine wpAny_passesOwn hp (thn (hg _ s5 σ3 H5 x u _ I5' r5 (step x H5 y5)) fun _ s6 ⟨σ6,H6,I6,q6⟩=>?_);refine wpAny_passesOwn hp (thn (hb _ s6 σ6 H6 _ I6 q6) fun f s7 q7=>?_)
  have again:∀{σ7:St}{H7:Hp},Inv X (pins++Qh6 fp s5.heap) σ7 H7 s7→N σ7 H7→∃m,m < n∧∃i σ' H',Inv X pins σ' H' s7∧tn i s7.heap∧(∀b∈fp,H' b=none)∧W i m σ' H':=fun {σ7 H7} I7 n7=>by
   obtain ⟨m',hm,w7⟩:=hN σ7 H7 n7;refine ⟨m',hm,i+1,σ7,H7,I7.unpinned,T.keep _ _ _ st5 fun b hb o e=>(I7.pin (b,o) (zI _ (zI _ (Qfw hb e)))).1,fun b hb=>?_,w7⟩;obtain ⟨o,e,d⟩:=T.obj _ _ st5 b hb;exact (I7.pin (b,o) (zI _ (zI _ (Qfw hb e)))).2.1
  cases f with
  | next=>obtain ⟨σ7,H7,I7,n7⟩:=q7; exact again I7 n7
  | cont=>obtain ⟨σ7,H7,I7,n7⟩:=q7; exact again I7 n7
  | brk=>obtain ⟨σ7,H7,I7,q7⟩:=q7; exact ⟨σ7,H7,I7.unpinned,q7⟩
  | ret v=>obtain ⟨x7,σ7,H7,I7,r7,q7⟩:=q7; exact ⟨x7,σ7,H7,I7.unpinned,r7,q7⟩
end
abbrev R2:=V→V→Hp→VK→Prop
def OpR (X:Cx) (f:Value→Value→Sem Value) (r:R2):Prop :=
 ∀(pins:List (Addr×Obj)) (s:Shared) (σ:St) (H:Hp) (x y:V) (v u:Value) (Q:VK),Inv X pins σ H s→RelV x v→RelV y u→r x y H Q →
  wpAny (model X.prog X.w) X.A (f v u) (EP X pins σ Q) X.xe s
def UnR (X:Cx) (f:Value→Sem Value) (r:V→Hp→VK→Prop):Prop :=
 ∀(pins:List (Addr×Obj)) (s:Shared) (σ:St) (H:Hp) (x:V) (v:Value) (Q:VK),Inv X pins σ H s→RelV x v→r x H Q →
  wpAny (model X.prog X.w) X.A (f v) (EP X pins σ Q) X.xe s
def Qgg (X:Cx) (f:Value) (r:List V→Hp→VK→Prop):Prop :=
 ∀(pins:List (Addr×Obj)) (s:Shared) (σ:St) (H:Hp) (xs:List V) (us:List Value) (Q:VK),Inv X pins σ H s→QaG xs us→r xs H Q →
  wpAny (model X.prog X.w) X.A (call f us) (EP X pins σ Q) X.xe s
def QwF (X:Cx) (r:V→Hp→(Bool→Hp→Prop)→Prop):Prop :=
 ∀(pins:List (Addr×Obj)) (s:Shared) (σ:St) (H:Hp) (x:V) (v:Value) (Q:Bool→Hp→Prop),Inv X pins σ H s→RelV x v→r x H Q →
  wpAny (model X.prog X.w) X.A (truthy v) (TP X pins σ Q) X.xe s
def tOp (r:R2) (ta tb:TE):TE:=fun σ H Q=>ta σ H fun x H1=>tb σ H1 fun y H2=>r x y H2 Q
def tUn (r:V→Hp→VK→Prop) (ta:TE):TE:=fun σ H Q=>ta σ H fun x H1=>r x H1 Q
def rI (C:Int→Int→Prop) (g:Int→Int→V):R2:=fun x y H Q=>∃i j,x = .int i∧y = .int j∧C i j∧Q (g i j) H
def rI0 (g:Int→Int→V):R2:=fun x y H Q=>∃i j,x = .int i∧y = .int j∧Q (g i j) H
def rU (g:Int→V):V→Hp→VK→Prop:=fun x H Q=>∃i,x = .int i∧Q (g i) H
section
variable {X:Cx}{a b c:Expr}{ta tb tc:TE}{pos:Pos}
theorem Qp1 (ha:PE X a ta) (hb:PE X b tb) {pins:List (Addr×Obj)}{s:Shared}{σ:St}{H:Hp}{R:V→V→Hp→Prop} (I:Inv X pins σ H s)
  (h:ta σ H fun x H1=>tb σ H1 fun y H2=>R x y H2) {Q:Value→Shared→Prop}{f:Value→Value→Sem Value}
  (hf:∀v u s2 x y H2,Inv X pins σ H2 s2→RelV x v→RelV y u→R x y H2→wpAny (model X.prog X.w) X.A (f v u) Q X.xe s2) :
  wpAny (model X.prog X.w) X.A (eval a X.env) (fun v s₁=>wpAny (model X.prog X.w) X.A (eval b X.env) (fun u s₂=>wpAny (model X.prog X.w) X.A (f v u) Q X.xe s₂) X.xe s₁) X.xe s:=by
 refine thn (ha pins s σ H _ I h) fun v s1 ⟨x,H1,I1,r1,q1⟩=>?_
 refine thn (hb pins s1 σ H1 _ I1 q1) fun u s2 ⟨y,H2,I2,r2,q2⟩=>?_
 exact hf v u s2 x y H2 I2 r1 r2 q2
theorem Qvx {op:Operator}{r:R2} (ho:OpR X (binaryOp op) r) (ha:PE X a ta) (hb:PE X b tb):PE X (.BinOp a op b pos) (tOp r ta tb):=by
 intro pins s σ H Q I h;exact wpAny_BinOp (Qp1 ha hb I h fun v u s2 x y H2 I2 rx ry q=>ho pins s2 σ H2 x y v u Q I2 rx ry q)
theorem QvI {op:UnaryOp}{r:V→Hp→VK→Prop} (ho:UnR X (unaryOp op) r) (ha:PE X a ta):PE X (.UnaryOp op a pos) (tUn r ta):=by
 intro pins s σ H Q I h;exact UnaryOp_ (thn (ha pins s σ H _ I h) fun v s1 ⟨x,H1,I1,r1,q1⟩=>ho pins s1 σ H1 x v Q I1 r1 q1)
theorem opI {f:Value→Value→Sem Value}{C:Int→Int→Prop}{g:Int→Int→Int}
  (rule:∀(i j:Int) (t u:Tok) (s:Shared) (Q:Value→Shared→Prop) (E:Value→Shared→Prop),C i j→Q (.int (g i j) s.toks) { s with toks:=s.toks+1 }→wpAny (model X.prog X.w) X.A (f (.int i t) (.int j u)) Q E s) :
  OpR X f (rI C fun i j=>.int (g i j)):=by
 intro pins s σ H x y v u Q I rx ry h;obtain ⟨i,j,rfl,rfl,hc,q⟩:=h;obtain ⟨t,rfl⟩:=rx;obtain ⟨t',rfl⟩:=ry;exact rule i j t t' s _ _ hc ⟨.int (g i j),H,I.tok _,⟨_,rfl⟩,q⟩
theorem Qt2 {f:Value→Value→Sem Value}{g:Int→Int→Int}
  (rule:∀(i j:Int) (t u:Tok) (s:Shared) (Q:Value→Shared→Prop) (E:Value→Shared→Prop),Q (.int (g i j) s.toks) { s with toks:=s.toks+1 }→wpAny (model X.prog X.w) X.A (f (.int i t) (.int j u)) Q E s) :
  OpR X f (rI0 fun i j=>.int (g i j)):=by
 intro pins s σ H x y v u Q I rx ry h;obtain ⟨i,j,rfl,rfl,q⟩:=h;obtain ⟨t,rfl⟩:=rx;obtain ⟨t',rfl⟩:=ry;exact rule i j t t' s _ _ ⟨.int (g i j),H,I.tok _,⟨_,rfl⟩,q⟩
theorem Quy {f:Value→Value→Sem Value}{g:Int→Int→Bool}
  (rule:∀(i j:Int) (t u:Tok) (s:Shared) (Q:Value→Shared→Prop) (E:Value→Shared→Prop),Q (.bool (g i j)) s→wpAny (model X.prog X.w) X.A (f (.int i t) (.int j u)) Q E s) :
  OpR X f (rI0 fun i j=>.bl (g i j)):=by
 intro pins s σ H x y v u Q I rx ry h;obtain ⟨i,j,rfl,rfl,q⟩:=h;obtain ⟨t,rfl⟩:=rx;obtain ⟨t',rfl⟩:=ry;exact rule i j t t' s _ _ ⟨.bl (g i j),H,I,rfl,q⟩
def QwP (i j:Int):Prop:=0 < j∧j < 1073741824
def Qv5 (i j:Int):Prop:=0≤j∧j≤1000000∧i.natAbs < 2 ^ 64
def Qqn (i j:Int):Prop:=(-(2 ^ 64) < i∧i < 2 ^ 64)∨(-(2 ^ 64) < j∧j < 2 ^ 64)
theorem Qqn.ok {i j:Int} (h:Qqn i j):IntMulOk i j:=by
 rcases h with ⟨h1,h2⟩ | ⟨h1,h2⟩
 ·exact .of_left (intBits_le_64 h1 h2)
 ·exact .of_right (intBits_le_64 h1 h2)
theorem Qup:OpR X (binaryOp .Add) (rI0 fun i j=>.int (i+j)):=Qt2 fun _ _ _ _ _ _ _ q=>add_int q
theorem QtX:OpR X (binaryOp .Sub) (rI0 fun i j=>.int (i - j)):=Qt2 fun _ _ _ _ _ _ _ q=>sub_int q
theorem QuA:OpR X (binaryOp .Mult) (rI Qqn fun i j=>.int (i * j)):=opI fun _ _ _ _ _ _ _ hc q=>mul_int q hc.ok
theorem Qsm:OpR X (binaryOp .FloorDiv) (rI QwP fun i j=>.int (i / j)):=opI fun i j _ _ _ _ _ hc q=>by
 have h1:(0:Int) < j:=hc.1;have h2:j < 1073741824:=hc.2;exact floordiv_int (by omega) (by rw [Int.fdiv_eq_ediv_of_nonneg i (by omega)]; exact q) (.inl (PyProof.noPylong_small (by omega)))
theorem QuF:OpR X (binaryOp .Mod) (rI (fun _ j=>0 < j) fun i j=>.int (i % j)):=opI fun i j _ _ _ _ _ hc q=>by
 have h1:(0:Int) < j:=hc;exact mod_int' (by omega) (by rw [Int.fmod_eq_emod_of_nonneg i (by omega)]; exact q)
theorem Quf:OpR X (binaryOp .Pow) (rI Qv5 fun i j=>.int (i ^ j.toNat)):=opI fun _ _ _ _ _ _ _ hc q=>pow_int_small hc.1 hc.2.1 hc.2.2 q
theorem unI {f:Value→Sem Value}{g:Int→Int}
  (rule:∀(i:Int) (t:Tok) (s:Shared) (Q:Value→Shared→Prop) (E:Value→Shared→Prop),Q (.int (g i) s.toks) { s with toks:=s.toks+1 }→wpAny (model X.prog X.w) X.A (f (.int i t)) Q E s) :
  UnR X f (rU fun i=>.int (g i)):=by
 intro pins s σ H x v Q I rx h;obtain ⟨i,rfl,q⟩:=h;obtain ⟨t,rfl⟩:=rx;exact rule i t s _ _ ⟨.int (g i),H,I.tok _,⟨_,rfl⟩,q⟩
theorem Qtw:UnR X (unaryOp .USub) (rU fun i=>.int (-i)):=unI fun _ _ _ _ _ q=>neg_int q
theorem Qn3:OpR X (binaryOp .Add) (fun x y H Q=>∃i k,x = .int i∧y = .bl k∧Q (.int (i+b2i k)) H):=by
 intro pins s σ H x y v u Q I rx ry h;obtain ⟨i,k,rfl,rfl,q⟩:=h;obtain ⟨t,rfl⟩:=rx;cases ry;exact add_int_bool ⟨.int (i+b2i k),H,I.tok _,⟨_,rfl⟩,q⟩
end
def QtF:V→V→Bool
 | .non,.non=>true | .non,.int _=>true | .int _,.non=>true | .non,.bl _=>true | .bl _,.non=>true | .non,.str _=>true | .str _,.non=>true
 | .int _,.int _=>true | .bl _,.bl _=>true | .str _,.str _=>true | .byt _,.byt _=>true
 | .int _,.str _=>true | .str _,.int _=>true | .bl _,.str _=>true | .str _,.bl _=>true
 | _,_=>false
def rEq:R2:=fun x y H Q=>QtF x y=true∧Q (.bl (decide (x=y))) H
def rNe:R2:=fun x y H Q=>QtF x y=true∧Q (.bl (!decide (x=y))) H
theorem Qmg {i j:Int}:decide (V.int i=V.int j)=(i == j):=by
 rw [Bool.eq_iff_iff];simp
theorem Qo1 {i j:Bool}:decide (V.bl i=V.bl j)=(i == j):=by
 rw [Bool.eq_iff_iff];simp
theorem QmT {i j:Str}:decide (V.str i=V.str j)=(i == j):=by
 rw [Bool.eq_iff_iff];simp
theorem Qms {i j:Array UInt8}:decide (V.byt i=V.byt j)=(i.toList == j.toList):=by
 rw [Bool.eq_iff_iff];cases i;cases j;simp
section
variable {X:Cx}{a b c:Expr}{ta tb tc:TE}{pos:Pos}
theorem Qbe {pins:List (Addr×Obj)}{σ:St}{H:Hp}{s:Shared}{Q:VK}{k k':Bool} (I:Inv X pins σ H s) (q:Q (.bl k) H) (e:k=k'):EP X pins σ Q (.bool k') s:=by
 subst e;exact ⟨.bl k,H,I,rfl,q⟩
theorem Qnu:OpR X (compareOp .Eq) rEq:=by
 intro pins s σ H x y v u Q I rx ry h;obtain ⟨hs,q⟩:=h
 cases x with
 | non =>
  cases rx
  cases y with
  | non=>cases ry; exact PySem.EqNone.eq_none_none (Qbe I q (by simp))
  | bl j=>cases ry; exact PySem.EqNone.eq_none_bool (Qbe I q (by simp))
  | int j=>obtain ⟨t',rfl⟩:=ry; exact PySem.EqNone.eq_none_int (Qbe I q (by simp))
  | str j=>obtain ⟨t',rfl⟩:=ry; exact PySem.EqNone.eq_none_str (Qbe I q (by simp))
  | _=>exact absurd (show false=true from hs) zp
 | bl i =>
  cases rx
  cases y with
  | non=>cases ry; exact PySem.EqNone.eq_bool_none (Qbe I q (by simp))
  | bl j=>cases ry; exact eq_bool (Qbe I q Qo1)
  | str j=>obtain ⟨t',rfl⟩:=ry; exact PySem.EqMixed.eq_bool_str (Qbe I q (by simp))
  | _=>exact absurd (show false=true from hs) zp
 | int i =>
  obtain ⟨t,rfl⟩:=rx
  cases y with
  | non=>cases ry; exact PySem.EqNone.eq_int_none (Qbe I q (by simp))
  | int j=>obtain ⟨t',rfl⟩:=ry; exact eq_int (Qbe I q Qmg)
  | str j=>obtain ⟨t',rfl⟩:=ry; exact PySem.EqMixed.eq_int_str (Qbe I q (by simp))
  | _=>exact absurd (show false=true from hs) zp
 | str i =>
  obtain ⟨t,rfl⟩:=rx
  cases y with
  | non=>cases ry; exact PySem.EqNone.eq_str_none (Qbe I q (by simp))
  | bl j=>cases ry; exact PySem.EqMixed.eq_str_bool (Qbe I q (by simp))
  | int j=>obtain ⟨t',rfl⟩:=ry; exact PySem.EqMixed.eq_str_int (Qbe I q (by simp))
  | str j=>obtain ⟨t',rfl⟩:=ry; exact eq_str (Qbe I q QmT)
  | _=>exact absurd (show false=true from hs) zp
 | byt i =>
  obtain ⟨t,rfl⟩:=rx
  cases y with
  | byt j=>obtain ⟨t',rfl⟩:=ry; exact PySem.W.eq_bytes (Qbe I q Qms)
  | _=>exact absurd (show false=true from hs) zp
 | _=>cases y <;> exact absurd (show false=true from hs) zp
theorem QnH:OpR X (compareOp .NotEq) rNe:=by
 intro pins s σ H x y v u Q I rx ry h;obtain ⟨hs,q⟩:=h
 cases x with
 | non =>
  cases rx
  cases y with
  | non=>cases ry; exact PySem.EqNone.ne_none_none (Qbe I q (by simp))
  | bl j=>cases ry; exact PySem.EqNone.ne_none_bool (Qbe I q (by simp))
  | int j=>obtain ⟨t',rfl⟩:=ry; exact PySem.EqNone.ne_none_int (Qbe I q (by simp))
  | str j=>obtain ⟨t',rfl⟩:=ry; exact PySem.EqNone.ne_none_str (Qbe I q (by simp))
  | _=>exact absurd (show false=true from hs) zp
 | bl i =>
  cases rx
  cases y with
  | non=>cases ry; exact PySem.EqNone.ne_bool_none (Qbe I q (by simp))
  | bl j=>cases ry; exact ne_bool (Qbe I q (congrArg not Qo1))
  | str j=>obtain ⟨t',rfl⟩:=ry; exact PySem.EqMixed.ne_bool_str (Qbe I q (by simp))
  | _=>exact absurd (show false=true from hs) zp
 | int i =>
  obtain ⟨t,rfl⟩:=rx
  cases y with
  | non=>cases ry; exact PySem.EqNone.ne_int_none (Qbe I q (by simp))
  | int j=>obtain ⟨t',rfl⟩:=ry; exact ne_int (Qbe I q (congrArg not Qmg))
  | str j=>obtain ⟨t',rfl⟩:=ry; exact PySem.EqMixed.ne_int_str (Qbe I q (by simp))
  | _=>exact absurd (show false=true from hs) zp
 | str i =>
  obtain ⟨t,rfl⟩:=rx
  cases y with
  | non=>cases ry; exact PySem.EqNone.ne_str_none (Qbe I q (by simp))
  | bl j=>cases ry; exact PySem.EqMixed.ne_str_bool (Qbe I q (by simp))
  | int j=>obtain ⟨t',rfl⟩:=ry; exact PySem.EqMixed.ne_str_int (Qbe I q (by simp))
  | str j=>obtain ⟨t',rfl⟩:=ry; exact ne_str (Qbe I q (congrArg not QmT))
  | _=>exact absurd (show false=true from hs) zp
 | byt i =>
  obtain ⟨t,rfl⟩:=rx
  cases y with
  | byt j=>obtain ⟨t',rfl⟩:=ry; exact PySem.W.ne_bytes (Qbe I q (congrArg not Qms))
  | _=>exact absurd (show false=true from hs) zp
 | _=>cases y <;> exact absurd (show false=true from hs) zp
theorem Qu6:OpR X (compareOp .Lt) (rI0 fun i j=>.bl (decide (i < j))):=Quy fun _ _ _ _ _ _ _ q=>lt_int q
theorem Qu0:OpR X (compareOp .Gt) (rI0 fun i j=>.bl (decide (j < i))):=Quy fun _ _ _ _ _ _ _ q=>gt_int q
theorem QaX (b:Expr) {op:CmpOp} (h:op≠.In:=by decide) (h2:op≠.NotIn:=by decide):behindInMarks op b=false:=by
 have e1:(op == CmpOp.In)=false:=by cases op <;> first | rfl | exact absurd rfl h
 have e2:(op == CmpOp.NotIn)=false:=by cases op <;> first | rfl | exact absurd rfl h2
 cases b <;> simp [behindInMarks,e1,e2]
theorem Qry {op:CmpOp}{r:R2} (ho:OpR X (compareOp op) r) (ha:PE X a ta) (hb:PE X b tb) (hm:behindInMarks op b=false):PE X (.Compare a [op] [b] pos) (tOp r ta tb):=by
 intro pins s σ H Q I h;exact wpAny_Compare1 (Qp1 ha hb I h fun v u s2 x y H2 I2 rx ry q=>ho pins s2 σ H2 x y v u Q I2 rx ry q) hm
def QnE (t:TE):TT:=fun σ H Q=>t σ H fun x H'=>∃k,x = .bl k∧Q k H'
theorem QmI {op:CmpOp}{r:R2} (ho:OpR X (compareOp op) r) (ha:PE X a ta) (hb:PE X b tb) (hm:behindInMarks op b=false):PT X (.Compare a [op] [b] pos) (QnE (tOp r ta tb)):=by
 intro pins s σ H Q I h
 refine wpAny_isTrue_Compare1 (thn (ha pins s σ H _ I h) fun v s1 ⟨x,H1,I1,r1,q1⟩=>thn (hb pins s1 σ H1 _ I1 q1) fun u s2 ⟨y,H2,I2,r2,q2⟩ =>
  thn (ho pins s2 σ H2 x y v u _ I2 r1 r2 q2) fun c s3 ⟨z,H3,I3,r3,k,e,q3⟩=>?_) hm
 subst e;cases r3;exact wpAny_truthy_bool ⟨H3,I3,q3⟩
def QqO (K:PySem.W.Frag) (x:V) (H:Hp) (k:Bool):Prop :=
 match x with
 | .non=>k=false
 | .bl b=>k=b
 | .int i=>k=(i != 0)
 | .str y=>y.length≤sizeLine∧k=((y.length:Int) != 0)
 | .byt y=>y.size≤sizeLine∧k=((y.size:Int) != 0)
 | .ref p=>(∃xs,SqL K H p xs∧k = !xs.isEmpty)∨(∃xs,SqT K H p xs∧k = !xs.isEmpty)∨∃kvs,H p=some (.dK kvs)∧k = !kvs.isEmpty
 | _=>False
theorem Qm5 {κ:Type}{kvs:List (κ×V)}{vs:List (κ×Value)} (r:KV kvs vs):(!vs.isEmpty) = !kvs.isEmpty:=by
 cases r <;> rfl
theorem Qjk {xs:List V}{its:List Value} (r:QaG xs its):(!its.toArray.isEmpty) = !xs.isEmpty:=by
 cases r <;> simp
theorem Qgy:(sizeLine:Nat) < 2 ^ 63:=by rw [sizeLine_eq]; decide
theorem Qtk:QwF X (fun x H Q=>∃k,QqO X.K x H k∧Q k H):=by
 intro pins s σ H x v Q I rx h;obtain ⟨k,e,q⟩:=h;have hl:=Qgy;have hs:sizeLine=16777216:=sizeLine_eq
 cases x with
 | non =>
  cases rx;have e':k=false:=e;subst e';exact truthy_none ⟨H,I,q⟩
 | bl b =>
  cases rx;have e':k=b:=e;subst e';exact wpAny_truthy_bool ⟨H,I,q⟩
 | int i =>
  obtain ⟨t,rfl⟩:=rx;have e':k=(i != 0):=e;subst e';exact PySem.P.truthy_int ⟨H,I,q⟩
 | str y =>
  obtain ⟨t,rfl⟩:=rx;obtain ⟨hy,e'⟩:y.length≤sizeLine∧k=((y.length:Int) != 0):=e;subst e';exact PySem.P.truthy_str (by omega) ⟨H,I.tok _,q⟩
 | byt y =>
  obtain ⟨t,rfl⟩:=rx;obtain ⟨hy,e'⟩:y.size≤sizeLine∧k=((y.size:Int) != 0):=e;subst e';exact PySem.W.truthy_bytes (by omega) ⟨H,I.tok _,q⟩
 | ref p =>
  cases rx;have e':(∃xs,SqL X.K H p xs∧k = !xs.isEmpty)∨(∃xs,SqT X.K H p xs∧k = !xs.isEmpty)∨∃kvs,H p=some (.dK kvs)∧k = !kvs.isEmpty:=e
  rcases e' with ⟨xs,hx,e'⟩ | ⟨xs,hx,e'⟩ | ⟨kvs,hx,e'⟩
  ·subst e';obtain ⟨its,r,pl,hz⟩:=I.list hx;have hlen:=r.length;exact wpAny_truthy_list pl.isList (by simp only [zt]; omega) ⟨H,I.tok _,by rw [Qjk r]; exact q⟩
  ·subst e';obtain ⟨its,r,pl,hz⟩:=I.tuple hx;have hlen:=r.length;exact truthy_tuple pl (by simp only [zt]; omega) ⟨H,I.tok _,by rw [Qjk r]; exact q⟩
  ·subst e';obtain ⟨hz,hS,vs,r,m⟩:kvs.length≤sizeLine∧(p == sysModules)=false∧∃vs,KV kvs vs∧s.heap.DictOf (Qb6 X.prog X.w) p vs:=I.hok p _ hx;have hlen:kvs.length=vs.length:=Paired.length r;exact wpAny_truthy_dict hS m (by omega) ⟨H,I.tok _,by rw [Qm5 r]; exact q⟩
 | _=>exact (show False from e).elim
theorem QqH (ha:PE X a ta) (he:∀whole,isTrue a X.env whole=(do let v ←whole; standAt a.pos; holding [v] (truthy v))) :
  PT X a (fun σ H Q=>ta σ H fun x H'=>∃k,QqO X.K x H' k∧Q k H'):=by
 intro pins s σ H Q I h;exact isTrue_plain (thn (ha pins s σ H _ I h) fun v s1 ⟨x,H1,I1,r1,q1⟩=>Qtk pins s1 σ H1 x v Q I1 r1 q1) (he _)
theorem Qnc:OpR X (binaryOp .Add) (fun x y H Q=>∃i j,x = .str i∧y = .str j∧i.length+j.length≤sizeLine∧Q (.str (i++j)) H):=by
 intro pins s σ H x y v u Q I rx ry h;obtain ⟨i,j,rfl,rfl,hz,q⟩:=h;obtain ⟨t,rfl⟩:=rx;obtain ⟨t',rfl⟩:=ry;exact add_str (fun t' tk=>⟨.str (i++j),H,I.tok _,⟨_,rfl⟩,q⟩) hz
theorem vals1 {x:V}{us:List Value} (r:QaG [x] us):∃u,us = [u]∧RelV x u:=by
 cases r with
 | cons r1 r2=>cases r2; exact ⟨_,rfl,r1⟩
theorem vals2 {x y:V}{us:List Value} (r:QaG [x,y] us):∃u w',us = [u,w']∧RelV x u∧RelV y w':=by
 cases r with
 | cons r1 r2 =>
  cases r2 with
  | cons r3 r4=>cases r4; exact ⟨_,_,rfl,r1,r3⟩
theorem QoD (hc:X.calm=true):Qgg X (.builtin "min") (fun xs H Q=>∃i j,xs = [.int i,.int j]∧Q (.int (if j < i then j else i)) H):=by
 intro pins s σ H xs us Q I r h;obtain ⟨i,j,rfl,q⟩:=h;obtain ⟨u,w',rfl,⟨t,rfl⟩,⟨t',rfl⟩⟩:=vals2 r
 refine min_two_ints (I.ok.hd hc) fun h' tk k=>⟨_,H,I.kept k,?_,q⟩
 by_cases hj:j < i
 ·rw [if_pos hj,if_pos hj]; exact ⟨_,rfl⟩
 ·rw [if_neg hj,if_neg hj]; exact ⟨_,rfl⟩
theorem Qky:Qgg X (.type "int") (fun xs H Q=>(∃i,xs = [.int i]∧Q (.int i) H)∨∃k,xs = [.bl k]∧Q (.int (if k then 1 else 0)) H):=by
 intro pins s σ H xs us Q I r h
 rcases h with ⟨i,rfl,q⟩ | ⟨k,rfl,q⟩
 ·obtain ⟨u,rfl,t,rfl⟩:=vals1 r;exact call_int_int ⟨.int i,H,I,⟨_,rfl⟩,q⟩
 ·obtain ⟨u,rfl,r1⟩:=vals1 r;cases r1;exact call_int_bool ⟨.int (if k then 1 else 0),H,I.tok _,⟨_,rfl⟩,q⟩
def Qwa (K:PySem.W.Frag) (x:V) (H:Hp) (n:Nat):Prop :=
 match x with
 | .str y=>y.length≤sizeLine∧n=y.length
 | .byt y=>y.size≤sizeLine∧n=y.size
 | .ref p=>(∃xs,SqL K H p xs∧n=xs.length)∨∃xs,SqT K H p xs∧n=xs.length
 | _=>False
theorem call_len:Qgg X (.builtin "len") (fun xs H Q=>∃x n,xs = [x]∧Qwa X.K x H n∧Q (.int n) H):=by
 intro pins s σ H xs us Q I r h;obtain ⟨x,n,rfl,e,q⟩:=h;obtain ⟨u,rfl,rx⟩:=vals1 r;have hl:=Qgy;have hs:sizeLine=16777216:=sizeLine_eq
 cases x with
 | str y =>
  obtain ⟨t,rfl⟩:=rx;obtain ⟨hy,e'⟩:y.length≤sizeLine∧n=y.length:=e;subst e';exact len_str (by omega) ⟨.int _,H,I.tok _,⟨_,rfl⟩,q⟩
 | byt y =>
  obtain ⟨t,rfl⟩:=rx;obtain ⟨hy,e'⟩:y.size≤sizeLine∧n=y.size:=e;subst e';exact PySem.W.len_bytes (by omega) ⟨.int _,H,I.tok _,⟨_,rfl⟩,q⟩
 | ref p =>
  cases rx;have e':(∃xs,SqL X.K H p xs∧n=xs.length)∨∃xs,SqT X.K H p xs∧n=xs.length:=e
  rcases e' with ⟨xs,hx,e'⟩ | ⟨xs,hx,e'⟩
  ·subst e';obtain ⟨its,r',pl,hz⟩:=I.list hx;have hlen:=r'.length;exact Calls.call_len_list pl.isList (by simp only [zt]; omega) ⟨.int xs.length,H,I.tok _,⟨_,by simp only [zt]; rw [hlen]⟩,q⟩
  ·subst e';obtain ⟨its,r',pl,hz⟩:=I.tuple hx;have hlen:=r'.length;exact len_tuple pl (by simp only [zt]; omega) ⟨.int xs.length,H,I.tok _,⟨_,by simp only [zt]; rw [hlen]⟩,q⟩
 | _=>exact (show False from e).elim
end
structure Qi1 (h:Heap) (x dx C:Addr) (mA:Str→Option Value):Prop where
 obj:h.get? x=some (PySem.W.instObj C dx)
 ns:h.Ns1 dx mA
 ne:dx≠x
theorem Qo8 {h:Heap}{dx:Addr}{mA:Str→Option Value} (n:h.Ns1 dx mA):∃od,h.get? dx=some od∧∀name,PySem.W.lookIn name od=some (mA name):=by
 obtain ⟨o,es,ep,ho,hd,hk,_,hm⟩:=n;refine ⟨o,ho,fun name=>?_⟩;have e:=hm name;unfold nsFind findBy at e;rw [←Array.find?_toList] at e;unfold PySem.W.lookIn;rw [hd];dsimp only
 split
 ·rename_i y q;rw [q] at e;exact congrArg some e
 ·rename_i q;rw [q] at e
  have a:es.toList.any (·.refKey)=false:=by
   rw [List.any_eq_false];intro y hy;obtain ⟨z,t,hkey⟩:=hk y (Array.mem_toList_iff.mp hy);simp [DictEntry.refKey,hkey]
  have a':¬es.toList.any (·.refKey)=true:=by rw [a]; exact zp
  rw [if_neg a'];exact congrArg some e
theorem Qi1.look {h:Heap}{x dx C:Addr}{mA:Str→Option Value} (I:Qi1 h x dx C mA):∃od,PySem.W.InstAt h x (PySem.W.instObj C dx) C (some od)∧∀name,PySem.W.lookIn name od=some (mA name) :=
 let ⟨od,ho,hl⟩:=Qo8 I.ns
 ⟨od,⟨I.obj,rfl,rfl,ho⟩,hl⟩
section
variable {prog:Program}{w:World}{A:Around}{E:Value→Shared→Prop}{s:Shared}{K:PySem.W.Frag}{x dx C f:Addr}{mA:Str→Option Value}{name:Str}{v:Value}
theorem QrL {expr:Bool}{Q:Value→Shared→Prop} (X:K.In s.heap) (I:Qi1 s.heap x dx C mA) (hg:PySem.W.plainGet K C name=true) (hh:PySem.W.hasDictIn K C=true)
  (ha:PySem.W.findIn K (.ref C) name=some none) (hv:mA name=some v) (hv':PySem.W.handedIn v=true) (h:Q v { s with toks:=s.toks+1 }) :
  wpAny (model prog w) A (getAttr (.ref x) name expr) Q E s:=by
 obtain ⟨od,J,hl⟩:=I.look;exact PySem.W.get_value X J (PySem.W.plainGet_of hg).1 (PySem.W.findObj_own hh ha rfl (by rw [hl,hv])) hv' h
theorem QpV {pl:Sem Bool}{Q:Value×List Value→Shared→Prop} (X:K.In s.heap) (I:Qi1 s.heap x dx C mA) (hg:PySem.W.plainGet K C name=true)
  (hf:PySem.W.findIn K (.ref C) name=some (some (.ref f))) (ht:PySem.W.isFn K (.ref f)=true) (hv:mA name=none) (h:Q (.ref f,[.ref x]) s) :
  wpAny (model prog w) A (getMethod (.ref x) name pl) Q E s:=by
 obtain ⟨od,J,hl⟩:=I.look;exact PySem.W.method_fn X J (PySem.W.plainGet_of hg).1 (PySem.W.plainGet_of hg).2 hf (beq_iff_eq.mp ht) (by show (PySem.W.lookIn name od).map (·.isSome)=some false; rw [hl,hv]; rfl) h
theorem Qr8 {ns:List Str}{Q:Unit→Shared→Prop} (X:K.In s.heap) (I:Qi1 s.heap x dx C mA)
  (hs:PySem.W.findIn K (.ref C) "__setattr__" = some (some (.builtin "object.__setattr__"))) (hp:PySem.W.plainOver K C=true) (ht:PySem.W.takerIn K C name=some none) (hh:PySem.W.hasDictIn K C=true)
  (hw:PySem.Within mA ns) (hsz:ns.length≤sizeLine)
  (h:∀h',Qi1 h' x dx C (fun y=>if y=name then some v else mA y)→Heap.SameBut dx s.heap h'→Q () { s with heap:=h',toks:=s.toks+2 }) :
  wpAny (model prog w) A (setAttr (.ref x) name v) Q E s:=by
 obtain ⟨od,J,hl⟩:=I.look;refine PySem.W.set_plain X J hs (PySem.W.osa_open (s:={ s with toks:=s.toks+1 }) (r:=none) X J hp ht fun b=>?_);obtain ⟨cd,hc,hd'⟩:=PySem.W.any_some hh;have hx:s.heap.get? x=some ⟨.ref C,some dx,.plain,#[]⟩:=I.obj;refine za (zc (za (za (wpAny_loadPart hx (za (PySem.W.Looks.here (s:={ s with toks:=s.toks+1 }) (PySem.W.looks_clsIn X hc) ?_))))));rw [hd'];refine zc (a:=some dx) (za (zc (za ?_)))
 refine wpAny_nsSet1 (s:={ s with toks:=s.toks+1 }) I.ns fun h' hn2 hs2=>?_
 obtain ⟨oD,esD,epD,hoD,hdD,hcD⟩:=hn2.count (PySem.Within.cons name v hw);refine za (wpAny_lookBehind hoD (by rw [hdD]; exact pastItsLine_dict (zD hcD (by rw [zA]; omega))) ?_);exact zc (h _ ⟨(hs2.2 _ (Ne.symm I.ne)).trans I.obj,hn2,I.ne⟩ hs2)
theorem Qqq {R:Result→Shared→Prop}{vs:List Value}{kw:List (Str×Value)} (X:K.In s.heap) (hm:PySem.W.makesIn K C=true)
  (hi:PySem.W.findIn K (.ref C) "__init__" = some (some (.ref f))) (hf:PySem.W.typeIn K (.ref f)=some (.type "function"))
  (h:codeAny (model prog w) (A.under (.builtin "type.__call__" ⟨.ref C::vs,kw⟩)) (.call (.ref f) ⟨.ref (s.heap.objs.size+1)::vs,kw⟩) (PySem.W.InitBack (s.heap.objs.size+1) R)
   { s with heap:=(s.heap.push PySem.W.emptyDict).push (PySem.W.instObj C s.heap.objs.size) }) :
  codeAny (model prog w) A (.call (.ref C) ⟨vs,kw⟩) R s:=by
 obtain ⟨hh,g,d,t,os⟩:=s;exact PySem.W.make_core (PySem.W.makes_of X hm) (PySem.W.looks_findIn X hi) (fun self=>PySem.W.bind_fn X self hf) (.inl rfl) h
end
def Qdi (f:Str) (v:V):List (Str×V)→List (Str×V)
 | []=>[(f,v)]
 | (g,x)::r=>if g=f then (g,v)::r else (g,x)::Qdi f v r
theorem QiK (f g:Str) (v:V):∀fs:List (Str×V),(Qdi f v fs).lookup g=if g=f then some v else fs.lookup g
 | []=>by
  show List.lookup g [(f,v)]=_
  by_cases h:g=f
  ·have hb:(g == f)=true:=beq_iff_eq.mpr h;simp only [List.lookup,hb,if_pos h]
  ·have hb:(g == f)=false:=beq_eq_false_iff_ne.mpr h;simp only [List.lookup,hb,if_neg h]
 | (k,x)::r=>by
  have ih:=QiK f g v r;rw [show Qdi f v ((k,x)::r)=(if k=f then (k,v)::r else (k,x)::Qdi f v r) from rfl]
  by_cases hk:k=f
  ·rw [if_pos hk]
   by_cases h:g=k
   ·have hb:(g == k)=true:=beq_iff_eq.mpr h;simp only [List.lookup,hb,if_pos (h.trans hk)]
   ·have hb:(g == k)=false:=beq_eq_false_iff_ne.mpr h;simp only [List.lookup,hb,if_neg (fun e:g=f=>h (e.trans hk.symm))]
  ·rw [if_neg hk]
   by_cases h:g=k
   ·have hb:(g == k)=true:=beq_iff_eq.mpr h;simp only [List.lookup,hb,if_neg (fun e:g=f=>hk (h.symm.trans e))]
   ·have hb:(g == k)=false:=beq_eq_false_iff_ne.mpr h;simp only [List.lookup,hb];exact ih
theorem QhV (f:Str) (v:V):∀fs:List (Str×V),f∈(Qdi f v fs).map (·.1)∧∀g,g∈fs.map (·.1)→g∈(Qdi f v fs).map (·.1)
 | []=>⟨by simp [Qdi],fun g h=>by simp at h⟩
 | (k,x)::r=>by
  obtain ⟨i1,i2⟩:=QhV f v r;rw [show Qdi f v ((k,x)::r)=(if k=f then (k,v)::r else (k,x)::Qdi f v r) from rfl]
  by_cases hk:k=f
  ·rw [if_pos hk];subst hk;exact ⟨by simp,fun g h=>by simpa using h⟩
  ·rw [if_neg hk];refine ⟨?_,fun g h=>?_⟩
   ·rw [zl];exact zu _ i1
   ·rw [zl] at h ⊢
    rcases zn.mp h with e | e
    ·exact zn.mpr (.inl e)
    ·exact zu _ (i2 g e)
theorem QiI (f:Str) (v:V):∀fs:List (Str×V),(Qdi f v fs).length≤fs.length+1
 | []=>by simp [Qdi]
 | (k,x)::r=>by
  have ih:=QiI f v r;rw [show Qdi f v ((k,x)::r)=(if k=f then (k,v)::r else (k,x)::Qdi f v r) from rfl]
  by_cases hk:k=f
  ·rw [if_pos hk,zA,zA]; omega
  ·rw [if_neg hk,zA,zA]; omega
theorem Qd6.some_of {v:V}{o:Option Value} (r:Qd6 (some v) o):∃u,o=some u∧RelV v u:=by
 cases o with
 | none=>exact (show False from r).elim
 | some u=>exact ⟨u,rfl,r⟩
theorem Qd6.none_of {o:Option Value} (r:Qd6 none o):o=none:=by
 cases o with
 | none=>rfl
 | some u=>exact (show False from r).elim
theorem Qof {v:V}{u:Value} (r:RelV v u):PySem.W.handedIn u=true:=by
 cases v with
 | non=>cases (show u=Value.none from r); rfl
 | bl b=>cases (show u=Value.bool b from r); rfl
 | int i=>obtain ⟨t,e⟩:=(show ∃t,u=Value.int i t from r); cases e; rfl
 | str x=>obtain ⟨t,e⟩:=(show ∃t,u=Value.str x t from r); cases e; rfl
 | byt b=>obtain ⟨t,e⟩:=(show ∃t,u=Value.bytes b t from r); cases e; rfl
 | flt b=>obtain ⟨t,e⟩:=(show ∃t,u=Value.float b t from r); cases e; rfl
 | ref a=>cases (show u=Value.ref a from r); rfl
 | ty n=>cases (show u=Value.type n from r); rfl
section
variable {P:Program}{w:World}{H H':Hp}{h h':Heap}{a C dx:Addr}{fs fs':List (Str×V)}
theorem Qih (hok:HOk P w H h) (e:H a=some (.ins C dx fs)):∃mA,Qi1 h a dx C mA∧(∀f,Qd6 (fs.lookup f) (mA f))∧PySem.Within mA (fs.map (·.1))∧fs.length≤1000∧H dx=some (.own a):=by
 obtain ⟨d,z,ne,ob,mA,n,r,q⟩:=(show Qbq P w H h a (.ins C dx fs) from hok a _ e);exact ⟨mA,⟨ob,n,ne⟩,r,q,z,d⟩
end
structure Cls (K:PySem.W.Frag) (C:Addr):Prop where
 pg:PySem.W.plainGet K C Str.empty=true
 hd:PySem.W.hasDictIn K C=true
 po:PySem.W.plainOver K C=true
 sa:PySem.W.findIn K (.ref C) "__setattr__" = some (some (.builtin "object.__setattr__"))
theorem Cls.get {K:PySem.W.Frag}{C:Addr} (c:Cls K C) (f:Str):PySem.W.plainGet K C f=true:=c.pg
def QfX (K:PySem.W.Frag) (C:Addr) (f:Str):Prop:=PySem.W.findIn K (.ref C) f=some none
theorem QfX.taker {K:PySem.W.Frag}{C:Addr}{f:Str} (n:QfX K C f):PySem.W.takerIn K C f=some none:=by
 unfold PySem.W.takerIn;rw [show PySem.W.findIn K (.ref C) f=some none from n];rfl
structure Con (K:PySem.W.Frag) (C:Addr) (f:Str) (v:V) (u:Value):Prop where
 at_:PySem.W.findIn K (.ref C) f=some (some u)
 rel:RelV v u
 get:PySem.W.specialIn K u "__get__" = some none
 cp:PySem.W.copiedNames.contains f=false
structure Qlo (K:PySem.W.Frag) (C:Addr) (m:Str) (f:Addr):Prop where
 at_:PySem.W.findIn K (.ref C) m=some (some (.ref f))
 fn:PySem.W.isFn K (.ref f)=true
 kp:PySem.W.keepIn K (.ref f)=true
section
variable {X:Cx}{pins:List (Addr×Obj)}{σ:St}{H:Hp}{s:Shared}{a C dx:Addr}{fs:List (Str×V)}{f:Str}{v:V}{A:Around}{E:Value→Shared→Prop}
theorem Qnf {b:Bool}{Q:Value→Shared→Prop} (I:Inv X pins σ H s) (e:H a=some (.ins C dx fs)) (c:Cls X.K C) (n:QfX X.K C f) (l:fs.lookup f=some v)
  (h:∀u s',Inv X pins σ H s'→RelV v u→Q u s'):wpAny (model X.prog X.w) A (getAttr (.ref a) f b) Q E s:=by
 obtain ⟨mA,O,r,_,_,_⟩:=Qih I.hok e;obtain ⟨u,hu,ru⟩:=Qd6.some_of (v:=v) (o:=mA f) (by rw [←l]; exact r f);exact QrL I.kIn O (c.get f) c.hd n hu (Qof ru) (h u _ (I.tok _) ru)
theorem Qjl {m:Str}{g:Addr}{pl:Sem Bool}{Q:Value×List Value→Shared→Prop} (I:Inv X pins σ H s) (e:H a=some (.ins C dx fs)) (c:Cls X.K C) (k:Qlo X.K C m g) (l:fs.lookup m=none)
  (h:Q (.ref g,[.ref a]) s):wpAny (model X.prog X.w) A (getMethod (.ref a) m pl) Q E s:=by
 obtain ⟨mA,O,r,_,_,_⟩:=Qih I.hok e;have hn:mA m=none:=Qd6.none_of (by rw [←l]; exact r m);exact QpV I.kIn O (c.get m) k.at_ k.fn hn h
theorem Qnm {y:V}{u:Value}{Q:Unit→Shared→Prop} (I:Inv X pins σ H s) (e:H a=some (.ins C dx fs)) (c:Cls X.K C) (n:QfX X.K C f) (hl:fs.length < 1000) (ry:RelV y u)
  (h:∀s',Inv X pins σ (upd H a (.ins C dx (Qdi f y fs))) s'→Q () s'):wpAny (model X.prog X.w) A (setAttr (.ref a) f u) Q E s:=by
 obtain ⟨mA,O,r,wi,_,ho⟩:=Qih I.hok e
 have hz:(fs.map (·.1)).length≤sizeLine:=by rw [zd,sizeLine_eq]; omega
 refine Qr8 I.kIn O c.sa c.po n.taker c.hd wi hz fun h' O' sb=>h _ ?_
 have hd:∃o,h'.get? dx=some o:=let ⟨o,_,_,e',_⟩:=O'.ns; ⟨o,e'⟩;refine I.write (x:=a) (e:=dx) (by rw [e]; exact True.intro) (.inr ho) (fun b q hb z=>(sb.2 b hb).trans z) hd ?_;refine ⟨by rw [Qap O.ne]; exact ho,?_,O.ne,O'.obj,_,O'.ns,fun g=>?_,fun g hg=>?_⟩
 ·have:=QiI f y fs; omega
 ·show Qd6 ((Qdi f y fs).lookup g) (if g=f then some u else mA g);rw [QiK]
  by_cases q:g=f
  ·rw [if_pos q,if_pos q]; exact ry
  ·rw [if_neg q,if_neg q]; exact r g
 ·by_cases q:g=f
  ·rw [q]; exact (QhV f y fs).1
  ·refine (QhV f y fs).2 g (wi g fun z=>hg ?_);show (if g=f then some u else mA g)=none;rw [if_neg q]; exact z
theorem Inv.made (I:Inv X pins σ H s):Inv X pins σ (upd (upd H s.heap.objs.size (.own (s.heap.objs.size+1))) (s.heap.objs.size+1) (.ins C s.heap.objs.size []))
  { s with heap:=(s.heap.push PySem.W.emptyDict).push (PySem.W.instObj C s.heap.objs.size) }:=by
 have e1:(s.heap.push PySem.W.emptyDict).get? s.heap.objs.size=some PySem.W.emptyDict:=zH s.heap rfl
 have e2:((s.heap.push PySem.W.emptyDict).push (PySem.W.instObj C s.heap.objs.size)).get? (s.heap.objs.size+1)=some (PySem.W.instObj C s.heap.objs.size):=by
  have:=zH (s.heap.push PySem.W.emptyDict) (o:=PySem.W.instObj C s.heap.objs.size) rfl
  rwa [Heap.size_push] at this
 have e3:(s.heap.push PySem.W.emptyDict).Ns s.heap.objs.size (fun _=>none):=⟨PySem.W.emptyDict,#[],_,e1,rfl,(fun e he=>absurd he (by simp)),fun _=>rfl⟩;have I1:=I.laid (a:=s.heap.objs.size) (o:=.own (s.heap.objs.size+1)) (h':=s.heap.push PySem.W.emptyDict) (t':=s.toks) (fun b u q=>zy _ q) (zb _) ⟨_,e1⟩;refine I1.laid (a:=s.heap.objs.size+1) (o:=.ins C s.heap.objs.size []) (t':=s.toks) (fun b u q=>zy _ q) (Nat.le_of_eq (Heap.size_push _ _)) ?_;have ne:s.heap.objs.size≠s.heap.objs.size+1:=zB (ji _);refine ⟨by rw [Qap ne,QaF],Nat.zero_le _,ne,e2,fun _=>none,(Heap.Ns1.of_empty e3).at fun o q=>zy _ q,fun _=>True.intro,fun y hy=>absurd rfl hy⟩
theorem Qr2 {prog:Program}{w:World}{env:Env}{e:Expr}{f:Str}{pos:Pos}{s:Shared}{Q:Value→Shared→Prop} (hb:attributeBase e f env (eval e env)=eval e env)
  (h:wpAny (model prog w) A (eval e env) (fun o s₁=>wpAny (model prog w) A (getAttr o f true) Q E s₁) E s):wpAny (model prog w) A (eval (.Attribute e f pos) env) Q E s :=
 Attribute_any_ h (by rw [arm_eval_Attribute,hb])
end
def QwQ (K:PySem.W.Frag) (ta:TE) (f:Str):TE:=fun σ H Q=>ta σ H fun x H1=>∃a C dx fs v,x = .ref a∧H1 a=some (.ins C dx fs)∧Cls K C∧QfX K C f∧fs.lookup f=some v∧Q v H1
def Qwn (K:PySem.W.Frag) (ta tv:TE) (f:Str):TS:=fun D σ H=>tv σ H fun y H1=>ta σ H1 fun x H2=>∃a C dx fs,x = .ref a∧H2 a=some (.ins C dx fs)∧Cls K C∧QfX K C f∧fs.length < 1000 ∧
 D.nx σ (upd H2 a (.ins C dx (Qdi f y fs)))
section
variable {X:Cx}{o e value:Expr}{f:Str}{pos pos' tpos:Pos}{ta tv:TE}
theorem QuQ (he:PE X e ta) (hb:attributeBase e f X.env (eval e X.env)=eval e X.env):PE X (.Attribute e f pos) (QwQ X.K ta f):=by
 intro pins s σ H Q I h;refine Qr2 hb (thn (he pins s σ H _ I h) fun u s1 ⟨x,H1,I1,rx,a,C,dx,fs,v,ex,ea,c,n,l,q⟩=>?_);subst ex;obtain rfl:u=Value.ref a:=rx
 exact Qnf I1 ea c n l fun u' s2 I2 ru=>⟨v,H1,I2,ru,q⟩
theorem QtC (ha:PE X o ta) (hv:PE X value tv) (hs:swapsWith value (some (.Attribute o f pos')) pos.line X.env=pure false):PS X (.Assign [.Attribute o f pos'] value pos) (Qwn X.K ta tv f):=by
 intro pins s σ H D I h;refine plainObj_wpAny_Assign_Attribute (thn (hv pins s σ H _ I h) fun u s1 ⟨y,H1,I1,ry,q⟩=>thn (ha pins s1 σ H1 _ I1 q) fun ov s2 ⟨x,H2,I2,rx,a,C,dx,fs,ex,ea,c,n,l,q2⟩=>?_) hs;subst ex;obtain rfl:ov=Value.ref a:=rx
 exact Qnm I2 ea c n l ry fun s3 I3=>⟨σ,_,I3,q2⟩
end
section
variable {X:Cx}{pins:List (Addr×Obj)}{σ:St}{H:Hp}{s:Shared}{A:Around}{E:Value→Shared→Prop}{Q:Value→Shared→Prop}{c:Value}{b:Bool}
inductive Qfe (K:PySem.W.Frag) (H:Hp):V→Value→Prop where
 | non:Qfe K H .non (.type "NoneType")
 | bl (x:Bool):Qfe K H (.bl x) (.type "bool")
 | int (i:Int):Qfe K H (.int i) (.type "int")
 | str (x:Str):Qfe K H (.str x) (.type "str")
 | flt (x:UInt64):Qfe K H (.flt x) (.type "float")
 | lst {a:Addr}{xs:List V} (e:H a=some (.lst xs)):Qfe K H (.ref a) (.type "list")
 | frz {a:Addr}{o:Obj}{xs:List V} (e:H a=some (.frz o (.lst xs))):Qfe K H (.ref a) (.type "list")
 | tup {a:Addr}{xs:List V} (e:H a=some (.tup xs)):Qfe K H (.ref a) (.type "tuple")
 | dK {a:Addr}{kvs:List (Key×V)} (e:H a=some (.dK kvs)):Qfe K H (.ref a) (.type "dict")
 | dT {a:Addr}{kvs:List (List Key×V)} (e:H a=some (.dT kvs)):Qfe K H (.ref a) (.type "dict")
 | ins {a C dx:Addr}{fs:List (Str×V)} (e:H a=some (.ins C dx fs)) (cl:Cls K C) (ha:PySem.W.findIn K (.ref C) "__class__" = some (some (.builtin "object.__class__")))
   (hn:PySem.W.specialIn K (.builtin "object.__class__") "__get__" = some (some (.builtin "getset_descriptor.__get__"))) (htk:PySem.W.takesIn K (.builtin "object.__class__")=some true)
   (hm:PySem.W.mroIn K C (.type "object")=some true):Qfe K H (.ref a) (.ref C)
theorem Qfa {x:V}{u t:Value} (I:Inv X pins σ H s) (rx:RelV x u) (ty:Qfe X.K H x t) (e:PySem.W.kitOne X.K t c=some b) (h:∀tk,Q (.bool b) { s with toks:=tk }) :
  wpAny (model X.prog X.w) A (call (.builtin "isinstance") [u,c]) Q E s:=by
 cases ty with
 | non=>cases (show u=Value.none from rx); exact PySem.W.kia_one PySem.W.kitx_none I.kIn True.intro e (fun z=>nomatch z) h
 | bl y=>cases (show u=Value.bool y from rx); exact PySem.W.kia_one PySem.W.kitx_bool I.kIn True.intro e (fun z=>nomatch z) h
 | int i=>obtain ⟨t,q⟩:=(show ∃t,u=Value.int i t from rx); cases q; exact PySem.W.kia_one PySem.W.kitx_int I.kIn True.intro e (fun z=>nomatch z) h
 | str y=>obtain ⟨t,q⟩:=(show ∃t,u=Value.str y t from rx); cases q; exact PySem.W.kia_one PySem.W.kitx_str I.kIn True.intro e (fun z=>nomatch z) h
 | flt y=>obtain ⟨t,q⟩:=(show ∃t,u=Value.float y t from rx); cases q; exact PySem.W.kia_one PySem.W.kitx_float I.kIn True.intro e (fun z=>nomatch z) h
 | @lst a xs ea =>
  cases (show u=Value.ref a from rx);obtain ⟨_,_,n,_,h1⟩:=(show Qbq X.prog X.w H s.heap a (.lst xs) from I.hok a _ ea);exact PySem.W.kia_one PySem.W.kitx_list I.kIn ⟨_,h1,rfl⟩ e (fun z=>nomatch z) h
 | @frz a ob xs ea =>
  cases (show u=Value.ref a from rx);obtain ⟨_,_,_,n,_,h1⟩:=(show Qbq X.prog X.w H s.heap a (.frz ob (.lst xs)) from I.hok a _ ea);exact PySem.W.kia_one PySem.W.kitx_list I.kIn ⟨_,h1,rfl⟩ e (fun z=>nomatch z) h
 | @tup a xs ea =>
  cases (show u=Value.ref a from rx);obtain ⟨_,_,_,p⟩:=(show Qbq X.prog X.w H s.heap a (.tup xs) from I.hok a _ ea);obtain ⟨o,h1,h2,_⟩:=p;exact PySem.W.kia_one PySem.W.kitx_tuple I.kIn ⟨o,h1,h2⟩ e (fun z=>nomatch z) h
 | @dK a kvs ea =>
  cases (show u=Value.ref a from rx);obtain ⟨_,_,vs,_,p⟩:=(show Qbq X.prog X.w H s.heap a (.dK kvs) from I.hok a _ ea);obtain ⟨o,es,ep,h1,h2,_⟩:=p;exact PySem.W.kia_one PySem.W.kitx_dict I.kIn ⟨o,h1,h2.1⟩ e (fun z=>nomatch z) h
 | @dT a kvs ea =>
  cases (show u=Value.ref a from rx);obtain ⟨_,_,xs,_,o,es,ep,h1,h2,_⟩:=(show Qbq X.prog X.w H s.heap a (.dT kvs) from I.hok a _ ea);exact PySem.W.kia_one PySem.W.kitx_dict I.kIn ⟨o,h1,h2.1⟩ e (fun z=>nomatch z) h
 | @ins a C dx fs ea cl ha hn htk hm =>
  cases (show u=Value.ref a from rx);obtain ⟨mA,O,_⟩:=Qih I.hok ea;obtain ⟨od,J,_⟩:=O.look;exact PySem.W.kia_one (PySem.W.kitx_own (cl.get _) cl.hd ha hn htk hm) I.kIn J e (fun z=>nomatch z) h
end
structure Qa6 (k:Nat) (A:Around):Prop where
 hd:A.handled=none
 dp:A.depth+3 * k+5 < recursionLimit
 un:A.units+16 * k+200 < cLine
theorem Qa6.mono {j k:Nat}{A:Around} (r:Qa6 k A) (h:j≤k):Qa6 j A:=⟨r.hd,by have:=r.dp; omega,by have:=r.un; omega⟩
theorem Qa6.deeper {k:Nat}{A:Around} (r:Qa6 (k+1) A) (env:Env):Qa6 k (A.deeper env) :=
 ⟨r.hd,by have:=r.dp; show A.depth+1+3 * k+5 < _; omega,by have:=r.un; show A.units+3+16 * k+200 < _; omega⟩
theorem QnT {A:Around}{C:Addr}{us:List Value}{kw:List (Str×Value)}:(A.under (.builtin "type.__call__" ⟨.ref C::us,kw⟩)).depth=A.depth+1:=by
 first | rfl | simp [Around.under,Code.weight,Code.isCreation,Code.isGuard,Code.isCaller,Code.frames,Code.isFrame,guardIds]
theorem Qm7 {A:Around}{C:Addr}{us:List Value}{kw:List (Str×Value)}:(A.under (.builtin "type.__call__" ⟨.ref C::us,kw⟩)).units=A.units+1:=by
 first | rfl | simp [Around.under,Code.cUnits,Code.frames,Code.isFrame]
theorem Qa6.make {k:Nat}{A:Around} (r:Qa6 (k+1) A) (C:Addr) (us:List Value) (kw:List (Str×Value)):Qa6 k (A.under (.builtin "type.__call__" ⟨.ref C::us,kw⟩)) :=
 ⟨r.hd,by have:=r.dp; rw [QnT]; omega,by have:=r.un; rw [Qm7]; omega⟩
theorem Qa6.depth {k:Nat}{A:Around} (r:Qa6 k A):A.depth < recursionLimit:=by have:=r.dp; omega
theorem Qa6.units {k:Nat}{A:Around} (r:Qa6 k A):A.units+64 < cLine:=by have:=r.un; omega
def Qln:TA:=fun _ H Q=>Q [] H
def QkV (ta:TE) (tr:TA):TA:=fun σ H Q=>ta σ H fun x H1=>tr σ H1 fun xs H2=>Q (x::xs) H2
section
variable {X:Cx}{e:Expr}{es:List Expr}{te:TE}{t:TA}{pos:Pos}
theorem QdV:PA X [] Qln:=fun _ _ _ _ H Q I h=>Calls.spliced_nil ⟨[],H,I,.nil,h⟩
theorem Qcx (ha:PE X e te) (hr:PA X es t) (hs:starEach (e::es) X.env=(false,eval e X.env)::starEach es X.env:=by rfl):PA X (e::es) (QkV te t):=by
 intro pos pins s σ H Q I h;rw [hs];show wpAny _ _ (spliced ((false,eval e X.env)::backTo pos (starEach es X.env))) _ _ s;refine Calls.spliced_cons (thn (ha pins s σ H _ I h) fun u s1 ⟨x,H1,I1,r1,q1⟩=>?_)
 exact thn (hr pos pins s1 σ H1 _ I1 q1) fun us s2 ⟨xs,H2,I2,r2,q2⟩=>⟨x::xs,H2,I2,.cons r1 r2,q2⟩
def QwD (t:TA):TE:=fun σ H Q=>t σ H fun xs H1=>xs.length≤sizeLine∧∀p,H1 p=none→Q (.ref p) (upd H1 p (.tup xs))
def QwH (t:TA):TE:=fun σ H Q=>t σ H fun xs H1=>xs.length≤sizeLine∧∀p,H1 p=none→Q (.ref p) (upd H1 p (.lst xs))
theorem Qtt {x1} (h:PA X es t):PE X (.Tuple es x1 pos) (QwD t):=by
 intro pins s σ H Q I hq;refine wpAny_Tuple_spliced (thn (h pos pins s σ H _ I hq) fun us s1 ⟨xs,H1,I1,r,z,q⟩=>⟨by rw [←r.length]; exact z,?_⟩);have hf:H1 s1.heap.objs.size=none:=I1.hok.fresh (zb _);refine ⟨.ref s1.heap.objs.size,upd H1 s1.heap.objs.size (.tup xs),I1.laid (t':=s1.toks) (fun b u e=>zy _ e) (zb _) ?_,rfl,q _ hf⟩;exact ⟨z,us,r,⟨_,zH _ rfl,rfl,_,rfl⟩⟩
theorem QsV (h:PA X es t):PE X (.List es pos) (QwH t):=by
 intro pins s σ H Q I hq;refine wpAny_List_spliced (thn (h pos pins s σ H _ I hq) fun us s1 ⟨xs,H1,I1,r,z,q⟩=>⟨by rw [←r.length]; exact z,?_⟩);have hf:H1 s1.heap.objs.size=none:=I1.hok.fresh (zb _);refine ⟨.ref s1.heap.objs.size,upd H1 s1.heap.objs.size (.lst xs),I1.laid (t':=s1.toks) (fun b u e=>zy _ e) (zb _) ?_,rfl,q _ hf⟩;exact ⟨z,us,0,r,zH _ rfl⟩
end
abbrev Sp:=List V→Hp→VK→XK→Prop
abbrev CXT:=List Env→Hp→Shared→XK→Value→Shared→Prop
structure QhP (P:Program) (w:World) (K:PySem.W.Frag) (mg:Str→Option Value) (base:Heap) (A:Around) (outer:List Env) (s:Shared) (H:Hp):Prop where
 frames:A.frames=some outer
 mod:Mod K mg base
 bs:∀b o,base.get? b=some o→s.heap.get? b=some o∧H b=none
 bsz:base.objs.size≤s.heap.objs.size
 funs:s.heap.FunFrames base outer
 frf:∀b∈frs outer,H b=none
 hok:HOk P w H s.heap
 bare:AllBare s.gens
def CE (outer:List Env) (P:Program) (w:World) (H:Hp) (s:Shared) (Q:VK) (u:Value) (s':Shared):Prop :=
 ∃v H',s'.os=s.os∧AllBare s'.gens∧Un (frs outer) [] H H' s.heap s'.heap∧HOk P w H' s'.heap∧RelV v u∧Q v H'
def CR (CX:CXT) (outer:List Env) (P:Program) (w:World) (H:Hp) (s:Shared) (Q:VK) (E:XK) (r:Result) (s':Shared):Prop :=
 match r with
 | .ok (.ret u)=>CE outer P w H s Q u s'
 | .ok _=>False
 | .error e=>CX outer H s E e s'
structure QcV (P:Program) (w:World) (K:PySem.W.Frag) (mg:Str→Option Value) (base:Heap) (CX:CXT) (k:Nat) (f:Addr) (fd:FuncData) (ps:List Str) (sp:Sp):Prop where
 len:∀vs H Q E,sp vs H Q E→vs.length=ps.length
 run:∀(A:Around) (outer:List Env) (s:Shared) (H:Hp) (args:Args) (us:List Value) (vs:List V) (Q:VK) (E:XK),Qa6 k A→QhP P w K mg base A outer s H→BindsTo s fd args (ps.zip us)→QaG vs us→sp vs H Q E →
  codeAny (model P w) A (.call (.ref f) args) (CR CX outer P w H s Q E) s
theorem QcV.imp {P:Program}{w:World}{K:PySem.W.Frag}{mg:Str→Option Value}{base:Heap}{CX:CXT}{k:Nat}{f:Addr}{fd:FuncData}{ps:List Str}{sp sp':Sp} (F:QcV P w K mg base CX k f fd ps sp)
  (h:∀vs H Q E,sp' vs H Q E→sp vs H Q E):QcV P w K mg base CX k f fd ps sp' :=
 ⟨fun vs H Q E q=>F.len vs H Q E (h _ _ _ _ q),fun A outer s H args us vs Q E hr he hb hv hs=>F.run A outer s H args us vs Q E hr he hb hv (h _ _ _ _ hs)⟩
theorem QhP.make {P:Program}{w:World}{K:PySem.W.Frag}{mg:Str→Option Value}{base:Heap}{A:Around}{outer:List Env}{s:Shared}{H:Hp} (e:QhP P w K mg base A outer s H) (C:Addr) (us:List Value) (kw:List (Str×Value)) :
  QhP P w K mg base (A.under (.builtin "type.__call__" ⟨.ref C::us,kw⟩)) outer s H:=⟨by first | exact e.frames | (simpa [Around.under,Code.envs,Code.isFrame,pushEnvs] using e.frames),e.mod,e.bs,e.bsz,e.funs,e.frf,e.hok,e.bare⟩
section
variable {X:Cx}{pins:List (Addr×Obj)}{σ:St}{H:Hp}{s s':Shared}
theorem Inv.env0 (I:Inv X pins σ H s):QhP X.prog X.w X.K X.mg X.base X.A X.stack s H :=
 ⟨I.ok.frames,I.ok.mod,I.bs,zD I.ok.bsz I.sz,I.stack,I.stkFree,I.hok,I.bare⟩
theorem Inv.after {Q:VK}{u:Value} (I:Inv X pins σ H s) (h:CE X.stack X.prog X.w H s Q u s'):EP X pins σ Q u s':=by
 obtain ⟨v,H',os,bare,un,hok,r,q⟩:=h;obtain ⟨hh,g,d,t,os'⟩:=s';obtain rfl:os'=s.os:=os;exact ⟨v,H',I.call (h':=hh) (g':=g) (d':=d) (t':=t) (ch:=[]) un hok bare (fun b z=>absurd z (by simp)),r,q⟩
end
def QnI (sp:Sp) (dvs:List V) (E:XK) (t:TA):TE:=fun σ H Q=>t σ H fun vs H1=>sp (vs++dvs) H1 Q E
def Qnq (C:Addr) (m:Str) (sp:Sp) (dvs:List V) (E:XK) (ta:TE) (t:TA):TE:=fun σ H Q=>ta σ H fun x H1=>∃a dx fs,x = .ref a∧H1 a=some (.ins C dx fs)∧fs.lookup m=none ∧
 t σ H1 fun vs H2=>sp (x::(vs++dvs)) H2 Q E
def Qq4 (C:Addr) (sp:Sp) (dvs:List V) (E:XK) (t:TA):TE:=fun σ H Q=>t σ H fun vs H1=>∀x dx,H1 x=none→H1 dx=none→dx≠x →
 sp (.ref x::(vs++dvs)) (upd (upd H1 dx (.own x)) x (.ins C dx [])) (fun v H2=>v = .non∧Q (.ref x) H2) E
def Binds (K:PySem.W.Frag) (fd:FuncData) (ps:List Str) (ds:List Value):Prop :=
 ∀(s:Shared) (us:List Value),K.In s.heap→(us++ds).length=ps.length→BindsTo s fd ⟨us,[]⟩ (ps.zip (us++ds))
theorem Binds.all {K:PySem.W.Frag}{fd:FuncData}{ps:List Str} (h:∀us:List Value,us.length=ps.length→bindArgs fd ⟨us,[]⟩=pure (ps.zip us)):Binds K fd ps []:=fun s us _ hl=>by
 rw [zO] at hl ⊢;exact .of_eq (h us hl)
def QfM (CX:CXT) (X:Cx) (E:XK):Prop:=∀(pins:List (Addr×Obj)) (σ:St) (H:Hp) (s:Shared) (e:Value) (s':Shared),Inv X pins σ H s→CX X.stack H s E e s'→X.xe e s'
section
variable {X:Cx}{CX:CXT}{k:Nat}{f C:Addr}{fd:FuncData}{ps:List Str}{sp:Sp}{dvs:List V}{ds:List Value}{E:XK}{x m:Str}{p pos apos:Pos}{e o:Expr}{es:List Expr}{ta:TE}{t:TA}
theorem QlL {pins:List (Addr×Obj)}{σ:St}{H:Hp}{s:Shared}{Q:VK}{us:List Value}{vs:List V} (F:QcV X.prog X.w X.K X.mg X.base CX k f fd ps sp) (hr:Qa6 k X.A) (hb:Binds X.K fd ps ds) (hd:QaG dvs ds) (hx:QfM CX X E)
  (I:Inv X pins σ H s) (r:QaG vs us) (h:sp (vs++dvs) H Q E):wpAny (model X.prog X.w) X.A (call (.ref f) us) (EP X pins σ Q) X.xe s:=by
 have r2:QaG (vs++dvs) (us++ds):=r.append hd
 have hl:(us++ds).length=ps.length:=by rw [←r2.length]; exact F.len _ _ _ _ h
 refine wpAny_call (codeAny_mono (F.run X.A X.stack s H ⟨us,[]⟩ (us++ds) (vs++dvs) Q E hr I.env0 (hb s us I.kIn hl) r2 h) fun r s' hq=>?_)
 cases r with
 | error e=>exact hx pins σ H s e s' I hq
 | ok fl =>
  cases fl with
  | ret u=>exact I.after hq
  | next=>exact False.elim hq
  | brk=>exact False.elim hq
  | cont=>exact False.elim hq
theorem Qsk (F:QcV X.prog X.w X.K X.mg X.base CX k f fd ps sp) (hr:Qa6 k X.A) (hg:Gl X x) (hm:X.mg x=some (.ref f)) (hk:PySem.W.keepIn X.K (.ref f)=true) (hb:Binds X.K fd ps ds) (hd:QaG dvs ds) (hx:QfM CX X E)
  (ha:PA X (e::es) t) (hdb:(x == ("__debug__":Str))=false:=by decide) (he:starEach (e::es) X.env=(false,eval e X.env)::starEach es X.env:=by rfl) (hpl:(backTo pos (starEach es X.env)).any (·.1)=false:=by rfl) :
  PE X (.Call (.Name x p) (e::es) [] pos) (QnI sp dvs E t):=by
 intro pins s σ H Q I h;refine wpAny_Call_Name_kw (QjP I hg hm ?_ hdb);refine PySem.W.callWith_K (h₀:=X.base) I.ok.mod.kin hk (thn (ha pos pins s σ H _ I h) fun us s1 ⟨vs,H1,I1,r,q⟩=>⟨I1.kIn,?_⟩) he hpl;exact QlL F hr hb hd hx I1 r q
theorem Qsu {pl:Sem Bool} (he:PE X o ta) (c:Cls X.K C) (hm:Qlo X.K C m f) (F:QcV X.prog X.w X.K X.mg X.base CX k f fd ps sp) (hr:Qa6 k X.A) (hb:Binds X.K fd ps ds) (hd:QaG dvs ds) (hx:QfM CX X E) (ha:PA X (e::es) t)
  (hst:starEach (e::es) X.env=(false,eval e X.env)::starEach es X.env:=by rfl) (hpl:(backTo pos (starEach es X.env)).any (·.1)=false:=by rfl)
  (ht:eval (.Call (.Attribute o m apos) (e::es) [] pos) X.env=(do
   let ov ←eval o X.env
   standAt apos.atName
   let (f,first) ←holding [ov] (getMethod ov m pl)
   callWith pos f first (backTo pos (starEach (e::es) X.env)) (backToKw pos (keywordEach [] X.env))):=by rfl) :
  PE X (.Call (.Attribute o m apos) (e::es) [] pos) (Qnq C m sp dvs E ta t):=by
 intro pins s σ H Q I h;refine PySem.W.methodCall_KW (pl:=pl) (thn (he pins s σ H _ I h) fun u s1 ⟨x,H1,I1,rx,a,dx,fs,ex,ea,l,q⟩=>?_) ht;subst ex;obtain rfl:u=Value.ref a:=rx;refine Qjl I1 ea c hm l ?_;refine PySem.W.callWith_K (first:=[.ref a]) (h₀:=X.base) I.ok.mod.kin hm.kp (thn (ha pos pins s1 σ H1 _ I1 q) fun us s2 ⟨vs,H2,I2,r,q2⟩=>⟨I2.kIn,?_⟩) hst hpl;exact QlL (us:=.ref a::us) (vs:=.ref a::vs) F hr hb hd hx I2 (.cons rfl r) q2
theorem QpQ {pl:Sem Bool} (he:PE X o ta) (c:Cls X.K C) (hm:Qlo X.K C m f) (F:QcV X.prog X.w X.K X.mg X.base CX k f fd ps sp) (hr:Qa6 k X.A) (hb:Binds X.K fd ps ds) (hd:QaG dvs ds) (hx:QfM CX X E)
  (ht:eval (.Call (.Attribute o m apos) [] [] pos) X.env=(do
   let ov ←eval o X.env
   standAt apos.atName
   let (f,first) ←holding [ov] (getMethod ov m pl)
   callWith pos f first (backTo pos (starEach [] X.env)) (backToKw pos (keywordEach [] X.env))):=by rfl) :
  PE X (.Call (.Attribute o m apos) [] [] pos) (Qnq C m sp dvs E ta Qln):=by
 intro pins s σ H Q I h;refine PySem.W.methodCall_KW (pl:=pl) (thn (he pins s σ H _ I h) fun u s1 ⟨x,H1,I1,rx,a,dx,fs,ex,ea,l,q⟩=>?_) ht;subst ex;obtain rfl:u=Value.ref a:=rx;refine Qjl I1 ea c hm l ?_;exact PySem.W.callWith_K0 (first:=[.ref a]) I1.kIn hm.kp (QlL (us:=[.ref a]) (vs:=[.ref a]) F hr hb hd hx I1 (.cons rfl .nil) q)
structure Mk (K:PySem.W.Frag) (C f:Addr):Prop where
 makes:PySem.W.makesIn K C=true
 init:PySem.W.findIn K (.ref C) "__init__" = some (some (.ref f))
 fn:PySem.W.isFn K (.ref f)=true
 kp:PySem.W.keepIn K (.ref C)=true
theorem QpN {pins:List (Addr×Obj)}{σ:St}{H:Hp}{s:Shared}{Q:VK}{us:List Value}{vs:List V} (M:Mk X.K C f) (F:QcV X.prog X.w X.K X.mg X.base CX k f fd ps sp) (hr:Qa6 (k+1) X.A) (hb:Binds X.K fd ps ds) (hd:QaG dvs ds)
  (hx:QfM CX X E) (I:Inv X pins σ H s) (r:QaG vs us)
  (h:∀x dx,H x=none→H dx=none→dx≠x→sp (.ref x::(vs++dvs)) (upd (upd H dx (.own x)) x (.ins C dx [])) (fun v H2=>v = .non∧Q (.ref x) H2) E) :
  wpAny (model X.prog X.w) X.A (call (.ref C) us) (EP X pins σ Q) X.xe s:=by
 have hq:=h (s.heap.objs.size+1) s.heap.objs.size (I.hok.fresh (Nat.le_succ _)) (I.hok.fresh (zb _)) (zB (ji _));have I2:=Inv.made (C:=C) I;have r2:QaG (V.ref (s.heap.objs.size+1)::(vs++dvs)) (Value.ref (s.heap.objs.size+1)::(us++ds)):=.cons rfl (r.append hd)
 have hl:(Value.ref (s.heap.objs.size+1)::us++ds).length=ps.length:=by
  have e:=r2.length;rw [F.len _ _ _ _ hq] at e;exact e.symm
 refine wpAny_call (Qqq (f:=f) I.kIn M.makes M.init (beq_iff_eq.mp M.fn) (codeAny_mono (F.run _ X.stack _ _ ⟨Value.ref (s.heap.objs.size+1)::us,[]⟩ (Value.ref (s.heap.objs.size+1)::(us++ds)) _ _ E (hr.make C us [])
  (I2.env0.make C us []) (hb _ (Value.ref (s.heap.objs.size+1)::us) I2.kIn hl) r2 hq) fun r s' hq'=>?_))
 cases r with
 | error e=>exact hx pins σ _ _ e s' I2 hq'
 | ok fl =>
  cases fl with
  | ret u =>
   obtain ⟨v,H',I3,rv,ev,q3⟩:=I2.after hq';subst ev;exact ⟨rv,⟨V.ref (s.heap.objs.size+1),H',I3,rfl,q3⟩⟩
  | next=>exact False.elim hq'
  | brk=>exact False.elim hq'
  | cont=>exact False.elim hq'
theorem Qr3 (M:Mk X.K C f) (F:QcV X.prog X.w X.K X.mg X.base CX k f fd ps sp) (hr:Qa6 (k+1) X.A) (hg:Gl X x) (hm:X.mg x=some (.ref C)) (hb:Binds X.K fd ps ds) (hd:QaG dvs ds) (hx:QfM CX X E)
  (ha:PA X (e::es) t) (hdb:(x == ("__debug__":Str))=false:=by decide) (he:starEach (e::es) X.env=(false,eval e X.env)::starEach es X.env:=by rfl) (hpl:(backTo pos (starEach es X.env)).any (·.1)=false:=by rfl) :
  PE X (.Call (.Name x p) (e::es) [] pos) (Qq4 C sp dvs E t):=by
 intro pins s σ H Q I h;refine wpAny_Call_Name_kw (QjP I hg hm ?_ hdb);refine PySem.W.callWith_K (h₀:=X.base) I.ok.mod.kin M.kp (thn (ha pos pins s σ H _ I h) fun us s1 ⟨vs,H1,I1,r,q⟩=>⟨I1.kIn,?_⟩) he hpl;exact QpN M F hr hb hd hx I1 r q
end
section
variable {X:Cx}{CX:CXT}{k:Nat}{f C:Addr}{fd:FuncData}{ps ks:List Str}{sp:Sp}{E:XK}{x m:Str}{p pos apos kpos:Pos}{e o:Expr}{es:List Expr}{kws:List Keyword}{te ta:TE}{t tk:TA}{nm:Option Str}
structure Qxy (K:PySem.W.Frag) (fd:FuncData) (ps ks:List Str) (g:List Value→List Value→List Value) (gV:List V→List V→List V):Prop where
 to:∀(s:Shared) (us ws:List Value),K.In s.heap→(g us ws).length=ps.length→BindsTo s fd ⟨us,ks.zip ws⟩ (ps.zip (g us ws))
 rel:∀{vs:List V}{us:List Value}{zs:List V}{ws:List Value},QaG vs us→QaG zs ws→QaG (gV vs zs) (g us ws)
variable {g:List Value→List Value→List Value}{gV:List V→List V→List V}
end
structure QaR (N P:List Str) (sc:Scope):Prop where
 kind:sc.kind = .function
 co:sc.isCoroutine=false
 gen:sc.isGenerator=false
 nd:N.Nodup
 pre:N.take P.length=P
 par:∀x∈P,sc.names.lookup x=some .local∨sc.names.lookup x=some .cell
 nofree:∀y∈sc.names,y.2≠.free
theorem Qkl {kindOf:Str→Option NameKind}{x:Str}:∀{binds:List (Str×Value)}{m:Str→Option Value},(∀v,(x,v)∉binds)→bindL kindOf binds m x=m x
 | [],_,_=>rfl
 | (n,v)::r,m,h=>by
  unfold bindL;rw [Qkl fun w hw=>h w (zu _ hw)]
  split
  ·have:x≠n:=by rintro rfl; exact h v zq
   simp [this]
  ·rfl
theorem Qkt {kindOf:Str→Option NameKind}{x:Str}:∀{binds:List (Str×Value)}{m:Str→Option Value},(∀v,(x,v)∉binds)→bindC kindOf binds m x=m x
 | [],_,_=>rfl
 | (n,v)::r,m,h=>by
  unfold bindC;rw [Qkt fun w hw=>h w (zu _ hw)]
  split
  ·rfl
  ·have:x≠n:=by rintro rfl; exact h v zq
   simp [this]
theorem Qkm {kindOf:Str→Option NameKind}{x:Str}{v:Value}:∀{P:List Str}{vs:List Value}{i:Nat}{m:Str→Option Value},P.Nodup→P[i]? = some x→vs[i]? = some v→kindOf x=some .local →
  bindL kindOf (P.zip vs) m x=some v
 | [],_,_,_,_,h,_,_=>by simp at h
 | _::_,[],_,_,_,_,h,_=>by simp at h
 | p::P,w::vs,0,m,nd,h1,h2,hk=>by
  simp at h1 h2; subst h1; subst h2
  show bindL kindOf ((p,w)::P.zip vs) m p=_;unfold bindL;rw [Qkl fun v hv=>(List.nodup_cons.mp nd).1 (List.of_mem_zip hv).1,if_pos hk];simp
 | p::P,w::vs,i+1,m,nd,h1,h2,hk=>by
  show bindL kindOf ((p,w)::P.zip vs) m x=_;unfold bindL;exact Qkm (i:=i) (List.nodup_cons.mp nd).2 (by simpa using h1) (by simpa using h2) hk
theorem Qkz {kindOf:Str→Option NameKind}{x:Str}{v:Value}:∀{P:List Str}{vs:List Value}{i:Nat}{m:Str→Option Value},P.Nodup→P[i]? = some x→vs[i]? = some v→kindOf x≠some .local →
  bindC kindOf (P.zip vs) m x=some v
 | [],_,_,_,_,h,_,_=>by simp at h
 | _::_,[],_,_,_,_,h,_=>by simp at h
 | p::P,w::vs,0,m,nd,h1,h2,hk=>by
  simp at h1 h2; subst h1; subst h2
  show bindC kindOf ((p,w)::P.zip vs) m p=_;unfold bindC;rw [Qkt fun v hv=>(List.nodup_cons.mp nd).1 (List.of_mem_zip hv).1,if_neg hk];simp
 | p::P,w::vs,i+1,m,nd,h1,h2,hk=>by
  show bindC kindOf ((p,w)::P.zip vs) m x=_;unfold bindC;exact Qkz (i:=i) (List.nodup_cons.mp nd).2 (by simpa using h1) (by simpa using h2) hk
def start (N:List Str) (vs:List V):St:=vs.map some++List.replicate (N.length - vs.length) none
def Qge (CX:CXT) (P:Program) (w:World) (K:PySem.W.Frag) (mg:Str→Option Value) (base:Heap) (N:List Str) (qual:Str) (scope:Scope) (f:Addr) (cd:Value) (A:Around) (outer:List Env) (s:Shared) (H:Hp) (E:XK):Cx where
 prog:=P
 w:=w
 K:=K
 mg:=mg
 base:=base
 A:=A.deeper (envOfC qual scope s.heap.objs.size f cd)
 N:=N
 s₀:=s
 H₀:=H
 env:=envOfC qual scope s.heap.objs.size f cd
 outer:=outer
 stack:=envOfC qual scope s.heap.objs.size f cd::outer
 ex:=[]
 calm:=true
 fn:=fun _=>true
 pn:=[]
 xe:=fun e s'=>wpAny (model P w) (A.deeper (envOfC qual scope s.heap.objs.size f cd)) (leaving (envOfC qual scope s.heap.objs.size f cd) e) (fun _ s''=>CX outer H s E e s'') (fun e' s''=>CX outer H s E e' s'') s'
theorem QlW {sc:Scope}{n:Nat}{x:Str} (h:sc.names.lookup x=some .cell):∃c,(cellsFrom n sc.names []).lookup x=some c:=by
 have q:=PySem.W.cellsFrom_some sc.names n [] (.inl h);exact Option.isSome_iff_exists.mp q
theorem QoI {CX:CXT}{P:Program}{w:World}{K:PySem.W.Frag}{mg:Str→Option Value}{base:Heap}{N ps:List Str}{qual:Str}{scope:Scope}{f:Addr}{cd:Value}{A:Around}{outer:List Env}{s s1:Shared}{H:Hp}{E:XK}{us:List Value}{vs:List V}
  (S:QaR N ps scope) (hd:A.handled=none) (e0:QhP P w K mg base A outer s H) (hl:vs.length=ps.length) (r:QaG vs us)
  (x:InCallC s s.heap.objs.size (bindL (envOfC qual scope s.heap.objs.size f cd).kindOf (ps.zip us) fun _=>none) (cellsFrom (s.heap.objs.size+1) scope.names []) (bindC (envOfC qual scope s.heap.objs.size f cd).kindOf (ps.zip us) fun _=>none) s1) :
  Inv (Qge CX P w K mg base N qual scope f cd A outer s H E) [] (start N vs) H s1:=by
 have hpl:ps.length≤N.length:=by have:=congrArg List.length S.pre; rw [List.length_take] at this; omega
 obtain ⟨h1,tk,rfl,hk⟩:=x.done
 have noA:∀b:Addr,b∉(Qge CX P w K mg base N qual scope f cd A outer s H E).ex:=fun b z=>absurd (show b∈([]:List Addr) from z) (by simp)
 refine ⟨⟨e0.mod,S.kind,rfl,rfl,zb _,fun y z c h1 h2=>?_,fun y hy=>?_,fun y c _ h=>?_,fun _=>hd,Around.frames_deeper e0.frames,.inr ⟨rfl,rfl⟩,fun b z=>absurd z (noA b),e0.bs,e0.bsz,fun b _ _=>noA b,fun b z=>absurd z (noA b),e0.funs,e0.frf⟩,
  rfl,e0.bare,Un.kept hk,⟨_,x.toInCall.ns,fun i y v h1 h2 h3=>?_⟩,fun y c h=>⟨_,x.cell y c h⟩,e0.hok.fresh (zb _),fun y c h=>?_,fun p hp=>absurd (show p∈([]:List (Addr×Obj)) from hp) (by simp),e0.hok.kept hk,?_⟩
 ·exact name_of_addr x.apart (PySem.mem_of_lookup h1) (PySem.mem_of_lookup h2)
 ·have hy:scope.names.lookup y=some .cell∨scope.names.lookup y=some .free:=hy
  rcases hy with hy | hy
  ·exact QlW hy
  ·exact absurd rfl (S.nofree _ (PySem.mem_of_lookup hy))
 ·exact Nat.le_of_lt (x.above y c (PySem.mem_of_lookup h))
 ·have hi:i < vs.length:=by
   unfold start at h2
   by_cases hi:i < vs.length
   ·exact hi
   ·rw [zE (by simpa using hi)] at h2;rw [List.getElem?_replicate] at h2
    split at h2 <;> cases h2
  have ha:vs[i]? = some v:=by
   unfold start at h2;rw [zr (by simpa using hi),zm] at h2
   cases e:vs[i]? with
   | none=>rw [e] at h2; cases h2
   | some a=>rw [e] at h2; cases h2; rfl
  obtain ⟨u,hu,rv⟩:=r.get ha
  have hp:ps[i]? = some y:=by
   rw [←S.pre,List.getElem?_take_of_lt (by omega)]; exact h1
  have ndP:ps.Nodup:=by rw [←S.pre]; exact S.nd.sublist (List.take_sublist _ _)
  refine ⟨u,rv,?_⟩
  rcases S.par y (zx hp) with k | k
  ·exact .inl ⟨k,Qkm ndP hp hu k⟩
  ·obtain ⟨c,e⟩:=QlW (n:=s.heap.objs.size+1) k;refine .inr ⟨.inl k,c,e,?_⟩;have q:=x.cell y c e;rw [Qkz ndP hp hu (by show scope.names.lookup y≠_; rw [k]; decide)] at q;exact q
 ·exact e0.hok.fresh (Nat.le_of_lt (x.above y c (PySem.mem_of_lookup h)))
 ·unfold start;show _=N.length;rw [zg,zd,List.length_replicate];omega
theorem QvG {CX:CXT}{P:Program}{w:World}{K:PySem.W.Frag}{mg:Str→Option Value}{base:Heap}{k:Nat}{f:Addr}{name qual:Str}{params:Arguments}{body:List Stmt}{scope:Scope}{dV kV doc pm cdv ct oc:Value}{an od:Option Addr}
  {osl:Array (Option Value)}{N ps:List Str}{sp:Sp} (lk:K.lookup f=some ⟨oc,od,.func (PySem.W.fnOf name qual params body scope dV kV doc pm an cdv ct),osl⟩) (hcd:PySem.W.codeIn K cdv qual=true) (S:QaR N ps scope)
  (len:∀vs H Q E,sp vs H Q E→vs.length=ps.length)
  (hbody:∀(A:Around) (outer:List Env) (s:Shared) (H:Hp) (vs:List V) (Q:VK) (E:XK),Qa6 k (A.deeper (envOfC qual scope s.heap.objs.size f cdv))→sp vs H Q E →
   ∃t,PSs (Qge CX P w K mg base N qual scope f cdv A outer s H E) body t∧t { nx:=fun _ H'=>Q .non H',rt:=Q } (start N vs) H) :
  QcV P w K mg base CX (k+1) f (PySem.W.fnOf name qual params body scope dV kV doc pm an cdv ct) ps sp:=by
 refine ⟨len,fun A outer s H args us vs Q E hr e0 hb r hsp=>?_⟩;have hl:=len _ _ _ _ hsp
 have KX:K.In s.heap:=e0.mod.kin.keeps fun b o e=>(e0.bs b o e).1
 have lim:s.heap.NoLimit:=e0.mod.nolimit.keeps fun b o e=>(e0.bs b o e).1
 have hkind:∀y∈ps.zip us,scope.names.lookup y.1=some .local∨(scope.names.lookup y.1=some .cell∧((cellsFrom (s.heap.objs.size+1) scope.names []).lookup y.1).isSome=true):=fun ⟨n,v⟩ hy=>by
  rcases S.par n (List.of_mem_zip hy).1 with q | q
  ·exact .inl q
  ·exact .inr ⟨q,PySem.W.cellsFrom_some _ _ _ (.inl q)⟩
 refine codeAny_call_function hr.depth (KX _ _ lk) rfl S.co S.gen rfl (PySem.W.codeRec_of KX hcd) (hb _ _ _ _ ?_)
 refine wpAny_newFunctionEnv_cells S.kind hkind fun env he s1 x=>?_
 subst he;refine ⟨lim.keeps x.toInCall.keep,codeAny_func ?_⟩;obtain ⟨t,ht,hq⟩:=hbody A outer s H vs Q E (hr.deeper _) hsp;have I:Inv (Qge CX P w K mg base N qual scope f cdv A outer s H E) [] (start N vs) H s1:=QoI S hr.hd e0 hl r x
 refine zS (ht [] s1 (start N vs) H _ I hq) (fun fl s' hs=>?_) fun e s' hs=>hs
 have fin:∀{σ':St}{H':Hp}{v:V}{u:Value},Inv (Qge CX P w K mg base N qual scope f cdv A outer s H E) [] σ' H' s'→RelV v u→Q v H'→CE outer P w H s Q u s' :=
  fun {σ' H' v u} J rv q=>⟨v,H',J.os,J.bare,J.base,J.hok,rv,q⟩
 cases fl with
 | ret u =>
  obtain ⟨v,σ',H',J,rv,q⟩:=hs;exact fin J rv q
 | next =>
  obtain ⟨σ',H',J,q⟩:=hs;exact fin (v:=V.non) (u:=Value.none) J rfl q
 | brk =>
  obtain ⟨_,_,_,q⟩:=hs;exact False.elim q
 | cont =>
  obtain ⟨_,_,_,q⟩:=hs;exact False.elim q
section
variable {X:Cx}{x:Str}{p pos:Pos}{e:Expr}{es:List Expr}{t:TA}{id T:String}{r:List V→Hp→VK→Prop}
def tCB (r:List V→Hp→VK→Prop) (t:TA):TE:=fun σ H Q=>t σ H fun vs H1=>r vs H1 Q
theorem Ql0 (hc:Qgg X (.builtin id) r) (hg:Gl X x) (hm:X.mg x=none) (hv:bootBuiltins x=some (.builtin id)) (ha:PA X (e::es) t) (hn:x≠"__name__":=by decide) (hdb:(x == ("__debug__":Str))=false:=by decide)
  (he:starEach (e::es) X.env=(false,eval e X.env)::starEach es X.env:=by rfl) (hpl:(backTo pos (starEach es X.env)).any (·.1)=false:=by rfl):PE X (.Call (.Name x p) (e::es) [] pos) (tCB r t):=by
 intro pins s σ H Q I h;refine wpAny_Call_Name_kw (QdJ I hg hm hv ?_ hn hdb);exact PyProof.Rows.callWith_builtin1 (thn (ha pos pins s σ H _ I h) fun us s1 ⟨vs,H1,I1,r1,q1⟩=>hc pins s1 σ H1 vs us Q I1 r1 q1) he hpl
theorem Qpa (hc:Qgg X (.type T) r) (hg:Gl X x) (hm:X.mg x=none) (hv:bootBuiltins x=some (.type T)) (ha:PA X (e::es) t) (hn:x≠"__name__":=by decide) (hdb:(x == ("__debug__":Str))=false:=by decide)
  (he:starEach (e::es) X.env=(false,eval e X.env)::starEach es X.env:=by rfl) (hpl:(backTo pos (starEach es X.env)).any (·.1)=false:=by rfl):PE X (.Call (.Name x p) (e::es) [] pos) (tCB r t):=by
 intro pins s σ H Q I h;refine wpAny_Call_Name_kw (QdJ I hg hm hv ?_ hn hdb);exact PyProof.Rows.callWith_type1 (thn (ha pos pins s σ H _ I h) fun us s1 ⟨vs,H1,I1,r1,q1⟩=>hc pins s1 σ H1 vs us Q I1 r1 q1) he hpl
end
end L2
namespace HT
open PySem PyProof.Rows
section
open PySem.SeqAt
open PySem.AutoSeq1 (wpAny_loadPart')
open PySem.MeetsSeq PySem.MeetsSeq2 PySem.MeetsSeq3
end
section
variable {prog:Program}{w:World}{A:Around}{E:Value→Shared→Prop}{s:Shared}
theorem cat_tup {t b:Addr}{vs ws:List Value}{Q:Value→Shared→Prop} (ht:IsTup s.heap t vs.toArray) (hb:IsTup s.heap b ws.toArray) (hv:vs≠[])
  (h1:ws = []→Q (.ref t) s) (h2:ws≠[]→Q (.ref s.heap.objs.size) { s with heap:=s.heap.push { cls:=.type "tuple",data:=.seq (vs++ws).toArray } })
  (hsz:vs.length+ws.length≤sizeLine):wpAny (model prog w) A (binaryOp .Add (.ref t) (.ref b)) Q E s:=by
 obtain ⟨⟨cls,dd,data,sl⟩,ho,hc,n,hd⟩:=id ht;obtain ⟨⟨cls2,dd2,data2,sl2⟩,ho2,hc2,n2,hd2⟩:=id hb;simp only at hc hd hc2 hd2;subst hc hd hc2 hd2
 have e:vs.toArray++ws.toArray=(vs++ws).toArray:=by simp
 by_cases hw:ws = []
 ·exact concat_meets ⟨_,ho,rfl⟩ ⟨_,ho2,rfl⟩ noFill_tuple_add seq_tuple_add PySem.F.slot_tuple_add PySem.F.entry_tuple_add (PySem.F.args_tuple_add_2 _ _)
   (tuple_addW1 t b vs.toArray ws.toArray n n2 dd dd2 sl sl2 (by simpa using hv) (by simp [hw])) ⟨ho,ho2,h1 hw⟩
 ·refine concat_meets ⟨_,ho,rfl⟩ ⟨_,ho2,rfl⟩ noFill_tuple_add seq_tuple_add PySem.F.slot_tuple_add PySem.F.entry_tuple_add (PySem.F.args_tuple_add_2 _ _)
   (tuple_addW2 t b vs.toArray ws.toArray n n2 dd dd2 sl sl2 (by simpa using hv) (by simpa using hw) (by rw [zt,zt]; exact hsz)) ⟨ho,ho2,?_⟩
  rw [e];exact h2 hw
def sIx (n d:Nat):Option Int→Nat
 | none=>d
 | some v=>if v < 0 then (v+(n:Int)).toNat else min v.toNat n
theorem sIx_none (n d:Nat):sIx n d none=d:=rfl
theorem sIx_nat (n d k:Nat):sIx n d (some (k:Int))=min k n:=by
 show (if (k:Int) < 0 then ((k:Int)+(n:Int)).toNat else min (k:Int).toNat n)=min k n;rw [if_neg (by omega),Int.toNat_natCast]
theorem sIx_le (n d:Nat) (hd:d≤n) (o:Option Int):sIx n d o≤n:=by
 cases o with
 | none=>exact hd
 | some v =>
  show (if v < 0 then (v+(n:Int)).toNat else min v.toNat n)≤n
  by_cases hv:v < 0
  ·rw [if_pos hv]; omega
  ·rw [if_neg hv]; exact Nat.min_le_right _ _
theorem QmM (v:Int) (n d:Nat):(if v < 0 then max (v+(n:Int)) 0 else min v (n:Int))=((sIx n d (some v):Nat):Int):=by
 show (if v < 0 then max (v+(n:Int)) 0 else min v (n:Int))=(((if v < 0 then (v+(n:Int)).toNat else min v.toNat n):Nat):Int)
 by_cases hv:v < 0
 ·simp only [if_pos hv]; omega
 ·simp only [if_neg hv]; omega
theorem Qnv (lo hi:Option Int) (n:Nat):Builtin.Slice.sliceAdjust lo hi 1 (n:Int)=(((sIx n 0 lo:Nat):Int),((sIx n n hi:Nat):Int)):=by
 have h1:¬((1:Int) < 0):=by omega
 unfold Builtin.Slice.sliceAdjust;simp only [h1,if_false];refine Prod.ext ?_ ?_
 ·cases lo with
  | none=>rfl
  | some v=>exact QmM v n 0
 ·cases hi with
  | none=>rfl
  | some v=>exact QmM v n n
theorem QnN (i j:Nat):Builtin.Slice.slicePlaces (i:Int) (j:Int) 1=j - i:=by
 unfold Builtin.Slice.slicePlaces
 have h1:(1:Int) > 0:=by omega
 simp only [h1,if_true,Int.ediv_one]
 split <;> omega
theorem QjE {v:Value}{o:Option Int}{Q:Option Int→Shared→Prop} (p:IsPart v o) (h:Q o s):wpAny (model prog w) A (Builtin.Slice.slicePartIndex v) Q E s:=by
 cases p with
 | none=>exact slicePart_none h
 | int i t=>exact slicePart_int h
theorem sliceApplied_gen {sl:Addr}{vl vu:Value}{lo hi:Option Int}{n:Nat}{Q:Int×Int×Nat→Shared→Prop} (hs:s.heap.IsSliceOf sl vl vu .none) (pl:IsPart vl lo) (pu:IsPart vu hi)
  (h:Q (((sIx n 0 lo:Nat):Int),1,sIx n n hi - sIx n 0 lo) s):wpAny (model prog w) A (Builtin.Slice.sliceApplied (.ref sl) (pure (n:Int))) Q E s:=by
 obtain ⟨os,hos,hcs,hds⟩:=id hs;unfold Builtin.Slice.sliceApplied Builtin.Slice.sliceFields;refine za (za (wpAny_field hos hds (x:=vl) rfl (za (wpAny_field hos hds (x:=vu) rfl (za (wpAny_field hos hds (x:=.none) rfl (zc ?_)))))));refine za (slicePart_none ?_);show wpAny _ _ (if ((1:Int) == 0)=true then _ else _) _ _ s;rw [if_neg (by decide)];refine za (QjE pl (za (QjE pu (za (zc ?_)))));show wpAny _ _ (match Builtin.Slice.sliceAdjust lo hi 1 (n:Int) with | (lo,hi)=>pure (lo,(1:Int),Builtin.Slice.slicePlaces lo hi 1)) _ _ s;rw [Qnv lo hi n];show wpAny _ _ (pure (((sIx n 0 lo:Nat):Int),(1:Int),Builtin.Slice.slicePlaces ((sIx n 0 lo:Nat):Int) ((sIx n n hi:Nat):Int) 1)) _ _ s
 rw [QnN];exact zc h
theorem QpZ (xs:Array Value) (i k:Nat):((List.range k).filterMap fun (m:Nat)=>xs[((i:Int)+(m:Int) * 1).toNat]?).toArray=((xs.toList.drop i).take k).toArray:=by
 have e:(fun (m:Nat)=>xs[((i:Int)+(m:Int) * 1).toNat]?)=fun m=>xs[i+m]?:=by
  funext m
  have:((i:Int)+(m:Int) * 1).toNat=i+m:=by omega
  rw [this]
 rw [e]
 have:=pick_run xs i k
 rw [List.filterMap_map] at this
 have e2:((fun x=>xs[x]?) ∘ fun x=>i+x)=fun m=>xs[i+m]?:=rfl
 rw [e2] at this;rw [this]
theorem getItem_tuple_cut {t sl:Addr}{items:Array Value}{vl vu:Value}{lo hi:Option Int}{Q:Value→Shared→Prop} (ht:IsTup s.heap t items) (hs:s.heap.IsSliceOf sl vl vu .none) (pl:IsPart vl lo) (pu:IsPart vu hi)
  (hw:¬(sIx items.size 0 lo=0∧sIx items.size items.size hi=items.size))
  (h:Q (.ref s.heap.objs.size) { s with heap:=s.heap.push { cls:=.type "tuple",data:=.seq ((items.toList.drop (sIx items.size 0 lo)).take (sIx items.size items.size hi - sIx items.size 0 lo)).toArray } })
  (hsz:items.size≤sizeLine):wpAny (model prog w) A (getItem (.ref t) (.ref sl)) Q E s:=by
 have htake:sizeOk (.seq ((items.toList.drop (sIx items.size 0 lo)).take (sIx items.size items.size hi - sIx items.size 0 lo)).toArray):=by
  show ((items.toList.drop (sIx items.size 0 lo)).take (sIx items.size items.size hi - sIx items.size 0 lo)).toArray.size≤sizeLine;rw [zt,List.length_take,List.length_drop,Array.length_toList];omega
 have hj:sIx items.size items.size hi≤items.size:=sIx_le _ _ (zb _) hi;obtain ⟨os,hos,hcs,hds⟩:=id hs;have hTs:s.TypeIs (.ref sl) "slice":=⟨os,hos,hcs⟩;unfold getItem
 try with_reducible refine zT ?_
 first | refine za (zc ?_) | skip
 refine za (wpAny_sequenceKey ht.typeIs (by decide) ?_)
 refine za (wpAny_callSpecial?_slot (name:=Str.ofString "__getitem__") ht.typeIs PyProof.Rows.slot_tuple_getitem
  (wpAny_call_entry PyProof.Rows.slot_tuple_getitem ht.typeIs entry_tuple_getitem ?_ (args_tuple_getitem _ _)))
 show wpAny _ _ (Builtin.Tuple.tupleItemsOf (.ref t) >>= _) _ _ s;refine za (tupleItemsOf_ ht ?_);refine za (wpAny_typeOf hTs ?_);rw [if_pos (by decide)];refine za (sliceApplied_gen hs pl pu ?_)
 have hno:¬((((sIx items.size 0 lo:Nat):Int) == 0&&(1:Int) == 1&&(sIx items.size items.size hi - sIx items.size 0 lo) == items.size)=true):=by
  intro q;rw [zv,zv] at q;have q1:((sIx items.size 0 lo:Nat):Int)=0:=eq_of_beq q.1.1;have q2:sIx items.size items.size hi - sIx items.size 0 lo=items.size:=eq_of_beq q.2;exact hw ⟨by omega,by omega⟩
 show wpAny _ _ (if (((sIx items.size 0 lo:Nat):Int) == 0&&(1:Int) == 1&&(sIx items.size items.size hi - sIx items.size 0 lo) == items.size)=true then _ else _) _ _ s;rw [if_neg hno,QpZ]
 first
  | exact za (m:=Builtin.Tuple.tupleExact _) (wpAny_newObj_type (zc ⟨_,rfl,zc h⟩) htake)
  | exact za (m:=Builtin.Tuple.tupleExact _) (wpAny_newObj_type (za (zc (zc ⟨_,rfl,zc h⟩))) htake)
  | exact za (za (m:=Builtin.Tuple.tupleExact _) (wpAny_newObj_type (zc (zc ⟨_,rfl,zc h⟩)) htake))
  | exact za (za (m:=Builtin.Tuple.tupleExact _) (wpAny_newObj_type (zc ⟨_,rfl,zc h⟩) htake))
end
end HT
namespace L2
open PySem PySem.Spec PyProof.Rows
abbrev TO:=St→Hp→(Option Int→Hp→Prop)→Prop
def PO (X:Cx) (e:Option Expr) (t:TO):Prop :=
 ∀(pins:List (Addr×Obj)) (s:Shared) (σ:St) (H:Hp) (Q:Option Int→Hp→Prop),Inv X pins σ H s→t σ H Q →
  wpAny (model X.prog X.w) X.A (evalPart e X.env) (fun u s'=>∃o H',Inv X pins σ H' s'∧IsPart u o∧Q o H') X.xe s
def QsF:TO:=fun _ H Q=>Q none H
def Qvc (t:TE):TO:=fun σ H Q=>t σ H fun x H1=>∃i,x = .int i∧Q (some i) H1
section
variable {X:Cx}{e:Expr}{te:TE}{lo hi:Option Expr}{tl th:TO}{pos p2:Pos}
theorem Qss:PO X none QsF:=by
 intro pins s σ H Q I h;rw [evalPart_none];exact zc ⟨none,H,I,.none,h⟩
theorem Qr9 (h:PE X e te):PO X (some e) (Qvc te):=by
 intro pins s σ H Q I hw;rw [evalPart_some]
 refine thn (h pins s σ H _ I hw) fun u s1 ⟨x,H1,I1,r1,q1⟩=>?_
 obtain ⟨i,rfl,q⟩:=q1;obtain ⟨t,rfl⟩:=r1;exact ⟨some i,H1,I1,.int i t,q⟩
def SlR (X:Cx) (r:V→Option Int→Option Int→Hp→VK→Prop):Prop :=
 ∀(pins:List (Addr×Obj)) (s:Shared) (σ:St) (H:Hp) (x:V) (v vl vu:Value) (lo hi:Option Int) (sl:Addr) (Q:VK),Inv X pins σ H s→RelV x v→s.heap.IsSliceOf sl vl vu .none→IsPart vl lo→IsPart vu hi→r x lo hi H Q →
  ∃T id,typeLookup (.type T) "__getitem__" = pure (some (.builtin id))∧s.TypeIs v T∧wpAny (model X.prog X.w) X.A (getItem v (.ref sl)) (EP X pins σ Q) X.xe s
def tSl (r:V→Option Int→Option Int→Hp→VK→Prop) (te:TE) (tl th:TO):TE:=fun σ H Q=>te σ H fun x H1=>tl σ H1 fun l H2=>th σ H2 fun u H3=>r x l u H3 Q
theorem QqA {r:V→Option Int→Option Int→Hp→VK→Prop} (hr:SlR X r) (he:PE X e te) (hl:PO X lo tl) (hu:PO X hi th):PE X (.Subscript e (.Slice lo hi none p2) pos) (tSl r te tl th):=by
 intro pins s σ H Q I h;refine Subscript_ (thn (he pins s σ H _ I h) fun v s1 ⟨x,H1,I1,r1,q1⟩=>?_);refine wpAny_Slice (thn (hl pins s1 σ H1 _ I1 q1) fun vl s2 ⟨l,H2,I2,pl,q2⟩=>thn (hu pins s2 σ H2 _ I2 q2) fun vu s3 ⟨u,H3,I3,pu,q3⟩=>?_);rw [evalPart_none];refine zc ?_
 have I4:Inv X pins σ H3 { s3 with heap:=s3.heap.push { cls:=.type "slice",data:=.fields #[vl,vu,.none] } }:=I3.kept (t':=s3.toks) fun b ob q=>zy _ q
 obtain ⟨T,id,hT,ht,hg⟩:=hr pins { s3 with heap:=s3.heap.push { cls:=.type "slice",data:=.fields #[vl,vu,.none] } } σ H3 x v vl vu l u s3.heap.objs.size Q I4 r1 (Heap.IsSliceOf.new ..) pl pu q3;show wpAny (model X.prog X.w) X.A (subscriptTail e (.Slice lo hi none p2) v (.ref s3.heap.objs.size)) (EP X pins σ Q) X.xe { s3 with heap:=s3.heap.push { cls:=.type "slice",data:=.fields #[vl,vu,.none] } };exact tail_any (ops:=[.ref s3.heap.objs.size,v]) ht hT hg (by with_unfolding_all rfl)
def Qhg (xs:List V) (lo hi:Option Int):List V:=(xs.drop (HT.sIx xs.length 0 lo)).take (HT.sIx xs.length xs.length hi - HT.sIx xs.length 0 lo)
theorem QiF (xs:List V) (lo hi:Option Int):(Qhg xs lo hi).length≤xs.length:=by
 unfold Qhg;rw [List.length_take,List.length_drop];omega
def Qwv (K:PySem.W.Frag):V→Option Int→Option Int→Hp→VK→Prop:=fun x lo hi H Q=>∃a xs,x = .ref a∧SqT K H a xs ∧
 ¬(HT.sIx xs.length 0 lo=0∧HT.sIx xs.length xs.length hi=xs.length)∧∀p,H p=none→Q (.ref p) (upd H p (.tup (Qhg xs lo hi)))
theorem QtP:SlR X (Qwv X.K):=by
 intro pins s σ H x v vl vu lo hi sl Q I rx hs pl pu h;obtain ⟨a,xs,rfl,hx,hw,q⟩:=h;cases rx;obtain ⟨its,r,ht,hz⟩:=I.tuple hx
 have hlen:its.toArray.size=xs.length:=by rw [zt]; exact r.length.symm
 refine ⟨"tuple",_,PyProof.Rows.slot_tuple_getitem.lookup,ht.typeIs,?_⟩;refine HT.getItem_tuple_cut ht hs pl pu (by rw [hlen]; exact hw) ?_ (by rw [hlen]; exact hz);rw [hlen];refine ⟨.ref s.heap.objs.size,_,I.laid (t':=s.toks) (o:=.tup (Qhg xs lo hi)) (fun b ob q=>zy _ q) (zb _) ?_,rfl,q _ (I.hok.fresh (zb _))⟩;exact ⟨zD (QiF xs lo hi) hz,_,(r.drop (HT.sIx xs.length 0 lo)).take (HT.sIx xs.length xs.length hi - HT.sIx xs.length 0 lo),IsTup.new _ _⟩
def Qve (K:PySem.W.Frag):R2:=fun x y H Q=>∃a b xs ys,x = .ref a∧y = .ref b∧SqT K H a xs∧SqT K H b ys∧xs≠[]∧xs.length+ys.length≤sizeLine ∧
 (ys = []→Q (.ref a) H)∧(ys≠[]→∀p,H p=none→Q (.ref p) (upd H p (.tup (xs++ys))))
theorem QaG.nil_iff {xs:List V}{us:List Value} (r:QaG xs us):us = []↔xs = []:=by
 cases r with
 | nil=>simp
 | cons _ _=>simp
theorem Qsw:OpR X (binaryOp .Add) (Qve X.K):=by
 intro pins s σ H x y v u Q I rx ry h;obtain ⟨a,b,xs,ys,rfl,rfl,ha,hb,hx,hz,q1,q2⟩:=h;cases rx;cases ry;obtain ⟨its,r1,p1,_⟩:=I.tuple ha;obtain ⟨its2,r2,p2,_⟩:=I.tuple hb;refine HT.cat_tup p1 p2 (fun z=>hx (r1.nil_iff.mp z)) (fun z=>⟨.ref a,H,I,rfl,q1 (r2.nil_iff.mp z)⟩) (fun z=>?_) (by rw [←r1.length,←r2.length]; exact hz);refine ⟨.ref s.heap.objs.size,_,I.laid (t':=s.toks) (o:=.tup (xs++ys)) (fun b ob q=>zy _ q) (zb _) ?_,rfl,q2 (fun w=>z (r2.nil_iff.mpr w)) _ (I.hok.fresh (zb _))⟩;exact ⟨by rw [zg]; exact hz,_,r1.append r2,IsTup.new _ _⟩
end
def ixN (n:Nat) (i:Int):Option Nat:=if 0≤i then (if i < n then some i.toNat else none) else if -(n:Int)≤i then some (i+n).toNat else none
def atI {α:Type} (xs:List α) (i:Int):Option α:=(ixN xs.length i).bind fun j=>xs[j]?
theorem Qmz {n:Nat}{i:Int}{j:Nat} (h:ixN n i=some j):seqIndex? i n=some j∧j < n∧-(n:Int)≤i∧i < n:=by
 unfold ixN at h
 by_cases h0:0≤i
 ·rw [if_pos h0] at h
  by_cases h1:i < n
  ·rw [if_pos h1] at h;have e:i.toNat=j:=zF h;exact ⟨by rw [seqIndex_of h0 h1,e],by omega,by omega,h1⟩
  ·rw [if_neg h1] at h; cases h
 ·rw [if_neg h0] at h
  by_cases h1:-(n:Int)≤i
  ·rw [if_pos h1] at h;have e:(i+n).toNat=j:=zF h;exact ⟨by rw [seqIndex_neg (by omega) h1,e],by omega,h1,by omega⟩
  ·rw [if_neg h1] at h; cases h
theorem QjU {α:Type}{xs:List α}{i:Int}{v:α} (h:atI xs i=some v):∃j,seqIndex? i xs.length=some j∧xs[j]? = some v∧j < xs.length∧-(xs.length:Int)≤i∧i < xs.length:=by
 unfold atI at h
 cases e:ixN xs.length i with
 | none=>rw [e] at h; cases h
 | some j =>
  rw [e] at h;obtain ⟨h1,h2,h3,h4⟩:=Qmz e;exact ⟨j,h1,h,h2,h3,h4⟩
def Qiy (b:Expr):Prop:=∀o i,subscripted b false o i=operate [o,i] (getItem o i)
def IxR (X:Cx) (r:R2):Prop :=
 ∀(value slice:Expr) (pins:List (Addr×Obj)) (s:Shared) (σ:St) (H:Hp) (x y:V) (v u:Value) (Q:VK),Inv X pins σ H s→RelV x v→RelV y u→r x y H Q →
  subscripted slice false v u=operate [v,u] (getItem v u)→wpAny (model X.prog X.w) X.A (subscriptTail value slice v u) (EP X pins σ Q) X.xe s
def MtR (X:Cx) (id:String) (r:V→List V→Hp→VK→Prop):Prop :=
 ∀(pins:List (Addr×Obj)) (s:Shared) (σ:St) (H:Hp) (x:V) (xs:List V) (v:Value) (us:List Value) (Q:VK),Inv X pins σ H s→RelV x v→QaG xs us→r x xs H Q →
  wpAny (model X.prog X.w) X.A (call (.builtin id) (v::us)) (EP X pins σ Q) X.xe s
section
variable {X:Cx}{a b:Expr}{ta tb:TE}{pos:Pos}
theorem QvC {r:R2} (hr:IxR X r) (ha:PE X a ta) (hb:PE X b tb) (hs:Qiy b):PE X (.Subscript a b pos) (tOp r ta tb):=by
 intro pins s σ H Q I h;exact Subscript_ (Qp1 ha hb I h fun v u s2 x y H2 I2 rx ry q=>hr a b pins s2 σ H2 x y v u Q I2 rx ry q (hs _ _))
def Qwt (K:PySem.W.Frag):R2:=fun x y H Q=>∃p xs i v,x = .ref p∧y = .int i∧SqL K H p xs∧atI xs i=some v∧Q v H
def Qv0 (K:PySem.W.Frag):R2:=fun x y H Q=>∃p xs i v,x = .ref p∧y = .int i∧SqT K H p xs∧atI xs i=some v∧Q v H
def Qv4:R2:=fun x y H Q=>∃z i c,x = .str z∧y = .int i∧z.length≤sizeLine∧atI z.cps.toList i=some c∧Q (.str ⟨#[c]⟩) H
theorem Qru:IxR X (Qwt X.K):=by
 intro value slice pins s σ H x y v u Q I rx ry h hs;obtain ⟨p,xs,i,z,rfl,rfl,hq,he,q⟩:=h;cases rx;obtain ⟨t,rfl⟩:=ry;obtain ⟨its,r,pl,hz⟩:=I.list hq;obtain ⟨j,h1,h2,h3,h4,h5⟩:=QjU he;obtain ⟨w,ew,rw'⟩:=r.get h2;have hl:=r.length;have hn:=Qgy;have fin:EP X pins σ Q w s:=⟨z,H,I,rw',q⟩
 by_cases h0:0≤i
 ·have hj:i.toNat=j:=by
   rw [seqIndex_of h0 h5] at h1;exact zF h1
  exact item_listR pl.isList h0 (by omega) (by rw [hj]; simpa using ew) fin hs
 ·have hj:(i+(its.toArray.size:Int)).toNat=j:=by
   rw [seqIndex_neg (by omega) h4] at h1;rw [zt,←hl];exact zF h1
  exact subscriptTail_builtinR (x:=w) pl.isList.typeIs slot_list_getitem.lookup
   (wpAny_getItem_list_neg (Q:=fun r s'=>r=w∧EP X pins σ Q r s') pl.isList (by omega) (by rw [zt] <;> omega) (by omega) (by rw [hj]; simpa using ew) ⟨rfl,fin⟩) hs
theorem Qta:IxR X (Qv0 X.K):=by
 intro value slice pins s σ H x y v u Q I rx ry h hs;obtain ⟨p,xs,i,z,rfl,rfl,hq,he,q⟩:=h;cases rx;obtain ⟨t,rfl⟩:=ry;obtain ⟨its,r,pl,hz⟩:=I.tuple hq;obtain ⟨j,h1,h2,h3,h4,h5⟩:=QjU he;obtain ⟨w,ew,rw'⟩:=r.get h2;have hl:=r.length;have hn:=Qgy;have fin:EP X pins σ Q w s:=⟨z,H,I,rw',q⟩;exact subscriptTail_builtinR (x:=w) pl.typeIs slot_tuple_getitem.lookup
  (getItem_tuple (j:=j) (Q:=fun r s'=>r=w∧EP X pins σ Q r s') pl (by omega) (by omega) (by rw [zt,←hl]; exact h1) (by simpa using ew) ⟨rfl,fin⟩) hs
theorem Qs0:IxR X Qv4:=by
 intro value slice pins s σ H x y v u Q I rx ry h hs;obtain ⟨z,i,c,rfl,rfl,hz,he,q⟩:=h;obtain ⟨t,rfl⟩:=rx;obtain ⟨t',rfl⟩:=ry;obtain ⟨j,h1,h2,h3,h4,h5⟩:=QjU he
 have hl:z.cps.toList.length=z.length:=by simp [Str.length]
 rw [hl] at h1 h4 h5;have hn:=Qgy
 exact tail_any (typeIs_str s z t) slot_str_getitem.lookup (getItem_str (c:=c) (by
  have e1:decide (i < -(2 ^ 63:Int))=false:=zk (by omega);have e2:decide (i≥2 ^ 63)=false:=zk (by omega)
  rw [e1,e2,Bool.or_false]) (by rw [h1]; simpa using h2) ⟨.str ⟨#[c]⟩,H,I.tok _,⟨_,rfl⟩,q⟩) hs
theorem Qm4 (its:List Value) (n j:Nat) (u:Value):Obj.mapSeq (·.setIfInBounds j u) { cls:=.type "list",data:=.seq its.toArray n } = { cls:=.type "list",data:=.seq (its.set j u).toArray n }:=by
 simp [Obj.mapSeq]
theorem Inv.lst {pins:List (Addr×Obj)}{σ:St}{H:Hp}{s:Shared}{p:Addr}{xs:List V} (I:Inv X pins σ H s) (h:H p=some (.lst xs)) :
  ∃(its:List Value) (n:Nat),QaG xs its∧s.heap.get? p=some { cls:=.type "list",data:=.seq its.toArray n }∧xs.length≤sizeLine:=by
 obtain ⟨z,its,n,r,e⟩:=I.hok p _ h;exact ⟨its,n,r,e,z⟩
theorem Inv.lstUpd {pins:List (Addr×Obj)}{σ:St}{H:Hp}{s:Shared}{p:Addr}{xs ys:List V}{its its':List Value}{n n':Nat}{f:Obj→Obj} (I:Inv X pins σ H s) (h:H p=some (.lst xs))
  (ho:s.heap.get? p=some { cls:=.type "list",data:=.seq its.toArray n }) (hf:f { cls:=.type "list",data:=.seq its.toArray n } = { cls:=.type "list",data:=.seq its'.toArray n' }) (r:QaG ys its') (hz:ys.length≤sizeLine) (t:Nat) :
  Inv X pins σ (upd H p (.lst ys)) { s with heap:=s.heap.update p f,toks:=t }:=by
 have e:(s.heap.update p f).get? p=some { cls:=.type "list",data:=.seq its'.toArray n' }:=by
  rw [Heap.get?_update_self f ho (by rw [hf] <;> rfl),hf]
 refine I.write (x:=p) (e:=p) (by rw [h]; trivial) (.inl rfl) (fun b u hb q=>(jb _ _ (Ne.symm hb)).trans q) ⟨_,e⟩ ?_;exact ⟨hz,its',n',r,e⟩
def Qvh:V→V→V→Hp→(Hp→Prop)→Prop:=fun o i v H Q=>∃p xs k j,o = .ref p∧i = .int k∧H p=some (.lst xs)∧ixN xs.length k=some j∧Q (upd H p (.lst (xs.set j v)))
theorem set_list:QuE X Qvh:=by
 intro pins s σ H o i v ov iv u Q I ro ri rv h;obtain ⟨p,xs,k,j,rfl,rfl,hp,hj,q⟩:=h;cases ro;obtain ⟨t,rfl⟩:=ri;obtain ⟨its,n,r,ho,hz⟩:=I.lst hp;obtain ⟨h1,h2,h3,h4⟩:=Qmz hj;have hl:=r.length;have hn:=Qgy;have I':Inv X pins σ (upd H p (.lst (xs.set j v))) { s with heap:=s.heap.update p (Obj.mapSeq (·.setIfInBounds j u)) } :=
  I.lstUpd hp ho (Qm4 its n j u) (r.set rv j) (by rw [zN]; exact hz) s.toks
 by_cases h0:0≤k
 ·have hk:k.toNat=j:=by
   rw [seqIndex_of h0 h4] at h1;exact zF h1
  exact PySem.W.ki_setAt ho h0 (by omega) (by rw [zt,←hl]; exact h4) (by rw [hk]; exact ⟨_,I',q⟩)
 ·have hk:(k+(its.toArray.size:Int)).toNat=j:=by
   rw [seqIndex_neg (by omega) h3] at h1;rw [zt,←hl];exact zF h1
  exact PySem.W.ki_setBack ho (by omega) (by rw [zt,←hl]; exact h3) (by omega) (by rw [hk]; exact ⟨_,I',q⟩)
theorem Qh4 (lo hi:Option Int) (n:Nat):(sliceBounds lo hi none n).1=((HT.sIx n 0 lo:Nat):Int)∧(sliceBounds lo hi none n).2.1=((HT.sIx n n hi:Nat):Int)∧(sliceBounds lo hi none n).2.2=1:=by
 refine ⟨?_,?_,rfl⟩
 ·cases lo with
  | none=>simp [sliceBounds,HT.sIx]
  | some i =>
   simp only [sliceBounds,HT.sIx,Option.getD_none,show (1:Int) > 0 by decide,if_true]
   by_cases h:i < 0
   ·simp only [h,if_true] <;> omega
   ·simp only [h,if_false] <;> omega
 ·cases hi with
  | none=>simp [sliceBounds,HT.sIx]
  | some i =>
   simp only [sliceBounds,HT.sIx,Option.getD_none,show (1:Int) > 0 by decide,if_true]
   by_cases h:i < 0
   ·simp only [h,if_true] <;> omega
   ·simp only [h,if_false] <;> omega
theorem QkF (its:List Value) (lo hi:Option Int):slicePick its.toArray lo hi none=((its.drop (HT.sIx its.length 0 lo)).take (HT.sIx its.length its.length hi - HT.sIx its.length 0 lo)).toArray:=by
 obtain ⟨h1,h2,h3⟩:=Qh4 lo hi its.toArray.size;unfold slicePick;rw [h1,h2,h3]
 simp only [sliceRange_one,pick_run,zt] <;> rfl
def Qwx (K:PySem.W.Frag):V→Option Int→Option Int→Hp→VK→Prop:=fun x lo hi H Q=>∃a xs,x = .ref a∧SqL K H a xs∧∀p,H p=none→Q (.ref p) (upd H p (.lst (Qhg xs lo hi)))
theorem QrK:SlR X (Qwx X.K):=by
 intro pins s σ H x v vl vu lo hi sl Q I rx hs pl pu h;obtain ⟨a,xs,rfl,hx,q⟩:=h;cases rx;obtain ⟨its,r,ht,hz⟩:=I.list hx;have hlen:=r.length;refine ⟨"list",_,slot_list_getitem.lookup,ht.isList.typeIs,?_⟩;refine wpAny_getItem_list_slice ht.isList hs pl pu .none (by simp) ?_ (by rw [zt] <;> omega);rw [QkF,←hlen];refine ⟨.ref s.heap.objs.size,_,I.laid (t':=s.toks) (o:=.lst (Qhg xs lo hi)) (fun b ob q=>zy _ q) (zb _) ?_,rfl,q _ (I.hok.fresh (zb _))⟩;exact ⟨zD (QiF xs lo hi) hz,_,0,(r.drop (HT.sIx xs.length 0 lo)).take (HT.sIx xs.length xs.length hi - HT.sIx xs.length 0 lo),zH _ rfl⟩
def eqV:V→V→Bool
 | .non,.non=>true
 | .bl a,.bl b=>a == b
 | .bl a,.int b=>(if a then 1 else 0) == b
 | .int a,.bl b=>a == (if b then 1 else 0)
 | .int a,.int b=>a == b
 | .str a,.str b=>a == b
 | _,_=>false
theorem Qhz:Qgg X (.type "list") (fun xs H Q=>∃p ys,xs = [.ref p]∧(SqL X.K H p ys∨SqT X.K H p ys)∧∀l,H l=none→Q (.ref l) (upd H l (.lst ys))):=by
 intro pins s σ H xs us Q I r h;obtain ⟨p,ys,rfl,hq,q⟩:=h;obtain ⟨u,rfl,rx⟩:=vals1 r;cases rx;have fin:∀(its:List Value),QaG ys its→ys.length≤sizeLine→∀(h':Heap) (c':Nat),(∀b o',s.heap.get? b=some o'→h'.get? b=some o') →
   h'.get? s.heap.objs.size=some { cls:=.type "list",dict:=none,data:=.seq its.toArray c',slots:=#[] }→EP X pins σ Q (.ref s.heap.objs.size) { s with heap:=h' }:=fun its r' hz h' c' kp e =>
  ⟨.ref s.heap.objs.size,_,I.laid (t':=s.toks) kp (zb _) (show Qbq X.prog X.w _ h' _ (.lst ys) from ⟨hz,its,c',r',e⟩),rfl,q _ (I.hok.fresh (zb _))⟩
 rcases hq with hq | hq
 ·obtain ⟨its,r',pl,hz⟩:=I.list hq;have hlen:=r'.length;obtain ⟨o,ho,hc,n,hd⟩:=pl.isList;exact call_list_seq p (.inl rfl) ho hc hd (fun h' c' kp e=>fin its r' hz h' c' kp e) (by simp only [zt] <;> omega)
 ·obtain ⟨its,r',pl,hz⟩:=I.tuple hq;have hlen:=r'.length;obtain ⟨o,ho,hc,n,hd⟩:=pl;exact call_list_seq p (.inr rfl) ho hc hd (fun h' c' kp e=>fin its r' hz h' c' kp e) (by simp only [zt] <;> omega)
def tyV (K:PySem.W.Frag) (T:String) (x:V) (H:Hp):Prop:=match x with
 | .str _=>T = "str"
 | .int _=>T = "int"
 | .ref p=>(T = "list"∧∃xs,SqL K H p xs)∨(T = "tuple"∧∃o,K.lookup p=some o∧o.cls = .type "tuple"∧o.dict=none) ∨
   (T = "dict"∧((∃kvs,H p=some (.dK kvs))∨∃kvs,H p=some (.dT kvs)))∨(T = "set"∧∃S n,H p=some (.set S n))
 | _=>False
theorem QoM {pins:List (Addr×Obj)}{σ:St}{H:Hp}{s:Shared}{T:String}{x:V}{v:Value} (I:Inv X pins σ H s) (r:RelV x v) (ty:tyV X.K T x H) :
  s.TypeIs v T∧∀a,v = .ref a→∃ob,s.heap.get? a=some ob∧ob.dict=none:=by
 cases x with
 | str z =>
  obtain ⟨t,rfl⟩:=r;cases (show T = "str" from ty);exact ⟨typeIs_str s z t,fun _ e=>nomatch e⟩
 | int i =>
  obtain ⟨t,rfl⟩:=r;cases (show T = "int" from ty);exact ⟨typeIs_int s i t,fun _ e=>nomatch e⟩
 | ref p =>
  cases r
  rcases ty with ⟨rfl,xs,hq⟩ | ⟨rfl,o,hk,hc,hd⟩ | ⟨rfl,hk⟩ | ⟨rfl,S,n,hk⟩
  ·obtain ⟨its,_,pl,_⟩:=I.list hq;refine ⟨pl.isList.typeIs,fun a e=>?_⟩;cases e;obtain ⟨o,n,e,c,hd,_⟩:=pl;exact ⟨o,e,hd⟩
  ·refine ⟨⟨o,I.kIn p o hk,hc⟩,fun a e=>?_⟩;cases e;exact ⟨o,I.kIn _ o hk,hd⟩
  ·have z:∃o,s.heap.get? p=some o∧o.ExactDict:=by
    rcases hk with ⟨kvs,hk⟩ | ⟨kvs,hk⟩
    ·obtain ⟨_,_,_,_,o,_,_,e,ex,_⟩:=I.hok p _ hk;exact ⟨o,e,ex⟩
    ·obtain ⟨_,_,_,_,o,_,_,e,ex,_⟩:=I.hok p _ hk;exact ⟨o,e,ex⟩
   obtain ⟨o,e,ex⟩:=z;refine ⟨⟨o,e,ex.1⟩,fun a e2=>?_⟩;cases e2;exact ⟨o,e,ex.2.1⟩
  ·obtain ⟨o,_,_,_,e,ex,_⟩:=I.hok p _ hk;refine ⟨⟨o,e,ex.1⟩,fun a e2=>?_⟩;cases e2;exact ⟨o,e,ex.2.1⟩
 | _=>exact False.elim ty
def QwO (K:PySem.W.Frag) (T:String) (r:V→List V→Hp→VK→Prop) (to:TE):TE:=fun σ H Q=>to σ H fun x H1=>tyV K T x H1∧r x [] H1 Q
def tBM (K:PySem.W.Frag) (T:String) (r:V→List V→Hp→VK→Prop) (to:TE) (t:TA):TE:=fun σ H Q=>to σ H fun x H1=>tyV K T x H1∧t σ H1 fun xs H2=>r x xs H2 Q
variable {o e:Expr}{es:List Expr}{to:TE}{t:TA}{name:Str}{apos cpos:Pos}{T id:String}{r:V→List V→Hp→VK→Prop}
theorem QpB (pa:PlainAttrs T) (slot:Slot T name id) (hty:typeOf (.builtin id)=pure (.type "method_descriptor")) (hm:MtR X id r) (ho:PE X o to)
  (hbase:attributeBase o name X.env (eval o X.env)=eval o X.env:=by rfl) (hline:(apos.endLine == cpos.line)=true:=by rfl):PE X (.Call (.Attribute o name apos) [] [] cpos) (QwO X.K T r to):=by
 intro pins s σ H Q I h;refine wpAny_Call_method0_late hbase hline (thn (ho pins s σ H _ I h) fun v s1 ⟨x,H1,I1,r1,ty,q1⟩=>?_);obtain ⟨h1,h2⟩:=QoM I1 r1 ty;exact ⟨T,id,pa,slot,hty,h1,h2,Calls.callWith_builtin rfl (PySem.evalArgs_none (hm pins s1 σ H1 x [] v [] Q I1 r1 .nil q1))⟩
theorem QkR (pa:PlainAttrs T) (slot:Slot T name id) (hty:typeOf (.builtin id)=pure (.type "method_descriptor")) (hm:MtR X id r) (ho:PE X o to) (ha:PA X (e::es) t)
  (hbase:attributeBase o name X.env (eval o X.env)=eval o X.env:=by rfl)
  (hfew:((backTo cpos (starEach (e::es) X.env)).all (fun x=>!x.1)&&(backToKw cpos (keywordEach [] X.env)).all (fun x=>x.1.isSome)
   && decide ((e::es).length+([]:List Keyword).length+(if ([]:List Keyword).isEmpty then 0 else 1) < 30))=true:=by rfl)
  (hline:(apos.endLine == cpos.line)=true:=by rfl) (hs:starEach (e::es) X.env=(false,eval e X.env)::starEach es X.env:=by rfl) (hplain:(backTo cpos (starEach es X.env)).any (·.1)=false:=by rfl) :
  PE X (.Call (.Attribute o name apos) (e::es) [] cpos) (tBM X.K T r to t):=by
 intro pins s σ H Q I h;refine wpAny_Call_method_late hbase hfew hline rfl (thn (ho pins s σ H _ I h) fun v s1 ⟨x,H1,I1,r1,ty,q1⟩=>?_);obtain ⟨h1,h2⟩:=QoM I1 r1 ty;refine ⟨T,id,pa,slot,hty,h1,h2,?_⟩;have hA:=ha cpos pins s1 σ H1 _ I1 q1;rw [hs] at hA ⊢;refine Calls.callWith_builtin (by show (false || (backTo cpos (starEach es X.env)).any (·.1))=false; rw [hplain] <;> rfl) (Calls.evalArgs_plain ?_)
 exact thn hA fun us s2 ⟨vs,H2,I2,r2,q2⟩=>hm pins s2 σ H2 x vs v us Q I2 r1 r2 q2
/- xs.append(e),list.index on a module's tuple .. are MtR facts of 06m -/
end
def MtM (X:Cx) (id:String) (r:V→List V→Hp→VK→Prop):Prop :=
 ∀(pins:List (Addr×Obj)) (s:Shared) (σ:St) (H:Hp) (x:V) (xs:List V) (v:Value) (us:List Value) (Q:VK),Inv X pins σ H s→RelV x v→QaG xs us→r x xs H Q →
  wpAny (model X.prog X.w) X.A (call (.builtin id) (v::us)) (EP X pins σ Q) X.xe s
theorem QaG.one:∀{x:V}{us:List Value},QaG [x] us→∃u,us = [u]∧RelV x u
 | _,_,.cons r .nil=>⟨_,rfl,r⟩
theorem QaG.zero:∀{us:List Value},QaG [] us→us = []
 | _,.nil=>rfl
theorem QaG.rep {xs:List V}{us:List Value} (h:QaG xs us):∀k:Nat,QaG (List.replicate k xs).flatten (List.replicate k us).flatten
 | 0=>.nil
 | k+1=>by
  rw [List.replicate_succ,List.replicate_succ,List.flatten_cons,List.flatten_cons];exact QaG.append h (QaG.rep h k)
theorem foldl_rep (its:List Value):∀(k:Nat) (acc:List Value),
  List.foldl (fun x1 x2=>x1++x2) acc.toArray (List.replicate k its.toArray)=(acc++(List.replicate k its).flatten).toArray
 | 0,acc=>by simp
 | k+1,acc=>by
  have e:acc.toArray++its.toArray=(acc++its).toArray:=by simp
  have e2:(acc++its)++(List.replicate k its).flatten=acc++(List.replicate (k+1) its).flatten:=by
   rw [List.replicate_succ,List.flatten_cons,zP]
  rw [←e2,←foldl_rep its k (acc++its),←e,List.replicate_succ,List.foldl_cons]
section
variable {X:Cx}{pins:List (Addr×Obj)}{σ:St}{H:Hp}{s:Shared}{l b:Addr}{xs ys zs:List V}
theorem Inv.lset {its its':List Value}{n:Nat}{f:Array Value→Array Value}{t':Nat} (I:Inv X pins σ H s) (hH:H l=some (.lst xs))
  (e:s.heap.get? l=some { cls:=.type "list",data:=.seq its.toArray n }) (hf:f its.toArray=its'.toArray) (hv:QaG ys its') (hz:ys.length≤sizeLine) :
  Inv X pins σ (upd H l (.lst ys)) { s with heap:=s.heap.update l (Obj.mapSeq f),toks:=t' }:=by
 have q:=PySem.IsL.update e f;rw [hf] at q;refine I.write (x:=l) (e:=l) (by rw [hH]; exact trivial) (.inl rfl) (fun b' u hb hu=>(jb s.heap (Obj.mapSeq f) (Ne.symm hb)).trans hu) ⟨_,q⟩ ?_;exact ⟨hz,its',_,hv,q⟩
theorem Inv.lnew {its:List Value}{t':Nat} (I:Inv X pins σ H s) (hv:QaG ys its) (hz:ys.length≤sizeLine) :
  Inv X pins σ (upd H s.heap.objs.size (.lst ys)) { s with heap:=s.heap.push { cls:=.type "list",data:=.seq its.toArray },toks:=t' } :=
 I.laid (fun _ _ q=>zy _ q) (zb _) ⟨hz,its,0,hv,zH _ rfl⟩
theorem Inv.fresh (I:Inv X pins σ H s):H s.heap.objs.size=none:=I.hok.fresh (zb _)
theorem Inv.lstM (I:Inv X pins σ H s) (hH:H l=some (.lst xs)):xs.length≤sizeLine∧∃(its:List Value) (n:Nat),QaG xs its∧xs.length=its.length∧s.heap.get? l=some { cls:=.type "list",data:=.seq its.toArray n }:=by
 obtain ⟨z,its,n,r,e⟩:=I.hok l _ hH;exact ⟨z,its,n,r,r.length,e⟩
theorem Qlk {n:Nat} (h:n≤sizeLine):Builtin.List.listTooLong n=false:=by
 unfold Builtin.List.listTooLong;exact zk (by omega)
end
section
variable {X:Cx}
def Qsr:V→List V→Hp→VK→Prop:=fun x vs H Q=>∃l xs y,x = .ref l∧vs = [y]∧H l=some (.lst xs)∧xs.length < sizeLine∧Q .non (upd H l (.lst (xs ++ [y])))
theorem Qks:MtM X "list.append" Qsr:=by
 intro pins s σ H x vs v us Q I rx rv h;obtain ⟨l,xs,y,rfl,rfl,hH,hz,q⟩:=h;cases rx;obtain ⟨u,rfl,ru⟩:=rv.one;obtain ⟨z,its,n,r,hl,e⟩:=I.lstM hH;refine call_meets F.slot_list_append ⟨_,e,rfl⟩ F.entry_list_append (F.args_list_append_2 _ _) (PySem.list_append l its.toArray n u (by rw [zt]; omega)) ⟨e,?_⟩;refine ⟨.non,_,I.lset (its':=its ++ [u]) hH e (by simp) (r.append (.cons ru .nil)) ?_,rfl,q⟩;rw [zg,zX];omega
def QtW:V→List V→Hp→VK→Prop:=fun x vs H Q=>∃l xs,x = .ref l∧vs = []∧H l=some (.lst xs)∧Q .non (upd H l (.lst []))
theorem QlS:MtM X "list.clear" QtW:=by
 intro pins s σ H x vs v us Q I rx rv h;obtain ⟨l,xs,rfl,rfl,hH,q⟩:=h;cases rx;have hus:=rv.zero;subst hus;obtain ⟨z,its,n,r,hl,e⟩:=I.lstM hH;refine call_meets F.slot_list_clear ⟨_,e,rfl⟩ F.entry_list_clear (F.args_list_clear_1 _) (AutoSeq1.list_clear_list_0 l its.toArray n (by rw [zt]; omega)) ⟨e,?_⟩;exact ⟨.non,_,I.lset (its':=[]) (ys:=[]) hH e rfl .nil (Nat.zero_le _),rfl,q⟩
theorem len_rep {α:Type} (xs:List α) (k:Nat):(List.replicate k xs).flatten.length=k * xs.length:=by
 induction k with
 | zero=>simp
 | succ k ih=>rw [List.replicate_succ,List.flatten_cons,zg,ih,Nat.succ_mul,Nat.add_comm]
end
section
variable {prog:Program}{w:World}{A:Around}{E:Value→Shared→Prop}{s:Shared}
end
section
variable {X:Cx}
end
end L2
namespace Att
open PySem PySem.W PySem.Calls PyProof.Rows
theorem Qi9 {P:Params}{h:Heap}:∀(ns:List Int) (vs:List Value),WellAll P h vs (ns.map WData.int)→IntsAre vs ns:=by
 intro ns
 induction ns with
 | nil =>
  intro vs w;rw [zQ] at w;cases w;exact .nil
 | cons n ns ih =>
  intro vs w;rw [zl] at w
  cases w with
  | cons a b =>
   cases a;exact .cons _ _ (ih _ b)
theorem Qn0 {l:OpenLaw}{n:Nat} (hn:l.most=some n) {P:Params}{h:Heap}{args:List WData}{vals:List Value}
  (hpre:l.row.toRowW.claim.pre args=true) (hwl:WellAll P h vals args) :
  ∃a vs ns,vals = [Value.ref a]∧args = [WData.list (ns.map WData.int)]∧h.get? a=some { cls:=.type "list",data:=.seq vs.toArray }∧IntsAre vs ns∧ns.length≤n:=by
 have hsh:WShape.hasAll [] args [.list .int]=true:=(pre_splitW hpre).1;have hc:l.pre.holds [] { args:=args }=true:=(pre_splitW hpre).2;obtain ⟨d,r,rfl,h1,h2⟩:=hasAllW_cons hsh;obtain rfl:=hasAllW_nil h2;obtain ⟨xs,rfl,h3⟩:=hasW_list h1;obtain ⟨ns,rfl⟩:=items_int h3
 have hlen:ns.length≤n:=by
  unfold OpenLaw.pre at hc
  have h4:(WTm.not (.lt (.lit (.int (n:Int))) (.len (.arg 0)))).holds [] { args:=[.list (ns.map .int)] }=true:=by
   have h4:=(holds_andW hc).1;rw [hn] at h4;exact h4
  have h5:=condW_of h4 (w_not (w_lt w_lit (w_len_list (w_arg rfl))));rw [zd] at h5
  refine Nat.le_of_not_lt fun q=>?_
  have q':(n:Int) < ((ns.length:Nat):Int):=by omega
  first
   | (rw [zw q'] at h5; exact absurd h5 (by decide))
   | (simp at h5; omega)
 cases hwl with
 | cons w1 w2 =>
  cases w2
  cases w1 with
  | list ho hall=>exact ⟨_,_,ns,rfl,rfl,ho,Qi9 ns _ hall,hlen⟩
theorem Qpn (l:OpenLaw) (args:List WData):l.row.toRowW.claim.post args (.bool true) args=true :=
 postW_of (r:=l.row.toRowW) (X:=(true == true))
  (show WShape.has [] (.bool true) .bool=true by first | rfl | decide | simp [WShape.has,WShape.arms,WShape.armsAll])
  (show (WTm.eq .res (.lit (.bool true))).value [] { args:=args,res:=some (.bool true),after:=args }=some (.bool (true == true)) from w_eq_bool (w_res rfl) w_lit) rfl
theorem attach_call {l:OpenLaw}{n:Nat}{q:Program}{loose:List Str}{XP:(Str→Option Value)→Heap→Prop}{YP:World→Heap→Prop}{d:DefRec}
  (hn:l.most=some n) (hdf:d.params.defaults = [])
  (call:∀(w:World) (s₀ s₁:Shared) (mg mb:Str→Option Value) (fa:Addr) (o:Obj) (pm cd doc:Value) (a:Addr) (vs:List Value) (ns:List Int),
   Ground q loose [] XP w s₀ mg mb s₁.heap→YP w s₁.heap →
   s₁.heap.get? fa=some o→o.data = .func (docDef d.name d.params d.body d.scope pm cd doc)→s₁.heap.CodeRec cd d.name→mg d.name=some (.ref fa) →
   s₁.heap.get? a=some { cls:=.type "list",data:=.seq vs.toArray }→IntsAre vs ns→ns.length≤n→s₁.gens = #[] →
   codeAny (model l.prog w) callerA (.call (.ref fa) ⟨[.ref a],[]⟩) (fun r s'=>r = .ok (.ret (.bool true))∧OldK s₁.heap s'.heap∧s'.os=s₁.os∧AllBare s'.gens) s₁) :
  WalkO q loose XP YP l.row.toRowW d [] (fun f vs=>PySem.call f vs):=by
 intro w s₀ s₁ mg mb G Y fa o pm cd doc dV kV ho hd hcd hD hmg hg args vals as hpre hlay hrd hwl hlo;obtain rfl:dV = .none:=Dflts.none hD hdf;obtain rfl:kV = .none:=Dflts.noKw hD;obtain ⟨a,vs,ns,rfl,rfl,hobj,hints,hlen⟩:=Qn0 hn hpre hwl;refine enter_call (codeAny_mono (call w s₀ s₁ mg mb fa o pm cd doc a vs ns G Y ho (fd_plain hd) hcd hmg hobj hints hlen hg) fun r s' hq=>?_);obtain ⟨rfl,h2,h3,h4⟩:=hq;exact ⟨.inl ⟨.bool true,.bool true,[],rfl,fun _=>rfl,.bool true,Qpn l _,fun _=>⟨List.Pairwise.nil,fun _ hm=>(nomatch hm)⟩⟩,h2,h3,h4⟩
section
variable {prog:Program}{w:World}{A:Around}{E:Value→Shared→Prop}{s:Shared}{K:Frag}
end
end Att
namespace L2
open PySem PySem.Spec PyProof.Rows
theorem QhN:∀{vs:List Value}{ns:List Int},IntsAre vs ns→QaG (ns.map V.int) vs
 | _,_,.nil=>.nil
 | _,_,.cons n t h=>.cons ⟨t,rfl⟩ (QhN h)
def QiY (H:Hp):Prop:=∀b,H b=none∨∃o xs,H b=some (.frz o (.lst xs))
theorem Qqd {P:Program}{w:World}{K:PySem.W.Frag}{mg mb:Str→Option Value}{CX:CXT}{k:Nat}{fa a:Addr}{fd:FuncData}{x:Str}{sp:Sp}{s₁:Shared}{vs:List Value}{ns:List Int}
  (KX:K.In s₁.heap) (hns:s₁.heap.Ns mainGlobals mg) (hb:s₁.heap.Ns builtinsNs mb) (hbb:∀x:Str,x≠"__name__"→mb x=bootBuiltins x) (hlim:s₁.heap.NoLimit) (hg:s₁.gens = #[])
  (ha:s₁.heap.get? a=some { cls:=.type "list",data:=.seq vs.toArray }) (hi:IntsAre vs ns) (hl:ns.length≤sizeLine) (hr:Qa6 k callerA)
  (F:∀base:Heap,K.In base→base.Ns mainGlobals mg→QcV P w K mg base CX k fa fd [x] sp) (hbind:∀(s:Shared) (u:Value),BindsTo s fd ⟨[u],[]⟩ [(x,u)])
  (hsp:∀H:Hp,QiY H→SqL K H a (ns.map V.int)→sp [.ref a] H (fun v _=>v = .bl true) fun _ _ _=>False)
  (hCX:∀H e s',CX [] H s₁ (fun _ _ _=>False) e s'→False) :
  codeAny (model P w) callerA (.call (.ref fa) ⟨[.ref a],[]⟩) (fun r s'=>r = .ok (.ret (.bool true))∧OldK s₁.heap s'.heap∧s'.os=s₁.os∧AllBare s'.gens) s₁:=by
 have rv:=QhN hi;have lenV:=hi.length;have core:∀H:Hp,QiY H→SqL K H a (ns.map V.int)→HOk P w H s₁.heap→(∀b,H b≠none→b=a)→(H a≠none→K.lookup a=none) →
   codeAny (model P w) callerA (.call (.ref fa) ⟨[.ref a],[]⟩) (fun r s'=>r = .ok (.ret (.bool true))∧OldK s₁.heap s'.heap∧s'.os=s₁.os∧AllBare s'.gens) s₁:=by
  intro H hO hS hok hA hK
  have base_of:∀{b:Addr}{o:Obj},s₁.heap.get? b=some o→H b=none→(QeB s₁.heap H).get? b=some o:=fun e n=>Ql1 e n
  have noA:∀{b:Addr}{o:Obj}{es:Array DictEntry}{ep:Nat},s₁.heap.get? b=some o→o.data = .dict es ep→H b=none:=fun {b o es ep} e d=>by
   cases q:H b with
   | none=>rfl
   | some u =>
    have e':b=a:=hA b (by rw [q]; simp);subst e';rw [ha] at e; cases e;have d':Data.seq vs.toArray _=Data.dict es ep:=d;cases d'
  have nsK:∀{b:Addr}{m:Str→Option Value},s₁.heap.Ns b m→(QeB s₁.heap H).Ns b m:=fun {b m} ⟨o,es,ep,e,d,r⟩=>⟨o,es,ep,base_of e (noA e d),d,r⟩
  have hKb:K.In (QeB s₁.heap H):=fun b o e=>base_of (KX b o e) (by
   cases q:H b with
   | none=>rfl
   | some u =>
    have e':b=a:=hA b (by rw [q]; simp);subst e'
    rw [hK (by rw [q]; simp)] at e; cases e)
  have hM:Mod K mg (QeB s₁.heap H):=⟨hKb,nsK hns,⟨mb,nsK hb,hbb⟩,let ⟨mc,h1,h2⟩:=hlim; ⟨mc,nsK h1,h2⟩⟩;have e0:QhP P w K mg (QeB s₁.heap H) callerA [] s₁ H:=⟨rfl,hM,fun b o e=>Qmi e,Nat.le_of_eq (Qkp _ _),trivial,fun b hb=>absurd (show b∈([]:List Addr) from hb) (by simp),hok,.of_eq hg⟩
  refine codeAny_mono ((F _ hKb (nsK hns)).run callerA [] s₁ H ⟨[.ref a],[]⟩ [.ref a] [.ref a] _ _ hr e0 (hbind s₁ (.ref a)) (.cons rfl .nil) (hsp H hO hS)) fun r s' h=>?_
  cases r with
  | error e=>exact (hCX H e s' h).elim
  | ok fl =>
   cases fl with
   | next=>exact False.elim h
   | brk=>exact False.elim h
   | cont=>exact False.elim h
   | ret u =>
    obtain ⟨v,H',os,bare,un,hok',r',q⟩:=h;have q':v = .bl true:=q;subst q';obtain rfl:u=Value.bool true:=r';refine ⟨rfl,OldK.of_keep fun b o e=>?_,os,bare⟩
    cases q:H b with
    | none=>exact un.keep b o e q (by intro z; exact absurd (show b∈([]:List Addr) from z) (by simp)) (by simp)
    | some u =>
     rcases hO b with z | ⟨ob,xs,z⟩
     ·rw [q] at z; cases z
     ·have z2:=un.frzs b ob _ z;obtain ⟨e1,_⟩:=hok b _ z;obtain ⟨e2,_⟩:=hok' b _ z2;rw [e] at e1; cases e1;exact e2
 cases hk:K.lookup a with
 | some o =>
  have e:=KX a o hk;rw [ha] at e;cases e
  refine core (fun _=>none) (fun _=>.inl rfl) (.inr ⟨_,vs.toArray,_,hk,rfl,rfl,rfl,by rw [zt,lenV]; exact hl,by simpa using rv⟩) (fun b u z=>by have z':(none:Option HO)=some u:=z; cases z') (fun b z=>absurd rfl z) fun z=>absurd rfl z
 | none =>
  refine core (fun b=>if b=a then some (.frz { cls:=.type "list",data:=.seq vs.toArray } (.lst (ns.map V.int))) else none) (fun b=>?_) (.inl (.inr ⟨{ cls:=.type "list",data:=.seq vs.toArray },if_pos rfl⟩)) (fun b u z=>?_) (fun b z=>?_) fun _=>hk
  ·by_cases hb:b=a
   ·exact .inr ⟨_,_,if_pos hb⟩
   ·exact .inl (if_neg hb)
  ·by_cases hb:b=a
   ·have z':=(if_pos hb).symm.trans z;cases z';subst hb;exact ⟨ha,by rw [zd]; exact hl,vs,_,rv,ha⟩
   ·have z':=(if_neg hb).symm.trans z;cases z'
  ·by_cases hb:b=a
   ·exact hb
   ·exact absurd (if_neg hb) z
abbrev KOf {K:PySem.W.Frag}{h:Heap} (_:K.In h):PySem.W.Frag:=K
theorem walk_of {l:PySem.W.OpenLaw}{n k:Nat}{q:Program}{loose:List Str}{XP:(Str→Option Value)→Heap→Prop}{YP:World→Heap→Prop}{d:DefRec}{K:Params→PySem.W.Frag}{CX:World→CXT}{sp:World→Sp}{x:Str}
  (hn:l.most=some n) (hn2:n≤sizeLine) (hdf:d.params.defaults = []) (hr:Qa6 k callerA)
  (hY:∀(w:World) (h:Heap),YP w h→(K w.params).In h)
  (F:∀(w:World) (mg:Str→Option Value) (fa:Addr) (h:Heap),(K w.params).In h→h.Ns mainGlobals mg→mg d.name=some (.ref fa) →
   ∃fd:FuncData,(∀(s:Shared) (u:Value),BindsTo s fd ⟨[u],[]⟩ [(x,u)]) ∧
    ∀base:Heap,(K w.params).In base→base.Ns mainGlobals mg→QcV l.prog w (K w.params) mg base (CX w) k fa fd [x] (sp w))
  (hsp:∀(w:World) (H:Hp) (a:Addr) (ns:List Int),ns.length≤n→QiY H→SqL (K w.params) H a (ns.map V.int)→sp w [.ref a] H (fun v _=>v = .bl true) fun _ _ _=>False)
  (hCX:∀(w:World) (H:Hp) (s:Shared) (e:Value) (s':Shared),CX w [] H s (fun _ _ _=>False) e s'→False) :
  PySem.W.WalkO q loose XP YP l.row.toRowW d [] (fun f vs=>PySem.call f vs):=by
 refine Att.attach_call hn hdf fun w s₀ s₁ mg mb fa o pm cd doc a vs ns G Y ho hd hcd hmg hobj hints hlen hg=>?_
 have KX:=hY w _ Y;obtain ⟨fd,hb,hF⟩:=F w mg fa _ KX G.T.g hmg
 exact Qqd KX G.T.g G.T.b G.T.builtins G.T.nolimit hg hobj hints (zD hlen hn2) hr hF hb (fun H hO hS=>hsp w H a ns hlen hO hS) fun H e s'=>hCX w H s₁ e s'
end L2
/- THE LAST THEOREM (shape; LID,My.* are yours):
   My.Adr: a structure of the addresses that your layer names (classes,functions); My.Txt K t: a structure (Prop) of the equations over K;
   My.txt_mk:{K}{implicit addresses ..} (e1:nsIn K mainGlobals "law" = some (some (.ref f))) (e2:K.lookup f=some ⟨oc,od,.func (fnOf "law" "law" params body scope dV kV doc pm an cdv ct),sl⟩) (e3:codeIn K cdv "law" = true) ..:∃t,My.Txt K t
set_option maxRecDepth 100000 in
set_option maxHeartbeats 0 in
theorem PySem.Challenge.cw_LID_holds : PySem.Challenge.rw_LID.Holds := by
 w_on; o_law; k_head; (case hw=>w_witness2)
 k_fill
 refine L2.walk_of (l:=PySem.Challenge.rw_LID) (n:=63) (k:=40) (x:="script") (CX:=fun w=>..) (sp:=fun _=>My.sp_law) rfl (by decide) rfl ⟨rfl,by decide,by decide⟩ (fun w h Y=>PySem.W.kIn_of Y) ?F ?S ?C
 case F =>
  intro w mg fa h KX G hmg
  have T:∃t,My.Txt (L2.KOf KX) t:=by
   dsimp only [L2.KOf]                          -- K must stand as «<heap const> w.params» for k_is
   refine' My.txt_mk ?e1 ?e2 ?e3 ..
   (case e1=>PySem.W.k_is)                    -- in the order: a name -> its address -> its object -> its parts
   (case e2=>PySem.W.k_is)
   ..
  obtain ⟨t,T⟩:=T;have e0:=hmg.symm.trans (PySem.W.mg_of KX G T.law);cases e0                                       -- fa is the law's own address
  exact ⟨_,fun s u=>.of_eq rfl,fun base kb nb=>My.law_fn T kb nb⟩     -- if «.of_eq rfl» comes too early: refine' ⟨_,?b,fun base kb nb=>My.law_fn T kb nb⟩; exact fun s u=>.of_eq rfl
 case S=>exact fun w H a ns hl hO hS=>..
 case C=>exact ..
(the tactic k_is has no namespace: write k_is) -/
namespace L2
open PySem PySem.Spec PyProof.Rows
def inClass (s:Stmt) (j:Nat):Stmt:=match s with
 | .ClassDef _ _ _ body _ _ _ _ _ _ _=>body.getD j (.Pass ⟨0,0,0,0⟩)
 | _=>.Pass ⟨0,0,0,0⟩
def QcH (s:Stmt):Arguments:=match s with
 | .FunctionDef _ a _ _ _ _ _ _ _ _=>a
 | _=>{ posonlyargs:=[],args:=[],vararg:=none,kwonlyargs:=[],kw_defaults:=[],kwarg:=none,defaults:=[] }
def QbO (s:Stmt):List Stmt:=match s with
 | .FunctionDef _ _ b _ _ _ _ _ _ _=>b
 | _=>[]
def Qas (s:Stmt):Scope:=match s with
 | .FunctionDef _ _ _ _ _ _ sc _ _ _=>sc
 | _=>{ kind:=.function,names:=[],isGenerator:=false,isCoroutine:=false }
abbrev CX0:CXT:=fun _ _ _ _ _ _=>False
abbrev E0:XK:=fun _ _ _=>False
theorem QkP {X:Cx}:QfM CX0 X E0:=fun _ _ _ _ _ _ _ h=>h.elim
structure Fun (K:PySem.W.Frag) (x qual:Str) (st:Stmt) (f:Addr) (fd:FuncData):Prop where
 ex:∃(oc:Value) (od:Option Addr) (kV doc pm:Value) (an:Option Addr) (cdv ct:Value) (osl:Array (Option Value)),
  fd=PySem.W.fnOf x qual (QcH st) (QbO st) (Qas st) .none kV doc pm an cdv ct∧K.lookup f=some ⟨oc,od,.func fd,osl⟩∧PySem.W.codeIn K cdv qual=true
 kp:PySem.W.keepIn K (.ref f)=true
section
variable {P:Program}{w:World}{K:PySem.W.Frag}{mg:Str→Option Value}{base:Heap}
theorem Fun.ok {x qual:Str}{st:Stmt}{f:Addr}{fd:FuncData}{N ps:List Str}{k:Nat}{sp:Sp} (F:Fun K x qual st f fd) (S:QaR N ps (Qas st)) (len:∀vs H Q E,sp vs H Q E→vs.length=ps.length)
  (hbody:∀(cdv:Value) (A:Around) (outer:List Env) (s:Shared) (H:Hp) (vs:List V) (Q:VK) (E:XK),Qa6 k (A.deeper (envOfC qual (Qas st) s.heap.objs.size f cdv))→sp vs H Q E →
   ∃t,PSs (Qge CX0 P w K mg base N qual (Qas st) f cdv A outer s H E).nox (QbO st) t∧t { nx:=fun _ H'=>Q .non H',rt:=Q } (start N vs) H):QcV P w K mg base CX0 (k+1) f fd ps sp:=by
 obtain ⟨oc,od,kV,doc,pm,an,cdv,ct,osl,rfl,lk,hcd⟩:=F.ex
 refine QvG lk hcd S len fun A outer s H vs Q E hr hsp=>?_
 obtain ⟨t,h,q⟩:=hbody cdv A outer s H vs Q E hr hsp;exact ⟨t,h.nox,q⟩
theorem Fun.binds {x qual:Str}{st:Stmt}{f:Addr}{fd:FuncData}{ps:List Str} (F:Fun K x qual st f fd)
  (h:∀(kV doc pm:Value) (an:Option Addr) (cdv ct:Value) (us:List Value),us.length=ps.length→bindArgs (PySem.W.fnOf x qual (QcH st) (QbO st) (Qas st) .none kV doc pm an cdv ct) ⟨us,[]⟩=pure (ps.zip us)):Binds K fd ps []:=by
 obtain ⟨oc,od,kV,doc,pm,an,cdv,ct,osl,rfl,lk,hcd⟩:=F.ex;exact .all (h kV doc pm an cdv ct)
theorem Qle {x qual:Str}{st:Stmt}{f:Addr}{oc:Value}{od an:Option Addr}{osl:Array (Option Value)}{kV doc pm cdv ct:Value} (l:K.lookup f=some ⟨oc,od,.func (PySem.W.fnOf x qual (QcH st) (QbO st) (Qas st) .none kV doc pm an cdv ct),osl⟩)
  (c:PySem.W.codeIn K cdv qual=true) (k:PySem.W.keepIn K (.ref f)=true):Fun K x qual st f (PySem.W.fnOf x qual (QcH st) (QbO st) (Qas st) .none kV doc pm an cdv ct):=⟨⟨oc,od,kV,doc,pm,an,cdv,ct,osl,rfl,l,c⟩,k⟩
end
theorem QkO {A:Around}{k:Nat} (hr:Qa6 k A):A.units+1 < cLine:=Nat.lt_of_le_of_lt (Nat.add_le_add_left (by decide:1≤64) _) hr.units
section
variable {X:Cx}
end
def Same (H H':Hp):Prop:=∀b o,H b=some o→H' b=some o
theorem Same.refl (H:Hp):Same H H:=fun _ _ h=>h
theorem Same.trans {H H1 H2:Hp} (a:Same H H1) (b:Same H1 H2):Same H H2:=fun c o h=>b c o (a c o h)
theorem Same.seq {K:PySem.W.Frag}{H H':Hp}{a:Addr}{xs:List V} (e:Same H H') (h:SqL K H a xs):SqL K H' a xs:=by
 rcases h with (h | ⟨o,h⟩) | h
 ·exact .inl (.inl (e _ _ h))
 ·exact .inl (.inr ⟨o,e _ _ h⟩)
 ·exact .inr h
section
variable {κ:Type} [DecidableEq κ]
def QeZ (kvs:List (κ×V)) (k:κ):Option V:=(kvs.find? fun kv=>decide (kv.1=k)).map (·.2)
def putK (kvs:List (κ×V)) (k:κ) (v:V):List (κ×V) :=
 if (kvs.any fun kv=>decide (kv.1=k))=true then kvs.map (fun kv=>if kv.1=k then (kv.1,v) else kv) else kvs ++ [(k,v)]
theorem Qg0 {p:κ×V}{r:List (κ×V)}{k:κ} (e:p.1=k):QeZ (p::r) k=some p.2:=by simp [QeZ,List.find?_cons,e]
theorem Qg2 {p:κ×V}{r:List (κ×V)}{k:κ} (e:¬p.1=k):QeZ (p::r) k=QeZ r k:=by simp [QeZ,List.find?_cons,e]
theorem Qll (k:κ):∀kvs:List (κ×V),(kvs.any fun kv=>decide (kv.1=k))=(QeZ kvs k).isSome
 | []=>rfl
 | p::r=>by
  rw [List.any_cons]
  by_cases e:p.1=k
  ·simp only [Qg0 e,zw e,Bool.true_or,Option.isSome_some]
  ·rw [Qg2 e,zk e,Bool.false_or]; exact Qll k r
theorem QiH (kvs:List (κ×V)) (k:κ) (v:V):(putK kvs k v).length≤kvs.length+1:=by
 unfold putK
 split
 ·rw [zd]; omega
 ·rw [zg,zA,jj]; omega
theorem Qd6.isSome_eq {o:Option V}{u:Option Value} (r:Qd6 o u):o.isSome=u.isSome:=by
 cases o with
 | none=>cases u with
  | none=>rfl
  | some _=>exact (show False from r).elim
 | some _=>cases u with
  | none=>exact (show False from r).elim
  | some _=>rfl
theorem KV.val {kvs:List (κ×V)}{vs:List (κ×Value)} (r:KV kvs vs) (k:κ):Qd6 (QeZ kvs k) (valueAt vs k):=by
 unfold KV at r
 induction r with
 | nil=>exact True.intro
 | @cons p q ps qs h t ih =>
  obtain ⟨h1,h2⟩:=h
  by_cases e:p.1=k
  ·have e':q.1=k:=h1.symm.trans e
   have b:valueAt (q::qs) k=some q.2:=by simp [valueAt,List.find?_cons,e']
   rw [Qg0 e,b]; exact h2
  ·have e':¬q.1=k:=fun z=>e (h1.trans z)
   have b:valueAt (q::qs) k=valueAt qs k:=by simp [valueAt,List.find?_cons,e']
   rw [Qg2 e,b]; exact ih
theorem KV.any {kvs:List (κ×V)}{vs:List (κ×Value)} (r:KV kvs vs) (k:κ):(kvs.any fun kv=>decide (kv.1=k))=vs.any fun kv=>decide (kv.1=k):=by
 unfold KV at r
 induction r with
 | nil=>rfl
 | cons h t ih=>rw [List.any_cons,List.any_cons,ih,h.1]
theorem KV.repl {kvs:List (κ×V)}{vs:List (κ×Value)} (r:KV kvs vs) (k:κ) {y:V}{u:Value} (ry:RelV y u) :
  KV (kvs.map fun kv=>if kv.1=k then (kv.1,y) else kv) (vs.map fun kv=>if kv.1=k then (kv.1,u) else kv):=by
 unfold KV at r ⊢
 induction r with
 | nil=>exact .nil
 | @cons p q ps qs h t ih =>
  rw [zl,zl];refine .cons ?_ ih;obtain ⟨h1,h2⟩:=h
  by_cases e:p.1=k
  ·rw [if_pos e,if_pos (h1.symm.trans e)]; exact ⟨h1,ry⟩
  ·rw [if_neg e,if_neg (fun z=>e (h1.trans z))]; exact ⟨h1,h2⟩
theorem KV.put {kvs:List (κ×V)}{vs:List (κ×Value)} (r:KV kvs vs) (k:κ) {y:V}{u:Value} (ry:RelV y u):KV (putK kvs k y) (stored vs k u):=by
 unfold putK stored;rw [r.any k]
 by_cases e:(vs.any fun kv=>decide (kv.1=k))=true
 ·rw [if_pos e,if_pos e]; exact r.repl k ry
 ·rw [if_neg e,if_neg e]; exact Paired.snoc r ⟨rfl,ry⟩
theorem KV.length {kvs:List (κ×V)}{vs:List (κ×Value)} (r:KV kvs vs):kvs.length=vs.length:=Paired.length r
end
theorem QkQ {P:Program}{w:World}{k:Key}{u:Value} (r:RelV (kV k) u):(Qb6 P w).is k u=true:=by
 cases k with
 | inl i=>obtain ⟨t,e⟩:=(show ∃t,u=Value.int i t from r); subst e; exact Qme P w i t
 | inr x=>obtain ⟨t,e⟩:=(show ∃t,u=Value.str x t from r); subst e; exact Qmd P w x t
theorem Qki {P:Program}{w:World}:∀{ks:List Key}{us:List Value},QaG (ks.map kV) us→ItemsAre (Qb6 P w) ks us
 | [],_,r=>by rw [zQ] at r; cases r; exact .nil
 | k::ks,_,r=>by
  rw [zl] at r
  cases r with
  | cons h t=>exact .cons (QkQ h) (Qki t)
abbrev KT (H:Hp):List (List Key×V)→List (List Key×Addr×Value)→Prop:=Paired fun p q=>p.1=q.1∧H q.2.1=some (.tup (p.1.map kV))∧RelV p.2 q.2.2
theorem KT.val {H:Hp}{kvs:List (List Key×V)}{xs:List (List Key×Addr×Value)} (r:KT H kvs xs) (k:List Key):Qd6 (QeZ kvs k) ((atKey xs k).map (·.2)):=by
 induction r with
 | nil=>exact True.intro
 | @cons p q ps qs h t ih =>
  obtain ⟨h1,_,h2⟩:=h
  by_cases e:p.1=k
  ·have e':q.1=k:=h1.symm.trans e
   have b:atKey (q::qs) k=some q.2:=by simp [atKey,List.find?_cons,e']
   rw [Qg0 e,b]; exact h2
  ·have e':¬q.1=k:=fun z=>e (h1.trans z)
   have b:atKey (q::qs) k=atKey qs k:=by simp [atKey,List.find?_cons,e']
   rw [Qg2 e,b]; exact ih
theorem KT.repl {H:Hp}{kvs:List (List Key×V)}{xs:List (List Key×Addr×Value)} (r:KT H kvs xs) (k:List Key) {y:V}{u:Value} (ry:RelV y u) :
  KT H (kvs.map fun kv=>if kv.1=k then (kv.1,y) else kv) (xs.map (putAt k u)):=by
 induction r with
 | nil=>exact .nil
 | @cons p q ps qs h t ih =>
  rw [zl,zl];refine .cons ?_ ih;obtain ⟨h1,h2,h3⟩:=h;unfold putAt
  by_cases e:p.1=k
  ·rw [if_pos e,if_pos (h1.symm.trans e)]; exact ⟨h1,h2,ry⟩
  ·rw [if_neg e,if_neg (fun z=>e (h1.trans z))]; exact ⟨h1,h2,h3⟩
theorem KT.put {H:Hp}{kvs:List (List Key×V)}{xs:List (List Key×Addr×Value)} (r:KT H kvs xs) (k:List Key) {b:Addr}{y:V}{u:Value} (hb:H b=some (.tup (k.map kV))) (ry:RelV y u) :
  KT H (putK kvs k y) (storedH xs k b u):=by
 have e:(kvs.any fun kv=>decide (kv.1=k))=(atKey xs k).isSome:=by
  rw [Qll,(r.val k).isSome_eq,Option.isSome_map]
 unfold putK storedH;rw [e]
 by_cases q:(atKey xs k).isSome=true
 ·rw [if_pos q,if_pos q]; exact r.repl k ry
 ·rw [if_neg q,if_neg q]; exact Paired.snoc r ⟨rfl,hb,ry⟩
theorem KT.keeps {H H':Hp}{kvs:List (List Key×V)}{xs:List (List Key×Addr×Value)} (r:KT H kvs xs) (ht:∀b ys,H b=some (.tup ys)→H' b=some (.tup ys)):KT H' kvs xs :=
 Paired.mapP r fun _ _ z=>⟨z.1,ht _ _ z.2.1,z.2.2⟩
section
variable {P:Program}{w:World}{H:Hp}{h:Heap}{a:Addr}
theorem Qrb {u:HO} (ok:HOk P w H h) (e:Rd H a u):Qbq P w H h a u:=e.ok ok
theorem Qk0 {kvs:List (Key×V)} (ok:HOk P w H h) (e:Rd H a (.dK kvs)):kvs.length≤sizeLine∧(a == sysModules)=false∧∃vs,KV kvs vs∧h.DictOf (Qb6 P w) a vs :=
 show Qbq P w H h a (.dK kvs) from Qrb ok e
theorem Qvz {kvs:List (Key×V)} (ok:HOk P w H h) (e:H a=some (.dK kvs)):kvs.length≤sizeLine∧(a == sysModules)=false∧∃vs,KV kvs vs∧h.DictOf (Qb6 P w) a vs:=Qk0 ok (.inl e)
theorem Qjs {ks:List Key} (ok:HOk P w H h) (e:H a=some (.tup (ks.map kV))):(tupleKind (Qb6 P w)).is h ks a:=by
 obtain ⟨_,its,r,o,h1,h2,n,h3⟩:=(show Qbq P w H h a (.tup (ks.map kV)) from ok a _ e);exact ⟨o,its.toArray,n,h1,h2,h3,by simpa using Qki r⟩
theorem QkK {kvs:List (List Key×V)} (ok:HOk P w H h) (e:Rd H a (.dT kvs)):kvs.length≤sizeLine∧(a == sysModules)=false ∧
  ∃xs,KT H kvs xs∧h.DictOfH (tupleKind (Qb6 P w)) a xs:=by
 obtain ⟨z,y,xs,r,o,es,ep,h1,h2,h3,h4,h5⟩:=(show Qbq P w H h a (.dT kvs) from Qrb ok e);refine ⟨z,y,xs,r,o,es,ep,h1,h2,h3,h4,fun x hx=>?_,h5⟩
 have all:∀{l:List (List Key×V)}{m:List (List Key×Addr×Value)},KT H l m→∀x∈m,(tupleKind (Qb6 P w)).is h x.1 x.2.1:=by
  intro l m q
  induction q with
  | nil=>intro x hx; exact nomatch hx
  | @cons p q ps qs hq t ih =>
   intro x hx
   rcases zn.mp hx with e | hx
   ·subst e;exact Qjs ok (by rw [←hq.1]; exact hq.2.1)
   ·exact ih x hx
 exact all r x hx
theorem QvK {kvs:List (List Key×V)} (ok:HOk P w H h) (e:H a=some (.dT kvs)):kvs.length≤sizeLine∧(a == sysModules)=false ∧
  ∃xs,KT H kvs xs∧h.DictOfH (tupleKind (Qb6 P w)) a xs:=QkK ok (.inl e)
end
def QgP (H:Hp) (a:Addr) (y:V) (r:Option V):Prop :=
 (∃kvs k,Rd H a (.dK kvs)∧y=kV k∧r=QeZ kvs k)∨∃kvs k b,Rd H a (.dT kvs)∧y = .ref b∧H b=some (.tup (k.map kV))∧r=QeZ kvs k
def Qld (H:Hp) (a:Addr) (y v:V) (H':Hp):Prop :=
 (∃kvs k,H a=some (.dK kvs)∧y=kV k∧kvs.length < sizeLine∧H'=upd H a (.dK (putK kvs k v))) ∨
 ∃kvs k b,H a=some (.dT kvs)∧y = .ref b∧H b=some (.tup (k.map kV))∧kvs.length < sizeLine∧H'=upd H a (.dT (putK kvs k v))
theorem QgP.t {H:Hp}{a b:Addr}{kvs:List (List Key×V)}{k:List Key} (e:H a=some (.dT kvs)) (eb:H b=some (.tup (k.map kV))):QgP H a (.ref b) (QeZ kvs k):=.inr ⟨kvs,k,b,.inl e,rfl,eb,rfl⟩
theorem Qld.t {H:Hp}{a b:Addr}{kvs:List (List Key×V)}{k:List Key}{v:V} (e:H a=some (.dT kvs)) (eb:H b=some (.tup (k.map kV))) (hl:kvs.length < sizeLine) :
  Qld H a (.ref b) v (upd H a (.dT (putK kvs k v))):=.inr ⟨kvs,k,b,e,rfl,eb,hl,rfl⟩
section
variable {X:Cx}{pins:List (Addr×Obj)}{σ:St}{H:Hp}{s:Shared}{a:Addr}{y v:V}{u r:Value}{o:Option V}{A:Around}{E:Value→Shared→Prop}
theorem Inv.big (I:Inv X pins σ H s):sysModules < s.heap.objs.size:=by
 have h:mainGlobals < s.heap.objs.size:=(I.mod.glob.keeps I.bk).lt;exact Nat.lt_trans (by decide) h
theorem Qpz {Q:Value→Shared→Prop} (hu:A.units+1 < cLine) (I:Inv X pins σ H s) (g:QgP H a y (some v)) (ry:RelV y u) (h:∀w' s',Inv X pins σ H s'→RelV v w'→Q w' s') :
  wpAny (model X.prog X.w) A (getItem (.ref a) u) Q E s:=by
 rcases g with ⟨kvs,k,e,ey,l⟩ | ⟨kvs,k,b,e,ey,eb,l⟩
 ·subst ey;obtain ⟨z,hd,vs,rel,dd⟩:=Qk0 I.hok e;obtain ⟨w',hw,rw'⟩:=Qd6.some_of (v:=v) (o:=valueAt vs k) (by rw [l]; exact rel.val k);exact wpAny_getItem_of (QkQ ry) dd.mapOf hw (h w' _ (I.tok _) rw')
 ·subst ey;cases (show u=Value.ref b from ry);obtain ⟨z,hd,xs,rel,dd⟩:=QkK I.hok e;obtain ⟨w',hw,rw'⟩:=Qd6.some_of (v:=v) (o:=(atKey xs k).map (·.2)) (by rw [l]; exact rel.val k);obtain ⟨p,hp,hp2⟩:=Option.map_eq_some_iff.mp hw;refine wpAny_getItem_heap (tupleKind_room_in1 hu) (Qjs I.hok eb) dd hp ?_;rw [hp2];exact h w' _ (I.tok _) rw'
theorem QrF {Q:Value→Shared→Prop} (hu:A.units+1 < cLine) (I:Inv X pins σ H s) (g:QgP H a y o) (ry:RelV y u) (h:∀s',Inv X pins σ H s'→Q (.bool (!o.isSome)) s') :
  wpAny (model X.prog X.w) A (compareOp .NotIn u (.ref a)) Q E s:=by
 rcases g with ⟨kvs,k,e,ey,l⟩ | ⟨kvs,k,b,e,ey,eb,l⟩
 ·subst ey;obtain ⟨z,hd,vs,rel,dd⟩:=Qk0 I.hok e;refine wpAny_notIn_of (QkQ ry) hd dd.mapOf ?_;rw [←(rel.val k).isSome_eq,←l];exact h _ (I.tok _)
 ·subst ey;cases (show u=Value.ref b from ry);obtain ⟨z,hd,xs,rel,dd⟩:=QkK I.hok e;refine wpAny_notIn_heap (tupleKind_room_in1 hu) (Qjs I.hok eb) hd dd ?_;have q:=(rel.val k).isSome_eq;rw [Option.isSome_map] at q;rw [←q,←l];exact h _ (I.tok _)
theorem Qmv {h':Heap}{t':Nat}{ob:HO} (I:Inv X pins σ H s) (mu:Mut (H a)) (hs:Heap.SameBut a s.heap h') (he:∃q,h'.get? a=some q) (new:Qbq X.prog X.w (upd H a ob) h' a ob) :
  Inv X pins σ (upd H a ob) { s with heap:=h',toks:=t' } :=
 I.write (x:=a) (e:=a) mu (.inl rfl) (fun b q hb z=>(hs.2 b hb).trans z) he new
theorem Quo {P:Program}{w:World}{H':Hp}{h':Heap}{kvs:List (Key×V)}{vs:List (Key×Value)} (z:kvs.length≤sizeLine) (hd:(a == sysModules)=false) (rel:KV kvs vs) (dd:h'.DictOf (Qb6 P w) a vs) :
  Qbq P w H' h' a (.dK kvs):=⟨z,hd,vs,rel,dd⟩
theorem QoS {H':Hp}{Q:Unit→Shared→Prop} (hu:A.units+1 < cLine) (I:Inv X pins σ H s) (g:Qld H a y v H') (ry:RelV y u) (rv:RelV v r) (h:∀s',Inv X pins σ H' s'→Q () s') :
  wpAny (model X.prog X.w) A (setItem (.ref a) u r) Q E s:=by
 rcases g with ⟨kvs,k,e,ey,l,eH⟩ | ⟨kvs,k,b,e,ey,eb,l,eH⟩
 ·subst ey eH;obtain ⟨z,hd,vs,rel,dd⟩:=Qvz I.hok e
  have hz:vs.length≤sizeLine:=by rw [←rel.length]; exact z
  have hl:(putK kvs k v).length≤sizeLine:=by have:=QiH kvs k v; omega
  refine wpAny_setItem_pairs (hsz:=hz) (QkQ ry) dd fun h' dd' hs=>h _ ?_
  have he:∃q,h'.get? a=some q:=let ⟨q,_,_,hq,_⟩:=dd'; ⟨q,hq⟩;exact Qmv I (by rw [e]; exact True.intro) hs he (Quo hl hd (rel.put k rv) dd')
 ·subst ey eH;cases (show u=Value.ref b from ry);obtain ⟨z,hd,xs,rel,dd⟩:=QvK I.hok e
  have hz:xs.length≤sizeLine:=by rw [←Paired.length rel]; exact z
  have hl:(putK kvs k v).length≤sizeLine:=by have:=QiH kvs k v; omega
  refine wpAny_setItem_heap (hsz:=hz) (tupleKind_room_in1 hu) (Qjs I.hok eb) dd fun h' dd' hs=>h _ ?_
  obtain ⟨q,es,ep,hq,h2,h3,h4,_,h5⟩:=dd';refine Qmv I (by rw [e]; exact True.intro) hs ⟨q,hq⟩ ⟨hl,hd,_,(rel.put k eb rv).keeps fun c ys ec=>?_,q,es,ep,hq,h2,h3,h4,h5⟩;rw [Qap (ne_of ec e (fun z=>nomatch z))];exact ec
end
section
variable {X:Cx}{pins:List (Addr×Obj)}{σ:St}{H:Hp}{s:Shared}{a:Addr}{kvs:List (Key×V)}{k:Key}{u:Value}{A:Around}{E:Value→Shared→Prop}
end
def QtV (i:Expr):Prop:=∀ov iv,subscripted i false ov iv=operate [ov,iv] (getItem ov iv)
theorem Qsn {prog:Program}{w:World}{A:Around}{E:Value→Shared→Prop}{s:Shared}{env:Env}{value slice:Expr}{pos:Pos}{T id:String}{Q:Value→Shared→Prop}
  (hl:typeLookup (.type T) "__getitem__" = pure (some (.builtin id))) (hs:QtV slice)
  (h:wpAny (model prog w) A (eval value env) (fun o s₁=>wpAny (model prog w) A (eval slice env) (fun i s₂=>s₂.TypeIs o T∧wpAny (model prog w) A (getItem o i) Q E s₂) E s₁) E s) :
  wpAny (model prog w) A (eval (.Subscript value slice pos) env) Q E s:=by
 refine Subscript_ (zS h (fun o s₁ h₁=>zS h₁ (fun i s₂ h₂=>?_) fun _ _ x=>x) fun _ _ x=>x);obtain ⟨hT,h₂⟩:=h₂;unfold subscriptTail;refine za ?_;rw [getitemInPython_of_ne hT.not_modules];refine za (wpAny_specialOf hT hl ?_)
 have fin:wpAny (model prog w) A (subscripted slice false o i) (fun r s₃=>wpAny (model prog w) A (letTemporaryGo value o r >>= fun _=>pure r) Q E s₃) E s₂:=by
  rw [hs o i];exact wpAny_operating (zS h₂ (fun r s₃ h₃=>za (wpAny_letTemporaryGo (zc h₃))) fun _ _ x=>x)
 first
  | exact zc (za fin)
  | exact za (zc (za fin))
  | exact za fin
theorem Ql6 {X:Cx}{pins:List (Addr×Obj)}{σ:St}{H:Hp}{s:Shared}{a:Addr}{y:V}{o:Option V} (I:Inv X pins σ H s) (g:QgP H a y o):s.TypeIs (.ref a) "dict":=by
 rcases g with ⟨kvs,k,e,_,_⟩ | ⟨kvs,k,b,e,_,_,_⟩
 ·obtain ⟨_,_,vs,_,dd⟩:=Qk0 I.hok e;exact dd.typeIs
 ·obtain ⟨_,_,xs,_,dd⟩:=QkK I.hok e;exact dd.typeIs
def QvB (td ty:TE):TE:=fun σ H Q=>td σ H fun x H1=>ty σ H1 fun y H2=>∃a v,x = .ref a∧QgP H2 a y (some v)∧Q v H2
def Qml (ty td:TE):TE:=fun σ H Q=>ty σ H fun y H1=>td σ H1 fun x H2=>∃a o,x = .ref a∧QgP H2 a y o∧Q (.bl (!o.isSome)) H2
def Qvm (td ty tv:TE):TS:=fun D σ H=>tv σ H fun v H1=>td σ H1 fun x H2=>ty σ H2 fun y H3=>∃a H4,x = .ref a∧Qld H3 a y v H4∧D.nx σ H4
section
variable {X:Cx}{o i e value:Expr}{pos pos' tpos:Pos}{td ty tv:TE}
theorem QmS (hu:X.A.units+1 < cLine) (ho:PE X o td) (hi:PE X i ty) (hs:QtV i):PE X (.Subscript o i pos) (QvB td ty):=by
 intro pins s σ H Q I h;refine Qsn PySem.F.slot_dict_getitem.lookup hs (thn (ho pins s σ H _ I h) fun u s1 ⟨x,H1,I1,rx,q1⟩=>thn (hi pins s1 σ H1 _ I1 q1) fun iv s2 ⟨y,H2,I2,ry,a,v,ex,g,q2⟩=>?_);subst ex;obtain rfl:u=Value.ref a:=rx;exact ⟨Ql6 I2 g,Qpz hu I2 g ry fun w' s3 I3 rw'=>⟨v,H2,I3,rw',q2⟩⟩
theorem Qoh (hu:X.A.units+1 < cLine) (hi:PE X i ty) (ho:PE X o td):PC X .NotIn i o (Qml ty td):=by
 intro pins s σ H Q I h
 refine thn (hi pins s σ H _ I h) fun iv s1 ⟨y,H1,I1,ry,q1⟩=>thn (ho pins s1 σ H1 _ I1 q1) fun u s2 ⟨x,H2,I2,rx,a,ov,ex,g,q2⟩=>?_
 subst ex;obtain rfl:u=Value.ref a:=rx
 exact QrF hu I2 g ry fun s3 I3=>⟨.bl (!ov.isSome),H2,I3,rfl,q2⟩
theorem Qrv (hu:X.A.units+1 < cLine) (ho:PE X o td) (hi:PE X i ty) (hv:PE X value tv) (hs:swapsWith value (some (.Subscript o i pos')) pos.line X.env=pure false) :
  PS X (.Assign [.Subscript o i pos'] value pos) (Qvm td ty tv):=by
 intro pins s σ H D I h;refine wpAny_Assign_Subscript (thn (hv pins s σ H _ I h) fun r s1 ⟨v,H1,I1,rv,q1⟩=>thn (ho pins s1 σ H1 _ I1 q1) fun u s2 ⟨x,H2,I2,rx,q2⟩=>thn (hi pins s2 σ H2 _ I2 q2) fun iv s3 ⟨y,H3,I3,ry,a,H4,ex,g,q3⟩=>?_) hs;subst ex;obtain rfl:u=Value.ref a:=rx
 exact QoS hu I3 g ry rv fun s4 I4=>⟨σ,H4,I4,q3⟩
end
theorem Qqe {P:Program}{w:World}{H:Hp} (h:Heap) (hb:sysModules < h.objs.size):Qbq P w H (h.push { cls:=.type "dict",data:=.dict #[] }) h.objs.size (.dT []) :=
 ⟨Nat.zero_le _,beq_eq_false_iff_ne.mpr (Ne.symm (zB hb)),[],.nil,_,#[],0,zH _ rfl,⟨rfl,rfl,rfl⟩,rfl,rfl,List.nodup_nil⟩
def Qt8:TE:=fun _ H Q=>∀p,H p=none→Q (.ref p) (upd H p (.dT []))
section
variable {X:Cx}{pos:Pos}
theorem Qp8:PE X (.Dict [] [] pos) Qt8:=fun pins s σ H Q I h =>
 wpAny_Dict_empty ⟨.ref s.heap.objs.size,_,I.laid (a:=s.heap.objs.size) (o:=.dT []) (t':=s.toks) (fun _ _ q=>zy _ q) (zb _) (Qqe s.heap I.big),rfl,h _ (I.hok.fresh (zb _))⟩
end
def QlT:List (TE×TE)→St→Hp→(List (V×V)→Hp→Prop)→Prop
 | [],_,H,Q=>Q [] H
 | (tk,tv)::r,σ,H,Q=>tk σ H fun x H1=>tv σ H1 fun y H2=>QlT r σ H2 fun ps H3=>Q ((x,y)::ps) H3
abbrev VV:List (V×V)→List (Value×Value)→Prop:=Paired fun p q=>RelV p.1 q.1∧RelV p.2 q.2
def PPs (X:Cx) (pos:Pos) (keys:List (Option Expr)) (values:List Expr) (trs:List (TE×TE)):Prop :=
 ∀(pins:List (Addr×Obj)) (s:Shared) (σ:St) (H:Hp) (Q:List (V×V)→Hp→Prop),Inv X pins σ H s→QlT trs σ H Q →
  wpAny (model X.prog X.w) X.A (evalPairs (pairTrees keys values X.env pos)) (fun vs s'=>∃ps H',Inv X pins σ H' s'∧VV ps vs∧Q ps H') X.xe s
structure M1 (X:Cx) (o:Expr) (m:Str) (apos:Pos) (e:Expr) (cpos:Pos):Prop where
 base:attributeBase o m X.env (eval o X.env)=eval o X.env
 few:((backTo cpos (starEach [e] X.env)).all (fun x=>!x.1)&&(backToKw cpos (keywordEach [] X.env)).all (fun x=>x.1.isSome)
  && decide (([e]:List Expr).length+([]:List Keyword).length+(if ([]:List Keyword).isEmpty then 0 else 1) < 30))=true
 line:(apos.endLine == cpos.line)=true
 trees:backTo cpos (starEach [e] X.env) = [(false,eval e X.env)]
structure M2 (X:Cx) (o:Expr) (m:Str) (apos:Pos) (e f:Expr) (cpos:Pos):Prop where
 base:attributeBase o m X.env (eval o X.env)=eval o X.env
 few:((backTo cpos (starEach [e,f] X.env)).all (fun x=>!x.1)&&(backToKw cpos (keywordEach [] X.env)).all (fun x=>x.1.isSome)
  && decide (([e,f]:List Expr).length+([]:List Keyword).length+(if ([]:List Keyword).isEmpty then 0 else 1) < 30))=true
 line:(apos.endLine == cpos.line)=true
 trees:backTo cpos (starEach [e,f] X.env) = [(false,eval e X.env),(false,eval f X.env)]
section
variable {X:Cx}{pins:List (Addr×Obj)}{σ:St}{H:Hp}{s:Shared}{a:Addr}{y d:V}{u r:Value}{o:Option V}{A:Around}{E:Value→Shared→Prop}
end
section
variable {X:Cx}{o e f:Expr}{apos cpos:Pos}{td ty tx:TE}
end
section
variable {X:Cx}{pins:List (Addr×Obj)}{σ:St}{H:Hp}{s:Shared}{a:Addr}{kvs:List (Key×V)}{A:Around}{E:Value→Shared→Prop}
end
section
variable {X:Cx}{pins:List (Addr×Obj)}{σ:St}{H:Hp}{s:Shared}{a:Addr}{y:V}{u:Value}{A:Around}{E:Value→Shared→Prop}
end
section
variable {X:Cx}
end
section
variable {κ:Type} [DecidableEq κ]
end
def QeE (cells:List (Str×Addr)):List (Str×NameKind)→List (Str×Addr)→List (Str×Addr)
 | [],acc=>acc
 | (n,k)::r,acc=>if k == .free then QeE cells r ((n,(cells.lookup n).getD 0)::acc) else QeE cells r acc
def Qe7 (scope:Scope) (env:Env):List (Str×Addr):=QeE env.cells scope.names []
theorem Qhm {scope:Scope}{env:Env} (hf:∀y∈scope.names,y.2 = .free→∃c,env.cells.lookup y.1=some c):closureFor scope env=pure (Qe7 scope env):=by
 simp only [closureFor,Qe7]
 generalize ([]:List (Str×Addr))=acc
 generalize scope.names=names at hf
 induction names generalizing acc with
 | nil=>rfl
 | cons y r ih =>
  obtain ⟨n,k⟩:=y
  have hr:=fun a=>ih a fun z hz=>hf z (zu _ hz)
  by_cases hk:k = .free
  ·obtain ⟨c,hc⟩:=hf (n,k) zq hk;have hc':env.cells.lookup n=some c:=hc;subst hk;simp only [List.forIn_cons,beq_self_eq_true,if_true,cellOf,hc',pure_bind,bind_assoc,QeE,Option.getD_some];exact hr _
  ·have hb:(k == NameKind.free)=false:=by simpa using hk
   simp only [List.forIn_cons,hb,Bool.false_eq_true,if_false,pure_bind,bind_assoc,QeE];exact hr _
theorem Qgu {cells:List (Str×Addr)}{x:Str}{c:Addr}:∀{names:List (Str×NameKind)}{acc:List (Str×Addr)},(QeE cells names acc).lookup x=some c→acc.lookup x=some c∨(∃k,(x,k)∈names∧k = .free∧(cells.lookup x).getD 0=c)
 | [],acc,h=>.inl h
 | (n,k)::r,acc,h=>by
  unfold QeE at h
  by_cases hk:k = .free
  ·subst hk;simp only [beq_self_eq_true,if_true] at h
   rcases Qgu h with z | ⟨k,hm,q⟩
   ·rw [List.lookup_cons] at z
    by_cases hx:x=n
    ·subst hx;simp at z;exact .inr ⟨.free,zq,rfl,z⟩
    ·have hb:(x == n)=false:=by simpa using hx
     rw [hb] at z;exact .inl z
   ·exact .inr ⟨k,zu _ hm,q⟩
  ·have hb:(k == NameKind.free)=false:=by simpa using hk
   simp only [hb,Bool.false_eq_true,if_false] at h
   rcases Qgu h with z | ⟨k,hm,q⟩
   ·exact .inl z
   ·exact .inr ⟨k,zu _ hm,q⟩
theorem Qfr {cells:List (Str×Addr)}{x:Str}:∀{names:List (Str×NameKind)}{acc:List (Str×Addr)},((∃c,acc.lookup x=some c)∨(x,NameKind.free)∈names)→∃c,(QeE cells names acc).lookup x=some c
 | [],acc,h=>by
  rcases h with h | h
  ·exact h
  ·cases h
 | (n,k)::r,acc,h=>by
  unfold QeE
  by_cases hk:k = .free
  ·subst hk;simp only [beq_self_eq_true,if_true];refine Qfr ?_
   by_cases hx:x=n
   ·subst hx;exact .inl ⟨(cells.lookup x).getD 0,by simp [List.lookup_cons]⟩
   ·have hb:(x == n)=false:=by simpa using hx
    rcases h with ⟨c,h⟩ | h
    ·exact .inl ⟨c,by rw [List.lookup_cons,hb]; exact h⟩
    ·rcases zn.mp h with e | h
     ·cases e; exact absurd rfl hx
     ·exact .inr h
  ·have hb:(k == NameKind.free)=false:=by simpa using hk
   simp only [hb,Bool.false_eq_true,if_false];refine Qfr ?_
   rcases h with h | h
   ·exact .inl h
   ·rcases zn.mp h with e | h
    ·cases e; exact absurd rfl hk
    ·exact .inr h
def QcU (scope sc0:Scope):List (Str×NameKind) :=
 scope.names.map fun (n,k)=>if (k == .free&&sc0.kind == .function&&sc0.names.lookup n == some .cell) then (n,.cell) else (n,k)
theorem QiD {scope sc0:Scope} (hc:∀y∈scope.names,y.2≠.cell) {x:Str}{k:NameKind} (h:(QcU scope sc0).lookup x=some k) (hk:k = .cell∨k = .free):(x,NameKind.free)∈scope.names:=by
 have hm:=PySem.mem_of_lookup h;unfold QcU at hm;obtain ⟨⟨n,k0⟩,h1,h2⟩:=zL.mp hm;dsimp only at h2
 by_cases hb:(k0 == NameKind.free&&sc0.kind == .function&&sc0.names.lookup n == some .cell)=true
 ·rw [if_pos hb] at h2
  have e:k0 = .free:=by
   simp only [zv,beq_iff_eq] at hb;exact hb.1.1
  cases h2;rw [←e]; exact h1
 ·rw [if_neg hb] at h2;cases h2
  rcases hk with e | e
  ·exact absurd e (hc _ h1)
  ·rw [←e]; exact h1
def QaQ (N0 own:List Str) (cap:List Nat):List Str:=own++cap.map fun j=>N0.getD j (Str.ofString "")
def compSt (own:List Str) (cap:List Nat) (σ:St):St:=own.map (fun _=>none)++cap.map fun j=>(σ[j]?).join
def Qe5 (sc0:Scope) (N0:List Str) (scope:Scope) (own:List Str) (cap:List Nat):Bool :=
 (scope.kind == .function)&&scope.names.all (fun y=>y.2 != .cell)&&scope.names.all (fun y=>y.2 != .local || scope.names.lookup y.1 == some .local) &&
 scope.names.all (fun y=>y.2 != .free || sc0.names.lookup y.1 == some .cell || sc0.names.lookup y.1 == some .free) &&
 cap.all fun j=>decide (j < N0.length)&&scope.names.contains (N0.getD j (Str.ofString ""),NameKind.free)&&((QcU scope sc0).lookup (N0.getD j (Str.ofString "")) == some .cell || (QcU scope sc0).lookup (N0.getD j (Str.ofString "")) == some .free)
structure Qez (sc0:Scope) (N0:List Str) (scope:Scope) (own:List Str) (cap:List Nat):Prop where
 kind:scope.kind = .function
 nocell:∀y∈scope.names,y.2≠.cell
 names:∀y∈scope.names,y.2 = .local→scope.names.lookup y.1=some .local
 free:∀y∈scope.names,y.2 = .free→sc0.names.lookup y.1=some .cell∨sc0.names.lookup y.1=some .free
 cap:∀j∈cap,j < N0.length∧(N0.getD j (Str.ofString ""),NameKind.free)∈scope.names∧((QcU scope sc0).lookup (N0.getD j (Str.ofString ""))=some .cell∨(QcU scope sc0).lookup (N0.getD j (Str.ofString ""))=some .free)
theorem Qez.of {sc0:Scope}{N0:List Str}{scope:Scope}{own:List Str}{cap:List Nat} (h:Qe5 sc0 N0 scope own cap=true):Qez sc0 N0 scope own cap:=by
 unfold Qe5 at h;simp only [zv,jm,beq_iff_eq,bne_iff_ne,ne_eq,Bool.or_eq_true,decide_eq_true_eq,List.contains_iff_mem] at h;obtain ⟨⟨⟨⟨h1,h2⟩,h3⟩,h4⟩,h5⟩:=h;refine ⟨h1,h2,fun y hy e=>?_,fun y hy e=>?_,fun j hj=>?_⟩
 ·rcases h3 y hy with z | z
  ·exact absurd e z
  ·exact z
 ·rcases h4 y hy with (z | z) | z
  ·exact absurd e z
  ·exact .inl z
  ·exact .inr z
 ·obtain ⟨⟨a,b⟩,c⟩:=h5 j hj;exact ⟨a,b,c⟩
def QaY (X:Cx) (scope:Scope) (C:Addr) (N':List Str) (s:Shared) (H:Hp) (ex:List Addr):Cx where
 prog:=X.prog
 w:=X.w
 K:=X.K
 mg:=X.mg
 base:=X.base
 A:=X.A
 N:=N'
 s₀:=s
 H₀:=H
 env:=compEnvC scope (Qe7 scope X.env) C X.env
 outer:=X.stack
 stack:=X.stack
 ex:=ex
 fn:=fun _=>false
 calm:=X.calm
 pn:=[]
 xe:=fun _ _=>False
section
variable {X:Cx}
def Qh5 (X:Cx) (ifs:List Expr) (t:TT):Prop :=
 ∀(pins:List (Addr×Obj)) (s:Shared) (σ:St) (H:Hp) (Q:Bool→Hp→Prop),Inv X pins σ H s→t σ H Q →
  wpAny (model X.prog X.w) X.A (forIn ifs true fun c r=>if r=true then do let ok ←isTrue c X.env (eval c X.env); pure (ForInStep.yield ok) else pure (ForInStep.yield r)) (TP X pins σ Q) X.xe s
def Qwd:TT:=fun _ H Q=>Q true H
theorem Qqo:Qh5 X [] Qwd:=fun _ _ _ H _ I h=>wpAny_tests_nil ⟨H,I,h⟩
theorem Qqb {c:Expr}{t:TT} (h:PT X c t):Qh5 X [c] t:=fun pins s σ H Q I q=>wpAny_tests_one (h pins s σ H Q I q)
end
def Qrg (J:It) (g:TG) (tt:TT) (te:TE) (Q:List V→Hp→Prop) (σ0:St) (H1:Hp):Prop :=
 ∃W:Nat→Nat→List V→St→Hp→Prop,(∃m,W 0 m [] σ0 H1)∧∀i m ys σ H,W i m ys σ H →
  (J.stop i H∧Q ys H)∨(J.go i H∧ys.length < sizeLine∧∃N:List V→St→Hp→Prop,(∀ys σ' H',N ys σ' H'→∃m',m' < m∧W (i+1) m' ys σ' H')∧∀x H',J.yld i H x H'→g x σ H' fun σ2 H2=>tt σ2 H2 fun b H3 =>
   if b=true then te σ2 H3 fun y H4=>N (ys ++ [y]) σ2 H4 else N ys σ2 H3)
def QkH (wi:TI) (own:List Str) (cap:List Nat) (g:TG) (tt:TT) (te:TE):TE:=fun σ H Q =>
 wi σ H fun J H1=>Qrg J g tt te (fun ys H'=>ys.length≤sizeLine∧∀p,H' p=none→Q (.ref p) (upd H' p (.lst ys))) (compSt own cap σ) H1
section
variable {prog:Program}{w:World}{A:Around}{R:Result→Shared→Prop}{s:Shared}
theorem Qhu {elt target iter:Expr}{ifs:List Expr}{scope:Scope}{pos:Pos}{it acc:Value}{env:Env} (I:Nat→Shared→Prop)
  (turn:∀n s,I n s→wpAny (model prog w) A (pyNext it) (fun r s₁=>match r with
   | none=>R (.ok .next) s₁
   | some v=>wpAny (model prog w) A (letOwnedTupleGo target it v) (fun _ s₁'=>wpAny (model prog w) A (assign target env v) (fun _ s₂ =>
     wpAny (model prog w) A (forIn ifs true fun c r=>if r=true then do let ok ←isTrue c env (eval c env); pure (ForInStep.yield ok) else pure (ForInStep.yield r)) (fun ok s₃ =>
      if ok=true then wpAny (model prog w) A (eval elt env) (fun x s₄ =>
       wpAny (model prog w) A (call (.builtin "list.append") [acc,x]) (fun _ s₅=>∃m,m < n∧I m s₅) (fun _ _=>False) s₄) (fun _ _=>False) s₃
      else ∃m,m < n∧I m s₃) (fun _ _=>False) s₂) (fun _ _=>False) s₁') (fun _ _=>False) s₁) (fun _ _=>False) s)
  (n:Nat) (h:I n s) :
  codeAny (model prog w) A (.compLoop (.ListComp elt [⟨target,iter,ifs,0⟩] scope pos) 0 it acc env) R s:=by
 refine codeAny_loop rfl I (fun n s hI=>?_) n h;show wpAny _ A ((compTurn (.ListComp elt [⟨target,iter,ifs,0⟩] scope pos) 0 it acc env).onRaise (fun x=>do noteFrame x env; theTreesLotGoes x)) _ _ s;refine wpAny_noted ?_;rw [compTurn_list];refine za (wpAny_standAt (za (zS (turn n s hI) (fun r s₁ h₁=>?_) fun _ _ h'=>h'.elim)))
 cases r with
 | none=>exact zc h₁
 | some v =>
  refine za (zS h₁ (fun _ s₁' h₁'=>?_) fun _ _ h'=>h'.elim);refine za (zS h₁' (fun _ s₂ h₂=>za (zS h₂ (fun ok s₃ h₃=>?_) fun _ _ h'=>h'.elim)) fun _ _ h'=>h'.elim)
  cases ok with
  | false=>exact zc ⟨rfl,h₃⟩
  | true =>
   exact za (za (zS h₃ (fun x s₄ h₄=>za (zS h₄ (fun _ s₅ h₅=>zc (zc ⟨rfl,h₅⟩)) fun _ _ h'=>h'.elim)) fun _ _ h'=>h'.elim))
end
section
variable {X:Cx}{pins:List (Addr×Obj)}{σ:St}{s2:Shared}{H2:Hp}{elt tg iter:Expr}{ifs:List Expr}{scope:Scope}{pos:Pos}{g:TG}{tt:TT}{te:TE}{sc0:Scope}{N0 own:List Str}{cap:List Nat}
 {it:Addr}{fp:List Addr}{tn:Nat→Heap→Prop}{J:It}
theorem Qi5 (I2:Inv X pins σ H2 s2) (hsc:X.env.scope=sc0) (ok:Qez sc0 N0 scope own cap):∀y∈scope.names,y.2 = .free→∃c,X.env.cells.lookup y.1=some c:=fun y hy e=>by
 refine I2.ok.has y.1 ?_;have q:=ok.free y hy e;rw [←hsc] at q;exact q
theorem Qct (I2:Inv X pins σ H2 s2) (hsc:X.env.scope=sc0) (ok:Qez sc0 N0 scope own cap) {x:Str}{c:Addr} (h:(Qe7 scope X.env).lookup x=some c):X.env.cells.lookup x=some c:=by
 rcases Qgu h with z | ⟨k,hm,hk,q⟩
 ·simp at z
 ·obtain ⟨c',e⟩:=Qi5 I2 hsc ok (x,k) hm hk;have e':X.env.cells.lookup x=some c':=e;rw [e'] at q;rw [e',←q]; rfl
theorem Qpc (I2:Inv X pins σ H2 s2) (hsc:X.env.scope=sc0) (ok:Qez sc0 N0 scope own cap) (T:Turn X.prog X.w X.K tg J fp it tn) (st2:tn 0 s2.heap) (f2:∀b∈fp,QeM X pins H2 b)
  (C:Addr) (hC:s2.heap.objs.size≤C):(QaY X scope C (QaQ N0 own cap) s2 H2 fp).Ok:=by
 have lt:∀b∈fp,b < s2.heap.objs.size:=fun b hb=>by
  obtain ⟨o,e,_⟩:=T.obj 0 _ st2 b hb;exact zf e
 have rel:(relabel scope X.env).names=QcU scope sc0:=by rw [←hsc]; rfl
 refine ⟨I2.ok.mod,ok.kind,I2.ok.glob,I2.ok.blt,hC,fun x y c h1 h2=>?_,fun x hx=>?_,fun x c hf _=>absurd hf (by simp [QaY]),I2.ok.hd,I2.ok.frames,.inl rfl,fun b hb=>⟨?_,fun x c h=>?_⟩,I2.bs,zD I2.ok.bsz I2.sz,
  fun b o e hb=>?_,fun b hb hz=>?_,I2.stack,I2.stkFree⟩
 ·exact I2.ok.inj x y c (Qct I2 hsc ok h1) (Qct I2 hsc ok h2)
 ·have hx':(QcU scope sc0).lookup x=some .cell∨(QcU scope sc0).lookup x=some .free:=by rw [←rel]; exact hx
  have hm:(x,NameKind.free)∈scope.names:=by
   rcases hx' with q | q
   ·exact QiD ok.nocell q (.inl rfl)
   ·exact QiD ok.nocell q (.inr rfl)
  exact Qfr (.inr hm)
 ·exact zB (zG (lt b hb) hC)
 ·exact (f2 b hb).2.2.2.2.1 x c (Qct I2 hsc ok h)
 ·rcases (f2 b hb).2.2.2.1 with z | z
  ·exact I2.ok.noex b o e z
  ·exact absurd (zG (zf e) (zD I2.ok.bsz z)) (zR _)
 ·rcases zn.mp (I2.stkSub b hz) with z | z
  ·exact (f2 b hb).2.1 z
  ·exact (f2 b hb).2.2.1 z
theorem Qqf (I2:Inv X pins σ H2 s2) (hsc:X.env.scope=sc0) (hN0:X.N=N0) (ok:Qez sc0 N0 scope own cap) (T:Turn X.prog X.w X.K tg J fp it tn) (st2:tn 0 s2.heap) (f2:∀b∈fp,QeM X pins H2 b)
  (C:Addr) (hC:s2.heap.objs.size≤C) {h₁:Heap}{tk:Nat}{m:Str→Option Value} (old:∀b o,s2.heap.get? b=some o→h₁.get? b=some o) (hns:h₁.Ns C m) :
  Inv (QaY X scope C (QaQ N0 own cap) s2 H2 fp) [] (compSt own cap σ) H2 { s2 with heap:=h₁,toks:=tk }:=by
 have rel:(relabel scope X.env).names=QcU scope sc0:=by rw [←hsc]; rfl
 refine ⟨Qpc I2 hsc ok T st2 f2 C hC,rfl,I2.bare,Un.kept old,⟨m,hns,fun i x v e1 e2 _=>?_⟩,fun x c h=>?_,I2.hok.fresh hC,fun x c h=>?_,fun p hp=>absurd (show p∈([]:List (Addr×Obj)) from hp) (by simp),I2.hok.kept old,?_⟩
 ·have e1':(QaQ N0 own cap)[i]? = some x:=e1;unfold QaQ at e1';unfold compSt at e2
  by_cases hi:i < own.length
  ·rw [zr (by simpa using hi),zm] at e2
   cases q:own[i]? with
   | none=>rw [q] at e2; cases e2
   | some z=>rw [q] at e2; cases e2
  ·rw [zE (by simpa using hi),zm] at e2;rw [zE (by simpa using hi),zm] at e1';rw [zd] at e2
   cases q:cap[i - own.length]? with
   | none=>rw [q] at e2; cases e2
   | some j =>
    rw [q] at e1' e2;have ex:N0.getD j (Str.ofString "")=x:=zF e1';have ev:(σ[j]?).join=some v:=zF e2;obtain ⟨hj,hm,hk⟩:=ok.cap j (zx q);rw [ex] at hm hk
    have eN:X.N[j]? = some x:=by
     rw [hN0,zh hj];rw [zY,zh hj] at ex;exact congrArg some ex
    have eσ:σ[j]? = some (some v):=by
     cases z:σ[j]? with
     | none=>rw [z] at ev; cases ev
     | some o=>rw [z] at ev; cases o with
      | none=>cases ev
      | some y=>exact congrArg some ev
    have kf:X.env.kindOf x=some .cell∨X.env.kindOf x=some .free:=by
     have z:=ok.free _ hm rfl;rw [←hsc] at z;exact z
    obtain ⟨m0,hn0,hl⟩:=I2.loc;obtain ⟨u,r,l⟩:=hl j x v eN eσ (kf.elim (fun z=>.inr (.inl z)) fun z=>.inr (.inr z));refine ⟨u,r,.inr ⟨?_,?_⟩⟩
    ·show (relabel scope X.env).names.lookup x=_∨(relabel scope X.env).names.lookup x=_;rw [rel]; exact hk
    ·rcases l with ⟨l,_⟩ | ⟨_,c,hc,⟨o,ho,hd⟩⟩
     ·rcases kf with z | z <;> (rw [z] at l; cases l)
     ·obtain ⟨c',hc'⟩:=Qfr (cells:=X.env.cells) (names:=scope.names) (acc:=[]) (.inr hm);have z:=Qct I2 hsc ok hc';rw [hc] at z;cases z;exact ⟨c,hc',o,old _ _ ho,hd⟩
 ·obtain ⟨v,o,ho,hd⟩:=I2.cell x c (Qct I2 hsc ok h);exact ⟨v,o,old _ _ ho,hd⟩
 ·exact I2.freeC x c (Qct I2 hsc ok h)
 ·show (compSt own cap σ).length=(QaQ N0 own cap).length;unfold compSt QaQ;simp
theorem Qjd {Q:List V→Hp→Prop}{RR:Value→Addr→Result→Shared→Prop}{E:Value→Shared→Prop} (hc:X.calm=true) (I2:Inv X pins σ H2 s2) (hsc:X.env.scope=sc0) (hN0:X.N=N0) (ok:Qez sc0 N0 scope own cap)
  (hg:∀C s H ex,PG (QaY X scope C (QaQ N0 own cap) s H ex) tg g) (ht:∀C s H ex,Qh5 (QaY X scope C (QaQ N0 own cap) s H ex) ifs tt) (he:∀C s H ex,PE (QaY X scope C (QaQ N0 own cap) s H ex) elt te)
  (T:Turn X.prog X.w X.K tg J fp it tn) (st2:tn 0 s2.heap) (f2:∀b∈fp,QeM X pins H2 b) (hW:Qrg J g tt te Q (compSt own cap σ) H2)
  (hRR:∀D C oC ys H' s',Inv X (pins ++ [(C,oC)]) σ (upd H' D (.lst ys)) s'→(∀h:Heap,h.get? C=some oC→∃m,h.Ns C m)→QeM X pins (upd H' D (.lst ys)) C→H' D=none→Q ys H'→RR (.ref D) C (.ok .next) s')
  (hQsz:∀ys H',Q ys H'→ys.length≤sizeLine) :
  wpAny (model X.prog X.w) X.A (newList []) (fun acc s₃=>wpAny (model X.prog X.w) X.A (newFunctionEnv scope X.env.globals (Qe7 scope X.env) [] X.env.qual none .none (some X.env)) (fun cenv s₄ =>
   codeAny (model X.prog X.w) X.A (.compStart (.ListComp elt [⟨tg,iter,ifs,0⟩] scope pos) 0 (.ref it) acc { cenv with scope:=relabel scope X.env }) (RR acc cenv.locals) s₄) E s₃) E s2:=by
 refine wpAny_newObj_type (wpAny_newFunctionEnv ok.nocell (by intro y hy; simp at hy) (fun h₁ hns₁ hsb₁=>?_) ok.kind);dsimp only at hns₁ hsb₁ ⊢
 generalize hP2:s2.heap.push { cls:=.type "list",dict:=none,data:=.seq ([]:List Value).toArray }=P2 at hns₁ hsb₁ ⊢
 have hC:P2.objs.size=s2.heap.objs.size+1:=by rw [←hP2,Heap.size_push]
 have hDC:s2.heap.objs.size≠P2.objs.size:=by rw [hC]; exact zB (ji _)
 have hCle:s2.heap.objs.size≤P2.objs.size:=by rw [hC]; exact Nat.le_succ _
 have below:∀b,b < s2.heap.objs.size→b≠P2.objs.size∧b≠s2.heap.objs.size:=fun b hb=>⟨by rw [hC]; exact zB (jk hb),zB hb⟩
 have ltf:∀b∈fp,b < s2.heap.objs.size:=fun b hb=>by
  obtain ⟨o,e,_⟩:=T.obj 0 _ st2 b hb;exact zf e
 have old:∀b o,s2.heap.get? b=some o→h₁.get? b=some o:=fun b o e=>hsb₁.extBut b o (below b (zf e)).1 (zy _ (hP2 ▸ zy _ e))
 have hacc:h₁.PlainList s2.heap.objs.size #[]:=⟨_,hsb₁.extBut _ _ hDC (zy _ (hP2 ▸ zH _ rfl))⟩
 have st₁:tn 0 h₁:=T.keep _ _ _ st2 fun b _ o e=>old b o e
 have hDno:∀b∈fp,s2.heap.objs.size≠b:=fun b hb=>(below b (ltf b hb)).2.symm
 generalize hXe:QaY X scope P2.objs.size (QaQ N0 own cap) s2 H2 fp=X'
 have loop:∀s₃:Shared,s₃ = { s2 with heap:=h₁,toks:=s2.toks+([]:List (Str×Value)).length } →
   codeAny (model X.prog X.w) X.A (.compLoop (.ListComp elt [⟨tg,iter,ifs,0⟩] scope pos) 0 (.ref it) (.ref s2.heap.objs.size) (compEnvC scope (Qe7 scope X.env) P2.objs.size X.env))
    (RR (.ref s2.heap.objs.size) P2.objs.size) s₃:=by
  rintro s₃ rfl;obtain ⟨W,⟨m0,w0⟩,turn⟩:=hW;subst hXe
  have stat:∀{H':Hp}{oD:Obj},(∀b∈fp,H' b=none)→∀b∈fp,QeM (QaY X scope P2.objs.size (QaQ N0 own cap) s2 H2 fp) [(s2.heap.objs.size,oD)] H' b:=fun {H' oD} hn b hb =>
   ⟨hn b hb,(below b (ltf b hb)).1,fun z=>by
    rcases zn.mp (I2.stkSub b z) with z | z
    ·exact (f2 b hb).2.1 z
    ·exact (f2 b hb).2.2.1 z,.inl hb,fun x c h=>(f2 b hb).2.2.2.2.1 x c (Qct I2 hsc ok h),fun p hp=>by
    have e:p=(s2.heap.objs.size,oD):=by simpa [QaY] using hp
    rw [e]; exact hDno b hb⟩
  have notcell:∀x c,(Qe7 scope X.env).lookup x=some c→c≠s2.heap.objs.size:=fun x c h z=>by
   obtain ⟨v,o,ho,hd⟩:=I2.cell x c (Qct I2 hsc ok h);exact absurd (zf ho) (by rw [z]; exact zR _)
  have nofs:s2.heap.objs.size∉frs X.stack:=fun z=>by
   rcases zn.mp (I2.stkSub _ z) with z | z
   ·exact absurd I2.lt (by rw [z]; exact zR _)
   ·exact I2.nofs (zb _) z
  have pinD:∀{σ':St}{H':Hp}{s':Shared}{its:Array Value}{k:Nat},Inv (QaY X scope P2.objs.size (QaQ N0 own cap) s2 H2 fp) [] σ' H' s'→H' s2.heap.objs.size=none →
    s'.heap.get? s2.heap.objs.size=some { cls:=.type "list",data:=.seq its k }→Inv (QaY X scope P2.objs.size (QaQ N0 own cap) s2 H2 fp) [(s2.heap.objs.size,{ cls:=.type "list",data:=.seq its k })] σ' H' s' :=
   fun {σ' H' s' its k} I hn hd=>I.pins_of fun p hp=>by
    have e:p=(s2.heap.objs.size,{ cls:=.type "list",data:=.seq its k }):=by simpa using hp
    subst e;exact ⟨hd,hn,hDC,nofs,fun v z=>by cases z⟩
  obtain ⟨k0,hk0⟩:=hacc;refine Qhu (env:=compEnvC scope (Qe7 scope X.env) P2.objs.size X.env)
   (fun n s'=>∃i ys its k σ' H',Inv (QaY X scope P2.objs.size (QaQ N0 own cap) s2 H2 fp) [(s2.heap.objs.size,{ cls:=.type "list",data:=.seq its k })] σ' H' s'∧tn i s'.heap∧(∀b∈fp,H' b=none)∧QaG ys its.toList∧W i n ys σ' H') ?_ m0
   ⟨0,[],#[],k0,_,H2,pinD (Qqf I2 hsc hN0 ok T st2 f2 _ hCle old hns₁) (I2.hok.fresh (zb _)) hk0,st₁,fun b hb=>(f2 b hb).1,.nil,w0⟩
  rintro n s3 ⟨i,ys,its,k,σ3,H3,I3,st3,fr3,hv,w3⟩
  rcases turn i n ys σ3 H3 w3 with ⟨stop,qn⟩ | ⟨go,hsz,N,hN,step⟩
  ·refine thn (T.done (QaY X scope P2.objs.size (QaQ N0 own cap) s2 H2 fp) rfl rfl rfl hc i _ s3 σ3 H3 _ I3 (stat fr3) st3 stop) fun r s4 ⟨hr,I4⟩=>?_
   subst hr;show RR _ _ (.ok .next) s4;obtain ⟨hd4,hn4,_⟩:=I4.pin (s2.heap.objs.size,{ cls:=.type "list",data:=.seq its k }) (by simp [QaY]);dsimp only at hd4 hn4;obtain ⟨m4,hns4,_⟩:=id I4.loc;have hns4':s4.heap.Ns P2.objs.size m4:=hns4;obtain ⟨oC,es,ep,hoC,rC⟩:=id hns4';have cne:P2.objs.size≠s2.heap.objs.size:=hDC.symm;have freeC:H3 P2.objs.size=none:=I4.free;have hchC:QeM X pins (upd H3 s2.heap.objs.size (.lst ys)) P2.objs.size:=I2.fpOk hCle (by rw [Qap cne]; exact freeC)
   have hlen:ys.length=its.size:=by have e:=hv.length; simpa using e
   have I5:Inv X pins σ (upd H3 s2.heap.objs.size (.lst ys)) s4:=by
    refine I2.call' (ch:=fp) I4.os ⟨I4.base.keep,I4.base.slot,fun b o e n hx=>?_,I4.base.there,fun b xs e=>?_,fun b o u e=>?_,fun b ps e=>?_⟩ (fun b u e=>?_) I4.bare fun b hb=>?_
    ·rw [Qap (zB (zf e))]; exact I4.base.free b o e n hx
    ·have q:=I4.base.tups b xs e;rw [Qap (QaD q hn4)]; exact q
    ·have q:=I4.base.frzs b o u e;rw [Qap (QaD q hn4)]; exact q
    ·obtain ⟨more,q⟩:=I4.base.tbls b ps e;exact ⟨more,by rw [Qap (QaD q hn4)]; exact q⟩
    ·by_cases hb:b=s2.heap.objs.size
     ·subst hb;rw [QaF] at e;cases e;exact ⟨hQsz ys H3 qn,its.toList,k,hv,by simpa using hd4⟩
     ·rw [Qap hb] at e
      exact (I4.hok b u e).stay (fun _ _ _ q=>q) (fun c q=>by rw [Qap (QaD q hn4)]; exact q) fun c xs q=>by rw [Qap (QaD q hn4)]; exact q
    ·obtain ⟨_,a2,_,a4,a5,a6⟩:=f2 b hb;exact ⟨a4,a2,a5,a6⟩
   refine hRR s2.heap.objs.size P2.objs.size oC ys H3 s4 (I5.pins_of fun p hp=>?_) (fun h e=>⟨m4,oC,es,ep,e,rC⟩) hchC hn4 qn
   rcases zz.mp hp with z | z
   ·exact I5.pin p (zI _ z)
   ·have e:p=(P2.objs.size,oC):=by simpa using z
    subst e
    exact ⟨hoC,hchC.1,hchC.2.1,hchC.2.2.1,fun v z=>by
     have:=rC.1
     rw [this] at z; cases z⟩
  ·refine thn (T.item (QaY X scope P2.objs.size (QaQ N0 own cap) s2 H2 fp) rfl rfl rfl hc i _ s3 σ3 H3 _ I3 (stat fr3) st3 go) fun r s4 ⟨u,hr,h4⟩=>?_
   subst hr
   refine thn h4 fun _ s5 ⟨x,H5,I5,r5,y5,st5,fr5⟩=>?_
   have I5':=I5.pinned (stat fr5) (T.obj _ _ st5)
   refine thn (hg _ _ _ _ _ s5 σ3 H5 x u _ I5' r5 (step x H5 y5)) fun _ s6 ⟨σ6,H6,I6,q6⟩=>?_
   refine thn (ht _ _ _ _ _ s6 σ6 H6 _ I6 q6) fun b s7 ⟨H7,I7,q7⟩=>?_
   have keepT:∀{σ':St}{H':Hp}{s':Shared},Inv (QaY X scope P2.objs.size (QaQ N0 own cap) s2 H2 fp) ([(s2.heap.objs.size,{ cls:=.type "list",data:=.seq its k })]++Qh6 fp s5.heap) σ' H' s'→tn (i+1) s'.heap∧∀b∈fp,H' b=none:=fun {σ' H' s'} I'=>by
    refine ⟨T.keep _ _ _ st5 fun b hb o e=>(I'.pin (b,o) (zI _ (zI _ (Qfw hb e)))).1,fun b hb=>?_⟩;obtain ⟨o,e,d⟩:=T.obj _ _ st5 b hb;exact (I'.pin (b,o) (zI _ (zI _ (Qfw hb e)))).2.1
   cases b with
   | false =>
    rw [if_neg zp] at q7 ⊢;obtain ⟨m',hm,w7⟩:=hN _ _ _ q7;obtain ⟨a,b⟩:=keepT I7;exact ⟨m',hm,i+1,ys,its,k,σ6,H7,I7.unpinned,a,b,hv,w7⟩
   | true =>
    rw [if_pos rfl] at q7 ⊢
    refine thn (he _ _ _ _ _ s7 σ6 H7 _ I7 q7) fun v s8 ⟨y,H8,I8,r8,q8⟩=>?_
    obtain ⟨m',hm,w8⟩:=hN _ _ _ q8;obtain ⟨a,b⟩:=keepT I8;obtain ⟨hd8,hn8,_⟩:=I8.pin (s2.heap.objs.size,{ cls:=.type "list",data:=.seq its k }) (by simp [QaY]);dsimp only at hd8 hn8
    have hl:its.size≤sizeLine:=by
     have e:=hv.length;simp at e;omega
    refine wpAny_list_append_plain (hsz:=hl) ⟨k,hd8⟩ fun h9 hl9 hs9=>?_
    obtain ⟨k9,hd9⟩:=hl9
    have I8':Inv (QaY X scope P2.objs.size (QaQ N0 own cap) s2 H2 fp) [] σ6 H8 s8:=I8.pins_of fun p hp=>absurd hp (by simp)
    have I9:Inv (QaY X scope P2.objs.size (QaQ N0 own cap) s2 H2 fp) [] σ6 H8 { s8 with heap:=h9 } :=
     I8'.turned (t':=s8.toks) (it:=s2.heap.objs.size) (fun b o hb e=>hs9.extBut b o hb e) hn8 hDC (.inr (zb _)) notcell (fun p hp=>absurd (show p∈([]:List (Addr×Obj)) from hp) (by simp))
    refine ⟨m',hm,i+1,ys ++ [y],its.push v,k9,σ6,H8,pinD I9 hn8 hd9,T.keep _ _ _ a fun b hb o e=>hs9.extBut b o (hDno b hb).symm e,b,?_,w8⟩;rw [Array.toList_push];exact hv.append (.cons r8 .nil)
 exact codeAny_compStart_list (loop _ rfl) (T.self _ 0 _ _ _ st₁ (loop _ rfl))
theorem QsS {wi:TI} (sc0:Scope) (N0 own:List Str) (cap:List Nat) (hc:X.calm=true) (hi:PI X tg iter wi)
  (hg:∀C s H ex,PG (QaY X scope C (QaQ N0 own cap) s H ex) tg g) (ht:∀C s H ex,Qh5 (QaY X scope C (QaQ N0 own cap) s H ex) ifs tt) (he:∀C s H ex,PE (QaY X scope C (QaQ N0 own cap) s H ex) elt te)
  (hsc:X.env.scope=sc0:=by rfl) (hN0:X.N=N0:=by rfl) (ok:Qe5 sc0 N0 scope own cap=true:=by decide +kernel) (hs:∀x,foldedSetIterable iter X.env x=pure x:=by intro _; rfl) :
  PE X (.ListComp elt [⟨tg,iter,ifs,0⟩] scope pos) (QkH wi own cap g tt te):=by
 intro pins s σ H Q I h;have ok:=Qez.of ok;rw [eval_ListComp];refine wpAny_comprehension_free (use:=none) rfl hs (Qhm (Qi5 I hsc ok)) ok.kind ok.names (thn (hi pins s σ H _ I h) fun xv s1 h1=>thn h1 fun itv s2 h2=>?_);obtain ⟨it,fp,tn,J,H2,e,I2,T,st2,f2,hW⟩:=h2;subst e
 refine Qjd (RR:=fun acc C=>compPost (model X.prog X.w) X.A X.xe none (EP X pins σ Q) acc C) hc I2 hsc hN0 ok hg ht he T st2 f2 hW (fun D C oC ys H' s' I' hns fpC hD q=>?_) fun ys H' q=>q.1
 obtain ⟨hC,hCn,_⟩:=I'.pin (C,oC) (by simp);obtain ⟨m,hm⟩:=hns _ hC;refine ⟨m,hm,fun h' hs'=>⟨.ref D,upd H' D (.lst ys),?_,rfl,q.2 D hD⟩⟩;obtain ⟨f0,f1,f2',f3,f4,f5⟩:=fpC;exact I'.unpinned.turned (t':=s'.toks) (it:=C) (fun b o hb e=>hs'.extBut b o hb e) f0 f1 f3 f4 f5
theorem Qj2 {wi:TI}{i:Nat}{x:Str}{pos' spos:Pos} (sc0:Scope) (N0 own:List Str) (cap:List Nat) (hN:X.N.Nodup) (hx:X.N[i]? = some x) (hl:Loc X.env.scope x) (hc:X.calm=true) (hi:PI X tg iter wi)
  (hg:∀C s H ex,PG (QaY X scope C (QaQ N0 own cap) s H ex) tg g) (ht:∀C s H ex,Qh5 (QaY X scope C (QaQ N0 own cap) s H ex) ifs tt) (he:∀C s H ex,PE (QaY X scope C (QaQ N0 own cap) s H ex) elt te)
  (hsw:swapsWith (.ListComp elt [⟨tg,iter,ifs,0⟩] scope pos) (some (.Name x pos')) spos.line X.env=pure true:=by rfl)
  (hf:X.fn x=true∨X.env.scope.names.lookup x=some .local:=by first | exact .inl rfl | exact .inr rfl | assumption)
  (hsc:X.env.scope=sc0:=by rfl) (hN0:X.N=N0:=by rfl) (ok:Qe5 sc0 N0 scope own cap=true:=by decide +kernel) (hs:∀x,foldedSetIterable iter X.env x=pure x:=by intro _; rfl) :
  PS X (.Assign [.Name x pos'] (.ListComp elt [⟨tg,iter,ifs,0⟩] scope pos) spos) (QlI (QkH wi own cap g tt te) (Qji i)):=by
 intro pins s σ H D I h;have ok:=Qez.of ok;rw [exec_Assign_Name_used _ _ _ _ hsw];refine za (wpAny_standAt (za ?_));show wpAny _ X.A (do let _ ←comprehension (.ListComp elt [⟨tg,iter,ifs,0⟩] scope pos) scope X.env _ (newList []) false (eval iter X.env) (some (assign (.Name x pos') X.env))) _ _ s
 refine za (zS (wpAny_comprehension_free (use:=some (assign (.Name x pos') X.env)) (Q:=fun _ s'=>SP X pins D .next s') rfl hs (Qhm (Qi5 I hsc ok)) ok.kind ok.names
  (thn (hi pins s σ H _ I h) fun xv s1 h1=>thn h1 fun itv s2 h2=>?_)) (fun _ s' hq=>zc (zc hq)) fun _ _ e=>e)
 obtain ⟨it,fp,tn,J,H2,e,I2,T,st2,f2,hW⟩:=h2;subst e
 refine Qjd (RR:=fun acc C=>compPost (model X.prog X.w) X.A X.xe (some (assign (.Name x pos') X.env)) (fun _ s'=>SP X pins D .next s') acc C) hc I2 hsc hN0 ok hg ht he T st2 f2 hW (fun Da C oC ys H' s' I' hns fpC hD q=>?_) fun ys H' q=>q.1
 show wpAny _ X.A (assign (.Name x pos') X.env (.ref Da)) _ _ _;refine wpAny_assign_Name (Qi0 (v:=.ref Da) I' hN hx hl rfl (fun s'' I''=>?_) hf);obtain ⟨hC,hCn,_⟩:=I''.pin (C,oC) (by simp);obtain ⟨m,hm⟩:=hns _ hC;refine ⟨m,hm,fun h' hs'=>⟨σ.set i (some (.ref Da)),upd H' Da (.lst ys),?_,q.2 Da hD⟩⟩;obtain ⟨f0,f1,f2',f3,f4,f5⟩:=fpC;exact I''.unpinned.turned (t':=s''.toks) (it:=C) (fun b o hb e=>hs'.extBut b o hb e) f0 f1 f3 f4 f5
end
def Can (P:Program) (w:World) (K:PySem.W.Frag) (mg:Str→Option Value) (base:Heap) (x:Str) (ps:List Str) (k:Nat) (sp:Sp):Prop :=
 ∃f fd,mg x=some (.ref f)∧PySem.W.keepIn K (.ref f)=true∧Binds K fd ps []∧QcV P w K mg base CX0 k f fd ps sp∧∃oc od osl,K.lookup f=some ⟨oc,od,.func fd,osl⟩
def Def (K:PySem.W.Frag) (mg:Str→Option Value) (x:Str) (st:Stmt):Prop:=∃f fd,mg x=some (.ref f)∧Fun K x x st f fd
section
variable {P:Program}{w:World}{K:PySem.W.Frag}{mg:Str→Option Value}{base:Heap}
theorem Def.can {x:Str}{st:Stmt}{N ps:List Str}{k:Nat}{sp:Sp} (D:Def K mg x st) (S:QaR N ps (Qas st))
  (hb:∀(kV doc pm:Value) (an:Option Addr) (cdv ct:Value) (us:List Value),us.length=ps.length→bindArgs (PySem.W.fnOf x x (QcH st) (QbO st) (Qas st) .none kV doc pm an cdv ct) ⟨us,[]⟩=pure (ps.zip us))
  (len:∀vs H Q E,sp vs H Q E→vs.length=ps.length)
  (hbody:∀(f:Addr) (cdv:Value) (A:Around) (outer:List Env) (s:Shared) (H:Hp) (vs:List V) (Q:VK) (E:XK),Qa6 k (A.deeper (envOfC x (Qas st) s.heap.objs.size f cdv))→sp vs H Q E →
   ∃t,PSs (Qge CX0 P w K mg base N x (Qas st) f cdv A outer s H E).nox (QbO st) t∧t { nx:=fun _ H'=>Q .non H',rt:=Q } (start N vs) H):Can P w K mg base x ps (k+1) sp:=by
 obtain ⟨f,fd,hm,F⟩:=D;obtain ⟨oc,od,_,_,_,_,_,_,osl,_,lk,_⟩:=F.ex;exact ⟨f,fd,hm,F.kp,F.binds hb,F.ok S len fun cdv A outer s H vs Q E hr h=>hbody f cdv A outer s H vs Q E hr h,oc,od,osl,lk⟩
end
section
variable {X:Cx}{k:Nat}{x:Str}{ps:List Str}{sp:Sp}{p pos:Pos}{e:Expr}{es:List Expr}{t:TA}
theorem Qtx (C:Can X.prog X.w X.K X.mg X.base x ps k sp) (hr:Qa6 k X.A) (ha:PA X (e::es) t) (hg:Gl X x:=by rfl) (hdb:(x == ("__debug__":Str))=false:=by decide)
  (he:starEach (e::es) X.env=(false,eval e X.env)::starEach es X.env:=by rfl) (hpl:(backTo pos (starEach es X.env)).any (·.1)=false:=by rfl) :
  PE X (.Call (.Name x p) (e::es) [] pos) (QnI sp [] E0 t):=by
 obtain ⟨f,fd,hm,hk,hb,F,_⟩:=C;exact Qsk F hr hg hm hk hb .nil QkP ha hdb he hpl
end
theorem Same.seqT {K:PySem.W.Frag}{H H':Hp}{a:Addr}{xs:List V} (e:Same H H') (h:SqT K H a xs):SqT K H' a xs:=by
 rcases h with (h | ⟨o,h⟩) | h
 ·exact .inl (.inl (e _ _ h))
 ·exact .inl (.inr ⟨o,e _ _ h⟩)
 ·exact .inr h
mutual
def Rep (K:PySem.W.Frag) (H:Hp):V→PyData→Prop
 | v,.none=>v = .non
 | v,.bool b=>v = .bl b
 | v,.int i=>v = .int i
 | v,.str x=>v = .str x
 | v,.list ds=>∃a xs,v = .ref a∧SqL K H a xs∧QbR K H xs ds
 | v,.tuple ds=>∃a xs,v = .ref a∧SqT K H a xs∧QbR K H xs ds
 | _,.dict _=>False
def QbR (K:PySem.W.Frag) (H:Hp):List V→List PyData→Prop
 | xs,[]=>xs = []
 | xs,d::ds=>∃x r,xs=x::r∧Rep K H x d∧QbR K H r ds
end
mutual
theorem Rep.mono {K:PySem.W.Frag}{H H':Hp} (e:Same H H'):∀(d:PyData) {v:V},Rep K H v d→Rep K H' v d
 | .none,v,h=>by rw [Rep] at h ⊢; exact h
 | .bool b,v,h=>by rw [Rep] at h ⊢; exact h
 | .int i,v,h=>by rw [Rep] at h ⊢; exact h
 | .str x,v,h=>by rw [Rep] at h ⊢; exact h
 | .list ds,v,h=>by
  rw [Rep] at h ⊢;obtain ⟨a,xs,h1,h2,h3⟩:=h;exact ⟨a,xs,h1,e.seq h2,QbR.mono e ds h3⟩
 | .tuple ds,v,h=>by
  rw [Rep] at h ⊢;obtain ⟨a,xs,h1,h2,h3⟩:=h;exact ⟨a,xs,h1,e.seqT h2,QbR.mono e ds h3⟩
 | .dict _,v,h=>by rw [Rep] at h; exact h.elim
theorem QbR.mono {K:PySem.W.Frag}{H H':Hp} (e:Same H H'):∀(ds:List PyData) {xs:List V},QbR K H xs ds→QbR K H' xs ds
 | [],xs,h=>by rw [QbR] at h ⊢; exact h
 | d::ds,xs,h=>by
  rw [QbR] at h ⊢;obtain ⟨x,r,h1,h2,h3⟩:=h;exact ⟨x,r,h1,Rep.mono e d h2,QbR.mono e ds h3⟩
end
theorem QbR.nil {K:PySem.W.Frag}{H:Hp}:QbR K H [] []:=by rw [QbR]
theorem QbR.cons {K:PySem.W.Frag}{H:Hp}{x:V}{xs:List V}{d:PyData}{ds:List PyData} (h:Rep K H x d) (hs:QbR K H xs ds):QbR K H (x::xs) (d::ds):=by
 rw [QbR]; exact ⟨x,xs,rfl,h,hs⟩
section
variable {X:Cx}{pins:List (Addr×Obj)}{σ:St}{H:Hp}{s:Shared}
mutual
theorem Rep.reads (I:Inv X pins σ H s):∀(d:PyData) {v:V}{u:Value},Rep X.K H v d→RelV v u→∃as,Reads s.heap u d as
 | .none,v,u,h,r=>by rw [Rep] at h; subst h; cases (show u = .none from r); exact ⟨_,.none⟩
 | .bool b,v,u,h,r=>by rw [Rep] at h; subst h; cases (show u = .bool b from r); exact ⟨_,.bool b⟩
 | .int i,v,u,h,r=>by rw [Rep] at h; subst h; obtain ⟨t,rfl⟩:=(show ∃t,u = .int i t from r); exact ⟨_,.int i t⟩
 | .str x,v,u,h,r=>by rw [Rep] at h; subst h; obtain ⟨t,rfl⟩:=(show ∃t,u = .str x t from r); exact ⟨_,.str x t⟩
 | .list ds,v,u,h,r=>by
  rw [Rep] at h;obtain ⟨a,xs,rfl,h2,h3⟩:=h;cases (show u = .ref a from r);obtain ⟨its,rv,pl,_⟩:=I.list h2;obtain ⟨as,q⟩:=QbR.reads I ds h3 rv;obtain ⟨o,ho,hc,n,hd⟩:=pl.isList;exact ⟨_,.list ho hc hd (by simpa using q)⟩
 | .tuple ds,v,u,h,r=>by
  rw [Rep] at h;obtain ⟨a,xs,rfl,h2,h3⟩:=h;cases (show u = .ref a from r);obtain ⟨its,rv,pl,_⟩:=I.tuple h2;obtain ⟨as,q⟩:=QbR.reads I ds h3 rv;obtain ⟨o,ho,hc,n,hd⟩:=pl;exact ⟨_,.tuple ho hc hd (by simpa using q)⟩
 | .dict _,v,u,h,r=>by rw [Rep] at h; exact h.elim
theorem QbR.reads (I:Inv X pins σ H s):∀(ds:List PyData) {xs:List V}{us:List Value},QbR X.K H xs ds→QaG xs us→∃as,ReadsAll s.heap us ds as
 | [],xs,us,h,r=>by rw [QbR] at h; subst h; cases r; exact ⟨_,.nil⟩
 | d::ds,xs,us,h,r=>by
  rw [QbR] at h;obtain ⟨x,rest,rfl,h2,h3⟩:=h
  cases r with
  | cons r1 r2 =>
   obtain ⟨as,q⟩:=Rep.reads I d h2 r1;obtain ⟨bs,q'⟩:=QbR.reads I ds h3 r2;exact ⟨_,.cons q q'⟩
end
end
def okD (d:PyData):Bool:=d.canLay0&&decide (d.depth≤60)
def Qqr (K:PySem.W.Frag) (neg:Bool):R2:=fun x y H Q=>∃d e,Rep K H x d∧Rep K H y e∧okD d=true∧okD e=true∧Q (.bl (if neg then !PyData.eqv d e else PyData.eqv d e)) H
section
variable {X:Cx}
theorem QsY {k:Nat} (hr:Qa6 k X.A):OpR X (compareOp .Eq) (Qqr X.K false):=by
 intro pins s σ H x y v u Q I rx ry h;obtain ⟨d,e,h1,h2,k1,k2,q⟩:=h;obtain ⟨as,r1⟩:=Rep.reads I d h1 rx;obtain ⟨bs,r2⟩:=Rep.reads I e h2 ry;unfold okD at k1 k2;simp only [zv,decide_eq_true_eq] at k1 k2;exact SeqAt.compareEq_reads r1 r2 k1.1 k2.1 (by have:=hr.units; omega) ⟨.bl _,H,I,rfl,q⟩
theorem Qoy {k:Nat} (hr:Qa6 k X.A):OpR X (compareOp .NotEq) (Qqr X.K true):=by
 intro pins s σ H x y v u Q I rx ry h;obtain ⟨d,e,h1,h2,k1,k2,q⟩:=h;obtain ⟨as,r1⟩:=Rep.reads I d h1 rx;obtain ⟨bs,r2⟩:=Rep.reads I e h2 ry;unfold okD at k1 k2;simp only [zv,decide_eq_true_eq] at k1 k2;exact SeqAt.compareNe_reads r1 r2 k1.1 k2.1 (by have:=hr.units; omega) ⟨.bl _,H,I,rfl,q⟩
end
def S (l:List Nat):Str:=⟨l.toArray⟩
theorem Qnd (l:List Nat):(S l).cps.toList=l:=by simp [S]
theorem Qb7 (l:List Nat):(S l).length=l.length:=by simp [S,Str.length]
theorem Qqx (a b:List Nat):S a++S b=S (a++b):=by
 show Str.mk _=Str.mk _;simp [S]
theorem QkM {a b:List Nat} (h:S a=S b):a=b:=by have:=congrArg (fun x:Str=>x.cps.toList) h; simpa [Qnd] using this
section
variable {X:Cx}
def Its (l:List Nat):It:=⟨fun i _=>i < l.length,fun i H x H'=>H'=H∧∃c,l[i]? = some c∧x = .str (S [c]),fun i _=>l.length≤i⟩
theorem Qqp {P:Program}{w:World}{K:PySem.W.Frag}{tg:Expr} (l:List Nat) (it:Addr) (t:Tok):Turn P w K tg (Its l) [it] it (fun i h=>h.IsStrIter it "str_ascii_iterator" (S l) t i) where
 mem:=by simp
 obj:=fun i h st b hb=>by
  have e:b=it:=by simpa using hb
  subst e;obtain ⟨o,e,c,d⟩:=st;exact ⟨o,e,fun v z=>by rw [d] at z; cases z⟩
 keep:=fun i h h' st k=>let ⟨o,ho,r⟩:=st; ⟨o,k it (by simp) o ho,r⟩
 item:=by
  intro X hP hw hK hc i pins s σ H E I hf st hg;subst hP hw hK;obtain ⟨f0,f1,f2,f3,f4,f5⟩:=hf it (by simp);have hg':i < l.length:=hg
  refine wpAny_pyNext_ascii_item st (c:=l[i]) (by simp [S,hg']) fun h' st' sb=>?_
  have I1:Inv X pins σ H { s with heap:=h',toks:=s.toks+1 }:=I.turned (fun b o hb e=>(sb.2 b hb).trans e) f0 f1 f3 f4 f5;obtain ⟨o,e,c,d⟩:=id st';exact ⟨_,rfl,Qiw (s:={ s with heap:=h',toks:=s.toks+1 }) e c d (by decide) ⟨.str (S [l[i]]),H,I1,⟨_,rfl⟩,⟨rfl,l[i],by simp [hg'],rfl⟩,st',fun b hb=>(hf b hb).1⟩⟩
 done:=by
  intro X hP hw hK hc i pins s σ H E I hf st hg;subst hP hw hK;obtain ⟨f0,f1,f2,f3,f4,f5⟩:=hf it (by simp);have hg':l.length≤i:=hg
  exact wpAny_pyNext_ascii_end (I.ok.hd hc) st (by simp [S,hg']) fun h' eb=>⟨rfl,I.turned (t':=s.toks) (fun b o hb e=>eb b o hb e) f0 f1 f3 f4 f5⟩
 self:=fun _ _ _ _ _ st h=>wpAny_pyIter_striter_ascii st h
def ascii (l:List Nat):Bool:=l.all (· < 128)
def QwI (tl:TE):TI:=fun σ H R=>tl σ H fun x H1=>∃l,x = .str (S l)∧ascii l=true∧R (Its l) H1
theorem QtE {tg e:Expr}{tl:TE} (hl:PE X e tl):PI X tg e (QwI tl):=by
 intro pins s σ H R I h
 refine thn (hl pins s σ H _ I h) fun v s1 ⟨x,H1,I1,r1,q1⟩=>?_
 obtain ⟨l,e,ha,q⟩:=q1;subst e;obtain ⟨t,rfl⟩:=r1;refine wpAny_pyIter_ascii (by simpa [S,ascii] using ha) ?_;refine ⟨s1.heap.objs.size,[s1.heap.objs.size],_,_,H1,rfl,I1.kept (t':=s1.toks) fun b o e=>zy _ e,Qqp l _ t,⟨_,zH _ rfl,rfl,rfl⟩,fun b hb=>?_,q⟩
 have e:b=s1.heap.objs.size:=by simpa using hb
 subst e;exact I1.fpOk (zb _) (I1.hok.fresh (zb _))
end
structure Blt (mg:Str→Option Value):Prop where
 len_:mg "len" = none
 isinstance_:mg "isinstance" = none
 all_:mg "all" = none
 sum_:mg "sum" = none
 max_:mg "max" = none
 min_:mg "min" = none
 int_:mg "int" = none
 str_:mg "str" = none
 bool_:mg "bool" = none
 list_:mg "list" = none
 tuple_:mg "tuple" = none
 dict_:mg "dict" = none
 range_:mg "range" = none
 enumerate_:mg "enumerate" = none
 zip_:mg "zip" = none
section
variable {X:Cx}
theorem QpH {x:Str}{v:V}{pos:Pos} (h:∃u,X.mg x=some u∧RelV v u) (hg:Gl X x:=by rfl) (hd:(x == ("__debug__":Str))=false:=by decide):PE X (.Name x pos) (tC v):=by
 obtain ⟨u,hm,r⟩:=h;exact Qrx hg hm r hd
end
def Qc2 {α:Type} (l:List α) (lo hi:Option Int):List α:=(l.drop (HT.sIx l.length 0 lo)).take (HT.sIx l.length l.length hi - HT.sIx l.length 0 lo)
theorem QmL (l:List Nat) (lo hi:Option Int):Txt.slice (S l) lo hi=S (Qc2 l lo hi):=by
 obtain ⟨h1,h2,h3⟩:=Qh4 lo hi l.length
 have e:Builtin.Str.strSliceIndices lo hi 1 (S l).length=(List.range (HT.sIx l.length l.length hi - HT.sIx l.length 0 lo)).map (HT.sIx l.length 0 lo + ·):=by
  rw [Qb7];show sliceRange (sliceBounds lo hi none l.length).1 (sliceBounds lo hi none l.length).2.1 (sliceBounds lo hi none l.length).2.2=_;rw [h1,h2,h3,sliceRange_one]
 unfold Txt.slice;rw [e,pick_run,Qnd]
 split
 ·rename_i h
  have hl:HT.sIx l.length l.length hi - HT.sIx l.length 0 lo=l.length:=by simpa [Qb7] using h
  have hle:HT.sIx l.length l.length hi≤l.length:=HT.sIx_le _ _ (zb _) hi;have hlo:HT.sIx l.length 0 lo≤l.length:=HT.sIx_le _ _ (Nat.zero_le _) lo
  have h0:HT.sIx l.length 0 lo=0:=by omega
  have h1:HT.sIx l.length l.length hi=l.length:=by omega
  unfold Qc2;rw [h0,h1];simp
 ·rfl
section
variable {X:Cx}
def Qwg:V→Option Int→Option Int→Hp→VK→Prop:=fun x lo hi H Q=>∃l,x = .str (S l)∧l.length≤sizeLine∧Q (.str (S (Qc2 l lo hi))) H
theorem part_of {v:Value}{o:Option Int} (p:IsPart v o):∃q:Option (Int×Tok),v=partValue q∧q.map (·.1)=o:=by
 cases p with
 | none=>exact ⟨none,rfl,rfl⟩
 | int i t=>exact ⟨some (i,t),rfl,rfl⟩
theorem Qt5:SlR X Qwg:=by
 intro pins s σ H x v vl vu lo hi sl Q I rx hs pl pu h;obtain ⟨l,rfl,hz,q⟩:=h;obtain ⟨t,rfl⟩:=rx;obtain ⟨ql,rfl,e1⟩:=part_of pl;obtain ⟨qu,rfl,e2⟩:=part_of pu;refine ⟨"str",_,F.slot_str_getitem.lookup,typeIs_str _ _ _,?_⟩;refine wpAny_getItem_str_slice (l:=ql) (u:=qu) (st:=none) hs rfl ?_;have key:(if ((1:Int) == 1&&(Builtin.Str.strSliceIndices lo hi 1 (S l).length).length == (S l).length)=true then S l else ⟨((Builtin.Str.strSliceIndices lo hi 1 (S l).length).filterMap ((S l).cps[·]?)).toArray⟩)=S (Qc2 l lo hi):=QmL l lo hi;unfold sliceMade slicePicked;rw [e1,e2];refine post_val_or_str ⟨?_,fun t' k=>?_⟩
 ·show (Txt.slice (S l) lo hi).length≤_;exact zD (Txt.slice_le _ _ _) (by rw [Qb7]; exact hz)
 ·have e3:=QmL l lo hi;unfold Txt.slice at e3;show EP X pins σ Q (.str (if ((1:Int) == 1&&(Builtin.Str.strSliceIndices lo hi 1 (S l).length).length == (S l).length)=true then S l else ⟨((Builtin.Str.strSliceIndices lo hi 1 (S l).length).filterMap ((S l).cps[·]?)).toArray⟩) t') { s with toks:=k };rw [e3];exact ⟨.str _,H,I.tok k,⟨t',rfl⟩,q⟩
end
namespace HT2
theorem getItem_tuple_whole {prog:Program}{w:World}{A:Around}{E:Value→Shared→Prop}{s:Shared}{t sl:Addr}{items:Array Value}{vl vu:Value}{lo hi:Option Int}{Q:Value→Shared→Prop} (ht:IsTup s.heap t items) (hs:s.heap.IsSliceOf sl vl vu .none) (pl:IsPart vl lo) (pu:IsPart vu hi)
  (hw:HT.sIx items.size 0 lo=0∧HT.sIx items.size items.size hi=items.size) (h:Q (.ref t) s):wpAny (model prog w) A (getItem (.ref t) (.ref sl)) Q E s:=by
 obtain ⟨os,hos,hcs,hds⟩:=id hs;have hTs:s.TypeIs (.ref sl) "slice":=⟨os,hos,hcs⟩;unfold getItem
 try with_reducible refine zT ?_
 first | refine za (zc ?_) | skip
 refine za (wpAny_sequenceKey ht.typeIs (by decide) ?_)
 refine za (wpAny_callSpecial?_slot (name:=Str.ofString "__getitem__") ht.typeIs PyProof.Rows.slot_tuple_getitem
  (wpAny_call_entry PyProof.Rows.slot_tuple_getitem ht.typeIs entry_tuple_getitem ?_ (args_tuple_getitem _ _)))
 show wpAny _ _ (Builtin.Tuple.tupleItemsOf (.ref t) >>= _) _ _ s;refine za (tupleItemsOf_ ht ?_);refine za (wpAny_typeOf hTs ?_);rw [if_pos (by decide)];refine za (HT.sliceApplied_gen hs pl pu ?_)
 have hyes:(((HT.sIx items.size 0 lo:Nat):Int) == 0&&(1:Int) == 1&&(HT.sIx items.size items.size hi - HT.sIx items.size 0 lo) == items.size)=true:=by
  rw [hw.1,hw.2];simp
 show wpAny _ _ (if (((HT.sIx items.size 0 lo:Nat):Int) == 0&&(1:Int) == 1&&(HT.sIx items.size items.size hi - HT.sIx items.size 0 lo) == items.size)=true then _ else _) _ _ s;rw [if_pos hyes]
 have hex:∀{A':Around}{E':Value→Shared→Prop}{Q':Bool→Shared→Prop},Q' true s→wpAny (model prog w) A' (Builtin.Tuple.tupleIsExact (.ref t)) Q' E' s:=fun {A' E' Q'} hq=>by
  unfold Builtin.Tuple.tupleIsExact;exact za (wpAny_typeOf ht.typeIs (zc hq))
 refine za (hex ?_);rw [if_pos rfl];exact za (wpAny_rule (zc ⟨_,rfl,zc h⟩))
end HT2
section
variable {X:Cx}
def Qu3 (K:PySem.W.Frag):V→Option Int→Option Int→Hp→VK→Prop:=fun x lo hi H Q=>∃a xs,x = .ref a∧SqT K H a xs ∧
 ((HT.sIx xs.length 0 lo=0∧HT.sIx xs.length xs.length hi=xs.length)→Q (.ref a) H)∧(¬(HT.sIx xs.length 0 lo=0∧HT.sIx xs.length xs.length hi=xs.length)→∀p,H p=none→Q (.ref p) (upd H p (.tup (Qhg xs lo hi))))
theorem QsG (K:PySem.W.Frag) (hK:X.K=K:=by rfl):SlR X (Qu3 K):=by
 subst hK;intro pins s σ H x v vl vu lo hi sl Q I rx hs pl pu h;obtain ⟨a,xs,rfl,hx,q1,q2⟩:=h
 by_cases hw:HT.sIx xs.length 0 lo=0∧HT.sIx xs.length xs.length hi=xs.length
 ·cases rx;obtain ⟨its,r,ht,hz⟩:=I.tuple hx
  have hlen:its.toArray.size=xs.length:=by rw [zt]; exact r.length.symm
  exact ⟨"tuple",_,PyProof.Rows.slot_tuple_getitem.lookup,ht.typeIs,HT2.getItem_tuple_whole ht hs pl pu (by rw [hlen]; exact hw) ⟨.ref a,H,I,rfl,q1 hw⟩⟩
 ·exact QtP pins s σ H _ v vl vu lo hi sl Q I rx hs pl pu ⟨a,xs,rfl,hx,hw,q2 hw⟩
inductive TyQ (K:PySem.W.Frag) (H:Hp):V→String→Prop where
 | non:TyQ K H .non "NoneType"
 | bl (x:Bool):TyQ K H (.bl x) "bool"
 | int (i:Int):TyQ K H (.int i) "int"
 | str (x:Str):TyQ K H (.str x) "str"
 | lst {a:Addr}{xs:List V} (e:SqL K H a xs):TyQ K H (.ref a) "list"
 | tup {a:Addr}{xs:List V} (e:SqT K H a xs):TyQ K H (.ref a) "tuple"
 | dK {a:Addr}{kvs:List (Key×V)} (e:H a=some (.dK kvs)):TyQ K H (.ref a) "dict"
def Qwf (K:PySem.W.Frag):List V→Hp→VK→Prop:=fun xs H Q=>∃x n t b,xs = [x,.ty n]∧TyQ K H x t∧PySem.W.kitOne K (.type t) (.type n)=some b∧Q (.bl b) H
theorem Qob (K:PySem.W.Frag) (hK:X.K=K:=by rfl):Qgg X (.builtin "isinstance") (Qwf K):=by
 subst hK;intro pins s σ H xs us Q I r h;obtain ⟨x,n,t,b,rfl,ty,e,q⟩:=h;obtain ⟨u,c,rfl,r1,r2⟩:=vals2 r;cases (show c = .type n from r2)
 have fin:∀tk,EP X pins σ Q (.bool b) { s with toks:=tk }:=fun tk=>⟨.bl b,H,I.tok tk,rfl,q⟩
 cases ty with
 | non=>exact Qfa I r1 .non e fin
 | bl y=>exact Qfa I r1 (.bl y) e fin
 | int i=>exact Qfa I r1 (.int i) e fin
 | str y=>exact Qfa I r1 (.str y) e fin
 | @lst a xs ea =>
  cases (show u=Value.ref a from r1);obtain ⟨its,_,p,_⟩:=I.list ea;obtain ⟨o,ho,hc,_⟩:=p.isList;exact PySem.W.kia_one PySem.W.kitx_list I.kIn ⟨o,ho,hc⟩ e (fun z=>nomatch z) fin
 | @tup a xs ea =>
  cases (show u=Value.ref a from r1);obtain ⟨its,_,p,_⟩:=I.tuple ea;obtain ⟨o,ho,hc,_⟩:=p;exact PySem.W.kia_one PySem.W.kitx_tuple I.kIn ⟨o,ho,hc⟩ e (fun z=>nomatch z) fin
 | @dK a kvs ea=>exact Qfa I r1 (.dK ea) e fin
theorem QpS (K:PySem.W.Frag) (n:String):PySem.W.kitOne K (.type n) (.type n)=some true:=by
 unfold PySem.W.kitOne;rw [if_pos (beq_self_eq_true _)]
end
theorem QmQ:∀{ds:List PyData},(∀d∈ds,d.canLay0=true)→PyData.canLayAll0 ds=true
 | [],_=>rfl
 | d::ds,h=>by rw [PyData.canLayAll0,h d zq,QmQ fun x hx=>h x (zu _ hx)]; rfl
theorem Qg3 {n:Nat}:∀{ds:List PyData},(∀d∈ds,d.depth≤n)→PyData.depthAll ds≤n
 | [],_=>by rw [PyData.depthAll]; exact Nat.zero_le _
 | d::ds,h=>by
  rw [PyData.depthAll];exact Nat.max_le.mpr ⟨h d zq,Qg3 fun x hx=>h x (zu _ hx)⟩
theorem Qr4 {n:Nat} (hn:n < 60) {ds:List PyData} (h:∀d∈ds,d.canLay0=true∧d.depth≤n):okD (.list ds)=true:=by
 unfold okD;rw [zv];refine ⟨?_,zw ?_⟩
 ·show PyData.canLayAll0 ds=true
  exact QmQ fun d hd=>(h d hd).1
 ·show PyData.depthAll ds+1≤60
  have:=Qg3 fun d hd=>(h d hd).2
  omega
section
variable {X:Cx}
def Qvp:R2:=fun x y H Q=>∃(l:List Nat) (n:Int),x = .str (S l)∧y = .int n∧-1000000 < n∧n < 1000000∧l.length * n.toNat≤16777216∧Q (.str (S (List.replicate n.toNat l).flatten)) H
theorem Qq8 (l:List Nat):∀(n:Nat) (a:Array Nat),(List.replicate n (S l).cps).foldl (· ++ ·) a=a++(List.replicate n l).flatten.toArray
 | 0,a=>by simp
 | n+1,a=>by
  rw [List.replicate_succ,List.foldl_cons,Qq8 l n,List.replicate_succ,List.flatten_cons];simp [S]
theorem QnC:OpR X (binaryOp .Mult) Qvp:=by
 intro pins s σ H x y v u Q I rx ry h;obtain ⟨l,n,rfl,rfl,h1,h2,h3,q⟩:=h;obtain ⟨t,rfl⟩:=rx;obtain ⟨t',rfl⟩:=ry;have hs:sizeLine=16777216:=sizeLine_eq
 by_cases hn:n < 1
 ·have e0:n.toNat=0:=by omega
  rw [e0] at q;exact P.mul_str_none hn (by omega) ⟨.str (S []),H,I.tok _,⟨s.toks,rfl⟩,q⟩
 refine P.mul_str ?_ (fun _ _=>?_) (fun _ _=>?_) ?_
 ·rw [zk (by omega),zk (by omega)];rfl
 ·rw [Qb7];intro hz
  have h4:(l.length:Int) * n≤16777216:=by
   have:((l.length * n.toNat:Nat):Int)≤16777216:=by omega
   rw [Int.natCast_mul,Int.toNat_of_nonneg (by omega)] at this;exact this
  have h5:(2 ^ 63 - 1) / n < (l.length:Int):=hz;have h6:=(Int.ediv_lt_iff_lt_mul (show 0 < n by omega)).mp h5;omega
 ·rw [Qb7];unfold Builtin.Str.tooLong;exact zk (by omega)
 ·rw [if_neg (by omega)]
  by_cases hl:(n == 1 || (S l).length == 0)=true
  ·rw [if_pos hl]
   have e:(List.replicate n.toNat l).flatten=l:=by
    rw [Bool.or_eq_true,beq_iff_eq,beq_iff_eq,Qb7] at hl
    rcases hl with z | z
    ·rw [z];show (List.replicate 1 l).flatten=l;simp
    ·have z':=List.eq_nil_of_length_eq_zero z;subst z';rw [List.flatten_eq_nil_iff];intro x hx;exact (List.mem_replicate.mp hx).2
   rw [e] at q;exact ⟨.str (S l),H,I,⟨t,rfl⟩,q⟩
  ·rw [if_neg hl,Qq8];refine ⟨?_,.str (S (List.replicate n.toNat l).flatten),H,I.tok _,⟨s.toks,?_⟩,q⟩
   ·show (#[]++(List.replicate n.toNat l).flatten.toArray).size≤sizeLine;simp only [Array.size_append,zt,List.length_flatten,List.map_replicate,List.sum_replicate_nat];simp;rw [Nat.mul_comm];omega
   ·congr 1;simp [S]
end
inductive D where
 | non | bl (b:Bool) | int (i:Int) | str (l:List Nat) | lst (ds:List D) | tup (ds:List D) | dic (ks vs:List D) | ob (n:Nat)
inductive Ob where
 | ins (c:Str) (fs:List (Str×D))
 | ml (ds:List D)
 | dt (kvs:List (List Key×D))
 | df (kvs:List (List Key×D))
abbrev Qac:=List Ob
abbrev Qah:=List (Option D)
structure Xc where
 cls:Str
 fs:List (Str×D)
inductive Res (α:Type) where
 | ok (a:α) (O:Qac) | ex (x:Xc) (O:Qac) | no
inductive Fl where
 | nx (ρ:Qah) (O:Qac) | rt (d:D) (O:Qac) | bk (ρ:Qah) (O:Qac) | ct (ρ:Qah) (O:Qac) | ex (x:Xc) (O:Qac) | no
abbrev M (α:Type):=Qah→Qac→Res α
abbrev MS:=Qah→Qac→Fl
def Res.bind {α β:Type} (r:Res α) (f:α→Qac→Res β):Res β:=match r with
 | .ok a O=>f a O
 | .ex x O=>.ex x O
 | .no=>.no
theorem Res.bind_ok {α β:Type}{r:Res α}{f:α→Qac→Res β}{b:β}{O':Qac} (h:r.bind f = .ok b O'):∃a O,r = .ok a O∧f a O = .ok b O':=by
 cases r with
 | ok a O=>exact ⟨a,O,rfl,h⟩
 | ex x O=>cases h
 | no=>cases h
def Qlz:Expr→Bool
 | .Starred _ _=>false
 | _=>true
theorem Qbn {e:Expr}{es:List Expr}{env:Env} (h:Qlz e=true):starEach (e::es) env=(false,eval e env)::starEach es env:=by
 cases e <;> first | rfl | cases h
theorem QbF {pos:Pos}{env:Env}:∀{es:List Expr},es.all Qlz=true→(backTo pos (starEach es env)).any (·.1)=false
 | [],_=>by simp [starEach,backTo]
 | e::es,h=>by
  rw [List.all_cons,zv] at h;rw [Qbn h.1];show (false || (backTo pos (starEach es env)).any (·.1))=false;rw [QbF h.2];rfl
theorem Qfz {e:Expr}{env:Env} (h:Qlz e=true):starEach [e] env = [(false,eval e env)]:=by rw [Qbn h]; simp [starEach]
abbrev Frag:=PySem.W.Frag
def QnP:Key→D
 | .inl i=>.int i
 | .inr x=>.str x.cps.toList
def RdK (K:Frag) (H:Hp) (a:Addr) (xs:List V):Prop:=Rd H a (.lst xs)∨∃(its:List Value) (n:Nat),K.lookup a=some { cls:=.type "list",data:=.seq its.toArray n }∧its.length≤sizeLine∧QaG xs its
theorem RdK.sq {K:Frag}{H:Hp}{a:Addr}{xs:List V} (h:RdK K H a xs):SqL K H a xs:=by
 rcases h with h | ⟨its,n,h1,h2,h3⟩
 ·exact .inl h
 ·exact .inr ⟨_,its.toArray,n,h1,rfl,rfl,rfl,by simpa using h2,by simpa using h3⟩
theorem RdK.ok {X:Cx}{pins:List (Addr×Obj)}{σ:St}{H:Hp}{s:Shared}{a:Addr}{xs:List V} (h:RdK X.K H a xs) (I:Inv X pins σ H s):xs.length≤sizeLine∧∃(its:List Value) (n:Nat),QaG xs its∧s.heap.get? a=some { cls:=.type "list",data:=.seq its.toArray n }:=by
 rcases h with h | ⟨its,n,h1,h2,h3⟩
 ·exact h.ok I.hok
 ·exact ⟨by rw [h3.length]; exact h2,its,n,h3,I.kIn a _ h1⟩
def TqT (K:Frag) (F:Hp) (a:Addr) (xs:List V):Prop :=
 F a=some (.tup xs)∨∃(o:Obj) (its:Array Value) (n:Nat),K.lookup a=some o∧o.cls = .type "tuple"∧o.data = .seq its n∧its.size≤sizeLine∧QaG xs its.toList
theorem TqT.sq {K:Frag}{F:Hp}{a:Addr}{xs:List V} (h:TqT K F a xs):SqT K F a xs:=h.imp .inl id
mutual
def Rp (K:Frag) (F:Hp) (as:List Addr):V→D→Prop
 | v,.non=>v = .non
 | v,.bl b=>v = .bl b
 | v,.int i=>v = .int i
 | v,.str l=>v = .str (S l)
 | v,.lst ds=>∃a xs,v = .ref a∧RdK K F a xs∧Rps K F as xs ds
 | v,.tup ds=>∃a xs,v = .ref a∧TqT K F a xs∧Rps K F as xs ds
 | v,.dic ks vs=>∃(a:Addr) (kvs:List (Key×V)),v = .ref a∧F a=some (.dK kvs)∧ks=kvs.map (fun p=>QnP p.1)∧Rps K F as (kvs.map (·.2)) vs
 | v,.ob n=>∃a,v = .ref a∧as[n]? = some a
def Rps (K:Frag) (F:Hp) (as:List Addr):List V→List D→Prop
 | xs,[]=>xs = []
 | xs,d::ds=>∃x r,xs=x::r∧Rp K F as x d∧Rps K F as r ds
end
section
variable {K:Frag}{F F':Hp}{as as':List Addr}
theorem Rd.mono {H H':Hp}{a:Addr}{u:HO} (e:Same H H') (h:Rd H a u):Rd H' a u:=by
 rcases h with h | ⟨o,h⟩
 ·exact .inl (e _ _ h)
 ·exact .inr ⟨o,e _ _ h⟩
theorem RdK.mono {H H':Hp}{a:Addr}{xs:List V} (e:Same H H') (h:RdK K H a xs):RdK K H' a xs:=h.imp (fun z=>z.mono e) id
mutual
theorem Rp.mono (e:Same F F') (ea:∀(n:Nat) (a:Addr),as[n]? = some a→as'[n]? = some a):∀(d:D) {v:V},Rp K F as v d→Rp K F' as' v d
 | .non,v,h=>by rw [Rp] at h ⊢; exact h
 | .bl b,v,h=>by rw [Rp] at h ⊢; exact h
 | .int i,v,h=>by rw [Rp] at h ⊢; exact h
 | .str x,v,h=>by rw [Rp] at h ⊢; exact h
 | .lst ds,v,h=>by
  rw [Rp] at h ⊢;obtain ⟨a,xs,h1,h2,h3⟩:=h;exact ⟨a,xs,h1,h2.mono e,Rps.mono e ea ds h3⟩
 | .tup ds,v,h=>by
  rw [Rp] at h ⊢;obtain ⟨a,xs,h1,h2,h3⟩:=h;exact ⟨a,xs,h1,h2.imp (e _ _) id,Rps.mono e ea ds h3⟩
 | .dic ks vs,v,h=>by
  rw [Rp] at h ⊢;obtain ⟨a,kvs,h1,h2,h3,h4⟩:=h;exact ⟨a,kvs,h1,e _ _ h2,h3,Rps.mono e ea vs h4⟩
 | .ob n,v,h=>by
  rw [Rp] at h ⊢;obtain ⟨a,h1,h2⟩:=h;exact ⟨a,h1,ea _ _ h2⟩
theorem Rps.mono (e:Same F F') (ea:∀(n:Nat) (a:Addr),as[n]? = some a→as'[n]? = some a):∀(ds:List D) {xs:List V},Rps K F as xs ds→Rps K F' as' xs ds
 | [],xs,h=>by rw [Rps] at h ⊢; exact h
 | d::ds,xs,h=>by
  rw [Rps] at h ⊢;obtain ⟨x,r,h1,h2,h3⟩:=h;exact ⟨x,r,h1,Rp.mono e ea d h2,Rps.mono e ea ds h3⟩
end
theorem Rp.non:Rp K F as .non .non:=by rw [Rp]
theorem Rp.bl {b:Bool}:Rp K F as (.bl b) (.bl b):=by rw [Rp]
theorem Rp.int {i:Int}:Rp K F as (.int i) (.int i):=by rw [Rp]
theorem Rp.str {l:List Nat}:Rp K F as (.str (S l)) (.str l):=by rw [Rp]
theorem Rp.unN {v:V} (h:Rp K F as v .non):v = .non:=by rw [Rp] at h; exact h
theorem Rp.unB {v:V}{b:Bool} (h:Rp K F as v (.bl b)):v = .bl b:=by rw [Rp] at h; exact h
theorem Rp.unI {v:V}{i:Int} (h:Rp K F as v (.int i)):v = .int i:=by rw [Rp] at h; exact h
theorem Rp.unS {v:V}{l:List Nat} (h:Rp K F as v (.str l)):v = .str (S l):=by rw [Rp] at h; exact h
theorem Rp.unL {v:V}{ds:List D} (h:Rp K F as v (.lst ds)):∃a xs,v = .ref a∧RdK K F a xs∧Rps K F as xs ds:=by rw [Rp] at h; exact h
theorem Rp.unT' {v:V}{ds:List D} (h:Rp K F as v (.tup ds)):∃a xs,v = .ref a∧TqT K F a xs∧Rps K F as xs ds:=by rw [Rp] at h; exact h
theorem Rp.unT {v:V}{ds:List D} (h:Rp K F as v (.tup ds)):∃a xs,v = .ref a∧SqT K F a xs∧Rps K F as xs ds:=let ⟨a,xs,e,h1,h2⟩:=h.unT'; ⟨a,xs,e,h1.sq,h2⟩
theorem Rp.unO {v:V}{n:Nat} (h:Rp K F as v (.ob n)):∃a,v = .ref a∧as[n]? = some a:=by rw [Rp] at h; exact h
theorem Rp.unD {v:V}{ks vs:List D} (h:Rp K F as v (.dic ks vs)):∃(a:Addr) (kvs:List (Key×V)),v = .ref a∧F a=some (.dK kvs)∧ks=kvs.map (fun p=>QnP p.1)∧Rps K F as (kvs.map (·.2)) vs:=by rw [Rp] at h; exact h
theorem Rp.mkL {a:Addr}{xs:List V}{ds:List D} (h:RdK K F a xs) (hs:Rps K F as xs ds):Rp K F as (.ref a) (.lst ds):=by rw [Rp]; exact ⟨a,xs,rfl,h,hs⟩
theorem Rp.mkT {a:Addr}{xs:List V}{ds:List D} (h:TqT K F a xs) (hs:Rps K F as xs ds):Rp K F as (.ref a) (.tup ds):=by rw [Rp]; exact ⟨a,xs,rfl,h,hs⟩
theorem Rp.mkO {a:Addr}{n:Nat} (h:as[n]? = some a):Rp K F as (.ref a) (.ob n):=by rw [Rp]; exact ⟨a,rfl,h⟩
theorem Rps.nil:Rps K F as [] []:=by rw [Rps]
theorem Rps.cons {x:V}{xs:List V}{d:D}{ds:List D} (h:Rp K F as x d) (hs:Rps K F as xs ds):Rps K F as (x::xs) (d::ds):=by
 rw [Rps]; exact ⟨x,xs,rfl,h,hs⟩
theorem Rps.un {xs:List V}{d:D}{ds:List D} (h:Rps K F as xs (d::ds)):∃x r,xs=x::r∧Rp K F as x d∧Rps K F as r ds:=by rw [Rps] at h; exact h
theorem Rps.un0 {xs:List V} (h:Rps K F as xs []):xs = []:=by rw [Rps] at h; exact h
theorem Rps.length:∀{ds:List D}{xs:List V},Rps K F as xs ds→xs.length=ds.length
 | [],xs,h=>by rw [h.un0]; rfl
 | d::ds,xs,h=>by
  obtain ⟨x,r,rfl,_,h3⟩:=h.un;simp [Rps.length h3]
theorem Rps.get:∀{ds:List D}{xs:List V}{i:Nat}{x:V},Rps K F as xs ds→xs[i]? = some x→∃d,ds[i]? = some d∧Rp K F as x d
 | [],xs,i,x,h,e=>by rw [h.un0] at e; simp at e
 | d::ds,xs,i,x,h,e=>by
  obtain ⟨y,r,rfl,h2,h3⟩:=h.un
  cases i with
  | zero=>simp at e; subst e; exact ⟨d,rfl,h2⟩
  | succ i =>
   obtain ⟨d',e',q⟩:=Rps.get (i:=i) (x:=x) h3 (by simpa using e);exact ⟨d',by simpa using e',q⟩
theorem Rps.get':∀{ds:List D}{xs:List V}{i:Nat}{d:D},Rps K F as xs ds→ds[i]? = some d→∃x,xs[i]? = some x∧Rp K F as x d:=by
 intro ds xs i d h e;have hl:=h.length
 have hi:i < xs.length:=by rw [hl]; exact (ze.mp e).1
 obtain ⟨d',e',q⟩:=h.get (zh hi);rw [e] at e'; cases e';exact ⟨_,zh hi,q⟩
theorem Rps.append {ys:List V}{es:List D} (hy:Rps K F as ys es):∀{ds:List D}{xs:List V},Rps K F as xs ds→Rps K F as (xs++ys) (ds++es)
 | [],xs,h=>by rw [h.un0]; exact hy
 | e::ds,xs,h=>by
  obtain ⟨y,r,rfl,h2,h3⟩:=h.un;exact Rps.cons h2 (Rps.append hy h3)
theorem Rps.snoc {x:V}{d:D}{ds:List D}{xs:List V} (h:Rps K F as xs ds) (hx:Rp K F as x d):Rps K F as (xs ++ [x]) (ds ++ [d]):=Rps.append (Rps.cons hx Rps.nil) h
theorem Rps.take:∀{ds:List D}{xs:List V} (n:Nat),Rps K F as xs ds→Rps K F as (xs.take n) (ds.take n)
 | _,_,0,_=>by simpa using Rps.nil
 | [],xs,n+1,h=>by rw [h.un0]; simpa using Rps.nil
 | d::ds,xs,n+1,h=>by
  obtain ⟨y,r,rfl,h2,h3⟩:=h.un;exact Rps.cons h2 (Rps.take n h3)
theorem Rps.drop:∀{ds:List D}{xs:List V} (n:Nat),Rps K F as xs ds→Rps K F as (xs.drop n) (ds.drop n)
 | _,_,0,h=>by simpa using h
 | [],xs,n+1,h=>by rw [h.un0]; simpa using Rps.nil
 | d::ds,xs,n+1,h=>by
  obtain ⟨y,r,rfl,h2,h3⟩:=h.un;exact Rps.drop n h3
theorem Rps.set:∀{ds:List D}{xs:List V}{x:V}{d:D} (n:Nat),Rps K F as xs ds→Rp K F as x d→Rps K F as (xs.set n x) (ds.set n d)
 | [],xs,x,d,n,h,_=>by rw [h.un0]; simpa using Rps.nil
 | e::ds,xs,x,d,0,h,hx=>by
  obtain ⟨y,r,rfl,h2,h3⟩:=h.un;exact Rps.cons hx h3
 | e::ds,xs,x,d,n+1,h,hx=>by
  obtain ⟨y,r,rfl,h2,h3⟩:=h.un;exact Rps.cons h2 (Rps.set n h3 hx)
theorem Rps.rep {ds:List D}{xs:List V} (h:Rps K F as xs ds):∀n:Nat,Rps K F as (List.replicate n xs).flatten (List.replicate n ds).flatten
 | 0=>by simpa using Rps.nil
 | n+1=>by
  rw [List.replicate_succ,List.replicate_succ,List.flatten_cons,List.flatten_cons];exact Rps.append (Rps.rep h n) h
end
def isD:HO→Bool
 | .ins _ _ _=>false
 | .own _=>false
 | .xd _=>false
 | _=>true
def isL:HO→Bool
 | .lst _=>true
 | .dK _=>true
 | _=>false
theorem Qq0 {o:HO} (h:isL o=true):isD o=true:=by
 cases o <;> first | rfl | cases h
structure Gr (H F:Hp) (as:List Addr) (H' F':Hp) (as':List Addr):Prop where
 fz:∀a o,H a=some o→a∉as→isL o=true→F' a=F a
 ff:Same F F'
 nw:∃new,as'=as++new∧∀a∈new,H a=none
 fr:∀a o,H a=some o→a∉as→isD o=true→H' a=some o
 dm:∀a,H' a=none→H a=none
 kz:∀a o u,H a=some (.frz o u)→H' a=some (.frz o u)
structure Pt where
 p:Addr→Prop
 ss:List (Nat×V×D)
instance:CoeFun Pt (fun _=>Addr→Prop):=⟨Pt.p⟩
def Pt.all (H:Hp):Pt:=⟨fun a=>H a≠none,[]⟩
structure GrS (P:Pt) (H F:Hp) (as:List Addr) (H' F':Hp) (as':List Addr):Prop where
 fz:∀a o,P a→H a=some o→a∉as→isL o=true→F' a=F a
 ff:Same F F'
 nw:∃new,as'=as++new∧∀a∈new,H a=none
 fr:∀a o,P a→H a=some o→a∉as→isD o=true→H' a=some o
 dm:∀a,H' a=none→H a=none
 kz:∀a o u,H a=some (.frz o u)→H' a=some (.frz o u)
section
variable {H F H' F' H2 F2:Hp}{as as' as2:List Addr}{P:Pt}
theorem Gr.refl:Gr H F as H F as:=⟨fun _ _ _ _ _=>rfl,Same.refl F,⟨[],by simp,fun _ h=>nomatch h⟩,fun _ _ h _ _=>h,fun _ h=>h,fun _ _ _ h=>h⟩
theorem Gr.trans (a:Gr H F as H' F' as') (b:Gr H' F' as' H2 F2 as2):Gr H F as H2 F2 as2:=by
 obtain ⟨n1,e1,h1⟩:=a.nw;obtain ⟨n2,e2,h2⟩:=b.nw;refine ⟨fun c o hc hn hd=>?_,a.ff.trans b.ff,⟨n1++n2,by rw [e2,e1,zP],fun c hc=>?_⟩,fun c o e hn hd=>?_,fun c h=>a.dm c (b.dm c h),fun c o u h=>b.kz c o u (a.kz c o u h)⟩
 ·have q:=a.fr c o hc hn (Qq0 hd);refine (b.fz c o q ?_ hd).trans (a.fz c o hc hn hd);rw [e1];intro z
  rcases zz.mp z with z | z
  ·exact hn z
  ·rw [h1 c z] at hc; cases hc
 ·rcases zz.mp hc with z | z
  ·exact h1 c z
  ·exact a.dm c (h2 c z)
 ·have q:=a.fr c o e hn hd;refine b.fr c o q ?_ hd;rw [e1];intro z
  rcases zz.mp z with z | z
  ·exact hn z
  ·rw [h1 c z] at e; cases e
theorem Gr.toS (a:Gr H F as H' F' as'):GrS P H F as H' F' as':=⟨fun c o _=>a.fz c o,a.ff,a.nw,fun c o _ e hn hd=>a.fr c o e hn hd,a.dm,a.kz⟩
theorem GrS.refl:GrS P H F as H F as:=Gr.refl.toS
theorem GrS.trans (a:GrS P H F as H' F' as') (b:GrS P H' F' as' H2 F2 as2):GrS P H F as H2 F2 as2:=by
 obtain ⟨n1,e1,h1⟩:=a.nw;obtain ⟨n2,e2,h2⟩:=b.nw;refine ⟨fun c o p hc hn hd=>?_,a.ff.trans b.ff,⟨n1++n2,by rw [e2,e1,zP],fun c hc=>?_⟩,fun c o p e hn hd=>?_,fun c h=>a.dm c (b.dm c h),fun c o u h=>b.kz c o u (a.kz c o u h)⟩
 ·have q:=a.fr c o p hc hn (Qq0 hd);refine (b.fz c o p q ?_ hd).trans (a.fz c o p hc hn hd);rw [e1];intro z
  rcases zz.mp z with z | z
  ·exact hn z
  ·rw [h1 c z] at hc; cases hc
 ·rcases zz.mp hc with z | z
  ·exact h1 c z
  ·exact a.dm c (h2 c z)
 ·have q:=a.fr c o p e hn hd;refine b.fr c o p q ?_ hd;rw [e1];intro z
  rcases zz.mp z with z | z
  ·exact hn z
  ·rw [h1 c z] at e; cases e
theorem GrS.mono {P':Pt} (a:GrS P H F as H' F' as') (h:∀c,P' c→P c):GrS P' H F as H' F' as':=⟨fun c o p=>a.fz c o (h c p),a.ff,a.nw,fun c o p=>a.fr c o (h c p),a.dm,a.kz⟩
theorem GrS.gr (a:GrS (Pt.all H) H F as H' F' as'):Gr H F as H' F' as':=⟨fun c o e=>a.fz c o (show H c≠none by rw [e]; exact fun z=>nomatch z) e,a.ff,a.nw,fun c o e=>a.fr c o (show H c≠none by rw [e]; exact fun z=>nomatch z) e,a.dm,a.kz⟩
theorem Gr.at_ (a:Gr H F as H' F' as'):∀(n:Nat) (c:Addr),as[n]? = some c→as'[n]? = some c:=fun n c h=>by
 obtain ⟨new,e,_⟩:=a.nw;rw [e,zr (ze.mp h).1];exact h
theorem GrS.at_ (a:GrS P H F as H' F' as'):∀(n:Nat) (c:Addr),as[n]? = some c→as'[n]? = some c:=fun n c h=>by
 obtain ⟨new,e,_⟩:=a.nw;rw [e,zr (ze.mp h).1];exact h
theorem Gr.out (a:Gr H F as H' F' as') {c:Addr} (h:c∉as) (e:H c≠none):c∉as':=by
 obtain ⟨new,e1,h1⟩:=a.nw;rw [e1];intro z
 rcases zz.mp z with z | z
 ·exact h z
 ·exact e (h1 c z)
theorem GrS.out (a:GrS P H F as H' F' as') {c:Addr} (h:c∉as) (e:H c≠none):c∉as':=by
 obtain ⟨new,e1,h1⟩:=a.nw;rw [e1];intro z
 rcases zz.mp z with z | z
 ·exact h z
 ·exact e (h1 c z)
theorem Rp.gr {K:Frag}{v:V}{d:D} (h:Rp K F as v d) (a:Gr H F as H' F' as'):Rp K F' as' v d:=Rp.mono a.ff a.at_ d h
theorem Rps.gr {K:Frag}{v:List V}{d:List D} (h:Rps K F as v d) (a:Gr H F as H' F' as'):Rps K F' as' v d:=Rps.mono a.ff a.at_ d h
theorem Rp.grS {K:Frag}{v:V}{d:D} (h:Rp K F as v d) (a:GrS P H F as H' F' as'):Rp K F' as' v d:=Rp.mono a.ff a.at_ d h
theorem Rps.grS {K:Frag}{v:List V}{d:List D} (h:Rps K F as v d) (a:GrS P H F as H' F' as'):Rps K F' as' v d:=Rps.mono a.ff a.at_ d h
end
structure FsR (K:Frag) (F:Hp) (as:List Addr) (gs:List (Str×V)) (fs:List (Str×D)):Prop where
 nm:gs.map (·.1)=fs.map (·.1)
 vl:Rps K F as (gs.map (·.2)) (fs.map (·.2))
def ObR (K:Frag) (mg:Str→Option Value) (H F:Hp) (as:List Addr) (a:Addr):Ob→Prop
 | .ins c fs=>∃C dx gs,mg c=some (.ref C)∧H a=some (.ins C dx gs)∧FsR K F as gs fs
 | .ml ds=>∃xs,H a=some (.lst xs)∧Rps K F as xs ds
 | .dt kvs=>∃xs:List (List Key×V),H a=some (.dT xs)∧xs.map (·.1)=kvs.map (·.1)∧Rps K F as (xs.map (·.2)) (kvs.map (·.2))
 | .df kvs=>∃(o:Obj) (xs:List (List Key×V)),H a=some (.frz o (.dT xs))∧xs.map (·.1)=kvs.map (·.1)∧Rps K F as (xs.map (·.2)) (kvs.map (·.2))
structure RlO (K:Frag) (mg:Str→Option Value) (O:Qac) (H F:Hp) (as:List Addr):Prop where
 fh:Same F H
 fd:∀a o,F a=some o→isD o=true
 nd:as.Nodup
 len:as.length=O.length
 fa:∀a∈as,F a=none
 ob:∀(n:Nat) (a:Addr) (o:Ob),as[n]? = some a→O[n]? = some o→ObR K mg H F as a o
inductive Md where
 | v | s | o
 deriving DecidableEq
def Qhc:D→Bool
 | .lst _=>false
 | _=>true
def Qee (P:Pt) (K:Frag) (H F:Hp) (as:List Addr):Md→V→D→Prop
 | .v,v,d=>Rp K F as v d
 | .s,v,d=>Rp K F as v d∨∃a xs ds,v = .ref a∧d = .lst ds∧H a=some (.lst xs)∧a∉as∧P a∧Rps K F as xs ds
 | .o,v,d=>(Qhc d=true∧Rp K F as v d)∨∃a xs ds,v = .ref a∧d = .lst ds∧H a=some (.lst xs)∧F a=none∧a∉as∧¬P a∧Rps K F as xs ds
structure SlO (K:Frag) (md:List Md) (P:Pt) (ρ:Qah) (σ:St) (H F:Hp) (as:List Addr):Prop where
 len:σ.length=md.length
 len':ρ.length=md.length
 pd:∀a,P a→H a≠none
 sl:∀(i:Nat) (m:Md) (d:D),md[i]? = some m→ρ[i]? = some (some d)→∃v,σ[i]? = some (some v)∧Qee P K H F as m v d
 inj:∀(i j:Nat) (a:Addr) (ds es:List D),md[i]? = some .o→md[j]? = some .o→ρ[i]? = some (some (.lst ds))→ρ[j]? = some (some (.lst es))→σ[i]? = some (some (.ref a))→σ[j]? = some (some (.ref a))→i=j
 pin:∀x∈P.ss,md[x.1]? = some .s∧ρ[x.1]? = some (some x.2.2)∧σ[x.1]? = some (some x.2.1)
section
variable {K:Frag}{mg:Str→Option Value}{md:List Md}{P:Pt}{ρ:Qah}{σ:St}{H F H' F':Hp}{as as':List Addr}{O O':Qac}
theorem Qee.step {m:Md}{v:V}{d:D} (h:Qee P K H F as m v d) (g:Gr H F as H' F' as'):Qee P K H' F' as' m v d:=by
 cases m with
 | v=>exact Rp.gr (show Rp K F as v d from h) g
 | s =>
  rcases h with h | ⟨a,xs,ds,e1,e2,e3,e4,e5,e6⟩
  ·exact .inl (h.gr g)
  ·exact .inr ⟨a,xs,ds,e1,e2,g.fr _ _ e3 e4 rfl,g.out e4 (by rw [e3]; exact fun z=>nomatch z),e5,e6.gr g⟩
 | o =>
  rcases h with ⟨h1,h⟩ | ⟨a,xs,ds,e1,e2,e3,e0,e4,e5,e6⟩
  ·exact .inl ⟨h1,h.gr g⟩
  ·have hn:H a≠none:=by rw [e3]; exact fun z=>nomatch z
   exact .inr ⟨a,xs,ds,e1,e2,g.fr _ _ e3 e4 rfl,by rw [g.fz a _ e3 e4 rfl]; exact e0,g.out e4 hn,e5,e6.gr g⟩
theorem SlO.step (h:SlO K md P ρ σ H F as) (g:Gr H F as H' F' as'):SlO K md P ρ σ H' F' as' :=
 ⟨h.len,h.len',fun a p z=>h.pd a p (g.dm a z),fun i m d e1 e2=>let ⟨v,q,r⟩:=h.sl i m d e1 e2; ⟨v,q,r.step g⟩,h.inj,h.pin⟩
end
def Sv (K:Frag) (H F:Hp) (as:List Addr) (v:V) (d:D):Prop :=
 Rp K F as v d∨∃a xs ds,v = .ref a∧d = .lst ds∧H a=some (.lst xs)∧a∉as∧Rps K F as xs ds
def Lk (K:Frag) (H F:Hp) (as:List Addr) (v:V) (d:D):Prop :=
 Rp K F as v d∨∃a xs ds,v = .ref a∧d = .lst ds∧H a=some (.lst xs)∧Rps K F as xs ds
def Ow (K:Frag) (N:Addr→Prop) (H F:Hp) (as:List Addr) (v:V) (d:D):Prop :=
 (Qhc d=true∧Rp K F as v d)∨∃a xs ds,v = .ref a∧d = .lst ds∧H a=some (.lst xs)∧F a=none∧a∉as∧N a∧Rps K F as xs ds
def QaI (O:Qac) (d:D):D:=match d with
 | .ob n=>match O[n]? with
  | some (.ml ds)=>.lst ds
  | _=>.ob n
 | d=>d
section
variable {K:Frag}{mg:Str→Option Value}{H0 H F H' F':Hp}{as as':List Addr}{O:Qac}{v:V}{d:D}
theorem Sv.gr (h:Sv K H F as v d) (g:Gr H F as H' F' as'):Sv K H' F' as' v d:=by
 rcases h with h | ⟨a,xs,ds,e1,e2,e3,e4,e5⟩
 ·exact .inl (h.gr g)
 ·exact .inr ⟨a,xs,ds,e1,e2,g.fr _ _ e3 e4 rfl,g.out e4 (by rw [e3]; exact fun z=>nomatch z),e5.gr g⟩
theorem Sv.lk (h:Sv K H F as v d) (r:RlO K mg O H F as):Lk K H F as v (QaI O d):=by
 rcases h with h | ⟨a,xs,ds,rfl,rfl,e3,e4,e5⟩
 ·cases d with
  | ob n =>
   obtain ⟨a,rfl,ha⟩:=h.unO;unfold QaI;dsimp only
   split
   ·rename_i ds e;obtain ⟨xs,e1,e2⟩:=r.ob n a _ ha e;exact .inr ⟨a,xs,ds,rfl,rfl,e1,e2⟩
   ·exact .inl (Rp.mkO ha)
  | _=>exact .inl h
 ·exact .inr ⟨a,xs,ds,rfl,rfl,e3,e5⟩
theorem Lk.list {ds:List D} (h:Lk K H F as v (.lst ds)) (fh:Same F H):∃a xs,v = .ref a∧RdK K H a xs∧Rps K F as xs ds:=by
 rcases h with h | ⟨a,xs,ds',e1,e2,e3,e4⟩
 ·obtain ⟨a,xs,e,h1,h2⟩:=h.unL;exact ⟨a,xs,e,h1.mono fh,h2⟩
 ·cases e2;exact ⟨a,xs,e1,.inl (.inl e3),e4⟩
theorem Lk.rp (h:Lk K H F as v d) (hn:Qhc d=true):Rp K F as v d:=by
 rcases h with h | ⟨a,xs,ds',e1,rfl,e3,e4⟩
 ·exact h
 ·cases hn
theorem Sv.rp (h:Sv K H F as v d) (hn:Qhc d=true):Rp K F as v d:=by
 rcases h with h | ⟨a,xs,ds',e1,rfl,e3,e4⟩
 ·exact h
 ·cases hn
theorem Ow.sv {N:Addr→Prop} (h:Ow K N H F as v d):Sv K H F as v d:=by
 rcases h with ⟨_,h⟩ | ⟨a,xs,ds,e1,e2,e3,e4,e5,e6,e7⟩
 ·exact .inl h
 ·exact .inr ⟨a,xs,ds,e1,e2,e3,e5,e7⟩
theorem Gr.lay {p:Addr}{o:HO} (hp:H p=none):Gr H F as (upd H p o) F as :=
 ⟨fun _ _ _ _ _=>rfl,Same.refl F,⟨[],by simp,fun _ h=>nomatch h⟩,fun a o' e _ _=>by rw [Qap (QaD e hp)]; exact e,fun a e=>by
  by_cases h:a=p
  ·subst h; exact hp
  ·rwa [Qap h] at e,fun a o' u e=>by rw [Qap (QaD e hp)]; exact e⟩
theorem ObR.keep {a:Addr}{o:Ob} (h:ObR K mg H F as a o) (hH:H' a=H a) (e:Same F F') (ea:∀(n:Nat) (a:Addr),as[n]? = some a→as'[n]? = some a):ObR K mg H' F' as' a o:=by
 cases o with
 | ins c fs =>
  obtain ⟨C,dx,gs,h1,h2,h3,h4⟩:=h;exact ⟨C,dx,gs,h1,by rw [hH]; exact h2,h3,Rps.mono e ea _ h4⟩
 | ml ds =>
  obtain ⟨xs,h1,h2⟩:=h;exact ⟨xs,by rw [hH]; exact h1,Rps.mono e ea _ h2⟩
 | dt kvs =>
  obtain ⟨xs,h1,h2,h3⟩:=h;exact ⟨xs,by rw [hH]; exact h1,h2,Rps.mono e ea _ h3⟩
 | df kvs =>
  obtain ⟨o,xs,h1,h2,h3⟩:=h;exact ⟨o,xs,by rw [hH]; exact h1,h2,Rps.mono e ea _ h3⟩
theorem RlO.at {n:Nat}{a:Addr}{o:Ob} (r:RlO K mg O H F as) (ha:as[n]? = some a) (ho:O[n]? = some o):H a≠none:=by
 have q:=r.ob n a o ha ho
 cases o with
 | ins c fs=>obtain ⟨C,dx,gs,h1,h2,_⟩:=q; rw [h2]; exact fun z=>nomatch z
 | ml ds=>obtain ⟨xs,h1,_⟩:=q; rw [h1]; exact fun z=>nomatch z
 | dt kvs=>obtain ⟨xs,h1,_⟩:=q; rw [h1]; exact fun z=>nomatch z
 | df kvs=>obtain ⟨o,xs,h1,_⟩:=q; rw [h1]; exact fun z=>nomatch z
theorem RlO.all {a:Addr} (r:RlO K mg O H F as) (ha:a∈as):H a≠none:=by
 obtain ⟨n,hn,e⟩:=List.mem_iff_getElem.mp ha
 have hO:n < O.length:=by rw [←r.len]; exact hn
 exact r.at (n:=n) (by rw [zh hn,e]) (zh hO)
theorem RlO.lay {p:Addr}{o:HO} (r:RlO K mg O H F as) (hp:H p=none):RlO K mg O (upd H p o) F as:=by
 refine ⟨fun a u e=>?_,r.fd,r.nd,r.len,r.fa,fun n a u ha hu=>(r.ob n a u ha hu).keep (Qap ?_) (Same.refl F) fun _ _ h=>h⟩
 ·have q:=r.fh a u e;rw [Qap (QaD q hp)]; exact q
 ·intro z; subst z; exact r.at ha hu hp
theorem Gr.frz {p:Addr}{o:HO} (hp:H p=none) (g:Gr H F as H' F' as') (hf:F' p=none):Gr H F as H' (upd F' p o) as' :=
 ⟨fun a o' ha hn hd=>by rw [Qap (fun z=>by subst z; rw [hp] at ha; cases ha)]; exact g.fz a o' ha hn hd,fun a u e=>by
  have q:=g.ff a u e
  rw [Qap (QaD q hf)]; exact q,g.nw,g.fr,g.dm,g.kz⟩
theorem RlO.frz {p:Addr}{o:HO} (r:RlO K mg O H F as) (hp:H p=some o) (hf:F p=none) (ha:p∉as) (hd:isD o=true):RlO K mg O H (upd F p o) as:=by
 have ff:Same F (upd F p o):=fun a u e=>by rw [Qap (QaD e hf)]; exact e
 refine ⟨fun a u e=>?_,fun a u e=>?_,r.nd,r.len,fun a h=>?_,fun n a u h1 h2=>(r.ob n a u h1 h2).keep rfl ff fun _ _ h=>h⟩
 ·by_cases h:a=p
  ·subst h; rw [QaF] at e; cases e; exact hp
  ·rw [Qap h] at e; exact r.fh a u e
 ·by_cases h:a=p
  ·subst h; rw [QaF] at e; cases e; exact hd
  ·rw [Qap h] at e; exact r.fd a u e
 ·rw [Qap (fun z=>by subst z; exact ha h)]; exact r.fa a h
end
abbrev RR:=(Addr→Prop)→Hp→Hp→List Addr→V→D→Prop
def rV (K:Frag):RR:=fun _ _ F as v d=>Rp K F as v d
def rS (K:Frag):RR:=fun _ H F as v d=>Sv K H F as v d
def rO (K:Frag):RR:=fun N H F as v d=>Ow K N H F as v d
def rA (K:Frag):Md→RR
 | .v=>rV K
 | _=>rS K
def QeK (R:RR):Prop:=∀(N N':Addr→Prop) (H F:Hp) (as:List Addr) (v:V) (d:D),(∀a,N a→N' a)→R N H F as v d→R N' H F as v d
theorem QbN {K:Frag}:QeK (rV K):=fun _ _ _ _ _ _ _ _ h=>h
theorem Qde {K:Frag}:QeK (rO K):=fun N N' H F as v d hn h=>by
 rcases h with h | ⟨a,xs,ds,e1,e2,e3,e4,e5,e6,e7⟩
 ·exact .inl h
 ·exact .inr ⟨a,xs,ds,e1,e2,e3,e4,e5,hn a e6,e7⟩
def tM (K:Frag) (mg:Str→Option Value) (md:List Md) (P:Pt) (R:RR) (m:M D):TE:=fun σ H Q =>
 ∃ρ O F as d O',RlO K mg O H F as∧SlO K md P ρ σ H F as∧m ρ O = .ok d O' ∧
  ∀v H' F' as',Gr H F as H' F' as'→RlO K mg O' H' F' as'→R (fun a=>H a=none) H' F' as' v d→Q v H'
def tMT (K:Frag) (mg:Str→Option Value) (md:List Md) (P:Pt) (m:M Bool):TT:=fun σ H Q =>
 ∃ρ O F as b O',RlO K mg O H F as∧SlO K md P ρ σ H F as∧m ρ O = .ok b O' ∧
  ∀H' F' as',Gr H F as H' F' as'→RlO K mg O' H' F' as'→Q b H'
def QbI (K:Frag) (H F:Hp) (as:List Addr):List Md→List V→List D→Prop
 | [],[],[]=>True
 | m::ms,v::vs,d::ds=>rA K m (fun _=>True) H F as v d∧QbI K H F as ms vs ds
 | _,_,_=>False
def tMA (K:Frag) (mg:Str→Option Value) (md:List Md) (P:Pt) (ms:List Md) (m:M (List D)):TA:=fun σ H Q =>
 ∃ρ O F as ds O',RlO K mg O H F as∧SlO K md P ρ σ H F as∧m ρ O = .ok ds O' ∧
  ∀vs H' F' as',Gr H F as H' F' as'→RlO K mg O' H' F' as'→QbI K H' F' as' ms vs ds→Q vs H'
def XE (X:Cx) (md:List Md) (P:Pt) (R:RR) (e:Expr) (m:M D):Prop:=PE X e (tM X.K X.mg md P R m)
def VE (X:Cx) (md:List Md) (P:Pt) (e:Expr) (m:M D):Prop:=PE X e (tM X.K X.mg md P (rV X.K) m)
def SE (X:Cx) (md:List Md) (P:Pt) (e:Expr) (m:M D):Prop:=PE X e (tM X.K X.mg md P (rS X.K) m)
def OE (X:Cx) (md:List Md) (P:Pt) (e:Expr) (m:M D):Prop:=PE X e (tM X.K X.mg md P (rO X.K) m)
def TsE (X:Cx) (md:List Md) (P:Pt) (e:Expr) (m:M Bool):Prop:=PT X e (tMT X.K X.mg md P m)
def TwE (X:Cx) (md:List Md) (P:Pt) (e:Expr) (m:M Bool):Prop:=PW X e (tMT X.K X.mg md P m)
def AE (X:Cx) (md:List Md) (P:Pt) (ms:List Md) (es:List Expr) (m:M (List D)):Prop:=PA X es (tMA X.K X.mg md P ms m)
def Qfm (K:Frag) (mg:Str→Option Value) (md:List Md) (P:Pt) (R:RR) (D:Ends) (H F:Hp) (as:List Addr):Fl→Prop
 | .nx ρ' O'=>∀σ' H' F' as',GrS P H F as H' F' as'→RlO K mg O' H' F' as'→SlO K md P ρ' σ' H' F' as'→D.nx σ' H'
 | .bk ρ' O'=>∀σ' H' F' as',GrS P H F as H' F' as'→RlO K mg O' H' F' as'→SlO K md P ρ' σ' H' F' as'→D.bk σ' H'
 | .ct ρ' O'=>∀σ' H' F' as',GrS P H F as H' F' as'→RlO K mg O' H' F' as'→SlO K md P ρ' σ' H' F' as'→D.ct σ' H'
 | .rt d O'=>∀v H' F' as',GrS P H F as H' F' as'→RlO K mg O' H' F' as'→R (fun a=>¬P a) H' F' as' v d→D.rt v H'
 | .ex _ _=>False
 | .no=>False
def tMS (K:Frag) (mg:Str→Option Value) (md:List Md) (P:Pt) (R:RR) (m:MS):TS:=fun D σ H =>
 ∃ρ O F as,RlO K mg O H F as∧SlO K md P ρ σ H F as∧Qfm K mg md P R D H F as (m ρ O)
def VS (X:Cx) (md:List Md) (P:Pt) (R:RR) (st:Stmt) (m:MS):Prop:=PS X st (tMS X.K X.mg md P R m)
def VSs (X:Cx) (md:List Md) (P:Pt) (R:RR) (st:List Stmt) (m:MS):Prop:=PSs X st (tMS X.K X.mg md P R m)
section
variable {X:Cx}{md:List Md}{P:Pt}{R:RR}
theorem PE.imp {e:Expr}{t t':TE} (h:PE X e t) (k:∀σ H Q,t' σ H Q→t σ H Q):PE X e t':=fun pins s σ H Q I q=>h pins s σ H Q I (k σ H Q q)
theorem PT.imp {e:Expr}{t t':TT} (h:PT X e t) (k:∀σ H Q,t' σ H Q→t σ H Q):PT X e t':=fun pins s σ H Q I q=>h pins s σ H Q I (k σ H Q q)
theorem PW.imp {e:Expr}{t t':TT} (h:PW X e t) (k:∀σ H Q,t' σ H Q→t σ H Q):PW X e t':=fun w pins s σ H Q I q=>h w pins s σ H Q I (k σ H Q q)
theorem PA.imp {e:List Expr}{t t':TA} (h:PA X e t) (k:∀σ H Q,t' σ H Q→t σ H Q):PA X e t':=fun pos pins s σ H Q I q=>h pos pins s σ H Q I (k σ H Q q)
theorem PS.imp {e:Stmt}{t t':TS} (h:PS X e t) (k:∀D σ H,t' D σ H→t D σ H):PS X e t':=fun pins s σ H D I q=>h pins s σ H D I (k D σ H q)
theorem PSs.imp {e:List Stmt}{t t':TS} (h:PSs X e t) (k:∀D σ H,t' D σ H→t D σ H):PSs X e t':=fun pins s σ H D I q=>h pins s σ H D I (k D σ H q)
def Qaa (i:Nat):M D:=fun ρ O=>match ρ[i]? with
 | some (some d)=>.ok d O
 | _=>.no
def mC (d:D):M D:=fun _ O=>.ok d O
def mG (m:M D):M D:=fun ρ O=>match m ρ O with
 | .ok d O'=>if Qhc d=true then .ok d O' else .no
 | r=>r
theorem Qij {i:Nat}{ρ:Qah}{O O':Qac}{d:D} (h:Qaa i ρ O = .ok d O'):ρ[i]? = some (some d)∧O'=O:=by
 unfold Qaa at h;split at h
 ·rename_i d' e;cases h;exact ⟨e,rfl⟩
 ·cases h
theorem Qu5 {m:M D}{ρ:Qah}{O O':Qac}{d:D} (h:mG m ρ O = .ok d O'):m ρ O = .ok d O'∧Qhc d=true:=by
 unfold mG at h;split at h
 ·rename_i d' O1 e;split at h
  ·rename_i hn;cases h;exact ⟨e,hn⟩
  ·cases h
 ·rename_i hne;exact absurd h (hne _ _)
theorem SlO.get {K:Frag}{ρ:Qah}{σ:St}{H F:Hp}{as:List Addr}{i:Nat}{d:D} (s:SlO K md P ρ σ H F as) (h:ρ[i]? = some (some d)):∃m v,md[i]? = some m∧σ[i]? = some (some v)∧Qee P K H F as m v d:=by
 have hi:i < md.length:=by rw [←s.len']; exact (ze.mp h).1
 obtain ⟨v,h1,h2⟩:=s.sl i md[i] d (zh hi) h;exact ⟨_,v,zh hi,h1,h2⟩
theorem Qee.sv {K:Frag}{H F:Hp}{as:List Addr}{m:Md}{v:V}{d:D} (h:Qee P K H F as m v d):Sv K H F as v d:=by
 cases m with
 | v=>exact .inl h
 | s =>
  rcases h with h | ⟨a,xs,ds,e1,e2,e3,e4,e5,e6⟩
  ·exact .inl h
  ·exact .inr ⟨a,xs,ds,e1,e2,e3,e4,e6⟩
 | o =>
  rcases h with ⟨_,h⟩ | ⟨a,xs,ds,e1,e2,e3,e0,e4,e5,e6⟩
  ·exact .inl h
  ·exact .inr ⟨a,xs,ds,e1,e2,e3,e4,e6⟩
theorem Qan (i:Nat) {x:Str}{pos:Pos} (hN:X.N[i]? = some x:=by rfl) (hv:Vis X.env.scope x:=by first | exact Or.inl rfl | exact Or.inr (Or.inl rfl) | exact Or.inr (Or.inr rfl))
  (hd:(x == ("__debug__":Str))=false:=by decide) (hcd:(x == ("__classdict__":Str))=false:=by decide):SE X md P (.Name x pos) (Qaa i):=by
 refine (Qgb (i:=i) hN hv hd hcd).imp fun σ H Q h=>?_
 obtain ⟨ρ,O,F,as,d,O',r,s,e,k⟩:=h;obtain ⟨e1,rfl⟩:=Qij e;obtain ⟨m,v,h1,h2,h3⟩:=s.get e1;exact ⟨v,h2,k v H F as Gr.refl r h3.sv⟩
theorem Qag (i:Nat) {x:Str}{pos:Pos} (hm:md[i]? = some .v:=by rfl) (hN:X.N[i]? = some x:=by rfl) (hv:Vis X.env.scope x:=by first | exact Or.inl rfl | exact Or.inr (Or.inl rfl) | exact Or.inr (Or.inr rfl))
  (hd:(x == ("__debug__":Str))=false:=by decide) (hcd:(x == ("__classdict__":Str))=false:=by decide):VE X md P (.Name x pos) (Qaa i):=by
 refine (Qgb (i:=i) hN hv hd hcd).imp fun σ H Q h=>?_
 obtain ⟨ρ,O,F,as,d,O',r,s,e,k⟩:=h;obtain ⟨e1,rfl⟩:=Qij e;obtain ⟨v,h2,h3⟩:=s.sl i .v d hm e1;exact ⟨v,h2,k v H F as Gr.refl r h3⟩
theorem Qaf {e:Expr}{m:M D} (h:VE X md P e m):SE X md P e m:=h.imp fun σ H Q q=>by
 obtain ⟨ρ,O,F,as,d,O',r,s,e,k⟩:=q;exact ⟨ρ,_,F,as,_,_,r,s,e,fun v H' F' as' g r' hv=>k v H' F' as' g r' (.inl hv)⟩
theorem Qau {e:Expr}{m:M D} (h:OE X md P e m):SE X md P e m:=h.imp fun σ H Q q=>by
 obtain ⟨ρ,O,F,as,d,O',r,s,e,k⟩:=q;exact ⟨ρ,_,F,as,_,_,r,s,e,fun v H' F' as' g r' hv=>k v H' F' as' g r' (Ow.sv hv)⟩
theorem Qco {e:Expr}{m:M D} (h:SE X md P e m):VE X md P e (mG m):=h.imp fun σ H Q q=>by
 obtain ⟨ρ,O,F,as,d,O',r,s,e,k⟩:=q;obtain ⟨e,hn⟩:=Qu5 e;exact ⟨ρ,_,F,as,_,_,r,s,e,fun v H' F' as' g r' hv=>k v H' F' as' g r' (Sv.rp hv hn)⟩
theorem QaL {e:Expr}{m:M D} (h:OE X md P e m):VE X md P e m:=h.imp fun σ H Q q=>by
 obtain ⟨ρ,O,F,as,d,O',r,s,e,k⟩:=q;refine ⟨ρ,_,F,as,_,_,r,s,e,fun v H' F' as' g r' hv=>?_⟩
 rcases hv with ⟨_,hv⟩ | ⟨a,xs,ds,rfl,rfl,e3,e4,e5,e6,e7⟩
 ·exact k v H' F' as' g r' hv
 ·have ff:Same F' (upd F' a (.lst xs)):=fun b u q=>by rw [Qap (QaD q e4)]; exact q
  refine k _ H' (upd F' a (.lst xs)) as' (g.frz e6 e4) (r'.frz e3 e4 e5 rfl) (Rp.mkL (.inl (.inl QaF)) (Rps.mono ff (fun _ _ z=>z) _ e7))
theorem QlB {e:Expr}{v:V}{d:D} (h:PE X e (tC v)) (hd:∀K F as,Rp K F as v d):VE X md P e (mC d):=h.imp fun σ H Q q=>by
 obtain ⟨ρ,O,F,as,d,O',r,s,e,k⟩:=q;cases e;exact k v H F as Gr.refl r (hd _ _ _)
theorem Qak {i:Int}{j pos}:VE X md P (.Constant (.int i) j pos) (mC (.int i)):=QlB QuK fun _ _ _=>Rp.int
theorem QcI {b:Bool}{j pos}:VE X md P (.Constant (.bool b) j pos) (mC (.bl b)):=QlB QvJ fun _ _ _=>Rp.bl
theorem Qlx {j pos}:VE X md P (.Constant .none j pos) (mC .non):=QlB Qtf fun _ _ _=>Rp.non
theorem Qbd {x:Str}{j pos} (l:List Nat) (hx:x=S l:=by decide +kernel):VE X md P (.Constant (.str x) j pos) (mC (.str l)):=QlB Qth fun _ _ _=>by rw [hx]; exact Rp.str
theorem QpX {x:Str}{v:V}{d:D}{pos:Pos} (h:∃u,X.mg x=some u∧RelV v u) (hd:∀K F as,Rp K F as v d) (hg:Gl X x:=by rfl) (hdb:(x == ("__debug__":Str))=false:=by decide):VE X md P (.Name x pos) (mC d):=QlB (QpH h hg hdb) hd
def Qae:M (List D):=fun _ O=>.ok [] O
def Qab (m:M D) (r:M (List D)):M (List D):=fun ρ O=>(m ρ O).bind fun d O1=>(r ρ O1).bind fun ds O2=>.ok (d::ds) O2
theorem Qai:AE X md P [] [] Qae:=QdV.imp fun σ H Q q=>by
 obtain ⟨ρ,O,F,as,d,O',r,s,e,k⟩:=q;cases e;exact k [] H F as Gr.refl r trivial
theorem rA.gr {K:Frag}{m:Md}{N:Addr→Prop}{H F H' F':Hp}{as as':List Addr}{v:V}{d:D} (h:rA K m N H F as v d) (g:Gr H F as H' F' as'):rA K m (fun _=>True) H' F' as' v d:=by
 cases m with
 | v=>exact Rp.gr (show Rp K F as v d from h) g
 | s=>exact Sv.gr (show Sv K H F as v d from h) g
 | o=>exact Sv.gr (show Sv K H F as v d from h) g
theorem QbI.gr {K:Frag}{H F H' F':Hp}{as as':List Addr} (g:Gr H F as H' F' as'):∀{ms:List Md}{vs:List V}{ds:List D},QbI K H F as ms vs ds→QbI K H' F' as' ms vs ds
 | [],[],[],_=>trivial
 | m::ms,v::vs,d::ds,h=>⟨rA.gr h.1 g,QbI.gr g h.2⟩
 | [],[],_::_,h=>h.elim
 | [],_::_,[],h=>h.elim
 | [],_::_,_::_,h=>h.elim
 | _::_,[],[],h=>h.elim
 | _::_,[],_::_,h=>h.elim
 | _::_,_::_,[],h=>h.elim
theorem QmA (md0:Md) {e:Expr}{es:List Expr}{m:M D}{ms:List Md}{r:M (List D)} (h:XE X md P (rA X.K md0) e m) (hr:AE X md P ms es r)
  (hs:starEach (e::es) X.env=(false,eval e X.env)::starEach es X.env:=by exact Qbn rfl):AE X md P (md0::ms) (e::es) (Qab m r):=(Qcx h hr hs).imp fun σ H Q q=>by
 obtain ⟨ρ,O,F,as,d,O',r0,s,e,k⟩:=q;obtain ⟨d,O1,e1,e⟩:=Res.bind_ok e;obtain ⟨ds',O2,e2,e⟩:=Res.bind_ok e;cases e;refine ⟨ρ,_,F,as,_,_,r0,s,e1,fun v H1 F1 as1 g1 r1 hv=>?_⟩;refine ⟨ρ,_,F1,as1,_,_,r1,s.step g1,e2,fun vs H2 F2 as2 g2 r2 hvs=>?_⟩;exact k (v::vs) H2 F2 as2 (g1.trans g2) r2 ⟨rA.gr hv g2,hvs⟩
theorem QaC {e:Expr}{es:List Expr}{m:M D}{ms:List Md}{r:M (List D)} (h:VE X md P e m) (hr:AE X md P ms es r)
  (hs:starEach (e::es) X.env=(false,eval e X.env)::starEach es X.env:=by exact Qbn rfl):AE X md P (.v::ms) (e::es) (Qab m r):=QmA .v h hr hs
theorem Qaw {e:Expr}{es:List Expr}{m:M D}{ms:List Md}{r:M (List D)} (h:SE X md P e m) (hr:AE X md P ms es r)
  (hs:starEach (e::es) X.env=(false,eval e X.env)::starEach es X.env:=by exact Qbn rfl):AE X md P (.s::ms) (e::es) (Qab m r):=QmA .s h hr hs
theorem QbI.rps {K:Frag}{H F:Hp}{as:List Addr}:∀{n:Nat}{vs:List V}{ds:List D},QbI K H F as (List.replicate n .v) vs ds→Rps K F as vs ds
 | 0,[],[],_=>Rps.nil
 | n+1,v::vs,d::ds,h=>by
  rw [List.replicate_succ] at h;exact Rps.cons h.1 (QbI.rps h.2)
 | 0,[],_::_,h=>h.elim
 | 0,_::_,[],h=>h.elim
 | 0,_::_,_::_,h=>h.elim
 | n+1,[],[],h=>h.elim
 | n+1,[],_::_,h=>h.elim
 | n+1,_::_,[],h=>h.elim
def Qa3 (r:M (List D)):M D:=fun ρ O=>(r ρ O).bind fun ds O1=>if ds.length≤1000000 then .ok (.lst ds) O1 else .no
def QaZ (r:M (List D)):M D:=fun ρ O=>(r ρ O).bind fun ds O1=>if ds.length≤1000000 then .ok (.tup ds) O1 else .no
theorem Qda {n:Nat} (h:n≤1000000):n≤sizeLine:=zD h (by decide)
theorem Qbv {es:List Expr}{pos:Pos}{r:M (List D)} (n:Nat) (h:AE X md P (List.replicate n .v) es r):OE X md P (.List es pos) (Qa3 r):=(QsV h).imp fun σ H Q q=>by
 obtain ⟨ρ,O,F,as,d,O',r0,s,e,k⟩:=q;obtain ⟨ds,O1,e1,e⟩:=Res.bind_ok e;split at e
 ·rename_i hz;cases e;refine ⟨ρ,_,F,as,_,_,r0,s,e1,fun vs H1 F1 as1 g1 r1 hv=>?_⟩;have hr:=hv.rps;refine ⟨by rw [hr.length]; exact Qda hz,fun p hp=>?_⟩
  have hF:F1 p=none:=by
   cases q:F1 p with
   | none=>rfl
   | some o=>rw [r1.fh p o q] at hp; cases hp
  refine k _ _ F1 as1 (g1.trans (Gr.lay hp)) (r1.lay hp) (.inr ⟨p,vs,ds,rfl,rfl,QaF,hF,fun z=>r1.all z hp,g1.dm p hp,hr⟩)
 ·cases e
theorem Qbk {es:List Expr}{pos:Pos}{x1}{r:M (List D)} (n:Nat) (h:AE X md P (List.replicate n .v) es r):VE X md P (.Tuple es x1 pos) (QaZ r):=(Qtt h).imp fun σ H Q q=>by
 obtain ⟨ρ,O,F,as,d,O',r0,s,e,k⟩:=q;obtain ⟨ds,O1,e1,e⟩:=Res.bind_ok e;split at e
 ·rename_i hz;cases e;refine ⟨ρ,_,F,as,_,_,r0,s,e1,fun vs H1 F1 as1 g1 r1 hv=>?_⟩;have hr:=hv.rps;refine ⟨by rw [hr.length]; exact Qda hz,fun p hp=>?_⟩
  have hF:F1 p=none:=by
   cases q:F1 p with
   | none=>rfl
   | some o=>rw [r1.fh p o q] at hp; cases hp
  have ff:Same F1 (upd F1 p (.tup vs)):=fun b u q=>by rw [Qap (QaD q hF)]; exact q
  refine k _ _ (upd F1 p (.tup vs)) as1 ((g1.trans (Gr.lay hp)).frz (g1.dm p hp) hF) ((r1.lay hp).frz QaF hF (fun z=>r1.all z hp) rfl) (Rp.mkT (.inl QaF) (Rps.mono ff (fun _ _ z=>z) _ hr))
 ·cases e
def rD (K:Frag) (mg:Str→Option Value) (g:D→D→Option D):R2:=fun x y H Q=>∃O F as dx dy d,RlO K mg O H F as∧Lk K H F as x dx∧Lk K H F as y dy∧g dx dy=some d ∧
 ∀v' H' F',Gr H F as H' F' as→RlO K mg O H' F' as→Ow K (fun a=>H a=none) H' F' as v' d→Q v' H'
abbrev OpD (X:Cx) (f:Value→Value→Sem Value) (g:D→D→Option D):Prop:=OpR X f (rD X.K X.mg g)
def Qad (g:D→D→Option D) (ma mb:M D):M D:=fun ρ O=>(ma ρ O).bind fun x O1=>(mb ρ O1).bind fun y O2=>match g (QaI O2 x) (QaI O2 y) with
 | some d=>.ok d O2
 | none=>.no
theorem QlR {K:Frag}{mg:Str→Option Value}{g:D→D→Option D}{ma mb:M D}{σ:St}{H:Hp}{Q:VK} (h:tM K mg md P (rO K) (Qad g ma mb) σ H Q):tOp (rD K mg g) (tM K mg md P (rS K) ma) (tM K mg md P (rS K) mb) σ H Q:=by
 obtain ⟨ρ,O,F,as,d,O',r,sl,e,k⟩:=h;obtain ⟨x,O1,e1,e⟩:=Res.bind_ok e;obtain ⟨y,O2,e2,e⟩:=Res.bind_ok e;split at e
 ·rename_i d' hg;cases e;refine ⟨ρ,_,F,as,_,_,r,sl,e1,fun v H1 F1 as1 g1 r1 hv=>?_⟩;refine ⟨ρ,_,F1,as1,_,_,r1,sl.step g1,e2,fun u H2 F2 as2 g2 r2 hu=>?_⟩;refine ⟨_,F2,as2,_,_,_,r2,Sv.lk (Sv.gr hv g2) r2,Sv.lk hu r2,hg,fun v' H' F' g' r' hw=>?_⟩;exact k v' H' F' as2 ((g1.trans g2).trans g') r' (Qde _ _ _ _ _ _ _ (fun a ha=>(g1.trans g2).dm a ha) hw)
 ·cases e
theorem Qax {e1 e2:Expr}{pos:Pos}{op:Operator}{g:D→D→Option D}{ma mb:M D} (ho:OpD X (binaryOp op) g) (ha:SE X md P e1 ma) (hb:SE X md P e2 mb):OE X md P (.BinOp e1 op e2 pos) (Qad g ma mb) :=
 (Qvx ho ha hb).imp fun _ _ _=>QlR
theorem Qf3 {e1 e2:Expr}{pos:Pos}{op:CmpOp}{g:D→D→Option D}{ma mb:M D} (ho:OpD X (compareOp op) g) (ha:SE X md P e1 ma) (hb:SE X md P e2 mb) (hm:behindInMarks op e2=false):OE X md P (.Compare e1 [op] [e2] pos) (Qad g ma mb) :=
 (Qry ho ha hb hm).imp fun _ _ _=>QlR
def Qar (m:M D):M Bool:=fun ρ O=>(m ρ O).bind fun d O1=>match d with
 | .bl b=>.ok b O1
 | _=>.no
theorem Qgx {K:Frag}{mg:Str→Option Value}{m:M D}{σ:St}{H:Hp}{Q:Bool→Hp→Prop} (h:tMT K mg md P (Qar m) σ H Q):QnE (tM K mg md P (rO K) m) σ H Q:=by
 obtain ⟨ρ,O,F,as,d,O',r,sl,e,k⟩:=h;obtain ⟨d,O1,e1,e⟩:=Res.bind_ok e
 cases d with
 | bl c =>
  cases e;refine ⟨ρ,_,F,as,_,_,r,sl,e1,fun v H1 F1 as1 g1 r1 hv=>?_⟩
  rcases hv with ⟨_,hv⟩ | ⟨a,xs,ds,_,e2,_⟩
  ·exact ⟨_,hv.unB,k H1 F1 as1 g1 r1⟩
  ·cases e2
 | _=>cases e
theorem Qbi {e1 e2:Expr}{pos:Pos}{op:CmpOp}{g:D→D→Option D}{ma mb:M D} (ho:OpD X (compareOp op) g) (ha:SE X md P e1 ma) (hb:SE X md P e2 mb) (hm:behindInMarks op e2=false):TsE X md P (.Compare e1 [op] [e2] pos) (Qar (Qad g ma mb)) :=
 (QmI ho ha hb hm).imp fun σ H Q h=>by
  have q:=Qgx h;exact QlR q
def QoX (g g':D→D→Option D) (ma mb mc:M D):M D:=fun ρ O=>(ma ρ O).bind fun x O1=>(mb ρ O1).bind fun y O2=>match g (QaI O2 x) (QaI O2 y) with
 | some (.bl true)=>(mc ρ O2).bind fun z O3=>match g' (QaI O3 y) (QaI O3 z) with
  | some d=>.ok d O3
  | none=>.no
 | some (.bl false)=>.ok (.bl false) O2
 | _=>.no
def isNon:D→Bool
 | .non=>true
 | _=>false
def Qgl (m:M D):M D:=fun ρ O=>(m ρ O).bind fun d O1=>.ok (.bl (isNon d)) O1
def Qew (m:M D):M D:=fun ρ O=>(m ρ O).bind fun d O1=>.ok (.bl (!isNon d)) O1
theorem Sv.isN {K:Frag}{H F:Hp}{as:List Addr}{v:V}{d:D} (h:Sv K H F as v d):decide (v = .non)=isNon d:=by
 rcases h with h | ⟨a,xs,ds,rfl,rfl,_⟩
 ·cases d with
  | non=>rw [h.unN]; rfl
  | bl b=>rw [h.unB]; rfl
  | int b=>rw [h.unI]; rfl
  | str b=>rw [h.unS]; rfl
  | lst b=>obtain ⟨a,xs,rfl,_⟩:=h.unL; rfl
  | tup b=>obtain ⟨a,xs,rfl,_⟩:=h.unT; rfl
  | dic k b=>obtain ⟨a,xs,rfl,_⟩:=h.unD; rfl
  | ob b=>obtain ⟨a,rfl,_⟩:=h.unO; rfl
 ·rfl
theorem Qt7 {K:Frag}{mg:Str→Option Value}{m:M D}{σ:St}{H:Hp}{Q:VK} (h:tM K mg md P (rO K) (Qgl m) σ H Q):Qt9 (tM K mg md P (rS K) m) σ H Q:=by
 obtain ⟨ρ,O,F,as,d,O',r,sl,e,k⟩:=h;obtain ⟨x,O1,e1,e⟩:=Res.bind_ok e;cases e;refine ⟨ρ,_,F,as,_,_,r,sl,e1,fun v H1 F1 as1 g1 r1 hv=>?_⟩;dsimp only;rw [Sv.isN hv];exact k _ H1 F1 as1 g1 r1 (.inl ⟨rfl,Rp.bl⟩)
theorem QrY {K:Frag}{mg:Str→Option Value}{m:M D}{σ:St}{H:Hp}{Q:VK} (h:tM K mg md P (rO K) (Qew m) σ H Q):Qrc (tM K mg md P (rS K) m) σ H Q:=by
 obtain ⟨ρ,O,F,as,d,O',r,sl,e,k⟩:=h;obtain ⟨x,O1,e1,e⟩:=Res.bind_ok e;cases e;refine ⟨ρ,_,F,as,_,_,r,sl,e1,fun v H1 F1 as1 g1 r1 hv=>?_⟩;dsimp only;rw [Sv.isN hv];exact k _ H1 F1 as1 g1 r1 (.inl ⟨rfl,Rp.bl⟩)
theorem QqS {t t':TE}{σ:St}{H:Hp}{Q:Bool→Hp→Prop} (h:∀Q',t σ H Q'→t' σ H Q') (q:QnE t σ H Q):tB t' σ H Q:=h _ q
theorem QlF {a:Expr}{pos pos':Pos}{j}{m:M D} (h:SE X md P a m):TsE X md P (.Compare a [.Is] [.Constant .none j pos'] pos) (Qar (Qgl m)):=(QlN (Qs3 h)).imp fun _ _ _ q=>QqS (fun _=>Qt7) (Qgx q)
theorem QmY {a:Expr}{pos pos':Pos}{j}{m:M D} (h:SE X md P a m):TsE X md P (.Compare a [.IsNot] [.Constant .none j pos'] pos) (Qar (Qew m)):=(QlN (QrD h)).imp fun _ _ _ q=>QqS (fun _=>QrY) (Qgx q)
def QjN:D→Option Bool
 | .non=>some false
 | .bl b=>some b
 | .int i=>some (i != 0)
 | .str l=>if l.length≤1000000 then some (!l.isEmpty) else none
 | .lst ds=>some (!ds.isEmpty)
 | .tup ds=>some (!ds.isEmpty)
 | .dic ks _=>some (!ks.isEmpty)
 | .ob _=>none
def Qbs (m:M D):M Bool:=fun ρ O=>(m ρ O).bind fun d O1=>match QjN (QaI O1 d) with
 | some b=>.ok b O1
 | none=>.no
theorem Qkv {α β:Type}{xs:List α}{ys:List β} (h:xs.length=ys.length):(!xs.isEmpty) = !ys.isEmpty:=by
 cases xs <;> cases ys <;> simp_all
theorem Lk.tru {K:Frag}{H F:Hp}{as:List Addr}{v:V}{d:D}{b:Bool} (h:Lk K H F as v d) (fh:Same F H) (e:QjN d=some b):QqO K v H b:=by
 cases d with
 | non=>rw [(h.rp rfl).unN]; cases e; rfl
 | bl b=>rw [(h.rp rfl).unB]; cases e; rfl
 | int b=>rw [(h.rp rfl).unI]; cases e; rfl
 | str l =>
  rw [(h.rp rfl).unS];simp only [QjN] at e;split at e
  ·rename_i hl;cases e;refine ⟨by rw [Qb7]; exact Qda hl,?_⟩;rw [Qb7]
   cases l with
   | nil=>rfl
   | cons c l =>
    have:((((c::l).length:Nat):Int) != 0)=true:=by
     rw [bne_iff_ne,zA];omega
    rw [this];rfl
  ·cases e
 | lst ds =>
  obtain ⟨a,xs,rfl,h1,h2⟩:=h.list fh;cases e;exact .inl ⟨xs,h1.sq,(Qkv h2.length).symm⟩
 | tup ds =>
  obtain ⟨a,xs,rfl,h1,h2⟩:=(h.rp rfl).unT;cases e;exact .inr (.inl ⟨xs,Same.seqT fh h1,(Qkv h2.length).symm⟩)
 | dic ks vs =>
  obtain ⟨a,kvs,rfl,h1,rfl,h2⟩:=(h.rp rfl).unD;cases e;exact .inr (.inr ⟨kvs,fh _ _ h1,by cases kvs <;> rfl⟩)
 | ob n=>cases e
theorem QcB {a:Expr}{m:M D} (h:SE X md P a m) (he:∀whole,isTrue a X.env whole=(do let v ←whole; standAt a.pos; holding [v] (truthy v)):=by intro _; rfl):TsE X md P a (Qbs m):=(QqH h he).imp fun σ H Q q=>by
 obtain ⟨ρ,O,F,as,d,O',r,sl,e,k⟩:=q;obtain ⟨d,O1,e1,e⟩:=Res.bind_ok e;split at e
 ·rename_i c hc;cases e;exact ⟨ρ,_,F,as,_,_,r,sl,e1,fun v H1 F1 as1 g1 r1 hv=>⟨_,Lk.tru (Sv.lk hv r1) r1.fh hc,k H1 F1 as1 g1 r1⟩⟩
 ·cases e
def QcX (a b:M Bool):M Bool:=fun ρ O=>(a ρ O).bind fun c O1=>if c=true then b ρ O1 else .ok false O1
def Qgp (a b:M Bool):M Bool:=fun ρ O=>(a ρ O).bind fun c O1=>if c=true then .ok true O1 else b ρ O1
def Qb4 (a:M Bool):M Bool:=fun ρ O=>(a ρ O).bind fun c O1=>.ok (!c) O1
theorem QrQ {K:Frag}{mg:Str→Option Value}{ma mb:M Bool}{σ:St}{H:Hp}{Q:Bool→Hp→Prop} (h:tMT K mg md P (QcX ma mb) σ H Q):QtT (tMT K mg md P ma) (tMT K mg md P mb) σ H Q:=by
 obtain ⟨ρ,O,F,as,d,O',r,sl,e,k⟩:=h;obtain ⟨c,O1,e1,e⟩:=Res.bind_ok e;refine ⟨ρ,_,F,as,_,_,r,sl,e1,fun H1 F1 as1 g1 r1=>?_⟩
 cases c with
 | true =>
  rw [if_pos rfl] at e ⊢;exact ⟨ρ,_,F1,as1,_,_,r1,sl.step g1,e,fun H2 F2 as2 g2 r2=>k H2 F2 as2 (g1.trans g2) r2⟩
 | false =>
  rw [if_neg zp] at e ⊢;cases e;exact k H1 F1 as1 g1 r1
theorem QtJ {K:Frag}{mg:Str→Option Value}{ma mb:M Bool}{σ:St}{H:Hp}{Q:Bool→Hp→Prop} (h:tMT K mg md P (Qgp ma mb) σ H Q):tOr (tMT K mg md P ma) (tMT K mg md P mb) σ H Q:=by
 obtain ⟨ρ,O,F,as,d,O',r,sl,e,k⟩:=h;obtain ⟨c,O1,e1,e⟩:=Res.bind_ok e;refine ⟨ρ,_,F,as,_,_,r,sl,e1,fun H1 F1 as1 g1 r1=>?_⟩
 cases c with
 | true =>
  rw [if_pos rfl] at e ⊢;cases e;exact k H1 F1 as1 g1 r1
 | false =>
  rw [if_neg zp] at e ⊢;exact ⟨ρ,_,F1,as1,_,_,r1,sl.step g1,e,fun H2 F2 as2 g2 r2=>k H2 F2 as2 (g1.trans g2) r2⟩
theorem Qgv {a:Expr}{pos:Pos}{m:M Bool} (h:TsE X md P a m):TwE X md P (.BoolOp .And [a] pos) m:=QsQ h
theorem QoJ {a:Expr}{pos:Pos}{m:M Bool} (h:TsE X md P a m):TwE X md P (.BoolOp .Or [a] pos) m:=QtS h
theorem Qh2 {a b:Expr}{rest:List Expr}{pos:Pos}{ma mb:M Bool} (ha:TsE X md P a ma) (hb:TwE X md P (.BoolOp .And (b::rest) pos) mb):TwE X md P (.BoolOp .And (a::b::rest) pos) (QcX ma mb):=(Qtl ha hb).imp fun _ _ _=>QrQ
theorem QnF {a b:Expr}{rest:List Expr}{pos:Pos}{ma mb:M Bool} (ha:TsE X md P a ma) (hb:TwE X md P (.BoolOp .Or (b::rest) pos) mb):TwE X md P (.BoolOp .Or (a::b::rest) pos) (Qgp ma mb):=(Qvr ha hb).imp fun _ _ _=>QtJ
theorem QiZ {e:Expr}{m:M Bool} (h:TwE X md P e m):TsE X md P e m:=PW.pt h
theorem Qe9 {a:Expr}{pos:Pos}{m:M Bool} (h:TsE X md P a m):TsE X md P (.UnaryOp .Not a pos) (Qb4 m):=(Qs2 h).imp fun σ H Q q=>by
 obtain ⟨ρ,O,F,as,d,O',r,sl,e,k⟩:=q;obtain ⟨c,O1,e1,e⟩:=Res.bind_ok e;cases e;exact ⟨ρ,_,F,as,_,_,r,sl,e1,k⟩
def Qd3 (ma mb:M D):M D:=fun ρ O=>(ma ρ O).bind fun d O1=>match d with
 | .bl true=>mb ρ O1
 | .bl false=>.ok (.bl false) O1
 | _=>.no
def QuD (ma mb:M D):M D:=fun ρ O=>(ma ρ O).bind fun d O1=>match d with
 | .bl true=>.ok (.bl true) O1
 | .bl false=>mb ρ O1
 | _=>.no
def QkT (ma:M D):M D:=fun ρ O=>(ma ρ O).bind fun d O1=>match d with
 | .bl b=>.ok (.bl (!b)) O1
 | _=>.no
theorem QjA {a:Expr}{pos:Pos}{op}{m:M D} (h:VE X md P a m):VE X md P (.BoolOp op [a] pos) m:=QuC h
theorem Qhw {a b:Expr}{rest:List Expr}{pos:Pos}{ma mb:M D} (ha:VE X md P a ma) (hb:VE X md P (.BoolOp .And (b::rest) pos) mb):VE X md P (.BoolOp .And (a::b::rest) pos) (Qd3 ma mb):=(Qs4 ha hb).imp fun σ H Q q=>by
 obtain ⟨ρ,O,F,as,d,O',r,sl,e,k⟩:=q;obtain ⟨x,O1,e1,e⟩:=Res.bind_ok e;refine ⟨ρ,_,F,as,_,_,r,sl,e1,fun v H1 F1 as1 g1 r1 hv=>?_⟩
 cases x with
 | bl c =>
  refine ⟨c,Rp.unB hv,?_⟩
  cases c with
  | true =>
   rw [if_pos rfl];exact ⟨ρ,_,F1,as1,_,_,r1,sl.step g1,e,fun v2 H2 F2 as2 g2 r2 hv2=>k v2 H2 F2 as2 (g1.trans g2) r2 hv2⟩
  | false =>
   rw [if_neg zp];cases e;exact k _ H1 F1 as1 g1 r1 Rp.bl
 | _=>cases e
theorem QuM {a:Expr}{pos:Pos}{m:M D} (h:VE X md P a m):VE X md P (.UnaryOp .Not a pos) (QkT m):=(QtO h).imp fun σ H Q q=>by
 obtain ⟨ρ,O,F,as,d,O',r,sl,e,k⟩:=q;obtain ⟨x,O1,e1,e⟩:=Res.bind_ok e;refine ⟨ρ,_,F,as,_,_,r,sl,e1,fun v H1 F1 as1 g1 r1 hv=>?_⟩
 cases x with
 | bl c =>
  cases e;exact ⟨c,Rp.unB hv,k _ H1 F1 as1 g1 r1 Rp.bl⟩
 | _=>cases e
def mIf (t:M Bool) (a b:M D):M D:=fun ρ O=>(t ρ O).bind fun c O1=>if c=true then a ρ O1 else b ρ O1
theorem QuV (hR:QeK R) {c a b:Expr}{pos:Pos}{mc:M Bool}{ma mb:M D} (hc:TsE X md P c mc) (ha:PE X a (tM X.K X.mg md P R ma)) (hb:PE X b (tM X.K X.mg md P R mb)):PE X (.IfExp c a b pos) (tM X.K X.mg md P R (mIf mc ma mb)):=(QpO hc ha hb).imp fun σ H Q q=>by
 obtain ⟨ρ,O,F,as,d,O',r,sl,e,k⟩:=q;obtain ⟨x,O1,e1,e⟩:=Res.bind_ok e;refine ⟨ρ,_,F,as,_,_,r,sl,e1,fun H1 F1 as1 g1 r1=>?_⟩
 cases x with
 | true =>
  rw [if_pos rfl] at e ⊢;exact ⟨ρ,_,F1,as1,_,_,r1,sl.step g1,e,fun v2 H2 F2 as2 g2 r2 hv2=>k v2 H2 F2 as2 (g1.trans g2) r2 (hR _ _ _ _ _ _ _ (fun a ha=>g1.dm a ha) hv2)⟩
 | false =>
  rw [if_neg zp] at e ⊢;exact ⟨ρ,_,F1,as1,_,_,r1,sl.step g1,e,fun v2 H2 F2 as2 g2 r2 hv2=>k v2 H2 F2 as2 (g1.trans g2) r2 (hR _ _ _ _ _ _ _ (fun a ha=>g1.dm a ha) hv2)⟩
theorem Qq2 {c a b:Expr}{pos:Pos}{mc:M Bool}{ma mb:M D} (hc:TsE X md P c mc) (ha:VE X md P a ma) (hb:VE X md P b mb):VE X md P (.IfExp c a b pos) (mIf mc ma mb):=QuV QbN hc ha hb
end
section
variable {K:Frag}{mg:Str→Option Value}{md:List Md}{P:Pt}{R:RR}{ρ:Qah}{σ:St}{H F H' F':Hp}{as as':List Addr}{O O':Qac}
theorem SlO.set {i:Nat}{m:Md}{v:V}{d:D} (s:SlO K md P ρ σ H F as) (hm:md[i]? = some m) (hns:m≠.s) (hv:Qee P K H F as m v d)
  (hj:∀(a:Addr) (ds:List D) (j:Nat) (es:List D),m = .o→v = .ref a→d = .lst ds→i≠j→md[j]? = some .o→ρ[j]? = some (some (.lst es))→σ[j]?≠some (some (.ref a))):SlO K md P (ρ.set i (some d)) (σ.set i (some v)) H F as:=by
 have hi:i < md.length:=(ze.mp hm).1;refine ⟨by rw [zN]; exact s.len,by rw [zN]; exact s.len',s.pd,fun j m' d' e1 e2=>?_,fun j k a ds es h1 h2 h3 h4 h5 h6=>?_,fun x hx=>?_⟩
 ·by_cases h:i=j
  ·subst h;rw [hm] at e1; cases e1;rw [zK (by rw [s.len']; exact hi)] at e2;cases e2;exact ⟨v,zK (by rw [s.len]; exact hi),hv⟩
  ·rw [zj h] at e2;rw [zj h];exact s.sl j m' d' e1 e2
 ·by_cases hij:i=j
  ·by_cases hik:i=k
   ·rw [←hij,←hik]
   ·exfalso
    subst hij;rw [hm] at h1; cases h1;rw [zK (by rw [s.len']; exact hi)] at h3;rw [zK (by rw [s.len]; exact hi)] at h5;rw [zj hik] at h4 h6;cases h3; cases h5;exact hj a ds k es rfl rfl rfl hik h2 h4 h6
  ·by_cases hik:i=k
   ·exfalso
    subst hik;rw [hm] at h2; cases h2;rw [zK (by rw [s.len']; exact hi)] at h4;rw [zK (by rw [s.len]; exact hi)] at h6;rw [zj hij] at h3 h5;cases h4; cases h6;exact hj a es j ds rfl rfl rfl hij h1 h3 h5
   ·rw [zj hij] at h3 h5;rw [zj hik] at h4 h6;exact s.inj j k a ds es h1 h2 h3 h4 h5 h6
 ·obtain ⟨p1,p2,p3⟩:=s.pin x hx
  have hne:i≠x.1:=fun z=>by
   rw [←z,hm] at p1;exact hns (zF p1)
  exact ⟨p1,by rw [zj hne]; exact p2,by rw [zj hne]; exact p3⟩
theorem SlO.setV {i:Nat}{v:V}{d:D} (s:SlO K md P ρ σ H F as) (hm:md[i]? = some .v) (hv:Rp K F as v d):SlO K md P (ρ.set i (some d)) (σ.set i (some v)) H F as :=
 s.set hm (by decide) hv fun _ _ _ _ z=>nomatch z
theorem SlO.setN {i:Nat}{v:V}{d:D} (s:SlO K md P ρ σ H F as) (hm:md[i]? = some .o) (hn:Qhc d=true) (hv:Rp K F as v d):SlO K md P (ρ.set i (some d)) (σ.set i (some v)) H F as :=
 s.set hm (by decide) (.inl ⟨hn,hv⟩) fun _ _ _ _ _ _ z=>by subst z; cases hn
theorem SlO.setO {i:Nat}{v:V}{d:D}{H0:Hp} (s:SlO K md P ρ σ H0 F as) (g:Gr H0 F as H' F' as') (hm:md[i]? = some .o) (hv:Ow K (fun a=>H0 a=none) H' F' as' v d):SlO K md P (ρ.set i (some d)) (σ.set i (some v)) H' F' as':=by
 have s':=s.step g
 rcases hv with ⟨hn,hv⟩ | ⟨a,xs,ds,rfl,rfl,e3,e4,e5,e6,e7⟩
 ·exact s'.setN hm hn hv
 ·refine s'.set hm (by decide) (.inr ⟨a,xs,ds,rfl,rfl,e3,e4,e5,fun p=>s.pd a p e6,e7⟩) fun b ds' j es _ hb hd hij hj he hs=>?_
  cases hb;obtain ⟨v,h1,h2⟩:=s.sl j .o _ hj he;rw [hs] at h1; cases h1
  rcases h2 with ⟨h2,_⟩ | ⟨a',xs',_,z1,_,z3,_⟩
  ·cases h2
  ·cases z1;rw [e6] at z3; cases z3
end
section
variable {X:Cx}{md:List Md}{P:Pt}{R:RR}
def QaO:MS:=fun ρ O=>.nx ρ O
def Qaj (a b:MS):MS:=fun ρ O=>match a ρ O with
 | .nx ρ' O'=>b ρ' O'
 | r=>r
theorem Qa0:VSs X md P R [] QaO:=QrP.imp fun D σ H q=>by
 obtain ⟨ρ,O,F,as,r,s,k⟩:=q;exact k σ H F as GrS.refl r s
theorem Qc6 {K:Frag}{mg:Str→Option Value}{D:Ends}{H F H1 F1:Hp}{as as1:List Addr} (g:GrS P H F as H1 F1 as1) {f:Fl} (k:Qfm K mg md P R D H F as f):Qfm K mg md P R D H1 F1 as1 f:=by
 cases f with
 | nx ρ' O'=>exact fun σ' H' F' as' g'=>k σ' H' F' as' (g.trans g')
 | bk ρ' O'=>exact fun σ' H' F' as' g'=>k σ' H' F' as' (g.trans g')
 | ct ρ' O'=>exact fun σ' H' F' as' g'=>k σ' H' F' as' (g.trans g')
 | rt d O'=>exact fun σ' H' F' as' g'=>k σ' H' F' as' (g.trans g')
 | ex _ _=>exact k
 | no=>exact k
theorem Qal {st:Stmt}{rest:List Stmt}{a b:MS} (h1:VS X md P R st a) (h2:VSs X md P R rest b):VSs X md P R (st::rest) (Qaj a b):=(QpJ h1 h2).imp fun D σ H q=>by
 obtain ⟨ρ,O,F,as,r,s,k⟩:=q;refine ⟨ρ,O,F,as,r,s,?_⟩;unfold Qaj at k
 cases e:a ρ O with
 | nx ρ' O' =>
  rw [e] at k;dsimp only at k
  exact fun σ' H' F' as' g r' s'=>⟨ρ',O',F',as',r',s',Qc6 g k⟩
 | bk ρ' O'=>rw [e] at k; exact k
 | ct ρ' O'=>rw [e] at k; exact k
 | rt d O'=>rw [e] at k; exact k
 | ex x O'=>rw [e] at k; exact k
 | no=>rw [e] at k; exact k
theorem Qaq {st:Stmt}{a:MS} (h1:VS X md P R st a):VSs X md P R [st] a:=Qsx h1
def Qqc:MS:=fun _ _=>.no
def QhM (m:M D):MS:=fun ρ O=>match m ρ O with
 | .ok _ O'=>.nx ρ O'
 | .ex x O'=>.ex x O'
 | .no=>.no
theorem QsK {e:Expr}{pos:Pos}{m:M D} (h:SE X md P e m) (hs:swapsWith e none pos.line X.env=pure false:=by rfl):VS X md P R (.Expr e pos) (QhM m):=(QeV h hs).imp fun D σ H q=>by
 obtain ⟨ρ,O,F,as,r,s,k⟩:=q;unfold QhM at k
 cases e:m ρ O with
 | ok d O' =>
  rw [e] at k;exact ⟨ρ,_,F,as,_,_,r,s,e,fun v H' F' as' g r' _=>k σ H' F' as' g.toS r' (s.step g)⟩
 | ex x O'=>rw [e] at k; exact False.elim k
 | no=>rw [e] at k; exact False.elim k
def QaE (m:M D):MS:=fun ρ O=>match m ρ O with
 | .ok d O'=>.rt d O'
 | .ex x O'=>.ex x O'
 | .no=>.no
theorem Qpu (hR:QeK R) {e:Expr}{pos:Pos}{m:M D} (h:PE X e (tM X.K X.mg md P R m)):VS X md P R (.Return (some e) pos) (QaE m):=(Qn5 h).imp fun D σ H q=>by
 obtain ⟨ρ,O,F,as,r,s,k⟩:=q;unfold QaE at k
 cases e:m ρ O with
 | ok d O' =>
  rw [e] at k;exact ⟨ρ,_,F,as,_,_,r,s,e,fun v H' F' as' g r' hv=>k v H' F' as' g.toS r' (hR _ _ _ _ _ _ _ (fun a ha p=>s.pd a p ha) hv)⟩
 | ex x O'=>rw [e] at k; exact False.elim k
 | no=>rw [e] at k; exact False.elim k
theorem QaU {e:Expr}{pos:Pos}{m:M D} (h:VE X md P e m):VS X md P (rV X.K) (.Return (some e) pos) (QaE m):=Qpu QbN h
theorem Qep {e:Expr}{pos:Pos}{m:M D} (h:OE X md P e m):VS X md P (rO X.K) (.Return (some e) pos) (QaE m):=Qpu Qde h
theorem Qgw (i:Nat) {x:Str}{p pos:Pos} (hm:md[i]? = some .o:=by rfl) (hN:X.N[i]? = some x:=by rfl) (hv:Vis X.env.scope x:=by first | exact Or.inl rfl | exact Or.inr (Or.inl rfl) | exact Or.inr (Or.inr rfl))
  (hd:(x == ("__debug__":Str))=false:=by decide) (hcd:(x == ("__classdict__":Str))=false:=by decide):VS X md P (rO X.K) (.Return (some (.Name x p)) pos) (QaE (Qaa i)):=(Qn5 (Qgb (i:=i) hN hv hd hcd)).imp fun D σ H q=>by
 obtain ⟨ρ,O,F,as,r,s,k⟩:=q;unfold QaE at k
 cases e:Qaa i ρ O with
 | ok d O' =>
  rw [e] at k;obtain ⟨e1,rfl⟩:=Qij e;obtain ⟨v,h1,h2⟩:=s.sl i .o d hm e1;refine ⟨v,h1,k v H F as GrS.refl r ?_⟩
  rcases h2 with h2 | ⟨a,xs,ds,e1,e2,e3,e0,e4,e5,e6⟩
  ·exact .inl h2
  ·exact .inr ⟨a,xs,ds,e1,e2,e3,e0,e4,e5,e6⟩
 | ex x O'=>rw [e] at k; exact False.elim k
 | no=>rw [e] at k; exact False.elim k
def QaM (t:M Bool) (a b:MS):MS:=fun ρ O=>match t ρ O with
 | .ok c O'=>if c=true then a ρ O' else b ρ O'
 | .ex x O'=>.ex x O'
 | .no=>.no
theorem Qbc {c:Expr}{a b:List Stmt}{pos:Pos}{t:M Bool}{ma mb:MS} (hc:TsE X md P c t) (ha:VSs X md P R a ma) (hb:VSs X md P R b mb):VS X md P R (.If c a b pos) (QaM t ma mb):=(Qu7 hc ha hb).imp fun D σ H q=>by
 obtain ⟨ρ,O,F,as,r,s,k⟩:=q;unfold QaM at k
 cases e:t ρ O with
 | ok c O' =>
  rw [e] at k;refine ⟨ρ,_,F,as,_,_,r,s,e,fun H1 F1 as1 g r1=>?_⟩;dsimp only at k
  cases c with
  | true =>
   rw [if_pos rfl] at k ⊢;exact ⟨ρ,O',F1,as1,r1,s.step g,Qc6 g.toS k⟩
  | false =>
   rw [if_neg zp] at k ⊢;exact ⟨ρ,O',F1,as1,r1,s.step g,Qc6 g.toS k⟩
 | ex x O'=>rw [e] at k; exact False.elim k
 | no=>rw [e] at k; exact False.elim k
def Qao (i:Nat) (m:M D):MS:=fun ρ O=>match m ρ O with
 | .ok d O'=>.nx (ρ.set i (some d)) O'
 | .ex x O'=>.ex x O'
 | .no=>.no
theorem QjW {K:Frag}{mg:Str→Option Value}{i:Nat}{m:M D}{t:TE} (hm:md[i]? = some .v) (ht:∀σ H Q,tM K mg md P (rV K) m σ H Q→t σ H Q) {D:Ends}{σ:St}{H:Hp} (q:tMS K mg md P R (Qao i m) D σ H):QlI t (Qji i) D σ H:=by
 obtain ⟨ρ,O,F,as,r,s,k⟩:=q;unfold Qao at k
 cases e:m ρ O with
 | ok d O' =>
  rw [e] at k;exact ht _ _ _ ⟨ρ,_,F,as,_,_,r,s,e,fun v H' F' as' g r' hv=>k _ H' F' as' g.toS r' ((s.step g).setV hm hv)⟩
 | ex x O'=>rw [e] at k; exact False.elim k
 | no=>rw [e] at k; exact False.elim k
theorem QmC {K:Frag}{mg:Str→Option Value}{i:Nat}{m:M D}{t:TE} (hm:md[i]? = some .o) (ht:∀σ H Q,tM K mg md P (rO K) m σ H Q→t σ H Q) {D:Ends}{σ:St}{H:Hp} (q:tMS K mg md P R (Qao i m) D σ H):QlI t (Qji i) D σ H:=by
 obtain ⟨ρ,O,F,as,r,s,k⟩:=q;unfold Qao at k
 cases e:m ρ O with
 | ok d O' =>
  rw [e] at k;exact ht _ _ _ ⟨ρ,_,F,as,_,_,r,s,e,fun v H' F' as' g r' hv=>k _ H' F' as' g.toS r' (s.setO g hm hv)⟩
 | ex x O'=>rw [e] at k; exact False.elim k
 | no=>rw [e] at k; exact False.elim k
theorem QaH {i:Nat}{x:Str}{e:Expr}{pos pos':Pos}{m:M D} (hN:X.N.Nodup) (hi:X.N[i]? = some x) (hx:Loc X.env.scope x) (h:VE X md P e m) (hm:md[i]? = some .v:=by rfl) (hs:swapsWith e (some (.Name x pos')) pos.line X.env=pure false:=by rfl)
  (hf:X.fn x=true∨X.env.scope.names.lookup x=some .local:=by first | exact .inl rfl | exact .inr rfl | assumption):VS X md P R (.Assign [.Name x pos'] e pos) (Qao i m):=(Qo4 (i:=i) hN hi hx h hs hf).imp fun D σ H q=>QjW hm (fun _ _ _ z=>z) q
theorem Qe2 {i:Nat}{x:Str}{e:Expr}{pos pos':Pos}{m:M D} (hN:X.N.Nodup) (hi:X.N[i]? = some x) (hx:Loc X.env.scope x) (h:OE X md P e m) (hm:md[i]? = some .o:=by rfl) (hs:swapsWith e (some (.Name x pos')) pos.line X.env=pure false:=by rfl)
  (hf:X.fn x=true∨X.env.scope.names.lookup x=some .local:=by first | exact .inl rfl | exact .inr rfl | assumption):VS X md P R (.Assign [.Name x pos'] e pos) (Qao i m):=(Qo4 (i:=i) hN hi hx h hs hf).imp fun D σ H q=>QmC hm (fun _ _ _ z=>z) q
abbrev MG:=D→Qah→Option Qah
def tMG (K:Frag) (mg:Str→Option Value) (md:List Md) (P:Pt) (g:MG):TG:=fun v σ H Q=>∃ρ O F as d ρ',RlO K mg O H F as∧SlO K md P ρ σ H F as∧Rp K F as v d∧g d ρ=some ρ'∧∀σ',SlO K md P ρ' σ' H F as→Q σ' H
def QwA (K:Frag) (mg:Str→Option Value) (md:List Md) (P:Pt) (g:List D→Qah→Option Qah):TGs:=fun vs σ H Q=>∃ρ O F as ds ρ',RlO K mg O H F as∧SlO K md P ρ σ H F as∧Rps K F as vs ds∧g ds ρ=some ρ'∧∀σ',SlO K md P ρ' σ' H F as→Q σ' H
def VG (X:Cx) (md:List Md) (P:Pt) (tg:Expr) (g:MG):Prop:=PG X tg (tMG X.K X.mg md P g)
def VGs (X:Cx) (md:List Md) (P:Pt) (tg:List Expr) (g:List D→Qah→Option Qah):Prop:=PGs X tg (QwA X.K X.mg md P g)
theorem PG.imp {e:Expr}{t t':TG} (h:PG X e t) (k:∀v σ H Q,t' v σ H Q→t v σ H Q):PG X e t':=fun pins s σ H v u Q I r q=>h pins s σ H v u Q I r (k v σ H Q q)
theorem PGs.imp {e:List Expr}{t t':TGs} (h:PGs X e t) (k:∀v σ H Q,t' v σ H Q→t v σ H Q):PGs X e t':=fun pins s σ H v u Q I r q=>h pins s σ H v u Q I r (k v σ H Q q)
def mgN (i:Nat):MG:=fun d ρ=>some (ρ.set i (some d))
theorem QaJ {i:Nat}{x:Str}{pos:Pos} (hN:X.N.Nodup) (hi:X.N[i]? = some x) (hx:Loc X.env.scope x) (hm:md[i]? = some .v:=by rfl) (hf:X.fn x=true∨X.env.scope.names.lookup x=some .local:=by first | exact .inl rfl | exact .inr rfl | assumption):VG X md P (.Name x pos) (mgN i) :=
 (Qsy (i:=i) hN hi hx hf).imp fun v σ H Q q=>by
  obtain ⟨ρ,O,F,as,d,ρ',r,s,hv,e,k⟩:=q;cases e;exact k _ (s.setV hm hv)
def Qbr:List D→Qah→Option Qah:=fun ds ρ=>match ds with
 | []=>some ρ
 | _=>none
def QaB (g:MG) (r:List D→Qah→Option Qah):List D→Qah→Option Qah:=fun ds ρ=>match ds with
 | d::ds=>(g d ρ).bind fun ρ1=>r ds ρ1
 | []=>none
theorem Qc5:VGs X md P [] Qbr:=QsL.imp fun v σ H Q q=>by
 obtain ⟨ρ,O,F,as,ds,ρ',r,s,hv,e,k⟩:=q
 cases ds with
 | nil=>cases e; exact ⟨hv.un0,k _ s⟩
 | cons _ _=>cases e
theorem Qa5 {e:Expr}{es:List Expr}{g:MG}{r:List D→Qah→Option Qah} (h1:VG X md P e g) (h2:VGs X md P es r) (hs:(assignEach (e::es) X.env).map (·.2)=assign e X.env::(assignEach es X.env).map (·.2):=by rfl):VGs X md P (e::es) (QaB g r) :=
 (Qqh h1 h2 hs).imp fun v σ H Q q=>by
  obtain ⟨ρ,O,F,as,ds,ρ',r0,s,hv,e,k⟩:=q
  cases ds with
  | nil=>cases e
  | cons d ds =>
   obtain ⟨x,rs,rfl,hx,hr⟩:=hv.un;unfold QaB at e;dsimp only at e
   cases e1:g d ρ with
   | none=>rw [e1] at e; cases e
   | some ρ1 =>
    rw [e1] at e;exact ⟨x,rs,rfl,ρ,O,F,as,d,ρ1,r0,s,hx,e1,fun σ' s'=>⟨ρ1,O,F,as,ds,ρ',r0,s',hr,e,k⟩⟩
def Qb9 (n:Nat) (r:List D→Qah→Option Qah):MG:=fun d ρ=>match d with
 | .tup ds=>if ds.length=n then r ds ρ else none
 | _=>none
theorem QdL {es:List Expr}{pos:Pos}{k:Nat}{r:List D→Qah→Option Qah} (n:Nat) (hc:X.calm=true) (h:VGs X md P es r) (hn:(assignEach es X.env).length=n:=by rfl) (hst:(assignEach es X.env).findIdx? (·.1)=none:=by rfl):VG X md P (.Tuple es k pos) (Qb9 n r) :=
 (Qte hc h hn hst).imp fun v σ H Q q=>by
  obtain ⟨ρ,O,F,as,d,ρ',r0,s,hv,e,k⟩:=q
  cases d with
  | tup ds =>
   obtain ⟨a,xs,rfl,h1,h2⟩:=hv.unT;unfold Qb9 at e;dsimp only at e;split at e
   ·rename_i hl;exact ⟨a,xs,rfl,Same.seqT r0.fh h1,by rw [h2.length]; exact hl,ρ,O,F,as,ds,ρ',r0,s,h2,e,k⟩
   ·cases e
  | _=>cases e
def Qg6 (m:M D) (g:MG):MS:=fun ρ O=>match m ρ O with
 | .ok d O'=>match g d ρ with
  | some ρ'=>.nx ρ' O'
  | none=>.no
 | .ex x O'=>.ex x O'
 | .no=>.no
theorem Qod {tg e:Expr}{pos:Pos}{m:M D}{g:MG} (h:VE X md P e m) (hg:VG X md P tg g) (hs:swapsWithSole [tg] e pos.line X.env=pure false:=by rfl) (hw:swappedStores [tg] e X.env=pure none:=by rfl)
  (h1:(assignEach [tg] X.env).map (·.2) = [assign tg X.env]:=by rfl):VS X md P R (.Assign [tg] e pos) (Qg6 m g):=(Qpl h hg hs hw h1).imp fun D σ H q=>by
 obtain ⟨ρ,O,F,as,r,s,k⟩:=q;unfold Qg6 at k
 cases e:m ρ O with
 | ok d O' =>
  rw [e] at k;dsimp only at k
  cases e2:g d ρ with
  | none=>rw [e2] at k; exact False.elim k
  | some ρ' =>
   rw [e2] at k;refine ⟨ρ,_,F,as,_,_,r,s,e,fun v H1 F1 as1 g1 r1 hv=>?_⟩;exact ⟨ρ,O',F1,as1,d,ρ',r1,s.step g1,hv,e2,fun σ' s'=>k σ' H1 F1 as1 g1.toS r1 s'⟩
 | ex x O'=>rw [e] at k; exact False.elim k
 | no=>rw [e] at k; exact False.elim k
end
structure JOk (K:Frag) (mg:Str→Option Value) (P:Pt) (J:It) (ds:List D) (H F:Hp) (as:List Addr):Prop where
 turn:∀(i:Nat) (d:D) (H2 F2:Hp) (as2:List Addr),GrS P H F as H2 F2 as2→(∃O,RlO K mg O H2 F2 as2)→ds[i]? = some d→J.go i H2∧∀x H3,J.yld i H2 x H3→∃F3,Gr H2 F2 as2 H3 F3 as2∧(∀O,RlO K mg O H2 F2 as2→RlO K mg O H3 F3 as2)∧Rp K F3 as2 x d
 stop:∀(H2 F2:Hp) (as2:List Addr),GrS P H F as H2 F2 as2→(∃O,RlO K mg O H2 F2 as2)→J.stop ds.length H2
structure Qul (K:Frag) (mg:Str→Option Value) (J:It) (ds:List D) (H F:Hp) (as:List Addr):Prop where
 turn:∀(i:Nat) (d:D) (H2 F2:Hp) (as2:List Addr),Gr H F as H2 F2 as2→(∃O,RlO K mg O H2 F2 as2)→ds[i]? = some d→J.go i H2∧∀x H3,J.yld i H2 x H3→∃F3,Gr H2 F2 as2 H3 F3 as2∧(∀O,RlO K mg O H2 F2 as2→RlO K mg O H3 F3 as2)∧Rp K F3 as2 x d
 stop:∀(H2 F2:Hp) (as2:List Addr),Gr H F as H2 F2 as2→(∃O,RlO K mg O H2 F2 as2)→J.stop ds.length H2
theorem JOk.e {K:Frag}{mg:Str→Option Value}{P:Pt}{J:It}{ds:List D}{H F:Hp}{as:List Addr} (h:JOk K mg P J ds H F as):Qul K mg J ds H F as:=⟨fun i d H2 F2 as2 g=>h.turn i d H2 F2 as2 g.toS,fun H2 F2 as2 g=>h.stop H2 F2 as2 g.toS⟩
def QqJ (K:Frag) (mg:Str→Option Value) (md:List Md) (P:Pt) (m:M (List D)):TI:=fun σ H Q=>∃ρ O F as ds O',RlO K mg O H F as∧SlO K md P ρ σ H F as∧m ρ O = .ok ds O' ∧
 ∀J H' F' as',Gr H F as H' F' as'→RlO K mg O' H' F' as'→Qul K mg J ds H' F' as'→Q J H'
def VIc (X:Cx) (md:List Md) (P:Pt) (tg iter:Expr) (m:M (List D)):Prop:=PI X tg iter (QqJ X.K X.mg md P m)
def tMI (K:Frag) (mg:Str→Option Value) (md:List Md) (P:Pt) (m:M (List D)):TI:=fun σ H Q=>∃ρ O F as ds O',RlO K mg O H F as∧SlO K md P ρ σ H F as∧m ρ O = .ok ds O' ∧
 ∀J H' F' as',Gr H F as H' F' as'→RlO K mg O' H' F' as'→JOk K mg P J ds H' F' as'→Q J H'
def VI (X:Cx) (md:List Md) (P:Pt) (tg iter:Expr) (m:M (List D)):Prop:=PI X tg iter (tMI X.K X.mg md P m)
section
variable {X:Cx}{md:List Md}{P:Pt}{R:RR}
theorem PI.imp {tg e:Expr}{t t':TI} (h:PI X tg e t) (k:∀σ H Q,t' σ H Q→t σ H Q):PI X tg e t':=fun pins s σ H Q I q=>h pins s σ H Q I (k σ H Q q)
theorem Qlb {tg e:Expr}{m:M (List D)} (h:VI X md P tg e m):VIc X md P tg e m:=h.imp fun σ H Q q=>by
 obtain ⟨ρ,O,F,as,ds,O',r,s,e,k⟩:=q;exact ⟨ρ,O,F,as,ds,O',r,s,e,fun J H' F' as' g r' hJ=>k J H' F' as' g r' hJ.e⟩
def Qbo (g:MG) (b:MS):List D→MS
 | [],ρ,O=>.nx ρ O
 | d::ds,ρ,O=>match g d ρ with
  | none=>.no
  | some ρ1=>match b ρ1 O with
   | .nx ρ2 O2=>Qbo g b ds ρ2 O2
   | .ct ρ2 O2=>Qbo g b ds ρ2 O2
   | .bk ρ2 O2=>.nx ρ2 O2
   | r=>r
def Qa8 (m:M (List D)) (g:MG) (b:MS):MS:=fun ρ O=>match m ρ O with
 | .ok ds O'=>Qbo g b ds ρ O'
 | .ex x O'=>.ex x O'
 | .no=>.no
theorem Qur {K:Frag}{mg:Str→Option Value}{m:M (List D)}{g:MG}{b:MS}{D:Ends}{σ:St}{H:Hp} (q:tMS K mg md P R (Qa8 m g b) D σ H):Qqj (tMI K mg md P m) (tMG K mg md P g) (tMS K mg md P R b) D σ H:=by
 obtain ⟨ρ,O,F,as,r,s,k⟩:=q;unfold Qa8 at k
 cases e:m ρ O with
 | ex x O'=>rw [e] at k; exact False.elim k
 | no=>rw [e] at k; exact False.elim k
 | ok ds O1 =>
  rw [e] at k;dsimp only at k;refine ⟨ρ,_,F,as,_,_,r,s,e,fun J H1 F1 as1 g1 r1 hJ=>?_⟩;have k1:=Qc6 (R:=R) g1.toS k;refine ⟨fun i m σ' H'=>m=ds.length - i∧i≤ds.length∧∃ρ' O' F' as',GrS P H1 F1 as1 H' F' as'∧RlO K mg O' H' F' as'∧SlO K md P ρ' σ' H' F' as'∧Qfm K mg md P R D H' F' as' (Qbo g b (ds.drop i) ρ' O'),⟨ds.length,by simp,Nat.zero_le _,ρ,O1,F1,as1,GrS.refl,r1,s.step g1,by rw [List.drop_zero]; exact k1⟩,?_⟩;rintro i n σ' H' ⟨rfl,hi,ρ',O',F',as',g',r',s',k'⟩
  by_cases hlt:i < ds.length
  ·have hd:=zh hlt;obtain ⟨go,yl⟩:=hJ.turn i _ H' F' as' g' ⟨O',r'⟩ hd;rw [List.drop_eq_getElem_cons hlt] at k';refine .inr ⟨go,fun σ2 H2=>∃ρ2 O2 F2 as2,GrS P H1 F1 as1 H2 F2 as2∧RlO K mg O2 H2 F2 as2∧SlO K md P ρ2 σ2 H2 F2 as2∧Qfm K mg md P R D H2 F2 as2 (Qbo g b (ds.drop (i+1)) ρ2 O2),fun σ2 H2 h2=>⟨ds.length - (i+1),by omega,rfl,hlt,h2⟩,fun x H3 y=>?_⟩;obtain ⟨F3,g3,r3,hx⟩:=yl x H3 y;have r3':=r3 O' r';unfold Qbo at k'
   cases eg:g ds[i] ρ' with
   | none=>rw [eg] at k'; exact False.elim k'
   | some ρ1 =>
    rw [eg] at k';dsimp only at k';refine ⟨ρ',O',F3,as',ds[i],ρ1,r3',s'.step g3,hx,eg,fun σ4 s4=>?_⟩;refine ⟨ρ1,O',F3,as',r3',s4,?_⟩;have g4:GrS P H1 F1 as1 H3 F3 as':=g'.trans g3.toS
    have keep:=fun {f}=>Qc6 (K:=K) (mg:=mg) (md:=md) (R:=R) (D:=D) (f:=f) (g3.toS (P:=P))
    cases eb:b ρ1 O' with
    | nx ρ2 O2 =>
     rw [eb] at k'
     exact fun σ2 H2 F2 as2 g2 r2 s2=>⟨ρ2,O2,F2,as2,g4.trans g2,r2,s2,Qc6 g2 (keep k')⟩
    | ct ρ2 O2 =>
     rw [eb] at k'
     exact fun σ2 H2 F2 as2 g2 r2 s2=>⟨ρ2,O2,F2,as2,g4.trans g2,r2,s2,Qc6 g2 (keep k')⟩
    | bk ρ2 O2 =>
     rw [eb] at k'
     exact fun σ2 H2 F2 as2 g2 r2 s2=>k' σ2 H2 F2 as2 (g3.toS.trans g2) r2 s2
    | rt d O2 =>
     rw [eb] at k'
     exact fun v H2 F2 as2 g2 r2 s2=>k' v H2 F2 as2 (g3.toS.trans g2) r2 s2
    | ex _ _=>rw [eb] at k'; exact False.elim k'
    | no=>rw [eb] at k'; exact False.elim k'
  ·have hi':i=ds.length:=by omega
   subst hi';refine .inl ⟨hJ.stop H' F' as' g' ⟨O',r'⟩,?_⟩;rw [List.drop_length] at k';exact k' σ' H' F' as' GrS.refl r' s'
theorem Qb1 {tg iter:Expr}{body:List Stmt}{pos:Pos}{m:M (List D)}{g:MG}{b:MS} (hc:X.calm=true) (hi:VI X md P tg iter m) (hg:VG X md P tg g) (hb:VSs X md P R body b) (hp:PassesOwn (model X.prog X.w) X.A X.env X.xe:=by exact PassesOwn.never)
  (hs:∀x,foldedSetIterable iter X.env x=pure x:=by intro _; rfl):VS X md P R (.For tg iter body [] pos) (Qa8 m g b):=(Qpj hp hc hi hg hb hs).imp fun _ _ _ q=>Qur q
def Qdf (t:M Bool) (b:MS):Nat→MS
 | 0,_,_=>.no
 | n+1,ρ,O=>match t ρ O with
  | .ok true O1=>match b ρ O1 with
   | .nx ρ2 O2=>Qdf t b n ρ2 O2
   | .ct ρ2 O2=>Qdf t b n ρ2 O2
   | .bk ρ2 O2=>.nx ρ2 O2
   | r=>r
  | .ok false O1=>.nx ρ O1
  | .ex x O'=>.ex x O'
  | .no=>.no
def Qes (n:Nat) (t:M Bool) (b:MS):MS:=Qdf t b n
theorem Qqu {K:Frag}{mg:Str→Option Value}{n:Nat}{t:M Bool}{b:MS}{D:Ends}{σ:St}{H:Hp} (q:tMS K mg md P R (Qes n t b) D σ H):Qow (tMT K mg md P t) (tMS K mg md P R b) D σ H:=by
 refine ⟨fun n σ' H'=>tMS K mg md P R (Qdf t b n) D σ' H',⟨n,q⟩,?_⟩;rintro m σ1 H1 ⟨ρ,O,F,as,r,s,k⟩
 cases m with
 | zero=>exact False.elim k
 | succ m =>
  unfold Qdf at k
  cases e:t ρ O with
  | ex x O'=>rw [e] at k; exact False.elim k
  | no=>rw [e] at k; exact False.elim k
  | ok c O1 =>
   rw [e] at k;refine ⟨ρ,_,F,as,_,_,r,s,e,fun H2 F2 as2 g2 r2=>?_⟩
   cases c with
   | false =>
    rw [if_neg zp];exact k σ1 H2 F2 as2 g2.toS r2 (s.step g2)
   | true =>
    rw [if_pos rfl];refine ⟨fun σ' H'=>tMS K mg md P R (Qdf t b m) D σ' H',fun σ' H' h'=>⟨m,ji m,h'⟩,ρ,O1,F2,as2,r2,s.step g2,?_⟩;dsimp only at k
    have keep:=fun {f}=>Qc6 (K:=K) (mg:=mg) (md:=md) (R:=R) (D:=D) (f:=f) (g2.toS (P:=P))
    cases eb:b ρ O1 with
    | nx ρ2 O2 =>
     rw [eb] at k
     exact fun σ3 H3 F3 as3 g3 r3 s3=>⟨ρ2,O2,F3,as3,r3,s3,Qc6 g3 (keep k)⟩
    | ct ρ2 O2 =>
     rw [eb] at k
     exact fun σ3 H3 F3 as3 g3 r3 s3=>⟨ρ2,O2,F3,as3,r3,s3,Qc6 g3 (keep k)⟩
    | bk ρ2 O2 =>
     rw [eb] at k
     exact fun σ3 H3 F3 as3 g3 r3 s3=>k σ3 H3 F3 as3 (g2.toS.trans g3) r3 s3
    | rt d O2 =>
     rw [eb] at k
     exact fun σ3 H3 F3 as3 g3 r3 s3=>k σ3 H3 F3 as3 (g2.toS.trans g3) r3 s3
    | ex _ _=>rw [eb] at k; exact False.elim k
    | no=>rw [eb] at k; exact False.elim k
theorem Qk5 (n:Nat) {c:Expr}{body:List Stmt}{pos:Pos}{t:M Bool}{b:MS} (hc:TsE X md P c t) (hb:VSs X md P R body b) (hp:PassesOwn (model X.prog X.w) X.A X.env X.xe:=by exact PassesOwn.never):VS X md P R (.While c body [] pos) (Qes n t b) :=
 (QqE hp hc hb).imp fun _ _ _ q=>Qqu q
def Qbl (g:MG) (t:M Bool) (m:M D):List D→Qah→Qac→List D→Res (List D)
 | [],ρ,O,acc=>.ok acc O
 | d::ds,ρ,O,acc=>match g d ρ with
  | none=>.no
  | some ρ1=>match t ρ1 O with
   | .ok true O1=>match m ρ1 O1 with
    | .ok y O2=>Qbl g t m ds ρ1 O2 (acc ++ [y])
    | .ex x O'=>.ex x O'
    | .no=>.no
   | .ok false O1=>Qbl g t m ds ρ1 O1 acc
   | .ex x O'=>.ex x O'
   | .no=>.no
def Qf2 (own:Nat) (cap:List Nat) (ρ:Qah):Qah:=List.replicate own none++cap.map fun j=>(ρ[j]?).join
def Qbw (m:M (List D)) (own:Nat) (cap:List Nat) (g:MG) (t:M Bool) (e:M D):M D:=fun ρ O=>(m ρ O).bind fun ds O1=>if ds.length≤1000000 then (Qbl g t e ds (Qf2 own cap ρ) O1 []).bind fun ys O2=>.ok (.lst ys) O2 else .no
def Qcj:M Bool:=fun _ O=>.ok true O
def cMd (own:Nat) (cap:List Nat) (md:List Md):List Md:=List.replicate own .v++cap.map fun j=>match md[j]? with
 | some .v=>.v
 | _=>.s
theorem Qi7 {K:Frag}{ρ:Qah}{σ:St}{H F:Hp}{as:List Addr}{own:List Str}{cap:List Nat} (s:SlO K md P ρ σ H F as) (hcap:∀j∈cap,j < md.length):SlO K (cMd own.length cap md) (Pt.all H) (Qf2 own.length cap ρ) (compSt own cap σ) H F as:=by
 refine ⟨by simp [compSt,cMd],by simp [Qf2,cMd],fun a h=>h,fun i m d e1 e2=>?_,fun i j a ds es h1=>?_,fun _ z=>nomatch z⟩
 ·unfold Qf2 at e2;unfold cMd at e1;unfold compSt
  by_cases hi:i < own.length
  ·rw [zr (by simpa using hi),List.getElem?_replicate_of_lt hi] at e2;cases e2
  ·have hi':own.length≤i:=Nat.le_of_not_lt hi;rw [zE (by simpa using hi'),List.length_replicate,zm] at e2 e1;rw [zE (by simpa using hi'),zd,zm]
   cases q:cap[i - own.length]? with
   | none=>rw [q] at e2; cases e2
   | some j =>
    rw [q] at e1 e2;simp only [Option.map_some,Option.some.injEq] at e1 e2 ⊢
    cases q2:ρ[j]? with
    | none=>rw [q2] at e2; cases e2
    | some o =>
     rw [q2] at e2;have e2':o=some d:=e2;subst e2';obtain ⟨m0,v,h1,h2,h3⟩:=s.get q2;rw [h1] at e1;refine ⟨v,by rw [h2]; rfl,?_⟩
     cases m0 with
     | v=>dsimp only at e1; subst e1; exact h3
     | s =>
      dsimp only at e1; subst e1
      rcases h3 with h3 | ⟨a,xs,ds,e1,e2,e3,e4,e5,e6⟩
      ·exact .inl h3
      ·exact .inr ⟨a,xs,ds,e1,e2,e3,e4,(show H a≠none by rw [e3]; exact fun z=>nomatch z),e6⟩
     | o =>
      dsimp only at e1; subst e1
      rcases h3 with ⟨_,h3⟩ | ⟨a,xs,ds,e1,e2,e3,e0,e4,e5,e6⟩
      ·exact .inl h3
      ·exact .inr ⟨a,xs,ds,e1,e2,e3,e4,(show H a≠none by rw [e3]; exact fun z=>nomatch z),e6⟩
 ·exfalso
  unfold cMd at h1
  by_cases hi:i < own.length
  ·rw [zr (by simpa using hi),List.getElem?_replicate_of_lt hi] at h1;cases h1
  ·have hi':own.length≤i:=Nat.le_of_not_lt hi;rw [zE (by simpa using hi'),List.length_replicate,zm] at h1
   cases q:cap[i - own.length]? with
   | none=>rw [q] at h1; cases h1
   | some j =>
    rw [q] at h1;simp only [Option.map_some,Option.some.injEq] at h1
    split at h1 <;> cases h1
end
section
variable {X:Cx}{md:List Md}{P:Pt}{R:RR}
def xM (K:Frag) (mg:Str→Option Value) (md:List Md) (R:RR) (m:M D):TE:=fun σ H Q=>∃P,tM K mg md P R m σ H Q
def xMT (K:Frag) (mg:Str→Option Value) (md:List Md) (m:M Bool):TT:=fun σ H Q=>∃P,tMT K mg md P m σ H Q
def xMG (K:Frag) (mg:Str→Option Value) (md:List Md) (g:MG):TG:=fun v σ H Q=>∃P,tMG K mg md P g v σ H Q
theorem xm {e:Expr}{m:M D} (h:∀P,PE X e (tM X.K X.mg md P R m)):PE X e (xM X.K X.mg md R m):=fun pins s σ H Q I ⟨P,q⟩=>h P pins s σ H Q I q
theorem xmg {e:Expr}{g:MG} (h:∀P,VG X md P e g):PG X e (xMG X.K X.mg md g):=fun pins s σ H v u Q I r ⟨P,q⟩=>h P pins s σ H v u Q I r q
theorem xmt {e:List Expr}{m:M Bool} (h:∀P,Qh5 X e (tMT X.K X.mg md P m)):Qh5 X e (xMT X.K X.mg md m):=fun pins s σ H Q I ⟨P,q⟩=>h P pins s σ H Q I q
def VIf (X:Cx) (md:List Md) (P:Pt) (e:List Expr) (m:M Bool):Prop:=Qh5 X e (tMT X.K X.mg md P m)
theorem QeX:VIf X md P [] Qcj:=fun pins s σ H Q I q=>by
 obtain ⟨ρ,O,F,as,d,O',r,s,e,k⟩:=q;cases e;exact Qqo pins _ σ H Q I (k H F as Gr.refl r)
theorem QjM {c:Expr}{m:M Bool} (h:TsE X md P c m):VIf X md P [c] m:=Qqb h
theorem Qix {K:Frag}{mg:Str→Option Value}{m:M (List D)}{own:List Str}{cap:List Nat}{g:MG}{t:M Bool}{e:M D} (hcap:∀j∈cap,j < md.length) {σ:St}{H:Hp}{Q:VK} (q:tM K mg md P (rO K) (Qbw m own.length cap g t e) σ H Q) :
  QkH (QqJ K mg md P m) own cap (xMG K mg (cMd own.length cap md) g) (xMT K mg (cMd own.length cap md) t) (xM K mg (cMd own.length cap md) (rV K) e) σ H Q:=by
 obtain ⟨ρ,O,F,as,d,OZ,r,s,eq,k⟩:=q;obtain ⟨ds,O1,e1,eq⟩:=Res.bind_ok eq;split at eq
 ·rename_i hz;obtain ⟨yf,O2,e2,eq⟩:=Res.bind_ok eq;cases eq;refine ⟨ρ,_,F,as,_,_,r,s,e1,fun J H1 F1 as1 g1 r1 hJ=>?_⟩;have sb:=Qi7 (own:=own) (s.step g1) hcap
  refine ⟨fun i n ys σ' H'=>n=ds.length - i∧i≤ds.length∧∃ρ' O' F' as' acc,Gr H1 F1 as1 H' F' as'∧RlO K mg O' H' F' as'∧SlO K (cMd own.length cap md) (Pt.all H1) ρ' σ' H' F' as'∧Rps K F' as' ys acc∧acc.length≤i ∧
   Qbl g t e (ds.drop i) ρ' O' acc = .ok yf OZ,⟨ds.length,by simp,Nat.zero_le _,Qf2 own.length cap ρ,O1,F1,as1,[],Gr.refl,r1,sb,Rps.nil,zb _,by rw [List.drop_zero]; exact e2⟩,?_⟩
  rintro i n ys σ' H' ⟨rfl,hi,ρ',O',F',as',acc,g',r',s',hy,hl,ec⟩
  by_cases hlt:i < ds.length
  ·obtain ⟨go,yl⟩:=hJ.turn i _ H' F' as' g' ⟨O',r'⟩ (zh hlt)
   refine .inr ⟨go,?_,fun ys σ2 H2=>∃ρ2 O3 F2 as2 acc2,Gr H1 F1 as1 H2 F2 as2∧RlO K mg O3 H2 F2 as2∧SlO K (cMd own.length cap md) (Pt.all H1) ρ2 σ2 H2 F2 as2∧Rps K F2 as2 ys acc2∧acc2.length≤i+1 ∧
    Qbl g t e (ds.drop (i+1)) ρ2 O3 acc2 = .ok yf OZ,fun ys2 σ2 H2 h2=>⟨ds.length - (i+1),by omega,rfl,hlt,h2⟩,fun x H3 y=>?_⟩
   ·rw [hy.length]
    have:=Qda hz
    omega
   obtain ⟨F3,g3,r3,hx⟩:=yl x H3 y;have r3':=r3 O' r';have g13:=g'.trans g3;rw [List.drop_eq_getElem_cons hlt] at ec;unfold Qbl at ec
   cases eg:g ds[i] ρ' with
   | none=>rw [eg] at ec; cases ec
   | some ρ1 =>
    rw [eg] at ec;dsimp only at ec;refine ⟨_,ρ',O',F3,as',ds[i],ρ1,r3',s'.step g3,hx,eg,fun σ4 s4=>?_⟩
    cases et:t ρ1 O' with
    | ex _ _=>rw [et] at ec; cases ec
    | no=>rw [et] at ec; cases ec
    | ok c O4 =>
     rw [et] at ec;refine ⟨_,ρ1,O',F3,as',c,O4,r3',s4,et,fun H5 F5 as5 g5 r5=>?_⟩
     cases c with
     | false =>
      rw [if_neg zp];exact ⟨ρ1,O4,F5,as5,acc,g13.trans g5,r5,s4.step g5,(hy.gr g3).gr g5,by omega,ec⟩
     | true =>
      rw [if_pos rfl];dsimp only at ec
      cases em:e ρ1 O4 with
      | ex _ _=>rw [em] at ec; cases ec
      | no=>rw [em] at ec; cases ec
      | ok yd O6 =>
       rw [em] at ec;refine ⟨_,ρ1,O4,F5,as5,yd,O6,r5,s4.step g5,em,fun vy H7 F7 as7 g7 r7 hvy=>?_⟩;exact ⟨ρ1,O6,F7,as7,acc ++ [yd],(g13.trans g5).trans g7,r7,(s4.step g5).step g7,(((hy.gr g3).gr g5).gr g7).snoc hvy,by rw [zg]; show acc.length+1≤i+1; omega,ec⟩
  ·have hi':i=ds.length:=by omega
   subst hi';rw [List.drop_length] at ec;cases ec;refine .inl ⟨hJ.stop H' F' as' g' ⟨_,r'⟩,?_,fun p hp=>?_⟩
   ·rw [hy.length];exact zD hl (Qda hz)
   ·have hF:F' p=none:=by
     cases q:F' p with
     | none=>rfl
     | some o=>rw [r'.fh p o q] at hp; cases hp
    exact k _ _ F' as' ((g1.trans g').trans (Gr.lay hp)) (r'.lay hp) (.inr ⟨p,ys,yf,rfl,rfl,QaF,hF,fun z=>r'.all z hp,(g1.trans g').dm p hp,hy⟩)
 ·cases eq
variable {tg iter elt:Expr}{ifs:List Expr}{scope:Scope}{pos:Pos}{mi:M (List D)}{g:MG}{t:M Bool}{e:M D}
theorem Qiz (sc0:Scope) (N0 own:List Str) (cap:List Nat) (hc:X.calm=true) (hi:VIc X md P tg iter mi)
  (hg:∀C s H ex P,VG (QaY X scope C (QaQ N0 own cap) s H ex) (cMd own.length cap md) P tg g) (ht:∀C s H ex P,VIf (QaY X scope C (QaQ N0 own cap) s H ex) (cMd own.length cap md) P ifs t)
  (he:∀C s H ex P,VE (QaY X scope C (QaQ N0 own cap) s H ex) (cMd own.length cap md) P elt e)
  (hcap:∀j∈cap,j < md.length:=by decide) (hsc:X.env.scope=sc0:=by rfl) (hN0:X.N=N0:=by rfl) (ok:Qe5 sc0 N0 scope own cap=true:=by decide +kernel) (hs:∀x,foldedSetIterable iter X.env x=pure x:=by intro _; rfl) :
  OE X md P (.ListComp elt [⟨tg,iter,ifs,0⟩] scope pos) (Qbw mi own.length cap g t e) :=
 (QsS sc0 N0 own cap hc hi (fun C s H ex=>xmg (hg C s H ex)) (fun C s H ex=>xmt (ht C s H ex)) (fun C s H ex=>xm (he C s H ex)) hsc hN0 ok hs).imp fun _ _ _ q=>Qix hcap q
theorem Qhh {i:Nat}{x:Str}{pos' spos:Pos} (sc0:Scope) (N0 own:List Str) (cap:List Nat) (hN:X.N.Nodup) (hx:X.N[i]? = some x) (hl:Loc X.env.scope x) (hc:X.calm=true) (hi:VIc X md P tg iter mi)
  (hg:∀C s H ex P,VG (QaY X scope C (QaQ N0 own cap) s H ex) (cMd own.length cap md) P tg g) (ht:∀C s H ex P,VIf (QaY X scope C (QaQ N0 own cap) s H ex) (cMd own.length cap md) P ifs t)
  (he:∀C s H ex P,VE (QaY X scope C (QaQ N0 own cap) s H ex) (cMd own.length cap md) P elt e)
  (hm:md[i]? = some .v:=by rfl) (hcap:∀j∈cap,j < md.length:=by decide) (hsw:swapsWith (.ListComp elt [⟨tg,iter,ifs,0⟩] scope pos) (some (.Name x pos')) spos.line X.env=pure true:=by rfl)
  (hf:X.fn x=true∨X.env.scope.names.lookup x=some .local:=by first | exact .inl rfl | exact .inr rfl | assumption)
  (hsc:X.env.scope=sc0:=by rfl) (hN0:X.N=N0:=by rfl) (ok:Qe5 sc0 N0 scope own cap=true:=by decide +kernel) (hs:∀x,foldedSetIterable iter X.env x=pure x:=by intro _; rfl) :
  VS X md P R (.Assign [.Name x pos'] (.ListComp elt [⟨tg,iter,ifs,0⟩] scope pos) spos) (Qao i (Qbw mi own.length cap g t e)) :=
 (Qj2 (i:=i) sc0 N0 own cap hN hx hl hc hi (fun C s H ex=>xmg (hg C s H ex)) (fun C s H ex=>xmt (ht C s H ex)) (fun C s H ex=>xm (he C s H ex)) hsw hf hsc hN0 ok hs).imp fun D σ H q =>
  QjW hm (fun σ H Q z=>Qix hcap (by
   obtain ⟨ρ,O,F,as,d,O',r,s,e,k⟩:=z;refine ⟨ρ,_,F,as,_,_,r,s,e,fun v H' F' as' g r' hv=>?_⟩
   rcases hv with ⟨_,hv⟩ | ⟨a,xs,ds,rfl,rfl,e3,e4,e5,e6,e7⟩
   ·exact k v H' F' as' g r' hv
   ·have ff:Same F' (upd F' a (.lst xs)):=fun b u q=>by rw [Qap (QaD q e4)]; exact q
    exact k _ H' (upd F' a (.lst xs)) as' (g.frz e6 e4) (r'.frz e3 e4 e5 rfl) (Rp.mkL (.inl (.inl QaF)) (Rps.mono ff (fun _ _ z=>z) _ e7)))) q
theorem Qp2 {i:Nat}{x:Str}{pos' spos:Pos} (sc0:Scope) (N0 own:List Str) (cap:List Nat) (hN:X.N.Nodup) (hx:X.N[i]? = some x) (hl:Loc X.env.scope x) (hc:X.calm=true) (hi:VIc X md P tg iter mi)
  (hg:∀C s H ex P,VG (QaY X scope C (QaQ N0 own cap) s H ex) (cMd own.length cap md) P tg g) (ht:∀C s H ex P,VIf (QaY X scope C (QaQ N0 own cap) s H ex) (cMd own.length cap md) P ifs t)
  (he:∀C s H ex P,VE (QaY X scope C (QaQ N0 own cap) s H ex) (cMd own.length cap md) P elt e)
  (hm:md[i]? = some .o:=by rfl) (hcap:∀j∈cap,j < md.length:=by decide) (hsw:swapsWith (.ListComp elt [⟨tg,iter,ifs,0⟩] scope pos) (some (.Name x pos')) spos.line X.env=pure true:=by rfl)
  (hf:X.fn x=true∨X.env.scope.names.lookup x=some .local:=by first | exact .inl rfl | exact .inr rfl | assumption)
  (hsc:X.env.scope=sc0:=by rfl) (hN0:X.N=N0:=by rfl) (ok:Qe5 sc0 N0 scope own cap=true:=by decide +kernel) (hs:∀x,foldedSetIterable iter X.env x=pure x:=by intro _; rfl) :
  VS X md P R (.Assign [.Name x pos'] (.ListComp elt [⟨tg,iter,ifs,0⟩] scope pos) spos) (Qao i (Qbw mi own.length cap g t e)) :=
 (Qj2 (i:=i) sc0 N0 own cap hN hx hl hc hi (fun C s H ex=>xmg (hg C s H ex)) (fun C s H ex=>xmt (ht C s H ex)) (fun C s H ex=>xm (he C s H ex)) hsw hf hsc hN0 ok hs).imp fun D σ H q =>
  QmC hm (fun σ H Q z=>Qix hcap z) q
end
def vSp (K:Frag) (mg:Str→Option Value) (pm:List Md) (R:RR) (c:List D→Qac→Res D):Sp:=fun vs H Q _ =>
 ∃ds O F as d O',RlO K mg O H F as∧QbI K H F as pm vs ds∧c ds O = .ok d O'∧∀v H' F' as',Gr H F as H' F' as'→RlO K mg O' H' F' as'→R (fun a=>H a=none) H' F' as' v d→Q v H'
def Qby (n:Nat) (b:MS):List D→Qac→Res D:=fun ds O=>match b (ds.map some++List.replicate (n - ds.length) none) O with
 | .rt d O'=>.ok d O'
 | .nx _ O'=>.ok .non O'
 | .ex x O'=>.ex x O'
 | _=>.no
theorem QbI.len {K:Frag}{H F:Hp}{as:List Addr}:∀{ms:List Md}{vs:List V}{ds:List D},QbI K H F as ms vs ds→vs.length=ms.length∧ds.length=ms.length
 | [],[],[],_=>⟨rfl,rfl⟩
 | m::ms,v::vs,d::ds,h=>by
  have:=QbI.len h.2
  simp [this.1,this.2]
 | [],[],_::_,h=>h.elim
 | [],_::_,[],h=>h.elim
 | [],_::_,_::_,h=>h.elim
 | _::_,[],[],h=>h.elim
 | _::_,[],_::_,h=>h.elim
 | _::_,_::_,[],h=>h.elim
theorem QbI.get {K:Frag}{H F:Hp}{as:List Addr}:∀{ms:List Md}{vs:List V}{ds:List D}{i:Nat}{m:Md}{d:D},QbI K H F as ms vs ds→ms[i]? = some m→ds[i]? = some d→∃v,vs[i]? = some v∧rA K m (fun _=>True) H F as v d
 | m::ms,v::vs,d::ds,0,m',d',h,e1,e2=>by
  simp at e1 e2
  subst e1 e2;exact ⟨v,rfl,h.1⟩
 | m::ms,v::vs,d::ds,i+1,m',d',h,e1,e2=>by
  obtain ⟨v',h1,h2⟩:=QbI.get (i:=i) (m:=m') (d:=d') h.2 (by simpa using e1) (by simpa using e2);exact ⟨v',by simpa using h1,h2⟩
 | [],[],[],_,_,_,_,e1,_=>by simp at e1
 | [],[],_::_,_,_,_,h,_,_=>h.elim
 | [],_::_,[],_,_,_,h,_,_=>h.elim
 | [],_::_,_::_,_,_,_,h,_,_=>h.elim
 | _::_,[],[],_,_,_,h,_,_=>h.elim
 | _::_,[],_::_,_,_,_,h,_,_=>h.elim
 | _::_,_::_,[],_,_,_,h,_,_=>h.elim
theorem QiJ {K:Frag}{H F:Hp}{as:List Addr}{N:List Str}{pm lm:List Md}{vs:List V}{ds:List D} (h:QbI K H F as pm vs ds) (hl:(pm++lm).length=N.length) (hp:∀m∈pm,m≠.o) :
  SlO K (pm++lm) (Pt.all H) (ds.map some++List.replicate (N.length - ds.length) none) (start N vs) H F as:=by
 obtain ⟨h1,h2⟩:=h.len;rw [zg] at hl
 have vsl:vs.length≤N.length:=by omega
 have no:∀i a,(ds.map some++List.replicate (N.length - ds.length) none)[i]? = some (some a)→i < ds.length:=fun i a e=>by
  by_cases hi:i < ds.length
  ·exact hi
  ·rw [zE (by simpa using hi),List.getElem?_replicate] at e
   split at e <;> cases e
 refine ⟨by unfold start; simp; omega,by simp; omega,fun a z=>z,fun i m d e1 e2=>?_,fun i j a es fs e1 e2 e3=>?_,fun _ z=>nomatch z⟩
 ·have hi:=no i d e2;rw [zr (by simpa using hi),zm] at e2;rw [zr (by omega)] at e1
  cases q:ds[i]? with
  | none=>rw [q] at e2; cases e2
  | some d' =>
   rw [q] at e2;cases e2;obtain ⟨v,h3,h4⟩:=h.get e1 q;refine ⟨v,?_,?_⟩
   ·unfold start;rw [zr (by simp; omega),zm,h3];rfl
   ·cases m with
    | v=>exact h4
    | s =>
     rcases h4 with h4 | ⟨a,xs,es,z1,z2,z3,z4,z5⟩
     ·exact .inl h4
     ·exact .inr ⟨a,xs,es,z1,z2,z3,z4,(show H a≠none by rw [z3]; exact fun z=>nomatch z),z5⟩
    | o=>exact absurd rfl (hp .o (zx e1))
 ·have hi:=no i _ e3;rw [zr (by omega)] at e1;exact absurd rfl (hp .o (zx e1))
section
variable {Pr:Program}{w:World}{K:Frag}{mg:Str→Option Value}{base:Heap}
theorem QcC {x:Str}{st:Stmt}{N ps:List Str}{k:Nat} (Df:Def K mg x st) (S:QaR N ps (Qas st))
  (hb:∀(kV doc pm:Value) (an:Option Addr) (cdv ct:Value) (us:List Value),us.length=ps.length→bindArgs (PySem.W.fnOf x x (QcH st) (QbO st) (Qas st) .none kV doc pm an cdv ct) ⟨us,[]⟩=pure (ps.zip us))
  (pm lm:List Md) {R:RR}{b:MS} (hR:QeK R) (hR0:∀N H F as,R N H F as .non .non) (hpl:pm.length=ps.length:=by rfl) (hl:(pm++lm).length=N.length:=by rfl) (hp:∀m∈pm,m≠.o:=by decide)
  (body:∀(f:Addr) (cdv:Value) (A:Around) (outer:List Env) (s:Shared) (H:Hp) (E:XK),Qa6 k (A.deeper (envOfC x (Qas st) s.heap.objs.size f cdv))→∀P,VSs ((Qge CX0 Pr w K mg base N x (Qas st) f cdv A outer s H E).nox) (pm++lm) P R (QbO st) b) :
  Can Pr w K mg base x ps (k+1) (vSp K mg pm R (Qby N.length b)):=by
 refine Df.can (k:=k) S hb (fun vs H Q E h=>?_) (fun f cdv A outer s H vs Q E hr h=>?_)
 ·obtain ⟨ds,O,F,as,d,O',r,a,_⟩:=h;rw [a.len.1,hpl]
 ·obtain ⟨ds,O,F,as,d,O',r,a,e,q⟩:=h;refine ⟨_,body f cdv A outer s H E hr (Pt.all H),?_⟩;refine ⟨_,O,F,as,r,QiJ a hl hp,?_⟩;unfold Qby at e
  cases eb:b (ds.map some++List.replicate (N.length - ds.length) none) O with
  | rt d' O2 =>
   rw [eb] at e;cases e
   exact fun v H' F' as' g r' hv=>q v H' F' as' g.gr r' (hR _ _ _ _ _ _ _ (fun c hc=>Classical.not_not.mp hc) hv)
  | nx ρ O2 =>
   rw [eb] at e;cases e
   exact fun σ' H' F' as' g r' _=>q _ H' F' as' g.gr r' (hR0 _ _ _ _)
  | bk _ _=>rw [eb] at e; cases e
  | ct _ _=>rw [eb] at e; cases e
  | ex _ _=>rw [eb] at e; cases e
  | no=>rw [eb] at e; cases e
end
section
variable {X:Cx}{md:List Md}{P:Pt}{R:RR}{k:Nat}{x:Str}{ps:List Str}{p pos:Pos}{e:Expr}{es:List Expr}{pm:List Md}{c:List D→Qac→Res D}{ma:M (List D)}
def Qat (c:List D→Qac→Res D) (ma:M (List D)):M D:=fun ρ O=>(ma ρ O).bind fun ds O1=>c ds O1
theorem QsC {K:Frag}{mg:Str→Option Value} (hR:QeK R) {E:XK}{σ:St}{H:Hp}{Q:VK} (q:tM K mg md P R (Qat c ma) σ H Q):QnI (vSp K mg pm R c) [] E (tMA K mg md P pm ma) σ H Q:=by
 obtain ⟨ρ,O,F,as,d,O',r,s,e,k⟩:=q;obtain ⟨ds,O1,e1,e⟩:=Res.bind_ok e;refine ⟨ρ,_,F,as,_,_,r,s,e1,fun vs H1 F1 as1 g1 r1 hv=>?_⟩;dsimp only;rw [zO];exact ⟨ds,O1,F1,as1,d,O',r1,hv,e,fun v H' F' as' g' r' hw=>k v H' F' as' (g1.trans g') r' (hR _ _ _ _ _ _ _ (fun a ha=>g1.dm a ha) hw)⟩
theorem QmW (hR:QeK R) (C:Can X.prog X.w X.K X.mg X.base x ps k (vSp X.K X.mg pm R c)) (hr:Qa6 k X.A) (ha:AE X md P pm (e::es) ma) (hg:Gl X x:=by rfl) (hdb:(x == ("__debug__":Str))=false:=by decide)
  (he:starEach (e::es) X.env=(false,eval e X.env)::starEach es X.env:=by exact Qbn rfl) (hpl:(backTo pos (starEach es X.env)).any (·.1)=false:=by exact QbF rfl):PE X (.Call (.Name x p) (e::es) [] pos) (tM X.K X.mg md P R (Qat c ma)) :=
 (Qtx C hr ha hg hdb he hpl).imp fun _ _ _ q=>QsC hR q
end
section
variable {K:Frag}{mg:Str→Option Value}{H F:Hp}{as:List Addr}{O:Qac}{Q:VK}{d:D}{p:Addr}{xs:List V}{ds:List D}
theorem QbJ {v:V} (r:RlO K mg O H F as) (k:∀v' H' F',Gr H F as H' F' as→RlO K mg O H' F' as→Ow K (fun a=>H a=none) H' F' as v' d→Q v' H') (hn:Qhc d=true) (hv:Rp K F as v d):Q v H:=k v H F Gr.refl r (.inl ⟨hn,hv⟩)
theorem RlO.frF (r:RlO K mg O H F as) (hp:H p=none):F p=none:=by
 cases q:F p with
 | none=>rfl
 | some o=>rw [r.fh p o q] at hp; cases hp
theorem Qjv (r:RlO K mg O H F as) (k:∀v' H' F',Gr H F as H' F' as→RlO K mg O H' F' as→Ow K (fun a=>H a=none) H' F' as v' (.lst ds)→Q v' H') (hp:H p=none) (hs:Rps K F as xs ds):Q (.ref p) (upd H p (.lst xs)) :=
 k _ _ F (Gr.lay hp) (r.lay hp) (.inr ⟨p,xs,ds,rfl,rfl,QaF,r.frF hp,fun z=>r.all z hp,hp,hs⟩)
theorem QqX (r:RlO K mg O H F as) (k:∀v' H' F',Gr H F as H' F' as→RlO K mg O H' F' as→Ow K (fun a=>H a=none) H' F' as v' (.tup ds)→Q v' H') (hp:H p=none) (hs:Rps K F as xs ds):Q (.ref p) (upd H p (.tup xs)):=by
 have hF:=r.frF hp
 have ff:Same F (upd F p (.tup xs)):=fun b u q=>by rw [Qap (QaD q hF)]; exact q
 exact k _ _ (upd F p (.tup xs)) ((Gr.lay hp).frz hp hF) ((r.lay hp).frz QaF hF (fun z=>r.all z hp) rfl) (.inl ⟨rfl,Rp.mkT (.inl QaF) (Rps.mono ff (fun _ _ z=>z) _ hs)⟩)
end
section
variable {X:Cx}
def Qu4 (K:Frag):R2:=fun x y H Q=>∃l b xs zs,x = .ref l∧y = .ref b∧RdK K H l xs∧RdK K H b zs∧xs.length+zs.length≤sizeLine∧∀p,H p=none→Q (.ref p) (upd H p (.lst (xs++zs)))
theorem Qsp:OpR X (binaryOp .Add) (Qu4 X.K):=by
 intro pins s σ H x y v u Q I rx ry h;obtain ⟨l,b,xs,zs,rfl,rfl,hH,hB,hz,q⟩:=h;cases rx;cases ry;obtain ⟨z,its,n,r,e⟩:=hH.ok I;obtain ⟨z2,its2,n2,r2,e2⟩:=hB.ok I;have hl:=r.length;have hl2:=r2.length;refine PySem.P.add_list e e2 ?_ (by rw [zt,zt]; omega)
 have ea:its.toArray++its2.toArray=(its++its2).toArray:=by simp
 rw [ea];exact ⟨.ref _,_,I.lnew (t':=s.toks) (r.append r2) (by rw [zg]; omega),rfl,q _ I.fresh⟩
def Qvi (K:Frag):R2:=fun x y H Q=>∃l k xs,x = .ref l∧y = .int k∧RdK K H l xs∧-(2 ^ 63)≤k∧k < 2 ^ 63∧xs.length * k.toNat≤sizeLine ∧
 ∀p,H p=none→Q (.ref p) (upd H p (.lst (List.replicate k.toNat xs).flatten))
theorem Qsf:OpR X (binaryOp .Mult) (Qvi X.K):=by
 intro pins s σ H x y v u Q I rx ry h;obtain ⟨l,k,xs,rfl,rfl,hH,h1,h2,hz,q⟩:=h;cases rx;obtain ⟨t,rfl⟩:=ry;obtain ⟨z,its,n,r,e⟩:=hH.ok I;have hl:=r.length
 have hlen:its.toArray.size * k.toNat≤sizeLine:=by rw [zt,←hl]; exact hz
 have hcap:¬its.toArray.size * k.toNat > (2 ^ 63 - 1) / 8:=by
  have:(sizeLine:Nat)≤(2 ^ 63 - 1) / 8:=by decide
  omega
 have hfit:¬(!Builtin.List.listFitsIndex k)=true:=by
  rw [fitsIndex_both h1 h2];exact zp
 have hlong:¬Builtin.List.listTooLong (its.toArray.size * k.toNat)=true:=by
  rw [Qlk hlen];exact zp
 have hnew:List.foldl (fun x1 x2=>x1++x2) #[] (List.replicate (if its.toArray.isEmpty=true then 0 else k.toNat) its.toArray)=(List.replicate k.toNat its).flatten.toArray:=by
  have f0:∀m:Nat,List.foldl (fun x1 x2=>x1++x2) #[] (List.replicate m its.toArray)=(List.replicate m its).flatten.toArray:=fun m=>by
   have:=foldl_rep its m []
   rw [zJ] at this;exact this
  rw [f0]
  cases its with
  | nil=>simp
  | cons a r'=>rw [if_neg (by simp)]
 refine wpAny_binaryOp_repeat_ref (T:="list") (U:="int") (by decide) ⟨_,e,rfl⟩ (fun s'=>typeIs_int s' k t) noFill_list_mul F.fills_int_mul F.slot_int_rmul repeat_list F.slot_int_index.lookup
  (call_meets F.slot_int_rmul (typeIs_int s k t) F.entry_int_rmul (F.args_int_rmul_2 _ _) (int___rmul___int_list k t l its.toArray n)
   ⟨e,rfl,⟨_,e,rfl⟩,call_meets F.slot_list_mul ⟨_,e,rfl⟩ F.entry_list_mul (F.args_list_mul_2 _ _) (AutoListH.list___mul___list_int_3 l its.toArray n k t hfit hcap hlong) ⟨e,?_⟩⟩)
 rw [hnew];exact ⟨.ref _,_,I.lnew (t':=s.toks) (r.rep k.toNat) (by rw [len_rep,Nat.mul_comm]; exact hz),rfl,q _ I.fresh⟩
def QaK:D→D→Option D
 | .int i,.int j=>some (.int (i+j))
 | .int i,.bl k=>some (.int (i+b2i k))
 | .str a,.str b=>if a.length+b.length≤1000000 then some (.str (a++b)) else none
 | .lst a,.lst b=>if a.length+b.length≤1000000 then some (.lst (a++b)) else none
 | .tup a,.tup b=>if a.length+b.length≤1000000∧a≠[] then some (.tup (a++b)) else none
 | _,_=>none
instance (a:List D):Decidable (a≠[]):=match a with
 | []=>isFalse fun h=>h rfl
 | _::_=>isTrue fun h=>nomatch h
theorem Qbm:OpD X (binaryOp .Add) QaK:=by
 intro pins s σ H x y v u Q I rx ry h;obtain ⟨O,F,as,dx,dy,d,r,hx,hy,e,k⟩:=h
 cases dx with
 | int i =>
  cases (hx.rp rfl).unI
  cases dy with
  | int j =>
   cases (hy.rp rfl).unI;cases e;exact Qup pins s σ H _ _ v u Q I rx ry ⟨i,j,rfl,rfl,QbJ r k rfl Rp.int⟩
  | bl j =>
   cases (hy.rp rfl).unB;cases e;exact Qn3 pins s σ H _ _ v u Q I rx ry ⟨i,j,rfl,rfl,QbJ r k rfl Rp.int⟩
  | _=>cases e
 | str a =>
  cases (hx.rp rfl).unS
  cases dy with
  | str b =>
   cases (hy.rp rfl).unS;simp only [QaK] at e;split at e
   ·rename_i hz;cases e;refine Qnc pins s σ H _ _ v u Q I rx ry ⟨S a,S b,rfl,rfl,by rw [Qb7,Qb7]; exact Qda hz,?_⟩;rw [Qqx];exact QbJ r k rfl Rp.str
   ·cases e
  | _=>cases e
 | lst a =>
  obtain ⟨p,xs,rfl,h1,h2⟩:=hx.list r.fh
  cases dy with
  | lst b =>
   obtain ⟨p',ys,rfl,h3,h4⟩:=hy.list r.fh;simp only [QaK] at e;split at e
   ·rename_i hz;cases e;exact Qsp pins s σ H _ _ v u Q I rx ry ⟨p,p',xs,ys,rfl,rfl,h1,h3,by rw [h2.length,h4.length]; exact Qda hz,fun q hq=>Qjv r k hq (Rps.append h4 h2)⟩
   ·cases e
  | _=>cases e
 | tup a =>
  obtain ⟨p,xs,rfl,h1,h2⟩:=(hx.rp rfl).unT
  cases dy with
  | tup b =>
   obtain ⟨p',ys,rfl,h3,h4⟩:=(hy.rp rfl).unT;simp only [QaK] at e;split at e
   ·rename_i hz;cases e
    have hxs:xs≠[]:=fun z=>hz.2 (List.eq_nil_of_length_eq_zero (by rw [←h2.length,z]; rfl))
    refine Qsw pins s σ H _ _ v u Q I rx ry ⟨p,p',xs,ys,rfl,rfl,Same.seqT r.fh h1,Same.seqT r.fh h3,hxs,by rw [h2.length,h4.length]; exact Qda hz.1,fun z=>?_,fun _ q hq=>QqX r k hq (Rps.append h4 h2)⟩;have hb:b = []:=List.eq_nil_of_length_eq_zero (by rw [←h4.length,z]; rfl);subst hb;rw [zO] at k;exact QbJ r k rfl (hx.rp rfl)
   ·cases e
  | _=>cases e
 | _=>cases e
def gI (C:Int→Int→Bool) (f:Int→Int→Int):D→D→Option D
 | .int i,.int j=>if C i j=true then some (.int (f i j)) else none
 | _,_=>none
theorem Qp0 {f:Value→Value→Sem Value}{Cp:Int→Int→Prop}{g:Int→Int→Int}{C:Int→Int→Bool} (h:OpR X f (rI Cp fun i j=>.int (g i j))) (hc:∀i j,C i j=true→Cp i j):OpD X f (gI C g):=by
 intro pins s σ H x y v u Q I rx ry h';obtain ⟨O,F,as,dx,dy,d,r,hx,hy,e,k⟩:=h'
 cases dx with
 | int i =>
  cases (hx.rp rfl).unI
  cases dy with
  | int j =>
   cases (hy.rp rfl).unI;simp only [gI] at e;split at e
   ·rename_i hC;cases e;exact h pins s σ H _ _ v u Q I rx ry ⟨i,j,rfl,rfl,hc i j hC,QbJ r k rfl Rp.int⟩
   ·cases e
  | _=>cases e
 | _=>cases e
def Qed:D→D→Option D:=gI (fun _ _=>true) fun i j=>i - j
theorem QlD:OpD X (binaryOp .Sub) Qed:=by
 intro pins s σ H x y v u Q I rx ry h';obtain ⟨O,F,as,dx,dy,d,r,hx,hy,e,k⟩:=h'
 cases dx with
 | int i =>
  cases (hx.rp rfl).unI
  cases dy with
  | int j =>
   cases (hy.rp rfl).unI;cases e;exact QtX pins s σ H _ _ v u Q I rx ry ⟨i,j,rfl,rfl,QbJ r k rfl Rp.int⟩
  | _=>cases e
 | _=>cases e
def QfE (i:Int):Bool:=decide (-(2 ^ 64) < i)&&decide (i < 2 ^ 64)
theorem Qgn {i:Int} (h:QfE i=true):-(2 ^ 64) < i∧i < 2 ^ 64:=by
 unfold QfE at h;rw [zv,decide_eq_true_eq,decide_eq_true_eq] at h;exact h
def QbT:D→D→Option D
 | .int i,.int j=>if (QfE i || QfE j)=true then some (.int (i * j)) else none
 | .str l,.int n=>if -1000000 < n∧n < 1000000∧l.length * n.toNat≤16777216 then some (.str (List.replicate n.toNat l).flatten) else none
 | .lst l,.int n=>if -1000000 < n∧n < 1000000∧l.length * n.toNat≤1000000 then some (.lst (List.replicate n.toNat l).flatten) else none
 | _,_=>none
theorem QdH:OpD X (binaryOp .Mult) QbT:=by
 intro pins s σ H x y v u Q I rx ry h;obtain ⟨O,F,as,dx,dy,d,r,hx,hy,e,k⟩:=h
 cases dx with
 | int i =>
  cases (hx.rp rfl).unI
  cases dy with
  | int j =>
   cases (hy.rp rfl).unI;simp only [QbT] at e;split at e
   ·rename_i hz;cases e;refine QuA pins s σ H _ _ v u Q I rx ry ⟨i,j,rfl,rfl,?_,QbJ r k rfl Rp.int⟩;rw [Bool.or_eq_true] at hz
    rcases hz with z | z
    ·exact .inl (Qgn z)
    ·exact .inr (Qgn z)
   ·cases e
  | _=>cases e
 | str l =>
  cases (hx.rp rfl).unS
  cases dy with
  | int n =>
   cases (hy.rp rfl).unI;simp only [QbT] at e;split at e
   ·rename_i hz;cases e;exact QnC pins s σ H _ _ v u Q I rx ry ⟨l,n,rfl,rfl,hz.1,hz.2.1,hz.2.2,QbJ r k rfl Rp.str⟩
   ·cases e
  | _=>cases e
 | lst l =>
  obtain ⟨p,xs,rfl,h1,h2⟩:=hx.list r.fh
  cases dy with
  | int n =>
   cases (hy.rp rfl).unI;simp only [QbT] at e;split at e
   ·rename_i hz;cases e;exact Qsf pins s σ H _ _ v u Q I rx ry ⟨p,n,xs,rfl,rfl,h1,by omega,by omega,by rw [h2.length]; exact Qda hz.2.2,fun q hq=>Qjv r k hq (h2.rep _)⟩
   ·cases e
  | _=>cases e
 | _=>cases e
def QaT:D→D→Option D:=gI (fun _ j=>decide (0 < j)) fun i j=>i % j
theorem QbC:OpD X (binaryOp .Mod) QaT:=Qp0 QuF fun _ _ h=>jg h
def QbB:D→D→Option D:=gI (fun _ j=>decide (0 < j)&&decide (j < 1073741824)) fun i j=>i / j
theorem Qd2:OpD X (binaryOp .FloorDiv) QbB:=Qp0 Qsm fun i j h=>by
 rw [zv,decide_eq_true_eq,decide_eq_true_eq] at h;exact h
def Qc8:D→D→Option D:=gI (fun i j=>decide (0≤j)&&(decide (j≤1000000)&&QfE i)) fun i j=>i ^ j.toNat
theorem QgH:OpD X (binaryOp .Pow) Qc8:=Qp0 Quf fun i j h=>by
 rw [zv,zv,decide_eq_true_eq,decide_eq_true_eq] at h
 have:=Qgn h.2.2
 exact ⟨h.1,h.2.1,by omega⟩
def mUn (g:D→Option D) (m:M D):M D:=fun ρ O=>(m ρ O).bind fun d O1=>match g (QaI O1 d) with
 | some y=>.ok y O1
 | none=>.no
def Qey:D→Option D
 | .int i=>some (.int (-i))
 | _=>none
theorem QhS {md:List Md}{P:Pt}{a:Expr}{pos:Pos}{m:M D} (h:SE X md P a m):OE X md P (.UnaryOp .USub a pos) (mUn Qey m):=(QvI Qtw h).imp fun σ H Q q=>by
 obtain ⟨ρ,O,F,as,d,O',r,s,e,k⟩:=q;obtain ⟨x,O1,e1,e⟩:=Res.bind_ok e;refine ⟨ρ,_,F,as,_,_,r,s,e1,fun v H1 F1 as1 g1 r1 hv=>?_⟩
 cases ed:QaI O1 x with
 | int i =>
  rw [ed] at e;cases e
  have:=Sv.lk hv r1
  rw [ed] at this;exact ⟨i,(this.rp rfl).unI,k _ H1 F1 as1 g1 r1 (.inl ⟨rfl,Rp.int⟩)⟩
 | _=>rw [ed] at e; cases e
def gCI (f:Int→Int→Bool):D→D→Option D
 | .int i,.int j=>some (.bl (f i j))
 | _,_=>none
theorem Qre {f:Value→Value→Sem Value}{g:Int→Int→Bool} (h:OpR X f (rI0 fun i j=>.bl (g i j))):OpD X f (gCI g):=by
 intro pins s σ H x y v u Q I rx ry h';obtain ⟨O,F,as,dx,dy,d,r,hx,hy,e,k⟩:=h'
 cases dx with
 | int i =>
  cases (hx.rp rfl).unI
  cases dy with
  | int j =>
   cases (hy.rp rfl).unI;cases e;exact h pins s σ H _ _ v u Q I rx ry ⟨i,j,rfl,rfl,QbJ r k rfl Rp.bl⟩
  | _=>cases e
 | _=>cases e
def gLt:D→D→Option D:=gCI fun i j=>decide (i < j)
def gGt:D→D→Option D:=gCI fun i j=>decide (j < i)
def gGe:D→D→Option D:=gCI fun i j=>decide (j≤i)
def gLe:D→D→Option D
 | .int i,.int j=>some (.bl (decide (i≤j)))
 | .str a,.str b=>some (.bl (!decide (b < a)))
 | _,_=>none
theorem Qjr:OpD X (compareOp .Lt) gLt:=Qre Qu6
theorem Qid:OpD X (compareOp .Gt) gGt:=Qre Qu0
mutual
def toP:D→PyData
 | .non=>.none
 | .bl b=>.bool b
 | .int i=>.int i
 | .str l=>.str (S l)
 | .lst ds=>.list (Qf1 ds)
 | .tup ds=>.tuple (Qf1 ds)
 | .dic _ _=>.none
 | .ob _=>.none
def Qf1:List D→List PyData
 | []=>[]
 | d::ds=>toP d::Qf1 ds
end
mutual
def QbD:D→Bool
 | .lst ds=>QdZ ds
 | .tup ds=>QdZ ds
 | .dic _ _=>false
 | .ob _=>false
 | _=>true
def QdZ:List D→Bool
 | []=>true
 | d::ds=>QbD d&&QdZ ds
end
section
variable {K:Frag}{F:Hp}{as:List Addr}
mutual
theorem Rp.rep:∀(d:D) {v:V},QbD d=true→Rp K F as v d→Rep K F v (toP d)
 | .non,v,_,h=>by rw [toP,Rep]; exact h.unN
 | .bl b,v,_,h=>by rw [toP,Rep]; exact h.unB
 | .int i,v,_,h=>by rw [toP,Rep]; exact h.unI
 | .str x,v,_,h=>by rw [toP,Rep]; exact h.unS
 | .lst ds,v,hp,h=>by
  obtain ⟨a,xs,h1,h2,h3⟩:=h.unL;rw [toP,Rep];rw [QbD] at hp;exact ⟨a,xs,h1,h2.sq,Rps.rep' ds hp h3⟩
 | .tup ds,v,hp,h=>by
  obtain ⟨a,xs,h1,h2,h3⟩:=h.unT;rw [toP,Rep];rw [QbD] at hp;exact ⟨a,xs,h1,h2,Rps.rep' ds hp h3⟩
 | .dic _ _,v,hp,h=>by rw [QbD] at hp; cases hp
 | .ob _,v,hp,h=>by rw [QbD] at hp; cases hp
theorem Rps.rep':∀(ds:List D) {xs:List V},QdZ ds=true→Rps K F as xs ds→QbR K F xs (Qf1 ds)
 | [],xs,_,h=>by rw [h.un0,Qf1]; exact QbR.nil
 | d::ds,xs,hp,h=>by
  obtain ⟨x,r,rfl,h2,h3⟩:=h.un;rw [QdZ,zv] at hp;rw [Qf1];exact QbR.cons (Rp.rep d hp.1 h2) (Rps.rep' ds hp.2 h3)
end
theorem Lk.rep {H:Hp}{d:D}{v:V} (h:Lk K H F as v d) (fh:Same F H) (hp:QbD d=true):Rep K H v (toP d):=by
 rcases h with h | ⟨a,xs,ds,rfl,rfl,h1,h2⟩
 ·exact Rep.mono fh _ (Rp.rep d hp h)
 ·rw [QbD] at hp;rw [toP,Rep];exact ⟨a,xs,rfl,.inl (.inl h1),QbR.mono fh _ (Rps.rep' ds hp h2)⟩
end
def okE (d:D):Bool:=QbD d&&okD (toP d)
def QcA (a b:D):Bool:=PyData.eqv (toP a) (toP b)
def gEq:D→D→Option D
 | .int i,.int j=>some (.bl (decide (i=j)))
 | .str a,.str b=>some (.bl (decide (a=b)))
 | .bl a,.bl b=>some (.bl (decide (a=b)))
 | a,b=>if (okE a&&okE b)=true then some (.bl (QcA a b)) else none
def gNe:D→D→Option D
 | .int i,.int j=>some (.bl (!decide (i=j)))
 | .str a,.str b=>some (.bl (!decide (a=b)))
 | .bl a,.bl b=>some (.bl (!decide (a=b)))
 | a,b=>if (okE a&&okE b)=true then some (.bl (!QcA a b)) else none
theorem QqY (a b:List Nat):decide (V.str (S a)=V.str (S b))=decide (a=b):=by
 by_cases h:a=b
 ·subst h; simp
 ·rw [zk h,zk];intro z;exact h (QkM (V.str.inj z))
theorem Qra (a b:Int):decide (V.int a=V.int b)=decide (a=b):=by
 by_cases h:a=b
 ·subst h; simp
 ·rw [zk h,zk];intro z;exact h (V.int.inj z)
theorem Qrr (a b:Bool):decide (V.bl a=V.bl b)=decide (a=b):=by
 cases a <;> cases b <;> rfl
theorem Qsl {a b d:D} (h:gEq a b=some d):(∃i j,a = .int i∧b = .int j∧d = .bl (decide (i=j)))∨(∃i j,a = .str i∧b = .str j∧d = .bl (decide (i=j)))∨(∃i j,a = .bl i∧b = .bl j∧d = .bl (decide (i=j))) ∨
  (okE a=true∧okE b=true∧d = .bl (QcA a b)):=by
 unfold gEq at h;split at h
 ·cases h; exact .inl ⟨_,_,rfl,rfl,rfl⟩
 ·cases h; exact .inr (.inl ⟨_,_,rfl,rfl,rfl⟩)
 ·cases h; exact .inr (.inr (.inl ⟨_,_,rfl,rfl,rfl⟩))
 ·split at h
  ·rename_i hk;rw [zv] at hk;cases h;exact .inr (.inr (.inr ⟨hk.1,hk.2,rfl⟩))
  ·cases h
theorem QrG {a b d:D} (h:gNe a b=some d):(∃i j,a = .int i∧b = .int j∧d = .bl (!decide (i=j)))∨(∃i j,a = .str i∧b = .str j∧d = .bl (!decide (i=j)))∨(∃i j,a = .bl i∧b = .bl j∧d = .bl (!decide (i=j))) ∨
  (okE a=true∧okE b=true∧d = .bl (!QcA a b)):=by
 unfold gNe at h;split at h
 ·cases h; exact .inl ⟨_,_,rfl,rfl,rfl⟩
 ·cases h; exact .inr (.inl ⟨_,_,rfl,rfl,rfl⟩)
 ·cases h; exact .inr (.inr (.inl ⟨_,_,rfl,rfl,rfl⟩))
 ·split at h
  ·rename_i hk;rw [zv] at hk;cases h;exact .inr (.inr (.inr ⟨hk.1,hk.2,rfl⟩))
  ·cases h
theorem QcF {k:Nat} (hr:Qa6 k X.A):OpD X (compareOp .Eq) gEq:=by
 intro pins s σ H x y v u Q I rx ry h';obtain ⟨O,F,as,dx,dy,d,r,hx,hy,e,k⟩:=h'
 rcases Qsl e with ⟨i,j,rfl,rfl,rfl⟩ | ⟨i,j,rfl,rfl,rfl⟩ | ⟨i,j,rfl,rfl,rfl⟩ | ⟨h1,h2,rfl⟩
 ·cases (hx.rp rfl).unI;cases (hy.rp rfl).unI;refine Qnu pins s σ H _ _ v u Q I rx ry ⟨rfl,?_⟩;rw [Qra];exact QbJ r k rfl Rp.bl
 ·cases (hx.rp rfl).unS;cases (hy.rp rfl).unS;refine Qnu pins s σ H _ _ v u Q I rx ry ⟨rfl,?_⟩;rw [QqY];exact QbJ r k rfl Rp.bl
 ·cases (hx.rp rfl).unB;cases (hy.rp rfl).unB;refine Qnu pins s σ H _ _ v u Q I rx ry ⟨rfl,?_⟩;rw [Qrr];exact QbJ r k rfl Rp.bl
 ·unfold okE at h1 h2;rw [zv] at h1 h2;exact QsY hr pins s σ H _ _ v u Q I rx ry ⟨toP dx,toP dy,hx.rep r.fh h1.1,hy.rep r.fh h2.1,h1.2,h2.2,QbJ r k rfl Rp.bl⟩
theorem QgZ {k:Nat} (hr:Qa6 k X.A):OpD X (compareOp .NotEq) gNe:=by
 intro pins s σ H x y v u Q I rx ry h';obtain ⟨O,F,as,dx,dy,d,r,hx,hy,e,k⟩:=h'
 rcases QrG e with ⟨i,j,rfl,rfl,rfl⟩ | ⟨i,j,rfl,rfl,rfl⟩ | ⟨i,j,rfl,rfl,rfl⟩ | ⟨h1,h2,rfl⟩
 ·cases (hx.rp rfl).unI;cases (hy.rp rfl).unI;refine QnH pins s σ H _ _ v u Q I rx ry ⟨rfl,?_⟩;rw [Qra];exact QbJ r k rfl Rp.bl
 ·cases (hx.rp rfl).unS;cases (hy.rp rfl).unS;refine QnH pins s σ H _ _ v u Q I rx ry ⟨rfl,?_⟩;rw [QqY];exact QbJ r k rfl Rp.bl
 ·cases (hx.rp rfl).unB;cases (hy.rp rfl).unB;refine QnH pins s σ H _ _ v u Q I rx ry ⟨rfl,?_⟩;rw [Qrr];exact QbJ r k rfl Rp.bl
 ·unfold okE at h1 h2;rw [zv] at h1 h2;exact Qoy hr pins s σ H _ _ v u Q I rx ry ⟨toP dx,toP dy,hx.rep r.fh h1.1,hy.rep r.fh h2.1,h1.2,h2.2,QbJ r k rfl Rp.bl⟩
def toV:D→V
 | .bl b=>.bl b
 | .int i=>.int i
 | .str l=>.str (S l)
 | _=>.non
def QkX:D→Bool
 | .non=>true
 | .bl _=>true
 | .int _=>true
 | .str _=>true
 | _=>false
def eqF (x y:D):Bool:=eqV (toV x) (toV y)
def gIn (neg:Bool):D→D→Option D
 | .str [c],.str l=>some (.bl (neg ^^ decide (c∈l)))
 | x,.lst ds=>if (QkX x&&ds.all QkX)=true then some (.bl (neg ^^ ds.any fun y=>eqF y x)) else none
 | x,.tup ds=>if (QkX x&&ds.all QkX)=true then some (.bl (neg ^^ ds.any fun y=>eqF y x)) else none
 | _,_=>none
def gIx:D→D→Option D
 | .lst ds,.int i=>atI ds i
 | .tup ds,.int i=>atI ds i
 | .str l,.int i=>if l.length≤1000000 then (atI l i).map fun c=>.str [c] else none
 | _,_=>none
theorem Rps.atI {K:Frag}{F:Hp}{as:List Addr}{xs:List V}{ds:List D}{i:Int}{d:D} (h:Rps K F as xs ds) (e:atI ds i=some d):∃v,L2.atI xs i=some v∧Rp K F as v d:=by
 unfold L2.atI at e ⊢;rw [h.length]
 cases q:ixN ds.length i with
 | none=>rw [q] at e; cases e
 | some j =>
  rw [q] at e;exact h.get' e
def rDv (K:Frag) (mg:Str→Option Value) (g:D→D→Option D):R2:=fun x y H Q=>∃O F as dx dy d,RlO K mg O H F as∧Lk K H F as x dx∧Lk K H F as y dy∧g dx dy=some d∧∀v',Rp K F as v' d→Q v' H
theorem Qwj:IxR X (rDv X.K X.mg gIx):=by
 intro value slice pins s σ H x y v u Q I rx ry h' hsb;obtain ⟨O,F,as,dx,dy,d,r,hx,hy,e,k⟩:=h'
 cases dx with
 | lst ds =>
  obtain ⟨p,xs,rfl,h1,h2⟩:=hx.list r.fh
  cases dy with
  | int i =>
   cases (hy.rp rfl).unI;obtain ⟨z,e1,e2⟩:=h2.atI e;exact Qru value slice pins s σ H _ _ v u Q I rx ry ⟨p,xs,i,z,rfl,rfl,h1.sq,e1,k z e2⟩ hsb
  | _=>cases e
 | tup ds =>
  obtain ⟨p,xs,rfl,h1,h2⟩:=(hx.rp rfl).unT
  cases dy with
  | int i =>
   cases (hy.rp rfl).unI;obtain ⟨z,e1,e2⟩:=h2.atI e;exact Qta value slice pins s σ H _ _ v u Q I rx ry ⟨p,xs,i,z,rfl,rfl,Same.seqT r.fh h1,e1,k z e2⟩ hsb
  | _=>cases e
 | str l =>
  cases (hx.rp rfl).unS
  cases dy with
  | int i =>
   cases (hy.rp rfl).unI;simp only [gIx] at e;split at e
   ·rename_i hz
    cases q:L2.atI l i with
    | none=>rw [q] at e; cases e
    | some c =>
     rw [q] at e;cases e;exact Qs0 value slice pins s σ H _ _ v u Q I rx ry ⟨S l,i,c,rfl,rfl,by rw [Qb7]; exact Qda hz,by rw [Qnd]; exact q,k _ Rp.str⟩ hsb
   ·cases e
  | _=>cases e
 | _=>cases e
theorem QaP {md:List Md}{P:Pt}{a b:Expr}{pos:Pos}{ma mb:M D} (ha:SE X md P a ma) (hb:SE X md P b mb) (hs:Qiy b:=by intro _ _; rfl):VE X md P (.Subscript a b pos) (Qad gIx ma mb):=(QvC Qwj ha hb hs).imp fun σ H Q h=>by
 obtain ⟨ρ,O,F,as,d,O',r,sl,e,k⟩:=h;obtain ⟨x,O1,e1,e⟩:=Res.bind_ok e;obtain ⟨y,O2,e2,e⟩:=Res.bind_ok e;split at e
 ·rename_i d' hg;cases e;refine ⟨ρ,_,F,as,_,_,r,sl,e1,fun v H1 F1 as1 g1 r1 hv=>?_⟩;refine ⟨ρ,_,F1,as1,_,_,r1,sl.step g1,e2,fun u H2 F2 as2 g2 r2 hu=>?_⟩;exact ⟨_,F2,as2,_,_,_,r2,Sv.lk (Sv.gr hv g2) r2,Sv.lk hu r2,hg,fun v' hw=>k v' H2 F2 as2 (g1.trans g2) r2 hw⟩
 ·cases e
def tMO (K:Frag) (mg:Str→Option Value) (md:List Md) (P:Pt) (m:M (Option Int)):TO:=fun σ H Q =>
 ∃ρ O F as b O',RlO K mg O H F as∧SlO K md P ρ σ H F as∧m ρ O = .ok b O'∧∀H' F' as',Gr H F as H' F' as'→RlO K mg O' H' F' as'→Q b H'
def VO (X:Cx) (md:List Md) (P:Pt) (e:Option Expr) (m:M (Option Int)):Prop:=PO X e (tMO X.K X.mg md P m)
theorem PO.imp {e:Option Expr}{t t':TO} (h:PO X e t) (k:∀σ H Q,t' σ H Q→t σ H Q):PO X e t':=fun pins s σ H Q I q=>h pins s σ H Q I (k σ H Q q)
def moN:M (Option Int):=fun _ O=>.ok none O
def moS (m:M D):M (Option Int):=fun ρ O=>(m ρ O).bind fun d O1=>match d with
 | .int i=>.ok (some i) O1
 | _=>.no
theorem QmF {md:List Md}{P:Pt}:VO X md P none moN:=Qss.imp fun σ H Q q=>by
 obtain ⟨ρ,O,F,as,d,O',r,s,e,k⟩:=q;cases e;exact k H F as Gr.refl r
theorem Qdq {md:List Md}{P:Pt}{e:Expr}{m:M D} (h:VE X md P e m):VO X md P (some e) (moS m):=(Qr9 h).imp fun σ H Q q=>by
 obtain ⟨ρ,O,F,as,d,O',r,s,e,k⟩:=q;obtain ⟨x,O1,e1,e⟩:=Res.bind_ok e
 cases x with
 | int i =>
  cases e;exact ⟨ρ,_,F,as,_,_,r,s,e1,fun v H1 F1 as1 g1 r1 hv=>⟨i,Rp.unI hv,k H1 F1 as1 g1 r1⟩⟩
 | _=>cases e
def gSl (d:D) (lo hi:Option Int):Option D:=match d with
 | .lst ds=>some (.lst (Qc2 ds lo hi))
 | .tup ds=>some (.tup (Qc2 ds lo hi))
 | .str l=>if l.length≤16777216 then some (.str (Qc2 l lo hi)) else none
 | _=>none
def QwJ (K:Frag) (mg:Str→Option Value):V→Option Int→Option Int→Hp→VK→Prop:=fun x lo hi H Q=>∃O F as dx d,RlO K mg O H F as∧Lk K H F as x dx∧gSl dx lo hi=some d ∧
 ∀v' H' F',Gr H F as H' F' as→RlO K mg O H' F' as→Ow K (fun a=>H a=none) H' F' as v' d→Q v' H'
theorem Rps.cut {K:Frag}{F:Hp}{as:List Addr}{xs:List V}{ds:List D} (h:Rps K F as xs ds) (lo hi:Option Int):Rps K F as (Qhg xs lo hi) (Qc2 ds lo hi):=by
 unfold Qhg Qc2;rw [h.length];exact (h.drop _).take _
theorem QwC:SlR X (QwJ X.K X.mg):=by
 intro pins s σ H x v vl vu lo hi sl Q I rx hs pl pu h;obtain ⟨O,F,as,dx,d,r,hx,e,k⟩:=h
 cases dx with
 | lst ds =>
  obtain ⟨p,xs,rfl,h1,h2⟩:=hx.list r.fh;cases e;exact QrK pins s σ H _ v vl vu lo hi sl Q I rx hs pl pu ⟨p,xs,rfl,h1.sq,fun q hq=>Qjv r k hq (h2.cut lo hi)⟩
 | tup ds =>
  obtain ⟨p,xs,rfl,h1,h2⟩:=(hx.rp rfl).unT;cases e;refine QsG X.K rfl pins s σ H _ v vl vu lo hi sl Q I rx hs pl pu ⟨p,xs,rfl,Same.seqT r.fh h1,fun z=>?_,fun _ q hq=>QqX r k hq (h2.cut lo hi)⟩
  have:Qc2 ds lo hi=ds:=by
   unfold Qc2;rw [←h2.length,z.1,z.2,List.drop_zero,Nat.sub_zero,h2.length,List.take_length]
  rw [this] at k;exact QbJ r k rfl (hx.rp rfl)
 | str l =>
  cases (hx.rp rfl).unS;simp only [gSl] at e;split at e
  ·rename_i hz;cases e;exact Qt5 pins s σ H _ v vl vu lo hi sl Q I rx hs pl pu ⟨l,rfl,zD hz (Nat.le_of_eq sizeLine_eq.symm),QbJ r k rfl Rp.str⟩
  ·cases e
 | _=>cases e
def mSl (m:M D) (lo hi:M (Option Int)):M D:=fun ρ O=>(m ρ O).bind fun d O1=>(lo ρ O1).bind fun l O2=>(hi ρ O2).bind fun h O3=>match gSl (QaI O3 d) l h with
 | some y=>.ok y O3
 | none=>.no
end
section
variable {X:Cx}{md:List Md}{P:Pt}{R:RR}
theorem Qe1 {e:Expr}{lo hi:Option Expr}{p2 pos:Pos}{m:M D}{ml mh:M (Option Int)} (he:SE X md P e m) (hl:VO X md P lo ml) (hh:VO X md P hi mh):OE X md P (.Subscript e (.Slice lo hi none p2) pos) (mSl m ml mh):=(QqA QwC he hl hh).imp fun σ H Q q=>by
 obtain ⟨ρ,O,F,as,d,O',r,s,e,k⟩:=q;obtain ⟨x,O1,e1,e⟩:=Res.bind_ok e;obtain ⟨l,O2,e2,e⟩:=Res.bind_ok e;obtain ⟨h,O3,e3,e⟩:=Res.bind_ok e;split at e
 ·rename_i y hg;cases e;refine ⟨ρ,_,F,as,_,_,r,s,e1,fun v H1 F1 as1 g1 r1 hv=>?_⟩;refine ⟨ρ,_,F1,as1,_,_,r1,s.step g1,e2,fun H2 F2 as2 g2 r2=>?_⟩;have g12:=g1.trans g2;refine ⟨ρ,_,F2,as2,_,_,r2,s.step g12,e3,fun H3 F3 as3 g3 r3=>?_⟩;have g13:=g12.trans g3;exact ⟨_,F3,as3,_,_,r3,Sv.lk (Sv.gr (Sv.gr hv g2) g3) r3,hg,fun v' H' F' g' r' hw=>k v' H' F' as3 (g13.trans g') r' (Qde _ _ _ _ _ _ _ (fun a ha=>g13.dm a ha) hw)⟩
 ·cases e
def Lks (K:Frag) (H F:Hp) (as:List Addr):List V→List D→Prop
 | [],[]=>True
 | v::vs,d::ds=>Lk K H F as v d∧Lks K H F as vs ds
 | _,_=>False
theorem QbI.lks {K:Frag}{mg:Str→Option Value}{O:Qac}{H F:Hp}{as:List Addr} (r:RlO K mg O H F as):∀{ms:List Md}{vs:List V}{ds:List D},QbI K H F as ms vs ds→Lks K H F as vs (ds.map (QaI O))
 | [],[],[],_=>trivial
 | m::ms,v::vs,d::ds,h=>by
  refine ⟨?_,QbI.lks r h.2⟩
  have h1:Sv K H F as v d:=by
   cases m with
   | v=>exact .inl h.1
   | s=>exact h.1
   | o=>exact h.1
  exact h1.lk r
 | [],[],_::_,h=>h.elim
 | [],_::_,[],h=>h.elim
 | [],_::_,_::_,h=>h.elim
 | _::_,[],[],h=>h.elim
 | _::_,[],_::_,h=>h.elim
 | _::_,_::_,[],h=>h.elim
def rC (K:Frag) (mg:Str→Option Value) (g:List D→Option D):List V→Hp→VK→Prop:=fun vs H Q=>∃O F as ds d,RlO K mg O H F as∧Lks K H F as vs ds∧g ds=some d ∧
 ∀v' H' F',Gr H F as H' F' as→RlO K mg O H' F' as→Ow K (fun a=>H a=none) H' F' as v' d→Q v' H'
abbrev Qiq (X:Cx) (f:Value) (g:List D→Option D):Prop:=Qgg X f (rC X.K X.mg g)
def Qav (g:List D→Option D) (ma:M (List D)):M D:=fun ρ O=>(ma ρ O).bind fun ds O1=>match g (ds.map (QaI O1)) with
 | some d=>.ok d O1
 | none=>.no
theorem Qhi {K:Frag}{mg:Str→Option Value}{g:List D→Option D}{ms:List Md}{ma:M (List D)}{σ:St}{H:Hp}{Q:VK} (q:tM K mg md P (rO K) (Qav g ma) σ H Q):tCB (rC K mg g) (tMA K mg md P ms ma) σ H Q:=by
 obtain ⟨ρ,O,F,as,d,O',r,s,e,k⟩:=q;obtain ⟨ds,O1,e1,e⟩:=Res.bind_ok e;split at e
 ·rename_i y hg;cases e;refine ⟨ρ,_,F,as,_,_,r,s,e1,fun vs H1 F1 as1 g1 r1 hv=>?_⟩;exact ⟨_,F1,as1,_,_,r1,hv.lks r1,hg,fun v' H' F' g' r' hw=>k v' H' F' as1 (g1.trans g') r' (Qde _ _ _ _ _ _ _ (fun a ha=>g1.dm a ha) hw)⟩
 ·cases e
theorem Qbf {x:Str}{p pos:Pos}{e:Expr}{es:List Expr}{id:String}{g:List D→Option D}{ms:List Md}{ma:M (List D)} (hc:Qiq X (.builtin id) g) (hm:X.mg x=none) (ha:AE X md P ms (e::es) ma) (hv:bootBuiltins x=some (.builtin id):=by decide +kernel) (hg:Gl X x:=by rfl)
  (hn:x≠"__name__":=by decide) (hdb:(x == ("__debug__":Str))=false:=by decide) (he:starEach (e::es) X.env=(false,eval e X.env)::starEach es X.env:=by exact Qbn rfl) (hpl:(backTo pos (starEach es X.env)).any (·.1)=false:=by exact QbF rfl) :
  OE X md P (.Call (.Name x p) (e::es) [] pos) (Qav g ma):=(Ql0 hc hg hm hv ha hn hdb he hpl).imp fun _ _ _ q=>Qhi q
theorem QfR {x:Str}{p pos:Pos}{e:Expr}{es:List Expr}{T:String}{g:List D→Option D}{ms:List Md}{ma:M (List D)} (hc:Qiq X (.type T) g) (hm:X.mg x=none) (ha:AE X md P ms (e::es) ma) (hv:bootBuiltins x=some (.type T):=by decide +kernel) (hg:Gl X x:=by rfl)
  (hn:x≠"__name__":=by decide) (hdb:(x == ("__debug__":Str))=false:=by decide) (he:starEach (e::es) X.env=(false,eval e X.env)::starEach es X.env:=by exact Qbn rfl) (hpl:(backTo pos (starEach es X.env)).any (·.1)=false:=by exact QbF rfl) :
  OE X md P (.Call (.Name x p) (e::es) [] pos) (Qav g ma):=(Qpa hc hg hm hv ha hn hdb he hpl).imp fun _ _ _ q=>Qhi q
theorem Lks.one {K:Frag}{H F:Hp}{as:List Addr}{vs:List V}{d:D} (h:Lks K H F as vs [d]):∃v,vs = [v]∧Lk K H F as v d:=by
 cases vs with
 | nil=>exact h.elim
 | cons v vs =>
  cases vs with
  | nil=>exact ⟨v,rfl,h.1⟩
  | cons u us=>exact h.2.elim
theorem Lks.two {K:Frag}{H F:Hp}{as:List Addr}{vs:List V}{d e:D} (h:Lks K H F as vs [d,e]):∃v u,vs = [v,u]∧Lk K H F as v d∧Lk K H F as u e:=by
 cases vs with
 | nil=>exact h.elim
 | cons v vs =>
  cases vs with
  | nil=>exact h.2.elim
  | cons u us =>
   cases us with
   | nil=>exact ⟨v,u,rfl,h.1,h.2.1⟩
   | cons w ws=>exact h.2.2.elim
def QaV:List D→Option D
 | [.str l]=>if l.length≤1000000 then some (.int l.length) else none
 | [.lst ds]=>some (.int ds.length)
 | [.tup ds]=>some (.int ds.length)
 | _=>none
theorem QbQ:Qiq X (.builtin "len") QaV:=by
 intro pins s σ H xs us Q I rs h;obtain ⟨O,F,as,ds,d,r,hvs,e,k⟩:=h;unfold QaV at e;split at e
 ·rename_i l;obtain ⟨v,rfl,hv⟩:=hvs.one;split at e
  ·rename_i hz;cases e;cases (hv.rp rfl).unS;refine call_len pins s σ H _ us Q I rs ⟨_,_,rfl,⟨by rw [Qb7]; exact Qda hz,rfl⟩,?_⟩;rw [Qb7];exact QbJ r k rfl Rp.int
  ·cases e
 ·rename_i l;obtain ⟨v,rfl,hv⟩:=hvs.one;cases e;obtain ⟨p,xs,rfl,h1,h2⟩:=hv.list r.fh;refine call_len pins s σ H _ us Q I rs ⟨_,_,rfl,.inl ⟨xs,h1.sq,rfl⟩,?_⟩;rw [h2.length];exact QbJ r k rfl Rp.int
 ·rename_i l;obtain ⟨v,rfl,hv⟩:=hvs.one;cases e;obtain ⟨p,xs,rfl,h1,h2⟩:=(hv.rp rfl).unT;refine call_len pins s σ H _ us Q I rs ⟨_,_,rfl,.inr ⟨xs,Same.seqT r.fh h1,rfl⟩,?_⟩;rw [h2.length];exact QbJ r k rfl Rp.int
 ·cases e
def Qwq:List D→Option D
 | [.int i,.int j]=>some (.int (if j > i then j else i))
 | _=>none
def Qj0:List D→Option D
 | [.int i,.int j]=>some (.int (if j < i then j else i))
 | _=>none
theorem Quj (hc:X.calm=true):Qiq X (.builtin "min") Qj0:=by
 intro pins s σ H xs us Q I rs h;obtain ⟨O,F,as,ds,d,r,hvs,e,k⟩:=h;unfold Qj0 at e;split at e
 ·obtain ⟨v,u,rfl,hv,hu⟩:=hvs.two;cases e;cases (hv.rp rfl).unI;cases (hu.rp rfl).unI;exact QoD hc pins s σ H _ us Q I rs ⟨_,_,rfl,QbJ r k rfl Rp.int⟩
 ·cases e
def Qkc:List D→Option D
 | [.int i]=>some (.int i)
 | [.bl b]=>some (.int (if b then 1 else 0))
 | _=>none
theorem QsZ:Qiq X (.type "int") Qkc:=by
 intro pins s σ H xs us Q I rs h;obtain ⟨O,F,as,ds,d,r,hvs,e,k⟩:=h;unfold Qkc at e;split at e
 ·obtain ⟨v,rfl,hv⟩:=hvs.one;cases e;cases (hv.rp rfl).unI;exact Qky pins s σ H _ us Q I rs (.inl ⟨_,rfl,QbJ r k rfl Rp.int⟩)
 ·obtain ⟨v,rfl,hv⟩:=hvs.one;cases e;cases (hv.rp rfl).unB;exact Qky pins s σ H _ us Q I rs (.inr ⟨_,rfl,QbJ r k rfl Rp.int⟩)
 ·cases e
def Qcr:List D→Option D
 | [.lst ds]=>some (.lst ds)
 | [.tup ds]=>some (.lst ds)
 | _=>none
theorem Qii:Qiq X (.type "list") Qcr:=by
 intro pins s σ H xs us Q I rs h;obtain ⟨O,F,as,ds,d,r,hvs,e,k⟩:=h;unfold Qcr at e;split at e
 ·obtain ⟨v,rfl,hv⟩:=hvs.one;cases e;obtain ⟨p,xs,rfl,h1,h2⟩:=hv.list r.fh;exact Qhz pins s σ H _ us Q I rs ⟨p,xs,rfl,.inl h1.sq,fun l hl=>Qjv r k hl h2⟩
 ·obtain ⟨v,rfl,hv⟩:=hvs.one;cases e;obtain ⟨p,xs,rfl,h1,h2⟩:=(hv.rp rfl).unT;exact Qhz pins s σ H _ us Q I rs ⟨p,xs,rfl,.inr (Same.seqT r.fh h1),fun l hl=>Qjv r k hl h2⟩
 ·cases e
def QfB:List D→Option (List Int)
 | []=>some []
 | .int b::ds=>(QfB ds).map (b :: ·)
 | _=>none
theorem Rps.ints {K:Frag}{F:Hp}{as:List Addr}:∀{ds:List D}{xs:List V}{bs:List Int},Rps K F as xs ds→QfB ds=some bs→xs=bs.map V.int
 | [],xs,bs,h,e=>by cases e; rw [h.un0]; rfl
 | d::ds,xs,bs,h,e=>by
  obtain ⟨x,r,rfl,h2,h3⟩:=h.un
  cases d with
  | int b =>
   unfold QfB at e
   cases q:QfB ds with
   | none=>rw [q] at e; cases e
   | some cs =>
    rw [q] at e;cases e;rw [h2.unI,Rps.ints h3 q];rfl
  | _=>cases e
theorem QbS:bootBuiltins "len" = some (.builtin "len"):=by decide +kernel
theorem Qtv:bootBuiltins "min" = some (.builtin "min"):=by decide +kernel
theorem QlA:bootBuiltins "int" = some (.type "int"):=by decide +kernel
theorem Qos:bootBuiltins "str" = some (.type "str"):=by decide +kernel
theorem QjL:bootBuiltins "bool" = some (.type "bool"):=by decide +kernel
theorem QeS:bootBuiltins "list" = some (.type "list"):=by decide +kernel
theorem Qlj:bootBuiltins "tuple" = some (.type "tuple"):=by decide +kernel
def tyD:D→Option String
 | .non=>some "NoneType"
 | .bl _=>some "bool"
 | .int _=>some "int"
 | .str _=>some "str"
 | .lst _=>some "list"
 | .tup _=>some "tuple"
 | .dic _ _=>some "dict"
 | .ob _=>none
def QbH (t n:String):Bool:=t == n || (t == "bool" && n == "int")
def Qci (n:String) (m:M D):M D:=fun ρ O=>(m ρ O).bind fun d O1=>match tyD (QaI O1 d) with
 | some t=>.ok (.bl (QbH t n)) O1
 | none=>.no
def Qp4:List String:=["str","int","bool","list","tuple","dict"]
theorem Qsv (K:Frag):∀d t,tyD d=some t→∀n∈Qp4,PySem.W.kitOne K (.type t) (.type n)=some (QbH t n):=by
 intro d t e n hn;simp only [Qp4,zn,List.not_mem_nil,or_false] at hn
 cases d <;> cases e <;> rcases hn with rfl | rfl | rfl | rfl | rfl | rfl <;> first | exact QpS K _ | kernel_rfl
theorem Lk.ty {K:Frag}{H F:Hp}{as:List Addr}{v:V}{d:D}{t:String} (h:Lk K H F as v d) (fh:Same F H) (e:tyD d=some t):TyQ K H v t:=by
 cases d with
 | non=>cases e; rw [(h.rp rfl).unN]; exact .non
 | bl b=>cases e; rw [(h.rp rfl).unB]; exact .bl _
 | int b=>cases e; rw [(h.rp rfl).unI]; exact .int _
 | str b=>cases e; rw [(h.rp rfl).unS]; exact .str _
 | lst ds=>cases e; obtain ⟨p,xs,rfl,h1,h2⟩:=h.list fh; exact .lst h1.sq
 | tup ds=>cases e; obtain ⟨p,xs,rfl,h1,h2⟩:=(h.rp rfl).unT; exact .tup (Same.seqT fh h1)
 | dic ks vs=>cases e; obtain ⟨p,xs,rfl,h1,h2⟩:=(h.rp rfl).unD; exact .dK (fh _ _ h1)
 | ob n=>cases e
theorem QdN (n:String) {T:Str}{a:Expr}{p p' pos:Pos}{m:M D} (hm:X.mg "isinstance" = none) (hT:X.mg T=none) (h:SE X md P a m) (hb:bootBuiltins T=some (.type n):=by decide +kernel) (hn:n∈Qp4:=by decide) (hg:Gl X "isinstance":=by rfl) (hgT:Gl X T:=by rfl)
  (hTn:T≠"__name__":=by decide) (hTd:(T == ("__debug__":Str))=false:=by decide)
  (hs1:starEach [a,.Name T p'] X.env=(false,eval a X.env)::starEach [.Name T p'] X.env:=by exact Qbn rfl) (hs2:starEach [.Name T p'] X.env=(false,eval (.Name T p') X.env)::starEach [] X.env:=by rfl) (hpl:(backTo pos (starEach [.Name T p'] X.env)).any (·.1)=false:=by exact QbF rfl) :
  OE X md P (.Call (.Name "isinstance" p) [a,.Name T p'] [] pos) (Qci n m) :=
 (Ql0 (Qob X.K) hg hm (by decide +kernel) (Qcx h (Qcx (Qrs (v:=.ty n) hgT hT hb rfl hTn hTd) QdV hs2) hs1) (by decide) (by decide) hs1 hpl).imp fun σ H Q q=>by
  obtain ⟨ρ,O,F,as,d,O',r,s,e,k⟩:=q;obtain ⟨x,O1,e1,e⟩:=Res.bind_ok e;split at e
  ·rename_i t ht;cases e;refine ⟨ρ,_,F,as,_,_,r,s,e1,fun v H1 F1 as1 g1 r1 hv=>?_⟩;exact ⟨v,n,t,_,rfl,Lk.ty (Sv.lk hv r1) r1.fh ht,Qsv _ _ t ht n hn,k _ H1 F1 as1 g1 r1 (.inl ⟨rfl,Rp.bl⟩)⟩
  ·cases e
def QkJ (m:M D):M (List D):=fun ρ O=>(m ρ O).bind fun d O1=>match d with
 | .lst ds=>.ok ds O1
 | _=>.no
def Qns (m:M D):M (List D):=fun ρ O=>(m ρ O).bind fun d O1=>match d with
 | .tup ds=>.ok ds O1
 | _=>.no
theorem QpC {K:Frag}{mg:Str→Option Value}{H F:Hp}{as:List Addr}{a:Addr}{xs:List V}{ds:List D} (hs:Rps K F as xs ds) (hp:∀(H2 F2:Hp) (as2:List Addr),GrS P H F as H2 F2 as2→(∃O,RlO K mg O H2 F2 as2)→RdK K H2 a xs):JOk K mg P (Itl K a) ds H F as:=by
 refine ⟨fun i d H2 F2 as2 g r e=>?_,fun H2 F2 as2 g r=>⟨xs,(hp H2 F2 as2 g r).sq,by rw [hs.length]; exact zb _⟩⟩;obtain ⟨x,h1,h2⟩:=hs.get' e;have q:=hp H2 F2 as2 g r;refine ⟨⟨xs,x,q.sq,h1⟩,fun y H3 hy=>?_⟩;obtain ⟨rfl,hy⟩:=hy
 have:=hy xs q.sq
 rw [h1] at this;cases this;exact ⟨F2,Gr.refl,fun _ r=>r,h2.grS g⟩
end
section
variable {X:Cx}{pins:List (Addr×Obj)}{σ:St}{H:Hp}{s:Shared}
theorem Inv.turnL {ch:List Addr}{h':Heap}{t':Nat} (I:Inv X pins σ H s) (hch:∀b∈ch,QeM X pins H b) (k:∀b o,b∉ch→s.heap.get? b=some o→h'.get? b=some o):Inv X pins σ H { s with heap:=h',toks:=t' }:=by
 have nit:∀b u,H b=some u→b∉ch:=fun b u e z=>by rw [(hch b z).1] at e; cases e
 refine I.step (g':=s.gens) (d':=s.drawn) (ch:=ch) (fun b hb=>?_) (fun b o _ _ hc e _=>k b o hc e) (fun b o _ _ hc e _=>⟨o.slots,k b o hc e⟩) (fun _ _ _ _ n=>n)
  (fun b o hc e=>⟨o,k b o hc e⟩) (fun _ _ e=>e) (fun _ _ _ e=>e) (fun b ps e=>⟨#[],by rw [e]; simp⟩) (fun m hm=>?_) (fun b u e=>?_) I.bare
 ·obtain ⟨f0,f1,f2,f3,f4,f5⟩:=hch b hb;exact ⟨f3,f1,f4,f5⟩
 ·obtain ⟨o,es,ep,ho,r⟩:=hm;exact ⟨o,es,ep,k _ o (fun z=>(hch _ z).2.1 rfl) ho,r⟩
 ·refine (I.hok b u e).stay (fun c v hc q=>k c v ?_ q) (fun _ q=>q) fun _ _ q=>q
  rcases hc with z | z
  ·rw [z]; exact nit b u e
  ·exact nit c _ z
theorem Inv.turnT {ch:List Addr}{h':Heap}{t':Nat}{T:Addr}{vs:List V}{us:List Value} (I:Inv X pins σ H s) (hch:∀b∈ch,QeM X pins H b) (k:∀b o,b∉ch→s.heap.get? b=some o→h'.get? b=some o)
  (hT:s.heap.objs.size≤T) (new:IsTup h' T us.toArray) (hv:QaG vs us) (hz:vs.length≤sizeLine):Inv X pins σ (upd H T (.tup vs)) { s with heap:=h',toks:=t' }:=by
 have hn:H T=none:=I.hok.fresh hT
 have nit:∀b u,H b=some u→b∉ch:=fun b u e z=>by rw [(hch b z).1] at e; cases e
 have ne:∀b o,s.heap.get? b=some o→b≠T:=fun b o e z=>by
  subst z;exact absurd (zf e) (Nat.not_lt_of_le hT)
 refine I.step (g':=s.gens) (d':=s.drawn) (ch:=ch) (fun b hb=>?_) (fun b o _ _ hc e _=>k b o hc e) (fun b o _ _ hc e _=>⟨o.slots,k b o hc e⟩) (fun b o _ e n=>by rw [Qap (ne b o e)]; exact n)
  (fun b o hc e=>⟨o,k b o hc e⟩) (fun b _ e=>by rw [Qap (QaD e hn)]; exact e) (fun b _ _ e=>by rw [Qap (QaD e hn)]; exact e) (fun b ps e=>⟨#[],by rw [Qap (QaD e hn),e]; simp⟩) (fun m hm=>?_) (fun b u e=>?_) I.bare
 ·obtain ⟨f0,f1,f2,f3,f4,f5⟩:=hch b hb;exact ⟨f3,f1,f4,f5⟩
 ·obtain ⟨o,es,ep,ho,r⟩:=hm;exact ⟨o,es,ep,k _ o (fun z=>(hch _ z).2.1 rfl) ho,r⟩
 ·by_cases hb:b=T
  ·subst hb;rw [QaF] at e;cases e;exact ⟨hz,us,hv,new⟩
  ·rw [Qap hb] at e
   refine (I.hok b u e).stay (fun c v hc q=>k c v ?_ q) (fun c q=>by rw [Qap (QaD q hn)]; exact q) fun c xs q=>by rw [Qap (QaD q hn)]; exact q
   rcases hc with z | z
   ·rw [z]; exact nit b u e
   ·exact nit c _ z
end
def Ite (K:Frag) (l:Addr):It:=⟨fun i H=>∃xs x,SqL K H l xs∧xs[i]? = some x,fun i H v H'=>∃T x,v = .ref T∧H T=none∧H'=upd H T (.tup [.int i,x])∧∀xs,SqL K H l xs→xs[i]? = some x,fun i H=>∃xs,SqL K H l xs∧xs.length≤i⟩
def QuN (l:List Nat):It:=⟨fun i _=>i < l.length,fun i H v H'=>∃T c,v = .ref T∧H T=none∧H'=upd H T (.tup [.int i,.str (S [c])])∧l[i]? = some c,fun i _=>l.length≤i⟩
theorem Qdh {h:Heap}{b:Addr}{o:Obj}{vs:Array Value} (e:h.get? b=some o) (d:o.data = .fields vs):∃o,h.get? b=some o∧∀v,o.data≠.cell v:=⟨o,e,fun v z=>by rw [d] at z; cases z⟩
theorem Qm6 {P:Program}{w:World}{K:Frag}{elts:List Expr}{x1}{pos:Pos} (e it l:Addr) (hne:e≠it):Turn P w K (.Tuple elts x1 pos) (Ite K l) [e,it] e (fun i h=>(∃old,IsEnum h e it i old)∧h.IsListIter it l i) where
 mem:=by simp
 obj:=fun i h st b hb=>by
  obtain ⟨⟨old,he⟩,o,ho,hc,hd⟩:=st
  rcases zn.mp hb with rfl | hb
  ·exact Qdh he rfl
  ·rw [zo.mp hb];exact Qdh ho hd
 keep:=fun i h h' st k=>by
  obtain ⟨⟨old,he⟩,o,ho,r⟩:=st;exact ⟨⟨old,k e (by simp) _ he⟩,o,k it (by simp) o ho,r⟩
 item:=by
  intro X hP hw hK hc i pins s σ H E I hf st hg;subst hP hw hK;obtain ⟨⟨old,he⟩,hit⟩:=st;obtain ⟨xs,x,hq,hx⟩:=hg;obtain ⟨its,rv,pl,hz⟩:=I.list hq;obtain ⟨u,hu,ru⟩:=rv.get hx;have hT:H s.heap.objs.size=none:=I.hok.fresh (zb _);have elt:e < s.heap.objs.size:=zf he
  refine wpAny_pyNext_enum_item he hit pl.isList (x:=u) (by simpa using hu) hne fun h' ho hit' hTup hsz hk=>⟨_,rfl,?_⟩
  refine wpAny_letOwnedTupleGo_enum ho fun h'' he'' hs''=>⟨.ref s.heap.objs.size,_,?_,rfl,⟨s.heap.objs.size,x,rfl,hT,rfl,fun ys hy=>by rw [I.list_inj hy hq]; exact hx⟩,⟨⟨_,by simpa using he''⟩,hit'.extBut hs''.extBut (Ne.symm hne)⟩,fun b hb=>?_⟩
  ·show Inv X pins σ _ { s with heap:=h'',toks:=s.toks+1 };refine I.turnT (ch:=[e,it]) (us:=[.int i s.toks,u]) hf (fun b o hb q=>?_) (zb _) ⟨_,hs''.extBut _ _ (Nat.ne_of_gt elt) hTup,rfl,_,rfl⟩ (.cons ⟨_,rfl⟩ (.cons ru .nil)) (by show 2≤sizeLine; decide)
   have h1:b≠e:=fun z=>hb (by simp [z])
   have h2:b≠it:=fun z=>hb (by simp [z])
   exact hs''.extBut _ _ h1 (hk b o h1 h2 q)
  ·have q:=hf b hb;rw [Qap (fun z=>?_)]
   ·exact q.1
   ·obtain ⟨o,ho⟩:∃o,s.heap.get? b=some o:=by
     rcases zn.mp hb with rfl | hb
     ·exact ⟨_,he⟩
     ·rw [zo.mp hb];obtain ⟨o,ho,_⟩:=hit;exact ⟨o,ho⟩
    exact absurd (zf ho) (by rw [z]; exact zR _)
 done:=by
  intro X hP hw hK hc i pins s σ H E I hf st hg;subst hP hw hK;obtain ⟨⟨old,he⟩,hit⟩:=st;obtain ⟨xs,hq,hl⟩:=hg;obtain ⟨its,rv,pl,hz⟩:=I.list hq
  refine wpAny_pyNext_enum_end (I.ok.hd hc) he hit pl.isList (by have:=rv.length; simp; omega) fun h' hx=>⟨rfl,?_⟩
  exact I.turnL (t':=s.toks) (ch:=[e,it]) hf fun b o hb q=>hx b o (fun z=>hb (by simp [z])) q
 self:=fun A i s Q E st h=>by
  obtain ⟨⟨old,he⟩,_⟩:=st;exact wpAny_pyIter_enum he h
theorem QnB {P:Program}{w:World}{K:Frag}{elts:List Expr}{x1}{pos:Pos} (e it:Addr) (l:List Nat) (t:Tok) (hne:e≠it):Turn P w K (.Tuple elts x1 pos) (QuN l) [e,it] e (fun i h=>(∃old,IsEnum h e it i old)∧h.IsStrIter it "str_ascii_iterator" (S l) t i) where
 mem:=by simp
 obj:=fun i h st b hb=>by
  obtain ⟨⟨old,he⟩,o,ho,hc,hd⟩:=st
  rcases zn.mp hb with rfl | hb
  ·exact Qdh he rfl
  ·rw [zo.mp hb];exact Qdh ho hd
 keep:=fun i h h' st k=>by
  obtain ⟨⟨old,he⟩,o,ho,r⟩:=st;exact ⟨⟨old,k e (by simp) _ he⟩,o,k it (by simp) o ho,r⟩
 item:=by
  intro X hP hw hK hc i pins s σ H E I hf st hg;subst hP hw hK;obtain ⟨⟨old,he⟩,hit⟩:=st;have hg':i < l.length:=hg;have hT:H s.heap.objs.size=none:=I.hok.fresh (zb _);have elt:e < s.heap.objs.size:=zf he;have hd:X.A.in1.handled=none:=I.ok.hd hc
  refine wpAny_pyNext_enum_itemD (Draws.strAscii hd it (S l) t) he hit (by simpa [S] using hg') hne (fun z=>hne (by simpa using z)) fun u h' tk hP ho hit' hTup hsz hk=>⟨_,rfl,?_⟩
  obtain ⟨c,tc,hcx,rfl⟩:=hP
  have hcl:l[i]? = some c:=by
   rw [←hcx];simp [S]
  refine wpAny_letOwnedTupleGo_enum ho fun h'' he'' hs''=>⟨.ref s.heap.objs.size,_,?_,rfl,⟨s.heap.objs.size,c,rfl,hT,rfl,hcl⟩,⟨⟨_,by simpa using he''⟩,?_⟩,fun b hb=>?_⟩
  ·show Inv X pins σ _ { s with heap:=h'',toks:=tk+1 };refine I.turnT (ch:=[e,it]) (us:=[.int i tk,.str ⟨#[c]⟩ tc]) hf (fun b o hb q=>?_) (zb _) ⟨_,hs''.extBut _ _ (Nat.ne_of_gt elt) hTup,rfl,_,rfl⟩ (.cons ⟨_,rfl⟩ (.cons ⟨_,rfl⟩ .nil)) (by show 2≤sizeLine; decide)
   have h1:b≠e:=fun z=>hb (by simp [z])
   have h2:b≠it:=fun z=>hb (by simp [z])
   exact hs''.extBut _ _ h1 (hk b o h1 h2 q)
  ·obtain ⟨o,ho',r⟩:=hit';exact ⟨o,hs''.extBut _ _ (Ne.symm hne) ho',r⟩
  ·have q:=hf b hb;rw [Qap (fun z=>?_)]
   ·exact q.1
   ·obtain ⟨o,ho⟩:∃o,s.heap.get? b=some o:=by
     rcases zn.mp hb with rfl | hb
     ·exact ⟨_,he⟩
     ·rw [zo.mp hb];obtain ⟨o,ho,_⟩:=hit;exact ⟨o,ho⟩
    exact absurd (zf ho) (by rw [z]; exact zR _)
 done:=by
  intro X hP hw hK hc i pins s σ H E I hf st hg;subst hP hw hK;obtain ⟨⟨old,he⟩,hit⟩:=st;have hd:X.A.in1.handled=none:=I.ok.hd hc;have hg':l.length≤i:=hg;have hT:s.TypeIs (.ref e) "enumerate":=⟨_,he,rfl⟩;unfold pyNext
  refine za (wpAny_attempt (wpAny_callSpecial?_slot (name:=Str.ofString "__next__") hT F.slot_enumerate_next
   (wpAny_call_entry F.slot_enumerate_next hT F.entry_enumerate_next ?_ (F.args_enumerate_next_1 _))))
  show wpAny _ _ (field (.ref e) 2 >>= _) _ _ _;refine za (wpAny_field he rfl (x:=.ref it) rfl ?_);refine za (wpAny_nextOf_ascii_end hd hit (by simp [S]; exact hg') fun h' x he' hx'=>?_);obtain ⟨o,ho,hc⟩:=hx';refine za (wpAny_isInstance (T:="StopIteration") (b:=true) ⟨o,ho,hc⟩ isSubtype_stop ?_);exact zc ⟨rfl,I.turnL (t':=s.toks) (ch:=[e,it]) hf fun b o hb q=>he' b o (fun z=>hb (by simp [z])) q⟩
 self:=fun A i s Q E st h=>by
  obtain ⟨⟨old,he⟩,_⟩:=st;exact wpAny_pyIter_enum he h
section
variable {X:Cx}{elts:List Expr}{x1:Nat}{tpos:Pos}
def Qju (K:Frag) (ta:TA):TI:=fun σ H R=>ta σ H fun vs H1=>∃a,vs = [.ref a]∧(∃xs,SqL K H1 a xs)∧R (Ite K a) H1
def Qty (ta:TA):TI:=fun σ H R=>ta σ H fun vs H1=>∃l,vs = [.str (S l)]∧ascii l=true∧R (QuN l) H1
theorem QkC {l:List Nat} (h:ascii l=true):strIterType (S l) = "str_ascii_iterator":=by
 unfold strIterType;rw [if_pos];unfold ascii at h;rw [jm] at h;simp [S];intro i hi;simpa using h i hi
theorem QiU {a:Expr}{ta:TA}{p pos:Pos} (hg:Gl X "enumerate") (hm:X.mg "enumerate" = none) (ha:PA X [a] ta) (hs:starEach [a] X.env = [(false,eval a X.env)]:=by exact Qfz rfl):PI X (.Tuple elts x1 tpos) (.Call (.Name "enumerate" p) [a] [] pos) (Qju X.K ta):=by
 intro pins s σ H R I h;refine Call_ (QdJ I hg hm boot_enumerate (PyProof.Rows.callWith_type1 (thn (ha pos pins s σ H _ I h) fun us s1 ⟨vs,H1,I1,r1,q1⟩=>?_) hs rfl));obtain ⟨l,e,⟨xs,hq⟩,q⟩:=q1;subst e;obtain ⟨u,rfl,ru⟩:=vals1 r1;cases ru;obtain ⟨its,rv,pl,hz⟩:=I1.list hq
 refine call_enumerate_list pl.isList fun h' he hit hsz hk=>wpAny_pyIter_enum he ?_
 refine ⟨s1.heap.objs.size+1,[s1.heap.objs.size+1,s1.heap.objs.size],_,_,H1,rfl,I1.kept (t':=s1.toks) hk,Qm6 (s1.heap.objs.size+1) s1.heap.objs.size l (Nat.succ_ne_self _),⟨⟨_,he⟩,hit⟩,fun b hb=>?_,q⟩
 have hb':s1.heap.objs.size≤b:=by
  rcases zn.mp hb with rfl | hb
  ·exact Nat.le_succ _
  ·rw [zo.mp hb]; exact zb _
 exact I1.fpOk hb' (I1.hok.fresh hb')
theorem Qqy {a:Expr}{ta:TA}{p pos:Pos} (hg:Gl X "enumerate") (hm:X.mg "enumerate" = none) (ha:PA X [a] ta) (hs:starEach [a] X.env = [(false,eval a X.env)]:=by exact Qfz rfl):PI X (.Tuple elts x1 tpos) (.Call (.Name "enumerate" p) [a] [] pos) (Qty ta):=by
 intro pins s σ H R I h;refine Call_ (QdJ I hg hm boot_enumerate (PyProof.Rows.callWith_type1 (thn (ha pos pins s σ H _ I h) fun us s1 ⟨vs,H1,I1,r1,q1⟩=>?_) hs rfl));obtain ⟨l,e,hl,q⟩:=q1;subst e;obtain ⟨u,rfl,t,rfl⟩:=vals1 r1
 refine call_enumerate_str fun h' he hit hsz hk=>wpAny_pyIter_enum he ?_
 rw [QkC hl] at hit;refine ⟨s1.heap.objs.size+1,[s1.heap.objs.size+1,s1.heap.objs.size],_,_,H1,rfl,I1.kept (t':=s1.toks) hk,QnB (s1.heap.objs.size+1) s1.heap.objs.size l t (Nat.succ_ne_self _),⟨⟨_,he⟩,hit⟩,fun b hb=>?_,q⟩
 have hb':s1.heap.objs.size≤b:=by
  rcases zn.mp hb with rfl | hb
  ·exact Nat.le_succ _
  ·rw [zo.mp hb]; exact zb _
 exact I1.fpOk hb' (I1.hok.fresh hb')
end
def rW (K:Frag) (P:Pt):RR:=fun _ H F as v d=>Rp K F as v d∨∃a xs ds,v = .ref a∧d = .lst ds∧H a=some (.lst xs)∧a∉as∧P a∧Rps K F as xs ds
def WE (X:Cx) (md:List Md) (P:Pt) (e:Expr) (m:M D):Prop:=PE X e (tM X.K X.mg md P (rW X.K P) m)
section
variable {X:Cx}{md:List Md}{P:Pt}{R:RR}
theorem QgU {e:Expr}{m:M D} (h:VE X md P e m):WE X md P e m:=h.imp fun σ H Q q=>by
 obtain ⟨ρ,O,F,as,d,O',r,s,e,k⟩:=q;exact ⟨ρ,O,F,as,d,O',r,s,e,fun v H' F' as' g r' hv=>k v H' F' as' g r' (.inl hv)⟩
theorem QhR (i:Nat) {x:Str}{pos:Pos} (hm:md[i]? = some .s:=by rfl) (hN:X.N[i]? = some x:=by rfl) (hv:Vis X.env.scope x:=by first | exact Or.inl rfl | exact Or.inr (Or.inl rfl) | exact Or.inr (Or.inr rfl))
  (hd:(x == ("__debug__":Str))=false:=by decide) (hcd:(x == ("__classdict__":Str))=false:=by decide):WE X md P (.Name x pos) (Qaa i):=by
 refine (Qgb (i:=i) hN hv hd hcd).imp fun σ H Q h=>?_
 obtain ⟨ρ,O,F,as,d,O',r,s,e,k⟩:=h;obtain ⟨e1,rfl⟩:=Qij e;obtain ⟨v,h2,h3⟩:=s.sl i .s d hm e1;exact ⟨v,h2,k v H F as Gr.refl r h3⟩
theorem Qjo {K:Frag}{mg:Str→Option Value}{N:Addr→Prop}{H F:Hp}{as:List Addr}{v:V}{ds:List D} (hv:rW K P N H F as v (.lst ds)) :
  ∃a xs,v = .ref a∧Rps K F as xs ds∧∀(H2 F2:Hp) (as2:List Addr),GrS P H F as H2 F2 as2→(∃O,RlO K mg O H2 F2 as2)→RdK K H2 a xs:=by
 rcases hv with hv | ⟨a,xs,ds',rfl,e,e3,e4,e5,e6⟩
 ·obtain ⟨a,xs,rfl,h1,h2⟩:=hv.unL;exact ⟨a,xs,rfl,h2,fun H2 F2 as2 g ⟨O,r⟩=>(h1.mono g.ff).mono r.fh⟩
 ·cases e;exact ⟨a,xs,rfl,e6,fun H2 F2 as2 g _=>.inl (.inl (g.fr _ _ e5 e3 e4 rfl))⟩
theorem QrA {tg e:Expr}{m:M D} (h:WE X md P e m):VI X md P tg e (QkJ m):=(Qmw h).imp fun σ H Q q=>by
 obtain ⟨ρ,O,F,as,ds,O',r,s,e,k⟩:=q;obtain ⟨d,O1,e1,e⟩:=Res.bind_ok e
 cases d with
 | lst es =>
  cases e;refine ⟨ρ,_,F,as,_,_,r,s,e1,fun v H1 F1 as1 g1 r1 hv=>?_⟩;obtain ⟨a,xs,rfl,h1,h2⟩:=Qjo (mg:=X.mg) hv;exact ⟨a,rfl,⟨xs,(h2 H1 F1 as1 GrS.refl ⟨_,r1⟩).sq⟩,k _ H1 F1 as1 g1 r1 (QpC h1 h2)⟩
 | _=>cases e
theorem QoB {tg e:Expr}{m:M D} (h:VE X md P e m):VI X md P tg e (Qns m):=(Qs6 h).imp fun σ H Q q=>by
 obtain ⟨ρ,O,F,as,ds,O',r,s,e,k⟩:=q;obtain ⟨d,O1,e1,e⟩:=Res.bind_ok e
 cases d with
 | tup es =>
  cases e;refine ⟨ρ,_,F,as,_,_,r,s,e1,fun v H1 F1 as1 g1 r1 hv=>?_⟩;obtain ⟨a,xs,rfl,h1,h2⟩:=Rp.unT hv
  have hp:∀(H2 F2:Hp) (as2:List Addr),GrS P H1 F1 as1 H2 F2 as2→(∃O,RlO X.K X.mg O H2 F2 as2)→SqT X.K H2 a xs:=fun H2 F2 as2 g ⟨O,r⟩=>Same.seqT r.fh (Same.seqT g.ff h1)
  refine ⟨a,rfl,⟨xs,hp H1 F1 as1 GrS.refl ⟨_,r1⟩⟩,k _ H1 F1 as1 g1 r1 ⟨fun i d H2 F2 as2 g r e=>?_,fun H2 F2 as2 g r=>⟨xs,hp H2 F2 as2 g r,by rw [h2.length]; exact zb _⟩⟩⟩;obtain ⟨x,h3,h4⟩:=h2.get' e;have q:=hp H2 F2 as2 g r;refine ⟨⟨xs,x,q,h3⟩,fun y H3 hy=>?_⟩;obtain ⟨rfl,hy⟩:=hy
  have:=hy xs q
  rw [h3] at this;cases this;exact ⟨F2,Gr.refl,fun _ r=>r,h4.grS g⟩
 | _=>cases e
def QdG (l:List Nat):List D:=l.map fun c=>.str [c]
def Qm1 (m:M D):M (List D):=fun ρ O=>(m ρ O).bind fun d O1=>match d with
 | .str l=>if ascii l=true then .ok (QdG l) O1 else .no
 | _=>.no
theorem Qi4 {K:Frag}{mg:Str→Option Value}{J:It}{ds:List D}{H F:Hp}{as:List Addr} (h1:∀(i:Nat) (d:D) (H2:Hp),ds[i]? = some d→J.go i H2∧∀x H3,J.yld i H2 x H3→H3=H2∧∀K F as,Rp K F as x d) (h2:∀H2,J.stop ds.length H2):JOk K mg P J ds H F as :=
 ⟨fun i d H2 F2 as2 _ _ e=>⟨(h1 i d H2 e).1,fun x H3 y=>by
  obtain ⟨rfl,hx⟩:=(h1 i d H2 e).2 x H3 y
  exact ⟨F2,Gr.refl,fun _ r=>r,hx _ _ _⟩⟩,fun H2 _ _ _ _=>h2 H2⟩
theorem QoG {tg e:Expr}{m:M D} (h:SE X md P e m):VI X md P tg e (Qm1 m):=(QtE h).imp fun σ H Q q=>by
 obtain ⟨ρ,O,F,as,ds,O',r,s,e,k⟩:=q;obtain ⟨d,O1,e1,e⟩:=Res.bind_ok e
 cases d with
 | str l =>
  dsimp only at e;split at e
  ·rename_i hl;cases e;refine ⟨ρ,_,F,as,_,_,r,s,e1,fun v H1 F1 as1 g1 r1 hv=>?_⟩;refine ⟨l,(Sv.rp hv rfl).unS,hl,k _ H1 F1 as1 g1 r1 (Qi4 (fun i d H2 e=>?_) fun H2=>by simp [QdG,Its])⟩;unfold QdG at e;rw [zm] at e
   cases q:l[i]? with
   | none=>rw [q] at e; cases e
   | some c =>
    rw [q] at e;cases e;refine ⟨(ze.mp q).1,fun x H3 y=>?_⟩;obtain ⟨e1,c',e2,rfl⟩:=y;rw [q] at e2;cases e2;exact ⟨e1,fun _ _ _=>Rp.str⟩
  ·cases e
 | _=>cases e
def QbX (lo:Int) (n:Nat):List D:=(List.range n).map fun (k:Nat)=>.int (lo+(k:Int))
def Qch (m:M (List D)):M (List D):=fun ρ O=>(m ρ O).bind fun ds O1=>match ds with
 | [.int j]=>if j≤1000000000∧-1000000000≤j then .ok (QbX 0 j.toNat) O1 else .no
 | _=>.no
theorem Qoe {K:Frag}{mg:Str→Option Value}{lo:Int}{n:Nat}{H F:Hp}{as:List Addr}:JOk K mg P (Itr lo n) (QbX lo n) H F as:=Qi4 (fun i d H2 e=>by
 unfold QbX at e;rw [zm] at e
 by_cases hi:i < n
 ·rw [List.getElem?_range hi] at e;cases e;refine ⟨hi,fun x H3 y=>?_⟩;obtain ⟨e1,rfl⟩:=y;exact ⟨e1,fun _ _ _=>Rp.int⟩
 ·rw [zV (by simpa using hi)] at e
  cases e) fun H2=>by simp [QbX,Itr]
theorem QbI.one {K:Frag}{H F:Hp}{as:List Addr}{m:Md}{vs:List V}{d:D} (h:QbI K H F as [m] vs [d]):∃v,vs = [v]∧rA K m (fun _=>True) H F as v d:=by
 cases vs with
 | nil=>exact h.elim
 | cons v vs =>
  cases vs with
  | nil=>exact ⟨v,rfl,h.1⟩
  | cons u us=>exact h.2.elim
theorem QbI.two {K:Frag}{H F:Hp}{as:List Addr}{m n:Md}{vs:List V}{d e:D} (h:QbI K H F as [m,n] vs [d,e]):∃v u,vs = [v,u]∧rA K m (fun _=>True) H F as v d∧rA K n (fun _=>True) H F as u e:=by
 cases vs with
 | nil=>exact h.elim
 | cons v vs =>
  cases vs with
  | nil=>exact h.2.elim
  | cons u us =>
   cases us with
   | nil=>exact ⟨v,u,rfl,h.1,h.2.1⟩
   | cons w ws=>exact h.2.2.elim
theorem QcO {tg a:Expr}{p pos:Pos}{m:M (List D)} (hm:X.mg "range" = none) (ha:AE X md P [.s] [a] m) (hg:Gl X "range":=by rfl) (hs:starEach [a] X.env = [(false,eval a X.env)]:=by exact Qfz rfl):VI X md P tg (.Call (.Name "range" p) [a] [] pos) (Qch m):=(QoV hg hm ha hs).imp fun σ H Q q=>by
 obtain ⟨ρ,O,F,as,ds,O',r,s,e,k⟩:=q;obtain ⟨es,O1,e1,e⟩:=Res.bind_ok e;split at e
 ·rename_i j;split at e
  ·rename_i hj;cases e;refine ⟨ρ,_,F,as,_,_,r,s,e1,fun vs H1 F1 as1 g1 r1 hv=>?_⟩;obtain ⟨v,rfl,hv1⟩:=hv.one
   have:=(Sv.rp hv1 rfl).unI
   subst this;exact ⟨j,rfl,by omega,by omega,k _ H1 F1 as1 g1 r1 Qoe⟩
  ·cases e
 ·cases e
def QcG:Nat→List D→List D
 | _,[]=>[]
 | k,d::ds=>.tup [.int k,d]::QcG (k+1) ds
theorem Qev:∀(k:Nat) (ds:List D),(QcG k ds).length=ds.length
 | _,[]=>rfl
 | k,d::ds=>by simp [QcG,Qev (k+1) ds]
theorem Qe6:∀(k:Nat) (ds:List D) (i:Nat),(QcG k ds)[i]? = (ds[i]?).map fun d=>.tup [.int ((k+i:Nat):Int),d]
 | k,[],i=>by simp [QcG]
 | k,d::ds,0=>by simp [QcG]
 | k,d::ds,i+1=>by
  rw [QcG,List.getElem?_cons_succ,List.getElem?_cons_succ,Qe6 (k+1) ds i];congr 1
  funext d
  congr 3;omega
theorem Qe0 {K:Frag}{mg:Str→Option Value}{H2 F2:Hp}{as2:List Addr}{T:Addr}{xs:List V}{ds:List D} (hr:∃O,RlO K mg O H2 F2 as2) (hT:H2 T=none) (hx:Rps K F2 as2 xs ds) :
  ∃F3,Gr H2 F2 as2 (upd H2 T (.tup xs)) F3 as2∧(∀O,RlO K mg O H2 F2 as2→RlO K mg O (upd H2 T (.tup xs)) F3 as2)∧Rp K F3 as2 (.ref T) (.tup ds):=by
 obtain ⟨O,r⟩:=hr;have hF:=r.frF hT
 have ff:Same F2 (upd F2 T (.tup xs)):=fun b u q=>by rw [Qap (QaD q hF)]; exact q
 exact ⟨upd F2 T (.tup xs),(Gr.lay hT).frz hT hF,fun O' r'=>(r'.lay hT).frz QaF hF (fun z=>r'.all z hT) rfl,Rp.mkT (.inl QaF) (Rps.mono ff (fun _ _ z=>z) _ hx)⟩
def QgF (m:M D):M (List D):=fun ρ O=>(m ρ O).bind fun d O1=>match d with
 | .lst ds=>.ok (QcG 0 ds) O1
 | _=>.no
def Qpq (m:M D):M (List D):=fun ρ O=>(m ρ O).bind fun d O1=>match d with
 | .str l=>if ascii l=true then .ok (QcG 0 (QdG l)) O1 else .no
 | _=>.no
variable {elts:List Expr}{x1:Nat}{tpos:Pos}
theorem Qp3 {a:Expr}{p pos:Pos}{m:M D} (hm:X.mg "enumerate" = none) (h:WE X md P a m) (hg:Gl X "enumerate":=by rfl) (hs:starEach [a] X.env = [(false,eval a X.env)]:=by exact Qfz rfl) (hs':starEach [a] X.env=(false,eval a X.env)::starEach [] X.env:=by exact Qbn rfl) :
  VI X md P (.Tuple elts x1 tpos) (.Call (.Name "enumerate" p) [a] [] pos) (QgF m):=(QiU hg hm (Qcx h QdV hs') hs).imp fun σ H Q q=>by
 obtain ⟨ρ,O,F,as,ds,O',r,s,e,k⟩:=q;obtain ⟨d,O1,e1,e⟩:=Res.bind_ok e
 cases d with
 | lst es =>
  cases e;refine ⟨ρ,_,F,as,_,_,r,s,e1,fun v H1 F1 as1 g1 r1 hv=>?_⟩;obtain ⟨a,xs,rfl,h1,h2⟩:=Qjo (mg:=X.mg) hv;refine ⟨a,rfl,⟨xs,(h2 H1 F1 as1 GrS.refl ⟨_,r1⟩).sq⟩,k _ H1 F1 as1 g1 r1 ⟨fun i d H2 F2 as2 g r e=>?_,fun H2 F2 as2 g r=>⟨xs,(h2 H2 F2 as2 g r).sq,by rw [Qev,h1.length]; exact zb _⟩⟩⟩;rw [Qe6] at e
  cases q:es[i]? with
  | none=>rw [q] at e; cases e
  | some y =>
   rw [q] at e;cases e;obtain ⟨x,h3,h4⟩:=h1.get' q;have hq:=h2 H2 F2 as2 g r;refine ⟨⟨xs,x,hq.sq,h3⟩,fun z H3 hz=>?_⟩;obtain ⟨T,x',rfl,hT,rfl,hx'⟩:=hz
   have:=hx' xs hq.sq
   rw [h3] at this;cases this;rw [zC];exact Qe0 r hT (Rps.cons Rp.int (Rps.cons (h4.grS g) Rps.nil))
 | _=>cases e
theorem QqG {a:Expr}{p pos:Pos}{m:M D} (hm:X.mg "enumerate" = none) (h:SE X md P a m) (hg:Gl X "enumerate":=by rfl) (hs:starEach [a] X.env = [(false,eval a X.env)]:=by exact Qfz rfl) (hs':starEach [a] X.env=(false,eval a X.env)::starEach [] X.env:=by exact Qbn rfl) :
  VI X md P (.Tuple elts x1 tpos) (.Call (.Name "enumerate" p) [a] [] pos) (Qpq m):=(Qqy hg hm (Qcx h QdV hs') hs).imp fun σ H Q q=>by
 obtain ⟨ρ,O,F,as,ds,O',r,s,e,k⟩:=q;obtain ⟨d,O1,e1,e⟩:=Res.bind_ok e
 cases d with
 | str l =>
  dsimp only at e;split at e
  ·rename_i hl;cases e;refine ⟨ρ,_,F,as,_,_,r,s,e1,fun v H1 F1 as1 g1 r1 hv=>?_⟩;refine ⟨l,by rw [(Sv.rp hv rfl).unS],hl,k _ H1 F1 as1 g1 r1 ⟨fun i d H2 F2 as2 g r e=>?_,fun H2 F2 as2 g r=>?_⟩⟩
   ·rw [Qe6] at e;unfold QdG at e;rw [zm] at e
    cases q:l[i]? with
    | none=>rw [q] at e; cases e
    | some c =>
     rw [q] at e;cases e;refine ⟨(ze.mp q).1,fun z H3 hz=>?_⟩;obtain ⟨T,c',rfl,hT,rfl,hc'⟩:=hz;rw [q] at hc';cases hc';rw [zC];exact Qe0 r hT (Rps.cons Rp.int (Rps.cons Rp.str Rps.nil))
   ·show l.length≤_;rw [Qev];simp [QdG]
  ·cases e
 | _=>cases e
def QkU:List D→Option (List (List Nat))
 | []=>some []
 | .str l::ds=>(QkU ds).map (l :: ·)
 | _=>none
def Qva (m:M D):M D:=fun ρ O=>(m ρ O).bind fun d O1=>match QaI O1 d with
 | .lst ds=>match QkU ds with
  | some ls=>if (ls.map List.length).sum≤1000000 then .ok (.str ls.flatten) O1 else .no
  | none=>.no
 | _=>.no
def Qrt (mo m:M D):M D:=fun ρ O=>(mo ρ O).bind fun a O1=>(m ρ O1).bind fun b O2=>match a,b with
 | .str l,.str n=>.ok (.bl (decide (l.take n.length=n))) O2
 | _,_=>.no
end
section
variable {K:Frag}{mg:Str→Option Value}{md:List Md}{P:Pt}{ρ:Qah}{σ:St}{H F:Hp}{as:List Addr}{O:Qac}{i:Nat}{a:Addr}{xs xs':List V}{ds ds':List D}
theorem SlO.own (s:SlO K md P ρ σ H F as) (hm:md[i]? = some .o) (hρ:ρ[i]? = some (some (.lst ds))):∃a xs,σ[i]? = some (some (.ref a))∧H a=some (.lst xs)∧F a=none∧a∉as∧¬P a∧Rps K F as xs ds:=by
 obtain ⟨v,h1,h2⟩:=s.sl i .o _ hm hρ
 rcases h2 with ⟨h2,_⟩ | ⟨a,xs,es,rfl,e2,e3,e0,e4,e5,e6⟩
 ·cases h2
 ·cases e2;exact ⟨a,xs,h1,e3,e0,e4,e5,e6⟩
theorem SlO.mut (s:SlO K md P ρ σ H F as) (hm:md[i]? = some .o) (hρ:ρ[i]? = some (some (.lst ds))) (hσ:σ[i]? = some (some (.ref a))) (hF:F a=none) (ha:a∉as) (hP:¬P a) (r:Rps K F as xs' ds'):SlO K md P (ρ.set i (some (.lst ds'))) σ (upd H a (.lst xs')) F as:=by
 have hi:i < md.length:=(ze.mp hm).1;refine ⟨s.len,by rw [zN]; exact s.len',fun c p=>?_,fun j m d e1 e2=>?_,fun j k c es fs h1 h2 h3 h4 h5 h6=>?_,fun x hx=>?_⟩
 ·have:=s.pd c p
  unfold upd
  split
  ·exact fun z=>nomatch z
  ·exact this
 ·by_cases h:i=j
  ·subst h;rw [hm] at e1; cases e1;rw [zK (by rw [s.len']; exact hi)] at e2;cases e2;exact ⟨_,hσ,.inr ⟨a,xs',ds',rfl,rfl,QaF,hF,ha,hP,r⟩⟩
  ·rw [zj h] at e2;obtain ⟨v,q1,q2⟩:=s.sl j m d e1 e2;refine ⟨v,q1,?_⟩
   cases m with
   | v=>exact q2
   | s =>
    rcases q2 with q2 | ⟨c,ys,es,z1,z2,z3,z4,z5,z6⟩
    ·exact .inl q2
    ·exact .inr ⟨c,ys,es,z1,z2,by rw [Qap (fun z=>hP (by rw [←z]; exact z5))]; exact z3,z4,z5,z6⟩
   | o =>
    rcases q2 with q2 | ⟨c,ys,es,z1,z2,z3,z0,z4,z5,z6⟩
    ·exact .inl q2
    ·refine .inr ⟨c,ys,es,z1,z2,?_,z0,z4,z5,z6⟩;rw [Qap]
     ·exact z3
     ·intro z;subst z z1 z2;exact h (s.inj i j c ds es hm e1 hρ e2 hσ q1)
 ·have f:∀k es,(ρ.set i (some (.lst ds')))[k]? = some (some (D.lst es))→∃es',ρ[k]? = some (some (D.lst es')):=fun k es q=>by
   by_cases h:i=k
   ·subst h; exact ⟨ds,hρ⟩
   ·rw [zj h] at q; exact ⟨es,q⟩
  obtain ⟨es',q3⟩:=f j es h3;obtain ⟨fs',q4⟩:=f k fs h4;exact s.inj j k c es' fs' h1 h2 q3 q4 h5 h6
 ·obtain ⟨p1,p2,p3⟩:=s.pin x hx
  have hne:i≠x.1:=fun z=>by rw [←z,hm] at p1; cases p1
  exact ⟨p1,by rw [zj hne]; exact p2,p3⟩
theorem Qli {xs:List V} (hH:H a=some (.lst xs)) (hP:¬P a) {o:HO}:GrS P H F as (upd H a o) F as :=
 ⟨fun _ _ _ _ _ _=>rfl,Same.refl F,⟨[],by simp,fun _ h=>nomatch h⟩,fun c u p e _ _=>by rw [Qap (fun z=>hP (by rw [←z]; exact p))]; exact e,fun c e=>by
  by_cases h:c=a
  ·subst h; rw [QaF] at e; cases e
  ·rwa [Qap h] at e,fun c o' u e=>by rw [Qap (fun z=>by rw [z,hH] at e; cases e)]; exact e⟩
theorem RlO.mut (r:RlO K mg O H F as) (hF:F a=none) (ha:a∉as) {o:HO}:RlO K mg O (upd H a o) F as:=by
 refine ⟨fun c u e=>?_,r.fd,r.nd,r.len,r.fa,fun n c u hc hu=>(r.ob n c u hc hu).keep (Qap ?_) (Same.refl F) fun _ _ h=>h⟩
 ·rw [Qap (QaD e hF)]; exact r.fh c u e
 ·intro z; subst z; exact ha (zx hc)
end
section
variable {X:Cx}{md:List Md}{P:Pt}{R:RR}
def Qbt (i:Nat) (m:M D):MS:=fun ρ O=>match m ρ O with
 | .ok d O'=>match ρ[i]? with
  | some (some (.lst ds))=>if ds.length < 1000000 then .nx (ρ.set i (some (.lst (ds ++ [d])))) O' else .no
  | _=>.no
 | .ex x O'=>.ex x O'
 | .no=>.no
theorem QoF {i:Nat}{m:M D}{ρ:Qah}{O:Qac} (K:Frag) (mg:Str→Option Value) {D:Ends}{H F:Hp}{as:List Addr} (k:Qfm K mg md P R D H F as (Qbt i m ρ O)) :
  ∃d O' ds,m ρ O = .ok d O'∧ρ[i]? = some (some (.lst ds))∧ds.length < 1000000∧Qfm K mg md P R D H F as (.nx (ρ.set i (some (.lst (ds ++ [d])))) O'):=by
 unfold Qbt at k;split at k
 ·rename_i d O' e;split at k
  ·rename_i ds e2;split at k
   ·rename_i hz;exact ⟨d,O',ds,e,e2,hz,k⟩
   ·exact False.elim k
  ·exact False.elim k
 ·exact False.elim k
 ·exact False.elim k
theorem Qcf (i:Nat) {x:Str}{p apos cpos pos:Pos}{e:Expr}{m:M D} (h:VE X md P e m) (hm:md[i]? = some .o:=by rfl) (hN:X.N[i]? = some x:=by rfl) (hv:Vis X.env.scope x:=by first | exact Or.inl rfl | exact Or.inr (Or.inl rfl) | exact Or.inr (Or.inr rfl))
  (hd:(x == ("__debug__":Str))=false:=by decide) (hcd:(x == ("__classdict__":Str))=false:=by decide)
  (hbase:attributeBase (.Name x p) "append" X.env (eval (.Name x p) X.env)=eval (.Name x p) X.env:=by rfl)
  (hfew:((backTo cpos (starEach [e] X.env)).all (fun x=>!x.1)&&(backToKw cpos (keywordEach [] X.env)).all (fun x=>x.1.isSome)&&decide ([e].length+([]:List Keyword).length+(if ([]:List Keyword).isEmpty then 0 else 1) < 30))=true:=by rfl)
  (hline:(apos.endLine == cpos.line)=true:=by rfl) (hs:starEach [e] X.env=(false,eval e X.env)::starEach [] X.env:=by exact Qbn rfl) (hplain:(backTo cpos (starEach [] X.env)).any (·.1)=false:=by exact QbF rfl)
  (hsw:swapsWith (.Call (.Attribute (.Name x p) "append" apos) [e] [] cpos) none pos.line X.env=pure false:=by rfl) :
  VS X md P R (.Expr (.Call (.Attribute (.Name x p) "append" apos) [e] [] cpos) pos) (Qbt i m) :=
 (QeV (QkR PySem.F.plainAttrs_list PySem.F.slot_list_append PySem.F.type_list_append Qks (Qgb (i:=i) hN hv hd hcd) (Qcx h QdV hs) hbase hfew hline hs hplain) hsw).imp fun D σ H q=>by
  obtain ⟨ρ,O,F,as,r,s,k⟩:=q;obtain ⟨d,O',ds,e,e2,hz,k⟩:=QoF X.K X.mg k;obtain ⟨a,xs,h1,h2,h3,h4,h5,h6⟩:=s.own hm e2;refine ⟨_,h1,.inl ⟨rfl,xs,.inl (.inl h2)⟩,ρ,O,F,as,d,O',r,s,e,fun y H1 F1 as1 g1 r1 hy=>?_⟩;have s1:=s.step g1
  have hn:H a≠none:=by rw [h2]; exact fun z=>nomatch z
  have q2:=g1.fr _ _ h2 h4 rfl
  have q3:F1 a=none:=by rw [g1.fz a _ h2 h4 rfl]; exact h3
  have q4:=g1.out h4 hn
  have hn1:H1 a≠none:=by rw [q2]; exact fun z=>nomatch z
  exact ⟨a,xs,y,rfl,rfl,q2,by rw [h6.length]; exact zG hz (by decide),k σ _ F1 as1 (g1.toS.trans (Qli q2 h5)) (r1.mut q3 q4) (s1.mut hm e2 h1 q3 q4 h5 ((h6.gr g1).snoc hy))⟩
def QvE (K:Frag):V→List V→Hp→VK→Prop:=fun x vs H Q=>∃l b xs zs,x = .ref l∧vs = [.ref b]∧H l=some (.lst xs)∧RdK K H b zs∧xs.length+zs.length≤sizeLine∧Q .non (upd H l (.lst (xs++zs)))
theorem QmO:MtM X "list.extend" (QvE X.K):=by
 intro pins s σ H x vs v us Q I rx rv h;obtain ⟨l,b,xs,zs,rfl,rfl,hH,hB,hz,q⟩:=h;cases rx;obtain ⟨u,rfl,ru⟩:=rv.one;cases ru;obtain ⟨z,its,n,r,hl,e⟩:=I.lstM hH;obtain ⟨z2,its2,n2,r2,e2⟩:=hB.ok I;have hl2:=r2.length
 have hsz:its.toArray.size+its2.toArray.size≤sizeLine:=by rw [zt,zt]; omega
 have hlong:¬(!its.toArray.isEmpty&&Builtin.List.listTooLong (its.toArray.size+its2.toArray.size))=true:=by
  rw [Qlk hsz,Bool.and_false];exact zp
 refine call_meets F.slot_list_extend ⟨_,e,rfl⟩ F.entry_list_extend (F.args_list_extend_2 _ _)
  (AutoSeq1.list_extend_list_list_0 l its.toArray n b its2.toArray n2 hlong (by rw [zt]; omega) (by omega)) ⟨e,e2,?_⟩
 refine ⟨.non,_,I.lset (its':=its++its2) hH e (by simp) (r.append r2) ?_,rfl,q⟩;rw [zg];omega
def Qiu (i:Nat) (m:M D):MS:=fun ρ O=>match m ρ O with
 | .ok d O'=>match ρ[i]?,QaI O' d with
  | some (some (.lst ds)),.lst es=>if ds.length+es.length≤1000000 then .nx (ρ.set i (some (.lst (ds++es)))) O' else .no
  | _,_=>.no
 | .ex x O'=>.ex x O'
 | .no=>.no
theorem QnZ {i:Nat}{m:M D}{ρ:Qah}{O:Qac} (K:Frag) (mg:Str→Option Value) {D:Ends}{H F:Hp}{as:List Addr} (k:Qfm K mg md P R D H F as (Qiu i m ρ O)) :
  ∃d O' ds es,m ρ O = .ok d O'∧ρ[i]? = some (some (.lst ds))∧QaI O' d = .lst es∧ds.length+es.length≤1000000∧Qfm K mg md P R D H F as (.nx (ρ.set i (some (.lst (ds++es)))) O'):=by
 unfold Qiu at k;split at k
 ·rename_i d O' e;split at k
  ·rename_i ds es e2 e3;split at k
   ·rename_i hz;exact ⟨d,O',ds,es,e,e2,e3,hz,k⟩
   ·exact False.elim k
  ·exact False.elim k
 ·exact False.elim k
 ·exact False.elim k
theorem Qpw (i:Nat) {x:Str}{p apos cpos pos:Pos}{e:Expr}{m:M D} (h:SE X md P e m) (hm:md[i]? = some .o:=by rfl) (hN:X.N[i]? = some x:=by rfl) (hv:Vis X.env.scope x:=by first | exact Or.inl rfl | exact Or.inr (Or.inl rfl) | exact Or.inr (Or.inr rfl))
  (hd:(x == ("__debug__":Str))=false:=by decide) (hcd:(x == ("__classdict__":Str))=false:=by decide)
  (hbase:attributeBase (.Name x p) "extend" X.env (eval (.Name x p) X.env)=eval (.Name x p) X.env:=by rfl)
  (hfew:((backTo cpos (starEach [e] X.env)).all (fun x=>!x.1)&&(backToKw cpos (keywordEach [] X.env)).all (fun x=>x.1.isSome)&&decide ([e].length+([]:List Keyword).length+(if ([]:List Keyword).isEmpty then 0 else 1) < 30))=true:=by rfl)
  (hline:(apos.endLine == cpos.line)=true:=by rfl) (hs:starEach [e] X.env=(false,eval e X.env)::starEach [] X.env:=by exact Qbn rfl) (hplain:(backTo cpos (starEach [] X.env)).any (·.1)=false:=by exact QbF rfl)
  (hsw:swapsWith (.Call (.Attribute (.Name x p) "extend" apos) [e] [] cpos) none pos.line X.env=pure false:=by rfl) :
  VS X md P R (.Expr (.Call (.Attribute (.Name x p) "extend" apos) [e] [] cpos) pos) (Qiu i m) :=
 (QeV (QkR PySem.F.plainAttrs_list PySem.F.slot_list_extend PySem.F.type_list_extend QmO (Qgb (i:=i) hN hv hd hcd) (Qcx h QdV hs) hbase hfew hline hs hplain) hsw).imp fun D σ H q=>by
  obtain ⟨ρ,O,F,as,r,s,k⟩:=q;obtain ⟨d,O',ds,es,e,e2,e3,hz,k⟩:=QnZ X.K X.mg k;obtain ⟨a,xs,h1,h2,h3,h4,h5,h6⟩:=s.own hm e2;refine ⟨_,h1,.inl ⟨rfl,xs,.inl (.inl h2)⟩,ρ,O,F,as,d,O',r,s,e,fun y H1 F1 as1 g1 r1 hy=>?_⟩;have s1:=s.step g1
  have hn:H a≠none:=by rw [h2]; exact fun z=>nomatch z
  have q2:=g1.fr _ _ h2 h4 rfl
  have q3:F1 a=none:=by rw [g1.fz a _ h2 h4 rfl]; exact h3
  have q4:=g1.out h4 hn
  have hn1:H1 a≠none:=by rw [q2]; exact fun z=>nomatch z
  have ly:=Sv.lk hy r1;rw [e3] at ly;obtain ⟨b,zs,rfl,w1,w2⟩:=ly.list r1.fh;exact ⟨a,b,xs,zs,rfl,rfl,q2,w1,by rw [h6.length,w2.length]; exact Qda hz,k σ _ F1 as1 (g1.toS.trans (Qli q2 h5)) (r1.mut q3 q4) (s1.mut hm e2 h1 q3 q4 h5 (Rps.append w2 (h6.gr g1)))⟩
def Qit (i:Nat):MS:=fun ρ O=>match ρ[i]? with
 | some (some (.lst _))=>.nx (ρ.set i (some (.lst []))) O
 | _=>.no
theorem QpU (i:Nat) {x:Str}{p apos cpos pos:Pos} (hm:md[i]? = some .o:=by rfl) (hN:X.N[i]? = some x:=by rfl) (hv:Vis X.env.scope x:=by first | exact Or.inl rfl | exact Or.inr (Or.inl rfl) | exact Or.inr (Or.inr rfl))
  (hd:(x == ("__debug__":Str))=false:=by decide) (hcd:(x == ("__classdict__":Str))=false:=by decide)
  (hbase:attributeBase (.Name x p) "clear" X.env (eval (.Name x p) X.env)=eval (.Name x p) X.env:=by rfl) (hline:(apos.endLine == cpos.line)=true:=by rfl)
  (hsw:swapsWith (.Call (.Attribute (.Name x p) "clear" apos) [] [] cpos) none pos.line X.env=pure false:=by rfl) :
  VS X md P R (.Expr (.Call (.Attribute (.Name x p) "clear" apos) [] [] cpos) pos) (Qit i) :=
 (QeV (QpB PySem.F.plainAttrs_list PySem.F.slot_list_clear PySem.F.type_list_clear QlS (Qgb (i:=i) hN hv hd hcd) hbase hline) hsw).imp fun D σ H q=>by
  obtain ⟨ρ,O,F,as,r,s,k⟩:=q;unfold Qit at k;split at k
  ·rename_i ds e2;obtain ⟨a,xs,h1,h2,h3,h4,h5,h6⟩:=s.own hm e2
   have hn:H a≠none:=by rw [h2]; exact fun z=>nomatch z
   exact ⟨_,h1,.inl ⟨rfl,xs,.inl (.inl h2)⟩,a,xs,rfl,rfl,h2,k σ _ F as (Qli h2 h5) (r.mut h3 h4) (s.mut hm e2 h1 h3 h4 h5 Rps.nil)⟩
  ·exact False.elim k
end
def putD (f:Str) (v:D):List (Str×D)→List (Str×D)
 | []=>[(f,v)]
 | (g,x)::r=>if g=f then (g,v)::r else (g,x)::putD f v r
section
variable {K:Frag}{F:Hp}{as:List Addr}
theorem FsR.cons_inv {gs:List (Str×V)}{f:Str}{d:D}{fs:List (Str×D)} (h:FsR K F as gs ((f,d)::fs)):∃v gs',gs=(f,v)::gs'∧Rp K F as v d∧FsR K F as gs' fs:=by
 obtain ⟨h1,h2⟩:=h
 cases gs with
 | nil=>cases h1
 | cons g gs' =>
  obtain ⟨g1,g2⟩:=g;simp only [zl,List.cons.injEq] at h1;obtain ⟨x,r,e,h3,h4⟩:=h2.un;simp only [zl,List.cons.injEq] at e;obtain ⟨rfl,rfl⟩:=e;exact ⟨g2,gs',by rw [h1.1],h3,⟨h1.2,h4⟩⟩
theorem FsR.nil_inv {gs:List (Str×V)} (h:FsR K F as gs []):gs = []:=List.map_eq_nil_iff.mp h.nm
theorem FsR.get:∀{fs:List (Str×D)}{gs:List (Str×V)}{f:Str}{d:D},FsR K F as gs fs→fs.lookup f=some d→∃v,gs.lookup f=some v∧Rp K F as v d
 | [],_,_,_,_,e=>by cases e
 | (g,x)::fs,gs,f,d,h,e=>by
  obtain ⟨v,gs',rfl,h1,h2⟩:=h.cons_inv;rw [List.lookup_cons] at e ⊢
  cases q:f == g with
  | true =>
   rw [q] at e;cases e;exact ⟨v,rfl,h1⟩
  | false =>
   rw [q] at e;exact FsR.get h2 e
theorem FsR.no:∀{fs:List (Str×D)}{gs:List (Str×V)}{f:Str},FsR K F as gs fs→fs.lookup f=none→gs.lookup f=none
 | [],_,_,h,e=>by rw [h.nil_inv]; rfl
 | (g,x)::fs,gs,f,h,e=>by
  obtain ⟨v,gs',rfl,h1,h2⟩:=h.cons_inv;rw [List.lookup_cons] at e ⊢
  cases q:f == g with
  | true=>rw [q] at e; cases e
  | false =>
   rw [q] at e;exact FsR.no h2 e
theorem FsR.put {f:Str}{v:V}{d:D} (hv:Rp K F as v d):∀{fs:List (Str×D)}{gs:List (Str×V)},FsR K F as gs fs→FsR K F as (Qdi f v gs) (putD f d fs)
 | [],_,h=>by
  rw [h.nil_inv];exact ⟨rfl,Rps.cons hv Rps.nil⟩
 | (g,x)::fs,gs,h=>by
  obtain ⟨u,gs',rfl,h1,h2⟩:=h.cons_inv;rw [Qdi,putD]
  by_cases q:g=f
  ·rw [if_pos q,if_pos q];exact ⟨by simp [h2.nm],Rps.cons hv h2.vl⟩
  ·rw [if_neg q,if_neg q];have ih:=FsR.put (f:=f) hv h2;exact ⟨by simp [ih.nm],Rps.cons h1 ih.vl⟩
theorem FsR.length {fs:List (Str×D)}{gs:List (Str×V)} (h:FsR K F as gs fs):gs.length=fs.length:=by
 have:=congrArg List.length h.nm
 simpa using this
theorem RlO.set {mg:Str→Option Value}{O:Qac}{H:Hp}{n:Nat}{a:Addr}{o:Ob}{u:HO} (r:RlO K mg O H F as) (ha:as[n]? = some a) (ho:ObR K mg (upd H a u) F as a o):RlO K mg (O.set n o) (upd H a u) F as:=by
 have hF:=r.fa a (zx ha);refine ⟨fun c w e=>?_,r.fd,r.nd,by rw [zN]; exact r.len,r.fa,fun k c w hc hw=>?_⟩
 ·rw [Qap (QaD e hF)]; exact r.fh c w e
 ·by_cases h:n=k
  ·subst h;rw [ha] at hc; cases hc;rw [zK (by rw [←r.len]; exact (ze.mp ha).1)] at hw;cases hw;exact ho
  ·rw [zj h] at hw
   refine (r.ob k c w hc hw).keep (Qap ?_) (Same.refl F) fun _ _ h=>h
   intro z;subst z;obtain ⟨l1,q1⟩:=ze.mp ha;obtain ⟨l2,q2⟩:=ze.mp hc;exact h ((List.getElem_inj r.nd).mp (q1.trans q2.symm))
end
def KC (K:Frag) (mg:Str→Option Value) (c f:Str):Prop:=∃C,mg c=some (.ref C)∧Cls K C∧QfX K C f
section
variable {X:Cx}{md:List Md}{P:Pt}{R:RR}
def QcZ (cs:List Str) (f:Str) (m:M D):M D:=fun ρ O=>(m ρ O).bind fun d O1=>match d with
 | .ob n=>match O1[n]? with
  | some (.ins c fs)=>if c∈cs then match fs.lookup f with
   | some y=>.ok y O1
   | none=>.no else .no
  | _=>.no
 | _=>.no
theorem QfH {cs:List Str}{f:Str}{o:Expr}{pos:Pos}{m:M D} (hc:∀c∈cs,KC X.K X.mg c f) (h:VE X md P o m) (hb:attributeBase o f X.env (eval o X.env)=eval o X.env:=by rfl):VE X md P (.Attribute o f pos) (QcZ cs f m):=(QuQ h hb).imp fun σ H Q q=>by
 obtain ⟨ρ,O,F,as,d,O',r,s,e,k⟩:=q;obtain ⟨x,O1,e1,e⟩:=Res.bind_ok e
 cases x with
 | ob n =>
  dsimp only at e;split at e
  ·rename_i c fs eo;split at e
   ·rename_i hcs;split at e
    ·rename_i y ey;cases e;refine ⟨ρ,_,F,as,_,_,r,s,e1,fun v H1 F1 as1 g1 r1 hv=>?_⟩;obtain ⟨a,rfl,ha⟩:=Rp.unO hv;obtain ⟨C,dx,gs,h1,h2,h3⟩:=r1.ob n a _ ha eo;obtain ⟨C',h4,h5,h6⟩:=hc c hcs;rw [h1] at h4; cases h4;obtain ⟨w,h7,h8⟩:=h3.get ey;exact ⟨a,C,dx,gs,w,rfl,h2,h5,h6,h7,k w H1 F1 as1 g1 r1 h8⟩
    ·cases e
   ·cases e
  ·cases e
 | _=>cases e
def Qfv (cs:List Str) (f:Str) (mo mv:M D):MS:=fun ρ O=>match mv ρ O with
 | .ok d O1=>match mo ρ O1 with
  | .ok (.ob n) O2=>match O2[n]? with
   | some (.ins c fs)=>if c∈cs∧fs.length < 900 then .nx ρ (O2.set n (.ins c (putD f d fs))) else .no
   | _=>.no
  | _=>.no
 | .ex x O'=>.ex x O'
 | .no=>.no
theorem Qn6 {cs:List Str}{f:Str}{o value:Expr}{pos pos':Pos}{mo mv:M D} (hc:∀c∈cs,KC X.K X.mg c f) (ho:VE X md P o mo) (hv:VE X md P value mv) (hs:swapsWith value (some (.Attribute o f pos')) pos.line X.env=pure false:=by rfl):VS X md P R (.Assign [.Attribute o f pos'] value pos) (Qfv cs f mo mv):=(QtC ho hv hs).imp fun D σ H q=>by
 obtain ⟨ρ,O,F,as,r,s,k⟩:=q;unfold Qfv at k;split at k
 ·rename_i d O1 e1;split at k
  ·rename_i n O2 e2;split at k
   ·rename_i c fs eo;split at k
    ·rename_i hcs;refine ⟨ρ,O,F,as,d,O1,r,s,e1,fun y H1 F1 as1 g1 r1 hy=>?_⟩;refine ⟨ρ,O1,F1,as1,.ob n,O2,r1,s.step g1,e2,fun z H2 F2 as2 g2 r2 hz=>?_⟩;have g:=g1.trans g2;obtain ⟨a,rfl,ha⟩:=Rp.unO hz;obtain ⟨C,dx,gs,h1,h2,h3⟩:=r2.ob n a _ ha eo;obtain ⟨C',h4,h5,h6⟩:=hc c hcs.1;rw [h1] at h4; cases h4;have hmem:=zx ha
     have hn:H2 a≠none:=by rw [h2]; exact fun z=>nomatch z
     have gg:Gr H2 F2 as2 (upd H2 a (.ins C dx (Qdi f y gs))) F2 as2:=⟨fun _ _ _ _ _=>rfl,Same.refl _,⟨[],by simp,fun _ h=>nomatch h⟩,fun b u e hb _=>by rw [Qap (fun z=>hb (by rw [z]; exact hmem))]; exact e,fun b e=>by
      by_cases h:b=a
      ·subst h; rw [QaF] at e; cases e
      ·rwa [Qap h] at e,fun b o' u e=>by rw [Qap (fun z=>by rw [z,h2] at e; cases e)]; exact e⟩
     refine ⟨a,C,dx,gs,rfl,h2,h5,h6,by rw [h3.length]; omega,?_⟩;exact k σ _ F2 as2 (g.trans gg).toS (r2.set ha ⟨C,dx,_,h1,QaF,h3.put (Rp.gr hy g2)⟩) ((s.step g).step gg)
    ·exact False.elim k
   ·exact False.elim k
  ·exact False.elim k
 ·exact False.elim k
 ·exact False.elim k
end
section
variable {Pr:Program}{w:World}{K:Frag}{mg:Str→Option Value}{base:Heap}
theorem Qug {x qual:Str}{st:Stmt}{f:Addr}{fd:FuncData}{N ps:List Str}{k:Nat} (Fn:Fun K x qual st f fd) (S:QaR N ps (Qas st))
  (pm lm:List Md) {R:RR}{b:MS} (hR:QeK R) (hR0:∀N H F as,R N H F as .non .non) (hpl:pm.length=ps.length) (hl:(pm++lm).length=N.length) (hp:∀m∈pm,m≠.o)
  (body:∀(cdv:Value) (A:Around) (outer:List Env) (s:Shared) (H:Hp) (E:XK),Qa6 k (A.deeper (envOfC qual (Qas st) s.heap.objs.size f cdv))→∀P,VSs ((Qge CX0 Pr w K mg base N qual (Qas st) f cdv A outer s H E).nox) (pm++lm) P R (QbO st) b) :
  QcV Pr w K mg base CX0 (k+1) f fd ps (vSp K mg pm R (Qby N.length b)):=by
 refine Fn.ok S (fun vs H Q E h=>?_) (fun cdv A outer s H vs Q E hr h=>?_)
 ·obtain ⟨ds,O,F,as,d,O',r,a,_⟩:=h;rw [a.len.1,hpl]
 ·obtain ⟨ds,O,F,as,d,O',r,a,e,q⟩:=h;refine ⟨_,body cdv A outer s H E hr (Pt.all H),?_⟩;refine ⟨_,O,F,as,r,QiJ a hl hp,?_⟩;unfold Qby at e
  cases eb:b (ds.map some++List.replicate (N.length - ds.length) none) O with
  | rt d' O2 =>
   rw [eb] at e;cases e
   exact fun v H' F' as' g r' hv=>q v H' F' as' g.gr r' (hR _ _ _ _ _ _ _ (fun c hc=>Classical.not_not.mp hc) hv)
  | nx ρ O2 =>
   rw [eb] at e;cases e
   exact fun σ' H' F' as' g r' _=>q _ H' F' as' g.gr r' (hR0 _ _ _ _)
  | bk _ _=>rw [eb] at e; cases e
  | ct _ _=>rw [eb] at e; cases e
  | ex _ _=>rw [eb] at e; cases e
  | no=>rw [eb] at e; cases e
def QiO (K:Frag) (mg:Str→Option Value) (c m qual:Str) (st:Stmt):Prop:=∃C f fd,mg c=some (.ref C)∧Cls K C∧Qlo K C m f∧Fun K m qual st f fd
def QfN (P:Program) (w:World) (K:Frag) (mg:Str→Option Value) (base:Heap) (c m:Str) (ps:List Str) (k:Nat) (sp:Sp):Prop :=
 ∃C f fd,mg c=some (.ref C)∧Cls K C∧Qlo K C m f∧Binds K fd ps []∧QcV P w K mg base CX0 k f fd ps sp
def QpW (P:Program) (w:World) (K:Frag) (mg:Str→Option Value) (base:Heap) (c:Str) (ps:List Str) (k:Nat) (sp:Sp):Prop :=
 ∃C f fd,mg c=some (.ref C)∧Mk K C f∧Binds K fd ps []∧QcV P w K mg base CX0 k f fd ps sp
def Qqi (K:Frag) (mg:Str→Option Value) (c qual:Str) (st:Stmt):Prop:=∃C f fd,mg c=some (.ref C)∧Mk K C f∧Fun K "__init__" qual st f fd
theorem Qjh {c x qual:Str}{st:Stmt}{N ps:List Str}{k:Nat} (Df:QiO K mg c x qual st) (S:QaR N ps (Qas st))
  (hb:∀(kV doc pm:Value) (an:Option Addr) (cdv ct:Value) (us:List Value),us.length=ps.length→bindArgs (PySem.W.fnOf x qual (QcH st) (QbO st) (Qas st) .none kV doc pm an cdv ct) ⟨us,[]⟩=pure (ps.zip us))
  (pm lm:List Md) {R:RR}{b:MS} (hR:QeK R) (hR0:∀N H F as,R N H F as .non .non) (hpl:pm.length=ps.length:=by rfl) (hl:(pm++lm).length=N.length:=by rfl) (hp:∀m∈pm,m≠.o:=by decide)
  (body:∀(f:Addr) (cdv:Value) (A:Around) (outer:List Env) (s:Shared) (H:Hp) (E:XK),Qa6 k (A.deeper (envOfC qual (Qas st) s.heap.objs.size f cdv))→∀P,VSs ((Qge CX0 Pr w K mg base N qual (Qas st) f cdv A outer s H E).nox) (pm++lm) P R (QbO st) b) :
  QfN Pr w K mg base c x ps (k+1) (vSp K mg pm R (Qby N.length b)):=by
 obtain ⟨C,f,fd,h1,h2,h3,h4⟩:=Df;exact ⟨C,f,fd,h1,h2,h3,h4.binds hb,Qug h4 S pm lm hR hR0 hpl hl hp (body f)⟩
theorem Qvs {c qual:Str}{st:Stmt}{N ps:List Str}{k:Nat} (Df:Qqi K mg c qual st) (S:QaR N ps (Qas st))
  (hb:∀(kV doc pm:Value) (an:Option Addr) (cdv ct:Value) (us:List Value),us.length=ps.length→bindArgs (PySem.W.fnOf "__init__" qual (QcH st) (QbO st) (Qas st) .none kV doc pm an cdv ct) ⟨us,[]⟩=pure (ps.zip us))
  (pm lm:List Md) {R:RR}{b:MS} (hR:QeK R) (hR0:∀N H F as,R N H F as .non .non) (hpl:pm.length=ps.length:=by rfl) (hl:(pm++lm).length=N.length:=by rfl) (hp:∀m∈pm,m≠.o:=by decide)
  (body:∀(f:Addr) (cdv:Value) (A:Around) (outer:List Env) (s:Shared) (H:Hp) (E:XK),Qa6 k (A.deeper (envOfC qual (Qas st) s.heap.objs.size f cdv))→∀P,VSs ((Qge CX0 Pr w K mg base N qual (Qas st) f cdv A outer s H E).nox) (pm++lm) P R (QbO st) b) :
  QpW Pr w K mg base c ps (k+1) (vSp K mg pm R (Qby N.length b)):=by
 obtain ⟨C,f,fd,h1,h2,h4⟩:=Df;exact ⟨C,f,fd,h1,h2,h4.binds hb,Qug h4 S pm lm hR hR0 hpl hl hp (body f)⟩
end
section
variable {X:Cx}{md:List Md}{P:Pt}{R:RR}{k:Nat}{c m:Str}{ps:List Str}{p pos apos:Pos}{o e:Expr}{es:List Expr}{pm:List Md}{cf:List D→Qac→Res D}{mo:M D}{ma:M (List D)}
def QbE (c m:Str) (cf:List D→Qac→Res D) (mo:M D) (ma:M (List D)):M D:=fun ρ O=>(mo ρ O).bind fun d O1=>match d with
 | .ob n=>match O1[n]? with
  | some (.ins c' fs)=>if c'=c∧(fs.lookup m).isNone=true then (ma ρ O1).bind fun ds O2=>cf (.ob n::ds) O2 else .no
  | _=>.no
 | _=>.no
theorem QmV {K:Frag}{mg:Str→Option Value}{C:Addr} (hR:QeK R) (hC:mg c=some (.ref C)) {E:XK}{σ:St}{H:Hp}{Q:VK} (q:tM K mg md P R (QbE c m cf mo ma) σ H Q) :
  Qnq C m (vSp K mg (.v::pm) R cf) [] E (tM K mg md P (rV K) mo) (tMA K mg md P pm ma) σ H Q:=by
 obtain ⟨ρ,O,F,as,d,O',r,s,e,k⟩:=q;obtain ⟨x,O1,e1,e⟩:=Res.bind_ok e
 cases x with
 | ob n =>
  dsimp only at e;split at e
  ·rename_i c' fs eo;split at e
   ·rename_i hc;obtain ⟨ds,O2,e2,e⟩:=Res.bind_ok e;refine ⟨ρ,O,F,as,.ob n,O1,r,s,e1,fun v H1 F1 as1 g1 r1 hv=>?_⟩;obtain ⟨a,rfl,ha⟩:=Rp.unO hv;obtain ⟨C',dx,gs,h1,h2,h3⟩:=r1.ob n a _ ha eo;rw [hc.1,hC] at h1; cases h1;refine ⟨a,dx,gs,rfl,h2,h3.no (Option.isNone_iff_eq_none.mp hc.2),?_⟩;refine ⟨ρ,O1,F1,as1,ds,O2,r1,s.step g1,e2,fun vs H2 F2 as2 g2 r2 hvs=>?_⟩;dsimp only;rw [zO];exact ⟨.ob n::ds,O2,F2,as2,d,O',r2,⟨Rp.gr hv g2,hvs⟩,e,fun v' H' F' as' g' r' hw=>k v' H' F' as' ((g1.trans g2).trans g') r' (hR _ _ _ _ _ _ _ (fun b hb=>(g1.trans g2).dm b hb) hw)⟩
   ·cases e
  ·cases e
 | _=>cases e
theorem QmK {pl:Sem Bool} (hR:QeK R) (M:QfN X.prog X.w X.K X.mg X.base c m ps k (vSp X.K X.mg (.v::pm) R cf)) (hr:Qa6 k X.A) (ho:VE X md P o mo) (ha:AE X md P pm (e::es) ma)
  (hst:starEach (e::es) X.env=(false,eval e X.env)::starEach es X.env:=by exact Qbn rfl) (hpl:(backTo pos (starEach es X.env)).any (·.1)=false:=by exact QbF rfl)
  (ht:eval (.Call (.Attribute o m apos) (e::es) [] pos) X.env=(do
   let ov ←eval o X.env
   standAt apos.atName
   let (f,first) ←holding [ov] (getMethod ov m pl)
   callWith pos f first (backTo pos (starEach (e::es) X.env)) (backToKw pos (keywordEach [] X.env))):=by rfl) :
  PE X (.Call (.Attribute o m apos) (e::es) [] pos) (tM X.K X.mg md P R (QbE c m cf mo ma)):=by
 obtain ⟨C,f,fd,h1,h2,h3,h4,h5⟩:=M
 exact (Qsu (pl:=pl) (E:=E0) (ds:=[]) (dvs:=[]) ho h2 h3 h5 hr h4 .nil QkP ha hst hpl ht).imp fun _ _ _ q=>QmV hR h1 q
theorem Qqt {pl:Sem Bool} (hR:QeK R) (M:QfN X.prog X.w X.K X.mg X.base c m ps k (vSp X.K X.mg [.v] R cf)) (hr:Qa6 k X.A) (ho:VE X md P o mo)
  (ht:eval (.Call (.Attribute o m apos) [] [] pos) X.env=(do
   let ov ←eval o X.env
   standAt apos.atName
   let (f,first) ←holding [ov] (getMethod ov m pl)
   callWith pos f first (backTo pos (starEach [] X.env)) (backToKw pos (keywordEach [] X.env))):=by rfl) :
  PE X (.Call (.Attribute o m apos) [] [] pos) (tM X.K X.mg md P R (QbE c m cf mo Qae)):=by
 obtain ⟨C,f,fd,h1,h2,h3,h4,h5⟩:=M
 refine (QpQ (pl:=pl) (E:=E0) (ds:=[]) (dvs:=[]) ho h2 h3 h5 hr h4 .nil QkP ht).imp fun σ H Q q=>?_
 obtain ⟨ρ,O,F,as,d,O',r,s,e,k⟩:=QmV (pm:=[]) (E:=E0) hR h1 q;refine ⟨ρ,O,F,as,d,O',r,s,e,fun v H' F' as' g r' hv=>?_⟩;obtain ⟨a,dx,fs,e1,e2,e3,t⟩:=k v H' F' as' g r' hv;refine ⟨a,dx,fs,e1,e2,e3,?_⟩;obtain ⟨ρ1,O1,F1,as1,ds1,O2,r1,s1,e4,k4⟩:=t;cases e4;exact k4 [] H' F1 as1 Gr.refl r1 trivial
def Qha (c:Str) (cf:List D→Qac→Res D) (ma:M (List D)):M D:=fun ρ O=>(ma ρ O).bind fun ds O1=>match cf (.ob O1.length::ds) (O1 ++ [.ins c []]) with
 | .ok .non O2=>.ok (.ob O1.length) O2
 | .ok _ _=>.no
 | .ex x O2=>.ex x O2
 | .no=>.no
theorem QsI {K:Frag}{mg:Str→Option Value}{C:Addr} (hC:mg c=some (.ref C)) {E:XK}{σ:St}{H:Hp}{Q:VK} (q:tM K mg md P (rV K) (Qha c cf ma) σ H Q) :
  Qq4 C (vSp K mg (.v::pm) (rV K) cf) [] E (tMA K mg md P pm ma) σ H Q:=by
 obtain ⟨ρ,O,F,as,d,O',r,s,e,k⟩:=q;obtain ⟨ds,O1,e1,e⟩:=Res.bind_ok e;split at e
 ·rename_i O2 ec;cases e;refine ⟨ρ,O,F,as,ds,O1,r,s,e1,fun vs H1 F1 as1 g1 r1 hvs=>?_⟩;intro x dx hx hdx hne;rw [zO]
  have hx2:upd H1 dx (.own x) x=none:=by rw [Qap hne.symm]; exact hx
  have gA:Gr H1 F1 as1 (upd H1 dx (.own x)) F1 as1:=Gr.lay hdx;have gB:Gr (upd H1 dx (.own x)) F1 as1 (upd (upd H1 dx (.own x)) x (.ins C dx [])) F1 as1:=Gr.lay hx2;have gC:Gr (upd (upd H1 dx (.own x)) x (.ins C dx [])) F1 as1 (upd (upd H1 dx (.own x)) x (.ins C dx [])) F1 as1:=Gr.refl;have gAB:=gA.trans gB;have g2:Gr H1 F1 as1 (upd (upd H1 dx (.own x)) x (.ins C dx [])) F1 (as1 ++ [x]):=⟨gAB.fz,gAB.ff,⟨[x],rfl,fun a ha=>by rw [zo.mp ha]; exact hx⟩,fun a o e ha hd=>gAB.fr a o e ha hd,gAB.dm,gAB.kz⟩
  have nx:x∉as1:=fun z=>r1.all z hx
  have rB:=(r1.lay (o:=.own x) hdx).lay (o:=.ins C dx []) hx2
  have at_:∀(n:Nat) (a:Addr),as1[n]? = some a→(as1 ++ [x])[n]? = some a:=fun n a h=>by
   rw [zr (ze.mp h).1]; exact h
  have r2:RlO K mg (O1 ++ [.ins c []]) (upd (upd H1 dx (.own x)) x (.ins C dx [])) F1 (as1 ++ [x]):=by
   refine ⟨rB.fh,rB.fd,?_,by simp [r1.len],fun a ha=>?_,fun n a o ha ho=>?_⟩
   ·rw [zZ];refine ⟨r1.nd,by simp,fun a ha b hb=>?_⟩;rw [zo.mp hb];intro z;subst z;exact nx ha
   ·rcases zz.mp ha with z | z
    ·exact r1.fa a z
    ·rw [zo.mp z];exact r1.frF hx
   ·by_cases hn:n < O1.length
    ·rw [zr (by rw [r1.len]; exact hn)] at ha;rw [zr hn] at ho;exact (rB.ob n a o ha ho).keep rfl (Same.refl _) at_
    ·have hn':n=O1.length:=by
      have:=(ze.mp ho).1
      simp at this
      omega
     subst hn';rw [zE (zb _),Nat.sub_self] at ho;rw [←r1.len,zE (zb _),Nat.sub_self] at ha;cases ho;cases ha;exact ⟨C,dx,[],hC,QaF,⟨rfl,Rps.nil⟩⟩
  have hox:Rp K F1 (as1 ++ [x]) (.ref x) (.ob O1.length):=Rp.mkO (by rw [←r1.len,zE (zb _),Nat.sub_self]; rfl);refine ⟨.ob O1.length::ds,_,F1,as1 ++ [x],.non,_,r2,⟨hox,hvs.gr g2⟩,ec,fun v H3 F3 as3 g3 r3 hv=>?_⟩;exact ⟨Rp.unN hv,k _ H3 F3 as3 ((g1.trans g2).trans g3) r3 (Rp.gr hox g3)⟩
 ·cases e
 ·cases e
 ·cases e
theorem Qsz (M:QpW X.prog X.w X.K X.mg X.base c ps k (vSp X.K X.mg (.v::pm) (rV X.K) cf)) (hr:Qa6 (k+1) X.A) (ha:AE X md P pm (e::es) ma) (hg:Gl X c:=by rfl) (hdb:(c == ("__debug__":Str))=false:=by decide)
  (he:starEach (e::es) X.env=(false,eval e X.env)::starEach es X.env:=by exact Qbn rfl) (hpl:(backTo pos (starEach es X.env)).any (·.1)=false:=by exact QbF rfl):VE X md P (.Call (.Name c p) (e::es) [] pos) (Qha c cf ma):=by
 obtain ⟨C,f,fd,h1,h3,h4,h5⟩:=M
 exact (Qr3 (E:=E0) (ds:=[]) (dvs:=[]) h3 h5 hr hg h1 h4 .nil QkP ha hdb he hpl).imp fun _ _ _ q=>QsI h1 q
end
section
variable {X:Cx}{md:List Md}{P:Pt}{R:RR}
def Qig:D→Option (List D)
 | .lst ds=>some ds
 | .tup ds=>some ds
 | .str l=>if ascii l=true then some (QdG l) else none
 | _=>none
def Qba (m:M D):M (List D):=fun ρ O=>(m ρ O).bind fun d O1=>match Qig d with
 | some ds=>.ok ds O1
 | none=>.no
theorem Qng {e:Expr}{m:M D} (h:WE X md P e m):SE X md P e m:=h.imp fun σ H Q q=>by
 obtain ⟨ρ,O,F,as,d,O',r,s,e,k⟩:=q;refine ⟨ρ,O,F,as,d,O',r,s,e,fun v H' F' as' g r' hv=>k v H' F' as' g r' ?_⟩
 rcases hv with hv | ⟨a,xs,ds,e1,e2,e3,e4,e5,e6⟩
 ·exact .inl hv
 ·exact .inr ⟨a,xs,ds,e1,e2,e3,e4,e6⟩
theorem QfW {tg e:Expr}{m:M D} (h:WE X md P e m):VI X md P tg e (Qba m):=fun pins s σ H Q I q=>by
 obtain ⟨ρ,O,F,as,ds,O',r,sl,e,k⟩:=q;obtain ⟨d,O1,e1,e⟩:=Res.bind_ok e
 cases d with
 | lst es =>
  cases e;exact QrA h pins s σ H Q I ⟨ρ,O,F,as,_,_,r,sl,by unfold QkJ; rw [e1]; rfl,k⟩
 | tup es =>
  cases e;exact QoB (Qco (Qng h)) pins s σ H Q I ⟨ρ,O,F,as,_,_,r,sl,by unfold Qns mG; rw [e1]; rfl,k⟩
 | str l =>
  simp only [Qig] at e;split at e
  ·rename_i es hes;split at hes
   ·rename_i hl;cases hes;cases e;refine QoG (Qng h) pins s σ H Q I ⟨ρ,O,F,as,QdG l,_,r,sl,?_,k⟩;unfold Qm1;rw [e1];show (if ascii l=true then _ else _)=_;rw [if_pos hl]
   ·cases hes
  ·cases e
 | _=>cases e
theorem QpE {tg e:Expr}{m:M D} (h:SE X md P e m):VIc X md P tg e (QkJ m):=(Qmw h).imp fun σ H Q q=>by
 obtain ⟨ρ,O,F,as,ds,O',r,s,e,k⟩:=q;obtain ⟨d,O1,e1,e⟩:=Res.bind_ok e
 cases d with
 | lst es =>
  cases e;refine ⟨ρ,_,F,as,_,_,r,s,e1,fun v H1 F1 as1 g1 r1 hv=>?_⟩
  obtain ⟨a,xs,rfl,h1,h2⟩:∃a xs,v = .ref a∧Rps X.K F1 as1 xs ds∧∀(H2 F2:Hp) (as2:List Addr),Gr H1 F1 as1 H2 F2 as2→(∃O,RlO X.K X.mg O H2 F2 as2)→RdK X.K H2 a xs:=by
   rcases hv with hv | ⟨a,xs,ds',rfl,e,e3,e4,e6⟩
   ·obtain ⟨a,xs,rfl,h1,h2⟩:=hv.unL;exact ⟨a,xs,rfl,h2,fun H2 F2 as2 g ⟨O,r⟩=>(h1.mono g.ff).mono r.fh⟩
   ·cases e;exact ⟨a,xs,rfl,e6,fun H2 F2 as2 g _=>.inl (.inl (g.fr _ _ e3 e4 rfl))⟩
  refine ⟨a,rfl,⟨xs,(h2 H1 F1 as1 Gr.refl ⟨_,r1⟩).sq⟩,k _ H1 F1 as1 g1 r1 ⟨fun i d H2 F2 as2 g r e=>?_,fun H2 F2 as2 g r=>⟨xs,(h2 H2 F2 as2 g r).sq,by rw [h1.length]; exact zb _⟩⟩⟩;obtain ⟨x,h3,h4⟩:=h1.get' e;have q:=h2 H2 F2 as2 g r;refine ⟨⟨xs,x,q.sq,h3⟩,fun y H3 hy=>?_⟩;obtain ⟨rfl,hy⟩:=hy
  have:=hy xs q.sq
  rw [h3] at this;cases this;exact ⟨F2,Gr.refl,fun _ r=>r,h4.gr g⟩
 | _=>cases e
theorem Qet {tg e:Expr}{m:M D} (h:SE X md P e m):VIc X md P tg e (Qba m):=fun pins s σ H Q I q=>by
 obtain ⟨ρ,O,F,as,ds,O',r,sl,e,k⟩:=q;obtain ⟨d,O1,e1,e⟩:=Res.bind_ok e
 cases d with
 | lst es =>
  cases e;exact QpE h pins s σ H Q I ⟨ρ,O,F,as,_,_,r,sl,by unfold QkJ; rw [e1]; rfl,k⟩
 | tup es =>
  cases e;exact Qlb (QoB (Qco h)) pins s σ H Q I ⟨ρ,O,F,as,_,_,r,sl,by unfold Qns mG; rw [e1]; rfl,k⟩
 | str l =>
  simp only [Qig] at e;split at e
  ·rename_i es hes;split at hes
   ·rename_i hl;cases hes;cases e;refine Qlb (QoG h) pins s σ H Q I ⟨ρ,O,F,as,QdG l,_,r,sl,?_,k⟩;unfold Qm1;rw [e1];show (if ascii l=true then _ else _)=_;rw [if_pos hl]
   ·cases hes
  ·cases e
 | _=>cases e
def QnS (m:M D):M (List D):=fun ρ O=>(m ρ O).bind fun d O1=>match d with
 | .lst ds=>.ok (QcG 0 ds) O1
 | .str l=>if ascii l=true then .ok (QcG 0 (QdG l)) O1 else .no
 | _=>.no
variable {elts:List Expr}{x1:Nat}{tpos:Pos}
theorem QrO {a:Expr}{p pos:Pos}{m:M D} (hm:X.mg "enumerate" = none) (h:WE X md P a m) (hg:Gl X "enumerate":=by rfl) (hs:starEach [a] X.env = [(false,eval a X.env)]:=by exact Qfz rfl) (hs':starEach [a] X.env=(false,eval a X.env)::starEach [] X.env:=by exact Qbn rfl) :
  VI X md P (.Tuple elts x1 tpos) (.Call (.Name "enumerate" p) [a] [] pos) (QnS m):=fun pins s σ H Q I q=>by
 obtain ⟨ρ,O,F,as,ds,O',r,sl,e,k⟩:=q;obtain ⟨d,O1,e1,e⟩:=Res.bind_ok e
 cases d with
 | lst es =>
  cases e;exact Qp3 hm h hg hs hs' pins s σ H Q I ⟨ρ,O,F,as,_,_,r,sl,by unfold QgF; rw [e1]; rfl,k⟩
 | str l=>exact QqG hm (Qng h) hg hs hs' pins s σ H Q I ⟨ρ,O,F,as,ds,O',r,sl,by unfold Qpq; rw [e1]; exact e,k⟩
 | _=>cases e
def QgA (sl:List Nat) (ρ:Qah) (σ:St):List (Nat×V×D):=sl.filterMap fun j=>match ρ[j]?,σ[j]? with
 | some (some d),some (some v)=>some (j,v,d)
 | _,_=>none
theorem Qoz {sl:List Nat}{ρ:Qah}{σ:St}{x:Nat×V×D} (h:x∈QgA sl ρ σ):x.1∈sl∧ρ[x.1]? = some (some x.2.2)∧σ[x.1]? = some (some x.2.1):=by
 obtain ⟨j,hj,e⟩:=List.mem_filterMap.mp h;split at e
 ·rename_i d v e1 e2;cases e;exact ⟨hj,e1,e2⟩
 ·cases e
theorem QnG {sl:List Nat}{ρ:Qah}{σ:St}{j:Nat}{v:V}{d:D} (h:j∈sl) (e1:ρ[j]? = some (some d)) (e2:σ[j]? = some (some v)):(j,v,d)∈QgA sl ρ σ :=
 List.mem_filterMap.mpr ⟨j,h,by simp only [e1,e2]⟩
def Pt.with (P:Pt) (a:Addr) (i:Nat) (d:D) (l:List (Nat×V×D)):Pt:=⟨fun c=>P c∨c=a,(i,.ref a,d)::(l++P.ss)⟩
theorem SlO.protect {K:Frag}{ρ:Qah}{σ:St}{H F:Hp}{as:List Addr}{i:Nat}{a:Addr}{xs:List V}{ds:List D}{sl:List Nat} (s:SlO K md P ρ σ H F as) (hm:md[i]? = some .o) (hsl:∀j∈sl,md[j]? = some .s) (hρ:ρ[i]? = some (some (.lst ds))) (hσ:σ[i]? = some (some (.ref a))) (hH:H a=some (.lst xs)) (ha:a∉as) (hr:Rps K F as xs ds) :
  SlO K (md.set i .s) (P.with a i (.lst ds) (QgA sl ρ σ)) ρ σ H F as:=by
 have hi:i < md.length:=(ze.mp hm).1
 have ns:∀j:Nat,md[j]? = some Md.s→i≠j:=fun j p1 z=>by rw [←z,hm] at p1; cases p1
 refine ⟨by rw [zN]; exact s.len,by rw [zN]; exact s.len',fun c p=>?_,fun j m d e1 e2=>?_,fun j k c es fs h1 h2 h3 h4 h5 h6=>?_,fun x hx=>?_⟩
 ·rcases p with p | p
  ·exact s.pd c p
  ·rw [p,hH]; exact fun z=>nomatch z
 ·by_cases h:i=j
  ·subst h;rw [zK hi] at e1;cases e1;rw [hρ] at e2;cases e2;exact ⟨_,hσ,.inr ⟨a,xs,ds,rfl,rfl,hH,ha,.inr rfl,hr⟩⟩
  ·rw [zj h] at e1;obtain ⟨v,q1,q2⟩:=s.sl j m d e1 e2;refine ⟨v,q1,?_⟩
   cases m with
   | v=>exact q2
   | s =>
    rcases q2 with q2 | ⟨c,ys,es,z1,z2,z3,z4,z5,z6⟩
    ·exact .inl q2
    ·exact .inr ⟨c,ys,es,z1,z2,z3,z4,.inl z5,z6⟩
   | o =>
    rcases q2 with q2 | ⟨c,ys,es,z1,z2,z3,z0,z4,z5,z6⟩
    ·exact .inl q2
    ·refine .inr ⟨c,ys,es,z1,z2,z3,z0,z4,?_,z6⟩;rintro (z | z)
     ·exact z5 z
     ·subst z z1 z2;exact h (s.inj i j c ds es hm e1 hρ e2 hσ q1)
 ·have ni:∀k,(md.set i .s)[k]? = some Md.o→i≠k∧md[k]? = some Md.o:=fun k q=>by
   by_cases h:i=k
   ·subst h; rw [zK hi] at q; cases q
   ·rw [zj h] at q; exact ⟨h,q⟩
  exact s.inj j k c es fs (ni j h1).2 (ni k h2).2 h3 h4 h5 h6
 ·rcases zn.mp hx with rfl | hx
  ·exact ⟨zK hi,hρ,hσ⟩
  ·rcases zz.mp hx with hx | hx
   ·obtain ⟨q1,q2,q3⟩:=Qoz hx;have p1:=hsl _ q1;exact ⟨by rw [zj (ns _ p1)]; exact p1,q2,q3⟩
   ·obtain ⟨p1,p2,p3⟩:=s.pin x hx;exact ⟨by rw [zj (ns _ p1)]; exact p1,p2,p3⟩
theorem SlO.unprotect {K:Frag}{ρ ρ0:Qah}{σ σ0:St}{H F H0 F0:Hp}{as as0:List Addr}{i:Nat}{a:Addr}{xs:List V}{ds:List D}{sl:List Nat} (s0:SlO K md P ρ0 σ0 H0 F0 as0) (g:GrS P H0 F0 as0 H F as)
  (s:SlO K (md.set i .s) (P.with a i (.lst ds) (QgA sl ρ0 σ0)) ρ σ H F as) (hm:md[i]? = some .o) (hsl:∀j:Nat,md[j]? = some .s→j∈sl∧∃d,ρ0[j]? = some (some d)) (hP:¬P a) (hH:H a=some (.lst xs)) (hF:F a=none) (ha:a∉as) (hr:Rps K F as xs ds) :
  SlO K md P ρ σ H F as:=by
 have hi:i < md.length:=(ze.mp hm).1;obtain ⟨_,pρ,pσ⟩:=s.pin (i,.ref a,.lst ds) zq
 have hpd:∀c,P c→H c≠none:=fun c p=>s.pd c (.inl p)
 have sl1:∀(j:Nat) (m:Md) (d:D),i≠j→md[j]? = some m→ρ[j]? = some (some d)→∃v,σ[j]? = some (some v)∧Qee P K H F as m v d:=fun j m d h e1 e2=>by
  obtain ⟨v,q1,q2⟩:=s.sl j m d (by rw [zj h]; exact e1) e2;refine ⟨v,q1,?_⟩
  cases m with
  | v=>exact q2
  | s =>
   obtain ⟨m1,d0,m2⟩:=hsl j e1;obtain ⟨v0,w1,w2⟩:=s0.sl j .s d0 e1 m2;obtain ⟨_,p2,p3⟩:=s.pin (j,v0,d0) (zu _ (ja _ (QnG m1 m2 w1)));dsimp only at p2 p3;rw [e2] at p2; cases p2;rw [q1] at p3; cases p3
   rcases w2 with w2 | ⟨c,ys,es,z1,z2,z3,z4,z5,z6⟩
   ·exact .inl (w2.grS g)
   ·exact .inr ⟨c,ys,es,z1,z2,g.fr _ _ z5 z3 z4 rfl,g.out z4 (by rw [z3]; exact fun z=>nomatch z),z5,z6.grS g⟩
  | o =>
   rcases q2 with q2 | ⟨c,ys,es,z1,z2,z3,z0,z4,z5,z6⟩
   ·exact .inl q2
   ·exact .inr ⟨c,ys,es,z1,z2,z3,z0,z4,fun z=>z5 (.inl z),z6⟩
 have ow:∀(j:Nat) (c:Addr) (es:List D),i≠j→md[j]? = some .o→ρ[j]? = some (some (.lst es))→σ[j]? = some (some (.ref c))→c≠a:=fun j c es h e1 e2 e3 z=>by
  obtain ⟨v,q1,q2⟩:=s.sl j .o _ (by rw [zj h]; exact e1) e2;rw [e3] at q1; cases q1
  rcases q2 with ⟨q2,_⟩ | ⟨c',ys,es',z1,z2,z3,z0,z4,z5,z6⟩
  ·cases q2
  ·cases z1;exact z5 (.inr z)
 refine ⟨by rw [←zN (i:=i) (a:=Md.s)]; exact s.len,by rw [←zN (i:=i) (a:=Md.s)]; exact s.len',hpd,fun j m d e1 e2=>?_,fun j k c es fs h1 h2 h3 h4 h5 h6=>?_,fun x hx=>?_⟩
 ·by_cases h:i=j
  ·subst h;rw [hm] at e1; cases e1;rw [pρ] at e2; cases e2;exact ⟨_,pσ,.inr ⟨a,xs,ds,rfl,rfl,hH,hF,ha,hP,hr⟩⟩
  ·exact sl1 j m d h e1 e2
 ·by_cases hj:i=j
  ·by_cases hk:i=k
   ·rw [←hj,←hk]
   ·subst hj;rw [pσ] at h5; cases h5;exact absurd rfl (ow k _ fs hk h2 h4 h6)
  ·by_cases hk:i=k
   ·subst hk;rw [pσ] at h6; cases h6;exact absurd rfl (ow j _ es hj h1 h3 h5)
   ·exact s.inj j k c es fs (by rw [zj hj]; exact h1) (by rw [zj hk]; exact h2) h3 h4 h5 h6
 ·obtain ⟨p1,p2,p3⟩:=s.pin x (zu _ (zI _ hx));obtain ⟨w1,_,_⟩:=s0.pin x hx;exact ⟨w1,p2,p3⟩
def Qis (i:Nat) (sl:List Nat) (ms:MS):MS:=fun ρ O=>match ρ[i]? with
 | some (some (.lst _))=>if sl.all (fun j=>match ρ[j]? with | some (some _)=>true | _=>false)=true then ms ρ O else .no
 | _=>.no
theorem Qtz (i:Nat) (sl:List Nat) {md':List Md}{st:Stmt}{ms:MS} (hR:QeK R) (h:∀P,VS X md' P R st ms) (hm:md[i]? = some .o:=by rfl) (hmd:md.set i .s=md':=by rfl)
  (hsl:((List.range md.length).all fun j=>(md[j]? == some .s) == sl.contains j)=true:=by rfl) (hsl2:(sl.all fun j=>decide (j < md.length))=true:=by rfl):VS X md P R st (Qis i sl ms):=fun pins s σ H D I q=>by
 subst hmd;obtain ⟨ρ,O,F,as,r,s,k⟩:=q
 have hs1:∀j:Nat,md[j]? = some .s↔j∈sl:=fun j=>by
  rw [jm] at hsl hsl2;constructor
  ·intro e
   have:=hsl j (List.mem_range.mpr (ze.mp e).1)
   rw [e] at this;simpa using this
  ·intro e;have lt:=jg (hsl2 j e)
   have:=hsl j (List.mem_range.mpr lt)
   have e':sl.contains j=true:=by simpa using e
   rw [e'] at this;simpa using this
 unfold Qis at k;split at k
 ·rename_i ds eρ;split at k
  ·rename_i hset;obtain ⟨a,xs,h1,h2,h3,h4,h5,h6⟩:=s.own hm eρ;have sp:=s.protect (sl:=sl) hm (fun j hj=>(hs1 j).mpr hj) eρ h1 h2 h4 h6
   have hset':∀j:Nat,md[j]? = some .s→j∈sl∧∃d,ρ[j]? = some (some d):=fun j e=>by
    have hj:=(hs1 j).mp e;refine ⟨hj,?_⟩
    have:=jm.mp hset j hj
    split at this
    ·rename_i d ed; exact ⟨d,ed⟩
    ·cases this
   have hn:H a≠none:=by rw [h2]; exact fun z=>nomatch z
   have back:∀{ρ' σ' H' F' as'},GrS (P.with a i (.lst ds) (QgA sl ρ σ)) H F as H' F' as'→SlO X.K (md.set i .s) (P.with a i (.lst ds) (QgA sl ρ σ)) ρ' σ' H' F' as'→GrS P H F as H' F' as'∧SlO X.K md P ρ' σ' H' F' as':=fun {ρ' σ' H' F' as'} g s'=>by
    have g':GrS P H F as H' F' as':=g.mono fun c p=>.inl p
    exact ⟨g',SlO.unprotect s g' s' hm hset' h5 (g.fr _ _ (.inr rfl) h2 h4 rfl) (by rw [g.fz a _ (.inr rfl) h2 h4 rfl]; exact h3) (g.out h4 hn) (h6.grS g)⟩
   refine h _ pins _ σ H D I ⟨ρ,O,F,as,r,sp,?_⟩
   cases em:ms ρ O with
   | nx ρ' O'=>rw [em] at k; exact fun σ' H' F' as' g r' s'=>k σ' H' F' as' (back g s').1 r' (back g s').2
   | bk ρ' O'=>rw [em] at k; exact fun σ' H' F' as' g r' s'=>k σ' H' F' as' (back g s').1 r' (back g s').2
   | ct ρ' O'=>rw [em] at k; exact fun σ' H' F' as' g r' s'=>k σ' H' F' as' (back g s').1 r' (back g s').2
   | rt d O'=>rw [em] at k; exact fun v H' F' as' g r' hv=>k v H' F' as' (g.mono fun c p=>.inl p) r' (hR _ _ _ _ _ _ _ (fun c hc p=>hc (.inl p)) hv)
   | ex x O'=>rw [em] at k; exact k
   | no=>rw [em] at k; exact k
  ·exact False.elim k
 ·exact False.elim k
end
theorem QoT {P:Program}{w:World}{K:PySem.W.Frag}{mg mb:Str→Option Value}{CX:CXT}{k:Nat}{fa a:Addr}{fd:FuncData}{x:Str}{sp:Sp}{s₁:Shared}{vs:List Value}{ns:List Int}
  (KX:K.In s₁.heap) (hns:s₁.heap.Ns mainGlobals mg) (hb:s₁.heap.Ns builtinsNs mb) (hbb:∀x:Str,x≠"__name__"→mb x=bootBuiltins x) (hlim:s₁.heap.NoLimit) (hg:s₁.gens = #[])
  (ha:s₁.heap.get? a=some { cls:=.type "list",data:=.seq vs.toArray }) (hi:IntsAre vs ns) (hl:ns.length≤sizeLine) (hr:Qa6 k callerA)
  (F:∀base:Heap,K.In base→base.Ns mainGlobals mg→QcV P w K mg base CX k fa fd [x] sp) (hbind:∀(s:Shared) (u:Value),BindsTo s fd ⟨[u],[]⟩ [(x,u)])
  (hsp:∀H:Hp,QiY H→RdK K H a (ns.map V.int)→sp [.ref a] H (fun v _=>v = .bl true) fun _ _ _=>False)
  (hCX:∀H e s',CX [] H s₁ (fun _ _ _=>False) e s'→False) :
  codeAny (model P w) callerA (.call (.ref fa) ⟨[.ref a],[]⟩) (fun r s'=>r = .ok (.ret (.bool true))∧OldK s₁.heap s'.heap∧s'.os=s₁.os∧AllBare s'.gens) s₁:=by
 have rv:=QhN hi;have lenV:=hi.length;have core:∀H:Hp,QiY H→RdK K H a (ns.map V.int)→HOk P w H s₁.heap→(∀b,H b≠none→b=a)→(H a≠none→K.lookup a=none) →
   codeAny (model P w) callerA (.call (.ref fa) ⟨[.ref a],[]⟩) (fun r s'=>r = .ok (.ret (.bool true))∧OldK s₁.heap s'.heap∧s'.os=s₁.os∧AllBare s'.gens) s₁:=by
  intro H hO hS hok hA hK
  have base_of:∀{b:Addr}{o:Obj},s₁.heap.get? b=some o→H b=none→(QeB s₁.heap H).get? b=some o:=fun e n=>Ql1 e n
  have noA:∀{b:Addr}{o:Obj}{es:Array DictEntry}{ep:Nat},s₁.heap.get? b=some o→o.data = .dict es ep→H b=none:=fun {b o es ep} e d=>by
   cases q:H b with
   | none=>rfl
   | some u =>
    have e':b=a:=hA b (by rw [q]; simp);subst e';rw [ha] at e; cases e;have d':Data.seq vs.toArray _=Data.dict es ep:=d;cases d'
  have nsK:∀{b:Addr}{m:Str→Option Value},s₁.heap.Ns b m→(QeB s₁.heap H).Ns b m:=fun {b m} ⟨o,es,ep,e,d,r⟩=>⟨o,es,ep,base_of e (noA e d),d,r⟩
  have hKb:K.In (QeB s₁.heap H):=fun b o e=>base_of (KX b o e) (by
   cases q:H b with
   | none=>rfl
   | some u =>
    have e':b=a:=hA b (by rw [q]; simp);subst e'
    rw [hK (by rw [q]; simp)] at e; cases e)
  have hM:Mod K mg (QeB s₁.heap H):=⟨hKb,nsK hns,⟨mb,nsK hb,hbb⟩,let ⟨mc,h1,h2⟩:=hlim; ⟨mc,nsK h1,h2⟩⟩;have e0:QhP P w K mg (QeB s₁.heap H) callerA [] s₁ H:=⟨rfl,hM,fun b o e=>Qmi e,Nat.le_of_eq (Qkp _ _),trivial,fun b hb=>absurd (show b∈([]:List Addr) from hb) (by simp),hok,.of_eq hg⟩
  refine codeAny_mono ((F _ hKb (nsK hns)).run callerA [] s₁ H ⟨[.ref a],[]⟩ [.ref a] [.ref a] _ _ hr e0 (hbind s₁ (.ref a)) (.cons rfl .nil) (hsp H hO hS)) fun r s' h=>?_
  cases r with
  | error e=>exact (hCX H e s' h).elim
  | ok fl =>
   cases fl with
   | next=>exact False.elim h
   | brk=>exact False.elim h
   | cont=>exact False.elim h
   | ret u =>
    obtain ⟨v,H',os,bare,un,hok',r',q⟩:=h;have q':v = .bl true:=q;subst q';obtain rfl:u=Value.bool true:=r';refine ⟨rfl,OldK.of_keep fun b o e=>?_,os,bare⟩
    cases q:H b with
    | none=>exact un.keep b o e q (by intro z; exact absurd (show b∈([]:List Addr) from z) (by simp)) (by simp)
    | some u =>
     rcases hO b with z | ⟨ob,xs,z⟩
     ·rw [q] at z; cases z
     ·have z2:=un.frzs b ob _ z;obtain ⟨e1,_⟩:=hok b _ z;obtain ⟨e2,_⟩:=hok' b _ z2;rw [e] at e1; cases e1;exact e2
 cases hk:K.lookup a with
 | some o =>
  have e:=KX a o hk;rw [ha] at e;cases e
  refine core (fun _=>none) (fun _=>.inl rfl) (.inr ⟨vs,_,hk,by rw [lenV]; exact hl,rv⟩) (fun b u z=>by have z':(none:Option HO)=some u:=z; cases z') (fun b z=>absurd rfl z) fun z=>absurd rfl z
 | none =>
  refine core (fun b=>if b=a then some (.frz { cls:=.type "list",data:=.seq vs.toArray } (.lst (ns.map V.int))) else none) (fun b=>?_) (.inl (.inr ⟨{ cls:=.type "list",data:=.seq vs.toArray },if_pos rfl⟩)) (fun b u z=>?_) (fun b z=>?_) fun _=>hk
  ·by_cases hb:b=a
   ·exact .inr ⟨_,_,if_pos hb⟩
   ·exact .inl (if_neg hb)
  ·by_cases hb:b=a
   ·have z':=(if_pos hb).symm.trans z;cases z';subst hb;exact ⟨ha,by rw [zd]; exact hl,vs,_,rv,ha⟩
   ·have z':=(if_neg hb).symm.trans z;cases z'
  ·by_cases hb:b=a
   ·exact hb
   ·exact absurd (if_neg hb) z
theorem walk_ofR {l:PySem.W.OpenLaw}{n k:Nat}{q:Program}{loose:List Str}{XP:(Str→Option Value)→Heap→Prop}{YP:World→Heap→Prop}{d:DefRec}{K:Params→PySem.W.Frag}{CX:World→CXT}{sp:World→Sp}{x:Str}
  (hn:l.most=some n) (hn2:n≤sizeLine) (hdf:d.params.defaults = []) (hr:Qa6 k callerA)
  (hY:∀(w:World) (h:Heap),YP w h→(K w.params).In h)
  (F:∀(w:World) (mg:Str→Option Value) (fa:Addr) (h:Heap),(K w.params).In h→h.Ns mainGlobals mg→mg d.name=some (.ref fa) →
   ∃fd:FuncData,(∀(s:Shared) (u:Value),BindsTo s fd ⟨[u],[]⟩ [(x,u)]) ∧
    ∀base:Heap,(K w.params).In base→base.Ns mainGlobals mg→QcV l.prog w (K w.params) mg base (CX w) k fa fd [x] (sp w))
  (hsp:∀(w:World) (H:Hp) (a:Addr) (ns:List Int),ns.length≤n→QiY H→RdK (K w.params) H a (ns.map V.int)→sp w [.ref a] H (fun v _=>v = .bl true) fun _ _ _=>False)
  (hCX:∀(w:World) (H:Hp) (s:Shared) (e:Value) (s':Shared),CX w [] H s (fun _ _ _=>False) e s'→False) :
  PySem.W.WalkO q loose XP YP l.row.toRowW d [] (fun f vs=>PySem.call f vs):=by
 refine Att.attach_call hn hdf fun w s₀ s₁ mg mb fa o pm cd doc a vs ns G Y ho hd hcd hmg hobj hints hlen hg=>?_
 have KX:=hY w _ Y;obtain ⟨fd,hb,hF⟩:=F w mg fa _ KX G.T.g hmg
 exact QoT KX G.T.g G.T.b G.T.builtins G.T.nolimit hg hobj hints (zD hlen hn2) hr hF hb (fun H hO hS=>hsp w H a ns hlen hO hS) fun H e s'=>hCX w H s₁ e s'
theorem QeL {K:Frag}{mg:Str→Option Value}{f:Str}:∀c∈([]:List Str),KC K mg c f:=fun _ h=>nomatch h
theorem Qd1 {K:Frag}{mg:Str→Option Value}{f c:Str}{cs:List Str} (h:KC K mg c f) (hr:∀c∈cs,KC K mg c f):∀c'∈c::cs,KC K mg c' f:=fun c' hc=>by
 rcases zn.mp hc with rfl | hc
 ·exact h
 ·exact hr c' hc
def sp_law (K:Frag):Sp:=fun vs H Q _=>∃(a:Addr) (ns:List Int),vs = [.ref a]∧RdK K H a (ns.map V.int)∧ns.length≤63∧QiY H∧∀H',Q (.bl true) H'
theorem Rps.ofInts {K:Frag}{F:Hp}{as:List Addr}:∀ns:List Int,Rps K F as (ns.map V.int) (ns.map D.int)
 | []=>Rps.nil
 | n::ns=>Rps.cons Rp.int (Rps.ofInts ns)
theorem QrM {K:Frag}{mg:Str→Option Value}{c:List D→Qac→Res D} (h:∀ns:List Int,ns.length≤63→∃O',c [.lst (ns.map D.int)] [] = .ok (.bl true) O'):∀vs H Q E,sp_law K vs H Q E→vSp K mg [.s] (rV K) c vs H Q E:=by
 rintro vs H Q E ⟨a,ns,rfl,hS,hl,hO,q⟩;obtain ⟨O',e⟩:=h ns hl
 have r:RlO K mg [] H H []:=⟨Same.refl H,fun b o e=>by
  rcases hO b with z | ⟨o',xs,z⟩
  ·rw [e] at z; cases z
  ·rw [e] at z; cases z; rfl,List.nodup_nil,rfl,(fun _ z=>nomatch z),fun n b o z=>by cases z⟩
 refine ⟨[.lst (ns.map D.int)],[],H,[],.bl true,O',r,⟨.inl (Rp.mkL hS (Rps.ofInts ns)),trivial⟩,e,fun v H' F' as' g r' hv=>?_⟩;rw [Rp.unB hv];exact q H'
def keyOf:D→Option Key
 | .int i=>some (.inl i)
 | .str l=>some (.inr (S l))
 | _=>none
section
variable {X:Cx}{md:List Md}{P:Pt}
def Prs (K:Frag) (F:Hp) (as:List Addr):List (V×V)→List (D×D)→Prop
 | [],[]=>True
 | p::ps,d::ds=>Rp K F as p.1 d.1∧Rp K F as p.2 d.2∧Prs K F as ps ds
 | _,_=>False
def DPE (X:Cx) (md:List Md) (P:Pt) (pos:Pos) (keys:List (Option Expr)) (values:List Expr) (m:M (List (D×D))):Prop:=∃trs:List (TE×TE),
 PPs X pos keys values trs∧∀σ H Q,(∃ρ O F as kv O',RlO X.K X.mg O H F as∧SlO X.K md P ρ σ H F as∧m ρ O = .ok kv O'∧∀ps H' F' as',Gr H F as H' F' as'→RlO X.K X.mg O' H' F' as'→Prs X.K F' as' ps kv→Q ps H')→QlT trs σ H Q
def QvM:M (List (D×D)):=fun _ O=>.ok [] O
def Quu (mk mv:M D) (r:M (List (D×D))):M (List (D×D)):=fun ρ O=>(mk ρ O).bind fun a O1=>(mv ρ O1).bind fun b O2=>(r ρ O2).bind fun ps O3=>.ok ((a,b)::ps) O3
def keysOf:List (D×D)→Option (List Key)
 | []=>some []
 | (a,_)::r=>(keyOf a).bind fun k=>(keysOf r).map (k :: ·)
def Qvy (m:M (List (D×D))):M D:=fun ρ O=>(m ρ O).bind fun kv O1=>match keysOf kv with
 | some ks=>if ks.Nodup∧kv.length≤15 then .ok (.dic (kv.map (·.1)) (kv.map (·.2))) O1 else .no
 | none=>.no
end
section
variable {X:Cx}{md:List Md}{P:Pt}{k:Nat}{c x m:Str}{ps:List Str}{p pos apos:Pos}{o e:Expr}{es:List Expr}{pm:List Md}{cf:List D→Qac→Res D}{mo:M D}{ma:M (List D)}
theorem Qa9 (C:Can X.prog X.w X.K X.mg X.base x ps k (vSp X.K X.mg pm (rV X.K) cf)) (hr:Qa6 k X.A) (ha:AE X md P pm (e::es) ma) (hg:Gl X x:=by rfl) (hdb:(x == ("__debug__":Str))=false:=by decide) (he:starEach (e::es) X.env=(false,eval e X.env)::starEach es X.env:=by exact Qbn rfl) (hpl:(backTo pos (starEach es X.env)).any (·.1)=false:=by exact QbF rfl) :
  VE X md P (.Call (.Name x p) (e::es) [] pos) (Qat cf ma):=QmW QbN C hr ha hg hdb he hpl
theorem Qb8 (C:Can X.prog X.w X.K X.mg X.base x ps k (vSp X.K X.mg pm (rO X.K) cf)) (hr:Qa6 k X.A) (ha:AE X md P pm (e::es) ma) (hg:Gl X x:=by rfl) (hdb:(x == ("__debug__":Str))=false:=by decide) (he:starEach (e::es) X.env=(false,eval e X.env)::starEach es X.env:=by exact Qbn rfl) (hpl:(backTo pos (starEach es X.env)).any (·.1)=false:=by exact QbF rfl) :
  OE X md P (.Call (.Name x p) (e::es) [] pos) (Qat cf ma):=QmW Qde C hr ha hg hdb he hpl
theorem QmJ {pl:Sem Bool} (M:QfN X.prog X.w X.K X.mg X.base c m ps k (vSp X.K X.mg (.v::pm) (rV X.K) cf)) (hr:Qa6 k X.A) (ho:VE X md P o mo) (ha:AE X md P pm (e::es) ma) (hst:starEach (e::es) X.env=(false,eval e X.env)::starEach es X.env:=by exact Qbn rfl) (hpl:(backTo pos (starEach es X.env)).any (·.1)=false:=by exact QbF rfl)
  (ht:eval (.Call (.Attribute o m apos) (e::es) [] pos) X.env=(do
   let ov ←eval o X.env
   standAt apos.atName
   let (f,first) ←holding [ov] (getMethod ov m pl)
   callWith pos f first (backTo pos (starEach (e::es) X.env)) (backToKw pos (keywordEach [] X.env))):=by rfl):VE X md P (.Call (.Attribute o m apos) (e::es) [] pos) (QbE c m cf mo ma):=QmK QbN M hr ho ha hst hpl ht
theorem Qj5 {pl:Sem Bool} (M:QfN X.prog X.w X.K X.mg X.base c m ps k (vSp X.K X.mg (.v::pm) (rO X.K) cf)) (hr:Qa6 k X.A) (ho:VE X md P o mo) (ha:AE X md P pm (e::es) ma) (hst:starEach (e::es) X.env=(false,eval e X.env)::starEach es X.env:=by exact Qbn rfl) (hpl:(backTo pos (starEach es X.env)).any (·.1)=false:=by exact QbF rfl)
  (ht:eval (.Call (.Attribute o m apos) (e::es) [] pos) X.env=(do
   let ov ←eval o X.env
   standAt apos.atName
   let (f,first) ←holding [ov] (getMethod ov m pl)
   callWith pos f first (backTo pos (starEach (e::es) X.env)) (backToKw pos (keywordEach [] X.env))):=by rfl):OE X md P (.Call (.Attribute o m apos) (e::es) [] pos) (QbE c m cf mo ma):=QmK Qde M hr ho ha hst hpl ht
theorem QlH {pl:Sem Bool} (M:QfN X.prog X.w X.K X.mg X.base c m ps k (vSp X.K X.mg [.v] (rV X.K) cf)) (hr:Qa6 k X.A) (ho:VE X md P o mo)
  (ht:eval (.Call (.Attribute o m apos) [] [] pos) X.env=(do
   let ov ←eval o X.env
   standAt apos.atName
   let (f,first) ←holding [ov] (getMethod ov m pl)
   callWith pos f first (backTo pos (starEach [] X.env)) (backToKw pos (keywordEach [] X.env))):=by rfl):VE X md P (.Call (.Attribute o m apos) [] [] pos) (QbE c m cf mo Qae):=Qqt QbN M hr ho ht
end
def Itz (K:Frag) (l1 l2:Addr):It:=⟨fun i H=>∃xs ys x y,SqL K H l1 xs∧SqL K H l2 ys∧xs[i]? = some x∧ys[i]? = some y,
 fun i H v H'=>∃T x y,v = .ref T∧H T=none∧H'=upd H T (.tup [x,y])∧(∀xs,SqL K H l1 xs→xs[i]? = some x)∧∀ys,SqL K H l2 ys→ys[i]? = some y,
 fun i H=>∃xs ys,SqL K H l1 xs∧SqL K H l2 ys∧(xs.length≤i∨ys.length≤i)⟩
theorem Qqk {P:Program}{w:World}{K:Frag}{elts:List Expr}{x1}{pos:Pos} (z TI TO i1 i2 l1 l2:Addr) (D:ZipApart z TI TO i1 i2 l1 l2):Turn P w K (.Tuple elts x1 pos) (Itz K l1 l2) [z,TI,TO,i1,i2] z
  (fun i h=>IsZip h z TI TO .none∧IsPair h TI (.ref i1) (.ref i2)∧(∃a b,IsPair h TO a b)∧h.IsListIter i1 l1 i∧h.IsListIter i2 l2 i) where
 mem:=by simp
 obj:=fun i h st b hb=>by
  obtain ⟨hz,hTI,⟨a,b',hTO⟩,⟨o1,ho1,hc1,hd1⟩,⟨o2,ho2,hc2,hd2⟩⟩:=st;simp only [zn,List.not_mem_nil,or_false] at hb
  rcases hb with rfl | rfl | rfl | rfl | rfl
  ·exact Qdh hz rfl
  ·exact ⟨_,hTI,fun v z=>nomatch z⟩
  ·exact ⟨_,hTO,fun v z=>nomatch z⟩
  ·exact Qdh ho1 hd1
  ·exact Qdh ho2 hd2
 keep:=fun i h h' st k=>by
  obtain ⟨hz,hTI,⟨a,b',hTO⟩,h1,h2⟩:=st;exact ⟨k z (by simp) _ hz,k TI (by simp) _ hTI,⟨a,b',k TO (by simp) _ hTO⟩,h1.at fun o e=>k i1 (by simp) o e,h2.at fun o e=>k i2 (by simp) o e⟩
 item:=by
  intro X hP hw hK hc i pins s σ H E I hf st hg;subst hP hw hK;obtain ⟨hz,hTI,⟨a,b',hTO⟩,h1,h2⟩:=st;obtain ⟨xs,ys,x,y,hq1,hq2,hx,hy⟩:=hg;obtain ⟨its1,rv1,pl1,hz1⟩:=I.list hq1;obtain ⟨its2,rv2,pl2,hz2⟩:=I.list hq2;obtain ⟨u1,hu1,ru1⟩:=rv1.get hx;obtain ⟨u2,hu2,ru2⟩:=rv2.get hy;have hT:H s.heap.objs.size=none:=I.hok.fresh (zb _);have elt:z < s.heap.objs.size:=zf hz
  refine wpAny_pyNext_zip_item D hz hTI hTO h1 h2 pl1.isList pl2.isList (x:=u1) (y:=u2) (by simpa using hu1) (by simpa using hu2) fun h' a1 a2 a3 a4 a5 a6 hk=>⟨_,rfl,?_⟩
  refine wpAny_letOwnedTupleGo_zip a1 fun h'' hz'' hs''=>⟨.ref s.heap.objs.size,_,?_,rfl,⟨s.heap.objs.size,x,y,rfl,hT,rfl,fun ys' hy'=>by rw [I.list_inj hy' hq1]; exact hx,fun ys' hy'=>by rw [I.list_inj hy' hq2]; exact hy⟩,⟨hz'',hs''.extBut _ _ D.TIz (hk _ _ D.TIz D.TITO D.TIi1 D.TIi2 hTI),⟨_,_,hs''.extBut _ _ D.TOz a2⟩,a3.extBut hs''.extBut D.i1z,a4.extBut hs''.extBut D.i2z⟩,fun b hb=>?_⟩
  ·show Inv X pins σ _ { s with heap:=h'',toks:=s.toks };refine I.turnT (ch:=[z,TI,TO,i1,i2]) (us:=[u1,u2]) hf (fun b o hb q=>?_) (zb _) ⟨_,hs''.extBut _ _ (Nat.ne_of_gt elt) a5,rfl,_,rfl⟩ (.cons ru1 (.cons ru2 .nil)) (by show 2≤sizeLine; decide)
   have n1:b≠z:=fun e=>hb (by simp [e])
   have n2:b≠TO:=fun e=>hb (by simp [e])
   have n3:b≠i1:=fun e=>hb (by simp [e])
   have n4:b≠i2:=fun e=>hb (by simp [e])
   exact hs''.extBut _ _ n1 (hk b o n1 n2 n3 n4 q)
  ·have q:=hf b hb;rw [Qap (fun e=>?_)]
   ·exact q.1
   ·obtain ⟨o,ho⟩:∃o,s.heap.get? b=some o:=by
     obtain ⟨o1,ho1,_⟩:=h1;obtain ⟨o2,ho2,_⟩:=h2;simp only [zn,List.not_mem_nil,or_false] at hb
     rcases hb with rfl | rfl | rfl | rfl | rfl
     ·exact ⟨_,hz⟩
     ·exact ⟨_,hTI⟩
     ·exact ⟨_,hTO⟩
     ·exact ⟨_,ho1⟩
     ·exact ⟨_,ho2⟩
    exact absurd (zf ho) (by rw [e]; exact zR _)
 done:=by
  intro X hP hw hK hc i pins s σ H E I hf st hg;subst hP hw hK;obtain ⟨hz,hTI,⟨a,b',hTO⟩,h1,h2⟩:=st;obtain ⟨xs,ys,hq1,hq2,hl⟩:=hg;obtain ⟨its1,rv1,pl1,hz1⟩:=I.list hq1;obtain ⟨its2,rv2,pl2,hz2⟩:=I.list hq2;have l1:=rv1.length;have l2:=rv2.length
  refine wpAny_pyNext_zip_end (I.ok.hd hc) D hz hTI hTO h1 h2 pl1.isList pl2.isList (by
   rcases hl with hl | hl
   ·left; simp; omega
   ·right; simp; omega) fun h' hx=>⟨rfl,?_⟩
  exact I.turnL (t':=s.toks) (ch:=[z,TI,TO,i1,i2]) hf fun b o hb q=>hx b o (fun e=>hb (by simp [e])) (fun e=>hb (by simp [e])) (fun e=>hb (by simp [e])) (fun e=>hb (by simp [e])) q
 self:=fun A i s Q E st h=>wpAny_pyIter_zip st.1 h
section
variable {X:Cx}{md:List Md}{P:Pt}{R:RR}{elts:List Expr}{x1:Nat}{tpos:Pos}
def Qwy (K:Frag) (ta:TA):TI:=fun σ H R=>ta σ H fun vs H1=>∃a b,vs = [.ref a,.ref b]∧(∃xs,SqL K H1 a xs)∧(∃ys,SqL K H1 b ys)∧R (Itz K a b) H1
theorem QtD {a b:Expr}{ta:TA}{p pos:Pos} (hg:Gl X "zip") (hm:X.mg "zip" = none) (ha:PA X [a,b] ta) (hs:starEach [a,b] X.env=(false,eval a X.env)::starEach [b] X.env:=by exact Qbn rfl) (hpl:(backTo pos (starEach [b] X.env)).any (·.1)=false:=by exact QbF rfl) :
  PI X (.Tuple elts x1 tpos) (.Call (.Name "zip" p) [a,b] [] pos) (Qwy X.K ta):=by
 intro pins s σ H R I h;refine Call_ (QdJ I hg hm boot_zip (PyProof.Rows.callWith_type1 (thn (ha pos pins s σ H _ I h) fun us s1 ⟨vs,H1,I1,r1,q1⟩=>?_) hs hpl));obtain ⟨l1,l2,e,⟨xs,hq1⟩,⟨ys,hq2⟩,q⟩:=q1;subst e;obtain ⟨u1,u2,rfl,ru1,ru2⟩:=vals2 r1;cases ru1;cases ru2;obtain ⟨its1,rv1,pl1,hz1⟩:=I1.list hq1;obtain ⟨its2,rv2,pl2,hz2⟩:=I1.list hq2
 have a1:l1 < s1.heap.objs.size:=by obtain ⟨_,e,_⟩:=pl1.isList; exact zf e
 have a2:l2 < s1.heap.objs.size:=by obtain ⟨_,e,_⟩:=pl2.isList; exact zf e
 refine call_zip_2 pl1.isList pl2.isList fun h' hz hTI hTO hit1 hit2 hsz hk=>wpAny_pyIter_zip hz ?_
 refine ⟨s1.heap.objs.size+4,[s1.heap.objs.size+4,s1.heap.objs.size+2,s1.heap.objs.size+3,s1.heap.objs.size,s1.heap.objs.size+1],_,_,H1,rfl,I1.kept (t':=s1.toks) hk,Qqk _ _ _ _ _ l1 l2 (zipApart_new a1 a2),⟨hz,hTI,⟨_,_,hTO⟩,hit1,hit2⟩,fun b hb=>?_,q⟩
 have hb':s1.heap.objs.size≤b:=by
  simp only [zn,List.not_mem_nil,or_false] at hb
  rcases hb with rfl | rfl | rfl | rfl | rfl
  ·exact zW _ _
  ·exact zW _ _
  ·exact zW _ _
  ·exact zb _
  ·exact zW _ _
 exact I1.fpOk hb' (I1.hok.fresh hb')
def Qcp:List D→List D→List D
 | d::ds,e::es=>.tup [d,e]::Qcp ds es
 | _,_=>[]
theorem Ql3:∀(ds es:List D) (i:Nat) (x:D),(Qcp ds es)[i]? = some x→∃d e,ds[i]? = some d∧es[i]? = some e∧x = .tup [d,e]
 | [],es,i,x,h=>by simp [Qcp] at h
 | d::ds,[],i,x,h=>by simp [Qcp] at h
 | d::ds,e::es,0,x,h=>by
  simp [Qcp] at h
  exact ⟨d,e,rfl,rfl,h.symm⟩
 | d::ds,e::es,i+1,x,h=>by
  obtain ⟨d',e',h1,h2,h3⟩:=Ql3 ds es i x (by simpa [Qcp] using h);exact ⟨d',e',by simpa using h1,by simpa using h2,h3⟩
theorem QlQ:∀(ds es:List D),ds.length≤(Qcp ds es).length∨es.length≤(Qcp ds es).length
 | [],es=>.inl (Nat.zero_le _)
 | d::ds,[]=>.inr (Nat.zero_le _)
 | d::ds,e::es=>by
  rcases QlQ ds es with h | h
  ·left; simp [Qcp]; exact h
  ·right; simp [Qcp]; exact h
def Qk8 (ma mb:M D):M (List D):=fun ρ O=>(ma ρ O).bind fun d O1=>(mb ρ O1).bind fun e O2=>match d,e with
 | .lst ds,.lst es=>.ok (Qcp ds es) O2
 | _,_=>.no
theorem Qs1 {a b:Expr}{p pos:Pos}{ma mb:M D} (hm:X.mg "zip" = none) (h:WE X md P a ma) (h':WE X md P b mb) (hg:Gl X "zip":=by rfl) (hs:starEach [a,b] X.env=(false,eval a X.env)::starEach [b] X.env:=by exact Qbn rfl) (hs':starEach [b] X.env=(false,eval b X.env)::starEach [] X.env:=by exact Qbn rfl) (hpl:(backTo pos (starEach [b] X.env)).any (·.1)=false:=by exact QbF rfl) :
  VI X md P (.Tuple elts x1 tpos) (.Call (.Name "zip" p) [a,b] [] pos) (Qk8 ma mb):=(QtD hg hm (Qcx h (Qcx h' QdV hs') hs) hs hpl).imp fun σ H Q q=>by
 obtain ⟨ρ,O,F,as,ds,O',r,s,e,k⟩:=q;obtain ⟨d1,O1,e1,e⟩:=Res.bind_ok e;obtain ⟨d2,O2,e2,e⟩:=Res.bind_ok e
 cases d1 with
 | lst ds1 =>
  cases d2 with
  | lst ds2 =>
   cases e;refine ⟨ρ,_,F,as,_,_,r,s,e1,fun v H1 F1 as1 g1 r1 hv=>?_⟩;refine ⟨ρ,_,F1,as1,_,_,r1,s.step g1,e2,fun u H2 F2 as2 g2 r2 hu=>?_⟩;obtain ⟨a,xs,rfl,h1,h2⟩:=Qjo (mg:=X.mg) hv;obtain ⟨b,ys,rfl,h3,h4⟩:=Qjo (mg:=X.mg) hu
   have h2':∀(H3 F3:Hp) (as3:List Addr),GrS P H2 F2 as2 H3 F3 as3→(∃O,RlO X.K X.mg O H3 F3 as3)→RdK X.K H3 a xs:=fun H3 F3 as3 g r=>h2 H3 F3 as3 (g2.toS.trans g) r
   have h1':=h1.gr g2;refine ⟨a,b,rfl,⟨xs,(h2' H2 F2 as2 GrS.refl ⟨_,r2⟩).sq⟩,⟨ys,(h4 H2 F2 as2 GrS.refl ⟨_,r2⟩).sq⟩,k _ H2 F2 as2 (g1.trans g2) r2 ⟨fun i d H3 F3 as3 g r e=>?_,fun H3 F3 as3 g r=>⟨xs,ys,(h2' H3 F3 as3 g r).sq,(h4 H3 F3 as3 g r).sq,?_⟩⟩⟩
   ·obtain ⟨x',y',q1,q2,rfl⟩:=Ql3 _ _ _ _ e;obtain ⟨x,hx,rx⟩:=h1'.get' q1;obtain ⟨y,hy,ry⟩:=h3.get' q2;have sx:=(h2' H3 F3 as3 g r).sq;have sy:=(h4 H3 F3 as3 g r).sq;refine ⟨⟨xs,ys,x,y,sx,sy,hx,hy⟩,fun z H4 hz=>?_⟩;obtain ⟨T,x2,y2,rfl,hT,rfl,hx2,hy2⟩:=hz;have t1:=hx2 xs sx;have t2:=hy2 ys sy;rw [hx] at t1;rw [hy] at t2;cases t1;cases t2;exact Qe0 r hT (Rps.cons (rx.grS g) (Rps.cons (ry.grS g) Rps.nil))
   ·rw [h1'.length,h3.length];exact QlQ ds1 ds2
  | _=>cases e
 | _=>cases e
def QiR (m:MS):MS:=fun ρ O=>match m ρ O with
 | .rt d O'=>.rt d O'
 | _=>.no
theorem SlO.toV {K:Frag}{ρ:Qah}{σ:St}{H F F':Hp}{as:List Addr}{i:Nat} (s:SlO K md P ρ σ H F as) (hm:md[i]? = some .o) (ff:Same F F')
  (hown:∀(j:Nat) (ds:List D) (a:Addr),j≠i→md[j]? = some .o→ρ[j]? = some (some (.lst ds))→σ[j]? = some (some (.ref a))→F' a=F a)
  (hv:∀d,ρ[i]? = some (some d)→∃v,σ[i]? = some (some v)∧Rp K F' as v d):SlO K (md.set i .v) P ρ σ H F' as:=by
 have hi:i < md.length:=(ze.mp hm).1
 have back:∀(j:Nat),(md.set i Md.v)[j]? = some Md.o→j≠i∧md[j]? = some .o:=fun j e=>by
  by_cases hj:j=i
  ·subst hj;rw [zK hi] at e;cases e
  ·rw [zj (Ne.symm hj)] at e;exact ⟨hj,e⟩
 refine ⟨by rw [zN]; exact s.len,by rw [zN]; exact s.len',s.pd,fun j m d e1 e2=>?_,fun j k a ds es h1 h2 h3 h4 h5 h6=>s.inj j k a ds es (back j h1).2 (back k h2).2 h3 h4 h5 h6,fun x hx=>?_⟩
 ·by_cases hj:j=i
  ·subst hj;rw [zK hi] at e1;cases e1;exact hv d e2
  ·rw [zj (Ne.symm hj)] at e1;obtain ⟨v,q,t⟩:=s.sl j m d e1 e2;refine ⟨v,q,?_⟩
   cases m with
   | v=>exact Rp.mono ff (fun _ _ z=>z) _ t
   | s =>
    rcases t with t | ⟨a,xs,ds,t1,t2,t3,t4,t5,t6⟩
    ·exact .inl (Rp.mono ff (fun _ _ z=>z) _ t)
    ·exact .inr ⟨a,xs,ds,t1,t2,t3,t4,t5,Rps.mono ff (fun _ _ z=>z) _ t6⟩
   | o =>
    rcases t with ⟨t0,t⟩ | ⟨a,xs,ds,rfl,rfl,t3,t0,t4,t5,t6⟩
    ·exact .inl ⟨t0,Rp.mono ff (fun _ _ z=>z) _ t⟩
    ·exact .inr ⟨a,xs,ds,rfl,rfl,t3,by rw [hown j ds a hj e1 e2 q]; exact t0,t4,t5,Rps.mono ff (fun _ _ z=>z) _ t6⟩
 ·obtain ⟨p1,p2,p3⟩:=s.pin x hx
  have hne:i≠x.1:=fun z=>by rw [←z,hm] at p1; cases p1
  exact ⟨by rw [zj hne]; exact p1,p2,p3⟩
theorem Qs5 {K:Frag}{mg:Str→Option Value}{i:Nat}{m:MS} (hm:md[i]? = some .o) {D:Ends}{σ:St}{H:Hp} (q:tMS K mg md P R (QiR m) D σ H):tMS K mg (md.set i .v) P R m D σ H:=by
 obtain ⟨ρ,O,F,as,r,s,k⟩:=q;unfold QiR at k
 cases e:m ρ O with
 | rt d O' =>
  rw [e] at k
  by_cases hl:∃ds,ρ[i]? = some (some (.lst ds))
  ·obtain ⟨ds,hρ⟩:=hl;obtain ⟨a,xs,h1,h2,h3,h4,h5,h6⟩:=s.own hm hρ
   have ff:Same F (upd F a (.lst xs)):=fun b u q=>by rw [Qap (QaD q h3)]; exact q
   have g0:GrS P H F as H (upd F a (.lst xs)) as:=⟨fun c _ p _ _ _=>Qap (fun z=>h5 (by rw [←z]; exact p)),ff,⟨[],by simp,fun _ h=>nomatch h⟩,fun _ _ _ h _ _=>h,fun _ h=>h,fun _ _ _ h=>h⟩;refine ⟨ρ,O,upd F a (.lst xs),as,r.frz h2 h3 h4 rfl,s.toV hm ff (fun j es b hj m1 m2 m3=>?_) (fun d' hd'=>?_),?_⟩
   ·refine Qap fun z=>hj ?_
    rw [z] at m3;exact s.inj j i a es ds m1 hm m2 hρ m3 h1
   ·rw [hρ] at hd';cases hd';exact ⟨_,h1,Rp.mkL (.inl (.inl QaF)) (Rps.mono ff (fun _ _ z=>z) _ h6)⟩
   ·rw [e]
    exact fun v H' F' as' g r' hv=>k v H' F' as' (g0.trans g) r' hv
  ·refine ⟨ρ,O,F,as,r,s.toV hm (Same.refl F) (fun _ _ _ _ _ _ _=>rfl) (fun d' hd'=>?_),by rw [e]; exact k⟩;obtain ⟨v,h1,h2⟩:=s.sl i .o d' hm hd'
   rcases h2 with ⟨_,h2⟩ | ⟨a,xs,ds,_,rfl,_⟩
   ·exact ⟨v,h1,h2⟩
   ·exact absurd ⟨ds,hd'⟩ hl
 | _=>rw [e] at k; exact False.elim k
theorem Qov (i:Nat) {st:Stmt}{m:MS} (hm:md[i]? = some .o) (h:VS X (md.set i .v) P R st m):VS X md P R st (QiR m):=h.imp fun _ _ _=>Qs5 hm
theorem Qo5 {st:List Stmt}:VSs X md P R st Qqc:=fun pins s σ H D I q=>by
 obtain ⟨ρ,O,F,as,r,s,k⟩:=q;exact False.elim k
end
section
variable {prog:Program}{w:World}{A:Around}{E:Value→Shared→Prop}
end
section
variable {X:Cx}{md:List Md}{P:Pt}{R:RR}
def mMl (m:M D):M D:=fun ρ O=>(m ρ O).bind fun d O1=>match d with
 | .lst ds=>.ok (.ob O1.length) (O1 ++ [.ml ds])
 | d=>.ok d O1
theorem Qj1 {as:List Addr}{a:Addr}:∀(n:Nat) (c:Addr),as[n]? = some c→(as ++ [a])[n]? = some c:=fun n c h=>by
 rw [zr (ze.mp h).1]; exact h
theorem RlO.snocMl {K:Frag}{mg:Str→Option Value}{O:Qac}{H F:Hp}{as:List Addr}{a:Addr}{xs:List V}{ds:List D} (r:RlO K mg O H F as) (hH:H a=some (.lst xs)) (hF:F a=none) (ha:a∉as) (hx:Rps K F as xs ds):RlO K mg (O ++ [.ml ds]) H F (as ++ [a]):=by
 refine ⟨r.fh,r.fd,zZ.mpr ⟨r.nd,by simp,fun c hc d hd=>by rw [zo.mp hd]; exact fun z=>ha (z ▸ hc)⟩,by rw [zg,zg,r.len]; rfl,fun c hc=>?_,fun n c o hc ho=>?_⟩
 ·rcases zz.mp hc with hc | hc
  ·exact r.fa c hc
  ·rw [zo.mp hc]; exact hF
 ·by_cases hn:n < as.length
  ·rw [zr hn] at hc;rw [zr (by rw [←r.len]; exact hn)] at ho;exact (r.ob n c o hc ho).keep rfl (Same.refl F) Qj1
  ·have hn':n=as.length:=by
    have:=(ze.mp hc).1
    rw [zg,zX] at this;omega
   subst hn';rw [zE (zb _),Nat.sub_self] at hc;rw [r.len,zE (zb _),Nat.sub_self] at ho;cases hc;cases ho;exact ⟨xs,hH,Rps.mono (Same.refl F) Qj1 _ hx⟩
theorem Qjp {e:Expr}{m:M D} (h:OE X md P e m):VE X md P e (mMl m):=h.imp fun σ H Q q=>by
 obtain ⟨ρ,O,F,as,d,O',r,s,e,k⟩:=q;obtain ⟨x,O1,e1,e⟩:=Res.bind_ok e;refine ⟨ρ,_,F,as,_,_,r,s,e1,fun v H1 F1 as1 g1 r1 hv=>?_⟩
 rcases hv with ⟨hn,hv⟩ | ⟨a,xs,ds,rfl,rfl,e3,e4,e5,e6,e7⟩
 ·cases x with
  | lst ds=>cases hn
  | _=>cases e; exact k v H1 F1 as1 g1 r1 hv
 ·cases e;obtain ⟨new,en,hnw⟩:=g1.nw;refine k (.ref a) H1 F1 (as1 ++ [a]) ⟨g1.fz,g1.ff,⟨new ++ [a],by rw [en,zP],fun c hc=>?_⟩,g1.fr,g1.dm,g1.kz⟩ (r1.snocMl e3 e4 e5 e7) (Rp.mkO ?_)
  ·rcases zz.mp hc with hc | hc
   ·exact hnw c hc
   ·rw [zo.mp hc]; exact e6
  ·rw [←r1.len,zE (zb _),Nat.sub_self];rfl
theorem QfD {H F:Hp}{as:List Addr}{a:Addr}{h:HO} (ha:a∈as) (hh:H a=some h) {o:HO} (hf:∀o u,h≠.frz o u:=by intro _ _ z; cases z):Gr H F as (upd H a o) F as :=
 ⟨fun _ _ _ _ _=>rfl,Same.refl F,⟨[],by simp,fun _ h=>nomatch h⟩,fun c u e hn _=>by rw [Qap (fun z=>hn (by rw [z]; exact ha))]; exact e,fun c e=>by
  by_cases h:c=a
  ·subst h; rw [QaF] at e; cases e
  ·rwa [Qap h] at e,fun c o' u e=>by rw [Qap (fun z=>by rw [z,hh] at e; cases e; exact hf _ _ rfl)]; exact e⟩
theorem RlO.mutO {K:Frag}{mg:Str→Option Value}{O:Qac}{H F:Hp}{as:List Addr}{n:Nat}{a:Addr}{xs:List V}{ds:List D} (r:RlO K mg O H F as) (hn:as[n]? = some a) (hx:Rps K F as xs ds):RlO K mg (O.set n (.ml ds)) (upd H a (.lst xs)) F as:=by
 have ha:=zx hn;refine ⟨fun c u e=>?_,r.fd,r.nd,by rw [zN]; exact r.len,r.fa,fun m c o hc ho=>?_⟩
 ·rw [Qap (fun z=>by rw [z,r.fa a ha] at e; cases e)]; exact r.fh c u e
 ·by_cases hm:m=n
  ·subst hm;rw [hn] at hc;cases hc
   have hlt:m < O.length:=by rw [←r.len]; exact (ze.mp hn).1
   rw [zK hlt] at ho;cases ho;exact ⟨xs,QaF,hx⟩
  ·rw [zj (Ne.symm hm)] at ho
   refine (r.ob m c o hc ho).keep (Qap fun z=>hm ?_) (Same.refl F) fun _ _ h=>h
   obtain ⟨q0,q1⟩:=ze.mp hc;obtain ⟨p0,p1⟩:=ze.mp hn;exact (List.getElem_inj r.nd).mp (q1.trans (z.trans p1.symm))
theorem RlO.ml {K:Frag}{mg:Str→Option Value}{O:Qac}{H F:Hp}{as:List Addr}{n:Nat}{a:Addr}{ds:List D} (r:RlO K mg O H F as) (hn:as[n]? = some a) (hO:O[n]? = some (.ml ds)):∃xs,H a=some (.lst xs)∧Rps K F as xs ds:=r.ob n a _ hn hO
def QfP (mo m:M D):MS:=fun ρ O=>match mo ρ O with
 | .ok (.ob n) O1=>match O1[n]? with
  | some (.ml _)=>match m ρ O1 with
   | .ok d O2=>match O2[n]? with
    | some (.ml ds)=>if ds.length < 1000000 then .nx ρ (O2.set n (.ml (ds ++ [d]))) else .no
    | _=>.no
   | _=>.no
  | _=>.no
 | _=>.no
theorem QrB {o e:Expr}{apos cpos pos:Pos}{mo m:M D} (ho:VE X md P o mo) (h:VE X md P e m)
  (hbase:attributeBase o "append" X.env (eval o X.env)=eval o X.env:=by rfl)
  (hfew:((backTo cpos (starEach [e] X.env)).all (fun x=>!x.1)&&(backToKw cpos (keywordEach [] X.env)).all (fun x=>x.1.isSome)&&decide ([e].length+([]:List Keyword).length+(if ([]:List Keyword).isEmpty then 0 else 1) < 30))=true:=by rfl)
  (hline:(apos.endLine == cpos.line)=true:=by rfl) (hs:starEach [e] X.env=(false,eval e X.env)::starEach [] X.env:=by exact Qbn rfl) (hplain:(backTo cpos (starEach [] X.env)).any (·.1)=false:=by exact QbF rfl)
  (hsw:swapsWith (.Call (.Attribute o "append" apos) [e] [] cpos) none pos.line X.env=pure false:=by rfl) :
  VS X md P R (.Expr (.Call (.Attribute o "append" apos) [e] [] cpos) pos) (QfP mo m) :=
 (QeV (QkR PySem.F.plainAttrs_list PySem.F.slot_list_append PySem.F.type_list_append Qks ho (Qcx h QdV hs) hbase hfew hline hs hplain) hsw).imp fun D σ H q=>by
  obtain ⟨ρ,O,F,as,r,s,k⟩:=q;unfold QfP at k;split at k
  ·rename_i n O1 e1;split at k
   ·rename_i ds0 e2;split at k
    ·rename_i d O2 e3;split at k
     ·rename_i ds e4;split at k
      ·rename_i hz;refine ⟨ρ,O,F,as,_,_,r,s,e1,fun v H1 F1 as1 g1 r1 hv=>?_⟩;obtain ⟨a,rfl,ha⟩:=Rp.unO hv;obtain ⟨xs0,x1,x2⟩:=r1.ml ha e2;refine ⟨.inl ⟨rfl,xs0,.inl (.inl x1)⟩,ρ,O1,F1,as1,d,O2,r1,s.step g1,e3,fun y H2 F2 as2 g2 r2 hy=>?_⟩;have ha2:=g2.at_ n a ha;obtain ⟨xs,y1,y2⟩:=r2.ml ha2 e4;have g3:Gr H2 F2 as2 (upd H2 a (.lst (xs ++ [y]))) F2 as2:=QfD (zx ha2) y1;exact ⟨a,xs,y,rfl,rfl,y1,by rw [y2.length]; exact zG hz (by decide),k σ _ F2 as2 ((g1.trans g2).trans g3).toS (r2.mutO ha2 (y2.snoc hy)) (s.step ((g1.trans g2).trans g3))⟩
      ·exact False.elim k
     ·exact False.elim k
    ·exact False.elim k
   ·exact False.elim k
  ·exact False.elim k
def QhU (mo:M D):MS:=fun ρ O=>match mo ρ O with
 | .ok (.ob n) O1=>match O1[n]? with
  | some (.ml _)=>.nx ρ (O1.set n (.ml []))
  | _=>.no
 | _=>.no
theorem QsD {o:Expr}{apos cpos pos:Pos}{mo:M D} (ho:VE X md P o mo)
  (hbase:attributeBase o "clear" X.env (eval o X.env)=eval o X.env:=by rfl) (hline:(apos.endLine == cpos.line)=true:=by rfl)
  (hsw:swapsWith (.Call (.Attribute o "clear" apos) [] [] cpos) none pos.line X.env=pure false:=by rfl) :
  VS X md P R (.Expr (.Call (.Attribute o "clear" apos) [] [] cpos) pos) (QhU mo) :=
 (QeV (QpB PySem.F.plainAttrs_list PySem.F.slot_list_clear PySem.F.type_list_clear QlS ho hbase hline) hsw).imp fun D σ H q=>by
  obtain ⟨ρ,O,F,as,r,s,k⟩:=q;unfold QhU at k;split at k
  ·rename_i n O1 e1;split at k
   ·rename_i ds0 e2;refine ⟨ρ,O,F,as,_,_,r,s,e1,fun v H1 F1 as1 g1 r1 hv=>?_⟩;obtain ⟨a,rfl,ha⟩:=Rp.unO hv;obtain ⟨xs,x1,x2⟩:=r1.ml ha e2;have g3:Gr H1 F1 as1 (upd H1 a (.lst [])) F1 as1:=QfD (zx ha) x1;exact ⟨.inl ⟨rfl,xs,.inl (.inl x1)⟩,a,xs,rfl,rfl,x1,k σ _ F1 as1 (g1.trans g3).toS (r1.mutO ha Rps.nil) (s.step (g1.trans g3))⟩
   ·exact False.elim k
  ·exact False.elim k
end
theorem Qb0 {α:Type}{p:List α→Prop} (h:p []):∀us:List α,us.length=0→p us:=fun us e=>by
 cases us with
 | nil=>exact h
 | cons a as=>cases e
theorem Qa1 {α:Type}{p:List α→Prop}{n:Nat} (h:∀a,∀us:List α,us.length=n→p (a::us)):∀us:List α,us.length=n+1→p us:=fun us e=>by
 cases us with
 | nil=>cases e
 | cons a as=>exact h a as (Nat.succ.inj e)
section
variable {prog:Program}{w:World}{κ:Type} [DecidableEq κ] {knd:HeapKind prog w κ}{A:Around}{E:Value→Shared→Prop}{s:Shared}
end
section
variable {X:Cx}{pins:List (Addr×Obj)}{σ:St}{H:Hp}{s:Shared}{a b:Addr}{v:V}{r:Value}{kvs:List (List Key×V)}{k:List Key}{A:Around}{E:Value→Shared→Prop}
end
def QkG:List D→Option (List Key)
 | []=>some []
 | .int i::ds=>(QkG ds).map (Sum.inl i :: ·)
 | _=>none
def QjY:D→Option (List Key)
 | .tup (d::ds)=>QkG (d::ds)
 | _=>none
theorem Rps.keys {K:Frag}{F:Hp}{as:List Addr}:∀{ds:List D}{xs:List V}{ks:List Key},Rps K F as xs ds→QkG ds=some ks→xs=ks.map kV∧∃is:List Int,ks=is.map Sum.inl
 | [],xs,ks,h,e=>by cases e; exact ⟨h.un0,[],rfl⟩
 | .int i::ds,xs,ks,h,e=>by
  obtain ⟨x,r,rfl,h1,h2⟩:=h.un;obtain ⟨ks',e1,rfl⟩:=Option.map_eq_some_iff.mp (show (QkG ds).map (Sum.inl i :: ·)=some ks from e);obtain ⟨q1,is,rfl⟩:=Rps.keys h2 e1;exact ⟨by rw [h1.unI,q1]; rfl,i::is,rfl⟩
 | .non::ds,xs,ks,h,e=>by cases e
 | .bl _::ds,xs,ks,h,e=>by cases e
 | .str _::ds,xs,ks,h,e=>by cases e
 | .lst _::ds,xs,ks,h,e=>by cases e
 | .tup _::ds,xs,ks,h,e=>by cases e
 | .dic _ _::ds,xs,ks,h,e=>by cases e
 | .ob _::ds,xs,ks,h,e=>by cases e
def Qlw:List Value→Bool
 | []=>true
 | .int _ _::r=>Qlw r
 | _=>false
def Qbu:Frag→Bool
 | []=>true
 | p::r=>(match p.2.data with
  | .seq its _=>its.toList.isEmpty || !Qlw its.toList
  | _=>true)&&Qbu r
theorem Qmx {a:Addr}{o:Obj}{its:Array Value}{n:Nat}:∀{K:Frag},Qbu K=true→List.lookup a K=some o→o.data = .seq its n→(its.toList.isEmpty || !Qlw its.toList)=true
 | [],_,h,_=>by cases h
 | p::r,hk,h,hd=>by
  unfold Qbu at hk;rw [zv] at hk;rw [List.lookup_cons] at h;split at h
  ·cases h
   have:=hk.1
   rw [hd] at this;exact this
  ·exact Qmx hk.2 h hd
theorem Qmk:∀{is:List Int}{us:List Value},QaG ((is.map (Sum.inl (β:=Str))).map kV) us→Qlw us=true
 | [],us,h=>by cases h; rfl
 | i::is,us,h=>by
  cases h with
  | @cons _ u _ us' r1 r2 =>
   obtain ⟨t,rfl⟩:∃t,u = .int i t:=r1;show Qlw us'=true;exact Qmk (is:=is) r2
theorem Rp.tkey {K:Frag}{F:Hp}{as:List Addr}{v:V}{d:D}{ks:List Key} (hk:Qbu K=true) (h:Rp K F as v d) (e:QjY d=some ks):∃b,v = .ref b∧F b=some (.tup (ks.map kV)):=by
 cases d with
 | tup ds =>
  cases ds with
  | nil=>cases e
  | cons d ds =>
   obtain ⟨b,xs,rfl,h1,h2⟩:=h.unT';obtain ⟨ex,is,rfl⟩:=h2.keys e
   rcases h1 with h1 | ⟨o,its,n,l1,_,l3,_,l5⟩
   ·exact ⟨b,rfl,by rw [h1,ex]⟩
   ·exfalso
    have q:=Qmx hk l1 l3;rw [ex] at l5;rw [Qmk l5,Bool.not_true,Bool.or_false,List.isEmpty_iff] at q;rw [q,←ex] at l5;obtain ⟨x,r,rfl,_,_⟩:=h2.un;cases l5
 | _=>cases e
def QcQ (kvs:List (List Key×D)) (k:List Key):Option D:=(kvs.find? fun p=>decide (p.1=k)).map (·.2)
def Qfj (kvs:List (List Key×D)) (k:List Key) (d:D):List (List Key×D) :=
 if (kvs.any fun p=>decide (p.1=k))=true then kvs.map (fun p=>if p.1=k then (p.1,d) else p) else kvs ++ [(k,d)]
def DtR (K:Frag) (F:Hp) (as:List Addr) (xs:List (List Key×V)) (kvs:List (List Key×D)):Prop:=xs.map (·.1)=kvs.map (·.1)∧Rps K F as (xs.map (·.2)) (kvs.map (·.2))
section
variable {K:Frag}{mg:Str→Option Value}{O:Qac}{H F H' F':Hp}{as as':List Addr}
theorem DtR.len {xs:List (List Key×V)}{kvs:List (List Key×D)} (h:DtR K F as xs kvs):xs.length=kvs.length:=by
 have:=congrArg List.length h.1
 simpa using this
theorem DtR.un {xs:List (List Key×V)}{p:List Key×D}{kvs:List (List Key×D)} (h:DtR K F as xs (p::kvs)):∃v r,xs=(p.1,v)::r∧Rp K F as v p.2∧DtR K F as r kvs:=by
 obtain ⟨h1,h2⟩:=h
 cases xs with
 | nil=>cases h1
 | cons x r =>
  obtain ⟨v,r',e,q1,q2⟩:=h2.un;cases e;rw [zl,zl] at h1;have q3:=(List.cons.inj h1).1;refine ⟨x.2,r,?_,q1,(List.cons.inj h1).2,q2⟩;rw [←q3]
theorem DtR.val {k:List Key}:∀{kvs:List (List Key×D)}{xs:List (List Key×V)},DtR K F as xs kvs→(QcQ kvs k=none∧QeZ xs k=none)∨∃d v,QcQ kvs k=some d∧QeZ xs k=some v∧Rp K F as v d
 | [],xs,h=>by
  have:=h.len
  cases xs with
  | nil=>exact .inl ⟨rfl,rfl⟩
  | cons=>cases this
 | p::kvs,xs,h=>by
  obtain ⟨v,r,rfl,h1,h2⟩:=h.un
  by_cases e:p.1=k
  ·exact .inr ⟨p.2,v,by simp [QcQ,List.find?_cons,e],Qg0 e,h1⟩
  ·rw [show QcQ (p::kvs) k=QcQ kvs k by simp [QcQ,List.find?_cons,e],Qg2 (p:=(p.1,v)) e];exact DtR.val h2
theorem DtR.any {k:List Key}:∀{kvs:List (List Key×D)}{xs:List (List Key×V)},DtR K F as xs kvs→(xs.any fun p=>decide (p.1=k))=kvs.any fun p=>decide (p.1=k)
 | [],xs,h=>by
  have:=h.len
  cases xs with
  | nil=>rfl
  | cons=>cases this
 | p::kvs,xs,h=>by
  obtain ⟨v,r,rfl,h1,h2⟩:=h.un;rw [List.any_cons,List.any_cons,DtR.any h2]
theorem DtR.repl {k:List Key}{v:V}{d:D} (hv:Rp K F as v d):∀{kvs:List (List Key×D)}{xs:List (List Key×V)},DtR K F as xs kvs →
  DtR K F as (xs.map fun p=>if p.1=k then (p.1,v) else p) (kvs.map fun p=>if p.1=k then (p.1,d) else p)
 | [],xs,h=>by
  have:=h.len
  cases xs with
  | nil=>exact ⟨rfl,Rps.nil⟩
  | cons=>cases this
 | p::kvs,xs,h=>by
  obtain ⟨u,r,rfl,h1,h2⟩:=h.un;obtain ⟨i1,i2⟩:=DtR.repl (k:=k) hv h2
  by_cases e:p.1=k
  ·rw [zl,zl,if_pos e,if_pos e];exact ⟨by rw [zl,zl,i1],Rps.cons hv i2⟩
  ·rw [zl,zl,if_neg e,if_neg e];exact ⟨by rw [zl,zl,i1],Rps.cons h1 i2⟩
theorem DtR.put {xs:List (List Key×V)}{kvs:List (List Key×D)} (h:DtR K F as xs kvs) (k:List Key) {v:V}{d:D} (hv:Rp K F as v d):DtR K F as (putK xs k v) (Qfj kvs k d):=by
 unfold putK Qfj;rw [h.any]
 split
 ·exact h.repl hv
 ·exact ⟨by rw [zM,zM,h.1]; rfl,by rw [zM,zM]; exact Rps.snoc h.2 hv⟩
theorem RlO.dt {n:Nat}{a:Addr}{kvs:List (List Key×D)} (r:RlO K mg O H F as) (hn:as[n]? = some a) (hO:O[n]? = some (.dt kvs)):∃xs,H a=some (.dT xs)∧DtR K F as xs kvs:=let ⟨xs,h1,h2,h3⟩:=r.ob n a _ hn hO; ⟨xs,h1,h2,h3⟩
theorem RlO.snocO {a:Addr}{o:Ob} (r:RlO K mg O H F as) (hF:F a=none) (ha:a∉as) (ho:ObR K mg H F (as ++ [a]) a o):RlO K mg (O ++ [o]) H F (as ++ [a]):=by
 refine ⟨r.fh,r.fd,zZ.mpr ⟨r.nd,by simp,fun c hc d hd=>by rw [zo.mp hd]; exact fun z=>ha (z ▸ hc)⟩,by rw [zg,zg,r.len]; rfl,fun c hc=>?_,fun n c u hc hu=>?_⟩
 ·rcases zz.mp hc with hc | hc
  ·exact r.fa c hc
  ·rw [zo.mp hc]; exact hF
 ·by_cases hn:n < as.length
  ·rw [zr hn] at hc;rw [zr (by rw [←r.len]; exact hn)] at hu;exact (r.ob n c u hc hu).keep rfl (Same.refl F) Qj1
  ·have hn':n=as.length:=by
    have:=(ze.mp hc).1
    rw [zg,zX] at this;omega
   subst hn';rw [zE (zb _),Nat.sub_self] at hc;rw [r.len,zE (zb _),Nat.sub_self] at hu;cases hc;cases hu;exact ho
theorem RlO.mutG {n:Nat}{a:Addr}{o:Ob}{h:HO} (r:RlO K mg O H F as) (hn:as[n]? = some a) (hx:ObR K mg (upd H a h) F as a o):RlO K mg (O.set n o) (upd H a h) F as:=by
 have ha:=zx hn;refine ⟨fun c u e=>?_,r.fd,r.nd,by rw [zN]; exact r.len,r.fa,fun m c u hc hu=>?_⟩
 ·rw [Qap (fun z=>by rw [z,r.fa a ha] at e; cases e)]; exact r.fh c u e
 ·by_cases hm:m=n
  ·subst hm;rw [hn] at hc;cases hc
   have hlt:m < O.length:=by rw [←r.len]; exact (ze.mp hn).1
   rw [zK hlt] at hu;cases hu;exact hx
  ·rw [zj (Ne.symm hm)] at hu
   refine (r.ob m c u hc hu).keep (Qap fun z=>hm ?_) (Same.refl F) fun _ _ h=>h
   obtain ⟨q0,q1⟩:=ze.mp hc;obtain ⟨p0,p1⟩:=ze.mp hn;exact (List.getElem_inj r.nd).mp (q1.trans (z.trans p1.symm))
theorem RlO.unF {p:Addr} (r:RlO K mg O H F as) (hp:H p=none):F p=none:=by
 cases e:F p with
 | none=>rfl
 | some o=>rw [r.fh p o e] at hp; cases hp
theorem Gr.snoc {p:Addr}{o:HO} (hp:H p=none):Gr H F as (upd H p o) F (as ++ [p]) :=
 ⟨fun _ _ _ _ _=>rfl,Same.refl F,⟨[p],rfl,fun a h=>by rw [zo.mp h]; exact hp⟩,fun a u e _ _=>by rw [Qap (QaD e hp)]; exact e,fun a e=>by
  by_cases h:a=p
  ·subst h; exact hp
  ·rwa [Qap h] at e,fun a o' u e=>by rw [Qap (QaD e hp)]; exact e⟩
end
section
variable {X:Cx}{md:List Md}{P:Pt}{R:RR}
def QfO:M D:=fun _ O=>.ok (.ob O.length) (O ++ [.dt []])
theorem QiN {pos:Pos}:VE X md P (.Dict [] [] pos) QfO:=Qp8.imp fun σ H Q q p hp=>by
 obtain ⟨ρ,O,F,as,d,O',r,s,e,k⟩:=q;cases e;refine k _ _ F (as ++ [p]) (Gr.snoc hp) ((r.lay hp).snocO (r.unF hp) (fun z=>r.all z hp) ⟨[],QaF,rfl,Rps.nil⟩) (Rp.mkO ?_);rw [←r.len,zE (zb _),Nat.sub_self];rfl
def Qcn (mo my mv:M D):MS:=fun ρ O=>match mv ρ O with
 | .ok d O1=>match mo ρ O1 with
  | .ok (.ob n) O2=>match my ρ O2 with
   | .ok y O3=>match QjY y,O3[n]? with
    | some k,some (.dt kvs)=>if kvs.length < 1000000 then .nx ρ (O3.set n (.dt (Qfj kvs k d))) else .no
    | _,_=>.no
   | _=>.no
  | _=>.no
 | _=>.no
theorem Qio {kk:Nat} (hk:Qbu X.K=true) (hr:Qa6 kk X.A) {o i value:Expr}{pos pos':Pos}{mo my mv:M D} (ho:VE X md P o mo) (hi:VE X md P i my) (hv:VE X md P value mv)
  (hs:swapsWith value (some (.Subscript o i pos')) pos.line X.env=pure false:=by rfl):VS X md P R (.Assign [.Subscript o i pos'] value pos) (Qcn mo my mv) :=
 (Qrv (QkO hr) ho hi hv hs).imp fun D σ H q=>by
  obtain ⟨ρ,O,F,as,r,s,k⟩:=q;unfold Qcn at k;split at k
  ·rename_i d O1 e1;split at k
   ·rename_i n O2 e2;split at k
    ·rename_i y O3 e3;split at k
     ·rename_i ks kvs e4 e5;split at k
      ·rename_i hz;refine ⟨ρ,O,F,as,_,_,r,s,e1,fun v H1 F1 as1 g1 r1 hv=>⟨ρ,O1,F1,as1,_,_,r1,s.step g1,e2,fun x H2 F2 as2 g2 r2 hx=>⟨ρ,O2,F2,as2,_,_,r2,s.step (g1.trans g2),e3,fun u H3 F3 as3 g3 r3 hu=>?_⟩⟩⟩;obtain ⟨a,rfl,ha⟩:=Rp.unO hx;have ha3:=g3.at_ n a ha;obtain ⟨xs,x1,x2⟩:=r3.dt ha3 e5;obtain ⟨b,rfl,hb⟩:=Rp.tkey hk hu e4;have hv3:=(show Rp X.K F1 as1 v d from hv).gr (g2.trans g3)
       have hl:xs.length < sizeLine:=by rw [x2.len]; exact zG hz (by decide)
       have g4:Gr H3 F3 as3 (upd H3 a (.dT (putK xs ks v))) F3 as3:=QfD (zx ha3) x1;have gg:=((g1.trans g2).trans g3).trans g4;obtain ⟨z1,z2⟩:=x2.put ks hv3;exact ⟨a,_,rfl,Qld.t x1 (r3.fh _ _ hb) hl,k σ _ F3 as3 gg.toS (r3.mutG ha3 ⟨_,QaF,z1,z2⟩) (s.step gg)⟩
      ·exact False.elim k
     ·exact False.elim k
    ·exact False.elim k
   ·exact False.elim k
  ·exact False.elim k
def Qj6 (neg:Bool) (my mo:M D):M D:=fun ρ O=>(my ρ O).bind fun y O1=>(mo ρ O1).bind fun x O2=>match x with
 | .ob n=>match QjY y,O2[n]? with
  | some k,some (.dt kvs)=>.ok (.bl (neg != (QcQ kvs k).isSome)) O2
  | _,_=>.no
 | _=>.no
end
section
variable {X:Cx}
end
section
variable {X:Cx}{md:List Md}{P:Pt}{R:RR}
def Qea (mo mi m:M D):MS:=fun ρ O=>match m ρ O with
 | .ok d O1=>match mo ρ O1 with
  | .ok (.ob n) O2=>match mi ρ O2 with
   | .ok (.int j) O3=>match O3[n]? with
    | some (.ml ds)=>match ixN ds.length j with
     | some q=>.nx ρ (O3.set n (.ml (ds.set q d)))
     | none=>.no
    | _=>.no
   | _=>.no
  | _=>.no
 | _=>.no
theorem Qmm {pos apos:Pos}{o ix e:Expr}{mo mi m:M D} (h:VE X md P e m) (ho:VE X md P o mo) (hi:VE X md P ix mi)
  (ha:∀v,assign (.Subscript o ix apos) X.env v=(do
   let ov ←holding [v] (eval o X.env)
   let iv ←holding [v,ov] (eval ix X.env)
   standAt apos
   holding [v,ov,iv] (setItem ov iv v)
   release [v,ov,iv] []):=by intro _; rfl)
  (hs:swapsWithSole [.Subscript o ix apos] e pos.line X.env=pure false:=by rfl) (hw:swappedStores [.Subscript o ix apos] e X.env=pure none:=by rfl)
  (h1:(assignEach [.Subscript o ix apos] X.env).map (·.2) = [assign (.Subscript o ix apos) X.env]:=by rfl) :
  VS X md P R (.Assign [.Subscript o ix apos] e pos) (Qea mo mi m) :=
 (Qpl h (Qt4 ho hi set_list ha) hs hw h1).imp fun D σ H q=>by
  obtain ⟨ρ,O,F,as,r,s,k⟩:=q;unfold Qea at k;split at k
  ·rename_i d O1 e1;split at k
   ·rename_i n O2 e2;split at k
    ·rename_i j O3 e3;split at k
     ·rename_i ds e4;split at k
      ·rename_i q e5;refine ⟨ρ,O,F,as,d,O1,r,s,e1,fun y H1 F1 as1 g1 r1 hy=>⟨ρ,O1,F1,as1,_,O2,r1,s.step g1,e2,fun x H2 F2 as2 g2 r2 hx=>⟨ρ,O2,F2,as2,_,O3,r2,s.step (g1.trans g2),e3,fun z H3 F3 as3 g3 r3 hz=>?_⟩⟩⟩;obtain ⟨a,rfl,ha⟩:=Rp.unO hx;have ha3:=g3.at_ n a ha;obtain ⟨xs,y1,y2⟩:=r3.ml ha3 e4;have hy3:=(show Rp X.K F1 as1 y d from hy).gr (g2.trans g3);have g4:Gr H3 F3 as3 (upd H3 a (.lst (xs.set q y))) F3 as3:=QfD (zx ha3) y1;have gg:=((g1.trans g2).trans g3).trans g4;exact ⟨a,xs,j,q,rfl,Rp.unI hz,y1,by rw [y2.length]; exact e5,k σ _ F3 as3 gg.toS (r3.mutO ha3 (y2.set q hy3)) (s.step gg)⟩
      ·exact False.elim k
     ·exact False.elim k
    ·exact False.elim k
   ·exact False.elim k
  ·exact False.elim k
end
def Qbj (O:Qac):Nat→D→D
 | 0,d=>d
 | n+1,.ob i=>match O[i]? with
  | some (.ml ds)=>.lst (ds.map (Qbj O n))
  | _=>.ob i
 | n+1,.lst ds=>.lst (ds.map (Qbj O n))
 | n+1,.tup ds=>.tup (ds.map (Qbj O n))
 | _+1,d=>d
section
variable {K:Frag}{mg:Str→Option Value}{O:Qac}{H F:Hp}{as:List Addr}
theorem Qf7 {n:Nat} (ih:∀(d:D) (v:V),Rp K F as v d→QbD (Qbj O n d)=true→Rep K H v (toP (Qbj O n d))):∀(ds:List D) (xs:List V),Rps K F as xs ds→QdZ (ds.map (Qbj O n))=true→QbR K H xs (Qf1 (ds.map (Qbj O n)))
 | [],xs,h,_=>by rw [h.un0]; exact QbR.nil
 | d::ds,xs,h,hp=>by
  obtain ⟨x,r,rfl,h1,h2⟩:=h.un;rw [zl,QdZ,zv] at hp;rw [zl,Qf1];exact QbR.cons (ih d x h1 hp.1) (Qf7 ih ds r h2 hp.2)
theorem QfI (r:RlO K mg O H F as):∀(n:Nat) (d:D) (v:V),Rp K F as v d→QbD (Qbj O n d)=true→Rep K H v (toP (Qbj O n d))
 | 0,d,v,h,hp=>Lk.rep (Or.inl h) r.fh hp
 | n+1,.ob i,v,h,hp=>by
  unfold Qbj at hp ⊢;split at hp
  ·rename_i ds e;obtain ⟨a,rfl,ha⟩:=h.unO;obtain ⟨xs,h1,h2⟩:=r.ml ha e;rw [QbD] at hp;rw [toP,Rep];exact ⟨a,xs,rfl,.inl (.inl h1),Qf7 (QfI r n) ds xs h2 hp⟩
  ·cases hp
 | n+1,.lst ds,v,h,hp=>by
  unfold Qbj at hp ⊢;obtain ⟨a,xs,rfl,h1,h2⟩:=h.unL;rw [QbD] at hp;rw [toP,Rep];exact ⟨a,xs,rfl,(h1.mono r.fh).sq,Qf7 (QfI r n) ds xs h2 hp⟩
 | n+1,.tup ds,v,h,hp=>by
  unfold Qbj at hp ⊢;obtain ⟨a,xs,rfl,h1,h2⟩:=h.unT;rw [QbD] at hp;rw [toP,Rep];exact ⟨a,xs,rfl,Same.seqT r.fh h1,Qf7 (QfI r n) ds xs h2 hp⟩
 | n+1,.non,v,h,hp=>Lk.rep (Or.inl h) r.fh hp
 | n+1,.bl _,v,h,hp=>Lk.rep (Or.inl h) r.fh hp
 | n+1,.int _,v,h,hp=>Lk.rep (Or.inl h) r.fh hp
 | n+1,.str _,v,h,hp=>Lk.rep (Or.inl h) r.fh hp
 | n+1,.dic _ _,v,h,hp=>Lk.rep (Or.inl h) r.fh hp
theorem QmZ (r:RlO K mg O H F as) {n:Nat}{d:D}{v:V} (h:Sv K H F as v d) (hp:QbD (Qbj O n d)=true):Rep K H v (toP (Qbj O n d)):=by
 rcases h with h | ⟨a,xs,ds,rfl,rfl,e3,e4,e5⟩
 ·exact QfI r n d v h hp
 ·cases n with
  | zero=>exact Lk.rep (Or.inr ⟨a,xs,ds,rfl,rfl,e3,e5⟩) r.fh hp
  | succ n =>
   unfold Qbj at hp ⊢;rw [QbD] at hp;rw [toP,Rep];exact ⟨a,xs,rfl,.inl (.inl e3),Qf7 (QfI r n) ds xs e5 hp⟩
end
section
variable {X:Cx}{md:List Md}{P:Pt}{R:RR}
def Qg4 (neg:Bool) (n:Nat) (ma mb:M D):M D:=fun ρ O=>(ma ρ O).bind fun x O1=>(mb ρ O1).bind fun y O2 =>
 if (okE (Qbj O2 n x)&&okE (Qbj O2 n y))=true then .ok (.bl (if neg then !QcA (Qbj O2 n x) (Qbj O2 n y) else QcA (Qbj O2 n x) (Qbj O2 n y))) O2 else .no
theorem Qs7 {K:Frag}{mg:Str→Option Value}{neg:Bool}{n:Nat}{ma mb:M D}{σ:St}{H:Hp}{Q:VK} (h:tM K mg md P (rO K) (Qg4 neg n ma mb) σ H Q):tOp (Qqr K neg) (tM K mg md P (rS K) ma) (tM K mg md P (rS K) mb) σ H Q:=by
 obtain ⟨ρ,O,F,as,d,O',r,sl,e,k⟩:=h;obtain ⟨x,O1,e1,e⟩:=Res.bind_ok e;obtain ⟨y,O2,e2,e⟩:=Res.bind_ok e;split at e
 ·rename_i hk;cases e;rw [zv] at hk;obtain ⟨k1,k2⟩:=hk;unfold okE at k1 k2;rw [zv] at k1 k2;refine ⟨ρ,_,F,as,_,_,r,sl,e1,fun v H1 F1 as1 g1 r1 hv=>?_⟩;refine ⟨ρ,_,F1,as1,_,_,r1,sl.step g1,e2,fun u H2 F2 as2 g2 r2 hu=>?_⟩;exact ⟨_,_,QmZ r2 (Sv.gr hv g2) k1.1,QmZ r2 hu k2.1,k1.2,k2.2,k _ H2 F2 as2 (g1.trans g2) r2 (.inl ⟨rfl,Rp.bl⟩)⟩
 ·cases e
theorem QoC (n:Nat) {k:Nat} (hr:Qa6 k X.A) {e1 e2:Expr}{pos:Pos}{ma mb:M D} (ha:SE X md P e1 ma) (hb:SE X md P e2 mb):TsE X md P (.Compare e1 [.NotEq] [e2] pos) (Qar (Qg4 true n ma mb)) :=
 (QmI (Qoy hr) ha hb (QaX _)).imp fun σ H Q h=>by
  have q:=Qgx h;exact Qs7 q
end
section
variable {X:Cx}{md:List Md}{P:Pt}{R:RR}
def QdO (n:Nat) (all:List D) (g:MG) (b:MS):List D→MS
 | [],ρ,O=>match O[n]? with
  | some (.ml es)=>if es.length=all.length then .nx ρ O else .no
  | _=>.no
 | d::ds,ρ,O=>match O[n]? with
  | some (.ml es)=>match es[all.length - (ds.length+1)]? with
   | some d'=>match g (.tup [.int ((all.length - (ds.length+1):Nat):Int),d']) ρ with
    | none=>.no
    | some ρ1=>match b ρ1 O with
     | .nx ρ2 O2=>QdO n all g b ds ρ2 O2
     | .ct ρ2 O2=>QdO n all g b ds ρ2 O2
     | .bk ρ2 O2=>.nx ρ2 O2
     | r=>r
   | none=>.no
  | _=>.no
def Qhy (m:M D) (g:MG) (b:MS):MS:=fun ρ O=>match m ρ O with
 | .ok (.ob n) O'=>match O'[n]? with
  | some (.ml ds)=>QdO n ds g b ds ρ O'
  | _=>.no
 | _=>.no
theorem Qr1 {K:Frag}{mg:Str→Option Value}{m:M D}{g:MG}{b:MS}{n:Nat}{ds:List D}{D:Ends}{σ:St}{H F:Hp}{as:List Addr}{ρ:Qah}{O O1:Qac} (r:RlO K mg O H F as) (s:SlO K md P ρ σ H F as) (e:m ρ O = .ok (.ob n) O1) (e2:O1[n]? = some (.ml ds))
  (k:Qfm K mg md P R D H F as (QdO n ds g b ds ρ O1)):Qqj (Qju K (QkV (tM K mg md P (rW K P) m) Qln)) (tMG K mg md P g) (tMS K mg md P R b) D σ H:=by
 refine ⟨ρ,O,F,as,_,_,r,s,e,fun v H1 F1 as1 g1 r1 hv=>?_⟩
 have hv':Rp K F1 as1 v (.ob n):=by
  rcases hv with hv | ⟨a,xs,ds',_,z,_⟩
  ·exact hv
  ·cases z
 obtain ⟨a,rfl,ha⟩:=Rp.unO hv';obtain ⟨xs0,x1,x2⟩:=r1.ml ha e2;have k1:=Qc6 (R:=R) g1.toS k;refine ⟨a,rfl,⟨xs0,.inl (.inl x1)⟩,fun i m σ' H'=>m=ds.length - i∧i≤ds.length∧∃ρ' O' F' as',GrS P H1 F1 as1 H' F' as'∧RlO K mg O' H' F' as'∧SlO K md P ρ' σ' H' F' as'∧Qfm K mg md P R D H' F' as' (QdO n ds g b (ds.drop i) ρ' O'),⟨ds.length,by simp,Nat.zero_le _,ρ,O1,F1,as1,GrS.refl,r1,s.step g1,by rw [List.drop_zero]; exact k1⟩,?_⟩;rintro i t σ' H' ⟨rfl,hi,ρ',O',F',as',g',r',s',k'⟩;have ha':=g'.at_ n a ha
 by_cases hlt:i < ds.length
 ·rw [List.drop_eq_getElem_cons hlt] at k';unfold QdO at k';split at k'
  ·rename_i es ee;obtain ⟨xs,y1,y2⟩:=r'.ml ha' ee
   have hidx:ds.length - ((ds.drop (i+1)).length+1)=i:=by rw [List.length_drop]; omega
   rw [hidx] at k';split at k'
   ·rename_i d' ed;obtain ⟨x,hx,rx⟩:=y2.get' ed;have hsq:SqL K H' a xs:=.inl (.inl y1);refine .inr ⟨⟨xs,x,hsq,hx⟩,fun σ2 H2=>∃ρ2 O2 F2 as2,GrS P H1 F1 as1 H2 F2 as2∧RlO K mg O2 H2 F2 as2∧SlO K md P ρ2 σ2 H2 F2 as2∧Qfm K mg md P R D H2 F2 as2 (QdO n ds g b (ds.drop (i+1)) ρ2 O2),fun σ2 H2 h2=>⟨ds.length - (i+1),by omega,rfl,hlt,h2⟩,fun z3 H3 y=>?_⟩;obtain ⟨T,x2,rfl,hT,rfl,hy⟩:=y;have hxx:=hy xs hsq;rw [hx] at hxx;cases hxx;split at k'
    ·exact False.elim k'
    ·rename_i ρ1 eg;obtain ⟨F3,g3,r3,rp3⟩:=Qe0 ⟨_,r'⟩ hT (Rps.cons (Rp.int (i:=(i:Int))) (Rps.cons rx Rps.nil));have r3':=r3 O' r';refine ⟨ρ',O',F3,as',_,ρ1,r3',s'.step g3,rp3,eg,fun σ4 s4=>?_⟩;refine ⟨ρ1,O',F3,as',r3',s4,?_⟩
     cases eb:b ρ1 O' with
     | nx ρ2 O2 =>
      rw [eb] at k'
      exact fun σ2 H2 F2 as2 g2 r2 s2=>⟨ρ2,O2,F2,as2,g'.trans (g3.toS.trans g2),r2,s2,Qc6 (g3.toS.trans g2) k'⟩
     | ct ρ2 O2 =>
      rw [eb] at k'
      exact fun σ2 H2 F2 as2 g2 r2 s2=>⟨ρ2,O2,F2,as2,g'.trans (g3.toS.trans g2),r2,s2,Qc6 (g3.toS.trans g2) k'⟩
     | bk ρ2 O2 =>
      rw [eb] at k'
      exact fun σ2 H2 F2 as2 g2 r2 s2=>k' σ2 H2 F2 as2 (g3.toS.trans g2) r2 s2
     | rt d O2 =>
      rw [eb] at k'
      exact fun v H2 F2 as2 g2 r2 s2=>k' v H2 F2 as2 (g3.toS.trans g2) r2 s2
     | ex _ _=>rw [eb] at k'; exact False.elim k'
     | no=>rw [eb] at k'; exact False.elim k'
   ·exact False.elim k'
  ·exact False.elim k'
 ·have hi':i=ds.length:=by omega
  subst hi';rw [List.drop_length] at k';unfold QdO at k';split at k'
  ·rename_i es ee;split at k'
   ·rename_i hl;obtain ⟨xs,y1,y2⟩:=r'.ml ha' ee;exact .inl ⟨⟨xs,.inl (.inl y1),by rw [y2.length,hl]; exact zb _⟩,k' σ' H' F' as' GrS.refl r' s'⟩
   ·exact False.elim k'
  ·exact False.elim k'
theorem QrJ {elts:List Expr}{x1:Nat}{tpos:Pos}{a:Expr}{p pos pos':Pos}{body:List Stmt}{m:M D}{g:MG}{b:MS} (hc:X.calm=true) (hm:X.mg "enumerate" = none) (hi:WE X md P a m) (hg:VG X md P (.Tuple elts x1 tpos) g) (hb:VSs X md P R body b)
  (hG:Gl X "enumerate":=by rfl) (hs1:starEach [a] X.env = [(false,eval a X.env)]:=by exact Qfz rfl) (hs2:starEach [a] X.env=(false,eval a X.env)::starEach [] X.env:=by exact Qbn rfl)
  (hp:PassesOwn (model X.prog X.w) X.A X.env X.xe:=by exact PassesOwn.never)
  (hs:∀x,foldedSetIterable (.Call (.Name "enumerate" p) [a] [] pos) X.env x=pure x:=by intro _; rfl):VS X md P R (.For (.Tuple elts x1 tpos) (.Call (.Name "enumerate" p) [a] [] pos) body [] pos') (Qhy m g b):=fun pins s σ H D I q=>by
 obtain ⟨ρ,O,F,as,r,sl,k⟩:=q;unfold Qhy at k;split at k
 ·rename_i n O1 e1;split at k
  ·rename_i ds e2;exact Qpj hp hc (QiU hG hm (Qcx hi QdV hs2) hs1) hg hb hs pins s σ H D I (Qr1 r sl e1 e2 k)
  ·exact False.elim k
 ·exact False.elim k
end
end L2
namespace L2
open PySem PySem.Spec PyProof.Rows PySem.W PySem.Calls
section
variable {prog:Program}{w:World}{A:Around}{E:Value→Shared→Prop}{s:Shared}{a:Addr}{vs out:List Value}{p:Array Nat}
end
section
variable {X:Cx}
end
structure Qto (mg:Str→Option Value):Prop extends Blt mg where
 sorted_:mg "sorted" = none
end L2
namespace L2
open PySem PySem.Spec PyProof.Rows
abbrev QdP (h:Heap) (z TI TO T:Addr) (b:Bool):Prop :=
 h.get? z=some { cls:=.type "zip",dict:=none,data:=.fields #[rawInt T,.bool b,.bool false,.ref TI,.ref TO],slots:=#[] }
section
variable {prog:Program}{w:World}{A:Around}{E:Value→Shared→Prop}{s:Shared}
theorem Ql8 {a:Addr}{o:Obj}{Q:Option Obj→Shared→Prop} (h:s.heap.get? a=some o) (hQ:Q (some o) s):wpAny (model prog w) A (loadIfAlive a) Q E s:=by
 have:wpAny (model prog w) A (loadIfAlive a) Q E s↔wpAny (model prog w) A (pure (s.heap.get? a)) Q E s:=by
  unfold loadIfAlive wpAny;simp [Sem.wp_loadIfAlive]
 rw [this,h];exact zc hQ
theorem Qko {z TI TO T:Addr}{b:Bool}{o:Obj}{Q:Bool→Shared→Prop} (hz:QdP s.heap z TI TO T b) (hT:s.heap.get? T=some o)
  (hQ:∀h',QdP h' z TI TO T true→Heap.SameBut z s.heap h'→Q false { s with heap:=h' }):wpAny (model prog w) A (Builtin.SmallTypes.ownedTupleIsFree (.ref z)) Q E s:=by
 unfold Builtin.SmallTypes.ownedTupleIsFree;refine za (wpAny_field hz rfl (x:=rawInt T) rfl ?_);show wpAny _ _ (loadIfAlive ((T:Int).toNat) >>= _) _ _ _;rw [Int.toNat_natCast];refine za (Ql8 hT ?_);show wpAny _ _ (field (.ref z) 1 >>= _) _ _ _;refine za (wpAny_field hz rfl (x:=.bool b) rfl ?_)
 cases b with
 | true =>
  exact zc (hQ s.heap hz (Heap.SameBut.refl _ _))
 | false =>
  exact za (wpAny_setField_rec hz (by simp) fun h1 hz1 hs1=>zc (hQ h1 hz1 hs1))
theorem Qpv {z TI TO T i1 i2 l1 l2:Addr}{o:Obj}{b:Bool}{k1 k2:Nat}{xs ys:Array Value}{x y:Value}{Q:Value→Shared→Prop} (D:ZipApart z TI TO i1 i2 l1 l2)
  (hz:QdP s.heap z TI TO T b) (hT:s.heap.get? T=some o) (hTI:IsPair s.heap TI (.ref i1) (.ref i2))
  (h1:s.heap.IsListIter i1 l1 k1) (h2:s.heap.IsListIter i2 l2 k2) (hl1:s.heap.IsList l1 xs) (hl2:s.heap.IsList l2 ys) (hx:xs[k1]? = some x) (hy:ys[k2]? = some y)
  (hQ:∀h',QdP h' z TI TO T true→h'.IsListIter i1 l1 (k1+1)→h'.IsListIter i2 l2 (k2+1)→IsPair h' s.heap.objs.size x y→h'.objs.size=s.heap.objs.size+1 →
   (∀c o,c≠z→c≠i1→c≠i2→s.heap.get? c=some o→h'.get? c=some o)→Q (.ref s.heap.objs.size) { s with heap:=h' }) :
  wpAny (model prog w) A (Builtin.«zip.__next__» ⟨[.ref z],[]⟩) (fun fin s'=>∃v,fin = .done (.ret v)∧Q v s') E s:=by
 show wpAny _ _ (field (.ref z) 2 >>= _) _ _ _;refine za (wpAny_field hz rfl (x:=.bool false) rfl ?_);show wpAny _ _ (field (.ref z) 3 >>= _) _ _ _;refine za (wpAny_field hz rfl (x:=.ref TI) rfl ?_);refine za (wpAny_seqItems hTI rfl ?_);show wpAny _ _ (Builtin.SmallTypes.ownedTupleIsFree (.ref z) >>= _) _ _ _;refine za (Qko hz hT fun h₁ hz₁ hs₁=>?_);simp only [Bool.false_eq_true,if_false];refine za ?_;simp only [←Array.forIn_toList,List.forIn_cons,List.forIn_nil];refine za (za (zT ?_));show wpAny _ _ (Builtin.SmallTypes.nextOf (.ref i1) >>= _) _ _ _;refine za (wpAny_nextOf_list_item (h1.extBut hs₁.extBut D.i1z) (hl1.extBut hs₁.extBut D.l1z) hx fun h₂ h1₂ hs₂=>zc (zc ?_))
 dsimp only;refine za (za (zT ?_));show wpAny _ _ (Builtin.SmallTypes.nextOf (.ref i2) >>= _) _ _ _;refine za (wpAny_nextOf_list_item ((h2.extBut hs₁.extBut D.i2z).extBut hs₂.extBut D.i12.symm) ((hl2.extBut hs₁.extBut D.l2z).extBut hs₂.extBut D.l2i1) hy fun h₃ h2₃ hs₃=>zc (zc ?_));dsimp only;refine zc ?_;refine za (wpAny_newTuple ?_ (by show 2≤sizeLine; decide))
 have hsz:h₃.objs.size=s.heap.objs.size:=by rw [hs₃.1,hs₂.1,hs₁.1]
 have hz₃:QdP h₃ z TI TO T true:=hs₃.extBut _ _ D.i2z.symm (hs₂.extBut _ _ D.i1z.symm hz₁);refine zc ⟨_,rfl,?_⟩;show Q (.ref h₃.objs.size) _;rw [hsz];have fin:=hQ (h₃.push { cls:=.type "tuple",data:=.seq #[x,y] }) (zy _ hz₃) ((h1₂.extBut hs₃.extBut D.i12).at fun o e=>zy _ e) (h2₃.at fun o e=>zy _ e)
  (by rw [←hsz]; exact zH _ rfl) (by rw [Heap.size_push,hsz]) fun c o c1 c2 c3 e=>zy _ (hs₃.extBut _ _ c3 (hs₂.extBut _ _ c2 (hs₁.extBut _ _ c1 e)))
 exact fin
theorem Qp7 {z TI TO T i1 i2 l1 l2:Addr}{o:Obj}{b:Bool}{k1 k2:Nat}{xs ys:Array Value}{Q:PySem.Fin→Shared→Prop} (hh:A.handled=none) (D:ZipApart z TI TO i1 i2 l1 l2)
  (hz:QdP s.heap z TI TO T b) (hT:s.heap.get? T=some o) (hTI:IsPair s.heap TI (.ref i1) (.ref i2))
  (h1:s.heap.IsListIter i1 l1 k1) (h2:s.heap.IsListIter i2 l2 k2) (hl1:s.heap.IsList l1 xs) (hl2:s.heap.IsList l2 ys) (hend:xs[k1]? = none∨ys[k2]? = none)
  (hE:∀h' e,(∀c o,c≠z→c≠i1→c≠i2→s.heap.get? c=some o→h'.get? c=some o)→(∃o,h'.get? e=some o∧o.cls = .type "StopIteration")→E (.ref e) { s with heap:=h' }) :
  wpAny (model prog w) A (Builtin.«zip.__next__» ⟨[.ref z],[]⟩) Q E s:=by
 show wpAny _ _ (field (.ref z) 2 >>= _) _ _ _;refine za (wpAny_field hz rfl (x:=.bool false) rfl ?_);show wpAny _ _ (field (.ref z) 3 >>= _) _ _ _;refine za (wpAny_field hz rfl (x:=.ref TI) rfl ?_);refine za (wpAny_seqItems hTI rfl ?_);show wpAny _ _ (Builtin.SmallTypes.ownedTupleIsFree (.ref z) >>= _) _ _ _;refine za (Qko hz hT fun h₁ hz₁ hs₁=>?_);simp only [Bool.false_eq_true,if_false];refine za ?_;simp only [←Array.forIn_toList,List.forIn_cons,List.forIn_nil];refine za (za (zT ?_));show wpAny _ _ (Builtin.SmallTypes.nextOf (.ref i1) >>= _) _ _ _
 cases hx:xs[k1]? with
 | none =>
  refine za (wpAny_nextOf_list_end hh (h1.extBut hs₁.extBut D.i1z) (hl1.extBut hs₁.extBut D.l1z) hx fun h₂ e hs₂ he=>?_);exact hE h₂ e (fun c o c1 c2 c3 x=>hs₂ _ _ c2 (hs₁.extBut _ _ c1 x)) he
 | some x =>
  have hy:ys[k2]? = none:=by rcases hend with h | h; rw [hx] at h; cases h; exact h
  refine za (wpAny_nextOf_list_item (h1.extBut hs₁.extBut D.i1z) (hl1.extBut hs₁.extBut D.l1z) hx fun h₂ h1₂ hs₂=>zc (zc ?_));dsimp only;refine za (za (zT ?_));show wpAny _ _ (Builtin.SmallTypes.nextOf (.ref i2) >>= _) _ _ _;refine za (wpAny_nextOf_list_end hh ((h2.extBut hs₁.extBut D.i2z).extBut hs₂.extBut D.i12.symm) ((hl2.extBut hs₁.extBut D.l2z).extBut hs₂.extBut D.l2i1) hy fun h₃ e hs₃ he=>?_);exact hE h₃ e (fun c o c1 c2 c3 x=>hs₃ _ _ c3 (hs₂.extBut _ _ c2 (hs₁.extBut _ _ c1 x))) he
theorem Qnh {z TI TO T i1 i2 l1 l2:Addr}{o:Obj}{b:Bool}{k1 k2:Nat}{xs ys:Array Value}{x y:Value}{Q:Option Value→Shared→Prop} (D:ZipApart z TI TO i1 i2 l1 l2)
  (hz:QdP s.heap z TI TO T b) (hT:s.heap.get? T=some o) (hTI:IsPair s.heap TI (.ref i1) (.ref i2))
  (h1:s.heap.IsListIter i1 l1 k1) (h2:s.heap.IsListIter i2 l2 k2) (hl1:s.heap.IsList l1 xs) (hl2:s.heap.IsList l2 ys) (hx:xs[k1]? = some x) (hy:ys[k2]? = some y)
  (hQ:∀h',QdP h' z TI TO T true→h'.IsListIter i1 l1 (k1+1)→h'.IsListIter i2 l2 (k2+1)→IsPair h' s.heap.objs.size x y→h'.objs.size=s.heap.objs.size+1 →
   (∀c o,c≠z→c≠i1→c≠i2→s.heap.get? c=some o→h'.get? c=some o)→Q (some (.ref s.heap.objs.size)) { s with heap:=h' }) :
  wpAny (model prog w) A (pyNext (.ref z)) Q E s:=by
 have hTy:s.TypeIs (.ref z) "zip":=⟨_,hz,rfl⟩;unfold pyNext
 exact za (wpAny_attempt (wpAny_callSpecial?_slot (name:=Str.ofString "__next__") hTy F.slot_zip_next
  (wpAny_call_entry F.slot_zip_next hTy F.entry_zip_next
   (Qpv D hz hT hTI h1 h2 hl1 hl2 hx hy fun h' a1 a3 a4 a5 a6 a7=>zc (hQ h' a1 a3 a4 a5 a6 a7)) (F.args_zip_next_1 _))))
theorem Qph {z TI TO T i1 i2 l1 l2:Addr}{o:Obj}{b:Bool}{k1 k2:Nat}{xs ys:Array Value}{Q:Option Value→Shared→Prop} (hh:A.handled=none) (D:ZipApart z TI TO i1 i2 l1 l2)
  (hz:QdP s.heap z TI TO T b) (hT:s.heap.get? T=some o) (hTI:IsPair s.heap TI (.ref i1) (.ref i2))
  (h1:s.heap.IsListIter i1 l1 k1) (h2:s.heap.IsListIter i2 l2 k2) (hl1:s.heap.IsList l1 xs) (hl2:s.heap.IsList l2 ys) (hend:xs[k1]? = none∨ys[k2]? = none)
  (hQ:∀h',(∀c o,c≠z→c≠i1→c≠i2→s.heap.get? c=some o→h'.get? c=some o)→Q none { s with heap:=h' }):wpAny (model prog w) A (pyNext (.ref z)) Q E s:=by
 have hTy:s.TypeIs (.ref z) "zip":=⟨_,hz,rfl⟩;unfold pyNext
 refine za (wpAny_attempt (wpAny_callSpecial?_slot (name:=Str.ofString "__next__") hTy F.slot_zip_next
  (wpAny_call_entry F.slot_zip_next hTy F.entry_zip_next (Qp7 hh D hz hT hTI h1 h2 hl1 hl2 hend fun h' e hk he=>?_) (F.args_zip_next_1 _))))
 obtain ⟨o',ho',hc⟩:=he;refine za (wpAny_isInstance (T:="StopIteration") (b:=true) ⟨o',ho',hc⟩ isSubtype_stop ?_);exact zc (hQ _ hk)
structure ZS (base:Nat) (h:Heap) (z TI TO i1 i2 l1 l2 S:Addr) (xs ys acc:Array Value) (c i:Nat):Prop where
 zi:(IsZip h z TI TO .none∧∃a b,IsPair h TO a b)∨∃T b o,QdP h z TI TO T b∧h.get? T=some o∧T∉[z,TO,i1,i2,S]
 ti:IsPair h TI (.ref i1) (.ref i2)
 it1:h.IsListIter i1 l1 i
 it2:h.IsListIter i2 l2 i
 a1:h.IsList l1 xs
 a2:h.IsList l2 ys
 ls:h.get? S=some { cls:=.type "list",dict:=none,data:=.seq acc c,slots:=#[] }
 sz:acc.size=i
 tl:TO < h.objs.size
 nd:acc.toList.Nodup
 ts:∀(j:Nat) (v:Value),acc[j]? = some v→∃(T:Addr) (x y:Value),v=Value.ref T∧xs[j]? = some x∧ys[j]? = some y∧IsPair h T x y∧T∉[z,TO,i1,i2,S]∧base≤T
variable {R:PySem.Result→Shared→Prop}
theorem QqK {z TI TO i1 i2 l1 l2 S:Addr}{xs ys:Array Value}{n base:Nat} (hh:A.handled=none) (D:ZipApart z TI TO i1 i2 l1 l2) (hS:S∉[z,TI,TO,i1,i2,l1,l2]) (res:Value) (hn:n≤sizeLine) (hn1:n≤xs.size) (hn2:n≤ys.size) (hne:n=xs.size∨n=ys.size) :
  ∀(k i:Nat) (s:Shared) (acc:Array Value) (c:Nat),n - i=k→i≤n→ZS base s.heap z TI TO i1 i2 l1 l2 S xs ys acc c i→base≤s.heap.objs.size →
  (∀(h':Heap) (acc':Array Value) (c':Nat),(∀b o,b∉[z,TO,i1,i2,S]→s.heap.get? b=some o→h'.get? b=some o)→h'.get? S=some { cls:=.type "list",dict:=none,data:=.seq acc' c',slots:=#[] }→acc'.size=n→acc'.toList.Nodup →
   (∀(j:Nat) (v:Value),acc'[j]? = some v→∃(T:Addr) (x y:Value),v=Value.ref T∧xs[j]? = some x∧ys[j]? = some y∧IsPair h' T x y∧T∉[z,TO,i1,i2,S]∧base≤T)→R (.ok (.ret res)) { s with heap:=h' }) →
  codeAny (model prog w) A (.builtin "list.extend.loop" ⟨[.ref S,.ref z,res],[]⟩) R s:=by
 simp only [zn,List.not_mem_nil,or_false,not_or] at hS;obtain ⟨S1,S2,S3,S4,S5,S6,S7⟩:=hS
 have nin:∀b:Addr,b∉[z,TO,i1,i2,S]↔b≠z∧b≠TO∧b≠i1∧b≠i2∧b≠S:=fun b=>by simp only [zn,List.not_mem_nil,or_false,not_or]
 intro k
 induction k with
 | zero =>
  intro i s acc c hk hi st hb hR
  have hin:i=n:=by omega
  subst hin;refine codeAny_builtin F.entry_extend_loop ?_;rw [Around.under_plainId F.plain_extend_loop _];show wpAny _ A.in1 (pyNext (.ref z) >>= _) _ _ s
  have hend:xs[i]? = none∨ys[i]? = none:=by
   rcases hne with e | e
   ·left; rw [Array.getElem?_eq_none_iff]; omega
   ·right; rw [Array.getElem?_eq_none_iff]; omega
  have fin:∀h',(∀b o,b≠z→b≠TO→b≠i1→b≠i2→s.heap.get? b=some o→h'.get? b=some o)→R (.ok (.ret res)) { s with heap:=h' }:=fun h' kp =>
   hR h' acc c (fun b o hb e=>by obtain ⟨b1,b2,b3,b4,b5⟩:=(nin b).mp hb; exact kp b o b1 b2 b3 b4 e) (kp S _ S1 S3 S4 S5 st.ls) st.sz st.nd fun j v hv=>by
    obtain ⟨T,x,y,e1,e2,e3,e4,e5,e6⟩:=st.ts j v hv;obtain ⟨b1,b2,b3,b4,b5⟩:=(nin T).mp e5;exact ⟨T,x,y,e1,e2,e3,kp T _ b1 b2 b3 b4 e4,e5,e6⟩
  rcases st.zi with ⟨hz,a,b,hTO⟩ | ⟨T,b,o,hz,hT,_⟩
  ·exact za (wpAny_pyNext_zip_end hh D hz st.ti hTO st.it1 st.it2 st.a1 st.a2 hend fun h' kp=>zc (fin h' kp))
  ·exact za (Qph hh D hz hT st.ti st.it1 st.it2 st.a1 st.a2 hend fun h' kp=>zc (fin h' fun b o b1 b2 b3 b4 e=>kp b o b1 b3 b4 e))
 | succ k ih =>
  intro i s acc c hk hi st hb hR
  have hlt:i < n:=by omega
  have hx:xs[i]? = some (xs[i]'(by omega)):=Array.getElem?_eq_getElem _;have hy:ys[i]? = some (ys[i]'(by omega)):=Array.getElem?_eq_getElem _
  generalize xs[i]'(by omega)=x at hx
  generalize ys[i]'(by omega)=y at hy
  refine codeAny_builtin F.entry_extend_loop ?_;rw [Around.under_plainId F.plain_extend_loop _];show wpAny _ A.in1 (pyNext (.ref z) >>= _) _ _ s
  have ltz:z < s.heap.objs.size:=by rcases st.zi with ⟨hz,_⟩ | ⟨T,b,o,hz,_⟩ <;> exact zf hz
  have ltS:S < s.heap.objs.size:=zf st.ls
  have lt1:i1 < s.heap.objs.size:=by obtain ⟨_,e,_⟩:=st.it1; exact zf e
  have lt2:i2 < s.heap.objs.size:=by obtain ⟨_,e,_⟩:=st.it2; exact zf e
  have nxt:wpAny (model prog w) A.in1 (pyNext (.ref z)) (fun r s1=>∃h',r=some (.ref s.heap.objs.size)∧s1 = { s with heap:=h' }∧(∃T b o,QdP h' z TI TO T b∧h'.get? T=some o∧(T=s.heap.objs.size∨T∉[z,TO,i1,i2,S]))∧h'.IsListIter i1 l1 (i+1)∧h'.IsListIter i2 l2 (i+1)∧IsPair h' s.heap.objs.size x y∧h'.objs.size=s.heap.objs.size+1 ∧
    ∀c o,c≠z→c≠TO→c≠i1→c≠i2→s.heap.get? c=some o→h'.get? c=some o) (fun _ _=>False) s:=by
   rcases st.zi with ⟨hz,a,b,hTO⟩ | ⟨T,b,o,hz,hT,hTn⟩
   ·exact wpAny_pyNext_zip_item D hz st.ti hTO st.it1 st.it2 st.a1 st.a2 hx hy fun h' q1 q2 q3 q4 q5 q6 q7=>⟨h',rfl,rfl,⟨_,false,_,q1,q5,.inl rfl⟩,q3,q4,q5,q6,q7⟩
   ·obtain ⟨n1,n2,n3,n4,n5⟩:=(nin T).mp hTn
    exact Qnh D hz hT st.ti st.it1 st.it2 st.a1 st.a2 hx hy fun h' q1 q3 q4 q5 q6 q7=>⟨h',rfl,rfl,⟨T,true,o,q1,q7 T o n1 n3 n4 hT,.inr hTn⟩,q3,q4,q5,q6,fun c o c1 c2 c3 c4 e=>q7 c o c1 c3 c4 e⟩
  have ltO:TO≠s.heap.objs.size:=zB st.tl;have hnew:s.heap.objs.size∉[z,TO,i1,i2,S]:=(nin _).mpr ⟨Nat.ne_of_gt ltz,ltO.symm,Nat.ne_of_gt lt1,Nat.ne_of_gt lt2,Nat.ne_of_gt ltS⟩;refine za (zS nxt ?_ fun _ _ x=>x.elim);rintro r s1 ⟨h',rfl,rfl,⟨T,b,o,hz',hT',hTn'⟩,j1,j2,hp,hsz,kp⟩;have hS':=kp S _ S1 S3 S4 S5 st.ls
  have oth:∀c o,c≠S→h'.get? c=some o→(h'.update S (Obj.mapSeq (·.push (Value.ref s.heap.objs.size)))).get? c=some o:=fun c o hc e=>(jb _ _ (Ne.symm hc)).trans e
  have hTn2:T∉[z,TO,i1,i2,S]:=by
   rcases hTn' with e | e
   ·rw [e]; exact hnew
   ·exact e
  have hnd:(acc.push (Value.ref s.heap.objs.size)).toList.Nodup:=by
   rw [Array.toList_push,zZ];refine ⟨st.nd,by simp,fun v hv w hw=>?_⟩;rw [zo.mp hw];rintro rfl;obtain ⟨j,hj⟩:=List.mem_iff_getElem?.mp hv;obtain ⟨T2,x2,y2,f1,_,_,f4,_⟩:=st.ts j _ (by simpa using hj);cases f1;exact zR _ (zf f4)
  show wpAny _ A.in1 (updateSeq S (·.push (.ref s.heap.objs.size)) >>= _) _ _ _;refine za ?_
  refine je hS' rfl (zc ⟨plainId_quiet F.plain_extend_loop _,ih (i+1) _ (acc.push (.ref s.heap.objs.size)) _ (by omega) hlt ⟨.inr ⟨T,b,o,oth z _ (Ne.symm S1) hz',oth T _ ((nin T).mp hTn2).2.2.2.2 hT',hTn2⟩,
   oth TI _ (Ne.symm S2) (kp TI _ D.TIz D.TITO D.TIi1 D.TIi2 st.ti),j1.at fun o e=>oth i1 o (Ne.symm S4) e,j2.at fun o e=>oth i2 o (Ne.symm S5) e,
   st.a1.at fun o e=>oth l1 o (Ne.symm S6) (kp l1 o D.l1z D.l1TO D.l1i1 D.l1i2 e),st.a2.at fun o e=>oth l2 o (Ne.symm S7) (kp l2 o D.l2z D.l2TO D.l2i1 D.l2i2 e),Heap.get?_update_self _ hS' rfl,by rw [Array.size_push,st.sz],by rw [Heap.size_update,hsz]; exact jk st.tl,hnd,fun j v hv=>?_⟩ ?_ fun h2 acc' c' kp2 e1 e2 en e3=>?_⟩)
   (by rw [st.sz]; omega) (by show (acc.push _).size≤sizeLine+1; rw [Array.size_push,st.sz]; omega)
  ·rw [Array.getElem?_push] at hv;split at hv
   ·rename_i e;rw [st.sz] at e;cases hv;subst e;exact ⟨_,x,y,rfl,hx,hy,oth _ _ (Nat.ne_of_gt ltS) hp,hnew,hb⟩
   ·obtain ⟨T2,x2,y2,f1,f2,f3,f4,f5,f6⟩:=st.ts j v hv;obtain ⟨n1,n2,n3,n4,n5⟩:=(nin T2).mp f5;exact ⟨T2,x2,y2,f1,f2,f3,oth T2 _ n5 (kp T2 _ n1 n2 n3 n4 f4),f5,f6⟩
  ·rw [Heap.size_update,hsz]; omega
  ·refine hR h2 acc' c' (fun b o hb' e=>kp2 b o hb' ?_) e1 e2 en e3;obtain ⟨n1,n2,n3,n4,n5⟩:=(nin b).mp hb';exact oth b o n5 (kp b o n1 n2 n3 n4 e)
theorem QnK:typeLookup (.type "zip") "__len__" = pure none:=by rw [typeLookup_type,builtinLookup_eq_fast]; kernel_rfl
theorem Ql9:typeLookup (.type "zip") "__length_hint__" = pure none:=by rw [typeLookup_type,builtinLookup_eq_fast]; kernel_rfl
theorem Qsa {z TI TO i1 i2 l1 l2 S:Addr}{xs ys:Array Value}{n base:Nat} (hh:A.handled=none) (D:ZipApart z TI TO i1 i2 l1 l2) (hSn:S∉[z,TI,TO,i1,i2,l1,l2]) (res:Value) (hn:n≤sizeLine) (hn1:n≤xs.size) (hn2:n≤ys.size) (hne:n=xs.size∨n=ys.size) (c₀:Nat) (hb:base≤s.heap.objs.size)
  (hz:IsZip s.heap z TI TO .none) (st:ZS base s.heap z TI TO i1 i2 l1 l2 S xs ys #[] c₀ 0)
  (hR:∀(h':Heap) (acc':Array Value) (c':Nat),(∀b o,b∉[z,TO,i1,i2,S]→s.heap.get? b=some o→h'.get? b=some o)→h'.get? S=some { cls:=.type "list",dict:=none,data:=.seq acc' c',slots:=#[] }→acc'.size=n→acc'.toList.Nodup →
   (∀(j:Nat) (v:Value),acc'[j]? = some v→∃(T:Addr) (x y:Value),v=Value.ref T∧xs[j]? = some x∧ys[j]? = some y∧IsPair h' T x y∧T∉[z,TO,i1,i2,S]∧base≤T)→R (.ok (.ret res)) { s with heap:=h' }) :
  wpAny (model prog w) A.in1 (Builtin.List.listExtendWith (.ref S) (.ref z) res)
   (fun fin s'=>match fin with | .done f=>R (.ok f) s' | .again c'=>c'.quiet=true∧codeAny (model prog w) A c' R s') (fun e s'=>R (.error e) s') s:=by
 have hSn':=hSn;simp only [zn,List.not_mem_nil,or_false,not_or] at hSn';obtain ⟨S1,S2,S3,S4,S5,S6,S7⟩:=hSn';have hTy:s.TypeIs (.ref z) "zip":=⟨_,hz,rfl⟩;unfold Builtin.List.listExtendWith;refine za (wpAny_typeOf hTy ?_)
 have h1:Builtin.List.listSameRef (.ref S) (.ref z)=false:=by simp [Builtin.List.listSameRef,S1]
 have h2:(Value.type "zip" == Value.type "list")=false:=by decide
 have h3:(Value.type "zip" == Value.type "tuple")=false:=by decide
 simp only [h1,h2,h3,Bool.or_false,Bool.false_eq_true,if_false];refine za (wpAny_pyIter_zip hz ?_);refine za (zT ?_);unfold Builtin.List.listLengthHint;refine za (wpAny_specialOf hTy QnK ?_);show wpAny _ A.in1 (specialOf (Value.ref z) (Str.ofString "__length_hint__") >>= _) _ _ _;refine za (wpAny_specialOf hTy Ql9 ?_);refine zc ?_
 show wpAny _ A.in1 (rule "list.extend.makes-room" >>= fun _=>Builtin.List.listTouch (.ref S) >>= fun _ =>
  again (.builtin "list.extend.loop" ⟨[.ref S,.ref z,res],[]⟩)) _ _ _
 refine za (wpAny_rule ?_);refine za ?_;show wpAny _ A.in1 (updateSeq S (·.push .none) >>= fun _=>updateSeq S (·.pop)) _ _ _;have hS:=st.ls;refine za (je hS rfl ?_);have hS₂:=Heap.get?_update_self (Obj.mapSeq (·.push Value.none)) hS rfl;refine je (hz:=by seq_fits) hS₂ rfl ?_;have hS₃:=Heap.get?_update_self (Obj.mapSeq (·.pop)) hS₂ rfl;have oth:∀b o,b≠S→s.heap.get? b=some o→((s.heap.update S (Obj.mapSeq (·.push Value.none))).update S (Obj.mapSeq (·.pop))).get? b=some o :=
  fun b o hb e=>(jb _ _ (Ne.symm hb)).trans ((jb _ _ (Ne.symm hb)).trans e)
 obtain ⟨a,b',hTO⟩:∃a b,IsPair s.heap TO a b:=by
  rcases st.zi with ⟨_,x⟩ | ⟨T,b,o,hz',_⟩
  ·exact x
  ·have q:=Eq.trans (Eq.symm hz) hz';simp [rawInt] at q
 refine zc ⟨plainId_quiet F.plain_extend_loop _,QqK (base:=base) hh D hSn res hn hn1 hn2 hne n 0 _ _ _ rfl (Nat.zero_le _) ⟨.inl ⟨oth z _ (Ne.symm S1) hz,a,b',oth TO _ (Ne.symm S3) hTO⟩,oth TI _ (Ne.symm S2) st.ti,st.it1.at fun o e=>oth i1 o (Ne.symm S4) e,st.it2.at fun o e=>oth i2 o (Ne.symm S5) e,
  st.a1.at fun o e=>oth l1 o (Ne.symm S6) e,st.a2.at fun o e=>oth l2 o (Ne.symm S7) e,hS₃,rfl,by rw [Heap.size_update,Heap.size_update]; exact st.tl,List.nodup_nil,fun j v hv=>by simp at hv⟩ (by rw [Heap.size_update,Heap.size_update]; exact hb) fun h' acc' c' kp e1 e2 en e3=>?_⟩
 exact hR h' acc' c' (fun b o hb' e=>kp b o hb' (oth b o (fun z=>hb' (by simp [z])) e)) e1 e2 en e3
theorem QkB {z TI TO i1 i2 l1 l2:Addr}{xs ys:Array Value}{n:Nat}{Q:Value→Shared→Prop} (hh:A.handled=none) (D:ZipApart z TI TO i1 i2 l1 l2) (hn:n≤sizeLine) (hn1:n≤xs.size) (hn2:n≤ys.size) (hne:n=xs.size∨n=ys.size)
  (hz:IsZip s.heap z TI TO .none) (hTI:IsPair s.heap TI (.ref i1) (.ref i2)) {a b:Value} (hTO:IsPair s.heap TO a b) (h1:s.heap.IsListIter i1 l1 0) (h2:s.heap.IsListIter i2 l2 0) (hl1:s.heap.IsList l1 xs) (hl2:s.heap.IsList l2 ys)
  (hQ:∀(h':Heap) (acc':Array Value) (c':Nat),(∀b o,b∉[z,TO,i1,i2]→s.heap.get? b=some o→h'.get? b=some o)→h'.get? s.heap.objs.size=some { cls:=.type "list",dict:=none,data:=.seq acc' c',slots:=#[] }→acc'.size=n→acc'.toList.Nodup →
   (∀(j:Nat) (v:Value),acc'[j]? = some v→∃(T:Addr) (x y:Value),v=Value.ref T∧xs[j]? = some x∧ys[j]? = some y∧IsPair h' T x y∧T≠s.heap.objs.size∧s.heap.objs.size≤T)→Q (.ref s.heap.objs.size) { s with heap:=h' }) :
  wpAny (model prog w) A (call (.type "list") [.ref z]) Q E s:=by
 have ltz:z < s.heap.objs.size:=zf hz;have ltI:TI < s.heap.objs.size:=zf hTI;have ltO:TO < s.heap.objs.size:=zf hTO
 have lt1:i1 < s.heap.objs.size:=by obtain ⟨_,e,_⟩:=h1; exact zf e
 have lt2:i2 < s.heap.objs.size:=by obtain ⟨_,e,_⟩:=h2; exact zf e
 have la1:l1 < s.heap.objs.size:=by obtain ⟨_,e,_⟩:=hl1; exact zf e
 have la2:l2 < s.heap.objs.size:=by obtain ⟨_,e,_⟩:=hl2; exact zf e
 refine callType_codes (Q₁:=fun obj s₁=>obj = .ref s.heap.objs.size∧s₁ = { s with heap:=s.heap.push { cls:=.type "list",data:=.seq #[] } }) F.called_list (F.typeCall_list_1 _) F.entry_list_init
  (code_list_new _ ⟨rfl,rfl⟩) fun obj s₁ h₁=>?_
 obtain ⟨rfl,rfl⟩:=h₁;have hS:(s.heap.push { cls:=.type "list",data:=.seq #[] }).get? s.heap.objs.size=some { cls:=.type "list",data:=.seq #[] }:=zH _ rfl;refine ⟨⟨_,hS,rfl⟩,F.args_list_init_2 _ _,?_⟩;show wpAny _ _ (do let old ←Builtin.List.listItems (.ref s.heap.objs.size); Builtin.List.listUpdate (.ref s.heap.objs.size) (fun _=>#[]); letGo old.toList.reverse; Builtin.List.listExtendWith (.ref s.heap.objs.size) (.ref z) .none) _ _ _;refine za ?_;unfold Builtin.List.listItems;refine za (wpAny_seqItems hS rfl (zc ?_));show wpAny _ _ (updateSeq s.heap.objs.size (fun _=>#[]) >>= fun _=>letGo (#[]:Array Value).toList.reverse >>= fun _=>Builtin.List.listExtendWith (.ref s.heap.objs.size) (.ref z) .none) _ _ _
 refine za (je hS rfl ?_);have hS₂:=Heap.get?_update_self (Obj.mapSeq (fun _=>(#[]:Array Value))) hS rfl;refine za (wpAny_letGo ?_);have oth:∀b o,s.heap.get? b=some o→((s.heap.push { cls:=.type "list",data:=.seq #[] }).update s.heap.objs.size (Obj.mapSeq (fun _=>(#[]:Array Value)))).get? b=some o :=
  fun b o e=>(jb _ _ (Nat.ne_of_gt (zf e))).trans (zy _ e)
 have hsz:((s.heap.push { cls:=.type "list",data:=.seq #[] }).update s.heap.objs.size (Obj.mapSeq (fun _=>(#[]:Array Value)))).objs.size=s.heap.objs.size+1:=by rw [Heap.size_update,Heap.size_push]
 refine Qsa (base:=s.heap.objs.size) (by exact hh) D (by simp only [zn,List.not_mem_nil,or_false,not_or]; exact ⟨Nat.ne_of_gt ltz,Nat.ne_of_gt ltI,Nat.ne_of_gt ltO,Nat.ne_of_gt lt1,Nat.ne_of_gt lt2,Nat.ne_of_gt la1,Nat.ne_of_gt la2⟩) .none hn hn1 hn2 hne _ (by show _≤((s.heap.push _).update _ _).objs.size; rw [hsz]; exact Nat.le_succ _) (oth _ _ hz)
  ⟨.inl ⟨oth _ _ hz,a,b,oth _ _ hTO⟩,oth _ _ hTI,h1.at fun o e=>oth _ o e,h2.at fun o e=>oth _ o e,hl1.at fun o e=>oth _ o e,hl2.at fun o e=>oth _ o e,hS₂,rfl,by show _ < ((s.heap.push _).update _ _).objs.size; rw [hsz]; exact jk ltO,List.nodup_nil,fun j v hv=>by simp at hv⟩ fun h' acc' c' kp e1 e2 en e3=>?_
 refine ⟨rfl,hQ h' acc' c' (fun b o hb e=>kp b o (fun hm=>?_) (oth b o e)) e1 e2 en fun j v hv=>?_⟩
 ·simp only [zn,List.not_mem_nil,or_false,not_or] at hb hm
  have:=zf e
  rcases hm with hm | hm | hm | hm | hm
  ·exact hb.1 hm
  ·exact hb.2.1 hm
  ·exact hb.2.2.1 hm
  ·exact hb.2.2.2 hm
  ·exact absurd this (by rw [hm]; exact zR _)
 ·obtain ⟨T,x,y,f1,f2,f3,f4,f5,f6⟩:=e3 j v hv;exact ⟨T,x,y,f1,f2,f3,f4,fun e=>f5 (by simp [e]),f6⟩
end
theorem Un.more {fs ex:List Addr}{H H1:Hp}{h h':Heap}{a:Addr}{o:HO} (u:Un fs ex H H1 h h') (hp:h.objs.size≤a) (hn:H1 a=none):Un fs ex H (upd H1 a o) h h' where
 keep:=u.keep
 slot:=u.slot
 free:=fun b ob q n hx=>by rw [Qap (zB (zG (zf q) hp))]; exact u.free b ob q n hx
 there:=u.there
 tups:=fun b xs q=>by have z:=u.tups b xs q; rw [Qap (QaD z hn)]; exact z
 frzs:=fun b ob v q=>by have z:=u.frzs b ob v q; rw [Qap (QaD z hn)]; exact z
 tbls:=fun b ps q=>by obtain ⟨m,z⟩:=u.tbls b ps q; exact ⟨m,by rw [Qap (QaD z hn)]; exact z⟩
theorem HOk.more {P:Program}{w:World}{H:Hp}{h:Heap}{a:Addr}{o:HO} (x:HOk P w H h) (hn:H a=none) (new:Qbq P w (upd H a o) h a o):HOk P w (upd H a o) h:=fun b u e=>by
 by_cases hb:b=a
 ·subst hb; rw [QaF] at e; cases e; exact new
 ·rw [Qap hb] at e
  exact (x b u e).stay (fun c v _ q=>q) (fun c q=>by rw [Qap (QaD q hn)]; exact q) fun c xs q=>by rw [Qap (QaD q hn)]; exact q
def Qnl:Hp→List (V×V)→List V→Hp→Prop
 | H,[],ts,H2=>ts = []∧H2=H
 | H,p::r,ts,H2=>∃T ts',ts = .ref T::ts'∧H T=none∧Qnl (upd H T (.tup [p.1,p.2])) r ts' H2
theorem Qmr {P:Program}{w:World}{fs:List Addr}{H0:Hp}{h h':Heap}:∀(ps:List (V×V)) (vs:List Value) (Hk:Hp),Un fs [] H0 Hk h h'→HOk P w Hk h'→vs.Nodup →
  Paired (fun (p:V×V) (v:Value)=>∃T x y,v=Value.ref T∧RelV p.1 x∧RelV p.2 y∧IsPair h' T x y∧h.objs.size≤T∧Hk T=none) ps vs →
  ∃ts H2,Qnl Hk ps ts H2∧QaG ts vs∧Un fs [] H0 H2 h h'∧HOk P w H2 h'∧∀b,Value.ref b∉vs→H2 b=Hk b
 | [],vs,Hk,u,x,_,hp=>by
  cases hp;exact ⟨[],Hk,⟨rfl,rfl⟩,.nil,u,x,fun _ _=>rfl⟩
 | p::ps,vs,Hk,u,x,hnd,hp=>by
  cases hp with
  | cons h1 h2 =>
   obtain ⟨T,u1,u2,rfl,r1,r2,hT,hle,hn⟩:=h1;rw [List.nodup_cons] at hnd;have u':Un fs [] H0 (upd Hk T (.tup [p.1,p.2])) h h':=u.more hle hn;have x':HOk P w (upd Hk T (.tup [p.1,p.2])) h':=x.more hn ⟨by show 2≤sizeLine; decide,[u1,u2],.cons r1 (.cons r2 .nil),⟨_,hT,rfl,_,rfl⟩⟩;have go:∀(ps:List (V×V)) (ws:List Value),Value.ref T∉ws→Paired (fun (p:V×V) (v:Value)=>∃T x y,v=Value.ref T∧RelV p.1 x∧RelV p.2 y∧IsPair h' T x y∧h.objs.size≤T∧Hk T=none) ps ws →
     Paired (fun (q:V×V) (v:Value)=>∃T' x y,v=Value.ref T'∧RelV q.1 x∧RelV q.2 y∧IsPair h' T' x y∧h.objs.size≤T'∧upd Hk T (.tup [p.1,p.2]) T'=none) ps ws:=fun ps ws hw hq=>by
    induction hq with
    | nil=>exact .nil
    | cons a b ih =>
     rw [zn,not_or] at hw;obtain ⟨T',x,y,e1,e2,e3,e4,e5,e6⟩:=a;refine .cons ⟨T',x,y,e1,e2,e3,e4,e5,?_⟩ (ih hw.2);rw [Qap (fun z=>hw.1 (by rw [e1,z]))];exact e6
   obtain ⟨ts,H2,g1,g2,g3,g4,g5⟩:=Qmr ps _ _ u' x' hnd.2 (go _ _ hnd.1 h2);refine ⟨.ref T::ts,H2,⟨T,ts,rfl,hn,g1⟩,.cons rfl g2,g3,g4,fun b hb=>?_⟩;rw [zn,not_or] at hb;rw [g5 b hb.2,Qap (fun z=>hb.1 (by rw [z]))]
theorem Qkj {α β:Type}{R:α→β→Prop}:∀(ps:List α) (vs:List β),ps.length=vs.length→(∀(j:Nat) p v,ps[j]? = some p→vs[j]? = some v→R p v)→Paired R ps vs
 | [],[],_,_=>.nil
 | [],_::_,h,_=>by cases h
 | _::_,[],h,_=>by cases h
 | p::ps,v::vs,h,f=>.cons (f 0 p v rfl rfl) (Qkj ps vs (Nat.succ.inj h) fun j p v a b=>f (j+1) p v a b)
section
variable {X:Cx}
def tLZ (K:Frag) (ta:TA):TE:=fun σ H Q=>ta σ H fun vs H1=>∃a b xs ys,vs = [.ref a,.ref b]∧SqL K H1 a xs∧SqL K H1 b ys∧∀ts H2,Qnl H1 (xs.zip ys) ts H2→∀l,H2 l=none→Q (.ref l) (upd H2 l (.lst ts))
theorem QnO {a b:Expr}{ta:TA}{p p' pos pos':Pos} (hc:X.calm=true) (hgl:Gl X "list") (hml:X.mg "list" = none) (hgz:Gl X "zip") (hmz:X.mg "zip" = none) (ha:PA X [a,b] ta)
  (hs:starEach [a,b] X.env=(false,eval a X.env)::starEach [b] X.env:=by exact Qbn rfl) (hpl:(backTo pos' (starEach [b] X.env)).any (·.1)=false:=by exact QbF rfl)
  (he:starEach [.Call (.Name "zip" p') [a,b] [] pos'] X.env=(false,eval (.Call (.Name "zip" p') [a,b] [] pos') X.env)::starEach [] X.env:=by exact Qbn rfl) :
  PE X (.Call (.Name "list" p) [.Call (.Name "zip" p') [a,b] [] pos'] [] pos) (tLZ X.K ta):=by
 intro pins s σ H Q I h;refine Call_ (QdJ I hgl hml QeS (PyProof.Rows.callWith_type1 ?_ he rfl));rw [he];show wpAny _ _ (spliced ((false,eval (.Call (.Name "zip" p') [a,b] [] pos') X.env)::backTo pos (starEach [] X.env))) _ _ s;refine Calls.spliced_cons ?_;refine Call_ (QdJ I hgz hmz boot_zip (PyProof.Rows.callWith_type1 (thn (ha pos' pins s σ H _ I h) fun us s1 ⟨vs,H1,I1,r1,q1⟩=>?_) hs hpl));obtain ⟨l1,l2,xs,ys,e,hq1,hq2,q⟩:=q1;subst e;obtain ⟨u1,u2,rfl,ru1,ru2⟩:=vals2 r1;cases ru1;cases ru2;obtain ⟨its1,rv1,pl1,hz1⟩:=I1.list hq1;obtain ⟨its2,rv2,pl2,hz2⟩:=I1.list hq2
 have a1:l1 < s1.heap.objs.size:=by obtain ⟨_,e,_⟩:=pl1.isList; exact zf e
 have a2:l2 < s1.heap.objs.size:=by obtain ⟨_,e,_⟩:=pl2.isList; exact zf e
 have len1:=rv1.length;have len2:=rv2.length
 refine call_zip_2 pl1.isList pl2.isList fun h' hz hTI hTO hit1 hit2 hsz hk=>?_
 refine Calls.spliced_nil ?_;refine QkB (s:={ s1 with heap:=h' }) (n:=min its1.length its2.length) (I.ok.hd hc) (zipApart_new a1 a2) (by omega) (by rw [zt]; omega) (by rw [zt]; omega) (by rw [zt,zt]; omega) hz hTI hTO hit1 hit2
  (pl1.isList.at fun o e=>hk l1 o e) (pl2.isList.at fun o e=>hk l2 o e) fun h2 acc c kp e1 e2 en e3=>?_
 have k:∀b o,s1.heap.get? b=some o→h2.get? b=some o:=fun b o e=>kp b o (fun hm=>by
  have:=zf e
  simp only [zn,List.not_mem_nil,or_false] at hm
  rcases hm with rfl | rfl | rfl | rfl
  ·exact Nat.not_lt.mpr (zW _ _) this
  ·exact Nat.not_lt.mpr (zW _ _) this
  ·exact zR _ this
  ·exact Nat.not_lt.mpr (zW _ _) this) (hk b o e)
 have hlen:acc.toList.length=(xs.zip ys).length:=by rw [Array.length_toList,e2,List.length_zip]; omega
 have hsz':({ s1 with heap:=h' }:Shared).heap.objs.size=s1.heap.objs.size+5:=hsz
 have hp:Paired (fun (p:V×V) (v:Value)=>∃T x y,v=Value.ref T∧RelV p.1 x∧RelV p.2 y∧IsPair h2 T x y∧s1.heap.objs.size≤T∧H1 T=none) (xs.zip ys) acc.toList:=Qkj _ _ hlen.symm fun j p v hpj hvj=>by
  obtain ⟨T,x,y,f1,f2,f3,f4,f5,f6⟩:=e3 j v (by simpa using hvj);rw [List.getElem?_zip_eq_some] at hpj;obtain ⟨w1,w1',w2⟩:=rv1.get hpj.1;obtain ⟨w3,w3',w4⟩:=rv2.get hpj.2
  have f2':its1[j]? = some x:=by simpa using f2
  have f3':its2[j]? = some y:=by simpa using f3
  rw [f2'] at w1';rw [f3'] at w3';cases w1';cases w3'
  have hle:s1.heap.objs.size≤T:=by omega
  exact ⟨T,x,y,f1,w2,w4,f4,hle,I1.hok.fresh hle⟩
 obtain ⟨ts,H2,g1,g2,g3,g4,g5⟩:=Qmr (P:=X.prog) (w:=X.w) (fs:=X.fs) (h:=s1.heap) (xs.zip ys) acc.toList H1 (Un.kept k) (I1.hok.kept k) en hp
 have hSn:H2 ({ s1 with heap:=h' }:Shared).heap.objs.size=none:=by
  rw [g5 _ fun hm=>?_]
  ·exact I1.hok.fresh (by omega)
  ·obtain ⟨j,hj⟩:=List.mem_iff_getElem?.mp hm;obtain ⟨T,x,y,f1,_,_,_,f5,_⟩:=e3 j _ (by simpa using hj);cases f1;exact f5 rfl
 have hts:ts.length≤sizeLine:=by
  have q1:=g2.length;have q2:acc.toList.length=acc.size:=Array.length_toList;omega
 have hok:=g4.more (o:=.lst ts) hSn ⟨hts,acc.toList,c,g2,by rw [Array.toArray_toList]; exact e1⟩;exact ⟨.ref _,upd H2 _ (.lst ts),I1.un (t':=s1.toks) (g3.more (o:=.lst ts) (by omega) hSn) hok,rfl,q ts H2 g1 _ hSn⟩
end
theorem Qk3 {K:Frag}{mg:Str→Option Value}{O:Qac}{as:List Addr}:∀(ds es:List D) (xs ys:List V) (H F:Hp) (ts:List V) (H2:Hp),RlO K mg O H F as→Rps K F as xs ds→Rps K F as ys es→Qnl H (xs.zip ys) ts H2→∃F2,Gr H F as H2 F2 as∧RlO K mg O H2 F2 as∧Rps K F2 as ts (Qcp ds es)
 | [],es,xs,ys,H,F,ts,H2,r,h1,h2,g=>by
  rw [h1.un0] at g;obtain ⟨rfl,rfl⟩:=g;exact ⟨F,Gr.refl,r,Rps.nil⟩
 | d::ds,[],xs,ys,H,F,ts,H2,r,h1,h2,g=>by
  rw [h2.un0,List.zip_nil_right] at g;obtain ⟨rfl,rfl⟩:=g;exact ⟨F,Gr.refl,r,Rps.nil⟩
 | d::ds,e::es,xs,ys,H,F,ts,H2,r,h1,h2,g=>by
  obtain ⟨x,xr,rfl,h3,h4⟩:=h1.un;obtain ⟨y,yr,rfl,h5,h6⟩:=h2.un;rw [List.zip_cons_cons] at g;obtain ⟨T,ts',rfl,hp,g⟩:=g;have hF:=r.frF hp
  have ff:Same F (upd F T (.tup [x,y])):=fun b u q=>by rw [Qap (QaD q hF)]; exact q
  have hs:Rps K F as [x,y] [d,e]:=Rps.cons h3 (Rps.cons h5 Rps.nil);have G1:Gr H F as (upd H T (.tup [x,y])) (upd F T (.tup [x,y])) as:=(Gr.lay hp).frz hp hF;have r1:RlO K mg O (upd H T (.tup [x,y])) (upd F T (.tup [x,y])) as:=(r.lay hp).frz QaF hF (fun z=>r.all z hp) rfl;have rT:Rp K (upd F T (.tup [x,y])) as (.ref T) (.tup [d,e]):=Rp.mkT (.inl QaF) (Rps.mono ff (fun _ _ z=>z) _ hs);obtain ⟨F2,G2,r2,q2⟩:=Qk3 ds es xr yr _ _ ts' H2 r1 (h4.gr G1) (h6.gr G1) g;exact ⟨F2,G1.trans G2,r2,Rps.cons (rT.gr G2) q2⟩
def gLZ:List D→Option D
 | [.lst ds,.lst es]=>some (.lst (Qcp ds es))
 | _=>none
section
variable {X:Cx}{md:List Md}{P:Pt}
theorem Qnr {a b:Expr}{ms:List Md}{ma:M (List D)}{p p' pos pos':Pos} (hc:X.calm=true) (hml:X.mg "list" = none) (hmz:X.mg "zip" = none) (ha:AE X md P ms [a,b] ma) (hgl:Gl X "list":=by rfl) (hgz:Gl X "zip":=by rfl)
  (hs:starEach [a,b] X.env=(false,eval a X.env)::starEach [b] X.env:=by exact Qbn rfl) (hpl:(backTo pos' (starEach [b] X.env)).any (·.1)=false:=by exact QbF rfl)
  (he:starEach [.Call (.Name "zip" p') [a,b] [] pos'] X.env=(false,eval (.Call (.Name "zip" p') [a,b] [] pos') X.env)::starEach [] X.env:=by exact Qbn rfl) :
  OE X md P (.Call (.Name "list" p) [.Call (.Name "zip" p') [a,b] [] pos'] [] pos) (Qav gLZ ma):=(QnO hc hgl hml hgz hmz ha hs hpl he).imp fun σ H Q q=>by
 have q':tCB (rC X.K X.mg gLZ) (tMA X.K X.mg md P ms ma) σ H Q:=Qhi q;obtain ⟨ρ,O,F,as,ds,O',r,s,e1,k⟩:=q';refine ⟨ρ,O,F,as,ds,O',r,s,e1,fun vs H1 F1 as1 g1 r1 hv=>?_⟩;obtain ⟨O2,F2,as2,es,d,r2,hvs,e,k2⟩:=k vs H1 F1 as1 g1 r1 hv;unfold gLZ at e;split at e
 ·rename_i xs ys;cases e;obtain ⟨v,u,rfl,hv1,hv2⟩:=hvs.two;obtain ⟨a1,x1,rfl,q1,q2⟩:=hv1.list r2.fh;obtain ⟨a2,x2,rfl,q3,q4⟩:=hv2.list r2.fh;refine ⟨a1,a2,x1,x2,rfl,q1.sq,q3.sq,fun ts H2 gr l hl=>?_⟩;obtain ⟨F3,G3,r3,p3⟩:=Qk3 xs ys x1 x2 H1 F2 ts H2 r2 q2 q4 gr;exact k2 _ _ F3 (G3.trans (Gr.lay hl)) (r3.lay hl) (.inr ⟨l,ts,_,rfl,rfl,QaF,r3.frF hl,fun z=>r3.all z hl,G3.dm l hl,p3⟩)
 ·cases e
end
section
end
end L2
namespace L2
open PySem PySem.Spec PyProof.Rows PySem.W
section
variable {X:Cx}{md:List Md}{P:Pt}
end
end L2
namespace L2
open PySem PySem.Spec PyProof.Rows
section
variable {X:Cx}{md:List Md}{P:Pt}{R:RR}
def QdE (n:Nat) (all:List D) (g:MG) (t:M Bool) (m:M D):List D→Qah→Qac→List D→Res (List D)
 | [],ρ,O,acc=>match O[n]? with
  | some (.ml es)=>if es.length=all.length then .ok acc O else .no
  | _=>.no
 | d::ds,ρ,O,acc=>match O[n]? with
  | some (.ml es)=>match es[all.length - (ds.length+1)]? with
   | some d'=>match g (.tup [.int ((all.length - (ds.length+1):Nat):Int),d']) ρ with
    | none=>.no
    | some ρ1=>match t ρ1 O with
     | .ok true O1=>match m ρ1 O1 with
      | .ok y O2=>QdE n all g t m ds ρ1 O2 (acc ++ [y])
      | .ex x O'=>.ex x O'
      | .no=>.no
     | .ok false O1=>QdE n all g t m ds ρ1 O1 acc
     | .ex x O'=>.ex x O'
     | .no=>.no
   | none=>.no
  | _=>.no
def Qe8 (m:M D) (own:Nat) (cap:List Nat) (g:MG) (t:M Bool) (e:M D):M D:=fun ρ O=>match m ρ O with
 | .ok (.ob n) O1=>match O1[n]? with
  | some (.ml ds)=>if ds.length≤1000000 then (QdE n ds g t e ds (Qf2 own cap ρ) O1 []).bind fun ys O2=>.ok (.lst ys) O2 else .no
  | _=>.no
 | _=>Qbw (QgF m) own cap g t e ρ O
theorem QqP {K:Frag}{mg:Str→Option Value}{m:M D}{σ:St}{H:Hp}{Q:It→Hp→Prop} (q:QqJ K mg md P (QgF m) σ H Q):Qju K (QkV (tM K mg md P (rW K P) m) Qln) σ H Q:=by
 obtain ⟨ρ,O,F,as,ds,O',r,s,e,k⟩:=q;obtain ⟨d,O1,e1,e⟩:=Res.bind_ok e
 cases d with
 | lst es =>
  cases e;refine ⟨ρ,_,F,as,_,_,r,s,e1,fun v H1 F1 as1 g1 r1 hv=>?_⟩;obtain ⟨a,xs,rfl,h1,h2⟩:=Qjo (mg:=mg) hv;refine ⟨a,rfl,⟨xs,(h2 H1 F1 as1 GrS.refl ⟨_,r1⟩).sq⟩,k _ H1 F1 as1 g1 r1 (JOk.e (P:=P) ⟨fun i d H2 F2 as2 g r e=>?_,fun H2 F2 as2 g r=>⟨xs,(h2 H2 F2 as2 g r).sq,by rw [Qev,h1.length]; exact zb _⟩⟩)⟩;rw [Qe6] at e
  cases q:es[i]? with
  | none=>rw [q] at e; cases e
  | some y =>
   rw [q] at e;cases e;obtain ⟨x,h3,h4⟩:=h1.get' q;have hq:=h2 H2 F2 as2 g r;refine ⟨⟨xs,x,hq.sq,h3⟩,fun z H3 hz=>?_⟩;obtain ⟨T,x',rfl,hT,rfl,hx'⟩:=hz
   have:=hx' xs hq.sq
   rw [h3] at this;cases this;rw [zC];exact Qe0 r hT (Rps.cons Rp.int (Rps.cons (h4.grS g) Rps.nil))
 | _=>cases e
theorem Qqv {K:Frag}{mg:Str→Option Value}{m:M D}{own:List Str}{cap:List Nat}{g:MG}{t:M Bool}{e:M D} (hcap:∀j∈cap,j < md.length) {σ:St}{H:Hp}{Q:VK} (q:tM K mg md P (rO K) (Qe8 m own.length cap g t e) σ H Q) :
  QkH (Qju K (QkV (tM K mg md P (rW K P) m) Qln)) own cap (xMG K mg (cMd own.length cap md) g) (xMT K mg (cMd own.length cap md) t) (xM K mg (cMd own.length cap md) (rV K) e) σ H Q:=by
 obtain ⟨ρ,O,F,as,d,OZ,r,s,eq,k⟩:=q;unfold Qe8 at eq;split at eq
 ·rename_i n O1 e1;split at eq
  ·rename_i ds e2;split at eq
   ·rename_i hz;obtain ⟨yf,O2,e3,eq⟩:=Res.bind_ok eq;cases eq;refine ⟨ρ,_,F,as,_,_,r,s,e1,fun v H1 F1 as1 g1 r1 hv=>?_⟩
    have hv':Rp K F1 as1 v (.ob n):=by
     rcases hv with hv | ⟨a,xs,ds',_,z,_⟩
     ·exact hv
     ·cases z
    obtain ⟨a,rfl,ha⟩:=Rp.unO hv';obtain ⟨xs0,x1,x2⟩:=r1.ml ha e2;have sb:=Qi7 (own:=own) (s.step g1) hcap
    refine ⟨a,rfl,⟨xs0,.inl (.inl x1)⟩,fun i n' ys σ' H'=>n'=ds.length - i∧i≤ds.length∧∃ρ' O' F' as' acc,Gr H1 F1 as1 H' F' as'∧RlO K mg O' H' F' as'∧SlO K (cMd own.length cap md) (Pt.all H1) ρ' σ' H' F' as'∧Rps K F' as' ys acc∧acc.length≤i ∧
     QdE n ds g t e (ds.drop i) ρ' O' acc = .ok yf OZ,⟨ds.length,by simp,Nat.zero_le _,Qf2 own.length cap ρ,O1,F1,as1,[],Gr.refl,r1,sb,Rps.nil,zb _,by rw [List.drop_zero]; exact e3⟩,?_⟩
    rintro i n' ys σ' H' ⟨rfl,hi,ρ',O',F',as',acc,g',r',s',hy,hl,ec⟩;have ha':=g'.at_ n a ha
    by_cases hlt:i < ds.length
    ·rw [List.drop_eq_getElem_cons hlt] at ec;unfold QdE at ec;split at ec
     ·rename_i es ee;obtain ⟨xs,y1,y2⟩:=r'.ml ha' ee
      have hidx:ds.length - ((ds.drop (i+1)).length+1)=i:=by rw [List.length_drop]; omega
      rw [hidx] at ec;split at ec
      ·rename_i d' ed;obtain ⟨x,hx,rx⟩:=y2.get' ed;have hsq:SqL K H' a xs:=.inl (.inl y1)
       refine .inr ⟨⟨xs,x,hsq,hx⟩,?_,fun ys σ2 H2=>∃ρ2 O3 F2 as2 acc2,Gr H1 F1 as1 H2 F2 as2∧RlO K mg O3 H2 F2 as2∧SlO K (cMd own.length cap md) (Pt.all H1) ρ2 σ2 H2 F2 as2∧Rps K F2 as2 ys acc2∧acc2.length≤i+1 ∧
        QdE n ds g t e (ds.drop (i+1)) ρ2 O3 acc2 = .ok yf OZ,fun ys2 σ2 H2 h2=>⟨ds.length - (i+1),by omega,rfl,hlt,h2⟩,fun z3 H3 y=>?_⟩
       ·rw [hy.length]
        have:=Qda hz
        omega
       obtain ⟨T,x2',rfl,hT,rfl,hyy⟩:=y;have hxx:=hyy xs hsq;rw [hx] at hxx;cases hxx;obtain ⟨F3,g3,r3,rp3⟩:=Qe0 ⟨_,r'⟩ hT (Rps.cons (Rp.int (i:=(i:Int))) (Rps.cons rx Rps.nil));have r3':=r3 O' r';have g13:=g'.trans g3
       cases eg:g (.tup [.int (i:Int),d']) ρ' with
       | none=>rw [eg] at ec; cases ec
       | some ρ1 =>
        rw [eg] at ec;dsimp only at ec;refine ⟨_,ρ',O',F3,as',_,ρ1,r3',s'.step g3,rp3,eg,fun σ4 s4=>?_⟩
        cases et:t ρ1 O' with
        | ex _ _=>rw [et] at ec; cases ec
        | no=>rw [et] at ec; cases ec
        | ok c O4 =>
         rw [et] at ec;refine ⟨_,ρ1,O',F3,as',c,O4,r3',s4,et,fun H5 F5 as5 g5 r5=>?_⟩
         cases c with
         | false =>
          rw [if_neg zp];exact ⟨ρ1,O4,F5,as5,acc,g13.trans g5,r5,s4.step g5,(hy.gr g3).gr g5,by omega,ec⟩
         | true =>
          rw [if_pos rfl];dsimp only at ec
          cases em:e ρ1 O4 with
          | ex _ _=>rw [em] at ec; cases ec
          | no=>rw [em] at ec; cases ec
          | ok yd O6 =>
           rw [em] at ec;refine ⟨_,ρ1,O4,F5,as5,yd,O6,r5,s4.step g5,em,fun vy H7 F7 as7 g7 r7 hvy=>?_⟩;exact ⟨ρ1,O6,F7,as7,acc ++ [yd],(g13.trans g5).trans g7,r7,(s4.step g5).step g7,(((hy.gr g3).gr g5).gr g7).snoc hvy,by rw [zg]; show acc.length+1≤i+1; omega,ec⟩
      ·cases ec
     ·cases ec
    ·have hi':i=ds.length:=by omega
     subst hi';rw [List.drop_length] at ec;unfold QdE at ec;split at ec
     ·rename_i es ee;split at ec
      ·rename_i hle;cases ec;obtain ⟨xs,y1,y2⟩:=r'.ml ha' ee;refine .inl ⟨⟨xs,.inl (.inl y1),by rw [y2.length,hle]; exact zb _⟩,?_,fun p hp=>?_⟩
       ·rw [hy.length];exact zD hl (Qda hz)
       ·have hF:F' p=none:=by
         cases q:F' p with
         | none=>rfl
         | some o=>rw [r'.fh p o q] at hp; cases hp
        exact k _ _ F' as' ((g1.trans g').trans (Gr.lay hp)) (r'.lay hp) (.inr ⟨p,ys,yf,rfl,rfl,QaF,hF,fun z=>r'.all z hp,(g1.trans g').dm p hp,hy⟩)
      ·cases ec
     ·cases ec
   ·cases eq
  ·cases eq
 ·exact QqP (Qix hcap ⟨ρ,O,F,as,d,OZ,r,s,eq,k⟩)
variable {elts:List Expr}{x1:Nat}{tpos:Pos}{a elt:Expr}{ifs:List Expr}{scope:Scope}{p pos pe:Pos}{m:M D}{g:MG}{t:M Bool}{e:M D}
theorem Qo3 {i:Nat}{x:Str}{pos' spos:Pos} (sc0:Scope) (N0 own:List Str) (cap:List Nat) (hN:X.N.Nodup) (hx:X.N[i]? = some x) (hl:Loc X.env.scope x) (hc:X.calm=true) (hme:X.mg "enumerate" = none) (hi:WE X md P a m)
  (hg:∀C s H ex P,VG (QaY X scope C (QaQ N0 own cap) s H ex) (cMd own.length cap md) P (.Tuple elts x1 tpos) g) (ht:∀C s H ex P,VIf (QaY X scope C (QaQ N0 own cap) s H ex) (cMd own.length cap md) P ifs t)
  (he:∀C s H ex P,VE (QaY X scope C (QaQ N0 own cap) s H ex) (cMd own.length cap md) P elt e)
  (hm:md[i]? = some .v:=by rfl) (hcap:∀j∈cap,j < md.length:=by decide) (hsw:swapsWith (.ListComp elt [⟨.Tuple elts x1 tpos,.Call (.Name "enumerate" p) [a] [] pe,ifs,0⟩] scope pos) (some (.Name x pos')) spos.line X.env=pure true:=by rfl)
  (hf:X.fn x=true∨X.env.scope.names.lookup x=some .local:=by first | exact .inl rfl | exact .inr rfl | assumption)
  (hG:Gl X "enumerate":=by rfl) (hs1:starEach [a] X.env = [(false,eval a X.env)]:=by exact Qfz rfl) (hs2:starEach [a] X.env=(false,eval a X.env)::starEach [] X.env:=by exact Qbn rfl)
  (hsc:X.env.scope=sc0:=by rfl) (hN0:X.N=N0:=by rfl) (ok:Qe5 sc0 N0 scope own cap=true:=by decide +kernel) (hs:∀x,foldedSetIterable (.Call (.Name "enumerate" p) [a] [] pe) X.env x=pure x:=by intro _; rfl) :
  VS X md P R (.Assign [.Name x pos'] (.ListComp elt [⟨.Tuple elts x1 tpos,.Call (.Name "enumerate" p) [a] [] pe,ifs,0⟩] scope pos) spos) (Qao i (Qe8 m own.length cap g t e)) :=
 (Qj2 (i:=i) sc0 N0 own cap hN hx hl hc (QiU hG hme (Qcx hi QdV hs2) hs1) (fun C s H ex=>xmg (hg C s H ex)) (fun C s H ex=>xmt (ht C s H ex)) (fun C s H ex=>xm (he C s H ex)) hsw hf hsc hN0 ok hs).imp fun D σ H q =>
  QjW hm (fun σ H Q z=>Qqv hcap (by
   obtain ⟨ρ,O,F,as,d,O',r,s,e,k⟩:=z;refine ⟨ρ,_,F,as,_,_,r,s,e,fun v H' F' as' g r' hv=>?_⟩
   rcases hv with ⟨_,hv⟩ | ⟨a,xs,ds,rfl,rfl,e3,e4,e5,e6,e7⟩
   ·exact k v H' F' as' g r' hv
   ·have ff:Same F' (upd F' a (.lst xs)):=fun b u q=>by rw [Qap (QaD q e4)]; exact q
    exact k _ H' (upd F' a (.lst xs)) as' (g.frz e6 e4) (r'.frz e3 e4 e5 rfl) (Rp.mkL (.inl (.inl QaF)) (Rps.mono ff (fun _ _ z=>z) _ e7)))) q
end
section
variable {X:Cx}{md:List Md}{P:Pt}{R:RR}{tg:Expr}
end
structure QbZ (mg:Str→Option Value):Prop extends Qto mg where
 reversed_:mg "reversed" = none
end L2
namespace L2
open PySem PySem.Spec PyProof.Rows PySem.W
def mdI:Option Int→List Int→Option Int
 | b,[]=>b
 | none,n::r=>mdI (some n) r
 | some m,n::r=>mdI (some (if n < m then n else m)) r
def MdV (d v:Value):Option Int→Prop
 | none=>v=d
 | some m=>∃t,v = .int m t
def MdB (bs:Array Value):Option Int→Prop
 | none=>bs = #[]
 | some m=>∃t,bs = #[.int m t,.int m t]
section
variable {prog:Program}{w:World}{A:Around}{E:Value→Shared→Prop}
theorem Qvj {id:String}{b:Builtin}{as:List Value}{kw:List (Str×Value)}{s:Shared}{Q:Value→Shared→Prop} (k0:builtinKind id=none) (p0:plainId id=true) (b0:entryFor table id=some b) (a0:argsOk id ⟨as,kw⟩)
  (c0:wpAny (model prog w) A.in1 (b ⟨as,kw⟩) (fun fin s'=>match fin with
   | .done f=>(match (Except.ok f:Result) with | .ok (.ret v)=>Q v s' | .ok _=>False | .error e=>E e s')
   | .again c=>c.quiet=true∧codeAny (model prog w) A c (fun r s'=>match r with | .ok (.ret v)=>Q v s' | .ok _=>False | .error e=>E e s') s') E s) :
  wpAny (model prog w) A (call (.builtin id) as kw) Q E s:=by
 refine wpAny_call (codeAny_call_builtin p0 b0 ?_);simp only [checkBuiltinCall,k0]
 cases g0:Manifest.signature? id with
 | none=>exact zc c0
 | some sg =>
  simp only [argsOk,g0] at a0;have z:Bind.checkArgs id sg ⟨as,kw⟩=pure ():=a0;show wpAny _ A.in1 (Bind.checkArgs id sg ⟨as,kw⟩) _ _ s;rw [z];exact zc c0
theorem Qub {n m:Int}{t u:Tok}{s:Shared}{Q:Value→Shared→Prop} (q:Q (.bool (decide (n < m))) s):wpAny (model prog w) A (richCompare .Lt (.int n t) (.int m u)) Q E s :=
 CmpOf.ints_lt (A:=A) (P:=fun i v=>∃t,v = .int (if i=0 then n else m) t) (fun i=>if i=0 then n else m) (fun _ _ z=>z) 0 1 _ _ s Q E ⟨t,rfl⟩ ⟨u,rfl⟩ q
theorem QrE {R:Result→Shared→Prop}{l i0 S:Addr}{its:List Value}{d:Value} (hh:A.in1.handled=none) (n1:l≠i0) (n2:S≠i0) (n3:S≠l) :
  ∀(us:List Value) (ns:List Int) (pre:List Value) (b:Option Int) (bs:Array Value) (s:Shared) (c:Nat),its=pre++us→QaG (ns.map V.int) us→s.heap.IsListIter i0 l pre.length→s.heap.IsList l its.toArray→MdB bs b →
   s.heap.get? S=some { cls:=.type "list",dict:=none,data:=.seq bs c,slots:=#[] } →
   (∀v h' tk,MdV d v (mdI b ns)→(∀x o,x≠i0→x≠S→s.heap.get? x=some o→h'.get? x=some o)→R (.ok (.ret v)) { s with heap:=h',toks:=tk }) →
   codeAny (model prog w) A (.builtin "min.loop" ⟨[.ref i0,.none,.ref S],[("default",d)]⟩) R s:=by
 have W:=Walks.list (prog:=prog) (w:=w) hh i0 l n1 its.toArray
 have nm:(toString "min" ++ toString ".loop":String) = "min.loop":=by decide
 have nS:S∉[i0]:=fun z=>n2 (zo.mp z)
 have ni:∀x:Addr,x≠i0→x∉[i0]:=fun x z y=>z (zo.mp y)
 intro us
 induction us with
 | nil =>
  intro ns pre b bs s c e rv it hl hb hS hR
  have ens:ns = []:=by
   cases ns with
   | nil=>rfl
   | cons=>cases rv
  subst ens
  have el:pre.length=its.toArray.size:=by rw [e]; simp
  rw [el] at it;refine codeAny_builtin PySem.F.entry_min_loop ?_;rw [Around.under_plainId PySem.F.plain_min_loop _];show wpAny _ A.in1 (seqItems? (.ref S) >>= _) _ _ s;refine za (wpAny_seqItems hS rfl ?_);show wpAny _ A.in1 (tryCatch (pyNext (.ref i0)) _ >>= _) _ _ s;refine za (wpAny_tryCatch (W.done s _ _ ⟨it,hl⟩ fun h1 tk kp=>?_));have hS1:=kp S _ nS hS
  cases b with
  | none =>
   have hb':bs = #[]:=hb;subst hb';show wpAny _ A.in1 (rule _ >>= _) _ _ _;refine za (wpAny_rule ?_);exact zc (hR d h1 tk rfl fun x o z1 z2 q=>kp x o (ni x z1) q)
  | some m =>
   obtain ⟨t,hb'⟩:=hb;subst hb';show wpAny _ A.in1 (updateSeq S (fun _=>#[]) >>= _) _ _ _;refine za ?_;refine je hS1 rfl (za (wpAny_letGo (zc ?_)))
   exact hR (.int m t) _ tk ⟨t,rfl⟩ fun x o z1 z2 q=>(jb _ _ (Ne.symm z2)).trans (kp x o (ni x z1) q)
 | cons u us ih =>
  intro ns pre b bs s c e rv it hl hb hS hR
  cases ns with
  | nil=>cases rv
  | cons n ns =>
   have rv':QaG (V.int n::ns.map V.int) (u::us):=rv
   obtain ⟨ru,rus⟩:RelV (.int n) u∧QaG (ns.map V.int) us:=by
    cases rv' with
    | cons a b=>exact ⟨a,b⟩
   obtain ⟨tu,rfl⟩:=ru
   have el:pre.length < its.toArray.size:=by rw [e]; simp
   have e':its=(pre ++ [Value.int n tu])++us:=by rw [e]; simp
   have eg:its.toArray[pre.length]? = some (Value.int n tu):=by rw [e]; simp
   refine codeAny_builtin PySem.F.entry_min_loop ?_;rw [Around.under_plainId PySem.F.plain_min_loop _];show wpAny _ A.in1 (seqItems? (.ref S) >>= _) _ _ s;refine za (wpAny_seqItems hS rfl ?_);show wpAny _ A.in1 (tryCatch (pyNext (.ref i0)) _ >>= _) _ _ s;refine za (wpAny_tryCatch (W.item pre.length s _ _ el ⟨it,hl⟩ fun v h1 tk hv st kp=>?_));rw [eg] at hv;cases hv;have hS1:=kp S _ nS hS
   have upd1:∀(h2:Heap) (y:Addr) (o:Obj),y≠S→h2.get? y=some o→∀f,(h2.update S f).get? y=some o:=fun h2 y o z q f=>(jb _ _ (Ne.symm z)).trans q
   have go:∀(b2:Option Int) (bs2:Array Value) (h2:Heap) (tk2:Nat) (c2:Nat),MdB bs2 b2→mdI b2 ns=mdI b (n::ns)→h2.get? S=some { cls:=.type "list",dict:=none,data:=.seq bs2 c2,slots:=#[] } →
     (∀x o,x≠S→h1.get? x=some o→h2.get? x=some o)→codeAny (model prog w) A (.builtin "min.loop" ⟨[.ref i0,.none,.ref S],[("default",d)]⟩) R { s with heap:=h2,toks:=tk2 }:=fun b2 bs2 h2 tk2 c2 q1 q2 q3 q4=>by
    have st2:=W.frame _ h1 h2 st fun x hx o q=>q4 x o (fun z=>by
     rcases zn.mp hx with rfl | hx
     ·exact n2 z.symm
     ·rcases zn.mp hx with rfl | hx
      ·exact n3 z.symm
      ·cases hx) q
    refine ih ns (pre ++ [Value.int n tu]) b2 bs2 _ c2 e' rus (by rw [zg]; exact st2.1) st2.2 q1 q3 fun v h3 tk3 z1 z2=>?_
    exact hR v h3 tk3 (q2 ▸ z1) fun x o y1 y2 q=>z2 x o y1 y2 (q4 x o y2 (kp x o (ni x y1) q))
   cases b with
   | none =>
    have hb':bs = #[]:=hb;subst hb';show wpAny _ A.in1 (updateSeq S (fun _=>#[Value.int n tu,Value.int n tu]) >>= _) _ _ _;refine za ?_;refine je hS1 rfl ?_;rw [nm];exact zc ⟨plainId_quiet PySem.F.plain_min_loop _,go (some n) _ _ _ _ ⟨tu,rfl⟩ rfl (Heap.get?_update_self _ hS1 rfl) fun x o z q=>upd1 _ x o z q _⟩
   | some m =>
    obtain ⟨t,hb'⟩:=hb;subst hb';show wpAny _ A.in1 (tryCatch (holding [Value.int n tu,Value.int n tu] (richCompare .Lt (.int n tu) (.int m t) >>= _)) _ >>= _) _ _ _;refine za (wpAny_tryCatch (zT (za (Qub ?_))));refine za (zT (wpAny_truthy_bool ?_));refine za (wpAny_letGo (zc ?_))
    by_cases hlt:n < m
    ·rw [zw hlt];simp only [if_true];refine za ?_;refine je hS1 rfl (za (wpAny_letGo ?_));rw [nm];exact zc ⟨plainId_quiet PySem.F.plain_min_loop _,go (some n) _ _ _ _ ⟨tu,rfl⟩ (by show _=mdI (some (if n < m then n else m)) ns; rw [if_pos hlt]) (Heap.get?_update_self _ hS1 rfl) fun x o z q=>upd1 _ x o z q _⟩
    ·rw [zk hlt];simp only [Bool.false_eq_true,if_false];refine za (wpAny_letGo ?_);rw [nm];exact zc ⟨plainId_quiet PySem.F.plain_min_loop _,go (some m) _ _ _ _ ⟨t,rfl⟩ (by show _=mdI (some (if n < m then n else m)) ns; rw [if_neg hlt]) hS1 fun x o z q=>q⟩
end
section
variable {X:Cx}{md:List Md}{P:Pt}{R:RR}
def tsF (n:Nat) (y:D) (O:Qac):Res D:=match QjY y,O[n]? with
 | some k,some (.dt kvs)=>match QcQ kvs k with
  | some d=>.ok d O
  | none=>.no
 | _,_=>.no
def Qq7 (mo my:M D):M D:=fun ρ O=>(mo ρ O).bind fun x O1=>match x with
 | .ob n=>(my ρ O1).bind fun y O2=>tsF n y O2
 | _=>.no
theorem Qst {kk:Nat} (hk:Qbu X.K=true) (hr:Qa6 kk X.A) {o i:Expr}{pos:Pos}{mo my:M D} (ho:VE X md P o mo) (hi:VE X md P i my) (hs:Qiy i:=by intro _ _; rfl):VE X md P (.Subscript o i pos) (Qq7 mo my) :=
 (QmS (QkO hr) ho hi hs).imp fun σ H Q q=>by
  obtain ⟨ρ,O,F,as,d,O',r,s,e,k⟩:=q;obtain ⟨x,O1,e1,e⟩:=Res.bind_ok e
  cases x with
  | ob n =>
   obtain ⟨y,O2,e2,e⟩:=Res.bind_ok e;unfold tsF at e;split at e
   ·rename_i ks kvs e3 e4;split at e
    ·rename_i d' e5;cases e;refine ⟨ρ,_,F,as,_,_,r,s,e1,fun x H1 F1 as1 g1 r1 hx=>⟨ρ,_,F1,as1,_,_,r1,s.step g1,e2,fun u H2 F2 as2 g2 r2 hu=>?_⟩⟩;obtain ⟨a,rfl,ha⟩:=Rp.unO hx;obtain ⟨xs,x1,x2⟩:=r2.dt (g2.at_ n a ha) e4;obtain ⟨b,rfl,hb⟩:=Rp.tkey hk hu e3
     rcases x2.val (k:=ks) with ⟨z1,z2⟩ | ⟨d2,v',z1,z2,z3⟩
     ·rw [z1] at e5; cases e5
     ·rw [z1] at e5;cases e5;refine ⟨a,v',rfl,?_,k _ H2 F2 as2 (g1.trans g2) r2 z3⟩;rw [←z2];exact QgP.t x1 (r2.fh _ _ hb)
    ·cases e
   ·cases e
  | _=>cases e
def QkI:List D→Option D
 | [.lst ds]=>(QfB ds).map fun ns=>match mdI none ns with
  | some m=>.int m
  | none=>.non
 | _=>none
theorem QpA (a d:Value):argsOk "min" ⟨[a],[("default",d)]⟩:=by unfold argsOk; kernel_rfl
theorem Qpt (hc:X.calm=true) {pins:List (Addr×Obj)}{s:Shared}{σ:St}{H:Hp}{a:Addr}{ns:List Int}{Q:VK} (I:Inv X pins σ H s) (hq:SqL X.K H a (ns.map V.int)) (q:Q (match mdI none ns with | some m=>.int m | none=>.non) H) :
  wpAny (model X.prog X.w) X.A (call (.builtin "min") [.ref a] [("default",.none)]) (EP X pins σ Q) X.xe s:=by
 obtain ⟨its,rv,pl,_⟩:=I.list hq;have hl:=pl.isList
 have la:a < s.heap.objs.size:=by obtain ⟨_,z,_⟩:=hl; exact zf z
 refine Qvj PySem.F.kind_min PySem.F.plain_min PySem.F.entry_min (QpA _ _) ?_;show wpAny _ X.A.in1 (Builtin.Builtins.bindParams "min" ["key","default"] 0 ⟨[],[("default",.none)]⟩ >>= _) _ _ s;refine za (wpAny_of_eq (show _=pure [none,some Value.none] from rfl) ?_);refine za (zc ?_);refine za (wpAny_pyIter_list hl ?_);refine za (wpAny_newObj_type ?_);rw [show (toString "min" ++ toString ".loop":String) = "min.loop" by decide];have sz:(s.heap.push { cls:=.type "list_iterator",data:=.fields #[.ref a,.int 0 0] }).objs.size=s.heap.objs.size+1:=Heap.size_push ..
 refine zc ⟨plainId_quiet PySem.F.plain_min_loop _,QrE (its:=its) (l:=a) (i0:=s.heap.objs.size) (d:=.none) (I.ok.hd hc) (zB la) (Nat.ne_of_gt (by rw [sz]; exact ji _)) (Nat.ne_of_gt (by rw [sz]; exact jk la)) its ns [] none #[] _ 0 rfl rv
  ⟨_,zy _ (zH _ rfl),rfl,rfl⟩ ((hl.push _).push _) rfl (zH _ rfl) fun v h1 tk hv kp=>?_⟩
 have kk:∀b o,s.heap.get? b=some o→h1.get? b=some o:=fun b o z=>kp b o (zB (zf z)) (zB (by rw [sz]; exact jk (zf z))) (zy _ (zy _ z))
 refine ⟨_,H,I.kept (t':=tk) kk,?_,q⟩
 cases e:mdI none ns with
 | none =>
  rw [e] at hv;exact hv
 | some m =>
  rw [e] at hv;exact hv
theorem Qsg {p pos p2 p3:Pos}{j:Nat}{e:Expr}{m:M D} (hc:X.calm=true) (hm:X.mg "min" = none) (ha:SE X md P e m) (hg:Gl X "min":=by rfl) (hs:starEach [e] X.env=(false,eval e X.env)::starEach [] X.env:=by exact Qbn rfl) (hpl:(backTo pos (starEach [e] X.env)).any (·.1)=false:=by exact QbF rfl)
  (he:backTo pos (starEach [e] X.env)=(false,eval e X.env)::backTo pos (starEach [] X.env):=by rfl) :
  OE X md P (.Call (.Name "min" p) [e] [⟨some "default",.Constant .none j p2,p3⟩] pos) (Qav QkI (Qab m Qae)):=by
 intro pins s σ H Q I q;refine wpAny_Call_Name_kw (QdJ I hg hm boot_min ?_ (by decide) (by decide));have q':=Qhi (ms:=[.s]) q;refine callWith_kw (thn ((Qaw ha Qai hs) pos pins s σ H _ I q') fun us s1 ⟨vs,H1,I1,r1,q1⟩=>?_) he hpl;refine kws_cons (Constant_none (kws_nil ?_));obtain ⟨O,F,as,ds,d,r,hvs,e,k⟩:=q1;unfold QkI at e;split at e
 ·rename_i es;obtain ⟨v,rfl,hv⟩:=hvs.one;obtain ⟨a,xs,rfl,h1,h2⟩:=hv.list r.fh;obtain ⟨u,rfl,ru⟩:=vals1 r1;cases ru
  cases hi:QfB es with
  | none=>rw [hi] at e; cases e
  | some ns =>
   rw [hi] at e;cases e;have hx:=h2.ints hi;refine Qpt hc I1 (ns:=ns) (by rw [←hx]; exact h1.sq) ?_
   cases em:mdI none ns with
   | none =>
    dsimp only at k;rw [em] at k;exact QbJ r k rfl Rp.non
   | some m =>
    dsimp only at k;rw [em] at k;exact QbJ r k rfl Rp.int
 ·cases e
end
def Itd (lo:Int) (n:Nat):It:=⟨fun i _=>i < n,fun i H x H'=>H'=H∧x = .int (lo - i),fun i _=>n≤i⟩
def Qc1 (lo:Int) (n:Nat):List D:=(List.range n).map fun i:Nat=>.int (lo - i)
theorem Qpo {P:Program}{w:World}{K:PySem.W.Frag}{tg:Expr} (it:Addr) (lo:Int) (n:Nat):Turn P w K tg (Itd lo n) [it] it (fun i h=>IsRangeIter h it (lo+(i:Nat) * (-1)) ((n:Int) - (i:Nat)) (-1)) where
 mem:=by simp
 obj:=fun i h st b hb=>by
  have e:b=it:=by simpa using hb
  subst e
  exact ⟨_,st,fun v z=>by
   have z':Data.fields _=Data.cell v:=z
   cases z'⟩
 keep:=fun i h h' st k=>k it (by simp) _ st
 item:=by
  intro X hP hw hK hc i pins s σ H E I hf st hg;subst hP hw hK;obtain ⟨f0,f1,f2,f3,f4,f5⟩:=hf it (by simp);have W:=Walks.range (prog:=X.prog) (w:=X.w) (I.ok.hd hc) it lo (-1) n
  refine W.item i s _ _ hg st fun v h' tk hv st' kk=>?_
  obtain ⟨t,rfl⟩:=hv;have I1:Inv X pins σ H { s with heap:=h',toks:=tk }:=I.turned (fun b o hb e=>kk b o (by simpa using hb) e) f0 f1 f3 f4 f5;refine ⟨_,rfl,Qiw (s:={ s with heap:=h',toks:=tk }) (n:="range_iterator") st' rfl rfl (by decide) ⟨.int (lo - i),H,I1,⟨t,?_⟩,⟨rfl,rfl⟩,st',fun b hb=>(hf b hb).1⟩⟩;rw [show lo+(i:Int) * (-1)=lo - i by omega]
 done:=by
  intro X hP hw hK hc i pins s σ H E I hf st hg;subst hP hw hK;obtain ⟨f0,f1,f2,f3,f4,f5⟩:=hf it (by simp)
  exact wpAny_pyNext_range_end (I.ok.hd hc) st (by have:n≤i:=hg; omega) fun h' eb=>⟨rfl,I.turned (t':=s.toks) (fun b o hb e=>eb b o hb e) f0 f1 f3 f4 f5⟩
 self:=fun _ _ _ _ _ st h=>wpAny_pyIter_rangeiter st h
section
variable {X:Cx}{tg:Expr}{md:List Md}{P:Pt}
theorem Qkn (a b:Int):Builtin.Range.rangeSize a b (-1)=if a > b then a - b else 0:=by
 unfold Builtin.Range.rangeSize;rw [if_neg (by decide)]
 split
 ·rw [show (-(-1:Int))=1 by decide,Int.ediv_one];omega
 ·rfl
theorem small_down {a b:Int} (ha:-(2 ^ 62)≤a) (ha':a < 2 ^ 62) (hb:-(2 ^ 62)≤b) (hb':b < 2 ^ 62):Builtin.Range.small a b (-1)=true:=by
 unfold Builtin.Range.small;rw [Qkn];simp only [Builtin.Range.rangeFitsLong,zv,Bool.or_eq_true,decide_eq_true_eq,beq_iff_eq,show ¬((-1:Int) > 0) by decide,if_false]
 split <;> omega
def QvH (ta:TA):TI:=fun σ H R=>ta σ H fun vs H1=>∃i j:Int,vs = [.int i,.int j,.int (-1)]∧(-(2 ^ 62)≤i∧i < 2 ^ 62∧-(2 ^ 62)≤j∧j < 2 ^ 62)∧R (Itd i (i - j).toNat) H1
theorem Qr5 {a b c:Expr}{ta:TA}{p pos:Pos} (hg:Gl X "range") (hm:X.mg "range" = none) (ha:PA X [a,b,c] ta) (hs:starEach [a,b,c] X.env = [(false,eval a X.env),(false,eval b X.env),(false,eval c X.env)]:=by rfl) (hs2:starEach [b,c] X.env = [(false,eval b X.env),(false,eval c X.env)]:=by rfl) :
  PI X tg (.Call (.Name "range" p) [a,b,c] [] pos) (QvH ta):=by
 intro pins s σ H R I h;refine Call_ (QdJ I hg hm boot_range (PyProof.Rows.callWith_type1 (thn (ha pos pins s σ H _ I h) fun us s1 ⟨vs,H1,I1,r1,q1⟩=>?_) (by rw [hs,hs2]) (by rw [hs2]; rfl)));obtain ⟨lo,hi,e,⟨h1,h2,h3,h4⟩,q⟩:=q1;subst e
 cases r1 with
 | cons r rr =>
  cases rr with
  | cons r' rr =>
   cases rr with
   | cons r'' rr =>
    cases rr;obtain ⟨t,rfl⟩:=r;obtain ⟨u,rfl⟩:=r';obtain ⟨v,rfl⟩:=r'';refine call_range_3 (by decide) ?_ (Or.inl (PyProof.noPylong_small (by omega)));refine wpAny_pyIter_range (IsRange.new ..) (small_down h1 h2 h3 h4) ?_
    have J:Inv X pins σ H1 { s1 with heap:=s1.heap.push { cls:=.type "range",data:=.fields #[.int lo t,.int hi u,.int (-1) v] },toks:=s1.toks }:=I1.kept fun b o e=>zy _ e
    refine ⟨(s1.heap.push { cls:=.type "range",data:=.fields #[.int lo t,.int hi u,.int (-1) v] }).objs.size,[(s1.heap.push { cls:=.type "range",data:=.fields #[.int lo t,.int hi u,.int (-1) v] }).objs.size],_,_,H1,rfl,
     J.kept (t':=s1.toks) fun b o e=>zy _ e,Qpo _ lo (lo - hi).toNat,?_,fun b hb=>?_,q⟩
    ·have e1:lo+((0:Nat):Int) * (-1)=lo:=by simp
     have e2:(((lo - hi).toNat:Nat):Int) - ((0:Nat):Int)=Builtin.Range.rangeSize lo hi (-1):=by rw [Qkn]; split <;> omega
     show IsRangeIter _ _ (lo+((0:Nat):Int) * (-1)) ((((lo - hi).toNat:Nat):Int) - ((0:Nat):Int)) (-1);rw [e1,e2];exact zH _ rfl
    ·have e:b=(s1.heap.push { cls:=.type "range",data:=.fields #[.int lo t,.int hi u,.int (-1) v] }).objs.size:=by simpa using hb
     subst e;exact J.fpOk (zb _) (J.hok.fresh (zb _))
theorem QqD {K:Frag}{mg:Str→Option Value}{lo:Int}{n:Nat}{H F:Hp}{as:List Addr}:JOk K mg P (Itd lo n) (Qc1 lo n) H F as:=Qi4 (fun i d H2 e=>by
 unfold Qc1 at e;rw [zm] at e
 by_cases hi:i < n
 ·rw [List.getElem?_range hi] at e;cases e;refine ⟨hi,fun x H3 y=>?_⟩;obtain ⟨e1,rfl⟩:=y;exact ⟨e1,fun _ _ _=>Rp.int⟩
 ·rw [zV (by simpa using hi)] at e
  cases e) fun H2=>by simp [Qc1,Itd]
def QkY (m:M (List D)):M (List D):=fun ρ O=>(m ρ O).bind fun ds O1=>match ds with
 | [.int i,.int j,.int c]=>if c = -1∧i≤1000000000∧-1000000000≤i∧j≤1000000000∧-1000000000≤j then .ok (Qc1 i (i - j).toNat) O1 else .no
 | _=>.no
theorem QbI.three {K:Frag}{H F:Hp}{as:List Addr}{m1 m2 m3:Md}{vs:List V}{d e f:D} (h:QbI K H F as [m1,m2,m3] vs [d,e,f]):∃v u z,vs = [v,u,z]∧rA K m1 (fun _=>True) H F as v d∧rA K m2 (fun _=>True) H F as u e∧rA K m3 (fun _=>True) H F as z f:=by
 cases vs with
 | nil=>exact h.elim
 | cons v vs =>
  obtain ⟨h1,h2⟩:=h;obtain ⟨u,z,rfl,h3,h4⟩:=QbI.two h2;exact ⟨v,u,z,rfl,h1,h3,h4⟩
theorem QsJ {a b c:Expr}{p pos:Pos}{m:M (List D)} (hm:X.mg "range" = none) (ha:AE X md P [.s,.s,.s] [a,b,c] m) (hg:Gl X "range":=by rfl) (hs:starEach [a,b,c] X.env = [(false,eval a X.env),(false,eval b X.env),(false,eval c X.env)]:=by rfl) (hs2:starEach [b,c] X.env = [(false,eval b X.env),(false,eval c X.env)]:=by rfl) :
  VI X md P tg (.Call (.Name "range" p) [a,b,c] [] pos) (QkY m):=(Qr5 hg hm ha hs hs2).imp fun σ H Q q=>by
 obtain ⟨ρ,O,F,as,ds,O',r,s,e,k⟩:=q;obtain ⟨es,O1,e1,e⟩:=Res.bind_ok e;split at e
 ·rename_i i j c;split at e
  ·rename_i hj;cases e;obtain ⟨rfl,hj⟩:=hj;refine ⟨ρ,_,F,as,_,_,r,s,e1,fun vs H1 F1 as1 g1 r1 hv=>?_⟩;obtain ⟨v,u,z,rfl,hv1,hu,hz⟩:=hv.three;have e3:=(Sv.rp hv1 rfl).unI;have e4:=(Sv.rp hu rfl).unI;have e5:=(Sv.rp hz rfl).unI;subst e3 e4 e5;exact ⟨i,j,rfl,⟨by omega,by omega,by omega,by omega⟩,k _ H1 F1 as1 g1 r1 QqD⟩
  ·cases e
 ·cases e
end
section
variable {X:Cx}{pins:List (Addr×Obj)}{σ:List (Option V)}{H:Hp}{s:Shared}{a:Addr}{xs:List (List Key×V)}{o:Obj}
theorem Inv.reword {u:HO} (I:Inv X pins σ H s) (ha:H a≠none) (hn:∀ys,H a≠some (.tup ys)) (ho:∀y,H a≠some (.own y)) (hb:∀ps,H a≠some (.tbl ps)) (hf:∀o u,X.H₀ a≠some (.frz o u)) (new:Qbq X.prog X.w (upd H a u) s.heap a u):Inv X pins σ (upd H a u) s where
 ok:=I.ok
 os:=I.os
 bare:=I.bare
 base:={
  keep:=I.base.keep
  slot:=I.base.slot
  free:=fun b o' q n hx=>by
   have z:=I.base.free b o' q n hx;rw [Qap (by intro e; have w:=z; rw [e] at w; exact ha w)];exact z
  there:=I.base.there
  tups:=fun b ys q=>by
   have z:=I.base.tups b ys q;rw [Qap (by intro e; have w:=z; rw [e] at w; exact hn ys w)];exact z
  frzs:=fun b o' u' q=>by
   have z:=I.base.frzs b o' u' q;rw [Qap (by intro e; have w:=q; rw [e] at w; exact hf o' u' w)];exact z
  tbls:=fun b ps q=>by
   obtain ⟨m,z⟩:=I.base.tbls b ps q
   exact ⟨m,by rw [Qap (by intro e; have w:=z; rw [e] at w; exact hb _ w)]; exact z⟩ }
 loc:=I.loc
 cell:=I.cell
 free:=by rw [Qap (by intro e; have w:=I.free; rw [e] at w; exact ha w)]; exact I.free
 freeC:=fun x c q=>by rw [Qap (by intro e; have w:=I.freeC x c q; rw [e] at w; exact ha w)]; exact I.freeC x c q
 pin:=fun p hp=>by
  obtain ⟨h1,h2,h3,h4,h5⟩:=I.pin p hp;exact ⟨h1,by rw [Qap (by intro e; have w:=h2; rw [e] at w; exact ha w)]; exact h2,h3,h4,h5⟩
 hok:=fun b u' q=>by
  by_cases e:b=a
  ·subst e;rw [QaF] at q;cases q;exact new
  ·rw [Qap e] at q
   exact (I.hok b u' q).stay (fun _ _ _ z=>z) (fun c z=>by rw [Qap (by intro e; have w:=z; rw [e] at w; exact ho b w)]; exact z) fun c ys z=>by rw [Qap (by intro e; have w:=z; rw [e] at w; exact hn ys w)]; exact z
 len:=I.len
theorem Inv.base0 (I:Inv X pins σ H s) (e:H a=some (.dT xs)):∀o u,X.H₀ a≠some (.frz o u):=fun o u z=>by
 have:=I.base.frzs a o u z
 rw [e] at this;cases this
theorem Inv.freeze (I:Inv X pins σ H s) (e:H a=some (.dT xs)):∃o,s.heap.get? a=some o∧Inv X pins σ (upd H a (.frz o (.dT xs))) s:=by
 have hx:=I.hok a _ e
 obtain ⟨o,ho⟩:∃u,s.heap.get? a=some u:=by
  obtain ⟨_,_,_,_,_,_,_,z,_⟩:=hx;exact ⟨_,z⟩
 refine ⟨o,ho,I.reword (by rw [e]; exact fun z=>nomatch z) (by rw [e]; exact fun _ z=>nomatch z) (by rw [e]; exact fun _ z=>nomatch z) (by rw [e]; exact fun _ z=>nomatch z) (I.base0 e) ⟨ho,?_⟩⟩
 exact Qbq.stay hx (fun _ _ _ z=>z) (fun c z=>by rw [Qap (fun q=>by rw [q,e] at z; cases z)]; exact z) fun c ys z=>by rw [Qap (fun q=>by rw [q,e] at z; cases z)]; exact z
theorem Inv.thaw (I:Inv X pins σ H s) (e:H a=some (.frz o (.dT xs))) (hf:∀o u,X.H₀ a≠some (.frz o u)):Inv X pins σ (upd H a (.dT xs)) s:=by
 obtain ⟨ho,hx⟩:=(show Qbq X.prog X.w H s.heap a (.frz o (.dT xs)) from I.hok a _ e);refine I.reword (by rw [e]; exact fun z=>nomatch z) (by rw [e]; exact fun _ z=>nomatch z) (by rw [e]; exact fun _ z=>nomatch z) (by rw [e]; exact fun _ z=>nomatch z) hf ?_
 exact Qbq.stay hx (fun _ _ _ z=>z) (fun c z=>by rw [Qap (fun q=>by rw [q,e] at z; cases z)]; exact z) fun c ys z=>by rw [Qap (fun q=>by rw [q,e] at z; cases z)]; exact z
end
section
variable {prog:Program}{w:World}{A:Around}{E:Value→Shared→Prop}{s:Shared}
theorem QpT {d:Addr}{o:Obj}{es:Array DictEntry}{ep:Nat}{Q:Value→Shared→Prop} (hd:(d == sysModules)=false) (ho:s.heap.get? d=some o) (hx:o.ExactDict) (hdat:o.data = .dict es ep)
  (hQ:Q (.ref s.heap.objs.size) { s with heap:=s.heap.push { cls:=.type "dict_keyiterator",data:=.fields #[.ref d,.int 0 0,.int es.size 0,.int ep 0] } }) :
  wpAny (model prog w) A (pyIter (.ref d)) Q E s:=by
 have hT:s.TypeIs (.ref d) "dict":=⟨o,ho,hx.1⟩;refine wpAny_pyIter_slot hT PySem.F.slot_dict_iter (wpAny_call_entry PySem.F.slot_dict_iter hT PySem.F.entry_dict_iter ?_ (PySem.F.args_dict_iter_1 _));unfold Builtin.«dict.__iter__»;refine za ?_;unfold Builtin.Dict.dictSlotNone;refine za (wpAny_notOrdered_dict hT ?_);show wpAny _ _ (pure (Value.ref d)) _ _ s;refine zc ?_;show wpAny _ _ (Builtin.Dict.showsAll d >>= _) _ _ s;unfold Builtin.Dict.showsAll;rw [if_neg (by rw [hd]; exact zp)];refine za (zc ?_);refine za (wpAny_dictEntries ho hdat ?_);refine za (wpAny_dictEpoch ho hdat ?_);refine za (wpAny_newObj_type (zc ⟨_,rfl,"dict_keyiterator",_,⟨_,zH _ rfl,rfl⟩,PySem.F.slot_dict_keyiterator_next.lookup,?_⟩))
 simpa [rawInt] using hQ
theorem Qqz {it d:Addr}{i n ep:Nat}{od:Obj}{es:Array DictEntry}{Q:Option Value→Shared→Prop} (hit:s.heap.IsKeyIter it d i n ep) (hod:s.heap.get? d=some od) (hdd:od.data = .dict es ep) (hsz:es.size=n) (hlt:i < n)
  (hQ:∀h',h'.IsKeyIter it d (i+1) n ep→Heap.SameBut it s.heap h'→Q (some (es[i]'(by omega)).key) { s with heap:=h' }) :
  wpAny (model prog w) A (pyNext (.ref it)) Q E s:=by
 obtain ⟨o,ho,hc,hd⟩:=id hit;unfold pyNext
 refine za (wpAny_attempt (wpAny_callSpecial?_slot (name:=Str.ofString "__next__") hit.typeIs PySem.F.slot_dict_keyiterator_next
  (wpAny_call_entry PySem.F.slot_dict_keyiterator_next hit.typeIs PySem.F.entry_dict_keyiterator_next ?_ (PySem.F.args_dict_keyiterator_next_1 _))))
 refine za (zc ?_);refine za ?_;refine za ?_
 first | refine za (wpAny_typeNameOfWhole_keyiter hit.typeIs (zc ?_)) | refine za (wpAny_typeNameOf_keyiter hit.typeIs (zc ?_))
 refine za (wpAny_fieldsOf ho hd ?_)
 have hown:Builtin.Dict_items.ownsTuple "dict_keyiterator" = false:=by decide
 simp only [hown,Bool.false_eq_true,if_false];show wpAny _ _ (if (Value.ref d == Value.none)=true then _ else _) _ _ s;rw [if_neg (show ¬((Value.ref d == Value.none)=true) from zp)];refine za (zc ?_);refine za (wpAny_dictEntries hod hdd ?_);rw [if_neg (by rw [hsz]; simp)];refine za (zc ?_);refine za (wpAny_dictEpoch hod hdd ?_);rw [if_neg (by simp)];refine zc ?_
 have hlt':i < es.size:=by rw [hsz]; exact hlt
 simp only [show ¬((i:Int) < 0) from by omega,if_false,Int.toNat_natCast,Array.getElem?_eq_getElem hlt'];refine za ?_
 first | refine za (wpAny_typeNameOfWhole_keyiter hit.typeIs (zc ?_)) | refine za (wpAny_typeNameOf_keyiter hit.typeIs (zc ?_))
 refine za (wpAny_isOneOf_keyiter hit.typeIs ?_);show wpAny _ _ (setField (.ref it) 1 (rawInt ((i:Int)+1)) >>= _) _ _ s;refine za (wpAny_setField ho hd (by simp) ?_);have hit':(s.heap.update it (Obj.mapFields (·.setIfInBounds 1 (rawInt ((i:Int)+1))))).IsKeyIter it d (i+1) n ep :=
  ⟨_,Heap.get?_update_self _ ho (Obj.isFreed_of_fields (Obj.data_mapFields hd _)),(Obj.cls_mapFields ..).trans hc,by rw [Obj.data_mapFields hd]; simp [rawInt]⟩
 refine za (zT ?_);refine za (wpAny_isOneOf_keyiter (s:={ s with heap:=s.heap.update it (Obj.mapFields (·.setIfInBounds 1 (rawInt ((i:Int)+1)))) }) hit'.typeIs ?_);show wpAny _ _ (pure es[i].key) _ _ _;exact zc (zc ⟨_,rfl,zc (hQ _ hit' (Heap.SameBut.update ..))⟩)
theorem QrN {it d:Addr}{i n ep:Nat}{od:Obj}{es:Array DictEntry}{Q:Option Value→Shared→Prop} (hh:A.handled=none) (hit:s.heap.IsKeyIter it d i n ep) (hod:s.heap.get? d=some od) (hdd:od.data = .dict es ep) (hsz:es.size=n) (hge:n≤i)
  (hQ:∀h',Heap.ExtBut it s.heap h'→Q none { s with heap:=h' }):wpAny (model prog w) A (pyNext (.ref it)) Q E s:=by
 obtain ⟨o,ho,hc,hd⟩:=id hit;unfold pyNext
 refine za (wpAny_attempt (wpAny_callSpecial?_slot (name:=Str.ofString "__next__") hit.typeIs PySem.F.slot_dict_keyiterator_next
  (wpAny_call_entry PySem.F.slot_dict_keyiterator_next hit.typeIs PySem.F.entry_dict_keyiterator_next ?_ (PySem.F.args_dict_keyiterator_next_1 _))))
 refine za (zc ?_);refine za ?_;refine za ?_
 first | refine za (wpAny_typeNameOfWhole_keyiter hit.typeIs (zc ?_)) | refine za (wpAny_typeNameOf_keyiter hit.typeIs (zc ?_))
 refine za (wpAny_fieldsOf ho hd ?_)
 have hown:Builtin.Dict_items.ownsTuple "dict_keyiterator" = false:=by decide
 simp only [hown,Bool.false_eq_true,if_false];show wpAny _ _ (if (Value.ref d == Value.none)=true then _ else _) _ _ s;rw [if_neg (show ¬((Value.ref d == Value.none)=true) from zp)];refine za (zc ?_);refine za (wpAny_dictEntries hod hdd ?_);rw [if_neg (by rw [hsz]; simp)];refine za (zc ?_);refine za (wpAny_dictEpoch hod hdd ?_);rw [if_neg (by simp)];refine zc ?_
 have hge':es.size≤i:=by rw [hsz]; exact hge
 simp only [show ¬((i:Int) < 0) from by omega,if_false,Int.toNat_natCast,Array.getElem?_eq_none hge'];refine za ?_
 first | refine za (wpAny_typeNameOfWhole_keyiter hit.typeIs (zc ?_)) | refine za (wpAny_typeNameOf_keyiter hit.typeIs (zc ?_))
 show wpAny _ _ (setField (.ref it) 0 .none >>= _) _ _ s;refine za (wpAny_setField ho hd (by simp) ?_);show wpAny _ _ (newExc (.type "StopIteration") [] >>= _) _ _ _;refine za ?_;simp only [newExc,newTuple];refine za (wpAny_newObj_type ?_ (by size_fits));refine za (m:=firstArgMember _ _) (wpAny_of_eq (a:=Value.none) (by first | rfl | (simp only [firstArgMember]; rfl)) ?_);refine wpAny_newObj_type ?_ (by size_fits);simp only [raiseNew];refine za (wpAny_handled ?_);rw [show A.in1.handled=none from hh];refine za (zc (wpAny_throw ?_));refine za (wpAny_isInstance (T:="StopIteration") (b:=true) ⟨_,zH _ rfl,rfl⟩ isSubtype_stop ?_)
 exact zc (hQ _ (((Heap.SameBut.update ..).extBut.push _).push _))
end
def Itq (a:Addr) (o:Obj):It :=
 ⟨fun i H=>∃ys:List (List Key×V),H a=some (.frz o (.dT ys))∧i < ys.length,
  fun i H x H'=>H'=H∧∀ys:List (List Key×V),H a=some (.frz o (.dT ys))→∃b p,x = .ref b∧ys[i]? = some p∧H b=some (.tup (p.1.map kV)),
  fun i H=>∃ys:List (List Key×V),H a=some (.frz o (.dT ys))∧ys.length≤i⟩
theorem Qn4 {α β:Type}{R:α→β→Prop}{l:List α}{m:List β} (h:Paired R l m):∀{i:Nat}{x:α}{y:β},l[i]? = some x→m[i]? = some y→R x y:=by
 induction h with
 | nil=>intro i x y h; cases h
 | cons a b ih =>
  intro i x y h1 h2
  cases i with
  | zero=>cases h1; cases h2; exact a
  | succ i=>exact ih h1 h2
theorem QlE {X:Cx}{pins:List (Addr×Obj)}{σ:St}{H:Hp}{s:Shared}{a:Addr}{o:Obj}{ys:List (List Key×V)} (I:Inv X pins σ H s) (e:H a=some (.frz o (.dT ys))) :
  s.heap.get? a=some o∧(a == sysModules)=false∧o.ExactDict∧∃es ep,o.data = .dict es ep∧es.size=ys.length∧∀(i:Nat) (h:i < es.size),∃b p,es[i].key = .ref b∧ys[i]? = some p∧H b=some (.tup (p.1.map kV)):=by
 obtain ⟨h1,z,y,xs,r,o',es,ep,h2,h3,h4,h5,h6⟩:=(show Qbq X.prog X.w H s.heap a (.frz o (.dT ys)) from I.hok a _ e);rw [h1] at h2;cases h2
 have hl:es.size=xs.length:=by rw [←Array.length_toList,h5,zd]
 have hr:ys.length=xs.length:=r.length;refine ⟨h1,y,h3,es,ep,h4,by omega,fun i hi=>?_⟩
 have hx:i < xs.length:=by omega
 have hy:i < ys.length:=by omega
 have ek:es.toList[i]? = some (entryOfKey (tupleKind (Qb6 X.prog X.w)) xs[i]):=by rw [h5,zm,zh hx]; rfl
 rw [Array.getElem?_toList,Array.getElem?_eq_getElem hi] at ek;have hh:=Qn4 r (zh hy) (zh hx);refine ⟨xs[i].2.1,ys[i],?_,zh hy,hh.2.1⟩
 injection ek with ek
 rw [ek];rfl
theorem Qqs {P:Program}{w:World}{K:Frag}{tg:Expr} (a it:Addr) (o:Obj) (es:Array DictEntry) (ep:Nat) (hd:o.data = .dict es ep):Turn P w K tg (Itq a o) [it] it (fun i h=>h.IsKeyIter it a i es.size ep) where
 mem:=by simp
 obj:=fun i h st b hb=>by
  have e:b=it:=by simpa using hb
  subst e;obtain ⟨o,e,c,d⟩:=st;exact ⟨o,e,fun v z=>by rw [d] at z; cases z⟩
 keep:=fun i h h' st k=>st.at fun o e=>k it (by simp) o e
 item:=by
  intro X hP hw hK hc i pins s σ H E I hf st hg;subst hP hw hK;obtain ⟨ys,hq,hlt⟩:=hg;obtain ⟨q1,q2,q3,es',ep',q4,q5,q6⟩:=QlE I hq;rw [hd] at q4;cases q4;obtain ⟨f0,f1,f2,f3,f4,f5⟩:=hf it (by simp)
  have hi:i < es.size:=by omega
  refine Qqz st q1 hd rfl hi fun h' st' sb=>?_
  have I1:Inv X pins σ H { s with heap:=h' }:=I.turned (t':=s.toks) (fun b o hb e=>(sb.2 b hb).trans e) f0 f1 f3 f4 f5;obtain ⟨b,p,k1,k2,k3⟩:=q6 i hi;rw [k1];obtain ⟨o2,e,c,d⟩:=id st';refine ⟨_,rfl,Qiw (s:={ s with heap:=h' }) e c d (by decide) ⟨.ref b,H,I1,rfl,⟨rfl,fun zs hz=>?_⟩,st',fun b hb=>(hf b hb).1⟩⟩;rw [hq] at hz;cases hz;exact ⟨b,p,rfl,k2,k3⟩
 done:=by
  intro X hP hw hK hc i pins s σ H E I hf st hg;subst hP hw hK;obtain ⟨ys,hq,hge⟩:=hg;obtain ⟨q1,q2,q3,es',ep',q4,q5,q6⟩:=QlE I hq;rw [hd] at q4;cases q4;obtain ⟨f0,f1,f2,f3,f4,f5⟩:=hf it (by simp)
  exact QrN (I.ok.hd hc) st q1 hd rfl (by omega) fun h' eb=>⟨rfl,I.turned (t':=s.toks) (fun b o hb e=>eb b o hb e) f0 f1 f3 f4 f5⟩
 self:=fun _ _ _ _ _ st h=>wpAny_pyIter_keyiter st h
def Qv8 (tl:TE):TI:=fun σ H R=>tl σ H fun x H1=>∃a xs,x = .ref a∧H1 a=some (.dT xs)∧∀o,R (Itq a o) (upd H1 a (.frz o (.dT xs)))
theorem Quc {X:Cx}{tg l:Expr}{tl:TE} (hl:PE X l tl):PI X tg l (Qv8 tl):=by
 intro pins s σ H R I h
 refine thn (hl pins s σ H _ I h) fun v s1 ⟨x,H1,I1,r1,q1⟩=>?_
 obtain ⟨a,xs,e,hq,q⟩:=q1;subst e;cases r1;obtain ⟨o,ho,I2⟩:=I1.freeze hq;obtain ⟨q1,q2,q3,es,ep,q4,q5,q6⟩:=QlE I2 QaF;refine QpT q2 q1 q3 q4 ?_;refine ⟨s1.heap.objs.size,[s1.heap.objs.size],_,_,upd H1 a (.frz o (.dT xs)),rfl,I2.kept (t':=s1.toks) fun b o e=>zy _ e,Qqs a _ o es ep q4,⟨_,zH _ rfl,rfl,rfl⟩,fun b hb=>?_,q o⟩
 have e:b=s1.heap.objs.size:=by simpa using hb
 subst e;exact I2.fpOk (zb _) (I2.hok.fresh (zb _))
section
variable {K:Frag}{mg:Str→Option Value}{O:Qac}{H F:Hp}{as:List Addr}
theorem Gr.tupF {b:Addr}{xs:List V} (hb:H b=some (.tup xs)) (hf:F b=none):Gr H F as H (upd F b (.tup xs)) as :=
 ⟨fun a o e _ hd=>Qap (fun z=>by rw [z,hb] at e; cases e; cases hd),fun a u e=>by rw [Qap (QaD e hf)]; exact e,⟨[],by simp,fun _ h=>nomatch h⟩,fun _ _ h _ _=>h,fun _ h=>h,fun _ _ _ h=>h⟩
theorem RlO.noT {b:Addr}{xs:List V} (r:RlO K mg O H F as) (hb:H b=some (.tup xs)):b∉as:=fun hm=>by
 obtain ⟨n,hn,e⟩:=List.mem_iff_getElem.mp hm
 have hO:n < O.length:=by rw [←r.len]; exact hn
 have q:=r.ob n b O[n] (by rw [zh hn,e]) (zh hO)
 revert q
 cases O[n] with
 | ins c fs=>rintro ⟨C,dx,gs,_,h2,_⟩; rw [hb] at h2; cases h2
 | ml ds=>rintro ⟨xs,h1,_⟩; rw [hb] at h1; cases h1
 | dt kvs=>rintro ⟨xs,h1,_⟩; rw [hb] at h1; cases h1
 | df kvs=>rintro ⟨o,xs,h1,_⟩; rw [hb] at h1; cases h1
theorem QjO:∀ks:List Key,Rps K F as (ks.map kV) (ks.map QnP)
 | []=>Rps.nil
 | .inl i::ks=>Rps.cons (show Rp K F as (.int i) (.int i) from rfl) (QjO ks)
 | .inr x::ks=>Rps.cons (show Rp K F as (.str x) (.str x.cps.toList) from by
   show V.str x=V.str (S x.cps.toList)
   rw [show S x.cps.toList=x by cases x; simp [S]]) (QjO ks)
theorem RlO.df {n:Nat}{a:Addr}{kvs:List (List Key×D)} (r:RlO K mg O H F as) (hn:as[n]? = some a) (hO:O[n]? = some (.df kvs)):∃o xs,H a=some (.frz o (.dT xs))∧DtR K F as xs kvs:=let ⟨o,xs,h1,h2,h3⟩:=r.ob n a _ hn hO; ⟨o,xs,h1,h2,h3⟩
end
section
variable {X:Cx}{md:List Md}{P:Pt}{R:RR}
def QqN (p:List Key×D):D:=.tup (p.1.map QnP)
def QgD (m:M D):M (List D):=fun ρ O=>(m ρ O).bind fun d O1=>match d with
 | .ob n=>match O1[n]? with
  | some (.dt kvs)=>.ok (kvs.map QqN) (O1.set n (.df kvs))
  | _=>.no
 | _=>.no
theorem QtI {tg e:Expr}{m:M D} (h:VE X md P e m):VI X md P tg e (QgD m):=(Quc h).imp fun σ H Q q=>by
 obtain ⟨ρ,O,F,as,ds,O',r,s,e,k⟩:=q;obtain ⟨d,O1,e1,e⟩:=Res.bind_ok e;split at e
 ·rename_i n;split at e
  ·rename_i kvs e2;cases e;refine ⟨ρ,_,F,as,_,_,r,s,e1,fun v H1 F1 as1 g1 r1 hv=>?_⟩;obtain ⟨a,rfl,ha⟩:=Rp.unO hv;obtain ⟨xs,x1,x2⟩:=r1.dt ha e2;refine ⟨a,xs,rfl,x1,fun o=>k (Itq a o) (upd H1 a (.frz o (.dT xs))) F1 as1 (g1.trans (QfD (zx ha) x1)) (r1.mutG ha ⟨o,xs,QaF,x2.1,x2.2⟩) ⟨fun i d H2 F2 as2 g2 r2 hd=>?_,fun H2 F2 as2 g2 r2=>?_⟩⟩
   ·have hz:=g2.kz a o _ QaF
    have hi:i < kvs.length:=by have:=(ze.mp hd).1; rwa [zd] at this
    have hi':i < xs.length:=by rw [x2.len]; exact hi
    refine ⟨⟨xs,hz,hi'⟩,fun x H3 y=>?_⟩;obtain ⟨rfl,hy⟩:=y;obtain ⟨b,p,rfl,hp,hb⟩:=hy xs hz
    have hk:p.1=kvs[i].1:=by
     have h1:(xs.map (·.1))[i]? = some p.1:=by rw [zm,hp]; rfl
     rw [x2.1,zm,zh hi] at h1
     injection h1 with h1
     exact h1.symm
    rw [zm,zh hi] at hd
    injection hd with hd
    subst hd
    have fin:∀F3:Hp,F3 b=some (.tup (p.1.map kV))→Rp X.K F3 as2 (.ref b) (QqN kvs[i]):=fun F3 h3=>⟨b,_,rfl,.inl h3,by rw [←hk]; exact QjO p.1⟩
    cases hF:F2 b with
    | some u =>
     obtain ⟨O2,r2'⟩:=r2
     have:=r2'.fh b u hF
     rw [hb] at this;cases this;exact ⟨F2,Gr.refl,fun _ r=>r,fin F2 hF⟩
    | none=>exact ⟨upd F2 b (.tup (p.1.map kV)),Gr.tupF hb hF,fun _ r=>r.frz hb hF (r.noT hb) rfl,fin _ QaF⟩
   ·exact ⟨xs,g2.kz a o _ QaF,by rw [zd,x2.len]; exact zb _⟩
  ·cases e
 ·cases e
end
def Qgz (i:Nat) (ms:MS):MS:=fun ρ O=>match ρ[i]? with
 | some (some (.ob n))=>match O[n]? with
  | some (.dt _)=>match ms ρ O with
   | .nx ρ2 O2=>match O2[n]? with
    | some (.df kvs)=>.nx ρ2 (O2.set n (.dt kvs))
    | _=>.no
   | _=>.no
  | _=>.no
 | _=>.no
section
variable {K:Frag}{mg:Str→Option Value}{md:List Md}{P:Pt}{ρ:Qah}{σ:St}{O:Qac}{H F H' F':Hp}{as as':List Addr}
theorem Qee.reH {m:Md}{v:V}{d:D}{a:Addr}{h:HO} (q:Qee P K H F as m v d) (ha:a∈as):Qee P K (upd H a h) F as m v d:=by
 cases m with
 | v=>exact q
 | s =>
  rcases q with q | ⟨c,xs,ds,e1,e2,e3,e4,e5,e6⟩
  ·exact .inl q
  ·exact .inr ⟨c,xs,ds,e1,e2,by rw [Qap (fun z=>e4 (by rw [z]; exact ha))]; exact e3,e4,e5,e6⟩
 | o =>
  rcases q with ⟨h1,q⟩ | ⟨c,xs,ds,e1,e2,e3,e0,e4,e5,e6⟩
  ·exact .inl ⟨h1,q⟩
  ·exact .inr ⟨c,xs,ds,e1,e2,by rw [Qap (fun z=>e4 (by rw [z]; exact ha))]; exact e3,e0,e4,e5,e6⟩
theorem SlO.reH {a:Addr}{h:HO} (s:SlO K md P ρ σ H F as) (ha:a∈as):SlO K md P ρ σ (upd H a h) F as :=
 ⟨s.len,s.len',fun c p z=>s.pd c p (by
  by_cases e:c=a
  ·rw [e,QaF] at z; cases z
  ·rwa [Qap e] at z),fun i m d e1 e2=>let ⟨v,q,r⟩:=s.sl i m d e1 e2; ⟨v,q,r.reH ha⟩,s.inj,s.pin⟩
theorem SlO.obAt {i n:Nat} (s:SlO K md P ρ σ H F as) (e:ρ[i]? = some (some (.ob n))):∃a,as[n]? = some a:=by
 have hi:i < md.length:=by rw [←s.len']; exact (ze.mp e).1
 obtain ⟨v,_,q⟩:=s.sl i _ _ (zh hi) e
 have hr:Rp K F as v (.ob n):=by
  revert q
  cases md[i] with
  | v=>exact fun q=>q
  | s =>
   rintro (q | ⟨a,xs,ds,_,z,_⟩)
   ·exact q
   ·cases z
  | o =>
   rintro (⟨_,q⟩ | ⟨a,xs,ds,_,z,_⟩)
   ·exact q
   ·cases z
 obtain ⟨a,_,ha⟩:=Rp.unO hr;exact ⟨a,ha⟩
theorem GrS.reH {a:Addr}{h:HO}{xs:List (List Key×V)} (g:GrS P H F as H' F' as') (ha:a∈as) (hx:H a=some (.dT xs)):GrS P H F as (upd H' a h) F' as' :=
 ⟨g.fz,g.ff,g.nw,fun c o p e hn hd=>by rw [Qap (fun z=>hn (by rw [z]; exact ha))]; exact g.fr c o p e hn hd,fun c e=>by
  by_cases z:c=a
  ·rw [z,QaF] at e; cases e
  ·rw [Qap z] at e; exact g.dm c e,fun c o u e=>by rw [Qap (fun z=>by rw [z,hx] at e; cases e)]; exact g.kz c o u e⟩
end
section
variable {X:Cx}{md:List Md}{P:Pt}{R:RR}
theorem Qrw (i:Nat) {st:Stmt}{ms:MS} (h:VS X md P R st ms):VS X md P R st (Qgz i ms):=fun pins s σ H D I q=>by
 obtain ⟨ρ,O,F,as,r,sl,k⟩:=q;unfold Qgz at k;split at k
 ·rename_i n e1;split at k
  ·rename_i kv0 e2;split at k
   ·rename_i ρ2 O2 e3;split at k
    ·rename_i kvs e4;obtain ⟨a,ha⟩:=sl.obAt e1;obtain ⟨xs0,x1,_⟩:=r.dt ha e2;have hf:=I.base0 x1
     refine thn (h pins s σ H { nx:=fun σ' H'=>∃F' as',GrS P H F as H' F' as'∧RlO X.K X.mg O2 H' F' as'∧SlO X.K md P ρ2 σ' H' F' as',rt:=fun _ _=>False } I ⟨ρ,O,F,as,r,sl,by rw [e3]; exact fun σ' H' F' as' g r s=>⟨F',as',g,r,s⟩⟩) fun f s' z=>?_
     cases f with
     | next =>
      obtain ⟨σ',H',I',F',as',g,r',s2⟩:=z;have ha':=g.at_ n a ha;have hm':=zx ha';obtain ⟨o,xs,y1,y2⟩:=r'.df ha' e4;exact ⟨σ',_,I'.thaw y1 hf,k σ' _ F' as' (g.reH (zx ha) x1) (r'.mutG ha' ⟨xs,QaF,y2.1,y2.2⟩) (s2.reH hm')⟩
     | brk=>obtain ⟨σ',H',_,z⟩:=z; exact z.elim
     | cont=>obtain ⟨σ',H',_,z⟩:=z; exact z.elim
     | ret u=>obtain ⟨v,σ',H',_,_,z⟩:=z; exact z.elim
    ·exact False.elim k
   ·exact False.elim k
  ·exact False.elim k
 ·exact False.elim k
def tsG (n:Nat) (y:D) (O:Qac):Res D:=match QjY y,O[n]? with
 | some k,some (.df kvs)=>match QcQ kvs k with
  | some d=>.ok d O
  | none=>.no
 | _,_=>tsF n y O
def QbL (mo my:M D):M D:=fun ρ O=>(mo ρ O).bind fun x O1=>match x with
 | .ob n=>(my ρ O1).bind fun y O2=>tsG n y O2
 | _=>.no
theorem QfL {kk:Nat} (hk:Qbu X.K=true) (hr:Qa6 kk X.A) {o i:Expr}{pos:Pos}{mo my:M D} (ho:VE X md P o mo) (hi:VE X md P i my) (hs:Qiy i:=by intro _ _; rfl):VE X md P (.Subscript o i pos) (QbL mo my):=fun pins s σ H Q I q=>by
 obtain ⟨ρ,O,F,as,d,O',r,sl,e,k⟩:=q;obtain ⟨x,O1,e1,e⟩:=Res.bind_ok e
 cases x with
 | ob n =>
  obtain ⟨y,O2,e2,e⟩:=Res.bind_ok e;unfold tsG at e;split at e
  ·rename_i ks kvs e3 e4;split at e
   ·rename_i d' e5;cases e;refine QmS (QkO hr) ho hi hs pins s σ H Q I ⟨ρ,_,F,as,_,_,r,sl,e1,fun x H1 F1 as1 g1 r1 hx=>⟨ρ,_,F1,as1,_,_,r1,sl.step g1,e2,fun u H2 F2 as2 g2 r2 hu=>?_⟩⟩;obtain ⟨a,rfl,ha⟩:=Rp.unO hx;obtain ⟨o,xs,x1,x2⟩:=r2.df (g2.at_ n a ha) e4;obtain ⟨b,rfl,hb⟩:=Rp.tkey hk hu e3
    rcases x2.val (k:=ks) with ⟨z1,z2⟩ | ⟨d2,v',z1,z2,z3⟩
    ·rw [z1] at e5; cases e5
    ·rw [z1] at e5;cases e5;refine ⟨a,v',rfl,?_,k _ H2 F2 as2 (g1.trans g2) r2 z3⟩;rw [←z2];exact .inr ⟨xs,ks,b,.inr ⟨o,x1⟩,rfl,r2.fh _ _ hb,rfl⟩
   ·cases e
  ·refine Qst hk hr ho hi hs pins s σ H Q I ⟨ρ,O,F,as,d,O',r,sl,?_,k⟩;unfold Qq7;rw [e1];show Res.bind (my ρ O1) _=_;rw [e2];exact e
 | _=>cases e
end
section
variable {X:Cx}{md:List Md}{P:Pt}{R:RR}
theorem Qsh (hk:Qbu X.K=true) {mo my:M D}{σ:St}{H:Hp}{Q:VK} (q:tM X.K X.mg md P (rO X.K) (Qj6 true my mo) σ H Q):Qml (tM X.K X.mg md P (rV X.K) my) (tM X.K X.mg md P (rV X.K) mo) σ H Q:=by
 obtain ⟨ρ,O,F,as,d,O',r,s,e,k⟩:=q;obtain ⟨y,O1,e1,e⟩:=Res.bind_ok e;obtain ⟨x,O2,e2,e⟩:=Res.bind_ok e;split at e
 ·rename_i n;split at e
  ·rename_i ks kvs e3 e4;cases e;refine ⟨ρ,_,F,as,_,_,r,s,e1,fun u H1 F1 as1 g1 r1 hu=>⟨ρ,_,F1,as1,_,_,r1,s.step g1,e2,fun x H2 F2 as2 g2 r2 hx=>?_⟩⟩;obtain ⟨a,rfl,ha⟩:=Rp.unO hx;obtain ⟨xs,x1,x2⟩:=r2.dt ha e4;obtain ⟨b,rfl,hb⟩:=Rp.tkey hk ((show Rp X.K F1 as1 u y from hu).gr g2) e3;refine ⟨a,_,rfl,QgP.t x1 (r2.fh _ _ hb),?_⟩
   rcases x2.val (k:=ks) with ⟨z1,z2⟩ | ⟨d',v',z1,z2,z3⟩
   ·rw [z1] at k;rw [z2];exact k _ H2 F2 as2 (g1.trans g2) r2 (.inl ⟨rfl,Rp.bl⟩)
   ·rw [z1] at k;rw [z2];exact k _ H2 F2 as2 (g1.trans g2) r2 (.inl ⟨rfl,Rp.bl⟩)
  ·cases e
 ·cases e
theorem QrX {kk:Nat} (hk:Qbu X.K=true) (hr:Qa6 kk X.A) {o i:Expr}{pos:Pos}{mo my:M D} (hi:VE X md P i my) (ho:VE X md P o mo) (hm:behindInMarks .NotIn o=false:=by with_unfolding_all rfl):TsE X md P (.Compare i [.NotIn] [o] pos) (Qar (Qj6 true my mo)) :=
 (QlN (Qoh (QkO hr) hi ho) hm).imp fun σ H Q h=>by
  have q:=Qgx h;exact Qsh hk q
def Qd0 (m:M D) (g:MG) (b:MS):MS:=fun ρ O=>match m ρ O with
 | .ok (.ob _) _=>Qhy m g b ρ O
 | _=>Qa8 (QnS m) g b ρ O
theorem Qlp {elts:List Expr}{x1:Nat}{tpos:Pos}{a:Expr}{p pos pos':Pos}{body:List Stmt}{m:M D}{g:MG}{b:MS} (hc:X.calm=true) (hm:X.mg "enumerate" = none) (hi:WE X md P a m) (hg:VG X md P (.Tuple elts x1 tpos) g) (hb:VSs X md P R body b)
  (hG:Gl X "enumerate":=by rfl) (hs1:starEach [a] X.env = [(false,eval a X.env)]:=by exact Qfz rfl) (hs2:starEach [a] X.env=(false,eval a X.env)::starEach [] X.env:=by exact Qbn rfl)
  (hp:PassesOwn (model X.prog X.w) X.A X.env X.xe:=by exact PassesOwn.never)
  (hs:∀x,foldedSetIterable (.Call (.Name "enumerate" p) [a] [] pos) X.env x=pure x:=by intro _; rfl):VS X md P R (.For (.Tuple elts x1 tpos) (.Call (.Name "enumerate" p) [a] [] pos) body [] pos') (Qd0 m g b):=fun pins s σ H D I q=>by
 obtain ⟨ρ,O,F,as,r,sl,k⟩:=q;unfold Qd0 at k;split at k
 ·exact QrJ hc hm hi hg hb hG hs1 hs2 hp hs pins s σ H D I ⟨ρ,O,F,as,r,sl,k⟩
 ·exact Qb1 hc (QrO hm hi hG hs1 hs2) hg hb hp hs pins s σ H D I ⟨ρ,O,F,as,r,sl,k⟩
end
end L2
namespace L2
open PySem PySem.Spec PyProof.Rows PySem.W PySem.Calls
section
variable {prog:Program}{w:World}{A:Around}{E:Value→Shared→Prop}{s:Shared}{a:Addr}{ss:List Str}
end
section
variable {prog:Program}{w:World}{A:Around}{E:Value→Shared→Prop}{s:Shared}{a:Addr}{ss:List Str}{o:Obj}{es:Array (Int×Value)}{ep:Nat}{t:SetTable}
end
section
variable {prog:Program}{w:World}{A:Around}{E:Value→Shared→Prop}{s:Shared}{a:Addr}{ss:List Str}{o:Obj}{es:Array (Int×Value)}{ep:Nat}{t:SetTable}
end
section
variable {X:Cx}
variable {md:List Md}{P:Pt}
end
structure Qx3 (mg:Str→Option Value):Prop extends Qto mg where
 set_:mg "set" = none
def lt2 (a1 a2 b1 b2:Str):Bool:=if a1=b1 then decide (a2.cps.toList < b2.cps.toList) else decide (a1.cps.toList < b1.cps.toList)
section
variable {prog:Program}{w:World}{A:Around}{E:Value→Shared→Prop}{s:Shared}{K:Frag}{H F:Hp}{as:List Addr}
end
section
variable {X:Cx}
end
end L2
namespace L2
open PySem PySem.Spec PyProof.Rows
section
variable {X:Cx}{md:List Md}{P:Pt}{R:RR}
def QgN (mo m:M D):MS:=fun ρ O=>match mo ρ O with
 | .ok (.ob n) O1=>match O1[n]? with
  | some (.ml _)=>match m ρ O1 with
   | .ok d O2=>match O2[n]?,QaI O2 d with
    | some (.ml ds),.lst es=>if ds.length+es.length≤1000000 then .nx ρ (O2.set n (.ml (ds++es))) else .no
    | _,_=>.no
   | _=>.no
  | _=>.no
 | _=>.no
theorem Qsb {o e:Expr}{apos cpos pos:Pos}{mo m:M D} (ho:VE X md P o mo) (h:SE X md P e m)
  (hbase:attributeBase o "extend" X.env (eval o X.env)=eval o X.env:=by rfl)
  (hfew:((backTo cpos (starEach [e] X.env)).all (fun x=>!x.1)&&(backToKw cpos (keywordEach [] X.env)).all (fun x=>x.1.isSome)&&decide ([e].length+([]:List Keyword).length+(if ([]:List Keyword).isEmpty then 0 else 1) < 30))=true:=by rfl)
  (hline:(apos.endLine == cpos.line)=true:=by rfl) (hs:starEach [e] X.env=(false,eval e X.env)::starEach [] X.env:=by exact Qbn rfl) (hplain:(backTo cpos (starEach [] X.env)).any (·.1)=false:=by exact QbF rfl)
  (hsw:swapsWith (.Call (.Attribute o "extend" apos) [e] [] cpos) none pos.line X.env=pure false:=by rfl) :
  VS X md P R (.Expr (.Call (.Attribute o "extend" apos) [e] [] cpos) pos) (QgN mo m) :=
 (QeV (QkR PySem.F.plainAttrs_list PySem.F.slot_list_extend PySem.F.type_list_extend QmO ho (Qcx h QdV hs) hbase hfew hline hs hplain) hsw).imp fun D σ H q=>by
  obtain ⟨ρ,O,F,as,r,s,k⟩:=q;unfold QgN at k;split at k
  ·rename_i n O1 e1;split at k
   ·rename_i ds0 e2;split at k
    ·rename_i d O2 e3;split at k
     ·rename_i ds es e4 e5;split at k
      ·rename_i hz;refine ⟨ρ,O,F,as,_,_,r,s,e1,fun v H1 F1 as1 g1 r1 hv=>?_⟩;obtain ⟨a,rfl,ha⟩:=Rp.unO hv;obtain ⟨xs0,x1,x2⟩:=r1.ml ha e2;refine ⟨.inl ⟨rfl,xs0,.inl (.inl x1)⟩,ρ,O1,F1,as1,d,O2,r1,s.step g1,e3,fun y H2 F2 as2 g2 r2 hy=>?_⟩;have ha2:=g2.at_ n a ha;obtain ⟨xs,y1,y2⟩:=r2.ml ha2 e4;have ly:=Sv.lk hy r2;rw [e5] at ly;obtain ⟨b,zs,rfl,w1,w2⟩:=ly.list r2.fh;have g3:Gr H2 F2 as2 (upd H2 a (.lst (xs++zs))) F2 as2:=QfD (zx ha2) y1;exact ⟨a,b,xs,zs,rfl,rfl,y1,w1,by rw [y2.length,w2.length]; exact Qda hz,k σ _ F2 as2 ((g1.trans g2).trans g3).toS (r2.mutO ha2 (Rps.append w2 y2)) (s.step ((g1.trans g2).trans g3))⟩
      ·exact False.elim k
     ·exact False.elim k
    ·exact False.elim k
   ·exact False.elim k
  ·exact False.elim k
end
section
variable {X:Cx}{md:List Md}{P:Pt}
variable {tg iter elt:Expr}{ifs:List Expr}{scope:Scope}{pos:Pos}{mi:M D}{g:MG}{t:M Bool}{e:M D}
end
end L2
namespace L2
open PySem PySem.Spec PyProof.Rows PySem.W
section
variable {X:Cx}{md:List Md}{P:Pt}{R:RR}
end
section
variable {X:Cx}{md:List Md}{P:Pt}{R:RR}
end
section
variable {Pr:Program}{w:World}{K:Frag}{mg:Str→Option Value}{base:Heap}
end
section
variable {X:Cx}{pins:List (Addr×Obj)}{σ:St}{H:Hp}{s:Shared}{ea:Addr}{oe:Obj}
def D2 (D:Ends):Ends:={ nx:=fun _ _=>False,rt:=D.rt }
end
end L2
namespace L2
open PySem PySem.Spec PyProof.Rows PySem.W PySem.Calls PySem.Builtin PySem.Builtin.ObjectAttr PySem.Builtin.Getset_descriptor
section
variable {prog:Program}{w:World}{A:Around}{E:Value→Shared→Prop}{K:Frag}{a C:Addr}{o:Obj}{h:Heap}{g:Array GenState}{d:Drawn}{t:Nat}{os:OsState}
structure Qx5 (K:Frag) (C:Addr):Prop where
 ga:findIn K (.ref C) "__getattribute__" = some (some (.builtin "BaseException.__getattribute__"))
 na:findIn K (.ref C) "__getattr__" = some none
 ca:findIn K (.ref C) "__class__" = some (some (.builtin "object.__class__"))
 sp:specialIn K (.builtin "object.__class__") "__get__" = some (some (.builtin "getset_descriptor.__get__"))
 tk:takesIn K (.builtin "object.__class__")=some true
 ob:mroIn K C (.type "object")=some true
 be:mroIn K C (.type "BaseException")=some true
 cl:(clsIn K C).isSome=true
end
end L2
namespace L2
open PySem PySem.Spec PyProof.Rows PySem.W
section
variable {X:Cx}{ea C:Addr}{oe:Obj}
end
section
variable {X:Cx}{md:List Md}{P:Pt}{R:RR}
end
section
variable {X:Cx}{ea C:Addr}{oe:Obj}{i:Nat}{b:Bool}{n:Str}{p p1 pos:Pos}
end
end L2
namespace L2
open PySem PySem.Spec PyProof.Rows
section
variable {X:Cx}
variable {md:List Md}{P:Pt}
end
end L2
namespace L2
open PySem PySem.Spec PyProof.Rows PySem.W
section
variable {prog:Program}{w:World}{A:Around}{E:Value→Shared→Prop}
end
section
variable {X:Cx}{md:List Md}{P:Pt}{R:RR}
end
section
variable {X:Cx}{md:List Md}{P:Pt}{R:RR}
end
section
variable {K:Frag}{h:Heap}{mg:Str→Option Value}
theorem mkD {x:Str}{st:Stmt}{f:Addr}{oc:Value}{od an:Option Addr}{sl:Array (Option Value)}{kV dc pm cd ct:Value} (X:K.In h) (G:h.Ns mainGlobals mg) (a:nsIn K mainGlobals x=some (some (.ref f))) (l:K.lookup f=some ⟨oc,od,.func (fnOf x x (QcH st) (QbO st) (Qas st) .none kV dc pm an cd ct),sl⟩) (c:codeIn K cd x=true) (k:keepIn K (.ref f)=true):Def K mg x st:=⟨_,_,mg_of X G a,Qle l c k⟩
structure ClsAt (K:Frag) (c:Str) (A:Addr):Prop where
 ns:nsIn K mainGlobals c=some (some (.ref A))
 pg:plainGet K A Str.empty=true
 hd:hasDictIn K A=true
 po:plainOver K A=true
 sa:findIn K (.ref A) "__setattr__" = some (some (.builtin "object.__setattr__"))
 mks:makesIn K A=true
 kc:keepIn K (.ref A)=true
def MethAt (K:Frag) (A:Addr) (m qual:Str) (st:Stmt):Prop:=∃f fd,findIn K (.ref A) m=some (some (.ref f))∧isFn K (.ref f)=true∧keepIn K (.ref f)=true∧Fun K m qual st f fd
theorem mkM {A:Addr}{m qual:Str}{st:Stmt}{f:Addr}{oc:Value}{od an:Option Addr}{sl:Array (Option Value)}{kV dc pm cd ct:Value} (a:findIn K (.ref A) m=some (some (.ref f))) (i:isFn K (.ref f)=true) (l:K.lookup f=some ⟨oc,od,.func (fnOf m qual (QcH st) (QbO st) (Qas st) .none kV dc pm an cd ct),sl⟩) (c:codeIn K cd qual=true) (k:keepIn K (.ref f)=true):MethAt K A m qual st:=⟨_,_,a,i,k,Qle l c k⟩
variable {A:Addr}{c:Str}
theorem ClsAt.cl (z:ClsAt K c A):Cls K A:=⟨z.pg,z.hd,z.po,z.sa⟩
theorem ClsAt.dm (z:ClsAt K c A) (X:K.In h) (G:h.Ns mainGlobals mg) {m qual:Str}{st:Stmt} (q:MethAt K A m qual st):QiO K mg c m qual st:=by
 obtain ⟨f,fd,a,i,k,fu⟩:=q;exact ⟨_,_,_,mg_of X G z.ns,z.cl,⟨a,i,k⟩,fu⟩
theorem ClsAt.dc (z:ClsAt K c A) (X:K.In h) (G:h.Ns mainGlobals mg) {qual:Str}{st:Stmt} (q:MethAt K A "__init__" qual st):Qqi K mg c qual st:=by
 obtain ⟨f,fd,a,i,k,fu⟩:=q;exact ⟨_,_,_,mg_of X G z.ns,⟨z.mks,a,i,z.kc⟩,fu⟩
theorem ClsAt.kf (z:ClsAt K c A) (X:K.In h) (G:h.Ns mainGlobals mg) {f:Str} (n:findIn K (.ref A) f=some none):KC K mg c f:=⟨_,mg_of X G z.ns,z.cl,n⟩
end
end L2
namespace L2
open PySem PySem.Spec PyProof.Rows
def ofO (o:Option D) (O:Qac):Res D:=match o with
 | some d=>.ok d O
 | none=>.no
@[simp] theorem Qen {d:D}{O:Qac}:ofO (some d) O = .ok d O:=rfl
@[simp] theorem Qam {α β:Type}{a:α}{O:Qac}{f:α→Qac→Res β}:(Res.ok a O).bind f=f a O:=rfl
@[simp] theorem QvQ {O:Qac}:QaI O .non = .non:=rfl
@[simp] theorem QeT {O:Qac}{b:Bool}:QaI O (.bl b) = .bl b:=rfl
@[simp] theorem QdF {O:Qac}{b:Int}:QaI O (.int b) = .int b:=rfl
@[simp] theorem Qkk {O:Qac}{b:List Nat}:QaI O (.str b) = .str b:=rfl
@[simp] theorem QcP {O:Qac}{b:List D}:QaI O (.lst b) = .lst b:=rfl
@[simp] theorem QvX {O:Qac}{b:List D}:QaI O (.tup b) = .tup b:=rfl
@[simp] theorem QvR {O:Qac}{a b:List D}:QaI O (.dic a b) = .dic a b:=rfl
@[simp] theorem Qje {i:Nat}{ρ:Qah}{O:Qac}:Qaa i ρ O=(match ρ[i]? with | some (some d)=>.ok d O | _=>.no):=rfl
@[simp] theorem m_c {d:D}{ρ:Qah}{O:Qac}:mC d ρ O = .ok d O:=rfl
@[simp] theorem Qrn {g:D→D→Option D}{a b:M D}{ρ:Qah}{O:Qac}:Qad g a b ρ O=(a ρ O).bind fun x O1=>(b ρ O1).bind fun y O2=>ofO (g (QaI O2 x) (QaI O2 y)) O2:=rfl
def gF (r:Res D):Res D:=match r with
 | .ok d O'=>if Qhc d=true then .ok d O' else .no
 | r=>r
@[simp] theorem m_g {m:M D}{ρ:Qah}{O:Qac}:mG m ρ O=gF (m ρ O):=rfl
@[simp] theorem Qxl {i:Int}{O:Qac}:gF (.ok (.int i) O) = .ok (.int i) O:=rfl
@[simp] theorem QxK {i:List Nat}{O:Qac}:gF (.ok (.str i) O) = .ok (.str i) O:=rfl
@[simp] theorem Qx0 {i:Bool}{O:Qac}:gF (.ok (.bl i) O) = .ok (.bl i) O:=rfl
@[simp] theorem QxC {O:Qac}:gF (.ok .non O) = .ok .non O:=rfl
@[simp] theorem Qxs {l:List D}{O:Qac}:gF (.ok (.tup l) O) = .ok (.tup l) O:=rfl
@[simp] theorem QxP {n:Nat}{O:Qac}:gF (.ok (.ob n) O) = .ok (.ob n) O:=rfl
def chF (o:Option D) (O:Qac) (f:Unit→Res D):Res D:=match o with
 | some (.bl true)=>f ()
 | some (.bl false)=>.ok (.bl false) O
 | _=>.no
@[simp] theorem QxM {b:Bool}{O:Qac}{f:Unit→Res D}:chF (some (.bl b)) O f=if b=true then f () else .ok (.bl false) O:=by cases b <;> rfl
@[simp] theorem QwZ {g g':D→D→Option D}{a b c:M D}{ρ:Qah}{O:Qac}:QoX g g' a b c ρ O=(a ρ O).bind fun x O1=>(b ρ O1).bind fun y O2=>chF (g (QaI O2 x) (QaI O2 y)) O2 fun _=>(c ρ O2).bind fun z O3=>ofO (g' (QaI O3 y) (QaI O3 z)) O3:=by
 unfold QoX;congr 1
@[simp] theorem Qvn {m:M D}{ρ:Qah}{O:Qac}:Qgl m ρ O=(m ρ O).bind fun d O1=>.ok (.bl (isNon d)) O1:=rfl
@[simp] theorem Qxv {m:M D}{ρ:Qah}{O:Qac}:Qew m ρ O=(m ρ O).bind fun d O1=>.ok (.bl (!isNon d)) O1:=rfl
@[simp] theorem QvS:isNon .non=true:=rfl
@[simp] theorem QvP {l:List D}:isNon (.lst l)=false:=rfl
@[simp] theorem QvW {l:List D}:isNon (.tup l)=false:=rfl
@[simp] theorem QvU {l:List Nat}:isNon (.str l)=false:=rfl
@[simp] theorem QvY {l:Int}:isNon (.int l)=false:=rfl
@[simp] theorem QwL {l:Nat}:isNon (.ob l)=false:=rfl
def teF (d:D) (O:Qac):Res Bool:=match d with
 | .bl b=>.ok b O
 | _=>.no
@[simp] theorem QoW {b:Bool}{O:Qac}:teF (.bl b) O = .ok b O:=rfl
@[simp] theorem QlC {m:M D}{ρ:Qah}{O:Qac}:Qar m ρ O=(m ρ O).bind teF:=rfl
def ofB (o:Option Bool) (O:Qac):Res Bool:=match o with
 | some d=>.ok d O
 | none=>.no
@[simp] theorem QfV {d:Bool}{O:Qac}:ofB (some d) O = .ok d O:=rfl
@[simp] theorem QjJ {m:M D}{ρ:Qah}{O:Qac}:Qbs m ρ O=(m ρ O).bind fun d O1=>ofB (QjN (QaI O1 d)) O1:=rfl
@[simp] theorem QgK {b:Bool}:QjN (.bl b)=some b:=rfl
@[simp] theorem Qww {b:List D}:QjN (.lst b)=some (!b.isEmpty):=rfl
@[simp] theorem QgE {a b:M Bool}{ρ:Qah}{O:Qac}:QcX a b ρ O=(a ρ O).bind fun c O1=>if c=true then b ρ O1 else .ok false O1:=rfl
@[simp] theorem QkL {a b:M Bool}{ρ:Qah}{O:Qac}:Qgp a b ρ O=(a ρ O).bind fun c O1=>if c=true then .ok true O1 else b ρ O1:=rfl
@[simp] theorem Qjy {a:M Bool}{ρ:Qah}{O:Qac}:Qb4 a ρ O=(a ρ O).bind fun c O1=>.ok (!c) O1:=rfl
def anF (d:D) (O:Qac) (f:Unit→Res D):Res D:=match d with
 | .bl true=>f ()
 | .bl false=>.ok (.bl false) O
 | _=>.no
def orF (d:D) (O:Qac) (f:Unit→Res D):Res D:=match d with
 | .bl true=>.ok (.bl true) O
 | .bl false=>f ()
 | _=>.no
@[simp] theorem Qjb {b:Bool}{O:Qac}{f:Unit→Res D}:anF (.bl b) O f=if b=true then f () else .ok (.bl false) O:=by cases b <;> rfl
@[simp] theorem QxZ {b:Bool}{O:Qac}{f:Unit→Res D}:orF (.bl b) O f=if b=true then .ok (.bl true) O else f ():=by cases b <;> rfl
@[simp] theorem QhO {a b:M D}{ρ:Qah}{O:Qac}:Qd3 a b ρ O=(a ρ O).bind fun d O1=>anF d O1 fun _=>b ρ O1:=by
 unfold Qd3;congr 1
@[simp] theorem Qx2 {a b:M D}{ρ:Qah}{O:Qac}:QuD a b ρ O=(a ρ O).bind fun d O1=>orF d O1 fun _=>b ρ O1:=by
 unfold QuD;congr 1
def noF (d:D) (O:Qac):Res D:=match d with
 | .bl b=>.ok (.bl (!b)) O
 | _=>.no
@[simp] theorem Qvo {b:Bool}{O:Qac}:noF (.bl b) O = .ok (.bl (!b)) O:=rfl
@[simp] theorem Qt3 {a:M D}{ρ:Qah}{O:Qac}:QkT a ρ O=(a ρ O).bind noF:=rfl
@[simp] theorem Qwz {t:M Bool}{a b:M D}{ρ:Qah}{O:Qac}:mIf t a b ρ O=(t ρ O).bind fun c O1=>if c=true then a ρ O1 else b ρ O1:=rfl
@[simp] theorem Qjn {ρ:Qah}{O:Qac}:Qae ρ O = .ok [] O:=rfl
@[simp] theorem Qds {m:M D}{r:M (List D)}{ρ:Qah}{O:Qac}:Qab m r ρ O=(m ρ O).bind fun d O1=>(r ρ O1).bind fun ds O2=>.ok (d::ds) O2:=rfl
@[simp] theorem Qrk {r:M (List D)}{ρ:Qah}{O:Qac}:Qa3 r ρ O=(r ρ O).bind fun ds O1=>if ds.length≤1000000 then .ok (.lst ds) O1 else .no:=rfl
@[simp] theorem QuU {r:M (List D)}{ρ:Qah}{O:Qac}:QaZ r ρ O=(r ρ O).bind fun ds O1=>if ds.length≤1000000 then .ok (.tup ds) O1 else .no:=rfl
@[simp] theorem QgJ {c:List D→Qac→Res D}{ma:M (List D)}{ρ:Qah}{O:Qac}:Qat c ma ρ O=(ma ρ O).bind fun ds O1=>c ds O1:=rfl
@[simp] theorem Qm0 {g:List D→Option D}{ma:M (List D)}{ρ:Qah}{O:Qac}:Qav g ma ρ O=(ma ρ O).bind fun ds O1=>ofO (g (ds.map (QaI O1))) O1:=rfl
@[simp] theorem Qx6 {g:D→Option D}{ma:M D}{ρ:Qah}{O:Qac}:mUn g ma ρ O=(ma ρ O).bind fun d O1=>ofO (g (QaI O1 d)) O1:=rfl
def isF (n:String) (o:Option String) (O:Qac):Res D:=match o with
 | some t=>.ok (.bl (QbH t n)) O
 | none=>.no
@[simp] theorem QpM {n t:String}{O:Qac}:isF n (some t) O = .ok (.bl (QbH t n)) O:=rfl
@[simp] theorem Qvt {n:String}{m:M D}{ρ:Qah}{O:Qac}:Qci n m ρ O=(m ρ O).bind fun d O1=>isF n (tyD (QaI O1 d)) O1:=rfl
@[simp] theorem Qxf:tyD .non=some "NoneType":=rfl
@[simp] theorem Qxz {b:Bool}:tyD (.bl b)=some "bool":=rfl
@[simp] theorem Qxj {b:Int}:tyD (.int b)=some "int":=rfl
@[simp] theorem Qxd {b:List Nat}:tyD (.str b)=some "str":=rfl
@[simp] theorem QwX {b:List D}:tyD (.lst b)=some "list":=rfl
@[simp] theorem Qw2 {b:List D}:tyD (.tup b)=some "tuple":=rfl
@[simp] theorem Qw1 {a b:List D}:tyD (.dic a b)=some "dict":=rfl
@[simp] theorem Qx4 {ρ:Qah}{O:Qac}:moN ρ O = .ok none O:=rfl
def osF (d:D) (O:Qac):Res (Option Int):=match d with
 | .int i=>.ok (some i) O
 | _=>.no
@[simp] theorem QkN {i:Int}{O:Qac}:osF (.int i) O = .ok (some i) O:=rfl
@[simp] theorem Qne {m:M D}{ρ:Qah}{O:Qac}:moS m ρ O=(m ρ O).bind osF:=rfl
@[simp] theorem QnV {m:M D}{lo hi:M (Option Int)}{ρ:Qah}{O:Qac}:mSl m lo hi ρ O=(m ρ O).bind fun d O1=>(lo ρ O1).bind fun l O2=>(hi ρ O2).bind fun h O3=>ofO (gSl (QaI O3 d) l h) O3:=rfl
@[simp] theorem Qxh {l:List Nat}{lo hi:Option Int}:gSl (.str l) lo hi=if l.length≤16777216 then some (.str (Qc2 l lo hi)) else none:=rfl
@[simp] theorem Qik {l:List D}{lo hi:Option Int}:gSl (.lst l) lo hi=some (.lst (Qc2 l lo hi)):=rfl
@[simp] theorem Qw5 {l:List D}{lo hi:Option Int}:gSl (.tup l) lo hi=some (.tup (Qc2 l lo hi)):=rfl
def Qg8 (f:Fl) (b:MS):Fl:=match f with
 | .nx ρ' O'=>b ρ' O'
 | r=>r
@[simp] theorem QaA {a b:MS}{ρ:Qah}{O:Qac}:Qaj a b ρ O=Qg8 (a ρ O) b:=rfl
@[simp] theorem Qay {ρ:Qah}{O:Qac}{b:MS}:Qg8 (.nx ρ O) b=b ρ O:=rfl
@[simp] theorem Qxe {d:D}{O:Qac}{b:MS}:Qg8 (.rt d O) b = .rt d O:=rfl
@[simp] theorem Qxc {ρ:Qah}{O:Qac}{b:MS}:Qg8 (.bk ρ O) b = .bk ρ O:=rfl
@[simp] theorem Qw0 {ρ:Qah}{O:Qac}{b:MS}:Qg8 (.ct ρ O) b = .ct ρ O:=rfl
@[simp] theorem Qxk {b:MS}:Qg8 .no b = .no:=rfl
@[simp] theorem Qce {ρ:Qah}{O:Qac}:QaO ρ O = .nx ρ O:=rfl
def Qhx (r:Res D):Fl:=match r with
 | .ok d O'=>.rt d O'
 | .ex x O'=>.ex x O'
 | .no=>.no
@[simp] theorem Qf8 {m:M D}{ρ:Qah}{O:Qac}:QaE m ρ O=Qhx (m ρ O):=rfl
@[simp] theorem Qxg {d:D}{O:Qac}:Qhx (.ok d O) = .rt d O:=rfl
def QqT (r:Res D) (ρ:Qah):Fl:=match r with
 | .ok _ O'=>.nx ρ O'
 | .ex x O'=>.ex x O'
 | .no=>.no
@[simp] theorem Qr7 {m:M D}{ρ:Qah}{O:Qac}:QhM m ρ O=QqT (m ρ O) ρ:=rfl
@[simp] theorem Qqw {d:D}{O:Qac}{ρ:Qah}:QqT (.ok d O) ρ = .nx ρ O:=rfl
def ifF (r:Res Bool) (a b:MS) (ρ:Qah):Fl:=match r with
 | .ok c O'=>if c=true then a ρ O' else b ρ O'
 | .ex x O'=>.ex x O'
 | .no=>.no
@[simp] theorem QkS {t:M Bool}{a b:MS}{ρ:Qah}{O:Qac}:QaM t a b ρ O=ifF (t ρ O) a b ρ:=rfl
@[simp] theorem QjF {c:Bool}{O:Qac}{a b:MS}{ρ:Qah}:ifF (.ok c O) a b ρ=if c=true then a ρ O else b ρ O:=rfl
def QlX (i:Nat) (r:Res D) (ρ:Qah):Fl:=match r with
 | .ok d O'=>.nx (ρ.set i (some d)) O'
 | .ex x O'=>.ex x O'
 | .no=>.no
@[simp] theorem Qlq {i:Nat}{m:M D}{ρ:Qah}{O:Qac}:Qao i m ρ O=QlX i (m ρ O) ρ:=rfl
@[simp] theorem Qj7 {i:Nat}{d:D}{O:Qac}{ρ:Qah}:QlX i (.ok d O) ρ = .nx (ρ.set i (some d)) O:=rfl
def QtU (r:Res (List D)) (g:MG) (b:MS) (ρ:Qah):Fl:=match r with
 | .ok ds O'=>Qbo g b ds ρ O'
 | .ex x O'=>.ex x O'
 | .no=>.no
@[simp] theorem Qcm {m:M (List D)}{g:MG}{b:MS}{ρ:Qah}{O:Qac}:Qa8 m g b ρ O=QtU (m ρ O) g b ρ:=rfl
@[simp] theorem Qb2 {ds:List D}{O:Qac}{g:MG}{b:MS}{ρ:Qah}:QtU (.ok ds O) g b ρ=Qbo g b ds ρ O:=rfl
@[simp] theorem mg_n {i:Nat}{d:D}{ρ:Qah}:mgN i d ρ=some (ρ.set i (some d)):=rfl
def Qa7 (f:Fl):Res D:=match f with
 | .rt d O'=>.ok d O'
 | .nx _ O'=>.ok .non O'
 | .ex x O'=>.ex x O'
 | _=>.no
@[simp] theorem QxL {n:Nat}{b:MS}{ds:List D}{O:Qac}:Qby n b ds O=Qa7 (b (ds.map some++List.replicate (n - ds.length) none) O):=rfl
@[simp] theorem Qw8 {d:D}{O:Qac}:Qa7 (.rt d O) = .ok d O:=rfl
@[simp] theorem Qw3 {ρ:Qah}{O:Qac}:Qa7 (.nx ρ O) = .ok .non O:=rfl
@[simp] theorem Qt6 {m:M (List D)}{ρ:Qah}{O:Qac}:Qch m ρ O=(m ρ O).bind fun ds O1=>match ds with
 | [.int j]=>if j≤1000000000∧-1000000000≤j then .ok (QbX 0 j.toNat) O1 else .no
 | _=>.no:=rfl
def itF (o:Option (List D)) (O:Qac):Res (List D):=match o with
 | some ds=>.ok ds O
 | none=>.no
@[simp] theorem QpR {ds:List D}{O:Qac}:itF (some ds) O = .ok ds O:=rfl
@[simp] theorem Quw {m:M D}{ρ:Qah}{O:Qac}:Qba m ρ O=(m ρ O).bind fun d O1=>itF (Qig d) O1:=rfl
@[simp] theorem QoU {ds:List D}:Qig (.lst ds)=some ds:=rfl
@[simp] theorem QvV {ds:List D}:Qig (.tup ds)=some ds:=rfl
@[simp] theorem QtY {m:M (List D)}{own:Nat}{cap:List Nat}{g:MG}{t:M Bool}{e:M D}{ρ:Qah}{O:Qac}:Qbw m own cap g t e ρ O=(m ρ O).bind fun ds O1=>if ds.length≤1000000 then (Qbl g t e ds (Qf2 own cap ρ) O1 []).bind fun ys O2=>.ok (.lst ys) O2 else .no:=rfl
@[simp] theorem QxG {i j:Int}:QaK (.int i) (.int j)=some (.int (i+j)):=rfl
@[simp] theorem QxJ {a b:List Nat}:QaK (.str a) (.str b)=if a.length+b.length≤1000000 then some (.str (a++b)) else none:=rfl
@[simp] theorem Qn2 {a b:List D}:QaK (.lst a) (.lst b)=if a.length+b.length≤1000000 then some (.lst (a++b)) else none:=rfl
@[simp] theorem QwT {i j:Int}:Qed (.int i) (.int j)=some (.int (i - j)):=rfl
@[simp] theorem Qtn {i j:Int}:QaT (.int i) (.int j)=if 0 < j then some (.int (i % j)) else none:=by
 unfold QaT gI
 by_cases h:0 < j <;> simp [h]
@[simp] theorem QrI {i j:Int}:QbB (.int i) (.int j)=if 0 < j∧j < 1073741824 then some (.int (i / j)) else none:=by
 unfold QbB gI
 by_cases h:0 < j∧j < 1073741824 <;> simp [h]
theorem QfJ {i j:Int} (h:(-(2 ^ 64) < i∧i < 2 ^ 64)∨(-(2 ^ 64) < j∧j < 2 ^ 64)):QbT (.int i) (.int j)=some (.int (i * j)):=by
 unfold QbT;dsimp only;rw [if_pos];rw [Bool.or_eq_true];unfold QfE;rw [zv,zv,decide_eq_true_eq,decide_eq_true_eq,decide_eq_true_eq,decide_eq_true_eq];exact h
@[simp] theorem QxO {i j:Int}:gLt (.int i) (.int j)=some (.bl (decide (i < j))):=rfl
@[simp] theorem QxY {i j:Int}:gGt (.int i) (.int j)=some (.bl (decide (j < i))):=rfl
@[simp] theorem QxU {i j:Int}:gGe (.int i) (.int j)=some (.bl (decide (j≤i))):=rfl
@[simp] theorem QxV {i j:Int}:gLe (.int i) (.int j)=some (.bl (decide (i≤j))):=rfl
theorem Qpm (a b:Nat):(([a]:List Nat) < [b])↔a < b:=by
 constructor
 ·intro h
  rcases List.cons_lt_cons_iff.mp h with h | ⟨_,h⟩
  ·exact h
  ·exact absurd h (List.not_lt_nil _)
 ·intro h;exact List.cons_lt_cons_iff.mpr (.inl h)
@[simp] theorem QxQ {a b:Nat}:gLe (.str [a]) (.str [b])=some (.bl (decide (a≤b))):=by
 show some (D.bl (!decide (([b]:List Nat) < [a])))=_
 have:decide (([b]:List Nat) < [a])=decide (b < a):=by
  by_cases h:b < a
  ·rw [zw h,zw ((Qpm _ _).mpr h)]
  ·rw [zk h,zk (fun z=>h ((Qpm _ _).mp z))]
 rw [this]
 by_cases h:b < a
 ·rw [zw h,zk (by omega)]; rfl
 ·rw [zk h,zw (by omega)]; rfl
@[simp] theorem Qri {i j:Int}:gEq (.int i) (.int j)=some (.bl (decide (i=j))):=rfl
@[simp] theorem Qq6 {i j:List Nat}:gEq (.str i) (.str j)=some (.bl (decide (i=j))):=rfl
@[simp] theorem QxT {i j:Bool}:gEq (.bl i) (.bl j)=some (.bl (decide (i=j))):=rfl
@[simp] theorem QqW {i j:List D}:gEq (.lst i) (.lst j)=if (okE (.lst i)&&okE (.lst j))=true then some (.bl (QcA (.lst i) (.lst j))) else none:=rfl
@[simp] theorem QvD {i j:Int}:gNe (.int i) (.int j)=some (.bl (!decide (i=j))):=rfl
@[simp] theorem Qro {i j:List Nat}:gNe (.str i) (.str j)=some (.bl (!decide (i=j))):=rfl
@[simp] theorem QxR {i j:Bool}:gNe (.bl i) (.bl j)=some (.bl (!decide (i=j))):=rfl
@[simp] theorem Qvv {i j:List D}:gNe (.lst i) (.lst j)=if (okE (.lst i)&&okE (.lst j))=true then some (.bl (!QcA (.lst i) (.lst j))) else none:=rfl
@[simp] theorem Qx1 {n:Bool}{c:Nat}{l:List Nat}:gIn n (.str [c]) (.str l)=some (.bl (n ^^ decide (c∈l))):=rfl
theorem Qgi {ds:List D}{i:Int}:gIx (.lst ds) (.int i)=atI ds i:=rfl
theorem Qrh {ds:List D}{i:Int}:gIx (.tup ds) (.int i)=atI ds i:=rfl
theorem Qq5 {l:List Nat}{i:Int}:gIx (.str l) (.int i)=if l.length≤1000000 then (atI l i).map (fun c=>.str [c]) else none:=rfl
@[simp] theorem QtL {l:List Nat}:QaV [.str l]=if l.length≤1000000 then some (.int l.length) else none:=rfl
@[simp] theorem Quz {l:List D}:QaV [.lst l]=some (.int l.length):=rfl
@[simp] theorem Qxw {l:List D}:QaV [.tup l]=some (.int l.length):=rfl
@[simp] theorem Qxt {i j:Int}:Qwq [.int i,.int j]=some (.int (if j > i then j else i)):=rfl
@[simp] theorem Qxr {i j:Int}:Qj0 [.int i,.int j]=some (.int (if j < i then j else i)):=rfl
@[simp] theorem Qxq {i:Int}:Qkc [.int i]=some (.int i):=rfl
@[simp] theorem Qtq {b:Bool}:Qkc [.bl b]=some (.int (if b then 1 else 0)):=rfl
@[simp] theorem QuB:Qc8 (.int 10) (.int 18)=some (.int 1000000000000000000):=by rfl
@[simp] theorem QtB:Qc8 (.int 10) (.int 9)=some (.int 1000000000):=by rfl
@[simp] theorem QdK {α:Type}{xs:List α}{j:Nat}:atI xs (j:Int)=xs[j]?:=by
 unfold atI ixN;rw [if_pos (by omega)]
 by_cases h:j < xs.length
 ·rw [if_pos (by omega)];simp
 ·rw [if_neg (by omega),zV (by omega)];rfl
theorem Qh0 {α:Type}{xs:List α}{i:Int} (h0:0≤i) (h1:i < xs.length):∃x,atI xs i=some x∧x∈xs:=by
 obtain ⟨j,rfl⟩:=Int.eq_ofNat_of_zero_le h0
 have hj:j < xs.length:=by omega
 exact ⟨xs[j],by show atI xs (j:Int)=_; rw [QdK,zh hj],jf hj⟩
section
variable {c:Prop} [Decidable c]
@[simp] theorem QwR {a b:Fl}:Qa7 (if c then a else b)=if c then Qa7 a else Qa7 b:=by split <;> rfl
@[simp] theorem QwG {a b:Res D}:Qhx (if c then a else b)=if c then Qhx a else Qhx b:=by split <;> rfl
@[simp] theorem Qwk {a b:Fl}{r:MS}:Qg8 (if c then a else b) r=if c then Qg8 a r else Qg8 b r:=by split <;> rfl
@[simp] theorem Qws {α β:Type}{a b:Res α}{f:α→Qac→Res β}:(if c then a else b).bind f=if c then a.bind f else b.bind f:=by split <;> rfl
@[simp] theorem Qxa {a b:Res Bool}{x y:MS}{ρ:Qah}:ifF (if c then a else b) x y ρ=if c then ifF a x y ρ else ifF b x y ρ:=by split <;> rfl
@[simp] theorem QwU {a b:Res D}{i:Nat}{ρ:Qah}:QlX i (if c then a else b) ρ=if c then QlX i a ρ else QlX i b ρ:=by split <;> rfl
@[simp] theorem QwW {a b:Option D}{O:Qac}:ofO (if c then a else b) O=if c then ofO a O else ofO b O:=by split <;> rfl
end
@[simp] theorem QoL:QbH "str" "str" = true:=by decide
@[simp] theorem Qxo:QbH "int" "str" = false:=by decide
@[simp] theorem QxH:QbH "bool" "str" = false:=by decide
@[simp] theorem Qxn:QbH "list" "str" = false:=by decide
@[simp] theorem Qxx:QbH "tuple" "str" = false:=by decide
@[simp] theorem Qxp:QbH "dict" "str" = false:=by decide
@[simp] theorem QxD:QbH "NoneType" "str" = false:=by decide
@[simp] theorem QxE:QbH "int" "int" = true:=by decide
@[simp] theorem QxI:QbH "int" "bool" = false:=by decide
@[simp] theorem Qw7:QbH "bool" "bool" = true:=by decide
@[simp] theorem QmN:QbH "list" "list" = true:=by decide
@[simp] theorem QmE:QbH "tuple" "tuple" = true:=by decide
@[simp] theorem Qw9:QbH "NoneType" "list" = false:=by decide
theorem QbM {g:MG}{b:MS} (Pv:Nat→Qah→Qac→Prop):∀(ds:List D) (k:Nat) (ρ:Qah) (O:Qac),Pv k ρ O →
  (∀i d ρ O,ds[i]? = some d→Pv (k+i) ρ O→∃ρ1,g d ρ=some ρ1∧∃ρ2 O2,(b ρ1 O = .nx ρ2 O2∨b ρ1 O = .ct ρ2 O2)∧Pv (k+i+1) ρ2 O2)→∃ρ' O',Qbo g b ds ρ O = .nx ρ' O'∧Pv (k+ds.length) ρ' O'
 | [],k,ρ,O,h,_=>⟨ρ,O,rfl,h⟩
 | d::ds,k,ρ,O,h,hs=>by
  obtain ⟨ρ1,e1,ρ2,O2,e2,h2⟩:=hs 0 d ρ O rfl h
  obtain ⟨ρ',O',e3,h3⟩:=QbM Pv ds (k+1) ρ2 O2 h2 fun i d' ρ' O' hi hp=>by
   have:=hs (i+1) d' ρ' O' (by simpa using hi) (by rw [show k+(i+1)=k+1+i by omega]; exact hp)
   rw [show k+(i+1)+1=k+1+i+1 by omega] at this;exact this
  refine ⟨ρ',O',?_,by rw [zA,show k+(ds.length+1)=k+1+ds.length by omega]; exact h3⟩;unfold Qbo;rw [e1];dsimp only
  rcases e2 with e2 | e2 <;> rw [e2] <;> exact e3
theorem QhX {g:MG}{t:M Bool}{m:M D} (Pv:Qah→Prop) (p:D→Bool):∀(ds:List D) (ρ:Qah) (O:Qac) (acc:List D),Pv ρ→(∀d∈ds,∀ρ,Pv ρ→∃ρ1,g d ρ=some ρ1∧Pv ρ1∧t ρ1 O = .ok (p d) O∧m ρ1 O = .ok d O)→Qbl g t m ds ρ O acc = .ok (acc++ds.filter p) O
 | [],ρ,O,acc,_,_=>by simp [Qbl]
 | d::ds,ρ,O,acc,h,hs=>by
  obtain ⟨ρ1,e1,h1,e2,e3⟩:=hs d zq ρ h
  have ih:=fun acc=>QhX Pv p ds ρ1 O acc h1 fun d' hd'=>hs d' (zu _ hd')
  unfold Qbl;rw [e1];dsimp only;rw [e2]
  cases q:p d with
  | true =>
   dsimp only;rw [e3];dsimp only;rw [ih,List.filter_cons,q];simp
  | false =>
   dsimp only;rw [ih,List.filter_cons,q];simp
@[simp] theorem Qxm {ρ:Qah}{O:Qac}:QvM ρ O = .ok [] O:=rfl
@[simp] theorem Qxb {a b:M D}{r:M (List (D×D))}{ρ:Qah}{O:Qac}:Quu a b r ρ O=(a ρ O).bind fun x O1=>(b ρ O1).bind fun y O2=>(r ρ O2).bind fun ps O3=>.ok ((x,y)::ps) O3:=rfl
def diF (o:Option (List Key)) (kv:List (D×D)) (O:Qac):Res D:=match o with
 | some ks=>if ks.Nodup∧kv.length≤15 then .ok (.dic (kv.map (·.1)) (kv.map (·.2))) O else .no
 | none=>.no
@[simp] theorem Qv1 {ks:List Key}{kv:List (D×D)}{O:Qac}:diF (some ks) kv O=if ks.Nodup∧kv.length≤15 then .ok (.dic (kv.map (·.1)) (kv.map (·.2))) O else .no:=rfl
@[simp] theorem Qxu {m:M (List (D×D))}{ρ:Qah}{O:Qac}:Qvy m ρ O=(m ρ O).bind fun kv O1=>diF (keysOf kv) kv O1:=rfl
@[simp] theorem Qw4 {i:Int}:keyOf (.int i)=some (.inl i):=rfl
@[simp] theorem Qw6 {i:List Nat}:keyOf (.str i)=some (.inr (S i)):=rfl
@[simp] theorem Qvk:keysOf []=some []:=rfl
@[simp] theorem QuR {a b:D}{r:List (D×D)}:keysOf ((a,b)::r)=(keyOf a).bind fun k=>(keysOf r).map (k :: ·):=rfl
def joF (o:Option (List (List Nat))) (O:Qac):Res D:=match o with
 | some ls=>if (ls.map List.length).sum≤1000000 then .ok (.str ls.flatten) O else .no
 | none=>.no
@[simp] theorem Qv6 {ls:List (List Nat)}{O:Qac}:joF (some ls) O=if (ls.map List.length).sum≤1000000 then .ok (.str ls.flatten) O else .no:=rfl
def jdF (d:D) (O:Qac):Res D:=match d with
 | .lst ds=>joF (QkU ds) O
 | _=>.no
@[simp] theorem QxW {ds:List D}{O:Qac}:jdF (.lst ds) O=joF (QkU ds) O:=rfl
@[simp] theorem QxB {m:M D}{ρ:Qah}{O:Qac}:Qva m ρ O=(m ρ O).bind fun d O1=>jdF (QaI O1 d) O1:=rfl
@[simp] theorem QxN {own:Nat}{cap:List Nat}{ρ:Qah}:Qf2 own cap ρ=List.replicate own none++cap.map fun j=>(ρ[j]?).join:=rfl
@[simp] theorem QvT {g:MG}{t:M Bool}{m:M D}{ρ:Qah}{O:Qac}{acc:List D}:Qbl g t m [] ρ O acc = .ok acc O:=rfl
theorem QgQ:∀ds:List D,Qf1 ds=ds.map toP
 | []=>rfl
 | d::ds=>by rw [Qf1,QgQ ds]; rfl
theorem QiE:∀{ds:List D},(∀d∈ds,QbD d=true)→QdZ ds=true
 | [],_=>rfl
 | d::ds,h=>by rw [QdZ,h d zq,QiE fun x hx=>h x (zu _ hx)]; rfl
theorem Qib {n:Nat} (hn:n < 60) {ds:List D} (h:∀d∈ds,QbD d=true∧(toP d).canLay0=true∧(toP d).depth≤n):okE (.lst ds)=true:=by
 unfold okE;rw [zv];refine ⟨?_,?_⟩
 ·rw [QbD]; exact QiE fun d hd=>(h d hd).1
 ·rw [toP,QgQ]
  refine Qr4 hn fun d hd=>?_
  obtain ⟨x,hx,rfl⟩:=zL.mp hd;exact (h x hx).2
theorem QfG {l:List Nat} (h:∀c∈l,c < 1114112):(PyData.str (S l)).canLay0=true:=by
 show PyData.strOk (S l)=true;unfold PyData.strOk S;simp;exact h
theorem QhC {d:D} (h:okE d=true):QcA d d=true:=by
 unfold okE at h;rw [zv] at h
 have:=h.2
 unfold okD at this;rw [zv] at this;exact SeqAt.eqv_refl _ this.1
def it (f:Int→Int):Nat→Int→Int
 | 0,x=>x
 | n+1,x=>f (it f n x)
def mix (n k:Int):Int:=if n > 1000000000000000000 then it (fun r=>r / 1000000000) k.toNat n % 1000000000
 else
  let m:=it (fun m=>(m * 48271+104729) % 2147483629) (k+2).toNat (n % 2147483647+7919)
  m * m % 998244353 / 11
theorem Qrm (j:Nat) (x:Int) (h0:0≤x) (h1:x < 2147491566):0≤it (fun m=>(m * 48271+104729) % 2147483629) j x∧it (fun m=>(m * 48271+104729) % 2147483629) j x < 2147491566:=by
 induction j with
 | zero=>exact ⟨h0,h1⟩
 | succ j ih =>
  refine ⟨jc _ (by decide),?_⟩
  have:=jd (it (fun m=>(m * 48271+104729) % 2147483629) j x * 48271+104729) (show (0:Int) < 2147483629 by decide)
  show (it (fun m=>(m * 48271+104729) % 2147483629) j x * 48271+104729) % 2147483629 < _;omega
def Qnb:MS:=(Qaj (QaM (Qar (Qad gGt (Qaa 0) (Qad Qc8 (mC (.int 10)) (mC (.int 18))))) (Qaj (Qao 2 (mG (Qaa 0)))
  (Qaj (Qa8 (Qch (Qab (Qaa 1) Qae)) (mgN 3) (Qao 2 (Qad QbB (Qaa 2) (Qad Qc8 (mC (.int 10)) (mC (.int 9))))))
  (QaE (Qad QaT (Qaa 2) (Qad Qc8 (mC (.int 10)) (mC (.int 9))))))) QaO)
  (Qaj (Qao 4 (Qad QaK (Qad QaT (Qaa 0) (mC (.int 2147483647))) (mC (.int 7919))))
  (Qaj (Qa8 (Qch (Qab (Qad QaK (Qaa 1) (mC (.int 2))) Qae)) (mgN 3) (Qao 4 (Qad QaT (Qad QaK (Qad QbT (Qaa 4) (mC (.int 48271))) (mC (.int 104729))) (mC (.int 2147483629)))))
  (QaE (Qad QbB (Qad QaT (Qad QbT (Qaa 4) (Qaa 4)) (mC (.int 998244353))) (mC (.int 11)))))))
theorem QdY (lo:Int) (n:Nat):(QbX lo n).length=n:=by simp [QbX]
theorem QtZ (n k:Int) (h0:0≤k) (h1:k≤1000000) (O:Qac):Qby 5 Qnb [.int n,.int k] O = .ok (.int (mix n k)) O:=by
 unfold mix
 by_cases hn:n > 1000000000000000000
 ·obtain ⟨ρ',O',e,rfl,o3,rfl⟩:=QbM (g:=mgN 3) (b:=Qao 2 (Qad QbB (Qaa 2) (Qad Qc8 (mC (.int 10)) (mC (.int 9)))))
   (fun i ρ O'=>O'=O∧∃o3,ρ = [some (.int n),some (.int k),some (.int (it (fun r=>r / 1000000000) i n)),o3,none]) (QbX 0 k.toNat) 0 [some (.int n),some (.int k),some (.int n),none,none] O ⟨rfl,none,rfl⟩ (by
    rintro i d ρ O' hi ⟨rfl,o3,rfl⟩;refine ⟨_,rfl,?_⟩;simp;rw [show it (fun r=>r / 1000000000) (i+1) n=it (fun r=>r / 1000000000) i n / 1000000000 from rfl]
    exact ⟨_,_,⟨rfl,rfl⟩,rfl,_,rfl⟩)
  rw [QdY,zC] at e
  have hk:k≤1000000000∧-1000000000≤k:=by omega
  simp [Qnb,hn,hk,e]
 ·have hm0:0≤n % 2147483647+7919:=by have:=jc n (show (2147483647:Int)≠0 by decide); omega
  have hm1:n % 2147483647+7919 < 2147491566:=by have:=jd n (show (0:Int) < 2147483647 by decide); omega
  obtain ⟨ρ',O',e,rfl,o3,rfl⟩:=QbM (g:=mgN 3) (b:=Qao 4 (Qad QaT (Qad QaK (Qad QbT (Qaa 4) (mC (.int 48271))) (mC (.int 104729))) (mC (.int 2147483629))))
   (fun i ρ O'=>O'=O∧∃o3,ρ = [some (.int n),some (.int k),none,o3,some (.int (it (fun m=>(m * 48271+104729) % 2147483629) i (n % 2147483647+7919)))]) (QbX 0 (k+2).toNat) 0 [some (.int n),some (.int k),none,none,some (.int (n % 2147483647+7919))] O ⟨rfl,none,rfl⟩ (by
    rintro i d ρ O' hi ⟨rfl,o3,rfl⟩;refine ⟨_,rfl,?_⟩;obtain ⟨b0,b1⟩:=Qrm i _ hm0 hm1
    have:=QfJ (i:=it (fun m=>(m * 48271+104729) % 2147483629) i (n % 2147483647+7919)) (j:=48271) (.inr ⟨by decide,by decide⟩)
    simp [this]
    rw [show it (fun m=>(m * 48271+104729) % 2147483629) (i+1) (n % 2147483647+7919)=(it (fun m=>(m * 48271+104729) % 2147483629) i (n % 2147483647+7919) * 48271+104729) % 2147483629 from rfl]
    exact ⟨_,_,⟨rfl,rfl⟩,rfl,_,rfl⟩)
  rw [QdY,zC] at e
  have hk:k+2≤1000000000∧-1000000000≤k+2:=by omega
  obtain ⟨b0,b1⟩:=Qrm (k+2).toNat _ hm0 hm1;have hq:=QfJ (i:=it (fun m=>(m * 48271+104729) % 2147483629) (k+2).toNat (n % 2147483647+7919)) (j:=it (fun m=>(m * 48271+104729) % 2147483629) (k+2).toNat (n % 2147483647+7919)) (.inl ⟨by omega,by omega⟩);simp [Qnb,hn,hk,e,hq]
def QuJ (cs:List Str) (f:Str) (d:D) (O:Qac):Res D:=match d with
 | .ob n=>match O[n]? with
  | some (.ins c fs)=>if c∈cs then match fs.lookup f with
   | some y=>.ok y O
   | none=>.no else .no
  | _=>.no
 | _=>.no
@[simp] theorem QvN {cs:List Str}{f:Str}{m:M D}{ρ:Qah}{O:Qac}:QcZ cs f m ρ O=(m ρ O).bind (QuJ cs f):=rfl
def puF (cs:List Str) (f:Str) (d:D) (ρ:Qah) (r:Res D):Fl:=match r with
 | .ok (.ob n) O2=>match O2[n]? with
  | some (.ins c fs)=>if c∈cs∧fs.length < 900 then .nx ρ (O2.set n (.ins c (putD f d fs))) else .no
  | _=>.no
 | _=>.no
def sfF (cs:List Str) (f:Str) (mo:M D) (r:Res D) (ρ:Qah):Fl:=match r with
 | .ok d O1=>puF cs f d ρ (mo ρ O1)
 | .ex x O'=>.ex x O'
 | .no=>.no
@[simp] theorem Qt1 {cs:List Str}{f:Str}{mo mv:M D}{ρ:Qah}{O:Qac}:Qfv cs f mo mv ρ O=sfF cs f mo (mv ρ O) ρ:=by
 unfold Qfv sfF puF
 cases mv ρ O <;> rfl
@[simp] theorem QuL {cs:List Str}{f:Str}{mo:M D}{d:D}{O:Qac}{ρ:Qah}:sfF cs f mo (.ok d O) ρ=puF cs f d ρ (mo ρ O):=rfl
def meF (c m:Str) (cf:List D→Qac→Res D) (ma:Qac→Res (List D)) (d:D) (O1:Qac):Res D:=match d with
 | .ob n=>match O1[n]? with
  | some (.ins c' fs)=>if c'=c∧(fs.lookup m).isNone=true then (ma O1).bind fun ds O2=>cf (.ob n::ds) O2 else .no
  | _=>.no
 | _=>.no
@[simp] theorem QsX {c m:Str}{cf:List D→Qac→Res D}{mo:M D}{ma:M (List D)}{ρ:Qah}{O:Qac}:QbE c m cf mo ma ρ O=(mo ρ O).bind (meF c m cf (ma ρ)):=rfl
def mkF (n:Nat) (r:Res D):Res D:=match r with
 | .ok .non O2=>.ok (.ob n) O2
 | .ok _ _=>.no
 | .ex x O2=>.ex x O2
 | .no=>.no
@[simp] theorem Quh {c:Str}{cf:List D→Qac→Res D}{ma:M (List D)}{ρ:Qah}{O:Qac}:Qha c cf ma ρ O=(ma ρ O).bind fun ds O1=>mkF O1.length (cf (.ob O1.length::ds) (O1 ++ [.ins c []])):=by
 unfold Qha;congr 1
@[simp] theorem Qtd {n:Nat}{O:Qac}:mkF n (.ok .non O) = .ok (.ob n) O:=rfl
def apF (i:Nat) (r:Res D) (ρ:Qah):Fl:=match r with
 | .ok d O'=>match ρ[i]? with
  | some (some (.lst ds))=>if ds.length < 1000000 then .nx (ρ.set i (some (.lst (ds ++ [d])))) O' else .no
  | _=>.no
 | .ex x O'=>.ex x O'
 | .no=>.no
@[simp] theorem QoK {i:Nat}{m:M D}{ρ:Qah}{O:Qac}:Qbt i m ρ O=apF i (m ρ O) ρ:=rfl
theorem QoR {i:Nat}{d:D}{ds:List D}{ρ:Qah}{O:Qac} (h:ρ[i]? = some (some (.lst ds))) (hl:ds.length < 1000000):apF i (.ok d O) ρ = .nx (ρ.set i (some (.lst (ds ++ [d])))) O:=by
 unfold apF; dsimp only; rw [h]; dsimp only; rw [if_pos hl]
def exF (i:Nat) (r:Res D) (ρ:Qah):Fl:=match r with
 | .ok d O'=>match ρ[i]?,QaI O' d with
  | some (some (.lst ds)),.lst es=>if ds.length+es.length≤1000000 then .nx (ρ.set i (some (.lst (ds++es)))) O' else .no
  | _,_=>.no
 | .ex x O'=>.ex x O'
 | .no=>.no
@[simp] theorem Qtg {i:Nat}{m:M D}{ρ:Qah}{O:Qac}:Qiu i m ρ O=exF i (m ρ O) ρ:=rfl
theorem Qs8 {i:Nat}{es ds:List D}{ρ:Qah}{O:Qac} (h:ρ[i]? = some (some (.lst ds))) (hl:ds.length+es.length≤1000000):exF i (.ok (.lst es) O) ρ = .nx (ρ.set i (some (.lst (ds++es)))) O:=by
 unfold exF; dsimp only [QaI]; rw [h]; dsimp only; rw [if_pos hl]
def enF (d:D) (O1:Qac):Res (List D):=match d with
 | .lst ds=>.ok (QcG 0 ds) O1
 | .str l=>if ascii l=true then .ok (QcG 0 (QdG l)) O1 else .no
 | _=>.no
@[simp] theorem QxA {m:M D}{ρ:Qah}{O:Qac}:QnS m ρ O=(m ρ O).bind enF:=rfl
def asF (r:Res D) (g:MG) (ρ:Qah):Fl:=match r with
 | .ok d O'=>match g d ρ with
  | some ρ'=>.nx ρ' O'
  | none=>.no
 | .ex x O'=>.ex x O'
 | .no=>.no
@[simp] theorem Qpi {m:M D}{g:MG}{ρ:Qah}{O:Qac}:Qg6 m g ρ O=asF (m ρ O) g ρ:=rfl
theorem Qo9 {d:D}{g:MG}{ρ ρ':Qah}{O:Qac} (h:g d ρ=some ρ'):asF (.ok d O) g ρ = .nx ρ' O:=by
 unfold asF; dsimp only; rw [h]
@[simp] theorem Quq {i j:Nat}{a b:D}{ρ:Qah}:Qb9 2 (QaB (mgN i) (QaB (mgN j) Qbr)) (.tup [a,b]) ρ=some ((ρ.set i (some a)).set j (some b)):=rfl
def stF (a b:D) (O:Qac):Res D:=match a,b with
 | .str l,.str n=>.ok (.bl (decide (l.take n.length=n))) O
 | _,_=>.no
@[simp] theorem QwN {a b:M D}{ρ:Qah}{O:Qac}:Qrt a b ρ O=(a ρ O).bind fun x O1=>(b ρ O1).bind fun y O2=>stF x y O2:=rfl
@[simp] theorem QxX {l n:List Nat}{O:Qac}:stF (.str l) (.str n) O = .ok (.bl (decide (l.take n.length=n))) O:=rfl
theorem Qfs {α:Type}{g:MG}{t:M Bool}{m:M D} (Pv:Qah→Prop) (f h:α→D):∀(xs:List α) (ρ:Qah) (O:Qac) (acc:List D),Pv ρ→(∀x∈xs,∀ρ,Pv ρ→∃ρ1,g (f x) ρ=some ρ1∧Pv ρ1∧t ρ1 O = .ok true O∧m ρ1 O = .ok (h x) O)→Qbl g t m (xs.map f) ρ O acc = .ok (acc++xs.map h) O
 | [],ρ,O,acc,_,_=>by simp [Qbl]
 | x::xs,ρ,O,acc,hp,hs=>by
  obtain ⟨ρ1,e1,h1,e2,e3⟩:=hs x zq ρ hp;rw [zl];unfold Qbl;rw [e1];dsimp only;rw [e2];dsimp only;rw [e3];dsimp only;rw [Qfs Pv f h xs ρ1 O _ h1 fun d' hd'=>hs d' (zu _ hd')];simp
def Qs9:List Nat:=[101,110,100]
def Qq9:List Nat:=[97,110,101,119]
def Qog:List Nat:=[112,108,97,105,110]
def Qef:List Nat:=[115,105,103,110]
def QsW:List Nat:=[105,110,107]
def QmG:List Nat:=[103,114,111,117,110,100]
def item (p:Int) (k v:List Nat):D:=.tup [.int p,.str k,.str v]
def col (c:Nat):Bool:=decide (c∈[97,98,99,100,101,102,103,104,46])
def Qv9 (x:Nat):List Nat→List Nat×List Nat×Nat
 | []=>(Qef,[91],0)
 | e::_=>if e=93 then (QmG,[x],3) else (Qef,[91],0)
def Qwh:List Nat→List Nat×List Nat×Nat
 | []=>(Qef,[91],0)
 | x::t=>if col x=true then Qv9 x t else (Qef,[91],0)
def Qwr (x:Nat):List Nat→List Nat×List Nat×Nat
 | []=>(Qef,[91],0)
 | e::_=>if e=93 then (QsW,[x],2) else (Qef,[91],0)
def Qwi:List Nat→List Nat×List Nat×Nat
 | []=>(Qef,[91],0)
 | d::t=>if d=93 then (Qog,[],1) else if d=91 then (Qef,[91],1) else if col d=true then Qwr d t else if d=47 then Qwh t else (Qef,[91],0)
def one (c:Nat) (t:List Nat):List Nat×List Nat×Nat :=
 if c=10 then (Qs9,[],0) else if c=9 then (Qq9,[],0) else if c=91 then Qwi t else (Qef,[c],0)
def items (p:Int):List Nat→List D
 | []=>[]
 | c::t=>item p (one c t).1 (one c t).2.1::items (p+((one c t).2.2+1:Nat)) (t.drop (one c t).2.2)
termination_by l=>l.length
decreasing_by
 simp only [List.length_drop,zA];omega
def own (p:Int) (c:Nat):D:=if c=10 then item p Qs9 [] else if c=9 then item p Qq9 [] else item p Qef [c]
def owns:Int→List Nat→List D
 | _,[]=>[]
 | p,c::l=>own p c::owns (p+1) l
def QwK:List Nat→Bool
 | [a]=>decide (a=91)
 | [a,b]=>decide (a=91)&&(decide (b=47) || col b)
 | [a,b,c]=>decide (a=91)&&(decide (b=47)&&col c)
 | _=>false
def markB:List Nat→Option (List Nat×List Nat)
 | [a,b]=>if a=91∧b=93 then some (Qog,[]) else if a=91∧b=91 then some (Qef,[91]) else none
 | [a,b,c]=>if a=91∧col b=true∧c=93 then some (QsW,[b]) else none
 | [a,b,c,d]=>if a=91∧b=47∧col c=true∧d=93 then some (QmG,[c]) else none
 | _=>none
def tk (h:List Nat) (c:Nat) (p:Int):List D×List Nat :=
 if QwK (h ++ [c])=true then ([],h ++ [c]) else match markB (h ++ [c]) with
 | some (k,v)=>([item p k v],[])
 | none=>if c=91 then (owns p h,[91]) else (owns p (h ++ [c]),[])
inductive QlO:List Nat→Prop where
 | h0:QlO []
 | h1:QlO [91]
 | h2:QlO [91,47]
 | h3 (x:Nat) (h:col x=true):QlO [91,x]
 | h4 (x:Nat) (h:col x=true):QlO [91,47,x]
@[simp] theorem QrU {l:List D}:Qcr [.lst l]=some (.lst l):=rfl
def fzF (f:Fl):Fl:=match f with
 | .rt d O'=>.rt d O'
 | _=>.no
@[simp] theorem QxS {m:MS}{ρ:Qah}{O:Qac}:QiR m ρ O=fzF (m ρ O):=rfl
@[simp] theorem QxF {d:D}{O:Qac}:fzF (.rt d O) = .rt d O:=rfl
def ziF (d e:D) (O:Qac):Res (List D):=match d,e with
 | .lst ds,.lst es=>.ok (Qcp ds es) O
 | _,_=>.no
@[simp] theorem Qvw {ma mb:M D}{ρ:Qah}{O:Qac}:Qk8 ma mb ρ O=(ma ρ O).bind fun d O1=>(mb ρ O1).bind fun e O2=>ziF d e O2:=by
 unfold Qk8;congr 1
@[simp] theorem Qvg {ds es:List D}{O:Qac}:ziF (.lst ds) (.lst es) O = .ok (Qcp ds es) O:=rfl
end L2
namespace K75
open PySem L2
seal VE SE OE WE TsE TwE AE VS VSs VG VGs VI VIc VO VIf DPE
def top (i:Nat):Stmt:=PySem.Challenge.pw_outweave_k75_patches_both_ways.main.body.getD i (.Pass ⟨0,0,0,0⟩)
local macro_rules | `(tactic| trivial) => `(tactic| exact ⟨rfl, rfl, rfl, by decide +kernel, rfl, by decide +kernel, by decide +kernel⟩)
section
variable {Pr:Program}{w:World}{K:Frag}{mg:Str→Option Value}{base:Heap}
abbrev Qgt:Stmt:=top 2
theorem QhF:QaR ["move","prices","beyond"] ["move","prices"] (Qas Qgt):=by trivial
def Qe3:MS :=
  (Qaj (Qao 2 (QbL (mG (Qaa 1)) (Qad gIx (Qaa 0) (mC (.int 2)))))
  (QaE (mIf (Qar (Qgl (Qaa 2))) (mC .non) (Qad QaK (Qad gIx (Qaa 0) (mC (.int 0))) (Qaa 2)))))
def Qca:List D→Qac→Res D:=Qby 3 Qe3
abbrev Qgr (Pr:Program) (w:World) (K:Frag) (mg:Str→Option Value) (base:Heap):Prop:=Can Pr w K mg base "cost_over" ["move","prices"] 1 (vSp K mg [.s,.s] (rV K) Qca)
theorem Qk6 (Qgs:Def K mg "cost_over" Qgt)
  (B:QbZ mg)
  (NK:Qbu K=true) :
  Qgr Pr w K mg base:=by
 refine QcC (k:=0) (b:=Qe3) Qgs QhF (fun _ _ _ _ _ _=>Qa1 fun _=>Qa1 fun _=>Qb0 rfl) [.s,.s] [.v] QbN (fun _ _ _ _=>Rp.non) (body:=fun f cdv A outer s H E hr P=>?_);refine Qal ?_ ?_;refine QaH (i:=2) QhF.nd rfl (.inl rfl) ?_;refine QfL NK hr (Qco (Qan 1)) ?_;refine QaP (Qan 0) (Qaf Qak);refine Qaq ?_;refine QaU ?_;refine Qq2 ?_ Qlx ?_;refine QlF (Qaf (Qag 2));refine QaL ?_;refine Qax Qbm ?_ (Qaf (Qag 2));refine Qaf ?_;refine QaP (Qan 0) (Qaf Qak)
abbrev QdI:Stmt:=top 3
theorem Qhq:QaR ["moves","prices","costs"] ["moves","prices"] (Qas QdI):=by trivial
def QeA:MS :=
  (Qaj (Qao 2 (Qbw (Qba (Qaa 0)) 1 [1] (mgN 0) Qcj (Qat Qca (Qab (Qaa 0) (Qab (Qaa 1) Qae)))))
  (QaE (Qav QkI (Qab (Qbw (Qba (Qaa 2)) 1 [] (mgN 0) (Qar (Qew (Qaa 0))) (Qaa 0)) Qae))))
def Qcy:List D→Qac→Res D:=Qby 3 QeA
abbrev Qf9 (Pr:Program) (w:World) (K:Frag) (mg:Str→Option Value) (base:Heap):Prop:=Can Pr w K mg base "least_cost" ["moves","prices"] 2 (vSp K mg [.s,.s] (rV K) Qcy)
theorem QkA (Qf5:Def K mg "least_cost" QdI)
  (B:QbZ mg)
  (NK:Qbu K=true)
  (Qdu:Qgr Pr w K mg base) :
  Qf9 Pr w K mg base:=by
 refine QcC (k:=1) (b:=QeA) Qf5 Qhq (fun _ _ _ _ _ _=>Qa1 fun _=>Qa1 fun _=>Qb0 rfl) [.s,.s] [.v] QbN (fun _ _ _ _=>Rp.non) (body:=fun f cdv A outer s H E hr P=>?_);refine Qal ?_ ?_;refine Qhh (i:=2) (Qas QdI) ["moves","prices","costs"] ["move"] [1] Qhq.nd rfl (.inl rfl) rfl (Qet (Qan 0)) (fun _ _ _ _ P=>?_) (fun _ _ _ _ P=>?_) (fun _ _ _ _ P=>?_);exact QaJ (i:=0) (show (QaQ ["moves","prices","costs"] ["move"] [1]).Nodup by decide +kernel) rfl (.inl rfl);exact QeX;refine Qa9 Qdu (hr.mono (by decide)) ?_;refine Qaw (Qaf (Qag 0)) ?_;refine Qaw (Qan 1) Qai;refine Qaq ?_;refine QaU ?_;refine QaL ?_
 refine Qsg rfl B.min_ ?_;refine Qau ?_;refine Qiz (Qas QdI) ["moves","prices","costs"] ["cost"] [] rfl ?_ (fun _ _ _ _ P=>?_) (fun _ _ _ _ P=>?_) (fun _ _ _ _ P=>?_);refine Qet (Qaf (Qag 2));exact QaJ (i:=0) (show (QaQ ["moves","prices","costs"] ["cost"] []).Nodup by decide +kernel) rfl (.inl rfl);refine QjM ?_;refine QmY (Qaf (Qag 0));exact Qag 0
abbrev Qd9:Stmt:=inClass (top 11) 3
theorem Qh3:QaR ["self","at"] ["self","at"] (Qas Qd9):=by trivial
def Qfp:MS :=
  (QaE (Qa3 (Qab (QaZ (Qab (mG (Qaa 1)) (Qab (mC (.int 0)) Qae))) (Qab (QaZ (Qab (mG (Qaa 1)) (Qab (mC (.int 1)) Qae))) Qae))))
def Qb3:List D→Qac→Res D:=Qby 2 Qfp
abbrev Qfq (Pr:Program) (w:World) (K:Frag) (mg:Str→Option Value) (base:Heap):Prop:=QfN Pr w K mg base "Change" "nodes_at" ["self","at"] 1 (vSp K mg [.v,.s] (rO K) Qb3)
theorem QhJ (Qd8:QiO K mg "Change" "nodes_at" "Change.nodes_at" Qd9)
  (B:QbZ mg)
  (NK:Qbu K=true) :
  Qfq Pr w K mg base:=by
 refine Qjh (k:=0) (b:=Qfp) Qd8 Qh3 (fun _ _ _ _ _ _=>Qa1 fun _=>Qa1 fun _=>Qb0 rfl) [.v,.s] [] Qde (fun _ _ _ _=>.inl ⟨rfl,Rp.non⟩) (body:=fun f cdv A outer s H E hr P=>?_);refine Qaq ?_;refine Qep ?_;refine Qbv 2 ?_;refine QaC ?_ ?_;refine Qbk 2 ?_;refine QaC (Qco (Qan 1)) ?_;refine QaC Qak Qai;refine QaC ?_ Qai;refine Qbk 2 ?_;refine QaC (Qco (Qan 1)) ?_;refine QaC Qak Qai
abbrev Qdz:Stmt:=inClass (top 11) 4
theorem Qcq:QaR ["self","node","at","moves","cells"] ["self","node"] (Qas Qdz):=by trivial
def QcE:MS :=
  (Qaj (Qao 2 (Qad gIx (Qaa 1) (mC (.int 0))))
  (Qaj (QaM (Qar (Qad gEq (Qaa 2) (Qav QaV (Qab (QcZ ["Change"] "stretches" (Qaa 0)) Qae)))) (QaE (Qa3 Qae)) QaO)
  (Qaj (Qao 3 (Qa3 Qae))
  (Qaj (QaM (Qbs (Qad gIx (QcZ ["Change"] "alike" (Qaa 0)) (Qaa 2))) (Qbt 3 (QaZ (Qab (mC (.int 0)) (Qab (mC (.str [112,97,115,115])) (Qab (QaZ (Qab (Qad QaK (Qaa 2) (mC (.int 1))) (Qab (mC (.int 0)) Qae))) Qae))))) QaO)
  (Qaj (Qao 4 (Qad Qed (Qad gIx (Qad gIx (QcZ ["Change"] "stretches" (Qaa 0)) (Qaa 2)) (mC (.int 1))) (Qad gIx (Qad gIx (QcZ ["Change"] "stretches" (Qaa 0)) (Qaa 2)) (mC (.int 0)))))
  (Qaj (QaM (Qar (Qad gEq (Qad gIx (Qaa 1) (mC (.int 1))) (mC (.int 0)))) (Qbt 3 (QaZ (Qab (Qad QaK (mC (.int 4)) (Qaa 4)) (Qab (mC (.str [98,101,103,105,110])) (Qab (QaZ (Qab (Qad QaK (Qaa 2) (mC (.int 1))) (Qab (mC (.int 1)) Qae))) Qae))))) (Qbt 3 (QaZ (Qab (Qaa 4) (Qab (mC (.str [111,110])) (Qab (QaZ (Qab (Qad QaK (Qaa 2) (mC (.int 1))) (Qab (mC (.int 1)) Qae))) Qae))))))
  (QaE (Qaa 3))))))))
def Qa4:List D→Qac→Res D:=Qby 5 QcE
abbrev Qdw (Pr:Program) (w:World) (K:Frag) (mg:Str→Option Value) (base:Heap):Prop:=QfN Pr w K mg base "Change" "moves_from" ["self","node"] 1 (vSp K mg [.v,.s] (rO K) Qa4)
theorem Qg7 (Qdx:QiO K mg "Change" "moves_from" "Change.moves_from" Qdz)
  (B:QbZ mg)
  (NK:Qbu K=true)
  (QfT:∃u,mg "WRITE_COST" = some u∧RelV (.int 4) u)
  (Qcw:KC K mg "Change" "alike")
  (QaN:KC K mg "Change" "stretches") :
  Qdw Pr w K mg base:=by
 refine Qjh (k:=0) (b:=QcE) Qdx Qcq (fun _ _ _ _ _ _=>Qa1 fun _=>Qa1 fun _=>Qb0 rfl) [.v,.s] [.v,.o,.v] Qde (fun _ _ _ _=>.inl ⟨rfl,Rp.non⟩) (body:=fun f cdv A outer s H E hr P=>?_);refine Qal ?_ ?_;refine QaH (i:=2) Qcq.nd rfl (.inl rfl) ?_;refine QaP (Qan 1) (Qaf Qak);refine Qal ?_ ?_;refine Qbc ?_ ?_ Qa0;refine Qbi (QcF hr) (Qaf (Qag 2)) ?_ (QaX _);refine Qau ?_;refine Qbf (ms:=[.s]) (hv:=QbS) QbQ B.len_ ?_;refine Qaw ?_ Qai;refine Qaf (QfH (Qd1 QaN QeL) (Qag 0));refine Qaq ?_;refine Qep (Qbv 0 Qai);refine Qal ?_ ?_;refine Qe2 (i:=3) Qcq.nd rfl (.inl rfl) (Qbv 0 Qai);refine Qal ?_ ?_;refine Qbc ?_ ?_ Qa0
 refine QcB ?_;refine Qaf ?_;refine QaP ?_ (Qaf (Qag 2));refine Qaf (QfH (Qd1 Qcw QeL) (Qag 0));refine Qaq ?_;refine Qcf 3 ?_;refine Qbk 3 ?_;refine QaC Qak ?_;refine QaC (Qbd [112,97,115,115]) ?_;refine QaC ?_ Qai;refine Qbk 2 ?_;refine QaC ?_ ?_;refine QaL ?_;refine Qax Qbm (Qaf (Qag 2)) (Qaf Qak);refine QaC Qak Qai;refine Qal ?_ ?_;refine QaH (i:=4) Qcq.nd rfl (.inl rfl) ?_;refine QaL ?_;refine Qax QlD ?_ ?_;refine Qaf ?_;refine QaP ?_ (Qaf Qak);refine Qaf ?_;refine QaP ?_ (Qaf (Qag 2));refine Qaf (QfH (Qd1 QaN QeL) (Qag 0));refine Qaf ?_;refine QaP ?_ (Qaf Qak);refine Qaf ?_;refine QaP ?_ (Qaf (Qag 2))
 refine Qaf (QfH (Qd1 QaN QeL) (Qag 0));refine Qal ?_ (Qaq (Qgw 3));refine Qbc ?_ ?_ ?_;refine Qbi (QcF hr) ?_ (Qaf Qak) (QaX _);refine Qaf ?_;refine QaP (Qan 1) (Qaf Qak);refine Qaq ?_;refine Qcf 3 ?_;refine Qbk 3 ?_;refine QaC ?_ ?_;refine QaL ?_;refine Qax Qbm ?_ (Qaf (Qag 4));refine Qaf ?_;refine QpX QfT (fun _ _ _=>Rp.int);refine QaC (Qbd [98,101,103,105,110]) ?_;refine QaC ?_ Qai;refine Qbk 2 ?_;refine QaC ?_ ?_;refine QaL ?_;refine Qax Qbm (Qaf (Qag 2)) (Qaf Qak);refine QaC Qak Qai;refine Qaq ?_;refine Qcf 3 ?_;refine Qbk 3 ?_;refine QaC (Qag 4) ?_;refine QaC (Qbd [111,110]) ?_;refine QaC ?_ Qai
 refine Qbk 2 ?_;refine QaC ?_ ?_;refine QaL ?_;refine Qax Qbm (Qaf (Qag 2)) (Qaf Qak);refine QaC Qak Qai
abbrev QeJ:Stmt:=inClass (top 11) 5
theorem QiV:QaR ["self","node"] ["self","node"] (Qas QeJ):=by trivial
def QdD:MS :=
  (QaE (Qad gEq (Qad gIx (Qaa 1) (mC (.int 0))) (Qav QaV (Qab (QcZ ["Change"] "stretches" (Qaa 0)) Qae))))
def Qbp:List D→Qac→Res D:=Qby 2 QdD
abbrev QeO (Pr:Program) (w:World) (K:Frag) (mg:Str→Option Value) (base:Heap):Prop:=QfN Pr w K mg base "Change" "is_end" ["self","node"] 1 (vSp K mg [.v,.s] (rV K) Qbp)
theorem QiX (QeH:QiO K mg "Change" "is_end" "Change.is_end" QeJ)
  (B:QbZ mg)
  (NK:Qbu K=true)
  (QaN:KC K mg "Change" "stretches") :
  QeO Pr w K mg base:=by
 refine Qjh (k:=0) (b:=QdD) QeH QiV (fun _ _ _ _ _ _=>Qa1 fun _=>Qa1 fun _=>Qb0 rfl) [.v,.s] [] QbN (fun _ _ _ _=>Rp.non) (body:=fun f cdv A outer s H E hr P=>?_);refine Qaq ?_;refine QaU ?_;refine QaL ?_;refine Qf3 (QcF hr) ?_ ?_ (QaX _);refine Qaf ?_;refine QaP (Qan 1) (Qaf Qak);refine Qau ?_;refine Qbf (ms:=[.s]) (hv:=QbS) QbQ B.len_ ?_;refine Qaw ?_ Qai;refine Qaf (QfH (Qd1 QaN QeL) (Qag 0))
abbrev Qfi:Stmt:=top 4
theorem QbU:QaR ["trail","at","prices","moves","node","changed","cost"] ["trail","at","prices"] (Qas Qfi):=by trivial
def Qeg:MS :=
  (Qaj (Qao 3 QfO)
  (Qaj (Qa8 (Qba (QbE "Change" "nodes_at" Qb3 (mG (Qaa 0)) (Qab (Qaa 1) Qae))) (mgN 4) (Qaj (Qcn (Qaa 3) (Qaa 4) (QbE "Change" "moves_from" Qa4 (mG (Qaa 0)) (Qab (Qaa 4) Qae)))
  (Qcn (mG (Qaa 2)) (Qaa 4) (mIf (Qbs (QbE "Change" "is_end" Qbp (mG (Qaa 0)) (Qab (Qaa 4) Qae))) (mC (.int 0)) (mC .non)))))
  (Qaj (Qao 5 (mC (.bl true)))
  (Qes 10 (Qbs (Qaa 5)) (Qaj (Qao 5 (mC (.bl false)))
  (Qgz 3 (Qa8 (QgD (Qaa 3)) (mgN 4) (Qaj (Qao 6 (Qat Qcy (Qab (QbL (Qaa 3) (Qaa 4)) (Qab (Qaa 2) Qae))))
  (QaM (QcX (Qar (Qew (Qaa 6))) (Qgp (Qar (Qgl (QbL (mG (Qaa 2)) (Qaa 4)))) (Qar (Qad gLt (Qaa 6) (QbL (mG (Qaa 2)) (Qaa 4)))))) (Qaj (Qcn (mG (Qaa 2)) (Qaa 4) (Qaa 6))
  (Qao 5 (mC (.bl true)))) QaO)))))))))
def Qdm:List D→Qac→Res D:=Qby 7 Qeg
abbrev Qhr (Pr:Program) (w:World) (K:Frag) (mg:Str→Option Value) (base:Heap):Prop:=Can Pr w K mg base "price_nodes" ["trail","at","prices"] 3 (vSp K mg [.s,.s,.s] (rV K) Qdm)
theorem QjX (Qfl:Def K mg "price_nodes" Qfi)
  (B:QbZ mg)
  (NK:Qbu K=true)
  (Qd7:Qfq Pr w K mg base)
  (QbP:Qdw Pr w K mg base)
  (Qcg:QeO Pr w K mg base)
  (Qc0:Qf9 Pr w K mg base) :
  Qhr Pr w K mg base:=by
 refine QcC (k:=2) (b:=Qeg) Qfl QbU (fun _ _ _ _ _ _=>Qa1 fun _=>Qa1 fun _=>Qa1 fun _=>Qb0 rfl) [.s,.s,.s] [.v,.v,.v,.v] QbN (fun _ _ _ _=>Rp.non) (body:=fun f cdv A outer s H E hr P=>?_);refine Qal (QaH (i:=3) QbU.nd rfl (.inl rfl) QiN) ?_;refine Qal ?_ ?_;refine Qb1 rfl ?_ (QaJ (i:=4) QbU.nd rfl (.inl rfl)) ?_;refine QfW ?_;refine QgU ?_;refine QaL ?_;refine Qj5 Qd7 (hr.mono (by decide)) (Qco (Qan 0)) ?_;refine Qaw (Qan 1) Qai;refine Qal ?_ ?_;refine Qio NK hr (Qag 3) (Qag 4) ?_;refine QaL ?_;refine Qj5 QbP (hr.mono (by decide)) (Qco (Qan 0)) ?_;refine Qaw (Qaf (Qag 4)) Qai;refine Qaq ?_;refine Qio NK hr (Qco (Qan 2)) (Qag 4) ?_
 refine Qq2 ?_ Qak Qlx;refine QcB ?_;refine Qaf ?_;refine QmJ Qcg (hr.mono (by decide)) (Qco (Qan 0)) ?_;refine Qaw (Qaf (Qag 4)) Qai;refine Qal (QaH (i:=5) QbU.nd rfl (.inl rfl) QcI) ?_;refine Qaq ?_;refine Qk5 10 ?_ ?_;refine QcB (Qaf (Qag 5));refine Qal (QaH (i:=5) QbU.nd rfl (.inl rfl) QcI) ?_;refine Qaq ?_;refine Qrw 3 ?_;refine Qb1 rfl (QtI (Qag 3)) (QaJ (i:=4) QbU.nd rfl (.inl rfl)) ?_;refine Qal ?_ ?_;refine QaH (i:=6) QbU.nd rfl (.inl rfl) ?_;refine Qa9 Qc0 (hr.mono (by decide)) ?_;refine Qaw ?_ ?_;refine Qaf ?_;refine QfL NK hr (Qag 3) (Qag 4);refine Qaw (Qan 2) Qai;refine Qaq ?_;refine Qbc ?_ ?_ Qa0
 refine QiZ ?_;refine Qh2 ?_ ?_;refine QmY (Qaf (Qag 6));refine Qgv ?_;refine QiZ ?_;refine QnF ?_ ?_;refine QlF ?_;refine Qaf ?_;refine QfL NK hr (Qco (Qan 2)) (Qag 4);refine QoJ ?_;refine Qbi Qjr (Qaf (Qag 6)) ?_ (QaX _);refine Qaf ?_;refine QfL NK hr (Qco (Qan 2)) (Qag 4);refine Qal ?_ ?_;refine Qio NK hr (Qco (Qan 2)) (Qag 4) (Qag 6);refine Qaq (QaH (i:=5) QbU.nd rfl (.inl rfl) QcI)
abbrev Qej:Stmt:=inClass (top 11) 2
theorem QiA:QaR ["self"] ["self"] (Qas Qej):=by trivial
def Qdg:MS :=
  (QaE (Qav QaV (Qab (QcZ ["Change"] "stretches" (Qaa 0)) Qae)))
def QcD:List D→Qac→Res D:=Qby 1 Qdg
abbrev QfY (Pr:Program) (w:World) (K:Frag) (mg:Str→Option Value) (base:Heap):Prop:=QfN Pr w K mg base "Change" "last_at" ["self"] 1 (vSp K mg [.v] (rV K) QcD)
theorem QiC (Qek:QiO K mg "Change" "last_at" "Change.last_at" Qej)
  (B:QbZ mg)
  (NK:Qbu K=true)
  (QaN:KC K mg "Change" "stretches") :
  QfY Pr w K mg base:=by
 refine Qjh (k:=0) (b:=Qdg) Qek QiA (fun _ _ _ _ _ _=>Qa1 fun _=>Qb0 rfl) [.v] [] QbN (fun _ _ _ _=>Rp.non) (body:=fun f cdv A outer s H E hr P=>?_);refine Qaq ?_;refine QaU ?_;refine QaL ?_;refine Qbf (ms:=[.s]) (hv:=QbS) QbQ B.len_ ?_;refine Qaw ?_ Qai;refine Qaf (QfH (Qd1 QaN QeL) (Qag 0))
abbrev Qi6:Stmt:=top 5
theorem Qia:QaR ["trail","prices","at"] ["trail"] (Qas Qi6):=by trivial
def Qhk:MS :=
  (Qaj (Qao 1 QfO)
  (Qaj (Qa8 (QkY (Qab (QbE "Change" "last_at" QcD (mG (Qaa 0)) Qae) (Qab (mUn Qey (mC (.int 1))) (Qab (mUn Qey (mC (.int 1))) Qae)))) (mgN 2) (QhM (Qat Qdm (Qab (Qaa 0) (Qab (Qaa 2) (Qab (Qaa 1) Qae))))))
  (QaE (Qaa 1))))
def QgW:List D→Qac→Res D:=Qby 3 Qhk
abbrev Qk4 (Pr:Program) (w:World) (K:Frag) (mg:Str→Option Value) (base:Heap):Prop:=Can Pr w K mg base "priced" ["trail"] 4 (vSp K mg [.s] (rV K) QgW)
theorem Qps (QiL:Def K mg "priced" Qi6)
  (B:QbZ mg)
  (NK:Qbu K=true)
  (Qel:QfY Pr w K mg base)
  (Qfc:Qhr Pr w K mg base) :
  Qk4 Pr w K mg base:=by
 refine QcC (k:=3) (b:=Qhk) QiL Qia (fun _ _ _ _ _ _=>Qa1 fun _=>Qb0 rfl) [.s] [.v,.v] QbN (fun _ _ _ _=>Rp.non) (body:=fun f cdv A outer s H E hr P=>?_);refine Qal (QaH (i:=1) Qia.nd rfl (.inl rfl) QiN) ?_;refine Qal ?_ ?_;refine Qb1 rfl ?_ (QaJ (i:=2) Qia.nd rfl (.inl rfl)) ?_;refine QsJ B.range_ ?_;refine Qaw ?_ ?_;refine Qaf ?_;refine QlH Qel (hr.mono (by decide)) (Qco (Qan 0));refine Qaw ?_ ?_;refine Qau ?_;refine QhS (Qaf Qak);refine Qaw ?_ Qai;refine Qau ?_;refine QhS (Qaf Qak);refine Qaq ?_;refine QsK ?_;refine Qaf ?_;refine Qa9 Qfc (hr.mono (by decide)) ?_;refine Qaw (Qan 0) ?_;refine Qaw (Qaf (Qag 2)) ?_
 refine Qaw (Qaf (Qag 1)) Qai;refine Qaq (QaU (Qag 1))
abbrev Qdb:Stmt:=top 6
theorem Qfn:QaR ["moves","prices","least"] ["moves","prices"] (Qas Qdb):=by trivial
def Qdl:MS :=
  (Qaj (Qao 2 (Qat Qcy (Qab (Qaa 0) (Qab (Qaa 1) Qae))))
  (QaE (Qad gIx (Qbw (Qba (Qaa 0)) 1 [1,2] (mgN 0) (Qar (Qad gEq (Qat Qca (Qab (Qaa 0) (Qab (Qaa 1) Qae))) (Qaa 2))) (Qaa 0)) (mC (.int 0)))))
def Qcz:List D→Qac→Res D:=Qby 3 Qdl
abbrev Qf6 (Pr:Program) (w:World) (K:Frag) (mg:Str→Option Value) (base:Heap):Prop:=Can Pr w K mg base "first_cheapest" ["moves","prices"] 3 (vSp K mg [.s,.s] (rV K) Qcz)
theorem QiB (Qem:Def K mg "first_cheapest" Qdb)
  (B:QbZ mg)
  (NK:Qbu K=true)
  (Qc0:Qf9 Pr w K mg base)
  (Qdu:Qgr Pr w K mg base) :
  Qf6 Pr w K mg base:=by
 refine QcC (k:=2) (b:=Qdl) Qem Qfn (fun _ _ _ _ _ _=>Qa1 fun _=>Qa1 fun _=>Qb0 rfl) [.s,.s] [.v] QbN (fun _ _ _ _=>Rp.non) (body:=fun f cdv A outer s H E hr P=>?_);refine Qal ?_ ?_;refine QaH (i:=2) Qfn.nd rfl (.inr rfl) ?_;refine Qa9 Qc0 (hr.mono (by decide)) ?_;refine Qaw (Qan 0) ?_;refine Qaw (Qan 1) Qai;refine Qaq ?_;refine QaU ?_;refine QaP ?_ (Qaf Qak);refine Qau ?_;refine Qiz (Qas Qdb) ["moves","prices","least"] ["move"] [1,2] rfl (Qet (Qan 0)) (fun _ _ _ _ P=>?_) (fun _ _ _ _ P=>?_) (fun _ _ _ _ P=>?_);exact QaJ (i:=0) (show (QaQ ["moves","prices","least"] ["move"] [1,2]).Nodup by decide +kernel) rfl (.inl rfl)
 refine QjM ?_;refine Qbi (QcF hr) ?_ (Qaf (Qag 2)) (QaX _);refine Qaf ?_;refine Qa9 Qdu (hr.mono (by decide)) ?_;refine Qaw (Qaf (Qag 0)) ?_;refine Qaw (Qan 1) Qai;exact Qag 0
abbrev QdB:Stmt:=inClass (top 11) 1
theorem QgV:QaR ["self"] ["self"] (Qas QdB):=by trivial
def QeR:MS :=
  (QaE (QaZ (Qab (mC (.int 0)) (Qab (mC (.int 0)) Qae))))
def Qb5:List D→Qac→Res D:=Qby 1 QeR
abbrev QeQ (Pr:Program) (w:World) (K:Frag) (mg:Str→Option Value) (base:Heap):Prop:=QfN Pr w K mg base "Change" "first_node" ["self"] 1 (vSp K mg [.v] (rV K) Qb5)
theorem Qg5 (Qdy:QiO K mg "Change" "first_node" "Change.first_node" QdB)
  (B:QbZ mg)
  (NK:Qbu K=true) :
  QeQ Pr w K mg base:=by
 refine Qjh (k:=0) (b:=QeR) Qdy QgV (fun _ _ _ _ _ _=>Qa1 fun _=>Qb0 rfl) [.v] [] QbN (fun _ _ _ _=>Rp.non) (body:=fun f cdv A outer s H E hr P=>?_);refine Qaq ?_;refine QaU ?_;refine Qbk 2 ?_;refine QaC Qak ?_;refine QaC Qak Qai
abbrev QiT:Stmt:=top 7
theorem QdU:QaR ["trail","prices","node","cost","names","move"] ["trail"] (Qas QiT):=by trivial
def QgR:MS :=
  (Qaj (Qao 1 (Qat QgW (Qab (Qaa 0) Qae)))
  (Qaj (Qao 2 (QbE "Change" "first_node" Qb5 (mG (Qaa 0)) Qae))
  (Qaj (Qao 3 (QbL (Qaa 1) (Qaa 2)))
  (Qaj (QaM (Qar (Qgl (Qaa 3))) (QaE (mC .non)) QaO)
  (Qaj (Qao 4 (Qa3 Qae))
  (Qaj (Qes 50 (Qb4 (Qbs (QbE "Change" "is_end" Qbp (mG (Qaa 0)) (Qab (Qaa 2) Qae)))) (Qaj (Qao 5 (Qat Qcz (Qab (QbE "Change" "moves_from" Qa4 (mG (Qaa 0)) (Qab (Qaa 2) Qae)) (Qab (Qaa 1) Qae))))
  (Qaj (Qbt 4 (Qad gIx (Qaa 5) (mC (.int 1))))
  (Qao 2 (Qad gIx (Qaa 5) (mC (.int 2)))))))
  (QiR (QaE (QaZ (Qab (Qaa 3) (Qab (Qaa 4) Qae)))))))))))
def Qhf:List D→Qac→Res D:=Qby 6 QgR
abbrev QlV (Pr:Program) (w:World) (K:Frag) (mg:Str→Option Value) (base:Heap):Prop:=Can Pr w K mg base "way_of" ["trail"] 5 (vSp K mg [.s] (rV K) Qhf)
theorem Qo7 (Qi2:Def K mg "way_of" QiT)
  (B:QbZ mg)
  (NK:Qbu K=true)
  (QiQ:Qk4 Pr w K mg base)
  (QdA:QeQ Pr w K mg base)
  (Qcg:QeO Pr w K mg base)
  (Qei:Qf6 Pr w K mg base)
  (QbP:Qdw Pr w K mg base) :
  QlV Pr w K mg base:=by
 refine QcC (k:=4) (b:=QgR) Qi2 QdU (fun _ _ _ _ _ _=>Qa1 fun _=>Qb0 rfl) [.s] [.v,.v,.v,.o,.v] QbN (fun _ _ _ _=>Rp.non) (body:=fun f cdv A outer s H E hr P=>?_);refine Qal ?_ ?_;refine QaH (i:=1) QdU.nd rfl (.inl rfl) ?_;refine Qa9 QiQ (hr.mono (by decide)) ?_;refine Qaw (Qan 0) Qai;refine Qal ?_ ?_;refine QaH (i:=2) QdU.nd rfl (.inl rfl) ?_;refine QlH QdA (hr.mono (by decide)) (Qco (Qan 0));refine Qal ?_ ?_;refine QaH (i:=3) QdU.nd rfl (.inl rfl) ?_;refine QfL NK hr (Qag 1) (Qag 2);refine Qal ?_ ?_;refine Qbc ?_ ?_ Qa0;refine QlF (Qaf (Qag 3));refine Qaq (QaU Qlx);refine Qal ?_ ?_;refine Qe2 (i:=4) QdU.nd rfl (.inl rfl) (Qbv 0 Qai)
 refine Qal ?_ ?_;refine Qk5 50 ?_ ?_;refine Qe9 ?_;refine QcB ?_;refine Qaf ?_;refine QmJ Qcg (hr.mono (by decide)) (Qco (Qan 0)) ?_;refine Qaw (Qaf (Qag 2)) Qai;refine Qal ?_ ?_;refine QaH (i:=5) QdU.nd rfl (.inl rfl) ?_;refine Qa9 Qei (hr.mono (by decide)) ?_;refine Qaw ?_ ?_;refine Qau ?_;refine Qj5 QbP (hr.mono (by decide)) (Qco (Qan 0)) ?_;refine Qaw (Qaf (Qag 2)) Qai;refine Qaw (Qaf (Qag 1)) Qai;refine Qal ?_ ?_;refine Qcf 4 ?_;refine QaP (Qaf (Qag 5)) (Qaf Qak);refine Qaq ?_;refine QaH (i:=2) QdU.nd rfl (.inl rfl) ?_;refine QaP (Qaf (Qag 5)) (Qaf Qak);refine Qaq ?_;refine Qov 4 rfl ?_;refine QaU ?_
 refine Qbk 2 ?_;refine QaC (Qag 3) ?_;refine QaC (Qag 4) Qai
abbrev QcM:Stmt:=top 10
theorem QeP:QaR ["row","begins"] ["row"] (Qas QcM):=by trivial
def QcN:MS :=
  (Qaj (Qao 1 (Qe8 (Qaa 0) 2 [] (Qb9 2 (QaB (mgN 0) (QaB (mgN 1) Qbr))) (Qar (Qad gNe (Qad gIx (Qaa 1) (mC (.int 0))) (mC (.str [])))) (Qaa 0)))
  (QaE (Qav gLZ (Qab (Qaa 1) (Qab (Qad QaK (mSl (Qaa 1) (moS (mC (.int 1))) moN) (Qa3 (Qab (Qav QaV (Qab (Qaa 0) Qae)) Qae))) Qae)))))
def QbY:List D→Qac→Res D:=Qby 2 QcN
abbrev QdQ (Pr:Program) (w:World) (K:Frag) (mg:Str→Option Value) (base:Heap):Prop:=Can Pr w K mg base "letter_stretches" ["row"] 1 (vSp K mg [.s] (rO K) QbY)
theorem Qhv (QdS:Def K mg "letter_stretches" QcM)
  (B:QbZ mg)
  (NK:Qbu K=true) :
  QdQ Pr w K mg base:=by
 refine QcC (k:=0) (b:=QcN) QdS QeP (fun _ _ _ _ _ _=>Qa1 fun _=>Qb0 rfl) [.s] [.v] Qde (fun _ _ _ _=>.inl ⟨rfl,Rp.non⟩) (body:=fun f cdv A outer s H E hr P=>?_);refine Qal ?_ ?_;refine Qo3 (i:=1) (Qas QcM) ["row","begins"] ["col","cell"] [] QeP.nd rfl (.inl rfl) rfl B.enumerate_ (QhR 0) (fun _ _ _ _ P=>?_) (fun _ _ _ _ P=>?_) (fun _ _ _ _ P=>?_);refine QdL 2 rfl ?_;refine Qa5 (QaJ (i:=0) (show (QaQ ["row","begins"] ["col","cell"] []).Nodup by decide +kernel) rfl (.inl rfl)) ?_;refine Qa5 (QaJ (i:=1) (show (QaQ ["row","begins"] ["col","cell"] []).Nodup by decide +kernel) rfl (.inl rfl)) Qc5
 refine QjM ?_;refine Qbi (QgZ hr) ?_ (Qaf (Qbd [])) (QaX _);refine Qaf ?_;refine QaP (Qaf (Qag 1)) (Qaf Qak);exact Qag 0;refine Qaq ?_;refine Qep ?_;refine Qnr (ms:=[.s,.s]) rfl B.list_ B.zip_ ?_;refine Qaw (Qaf (Qag 1)) ?_;refine Qaw ?_ Qai;refine Qau ?_;refine Qax Qbm ?_ ?_;refine Qau ?_;refine Qe1 (Qaf (Qag 1)) (Qdq Qak) QmF;refine Qau ?_;refine Qbv 1 ?_;refine QaC ?_ Qai;refine QaL ?_;refine Qbf (ms:=[.s]) (hv:=QbS) QbQ B.len_ ?_;refine Qaw (Qan 0) Qai
abbrev QcY:Stmt:=inClass (top 11) 0
theorem QhI:QaR ["self","one","other"] ["self","one","other"] (Qas QcY):=by trivial
def QcW:MS :=
  (Qaj (Qfv ["Change"] "stretches" (Qaa 0) (Qat QbY (Qab (Qaa 2) Qae)))
  (Qfv ["Change"] "alike" (Qaa 0) (Qbw (Qba (QcZ ["Change"] "stretches" (Qaa 0))) 2 [1,2] (Qb9 2 (QaB (mgN 0) (QaB (mgN 1) Qbr))) Qcj (Qad gEq (mSl (Qaa 2) (moS (Qaa 0)) (moS (Qaa 1))) (mSl (Qaa 3) (moS (Qaa 0)) (moS (Qaa 1)))))))
def Qcl:List D→Qac→Res D:=Qby 3 QcW
abbrev Qfo (Pr:Program) (w:World) (K:Frag) (mg:Str→Option Value) (base:Heap):Prop:=QpW Pr w K mg base "Change" ["self","one","other"] 2 (vSp K mg [.v,.s,.s] (rV K) Qcl)
theorem QhL (Qd5:Qqi K mg "Change" "Change.__init__" QcY)
  (B:QbZ mg)
  (NK:Qbu K=true)
  (QaN:KC K mg "Change" "stretches")
  (Qcw:KC K mg "Change" "alike")
  (QbW:QdQ Pr w K mg base) :
  Qfo Pr w K mg base:=by
 refine Qvs (k:=1) (b:=QcW) Qd5 QhI (fun _ _ _ _ _ _=>Qa1 fun _=>Qa1 fun _=>Qa1 fun _=>Qb0 rfl) [.v,.s,.s] [] QbN (fun _ _ _ _=>Rp.non) (body:=fun f cdv A outer s H E hr P=>?_);refine Qal ?_ ?_;refine Qn6 (Qd1 QaN QeL) (Qag 0) ?_;refine QaL ?_;refine Qb8 QbW (hr.mono (by decide)) ?_;refine Qaw (Qan 2) Qai;refine Qaq ?_;refine Qn6 (Qd1 Qcw QeL) (Qag 0) ?_;refine QaL ?_;refine Qiz (Qas QcY) ["self","one","other"] ["lo","hi"] [1,2] rfl ?_ (fun _ _ _ _ P=>?_) (fun _ _ _ _ P=>?_) (fun _ _ _ _ P=>?_);refine Qet ?_;refine Qaf (QfH (Qd1 QaN QeL) (Qag 0));refine QdL 2 rfl ?_;refine Qa5 (QaJ (i:=0) (show (QaQ ["self","one","other"] ["lo","hi"] [1,2]).Nodup by decide +kernel) rfl (.inl rfl)) ?_
 refine Qa5 (QaJ (i:=1) (show (QaQ ["self","one","other"] ["lo","hi"] [1,2]).Nodup by decide +kernel) rfl (.inl rfl)) Qc5;exact QeX;refine QaL ?_;refine Qf3 (QcF hr) ?_ ?_ (QaX _);refine Qau ?_;refine Qe1 (Qan 2) (Qdq (Qag 0)) (Qdq (Qag 1));refine Qau ?_;refine Qe1 (Qan 3) (Qdq (Qag 0)) (Qdq (Qag 1))
abbrev Qgf:Stmt:=top 12
theorem Qdn:QaR ["place","one","other","names","writes","name","stretch"] ["place","one","other"] (Qas Qgf):=by trivial
def QeN:MS :=
  (Qaj (Qao 3 (Qad gIx (Qat Qhf (Qab (Qha "Change" Qcl (Qab (Qaa 1) (Qab (Qaa 2) Qae))) Qae)) (mC (.int 1))))
  (Qaj (Qao 4 (Qa3 Qae))
  (Qaj (Qa8 (Qk8 (Qaa 3) (Qat QbY (Qab (Qaa 2) Qae))) (Qb9 2 (QaB (mgN 5) (QaB (mgN 6) Qbr))) (Qaj (QaM (Qar (Qad gEq (Qaa 5) (mC (.str [98,101,103,105,110])))) (Qbt 4 (QaZ (Qab (mG (Qaa 0)) (Qab (Qad gIx (Qaa 6) (mC (.int 0))) (Qab (mMl (Qa3 Qae)) Qae))))) QaO)
  (QaM (Qar (Qad gNe (Qaa 5) (mC (.str [112,97,115,115])))) (QgN (Qad gIx (Qad gIx (Qaa 4) (mUn Qey (mC (.int 1)))) (mC (.int 2))) (mSl (Qaa 2) (moS (Qad gIx (Qaa 6) (mC (.int 0)))) (moS (Qad gIx (Qaa 6) (mC (.int 1)))))) QaO)))
  (QaE (Qaa 4)))))
def QeG:List D→Qac→Res D:=Qby 7 QeN
abbrev QhZ (Pr:Program) (w:World) (K:Frag) (mg:Str→Option Value) (base:Heap):Prop:=Can Pr w K mg base "row_writes" ["place","one","other"] 6 (vSp K mg [.s,.s,.s] (rO K) QeG)
theorem QkE (QfU:Def K mg "row_writes" Qgf)
  (B:QbZ mg)
  (NK:Qbu K=true)
  (QiP:QlV Pr w K mg base)
  (Qd4:Qfo Pr w K mg base)
  (QbW:QdQ Pr w K mg base) :
  QhZ Pr w K mg base:=by
 refine QcC (k:=5) (b:=QeN) QfU Qdn (fun _ _ _ _ _ _=>Qa1 fun _=>Qa1 fun _=>Qa1 fun _=>Qb0 rfl) [.s,.s,.s] [.v,.o,.v,.v] Qde (fun _ _ _ _=>.inl ⟨rfl,Rp.non⟩) (body:=fun f cdv A outer s H E hr P=>?_);refine Qal ?_ ?_;refine QaH (i:=3) Qdn.nd rfl (.inl rfl) ?_;refine QaP ?_ (Qaf Qak);refine Qaf ?_;refine Qa9 QiP (hr.mono (by decide)) ?_;refine Qaw ?_ Qai;refine Qaf ?_;refine Qsz Qd4 (hr.mono (by decide)) ?_;refine Qaw (Qan 1) ?_;refine Qaw (Qan 2) Qai;refine Qal ?_ ?_;refine Qe2 (i:=4) Qdn.nd rfl (.inl rfl) (Qbv 0 Qai);refine Qal ?_ (Qaq (Qgw 4));refine Qb1 rfl ?_ ?_ ?_;refine Qs1 B.zip_ (QgU (Qag 3)) ?_
 refine QgU ?_;refine QaL ?_;refine Qb8 QbW (hr.mono (by decide)) ?_;refine Qaw (Qan 2) Qai;refine QdL 2 rfl ?_;refine Qa5 (QaJ (i:=5) Qdn.nd rfl (.inl rfl)) ?_;refine Qa5 (QaJ (i:=6) Qdn.nd rfl (.inl rfl)) Qc5;refine Qal ?_ ?_;refine Qbc ?_ ?_ Qa0;refine Qbi (QcF hr) (Qaf (Qag 5)) (Qaf (Qbd [98,101,103,105,110])) (QaX _);refine Qaq ?_;refine Qcf 4 ?_;refine Qbk 3 ?_;refine QaC (Qco (Qan 0)) ?_;refine QaC ?_ ?_;refine QaP (Qaf (Qag 6)) (Qaf Qak);refine QaC ?_ Qai;refine Qjp (Qbv 0 Qai);refine Qaq ?_;refine Qbc ?_ ?_ Qa0;refine Qbi (QgZ hr) (Qaf (Qag 5)) (Qaf (Qbd [112,97,115,115])) (QaX _);refine Qaq ?_
 refine Qsb ?_ ?_;refine QaP ?_ (Qaf Qak);refine Qaf ?_;refine QaP (Qan 4) ?_;refine Qau ?_;refine QhS (Qaf Qak);refine Qau ?_;refine Qe1 (Qan 2) ?_ ?_;refine Qdq ?_;refine QaP (Qaf (Qag 6)) (Qaf Qak);refine Qdq ?_;refine QaP (Qaf (Qag 6)) (Qaf Qak)
abbrev QjT:Stmt:=top 13
theorem Qhd:QaR ["one","other","writes","place","row"] ["one","other"] (Qas QjT):=by trivial
def Qif:MS :=
  (Qaj (Qao 2 (Qa3 Qae))
  (Qaj (Qd0 (Qaa 1) (Qb9 2 (QaB (mgN 3) (QaB (mgN 4) Qbr))) (QaM (Qar (Qad gNe (Qad gIx (Qaa 0) (Qaa 3)) (Qaa 4))) (Qiu 2 (Qat QeG (Qab (Qaa 3) (Qab (Qad gIx (Qaa 0) (Qaa 3)) (Qab (Qaa 4) Qae))))) QaO))
  (QaE (Qaa 2))))
def Qer:List D→Qac→Res D:=Qby 5 Qif
abbrev Qmq (Pr:Program) (w:World) (K:Frag) (mg:Str→Option Value) (base:Heap):Prop:=Can Pr w K mg base "patch" ["one","other"] 7 (vSp K mg [.s,.s] (rO K) Qer)
theorem QpL (Qj8:Def K mg "patch" QjT)
  (B:QbZ mg)
  (NK:Qbu K=true)
  (QfQ:QhZ Pr w K mg base) :
  Qmq Pr w K mg base:=by
 refine QcC (k:=6) (b:=Qif) Qj8 Qhd (fun _ _ _ _ _ _=>Qa1 fun _=>Qa1 fun _=>Qb0 rfl) [.s,.s] [.o,.v,.v] Qde (fun _ _ _ _=>.inl ⟨rfl,Rp.non⟩) (body:=fun f cdv A outer s H E hr P=>?_);refine Qal ?_ ?_;refine Qe2 (i:=2) Qhd.nd rfl (.inl rfl) (Qbv 0 Qai);refine Qal ?_ (Qaq (Qgw 2));refine Qlp rfl B.enumerate_ (QhR 1) ?_ ?_;refine QdL 2 rfl ?_;refine Qa5 (QaJ (i:=3) Qhd.nd rfl (.inl rfl)) ?_;refine Qa5 (QaJ (i:=4) Qhd.nd rfl (.inl rfl)) Qc5;refine Qaq ?_;refine Qbc ?_ ?_ Qa0;refine Qbi (QgZ hr) ?_ (Qaf (Qag 4)) (QaX _);refine Qaf ?_;refine QaP (Qan 0) (Qaf (Qag 3));refine Qaq ?_;refine Qpw 2 ?_
 refine Qau ?_;refine Qb8 QfQ (hr.mono (by decide)) ?_;refine Qaw (Qaf (Qag 3)) ?_;refine Qaw ?_ ?_;refine Qaf ?_;refine QaP (Qan 0) (Qaf (Qag 3));refine Qaw (Qaf (Qag 4)) Qai
abbrev Qgh:Stmt:=top 14
theorem QeI:QaR ["picture","writes","rows","write","step","cell"] ["picture","writes"] (Qas Qgh):=by trivial
def Qkq:MS :=
  (Qaj (Qao 2 (Qbw (Qba (Qaa 0)) 1 [] (mgN 0) Qcj (mMl (Qav Qcr (Qab (Qaa 0) Qae)))))
  (Qaj (Qa8 (Qba (Qaa 1)) (mgN 3) (Qd0 (Qad gIx (Qaa 3) (mC (.int 2))) (Qb9 2 (QaB (mgN 4) (QaB (mgN 5) Qbr))) (Qea (Qad gIx (Qaa 2) (Qad gIx (Qaa 3) (mC (.int 0)))) (Qad QaK (Qad gIx (Qaa 3) (mC (.int 1))) (Qaa 4)) (Qaa 5))))
  (QaE (Qaa 2))))
def Qeu:List D→Qac→Res D:=Qby 6 Qkq
abbrev Qkx (Pr:Program) (w:World) (K:Frag) (mg:Str→Option Value) (base:Heap):Prop:=Can Pr w K mg base "patched" ["picture","writes"] 1 (vSp K mg [.s,.s] (rO K) Qeu)
theorem Qnz (QhB:Def K mg "patched" Qgh)
  (B:QbZ mg)
  (NK:Qbu K=true) :
  Qkx Pr w K mg base:=by
 refine QcC (k:=0) (b:=Qkq) QhB QeI (fun _ _ _ _ _ _=>Qa1 fun _=>Qa1 fun _=>Qb0 rfl) [.s,.s] [.o,.v,.v,.v] Qde (fun _ _ _ _=>.inl ⟨rfl,Rp.non⟩) (body:=fun f cdv A outer s H E hr P=>?_);refine Qal ?_ ?_;refine Qp2 (i:=2) (Qas Qgh) ["picture","writes","rows","write","step","cell"] ["row"] [] QeI.nd rfl (.inl rfl) rfl (Qet (Qan 0)) (fun _ _ _ _ P=>?_) (fun _ _ _ _ P=>?_) (fun _ _ _ _ P=>?_);exact QaJ (i:=0) (show (QaQ ["picture","writes","rows","write","step","cell"] ["row"] []).Nodup by decide +kernel) rfl (.inl rfl);exact QeX;refine Qjp ?_;refine QfR (ms:=[.s]) (hv:=QeS) Qii B.list_ ?_;refine Qaw (Qaf (Qag 0)) Qai
 refine Qal ?_ (Qaq (Qgw 2));refine Qb1 rfl (QfW (QhR 1)) (QaJ (i:=3) QeI.nd rfl (.inl rfl)) ?_;refine Qaq ?_;refine Qlp rfl B.enumerate_ ?_ ?_ ?_;refine QgU ?_;refine QaP (Qaf (Qag 3)) (Qaf Qak);refine QdL 2 rfl ?_;refine Qa5 (QaJ (i:=4) QeI.nd rfl (.inl rfl)) ?_;refine Qa5 (QaJ (i:=5) QeI.nd rfl (.inl rfl)) Qc5;refine Qaq ?_;refine Qmm (Qag 5) ?_ ?_;refine QaP (Qan 2) ?_;refine Qaf ?_;refine QaP (Qaf (Qag 3)) (Qaf Qak);refine QaL ?_;refine Qax Qbm ?_ (Qaf (Qag 4));refine Qaf ?_;refine QaP (Qaf (Qag 3)) (Qaf Qak)
abbrev QgX:Stmt:=top 16
theorem Qgq:QaR ["_law_script","_law_k","_law_number"] ["_law_script","_law_k"] (Qas QgX):=by trivial
def QeC:MS :=
  (Qaj (QaM (Qar (Qad gLt (Qaa 1) (Qav QaV (Qab (Qaa 0) Qae)))) (QaE (Qad gIx (Qaa 0) (Qaa 1))) QaO)
  (Qaj (Qao 2 (Qad QaK (Qad QbT (Qad QbT (Qaa 1) (Qaa 1)) (mC (.int 7919))) (mC (.int 104729))))
  (Qaj (QaM (Qar (Qad gGt (Qav QaV (Qab (Qaa 0) Qae)) (mC (.int 0)))) (Qao 2 (Qad QaK (Qaa 2) (Qad QbT (Qad QaT (Qad gIx (Qaa 0) (Qad QaT (Qaa 1) (Qav QaV (Qab (Qaa 0) Qae)))) (mC (.int 1000003))) (mC (.int 48271))))) QaO)
  (QaE (Qad QaT (Qad QbT (Qaa 2) (mC (.int 48271))) (mC (.int 2147483647)))))))
def Qbh:List D→Qac→Res D:=Qby 3 QeC
abbrev QgT (Pr:Program) (w:World) (K:Frag) (mg:Str→Option Value) (base:Heap):Prop:=Can Pr w K mg base "_law_cell" ["_law_script","_law_k"] 1 (vSp K mg [.s,.s] (rV K) Qbh)
theorem Qma (Qhj:Def K mg "_law_cell" QgX)
  (B:QbZ mg)
  (NK:Qbu K=true) :
  QgT Pr w K mg base:=by
 refine QcC (k:=0) (b:=QeC) Qhj Qgq (fun _ _ _ _ _ _=>Qa1 fun _=>Qa1 fun _=>Qb0 rfl) [.s,.s] [.v] QbN (fun _ _ _ _=>Rp.non) (body:=fun f cdv A outer s H E hr P=>?_);refine Qal ?_ ?_;refine Qbc ?_ ?_ Qa0;refine Qbi Qjr (Qan 1) ?_ (QaX _);refine Qau ?_;refine Qbf (ms:=[.s]) (hv:=QbS) QbQ B.len_ ?_;refine Qaw (Qan 0) Qai;refine Qaq ?_;refine QaU ?_;refine QaP (Qan 0) (Qan 1);refine Qal ?_ ?_;refine QaH (i:=2) Qgq.nd rfl (.inl rfl) ?_;refine QaL ?_;refine Qax Qbm ?_ (Qaf Qak);refine Qau ?_;refine Qax QdH ?_ (Qaf Qak);refine Qau ?_;refine Qax QdH (Qan 1) (Qan 1);refine Qal ?_ ?_;refine Qbc ?_ ?_ Qa0
 refine Qbi Qid ?_ (Qaf Qak) (QaX _);refine Qau ?_;refine Qbf (ms:=[.s]) (hv:=QbS) QbQ B.len_ ?_;refine Qaw (Qan 0) Qai;refine Qaq ?_;refine QaH (i:=2) Qgq.nd rfl (.inl rfl) ?_;refine QaL ?_;refine Qax Qbm (Qaf (Qag 2)) ?_;refine Qau ?_;refine Qax QdH ?_ (Qaf Qak);refine Qau ?_;refine Qax QbC ?_ (Qaf Qak);refine Qaf ?_;refine QaP (Qan 0) ?_;refine Qau ?_;refine Qax QbC (Qan 1) ?_;refine Qau ?_;refine Qbf (ms:=[.s]) (hv:=QbS) QbQ B.len_ ?_;refine Qaw (Qan 0) Qai;refine Qaq ?_;refine QaU ?_;refine QaL ?_;refine Qax QbC ?_ (Qaf Qak);refine Qau ?_;refine Qax QdH (Qaf (Qag 2)) (Qaf Qak)
abbrev Qh7:Stmt:=top 17
theorem Qdk:QaR ["_law_cell_here","_law_k","_law_rest","_law_turn","_law_number"] ["_law_cell_here","_law_k"] (Qas Qh7):=by trivial
def Qkh:MS :=
  (Qaj (QaM (Qar (Qad gGt (Qaa 0) (Qad Qc8 (mC (.int 10)) (mC (.int 18))))) (Qaj (Qao 2 (mG (Qaa 0)))
  (Qaj (Qa8 (Qch (Qab (Qaa 1) Qae)) (mgN 3) (Qao 2 (Qad QbB (Qaa 2) (Qad Qc8 (mC (.int 10)) (mC (.int 9))))))
  (QaE (Qad QaT (Qaa 2) (Qad Qc8 (mC (.int 10)) (mC (.int 9))))))) QaO)
  (Qaj (Qao 4 (Qad QaK (Qad QaT (Qaa 0) (mC (.int 2147483647))) (mC (.int 7919))))
  (Qaj (Qa8 (Qch (Qab (Qad QaK (Qaa 1) (mC (.int 2))) Qae)) (mgN 3) (Qao 4 (Qad QaT (Qad QaK (Qad QbT (Qaa 4) (mC (.int 48271))) (mC (.int 104729))) (mC (.int 2147483629)))))
  (QaE (Qad QbB (Qad QaT (Qad QbT (Qaa 4) (Qaa 4)) (mC (.int 998244353))) (mC (.int 11)))))))
def Qbx:List D→Qac→Res D:=Qby 5 Qkh
abbrev QhH (Pr:Program) (w:World) (K:Frag) (mg:Str→Option Value) (base:Heap):Prop:=Can Pr w K mg base "_law_mix" ["_law_cell_here","_law_k"] 1 (vSp K mg [.s,.s] (rV K) Qbx)
theorem QnA (QhT:Def K mg "_law_mix" Qh7)
  (B:QbZ mg)
  (NK:Qbu K=true) :
  QhH Pr w K mg base:=by
 refine QcC (k:=0) (b:=Qkh) QhT Qdk (fun _ _ _ _ _ _=>Qa1 fun _=>Qa1 fun _=>Qb0 rfl) [.s,.s] [.v,.v,.v] QbN (fun _ _ _ _=>Rp.non) (body:=fun f cdv A outer s H E hr P=>?_);refine Qal ?_ ?_;refine Qbc ?_ ?_ Qa0;refine Qbi Qid (Qan 0) ?_ (QaX _);refine Qau ?_;refine Qax QgH (Qaf Qak) (Qaf Qak);refine Qal ?_ ?_;refine QaH (i:=2) Qdk.nd rfl (.inl rfl) (Qco (Qan 0));refine Qal ?_ ?_;refine Qb1 rfl ?_ (QaJ (i:=3) Qdk.nd rfl (.inl rfl)) ?_;refine QcO B.range_ ?_;refine Qaw (Qan 1) Qai;refine Qaq ?_;refine QaH (i:=2) Qdk.nd rfl (.inl rfl) ?_;refine QaL ?_;refine Qax Qd2 (Qaf (Qag 2)) ?_;refine Qau ?_;refine Qax QgH (Qaf Qak) (Qaf Qak)
 refine Qaq ?_;refine QaU ?_;refine QaL ?_;refine Qax QbC (Qaf (Qag 2)) ?_;refine Qau ?_;refine Qax QgH (Qaf Qak) (Qaf Qak);refine Qal ?_ ?_;refine QaH (i:=4) Qdk.nd rfl (.inl rfl) ?_;refine QaL ?_;refine Qax Qbm ?_ (Qaf Qak);refine Qau ?_;refine Qax QbC (Qan 0) (Qaf Qak);refine Qal ?_ ?_;refine Qb1 rfl ?_ (QaJ (i:=3) Qdk.nd rfl (.inl rfl)) ?_;refine QcO B.range_ ?_;refine Qaw ?_ Qai;refine Qau ?_;refine Qax Qbm (Qan 1) (Qaf Qak);refine Qaq ?_;refine QaH (i:=4) Qdk.nd rfl (.inl rfl) ?_;refine QaL ?_;refine Qax QbC ?_ (Qaf Qak);refine Qau ?_;refine Qax Qbm ?_ (Qaf Qak);refine Qau ?_;refine Qax QdH (Qaf (Qag 4)) (Qaf Qak)
 refine Qaq ?_;refine QaU ?_;refine QaL ?_;refine Qax Qd2 ?_ (Qaf Qak);refine Qau ?_;refine Qax QbC ?_ (Qaf Qak);refine Qau ?_;refine Qax QdH (Qaf (Qag 4)) (Qaf (Qag 4))
abbrev Qe4:Stmt:=top 18
theorem Qga:QaR ["_law_found","_law_due","_law_k"] ["_law_found","_law_due"] (Qas Qe4):=by trivial
def Qcb (self:List D→Qac→Res D):MS :=
  (Qaj (QaM (Qbs (Qci "bool" (Qaa 1))) (QaE (Qd3 (Qci "bool" (Qaa 0)) (Qad gEq (Qaa 0) (Qaa 1)))) QaO)
  (Qaj (QaM (Qbs (Qci "int" (Qaa 1))) (QaE (Qd3 (Qci "int" (Qaa 0)) (Qd3 (QkT (Qci "bool" (Qaa 0))) (Qad gEq (Qaa 0) (Qaa 1))))) QaO)
  (Qaj (QaM (Qbs (Qci "str" (Qaa 1))) (QaE (Qd3 (Qci "str" (Qaa 0)) (Qad gEq (Qaa 0) (Qaa 1)))) QaO)
  (Qaj (QaM (Qbs (Qci "tuple" (Qaa 1))) (QaM (Qb4 (Qbs (Qci "tuple" (Qaa 0)))) (QaE (mC (.bl false))) QaO) (QaM (Qb4 (Qbs (Qci "list" (Qaa 0)))) (QaE (mC (.bl false))) QaO))
  (Qaj (QaM (Qar (Qad gNe (Qav QaV (Qab (Qaa 0) Qae)) (Qav QaV (Qab (Qaa 1) Qae)))) (QaE (mC (.bl false))) QaO)
  (Qaj (Qa8 (Qch (Qab (Qav QaV (Qab (Qaa 1) Qae)) Qae)) (mgN 2) (QaM (Qb4 (Qbs (Qat self (Qab (Qad gIx (Qaa 0) (Qaa 2)) (Qab (Qad gIx (Qaa 1) (Qaa 2)) Qae))))) (QaE (mC (.bl false))) QaO))
  (QaE (mC (.bl true)))))))))
def Qa2:Nat→List D→Qac→Res D
 | 0=>Qby 3 Qqc
 | n+1=>Qby 3 (Qcb (Qa2 n))
def Qcs:List D→Qac→Res D:=Qa2 6
abbrev Ql4 (Pr:Program) (w:World) (K:Frag) (mg:Str→Option Value) (base:Heap):Prop:=Can Pr w K mg base "_law_alike" ["_law_found","_law_due"] 7 (vSp K mg [.s,.s] (rV K) Qcs)
theorem Qhp (QcS:Def K mg "_law_alike" Qe4)
  (B:QbZ mg)
  (NK:Qbu K=true) :
  ∀n:Nat,Can Pr w K mg base "_law_alike" ["_law_found","_law_due"] (0+n+1) (vSp K mg [.s,.s] (rV K) (Qa2 n))
 | 0=>QcC (k:=0) (b:=Qqc) QcS Qga (fun _ _ _ _ _ _=>Qa1 fun _=>Qa1 fun _=>Qb0 rfl) [.s,.s] [.v] QbN (fun _ _ _ _=>Rp.non) (body:=fun f cdv A outer s H E hr P=>Qo5)
 | n+1=>by
  have Qdr:=Qhp QcS B NK n;refine QcC (k:=0+n+1) (b:=Qcb (Qa2 n)) QcS Qga (fun _ _ _ _ _ _=>Qa1 fun _=>Qa1 fun _=>Qb0 rfl) [.s,.s] [.v] QbN (fun _ _ _ _=>Rp.non) (body:=fun f cdv A outer s H E hr P=>?_);refine Qal ?_ ?_;refine Qbc ?_ ?_ Qa0;refine QcB ?_;refine Qau (QdN "bool" (hb:=QjL) B.isinstance_ B.bool_ (Qan 1));refine Qaq ?_;refine QaU ?_;refine Qhw ?_ ?_;refine QaL (QdN "bool" (hb:=QjL) B.isinstance_ B.bool_ (Qan 0));refine QjA ?_;refine QaL ?_;refine Qf3 (QcF hr) (Qan 0) (Qan 1) (QaX _);refine Qal ?_ ?_;refine Qbc ?_ ?_ Qa0;refine QcB ?_;refine Qau (QdN "int" (hb:=QlA) B.isinstance_ B.int_ (Qan 1))
  refine Qaq ?_;refine QaU ?_;refine Qhw ?_ ?_;refine QaL (QdN "int" (hb:=QlA) B.isinstance_ B.int_ (Qan 0));refine Qhw ?_ ?_;refine QuM ?_;refine QaL (QdN "bool" (hb:=QjL) B.isinstance_ B.bool_ (Qan 0));refine QjA ?_;refine QaL ?_;refine Qf3 (QcF hr) (Qan 0) (Qan 1) (QaX _);refine Qal ?_ ?_;refine Qbc ?_ ?_ Qa0;refine QcB ?_;refine Qau (QdN "str" (hb:=Qos) B.isinstance_ B.str_ (Qan 1));refine Qaq ?_;refine QaU ?_;refine Qhw ?_ ?_;refine QaL (QdN "str" (hb:=Qos) B.isinstance_ B.str_ (Qan 0));refine QjA ?_;refine QaL ?_;refine Qf3 (QcF hr) (Qan 0) (Qan 1) (QaX _);refine Qal ?_ ?_;refine Qbc ?_ ?_ ?_
  refine QcB ?_;refine Qau (QdN "tuple" (hb:=Qlj) B.isinstance_ B.tuple_ (Qan 1));refine Qaq ?_;refine Qbc ?_ ?_ Qa0;refine Qe9 ?_;refine QcB ?_;refine Qau (QdN "tuple" (hb:=Qlj) B.isinstance_ B.tuple_ (Qan 0));refine Qaq (QaU QcI);refine Qaq ?_;refine Qbc ?_ ?_ Qa0;refine Qe9 ?_;refine QcB ?_;refine Qau (QdN "list" (hb:=QeS) B.isinstance_ B.list_ (Qan 0));refine Qaq (QaU QcI);refine Qal ?_ ?_;refine Qbc ?_ ?_ Qa0;refine Qbi (QgZ hr) ?_ ?_ (QaX _);refine Qau ?_;refine Qbf (ms:=[.s]) (hv:=QbS) QbQ B.len_ ?_;refine Qaw (Qan 0) Qai;refine Qau ?_;refine Qbf (ms:=[.s]) (hv:=QbS) QbQ B.len_ ?_;refine Qaw (Qan 1) Qai
  refine Qaq (QaU QcI);refine Qal ?_ ?_;refine Qb1 rfl ?_ (QaJ (i:=2) Qga.nd rfl (.inl rfl)) ?_;refine QcO B.range_ ?_;refine Qaw ?_ Qai;refine Qau ?_;refine Qbf (ms:=[.s]) (hv:=QbS) QbQ B.len_ ?_;refine Qaw (Qan 1) Qai;refine Qaq ?_;refine Qbc ?_ ?_ Qa0;refine Qe9 ?_;refine QcB ?_;refine Qaf ?_;refine Qa9 Qdr (hr.mono (by omega)) ?_;refine Qaw ?_ ?_;refine Qaf ?_;refine QaP (Qan 0) (Qaf (Qag 2));refine Qaw ?_ Qai;refine Qaf ?_;refine QaP (Qan 1) (Qaf (Qag 2));refine Qaq (QaU QcI);refine Qaq (QaU QcI)
theorem Qlf (QcS:Def K mg "_law_alike" Qe4)
  (B:QbZ mg)
  (NK:Qbu K=true) :
  Can Pr w K mg base "_law_alike" ["_law_found","_law_due"] 7 (vSp K mg [.s,.s] (rV K) Qcs):=Qhp QcS B NK 6
abbrev Qfx:Stmt:=top 19
theorem Qmb:QaR ["_law_picture"] ["_law_picture"] (Qas Qfx):=by trivial
def QjC:MS :=
  (QaE (Qbw (Qba (Qaa 0)) 1 [] (mgN 0) Qcj (mMl (Qav Qcr (Qab (Qaa 0) Qae)))))
def QcJ:List D→Qac→Res D:=Qby 1 QjC
abbrev Qjc (Pr:Program) (w:World) (K:Frag) (mg:Str→Option Value) (base:Heap):Prop:=Can Pr w K mg base "_law_copy" ["_law_picture"] 1 (vSp K mg [.s] (rO K) QcJ)
theorem Ql5 (QgO:Def K mg "_law_copy" Qfx)
  (B:QbZ mg)
  (NK:Qbu K=true) :
  Qjc Pr w K mg base:=by
 refine QcC (k:=0) (b:=QjC) QgO Qmb (fun _ _ _ _ _ _=>Qa1 fun _=>Qb0 rfl) [.s] [] Qde (fun _ _ _ _=>.inl ⟨rfl,Rp.non⟩) (body:=fun f cdv A outer s H E hr P=>?_);refine Qaq ?_;refine Qep ?_;refine Qiz (Qas Qfx) ["_law_picture"] ["_law_row_here"] [] rfl (Qet (Qan 0)) (fun _ _ _ _ P=>?_) (fun _ _ _ _ P=>?_) (fun _ _ _ _ P=>?_);exact QaJ (i:=0) (show (QaQ ["_law_picture"] ["_law_row_here"] []).Nodup by decide +kernel) rfl (.inl rfl);exact QeX;refine Qjp ?_;refine QfR (ms:=[.s]) (hv:=QeS) Qii B.list_ ?_;refine Qaw (Qaf (Qag 0)) Qai
abbrev Qgc:Stmt:=top 20
theorem Qck:QaR ["_law_cell_here","_law_many","_law_number","_law_rest","_law_found","_law_k"] ["_law_cell_here","_law_many"] (Qas Qgc):=by trivial
def Qh9:MS :=
  (Qaj (Qao 2 (Qad QaK (Qad QbT (Qad QaK (Qad QaT (Qaa 0) (mC (.int 2147483647))) (mC (.int 7919))) (mC (.int 48271))) (mC (.int 104729))))
  (Qaj (Qao 3 (mG (Qaa 0)))
  (Qaj (Qao 4 (Qa3 Qae))
  (Qaj (Qa8 (Qch (Qab (Qaa 1) Qae)) (mgN 5) (QaM (Qar (Qad gGt (Qaa 0) (Qad Qc8 (mC (.int 10)) (mC (.int 18))))) (Qaj (Qbt 4 (Qad QaT (Qaa 3) (Qad Qc8 (mC (.int 10)) (mC (.int 9)))))
  (Qao 3 (Qad QbB (Qaa 3) (Qad Qc8 (mC (.int 10)) (mC (.int 9)))))) (Qaj (Qao 2 (Qad QaT (Qad QaK (Qad QbT (Qaa 2) (mC (.int 48271))) (mC (.int 104729))) (mC (.int 2147483629))))
  (Qbt 4 (Qad QbB (Qad QaT (Qad QbT (Qaa 2) (Qaa 2)) (mC (.int 998244353))) (mC (.int 11)))))))
  (QaE (Qaa 4))))))
def Qc3:List D→Qac→Res D:=Qby 6 Qh9
abbrev Qf4 (Pr:Program) (w:World) (K:Frag) (mg:Str→Option Value) (base:Heap):Prop:=Can Pr w K mg base "_law_stream" ["_law_cell_here","_law_many"] 1 (vSp K mg [.s,.s] (rO K) Qc3)
theorem QkD (Qgd:Def K mg "_law_stream" Qgc)
  (B:QbZ mg)
  (NK:Qbu K=true) :
  Qf4 Pr w K mg base:=by
 refine QcC (k:=0) (b:=Qh9) Qgd Qck (fun _ _ _ _ _ _=>Qa1 fun _=>Qa1 fun _=>Qb0 rfl) [.s,.s] [.v,.v,.o,.v] Qde (fun _ _ _ _=>.inl ⟨rfl,Rp.non⟩) (body:=fun f cdv A outer s H E hr P=>?_);refine Qal ?_ ?_;refine QaH (i:=2) Qck.nd rfl (.inl rfl) ?_;refine QaL ?_;refine Qax Qbm ?_ (Qaf Qak);refine Qau ?_;refine Qax QdH ?_ (Qaf Qak);refine Qau ?_;refine Qax Qbm ?_ (Qaf Qak);refine Qau ?_;refine Qax QbC (Qan 0) (Qaf Qak);refine Qal ?_ ?_;refine QaH (i:=3) Qck.nd rfl (.inl rfl) (Qco (Qan 0));refine Qal ?_ ?_;refine Qe2 (i:=4) Qck.nd rfl (.inl rfl) (Qbv 0 Qai);refine Qal ?_ (Qaq (Qgw 4));refine Qb1 rfl ?_ (QaJ (i:=5) Qck.nd rfl (.inl rfl)) ?_
 refine QcO B.range_ ?_;refine Qaw (Qan 1) Qai;refine Qaq ?_;refine Qbc ?_ ?_ ?_;refine Qbi Qid (Qan 0) ?_ (QaX _);refine Qau ?_;refine Qax QgH (Qaf Qak) (Qaf Qak);refine Qal ?_ ?_;refine Qcf 4 ?_;refine QaL ?_;refine Qax QbC (Qaf (Qag 3)) ?_;refine Qau ?_;refine Qax QgH (Qaf Qak) (Qaf Qak);refine Qaq ?_;refine QaH (i:=3) Qck.nd rfl (.inl rfl) ?_;refine QaL ?_;refine Qax Qd2 (Qaf (Qag 3)) ?_;refine Qau ?_;refine Qax QgH (Qaf Qak) (Qaf Qak);refine Qal ?_ ?_;refine QaH (i:=2) Qck.nd rfl (.inl rfl) ?_;refine QaL ?_;refine Qax QbC ?_ (Qaf Qak);refine Qau ?_;refine Qax Qbm ?_ (Qaf Qak);refine Qau ?_
 refine Qax QdH (Qaf (Qag 2)) (Qaf Qak);refine Qaq ?_;refine Qcf 4 ?_;refine QaL ?_;refine Qax Qd2 ?_ (Qaf Qak);refine Qau ?_;refine Qax QbC ?_ (Qaf Qak);refine Qau ?_;refine Qax QdH (Qaf (Qag 2)) (Qaf (Qag 2))
abbrev Qgk:Stmt:=top 21
theorem QdR:QaR ["_law_number","_law_room","_law_some","_law_ink","_law_ground","_law_way"] ["_law_number","_law_room"] (Qas Qgk):=by trivial
def QiG:MS :=
  (Qaj (Qao 2 (mC (.str [97,98,99,100,101,102,103,104,105,106,107,108,109,110,111,112,113,114,115,116,117,118,119,120,121,122,48,49,50,51,52,53,54,55,56,57,33,34,35,36,38,39,40,41,42,43,44,45,46,47,58,59,60,61,62,63,64,91,92,93,94,95,96,123,124,125])))
  (Qaj (Qao 3 (Qad gIx (mC (.str [97,98,99,100,101,102,103,104,46])) (Qad QaT (Qaa 0) (mC (.int 9)))))
  (Qaj (Qao 4 (Qad gIx (mC (.str [97,98,99,100,101,102,103,104,46])) (Qad QaT (Qad QbB (Qaa 0) (mC (.int 9))) (mC (.int 9)))))
  (Qaj (Qao 5 (Qad QaT (Qad QbB (Qaa 0) (mC (.int 81))) (mC (.int 6))))
  (Qaj (QaM (QcX (Qar (Qad gEq (Qaa 5) (mC (.int 0)))) (Qar (Qad gGt (Qaa 1) (mC (.int 1))))) (QaE (Qa3 (Qab (QaZ (Qab (Qad gIx (mC (.str [65,66,67,68,69,70,71,72,73,74,75,76,77,78,79,80,81,82,83,84,85,86,87,88,89,90])) (Qad QaT (Qad QbB (Qaa 0) (mC (.int 486))) (mC (.int 26)))) (Qab (Qaa 3) (Qab (Qaa 4) Qae)))) (Qab (QaZ (Qab (mC (.str [])) (Qab (Qaa 3) (Qab (Qaa 4) Qae)))) Qae)))) QaO)
  (Qaj (QaM (Qar (Qad gEq (Qaa 5) (mC (.int 1)))) (QaE (Qa3 (Qab (QaZ (Qab (mC (.str [32])) (Qab (mC (.str [46])) (Qab (Qaa 4) Qae)))) Qae))) QaO)
  (Qaj (QaM (Qar (Qad gEq (Qaa 5) (mC (.int 2)))) (QaE (Qa3 (Qab (QaZ (Qab (mC (.str [32])) (Qab (mC (.str [46])) (Qab (mC (.str [46])) Qae)))) Qae))) QaO)
  (QaE (Qa3 (Qab (QaZ (Qab (Qad gIx (Qaa 2) (Qad QaT (Qad QbB (Qaa 0) (mC (.int 486))) (Qav QaV (Qab (Qaa 2) Qae)))) (Qab (Qaa 3) (Qab (Qaa 4) Qae)))) Qae))))))))))
def QcR:List D→Qac→Res D:=Qby 6 QiG
abbrev Qgm (Pr:Program) (w:World) (K:Frag) (mg:Str→Option Value) (base:Heap):Prop:=Can Pr w K mg base "_law_cells" ["_law_number","_law_room"] 1 (vSp K mg [.s,.s] (rO K) QcR)
theorem Qlg (Qgo:Def K mg "_law_cells" Qgk)
  (B:QbZ mg)
  (NK:Qbu K=true) :
  Qgm Pr w K mg base:=by
 refine QcC (k:=0) (b:=QiG) Qgo QdR (fun _ _ _ _ _ _=>Qa1 fun _=>Qa1 fun _=>Qb0 rfl) [.s,.s] [.v,.v,.v,.v] Qde (fun _ _ _ _=>.inl ⟨rfl,Rp.non⟩) (body:=fun f cdv A outer s H E hr P=>?_);refine Qal (QaH (i:=2) QdR.nd rfl (.inl rfl) (Qbd [97,98,99,100,101,102,103,104,105,106,107,108,109,110,111,112,113,114,115,116,117,118,119,120,121,122,48,49,50,51,52,53,54,55,56,57,33,34,35,36,38,39,40,41,42,43,44,45,46,47,58,59,60,61,62,63,64,91,92,93,94,95,96,123,124,125])) ?_;refine Qal ?_ ?_;refine QaH (i:=3) QdR.nd rfl (.inl rfl) ?_;refine QaP (Qaf (Qbd [97,98,99,100,101,102,103,104,46])) ?_;refine Qau ?_
 refine Qax QbC (Qan 0) (Qaf Qak);refine Qal ?_ ?_;refine QaH (i:=4) QdR.nd rfl (.inl rfl) ?_;refine QaP (Qaf (Qbd [97,98,99,100,101,102,103,104,46])) ?_;refine Qau ?_;refine Qax QbC ?_ (Qaf Qak);refine Qau ?_;refine Qax Qd2 (Qan 0) (Qaf Qak);refine Qal ?_ ?_;refine QaH (i:=5) QdR.nd rfl (.inl rfl) ?_;refine QaL ?_;refine Qax QbC ?_ (Qaf Qak);refine Qau ?_;refine Qax Qd2 (Qan 0) (Qaf Qak);refine Qal ?_ ?_;refine Qbc ?_ ?_ Qa0;refine QiZ ?_;refine Qh2 ?_ ?_;refine Qbi (QcF hr) (Qaf (Qag 5)) (Qaf Qak) (QaX _);refine Qgv ?_;refine Qbi Qid (Qan 1) (Qaf Qak) (QaX _);refine Qaq ?_;refine Qep ?_;refine Qbv 2 ?_
 refine QaC ?_ ?_;refine Qbk 3 ?_;refine QaC ?_ ?_;refine QaP (Qaf (Qbd [65,66,67,68,69,70,71,72,73,74,75,76,77,78,79,80,81,82,83,84,85,86,87,88,89,90])) ?_;refine Qau ?_;refine Qax QbC ?_ (Qaf Qak);refine Qau ?_;refine Qax Qd2 (Qan 0) (Qaf Qak);refine QaC (Qag 3) ?_;refine QaC (Qag 4) Qai;refine QaC ?_ Qai;refine Qbk 3 ?_;refine QaC (Qbd []) ?_;refine QaC (Qag 3) ?_;refine QaC (Qag 4) Qai;refine Qal ?_ ?_;refine Qbc ?_ ?_ Qa0;refine Qbi (QcF hr) (Qaf (Qag 5)) (Qaf Qak) (QaX _);refine Qaq ?_;refine Qep ?_;refine Qbv 1 ?_;refine QaC ?_ Qai;refine Qbk 3 ?_;refine QaC (Qbd [32]) ?_;refine QaC (Qbd [46]) ?_
 refine QaC (Qag 4) Qai;refine Qal ?_ ?_;refine Qbc ?_ ?_ Qa0;refine Qbi (QcF hr) (Qaf (Qag 5)) (Qaf Qak) (QaX _);refine Qaq ?_;refine Qep ?_;refine Qbv 1 ?_;refine QaC ?_ Qai;refine Qbk 3 ?_;refine QaC (Qbd [32]) ?_;refine QaC (Qbd [46]) ?_;refine QaC (Qbd [46]) Qai;refine Qaq ?_;refine Qep ?_;refine Qbv 1 ?_;refine QaC ?_ Qai;refine Qbk 3 ?_;refine QaC ?_ ?_;refine QaP (Qaf (Qag 2)) ?_;refine Qau ?_;refine Qax QbC ?_ ?_;refine Qau ?_;refine Qax Qd2 (Qan 0) (Qaf Qak);refine Qau ?_;refine Qbf (ms:=[.s]) (hv:=QbS) QbQ B.len_ ?_;refine Qaw (Qaf (Qag 2)) Qai;refine QaC (Qag 3) ?_;refine QaC (Qag 4) Qai
abbrev QhD:Stmt:=top 22
theorem Qft:QaR ["_law_cell_here","_law_wide","_law_row_here","_law_number"] ["_law_cell_here","_law_wide"] (Qas QhD):=by trivial
def Qkw:MS :=
  (Qaj (Qao 2 (Qa3 Qae))
  (Qaj (Qa8 (Qba (Qat Qc3 (Qab (Qaa 0) (Qab (Qaa 1) Qae)))) (mgN 3) (QaM (Qar (Qad gLt (Qav QaV (Qab (Qaa 2) Qae)) (Qaa 1))) (Qao 2 (Qad QaK (Qaa 2) (Qat QcR (Qab (Qaa 3) (Qab (Qad Qed (Qaa 1) (Qav QaV (Qab (Qaa 2) Qae))) Qae))))) QaO))
  (QaE (Qaa 2))))
def QcL:List D→Qac→Res D:=Qby 4 Qkw
abbrev Qkr (Pr:Program) (w:World) (K:Frag) (mg:Str→Option Value) (base:Heap):Prop:=Can Pr w K mg base "_law_row" ["_law_cell_here","_law_wide"] 2 (vSp K mg [.s,.s] (rV K) QcL)
theorem QnR (QhW:Def K mg "_law_row" QhD)
  (B:QbZ mg)
  (NK:Qbu K=true)
  (Qc7:Qf4 Pr w K mg base)
  (Qdv:Qgm Pr w K mg base) :
  Qkr Pr w K mg base:=by
 refine QcC (k:=1) (b:=Qkw) QhW Qft (fun _ _ _ _ _ _=>Qa1 fun _=>Qa1 fun _=>Qb0 rfl) [.s,.s] [.v,.v] QbN (fun _ _ _ _=>Rp.non) (body:=fun f cdv A outer s H E hr P=>?_);refine Qal ?_ ?_;refine QaH (i:=2) Qft.nd rfl (.inl rfl) ?_;refine QaL (Qbv 0 Qai);refine Qal ?_ ?_;refine Qb1 rfl ?_ (QaJ (i:=3) Qft.nd rfl (.inl rfl)) ?_;refine QfW ?_;refine QgU ?_;refine QaL ?_;refine Qb8 Qc7 (hr.mono (by decide)) ?_;refine Qaw (Qan 0) ?_;refine Qaw (Qan 1) Qai;refine Qaq ?_;refine Qbc ?_ ?_ Qa0;refine Qbi Qjr ?_ (Qan 1) (QaX _);refine Qau ?_;refine Qbf (ms:=[.s]) (hv:=QbS) QbQ B.len_ ?_;refine Qaw (Qaf (Qag 2)) Qai
 refine Qaq ?_;refine QaH (i:=2) Qft.nd rfl (.inl rfl) ?_;refine QaL ?_;refine Qax Qbm (Qaf (Qag 2)) ?_;refine Qau ?_;refine Qb8 Qdv (hr.mono (by decide)) ?_;refine Qaw (Qaf (Qag 3)) ?_;refine Qaw ?_ Qai;refine Qau ?_;refine Qax QlD (Qan 1) ?_;refine Qau ?_;refine Qbf (ms:=[.s]) (hv:=QbS) QbQ B.len_ ?_;refine Qaw (Qaf (Qag 2)) Qai;refine Qaq (QaU (Qag 2))
abbrev Qff:Stmt:=top 23
theorem QbK:QaR ["_law_row_here","_law_cell_here","_law_xs","_law_keep","_law_found","_law_number","_law_col","_law_size_here"] ["_law_row_here","_law_cell_here"] (Qas Qff):=by trivial
def Qho:MS :=
  (Qaj (Qao 2 (Qat Qc3 (Qab (Qaa 1) (Qab (Qad QaK (Qav QaV (Qab (Qaa 0) Qae)) (mC (.int 1))) Qae))))
  (Qaj (Qao 3 (Qad gIx (Qa3 (Qab (mC (.int 2)) (Qab (mC (.int 4)) (Qab (mC (.int 9)) (Qab (mC (.int 30)) Qae))))) (Qad QaT (Qad gIx (Qaa 2) (mUn Qey (mC (.int 1)))) (mC (.int 4)))))
  (Qaj (Qao 4 (Qa3 Qae))
  (Qaj (Qa8 (Qba (mSl (Qaa 2) moN (moS (mUn Qey (mC (.int 1)))))) (mgN 5) (Qaj (Qao 6 (Qav QaV (Qab (Qaa 4) Qae)))
  (QaM (Qar (Qad gLt (Qaa 6) (Qav QaV (Qab (Qaa 0) Qae)))) (Qaj (Qao 7 (Qad QaK (mC (.int 1)) (Qav Qkc (Qab (Qd3 (Qad gLt (Qad QaK (Qaa 6) (mC (.int 1))) (Qav QaV (Qab (Qaa 0) Qae))) (Qad gEq (Qad gIx (Qad gIx (Qaa 0) (Qad QaK (Qaa 6) (mC (.int 1)))) (mC (.int 0))) (mC (.str [])))) Qae))))
  (QaM (QcX (Qar (Qad gNe (Qad gIx (Qad gIx (Qaa 0) (Qaa 6)) (mC (.int 0))) (mC (.str [])))) (Qar (Qad gGt (Qad QaT (Qaa 5) (Qaa 3)) (mC (.int 0))))) (Qao 4 (Qad QaK (Qaa 4) (mSl (Qaa 0) (moS (Qaa 6)) (moS (Qad QaK (Qaa 6) (Qaa 7)))))) (Qao 4 (Qad QaK (Qaa 4) (Qat QcR (Qab (Qad QbB (Qaa 5) (Qaa 3)) (Qab (Qad Qed (Qav QaV (Qab (Qaa 0) Qae)) (Qaa 6)) Qae))))))) QaO)))
  (QaE (Qaa 4))))))
def Qdo:List D→Qac→Res D:=Qby 8 Qho
abbrev Qht (Pr:Program) (w:World) (K:Frag) (mg:Str→Option Value) (base:Heap):Prop:=Can Pr w K mg base "_law_changed" ["_law_row_here","_law_cell_here"] 2 (vSp K mg [.s,.s] (rV K) Qdo)
theorem Qkf (Qfk:Def K mg "_law_changed" Qff)
  (B:QbZ mg)
  (NK:Qbu K=true)
  (Qc7:Qf4 Pr w K mg base)
  (Qdv:Qgm Pr w K mg base) :
  Qht Pr w K mg base:=by
 refine QcC (k:=1) (b:=Qho) Qfk QbK (fun _ _ _ _ _ _=>Qa1 fun _=>Qa1 fun _=>Qb0 rfl) [.s,.s] [.v,.v,.v,.v,.v,.v] QbN (fun _ _ _ _=>Rp.non) (body:=fun f cdv A outer s H E hr P=>?_);refine Qal ?_ ?_;refine QaH (i:=2) QbK.nd rfl (.inl rfl) ?_;refine QaL ?_;refine Qb8 Qc7 (hr.mono (by decide)) ?_;refine Qaw (Qan 1) ?_;refine Qaw ?_ Qai;refine Qau ?_;refine Qax Qbm ?_ (Qaf Qak);refine Qau ?_;refine Qbf (ms:=[.s]) (hv:=QbS) QbQ B.len_ ?_;refine Qaw (Qan 0) Qai;refine Qal ?_ ?_;refine QaH (i:=3) QbK.nd rfl (.inl rfl) ?_;refine QaP ?_ ?_;refine Qau ?_;refine Qbv 4 ?_;refine QaC Qak ?_;refine QaC Qak ?_
 refine QaC Qak ?_;refine QaC Qak Qai;refine Qau ?_;refine Qax QbC ?_ (Qaf Qak);refine Qaf ?_;refine QaP (Qaf (Qag 2)) ?_;refine Qau ?_;refine QhS (Qaf Qak);refine Qal ?_ ?_;refine QaH (i:=4) QbK.nd rfl (.inl rfl) ?_;refine QaL (Qbv 0 Qai);refine Qal ?_ ?_;refine Qb1 rfl ?_ (QaJ (i:=5) QbK.nd rfl (.inl rfl)) ?_;refine QfW ?_;refine QgU ?_;refine QaL ?_;refine Qe1 (Qaf (Qag 2)) QmF ?_;refine Qdq ?_;refine QaL ?_;refine QhS (Qaf Qak);refine Qal ?_ ?_;refine QaH (i:=6) QbK.nd rfl (.inl rfl) ?_;refine QaL ?_;refine Qbf (ms:=[.s]) (hv:=QbS) QbQ B.len_ ?_;refine Qaw (Qaf (Qag 4)) Qai;refine Qaq ?_;refine Qbc ?_ ?_ Qa0
 refine Qbi Qjr (Qaf (Qag 6)) ?_ (QaX _);refine Qau ?_;refine Qbf (ms:=[.s]) (hv:=QbS) QbQ B.len_ ?_;refine Qaw (Qan 0) Qai;refine Qal ?_ ?_;refine QaH (i:=7) QbK.nd rfl (.inl rfl) ?_;refine QaL ?_;refine Qax Qbm (Qaf Qak) ?_;refine Qau ?_;refine QfR (ms:=[.s]) (hv:=QlA) QsZ B.int_ ?_;refine Qaw ?_ Qai;refine Qaf ?_;refine Qhw ?_ ?_;refine QaL ?_;refine Qf3 Qjr ?_ ?_ (QaX _);refine Qau ?_;refine Qax Qbm (Qaf (Qag 6)) (Qaf Qak);refine Qau ?_;refine Qbf (ms:=[.s]) (hv:=QbS) QbQ B.len_ ?_;refine Qaw (Qan 0) Qai;refine QjA ?_;refine QaL ?_;refine Qf3 (QcF hr) ?_ (Qaf (Qbd [])) (QaX _);refine Qaf ?_
 refine QaP ?_ (Qaf Qak);refine Qaf ?_;refine QaP (Qan 0) ?_;refine Qau ?_;refine Qax Qbm (Qaf (Qag 6)) (Qaf Qak);refine Qaq ?_;refine Qbc ?_ ?_ ?_;refine QiZ ?_;refine Qh2 ?_ ?_;refine Qbi (QgZ hr) ?_ (Qaf (Qbd [])) (QaX _);refine Qaf ?_;refine QaP ?_ (Qaf Qak);refine Qaf ?_;refine QaP (Qan 0) (Qaf (Qag 6));refine Qgv ?_;refine Qbi Qid ?_ (Qaf Qak) (QaX _);refine Qau ?_;refine Qax QbC (Qaf (Qag 5)) (Qaf (Qag 3));refine Qaq ?_;refine QaH (i:=4) QbK.nd rfl (.inl rfl) ?_;refine QaL ?_;refine Qax Qbm (Qaf (Qag 4)) ?_;refine Qau ?_;refine Qe1 (Qan 0) (Qdq (Qag 6)) ?_;refine Qdq ?_;refine QaL ?_;refine Qax Qbm (Qaf (Qag 6)) (Qaf (Qag 7))
 refine Qaq ?_;refine QaH (i:=4) QbK.nd rfl (.inl rfl) ?_;refine QaL ?_;refine Qax Qbm (Qaf (Qag 4)) ?_;refine Qau ?_;refine Qb8 Qdv (hr.mono (by decide)) ?_;refine Qaw ?_ ?_;refine Qau ?_;refine Qax Qd2 (Qaf (Qag 5)) (Qaf (Qag 3));refine Qaw ?_ Qai;refine Qau ?_;refine Qax QlD ?_ (Qaf (Qag 6));refine Qau ?_;refine Qbf (ms:=[.s]) (hv:=QbS) QbQ B.len_ ?_;refine Qaw (Qan 0) Qai;refine Qaq (QaU (Qag 4))
abbrev Qg9:Stmt:=top 24
theorem Qec:QaR ["_law_script","_law_cell_here","_law_high","_law_wide"] ["_law_script"] (Qas Qg9):=by trivial
def QfA:MS :=
  (Qaj (Qao 1 (Qat Qbh (Qab (Qaa 0) (Qab (mC (.int 0)) Qae))))
  (Qaj (Qao 2 (Qad QaK (mC (.int 1)) (Qad QaT (Qat Qbx (Qab (Qaa 1) (Qab (mC (.int 1)) Qae))) (Qad gIx (Qa3 (Qab (mC (.int 3)) (Qab (mC (.int 4)) (Qab (mC (.int 3)) (Qab (mC (.int 12)) Qae))))) (Qad QaT (Qat Qbx (Qab (Qaa 1) (Qab (mC (.int 2)) Qae))) (mC (.int 4)))))))
  (Qaj (Qao 3 (Qad QaK (mC (.int 2)) (Qad QaT (Qat Qbx (Qab (Qaa 1) (Qab (mC (.int 3)) Qae))) (Qad gIx (Qa3 (Qab (mC (.int 6)) (Qab (mC (.int 11)) (Qab (mC (.int 11)) (Qab (mC (.int 39)) Qae))))) (Qad QaT (Qat Qbx (Qab (Qaa 1) (Qab (mC (.int 4)) Qae))) (mC (.int 4)))))))
  (Qaj (QaM (Qar (Qad gGt (Qaa 2) (mC (.int 4)))) (Qao 3 (Qav Qj0 (Qab (Qaa 3) (Qab (mC (.int 16)) Qae)))) QaO)
  (QaE (QaZ (Qab (Qaa 2) (Qab (Qaa 3) Qae))))))))
def Qfu:List D→Qac→Res D:=Qby 4 QfA
abbrev Qjm (Pr:Program) (w:World) (K:Frag) (mg:Str→Option Value) (base:Heap):Prop:=Can Pr w K mg base "_law_size" ["_law_script"] 2 (vSp K mg [.s] (rV K) Qfu)
theorem Ql7 (Qhe:Def K mg "_law_size" Qg9)
  (B:QbZ mg)
  (NK:Qbu K=true)
  (QcK:QgT Pr w K mg base)
  (Qcu:QhH Pr w K mg base) :
  Qjm Pr w K mg base:=by
 refine QcC (k:=1) (b:=QfA) Qhe Qec (fun _ _ _ _ _ _=>Qa1 fun _=>Qb0 rfl) [.s] [.v,.v,.v] QbN (fun _ _ _ _=>Rp.non) (body:=fun f cdv A outer s H E hr P=>?_);refine Qal ?_ ?_;refine QaH (i:=1) Qec.nd rfl (.inl rfl) ?_;refine Qa9 QcK (hr.mono (by decide)) ?_;refine Qaw (Qan 0) ?_;refine Qaw (Qaf Qak) Qai;refine Qal ?_ ?_;refine QaH (i:=2) Qec.nd rfl (.inl rfl) ?_;refine QaL ?_;refine Qax Qbm (Qaf Qak) ?_;refine Qau ?_;refine Qax QbC ?_ ?_;refine Qaf ?_;refine Qa9 Qcu (hr.mono (by decide)) ?_;refine Qaw (Qaf (Qag 1)) ?_;refine Qaw (Qaf Qak) Qai;refine Qaf ?_;refine QaP ?_ ?_;refine Qau ?_;refine Qbv 4 ?_
 refine QaC Qak ?_;refine QaC Qak ?_;refine QaC Qak ?_;refine QaC Qak Qai;refine Qau ?_;refine Qax QbC ?_ (Qaf Qak);refine Qaf ?_;refine Qa9 Qcu (hr.mono (by decide)) ?_;refine Qaw (Qaf (Qag 1)) ?_;refine Qaw (Qaf Qak) Qai;refine Qal ?_ ?_;refine QaH (i:=3) Qec.nd rfl (.inl rfl) ?_;refine QaL ?_;refine Qax Qbm (Qaf Qak) ?_;refine Qau ?_;refine Qax QbC ?_ ?_;refine Qaf ?_;refine Qa9 Qcu (hr.mono (by decide)) ?_;refine Qaw (Qaf (Qag 1)) ?_;refine Qaw (Qaf Qak) Qai;refine Qaf ?_;refine QaP ?_ ?_;refine Qau ?_;refine Qbv 4 ?_;refine QaC Qak ?_;refine QaC Qak ?_;refine QaC Qak ?_;refine QaC Qak Qai
 refine Qau ?_;refine Qax QbC ?_ (Qaf Qak);refine Qaf ?_;refine Qa9 Qcu (hr.mono (by decide)) ?_;refine Qaw (Qaf (Qag 1)) ?_;refine Qaw (Qaf Qak) Qai;refine Qal ?_ ?_;refine Qbc ?_ ?_ Qa0;refine Qbi Qid (Qaf (Qag 2)) (Qaf Qak) (QaX _);refine Qaq ?_;refine QaH (i:=3) Qec.nd rfl (.inl rfl) ?_;refine QaL ?_;refine Qbf (ms:=[.s,.s]) (hv:=Qtv) (Quj rfl) B.min_ ?_;refine Qaw (Qaf (Qag 3)) ?_;refine Qaw (Qaf Qak) Qai;refine Qaq ?_;refine QaU ?_;refine Qbk 2 ?_;refine QaC (Qag 2) ?_;refine QaC (Qag 3) Qai
abbrev Qc4:Stmt:=top 25
theorem QbA:QaR ["_law_script","_law_high","_law_wide","_law_one","_law_other","_law_row_here","_law_cell_here","_law_way"] ["_law_script"] (Qas Qc4):=by trivial
def QgL:MS :=
  (Qaj (Qg6 (Qat Qfu (Qab (Qaa 0) Qae)) (Qb9 2 (QaB (mgN 1) (QaB (mgN 2) Qbr))))
  (Qaj (Qao 3 (Qbw (Qch (Qab (Qaa 1) Qae)) 1 [0,2] (mgN 0) Qcj (Qat QcL (Qab (Qat Qbh (Qab (Qaa 1) (Qab (Qad QaK (mC (.int 1)) (Qaa 0)) Qae))) (Qab (Qaa 2) Qae)))))
  (Qaj (Qao 4 (Qa3 Qae))
  (Qaj (Qa8 (Qch (Qab (Qaa 1) Qae)) (mgN 5) (Qaj (Qao 6 (Qat Qbh (Qab (Qaa 0) (Qab (Qad QaK (mC (.int 13)) (Qaa 5)) Qae))))
  (Qaj (Qao 7 (Qad QaT (Qat Qbx (Qab (Qaa 6) (Qab (mC (.int 0)) Qae))) (mC (.int 6))))
  (QaM (Qar (Qad gEq (Qaa 7) (mC (.int 0)))) (Qbt 4 (Qav Qcr (Qab (Qad gIx (Qaa 3) (Qaa 5)) Qae))) (QaM (Qar (Qad gEq (Qaa 7) (mC (.int 1)))) (Qbt 4 (Qat QcL (Qab (Qaa 6) (Qab (Qaa 2) Qae)))) (QaM (Qar (Qad gEq (Qaa 7) (mC (.int 2)))) (Qbt 4 (Qad QbT (Qa3 (Qab (QaZ (Qab (mC (.str [32])) (Qab (mC (.str [46])) (Qab (mC (.str [46])) Qae)))) Qae)) (Qaa 2))) (Qbt 4 (Qat Qdo (Qab (Qad gIx (Qaa 3) (Qaa 5)) (Qab (Qaa 6) Qae))))))))))
  (Qaj (QaM (Qar (Qad gEq (Qad QaT (Qat Qbx (Qab (Qat Qbh (Qab (Qaa 0) (Qab (mC (.int 0)) Qae))) (Qab (mC (.int 5)) Qae))) (mC (.int 5))) (mC (.int 1)))) (Qao 3 (Qbw (Qba (Qaa 3)) 1 [2] (mgN 0) Qcj (Qad QbT (Qa3 (Qab (QaZ (Qab (mC (.str [32])) (Qab (mC (.str [46])) (Qab (mC (.str [46])) Qae)))) Qae)) (Qaa 1)))) QaO)
  (QiR (QaE (QaZ (Qab (Qaa 3) (Qab (Qaa 4) Qae))))))))))
def QdX:List D→Qac→Res D:=Qby 8 QgL
abbrev QgI (Pr:Program) (w:World) (K:Frag) (mg:Str→Option Value) (base:Heap):Prop:=Can Pr w K mg base "_law_pictures" ["_law_script"] 3 (vSp K mg [.s] (rV K) QdX)
theorem Qjt (QeU:Def K mg "_law_pictures" Qc4)
  (B:QbZ mg)
  (NK:Qbu K=true)
  (QgS:Qjm Pr w K mg base)
  (Qgj:Qkr Pr w K mg base)
  (QcK:QgT Pr w K mg base)
  (Qcu:QhH Pr w K mg base)
  (Qfh:Qht Pr w K mg base) :
  QgI Pr w K mg base:=by
 refine QcC (k:=2) (b:=QgL) QeU QbA (fun _ _ _ _ _ _=>Qa1 fun _=>Qb0 rfl) [.s] [.v,.v,.v,.o,.v,.v,.v] QbN (fun _ _ _ _=>Rp.non) (body:=fun f cdv A outer s H E hr P=>?_);refine Qal ?_ ?_;refine Qod ?_ ?_;refine Qa9 QgS (hr.mono (by decide)) ?_;refine Qaw (Qan 0) Qai;refine QdL 2 rfl ?_;refine Qa5 (QaJ (i:=1) QbA.nd rfl (.inl rfl)) ?_;refine Qa5 (QaJ (i:=2) QbA.nd rfl (.inr rfl)) Qc5;refine Qal ?_ ?_;refine Qhh (i:=3) (Qas Qc4) ["_law_script","_law_high","_law_wide","_law_one","_law_other","_law_row_here","_law_cell_here","_law_way"] ["_law_row_here"] [0,2] QbA.nd rfl (.inl rfl) rfl ?_ (fun _ _ _ _ P=>?_) (fun _ _ _ _ P=>?_) (fun _ _ _ _ P=>?_)
 refine Qlb ?_;refine QcO B.range_ ?_;refine Qaw (Qaf (Qag 1)) Qai;exact QaJ (i:=0) (show (QaQ ["_law_script","_law_high","_law_wide","_law_one","_law_other","_law_row_here","_law_cell_here","_law_way"] ["_law_row_here"] [0,2]).Nodup by decide +kernel) rfl (.inl rfl);exact QeX;refine Qa9 Qgj (hr.mono (by decide)) ?_;refine Qaw ?_ ?_;refine Qaf ?_;refine Qa9 QcK (hr.mono (by decide)) ?_;refine Qaw (Qan 1) ?_;refine Qaw ?_ Qai;refine Qau ?_;refine Qax Qbm (Qaf Qak) (Qaf (Qag 0));refine Qaw (Qaf (Qag 2)) Qai;refine Qal ?_ ?_;refine Qe2 (i:=4) QbA.nd rfl (.inl rfl) (Qbv 0 Qai);refine Qal ?_ ?_;refine Qb1 rfl ?_ (QaJ (i:=5) QbA.nd rfl (.inl rfl)) ?_
 refine QcO B.range_ ?_;refine Qaw (Qaf (Qag 1)) Qai;refine Qal ?_ ?_;refine QaH (i:=6) QbA.nd rfl (.inl rfl) ?_;refine Qa9 QcK (hr.mono (by decide)) ?_;refine Qaw (Qan 0) ?_;refine Qaw ?_ Qai;refine Qau ?_;refine Qax Qbm (Qaf Qak) (Qaf (Qag 5));refine Qal ?_ ?_;refine QaH (i:=7) QbA.nd rfl (.inl rfl) ?_;refine QaL ?_;refine Qax QbC ?_ (Qaf Qak);refine Qaf ?_;refine Qa9 Qcu (hr.mono (by decide)) ?_;refine Qaw (Qaf (Qag 6)) ?_;refine Qaw (Qaf Qak) Qai;refine Qaq ?_;refine Qbc ?_ ?_ ?_;refine Qbi (QcF hr) (Qaf (Qag 7)) (Qaf Qak) (QaX _);refine Qaq ?_;refine Qcf 4 ?_;refine QaL ?_;refine QfR (ms:=[.s]) (hv:=QeS) Qii B.list_ ?_
 refine Qaw ?_ Qai;refine Qaf ?_;refine QaP (Qaf (Qag 3)) (Qaf (Qag 5));refine Qaq ?_;refine Qbc ?_ ?_ ?_;refine Qbi (QcF hr) (Qaf (Qag 7)) (Qaf Qak) (QaX _);refine Qaq ?_;refine Qcf 4 ?_;refine Qa9 Qgj (hr.mono (by decide)) ?_;refine Qaw (Qaf (Qag 6)) ?_;refine Qaw (Qaf (Qag 2)) Qai;refine Qaq ?_;refine Qbc ?_ ?_ ?_;refine Qbi (QcF hr) (Qaf (Qag 7)) (Qaf Qak) (QaX _);refine Qaq ?_;refine Qcf 4 ?_;refine QaL ?_;refine Qax QdH ?_ (Qaf (Qag 2));refine Qau ?_;refine Qbv 1 ?_;refine QaC ?_ Qai;refine Qbk 3 ?_;refine QaC (Qbd [32]) ?_;refine QaC (Qbd [46]) ?_;refine QaC (Qbd [46]) Qai;refine Qaq ?_
 refine Qcf 4 ?_;refine Qa9 Qfh (hr.mono (by decide)) ?_;refine Qaw ?_ ?_;refine Qaf ?_;refine QaP (Qaf (Qag 3)) (Qaf (Qag 5));refine Qaw (Qaf (Qag 6)) Qai;refine Qal ?_ ?_;refine Qbc ?_ ?_ Qa0;refine Qbi (QcF hr) ?_ (Qaf Qak) (QaX _);refine Qau ?_;refine Qax QbC ?_ (Qaf Qak);refine Qaf ?_;refine Qa9 Qcu (hr.mono (by decide)) ?_;refine Qaw ?_ ?_;refine Qaf ?_;refine Qa9 QcK (hr.mono (by decide)) ?_;refine Qaw (Qan 0) ?_;refine Qaw (Qaf Qak) Qai;refine Qaw (Qaf Qak) Qai;refine Qaq ?_;refine Qhh (i:=3) (Qas Qc4) ["_law_script","_law_high","_law_wide","_law_one","_law_other","_law_row_here","_law_cell_here","_law_way"] ["_law_row_here"] [2] QbA.nd rfl (.inl rfl) rfl ?_ (fun _ _ _ _ P=>?_) (fun _ _ _ _ P=>?_) (fun _ _ _ _ P=>?_)
 refine Qet (Qaf (Qag 3));exact QaJ (i:=0) (show (QaQ ["_law_script","_law_high","_law_wide","_law_one","_law_other","_law_row_here","_law_cell_here","_law_way"] ["_law_row_here"] [2]).Nodup by decide +kernel) rfl (.inl rfl);exact QeX;refine QaL ?_;refine Qax QdH ?_ (Qaf (Qag 1));refine Qau ?_;refine Qbv 1 ?_;refine QaC ?_ Qai;refine Qbk 3 ?_;refine QaC (Qbd [32]) ?_;refine QaC (Qbd [46]) ?_;refine QaC (Qbd [46]) Qai;refine Qaq ?_;refine Qov 4 rfl ?_;refine QaU ?_;refine Qbk 2 ?_;refine QaC (Qag 3) ?_;refine QaC (Qag 4) Qai
abbrev Qfg:Stmt:=top 26
theorem QbV:QaR ["_law_one","_law_other","_law_writes","_law_there","_law_row_here","_law_col","_law_cells_here","_law_k"] ["_law_one","_law_other","_law_writes"] (Qas Qfg):=by trivial
def Qeh:MS :=
  (Qaj (Qao 3 QfO)
  (Qaj (Qa8 (Qba (Qaa 2)) (Qb9 3 (QaB (mgN 4) (QaB (mgN 5) (QaB (mgN 6) Qbr)))) (Qa8 (Qch (Qab (Qav QaV (Qab (Qaa 6) Qae)) Qae)) (mgN 7) (Qcn (Qaa 3) (QaZ (Qab (Qaa 4) (Qab (Qad QaK (Qaa 5) (Qaa 7)) Qae))) (mC (.bl true)))))
  (Qaj (Qa8 (Qch (Qab (Qav QaV (Qab (Qaa 0) Qae)) Qae)) (mgN 4) (Qa8 (Qch (Qab (Qav QaV (Qab (Qad gIx (Qaa 0) (Qaa 4)) Qae)) Qae)) (mgN 5) (QaM (QcX (Qar (Qad gNe (Qad gIx (Qad gIx (Qaa 0) (Qaa 4)) (Qaa 5)) (Qad gIx (Qad gIx (Qaa 1) (Qaa 4)) (Qaa 5)))) (Qar (Qj6 true (QaZ (Qab (Qaa 4) (Qab (Qaa 5) Qae))) (Qaa 3)))) (QaE (mC (.bl false))) QaO)))
  (QaE (mC (.bl true))))))
def Qdp:List D→Qac→Res D:=Qby 8 Qeh
abbrev Qhn (Pr:Program) (w:World) (K:Frag) (mg:Str→Option Value) (base:Heap):Prop:=Can Pr w K mg base "_law_covered" ["_law_one","_law_other","_law_writes"] 1 (vSp K mg [.s,.s,.s] (rV K) Qdp)
theorem Qke (Qfd:Def K mg "_law_covered" Qfg)
  (B:QbZ mg)
  (NK:Qbu K=true) :
  Qhn Pr w K mg base:=by
 refine QcC (k:=0) (b:=Qeh) Qfd QbV (fun _ _ _ _ _ _=>Qa1 fun _=>Qa1 fun _=>Qa1 fun _=>Qb0 rfl) [.s,.s,.s] [.v,.v,.v,.v,.v] QbN (fun _ _ _ _=>Rp.non) (body:=fun f cdv A outer s H E hr P=>?_);refine Qal (QaH (i:=3) QbV.nd rfl (.inl rfl) QiN) ?_;refine Qal ?_ ?_;refine Qb1 rfl (QfW (QhR 2)) ?_ ?_;refine QdL 3 rfl ?_;refine Qa5 (QaJ (i:=4) QbV.nd rfl (.inl rfl)) ?_;refine Qa5 (QaJ (i:=5) QbV.nd rfl (.inl rfl)) ?_;refine Qa5 (QaJ (i:=6) QbV.nd rfl (.inl rfl)) Qc5;refine Qaq ?_;refine Qb1 rfl ?_ (QaJ (i:=7) QbV.nd rfl (.inl rfl)) ?_;refine QcO B.range_ ?_;refine Qaw ?_ Qai;refine Qau ?_;refine Qbf (ms:=[.s]) (hv:=QbS) QbQ B.len_ ?_
 refine Qaw (Qaf (Qag 6)) Qai;refine Qaq ?_;refine Qio NK hr (Qag 3) ?_ QcI;refine Qbk 2 ?_;refine QaC (Qag 4) ?_;refine QaC ?_ Qai;refine QaL ?_;refine Qax Qbm (Qaf (Qag 5)) (Qaf (Qag 7));refine Qal ?_ ?_;refine Qb1 rfl ?_ (QaJ (i:=4) QbV.nd rfl (.inl rfl)) ?_;refine QcO B.range_ ?_;refine Qaw ?_ Qai;refine Qau ?_;refine Qbf (ms:=[.s]) (hv:=QbS) QbQ B.len_ ?_;refine Qaw (Qan 0) Qai;refine Qaq ?_;refine Qb1 rfl ?_ (QaJ (i:=5) QbV.nd rfl (.inl rfl)) ?_;refine QcO B.range_ ?_;refine Qaw ?_ Qai;refine Qau ?_;refine Qbf (ms:=[.s]) (hv:=QbS) QbQ B.len_ ?_;refine Qaw ?_ Qai;refine Qaf ?_;refine QaP (Qan 0) (Qaf (Qag 4))
 refine Qaq ?_;refine Qbc ?_ ?_ Qa0;refine QiZ ?_;refine Qh2 ?_ ?_;refine Qbi (QgZ hr) ?_ ?_ (QaX _);refine Qaf ?_;refine QaP ?_ (Qaf (Qag 5));refine Qaf ?_;refine QaP (Qan 0) (Qaf (Qag 4));refine Qaf ?_;refine QaP ?_ (Qaf (Qag 5));refine Qaf ?_;refine QaP (Qan 1) (Qaf (Qag 4));refine Qgv ?_;refine QrX NK hr ?_ (Qag 3);refine Qbk 2 ?_;refine QaC (Qag 4) ?_;refine QaC (Qag 5) Qai;refine Qaq (QaU QcI);refine Qaq (QaU QcI)
abbrev QeF:Stmt:=top 27
theorem QdT:QaR ["_law_script","_law_one","_law_other","_law_first","_law_last","_law_handed","_law_writes","_law_due","_law_row_here","_law_col","_law_cells_here"] ["_law_script"] (Qas QeF):=by trivial
def QkZ:MS :=
  (Qaj (Qg6 (Qat QdX (Qab (Qaa 0) Qae)) (Qb9 2 (QaB (mgN 1) (QaB (mgN 2) Qbr))))
  (Qaj (Qa8 (Qba (Qa3 (Qab (QaZ (Qab (Qaa 1) (Qab (Qaa 2) Qae))) (Qab (QaZ (Qab (Qaa 2) (Qab (Qaa 1) Qae))) (Qab (QaZ (Qab (Qaa 1) (Qab (Qaa 1) Qae))) (Qab (QaZ (Qab (Qaa 2) (Qab (Qaa 2) Qae))) Qae)))))) (Qb9 2 (QaB (mgN 3) (QaB (mgN 4) Qbr))) (Qaj (Qao 5 (Qa3 (Qab (mMl (Qat QcJ (Qab (Qaa 3) Qae))) (Qab (mMl (Qat QcJ (Qab (Qaa 4) Qae))) Qae))))
  (Qaj (Qao 6 (Qat Qer (Qab (Qad gIx (Qaa 5) (mC (.int 0))) (Qab (Qad gIx (Qaa 5) (mC (.int 1))) Qae))))
  (Qaj (QaM (Qgp (Qb4 (Qbs (Qci "list" (Qaa 6)))) (Qgp (Qar (Qg4 true 7 (Qaa 5) (Qa3 (Qab (Qaa 3) (Qab (Qaa 4) Qae))))) (Qb4 (Qbs (Qat Qdp (Qab (Qaa 3) (Qab (Qaa 4) (Qab (Qaa 6) Qae)))))))) (QaE (mC (.bl false))) QaO)
  (Qaj (QaM (QcX (Qar (Qad gEq (Qaa 3) (Qaa 4))) (Qar (Qad gNe (Qaa 6) (Qa3 Qae)))) (QaE (mC (.bl false))) QaO)
  (Qaj (QaM (Qb4 (Qbs (Qat Qcs (Qab (Qat Qeu (Qab (Qat QcJ (Qab (Qaa 3) Qae)) (Qab (Qaa 6) Qae))) (Qab (Qaa 4) Qae))))) (QaE (mC (.bl false))) QaO)
  (Qaj (Qao 7 (Qbw (Qba (Qaa 6)) 3 [] (Qb9 3 (QaB (mgN 0) (QaB (mgN 1) (QaB (mgN 2) Qbr)))) Qcj (QaZ (Qab (Qaa 0) (Qab (Qaa 1) (Qab (Qav Qcr (Qab (Qaa 2) Qae)) Qae))))))
  (Qaj (Qea (Qad gIx (Qad gIx (Qaa 5) (mC (.int 1))) (mC (.int 0))) (mC (.int 0)) (QaZ (Qab (mC (.str [33])) (Qab (mC (.str [97])) (Qab (mC (.str [98])) Qae)))))
  (Qaj (QhU (Qad gIx (Qaa 5) (mC (.int 0))))
  (Qaj (QaM (Qar (Qg4 true 7 (Qaa 6) (Qaa 7))) (QaE (mC (.bl false))) QaO)
  (Qaj (Qis 6 [0] (Qa8 (Qba (Qaa 6)) (Qb9 3 (QaB (mgN 8) (QaB (mgN 9) (QaB (mgN 10) Qbr)))) (QfP (Qaa 10) (QaZ (Qab (mC (.str [33])) (Qab (mC (.str [97])) (Qab (mC (.str [98])) Qae)))))))
  (Qaj (Qit 6)
  (QaM (Qb4 (Qbs (Qat Qcs (Qab (Qat Qer (Qab (Qat QcJ (Qab (Qaa 3) Qae)) (Qab (Qat QcJ (Qab (Qaa 4) Qae)) Qae))) (Qab (Qaa 7) Qae))))) (QaE (mC (.bl false))) QaO)))))))))))))
  (QaE (mC (.bl true)))))
def Qq3:List D→Qac→Res D:=Qby 11 QkZ
abbrev Qvu (Pr:Program) (w:World) (K:Frag) (mg:Str→Option Value) (base:Heap):Prop:=Can Pr w K mg base "law" ["_law_script"] 8 (vSp K mg [.s] (rV K) Qq3)
theorem QuI (Qm8:Def K mg "law" QeF)
  (B:QbZ mg)
  (NK:Qbu K=true)
  (QeW:QgI Pr w K mg base)
  (Qdj:Qjc Pr w K mg base)
  (Qip:Qmq Pr w K mg base)
  (Qfb:Qhn Pr w K mg base)
  (Qdr:Ql4 Pr w K mg base)
  (Qh8:Qkx Pr w K mg base) :
  Qvu Pr w K mg base:=by
 refine QcC (k:=7) (b:=QkZ) Qm8 QdT (fun _ _ _ _ _ _=>Qa1 fun _=>Qb0 rfl) [.s] [.v,.v,.v,.v,.v,.o,.v,.v,.v,.v] QbN (fun _ _ _ _=>Rp.non) (body:=fun f cdv A outer s H E hr P=>?_);refine Qal ?_ ?_;refine Qod ?_ ?_;refine Qa9 QeW (hr.mono (by decide)) ?_;refine Qaw (Qan 0) Qai;refine QdL 2 rfl ?_;refine Qa5 (QaJ (i:=1) QdT.nd rfl (.inl rfl)) ?_;refine Qa5 (QaJ (i:=2) QdT.nd rfl (.inl rfl)) Qc5;refine Qal ?_ ?_;refine Qb1 rfl ?_ ?_ ?_;refine QfW ?_;refine QgU ?_;refine QaL ?_;refine Qbv 4 ?_;refine QaC ?_ ?_;refine Qbk 2 ?_;refine QaC (Qag 1) ?_;refine QaC (Qag 2) Qai;refine QaC ?_ ?_;refine Qbk 2 ?_
 refine QaC (Qag 2) ?_;refine QaC (Qag 1) Qai;refine QaC ?_ ?_;refine Qbk 2 ?_;refine QaC (Qag 1) ?_;refine QaC (Qag 1) Qai;refine QaC ?_ Qai;refine Qbk 2 ?_;refine QaC (Qag 2) ?_;refine QaC (Qag 2) Qai;refine QdL 2 rfl ?_;refine Qa5 (QaJ (i:=3) QdT.nd rfl (.inl rfl)) ?_;refine Qa5 (QaJ (i:=4) QdT.nd rfl (.inl rfl)) Qc5;refine Qal ?_ ?_;refine QaH (i:=5) QdT.nd rfl (.inl rfl) ?_;refine QaL ?_;refine Qbv 2 ?_;refine QaC ?_ ?_;refine Qjp ?_;refine Qb8 Qdj (hr.mono (by decide)) ?_;refine Qaw (Qaf (Qag 3)) Qai;refine QaC ?_ Qai;refine Qjp ?_;refine Qb8 Qdj (hr.mono (by decide)) ?_;refine Qaw (Qaf (Qag 4)) Qai
 refine Qal ?_ ?_;refine Qe2 (i:=6) QdT.nd rfl (.inl rfl) ?_;refine Qb8 Qip (hr.mono (by decide)) ?_;refine Qaw ?_ ?_;refine Qaf ?_;refine QaP (Qaf (Qag 5)) (Qaf Qak);refine Qaw ?_ Qai;refine Qaf ?_;refine QaP (Qaf (Qag 5)) (Qaf Qak);refine Qal ?_ ?_;refine Qbc ?_ ?_ Qa0;refine QiZ ?_;refine QnF ?_ ?_;refine Qe9 ?_;refine QcB ?_;refine Qau (QdN "list" (hb:=QeS) B.isinstance_ B.list_ (Qan 6));refine QnF ?_ ?_;refine QoC 7 hr (Qaf (Qag 5)) ?_;refine Qau ?_;refine Qbv 2 ?_;refine QaC (Qag 3) ?_;refine QaC (Qag 4) Qai;refine QoJ ?_;refine Qe9 ?_;refine QcB ?_;refine Qaf ?_;refine Qa9 Qfb (hr.mono (by decide)) ?_
 refine Qaw (Qaf (Qag 3)) ?_;refine Qaw (Qaf (Qag 4)) ?_;refine Qaw (Qan 6) Qai;refine Qaq (QaU QcI);refine Qal ?_ ?_;refine Qbc ?_ ?_ Qa0;refine QiZ ?_;refine Qh2 ?_ ?_;refine Qbi (QcF hr) (Qaf (Qag 3)) (Qaf (Qag 4)) (QaX _);refine Qgv ?_;refine Qbi (QgZ hr) (Qan 6) ?_ (QaX _);refine Qau (Qbv 0 Qai);refine Qaq (QaU QcI);refine Qal ?_ ?_;refine Qbc ?_ ?_ Qa0;refine Qe9 ?_;refine QcB ?_;refine Qaf ?_;refine Qa9 Qdr (hr.mono (by decide)) ?_;refine Qaw ?_ ?_;refine Qau ?_;refine Qb8 Qh8 (hr.mono (by decide)) ?_;refine Qaw ?_ ?_;refine Qau ?_;refine Qb8 Qdj (hr.mono (by decide)) ?_;refine Qaw (Qaf (Qag 3)) Qai
 refine Qaw (Qan 6) Qai;refine Qaw (Qaf (Qag 4)) Qai;refine Qaq (QaU QcI);refine Qal ?_ ?_;refine Qhh (i:=7) (Qas QeF) ["_law_script","_law_one","_law_other","_law_first","_law_last","_law_handed","_law_writes","_law_due","_law_row_here","_law_col","_law_cells_here"] ["_law_row_here","_law_col","_law_cells_here"] [] QdT.nd rfl (.inl rfl) rfl (Qet (Qan 6)) (fun _ _ _ _ P=>?_) (fun _ _ _ _ P=>?_) (fun _ _ _ _ P=>?_);refine QdL 3 rfl ?_;refine Qa5 (QaJ (i:=0) (show (QaQ ["_law_script","_law_one","_law_other","_law_first","_law_last","_law_handed","_law_writes","_law_due","_law_row_here","_law_col","_law_cells_here"] ["_law_row_here","_law_col","_law_cells_here"] []).Nodup by decide +kernel) rfl (.inl rfl)) ?_
 refine Qa5 (QaJ (i:=1) (show (QaQ ["_law_script","_law_one","_law_other","_law_first","_law_last","_law_handed","_law_writes","_law_due","_law_row_here","_law_col","_law_cells_here"] ["_law_row_here","_law_col","_law_cells_here"] []).Nodup by decide +kernel) rfl (.inl rfl)) ?_;refine Qa5 (QaJ (i:=2) (show (QaQ ["_law_script","_law_one","_law_other","_law_first","_law_last","_law_handed","_law_writes","_law_due","_law_row_here","_law_col","_law_cells_here"] ["_law_row_here","_law_col","_law_cells_here"] []).Nodup by decide +kernel) rfl (.inl rfl)) Qc5;exact QeX;refine Qbk 3 ?_;refine QaC (Qag 0) ?_
 refine QaC (Qag 1) ?_;refine QaC ?_ Qai;refine QaL ?_;refine QfR (ms:=[.s]) (hv:=QeS) Qii B.list_ ?_;refine Qaw (Qaf (Qag 2)) Qai;refine Qal ?_ ?_;refine Qmm ?_ ?_ Qak;refine Qbk 3 ?_;refine QaC (Qbd [33]) ?_;refine QaC (Qbd [97]) ?_;refine QaC (Qbd [98]) Qai;refine QaP ?_ (Qaf Qak);refine Qaf ?_;refine QaP (Qaf (Qag 5)) (Qaf Qak);refine Qal ?_ ?_;refine QsD ?_;refine QaP (Qaf (Qag 5)) (Qaf Qak);refine Qal ?_ ?_;refine Qbc ?_ ?_ Qa0;refine QoC 7 hr (Qan 6) (Qaf (Qag 7));refine Qaq (QaU QcI);refine Qal ?_ ?_;refine Qtz (md':=[.s,.v,.v,.v,.v,.v,.s,.v,.v,.v,.v]) 6 [0] QbN (fun P=>?_);refine Qb1 rfl (QfW (QhR 6)) ?_ ?_
 refine QdL 3 rfl ?_;refine Qa5 (QaJ (i:=8) QdT.nd rfl (.inl rfl)) ?_;refine Qa5 (QaJ (i:=9) QdT.nd rfl (.inl rfl)) ?_;refine Qa5 (QaJ (i:=10) QdT.nd rfl (.inl rfl)) Qc5;refine Qaq ?_;refine QrB (Qag 10) ?_;refine Qbk 3 ?_;refine QaC (Qbd [33]) ?_;refine QaC (Qbd [97]) ?_;refine QaC (Qbd [98]) Qai;refine Qal (QpU 6) ?_;refine Qaq ?_;refine Qbc ?_ ?_ Qa0;refine Qe9 ?_;refine QcB ?_;refine Qaf ?_;refine Qa9 Qdr (hr.mono (by decide)) ?_;refine Qaw ?_ ?_;refine Qau ?_;refine Qb8 Qip (hr.mono (by decide)) ?_;refine Qaw ?_ ?_;refine Qau ?_;refine Qb8 Qdj (hr.mono (by decide)) ?_;refine Qaw (Qaf (Qag 3)) Qai
 refine Qaw ?_ Qai;refine Qau ?_;refine Qb8 Qdj (hr.mono (by decide)) ?_;refine Qaw (Qaf (Qag 4)) Qai;refine Qaw (Qaf (Qag 7)) Qai;refine Qaq (QaU QcI);refine Qaq (QaU QcI)
end
theorem Qaz {g:D→D→Option D}{a b:L2.M D}{ρ:Qah}{O:Qac}{x y z:D} (ha:a ρ O = .ok x O) (hb:b ρ O = .ok y O) (h:g (QaI O x) (QaI O y)=some z):Qad g a b ρ O = .ok z O:=by
 rw [Qrn,ha,Qam,hb,Qam,h,Qen]
theorem ma1 {a:L2.M D}{ρ:Qah}{O:Qac}{x:D} (h:a ρ O = .ok x O):Qab a Qae ρ O = .ok [x] O:=by
 rw [Qds,h,Qam,Qjn,Qam]
theorem maS {a:L2.M D}{r:L2.M (List D)}{ρ:Qah}{O:Qac}{x:D}{xs:List D} (h:a ρ O = .ok x O) (h2:r ρ O = .ok xs O):Qab a r ρ O = .ok (x::xs) O:=by
 rw [Qds,h,Qam,h2,Qam]
theorem Ql2 {m:L2.M (List D)}{ρ:Qah}{O:Qac}{xs:List D} (h:m ρ O = .ok xs O) (hl:xs.length≤1000000):QaZ m ρ O = .ok (.tup xs) O:=by
 rw [QuU,h,Qam,if_pos hl]
theorem Qi3 {m:L2.M (List D)}{ρ:Qah}{O:Qac}{xs:List D} (h:m ρ O = .ok xs O) (hl:xs.length≤1000000):Qa3 m ρ O = .ok (.lst xs) O:=by
 rw [Qrk,h,Qam,if_pos hl]
theorem QcT {g:List D→Option D}{m:L2.M (List D)}{ρ:Qah}{O:Qac}{xs:List D}{z:D} (h:m ρ O = .ok xs O) (hg:g (xs.map (QaI O))=some z):Qav g m ρ O = .ok z O:=by
 rw [Qm0,h,Qam,hg,Qen]
theorem QgB {i:Nat}{m:L2.M D}{ρ:Qah}{O:Qac}{d:D}{ds:List D} (hm:m ρ O = .ok d O) (h:ρ[i]? = some (some (.lst ds))) (hl:ds.length < 1000000):Qbt i m ρ O = .nx (ρ.set i (some (.lst (ds ++ [d])))) O:=by
 rw [QoK,hm,QoR h hl]
theorem QaW {i:Nat}{m:L2.M D}{ρ:Qah}{O:Qac}{d:D} (h:m ρ O = .ok d O):Qao i m ρ O = .nx (ρ.set i (some d)) O:=by
 rw [Qlq,h,Qj7]
theorem Qbg {c:List D→Qac→Res D}{ma:L2.M (List D)}{ρ:Qah}{O:Qac}{ds:List D} (h:ma ρ O = .ok ds O):Qat c ma ρ O=c ds O:=by
 rw [QgJ,h,Qam]
theorem Qcv {m:L2.M D}{ρ:Qah}{O:Qac}{b:Bool} (h:m ρ O = .ok (.bl b) O):Qar m ρ O = .ok b O:=by
 rw [QlC,h,Qam,QoW]
theorem Qbz {t:L2.M Bool}{a b:MS}{ρ:Qah}{O:Qac} (h:t ρ O = .ok true O):QaM t a b ρ O=a ρ O:=by
 rw [QkS,h,QjF,if_pos rfl]
theorem Qbb {t:L2.M Bool}{a b:MS}{ρ:Qah}{O:Qac} (h:t ρ O = .ok false O):QaM t a b ρ O=b ρ O:=by
 rw [QkS,h,QjF,if_neg zp]
theorem Qjz {m:L2.M D}{ρ:Qah}{O:Qac}{l:List D} (h:m ρ O = .ok (.lst l) O):Qav QaV (Qab m Qae) ρ O = .ok (.int (l.length:Int)) O:=QcT (ma1 h) rfl
theorem QfK {m:L2.M D}{ρ:Qah}{O:Qac}{n:Nat} (h:m ρ O = .ok (.int (n:Int)) O) (hn:n≤1000000):Qch (Qab m Qae) ρ O = .ok (QbX 0 n) O:=by
 rw [Qt6,ma1 h,Qam];show (if (n:Int)≤1000000000∧-1000000000≤(n:Int) then Res.ok (QbX 0 (n:Int).toNat) O else .no)=_;rw [if_pos ⟨by omega,by omega⟩,Int.toNat_natCast]
theorem Qcd {a b:L2.M D}{ρ:Qah}{O:Qac}{i j:Int} (ha:a ρ O = .ok (.int i) O) (hb:b ρ O = .ok (.int j) O) (hj:0 < j):Qad QaT a b ρ O = .ok (.int (i % j)) O:=Qaz ha hb (by rw [QdF,QdF,Qtn,if_pos hj])
theorem QdC {a b:L2.M D}{ρ:Qah}{O:Qac}{i j:Int} (ha:a ρ O = .ok (.int i) O) (hb:b ρ O = .ok (.int j) O):Qad QaK a b ρ O = .ok (.int (i+j)) O:=Qaz ha hb rfl
theorem QnM {a b:L2.M D}{ρ:Qah}{O:Qac}{i j:Int} (ha:a ρ O = .ok (.int i) O) (hb:b ρ O = .ok (.int j) O):Qad Qed a b ρ O = .ok (.int (i - j)) O:=Qaz ha hb rfl
theorem Qq1 {a b:L2.M D}{ρ:Qah}{O:Qac}{i j:Int} (ha:a ρ O = .ok (.int i) O) (hb:b ρ O = .ok (.int j) O):Qar (Qad gLt a b) ρ O = .ok (decide (i < j)) O:=Qcv (Qaz ha hb rfl)
theorem QjB {a b:L2.M D}{ρ:Qah}{O:Qac}{i j:Int} (ha:a ρ O = .ok (.int i) O) (hb:b ρ O = .ok (.int j) O):Qar (Qad gEq a b) ρ O = .ok (decide (i=j)) O:=Qcv (Qaz ha hb rfl)
theorem Qil {a b:L2.M D}{ρ:Qah}{O:Qac}{c k:Int} (ha:a ρ O = .ok (.int c) O) (hb:b ρ O = .ok (.int k) O) (h0:0≤k) (h1:k≤1000000):Qat Qbx (Qab a (Qab b Qae)) ρ O = .ok (.int (mix c k)) O:=by
 rw [Qbg (maS ha (ma1 hb))];exact QtZ c k h0 h1 O
theorem Qr0 {i:Nat}{m:L2.M D}{ρ:Qah}{O O1:Qac}{d:D} (h:m ρ O = .ok d O1):Qao i m ρ O = .nx (ρ.set i (some d)) O1:=by
 rw [Qlq,h,Qj7]
theorem not_no {m:L2.M D}{s:MS}{ρ:Qah}{O:Qac} (h:m ρ O = .ok (.bl true) O):QaM (Qb4 (Qbs m)) s QaO ρ O = .nx ρ O:=by
 rw [QkS,Qjy,QjJ,h,Qam,QeT,QgK,QfV,Qam,QjF,if_neg (by decide)];rfl
theorem Qdd {m:L2.M D}{ρ:Qah}{O:Qac}{l:List D} (h:m ρ O = .ok (.lst l) O):Qba m ρ O = .ok l O:=by
 rw [Quw,h,Qam,QoU,QpR]
theorem Qdt {m:L2.M (List D)}{own:Nat}{cap:List Nat}{g:MG}{t:L2.M Bool}{e:L2.M D}{ρ ρ0:Qah}{O O1:Qac}{ds ys:List D} (h:m ρ O = .ok ds O) (hl:ds.length≤1000000) (h0:Qf2 own cap ρ=ρ0) (hc:Qbl g t e ds ρ0 O [] = .ok ys O1):Qbw m own cap g t e ρ O = .ok (.lst ys) O1:=by
 rw [QtY,h,Qam,if_pos hl,h0,hc,Qam]
theorem Qie {m:L2.M D}{ρ:Qah}{O:Qac}{d:D}{l:List D} (h:m ρ O = .ok d O) (hd:QaI O d = .lst l):Qav Qcr (Qab m Qae) ρ O = .ok (.lst l) O:=by
 rw [Qm0,ma1 h,Qam,zl,zQ,hd,QrU,Qen]
theorem Qui (n:Nat):QbX 0 n=(List.range n).map fun i:Nat=>D.int ((i:Nat):Int):=by
 unfold QbX;simp
theorem Qj4 {n i:Nat}{d:D} (h:(QbX 0 n)[i]? = some d):i < n∧d = .int (i:Int):=by
 have hi:i < n:=by
  have:=(ze.mp h).1
  rwa [QdY] at this
 rw [Qui,zm,List.getElem?_range hi] at h;cases h;exact ⟨hi,rfl⟩
theorem Qeb {l:List D}{i:Nat}{d:D} (h:l[i]? = some d):gIx (.lst l) (.int (i:Int))=some d:=by
 rw [Qgi,QdK,h]
abbrev C:=List Nat×List Nat×List Nat
def dC (c:C):D:=.tup [.str c.1,.str c.2.1,.str c.2.2]
def bl:C:=([32],[46],[46])
def mk:C:=([33],[97],[97])
abbrev Row:=List C
def QaS (r:Row):Ob:=.ml (r.map dC)
def ids (b n:Nat):List Nat:=(List.range n).map (b + ·)
theorem Qeo (b n:Nat):(ids b n).length=n:=by unfold ids; rw [zd,List.length_range]
structure Pc (O:Qac) (is:List Nat) (P:List Row) (lo hi:Nat):Prop where
 eq:is.map (fun i=>O[i]?)=P.map fun r=>some (QaS r)
 lo:∀i∈is,lo≤i∧i < hi
 hi:hi≤O.length
def pD (is:List Nat):D:=.lst (is.map D.ob)
theorem Pc.len {O:Qac}{is:List Nat}{P:List Row}{lo hi:Nat} (h:Pc O is P lo hi):is.length=P.length:=by
 have:=congrArg List.length h.eq
 simpa using this
theorem Pc.at {O:Qac}{is:List Nat}{P:List Row}{lo hi k i:Nat} (h:Pc O is P lo hi) (e:is[k]? = some i):∃r,P[k]? = some r∧O[i]? = some (QaS r):=by
 have q:=congrArg (fun l=>l[k]?) h.eq;simp only [zm,e,Option.map_some] at q
 cases hp:P[k]? with
 | none=>rw [hp] at q; cases q
 | some r=>rw [hp] at q; exact ⟨r,rfl,zF q⟩
theorem Qk2 (O:Qac) (P:List Row):Pc (O++P.map QaS) (ids O.length P.length) P O.length (O.length+P.length):=by
 refine ⟨?_,fun i hi=>?_,by rw [zg,zd]; exact zb _⟩
 ·refine List.ext_getElem (by rw [zd,Qeo,zd]) fun k h1 h2=>?_
  rw [zd,Qeo] at h1;rw [List.getElem_map,List.getElem_map];unfold ids;rw [List.getElem_map,List.getElem_range,zE (by omega),Nat.add_sub_cancel_left,zm,zh h1];rfl
 ·obtain ⟨k,hk,rfl⟩:=zL.mp hi
  have:=List.mem_range.mp hk
  omega
theorem QeD {O:Qac}{i:Nat}{l:List D} (h:O[i]? = some (.ml l)):QaI O (.ob i) = .lst l:=by
 unfold QaI;dsimp only;rw [h]
theorem QiW {α:Type}{g:MG}{t:L2.M Bool}{m:L2.M D} (Pv:Qah→Prop) (f:α→D) (h:α→List D) (O:Qac):∀(xs:List α) (ρ:Qah) (E:Qac) (acc:List D),Pv ρ →
  (∀x∈xs,∀ρ,Pv ρ→∀E,∃ρ1,g (f x) ρ=some ρ1∧Pv ρ1∧t ρ1 (O++E) = .ok true (O++E)∧m ρ1 (O++E) = .ok (.lst (h x)) (O++E)) →
  Qbl g t (mMl m) (xs.map f) ρ (O++E) acc = .ok (acc++(ids (O.length+E.length) xs.length).map D.ob) (O++(E++xs.map fun x=>Ob.ml (h x)))
 | [],ρ,E,acc,_,_=>by
  unfold ids;simp [Qbl]
 | x::xs,ρ,E,acc,hp,hs=>by
  obtain ⟨ρ1,e1,h1,e2,e3⟩:=hs x zq ρ hp E
  have e4:mMl m ρ1 (O++E) = .ok (.ob (O.length+E.length)) (O++(E ++ [Ob.ml (h x)])):=by
   unfold mMl;rw [e3,Qam,zg];dsimp only;rw [zP]
  rw [zl];unfold Qbl;rw [e1];dsimp only;rw [e2];dsimp only;rw [e4];dsimp only;rw [QiW Pv f h O xs ρ1 (E ++ [Ob.ml (h x)]) _ h1 fun d' hd'=>hs d' (zu _ hd')]
  have hid:ids (O.length+E.length) (xs.length+1)=(O.length+E.length)::ids (O.length+E.length+1) xs.length:=by
   unfold ids;rw [List.range_succ_eq_map,zl,zU];congr 1
   refine jh fun k _=>?_
   show O.length+E.length+(k+1)=O.length+E.length+1+k;omega
  rw [zA,hid,zg,zX,←Nat.add_assoc];simp
theorem Qqg (d:D) (w:Nat) (hw:w≤1000):QbT (.lst [d]) (.int (w:Int))=some (.lst (List.replicate w d)):=by
 show (if -1000000 < (w:Int)∧(w:Int) < 1000000∧[d].length * (w:Int).toNat≤1000000 then some (D.lst (List.replicate (w:Int).toNat [d]).flatten) else none)=_;rw [if_pos ⟨by omega,by omega,by simp; omega⟩];simp
def Qni (O:Qac) (i:Nat):List D:=match O[i]? with
 | some (.ml l)=>l
 | _=>[]
theorem Pc.rows {O:Qac}{is:List Nat}{P:List Row}{lo hi:Nat} (h:Pc O is P lo hi):(is.map fun i=>Ob.ml (Qni O i))=P.map QaS:=by
 refine List.ext_getElem (by rw [zd,zd,h.len]) fun k h1 h2=>?_
 rw [zd] at h1;obtain ⟨r,e1,e2⟩:=h.at (zh h1);rw [List.getElem_map,List.getElem_map]
 have hk:k < P.length:=by rw [←h.len]; exact h1
 rw [zh hk] at e1;cases e1;unfold Qni;rw [e2];rfl
theorem QsA {O:Qac}{is:List Nat}{P:List Row}{lo hi:Nat} (h:Pc O is P lo hi) (hl:is.length≤1000) {m:L2.M D}{ρ:Qah} (hm:m ρ O = .ok (pD is) O):Qbw (Qba m) 1 [] (mgN 0) Qcj (mMl (Qav Qcr (Qab (Qaa 0) Qae))) ρ O = .ok (pD (ids O.length P.length)) (O++P.map QaS):=by
 have ec:=QiW (g:=mgN 0) (t:=Qcj) (m:=Qav Qcr (Qab (Qaa 0) Qae)) (fun ρ=>∃a,ρ = [a]) D.ob (fun i=>Qni O i) O is [none] [] [] ⟨_,rfl⟩ (by
  rintro i hi ρ ⟨a,rfl⟩ E;refine ⟨_,rfl,⟨_,rfl⟩,rfl,Qie (d:=.ob i) rfl ?_⟩;obtain ⟨k,hk⟩:=List.mem_iff_getElem?.mp hi;obtain ⟨r,e1,e2⟩:=h.at hk
  have e3:(O++E)[i]? = some (QaS r):=by
   rw [zr (ze.mp e2).1];exact e2
  rw [QeD (l:=r.map dC) e3];unfold Qni;rw [e2]
  rfl)
 rw [zO,zJ,zJ,h.rows,h.len,jj,Nat.add_zero] at ec;exact Qdt (own:=1) (cap:=[]) (Qdd hm) (by rw [zd]; omega) rfl ec
def ck (left:Nat) (cs:List C):Nat→Row→Row
 | 0,row=>row
 | j+1,row=>(ck left cs j row).set (left+j) ((cs[j]?).getD bl)
theorem Qi8 (left:Nat) (cs:List C):∀(j:Nat) (row:Row),(ck left cs j row).length=row.length
 | 0,row=>rfl
 | j+1,row=>by show (List.set _ _ _).length=_; rw [zN,Qi8 left cs j row]
theorem Qom (left i:Nat) (cs:List C):∀(j:Nat) (row:Row),i < row.length→(ck left cs j row)[i]? = if left≤i∧i < left+j then some ((cs[i - left]?).getD bl) else row[i]?
 | 0,row,hi=>by rw [if_neg (by omega)]; rfl
 | j+1,row,hi=>by
  show ((ck left cs j row).set (left+j) ((cs[j]?).getD bl))[i]? = _;rw [List.getElem?_set,Qom left i cs j row hi]
  by_cases h:left+j=i
  ·rw [if_pos h,if_pos (by rw [Qi8]; omega),if_pos (by omega),show i - left=j by omega]
  ·rw [if_neg h]
   by_cases h2:left≤i∧i < left+j
   ·rw [if_pos h2,if_pos (by omega)]
   ·rw [if_neg h2,if_neg (by omega)]
theorem Qtm {O R:Qac} (i:Nat):(O++R)[O.length+i]? = R[i]?:=by
 rw [zE (by omega),Nat.add_sub_cancel_left]
theorem QrR {O R:Qac} (i:Nat) (o:Ob):(O++R).set (O.length+i) o=O++R.set i o:=by
 rw [List.set_append_right _ _ (by omega),Nat.add_sub_cancel_left]
theorem Qmn {mo mi m:L2.M D}{ρ:Qah}{O:Qac}{d:D}{n j:Nat}{ds:List D} (h:m ρ O = .ok d O) (ho:mo ρ O = .ok (.ob n) O) (hi:mi ρ O = .ok (.int (j:Int)) O) (hO:O[n]? = some (.ml ds)) (hj:j < ds.length):Qea mo mi m ρ O = .nx ρ (O.set n (.ml (ds.set j d))):=by
 have q:ixN ds.length (j:Int)=some j:=by
  unfold ixN;rw [if_pos (by omega),if_pos (by omega),Int.toNat_natCast]
 unfold Qea;rw [h];dsimp only;rw [ho];dsimp only;rw [hi];dsimp only;rw [hO];dsimp only;rw [q]
theorem setC {mo mi m:L2.M D}{ρ:Qah}{O:Qac}{Q:List Row}{t j:Nat}{row:Row}{c:C} (ht:Q[t]? = some row) (h:m ρ (O++Q.map QaS) = .ok (dC c) (O++Q.map QaS)) (ho:mo ρ (O++Q.map QaS) = .ok (.ob (O.length+t)) (O++Q.map QaS)) (hi:mi ρ (O++Q.map QaS) = .ok (.int (j:Int)) (O++Q.map QaS)) (hj:j < row.length) :
  Qea mo mi m ρ (O++Q.map QaS) = .nx ρ (O++(Q.set t (row.set j c)).map QaS):=by
 rw [Qmn (ds:=row.map dC) h ho hi (by rw [Qtm,zm,ht]; rfl) (by rw [zd]; exact hj),QrR,List.map_set,←List.map_set];rfl
theorem Qqa {α:Type}{l:List α}{t:Nat}{x:α} (h:l[t]? = some x):l.set t x=l:=by
 refine jn fun i=>?_
 rw [List.getElem?_set]
 by_cases e:t=i
 ·subst e;rw [if_pos rfl,if_pos (ze.mp h).1,h]
 ·rw [if_neg e]
theorem Qoi (b n k:Nat) (h:k < n):(ids b n)[k]? = some (b+k):=by
 unfold ids;rw [zm,List.getElem?_range h];rfl
theorem Qol {α:Type} (l:List α) (a b:Nat):Qc2 l (some (a:Int)) (some (b:Int))=(l.drop a).take (b - a):=by
 unfold Qc2;rw [HT.sIx_nat,HT.sIx_nat]
 by_cases h:a≤l.length
 ·rw [Nat.min_eq_left h]
  by_cases hb:b≤l.length
  ·rw [Nat.min_eq_left hb]
  ·rw [Nat.min_eq_right (by omega),List.take_of_length_le (by rw [List.length_drop]; omega),List.take_of_length_le (by rw [List.length_drop]; omega)]
 ·rw [Nat.min_eq_right (show l.length≤a by omega),List.drop_eq_nil_of_le (show l.length≤l.length by omega),List.drop_eq_nil_of_le (show l.length≤a by omega)];simp
theorem QtR {α:Type} (l:List α) (a:Nat):Qc2 l (some (a:Int)) none=l.drop a:=by
 unfold Qc2;rw [HT.sIx_nat,HT.sIx_none]
 by_cases h:a≤l.length
 ·rw [Nat.min_eq_left h,List.take_of_length_le (by rw [List.length_drop]; omega)]
 ·rw [Nat.min_eq_right (by omega),List.drop_eq_nil_of_le (by omega),List.drop_eq_nil_of_le (by omega)];simp
theorem Qf0 {m:L2.M D}{ρ:Qah}{O:Qac}{d:D}{n t:String} (h:m ρ O = .ok d O) (ht:tyD (QaI O d)=some t):Qci n m ρ O = .ok (.bl (QbH t n)) O:=by
 rw [Qvt,h,Qam,ht,QpM]
theorem QjH {m:L2.M D}{ρ:Qah}{O:Qac}{b:Bool} (h:m ρ O = .ok (.bl b) O):Qbs m ρ O = .ok b O:=by
 rw [QjJ,h,Qam,QeT,QgK,QfV]
theorem y1:QbH "str" "bool" = false:=by decide
theorem y2:QbH "str" "int" = false:=by decide
theorem y3:QbH "list" "bool" = false:=by decide
theorem y4:QbH "list" "int" = false:=by decide
theorem y5:QbH "list" "str" = false:=by decide
theorem y6:QbH "tuple" "bool" = false:=by decide
theorem y7:QbH "tuple" "int" = false:=by decide
theorem y8:QbH "tuple" "str" = false:=by decide
theorem y9:QbH "list" "tuple" = false:=by decide
theorem Qua (n:Nat) (a:List Nat) (O:Qac):Qa2 (n+1) [.str a,.str a] O = .ok (.bl true) O:=by
 have v1:∀q,Qbs (Qci q (Qaa 1)) [some (.str a),some (.str a),none] O = .ok (QbH "str" q) O:=fun q=>QjH (Qf0 (d:=.str a) rfl rfl)
 have w1:Qd3 (Qci "str" (Qaa 0)) (Qad gEq (Qaa 0) (Qaa 1)) [some (.str a),some (.str a),none] O = .ok (.bl true) O:=by
  rw [QhO,Qf0 (d:=.str a) (t:="str") rfl rfl,Qam,QoL,Qjb,if_pos rfl,Qaz (x:=.str a) (y:=.str a) (z:=.bl true) rfl rfl (by rw [Qkk,Qq6,zw rfl])]
 show Qa7 (Qcb (Qa2 n) [some (.str a),some (.str a),none] O)=_;unfold Qcb;rw [QaA,Qbb (by rw [v1,y1]),Qce,Qay,QaA,Qbb (by rw [v1,y2]),Qce,Qay,QaA,Qbz (by rw [v1,QoL]),Qf8,w1];rfl
def Qtc (self:List D→Qac→Res D):MS:=QaM (Qb4 (Qbs (Qat self (Qab (Qad gIx (Qaa 0) (Qaa 2)) (Qab (Qad gIx (Qaa 1) (Qaa 2)) Qae))))) (QaE (mC (.bl false))) QaO
theorem Qh1 (self:List D→Qac→Res D) (d e:D) (l m:List D) (O:Qac) (hd:QaI O d = .lst l∧QaI O e = .lst m∨QaI O d = .tup l∧QaI O e = .tup m) (hl:l.length=m.length) (hm:m.length≤1000)
  (hs:∀(i:Nat) (x y:D),l[i]? = some x→m[i]? = some y→self [x,y] O = .ok (.bl true) O):Qa7 (Qcb self [some d,some e,none] O) = .ok (.bl true) O:=by
 have li:∀(i:Nat) (x:D),l[i]? = some x→gIx (QaI O d) (.int (i:Int))=some x:=fun i x h=>by
  rcases hd with ⟨a,_⟩ | ⟨a,_⟩
  ·rw [a,Qgi,QdK,h]
  ·rw [a,Qrh,QdK,h]
 have mi:∀(i:Nat) (x:D),m[i]? = some x→gIx (QaI O e) (.int (i:Int))=some x:=fun i x h=>by
  rcases hd with ⟨_,a⟩ | ⟨_,a⟩
  ·rw [a,Qgi,QdK,h]
  ·rw [a,Qrh,QdK,h]
 have ln:Qav QaV (Qab (Qaa 0) Qae) [some d,some e,none] O = .ok (.int (m.length:Int)) O:=QcT (xs:=[d]) rfl (by
  rw [zl,zQ,←hl]
  rcases hd with ⟨a,_⟩ | ⟨a,_⟩ <;> rw [a] <;> rfl)
 have le:Qav QaV (Qab (Qaa 1) Qae) [some d,some e,none] O = .ok (.int (m.length:Int)) O:=QcT (xs:=[e]) rfl (by
  rw [zl,zQ]
  rcases hd with ⟨_,a⟩ | ⟨_,a⟩ <;> rw [a] <;> rfl)
 obtain ⟨ρ1,O1,e1,hO1,p2,rfl⟩:=QbM (g:=mgN 2) (b:=Qtc self)
  (fun _ ρ O'=>O'=O∧∃p2,ρ = [some d,some e,p2]) (QbX 0 m.length) 0 [some d,some e,none] O ⟨rfl,none,rfl⟩ (by
   rintro i x ρ O' hi ⟨hO',p2,rfl⟩;obtain ⟨hi5,rfl⟩:=Qj4 hi;rw [hO'];have hx:l[i]? = some l[i]:=zh (by omega);have hy:m[i]? = some m[i]:=zh hi5
   have c:Qat self (Qab (Qad gIx (Qaa 0) (Qaa 2)) (Qab (Qad gIx (Qaa 1) (Qaa 2)) Qae)) [some d,some e,some (.int (i:Int))] O = .ok (.bl true) O:=by
    rw [Qbg (maS (Qaz (x:=d) (y:=.int (i:Int)) rfl rfl (li i _ hx)) (ma1 (Qaz (x:=e) (y:=.int (i:Int)) rfl rfl (mi i _ hy)))),hs i _ _ hx hy]
   exact ⟨_,rfl,_,_,.inl (not_no (s:=QaE (mC (.bl false))) c),rfl,some (.int (i:Int)),rfl⟩)
 rw [hO1] at e1;have ne:Qar (Qad gNe (Qav QaV (Qab (Qaa 0) Qae)) (Qav QaV (Qab (Qaa 1) Qae))) [some d,some e,none] O = .ok false O:=Qcv (Qaz ln le (by rw [QdF,QvD,zw rfl]; rfl))
 have pre:∃t:String,(t = "list"∨t = "tuple")∧tyD (QaI O d)=some t∧tyD (QaI O e)=some t:=by
  rcases hd with ⟨a,b⟩ | ⟨a,b⟩
  ·exact ⟨"list",.inl rfl,by rw [a]; rfl,by rw [b]; rfl⟩
  ·exact ⟨"tuple",.inr rfl,by rw [a]; rfl,by rw [b]; rfl⟩
 obtain ⟨t,ht,td,te⟩:=pre
 have v0:∀q,Qbs (Qci q (Qaa 0)) [some d,some e,none] O = .ok (QbH t q) O:=fun q=>QjH (Qf0 (d:=d) rfl td)
 have v1:∀q,Qbs (Qci q (Qaa 1)) [some d,some e,none] O = .ok (QbH t q) O:=fun q=>QjH (Qf0 (d:=e) rfl te)
 have fin:Qa7 (Qaj (QaM (Qar (Qad gNe (Qav QaV (Qab (Qaa 0) Qae)) (Qav QaV (Qab (Qaa 1) Qae)))) (QaE (mC (.bl false))) QaO) (Qaj (Qa8 (Qch (Qab (Qav QaV (Qab (Qaa 1) Qae)) Qae)) (mgN 2) (Qtc self)) (QaE (mC (.bl true)))) [some d,some e,none] O) = .ok (.bl true) O:=by
  rw [QaA,Qbb ne,Qce,Qay,QaA,Qcm,QfK le (by omega),Qb2,e1,Qay];rfl
 have nn:∀q,QbH t q=true→QaM (Qb4 (Qbs (Qci q (Qaa 0)))) (QaE (mC (.bl false))) QaO [some d,some e,none] O = .nx [some d,some e,none] O:=fun q h=>by
  rw [Qbb (by rw [Qjy,v0,h,Qam]; rfl)];rfl
 unfold Qcb
 rcases ht with rfl | rfl
 ·rw [QaA,Qbb (by rw [v1,y3]),Qce,Qay,QaA,Qbb (by rw [v1,y4]),Qce,Qay,QaA,Qbb (by rw [v1,y5]),Qce,Qay,QaA,Qbb (by rw [v1,y9]),nn "list" QmN,Qay];exact fin
 ·rw [QaA,Qbb (by rw [v1,y6]),Qce,Qay,QaA,Qbb (by rw [v1,y7]),Qce,Qay,QaA,Qbb (by rw [v1,y8]),Qce,Qay,QaA,Qbz (by rw [v1,QmE]),nn "tuple" QmE,Qay];exact fin
theorem QjI (n:Nat) (d e:D) (O:Qac):Qa2 (n+1) [d,e] O=Qa7 (Qcb (Qa2 n) [some d,some e,none] O):=rfl
theorem QsH (n:Nat) (c:C) (O:Qac):Qa2 (n+2) [dC c,dC c] O = .ok (.bl true) O:=by
 refine (QjI (n+1) (dC c) (dC c) O).trans (Qh1 (Qa2 (n+1)) (dC c) (dC c) [.str c.1,.str c.2.1,.str c.2.2] [.str c.1,.str c.2.1,.str c.2.2] O (.inr ⟨rfl,rfl⟩) rfl (show (3:Nat)≤1000 by decide) fun i x y hx hy=>?_);rw [hx] at hy;cases hy;have hm:=zx hx;simp only [zn,List.not_mem_nil,or_false] at hm
 rcases hm with rfl | rfl | rfl <;> exact Qua _ _ _
theorem Qpk (n:Nat) (d e:D) (r:Row) (hr:r.length≤1000) (O:Qac) (hd:QaI O d = .lst (r.map dC)) (he:QaI O e = .lst (r.map dC)):Qa2 (n+3) [d,e] O = .ok (.bl true) O:=by
 refine (QjI (n+2) d e O).trans (Qh1 (Qa2 (n+2)) d e (r.map dC) (r.map dC) O (.inl ⟨hd,he⟩) rfl (by rw [zd]; exact hr) fun i x y hx hy=>?_);rw [hx] at hy;cases hy;obtain ⟨c,_,rfl⟩:=zL.mp (zx hx);exact QsH _ _ _
def Rows (O:Qac) (ds:List D) (P:List Row):Prop:=ds.map (QaI O)=P.map fun r=>D.lst (r.map dC)
theorem Pc.rws {O:Qac}{is:List Nat}{P:List Row}{lo hi:Nat} (h:Pc O is P lo hi):Rows O (is.map D.ob) P:=by
 unfold Rows;rw [zU]
 refine List.ext_getElem (by rw [zd,zd,h.len]) fun k h1 h2=>?_
 rw [zd] at h1;obtain ⟨r,e1,e2⟩:=h.at (zh h1)
 have hk:k < P.length:=by rw [←h.len]; exact h1
 rw [zh hk] at e1;cases e1;rw [List.getElem_map,List.getElem_map];exact QeD e2
theorem Rows.at {O:Qac}{ds:List D}{P:List Row} (h:Rows O ds P) {i:Nat}{x:D} (hx:ds[i]? = some x):∃r,P[i]? = some r∧QaI O x = .lst (r.map dC):=by
 have q:=congrArg (fun l=>l[i]?) h;simp only [zm,hx,Option.map_some] at q
 cases hp:P[i]? with
 | none=>rw [hp] at q; cases q
 | some r=>rw [hp] at q; exact ⟨r,rfl,zF q⟩
theorem Rows.len {O:Qac}{ds:List D}{P:List Row} (h:Rows O ds P):ds.length=P.length:=by
 have:=congrArg List.length h
 simpa using this
theorem QsT {O:Qac}{ds es:List D}{P:List Row} (h1:Rows O ds P) (h2:Rows O es P) (hl:P.length≤1000) (hw:∀r∈P,r.length≤1000):Qcs [.lst ds,.lst es] O = .ok (.bl true) O:=by
 refine (QjI 5 (.lst ds) (.lst es) O).trans (Qh1 (Qa2 5) (.lst ds) (.lst es) ds es O (.inl ⟨rfl,rfl⟩) (by rw [h1.len,h2.len]) (by rw [h2.len]; exact hl) fun i x y hx hy=>?_);obtain ⟨r,e1,e2⟩:=h1.at hx;obtain ⟨r',e3,e4⟩:=h2.at hy;rw [e1] at e3;cases e3;exact Qpk 2 x y r (hw r (zx e1)) O e2 e4
theorem QqZ (n k j:Int) (h:0 < j):0≤mix n k % j∧mix n k % j < j:=⟨jc _ (by omega),jd _ h⟩
@[simp] theorem QmX {i:Int}:QbT (.int i) (.int 48271)=some (.int (i * 48271)):=QfJ (.inr ⟨by decide,by decide⟩)
@[simp] theorem QwY {i:Int}:QbT (.int i) (.int 7919)=some (.int (i * 7919)):=QfJ (.inr ⟨by decide,by decide⟩)
@[simp] theorem Qxi {i:Int}:QbT (.int 7) (.int i)=some (.int (7 * i)):=QfJ (.inl ⟨by decide,by decide⟩)
theorem Que (ns:List Int) (k:Int) (h0:0≤k) (h1:k≤1000) (O:Qac):∃v,Qbh [.lst (ns.map D.int),.int k] O = .ok (.int v) O:=by
 by_cases hk:k < ns.length
 ·obtain ⟨x,hx,ex⟩:=Qh0 (xs:=ns.map D.int) h0 (by simpa using hk);obtain ⟨n,_,rfl⟩:=zL.mp ex;exact ⟨n,by simp [Qbh,QeC,hk,Qgi,hx]⟩
 ·have hkk:=QfJ (i:=k) (j:=k) (.inl ⟨by omega,by omega⟩)
  by_cases hn:0 < ns.length
  ·have hn':(0:Int) < ns.length:=by omega
   obtain ⟨x,hx,ex⟩:=Qh0 (xs:=ns.map D.int) (i:=k % (ns.length:Int)) (jc _ (by omega)) (by simpa using jd k hn');obtain ⟨n,_,rfl⟩:=zL.mp ex;exact ⟨(k * k * 7919+104729+n % 1000003 * 48271) * 48271 % 2147483647,by simp [Qbh,QeC,hk,hkk,Qgi,hx,hn]⟩
  ·have:ns = []:=List.eq_nil_of_length_eq_zero (by omega)
   subst this;exact ⟨(k * k * 7919+104729) * 48271 % 2147483647,by simp [Qbh,QeC,hkk]; omega⟩
theorem QpD {m:Int} (h0:0≤m) (h1:m < 2147483629):QbT (.int m) (.int m)=some (.int (m * m)):=QfJ (.inl ⟨by omega,by omega⟩)
theorem Qv2 {l:List Nat}{v:Int} (hl:l.length≤1000000) (hn:0 < l.length):∃c,c∈l∧gIx (.str l) (.int (v % (l.length:Int)))=some (.str [c]):=by
 obtain ⟨c,h1,h2⟩:=Qh0 (xs:=l) (i:=v % (l.length:Int)) (jc _ (by omega)) (jd _ (by omega));exact ⟨c,h2,by rw [Qq5,if_pos hl,h1]; rfl⟩
theorem ixS {l:List Nat}{v n:Int} (hl:l.length≤1000000) (h:(l.length:Int)=n) (hn:0 < n):∃c,c∈l∧gIx (.str l) (.int (v % n))=some (.str [c]):=by
 obtain ⟨c,h1,h2⟩:=Qh0 (xs:=l) (i:=v % n) (jc _ (by omega)) (by rw [h]; exact jd _ hn);exact ⟨c,h2,by rw [Qq5,if_pos hl,h1]; rfl⟩
theorem ixL {l:List D}{v n:Int} (h:(l.length:Int)=n) (hn:0 < n):∃c,c∈l∧gIx (.lst l) (.int (v % n))=some c:=by
 obtain ⟨c,h1,h2⟩:=Qh0 (xs:=l) (i:=v % n) (jc _ (by omega)) (by rw [h]; exact jd _ hn);exact ⟨c,h2,h1⟩
theorem Qir (xs:List Int) {a b:L2.M D}{ρ:Qah}{O:Qac}{k:Int} (ha:a ρ O = .ok (.lst (xs.map D.int)) O) (hb:b ρ O = .ok (.int k) O) (h0:0≤k) (h1:k≤1000):∃v,Qat Qbh (Qab a (Qab b Qae)) ρ O = .ok (.int v) O:=by
 obtain ⟨v,e⟩:=Que xs k h0 h1 O;exact ⟨v,by rw [Qbg (maS ha (ma1 hb)),e]⟩
theorem ints4 {a b c d:Int} (v:Int) (lo hi:Int) (h:∀x∈[a,b,c,d],lo≤x∧x≤hi):∃x,lo≤x∧x≤hi∧gIx (.lst [.int a,.int b,.int c,.int d]) (.int (v % 4))=some (.int x):=by
 obtain ⟨y,hy,ey⟩:=ixL (l:=[.int a,.int b,.int c,.int d]) (v:=v) (n:=4) rfl (by decide);simp only [zn,List.not_mem_nil,or_false] at hy
 rcases hy with rfl | rfl | rfl | rfl
 ·exact ⟨a,(h a (by simp)).1,(h a (by simp)).2,ey⟩
 ·exact ⟨b,(h b (by simp)).1,(h b (by simp)).2,ey⟩
 ·exact ⟨c,(h c (by simp)).1,(h c (by simp)).2,ey⟩
 ·exact ⟨d,(h d (by simp)).1,(h d (by simp)).2,ey⟩
def Qkd:MS:=QaM (Qar (Qad gGt (Qaa 0) (Qad Qc8 (mC (.int 10)) (mC (.int 18))))) (Qaj (Qbt 4 (Qad QaT (Qaa 3) (Qad Qc8 (mC (.int 10)) (mC (.int 9)))))
  (Qao 3 (Qad QbB (Qaa 3) (Qad Qc8 (mC (.int 10)) (mC (.int 9)))))) (Qaj (Qao 2 (Qad QaT (Qad QaK (Qad QbT (Qaa 2) (mC (.int 48271))) (mC (.int 104729))) (mC (.int 2147483629))))
  (Qbt 4 (Qad QbB (Qad QaT (Qad QbT (Qaa 2) (Qaa 2)) (mC (.int 998244353))) (mC (.int 11)))))
theorem Qin {a b:L2.M D}{ρ:Qah}{O:Qac}{i j:Int} (ha:a ρ O = .ok (.int i) O) (hb:b ρ O = .ok (.int j) O) (hj:0 < j∧j < 1073741824):Qad QbB a b ρ O = .ok (.int (i / j)) O:=Qaz ha hb (by rw [QdF,QdF,QrI,if_pos hj])
theorem p9 {ρ:Qah}{O:Qac}:Qad Qc8 (mC (.int 10)) (mC (.int 9)) ρ O = .ok (.int 1000000000) O:=Qaz rfl rfl QtB
theorem QlG (c:Int) (n:Nat) (hn:n≤1000) (O:Qac):∃xs:List Int,xs.length=n∧Qc3 [.int c,.int (n:Int)] O = .ok (.lst (xs.map D.int)) O:=by
 obtain ⟨ρ1,O1,e1,hO1,m,r,ys,o5,rfl,hl⟩:=QbM (g:=mgN 5) (b:=Qkd)
  (fun i ρ O'=>O'=O∧∃m r ys o5,ρ = [some (.int c),some (.int (n:Int)),some (.int m),some (.int r),some (.lst (ys.map D.int)),o5]∧ys.length=i) (QbX 0 n) 0
  [some (.int c),some (.int (n:Int)),some (.int ((c % 2147483647+7919) * 48271+104729)),some (.int c),some (.lst []),none] O ⟨rfl,_,_,[],_,rfl,rfl⟩ (by
   rintro i d ρ O' hi ⟨hO',m,r,ys,o5,rfl,hl⟩;obtain ⟨hi5,rfl⟩:=Qj4 hi;have t:Qar (Qad gGt (Qaa 0) (Qad Qc8 (mC (.int 10)) (mC (.int 18)))) [some (.int c),some (.int (n:Int)),some (.int m),some (.int r),some (.lst (ys.map D.int)),some (.int (i:Int))] O' = .ok (decide (1000000000000000000 < c)) O':=Qcv (Qaz (x:=.int c) (y:=.int 1000000000000000000) rfl (Qaz rfl rfl QuB) rfl)
   by_cases hc:1000000000000000000 < c
   ·have a4:=QgB (i:=4) (m:=Qad QaT (Qaa 3) (Qad Qc8 (mC (.int 10)) (mC (.int 9)))) (ρ:=[some (.int c),some (.int (n:Int)),some (.int m),some (.int r),some (.lst (ys.map D.int)),some (.int (i:Int))]) (O:=O') (ds:=ys.map D.int) (Qcd (i:=r) rfl p9 (by decide)) rfl (by rw [zd]; omega);have s3:=QaW (i:=3) (m:=Qad QbB (Qaa 3) (Qad Qc8 (mC (.int 10)) (mC (.int 9)))) (ρ:=[some (.int c),some (.int (n:Int)),some (.int m),some (.int r),some (.lst ((ys ++ [r % 1000000000]).map D.int)),some (.int (i:Int))]) (O:=O') (Qin (i:=r) rfl p9 (by decide));refine ⟨_,rfl,_,_,.inl ?_,hO',m,r / 1000000000,ys ++ [r % 1000000000],some (.int (i:Int)),rfl,by rw [zg,hl]; rfl⟩
    show Qkd [some (.int c),some (.int (n:Int)),some (.int m),some (.int r),some (.lst (ys.map D.int)),some (.int (i:Int))] O'=_;unfold Qkd;rw [Qbz (by rw [t,zw hc]),QaA,a4,Qay];rw [zM] at s3 ⊢;exact s3
   ·have h0:0≤(m * 48271+104729) % 2147483629:=jc _ (by decide);have h1:=jd (m * 48271+104729) (show (0:Int) < 2147483629 by decide);have s2:=QaW (i:=2) (m:=Qad QaT (Qad QaK (Qad QbT (Qaa 2) (mC (.int 48271))) (mC (.int 104729))) (mC (.int 2147483629))) (ρ:=[some (.int c),some (.int (n:Int)),some (.int m),some (.int r),some (.lst (ys.map D.int)),some (.int (i:Int))]) (O:=O') (Qcd (j:=2147483629) (QdC (i:=m * 48271) (j:=104729) (Qaz (x:=.int m) (y:=.int 48271) rfl rfl QmX) rfl) rfl (by decide))
    generalize (m * 48271+104729) % 2147483629=m2 at s2 h0 h1
    have a4:=QgB (i:=4) (m:=Qad QbB (Qad QaT (Qad QbT (Qaa 2) (Qaa 2)) (mC (.int 998244353))) (mC (.int 11))) (ρ:=[some (.int c),some (.int (n:Int)),some (.int m2),some (.int r),some (.lst (ys.map D.int)),some (.int (i:Int))]) (O:=O') (ds:=ys.map D.int) (Qin (j:=11) (Qcd (i:=m2 * m2) (j:=998244353) (Qaz (x:=.int m2) (y:=.int m2) rfl rfl (QpD h0 h1)) rfl (by decide)) rfl (by decide)) rfl (by rw [zd]; omega);refine ⟨_,rfl,_,_,.inl ?_,hO',m2,r,ys ++ [m2 * m2 % 998244353 / 11],some (.int (i:Int)),rfl,by rw [zg,hl]; rfl⟩;show Qkd [some (.int c),some (.int (n:Int)),some (.int m),some (.int r),some (.lst (ys.map D.int)),some (.int (i:Int))] O'=_
    unfold Qkd;rw [Qbb (by rw [t,zk hc]),QaA,s2,Qay];rw [zM]
    exact a4)
 rw [hO1] at e1;rw [QdY,zC] at hl;refine ⟨ys,hl,?_⟩;have s2:=QaW (i:=2) (m:=Qad QaK (Qad QbT (Qad QaK (Qad QaT (Qaa 0) (mC (.int 2147483647))) (mC (.int 7919))) (mC (.int 48271))) (mC (.int 104729))) (ρ:=[some (.int c),some (.int (n:Int)),none,none,none,none]) (O:=O) (QdC (i:=(c % 2147483647+7919) * 48271) (j:=104729) (Qaz (x:=.int (c % 2147483647+7919)) (y:=.int 48271) (QdC (Qcd (i:=c) (j:=2147483647) rfl rfl (by decide)) rfl) rfl QmX) rfl);show Qa7 (Qaj _ (Qaj (Qao 3 (mG (Qaa 0))) (Qaj (Qao 4 (Qa3 Qae)) (Qaj (Qa8 (Qch (Qab (Qaa 1) Qae)) (mgN 5) Qkd) (QaE (Qaa 4))))) [some (.int c),some (.int (n:Int)),none,none,none,none] O)=_
 rw [QaA,s2,Qay,QaA,show Qao 3 (mG (Qaa 0)) ([some (.int c),some (.int (n:Int)),none,none,none,none].set 2 (some (.int ((c % 2147483647+7919) * 48271+104729)))) O = .nx [some (.int c),some (.int (n:Int)),some (.int ((c % 2147483647+7919) * 48271+104729)),some (.int c),none,none] O from rfl,Qay,QaA,show Qao 4 (Qa3 Qae) [some (.int c),some (.int (n:Int)),some (.int ((c % 2147483647+7919) * 48271+104729)),some (.int c),none,none] O = .nx [some (.int c),some (.int (n:Int)),some (.int ((c % 2147483647+7919) * 48271+104729)),some (.int c),some (.lst []),none] O from rfl,Qay,QaA,Qcm,QfK (m:=Qaa 1) (n:=n) rfl (by omega),Qb2,e1,Qay]
 rfl
theorem Qlc {α β:Type}{g:MG}{t:L2.M Bool}{m:L2.M D} (Pv:Qah→Prop) (f:α→D) (F:β→D) (Q:β→Prop):∀(xs:List α) (ρ:Qah) (O:Qac) (acc:List D),Pv ρ →
  (∀x∈xs,∀ρ,Pv ρ→∃ρ1,g (f x) ρ=some ρ1∧Pv ρ1∧t ρ1 O = .ok true O∧∃b,Q b∧m ρ1 O = .ok (F b) O)→∃bs:List β,bs.length=xs.length∧(∀b∈bs,Q b)∧Qbl g t m (xs.map f) ρ O acc = .ok (acc++bs.map F) O
 | [],ρ,O,acc,_,_=>⟨[],rfl,fun b hb=>(nomatch hb),by simp [Qbl]⟩
 | x::xs,ρ,O,acc,hp,hs=>by
  obtain ⟨ρ1,e1,h1,e2,b,hb,e3⟩:=hs x zq ρ hp
  obtain ⟨bs,l1,l2,l3⟩:=Qlc Pv f F Q xs ρ1 O (acc ++ [F b]) h1 fun d' hd'=>hs d' (zu _ hd')
  refine ⟨b::bs,by rw [zA,zA,l1],fun y hy=>?_,?_⟩
  ·rcases zn.mp hy with rfl | hy
   ·exact hb
   ·exact l2 y hy
  ·rw [zl];unfold Qbl;rw [e1];dsimp only;rw [e2];dsimp only;rw [e3];dsimp only;rw [l3];simp
theorem QnW {a b:L2.M D}{ρ:Qah}{O:Qac}{i j:Int} (ha:a ρ O = .ok (.int i) O) (hb:b ρ O = .ok (.int j) O):Qar (Qad gGt a b) ρ O = .ok (decide (j < i)) O:=Qcv (Qaz ha hb rfl)
theorem Qnj {t1 t2:L2.M Bool}{ρ:Qah}{O:Qac}{b c:Bool} (h1:t1 ρ O = .ok b O) (h2:t2 ρ O = .ok c O):QcX t1 t2 ρ O = .ok (b&&c) O:=by
 rw [QgE,h1,Qam];cases b
 ·rw [if_neg zp]; rfl
 ·rw [if_pos rfl,h2]; rfl
def NOk (l:List Nat):Prop:=∀c∈l,c < 1114112
def COk (c:C):Prop:=NOk c.1∧NOk c.2.1∧NOk c.2.2
def ROk (r:Row):Prop:=∀c∈r,COk c
abbrev Qdc:List Nat:=[97,98,99,100,101,102,103,104,105,106,107,108,109,110,111,112,113,114,115,116,117,118,119,120,121,122,48,49,50,51,52,53,54,55,56,57,33,34,35,36,38,39,40,41,42,43,44,45,46,47,58,59,60,61,62,63,64,91,92,93,94,95,96,123,124,125]
abbrev QjG:List Nat:=[65,66,67,68,69,70,71,72,73,74,75,76,77,78,79,80,81,82,83,84,85,86,87,88,89,90]
abbrev Qg1:List Nat:=[97,98,99,100,101,102,103,104,46]
theorem Qex {c:Nat} (h:c < 1114112):NOk [c]:=fun x hx=>by rw [zo.mp hx]; exact h
theorem Qut:NOk []:=fun x hx=>nomatch hx
theorem QrS:∀c∈Qdc,c < 1114112:=by decide
theorem QpG:∀c∈QjG,c < 1114112:=by decide
theorem QmH:∀c∈Qg1,c < 1114112:=by decide
theorem Qrd:COk bl:=⟨Qex (by decide),Qex (by decide),Qex (by decide)⟩
theorem QnU {c:C} (h:COk c):ROk [c]:=fun x hx=>by rw [zo.mp hx]; exact h
def eC (n room:Int) (a2 a3 a4 a5:Option D):Qah:=[some (.int n),some (.int room),a2,a3,a4,a5]
theorem Qnk {m:L2.M D}{ρ:Qah}{O:Qac}{c:C} (h:m ρ O = .ok (dC c) O):Qa3 (Qab m Qae) ρ O = .ok (.lst ([c].map dC)) O:=Qi3 (ma1 h) (show (1:Nat)≤1000000 by decide)
theorem Qwu {m1 m2:L2.M D}{ρ:Qah}{O:Qac}{c d:C} (h:m1 ρ O = .ok (dC c) O) (h2:m2 ρ O = .ok (dC d) O):Qa3 (Qab m1 (Qab m2 Qae)) ρ O = .ok (.lst ([c,d].map dC)) O:=Qi3 (maS h (ma1 h2)) (show (2:Nat)≤1000000 by decide)
theorem Qic {m1 m2 m3:L2.M D}{ρ:Qah}{O:Qac}{a b c:List Nat} (h1:m1 ρ O = .ok (.str a) O) (h2:m2 ρ O = .ok (.str b) O) (h3:m3 ρ O = .ok (.str c) O):QaZ (Qab m1 (Qab m2 (Qab m3 Qae))) ρ O = .ok (dC (a,b,c)) O:=Ql2 (maS h1 (maS h2 (ma1 h3))) (show (3:Nat)≤1000000 by decide)
theorem QfS {m:L2.M D}{ρ:Qah}{O O1:Qac}{d:D} (h:m ρ O = .ok d O1):QaE m ρ O = .rt d O1:=by rw [Qf8,h]; rfl
def Bl (b:Row):Prop:=(∃c:C,b = [c]∧c.1≠[])∨∃c d:C,b = [c,d]∧c.1≠[]∧d.1 = []
def Wf (r:Row):Prop:=∃bs:List Row,(∀b∈bs,Bl b)∧r=bs.flatten
theorem Qls:Wf []:=⟨[],fun b hb=>(nomatch hb),rfl⟩
theorem Wf.snoc {r b:Row} (h:Wf r) (hb:Bl b):Wf (r++b):=by
 obtain ⟨bs,h1,rfl⟩:=h;refine ⟨bs ++ [b],fun x hx=>?_,by rw [List.flatten_append,List.flatten_singleton]⟩
 rcases zz.mp hx with hx | hx
 ·exact h1 x hx
 ·rw [zo.mp hx];exact hb
theorem Qmy (n room:Int) (h1:1≤room) (O:Qac):∃cs:Row,1≤cs.length∧(cs.length:Int)≤room∧cs.length≤2∧ROk cs∧Bl cs∧QcR [.int n,.int room] O = .ok (.lst (cs.map dC)) O:=by
 obtain ⟨c3,hc3,e3⟩:=ixS (l:=Qg1) (v:=n) (n:=9) (by decide) rfl (by decide);obtain ⟨c4,hc4,e4⟩:=ixS (l:=Qg1) (v:=n / 9) (n:=9) (by decide) rfl (by decide);obtain ⟨c5,hc5,e5⟩:=ixS (l:=QjG) (v:=n / 486) (n:=26) (by decide) rfl (by decide);obtain ⟨c6,hc6,e6⟩:=Qv2 (l:=Qdc) (v:=n / 486) (by decide) (by decide)
 have dv:∀(j:Int) (a2 a3 a4 a5:Option D),0 < j∧j < 1073741824→Qad QbB (Qaa 0) (mC (.int j)) (eC n room a2 a3 a4 a5) O = .ok (.int (n / j)) O:=fun j a2 a3 a4 a5 hj=>Qin rfl rfl hj
 have s2:Qao 2 (mC (.str Qdc)) (eC n room none none none none) O = .nx (eC n room (some (.str Qdc)) none none none) O:=rfl;have s3:Qao 3 (Qad gIx (mC (.str Qg1)) (Qad QaT (Qaa 0) (mC (.int 9)))) (eC n room (some (.str Qdc)) none none none) O = .nx (eC n room (some (.str Qdc)) (some (.str [c3])) none none) O:=QaW (Qaz (x:=.str Qg1) rfl (Qcd (i:=n) (j:=9) rfl rfl (by decide)) e3);have s4:Qao 4 (Qad gIx (mC (.str Qg1)) (Qad QaT (Qad QbB (Qaa 0) (mC (.int 9))) (mC (.int 9)))) (eC n room (some (.str Qdc)) (some (.str [c3])) none none) O = .nx (eC n room (some (.str Qdc)) (some (.str [c3])) (some (.str [c4])) none) O:=QaW (Qaz (x:=.str Qg1) rfl (Qcd (i:=n / 9) (j:=9) (dv 9 _ _ _ _ (by decide)) rfl (by decide)) e4)
 have s5:Qao 5 (Qad QaT (Qad QbB (Qaa 0) (mC (.int 81))) (mC (.int 6))) (eC n room (some (.str Qdc)) (some (.str [c3])) (some (.str [c4])) none) O = .nx (eC n room (some (.str Qdc)) (some (.str [c3])) (some (.str [c4])) (some (.int (n / 81 % 6)))) O:=QaW (Qcd (dv 81 _ _ _ _ (by decide)) rfl (by decide))
 generalize n / 81 % 6=way at s5
 obtain ⟨ρ,hρ⟩:∃ρ,ρ=eC n room (some (.str Qdc)) (some (.str [c3])) (some (.str [c4])) (some (.int way)):=⟨_,rfl⟩
 have v3:Qaa 3 ρ O = .ok (.str [c3]) O:=by rw [hρ]; rfl
 have v4:Qaa 4 ρ O = .ok (.str [c4]) O:=by rw [hρ]; rfl
 have q1:∀k:Int,Qar (Qad gEq (Qaa 5) (mC (.int k))) ρ O = .ok (decide (way=k)) O:=fun k=>by rw [hρ]; exact QjB rfl rfl
 have q2:Qar (Qad gGt (Qaa 1) (mC (.int 1))) ρ O = .ok (decide (1 < room)) O:=by rw [hρ]; exact QnW rfl rfl
 have g5:Qad gIx (mC (.str QjG)) (Qad QaT (Qad QbB (Qaa 0) (mC (.int 486))) (mC (.int 26))) ρ O = .ok (.str [c5]) O:=by rw [hρ]; exact Qaz (x:=.str QjG) rfl (Qcd (i:=n / 486) (j:=26) (dv 486 _ _ _ _ (by decide)) rfl (by decide)) e5
 have g6:Qad gIx (Qaa 2) (Qad QaT (Qad QbB (Qaa 0) (mC (.int 486))) (Qav QaV (Qab (Qaa 2) Qae))) ρ O = .ok (.str [c6]) O:=by rw [hρ]; exact Qaz (x:=.str Qdc) rfl (Qcd (i:=n / 486) (j:=(Qdc.length:Int)) (dv 486 _ _ _ _ (by decide)) (QcT (xs:=[.str Qdc]) rfl (by rw [zl,zQ,Qkk,QtL,if_pos (by decide)])) (by decide)) e6
 have pre:∀Z:MS,Qa7 (Qaj (Qao 2 (mC (.str Qdc))) (Qaj (Qao 3 (Qad gIx (mC (.str Qg1)) (Qad QaT (Qaa 0) (mC (.int 9))))) (Qaj (Qao 4 (Qad gIx (mC (.str Qg1)) (Qad QaT (Qad QbB (Qaa 0) (mC (.int 9))) (mC (.int 9))))) (Qaj (Qao 5 (Qad QaT (Qad QbB (Qaa 0) (mC (.int 81))) (mC (.int 6)))) Z))) (eC n room none none none none) O)=Qa7 (Z ρ O):=fun Z=>by
  rw [QaA,s2,Qay,QaA,s3,Qay,QaA,s4,Qay,QaA,s5,Qay,hρ]
 have k3:=Qex (QmH _ hc3);have k4:=Qex (QmH _ hc4);have k5:=Qex (QpG _ hc5);have k6:=Qex (QrS _ hc6)
 by_cases z0:way=0∧1 < room
 ·refine ⟨[([c5],[c3],[c4]),([],[c3],[c4])],Nat.le_of_ble_eq_true rfl,by show (2:Int)≤room; omega,Nat.le_of_ble_eq_true rfl,fun x hx=>?_,.inr ⟨_,_,rfl,(fun z=>nomatch z),rfl⟩,(pre _).trans ?_⟩
  ·rcases zn.mp hx with rfl | hx
   ·exact ⟨k5,k3,k4⟩
   ·rw [zo.mp hx];exact ⟨Qut,k3,k4⟩
  ·rw [QaA,Qbz (by rw [Qnj (q1 0) q2,zw z0.1,zw z0.2]; rfl),QfS (Qwu (Qic g5 v3 v4) (Qic rfl v3 v4))];rfl
 ·have n0:(QcX (Qar (Qad gEq (Qaa 5) (mC (.int 0)))) (Qar (Qad gGt (Qaa 1) (mC (.int 1))))) ρ O = .ok false O:=by
   rw [Qnj (q1 0) q2]
   by_cases a:way=0
   ·rw [zk (fun b=>z0 ⟨a,b⟩),Bool.and_false]
   ·rw [zk a,Bool.false_and]
  by_cases z1:way=1
  ·refine ⟨[([32],[46],[c4])],Nat.le_of_ble_eq_true rfl,by show (1:Int)≤room; omega,Nat.le_of_ble_eq_true rfl,QnU ⟨Qex (by decide),Qex (by decide),k4⟩,.inl ⟨_,rfl,fun z=>nomatch z⟩,(pre _).trans ?_⟩;rw [QaA,Qbb n0,Qce,Qay,QaA,Qbz (by rw [q1,zw z1]),QfS (Qnk (Qic rfl rfl v4))];rfl
  ·by_cases z2:way=2
   ·refine ⟨[bl],Nat.le_of_ble_eq_true rfl,by show (1:Int)≤room; omega,Nat.le_of_ble_eq_true rfl,QnU Qrd,.inl ⟨_,rfl,fun z=>nomatch z⟩,(pre _).trans ?_⟩;rw [QaA,Qbb n0,Qce,Qay,QaA,Qbb (by rw [q1,zk z1]),Qce,Qay,QaA,Qbz (by rw [q1,zw z2]),QfS (Qnk (Qic rfl rfl rfl))];rfl
   ·refine ⟨[([c6],[c3],[c4])],Nat.le_of_ble_eq_true rfl,by show (1:Int)≤room; omega,Nat.le_of_ble_eq_true rfl,QnU ⟨k6,k3,k4⟩,.inl ⟨_,rfl,fun z=>nomatch z⟩,(pre _).trans ?_⟩;rw [QaA,Qbb n0,Qce,Qay,QaA,Qbb (by rw [q1,zk z1]),Qce,Qay,QaA,Qbb (by rw [q1,zk z2]),Qce,Qay,QfS (Qnk (Qic g6 v3 v4))];rfl
def eS (X:D) (a1 a2 a3:Option D):Qah:=[some X,a1,a2,a3]
theorem Quk (xs:List Int) (O:Qac):∃h w:Nat,1≤h∧h≤12∧2≤w∧w≤40∧Qfu [.lst (xs.map D.int)] O = .ok (.tup [.int (h:Int),.int (w:Int)]) O:=by
 obtain ⟨X,hX⟩:∃X,X=D.lst (xs.map D.int):=⟨_,rfl⟩;obtain ⟨v,ev⟩:=Qir xs (a:=Qaa 0) (b:=mC (.int 0)) (ρ:=eS X none none none) (O:=O) (by rw [hX]; rfl) rfl (by decide) (by decide);obtain ⟨m1,a1,a2,em1⟩:=ints4 (a:=3) (b:=4) (c:=3) (d:=12) (mix v 2) 3 12 (by decide);obtain ⟨m2,b1,b2,em2⟩:=ints4 (a:=6) (b:=11) (c:=11) (d:=39) (mix v 4) 6 39 (by decide);have q1:=QqZ v 1 m1 (by omega);have q2:=QqZ v 3 m2 (by omega);obtain ⟨h,hh⟩:∃h:Nat,1+mix v 1 % m1=(h:Int):=⟨_,(Int.toNat_of_nonneg (by omega)).symm⟩;obtain ⟨w,hw⟩:∃w:Nat,2+mix v 3 % m2=(w:Int):=⟨_,(Int.toNat_of_nonneg (by omega)).symm⟩
 have s1:Qao 1 (Qat Qbh (Qab (Qaa 0) (Qab (mC (.int 0)) Qae))) (eS X none none none) O = .nx (eS X (some (.int v)) none none) O:=QaW ev
 have s2:Qao 2 (Qad QaK (mC (.int 1)) (Qad QaT (Qat Qbx (Qab (Qaa 1) (Qab (mC (.int 1)) Qae))) (Qad gIx (Qa3 (Qab (mC (.int 3)) (Qab (mC (.int 4)) (Qab (mC (.int 3)) (Qab (mC (.int 12)) Qae))))) (Qad QaT (Qat Qbx (Qab (Qaa 1) (Qab (mC (.int 2)) Qae))) (mC (.int 4)))))) (eS X (some (.int v)) none none) O = .nx (eS X (some (.int v)) (some (.int (h:Int))) none) O:=by
  rw [←hh];exact QaW (QdC rfl (Qcd (Qil (c:=v) rfl rfl (by decide) (by decide)) (Qaz (x:=.lst [.int 3,.int 4,.int 3,.int 12]) rfl (Qcd (j:=4) (Qil (c:=v) rfl rfl (by decide) (by decide)) rfl (by decide)) em1) (by omega)))
 have s3:Qao 3 (Qad QaK (mC (.int 2)) (Qad QaT (Qat Qbx (Qab (Qaa 1) (Qab (mC (.int 3)) Qae))) (Qad gIx (Qa3 (Qab (mC (.int 6)) (Qab (mC (.int 11)) (Qab (mC (.int 11)) (Qab (mC (.int 39)) Qae))))) (Qad QaT (Qat Qbx (Qab (Qaa 1) (Qab (mC (.int 4)) Qae))) (mC (.int 4)))))) (eS X (some (.int v)) (some (.int (h:Int))) none) O = .nx (eS X (some (.int v)) (some (.int (h:Int))) (some (.int (w:Int)))) O:=by
  rw [←hw];exact QaW (QdC rfl (Qcd (Qil (c:=v) rfl rfl (by decide) (by decide)) (Qaz (x:=.lst [.int 6,.int 11,.int 11,.int 39]) rfl (Qcd (j:=4) (Qil (c:=v) rfl rfl (by decide) (by decide)) rfl (by decide)) em2) (by omega)))
 have t:Qar (Qad gGt (Qaa 2) (mC (.int 4))) (eS X (some (.int v)) (some (.int (h:Int))) (some (.int (w:Int)))) O = .ok (decide (4 < (h:Int))) O:=QnW rfl rfl
 obtain ⟨w',w1,w2,s4⟩:∃w':Nat,2≤w'∧w'≤40∧QaM (Qar (Qad gGt (Qaa 2) (mC (.int 4)))) (Qao 3 (Qav Qj0 (Qab (Qaa 3) (Qab (mC (.int 16)) Qae)))) QaO (eS X (some (.int v)) (some (.int (h:Int))) (some (.int (w:Int)))) O = .nx (eS X (some (.int v)) (some (.int (h:Int))) (some (.int (w':Int)))) O:=by
  by_cases hc:4 < (h:Int)
  ·have g:Qav Qj0 (Qab (Qaa 3) (Qab (mC (.int 16)) Qae)) (eS X (some (.int v)) (some (.int (h:Int))) (some (.int (w:Int)))) O = .ok (.int (if (16:Int) < (w:Int) then 16 else (w:Int))) O:=QcT (xs:=[.int (w:Int),.int 16]) rfl rfl
   by_cases hm:(16:Int) < (w:Int)
   ·rw [if_pos hm] at g;refine ⟨16,by omega,by omega,?_⟩;rw [Qbz (by rw [t,zw hc])];exact QaW g
   ·rw [if_neg hm] at g;refine ⟨w,by omega,by omega,?_⟩;rw [Qbz (by rw [t,zw hc])];exact QaW g
  ·refine ⟨w,by omega,by omega,?_⟩;rw [Qbb (by rw [t,zk hc])];rfl
 refine ⟨h,w',by omega,by omega,w1,w2,?_⟩;rw [←hX];show Qa7 (QfA (eS X none none none) O)=_;unfold QfA;rw [QaA,s1,Qay,QaA,s2,Qay,QaA,s3,Qay,QaA,s4,Qay];rfl
theorem QqB {a b:L2.M D}{ρ:Qah}{O:Qac}{x y:Row} (ha:a ρ O = .ok (.lst (x.map dC)) O) (hb:b ρ O = .ok (.lst (y.map dC)) O) (hl:x.length+y.length≤10000):Qad QaK a b ρ O = .ok (.lst ((x++y).map dC)) O :=
 Qaz ha hb (by rw [QcP,QcP,Qn2,if_pos (by rw [zd,zd]; omega),zM])
theorem QlK {m:L2.M D}{ρ:Qah}{O:Qac}{r:Row} (h:m ρ O = .ok (.lst (r.map dC)) O):Qav QaV (Qab m Qae) ρ O = .ok (.int (r.length:Int)) O:=by
 have:=Qjz h
 rwa [zd] at this
theorem QnL {a b:Row} (h1:ROk a) (h2:ROk b):ROk (a++b):=fun c hc=>by
 rcases zz.mp hc with hc | hc
 ·exact h1 c hc
 ·exact h2 c hc
def Qiv:MS:=QaM (Qar (Qad gLt (Qav QaV (Qab (Qaa 2) Qae)) (Qaa 1))) (Qao 2 (Qad QaK (Qaa 2) (Qat QcR (Qab (Qaa 3) (Qab (Qad Qed (Qaa 1) (Qav QaV (Qab (Qaa 2) Qae))) Qae))))) QaO
theorem Qrl (c:Int) (w:Nat) (hw:w≤100) (O:Qac):∃r:Row,r.length=w∧ROk r∧Wf r∧QcL [.int c,.int (w:Int)] O = .ok (.lst (r.map dC)) O:=by
 obtain ⟨xs,hx,ex⟩:=QlG c w (by omega) O;obtain ⟨ρ1,O1,e1,hO1,r,a3,rfl,h1,h2,h3,h4⟩:=QbM (g:=mgN 3) (b:=Qiv)
  (fun k ρ O'=>O'=O∧∃(r:Row) (a3:Option D),ρ = [some (.int c),some (.int (w:Int)),some (.lst (r.map dC)),a3]∧r.length≤w∧(k≤r.length∨r.length=w)∧ROk r∧Wf r) (xs.map D.int) 0 [some (.int c),some (.int (w:Int)),some (.lst []),none] O
  ⟨rfl,[],none,rfl,Nat.zero_le _,.inl (zb _),(fun x hx=>nomatch hx),Qls⟩ (by
   rintro i d ρ O' hi ⟨hO',r,a3,rfl,h1,h2,h3,h4⟩;obtain ⟨n,_,rfl⟩:=zL.mp (zx hi);rw [zC] at h2;rw [hO'];have hl:=QlK (m:=Qaa 2) (ρ:=[some (.int c),some (.int (w:Int)),some (.lst (r.map dC)),some (.int n)]) (O:=O) (r:=r) rfl;have t:=Qq1 hl (b:=Qaa 1) (j:=(w:Int)) rfl
   by_cases hc:(r.length:Int) < (w:Int)
   ·obtain ⟨cs,g1,g2,g3,g4,gB,g5⟩:=Qmy n ((w:Int) - (r.length:Int)) (by omega) O
    have hb:Qiv [some (.int c),some (.int (w:Int)),some (.lst (r.map dC)),some (.int n)] O = .nx [some (.int c),some (.int (w:Int)),some (.lst ((r++cs).map dC)),some (.int n)] O:=by
     unfold Qiv;rw [Qbz (by rw [t,zw hc])];exact QaW (QqB rfl (by rw [Qbg (maS (x:=.int n) rfl (ma1 (QnM (i:=(w:Int)) rfl hl))),g5]) (by omega))
    refine ⟨_,rfl,_,_,.inl hb,rfl,r++cs,some (.int n),rfl,by rw [zg]; omega,.inl (by rw [zg]; omega),QnL h3 g4,h4.snoc gB⟩
   ·have hb:Qiv [some (.int c),some (.int (w:Int)),some (.lst (r.map dC)),some (.int n)] O = .nx [some (.int c),some (.int (w:Int)),some (.lst (r.map dC)),some (.int n)] O:=by
     unfold Qiv;rw [Qbb (by rw [t,zk hc])];rfl
    exact ⟨_,rfl,_,_,.inl hb,rfl,r,some (.int n),rfl,h1,.inr (by omega),h3,h4⟩)
 rw [hO1] at e1;rw [zd,zC,hx] at h2;refine ⟨r,by omega,h3,h4,?_⟩;show Qa7 (Qaj (Qao 2 (Qa3 Qae)) (Qaj (Qa8 (Qba (Qat Qc3 (Qab (Qaa 0) (Qab (Qaa 1) Qae)))) (mgN 3) Qiv) (QaE (Qaa 2))) [some (.int c),some (.int (w:Int)),none,none] O)=_;rw [QaA,show Qao 2 (Qa3 Qae) [some (.int c),some (.int (w:Int)),none,none] O = .nx [some (.int c),some (.int (w:Int)),some (.lst []),none] O from rfl,Qay,QaA,Qcm,Qdd (by rw [Qbg (maS (x:=.int c) rfl (ma1 (x:=.int (w:Int)) rfl)),ex]),Qb2,e1,Qay];rfl
theorem QoY {mr mi:L2.M D}{ρ:Qah}{O:Qac}{row:Row}{k:Nat}{c:C} (h0:mr ρ O = .ok (.lst (row.map dC)) O) (hi:mi ρ O = .ok (.int (k:Int)) O) (hk:row[k]? = some c):Qad gIx (Qad gIx mr mi) (mC (.int 0)) ρ O = .ok (.str c.1) O :=
 Qaz (x:=dC c) (y:=.int 0) (Qaz h0 hi (Qeb (by rw [zm,hk]; rfl))) rfl rfl
def SZ (i:Nat):L2.M D:=Qad QaK (mC (.int 1)) (Qav Qkc (Qab (Qd3 (Qad gLt (Qad QaK (Qaa i) (mC (.int 1))) (Qav QaV (Qab (Qaa 0) Qae))) (Qad gEq (Qad gIx (Qad gIx (Qaa 0) (Qad QaK (Qaa i) (mC (.int 1)))) (mC (.int 0))) (mC (.str [])))) Qae))
theorem QsB {i:Nat}{ρ:Qah}{O:Qac}{row:Row}{k:Nat} (h0:Qaa 0 ρ O = .ok (.lst (row.map dC)) O) (hi:Qaa i ρ O = .ok (.int (k:Int)) O) (hk:k < row.length) :
  ∃s:Nat,1≤s∧k+s≤row.length∧(s=1∨s=2∧∃c,row[k+1]? = some c∧c.1 = [])∧SZ i ρ O = .ok (.int (s:Int)) O:=by
 have a1:Qad QaK (Qaa i) (mC (.int 1)) ρ O = .ok (.int ((k+1:Nat):Int)) O:=by
  rw [jl];exact QdC hi rfl
 have l0:=QlK h0;have b1:Qad gLt (Qad QaK (Qaa i) (mC (.int 1))) (Qav QaV (Qab (Qaa 0) Qae)) ρ O = .ok (.bl (decide (((k+1:Nat):Int) < (row.length:Int)))) O:=Qaz a1 l0 rfl
 have fin:∀b:Bool,Qd3 (Qad gLt (Qad QaK (Qaa i) (mC (.int 1))) (Qav QaV (Qab (Qaa 0) Qae))) (Qad gEq (Qad gIx (Qad gIx (Qaa 0) (Qad QaK (Qaa i) (mC (.int 1)))) (mC (.int 0))) (mC (.str []))) ρ O = .ok (.bl b) O→SZ i ρ O = .ok (.int (1+(if b then 1 else 0))) O:=fun b h=>QdC rfl (QcT (xs:=[.bl b]) (ma1 h) (by rw [zl,zQ,QeT,Qtq]))
 by_cases hc:k+1 < row.length
 ·have hx:row[k+1]? = some row[k+1]:=zh hc;have e2:=QoY h0 a1 hx;have b2:Qad gEq (Qad gIx (Qad gIx (Qaa 0) (Qad QaK (Qaa i) (mC (.int 1)))) (mC (.int 0))) (mC (.str [])) ρ O = .ok (.bl (decide ((row[k+1]).1 = []))) O:=Qaz e2 rfl Qq6;have f:=fin (decide ((row[k+1]).1 = [])) (by rw [QhO,b1,Qam,zw (by omega),Qjb,if_pos rfl,b2])
  by_cases hz:(row[k+1]).1 = []
  ·rw [zw hz] at f;exact ⟨2,by decide,by omega,.inr ⟨rfl,_,hx,hz⟩,f⟩
  ·rw [zk hz] at f;exact ⟨1,by decide,by omega,.inl rfl,f⟩
 ·have f:=fin false (by rw [QhO,b1,Qam,zk (by omega),Qjb,if_neg zp]);exact ⟨1,by decide,by omega,.inl rfl,f⟩
theorem Qu1 {m a b:L2.M D}{ρ:Qah}{O:Qac}{row:Row}{k s:Nat} (hm:m ρ O = .ok (.lst (row.map dC)) O) (ha:a ρ O = .ok (.int (k:Int)) O) (hb:b ρ O = .ok (.int (s:Int)) O):mSl m (moS a) (moS (Qad QaK a b)) ρ O = .ok (.lst (((row.drop k).take s).map dC)) O:=by
 rw [QnV,hm,Qam,Qne,ha,Qam,QkN,Qam,Qne,QdC ha hb,Qam,QkN,Qam,QcP,Qik,show (k:Int)+(s:Int)=((k+s:Nat):Int) from rfl,Qol,Nat.add_sub_cancel_left,Qen,List.map_take,List.map_drop]
theorem Qno {row:Row}{k s:Nat} (h:ROk row):ROk ((row.drop k).take s):=fun c hc=>h c (List.mem_of_mem_drop (List.mem_of_mem_take hc))
theorem QuG {α:Type} (l:List α) (h:0 < l.length):Qc2 l none (some (-1))=l.take (l.length - 1):=by
 unfold Qc2;rw [HT.sIx_none,List.drop_zero,Nat.sub_zero];congr 1;show (if (-1:Int) < 0 then (-1+(l.length:Int)).toNat else min (-1:Int).toNat l.length)=_;rw [if_pos (by decide)];omega
theorem Qvf {xs:List Int} (h:0 < xs.length):∃v:Int,gIx (.lst (xs.map D.int)) (.int (-1))=some (.int v):=by
 have q:atI (xs.map D.int) (-1)=(xs.map D.int)[xs.length - 1]?:=by
  have z:ixN (xs.map D.int).length (-1)=some (xs.length - 1):=by
   unfold ixN;rw [zd,if_neg (by omega),if_pos (by omega)];congr 1;omega
  unfold atI;rw [z];rfl
 rw [Qgi,q,zm,zh (by omega)];exact ⟨_,rfl⟩
def Qnt (i:Nat):L2.M D:=Qad gIx (Qad gIx (Qaa 0) (Qaa i)) (mC (.int 0))
def QjK:MS:=Qaj (Qao 6 (Qav QaV (Qab (Qaa 4) Qae))) (QaM (Qar (Qad gLt (Qaa 6) (Qav QaV (Qab (Qaa 0) Qae)))) (Qaj (Qao 7 (SZ 6)) (QaM (QcX (Qar (Qad gNe (Qnt 6) (mC (.str [])))) (Qar (Qad gGt (Qad QaT (Qaa 5) (Qaa 3)) (mC (.int 0))))) (Qao 4 (Qad QaK (Qaa 4) (mSl (Qaa 0) (moS (Qaa 6)) (moS (Qad QaK (Qaa 6) (Qaa 7)))))) (Qao 4 (Qad QaK (Qaa 4) (Qat QcR (Qab (Qad QbB (Qaa 5) (Qaa 3)) (Qab (Qad Qed (Qav QaV (Qab (Qaa 0) Qae)) (Qaa 6)) Qae))))))) QaO)
def eH (row:Row) (c:Int) (X:D) (K:Int) (r:Row) (a5 a6 a7:Option D):Qah:=[some (.lst (row.map dC)),some (.int c),some X,some (.int K),some (.lst (r.map dC)),a5,a6,a7]
theorem QrW (row:Row) (hrow:row.length≤100) (hok:ROk row) (c:Int) (X:D) (K:Int) (hK:0 < K∧K < 1073741824) (r:Row) (hr:r.length≤row.length) (hrk:ROk r) (hwf:Wf r) (n:Int) (a6 a7:Option D) (O:Qac) :
  ∃(r':Row) (b6 b7:Option D),r'.length≤row.length∧(r.length+1≤r'.length∨r'.length=row.length)∧ROk r'∧Wf r'∧QjK (eH row c X K r (some (.int n)) a6 a7) O = .nx (eH row c X K r' (some (.int n)) b6 b7) O:=by
 have s6:Qao 6 (Qav QaV (Qab (Qaa 4) Qae)) (eH row c X K r (some (.int n)) a6 a7) O = .nx (eH row c X K r (some (.int n)) (some (.int (r.length:Int))) a7) O:=QaW (QlK (r:=r) rfl)
 have l0:∀b7,Qav QaV (Qab (Qaa 0) Qae) (eH row c X K r (some (.int n)) (some (.int (r.length:Int))) b7) O = .ok (.int (row.length:Int)) O:=fun b7=>QlK (r:=row) rfl
 have t:Qar (Qad gLt (Qaa 6) (Qav QaV (Qab (Qaa 0) Qae))) (eH row c X K r (some (.int n)) (some (.int (r.length:Int))) a7) O = .ok (decide ((r.length:Int) < (row.length:Int))) O:=Qq1 rfl (l0 a7)
 by_cases hc:r.length < row.length
 ·obtain ⟨s,s1,s2,s3,s4⟩:=QsB (i:=6) (ρ:=eH row c X K r (some (.int n)) (some (.int (r.length:Int))) a7) (O:=O) (row:=row) (k:=r.length) rfl rfl hc;have s7:Qao 7 (SZ 6) (eH row c X K r (some (.int n)) (some (.int (r.length:Int))) a7) O = .nx (eH row c X K r (some (.int n)) (some (.int (r.length:Int))) (some (.int (s:Int)))) O:=QaW s4;obtain ⟨cc,hcc⟩:∃cc,row[r.length]? = some cc:=⟨_,zh hc⟩;have t1:Qar (Qad gNe (Qnt 6) (mC (.str []))) (eH row c X K r (some (.int n)) (some (.int (r.length:Int))) (some (.int (s:Int)))) O = .ok (!decide (cc.1 = [])) O:=Qcv (Qaz (QoY (row:=row) (k:=r.length) (c:=cc) rfl rfl hcc) rfl Qro)
  have t2:Qar (Qad gGt (Qad QaT (Qaa 5) (Qaa 3)) (mC (.int 0))) (eH row c X K r (some (.int n)) (some (.int (r.length:Int))) (some (.int (s:Int)))) O = .ok (decide (0 < n % K)) O:=QnW (Qcd (i:=n) (j:=K) rfl rfl hK.1) rfl;have tt:=Qnj t1 t2
  have pre:QjK (eH row c X K r (some (.int n)) a6 a7) O=QaM (QcX (Qar (Qad gNe (Qnt 6) (mC (.str [])))) (Qar (Qad gGt (Qad QaT (Qaa 5) (Qaa 3)) (mC (.int 0))))) (Qao 4 (Qad QaK (Qaa 4) (mSl (Qaa 0) (moS (Qaa 6)) (moS (Qad QaK (Qaa 6) (Qaa 7)))))) (Qao 4 (Qad QaK (Qaa 4) (Qat QcR (Qab (Qad QbB (Qaa 5) (Qaa 3)) (Qab (Qad Qed (Qav QaV (Qab (Qaa 0) Qae)) (Qaa 6)) Qae))))) (eH row c X K r (some (.int n)) (some (.int (r.length:Int))) (some (.int (s:Int)))) O:=by
   unfold QjK;rw [QaA,s6,Qay,Qbz (by rw [t,zw (by omega)]),QaA,s7,Qay]
  cases hb:(!decide (cc.1 = [])&&decide (0 < n % K)) with
  | true =>
   rw [hb] at tt
   have hl:((row.drop r.length).take s).length=s:=by rw [List.length_take,List.length_drop]; omega
   have hcn:cc.1≠[]:=fun z=>by
    rw [zw z] at hb;cases hb
   have hd1:row.drop r.length=cc::row.drop (r.length+1):=by
    rw [List.drop_eq_getElem_cons hc];rw [zh hc] at hcc;cases hcc;rfl
   have hbl:Bl ((row.drop r.length).take s):=by
    rcases s3 with rfl | ⟨rfl,c2,q1,q2⟩
    ·exact .inl ⟨cc,by rw [hd1]; rfl,hcn⟩
    ·have hk2:=(ze.mp q1).1;refine .inr ⟨cc,c2,?_,hcn,q2⟩;rw [hd1,List.drop_eq_getElem_cons hk2];rw [zh hk2] at q1;cases q1;rfl
   refine ⟨r++(row.drop r.length).take s,some (.int (r.length:Int)),some (.int (s:Int)),by rw [zg,hl]; omega,.inl (by rw [zg,hl]; omega),QnL hrk (Qno hok),hwf.snoc hbl,pre.trans ?_⟩;rw [Qbz tt];exact QaW (QqB (x:=r) rfl (Qu1 (row:=row) (k:=r.length) (s:=s) rfl rfl rfl) (by rw [hl]; omega))
  | false =>
   rw [hb] at tt;obtain ⟨cs,g1,g2,g3,g4,gB,g5⟩:=Qmy (n / K) ((row.length:Int) - (r.length:Int)) (by omega) O;refine ⟨r++cs,some (.int (r.length:Int)),some (.int (s:Int)),by rw [zg]; omega,.inl (by rw [zg]; omega),QnL hrk g4,hwf.snoc gB,pre.trans ?_⟩;rw [Qbb tt];exact QaW (QqB (x:=r) rfl (by rw [Qbg (maS (Qin (i:=n) (j:=K) rfl rfl hK) (ma1 (QnM (j:=(r.length:Int)) (l0 _) rfl))),g5]) (by omega))
 ·refine ⟨r,some (.int (r.length:Int)),a7,hr,.inr (by omega),hrk,hwf,?_⟩;unfold QjK;rw [QaA,s6,Qay,Qbb (by rw [t,zk (by omega)])];rfl
theorem QnX (row:Row) (hrow:row.length≤100) (hok:ROk row) (c:Int) (O:Qac):∃r:Row,r.length=row.length∧ROk r∧Wf r∧Qdo [.lst (row.map dC),.int c] O = .ok (.lst (r.map dC)) O:=by
 obtain ⟨xs,hx,ex⟩:=QlG c (row.length+1) (by omega) O;obtain ⟨v,ev⟩:=Qvf (xs:=xs) (by omega);obtain ⟨K,k1,k2,ek⟩:=ints4 (a:=2) (b:=4) (c:=9) (d:=30) v 2 30 (by decide);obtain ⟨X,hX⟩:∃X,X=D.lst (xs.map D.int):=⟨_,rfl⟩
 have s2:Qao 2 (Qat Qc3 (Qab (Qaa 1) (Qab (Qad QaK (Qav QaV (Qab (Qaa 0) Qae)) (mC (.int 1))) Qae))) [some (.lst (row.map dC)),some (.int c),none,none,none,none,none,none] O = .nx [some (.lst (row.map dC)),some (.int c),some X,none,none,none,none,none] O:=by
  rw [hX];exact QaW (by rw [Qbg (maS (x:=.int c) rfl (ma1 (x:=.int ((row.length+1:Nat):Int)) (by rw [jl]; exact QdC (QlK (r:=row) rfl) rfl))),ex])
 have s3:Qao 3 (Qad gIx (Qa3 (Qab (mC (.int 2)) (Qab (mC (.int 4)) (Qab (mC (.int 9)) (Qab (mC (.int 30)) Qae))))) (Qad QaT (Qad gIx (Qaa 2) (mUn Qey (mC (.int 1)))) (mC (.int 4)))) [some (.lst (row.map dC)),some (.int c),some X,none,none,none,none,none] O = .nx [some (.lst (row.map dC)),some (.int c),some X,some (.int K),none,none,none,none] O :=
  QaW (Qaz (x:=.lst [.int 2,.int 4,.int 9,.int 30]) rfl (Qcd (i:=v) (j:=4) (Qaz (x:=X) (y:=.int (-1)) rfl rfl (by rw [hX]; exact ev)) rfl (by decide)) ek)
 have s4:Qao 4 (Qa3 Qae) [some (.lst (row.map dC)),some (.int c),some X,some (.int K),none,none,none,none] O = .nx (eH row c X K [] none none none) O:=rfl
 have it:Qba (mSl (Qaa 2) moN (moS (mUn Qey (mC (.int 1))))) (eH row c X K [] none none none) O = .ok ((xs.take row.length).map D.int) O:=by
  refine Qdd ?_;rw [QnV];show ofO (gSl (QaI O X) none (some (-1))) O=_;rw [hX,QcP,Qik,QuG _ (by rw [zd]; omega),Qen,zd,hx,Nat.add_sub_cancel,List.map_take]
 obtain ⟨ρ1,O1,e1,hO1,r,a5,a6,a7,rfl,h1,h2,h3,h4⟩:=QbM (g:=mgN 5) (b:=QjK)
  (fun k ρ O'=>O'=O∧∃(r:Row) (a5 a6 a7:Option D),ρ=eH row c X K r a5 a6 a7∧r.length≤row.length∧(k≤r.length∨r.length=row.length)∧ROk r∧Wf r) ((xs.take row.length).map D.int) 0 (eH row c X K [] none none none) O
  ⟨rfl,[],none,none,none,rfl,Nat.zero_le _,.inl (zb _),(fun x hx=>nomatch hx),Qls⟩ (by
   rintro i d ρ O' hi ⟨hO',r,a5,a6,a7,rfl,h1,h2,h3,h4⟩;obtain ⟨n,_,rfl⟩:=zL.mp (zx hi);rw [zC] at h2;rw [hO'];obtain ⟨r',b6,b7,g1,g2,g3,gw,g4⟩:=QrW row hrow hok c X K ⟨by omega,by omega⟩ r h1 h3 h4 n a6 a7 O
   exact ⟨_,rfl,_,_,.inl g4,rfl,r',some (.int n),b6,b7,rfl,g1,by omega,g3,gw⟩)
 rw [hO1] at e1;rw [zd,zC,List.length_take] at h2;refine ⟨r,by omega,h3,h4,?_⟩;show Qa7 (Qaj _ (Qaj _ (Qaj (Qao 4 (Qa3 Qae)) (Qaj (Qa8 (Qba (mSl (Qaa 2) moN (moS (mUn Qey (mC (.int 1)))))) (mgN 5) QjK) (QaE (Qaa 4))))) [some (.lst (row.map dC)),some (.int c),none,none,none,none,none,none] O)=_;rw [QaA,s2,Qay,QaA,s3,Qay,QaA,s4,Qay,QaA,Qcm,it,Qb2,e1,Qay];rfl
def dRw (r:Row):D:=.lst (r.map dC)
def dP (P:List Row):D:=.lst (P.map dRw)
structure Pic (P:List Row) (h w:Nat):Prop where
 len:P.length=h
 wd:∀r∈P,r.length=w
 ok:∀r∈P,ROk r
 wf:∀r∈P,Wf r
def BLK (i:Nat):L2.M D:=Qad QbT (Qa3 (Qab (QaZ (Qab (mC (.str [32])) (Qab (mC (.str [46])) (Qab (mC (.str [46])) Qae)))) Qae)) (Qaa i)
theorem Qoc {i w:Nat}{ρ:Qah}{O:Qac} (h:Qaa i ρ O = .ok (.int (w:Int)) O) (hw:w≤1000):BLK i ρ O = .ok (dRw (List.replicate w bl)) O:=by
 unfold BLK dRw;rw [List.map_replicate];exact Qaz (Qnk (Qic rfl rfl rfl)) h (Qqg (dC bl) w hw)
theorem QoZ (w:Nat):ROk (List.replicate w bl):=fun c hc=>by rw [(List.mem_replicate.mp hc).2]; exact Qrd
theorem Qlu:∀w:Nat,Wf (List.replicate w bl)
 | 0=>Qls
 | w+1=>by
  rw [List.replicate_succ'];exact (Qlu w).snoc (.inl ⟨_,rfl,fun z=>nomatch z⟩)
def Qk7:MS:=Qaj (Qao 6 (Qat Qbh (Qab (Qaa 0) (Qab (Qad QaK (mC (.int 13)) (Qaa 5)) Qae))))
  (Qaj (Qao 7 (Qad QaT (Qat Qbx (Qab (Qaa 6) (Qab (mC (.int 0)) Qae))) (mC (.int 6))))
  (QaM (Qar (Qad gEq (Qaa 7) (mC (.int 0)))) (Qbt 4 (Qav Qcr (Qab (Qad gIx (Qaa 3) (Qaa 5)) Qae))) (QaM (Qar (Qad gEq (Qaa 7) (mC (.int 1)))) (Qbt 4 (Qat QcL (Qab (Qaa 6) (Qab (Qaa 2) Qae)))) (QaM (Qar (Qad gEq (Qaa 7) (mC (.int 2)))) (Qbt 4 (BLK 2)) (Qbt 4 (Qat Qdo (Qab (Qad gIx (Qaa 3) (Qaa 5)) (Qab (Qaa 6) Qae))))))))
def eP (X:D) (h w:Nat) (d3 d4 a5 a6 a7:Option D):Qah:=[some X,some (.int (h:Int)),some (.int (w:Int)),d3,d4,a5,a6,a7]
theorem QsE (xs:List Int) (h w:Nat) (hh:h≤12) (hw:w≤40) {P:List Row} (hP:Pic P h w) (Q:List Row) (k:Nat) (hk:k < h) (hQ:Q.length≤100) (a6 a7:Option D) (O:Qac) :
  ∃(r:Row) (b6 b7:Option D),r.length=w∧ROk r∧Wf r∧Qk7 (eP (.lst (xs.map D.int)) h w (some (dP P)) (some (dP Q)) (some (.int (k:Int))) a6 a7) O = .nx (eP (.lst (xs.map D.int)) h w (some (dP P)) (some (dP (Q ++ [r]))) (some (.int (k:Int))) b6 b7) O:=by
 obtain ⟨X,hX⟩:∃X,X=D.lst (xs.map D.int):=⟨_,rfl⟩;rw [←hX];obtain ⟨v,ev⟩:=Qir xs (a:=Qaa 0) (b:=Qad QaK (mC (.int 13)) (Qaa 5)) (ρ:=eP X h w (some (dP P)) (some (dP Q)) (some (.int (k:Int))) a6 a7) (O:=O) (k:=13+(k:Int)) (by rw [hX]; rfl) (QdC rfl rfl) (by omega) (by omega);have s6:Qao 6 (Qat Qbh (Qab (Qaa 0) (Qab (Qad QaK (mC (.int 13)) (Qaa 5)) Qae))) (eP X h w (some (dP P)) (some (dP Q)) (some (.int (k:Int))) a6 a7) O = .nx (eP X h w (some (dP P)) (some (dP Q)) (some (.int (k:Int))) (some (.int v)) a7) O:=QaW ev;have s7:Qao 7 (Qad QaT (Qat Qbx (Qab (Qaa 6) (Qab (mC (.int 0)) Qae))) (mC (.int 6))) (eP X h w (some (dP P)) (some (dP Q)) (some (.int (k:Int))) (some (.int v)) a7) O = .nx (eP X h w (some (dP P)) (some (dP Q)) (some (.int (k:Int))) (some (.int v)) (some (.int (mix v 0 % 6)))) O:=QaW (Qcd (Qil rfl rfl (by decide) (by decide)) rfl (by decide))
 generalize mix v 0 % 6=way at s7
 obtain ⟨ρ,hρ⟩:∃ρ,ρ=eP X h w (some (dP P)) (some (dP Q)) (some (.int (k:Int))) (some (.int v)) (some (.int way)):=⟨_,rfl⟩
 have hkP:k < P.length:=by rw [hP.len]; exact hk
 have hp:P[k]? = some P[k]:=zh hkP;have hr1:=hP.wd _ (jf hkP);have hr2:=hP.ok _ (jf hkP);have hr3:=hP.wf _ (jf hkP)
 generalize P[k]=row at hp hr1 hr2 hr3
 have ix:Qad gIx (Qaa 3) (Qaa 5) ρ O = .ok (dRw row) O:=by
  rw [hρ];exact Qaz (x:=dP P) (y:=.int (k:Int)) rfl rfl (Qeb (by rw [zm,hp]; rfl))
 have q1:∀j:Int,Qar (Qad gEq (Qaa 7) (mC (.int j))) ρ O = .ok (decide (way=j)) O:=fun j=>by rw [hρ]; exact QjB rfl rfl
 have fin:∀(m:L2.M D) (r:Row),m ρ O = .ok (dRw r) O→Qbt 4 m ρ O = .nx (eP X h w (some (dP P)) (some (dP (Q ++ [r]))) (some (.int (k:Int))) (some (.int v)) (some (.int way))) O:=fun m r hm=>by
  have:=QgB (i:=4) (ds:=Q.map dRw) hm (by rw [hρ]; rfl) (by rw [zd]; omega)
  rw [this,hρ];unfold dP;rw [zM];rfl
 have pre:Qk7 (eP X h w (some (dP P)) (some (dP Q)) (some (.int (k:Int))) a6 a7) O=(QaM (Qar (Qad gEq (Qaa 7) (mC (.int 0)))) (Qbt 4 (Qav Qcr (Qab (Qad gIx (Qaa 3) (Qaa 5)) Qae))) (QaM (Qar (Qad gEq (Qaa 7) (mC (.int 1)))) (Qbt 4 (Qat QcL (Qab (Qaa 6) (Qab (Qaa 2) Qae)))) (QaM (Qar (Qad gEq (Qaa 7) (mC (.int 2)))) (Qbt 4 (BLK 2)) (Qbt 4 (Qat Qdo (Qab (Qad gIx (Qaa 3) (Qaa 5)) (Qab (Qaa 6) Qae))))))) ρ O:=by
  unfold Qk7;rw [QaA,s6,Qay,QaA,s7,Qay,hρ]
 by_cases z0:way=0
 ·exact ⟨row,some (.int v),some (.int way),hr1,hr2,hr3,pre.trans (by rw [Qbz (by rw [q1,zw z0])]; exact fin _ _ (Qie ix rfl))⟩
 ·by_cases z1:way=1
  ·obtain ⟨r,g1,g2,g4,g3⟩:=Qrl v w (by omega) O;refine ⟨r,some (.int v),some (.int way),g1,g2,g4,pre.trans ?_⟩;rw [Qbb (by rw [q1,zk z0]),Qbz (by rw [q1,zw z1])];exact fin _ _ (by rw [hρ,Qbg (maS (x:=.int v) rfl (ma1 (x:=.int (w:Int)) rfl)),g3]; rfl)
  ·by_cases z2:way=2
   ·refine ⟨List.replicate w bl,some (.int v),some (.int way),List.length_replicate,QoZ w,Qlu w,pre.trans ?_⟩;rw [Qbb (by rw [q1,zk z0]),Qbb (by rw [q1,zk z1]),Qbz (by rw [q1,zw z2])];exact fin _ _ (Qoc (by rw [hρ]; rfl) (by omega))
   ·obtain ⟨r,g1,g2,g4,g3⟩:=QnX row (by omega) hr2 v O;refine ⟨r,some (.int v),some (.int way),by omega,g2,g4,pre.trans ?_⟩;rw [Qbb (by rw [q1,zk z0]),Qbb (by rw [q1,zk z1]),Qbb (by rw [q1,zk z2])];exact fin _ _ (by rw [Qbg (maS ix (ma1 (x:=.int v) (by rw [hρ]; rfl)))]; exact g3)
theorem Qna (xs:List Int) (O:Qac):∃(h w:Nat) (P Q:List Row),1≤h∧h≤12∧2≤w∧w≤40∧Pic P h w∧Pic Q h w∧QdX [.lst (xs.map D.int)] O = .ok (.tup [dP P,dP Q]) O:=by
 obtain ⟨h,w,h1,h12,w2,w40,es⟩:=Quk xs O;obtain ⟨X,hX⟩:∃X,X=D.lst (xs.map D.int):=⟨_,rfl⟩;rw [←hX] at es ⊢
 have sA:Qg6 (Qat Qfu (Qab (Qaa 0) Qae)) (Qb9 2 (QaB (mgN 1) (QaB (mgN 2) Qbr))) [some X,none,none,none,none,none,none,none] O = .nx (eP X h w none none none none none) O:=by
  rw [Qpi,Qbg (ma1 (x:=X) rfl),es,Qo9 Quq];rfl
 obtain ⟨P,pl,pq,ep⟩:=Qlc (g:=mgN 0) (t:=Qcj) (m:=Qat QcL (Qab (Qat Qbh (Qab (Qaa 1) (Qab (Qad QaK (mC (.int 1)) (Qaa 0)) Qae))) (Qab (Qaa 2) Qae))) (fun ρ=>∃a,ρ = [a,some X,some (.int (w:Int))]) (fun i:Nat=>D.int (i:Int)) dRw (fun r=>r.length=w∧ROk r∧Wf r) (List.range h) [none,some X,some (.int (w:Int))] O [] ⟨_,rfl⟩ (by
  rintro k hk ρ ⟨a,rfl⟩;have hk':=List.mem_range.mp hk;refine ⟨_,rfl,⟨_,rfl⟩,rfl,?_⟩;obtain ⟨u,eu⟩:=Qir xs (a:=Qaa 1) (b:=Qad QaK (mC (.int 1)) (Qaa 0)) (ρ:=[some (.int (k:Int)),some X,some (.int (w:Int))]) (O:=O) (k:=1+(k:Int)) (by rw [hX]; rfl) (QdC rfl rfl) (by omega) (by omega);obtain ⟨r,g1,g2,g4,g3⟩:=Qrl u w (by omega) O;refine ⟨r,⟨g1,g2,g4⟩,?_⟩;show Qat QcL _ [some (.int (k:Int)),some X,some (.int (w:Int))] O=_;rw [Qbg (maS eu (ma1 (x:=.int (w:Int)) rfl)),g3]
  rfl)
 rw [zJ] at ep;rw [List.length_range] at pl;have hP:Pic P h w:=⟨pl,fun r hr=>(pq r hr).1,fun r hr=>(pq r hr).2.1,fun r hr=>(pq r hr).2.2⟩;have hrg:=QfK (m:=Qaa 1) (ρ:=eP X h w none none none none none) (O:=O) (n:=h) rfl (by omega);rw [Qui] at hrg;have s3:Qao 3 (Qbw (Qch (Qab (Qaa 1) Qae)) 1 [0,2] (mgN 0) Qcj (Qat QcL (Qab (Qat Qbh (Qab (Qaa 1) (Qab (Qad QaK (mC (.int 1)) (Qaa 0)) Qae))) (Qab (Qaa 2) Qae)))) (eP X h w none none none none none) O = .nx (eP X h w (some (dP P)) none none none none) O :=
  QaW (Qdt (own:=1) (cap:=[0,2]) hrg (by rw [zd,List.length_range]; omega) (ρ0:=[none,some X,some (.int (w:Int))]) rfl ep)
 have s4:Qao 4 (Qa3 Qae) (eP X h w (some (dP P)) none none none none) O = .nx (eP X h w (some (dP P)) (some (dP [])) none none none) O:=rfl;obtain ⟨ρ1,O1,e1,hO1,Q,a5,a6,a7,rfl,g1,g2⟩:=QbM (g:=mgN 5) (b:=Qk7)
  (fun k ρ O'=>O'=O∧∃(Q:List Row) (a5 a6 a7:Option D),ρ=eP X h w (some (dP P)) (some (dP Q)) a5 a6 a7∧Q.length=k∧(∀r∈Q,r.length=w∧ROk r∧Wf r)) (QbX 0 h) 0 (eP X h w (some (dP P)) (some (dP [])) none none none) O
  ⟨rfl,[],none,none,none,rfl,rfl,fun x hx=>nomatch hx⟩ (by
   rintro i d ρ O' hi ⟨hO',Q,a5,a6,a7,rfl,g1,g2⟩;obtain ⟨hi5,rfl⟩:=Qj4 hi;rw [hO'];obtain ⟨r,b6,b7,z1,z2,z4,z3⟩:=QsE xs h w h12 w40 hP Q i hi5 (by omega) a6 a7 O;rw [←hX] at z3;refine ⟨_,rfl,_,_,.inl z3,rfl,Q ++ [r],some (.int (i:Int)),b6,b7,rfl,by rw [zg,g1]; rfl,fun x hx=>?_⟩
   rcases zz.mp hx with hx | hx
   ·exact g2 x hx
   ·rw [zo.mp hx]
    exact ⟨z1,z2,z4⟩)
 rw [hO1] at e1;rw [QdY,zC] at g1;have hQ:Pic Q h w:=⟨g1,fun r hr=>(g2 r hr).1,fun r hr=>(g2 r hr).2.1,fun r hr=>(g2 r hr).2.2⟩;obtain ⟨v,ev⟩:=Qir xs (a:=Qaa 0) (b:=mC (.int 0)) (ρ:=eP X h w (some (dP P)) (some (dP Q)) a5 a6 a7) (O:=O) (k:=0) (by rw [hX]; rfl) rfl (by decide) (by decide);have t:Qar (Qad gEq (Qad QaT (Qat Qbx (Qab (Qat Qbh (Qab (Qaa 0) (Qab (mC (.int 0)) Qae))) (Qab (mC (.int 5)) Qae))) (mC (.int 5))) (mC (.int 1))) (eP X h w (some (dP P)) (some (dP Q)) a5 a6 a7) O = .ok (decide (mix v 5 % 5=1)) O:=QjB (Qcd (Qil ev rfl (by decide) (by decide)) rfl (by decide)) rfl
 obtain ⟨P',hP',s5⟩:∃P':List Row,Pic P' h w∧QaM (Qar (Qad gEq (Qad QaT (Qat Qbx (Qab (Qat Qbh (Qab (Qaa 0) (Qab (mC (.int 0)) Qae))) (Qab (mC (.int 5)) Qae))) (mC (.int 5))) (mC (.int 1)))) (Qao 3 (Qbw (Qba (Qaa 3)) 1 [2] (mgN 0) Qcj (BLK 1))) QaO (eP X h w (some (dP P)) (some (dP Q)) a5 a6 a7) O = .nx (eP X h w (some (dP P')) (some (dP Q)) a5 a6 a7) O:=by
  by_cases hc:mix v 5 % 5=1
  ·have ec:=Qfs (g:=mgN 0) (t:=Qcj) (m:=BLK 1) (fun ρ=>∃a,ρ = [a,some (.int (w:Int))]) dRw (fun _=>dRw (List.replicate w bl)) P [none,some (.int (w:Int))] O [] ⟨_,rfl⟩ (by
    rintro r hr ρ ⟨a,rfl⟩
    exact ⟨_,rfl,⟨_,rfl⟩,rfl,Qoc rfl (by omega)⟩)
   rw [zJ] at ec;refine ⟨List.replicate h (List.replicate w bl),⟨List.length_replicate,fun r hr=>by rw [(List.mem_replicate.mp hr).2,List.length_replicate],fun r hr=>by rw [(List.mem_replicate.mp hr).2]; exact QoZ w,fun r hr=>by rw [(List.mem_replicate.mp hr).2]; exact Qlu w⟩,?_⟩;rw [Qbz (by rw [t,zw hc])]
   have:=QaW (i:=3) (Qdt (own:=1) (cap:=[2]) (Qdd (m:=Qaa 3) (ρ:=eP X h w (some (dP P)) (some (dP Q)) a5 a6 a7) (O:=O) (l:=P.map dRw) rfl) (by rw [zd,pl]; omega) (ρ0:=[none,some (.int (w:Int))]) rfl ec)
   rw [this,List.map_const',pl];unfold dP;rw [List.map_replicate];rfl
  ·refine ⟨P,hP,?_⟩;rw [Qbb (by rw [t,zk hc])];rfl
 refine ⟨h,w,P',Q,h1,h12,w2,w40,hP',hQ,?_⟩;show Qa7 (Qaj _ (Qaj _ (Qaj (Qao 4 (Qa3 Qae)) (Qaj (Qa8 (Qch (Qab (Qaa 1) Qae)) (mgN 5) Qk7) (Qaj (QaM _ (Qao 3 (Qbw (Qba (Qaa 3)) 1 [2] (mgN 0) Qcj (BLK 1))) QaO) (QiR (QaE (QaZ (Qab (Qaa 3) (Qab (Qaa 4) Qae)))))))))  [some X,none,none,none,none,none,none,none] O)=_;rw [QaA,sA,Qay,QaA,s3,Qay,QaA,s4,Qay,QaA,Qcm,QfK (m:=Qaa 1) (n:=h) rfl (by omega),Qb2,e1,Qay,QaA,s5,Qay];rfl
def bg:Nat→Row→List Nat
 | _,[]=>[]
 | k,c::r=>if c.1 = [] then bg (k+1) r else k::bg (k+1) r
theorem Qn7:∀(k:Nat) (a b:Row),bg k (a++b)=bg k a++bg (k+a.length) b
 | k,[],b=>rfl
 | k,c::a,b=>by
  show (if c.1 = [] then bg (k+1) (a++b) else k::bg (k+1) (a++b))=(if c.1 = [] then bg (k+1) a else k::bg (k+1) a)++_;rw [Qn7 (k+1) a b,zA,show k+1+a.length=k+(a.length+1) by omega]
  by_cases h:c.1 = []
  ·rw [if_pos h,if_pos h]
  ·rw [if_neg h,if_neg h];rfl
theorem QoO (k:Nat) (c:C):bg k [c]=if c.1 = [] then [] else [k]:=rfl
def sps:Nat→List Row→List (Nat×Nat)
 | _,[]=>[]
 | k,b::bs=>(k,b.length)::sps (k+b.length) bs
theorem QuW {b:Row} (h:Bl b) (k:Nat):bg k b = [k]:=by
 rcases h with ⟨c,rfl,h1⟩ | ⟨c,d,rfl,h1,h2⟩
 ·rw [QoO,if_neg h1]
 ·show (if c.1 = [] then bg (k+1) [d] else k::bg (k+1) [d])=_;rw [if_neg h1,QoO,if_pos h2]
theorem QoH:∀(k:Nat) (bs:List Row),(∀b∈bs,Bl b)→bg k bs.flatten=(sps k bs).map (·.1)
 | k,[],_=>rfl
 | k,b::bs,h=>by
  rw [List.flatten_cons,Qn7,QuW (h b zq),QoH (k+b.length) bs fun x hx=>h x (zu _ hx)];rfl
def g01:MG:=Qb9 2 (QaB (mgN 0) (QaB (mgN 1) Qbr))
def t01:L2.M Bool:=Qar (Qad gNe (Qad gIx (Qaa 1) (mC (.int 0))) (mC (.str [])))
theorem Qpr (k:Nat) (c:C) (O:Qac):t01 [some (.int (k:Int)),some (dC c)] O = .ok (!decide (c.1 = [])) O:=Qcv (Qaz (Qaz (x:=dC c) (y:=.int 0) rfl rfl rfl) rfl Qro)
theorem QjZ (O:Qac):∀(r:Row) (k:Nat) (a0 a1:Option D) (acc:List D),Qbl g01 t01 (Qaa 0) (QcG k (r.map dC)) [a0,a1] O acc = .ok (acc++(bg k r).map fun c:Nat=>D.int (c:Int)) O
 | [],k,a0,a1,acc=>by
  show Res.ok acc O=_;rw [show bg k [] = [] from rfl,zQ,zO]
 | c::r,k,a0,a1,acc=>by
  show Qbl g01 t01 (Qaa 0) (.tup [.int k,dC c]::QcG (k+1) (r.map dC)) [a0,a1] O acc=_;unfold Qbl;rw [show g01 (.tup [.int k,dC c]) [a0,a1]=some [some (.int (k:Int)),some (dC c)] from rfl];dsimp only;rw [Qpr];show _=Res.ok (acc++(if c.1 = [] then bg (k+1) r else k::bg (k+1) r).map fun c:Nat=>D.int (c:Int)) O
  by_cases h:c.1 = []
  ·rw [zw h,if_pos h];exact QjZ O r (k+1) _ _ acc
  ·rw [zk h,if_neg h];show (match Qaa 0 [some (.int (k:Int)),some (dC c)] O with | .ok y O2=>Qbl g01 t01 (Qaa 0) (QcG (k+1) (r.map dC)) [some (.int (k:Int)),some (dC c)] O2 (acc ++ [y]) | .ex x O'=>.ex x O' | .no=>.no)=_;rw [show Qaa 0 [some (.int (k:Int)),some (dC c)] O = .ok (.int (k:Int)) O from rfl];dsimp only;refine (QjZ O r (k+1) _ _ (acc ++ [D.int (k:Int)])).trans ?_;rw [zP];rfl
theorem QlU (O:Qac) (n:Nat) (row:Row) (hn:O[n]? = some (.ml (row.map dC))):∀(pre r:Row),row=pre++r→∀(a0 a1:Option D) (acc:List D),QdE n (row.map dC) g01 t01 (Qaa 0) (r.map dC) [a0,a1] O acc = .ok (acc++(bg pre.length r).map fun c:Nat=>D.int (c:Int)) O
 | pre,[],hr,a0,a1,acc=>by
  rw [zQ];unfold QdE;rw [hn];dsimp only;rw [if_pos rfl,show bg pre.length [] = [] from rfl,zQ,zO]
 | pre,c::r,hr,a0,a1,acc=>by
  have hidx:(row.map dC).length - ((r.map dC).length+1)=pre.length:=by rw [zd,zd,hr,zg,zA]; omega
  have hat:(row.map dC)[pre.length]? = some (dC c):=by rw [zm,hr,zE (zb _),Nat.sub_self]; rfl
  have ih:=QlU O n row hn (pre ++ [c]) r (by rw [hr,zP]; rfl);rw [zg,zX] at ih;rw [zl];unfold QdE;rw [hn];dsimp only;rw [hidx,hat];dsimp only;rw [show g01 (.tup [.int (pre.length:Int),dC c]) [a0,a1]=some [some (.int (pre.length:Int)),some (dC c)] from rfl];dsimp only;rw [Qpr];show _=Res.ok (acc++(if c.1 = [] then bg (pre.length+1) r else pre.length::bg (pre.length+1) r).map fun c:Nat=>D.int (c:Int)) O
  by_cases h:c.1 = []
  ·rw [zw h,if_pos h];exact ih _ _ acc
  ·rw [zk h,if_neg h];show (match Qaa 0 [some (.int (pre.length:Int)),some (dC c)] O with | .ok y O2=>QdE n (row.map dC) g01 t01 (Qaa 0) (r.map dC) [some (.int (pre.length:Int)),some (dC c)] O2 (acc ++ [y]) | .ex x O'=>.ex x O' | .no=>.no)=_;rw [show Qaa 0 [some (.int (pre.length:Int)),some (dC c)] O = .ok (.int (pre.length:Int)) O from rfl];dsimp only;refine (ih _ _ (acc ++ [D.int (pre.length:Int)])).trans ?_;rw [zP];rfl
def dZ (p:Nat×Nat):D:=.tup [.int (p.1:Int),.int ((p.1+p.2:Nat):Int)]
theorem QmP:∀(k:Nat) (bs:List Row),Qcp ((sps k bs).map fun p=>D.int (p.1:Int)) (((sps k bs).map fun p=>D.int (p.1:Int)).drop 1 ++ [.int ((k+bs.flatten.length:Nat):Int)])=(sps k bs).map dZ
 | k,[]=>rfl
 | k,[b]=>by
  show [D.tup [.int (k:Int),.int ((k + [b].flatten.length:Nat):Int)]] = [dZ (k,b.length)];rw [List.flatten_singleton];rfl
 | k,b::b2::bs=>by
  have ih:=QmP (k+b.length) (b2::bs)
  have hl:k+(b::b2::bs).flatten.length=k+b.length+(b2::bs).flatten.length:=by rw [List.flatten_cons,zg]; omega
  rw [hl];show D.tup [.int (k:Int),.int ((k+b.length:Nat):Int)]::Qcp ((sps (k+b.length) (b2::bs)).map fun p=>D.int (p.1:Int)) (((sps (k+b.length) (b2::bs)).map fun p=>D.int (p.1:Int)).drop 1 ++ [.int ((k+b.length+(b2::bs).flatten.length:Nat):Int)])=_;rw [ih];rfl
theorem Qts (bs:List Row) (hbs:∀b∈bs,Bl b) (hrow:bs.flatten.length≤100) (O:Qac) (d:D) (hd:d = .lst (bs.flatten.map dC)∨∃n,d = .ob n∧O[n]? = some (.ml (bs.flatten.map dC))):QbY [d] O = .ok (.lst ((sps 0 bs).map dZ)) O:=by
 have dd:QaI O d = .lst (bs.flatten.map dC):=by
  rcases hd with rfl | ⟨n,rfl,hn⟩
  ·rfl
  ·exact QeD hn
 have hL:(bg 0 bs.flatten).map (fun c:Nat=>D.int (c:Int))=(sps 0 bs).map fun p=>D.int (p.1:Int):=by
  rw [QoH 0 bs hbs,zU];rfl
 have cE:Qe8 (Qaa 0) 2 [] g01 t01 (Qaa 0) [some d,none] O = .ok (.lst ((sps 0 bs).map fun p=>D.int (p.1:Int))) O:=by
  rw [←hL]
  rcases hd with rfl | ⟨n,rfl,hn⟩
  ·show Qbw (QgF (Qaa 0)) 2 [] g01 t01 (Qaa 0) [some (.lst (bs.flatten.map dC)),none] O=_;have q:=Qdt (m:=QgF (Qaa 0)) (own:=2) (cap:=[]) (ρ:=[some (.lst (bs.flatten.map dC)),none]) (O:=O) (ds:=QcG 0 (bs.flatten.map dC)) rfl (by rw [Qev,zd]; omega) (ρ0:=[none,none]) rfl (QjZ O bs.flatten 0 none none []);rw [q,zJ]
  ·unfold Qe8;rw [show Qaa 0 [some (D.ob n),none] O = .ok (.ob n) O from rfl];dsimp only;rw [hn];dsimp only;rw [if_pos (by rw [zd]; omega),show Qf2 2 [] [some (D.ob n),none] = [none,none] from rfl,QlU O n bs.flatten hn [] bs.flatten rfl none none [],Qam,zJ];rfl
 generalize hB:(sps 0 bs).map (fun p=>D.int (p.1:Int))=L at cE
 have hLl:L.length≤100:=by
  rw [←hB,←hL,zd]
  have blen:∀(k:Nat) (r:Row),(bg k r).length≤r.length:=fun k r=>by
   induction r generalizing k with
   | nil=>exact zb _
   | cons c r ih =>
    show (if c.1 = [] then bg (k+1) r else k::bg (k+1) r).length≤r.length+1
    have:=ih (k+1)
    split
    ·omega
    ·rw [zA]; omega
  exact zD (blen 0 bs.flatten) hrow
 have s1:Qao 1 (Qe8 (Qaa 0) 2 [] g01 t01 (Qaa 0)) [some d,none] O = .nx [some d,some (.lst L)] O:=QaW cE
 have c2:mSl (Qaa 1) (moS (mC (.int 1))) moN [some d,some (.lst L)] O = .ok (.lst (L.drop 1)) O:=by
  rw [QnV];show ofO (gSl (.lst L) (some 1) none) O=_;rw [Qik,show (some (1:Int))=some ((1:Nat):Int) from rfl,QtR,Qen]
 have ln:Qav QaV (Qab (Qaa 0) Qae) [some d,some (.lst L)] O = .ok (.int (bs.flatten.length:Int)) O:=QcT (xs:=[d]) rfl (by
  rw [zl,zQ,dd];show some (D.int ((bs.flatten.map dC).length:Int))=_
  rw [zd])
 have c3:Qad QaK (mSl (Qaa 1) (moS (mC (.int 1))) moN) (Qa3 (Qab (Qav QaV (Qab (Qaa 0) Qae)) Qae)) [some d,some (.lst L)] O = .ok (.lst (L.drop 1 ++ [.int (bs.flatten.length:Int)])) O :=
  Qaz c2 (Qi3 (ma1 ln) (show (1:Nat)≤1000000 by decide)) (by rw [QcP,QcP,Qn2,if_pos (by rw [List.length_drop,zX]; omega)])
 have z:=QmP 0 bs;rw [hB,zC] at z;have c4:Qav gLZ (Qab (Qaa 1) (Qab (Qad QaK (mSl (Qaa 1) (moS (mC (.int 1))) moN) (Qa3 (Qab (Qav QaV (Qab (Qaa 0) Qae)) Qae))) Qae)) [some d,some (.lst L)] O = .ok (.lst ((sps 0 bs).map dZ)) O :=
  QcT (maS (x:=.lst L) rfl (ma1 c3)) (by
   rw [zl,zl,zQ,QcP,QcP];show some (D.lst (Qcp L (L.drop 1 ++ [.int (bs.flatten.length:Int)])))=_
   rw [z])
 show Qa7 (QcN [some d,none] O)=_;unfold QcN;show Qa7 (Qaj (Qao 1 (Qe8 (Qaa 0) 2 [] g01 t01 (Qaa 0))) (QaE _) [some d,none] O)=_;rw [QaA,s1,Qay,QfS c4];rfl
theorem Qmt {cs:List Str}{f c:Str}{mo mv:L2.M D}{ρ:Qah}{O O1:Qac}{n:Nat}{d:D}{fs:List (Str×D)} (hv:mv ρ O = .ok d O1) (ho:mo ρ O1 = .ok (.ob n) O1) (hO:O1[n]? = some (.ins c fs)) (hc:c∈cs) (hl:fs.length < 900) :
  Qfv cs f mo mv ρ O = .nx ρ (O1.set n (.ins c (putD f d fs))):=by
 rw [Qt1,hv,QuL,ho];unfold puF;dsimp only;rw [hO];dsimp only;rw [if_pos ⟨hc,hl⟩]
theorem Qkg {cs:List Str}{f c:Str}{m:L2.M D}{ρ:Qah}{O:Qac}{n:Nat}{y:D}{fs:List (Str×D)} (ho:m ρ O = .ok (.ob n) O) (hO:O[n]? = some (.ins c fs)) (hc:c∈cs) (hy:fs.lookup f=some y) :
  QcZ cs f m ρ O = .ok y O:=by
 rw [QvN,ho,Qam];unfold QuJ;dsimp only;rw [hO];dsimp only;rw [if_pos hc,hy]
theorem QeY {c m:Str}{cf:List D→Qac→Res D}{mo:L2.M D}{ma:L2.M (List D)}{ρ:Qah}{O:Qac}{n:Nat}{ds:List D}{fs:List (Str×D)} (ho:mo ρ O = .ok (.ob n) O) (hO:O[n]? = some (.ins c fs)) (hm:(fs.lookup m).isNone=true) (ha:ma ρ O = .ok ds O) :
  QbE c m cf mo ma ρ O=cf (.ob n::ds) O:=by
 rw [QsX,ho,Qam];unfold meF;dsimp only;rw [hO];dsimp only;rw [if_pos ⟨rfl,hm⟩,ha,Qam]
theorem QgM {O:Qac}{o:Ob}:(O ++ [o])[O.length]? = some o:=by
 rw [zE (zb _),Nat.sub_self]; rfl
theorem Qlt {O:Qac}{o o':Ob}:(O ++ [o]).set O.length o'=O ++ [o']:=by
 rw [List.set_append_right _ _ (zb _),Nat.sub_self]; rfl
def seg (r:Row) (p:Nat×Nat):Row:=(r.drop p.1).take p.2
def alk (r q:Row) (p:Nat×Nat):Bool:=QcA (dRw (seg r p)) (dRw (seg q p))
theorem QgG {r:Row} (h:ROk r):QbD (dRw r)=true∧(toP (dRw r)).canLay0=true∧(toP (dRw r)).depth≤8∧okE (dRw r)=true:=by
 have q:okE (.lst (r.map dC))=true:=Qib (n:=5) (by decide) fun d hd=>by
  obtain ⟨x,hx,rfl⟩:=zL.mp hd;obtain ⟨x1,x2,x3⟩:=h x hx;refine ⟨rfl,?_,Nat.le_of_ble_eq_true rfl⟩;show ((PyData.str (S x.1)).canLay0&&((PyData.str (S x.2.1)).canLay0&&((PyData.str (S x.2.2)).canLay0&&true)))=true;rw [QfG x1,QfG x2,QfG x3];rfl
 have qq:=q;unfold okE at q;rw [zv] at q;refine ⟨q.1,?_,?_,qq⟩
 ·have:=q.2
  unfold okD at this;rw [zv] at this;exact this.1
 ·unfold dRw;rw [toP,QgQ];show PyData.depthAll _+1≤8
  have z:PyData.depthAll ((r.map dC).map toP)≤5:=Qg3 fun d hd=>by
   rw [zU] at hd;obtain ⟨x,_,rfl⟩:=zL.mp hd;exact Nat.le_of_ble_eq_true rfl
  omega
theorem Quv {r q:Row} (hr:ROk r) (hq:ROk q) (p:Nat×Nat):gEq (dRw (seg r p)) (dRw (seg q p))=some (.bl (alk r q p)):=by
 unfold alk dRw;have h1:okE (.lst ((seg r p).map dC))=true:=(QgG (r:=seg r p) (Qno hr)).2.2.2;have h2:okE (.lst ((seg q p).map dC))=true:=(QgG (r:=seg q p) (Qno hq)).2.2.2;rw [QqW,h1,h2,Bool.and_self,if_pos rfl]
def Is (O:Qac) (d:D) (r:Row):Prop:=d = .lst (r.map dC)∨∃n,d = .ob n∧O[n]? = some (.ml (r.map dC))
theorem Is.de {O:Qac}{d:D}{r:Row} (h:Is O d r):QaI O d = .lst (r.map dC):=by
 rcases h with rfl | ⟨n,rfl,hn⟩
 ·rfl
 ·exact QeD hn
theorem Is.app {O:Qac}{d:D}{r:Row} (h:Is O d r) (o:Ob):Is (O ++ [o]) d r:=by
 rcases h with rfl | ⟨n,rfl,hn⟩
 ·exact .inl rfl
 ·refine .inr ⟨n,rfl,?_⟩;rw [zr (ze.mp hn).1,hn]
def fs1 (bs:List Row):List (Str×D):=[("stretches",.lst ((sps 0 bs).map dZ))]
def fs2 (r:Row) (bs:List Row):List (Str×D):=[("stretches",.lst ((sps 0 bs).map dZ)),("alike",.lst ((sps 0 bs).map fun p=>D.bl (alk r bs.flatten p)))]
theorem pf1 (bs:List Row):putD "stretches" (.lst ((sps 0 bs).map dZ)) []=fs1 bs:=rfl
theorem pf2 (r:Row) (bs:List Row):putD "alike" (.lst ((sps 0 bs).map fun p=>D.bl (alk r bs.flatten p))) (fs1 bs)=fs2 r bs:=rfl
theorem lk1 (bs:List Row):(fs1 bs).lookup ("stretches":Str)=some (.lst ((sps 0 bs).map dZ)):=rfl
theorem lk2 (r:Row) (bs:List Row):(fs2 r bs).lookup ("stretches":Str)=some (.lst ((sps 0 bs).map dZ)):=rfl
theorem lk3 (r:Row) (bs:List Row):(fs2 r bs).lookup ("alike":Str)=some (.lst ((sps 0 bs).map fun p=>D.bl (alk r bs.flatten p))):=rfl
theorem QdW:∀(k:Nat) (bs:List Row),(sps k bs).length=bs.length
 | _,[]=>rfl
 | k,b::bs=>congrArg (· + 1) (QdW _ bs)
theorem Qjj:∀{bs:List Row},(∀b∈bs,Bl b)→bs.length≤bs.flatten.length
 | [],_=>zb _
 | b::bs,h=>by
  rw [List.flatten_cons,zg,zA]
  have ih:=Qjj (bs:=bs) fun x hx=>h x (zu _ hx)
  have hb:1≤b.length:=by
   rcases h b zq with ⟨c,rfl,_⟩ | ⟨c,d,rfl,_⟩
   ·exact zb _
   ·exact Nat.le_succ _
  omega
theorem slD {m a b:L2.M D}{ρ:Qah}{O:Qac}{d:D}{row:Row}{p:Nat×Nat} (hm:m ρ O = .ok d O) (hd:QaI O d = .lst (row.map dC)) (ha:a ρ O = .ok (.int (p.1:Int)) O) (hb:b ρ O = .ok (.int ((p.1+p.2:Nat):Int)) O):mSl m (moS a) (moS b) ρ O = .ok (dRw (seg row p)) O:=by
 unfold dRw seg;rw [QnV,hm,Qam,Qne,ha,Qam,QkN,Qam,Qne,hb,Qam,QkN,Qam,hd,Qik,Qol,Nat.add_sub_cancel_left,Qen,List.map_take,List.map_drop]
theorem Qtb (O:Qac) {r:Row}{bs:List Row} (hbs:∀b∈bs,Bl b) (hl:bs.flatten.length≤100) (hr:ROk r) (hq:ROk bs.flatten) {d e:D} (hd:Is O d r) (he:Is O e bs.flatten) :
  Qcl [.ob O.length,d,e] (O ++ [.ins "Change" []]) = .ok .non (O ++ [.ins "Change" (fs2 r bs)]):=by
 have he1:=Qts bs hbs hl (O ++ [.ins "Change" []]) e (he.app _)
 have s1:Qfv ["Change"] "stretches" (Qaa 0) (Qat QbY (Qab (Qaa 2) Qae)) [some (.ob O.length),some d,some e] (O ++ [.ins "Change" []]) = .nx [some (.ob O.length),some d,some e] (O ++ [.ins "Change" (fs1 bs)]):=by
  rw [Qmt (d:=.lst ((sps 0 bs).map dZ)) (n:=O.length) (c:="Change") (fs:=[]) (by rw [Qbg (ma1 (x:=e) rfl),he1]) rfl QgM zq (by decide),Qlt,pf1]
 have hd2:=(hd.app (.ins "Change" (fs1 bs))).de;have he2:=(he.app (.ins "Change" (fs1 bs))).de;have g1:QcZ ["Change"] "stretches" (Qaa 0) [some (.ob O.length),some d,some e] (O ++ [.ins "Change" (fs1 bs)]) = .ok (.lst ((sps 0 bs).map dZ)) (O ++ [.ins "Change" (fs1 bs)]):=Qkg (n:=O.length) (c:="Change") (fs:=fs1 bs) rfl QgM zq (lk1 _)
 have ec:=Qfs (g:=g01) (t:=Qcj) (m:=Qad gEq (mSl (Qaa 2) (moS (Qaa 0)) (moS (Qaa 1))) (mSl (Qaa 3) (moS (Qaa 0)) (moS (Qaa 1)))) (fun ρ=>∃a b,ρ = [a,b,some d,some e]) dZ (fun p=>D.bl (alk r bs.flatten p)) (sps 0 bs) [none,none,some d,some e] (O ++ [.ins "Change" (fs1 bs)]) [] ⟨_,_,rfl⟩ (by
  rintro p hp ρ ⟨a,b,rfl⟩;refine ⟨[some (.int (p.1:Int)),some (.int ((p.1+p.2:Nat):Int)),some d,some e],rfl,⟨_,_,rfl⟩,rfl,Qaz (slD (p:=p) (d:=d) rfl hd2 rfl rfl) (slD (p:=p) (d:=e) rfl he2 rfl rfl) ?_⟩
  exact Quv hr hq p)
 rw [zJ] at ec
 have hlen:((sps 0 bs).map dZ).length≤1000000:=by
  rw [zd,QdW]
  have:=Qjj hbs
  omega
 have c2:=Qdt (own:=2) (cap:=[1,2]) (Qdd g1) hlen (ρ0:=[none,none,some d,some e]) rfl ec
 have s2:Qfv ["Change"] "alike" (Qaa 0) (Qbw (Qba (QcZ ["Change"] "stretches" (Qaa 0))) 2 [1,2] g01 Qcj (Qad gEq (mSl (Qaa 2) (moS (Qaa 0)) (moS (Qaa 1))) (mSl (Qaa 3) (moS (Qaa 0)) (moS (Qaa 1))))) [some (.ob O.length),some d,some e] (O ++ [.ins "Change" (fs1 bs)]) = .nx [some (.ob O.length),some d,some e] (O ++ [.ins "Change" (fs2 r bs)]):=by
  rw [Qmt (n:=O.length) (c:="Change") (fs:=fs1 bs) c2 rfl QgM zq (show (1:Nat) < 900 by decide),Qlt,pf2]
 show Qa7 (QcW [some (.ob O.length),some d,some e] (O ++ [.ins "Change" []]))=_;unfold QcW;rw [QaA,s1,Qay];exact congrArg Qa7 s2
def dN (k s:Nat):D:=.tup [.int (k:Int),.int (s:Int)]
def mvP (k:Nat):D:=.tup [.int 0,.str [112,97,115,115],dN (k+1) 0]
def mvW (k s:Nat) (p:Nat×Nat):D:=if s=0 then .tup [.int (4+(p.2:Int)),.str [98,101,103,105,110],dN (k+1) 1] else .tup [.int (p.2:Int),.str [111,110],dN (k+1) 1]
def mvL (r q:Row) (k:Nat) (p:Nat×Nat):List D:=if alk r q p=true then [mvP k] else []
def mvs (r:Row) (bs:List Row) (k s:Nat):List D:=match (sps 0 bs)[k]? with
 | none=>[]
 | some p=>mvL r bs.flatten k p ++ [mvW k s p]
theorem Qse (r q:Row) (k:Nat) (p:Nat×Nat):(mvL r q k p).length≤1:=by
 unfold mvL
 split
 ·exact zb _
 ·exact Nat.zero_le _
structure Tr (O:Qac) (n:Nat) (r:Row) (bs:List Row):Prop where
 ob:O[n]? = some (.ins "Change" (fs2 r bs))
 bl:∀b∈bs,Bl b
 le:bs.flatten.length≤100
 r:ROk r
 q:ROk bs.flatten
section
variable {O:Qac}{n:Nat}{r:Row}{bs:List Row}
theorem Qql (T:Tr O n r bs) {ρ:Qah} (h:Qaa 0 ρ O = .ok (.ob n) O):QcZ ["Change"] "stretches" (Qaa 0) ρ O = .ok (.lst ((sps 0 bs).map dZ)) O:=Qkg (n:=n) h T.ob zq (lk2 _ _)
theorem QwV (T:Tr O n r bs) {ρ:Qah} (h:Qaa 0 ρ O = .ok (.ob n) O):QcZ ["Change"] "alike" (Qaa 0) ρ O = .ok (.lst ((sps 0 bs).map fun p=>D.bl (alk r bs.flatten p))) O:=Qkg (n:=n) h T.ob zq (lk3 _ _)
theorem QpK (T:Tr O n r bs) {ρ:Qah} (h:Qaa 0 ρ O = .ok (.ob n) O):Qav QaV (Qab (QcZ ["Change"] "stretches" (Qaa 0)) Qae) ρ O = .ok (.int (bs.length:Int)) O:=by
 have:=Qjz (Qql T h)
 rwa [zd,QdW] at this
theorem QsR:Qb5 [.ob n] O = .ok (dN 0 0) O:=rfl
theorem Qsj (k:Nat):Qb3 [.ob n,.int (k:Int)] O = .ok (.lst [dN k 0,dN k 1]) O:=rfl
theorem QtK (T:Tr O n r bs):QcD [.ob n] O = .ok (.int (bs.length:Int)) O:=by
 show Qa7 (Qdg [some (.ob n)] O)=_;unfold Qdg;rw [QfS (QpK T rfl)];rfl
theorem QuS (T:Tr O n r bs) (k s:Nat):Qbp [.ob n,dN k s] O = .ok (.bl (decide ((k:Int)=(bs.length:Int)))) O:=by
 show Qa7 (QdD [some (.ob n),some (dN k s)] O)=_;unfold QdD;rw [QfS (Qaz (x:=.int (k:Int)) (Qaz (x:=dN k s) (y:=.int 0) rfl rfl rfl) (QpK T rfl) Qri)];rfl
theorem Qwc (T:Tr O n r bs) (k s:Nat) (hk:k≤bs.length):Qa4 [.ob n,dN k s] O = .ok (.lst (mvs r bs k s)) O:=by
 have s2:Qao 2 (Qad gIx (Qaa 1) (mC (.int 0))) [some (.ob n),some (dN k s),none,none,none] O = .nx [some (.ob n),some (dN k s),some (.int (k:Int)),none,none] O:=QaW (Qaz (x:=dN k s) (y:=.int 0) rfl rfl rfl);have t1:Qar (Qad gEq (Qaa 2) (Qav QaV (Qab (QcZ ["Change"] "stretches" (Qaa 0)) Qae))) [some (.ob n),some (dN k s),some (.int (k:Int)),none,none] O = .ok (decide ((k:Int)=(bs.length:Int))) O:=QjB rfl (QpK T rfl);show Qa7 (QcE [some (.ob n),some (dN k s),none,none,none] O)=_;unfold QcE;rw [QaA,s2,Qay,QaA]
 by_cases hz:k=bs.length
 ·rw [Qbz (by rw [t1,zw (by omega)])]
  have:mvs r bs k s = []:=by
   unfold mvs;rw [zV (by rw [QdW]; omega)]
  rw [this];rfl
 ·have hlt:k < (sps 0 bs).length:=by rw [QdW]; omega
  have hp:=zh hlt
  generalize (sps 0 bs)[k]=p at hp
  have hmv:mvs r bs k s=mvL r bs.flatten k p ++ [mvW k s p]:=by
   unfold mvs;rw [hp]
  rw [hmv,Qbb (by rw [t1,zk (by omega)]),Qce,Qay,QaA,show Qao 3 (Qa3 Qae) [some (.ob n),some (dN k s),some (.int (k:Int)),none,none] O = .nx [some (.ob n),some (dN k s),some (.int (k:Int)),some (.lst []),none] O from rfl,Qay,QaA];have t2:Qbs (Qad gIx (QcZ ["Change"] "alike" (Qaa 0)) (Qaa 2)) [some (.ob n),some (dN k s),some (.int (k:Int)),some (.lst []),none] O = .ok (alk r bs.flatten p) O:=QjH (Qaz (QwV T rfl) (y:=.int (k:Int)) rfl (Qeb (by rw [zm,hp]; rfl)))
  have i2:QaM (Qbs (Qad gIx (QcZ ["Change"] "alike" (Qaa 0)) (Qaa 2))) (Qbt 3 (QaZ (Qab (mC (.int 0)) (Qab (mC (.str [112,97,115,115])) (Qab (QaZ (Qab (Qad QaK (Qaa 2) (mC (.int 1))) (Qab (mC (.int 0)) Qae))) Qae))))) QaO [some (.ob n),some (dN k s),some (.int (k:Int)),some (.lst []),none] O = .nx [some (.ob n),some (dN k s),some (.int (k:Int)),some (.lst (mvL r bs.flatten k p)),none] O:=by
   unfold mvL
   cases hb:alk r bs.flatten p with
   | false =>
    rw [Qbb (by rw [t2,hb])];rfl
   | true =>
    rw [Qbz (by rw [t2,hb])];rfl
  rw [i2,Qay,QaA];have hL:=Qse r bs.flatten k p
  generalize mvL r bs.flatten k p=L at hL
  have hz:gIx (.lst ((sps 0 bs).map dZ)) (.int (k:Int))=some (dZ p):=Qeb (by rw [zm,hp]; rfl)
  have s4:Qao 4 (Qad Qed (Qad gIx (Qad gIx (QcZ ["Change"] "stretches" (Qaa 0)) (Qaa 2)) (mC (.int 1))) (Qad gIx (Qad gIx (QcZ ["Change"] "stretches" (Qaa 0)) (Qaa 2)) (mC (.int 0)))) [some (.ob n),some (dN k s),some (.int (k:Int)),some (.lst L),none] O = .nx [some (.ob n),some (dN k s),some (.int (k:Int)),some (.lst L),some (.int (p.2:Int))] O:=by
   rw [show (p.2:Int)=((p.1+p.2:Nat):Int) - (p.1:Int) by omega];exact QaW (QnM (Qaz (y:=.int 1) (Qaz (y:=.int (k:Int)) (Qql T rfl) rfl hz) rfl rfl) (Qaz (y:=.int 0) (Qaz (y:=.int (k:Int)) (Qql T rfl) rfl hz) rfl rfl))
  rw [s4,Qay,QaA];have t3:Qar (Qad gEq (Qad gIx (Qaa 1) (mC (.int 1))) (mC (.int 0))) [some (.ob n),some (dN k s),some (.int (k:Int)),some (.lst L),some (.int (p.2:Int))] O = .ok (decide ((s:Int)=0)) O:=QjB (Qaz (x:=dN k s) (y:=.int 1) rfl rfl rfl) rfl
  have nd:∀ρ:Qah,Qaa 2 ρ O = .ok (.int (k:Int)) O→QaZ (Qab (Qad QaK (Qaa 2) (mC (.int 1))) (Qab (mC (.int 1)) Qae)) ρ O = .ok (dN (k+1) 1) O:=fun ρ h=>Ql2 (xs:=[.int ((k+1:Nat):Int),.int 1]) (maS (by rw [jl]; exact QdC h rfl) (ma1 (x:=.int 1) rfl)) (show (2:Nat)≤1000000 by decide)
  by_cases hs:s=0
  ·rw [Qbz (by rw [t3,zw (by omega)])]
   have a3:=QgB (i:=3) (m:=QaZ (Qab (Qad QaK (mC (.int 4)) (Qaa 4)) (Qab (mC (.str [98,101,103,105,110])) (Qab (QaZ (Qab (Qad QaK (Qaa 2) (mC (.int 1))) (Qab (mC (.int 1)) Qae))) Qae)))) (ρ:=[some (.ob n),some (dN k s),some (.int (k:Int)),some (.lst L),some (.int (p.2:Int))]) (O:=O) (d:=mvW k s p) (ds:=L) (by
    unfold mvW;rw [if_pos hs]
    exact Ql2 (maS (QdC rfl rfl) (maS (x:=.str [98,101,103,105,110]) rfl (ma1 (nd _ rfl)))) (show (3:Nat)≤1000000 by decide)) rfl (by omega)
   rw [a3,Qay];rfl
  ·rw [Qbb (by rw [t3,zk (by omega)])]
   have a3:=QgB (i:=3) (m:=QaZ (Qab (Qaa 4) (Qab (mC (.str [111,110])) (Qab (QaZ (Qab (Qad QaK (Qaa 2) (mC (.int 1))) (Qab (mC (.int 1)) Qae))) Qae)))) (ρ:=[some (.ob n),some (dN k s),some (.int (k:Int)),some (.lst L),some (.int (p.2:Int))]) (O:=O) (d:=mvW k s p) (ds:=L) (by
    unfold mvW;rw [if_neg hs]
    exact Ql2 (maS (x:=.int (p.2:Int)) rfl (maS (x:=.str [111,110]) rfl (ma1 (nd _ rfl)))) (show (3:Nat)≤1000000 by decide)) rfl (by omega)
   rw [a3,Qay];rfl
end
theorem sq {a b:MS}{ρ ρ':Qah}{O O':Qac} (h:a ρ O = .nx ρ' O'):Qaj a b ρ O=b ρ' O':=by
 rw [QaA,h,Qay]
theorem QfZ {i:Nat}{m:L2.M D}{ρ:Qah}{O O':Qac}{d:D} (h:m ρ O = .ok d O'):Qao i m ρ O = .nx (ρ.set i (some d)) O':=by
 rw [Qlq,h,Qj7]
abbrev Nd:=Int×Int
def nN (n:Nd):D:=.tup [.int n.1,.int n.2]
def key (n:Nd):List Key:=[.inl n.1,.inl n.2]
structure M3 where
 cost:Int
 name:List Nat
 other:Nd
def d3 (m:M3):D:=.tup [.int m.cost,.str m.name,nN m.other]
def oD:Option Int→D
 | none=>.non
 | some i=>.int i
abbrev Tb:=List (Nd×Option Int)
def tab (ps:Tb):List (List Key×D):=ps.map fun x=>(key x.1,oD x.2)
def lk (ps:Tb) (n:Nd):Option (Option Int):=(ps.find? fun x=>decide (x.1=n)).map (·.2)
def pu (ps:Tb) (n:Nd) (v:Option Int):Tb:=if (ps.any fun x=>decide (x.1=n))=true then ps.map (fun x=>if x.1=n then (x.1,v) else x) else ps ++ [(n,v)]
theorem QiS (n:Nd):QjY (nN n)=some (key n):=rfl
theorem QgC {a b:Nd}:key a=key b↔a=b:=by
 obtain ⟨a1,a2⟩:=a;obtain ⟨b1,b2⟩:=b;unfold key;simp
theorem Qmj (n:Nd):∀ps:Tb,QcQ (tab ps) (key n)=(lk ps n).map oD
 | []=>rfl
 | x::ps=>by
  have ih:=Qmj n ps;unfold QcQ lk tab at *;rw [zl,List.find?_cons,List.find?_cons]
  by_cases h:x.1=n
  ·simp [h]
  ·have h':¬key x.1=key n:=fun z=>h (QgC.mp z)
   simp only [h,h',decide_false];exact ih
theorem Qmu (n:Nd):∀ps:Tb,((tab ps).any fun p=>decide (p.1=key n))=ps.any fun x=>decide (x.1=n)
 | []=>rfl
 | x::ps=>by
  have ih:=Qmu n ps;unfold tab at *;rw [zl,List.any_cons,List.any_cons,ih];congr 1;exact decide_eq_decide.mpr QgC
theorem Qsd (ps:Tb) (n:Nd) (v:Option Int):Qfj (tab ps) (key n) (oD v)=tab (pu ps n v):=by
 unfold Qfj pu;rw [Qmu]
 split
 ·unfold tab;rw [zU,zU]
  refine jh fun x _=>?_
  by_cases h:x.1=n
  ·simp [h]
  ·have h':¬key x.1=key n:=fun z=>h (QgC.mp z)
   simp [h,h']
 ·unfold tab;rw [zM];rfl
theorem QjV {n:Nd}:∀{ps:Tb},(ps.any fun x=>decide (x.1=n))=false→lk ps n=none
 | [],_=>rfl
 | x::ps,h=>by
  rw [List.any_cons,Bool.or_eq_false_iff] at h
  have:=QjV h.2
  unfold lk at *;rw [List.find?_cons,h.1];exact this
theorem QfC (x:Nd×Option Int) (ps:Tb) (n:Nd):lk (x::ps) n=if x.1=n then some x.2 else lk ps n:=by
 unfold lk;rw [List.find?_cons]
 by_cases h:x.1=n
 ·simp [h]
 ·simp [h]
theorem QoN (n:Nd) (y:Nd×Option Int):∀ps:Tb,lk (ps ++ [y]) n=if (lk ps n).isSome=true then lk ps n else if y.1=n then some y.2 else none
 | []=>by
  rw [zJ,QfC];rfl
 | x::ps=>by
  rw [List.cons_append,QfC,QfC,QoN n y ps]
  by_cases h:x.1=n
  ·simp [h]
  ·simp [h]
theorem Qok (n m:Nd) (v:Option Int):∀ps:Tb,lk (ps.map fun x=>if x.1=n then (x.1,v) else x) m=if m=n then (lk ps m).map fun _=>v else lk ps m
 | []=>by simp [lk]
 | x::ps=>by
  rw [zl,QfC,QfC,Qok n m v ps]
  by_cases h:x.1=n
  ·by_cases hm:m=n
   ·subst hm;simp [h]
   ·have:¬n=m:=fun z=>hm z.symm
    simp [h,hm,this]
  ·by_cases hx:x.1=m
   ·have:¬m=n:=fun z=>h (hx.trans z)
    simp [h,hx,this]
   ·simp [h,hx]
theorem Qor {n:Nd}:∀{ps:Tb},(ps.any fun x=>decide (x.1=n))=true→(lk ps n).isSome=true
 | x::ps,h=>by
  rw [QfC]
  by_cases hx:x.1=n
  ·simp [hx]
  ·rw [if_neg hx];rw [List.any_cons,zk hx,Bool.false_or] at h;exact Qor h
theorem Qoo (ps:Tb) (n m:Nd) (v:Option Int):lk (pu ps n v) m=if m=n then some v else lk ps m:=by
 unfold pu
 split
 ·rename_i h;rw [Qok]
  split
  ·rename_i hm;subst hm
   have:=Qor h
   cases e:lk ps m with
   | none=>rw [e] at this; cases this
   | some w=>rfl
  ·rfl
 ·rename_i h;have h0:=QjV (Bool.eq_false_iff.mpr h);rw [QoN]
  by_cases hm:m=n
  ·subst hm;simp [h0]
  ·have:¬n=m:=fun z=>hm z.symm
   simp [hm,this]
   cases lk ps m <;> simp
theorem QrH (ps:Tb) (n:Nd) (v:Option Int):(pu ps n v).length≤ps.length+1:=by
 unfold pu
 split
 ·rw [zd]; omega
 ·rw [zg]; exact zb _
theorem Qrz {ps:Tb}{n:Nd}{v:Option Int} (h:(lk ps n).isSome=true):(pu ps n v).length=ps.length:=by
 unfold pu
 split
 ·rw [zd]
 ·rename_i h';rw [QjV (Bool.eq_false_iff.mpr h')] at h;cases h
theorem Qj9 {mo my:L2.M D}{ρ:Qah}{O:Qac}{p:Nat}{ps:Tb}{n:Nd}{v:Option Int} (h1:mo ρ O = .ok (.ob p) O) (h2:O[p]? = some (.dt (tab ps))) (h3:my ρ O = .ok (nN n) O) (h4:lk ps n=some v):QbL mo my ρ O = .ok (oD v) O:=by
 unfold QbL;rw [h1];dsimp only [Qam];rw [h3];dsimp only [Qam];unfold tsG;rw [QiS,h2];dsimp only;unfold tsF;rw [QiS,h2];dsimp only;rw [Qmj,h4];rfl
theorem QmR {mo my mv:L2.M D}{ρ:Qah}{O:Qac}{p:Nat}{ps:Tb}{n:Nd}{v:Option Int} (h0:mv ρ O = .ok (oD v) O) (h1:mo ρ O = .ok (.ob p) O) (h2:O[p]? = some (.dt (tab ps))) (h3:my ρ O = .ok (nN n) O) (hl:ps.length < 1000000):Qcn mo my mv ρ O = .nx ρ (O.set p (.dt (tab (pu ps n v)))):=by
 unfold Qcn;rw [h0];dsimp only;rw [h1];dsimp only;rw [h3];dsimp only;rw [QiS,h2];dsimp only;rw [if_pos (by unfold tab; rw [zd]; exact hl),Qsd]
def co (ps:Tb) (m:M3):Option Int:=match lk ps m.other with
 | some (some b)=>some (m.cost+b)
 | _=>none
def lc (ps:Tb) (ms:List M3):Option Int:=mdI none (ms.filterMap (co ps))
theorem Qrp {O:Qac}{p:Nat}{ps:Tb}{m:M3} (hp:O[p]? = some (.dt (tab ps))) (hm:(lk ps m.other).isSome=true):Qca [d3 m,.ob p] O = .ok (oD (co ps m)) O:=by
 obtain ⟨v,hv⟩:=Option.isSome_iff_exists.mp hm;have s1:QbL (mG (Qaa 1)) (Qad gIx (Qaa 0) (mC (.int 2))) [some (d3 m),some (.ob p),none] O = .ok (oD v) O:=Qj9 rfl hp (Qaz rfl rfl rfl) hv;show Qa7 (Qe3 [some (d3 m),some (.ob p),none] O)=_;unfold Qe3;rw [sq (QaW s1),Qf8];unfold co;rw [hv]
 cases v with
 | none=>rfl
 | some b=>rfl
theorem ints_map:∀is:List Int,QfB (is.map D.int)=some is
 | []=>rfl
 | i::is=>by
  show (QfB (is.map D.int)).map (i :: ·)=_;rw [ints_map is];rfl
theorem QmD (ps:Tb):∀ms:List M3,(ms.map fun m=>oD (co ps m)).filter (fun d=>!isNon d)=(ms.filterMap (co ps)).map D.int
 | []=>rfl
 | m::ms=>by
  rw [zl,List.filter_cons,List.filterMap_cons,QmD ps ms]
  cases co ps m <;> rfl
theorem Qmo {O:Qac}{p:Nat}{ps:Tb}{ms:List M3} (hp:O[p]? = some (.dt (tab ps))) (hm:∀m∈ms,(lk ps m.other).isSome=true) (hl:ms.length≤1000):Qcy [.lst (ms.map d3),.ob p] O = .ok (oD (lc ps ms)) O:=by
 have c1:Qbl (mgN 0) Qcj (Qat Qca (Qab (Qaa 0) (Qab (Qaa 1) Qae))) (ms.map d3) [none,some (.ob p)] O [] = .ok (ms.map fun m=>oD (co ps m)) O:=by
  rw [Qfs (fun ρ=>∃a,ρ = [a,some (.ob p)]) d3 (fun m=>oD (co ps m)) ms _ _ _ ⟨none,rfl⟩ (by
   rintro m hm' ρ ⟨a,rfl⟩
   exact ⟨_,rfl,⟨_,rfl⟩,rfl,(Qbg (maS rfl (ma1 rfl))).trans (Qrp hp (hm m hm'))⟩)]
  rw [zJ]
 have s1:Qbw (Qba (Qaa 0)) 1 [1] (mgN 0) Qcj (Qat Qca (Qab (Qaa 0) (Qab (Qaa 1) Qae))) [some (.lst (ms.map d3)),some (.ob p),none] O = .ok (.lst (ms.map fun m=>oD (co ps m))) O:=Qdt (Qdd rfl) (by rw [zd]; omega) rfl c1
 have c2:Qbl (mgN 0) (Qar (Qew (Qaa 0))) (Qaa 0) (ms.map fun m=>oD (co ps m)) [none] O [] = .ok ((ms.filterMap (co ps)).map D.int) O:=by
  rw [QhX (fun ρ=>∃a,ρ = [a]) (fun d=>!isNon d) _ _ _ _ ⟨none,rfl⟩ (by
   rintro d hd ρ ⟨a,rfl⟩
   exact ⟨_,rfl,⟨_,rfl⟩,rfl,rfl⟩)]
  rw [zJ,QmD]
 have s2:Qbw (Qba (Qaa 2)) 1 [] (mgN 0) (Qar (Qew (Qaa 0))) (Qaa 0) [some (.lst (ms.map d3)),some (.ob p),some (.lst (ms.map fun m=>oD (co ps m)))] O = .ok (.lst ((ms.filterMap (co ps)).map D.int)) O:=Qdt (Qdd rfl) (by rw [zd]; omega) rfl c2
 have s3:Qav QkI (Qab (Qbw (Qba (Qaa 2)) 1 [] (mgN 0) (Qar (Qew (Qaa 0))) (Qaa 0)) Qae) [some (.lst (ms.map d3)),some (.ob p),some (.lst (ms.map fun m=>oD (co ps m)))] O = .ok (oD (lc ps ms)) O:=QcT (ma1 s2) (by
  show (QfB ((ms.filterMap (co ps)).map D.int)).map _=_;rw [ints_map];show some (match mdI none (ms.filterMap (co ps)) with | some m=>D.int m | none=>D.non)=some (oD (mdI none (ms.filterMap (co ps))))
  cases mdI none (ms.filterMap (co ps)) <;> rfl)
 show Qa7 (QeA [some (.lst (ms.map d3)),some (.ob p),none] O)=_;unfold QeA;rw [sq (QaW s1),Qf8];exact congrArg (fun r=>Qa7 (Qhx r)) s3
theorem Qly {ps ps':Tb}:∀{ms:List M3},(∀m∈ms,lk ps' m.other=lk ps m.other)→ms.filterMap (co ps')=ms.filterMap (co ps)
 | [],_=>rfl
 | m::ms,h=>by
  have e:co ps' m=co ps m:=by
   unfold co;rw [h m zq]
  rw [List.filterMap_cons,List.filterMap_cons,e,Qly fun x hx=>h x (zu _ hx)]
theorem Qhb {ps ps':Tb}{ms:List M3} (h:∀m∈ms,lk ps' m.other=lk ps m.other):lc ps' ms=lc ps ms:=by
 unfold lc;rw [Qly h]
structure Trl (t:Nat) (fs:List (Str×D)) (N:Nat) (nodes:Nat→List Nd) (mv:Nd→List M3) (fin:Nd→Bool):Prop where
 na:∀(O:Qac) (a:Nat),O[t]? = some (.ins "Change" fs)→a≤N→Qb3 [.ob t,.int a] O = .ok (.lst ((nodes a).map nN)) O
 mf:∀(O:Qac) (a:Nat) (n:Nd),O[t]? = some (.ins "Change" fs)→a≤N→n∈nodes a→Qa4 [.ob t,nN n] O = .ok (.lst ((mv n).map d3)) O
 ie:∀(O:Qac) (a:Nat) (n:Nd),O[t]? = some (.ins "Change" fs)→a≤N→n∈nodes a→Qbp [.ob t,nN n] O = .ok (.bl (fin n)) O
 la:∀O:Qac,O[t]? = some (.ins "Change" fs)→QcD [.ob t] O = .ok (.int N) O
 fi:∀O:Qac,O[t]? = some (.ins "Change" fs)→Qb5 [.ob t] O = .ok (nN (0,0)) O
 f0:((0,0):Nd)∈nodes 0
 nd:∀a,(nodes a).Nodup
 ln:∀a,(nodes a).length≤10
 fw:∀(a:Nat) (n:Nd),a≤N→n∈nodes a→∀m∈mv n,∃b,a < b∧b≤N∧m.other∈nodes b
 sp:∀(a b:Nat) (n:Nd),n∈nodes a→n∈nodes b→a=b
 ml:∀n,(mv n).length≤1000
 fe:∀n,fin n=true→mv n = []
 u1:(fs.lookup ("nodes_at":Str)).isNone=true
 u2:(fs.lookup ("moves_from":Str)).isNone=true
 u3:(fs.lookup ("is_end":Str)).isNone=true
 u4:(fs.lookup ("last_at":Str)).isNone=true
 u5:(fs.lookup ("first_node":Str)).isNone=true
 hN:N≤1000
def QbG (mv:Nd→List M3) (ns:List Nd):List (List Key×D):=ns.map fun n=>(key n,D.lst ((mv n).map d3))
theorem QlM (mv:Nd→List M3) (n:Nd):∀ns:List Nd,((QbG mv ns).any fun p=>decide (p.1=key n))=decide (n∈ns)
 | []=>rfl
 | x::ns=>by
  have ih:=QlM mv n ns;unfold QbG at *;rw [zl,List.any_cons,ih]
  by_cases h:x=n
  ·subst h;simp
  ·have h1:¬key x=key n:=fun z=>h (QgC.mp z)
   have h2:¬n=x:=fun z=>h z.symm
   simp [h1,h2]
theorem QqL {mv:Nd→List M3}{ns:List Nd}{n:Nd} (h:n∉ns):Qfj (QbG mv ns) (key n) (.lst ((mv n).map d3))=QbG mv (ns ++ [n]):=by
 unfold Qfj;rw [QlM,zk h,if_neg zp];unfold QbG;rw [zM];rfl
theorem QlJ (mv:Nd→List M3) (n:Nd):∀ns:List Nd,n∈ns→QcQ (QbG mv ns) (key n)=some (.lst ((mv n).map d3))
 | x::ns,h=>by
  unfold QcQ QbG;rw [zl,List.find?_cons]
  by_cases hx:x=n
  ·subst hx;simp
  ·have h1:¬key x=key n:=fun z=>hx (QgC.mp z)
   simp only [h1,decide_false]
   rcases zn.mp h with rfl | h
   ·exact absurd rfl hx
   ·exact QlJ mv n ns h
theorem QnY (mv:Nd→List M3) (ns:List Nd):(QbG mv ns).map QqN=ns.map nN:=by
 unfold QbG;rw [zU];rfl
def B_1:MS:=(Qaj (Qcn (Qaa 3) (Qaa 4) (QbE "Change" "moves_from" Qa4 (mG (Qaa 0)) (Qab (Qaa 4) Qae)))
  (Qcn (mG (Qaa 2)) (Qaa 4) (mIf (Qbs (QbE "Change" "is_end" Qbp (mG (Qaa 0)) (Qab (Qaa 4) Qae))) (mC (.int 0)) (mC .non))))
def ini (fin:Nd→Bool) (n:Nd):Option Int:=if fin n=true then some 0 else none
theorem QhA {O:Qac}{i j:Nat}{x y:Ob} (h1:O[i]? = some x) (h2:O[j]? = some y) (h:x≠y):i≠j:=fun z=>by
 rw [z,h2] at h1;exact h (zF h1).symm
theorem QhY {O:Qac}{i:Nat}{x y:Ob} (e:O[i]? = some x):(O.set i y)[i]? = some y:=by
 obtain ⟨h,_⟩:=ze.mp e;simp [h]
section
variable {t:Nat}{fs:List (Str×D)}{N:Nat}{nodes:Nat→List Nd}{mv:Nd→List M3}{fin:Nd→Bool}{p q:Nat}
theorem Qp5 (T:Trl t fs N nodes mv fin) {a:Nat} (ha:a≤N) {n:Nd} (hn:n∈nodes a) {pre:List Nd} (hp':n∉pre) {O:Qac}{cur:Tb} (ht:O[t]? = some (.ins "Change" fs)) (hp:O[p]? = some (.dt (tab cur))) (hq:O[q]? = some (.dt (QbG mv pre))) (hpq:p≠q) (hl:cur.length < 1000000) (hl2:pre.length < 1000000) (o5 o6:Option D) :
  B_1 [some (.ob t),some (.int a),some (.ob p),some (.ob q),some (nN n),o5,o6] O = .nx [some (.ob t),some (.int a),some (.ob p),some (.ob q),some (nN n),o5,o6] ((O.set q (.dt (QbG mv (pre ++ [n])))).set p (.dt (tab (pu cur n (ini fin n))))):=by
 have tq:t≠q:=QhA ht hq (fun z=>nomatch z);have tp:t≠p:=QhA ht hp (fun z=>nomatch z);have e1:QbE "Change" "moves_from" Qa4 (mG (Qaa 0)) (Qab (Qaa 4) Qae) [some (.ob t),some (.int a),some (.ob p),some (.ob q),some (nN n),o5,o6] O = .ok (.lst ((mv n).map d3)) O:=(QeY rfl ht T.u2 (ma1 rfl)).trans (T.mf O a n ht ha hn)
 have s1:Qcn (Qaa 3) (Qaa 4) (QbE "Change" "moves_from" Qa4 (mG (Qaa 0)) (Qab (Qaa 4) Qae)) [some (.ob t),some (.int a),some (.ob p),some (.ob q),some (nN n),o5,o6] O = .nx [some (.ob t),some (.int a),some (.ob p),some (.ob q),some (nN n),o5,o6] (O.set q (.dt (QbG mv (pre ++ [n])))):=by
  unfold Qcn;rw [e1];dsimp only;rw [show (Qaa 3) [some (.ob t),some (.int a),some (.ob p),some (.ob q),some (nN n),o5,o6] O = .ok (.ob q) O from rfl];dsimp only;rw [show (Qaa 4) [some (.ob t),some (.int a),some (.ob p),some (.ob q),some (nN n),o5,o6] O = .ok (nN n) O from rfl];dsimp only;rw [QiS,hq];dsimp only;rw [if_pos (by unfold QbG; rw [zd]; exact hl2),QqL hp']
 have ht':(O.set q (.dt (QbG mv (pre ++ [n]))))[t]? = some (.ins "Change" fs):=by rw [zj (Ne.symm tq)]; exact ht
 have hp2:(O.set q (.dt (QbG mv (pre ++ [n]))))[p]? = some (.dt (tab cur)):=by rw [zj (Ne.symm hpq)]; exact hp
 have e2:QbE "Change" "is_end" Qbp (mG (Qaa 0)) (Qab (Qaa 4) Qae) [some (.ob t),some (.int a),some (.ob p),some (.ob q),some (nN n),o5,o6] (O.set q (.dt (QbG mv (pre ++ [n])))) = .ok (.bl (fin n)) (O.set q (.dt (QbG mv (pre ++ [n])))):=(QeY rfl ht' T.u3 (ma1 rfl)).trans (T.ie _ a n ht' ha hn)
 have e3:mIf (Qbs (QbE "Change" "is_end" Qbp (mG (Qaa 0)) (Qab (Qaa 4) Qae))) (mC (.int 0)) (mC .non) [some (.ob t),some (.int a),some (.ob p),some (.ob q),some (nN n),o5,o6] (O.set q (.dt (QbG mv (pre ++ [n])))) = .ok (oD (ini fin n)) (O.set q (.dt (QbG mv (pre ++ [n])))):=by
  rw [Qwz,QjJ,e2,Qam,QeT,QgK,QfV,Qam];unfold ini
  cases fin n <;> rfl
 unfold B_1;rw [sq s1];exact QmR e3 rfl hp2 rfl hl
theorem Qlr (T:Trl t fs N nodes mv fin) {a:Nat} (ha:a≤N) (hpq:p≠q) (o5 o6:Option D):∀(rest pre:List Nd) (O:Qac) (cur:Tb) (o4:Option D),(∀n∈rest,n∈nodes a)→(pre++rest).Nodup→O[t]? = some (.ins "Change" fs)→O[p]? = some (.dt (tab cur))→O[q]? = some (.dt (QbG mv pre))→cur.length+rest.length < 1000000→pre.length+rest.length < 1000000 →
  ∃O' cur' o4',Qbo (mgN 4) B_1 (rest.map nN) [some (.ob t),some (.int a),some (.ob p),some (.ob q),o4,o5,o6] O = .nx [some (.ob t),some (.int a),some (.ob p),some (.ob q),o4',o5,o6] O'∧O'[p]? = some (.dt (tab cur'))∧O'[q]? = some (.dt (QbG mv (pre++rest)))∧(∀j,j≠p→j≠q→O'[j]? = O[j]?)∧(∀n,lk cur' n=if n∈rest then some (ini fin n) else lk cur n)∧cur'.length≤cur.length+rest.length
 | [],pre,O,cur,o4,_,_,_,hp,hq,_,_=>⟨O,cur,o4,rfl,hp,by rw [zO]; exact hq,fun _ _ _=>rfl,fun n=>by simp,zb _⟩
 | n::rest,pre,O,cur,o4,hr,hd,ht,hp,hq,hl,hl2=>by
  rw [zA] at hl hl2;have hn:=hr n zq
  have hnp:n∉pre:=fun z=>(zZ.mp hd).2.2 n z n zq rfl
  have hnr:n∉rest:=fun z=>(List.nodup_cons.mp (zZ.mp hd).2.1).1 z
  have eb:=Qp5 T ha hn hnp ht hp hq hpq (by omega) (by omega) o5 o6;have tq:t≠q:=QhA ht hq (fun z=>nomatch z);have tp:t≠p:=QhA ht hp (fun z=>nomatch z);have hpl:=QrH cur n (ini fin n);obtain ⟨O',cur',o4',e,h1,h2,h3,h4,h5⟩:=Qlr T ha hpq o5 o6 rest (pre ++ [n]) ((O.set q (.dt (QbG mv (pre ++ [n])))).set p (.dt (tab (pu cur n (ini fin n))))) (pu cur n (ini fin n)) (some (nN n)) (fun m hm=>hr m (zu _ hm)) (by rw [zP]; exact hd)
   (by rw [zj (Ne.symm tp),zj (Ne.symm tq)]; exact ht) (QhY (by rw [zj (Ne.symm hpq)]; exact hp)) (by rw [zj hpq]; exact QhY hq) (by omega) (by rw [zg,zX]; omega)
  refine ⟨O',cur',o4',?_,h1,by rw [zP] at h2; exact h2,fun j j1 j2=>?_,fun m=>?_,by rw [zA]; omega⟩
  ·rw [zl];unfold Qbo;rw [mg_n];dsimp only
   show (match B_1 [some (.ob t),some (.int a),some (.ob p),some (.ob q),some (nN n),o5,o6] O with
    | .nx ρ' O'=>Qbo _ _ (rest.map nN) ρ' O' | .ct ρ' O'=>Qbo _ _ (rest.map nN) ρ' O' | .bk ρ' O'=>Fl.nx ρ' O' | r=>r)=_
   rw [eb];exact e
  ·rw [h3 j j1 j2,zj (Ne.symm j1),zj (Ne.symm j2)]
  ·rw [h4 m,Qoo]
   by_cases hm:m=n
   ·subst hm;simp [hnr]
   ·simp [hm]
end
theorem Qtr {mo my:L2.M D}{ρ:Qah}{O:Qac}{q:Nat}{kvs:List (List Key×D)}{n:Nd}{d:D} (h1:mo ρ O = .ok (.ob q) O) (h2:O[q]? = some (.df kvs)) (h3:my ρ O = .ok (nN n) O) (h4:QcQ kvs (key n)=some d):QbL mo my ρ O = .ok d O:=by
 unfold QbL;rw [h1];dsimp only [Qam];rw [h3];dsimp only [Qam];unfold tsG;rw [QiS,h2];dsimp only;rw [h4]
def B_r:MS:=(Qaj (Qao 6 (Qat Qcy (Qab (QbL (Qaa 3) (Qaa 4)) (Qab (Qaa 2) Qae))))
  (QaM (QcX (Qar (Qew (Qaa 6))) (Qgp (Qar (Qgl (QbL (mG (Qaa 2)) (Qaa 4)))) (Qar (Qad gLt (Qaa 6) (QbL (mG (Qaa 2)) (Qaa 4)))))) (Qaj (Qcn (mG (Qaa 2)) (Qaa 4) (Qaa 6))
  (Qao 5 (mC (.bl true)))) QaO))
def better (v L:Option Int):Bool:=match L with
 | none=>false
 | some c=>match v with
  | none=>true
  | some w=>decide (c < w)
section
variable {t:Nat}{fs:List (Str×D)}{N:Nat}{nodes:Nat→List Nd}{mv:Nd→List M3}{fin:Nd→Bool}{p q:Nat}
theorem Qtp {ns:List Nd}{n:Nd} (hn:n∈ns) {O:Qac}{cur:Tb}{v:Option Int} (hp:O[p]? = some (.dt (tab cur))) (hq:O[q]? = some (.df (QbG mv ns))) (hv:lk cur n=some v) (hm:∀m∈mv n,(lk cur m.other).isSome=true) (hml:(mv n).length≤1000) (hl:cur.length < 1000000) (b:Bool) (a0 a1 o6:Option D) :
  B_r [a0,a1,some (.ob p),some (.ob q),some (nN n),some (.bl b),o6] O = .nx [a0,a1,some (.ob p),some (.ob q),some (nN n),some (.bl (b || better v (lc cur (mv n)))),some (oD (lc cur (mv n)))] (if better v (lc cur (mv n))=true then O.set p (.dt (tab (pu cur n (lc cur (mv n))))) else O):=by
 have s1:QbL (Qaa 3) (Qaa 4) [a0,a1,some (.ob p),some (.ob q),some (nN n),some (.bl b),o6] O = .ok (.lst ((mv n).map d3)) O:=Qtr rfl hq rfl (QlJ mv n ns hn);have s2:Qat Qcy (Qab (QbL (Qaa 3) (Qaa 4)) (Qab (Qaa 2) Qae)) [a0,a1,some (.ob p),some (.ob q),some (nN n),some (.bl b),o6] O = .ok (oD (lc cur (mv n))) O:=(Qbg (maS s1 (ma1 rfl))).trans (Qmo hp hm hml)
 have e2:∀o6':Option D,QbL (mG (Qaa 2)) (Qaa 4) [a0,a1,some (.ob p),some (.ob q),some (nN n),some (.bl b),o6'] O = .ok (oD v) O:=fun o6'=>Qj9 rfl hp rfl hv
 unfold B_r;rw [sq (QaW s2)];show QaM _ _ _ [a0,a1,some (.ob p),some (.ob q),some (nN n),some (.bl b),some (oD (lc cur (mv n)))] O=_
 cases hL:lc cur (mv n) with
 | none =>
  refine (Qbb ?_).trans ?_
  ·rw [QgE];rfl
  ·show Fl.nx _ O=_;simp [better]
 | some c =>
  have hput:(Qaj (Qcn (mG (Qaa 2)) (Qaa 4) (Qaa 6)) (Qao 5 (mC (.bl true)))) [a0,a1,some (.ob p),some (.ob q),some (nN n),some (.bl b),some (oD (some c))] O = .nx [a0,a1,some (.ob p),some (.ob q),some (nN n),some (.bl true),some (oD (some c))] (O.set p (.dt (tab (pu cur n (some c))))):=by
   rw [sq (QmR (v:=some c) rfl rfl hp rfl hl)];rfl
  have tA:Qar (Qew (Qaa 6)) [a0,a1,some (.ob p),some (.ob q),some (nN n),some (.bl b),some (oD (some c))] O = .ok true O:=rfl
  have tB:Qar (Qgl (QbL (mG (Qaa 2)) (Qaa 4))) [a0,a1,some (.ob p),some (.ob q),some (nN n),some (.bl b),some (oD (some c))] O = .ok (isNon (oD v)) O:=by
   rw [QlC,Qvn,e2,Qam,Qam,QoW]
  cases v with
  | none =>
   refine (Qbz ?_).trans ?_
   ·rw [QgE,tA,Qam,if_pos rfl,QkL,tB,Qam];rfl
   ·rw [hput];simp [better]
  | some w =>
   have tC:Qar (Qad gLt (Qaa 6) (QbL (mG (Qaa 2)) (Qaa 4))) [a0,a1,some (.ob p),some (.ob q),some (nN n),some (.bl b),some (oD (some c))] O = .ok (decide (c < w)) O:=Qcv (Qaz (x:=.int c) rfl (e2 _) rfl)
   have tD:QcX (Qar (Qew (Qaa 6))) (Qgp (Qar (Qgl (QbL (mG (Qaa 2)) (Qaa 4)))) (Qar (Qad gLt (Qaa 6) (QbL (mG (Qaa 2)) (Qaa 4))))) [a0,a1,some (.ob p),some (.ob q),some (nN n),some (.bl b),some (oD (some c))] O = .ok (decide (c < w)) O:=by
    rw [QgE,tA,Qam,if_pos rfl,QkL,tB,Qam];exact tC
   by_cases hw:c < w
   ·rw [zw hw] at tD;rw [Qbz tD,hput];simp [better,hw]
   ·rw [zk hw] at tD;rw [Qbb tD];show Fl.nx _ O=_;simp [better,hw]
def fnl (fin:Nd→Bool) (L:Nd→Option Int) (n:Nd):Option Int:=if fin n=true then some 0 else L n
theorem Qnw {fin:Nd→Bool}{L:Nd→Option Int}{n:Nd}{v:Option Int} (hf:fin n=true→L n=none) (hv:v=ini fin n∨v=fnl fin L n):(if better v (L n)=true then L n else v)=fnl fin L n:=by
 unfold fnl ini at *
 cases h:fin n with
 | true =>
  have:=hf h
  rw [this];rw [h] at hv
  rcases hv with rfl | rfl <;> rfl
 | false =>
  rw [h] at hv
  rcases hv with rfl | rfl
  ·cases L n <;> rfl
  ·simp only [Bool.false_eq_true,if_false]
   split <;> rfl
theorem Qmc {fin:Nd→Bool}{L:Nd→Option Int}{n:Nd} (hf:fin n=true→L n=none):better (fnl fin L n) (L n)=false:=by
 unfold fnl
 cases h:fin n with
 | true =>
  rw [hf h];rfl
 | false =>
  simp only [Bool.false_eq_true,if_false]
  cases L n with
  | none=>rfl
  | some c=>simp [better]
theorem Qpb (T:Trl t fs N nodes mv fin) {a:Nat} (ha:a≤N) {base:Tb} (hb:∀n∈nodes a,∀m∈mv n,(lk base m.other).isSome=true) (st:Nd→Option Int) (hst:∀n∈nodes a,st n=ini fin n∨st n=fnl fin (fun n=>lc base (mv n)) n) (a0 a1:Option D) :
  ∀(rest:List Nd) (O:Qac) (cur:Tb) (b:Bool) (o4 o6:Option D),(∀n∈rest,n∈nodes a)→rest.Nodup→O[p]? = some (.dt (tab cur))→O[q]? = some (.df (QbG mv (nodes a)))→p≠q→(∀m,m∉nodes a→lk cur m=lk base m)→(∀n∈rest,lk cur n=some (st n))→cur.length < 1000000 →
  ∃O' cur' o4' o6',Qbo (mgN 4) B_r (rest.map nN) [a0,a1,some (.ob p),some (.ob q),o4,some (.bl b),o6] O = .nx [a0,a1,some (.ob p),some (.ob q),o4',some (.bl (b || rest.any fun n=>better (st n) (lc base (mv n)))),o6'] O'∧O'[p]? = some (.dt (tab cur'))∧(∀j,j≠p→O'[j]? = O[j]?)∧(∀m,lk cur' m=if m∈rest then some (fnl fin (fun n=>lc base (mv n)) m) else lk cur m)∧cur'.length≤cur.length
 | [],O,cur,b,o4,o6,_,_,hp,_,_,_,_,_=>⟨O,cur,o4,o6,by simp [Qbo],hp,fun _ _=>rfl,fun m=>by simp,zb _⟩
 | n::rest,O,cur,b,o4,o6,hr,hd,hp,hq,hpq,hc,hs,hl=>by
  have hn:=hr n zq;have hd':=List.nodup_cons.mp hd
  have far:∀m∈mv n,m.other∉nodes a:=fun m hm z=>by
   obtain ⟨b,b1,b2,b3⟩:=T.fw a n ha hn m hm
   have:=T.sp a b _ z b3
   omega
  have eL:lc cur (mv n)=lc base (mv n):=Qhb fun m hm=>hc _ (far m hm)
  have hm:∀m∈mv n,(lk cur m.other).isSome=true:=fun m hm=>by rw [hc _ (far m hm)]; exact hb n hn m hm
  have eb:=Qtp hn hp hq (hs n zq) hm (T.ml n) hl b a0 a1 o6;rw [eL] at eb;have fx:=Qnw (L:=fun n=>lc base (mv n)) (fun h=>by show lc base (mv n)=none; rw [T.fe n h]; rfl) (hst n hn)
  have hsome:(lk cur n).isSome=true:=by rw [hs n zq]; rfl
  have go:∀(O1:Qac) (cur1:Tb),O1[p]? = some (.dt (tab cur1))→(∀j,j≠p→O1[j]? = O[j]?)→(∀m,lk cur1 m=if m=n then some (fnl fin (fun n=>lc base (mv n)) n) else lk cur m)→cur1.length≤cur.length→(if better (st n) (lc base (mv n))=true then O.set p (.dt (tab (pu cur n (lc base (mv n))))) else O)=O1 →
    ∃O' cur' o4' o6',Qbo (mgN 4) B_r ((n::rest).map nN) [a0,a1,some (.ob p),some (.ob q),o4,some (.bl b),o6] O = .nx [a0,a1,some (.ob p),some (.ob q),o4',some (.bl (b || (n::rest).any fun n=>better (st n) (lc base (mv n)))),o6'] O'∧O'[p]? = some (.dt (tab cur'))∧(∀j,j≠p→O'[j]? = O[j]?)∧(∀m,lk cur' m=if m∈n::rest then some (fnl fin (fun n=>lc base (mv n)) m) else lk cur m)∧cur'.length≤cur.length:=fun O1 cur1 k1 k2 k3 k4 k5=>by
   obtain ⟨O',cur',o4',o6',e,g1,g2,g3,g4⟩:=Qpb T ha hb st hst a0 a1 rest O1 cur1 (b || better (st n) (lc base (mv n))) (some (nN n)) (some (oD (lc base (mv n)))) (fun m hm=>hr m (zu _ hm)) hd'.2 k1 ((k2 q (Ne.symm hpq)).trans hq) hpq (fun m hm=>by
     rw [k3 m,if_neg (fun z:m=n=>hm (by rw [z]; exact hn))]
     exact hc m hm) (fun m hm=>by
     rw [k3 m,if_neg (fun z:m=n=>hd'.1 (by rw [←z]; exact hm))]
     exact hs m (zu _ hm)) (by omega)
   refine ⟨O',cur',o4',o6',?_,g1,fun j hj=>(g2 j hj).trans (k2 j hj),fun m=>?_,by omega⟩
   ·rw [zl];unfold Qbo;rw [mg_n];dsimp only
    show (match B_r [a0,a1,some (.ob p),some (.ob q),some (nN n),some (.bl b),o6] O with
     | .nx ρ' O'=>Qbo _ _ (rest.map nN) ρ' O' | .ct ρ' O'=>Qbo _ _ (rest.map nN) ρ' O' | .bk ρ' O'=>Fl.nx ρ' O' | r=>r)=_
    rw [eb,k5];rw [List.any_cons,←Bool.or_assoc];exact e
   ·rw [g3 m,k3 m]
    by_cases hmn:m=n
    ·subst hmn;simp [hd'.1]
    ·simp [hmn]
  cases hbt:better (st n) (lc base (mv n)) with
  | true =>
   rw [hbt] at fx;refine go (O.set p (.dt (tab (pu cur n (lc base (mv n)))))) (pu cur n (lc base (mv n))) (QhY hp) (fun j hj=>by rw [zj (Ne.symm hj)]) (fun m=>?_) (Nat.le_of_eq (Qrz hsome)) (by rw [hbt]; rfl);rw [Qoo,←fx];rfl
  | false =>
   rw [hbt] at fx;refine go O cur hp (fun _ _=>rfl) (fun m=>?_) (zb _) (by rw [hbt]; rfl)
   split
   ·rename_i hmn;rw [hmn,←fx];exact hs n zq
   ·rfl
end
def B_n:MS:=(Qaj (Qao 5 (mC (.bl false)))
  (Qgz 3 (Qa8 (QgD (Qaa 3)) (mgN 4) B_r)))
section
variable {t:Nat}{fs:List (Str×D)}{N:Nat}{nodes:Nat→List Nd}{mv:Nd→List M3}{fin:Nd→Bool}{p q:Nat}
theorem Qo6 (T:Trl t fs N nodes mv fin) {a:Nat} (ha:a≤N) {base:Tb} (hb:∀n∈nodes a,∀m∈mv n,(lk base m.other).isSome=true) (st:Nd→Option Int) (hst:∀n∈nodes a,st n=ini fin n∨st n=fnl fin (fun n=>lc base (mv n)) n) (a0 a1 o4 o5 o6:Option D) {O:Qac}{cur:Tb}
  (hp:O[p]? = some (.dt (tab cur))) (hq:O[q]? = some (.dt (QbG mv (nodes a)))) (hpq:p≠q) (hc:∀m,m∉nodes a→lk cur m=lk base m) (hs:∀n∈nodes a,lk cur n=some (st n)) (hl:cur.length < 1000000) :
  ∃O' cur' o4' o6',B_n [a0,a1,some (.ob p),some (.ob q),o4,o5,o6] O = .nx [a0,a1,some (.ob p),some (.ob q),o4',some (.bl ((nodes a).any fun n=>better (st n) (lc base (mv n)))),o6'] O'∧O'[p]? = some (.dt (tab cur'))∧O'[q]? = some (.dt (QbG mv (nodes a)))∧(∀j,j≠p→j≠q→O'[j]? = O[j]?)∧(∀m,m∉nodes a→lk cur' m=lk base m)∧(∀n∈nodes a,lk cur' n=some (fnl fin (fun n=>lc base (mv n)) n))∧cur'.length≤cur.length:=by
 have hq1:(O.set q (.df (QbG mv (nodes a))))[q]? = some (.df (QbG mv (nodes a))):=QhY hq
 have hp1:(O.set q (.df (QbG mv (nodes a))))[p]? = some (.dt (tab cur)):=by rw [zj (Ne.symm hpq)]; exact hp
 obtain ⟨O',cur',o4',o6',e,g1,g2,g3,g4⟩:=Qpb T ha hb st hst a0 a1 (nodes a) (O.set q (.df (QbG mv (nodes a)))) cur false o4 o6 (fun n h=>h) (T.nd a) hp1 hq1 hpq hc hs hl;rw [Bool.false_or] at e;have hq2:O'[q]? = some (.df (QbG mv (nodes a))):=(g2 q (Ne.symm hpq)).trans hq1;refine ⟨O'.set q (.dt (QbG mv (nodes a))),cur',o4',o6',?_,?_,QhY hq2,fun j j1 j2=>?_,fun m hm=>?_,fun n hn=>?_,g4⟩
 ·have ek:QgD (Qaa 3) [a0,a1,some (.ob p),some (.ob q),o4,some (.bl false),o6] O = .ok ((nodes a).map nN) (O.set q (.df (QbG mv (nodes a)))):=by
   unfold QgD;rw [show (Qaa 3) [a0,a1,some (.ob p),some (.ob q),o4,some (.bl false),o6] O = .ok (.ob q) O from rfl];dsimp only [Qam];rw [hq];dsimp only;rw [QnY]
  have ef:Qa8 (QgD (Qaa 3)) (mgN 4) B_r [a0,a1,some (.ob p),some (.ob q),o4,some (.bl false),o6] O = .nx [a0,a1,some (.ob p),some (.ob q),o4',some (.bl ((nodes a).any fun n=>better (st n) (lc base (mv n)))),o6'] O':=by
   rw [Qcm,ek,Qb2,e]
  unfold B_n;rw [sq (QaW (m_c (d:=.bl false)))];show Qgz 3 _ [a0,a1,some (.ob p),some (.ob q),o4,some (.bl false),o6] O=_;unfold Qgz;show (match O[q]? with | some (.dt _)=>_ | _=>Fl.no)=_;rw [hq];dsimp only;rw [ef];dsimp only;rw [hq2]
 ·rw [zj (Ne.symm hpq)];exact g1
 ·rw [zj (Ne.symm j2),g2 j j1,zj (Ne.symm j2)]
 ·rw [g3 m,if_neg hm];exact hc m hm
 ·rw [g3 n,if_pos hn]
theorem Qjf {t:L2.M Bool}{b:MS}{k:Nat}{ρ ρ2:Qah}{O O2:Qac} (h:t ρ O = .ok true O) (hb:b ρ O = .nx ρ2 O2):Qdf t b (k+1) ρ O=Qdf t b k ρ2 O2:=by
 show (match t ρ O with | .ok true O1=>(match b ρ O1 with | .nx ρ2 O2=>Qdf t b k ρ2 O2 | .ct ρ2 O2=>Qdf t b k ρ2 O2 | .bk ρ2 O2=>Fl.nx ρ2 O2 | r=>r) | .ok false O1=>.nx ρ O1 | .ex x O'=>.ex x O' | .no=>.no)=_;rw [h];dsimp only;rw [hb]
theorem Qm2 {t:L2.M Bool}{b:MS}{k:Nat}{ρ:Qah}{O:Qac} (h:t ρ O = .ok false O):Qdf t b (k+1) ρ O = .nx ρ O:=by
 show (match t ρ O with | .ok true O1=>(match b ρ O1 with | .nx ρ2 O2=>Qdf t b k ρ2 O2 | .ct ρ2 O2=>Qdf t b k ρ2 O2 | .bk ρ2 O2=>Fl.nx ρ2 O2 | r=>r) | .ok false O1=>.nx ρ O1 | .ex x O'=>.ex x O' | .no=>.no)=_;rw [h]
theorem Qsq (T:Trl t fs N nodes mv fin) {a:Nat} (ha:a≤N) {O:Qac}{cur:Tb} (ht:O[t]? = some (.ins "Change" fs)) (hp:O[p]? = some (.dt (tab cur))) (hb:∀n∈nodes a,∀m∈mv n,(lk cur m.other).isSome=true) (hl:cur.length < 900000) :
  ∃O' cur',Qdm [.ob t,.int a,.ob p] O = .ok .non O'∧O'[p]? = some (.dt (tab cur'))∧(∀(j:Nat) (x:Ob),j≠p→O[j]? = some x→O'[j]? = some x)∧(∀m,m∉nodes a→lk cur' m=lk cur m)∧(∀n∈nodes a,lk cur' n=some (fnl fin (fun n=>lc cur (mv n)) n))∧cur'.length≤cur.length+10:=by
 have hln:=T.ln a;have hpl:=(ze.mp hp).1;have htl:=(ze.mp ht).1;have hpq:p≠O.length:=zB hpl
 have ht1:(O ++ [Ob.dt []])[t]? = some (.ins "Change" fs):=by rw [zr htl]; exact ht
 have hp1:(O ++ [Ob.dt []])[p]? = some (.dt (tab cur)):=by rw [zr hpl]; exact hp
 have hq1:(O ++ [Ob.dt []])[O.length]? = some (.dt (QbG mv [])):=by simp [QbG]
 obtain ⟨O1,cur1,o4,e1,f1,f2,f3,f4,f5⟩:=Qlr T ha hpq none none (nodes a) [] (O ++ [Ob.dt []]) cur none (fun n h=>h) (T.nd a) ht1 hp1 hq1 (by omega) (by simp; omega);rw [zJ] at f2
 have far:∀n∈nodes a,∀m∈mv n,m.other∉nodes a:=fun n hn m hm z=>by
  obtain ⟨b,b1,b2,b3⟩:=T.fw a n ha hn m hm
  have:=T.sp a b _ z b3
  omega
 have hf:∀n,fin n=true→lc cur (mv n)=none:=fun n h=>by rw [T.fe n h]; rfl
 obtain ⟨O2,cur2,o4',o6',e2,g1,g2,g3,g4,g5,g6⟩:=Qo6 (base:=cur) T ha hb (ini fin) (fun n _=>.inl rfl) (some (.ob t)) (some (.int a)) o4 (some (.bl true)) none f1 f2 hpq (fun m hm=>by rw [f4 m,if_neg hm]) (fun n hn=>by rw [f4 n,if_pos hn]) (by omega);obtain ⟨O3,cur3,o4'',o6'',e3,k1,k2,k3,k4,k5,k6⟩:=Qo6 (base:=cur) T ha hb (fnl fin fun n=>lc cur (mv n)) (fun n _=>.inr rfl) (some (.ob t)) (some (.int a)) o4' (some (.bl true)) o6' g1 g2 hpq g4 g5 (by omega)
 have z3:((nodes a).any fun n=>better (fnl fin (fun n=>lc cur (mv n)) n) (lc cur (mv n)))=false:=by
  rw [List.any_eq_false];intro n _;rw [Qmc (L:=fun n=>lc cur (mv n)) (hf n)];exact zp
 rw [z3] at e3;have hnew:QfO [some (.ob t),some (.int a),some (.ob p),none,none,none,none] O = .ok (.ob O.length) (O ++ [Ob.dt []]):=rfl;have s2:(Qba (QbE "Change" "nodes_at" Qb3 (mG (Qaa 0)) (Qab (Qaa 1) Qae))) [some (.ob t),some (.int a),some (.ob p),some (.ob O.length),none,none,none] (O ++ [Ob.dt []]) = .ok ((nodes a).map nN) (O ++ [Ob.dt []]):=Qdd ((QeY rfl ht1 T.u1 (ma1 rfl)).trans (T.na _ a ht1 ha))
 have s3:Qa8 (Qba (QbE "Change" "nodes_at" Qb3 (mG (Qaa 0)) (Qab (Qaa 1) Qae))) (mgN 4) B_1 [some (.ob t),some (.int a),some (.ob p),some (.ob O.length),none,none,none] (O ++ [Ob.dt []]) = .nx [some (.ob t),some (.int a),some (.ob p),some (.ob O.length),o4,none,none] O1:=by
  rw [Qcm,s2,Qb2,e1]
 have old:∀(j:Nat) (x:Ob),j≠p→O[j]? = some x→O1[j]? = some x:=fun j x hj hx=>by
  have:=(ze.mp hx).1
  rw [f3 j hj (by omega),zr this];exact hx
 have nq:∀(j:Nat) (x:Ob),O[j]? = some x→j≠O.length:=fun j x hx=>zB (ze.mp hx).1
 have fin':∀(O':Qac) (cur':Tb) (x4 x6:Option D),Qdf (Qbs (Qaa 5)) B_n 10 [some (.ob t),some (.int a),some (.ob p),some (.ob O.length),o4,some (.bl true),none] O1 = .nx [some (.ob t),some (.int a),some (.ob p),some (.ob O.length),x4,some (.bl false),x6] O'→O'[p]? = some (.dt (tab cur'))→(∀(j:Nat) (x:Ob),j≠p→O[j]? = some x→O'[j]? = some x)→(∀m,m∉nodes a→lk cur' m=lk cur m)→(∀n∈nodes a,lk cur' n=some (fnl fin (fun n=>lc cur (mv n)) n))→cur'.length≤cur.length+10 →
   ∃O' cur',Qdm [.ob t,.int a,.ob p] O = .ok .non O'∧O'[p]? = some (.dt (tab cur'))∧(∀(j:Nat) (x:Ob),j≠p→O[j]? = some x→O'[j]? = some x)∧(∀m,m∉nodes a→lk cur' m=lk cur m)∧(∀n∈nodes a,lk cur' n=some (fnl fin (fun n=>lc cur (mv n)) n))∧cur'.length≤cur.length+10:=fun O' cur' x4 x6 hw h1 h2 h3 h4 h5=>by
  refine ⟨O',cur',?_,h1,h2,h3,h4,h5⟩;unfold B_1 at s3;unfold B_n B_r at hw;show Qa7 (Qeg [some (.ob t),some (.int a),some (.ob p),none,none,none,none] O)=_;unfold Qeg;rw [sq (QfZ hnew)];show Qa7 (Qaj _ _ [some (.ob t),some (.int a),some (.ob p),some (.ob O.length),none,none,none] (O ++ [Ob.dt []]))=_;rw [sq s3,sq (QaW (m_c (d:=.bl true)))];show Qa7 (Qes 10 _ _ [some (.ob t),some (.int a),some (.ob p),some (.ob O.length),o4,some (.bl true),none] O1)=_;unfold Qes;rw [hw];rfl
 cases hb1:(nodes a).any fun n=>better (ini fin n) (lc cur (mv n)) with
 | true =>
  rw [hb1] at e2;refine fin' O3 cur3 o4'' o6'' ?_ k1 (fun j x hj hx=>by rw [k3 j hj (nq j x hx),g3 j hj (nq j x hx)]; exact old j x hj hx) k4 k5 (by omega);rw [Qjf rfl e2,Qjf rfl e3,Qm2 rfl]
 | false =>
  rw [hb1] at e2;refine fin' O2 cur2 o4' o6' ?_ g1 (fun j x hj hx=>by rw [g3 j hj (nq j x hx)]; exact old j x hj hx) g4 g5 (by omega);rw [Qjf rfl e2,Qm2 rfl]
end
theorem Qhs {α:Type}{g:MG}{t:L2.M Bool}{m:L2.M D} (Pv:Qah→Prop) (p:α→Bool) (f:α→D):∀(xs:List α) (ρ:Qah) (O:Qac) (acc:List D),Pv ρ→(∀x∈xs,∀ρ,Pv ρ→∃ρ1,g (f x) ρ=some ρ1∧Pv ρ1∧t ρ1 O = .ok (p x) O∧m ρ1 O = .ok (f x) O)→Qbl g t m (xs.map f) ρ O acc = .ok (acc++(xs.filter p).map f) O
 | [],ρ,O,acc,_,_=>by simp [Qbl]
 | x::xs,ρ,O,acc,h,hs=>by
  obtain ⟨ρ1,e1,h1,e2,e3⟩:=hs x zq ρ h
  have ih:=fun acc=>Qhs (g:=g) (t:=t) (m:=m) Pv p f xs ρ1 O acc h1 fun d' hd'=>hs d' (zu _ hd')
  rw [zl];unfold Qbl;rw [e1];dsimp only;rw [e2]
  cases q:p x with
  | true =>
   dsimp only;rw [e3];dsimp only;rw [ih,List.filter_cons,q];simp
  | false =>
   dsimp only;rw [ih,List.filter_cons,q];simp
theorem Qqm (b:Nat):Qc1 (((b+1:Nat):Int) - 1) (b+1) = .int (b:Int)::Qc1 ((b:Int) - 1) b:=by
 unfold Qc1;rw [List.range_succ_eq_map,zl,zU];congr 1
 ·show D.int _=_;congr 1;omega
 ·refine jh fun i _=>?_
  show D.int _=D.int _;congr 1;omega
def Pri (N:Nat) (nodes:Nat→List Nd) (mv:Nd→List M3) (fin:Nd→Bool) (b:Nat) (cur:Tb):Prop:=∀c,b≤c→c≤N→∀n∈nodes c,lk cur n=some (fnl fin (fun n=>lc cur (mv n)) n)
def B_p:MS:=(QhM (Qat Qdm (Qab (Qaa 0) (Qab (Qaa 2) (Qab (Qaa 1) Qae)))))
section
variable {t:Nat}{fs:List (Str×D)}{N:Nat}{nodes:Nat→List Nd}{mv:Nd→List M3}{fin:Nd→Bool}{p q:Nat}
theorem QoP (T:Trl t fs N nodes mv fin):∀(b:Nat) (O:Qac) (cur:Tb) (o2:Option D),b≤N+1→O[t]? = some (.ins "Change" fs)→O[p]? = some (.dt (tab cur))→Pri N nodes mv fin b cur→cur.length+10 * b≤800000 →
  ∃O' cur' o2',Qbo (mgN 2) B_p (Qc1 ((b:Int) - 1) b) [some (.ob t),some (.ob p),o2] O = .nx [some (.ob t),some (.ob p),o2'] O'∧O'[p]? = some (.dt (tab cur'))∧(∀(j:Nat) (x:Ob),j≠p→O[j]? = some x→O'[j]? = some x)∧Pri N nodes mv fin 0 cur'
 | 0,O,cur,o2,_,_,hp,hP,_=>⟨O,cur,o2,rfl,hp,fun _ _ _ h=>h,hP⟩
 | a+1,O,cur,o2,hb,ht,hp,hP,hl=>by
  have ha:a≤N:=by omega
  have hbs:∀n∈nodes a,∀m∈mv n,(lk cur m.other).isSome=true:=fun n hn m hm=>by
   obtain ⟨c,c1,c2,c3⟩:=T.fw a n ha hn m hm;rw [hP c (by omega) c2 _ c3];rfl
  obtain ⟨O1,cur1,e,g1,g2,g3,g4,g5⟩:=Qsq T ha ht hp hbs (by omega);have tp:t≠p:=QhA ht hp (fun z=>nomatch z)
  have hP1:Pri N nodes mv fin a cur1:=fun c c1 c2 n hn=>by
   have far:∀m∈mv n,lk cur1 m.other=lk cur m.other:=fun m hm=>g3 _ fun z=>by
    obtain ⟨d,d1,d2,d3⟩:=T.fw c n c2 hn m hm
    have:=T.sp a d _ z d3
    omega
   have eL:lc cur1 (mv n)=lc cur (mv n):=Qhb far
   have eF:fnl fin (fun n=>lc cur1 (mv n)) n=fnl fin (fun n=>lc cur (mv n)) n:=by
    show (if fin n=true then some 0 else lc cur1 (mv n))=_;rw [eL];rfl
   rw [eF]
   by_cases hc:c=a
   ·subst hc;exact g4 n hn
   ·rw [g3 n fun z=>hc (T.sp c a n hn z)];exact hP c (by omega) c2 n hn
  obtain ⟨O',cur',o2',e2,k1,k2,k3⟩:=QoP T a O1 cur1 (some (.int (a:Int))) (by omega) (g2 t _ tp ht) g1 hP1 (by omega);refine ⟨O',cur',o2',?_,k1,fun j x hj hx=>k2 j x hj (g2 j x hj hx),k3⟩;rw [Qqm];unfold Qbo;rw [mg_n];dsimp only
  have eb:B_p [some (.ob t),some (.ob p),some (.int (a:Int))] O = .nx [some (.ob t),some (.ob p),some (.int (a:Int))] O1:=by
   unfold B_p;rw [Qr7,Qbg (maS rfl (maS rfl (ma1 rfl))),e,Qqw]
  show (match B_p [some (.ob t),some (.ob p),some (.int (a:Int))] O with
   | .nx ρ' O'=>Qbo _ _ (Qc1 ((a:Int) - 1) a) ρ' O' | .ct ρ' O'=>Qbo _ _ (Qc1 ((a:Int) - 1) a) ρ' O' | .bk ρ' O'=>Fl.nx ρ' O' | r=>r)=_
  rw [eb];exact e2
theorem QpI (T:Trl t fs N nodes mv fin) {O:Qac} (ht:O[t]? = some (.ins "Change" fs)):∃O' cur,QgW [.ob t] O = .ok (.ob O.length) O'∧O'[O.length]? = some (.dt (tab cur))∧(∀(j:Nat) (x:Ob),O[j]? = some x→O'[j]? = some x)∧Pri N nodes mv fin 0 cur:=by
 have hN:=T.hN;have htl:=(ze.mp ht).1
 have ht1:(O ++ [Ob.dt []])[t]? = some (.ins "Change" fs):=by rw [zr htl]; exact ht
 obtain ⟨O',cur,o2,e,g1,g2,g3⟩:=QoP (p:=O.length) T (N+1) (O ++ [Ob.dt []]) [] none (zb _) ht1 (by simp [tab]) (fun c c1 c2=>absurd c1 (by omega)) (by simp; omega);refine ⟨O',cur,?_,g1,fun j x hx=>?_,g3⟩
 ·have er:QkY (Qab (QbE "Change" "last_at" QcD (mG (Qaa 0)) Qae) (Qab (mUn Qey (mC (.int 1))) (Qab (mUn Qey (mC (.int 1))) Qae))) [some (.ob t),some (.ob O.length),none] (O ++ [Ob.dt []]) = .ok (Qc1 (((N+1:Nat):Int) - 1) (N+1)) (O ++ [Ob.dt []]):=by
   unfold QkY;rw [maS ((QeY rfl ht1 T.u4 rfl).trans (T.la _ ht1)) (maS (x:=.int (-1)) rfl (ma1 (x:=.int (-1)) rfl))];dsimp only [Qam];rw [if_pos ⟨rfl,by omega,by omega,by decide,by decide⟩];congr 1;rw [show ((N:Int) - -1).toNat=N+1 by omega,show (((N+1:Nat):Int) - 1)=(N:Int) by omega]
  unfold B_p at e;show Qa7 (Qhk [some (.ob t),none,none] O)=_;unfold Qhk;rw [sq (QfZ (show QfO [some (.ob t),none,none] O = .ok (.ob O.length) (O ++ [Ob.dt []]) from rfl))];show Qa7 (Qaj _ _ [some (.ob t),some (.ob O.length),none] (O ++ [Ob.dt []]))=_;rw [QaA,Qcm,er,Qb2,e,Qay];rfl
 ·have:=(ze.mp hx).1
  exact g2 j x (by omega) (by rw [zr this]; exact hx)
theorem QjR:∀(l:List Int) (b:Option Int) (c:Int),mdI b l=some c→b=some c∨c∈l
 | [],b,c,h=>.inl (by cases b <;> exact h)
 | n::r,none,c,h=>by
  rcases QjR r (some n) c h with h | h
  ·exact .inr (by rw [zF h]; exact zq)
  ·exact .inr (zu _ h)
 | n::r,some m,c,h=>by
  rcases QjR r (some (if n < m then n else m)) c h with h | h
  ·split at h
   ·exact .inr (by rw [zF h]; exact zq)
   ·exact .inl h
  ·exact .inr (zu _ h)
theorem QlY:∀(l:List Int) (b:Int),∃c,mdI (some b) l=some c
 | [],b=>⟨b,rfl⟩
 | n::r,b=>QlY r (if n < b then n else b)
theorem QtM {l:List Int} (h:l≠[]):∃c,mdI none l=some c:=by
 cases l with
 | nil=>exact absurd rfl h
 | cons n r=>exact QlY r n
theorem QtN (x y:Option Int):gEq (oD x) (oD y)=some (.bl (decide (x=y))):=by
 cases x with
 | none=>cases y <;> rfl
 | some i =>
  cases y with
  | none=>rfl
  | some j =>
   show some (D.bl (decide (i=j)))=_;congr 2;exact decide_eq_decide.mpr ⟨fun h=>by rw [h],fun h=>zF h⟩
theorem Qku {α:Type} (f:α→Bool) (g:α→D) (h:α→Bool):∀(ms:List α) (m:α),ms.find? f=some m→((ms.filter f).map g)[0]? = some (g m)
 | x::ms,m,e=>by
  rw [List.find?_cons] at e
  cases hx:f x with
  | true =>
   rw [hx] at e;cases e;simp [hx]
  | false =>
   rw [hx] at e;rw [List.filter_cons,hx];exact Qku f g h ms m e
theorem QuX {O:Qac}{ps:Tb}{ms:List M3}{c:Int} (hp:O[p]? = some (.dt (tab ps))) (hm:∀m∈ms,(lk ps m.other).isSome=true) (hl:ms.length≤1000) (hc:lc ps ms=some c) :
  ∃m,ms.find? (fun m=>decide (co ps m=lc ps ms))=some m∧m∈ms∧co ps m=some c∧Qcz [.lst (ms.map d3),.ob p] O = .ok (d3 m) O:=by
 obtain ⟨x,hx,hxc⟩:∃x∈ms,co ps x=some c:=by
  rcases QjR _ _ _ hc with h | h
  ·cases h
  ·exact List.mem_filterMap.mp h
 obtain ⟨m,em⟩:∃m,ms.find? (fun m=>decide (co ps m=lc ps ms))=some m:=by
  cases e:ms.find? (fun m=>decide (co ps m=lc ps ms)) with
  | some m=>exact ⟨m,rfl⟩
  | none =>
   have:=List.find?_eq_none.mp e x hx
   rw [hxc,hc] at this;simp at this
 have hmm:=List.mem_of_find?_eq_some em
 have hmc:co ps m=some c:=by
  have:=List.find?_some em
  rw [←hc];exact jg this
 refine ⟨m,em,hmm,hmc,?_⟩;have s1:Qat Qcy (Qab (Qaa 0) (Qab (Qaa 1) Qae)) [some (.lst (ms.map d3)),some (.ob p),none] O = .ok (oD (lc ps ms)) O:=(Qbg (maS rfl (ma1 rfl))).trans (Qmo hp hm hl)
 have c1:Qbl (mgN 0) (Qar (Qad gEq (Qat Qca (Qab (Qaa 0) (Qab (Qaa 1) Qae))) (Qaa 2))) (Qaa 0) (ms.map d3) [none,some (.ob p),some (oD (lc ps ms))] O [] = .ok ((ms.filter fun m=>decide (co ps m=lc ps ms)).map d3) O:=by
  rw [Qhs (fun ρ=>∃a,ρ = [a,some (.ob p),some (oD (lc ps ms))]) (fun m=>decide (co ps m=lc ps ms)) d3 ms _ _ _ ⟨none,rfl⟩ (by
   rintro m' hm' ρ ⟨a,rfl⟩
   exact ⟨_,rfl,⟨_,rfl⟩,Qcv (Qaz ((Qbg (maS rfl (ma1 rfl))).trans (Qrp hp (hm m' hm'))) (y:=oD (lc ps ms)) rfl (by
    rw [show QaI O (oD (co ps m'))=oD (co ps m') by cases co ps m' <;> rfl,show QaI O (oD (lc ps ms))=oD (lc ps ms) by cases lc ps ms <;> rfl,QtN])),rfl⟩)]
  rw [zJ]
 have s2:Qbw (Qba (Qaa 0)) 1 [1,2] (mgN 0) (Qar (Qad gEq (Qat Qca (Qab (Qaa 0) (Qab (Qaa 1) Qae))) (Qaa 2))) (Qaa 0) [some (.lst (ms.map d3)),some (.ob p),some (oD (lc ps ms))] O = .ok (.lst ((ms.filter fun m=>decide (co ps m=lc ps ms)).map d3)) O:=Qdt (Qdd rfl) (by rw [zd]; omega) rfl c1
 have s3:Qad gIx (Qbw (Qba (Qaa 0)) 1 [1,2] (mgN 0) (Qar (Qad gEq (Qat Qca (Qab (Qaa 0) (Qab (Qaa 1) Qae))) (Qaa 2))) (Qaa 0)) (mC (.int 0)) [some (.lst (ms.map d3)),some (.ob p),some (oD (lc ps ms))] O = .ok (d3 m) O:=Qaz s2 m_c (by
  rw [QcP,QdF,Qgi]
  exact (QdK (j:=0)).trans (Qku _ d3 (fun _=>true) ms m em))
 show Qa7 (Qdl [some (.lst (ms.map d3)),some (.ob p),none] O)=_;unfold Qdl;rw [sq (QaW s1),Qf8];exact congrArg (fun r=>Qa7 (Qhx r)) s3
end
def Wy (ps:Tb) (mv:Nd→List M3) (fin:Nd→Bool):Nd→List M3→Prop
 | n,[]=>fin n=true
 | n,m::ms=>fin n=false∧(mv n).find? (fun m=>decide (co ps m=lc ps (mv n)))=some m∧Wy ps mv fin m.other ms
def B_y:MS:=(Qaj (Qao 5 (Qat Qcz (Qab (QbE "Change" "moves_from" Qa4 (mG (Qaa 0)) (Qab (Qaa 2) Qae)) (Qab (Qaa 1) Qae))))
  (Qaj (Qbt 4 (Qad gIx (Qaa 5) (mC (.int 1))))
  (Qao 2 (Qad gIx (Qaa 5) (mC (.int 2))))))
section
variable {t:Nat}{fs:List (Str×D)}{N:Nat}{nodes:Nat→List Nd}{mv:Nd→List M3}{fin:Nd→Bool}{p q:Nat}
theorem Qti (T:Trl t fs N nodes mv fin) {ps:Tb} (hP:Pri N nodes mv fin 0 ps) {O:Qac} (ht:O[t]? = some (.ins "Change" fs)) (hp:O[p]? = some (.dt (tab ps))) (a3:Option D):∀(k a:Nat) (n:Nd) (c:Int) (nm:List D) (f:Nat) (o5:Option D),a+k=N→n∈nodes a→lk ps n=some (some c)→k < f→nm.length+k < 1000000 →
  ∃ms n' o5',Qdf (Qb4 (Qbs (QbE "Change" "is_end" Qbp (mG (Qaa 0)) (Qab (Qaa 2) Qae)))) B_y f [some (.ob t),some (.ob p),some (nN n),a3,some (.lst nm),o5] O = .nx [some (.ob t),some (.ob p),some (nN n'),a3,some (.lst (nm++ms.map fun m=>.str m.name)),o5'] O∧Wy ps mv fin n ms∧ms.length≤k:=by
 intro k
 induction k using Nat.strongRecOn with
 | _ k ih =>
  intro a n c nm f o5 hak hn hc hf hl;obtain ⟨f',rfl⟩:∃f',f=f'+1:=⟨f - 1,by omega⟩
  have te:Qb4 (Qbs (QbE "Change" "is_end" Qbp (mG (Qaa 0)) (Qab (Qaa 2) Qae))) [some (.ob t),some (.ob p),some (nN n),a3,some (.lst nm),o5] O = .ok (!fin n) O:=by
   rw [Qjy,QjJ,(QeY rfl ht T.u3 (ma1 rfl)).trans (T.ie O a n ht (by omega) hn),Qam,QeT,QgK,QfV,Qam]
  cases hfin:fin n with
  | true =>
   rw [hfin] at te;exact ⟨[],n,o5,by rw [Qm2 te]; simp,hfin,Nat.zero_le _⟩
  | false =>
   rw [hfin] at te
   have hL:lc ps (mv n)=some c:=by
    have:=hP a (Nat.zero_le _) (by omega) n hn
    rw [hc] at this;have h2:some c=fnl fin (fun n=>lc ps (mv n)) n:=zF this;unfold fnl at h2;rw [hfin,if_neg zp] at h2;exact h2.symm
   have hm:∀m∈mv n,(lk ps m.other).isSome=true:=fun m hm=>by
    obtain ⟨b,b1,b2,b3⟩:=T.fw a n (by omega) hn m hm;rw [hP b (Nat.zero_le _) b2 _ b3];rfl
   obtain ⟨m,e1,hmm,hmc,e2⟩:=QuX hp hm (T.ml n) hL;obtain ⟨b,b1,b2,b3⟩:=T.fw a n (by omega) hn m hmm
   obtain ⟨c',hc'⟩:∃c',lk ps m.other=some (some c'):=by
    unfold co at hmc;split at hmc
    ·rename_i c' e;exact ⟨c',e⟩
    ·cases hmc
   have s1:Qat Qcz (Qab (QbE "Change" "moves_from" Qa4 (mG (Qaa 0)) (Qab (Qaa 2) Qae)) (Qab (Qaa 1) Qae)) [some (.ob t),some (.ob p),some (nN n),a3,some (.lst nm),o5] O = .ok (d3 m) O:=(Qbg (maS ((QeY rfl ht T.u2 (ma1 rfl)).trans (T.mf O a n ht (by omega) hn)) (ma1 rfl))).trans e2
   have eb:B_y [some (.ob t),some (.ob p),some (nN n),a3,some (.lst nm),o5] O = .nx [some (.ob t),some (.ob p),some (nN m.other),a3,some (.lst (nm ++ [.str m.name])),some (d3 m)] O:=by
    unfold B_y;rw [sq (QaW s1)];show Qaj _ _ [some (.ob t),some (.ob p),some (nN n),a3,some (.lst nm),some (d3 m)] O=_;rw [sq (QgB (d:=.str m.name) (ds:=nm) (Qaz rfl rfl rfl) rfl (by omega))];rfl
   obtain ⟨ms,n',o5',e3,w3,l3⟩:=ih (N - b) (by omega) b m.other c' (nm ++ [.str m.name]) f' (some (d3 m)) (by omega) b3 hc' (by omega) (by rw [zg,zX]; omega);refine ⟨m::ms,n',o5',?_,⟨hfin,e1,w3⟩,by rw [zA]; omega⟩;rw [Qjf te eb,e3,zP];rfl
theorem QqI (T:Trl t fs N nodes mv fin) (hne:∀(a:Nat) (n:Nd),a≤N→n∈nodes a→fin n=false→mv n≠[]) {ps:Tb} (hP:Pri N nodes mv fin 0 ps):∀(k a:Nat) (n:Nd),a+k=N→n∈nodes a→∃c,lk ps n=some (some c):=by
 intro k
 induction k using Nat.strongRecOn with
 | _ k ih =>
  intro a n hak hn;have h1:=hP a (Nat.zero_le _) (by omega) n hn
  cases hfin:fin n with
  | true =>
   refine ⟨0,?_⟩;rw [h1];unfold fnl;rw [hfin,if_pos rfl]
  | false =>
   have h2:lk ps n=some (lc ps (mv n)):=by
    rw [h1];unfold fnl;rw [hfin,if_neg zp]
   obtain ⟨m,hm⟩:=List.exists_mem_of_ne_nil _ (hne a n (by omega) hn hfin);obtain ⟨b,b1,b2,b3⟩:=T.fw a n (by omega) hn m hm;obtain ⟨c,hc⟩:=ih (N - b) (by omega) b m.other (by omega) b3
   have hco:co ps m=some (m.cost+c):=by
    unfold co;rw [hc]
   obtain ⟨c',hc'⟩:=QtM (l:=(mv n).filterMap (co ps)) (fun z=>by
    have:=List.mem_filterMap.mpr ⟨m,hm,hco⟩
    rw [z] at this
    cases this)
   exact ⟨c',by rw [h2]; exact congrArg some hc'⟩
theorem Qrq (T:Trl t fs N nodes mv fin) (hne:∀(a:Nat) (n:Nd),a≤N→n∈nodes a→fin n=false→mv n≠[]) (hF:N < 50) {O:Qac} (ht:O[t]? = some (.ins "Change" fs)) :
  ∃O' ps c ms,Qhf [.ob t] O = .ok (.tup [.int c,.lst (ms.map fun m=>.str m.name)]) O'∧(∀(j:Nat) (x:Ob),O[j]? = some x→O'[j]? = some x)∧Pri N nodes mv fin 0 ps∧lk ps (0,0)=some (some c)∧Wy ps mv fin (0,0) ms:=by
 obtain ⟨O',ps,e1,g1,g2,hP⟩:=QpI T ht;obtain ⟨c,hc⟩:=QqI T hne hP N 0 (0,0) (zC _) T.f0;have ht':=g2 t _ ht;obtain ⟨ms,n',o5,e2,w2,l2⟩:=Qti T hP ht' g1 (some (.int c)) N 0 (0,0) c [] 50 none (zC _) T.f0 hc (by omega) (by simp; omega);refine ⟨O',ps,c,ms,?_,g2,hP,hc,w2⟩;have s1:Qat QgW (Qab (Qaa 0) Qae) [some (.ob t),none,none,none,none,none] O = .ok (.ob O.length) O':=(Qbg (ma1 rfl)).trans e1;have s2:QbE "Change" "first_node" Qb5 (mG (Qaa 0)) Qae [some (.ob t),some (.ob O.length),none,none,none,none] O' = .ok (nN (0,0)) O':=(QeY rfl ht' T.u5 rfl).trans (T.fi O' ht');have s3:QbL (Qaa 1) (Qaa 2) [some (.ob t),some (.ob O.length),some (nN (0,0)),none,none,none] O' = .ok (.int c) O':=Qj9 rfl g1 rfl hc
 unfold B_y at e2;rw [zJ] at e2;show Qa7 (QgR [some (.ob t),none,none,none,none,none] O)=_;unfold QgR;rw [sq (QfZ s1)];show Qa7 (Qaj _ _ [some (.ob t),some (.ob O.length),none,none,none,none] O')=_;rw [sq (QaW s2)];show Qa7 (Qaj _ _ [some (.ob t),some (.ob O.length),some (nN (0,0)),none,none,none] O')=_;rw [sq (QaW s3)];show Qa7 (Qaj _ _ [some (.ob t),some (.ob O.length),some (nN (0,0)),some (.int c),none,none] O')=_;rw [sq (show QaM (Qar (Qgl (Qaa 3))) (QaE (mC .non)) QaO [some (.ob t),some (.ob O.length),some (nN (0,0)),some (.int c),none,none] O' = .nx [some (.ob t),some (.ob O.length),some (nN (0,0)),some (.int c),none,none] O' from rfl)]
 rw [sq (QaW (d:=.lst []) (Qi3 rfl (Nat.zero_le _)))];show Qa7 (Qaj (Qes 50 _ _) _ [some (.ob t),some (.ob O.length),some (nN (0,0)),some (.int c),some (.lst []),none] O')=_;unfold Qes;rw [sq e2];rfl
end
theorem Qu2 {a b:C} (h:QcA (dC a) (dC b)=true):a=b:=by
 have h':((S a.1 == S b.1)&&((S a.2.1 == S b.2.1)&&((S a.2.2 == S b.2.2)&&true)))=true:=h;simp only [zv,Bool.and_true,beq_iff_eq] at h';obtain ⟨h1,h2,h3⟩:=h';obtain ⟨a1,a2,a3⟩:=a;obtain ⟨b1,b2,b3⟩:=b;have e1:a1=b1:=QkM h1;have e2:a2=b2:=QkM h2;have e3:a3=b3:=QkM h3;rw [e1,e2,e3]
theorem Qjq:∀{a b:Row},QcA (dRw a) (dRw b)=true→a=b
 | [],[],_=>rfl
 | [],y::b,h=>by cases h
 | x::a,[],h=>by cases h
 | x::a,y::b,h=>by
  have h':(QcA (dC x) (dC y)&&QcA (dRw a) (dRw b))=true:=h;rw [zv] at h';rw [Qu2 h'.1,Qjq h'.2]
def Qjx:List Nat:=[112,97,115,115]
def QdM:List Nat:=[98,101,103,105,110]
def kOn:List Nat:=[111,110]
def ndC (a:Nat):List Nd:=[((a:Int),0),((a:Int),1)]
def mvC (r:Row) (bs:List Row) (n:Nd):List M3:=match (sps 0 bs)[n.1.toNat]? with
 | none=>[]
 | some p=>(if alk r bs.flatten p=true then [⟨0,Qjx,(n.1+1,0)⟩] else []) ++ [if n.2=0 then ⟨4+(p.2:Int),QdM,(n.1+1,1)⟩ else ⟨(p.2:Int),kOn,(n.1+1,1)⟩]
def fnC (bs:List Row) (n:Nd):Bool:=decide (n.1=(bs.length:Int))
theorem QfF {a:Nat}{n:Nd} (h:n∈ndC a):∃s:Nat,n=((a:Int),(s:Int))∧(s=0∨s=1):=by
 unfold ndC at h
 rcases zn.mp h with rfl | h
 ·exact ⟨0,rfl,.inl rfl⟩
 ·rw [zo.mp h];exact ⟨1,rfl,.inr rfl⟩
theorem Qun (a:Nat) {s:Int} (h:s=0∨s=1):((a:Int),s)∈ndC a:=by
 unfold ndC
 rcases h with rfl | rfl <;> simp
theorem Qtj (r:Row) (bs:List Row) (a s:Nat):(mvC r bs ((a:Int),(s:Int))).map d3=mvs r bs a s:=by
 unfold mvC mvs;rw [show (((a:Int),(s:Int)):Nd).1.toNat=a from Int.toNat_natCast a]
 cases (sps 0 bs)[a]? with
 | none=>rfl
 | some p =>
  dsimp only;rw [zM];unfold mvL mvW;congr 1
  ·split <;> rfl
  ·by_cases hs:s=0
   ·subst hs;rfl
   ·rw [if_neg hs,if_neg (by omega)];rfl
theorem Qp6 {bs:List Row}{a:Nat} (h:bs.length≤a):(sps 0 bs)[a]? = none:=zV (by rw [QdW]; exact h)
theorem QpY {bs:List Row}{a:Nat} (h:a < bs.length):∃p,(sps 0 bs)[a]? = some p:=⟨_,zh (by rw [QdW]; exact h)⟩
theorem Qo2 {r:Row}{bs:List Row}{a s:Nat}{m:M3} (h:m∈mvC r bs ((a:Int),(s:Int))):a < bs.length∧∃p,(sps 0 bs)[a]? = some p∧((m.name=Qjx∧alk r bs.flatten p=true∧m.other=((a:Int)+1,0))∨(m.name=QdM∧s=0∧m.other=((a:Int)+1,1))∨(m.name=kOn∧s≠0∧m.other=((a:Int)+1,1))):=by
 unfold mvC at h;rw [show (((a:Int),(s:Int)):Nd).1.toNat=a from Int.toNat_natCast a] at h
 cases hp:(sps 0 bs)[a]? with
 | none=>rw [hp] at h; cases h
 | some p =>
  rw [hp] at h;have hl:=(ze.mp hp).1;rw [QdW] at hl;refine ⟨hl,p,rfl,?_⟩;dsimp only at h
  rcases zz.mp h with h | h
  ·split at h
   ·rename_i ha;rw [zo.mp h];exact .inl ⟨rfl,ha,rfl⟩
   ·cases h
  ·rw [zo.mp h]
   by_cases hs:s=0
   ·subst hs;exact .inr (.inl ⟨rfl,rfl,rfl⟩)
   ·rw [if_neg (by omega)];exact .inr (.inr ⟨rfl,hs,rfl⟩)
theorem trC {r:Row}{bs:List Row} (hbs:∀b∈bs,Bl b) (hl:bs.flatten.length≤40) (hr:ROk r) (hq:ROk bs.flatten) (t:Nat):Trl t (fs2 r bs) bs.length ndC (mvC r bs) (fnC bs):=by
 have tr:∀O:Qac,O[t]? = some (.ins "Change" (fs2 r bs))→Tr O t r bs:=fun O h=>⟨h,hbs,by omega,hr,hq⟩
 have bl:=Qjj hbs;refine ⟨fun O a h ha=>Qsj a,fun O a n h ha hn=>?_,fun O a n h ha hn=>?_,fun O h=>QtK (tr O h),fun O h=>QsR,by simp [ndC],fun a=>by simp [ndC],fun a=>by simp [ndC],fun a n ha hn m hm=>?_,fun a b n h1 h2=>?_,fun n=>?_,fun n hn=>?_,rfl,rfl,rfl,rfl,rfl,by omega⟩
 ·obtain ⟨s,rfl,hs⟩:=QfF hn;rw [Qtj];exact Qwc (tr O h) a s ha
 ·obtain ⟨s,rfl,hs⟩:=QfF hn;exact QuS (tr O h) a s
 ·obtain ⟨s,rfl,hs⟩:=QfF hn;obtain ⟨h1,p,_,h2⟩:=Qo2 hm;refine ⟨a+1,by omega,h1,?_⟩
  rcases h2 with ⟨_,_,h2⟩ | ⟨_,_,h2⟩ | ⟨_,_,h2⟩
  all_goals rw [h2]; exact Qun (a+1) (by simp)
 ·obtain ⟨s,rfl,hs⟩:=QfF h1;obtain ⟨s',e,hs'⟩:=QfF h2
  have:=congrArg Prod.fst e
  have z:(a:Int)=(b:Int):=this;omega
 ·unfold mvC
  split
  ·simp
  ·rw [zg]
   split <;> simp
 ·unfold fnC at hn;have hn':=jg hn;unfold mvC;rw [hn',Int.toNat_natCast,Qp6 (zb _)]
theorem neC (r:Row) (bs:List Row):∀(a:Nat) (n:Nd),a≤bs.length→n∈ndC a→fnC bs n=false→mvC r bs n≠[]:=fun a n ha hn hf=>by
 obtain ⟨s,rfl,hs⟩:=QfF hn;have hf':=of_decide_eq_false hf
 obtain ⟨p,hp⟩:=QpY (bs:=bs) (a:=a) (by
  have:¬((a:Int)=(bs.length:Int)):=hf'
  omega)
 unfold mvC;rw [show (((a:Int),(s:Int)):Nd).1.toNat=a from Int.toNat_natCast a,hp];simp
section
variable {N:Nat}{nodes:Nat→List Nd}{mv:Nd→List M3}{fin:Nd→Bool}
theorem QsU (fw:∀(a:Nat) (n:Nd),a≤N→n∈nodes a→∀m∈mv n,∃b,a < b∧b≤N∧m.other∈nodes b) {ps ps':Tb} (h:Pri N nodes mv fin 0 ps) (h':Pri N nodes mv fin 0 ps'):∀(k a:Nat) (n:Nd),a+k=N→n∈nodes a→lk ps' n=lk ps n:=by
 intro k
 induction k using Nat.strongRecOn with
 | _ k ih =>
  intro a n hak hn;rw [h a (Nat.zero_le _) (by omega) n hn,h' a (Nat.zero_le _) (by omega) n hn];show some (if fin n=true then some 0 else lc ps' (mv n))=some (if fin n=true then some 0 else lc ps (mv n))
  rw [Qhb fun m hm=>by
   obtain ⟨b,b1,b2,b3⟩:=fw a n (by omega) hn m hm
   exact ih (N - b) (by omega) b m.other (by omega) b3]
theorem Qjg {α:Type}{f g:α→Bool}:∀{l:List α},(∀x∈l,f x=g x)→l.find? f=l.find? g
 | [],_=>rfl
 | x::l,h=>by
  rw [List.find?_cons,List.find?_cons,h x zq,Qjg fun y hy=>h y (zu _ hy)]
theorem Qrj (fw:∀(a:Nat) (n:Nd),a≤N→n∈nodes a→∀m∈mv n,∃b,a < b∧b≤N∧m.other∈nodes b) {ps ps':Tb} (h:Pri N nodes mv fin 0 ps) (h':Pri N nodes mv fin 0 ps'):∀(ms ms':List M3) (a:Nat) (n:Nd),a≤N→n∈nodes a→Wy ps mv fin n ms→Wy ps' mv fin n ms'→ms'=ms
 | [],[],_,_,_,_,_,_=>rfl
 | [],m::ms,_,n,_,_,w,w'=>by
  have w1:fin n=true:=w;have z:=w'.1;rw [w1] at z;cases z
 | m::ms,[],_,n,_,_,w,w'=>by
  have w1:fin n=true:=w';have z:=w.1;rw [w1] at z;cases z
 | m::ms,m'::ms',a,n,ha,hn,w,w'=>by
  have el:∀x∈mv n,lk ps' x.other=lk ps x.other:=fun x hx=>by
   obtain ⟨b,b1,b2,b3⟩:=fw a n ha hn x hx;exact QsU fw h h' (N - b) b x.other (by omega) b3
  have e:=w'.2.1
  rw [Qjg (g:=fun m=>decide (co ps m=lc ps (mv n))) fun x hx=>by
   rw [Qhb el];unfold co
   rw [el x hx],w.2.1] at e
  cases e;obtain ⟨b,b1,b2,b3⟩:=fw a n ha hn m (List.mem_of_find?_eq_some w.2.1);rw [Qrj fw h h' ms ms' b m.other b2 b3 w.2.2 w'.2.2]
end
abbrev Sg:=Nat×Row
def exl (V:List Sg) (cs:Row):List Sg:=match V.getLast? with
 | some x=>V.dropLast ++ [(x.1,x.2++cs)]
 | none=>V
def stV (q:Row) (V:List Sg) (nm:List Nat) (p:Nat×Nat):List Sg:=if nm=Qjx then V else if nm=QdM then V ++ [(p.1,seg q p)] else exl V (seg q p)
def rnV (q:Row):List Sg→List (List Nat)→List (Nat×Nat)→List Sg
 | V,nm::ns,p::ps=>rnV q (stV q V nm p) ns ps
 | V,_,_=>V
structure StV (r q:Row) (pos s:Nat) (V:List Sg):Prop where
 inn:∀x∈V,x.1+x.2.length≤pos∧x.2=seg q (x.1,x.2.length)
 cov:∀i,i < pos→(∃x∈V,x.1≤i∧i < x.1+x.2.length)∨r[i]? = q[i]?
 on:s=1→∃V' x,V=V' ++ [x]∧x.1+x.2.length=pos
theorem Qka {q:Row}{a b:Nat} (h:a+b≤q.length):(seg q (a,b)).length=b:=by
 show ((q.drop a).take b).length=b;rw [List.length_take,List.length_drop];omega
theorem Qkb {q:Row}{a b i:Nat} (h1:a≤i) (h2:i < a+b):(seg q (a,b))[i - a]? = q[i]?:=by
 show ((q.drop a).take b)[i - a]? = _;rw [List.getElem?_take,if_pos (by omega),List.getElem?_drop];congr 1;omega
theorem QrT (q:Row) (a b c:Nat):seg q (a,b)++seg q (a+b,c)=seg q (a,b+c):=by
 show (q.drop a).take b++(q.drop (a+b)).take c=(q.drop a).take (b+c);rw [List.take_add,List.drop_drop]
theorem QiM (V:List Sg) (x:Sg) (cs:Row):exl (V ++ [x]) cs=V ++ [(x.1,x.2++cs)]:=by
 unfold exl;simp
section
variable {r q:Row}{pos len s:Nat}{V:List Sg}
theorem StV.pass (h:StV r q pos s V) (ha:alk r q (pos,len)=true):StV r q (pos+len) 0 V:=by
 have e:=Qjq ha;refine ⟨fun x hx=>⟨zD (h.inn x hx).1 (zW _ _),(h.inn x hx).2⟩,fun i hi=>?_,fun z=>nomatch z⟩
 by_cases hp:i < pos
 ·exact h.cov i hp
 ·refine .inr ?_;rw [←Qkb (q:=r) (a:=pos) (b:=len) (by omega) hi,e,Qkb (by omega) hi]
theorem StV.begn (h:StV r q pos s V) (hl:pos+len≤q.length):StV r q (pos+len) 1 (V ++ [(pos,seg q (pos,len))]):=by
 have sl:=Qka hl;refine ⟨fun x hx=>?_,fun i hi=>?_,fun _=>⟨V,_,rfl,by rw [sl]⟩⟩
 ·rcases zz.mp hx with hx | hx
  ·exact ⟨zD (h.inn x hx).1 (zW _ _),(h.inn x hx).2⟩
  ·rw [zo.mp hx];dsimp only;rw [sl];exact ⟨zb _,rfl⟩
 ·by_cases hp:i < pos
  ·rcases h.cov i hp with ⟨x,hx,hc⟩ | hc
   ·exact .inl ⟨x,ja _ hx,hc⟩
   ·exact .inr hc
  ·exact .inl ⟨_,zI _ (zo.mpr rfl),by dsimp only; omega,by dsimp only; rw [sl]; exact hi⟩
theorem StV.onn (h:StV r q pos 1 V) (hl:pos+len≤q.length):StV r q (pos+len) 1 (exl V (seg q (pos,len)))∧∃V' x,V=V' ++ [x]:=by
 obtain ⟨V',x,rfl,hx⟩:=h.on rfl;refine ⟨?_,V',x,rfl⟩;rw [QiM];have sl:=Qka hl;have hx2:=(h.inn x (zI _ (zo.mpr rfl))).2
 have nl:(x.2++seg q (pos,len)).length=x.2.length+len:=by rw [zg,sl]
 refine ⟨fun y hy=>?_,fun i hi=>?_,fun _=>⟨V',_,rfl,by dsimp only; rw [nl]; omega⟩⟩
 ·rcases zz.mp hy with hy | hy
  ·exact ⟨zD (h.inn y (ja _ hy)).1 (zW _ _),(h.inn y (ja _ hy)).2⟩
  ·rw [zo.mp hy];dsimp only;rw [nl];refine ⟨by omega,?_⟩;rw [←QrT,hx,←hx2]
 ·by_cases hp:i < pos
  ·rcases h.cov i hp with ⟨y,hy,hc⟩ | hc
   ·rcases zz.mp hy with hy | hy
    ·exact .inl ⟨y,ja _ hy,hc⟩
    ·rw [zo.mp hy] at hc;exact .inl ⟨_,zI _ (zo.mpr rfl),hc.1,by dsimp only; rw [nl]; omega⟩
   ·exact .inr hc
  ·exact .inl ⟨_,zI _ (zo.mpr rfl),by dsimp only; omega,by dsimp only; rw [nl]; omega⟩
end
abbrev Wr:=Nat×Nat×Row
def dW (x:Wr):D:=.tup [.int (x.1:Int),.int (x.2.1:Int),dRw x.2.2]
def dH (x:Wr) (n:Nat):D:=.tup [.int (x.1:Int),.int (x.2.1:Int),.ob n]
def wO (x:Wr):Ob:=QaS x.2.2
def wr (pl:Nat) (x:Sg):Wr:=(pl,x.1,x.2)
def HW (O:Qac):List Wr→List Nat→Prop
 | [],[]=>True
 | x::W,n::ns=>O[n]? = some (wO x)∧HW O W ns
 | _,_=>False
def hT:List Wr→List Nat→List D
 | x::W,n::ns=>dH x n::hT W ns
 | _,_=>[]
theorem Qeq {O O':Qac}:∀{W:List Wr}{ns:List Nat},(∀n∈ns,O'[n]? = O[n]?)→HW O W ns→HW O' W ns
 | [],[],_,_=>trivial
 | x::W,n::ns,k,h=>⟨(k n zq).trans h.1,Qeq (fun m hm=>k m (zu _ hm)) h.2⟩
 | [],_::_,_,h=>h.elim
 | _::_,[],_,h=>h.elim
theorem Qja {O:Qac}{W':List Wr}{ns':List Nat} (h':HW O W' ns'):∀{W:List Wr}{ns:List Nat},HW O W ns→HW O (W++W') (ns++ns')∧hT (W++W') (ns++ns')=hT W ns++hT W' ns'
 | [],[],_=>⟨h',rfl⟩
 | x::W,n::ns,h=>by
  obtain ⟨a,b⟩:=Qja h' h.2;exact ⟨⟨h.1,a⟩,congrArg (dH x n :: ·) b⟩
 | [],_::_,h=>h.elim
 | _::_,[],h=>h.elim
theorem Qrf {O:Qac}:∀{W:List Wr}{x:Wr}{ns:List Nat},HW O (W ++ [x]) ns→∃ms n,ns=ms ++ [n]∧HW O W ms∧O[n]? = some (wO x)∧hT (W ++ [x]) ns=hT W ms ++ [dH x n]
 | [],x,[n],h=>⟨[],n,rfl,trivial,h.1,rfl⟩
 | [],x,n::m::ns,h=>h.2.elim
 | [],x,[],h=>h.elim
 | y::W,x,n::ns,h=>by
  obtain ⟨ms,k,rfl,h1,h2,h3⟩:=Qrf h.2;exact ⟨n::ms,k,rfl,⟨h.1,h1⟩,h2,congrArg (dH y n :: ·) h3⟩
 | y::W,x,[],h=>h.elim
theorem Qfy {O:Qac}:∀{W:List Wr}{ns:List Nat},HW O W ns→(∀n∈ns,n < O.length)∧ns.length=W.length∧(hT W ns).length=W.length
 | [],[],_=>⟨fun n hn=>(nomatch hn),rfl,rfl⟩
 | x::W,n::ns,h=>by
  obtain ⟨a,b,c⟩:=Qfy h.2;refine ⟨fun m hm=>?_,by simp [b],by simp [hT,c]⟩
  rcases zn.mp hm with rfl | hm
  ·exact (ze.mp h.1).1
  ·exact a m hm
 | [],_::_,h=>h.elim
 | _::_,[],h=>h.elim
def Qhl:MS:=(Qaj (QaM (Qar (Qad gEq (Qaa 5) (mC (.str [98,101,103,105,110])))) (Qbt 4 (QaZ (Qab (mG (Qaa 0)) (Qab (Qad gIx (Qaa 6) (mC (.int 0))) (Qab (mMl (Qa3 Qae)) Qae))))) QaO)
  (QaM (Qar (Qad gNe (Qaa 5) (mC (.str [112,97,115,115])))) (QgN (Qad gIx (Qad gIx (Qaa 4) (mUn Qey (mC (.int 1)))) (mC (.int 2))) (mSl (Qaa 2) (moS (Qad gIx (Qaa 6) (mC (.int 0)))) (moS (Qad gIx (Qaa 6) (mC (.int 1)))))) QaO))
def eR (pl:Nat) (d e nm:D) (T:List D) (a5 a6:Option D):Qah:=[some (.int (pl:Int)),some d,some e,some nm,some (.lst T),a5,a6]
def Agr (O O':Qac):Prop:=∀j,j < O.length→O'[j]? = O[j]?
theorem Is.agr {O O':Qac}{d:D}{r:Row} (h:Is O d r) (a:Agr O O'):Is O' d r:=by
 rcases h with h | ⟨n,h1,h2⟩
 ·exact .inl h
 ·exact .inr ⟨n,h1,(a n (ze.mp h2).1).trans h2⟩
theorem QpP (n:Nat):ixN (n+1) (-1)=some n:=by
 unfold ixN;rw [if_neg (by decide),if_pos (by omega)];congr 1;omega
theorem Qud (T:List D) (d:D):gIx (.lst (T ++ [d])) (.int (-1))=some d:=by
 rw [Qgi];unfold atI;rw [show (T ++ [d]).length=T.length+1 by simp,QpP];simp
section
variable {pl:Nat}{d e nm:D}{q:Row}{O:Qac}
theorem Qpy {T:List D}{x:Wr}{n:Nat}{p:Nat×Nat}{k:List Nat} (he:Is O e q) (hn:O[n]? = some (wO x)) (hl:x.2.2.length+q.length≤100000) :
  QgN (Qad gIx (Qad gIx (Qaa 4) (mUn Qey (mC (.int 1)))) (mC (.int 2))) (mSl (Qaa 2) (moS (Qad gIx (Qaa 6) (mC (.int 0)))) (moS (Qad gIx (Qaa 6) (mC (.int 1))))) (eR pl d e nm (T ++ [dH x n]) (some (.str k)) (some (dZ p))) O = .nx (eR pl d e nm (T ++ [dH x n]) (some (.str k)) (some (dZ p))) (O.set n (QaS (x.2.2++seg q p))):=by
 have e1:Qad gIx (Qad gIx (Qaa 4) (mUn Qey (mC (.int 1)))) (mC (.int 2)) (eR pl d e nm (T ++ [dH x n]) (some (.str k)) (some (dZ p))) O = .ok (.ob n) O:=Qaz (x:=dH x n) (Qaz (x:=.lst (T ++ [dH x n])) (y:=.int (-1)) rfl rfl (Qud T _)) m_c rfl;have e2:mSl (Qaa 2) (moS (Qad gIx (Qaa 6) (mC (.int 0)))) (moS (Qad gIx (Qaa 6) (mC (.int 1)))) (eR pl d e nm (T ++ [dH x n]) (some (.str k)) (some (dZ p))) O = .ok (dRw (seg q p)) O:=slD (d:=e) rfl he.de (Qaz (x:=dZ p) rfl rfl rfl) (Qaz (x:=dZ p) rfl rfl rfl)
 have sl:(seg q p).length≤q.length:=by
  unfold seg;rw [List.length_take,List.length_drop];omega
 have hn':O[n]? = some (.ml (x.2.2.map dC)):=hn;unfold QgN;rw [e1];dsimp only;rw [hn'];dsimp only;rw [e2];dsimp only;rw [hn'];show (if (x.2.2.map dC).length+((seg q p).map dC).length≤1000000 then _ else _)=_;rw [if_pos (by rw [zd,zd]; omega),←zM];rfl
theorem QrC {T:List D}{p:Nat×Nat}:Qhl (eR pl d e nm T (some (.str Qjx)) (some (dZ p))) O = .nx (eR pl d e nm T (some (.str Qjx)) (some (dZ p))) O:=rfl
theorem Qvq {T:List D}{x:Wr}{n:Nat}{p:Nat×Nat} (he:Is O e q) (hn:O[n]? = some (wO x)) (hl:x.2.2.length+q.length≤100000):Qhl (eR pl d e nm (T ++ [dH x n]) (some (.str kOn)) (some (dZ p))) O = .nx (eR pl d e nm (T ++ [dH x n]) (some (.str kOn)) (some (dZ p))) (O.set n (QaS (x.2.2++seg q p))):=Qpy he hn hl
theorem QpF {T:List D}{p:Nat×Nat} (he:Is O e q) (hl:q.length≤1000) (hT:T.length < 100000):Qhl (eR pl d e nm T (some (.str QdM)) (some (dZ p))) O = .nx (eR pl d e nm (T ++ [dH (pl,p.1,seg q p) O.length]) (some (.str QdM)) (some (dZ p))) (O ++ [QaS (seg q p)]):=by
 have e1:QaZ (Qab (mG (Qaa 0)) (Qab (Qad gIx (Qaa 6) (mC (.int 0))) (Qab (mMl (Qa3 Qae)) Qae))) (eR pl d e nm T (some (.str QdM)) (some (dZ p))) O = .ok (dH (pl,p.1,[]) O.length) (O ++ [Ob.ml []]):=rfl
 have s1:Qbt 4 (QaZ (Qab (mG (Qaa 0)) (Qab (Qad gIx (Qaa 6) (mC (.int 0))) (Qab (mMl (Qa3 Qae)) Qae)))) (eR pl d e nm T (some (.str QdM)) (some (dZ p))) O = .nx (eR pl d e nm (T ++ [dH (pl,p.1,[]) O.length]) (some (.str QdM)) (some (dZ p))) (O ++ [Ob.ml []]):=by
  rw [QoK,e1,QoR (ds:=T) rfl (by omega)];rfl
 have x:=Qpy (pl:=pl) (d:=d) (nm:=nm) (O:=O ++ [Ob.ml []]) (T:=T) (x:=(pl,p.1,[])) (n:=O.length) (p:=p) (k:=QdM) (he.app _) (by simp [wO,QaS]) (by simp; omega);have t1:Qar (Qad gEq (Qaa 5) (mC (.str [98,101,103,105,110]))) (eR pl d e nm T (some (.str QdM)) (some (dZ p))) O = .ok true O:=rfl;have t2:Qar (Qad gNe (Qaa 5) (mC (.str [112,97,115,115]))) (eR pl d e nm (T ++ [dH (pl,p.1,[]) O.length]) (some (.str QdM)) (some (dZ p))) (O ++ [Ob.ml []]) = .ok true (O ++ [Ob.ml []]):=rfl;unfold Qhl;rw [QaA,Qbz t1,s1,Qay,Qbz t2,x,zJ,List.set_append_right _ _ (zb _),Nat.sub_self];rfl
end
theorem Qmh:∀(k:Nat) (done:List Row) (b:Row) (rest:List Row),(sps k (done++b::rest))[done.length]? = some (k+done.flatten.length,b.length)
 | k,[],b,rest=>rfl
 | k,a::done,b,rest=>by
  show (sps (k+a.length) (done++b::rest))[done.length]? = _;rw [Qmh,List.flatten_cons,zg,Nat.add_assoc]
def gz:MG:=Qb9 2 (QaB (mgN 5) (QaB (mgN 6) Qbr))
def RwO (pl:Nat) (d e nm:D) (r q:Row) (O0:Qac) (L:List D) (ρ:Qah) (O:Qac) (V:List Sg):Prop:=∃O' ns' a5' a6',Qbo gz Qhl L ρ O = .nx (eR pl d e nm (hT (V.map (wr pl)) ns') a5' a6') O'∧(∃s',StV r q q.length s' V)∧HW O' (V.map (wr pl)) ns'∧ns'.Nodup∧(∀n∈ns',O0.length≤n)∧Agr O0 O'∧O0.length≤O'.length
theorem QmB {pl:Nat}{d e nm:D}{r:Row}{bs:List Row} (hbs:bs.length≤100) (hq:bs.flatten.length≤100) {O0:Qac} (he:Is O0 e bs.flatten) {ps:Tb}:∀(rest done:List Row) (s:Nat) (ms:List M3) (O:Qac) (V:List Sg) (ns:List Nat) (a5 a6:Option D),bs=done++rest→(s=0∨s=1)→Wy ps (mvC r bs) (fnC bs) ((done.length:Int),(s:Int)) ms→StV r bs.flatten done.flatten.length s V→HW O (V.map (wr pl)) ns→ns.Nodup→(∀n∈ns,O0.length≤n)→Agr O0 O→O0.length≤O.length→V.length≤done.length →
  RwO pl d e nm r bs.flatten O0 (Qcp (ms.map fun m=>.str m.name) ((sps done.flatten.length rest).map dZ)) (eR pl d e nm (hT (V.map (wr pl)) ns) a5 a6) O (rnV bs.flatten V (ms.map (·.name)) (sps done.flatten.length rest))
 | [],done,s,ms,O,V,ns,a5,a6,hb,hs,w,st,hw,hnd,hlb,ag,hO,hV=>by
  rw [zO] at hb;subst hb
  have e0:Qcp (ms.map fun m=>D.str m.name) ((sps bs.flatten.length []).map dZ) = []:=by cases ms <;> rfl
  have e1:rnV bs.flatten V (ms.map (·.name)) (sps bs.flatten.length [])=V:=by cases ms <;> rfl
  rw [e0,e1];exact ⟨O,ns,a5,a6,rfl,⟨s,st⟩,hw,hnd,hlb,ag,hO⟩
 | b::rest,done,s,ms,O,V,ns,a5,a6,hb,hs,w,st,hw,hnd,hlb,ag,hO,hV=>by
  have hp:(sps 0 bs)[done.length]? = some (done.flatten.length,b.length):=by rw [hb,Qmh,zC]
  have hl:done.flatten.length+b.length≤bs.flatten.length:=by rw [hb,List.flatten_append,List.flatten_cons,zg,zg]; omega
  have hbl:done.length < bs.length:=by rw [hb,zg,zA]; omega
  cases ms with
  | nil =>
   have:=jg (show fnC bs ((done.length:Int),(s:Int))=true from w)
   have z:(done.length:Int)=(bs.length:Int):=this;omega
  | cons m ms =>
   obtain ⟨_,w2,w3⟩:=w;obtain ⟨_,p,hp',hm⟩:=Qo2 (List.mem_of_find?_eq_some w2);rw [hp] at hp';cases hp'
   have hb':bs=(done ++ [b])++rest:=by rw [zP]; exact hb
   have fl:(done ++ [b]).flatten.length=done.flatten.length+b.length:=by rw [List.flatten_append,List.flatten_singleton,zg]
   have dl:(done ++ [b]).length=done.length+1:=by rw [zg]; rfl
   have hsg:(seg bs.flatten (done.flatten.length,b.length)).length≤100:=by rw [Qka hl]; omega
   have go:∀(s':Nat) (O1:Qac) (ns1:List Nat) (V1:List Sg),stV bs.flatten V m.name (done.flatten.length,b.length)=V1→(s'=0∨s'=1)→m.other=((done.length:Int)+1,(s':Int))→StV r bs.flatten (done.flatten.length+b.length) s' V1→HW O1 (V1.map (wr pl)) ns1→ns1.Nodup→(∀n∈ns1,O0.length≤n)→Agr O0 O1→O0.length≤O1.length→V1.length≤done.length+1→Qhl (eR pl d e nm (hT (V.map (wr pl)) ns) (some (.str m.name)) (some (dZ (done.flatten.length,b.length)))) O = .nx (eR pl d e nm (hT (V1.map (wr pl)) ns1) (some (.str m.name)) (some (dZ (done.flatten.length,b.length)))) O1 →
     RwO pl d e nm r bs.flatten O0 (Qcp ((m::ms).map fun m=>.str m.name) ((sps done.flatten.length (b::rest)).map dZ)) (eR pl d e nm (hT (V.map (wr pl)) ns) a5 a6) O (rnV bs.flatten V ((m::ms).map (·.name)) (sps done.flatten.length (b::rest))):=fun s' O1 ns1 V1 eV hs' hmo st1 hw1 hnd1 hlb1 ag1 hO1 hV1 eb=>by
    have ih:=QmB (pl:=pl) (d:=d) (nm:=nm) (r:=r) hbs hq he (ps:=ps) rest (done ++ [b]) s' ms O1 V1 ns1 (some (.str m.name)) (some (dZ (done.flatten.length,b.length))) hb' hs' (by rw [hmo] at w3; rw [dl]; exact w3) (by rw [fl]; exact st1) hw1 hnd1 hlb1 ag1 hO1 (by rw [dl]; exact hV1);rw [fl] at ih
    have er:rnV bs.flatten V ((m::ms).map (·.name)) (sps done.flatten.length (b::rest))=rnV bs.flatten V1 (ms.map (·.name)) (sps (done.flatten.length+b.length) rest):=by
     rw [←eV];rfl
    rw [er];obtain ⟨O',ns',a5',a6',e1,r1⟩:=ih;refine ⟨O',ns',a5',a6',?_,r1⟩;show Qbo gz Qhl (.tup [.str m.name,dZ (done.flatten.length,b.length)]::Qcp (ms.map fun m=>.str m.name) ((sps (done.flatten.length+b.length) rest).map dZ)) _ O=_;unfold Qbo;rw [show gz (.tup [.str m.name,dZ (done.flatten.length,b.length)]) (eR pl d e nm (hT (V.map (wr pl)) ns) a5 a6)=some (eR pl d e nm (hT (V.map (wr pl)) ns) (some (.str m.name)) (some (dZ (done.flatten.length,b.length)))) from rfl];dsimp only;rw [eb];exact e1
   have hlt:=Qfy hw
   rcases hm with ⟨hn,ha,ho⟩ | ⟨hn,hs0,ho⟩ | ⟨hn,hs1,ho⟩
   ·refine go 0 O ns V (by rw [hn]; rfl) (.inl rfl) ho (st.pass ha) hw hnd hlb ag hO (by omega) ?_;rw [hn];exact QrC
   ·have hw1:HW (O ++ [QaS (seg bs.flatten (done.flatten.length,b.length))]) (V.map (wr pl)) ns:=Qeq (fun n hn=>zr (hlt.1 n hn)) hw;obtain ⟨h1,h2⟩:=Qja (W':=[wr pl (done.flatten.length,seg bs.flatten (done.flatten.length,b.length))]) (ns':=[O.length]) ⟨by simp [wO,wr],trivial⟩ hw1;refine go 1 (O ++ [QaS (seg bs.flatten (done.flatten.length,b.length))]) (ns ++ [O.length]) (V ++ [(done.flatten.length,seg bs.flatten (done.flatten.length,b.length))]) (by rw [hn]; rfl) (.inr rfl) ho (st.begn hl) (by rw [zM]; exact h1) (zZ.mpr ⟨hnd,by simp,fun x hx y hy z=>by rw [zo.mp hy] at z; have:=hlt.1 x hx; omega⟩) (fun n hn=>?_) (fun j hj=>(zr (by omega)).trans (ag j hj)) (by simp; omega) (by simp; omega) ?_
    ·rcases zz.mp hn with hn | hn
     ·exact hlb n hn
     ·rw [zo.mp hn]; exact hO
    ·have eb:=QpF (pl:=pl) (d:=d) (nm:=nm) (T:=hT (V.map (wr pl)) ns) (p:=(done.flatten.length,b.length)) (he.agr ag) (by omega) (by rw [hlt.2.2,zd]; omega);rw [hn,eb,zM];refine congrArg (fun T=>Fl.nx (eR pl d e nm T _ _) _) ?_;exact h2.symm
   ·obtain rfl:s=1:=by omega
    obtain ⟨st1,V',x,rfl⟩:=st.onn hl;rw [QiM] at st1;rw [zM] at hw;obtain ⟨ks,n,rfl,hw1,hn1,hT1⟩:=Qrf hw;have hnd':=zZ.mp hnd
    have nk:n∉ks:=fun z=>hnd'.2.2 n z n (zo.mpr rfl) rfl
    have nO:=hlb n (zI _ (zo.mpr rfl));obtain ⟨h1,h2⟩:=Qja (O:=O.set n (QaS (x.2++seg bs.flatten (done.flatten.length,b.length)))) (W':=[wr pl (x.1,x.2++seg bs.flatten (done.flatten.length,b.length))]) (ns':=[n]) ⟨QhY hn1,trivial⟩ (Qeq (fun m hm=>zj (fun z:n=m=>nk (by rw [z]; exact hm))) hw1)
    have xl:x.2.length≤100:=by
     have:=(st.inn x (zI _ (zo.mpr rfl))).1
     omega
    refine go 1 (O.set n (QaS (x.2++seg bs.flatten (done.flatten.length,b.length)))) (ks ++ [n]) (V' ++ [(x.1,x.2++seg bs.flatten (done.flatten.length,b.length))]) (by rw [hn]; exact QiM _ _ _) (.inr rfl) ho st1 (by rw [zM]; exact h1) hnd hlb (fun j hj=>(zj (by omega)).trans (ag j hj)) (by rw [zN]; exact hO) (by rw [zg] at hV ⊢; simp at hV ⊢; omega) ?_;have eb:=Qvq (pl:=pl) (d:=d) (nm:=nm) (T:=hT (V'.map (wr pl)) ks) (x:=wr pl x) (n:=n) (p:=(done.flatten.length,b.length)) (he.agr ag) hn1 (by show x.2.length+_≤_; omega);rw [zM,zM];show Qhl (eR pl d e nm (hT (V'.map (wr pl) ++ [wr pl x]) (ks ++ [n])) _ _) O = .nx (eR pl d e nm (hT (V'.map (wr pl) ++ [wr pl (x.1,x.2++seg bs.flatten (done.flatten.length,b.length))]) (ks ++ [n])) _ _) _
    rw [hT1,hn,eb,h2];rfl
theorem QgY {n:Nat}{all:List D}{g:MG}{b:MS} (Pv:Nat→Qah→Qac→Prop) (hn:∀k ρ O,Pv k ρ O→O[n]? = some (.ml all))
  (hs:∀i d ρ O,all[i]? = some d→Pv i ρ O→∃ρ1,g (.tup [.int (i:Int),d]) ρ=some ρ1∧∃ρ2 O2,b ρ1 O = .nx ρ2 O2∧Pv (i+1) ρ2 O2):∀(ds:List D) (k:Nat) (ρ:Qah) (O:Qac),k+ds.length=all.length→Pv k ρ O→∃ρ' O',QdO n all g b ds ρ O = .nx ρ' O'∧Pv all.length ρ' O'
 | [],k,ρ,O,hk,h=>by
  rw [jj,Nat.add_zero] at hk;refine ⟨ρ,O,?_,hk ▸ h⟩;unfold QdO;rw [hn k ρ O h];dsimp only;rw [if_pos rfl]
 | d::ds,k,ρ,O,hk,h=>by
  rw [zA] at hk
  have hi:all.length - (ds.length+1)=k:=by omega
  have hx:all[k]? = some (all[k]'(by omega)):=zh _;obtain ⟨ρ1,e1,ρ2,O2,e2,h2⟩:=hs k _ ρ O hx h;obtain ⟨ρ',O',e3,h3⟩:=QgY Pv hn hs ds (k+1) ρ2 O2 (by omega) h2;refine ⟨ρ',O',?_,h3⟩;unfold QdO;rw [hn k ρ O h];dsimp only;rw [hi,hx];dsimp only;rw [e1];dsimp only;rw [e2];exact e3
theorem Qnp {r q:Row} (hr:ROk r) (hq:ROk q) (wq:Wf q) (hl:q.length≤40):∃V:List Sg,(∃s,StV r q q.length s V)∧V.length≤40∧∀(pl:Nat) (O:Qac) (d e:D),Is O d r→Is O e q →
  ∃O' ns,QeG [.int (pl:Int),d,e] O = .ok (.lst (hT (V.map (wr pl)) ns)) O'∧HW O' (V.map (wr pl)) ns∧ns.Nodup∧(∀n∈ns,O.length≤n)∧Agr O O'∧O.length≤O'.length:=by
 obtain ⟨bs,hbs,rfl⟩:=wq;have bl:=Qjj hbs;obtain ⟨_,ps0,c0,ms0,_,_,hP0,_,w0⟩:=Qrq (trC hbs hl hr hq 0) (neC r bs) (by omega) (O:=[.ins "Change" (fs2 r bs)]) rfl
 have main:∀(pl:Nat) (O:Qac) (d e nm:D),Is O e bs.flatten→∀O2:Qac,Agr O O2→O.length≤O2.length→RwO pl d e nm r bs.flatten O (Qcp (ms0.map fun m=>.str m.name) ((sps 0 bs).map dZ)) (eR pl d e nm [] none none) O2 (rnV bs.flatten [] (ms0.map (·.name)) (sps 0 bs)):=fun pl O d e nm he O2 ag hO =>
  QmB (by omega) (by omega) he bs [] 0 ms0 O2 [] [] none none rfl (.inl rfl) w0 ⟨fun x hx=>(nomatch hx),fun i hi=>absurd hi (Nat.not_lt_zero _),fun z=>(nomatch z)⟩ trivial List.nodup_nil (fun n hn=>(nomatch hn)) ag hO (zb _)
 obtain ⟨_,_,_,_,_,st,_⟩:=main 0 [] (.lst (bs.flatten.map dC)) (.lst (bs.flatten.map dC)) .non (.inl rfl) [] (fun _ _=>rfl) (zb _)
 have rl:∀(ns:List (List Nat)) (V:List Sg) (ps:List (Nat×Nat)),(rnV bs.flatten V ns ps).length≤V.length+ps.length:=by
  intro ns
  induction ns with
  | nil=>intro V ps; cases ps <;> simp [rnV]
  | cons n ns ih =>
   intro V ps
   cases ps with
   | nil=>simp [rnV]
   | cons p ps =>
    have:=ih (stV bs.flatten V n p) ps
    have hv:(stV bs.flatten V n p).length≤V.length+1:=by
     unfold stV exl
     split
     ·omega
     ·split
      ·simp
      ·split
       ·simp
       ·omega
    show (rnV bs.flatten (stV bs.flatten V n p) ns ps).length≤_;rw [zA];omega
 have rl0:=rl (ms0.map (·.name)) [] (sps 0 bs);rw [QdW,jj] at rl0;refine ⟨_,st,by omega,fun pl O d e hd he=>?_⟩;have ei:=Qtb O hbs (by omega) hr hq hd he;obtain ⟨O2,ps,c,ms,e2,keep,hP,_,w⟩:=Qrq (trC hbs hl hr hq O.length) (neC r bs) (by omega) (O:=O ++ [.ins "Change" (fs2 r bs)]) QgM;have em:=Qrj (trC hbs hl hr hq 0).fw hP0 hP ms0 ms 0 (0,0) (Nat.zero_le _) (by simp [ndC]) w0 w;subst em
 have ag:Agr O O2:=fun j hj=>by
  have h1:O[j]? = some O[j]:=zh hj;rw [h1];exact keep j _ (by rw [zr hj]; exact h1)
 have hO:O.length≤O2.length:=by
  have:=(ze.mp (keep O.length _ QgM)).1
  omega
 obtain ⟨O',ns,a5,a6,ef,_,h1,h2,h3,h4,h5⟩:=main pl O d e (.lst (ms.map fun m=>.str m.name)) he O2 ag hO;refine ⟨O',ns,?_,h1,h2,h3,h4,h5⟩
 have mk:Qha "Change" Qcl (Qab (Qaa 1) (Qab (Qaa 2) Qae)) [some (.int (pl:Int)),some d,some e,none,none,none,none] O = .ok (.ob O.length) (O ++ [.ins "Change" (fs2 r bs)]):=by
  rw [Quh,maS (x:=d) rfl (ma1 (x:=e) rfl),Qam,ei,Qtd]
 have s3:Qad gIx (Qat Qhf (Qab (Qha "Change" Qcl (Qab (Qaa 1) (Qab (Qaa 2) Qae))) Qae)) (mC (.int 1)) [some (.int (pl:Int)),some d,some e,none,none,none,none] O = .ok (.lst (ms.map fun m=>.str m.name)) O2:=by
  rw [Qrn,QgJ,Qds,mk,Qam,Qjn,Qam,Qam,e2,Qam,m_c,Qam];rfl
 have ez:Qk8 (Qaa 3) (Qat QbY (Qab (Qaa 2) Qae)) (eR pl d e (.lst (ms.map fun m=>.str m.name)) [] none none) O2 = .ok (Qcp (ms.map fun m=>.str m.name) ((sps 0 bs).map dZ)) O2:=by
  rw [Qvw,show Qaa 3 (eR pl d e (.lst (ms.map fun m=>D.str m.name)) [] none none) O2 = .ok (.lst (ms.map fun m=>.str m.name)) O2 from rfl,Qam,Qbg (ma1 (x:=e) rfl),Qts bs hbs (by omega) O2 e (he.agr ag),Qam,Qvg]
 unfold Qhl gz at ef;show Qa7 (QeN [some (.int (pl:Int)),some d,some e,none,none,none,none] O)=_;unfold QeN;rw [sq (QfZ s3),sq (QaW (d:=.lst []) (Qi3 rfl (Nat.zero_le _)))];show Qa7 (Qaj (Qa8 _ _ _) _ (eR pl d e (.lst (ms.map fun m=>.str m.name)) [] none none) O2)=_;rw [QaA,Qcm,ez,Qb2,ef,Qay];rfl
open Classical in
noncomputable def rwV (r q:Row):List Sg:=if h:ROk r∧ROk q∧Wf q∧q.length≤40∧r≠q then (Qnp h.1 h.2.1 h.2.2.1 h.2.2.2.1).choose else []
noncomputable def pwk (P Q:List Row) (k:Nat):List Wr:=(List.range k).flatMap fun i=>(rwV (P.getD i []) (Q.getD i [])).map (wr i)
def HP (O:Qac) (D':D) (P:List Row):Prop:=∃is:List Nat,(D'=pD is∨∃h,D' = .ob h∧O[h]? = some (.ml (is.map D.ob)))∧is.length=P.length∧∀(k i:Nat),is[k]? = some i→∃r,P[k]? = some r∧O[i]? = some (QaS r)
theorem HP.agr {O O':Qac}{D':D}{P:List Row} (h:HP O D' P) (a:Agr O O'):HP O' D' P:=by
 obtain ⟨is,h1,h2,h3⟩:=h;refine ⟨is,?_,h2,fun k i hk=>?_⟩
 ·rcases h1 with h1 | ⟨n,h1,h4⟩
  ·exact .inl h1
  ·exact .inr ⟨n,h1,(a n (ze.mp h4).1).trans h4⟩
 ·obtain ⟨r,e1,e2⟩:=h3 k i hk;exact ⟨r,e1,(a i (ze.mp e2).1).trans e2⟩
def QhK:MS:=(QaM (Qar (Qad gNe (Qad gIx (Qaa 0) (Qaa 3)) (Qaa 4))) (Qiu 2 (Qat QeG (Qab (Qaa 3) (Qab (Qad gIx (Qaa 0) (Qaa 3)) (Qab (Qaa 4) Qae))))) QaO)
def eA (D1 D2:D) (T:List D) (a3 a4:Option D):Qah:=[some D1,some D2,some (.lst T),a3,a4]
structure PW (O0 O:Qac) (W:List Wr) (ns:List Nat):Prop where
 hw:HW O W ns
 nd:ns.Nodup
 lb:∀n∈ns,O0.length≤n
 ag:Agr O0 O
 le:O0.length≤O.length
theorem QsM {h w:Nat} (hh:h≤12) (hw40:w≤40) {P Q:List Row} (hP:Pic P h w) (hQ:Pic Q h w) {O0 O:Qac}{D1 D2:D} (h1:HP O0 D1 P) {k j:Nat} (hk:k < h) (hj:O0[j]? = some (QaS (Q.getD k []))) {ns:List Nat} (pw:PW O0 O (pwk P Q k) ns) (hWl:(pwk P Q k).length≤40 * k) :
  ∃O' ns',QhK (eA D1 D2 (hT (pwk P Q k) ns) (some (.int (k:Int))) (some (.ob j))) O = .nx (eA D1 D2 (hT (pwk P Q (k+1)) ns') (some (.int (k:Int))) (some (.ob j))) O'∧PW O0 O' (pwk P Q (k+1)) ns'∧(pwk P Q (k+1)).length≤40 * (k+1):=by
 have hkP:k < P.length:=by rw [hP.len]; exact hk
 have hkQ:k < Q.length:=by rw [hQ.len]; exact hk
 have gP:P[k]? = some (P.getD k []):=by rw [zY,zh hkP]; rfl
 have gQ:Q[k]? = some (Q.getD k []):=by rw [zY,zh hkQ]; rfl
 have mP:=zx gP;have mQ:=zx gQ
 have eW:pwk P Q (k+1)=pwk P Q k++(rwV (P.getD k []) (Q.getD k [])).map (wr k):=by
  unfold pwk;rw [List.range_succ,List.flatMap_append,List.flatMap_singleton]
 obtain ⟨is,hD,hil,hrow⟩:=h1.agr pw.ag;obtain ⟨i,hi⟩:∃i,is[k]? = some i:=⟨_,zh (by rw [hil]; exact hkP)⟩;obtain ⟨r',er,ei⟩:=hrow k i hi;rw [gP] at er;cases er;have ej:O[j]? = some (QaS (Q.getD k [])):=(pw.ag j (ze.mp hj).1).trans hj
 have ix:Qad gIx (Qaa 0) (Qaa 3) (eA D1 D2 (hT (pwk P Q k) ns) (some (.int (k:Int))) (some (.ob j))) O = .ok (.ob i) O:=Qaz (x:=D1) (y:=.int (k:Int)) rfl rfl (by
  have:QaI O D1 = .lst (is.map D.ob):=by
   rcases hD with rfl | ⟨n,rfl,hn⟩
   ·rfl
   ·exact QeD hn
  rw [this]
  exact Qeb (by rw [zm,hi]; rfl))
 have okP:=(QgG (hP.ok _ mP)).2.2.2;have okQ:=(QgG (hQ.ok _ mQ)).2.2.2
 have tst:Qar (Qad gNe (Qad gIx (Qaa 0) (Qaa 3)) (Qaa 4)) (eA D1 D2 (hT (pwk P Q k) ns) (some (.int (k:Int))) (some (.ob j))) O = .ok (!QcA (dRw (P.getD k [])) (dRw (Q.getD k []))) O:=Qcv (Qaz ix (y:=.ob j) rfl (by
  rw [QeD ei,QeD ej];show gNe (dRw _) (dRw _)=_;unfold dRw at okP okQ ⊢
  rw [Qvv,okP,okQ,Bool.and_self,if_pos rfl]))
 by_cases he:P.getD k []=Q.getD k []
 ·have eV:rwV (P.getD k []) (Q.getD k []) = []:=by
   unfold rwV;rw [dif_neg fun z=>z.2.2.2.2 he]
  rw [eV,zQ,zO] at eW;rw [eW];refine ⟨O,ns,?_,pw,by omega⟩;rw [he,QhC okQ] at tst;unfold QhK;rw [Qbb tst];rfl
 ·have hc:ROk (P.getD k [])∧ROk (Q.getD k [])∧Wf (Q.getD k [])∧(Q.getD k []).length≤40∧P.getD k []≠Q.getD k []:=⟨hP.ok _ mP,hQ.ok _ mQ,hQ.wf _ mQ,by rw [hQ.wd _ mQ]; exact hw40,he⟩
  have eV:rwV (P.getD k []) (Q.getD k [])=(Qnp hc.1 hc.2.1 hc.2.2.1 hc.2.2.2.1).choose:=by
   unfold rwV;rw [dif_pos hc]
  obtain ⟨_,vl,ev⟩:=(Qnp hc.1 hc.2.1 hc.2.2.1 hc.2.2.2.1).choose_spec;rw [←eV] at vl ev;obtain ⟨O',ns',e1,g1,g2,g3,g4,g5⟩:=ev k O (.ob i) (.ob j) (.inr ⟨i,rfl,ei⟩) (.inr ⟨j,rfl,ej⟩);have hlt:=Qfy pw.hw;have hle:=pw.le;obtain ⟨k1,k2⟩:=Qja g1 (Qeq (fun n hn=>g4 n (hlt.1 n hn)) pw.hw);rw [eW];refine ⟨O',ns++ns',?_,⟨k1,zZ.mpr ⟨pw.nd,g2,fun x hx y hy z=>by have:=hlt.1 x hx; have:=g3 y hy; omega⟩,fun n hn=>?_,fun x hx=>(g4 x (by omega)).trans (pw.ag x hx),by omega⟩,by rw [zg,zd]; omega⟩
  ·have ne:QcA (dRw (P.getD k [])) (dRw (Q.getD k []))=false:=Bool.eq_false_iff.mpr fun z=>he (Qjq z)
   rw [ne] at tst;have hg1:=Qfy g1;unfold QhK;rw [Qbz tst,Qtg,Qbg (maS (x:=.int (k:Int)) rfl (maS ix (ma1 (x:=.ob j) rfl))),e1,Qs8 (ds:=hT (pwk P Q k) ns) rfl (by rw [hlt.2.2,hg1.2.2,zd]; omega),k2];rfl
  ·rcases zz.mp hn with hn | hn
   ·exact pw.lb n hn
   ·have:=g3 n hn
    omega
structure WOk (h w:Nat) (x:Wr):Prop where
 rw:x.1 < h
 cl:x.2.1+x.2.2.length≤w
 ok:ROk x.2.2
def put (Q:List Row) (x:Wr):List Row:=Q.set x.1 (ck x.2.1 x.2.2 x.2.2.length ((Q[x.1]?).getD []))
def lay (W:List Wr) (P:List Row):List Row:=W.foldl put P
theorem puL (Q:List Row) (x:Wr):(put Q x).length=Q.length:=zN
theorem QjS:∀(W:List Wr) (P:List Row),(lay W P).length=P.length
 | [],_=>rfl
 | x::W,P=>(QjS W (put P x)).trans (puL P x)
theorem QqU {w:Nat}{Q:List Row}{x:Wr} (hx:x.1 < Q.length) (h:∀r∈Q,r.length=w):∀r∈put Q x,r.length=w:=fun r hr=>by
 rcases List.mem_or_eq_of_mem_set hr with hr | rfl
 ·exact h r hr
 ·rw [Qi8,zh hx,Option.getD_some];exact h _ (jf hx)
theorem Qm3 {w:Nat}:∀{W:List Wr}{P:List Row},(∀x∈W,x.1 < P.length)→(∀r∈P,r.length=w)→∀r∈lay W P,r.length=w
 | [],_,_,h=>h
 | x::W,P,hx,h=>Qm3 (W:=W) (P:=put P x) (fun y hy=>by rw [puL]; exact hx y (zu _ hy)) (QqU (hx x zq) h)
theorem QqM {W:List Wr}{P:List Row}{i:Nat}{x:Wr} (h:W[i]? = some x):lay (W.take (i+1)) P=put (lay (W.take i) P) x:=by
 have hi:=(ze.mp h).1;rw [List.take_succ_eq_append_getElem hi]
 have:W[i]=x:=(ze.mp h).2
 rw [this];unfold lay;rw [List.foldl_append];rfl
theorem QvF {P:List Row} (hl:P.length≤1000) {m:L2.M D}{ρ:Qah}{O:Qac} (hm:m ρ O = .ok (dP P) O):Qbw (Qba m) 1 [] (mgN 0) Qcj (mMl (Qav Qcr (Qab (Qaa 0) Qae))) ρ O = .ok (pD (ids O.length P.length)) (O++P.map QaS):=by
 have ec:=QiW (g:=mgN 0) (t:=Qcj) (m:=Qav Qcr (Qab (Qaa 0) Qae)) (fun ρ=>∃a,ρ = [a]) dRw (fun r=>r.map dC) O P [none] [] [] ⟨_,rfl⟩ (by
  rintro r hr ρ ⟨a,rfl⟩ E
  exact ⟨_,rfl,⟨_,rfl⟩,rfl,Qie (d:=dRw r) rfl rfl⟩)
 rw [zO,zJ,zJ,jj,Nat.add_zero] at ec;exact Qdt (own:=1) (cap:=[]) (Qdd hm) (by rw [zd]; omega) rfl ec
theorem QsO {P:List Row} (hl:P.length≤1000) (O:Qac):QcJ [dP P] O = .ok (pD (ids O.length P.length)) (O++P.map QaS):=by
 show Qa7 (QaE _ [some (dP P)] O)=_;rw [Qf8];exact (congrArg (fun r=>Qa7 (Qhx r)) (QvF hl (m:=Qaa 0) (ρ:=[some (dP P)]) rfl)).trans rfl
theorem Qsc {O:Qac}{Q:List Row}{r c j:Nat}{row:Row}{cs:Row}{d:C} (hr:r < Q.length) (hj:cs[j]? = some d) (hw:c+cs.length≤row.length) {mo mi m:L2.M D}{ρ:Qah}
  (h:∀O',m ρ O' = .ok (dC d) O') (ho:∀O',mo ρ O' = .ok (.ob (O.length+r)) O') (hi:∀O',mi ρ O' = .ok (.int ((c+j:Nat):Int)) O') :
  Qea mo mi m ρ (O++(Q.set r (ck c cs j row)).map QaS) = .nx ρ (O++(Q.set r (ck c cs (j+1) row)).map QaS):=by
 have hjl:=(ze.mp hj).1;have s:=setC (O:=O) (Q:=Q.set r (ck c cs j row)) (t:=r) (j:=c+j) (row:=ck c cs j row) (c:=d) (by rw [zK hr]) (h _) (ho _) (hi _) (by rw [Qi8]; omega);rw [s,List.set_set];show Fl.nx ρ _=Fl.nx ρ (O++(Q.set r ((ck c cs j row).set (c+j) ((cs[j]?).getD bl))).map QaS);rw [hj,Option.getD_some]
theorem Qpp {Q:List Row}{x:Wr}{row:Row} (h:Q[x.1]? = some row):put Q x=Q.set x.1 (ck x.2.1 x.2.2 x.2.2.length row):=by
 unfold put;rw [h,Option.getD_some]
def g2:MG:=Qb9 2 (QaB (mgN 4) (QaB (mgN 5) Qbr))
def QuH:MS:=Qea (Qad gIx (Qaa 2) (Qad gIx (Qaa 3) (mC (.int 0)))) (Qad QaK (Qad gIx (Qaa 3) (mC (.int 1))) (Qaa 4)) (Qaa 5)
def QnD:MS:=Qd0 (Qad gIx (Qaa 3) (mC (.int 2))) g2 QuH
def eQ (A B:D) (is:List Nat) (a3 a4 a5:Option D):Qah:=[some A,some B,some (pD is),a3,a4,a5]
theorem QuZ (A B:D) (h w:Nat) (hw:w≤40) (x:Wr) (n:Nat) (hx:WOk h w x) (O:Qac) (hn:O[n]? = some (wO x)) {Q:List Row} (hQ:Q.length=h) (hQw:∀r∈Q,r.length=w) (a4 a5:Option D) :
  ∃b4 b5,QnD (eQ A B (ids O.length h) (some (dH x n)) a4 a5) (O++Q.map QaS) = .nx (eQ A B (ids O.length h) (some (dH x n)) b4 b5) (O++(put Q x).map QaS):=by
 have hxr:=hx.rw;have hxc:=hx.cl;have hq:Q[x.1]? = some (Q[x.1]'(by omega)):=zh _;have hrw:=hQw _ (jf (show x.1 < Q.length by omega))
 generalize Q[x.1]'(by omega)=row at hq hrw
 have hnl:=(ze.mp hn).1
 have hn':∀E:Qac,(O++E)[n]? = some (.ml (x.2.2.map dC)):=fun E=>by
  rw [zr hnl];exact hn
 obtain ⟨ρ1,O1,e1,b4,b5,rfl,rfl⟩:=QgY (n:=n) (all:=x.2.2.map dC) (g:=g2) (b:=QuH)
  (fun j ρ O'=>∃b4 b5,O'=O++(Q.set x.1 (ck x.2.1 x.2.2 j row)).map QaS∧ρ=eQ A B (ids O.length h) (some (dH x n)) b4 b5) (by
   rintro k ρ O' ⟨b4,b5,rfl,rfl⟩
   exact hn' _) (by
   rintro j d ρ O' hj ⟨b4,b5,rfl,rfl⟩;rw [zm] at hj
   cases hd:x.2.2[j]? with
   | none=>rw [hd] at hj; cases hj
   | some c =>
    rw [hd] at hj;cases hj
    refine ⟨_,rfl,_,_,Qsc (d:=c) (by omega) hd (by omega) (fun O'=>rfl) (fun O'=>Qaz (x:=pD (ids O.length h)) (y:=.int (x.1:Int)) rfl (Qaz (x:=dH x n) (y:=.int 0) rfl rfl rfl) (Qeb (by rw [zm,Qoi _ _ _ hxr]; rfl))) (fun O'=>by rw [jl]; exact QdC (Qaz (x:=dH x n) (y:=.int 1) rfl rfl rfl) rfl),some (.int (j:Int)),some (dC c),rfl,rfl⟩) (x.2.2.map dC) 0 (eQ A B (ids O.length h) (some (dH x n)) a4 a5) (O++Q.map QaS) (zC _)
  ⟨a4,a5,by rw [show ck x.2.1 x.2.2 0 row=row from rfl,Qqa hq],rfl⟩
 rw [zd] at e1;refine ⟨b4,b5,?_⟩;have e0:Qad gIx (Qaa 3) (mC (.int 2)) (eQ A B (ids O.length h) (some (dH x n)) a4 a5) (O++Q.map QaS) = .ok (.ob n) (O++Q.map QaS):=Qaz (x:=dH x n) (y:=.int 2) rfl rfl rfl;unfold QnD Qd0;rw [e0];dsimp only;unfold Qhy;rw [e0];dsimp only;rw [hn'];dsimp only;rw [e1,Qpp hq]
theorem QkW {O:Qac}:∀{W:List Wr}{ns:List Nat}{i:Nat}{d:D},HW O W ns→(hT W ns)[i]? = some d→∃x n,W[i]? = some x∧O[n]? = some (wO x)∧d=dH x n
 | [],[],i,d,_,h=>by cases i <;> cases h
 | x::W,n::ns,0,d,h,e=>by cases e; exact ⟨x,n,rfl,h.1,rfl⟩
 | x::W,n::ns,i+1,d,h,e=>by
  obtain ⟨y,m,h1,h2,h3⟩:=QkW (W:=W) (ns:=ns) (i:=i) (d:=d) h.2 e;exact ⟨y,m,h1,h2,h3⟩
 | [],_::_,_,_,h,_=>h.elim
 | _::_,[],_,_,h,_=>h.elim
theorem QoA (h w:Nat) (hh:h≤12) (hw:w≤40) {P:List Row} (hP:Pic P h w) {W:List Wr} (hW:∀x∈W,WOk h w x) {O:Qac}{is:List Nat}{lo hi:Nat} (hp:Pc O is P lo hi) {ns:List Nat} (hd:HW O W ns):Qeu [pD is,.lst (hT W ns)] O = .ok (pD (ids O.length h)) (O++(lay W P).map QaS):=by
 obtain ⟨ρ1,O1,e1,a3,a4,a5,rfl,rfl⟩:=QbM (g:=mgN 3) (b:=QnD)
  (fun k ρ O'=>∃(a3 a4 a5:Option D),O'=O++(lay (W.take k) P).map QaS∧ρ=eQ (pD is) (.lst (hT W ns)) (ids O.length h) a3 a4 a5) (hT W ns) 0 (eQ (pD is) (.lst (hT W ns)) (ids O.length h) none none none) (O++P.map QaS)
  ⟨none,none,none,rfl,rfl⟩ (by
   rintro i d ρ O' hi ⟨a3,a4,a5,rfl,rfl⟩;obtain ⟨x,n,hx,hn,rfl⟩:=QkW hd hi
   ·rw [zC,QqM hx];have hxw:=hW x (zx hx);obtain ⟨b4,b5,hb⟩:=QuZ (pD is) (.lst (hT W ns)) h w hw x n hxw O hn (Q:=lay (W.take i) P) (by rw [QjS,hP.len]) (Qm3 (fun y hy=>by rw [hP.len]; exact (hW y (List.mem_of_mem_take hy)).rw) hP.wd) a4 a5
    exact ⟨_,rfl,_,_,.inl hb,_,b4,b5,rfl,rfl⟩)
 rw [(Qfy hd).2.2,zC,List.take_of_length_le (zb _)] at e1
 have s2:Qao 2 (Qbw (Qba (Qaa 0)) 1 [] (mgN 0) Qcj (mMl (Qav Qcr (Qab (Qaa 0) Qae)))) [some (pD is),some (.lst (hT W ns)),none,none,none,none] O = .nx (eQ (pD is) (.lst (hT W ns)) (ids O.length h) none none none) (O++P.map QaS):=by
  rw [←hP.len];exact Qr0 (QsA hp (by rw [hp.len,hP.len]; omega) rfl)
 show Qa7 (Qaj _ (Qaj (Qa8 (Qba (Qaa 1)) (mgN 3) QnD) (QaE (Qaa 2))) [some (pD is),some (.lst (hT W ns)),none,none,none,none] O)=_;rw [QaA,s2,Qay,QaA,Qcm,Qdd (l:=hT W ns) rfl,Qb2,e1,Qay];rfl
def gp:MG:=Qb9 2 (QaB (mgN 3) (QaB (mgN 4) Qbr))
theorem Qmp {h w:Nat} (hh:h≤12) (hw40:w≤40) {P Q:List Row} (hP:Pic P h w) (hQ:Pic Q h w) {O:Qac}{D1 D2:D} (h1:HP O D1 P) (h2:HP O D2 Q):∃O' ns,Qer [D1,D2] O = .ok (.lst (hT (pwk P Q h) ns)) O'∧PW O O' (pwk P Q h) ns∧(pwk P Q h).length≤480:=by
 obtain ⟨is,hD,hil,hrow⟩:=h2
 have row:∀k j,is[k]? = some j→k < h∧O[j]? = some (QaS (Q.getD k [])):=fun k j hk=>by
  obtain ⟨r,e1,e2⟩:=hrow k j hk;refine ⟨by rw [←hQ.len]; exact (ze.mp e1).1,?_⟩;rw [zY,e1];exact e2
 have p0:PW O O (pwk P Q 0) []:=⟨trivial,List.nodup_nil,fun n hn=>(nomatch hn),fun _ _=>rfl,zb _⟩
 have turn:∀(i j:Nat) (ns:List Nat) (O1:Qac) (a3 a4:Option D),is[i]? = some j→PW O O1 (pwk P Q i) ns→(pwk P Q i).length≤40 * i→∃ρ1,gp (.tup [.int (i:Int),.ob j]) (eA D1 D2 (hT (pwk P Q i) ns) a3 a4)=some ρ1∧∃ρ2 O2,QhK ρ1 O1 = .nx ρ2 O2∧∃ns' b3 b4,ρ2=eA D1 D2 (hT (pwk P Q (i+1)) ns') b3 b4∧PW O O2 (pwk P Q (i+1)) ns'∧(pwk P Q (i+1)).length≤40 * (i+1):=fun i j ns O1 a3 a4 hi pw hl=>by
  obtain ⟨hk,hj⟩:=row i j hi;obtain ⟨O2,ns',e1,e2,e3⟩:=QsM (D2:=D2) hh hw40 hP hQ h1 hk hj pw hl;exact ⟨_,rfl,_,_,e1,ns',_,_,rfl,e2,e3⟩
 have fin:∀(ns:List Nat) (O':Qac) (a3 a4:Option D),Qd0 (Qaa 1) gp QhK (eA D1 D2 [] none none) O = .nx (eA D1 D2 (hT (pwk P Q h) ns) a3 a4) O'→Qer [D1,D2] O = .ok (.lst (hT (pwk P Q h) ns)) O':=fun ns O' a3 a4 e=>by
  unfold gp QhK at e;show Qa7 (Qif [some D1,some D2,none,none,none] O)=_;unfold Qif;rw [sq (QaW (d:=.lst []) (Qi3 rfl (Nat.zero_le _)))];show Qa7 (Qaj (Qd0 _ _ _) _ (eA D1 D2 [] none none) O)=_;rw [sq e];rfl
 have hQl:=hQ.len
 rcases hD with rfl | ⟨n,rfl,hn⟩
 ·obtain ⟨ρ',O',e,ns,a3,a4,rfl,pw,hl⟩:=QbM (g:=gp) (b:=QhK) (fun k ρ O1=>∃ns a3 a4,ρ=eA D1 (pD is) (hT (pwk P Q k) ns) a3 a4∧PW O O1 (pwk P Q k) ns∧(pwk P Q k).length≤40 * k) (QcG 0 (is.map D.ob)) 0 (eA D1 (pD is) [] none none) O ⟨[],none,none,rfl,p0,zb _⟩ (by
   rintro i d ρ O1 hi ⟨ns,a3,a4,rfl,pw,hl⟩
   obtain ⟨j,hj,rfl⟩:∃j,is[i]? = some j∧d = .tup [.int (i:Int),.ob j]:=by
    rw [Qe6,zC,zm] at hi
    cases hj:is[i]? with
    | none=>rw [hj] at hi; cases hi
    | some j=>rw [hj] at hi; cases hi; exact ⟨j,rfl,rfl⟩
   rw [zC] at pw hl ⊢;obtain ⟨ρ1,g1,ρ2,O2,g2,r⟩:=turn i j ns O1 a3 a4 hj pw hl
   exact ⟨ρ1,g1,ρ2,O2,.inl g2,r⟩)
  rw [Qev,zd,hil,hQl,zC] at pw hl e;refine ⟨O',ns,fin ns O' a3 a4 ?_,pw,by omega⟩;rw [←e];rfl
 ·obtain ⟨ρ',O',e,ns,a3,a4,rfl,pw,hl⟩:=QgY (n:=n) (all:=is.map D.ob) (g:=gp) (b:=QhK) (fun k ρ O1=>∃ns a3 a4,ρ=eA D1 (.ob n) (hT (pwk P Q k) ns) a3 a4∧PW O O1 (pwk P Q k) ns∧(pwk P Q k).length≤40 * k) (by
   rintro k ρ O1 ⟨ns,a3,a4,rfl,pw,_⟩
   exact (pw.ag n (ze.mp hn).1).trans hn) (by
   rintro i d ρ O1 hi ⟨ns,a3,a4,rfl,pw,hl⟩;rw [zm] at hi
   cases hj:is[i]? with
   | none=>rw [hj] at hi; cases hi
   | some j =>
    rw [hj] at hi;cases hi
    exact turn i j ns O1 a3 a4 hj pw hl) (is.map D.ob) 0 (eA D1 (.ob n) [] none none) O (zC _) ⟨[],none,none,rfl,p0,zb _⟩
  rw [zd,hil,hQl] at pw hl e;refine ⟨O',ns,fin ns O' a3 a4 ?_,pw,by omega⟩;unfold Qd0 Qhy;rw [show (Qaa 1) (eA D1 (.ob n) [] none none) O = .ok (.ob n) O from rfl];dsimp only;rw [hn];exact e
theorem Qus {r q:Row} (hr:ROk r) (hq:ROk q) (wq:Wf q) (hl:q.length≤40):∃s,StV r q q.length s (rwV r q):=by
 by_cases he:r=q
 ·have eV:rwV r q = []:=by
   unfold rwV;rw [dif_neg fun z=>z.2.2.2.2 he]
  rw [eV];exact ⟨0,fun x hx=>(nomatch hx),fun i _=>.inr (by rw [he]),fun z=>(nomatch z)⟩
 ·have hc:ROk r∧ROk q∧Wf q∧q.length≤40∧r≠q:=⟨hr,hq,wq,hl,he⟩;unfold rwV;rw [dif_pos hc];exact (Qnp hc.1 hc.2.1 hc.2.2.1 hc.2.2.2.1).choose_spec.1
def Cv (x:Wr) (i j:Nat):Prop:=x.1=i∧x.2.1≤j∧j < x.2.1+x.2.2.length
instance (x:Wr) (i j:Nat):Decidable (Cv x i j):=by
 unfold Cv
 infer_instance
structure PWk (P Q:List Row) (h w:Nat) (W:List Wr):Prop where
 ok:∀x∈W,WOk h w x
 val:∀x∈W,∀j,x.2.1≤j→j < x.2.1+x.2.2.length→x.2.2[j - x.2.1]? = (Q.getD x.1 [])[j]?
 cov:∀i j,i < h→j < w→(∃x∈W,Cv x i j)∨(P.getD i [])[j]? = (Q.getD i [])[j]?
theorem Pic.get {P:List Row}{h w:Nat} (hP:Pic P h w) {i:Nat} (hi:i < h):P[i]? = some (P.getD i [])∧P.getD i []∈P:=by
 have:P[i]? = some (P.getD i []):=by rw [zY,zh (by rw [hP.len]; exact hi)]; rfl
 exact ⟨this,zx this⟩
theorem Qk9 {P Q:List Row}{h w:Nat} (hw:w≤40) (hP:Pic P h w) (hQ:Pic Q h w):PWk P Q h w (pwk P Q h):=by
 have st:∀i,i < h→∃s,StV (P.getD i []) (Q.getD i []) (Q.getD i []).length s (rwV (P.getD i []) (Q.getD i [])):=fun i hi=>Qus (hP.ok _ (hP.get hi).2) (hQ.ok _ (hQ.get hi).2) (hQ.wf _ (hQ.get hi).2) (by rw [hQ.wd _ (hQ.get hi).2]; exact hw)
 have mem:∀x∈pwk P Q h,∃i,i < h∧∃y∈rwV (P.getD i []) (Q.getD i []),x=wr i y:=fun x hx=>by
  obtain ⟨i,hi,hx⟩:=List.mem_flatMap.mp hx;obtain ⟨y,hy,rfl⟩:=zL.mp hx;exact ⟨i,List.mem_range.mp hi,y,hy,rfl⟩
 refine ⟨fun x hx=>?_,fun x hx j j1 j2=>?_,fun i j hi hj=>?_⟩
 ·obtain ⟨i,hi,y,hy,rfl⟩:=mem x hx;obtain ⟨s,st⟩:=st i hi;obtain ⟨a,b⟩:=st.inn y hy;rw [hQ.wd _ (hQ.get hi).2] at a;refine ⟨hi,a,?_⟩;show ROk y.2;rw [b];exact Qno (hQ.ok _ (hQ.get hi).2)
 ·obtain ⟨i,hi,y,hy,rfl⟩:=mem x hx;obtain ⟨s,st⟩:=st i hi;obtain ⟨a,b⟩:=st.inn y hy;show y.2[j - y.1]? = _;rw [b];exact Qkb j1 j2
 ·obtain ⟨s,st⟩:=st i hi
  rcases st.cov j (by rw [hQ.wd _ (hQ.get hi).2]; exact hj) with ⟨y,hy,c1,c2⟩ | hc
  ·exact .inl ⟨wr i y,List.mem_flatMap.mpr ⟨i,List.mem_range.mpr hi,zL.mpr ⟨y,hy,rfl⟩⟩,rfl,c1,c2⟩
  ·exact .inr hc
theorem QrV (P:List Row) (h:Nat):pwk P P h = []:=by
 unfold pwk
 refine List.flatMap_eq_nil_iff.mpr fun i _=>?_
 unfold rwV;rw [dif_neg fun z=>z.2.2.2.2 rfl];rfl
theorem QsP {P:List Row}{h w:Nat} (hl:P.length=h) (hw:∀r∈P,r.length=w) {x:Wr} (hx:WOk h w x) {i j:Nat} (hi:i < h) (hj:j < w):((put P x).getD i [])[j]? = if Cv x i j then some ((x.2.2[j - x.2.1]?).getD bl) else (P.getD i [])[j]?:=by
 have hxr:=hx.rw;have hxc:=hx.cl;have gx:P[x.1]? = some (P[x.1]'(by omega)):=zh _;have lx:=hw _ (jf (show x.1 < P.length by omega));rw [Qpp gx,zY,List.getElem?_set]
 by_cases h1:x.1=i
 ·subst h1;rw [if_pos rfl,if_pos (by omega),Option.getD_some,Qom _ _ _ _ _ (by omega)]
  by_cases h2:x.2.1≤j∧j < x.2.1+x.2.2.length
  ·rw [if_pos h2,if_pos ⟨rfl,h2⟩]
  ·rw [if_neg h2,if_neg fun z=>h2 z.2,zY,gx];rfl
 ·rw [if_neg h1,if_neg fun z=>h1 z.1,zY]
theorem QmU {Q:List Row}{h w:Nat}:∀(W:List Wr) (P:List Row),(∀x∈W,WOk h w x)→(∀x∈W,∀j,x.2.1≤j→j < x.2.1+x.2.2.length→x.2.2[j - x.2.1]? = (Q.getD x.1 [])[j]?)→P.length=h→(∀r∈P,r.length=w)→∀i j,i < h→j < w→((lay W P).getD i [])[j]? = (Q.getD i [])[j]?∨(((lay W P).getD i [])[j]? = (P.getD i [])[j]?∧∀x∈W,¬Cv x i j)
 | [],P,_,_,_,_,i,j,_,_=>.inr ⟨rfl,fun x hx=>(nomatch hx)⟩
 | x::W,P,ho,hv,hl,hw,i,j,hi,hj=>by
  have hx:=ho x zq;have hxr:=hx.rw;have pg:=QsP hl hw hx hi hj
  rcases QmU (Q:=Q) W (put P x) (fun y hy=>ho y (zu _ hy)) (fun y hy=>hv y (zu _ hy)) ((puL P x).trans hl) (QqU (by omega) hw) i j hi hj with hr | ⟨hr,hn⟩
  ·exact .inl hr
  ·by_cases hc:Cv x i j
   ·rw [if_pos hc] at pg;refine .inl (hr.trans (pg.trans ?_));obtain ⟨c1,c2,c3⟩:=hc;rw [←c1,←hv x zq j c2 c3,zh (by omega)];rfl
   ·rw [if_neg hc] at pg;refine .inr ⟨hr.trans pg,fun y hy=>?_⟩
    rcases zn.mp hy with rfl | hy
    ·exact hc
    ·exact hn y hy
theorem Qso {P Q:List Row}{h w:Nat} (lP:P.length=h) (wP:∀r∈P,r.length=w) (hQ:Pic Q h w) (he:∀i j,i < h→j < w→(P.getD i [])[j]? = (Q.getD i [])[j]?):P=Q:=by
 refine jn fun i=>?_
 by_cases hi:i < h
 ·have gP:P[i]? = some (P.getD i []):=by rw [zY,zh (by omega)]; rfl
  rw [gP,(hQ.get hi).1];congr 1;have l1:=wP _ (zx gP);have l2:=hQ.wd _ (hQ.get hi).2
  refine jn fun j=>?_
  by_cases hj:j < w
  ·exact he i j hi hj
  ·rw [zV (by omega),zV (by omega)]
 ·rw [zV (by omega),zV (by rw [hQ.len]; omega)]
theorem QrZ {P Q:List Row}{h w:Nat} (hw:w≤40) (hP:Pic P h w) (hQ:Pic Q h w):lay (pwk P Q h) P=Q:=by
 have k:=Qk9 hw hP hQ
 refine Qso ((QjS _ _).trans hP.len) (Qm3 (fun x hx=>by rw [hP.len]; exact (k.ok x hx).rw) hP.wd) hQ fun i j hi hj=>?_
 rcases QmU (pwk P Q h) P k.ok k.val hP.len hP.wd i j hi hj with hr | ⟨hr,hn⟩
 ·exact hr
 ·rcases k.cov i j hi hj with ⟨x,hx,hc⟩ | hc
  ·exact absurd hc (hn x hx)
  ·exact hr.trans hc
theorem Qpg (kvs:List (List Key×D)) (k k':List Key) (d:D) (h:k'=k∨(QcQ kvs k').isSome=true):(QcQ (Qfj kvs k d) k').isSome=true:=by
 unfold QcQ Qfj at *;rw [Option.isSome_map,List.find?_isSome] at *
 split
 ·rename_i ha
  rcases h with rfl | ⟨p,hp,he⟩
  ·obtain ⟨p,hp,he⟩:=List.any_eq_true.mp ha;refine ⟨(p.1,d),zL.mpr ⟨p,hp,?_⟩,he⟩;rw [if_pos (jg he)]
  ·by_cases hk:p.1=k
   ·exact ⟨(p.1,d),zL.mpr ⟨p,hp,by rw [if_pos hk]⟩,he⟩
   ·exact ⟨p,zL.mpr ⟨p,hp,by rw [if_neg hk]⟩,he⟩
 ·rcases h with rfl | ⟨p,hp,he⟩
  ·exact ⟨(k',d),zI _ (zo.mpr rfl),zw rfl⟩
  ·exact ⟨p,ja _ hp,he⟩
theorem QuP (kvs:List (List Key×D)) (k:List Key) (d:D):(Qfj kvs k d).length≤kvs.length+1:=by
 unfold Qfj
 split
 ·rw [zd]; omega
 ·rw [zg]; exact zb _
def gc:MG:=Qb9 3 (QaB (mgN 4) (QaB (mgN 5) (QaB (mgN 6) Qbr)))
def QlP:MS:=(Qcn (Qaa 3) (QaZ (Qab (Qaa 4) (Qab (Qad QaK (Qaa 5) (Qaa 7)) Qae))) (mC (.bl true)))
def QlZ:MS:=(Qa8 (Qch (Qab (Qav QaV (Qab (Qaa 6) Qae)) Qae)) (mgN 7) QlP)
def eV (P Q T:D) (q:Nat) (a4 a5 a6 a7:Option D):Qah:=[some P,some Q,some T,some (.ob q),a4,a5,a6,a7]
structure Mks (O0 O:Qac) (W:List Wr) (n:Nat):Prop where
 ob:∃kvs,O[O0.length]? = some (.dt kvs)∧kvs.length≤n∧∀x∈W,∀j,x.2.1≤j→j < x.2.1+x.2.2.length→(QcQ kvs (key ((x.1:Int),(j:Int)))).isSome=true
 ag:Agr O0 O
section
variable {O0 O:Qac}{P Q T:D}
theorem QsN {W:List Wr}{x:Wr}{n m:Nat} (hx:x.2.2.length≤40) (hn:O0[n]? = some (wO x)) (hm:m≤100000) (mk:Mks O0 O W m) (a7:Option D):∃O' a7',QlZ (eV P Q T O0.length (some (.int (x.1:Int))) (some (.int (x.2.1:Int))) (some (.ob n)) a7) O = .nx (eV P Q T O0.length (some (.int (x.1:Int))) (some (.int (x.2.1:Int))) (some (.ob n)) a7') O'∧Mks O0 O' (W ++ [x]) (m+40):=by
 have hnO:O[n]? = some (.ml (x.2.2.map dC)):=(mk.ag n (ze.mp hn).1).trans hn;obtain ⟨⟨kvs,h1,h2,h3⟩,ag⟩:=mk
 obtain ⟨ρ',O',e,a7',kvs',rfl,g1,g2,g3,g4,g5⟩:=QbM (g:=mgN 7) (b:=QlP) (fun k ρ O'=>∃(a7:Option D) (kvs':List (List Key×D)),ρ=eV P Q T O0.length (some (.int (x.1:Int))) (some (.int (x.2.1:Int))) (some (.ob n)) a7∧O'[O0.length]? = some (.dt kvs')∧kvs'.length≤m+k∧(∀k',(QcQ kvs k').isSome=true→(QcQ kvs' k').isSome=true)∧(∀j,x.2.1≤j→j < x.2.1+k→(QcQ kvs' (key ((x.1:Int),(j:Int)))).isSome=true)∧Agr O0 O') (QbX 0 x.2.2.length) 0 (eV P Q T O0.length (some (.int (x.1:Int))) (some (.int (x.2.1:Int))) (some (.ob n)) a7) O ⟨a7,kvs,rfl,h1,h2,fun _ h=>h,fun j j1 j2=>absurd j2 (by omega),ag⟩ (by
  rintro i d ρ O' hi ⟨a7,kvs',rfl,g1,g2,g3,g4,g5⟩;obtain ⟨hi',rfl⟩:=Qj4 hi;rw [zC] at g2 g4 ⊢;refine ⟨_,rfl,eV P Q T O0.length (some (.int (x.1:Int))) (some (.int (x.2.1:Int))) (some (.ob n)) (some (.int (i:Int))),O'.set O0.length (.dt (Qfj kvs' (key ((x.1:Int),(x.2.1:Int)+(i:Int))) (.bl true))),.inl ?_,_,_,rfl,QhY g1,by have:=QuP kvs' (key ((x.1:Int),(x.2.1:Int)+(i:Int))) (.bl true); omega,fun k' hk'=>Qpg _ _ _ _ (.inr (g3 k' hk')),fun j j1 j2=>Qpg _ _ _ _ ?_,fun y hy=>(zj (by omega)).trans (g5 y hy)⟩
  ·show QlP (eV P Q T O0.length (some (.int (x.1:Int))) (some (.int (x.2.1:Int))) (some (.ob n)) (some (.int (i:Int)))) O'=_;unfold QlP Qcn;rw [m_c];dsimp only;rw [show (Qaa 3) (eV P Q T O0.length (some (.int (x.1:Int))) (some (.int (x.2.1:Int))) (some (.ob n)) (some (.int (i:Int)))) O' = .ok (.ob O0.length) O' from rfl];dsimp only;rw [show (QaZ (Qab (Qaa 4) (Qab (Qad QaK (Qaa 5) (Qaa 7)) Qae))) (eV P Q T O0.length (some (.int (x.1:Int))) (some (.int (x.2.1:Int))) (some (.ob n)) (some (.int (i:Int)))) O' = .ok (nN ((x.1:Int),(x.2.1:Int)+(i:Int))) O' from rfl];dsimp only;rw [QiS,g1];dsimp only
   rw [if_pos (by omega)]
  ·by_cases hj:j=x.2.1+i
   ·refine .inl ?_;rw [hj,jl]
   ·exact .inr (g4 j j1 (by omega)))
 rw [QdY,zC] at g2 g4;refine ⟨O',a7',?_,⟨kvs',g1,by omega,fun y hy j j1 j2=>?_⟩,g5⟩
 ·unfold QlZ;rw [Qcm,QfK (n:=x.2.2.length) (QcT (ma1 (x:=.ob n) rfl) (by rw [zl,zQ,QeD hnO,Quz,zd])) (by omega),Qb2,e]
 ·rcases zz.mp hy with hy | hy
  ·exact g3 _ (h3 y hy j j1 j2)
  ·rw [zo.mp hy] at j1 j2 ⊢;exact g4 j j1 j2
theorem Qpx:∀(W1:List Wr) (ns:List Nat) (W0:List Wr) (m:Nat) (O:Qac) (a4 a5 a6 a7:Option D),(∀x∈W1,x.2.2.length≤40)→HW O0 W1 ns→m+40 * W1.length≤100000→Mks O0 O W0 m→∃O' b4 b5 b6 b7,Qbo gc QlZ (hT W1 ns) (eV P Q T O0.length a4 a5 a6 a7) O = .nx (eV P Q T O0.length b4 b5 b6 b7) O'∧Mks O0 O' (W0++W1) (m+40 * W1.length)
 | [],[],W0,m,O,a4,a5,a6,a7,_,_,_,mk=>⟨O,a4,a5,a6,a7,rfl,by rw [zO]; exact mk⟩
 | x::W1,n::ns,W0,m,O,a4,a5,a6,a7,hx,hw,hm,mk=>by
  rw [zA] at hm;obtain ⟨O1,a7',e1,mk1⟩:=QsN (P:=P) (Q:=Q) (T:=T) (hx x zq) hw.1 (by omega) mk a7;obtain ⟨O',b4,b5,b6,b7,e2,mk2⟩:=Qpx W1 ns (W0 ++ [x]) (m+40) O1 (some (.int (x.1:Int))) (some (.int (x.2.1:Int))) (some (.ob n)) a7' (fun y hy=>hx y (zu _ hy)) hw.2 (by omega) mk1;rw [zP] at mk2;refine ⟨O',b4,b5,b6,b7,?_,by rw [zA,show m+40 * (W1.length+1)=m+40+40 * W1.length by omega]; exact mk2⟩;show Qbo gc QlZ (dH x n::hT W1 ns) _ O=_;unfold Qbo;rw [show gc (dH x n) (eV P Q T O0.length a4 a5 a6 a7)=some (eV P Q T O0.length (some (.int (x.1:Int))) (some (.int (x.2.1:Int))) (some (.ob n)) a7) from rfl]
  dsimp only;rw [e1];exact e2
 | [],_::_,_,_,_,_,_,_,_,_,h,_,_=>h.elim
 | _::_,[],_,_,_,_,_,_,_,_,h,_,_=>h.elim
end
theorem Qnn {c:C} (h:COk c):okE (dC c)=true:=by
 obtain ⟨x1,x2,x3⟩:=h
 have z:(toP (dC c)).canLay0=true:=by
  show ((PyData.str (S c.1)).canLay0&&((PyData.str (S c.2.1)).canLay0&&((PyData.str (S c.2.2)).canLay0&&true)))=true;rw [QfG x1,QfG x2,QfG x3];rfl
 unfold okE okD;rw [show QbD (dC c)=true from rfl,z];rfl
def QjQ (i:Nat):L2.M D:=Qad gIx (Qad gIx (Qaa i) (Qaa 4)) (Qaa 5)
def Qk1:MS:=(QaM (QcX (Qar (Qad gNe (QjQ 0) (QjQ 1))) (Qar (Qj6 true (QaZ (Qab (Qaa 4) (Qab (Qaa 5) Qae))) (Qaa 3)))) (QaE (mC (.bl false))) QaO)
def Qny:MS:=(Qa8 (Qch (Qab (Qav QaV (Qab (Qad gIx (Qaa 0) (Qaa 4)) Qae)) Qae)) (mgN 5) Qk1)
theorem Qpe {h w:Nat} (hh:h≤12) (hw:w≤40) {P Q:List Row} (hP:Pic P h w) (hQ:Pic Q h w) {O:Qac}{ns:List Nat} (hns:HW O (pwk P Q h) ns) (hl:(pwk P Q h).length≤480):∃O',Qdp [dP P,dP Q,.lst (hT (pwk P Q h) ns)] O = .ok (.bl true) O'∧Agr O O'∧O.length≤O'.length:=by
 have kk:=Qk9 hw hP hQ
 have agA:Agr O (O ++ [Ob.dt []]):=fun j hj=>zr hj
 obtain ⟨O1,b4,b5,b6,b7,e1,⟨kvs,h1,_,h3⟩,ag1⟩:=Qpx (P:=dP P) (Q:=dP Q) (T:=.lst (hT (pwk P Q h) ns)) (pwk P Q h) ns [] 0 (O ++ [Ob.dt []]) none none none none (fun x hx=>by have:=(kk.ok x hx).cl; omega) hns (by omega) ⟨⟨[],by simp,zb _,fun x hx=>(nomatch hx)⟩,agA⟩;rw [zJ] at h3
 have cell:∀(t:Nat) (R:List Row) (i j:Nat) (c:C) (ρ:Qah),Pic R h w→ρ[t]? = some (some (dP R))→ρ[4]? = some (some (.int (i:Int)))→ρ[5]? = some (some (.int (j:Int)))→i < h→(R.getD i [])[j]? = some c→QjQ t ρ O1 = .ok (dC c) O1:=fun t R i j c ρ hR ht h4 h5 hi hc=>Qaz (Qaz (x:=dP R) (y:=.int (i:Int)) (z:=dRw (R.getD i [])) (by rw [Qje,ht]) (by rw [Qje,h4]) (Qeb (by rw [zm,(hR.get hi).1]; rfl))) (y:=.int (j:Int)) (by rw [Qje,h5]) (Qeb (by rw [zm,hc]; rfl))
 have d1:∀(i j:Nat) (a6 a7:Option D),i < h→j < w→Qk1 (eV (dP P) (dP Q) (.lst (hT (pwk P Q h) ns)) O.length (some (.int (i:Int))) (some (.int (j:Int))) a6 a7) O1 = .nx (eV (dP P) (dP Q) (.lst (hT (pwk P Q h) ns)) O.length (some (.int (i:Int))) (some (.int (j:Int))) a6 a7) O1:=fun i j a6 a7 hi hj=>by
  have lp:=hP.wd _ (hP.get hi).2;have lq:=hQ.wd _ (hQ.get hi).2;have cp:(P.getD i [])[j]? = some ((P.getD i [])[j]'(by omega)):=zh _;have cq:(Q.getD i [])[j]? = some ((Q.getD i [])[j]'(by omega)):=zh _;have op:=hP.ok _ (hP.get hi).2 _ (zx cp);have oq:=hQ.ok _ (hQ.get hi).2 _ (zx cq);have kc:=kk.cov i j hi hj
  generalize (P.getD i [])[j]'(by omega)=c at cp op
  generalize (Q.getD i [])[j]'(by omega)=c' at cq oq
  have t1:Qar (Qad gNe (QjQ 0) (QjQ 1)) (eV (dP P) (dP Q) (.lst (hT (pwk P Q h) ns)) O.length (some (.int (i:Int))) (some (.int (j:Int))) a6 a7) O1 = .ok (!QcA (dC c) (dC c')) O1:=Qcv (Qaz (cell 0 P i j c _ hP rfl rfl rfl hi cp) (cell 1 Q i j c' _ hQ rfl rfl rfl hi cq) (by
   show (if (okE (dC c)&&okE (dC c'))=true then some (D.bl (!QcA (dC c) (dC c'))) else none)=_
   rw [Qnn op,Qnn oq,Bool.and_self,if_pos rfl]))
  unfold Qk1;refine Qbb ?_;rw [QgE,t1,Qam]
  rcases kc with ⟨x,hx,c1,c2,c3⟩ | kc
  ·have hs:=h3 x hx j c2 c3;rw [c1] at hs
   have t2:Qar (Qj6 true (QaZ (Qab (Qaa 4) (Qab (Qaa 5) Qae))) (Qaa 3)) (eV (dP P) (dP Q) (.lst (hT (pwk P Q h) ns)) O.length (some (.int (i:Int))) (some (.int (j:Int))) a6 a7) O1 = .ok false O1:=by
    rw [QlC];unfold Qj6;rw [show (QaZ (Qab (Qaa 4) (Qab (Qaa 5) Qae))) (eV (dP P) (dP Q) (.lst (hT (pwk P Q h) ns)) O.length (some (.int (i:Int))) (some (.int (j:Int))) a6 a7) O1 = .ok (nN ((i:Int),(j:Int))) O1 from rfl,Qam,show (Qaa 3) (eV (dP P) (dP Q) (.lst (hT (pwk P Q h) ns)) O.length (some (.int (i:Int))) (some (.int (j:Int))) a6 a7) O1 = .ok (.ob O.length) O1 from rfl,Qam];dsimp only;rw [QiS,h1];dsimp only;rw [hs];rfl
   rw [t2]
   split <;> rfl
  ·rw [cp,cq] at kc;cases kc;rw [QhC (Qnn op)];rfl
 have d2:∀(i:Nat) (a5 a6 a7:Option D),i < h→∃b5,Qny (eV (dP P) (dP Q) (.lst (hT (pwk P Q h) ns)) O.length (some (.int (i:Int))) a5 a6 a7) O1 = .nx (eV (dP P) (dP Q) (.lst (hT (pwk P Q h) ns)) O.length (some (.int (i:Int))) b5 a6 a7) O1:=fun i a5 a6 a7 hi=>by
  obtain ⟨ρ',O',e,rfl,b5,rfl⟩:=QbM (g:=mgN 5) (b:=Qk1) (fun _ ρ O'=>O'=O1∧∃b5,ρ=eV (dP P) (dP Q) (.lst (hT (pwk P Q h) ns)) O.length (some (.int (i:Int))) b5 a6 a7) (QbX 0 w) 0 (eV (dP P) (dP Q) (.lst (hT (pwk P Q h) ns)) O.length (some (.int (i:Int))) a5 a6 a7) O1 ⟨rfl,a5,rfl⟩ (by
   rintro j d ρ O' hj ⟨rfl,b5,rfl⟩;obtain ⟨hj',rfl⟩:=Qj4 hj
   exact ⟨_,rfl,_,_,.inl (d1 i j a6 a7 hi hj'),rfl,_,rfl⟩)
  refine ⟨b5,?_⟩
  have el:Qav QaV (Qab (Qad gIx (Qaa 0) (Qaa 4)) Qae) (eV (dP P) (dP Q) (.lst (hT (pwk P Q h) ns)) O.length (some (.int (i:Int))) a5 a6 a7) O' = .ok (.int (w:Int)) O':=by
   have:=Qjz (m:=Qad gIx (Qaa 0) (Qaa 4)) (ρ:=eV (dP P) (dP Q) (.lst (hT (pwk P Q h) ns)) O.length (some (.int (i:Int))) a5 a6 a7) (O:=O') (l:=(P.getD i []).map dC) (Qaz (x:=dP P) (y:=.int (i:Int)) rfl rfl (Qeb (by rw [zm,(hP.get hi).1]; rfl)))
   rw [zd,hP.wd _ (hP.get hi).2] at this;exact this
  unfold Qny;rw [Qcm,QfK el (by omega),Qb2,e]
 obtain ⟨ρ',O',e3,rfl,c4,c5,c6,c7,rfl⟩:=QbM (g:=mgN 4) (b:=Qny) (fun _ ρ O'=>O'=O1∧∃c4 c5 c6 c7,ρ=eV (dP P) (dP Q) (.lst (hT (pwk P Q h) ns)) O.length c4 c5 c6 c7) (QbX 0 h) 0 (eV (dP P) (dP Q) (.lst (hT (pwk P Q h) ns)) O.length b4 b5 b6 b7) O1 ⟨rfl,_,_,_,_,rfl⟩ (by
  rintro i d ρ O' hi ⟨rfl,c4,c5,c6,c7,rfl⟩;obtain ⟨hi',rfl⟩:=Qj4 hi;obtain ⟨b5,e⟩:=d2 i c5 c6 c7 hi'
  exact ⟨_,rfl,_,_,.inl e,rfl,_,_,_,_,rfl⟩)
 have el:Qav QaV (Qab (Qaa 0) Qae) (eV (dP P) (dP Q) (.lst (hT (pwk P Q h) ns)) O.length b4 b5 b6 b7) O' = .ok (.int (h:Int)) O':=by
  have:=Qjz (m:=Qaa 0) (ρ:=eV (dP P) (dP Q) (.lst (hT (pwk P Q h) ns)) O.length b4 b5 b6 b7) (O:=O') (l:=P.map dRw) rfl
  rw [zd,hP.len] at this;exact this
 refine ⟨O',?_,ag1,by have:=(ze.mp h1).1; omega⟩;unfold QlZ QlP gc at e1;unfold Qny Qk1 QjQ at e3;show Qa7 (Qeh [some (dP P),some (dP Q),some (.lst (hT (pwk P Q h) ns)),none,none,none,none,none] O)=_;unfold Qeh;rw [sq (QfZ (show QfO _ O = .ok (.ob O.length) (O ++ [Ob.dt []]) from rfl))];show Qa7 (Qaj (Qa8 _ _ _) _ (eV (dP P) (dP Q) (.lst (hT (pwk P Q h) ns)) O.length none none none none) (O ++ [Ob.dt []]))=_;rw [QaA,Qcm,Qdd (l:=hT (pwk P Q h) ns) rfl,Qb2,e1,Qay,QaA,Qcm,QfK el (by omega),Qb2,e3,Qay];rfl
theorem Qmf {O:Qac} (n:Nat) (r:Row):(r.map dC).map (Qbj O (n+1))=r.map dC:=by
 rw [zU]
 refine jh fun c _=>?_
 show D.tup ([D.str c.1,D.str c.2.1,D.str c.2.2].map (Qbj O n))=dC c
 cases n <;> rfl
theorem QoQ {O:Qac} (n:Nat) (r:Row):Qbj O (n+2) (dRw r)=dRw r:=congrArg D.lst (Qmf n r)
theorem Qox {O:Qac} (n:Nat) {r:Row}{i:Nat} (h:O[i]? = some (QaS r)):Qbj O (n+2) (.ob i)=dRw r:=by
 have h':O[i]? = some (.ml (r.map dC)):=h;unfold Qbj;rw [h'];exact congrArg D.lst (Qmf n r)
theorem Qou (n:Nat) (a:Int) (O:Qac):Qa2 (n+1) [.int a,.int a] O = .ok (.bl true) O:=by
 have v1:∀q,Qbs (Qci q (Qaa 1)) [some (.int a),some (.int a),none] O = .ok (QbH "int" q) O:=fun q=>QjH (Qf0 (d:=.int a) rfl rfl)
 have v0:∀q,Qci q (Qaa 0) [some (.int a),some (.int a),none] O = .ok (.bl (QbH "int" q)) O:=fun q=>Qf0 (d:=.int a) rfl rfl
 have z1:QbH "int" "bool" = false:=by decide
 have z2:QbH "int" "int" = true:=by decide
 have w1:Qd3 (Qci "int" (Qaa 0)) (Qd3 (QkT (Qci "bool" (Qaa 0))) (Qad gEq (Qaa 0) (Qaa 1))) [some (.int a),some (.int a),none] O = .ok (.bl true) O:=by
  rw [QhO,v0,Qam,z2,Qjb,if_pos rfl,QhO,Qt3,v0,Qam,z1,Qvo,Qam,Qjb,Bool.not_false,if_pos rfl,Qaz (x:=.int a) (y:=.int a) (z:=.bl true) rfl rfl (by rw [QdF,Qri,zw rfl])]
 show Qa7 (Qcb (Qa2 n) [some (.int a),some (.int a),none] O)=_;unfold Qcb;rw [QaA,Qbb (by rw [v1,z1]),Qce,Qay,QaA,Qbz (by rw [v1,z2]),Qf8,w1];rfl
theorem QtH {i:Nat}{ms:MS}{ρ:Qah}{O:Qac}{l:List D}{d:D} (h:ρ[i]? = some (some (.lst l))) (h0:ρ[0]? = some (some d)):Qis i [0] ms ρ O=ms ρ O:=by
 unfold Qis;rw [h];dsimp only;rw [if_pos];rw [List.all_cons,h0];rfl
theorem QhG {P:List Row}{h w:Nat} (hP:Pic P h w):QbD (dP P)=true∧(toP (dP P)).canLay0=true∧(toP (dP P)).depth≤20∧okE (dP P)=true:=by
 have el:∀d∈P.map dRw,QbD d=true∧(toP d).canLay0=true∧(toP d).depth≤8:=fun d hd=>by
  obtain ⟨r,hr,rfl⟩:=zL.mp hd
  have:=QgG (hP.ok r hr)
  exact ⟨this.1,this.2.1,this.2.2.1⟩
 have q:okE (.lst (P.map dRw))=true:=Qib (n:=8) (by decide) el;have qq:=q;unfold okE at q;rw [zv] at q;refine ⟨q.1,?_,?_,qq⟩
 ·have:=q.2
  unfold okD at this;rw [zv] at this;exact this.1
 ·unfold dP;rw [toP,QgQ];show PyData.depthAll _+1≤20
  have z:PyData.depthAll ((P.map dRw).map toP)≤8:=Qg3 fun d hd=>by
   obtain ⟨d',hd',rfl⟩:=zL.mp hd;exact (el d' hd').2.2
  omega
theorem Qv7 {W:List Wr}{h w:Nat} (hW:∀x∈W,WOk h w x):okE (.lst (W.map dW))=true:=Qib (n:=20) (by decide) fun d hd=>by
 obtain ⟨x,hx,rfl⟩:=zL.mp hd;obtain ⟨q1,q2,q3,_⟩:=QgG (hW x hx).ok;refine ⟨?_,?_,?_⟩
 ·show (true&&(true&&(QbD (dRw x.2.2)&&true)))=true;rw [q1];rfl
 ·show (true&&(true&&((toP (dRw x.2.2)).canLay0&&true)))=true;rw [q2];rfl
 ·show max _ (max _ (max (toP (dRw x.2.2)).depth _))+1≤20;have a1:(toP (D.int (x.1:Int))).depth≤2:=Nat.le_of_ble_eq_true rfl;have a2:(toP (D.int (x.2.1:Int))).depth≤2:=Nat.le_of_ble_eq_true rfl;have a3:PyData.depthAll (Qf1 [])≤2:=Nat.le_of_ble_eq_true rfl;omega
theorem QqV:∀{A B:List Row},QcA (dP A) (dP B)=true→A=B
 | [],[],_=>rfl
 | [],y::b,h=>by cases h
 | x::a,[],h=>by cases h
 | x::a,y::b,h=>by
  have h':(QcA (dRw x) (dRw y)&&QcA (dP a) (dP b))=true:=h;rw [zv] at h';rw [Qjq h'.1,QqV h'.2]
theorem Qoj {n:Nat}{ma mb:L2.M D}{ρ:Qah}{O:Qac}{x y z:D} (hi:ma ρ O = .ok x O) (hj:mb ρ O = .ok y O) (h1:Qbj O n x=z) (h2:Qbj O n y=z) (hz:okE z=true):Qar (Qg4 true n ma mb) ρ O = .ok false O:=by
 refine Qcv ?_;unfold Qg4;rw [hi,Qam,hj,Qam,h1,h2,hz,Bool.and_self,if_pos rfl,if_pos rfl,QhC hz];rfl
theorem Qn8 {O:Qac} (n:Nat) (P:List Row):Qbj O (n+3) (dP P)=dP P:=by
 show D.lst ((P.map dRw).map (Qbj O (n+2)))=_;rw [zU];exact congrArg D.lst (jh fun r _=>QoQ n r)
theorem Qr6 {O:Qac} (n:Nat) {is:List Nat}{P:List Row} (hl:is.length=P.length) (h:∀(k i:Nat),is[k]? = some i→∃r,P[k]? = some r∧O[i]? = some (QaS r)):(is.map D.ob).map (Qbj O (n+2))=P.map dRw:=by
 refine jn fun k=>?_
 rw [zm,zm,zm]
 cases hk:is[k]? with
 | none =>
  have:P[k]? = none:=zV (by rw [←hl]; exact List.getElem?_eq_none_iff.mp hk)
  rw [this];rfl
 | some i =>
  obtain ⟨r,e1,e2⟩:=h k i hk;rw [e1];exact congrArg some (Qox n e2)
theorem Qn9 {O:Qac} (n:Nat):∀{W:List Wr}{ns:List Nat},HW O W ns→(hT W ns).map (Qbj O (n+3))=W.map dW
 | [],[],_=>rfl
 | x::W,m::ns,h=>by
  show D.tup [.int (x.1:Int),.int (x.2.1:Int),Qbj O (n+2) (.ob m)]::(hT W ns).map (Qbj O (n+3))=_;rw [Qn9 n h.2,Qox n (r:=x.2.2) h.1];rfl
 | [],_::_,h=>h.elim
 | _::_,[],h=>h.elim
theorem QvL {O:Qac} (n:Nat) (W:List Wr):Qbj O (n+4) (.lst (W.map dW)) = .lst (W.map dW):=by
 show D.lst ((W.map dW).map (Qbj O (n+3)))=_;rw [zU];refine congrArg D.lst (jh fun x _=>?_);show D.tup [.int (x.1:Int),.int (x.2.1:Int),Qbj O (n+2) (dRw x.2.2)]=dW x;rw [QoQ n];rfl
theorem QjD (O E:Qac) (P:List Row):∀(k i:Nat),(ids O.length P.length)[k]? = some i→∃r,P[k]? = some r∧((O++P.map QaS)++E)[i]? = some (QaS r):=fun k i hk=>by
 obtain ⟨r,e1,e2⟩:=(Qk2 O P).at hk;exact ⟨r,e1,by rw [zr (ze.mp e2).1]; exact e2⟩
theorem Qlv {O:Qac}:∀(W:List Wr) (ns:List Nat) (a0 a1 a2:Option D) (acc:List D),HW O W ns→Qbl (Qb9 3 (QaB (mgN 0) (QaB (mgN 1) (QaB (mgN 2) Qbr)))) Qcj (QaZ (Qab (Qaa 0) (Qab (Qaa 1) (Qab (Qav Qcr (Qab (Qaa 2) Qae)) Qae)))) (hT W ns) [a0,a1,a2] O acc = .ok (acc++W.map dW) O
 | [],[],a0,a1,a2,acc,_=>by
  show Res.ok acc O=_;rw [zQ,zO]
 | x::W,n::ns,a0,a1,a2,acc,h=>by
  have hl:Qav Qcr (Qab (Qaa 2) Qae) [some (.int (x.1:Int)),some (.int (x.2.1:Int)),some (.ob n)] O = .ok (dRw x.2.2) O:=Qie (d:=.ob n) rfl (QeD h.1);have e4:QaZ (Qab (Qaa 0) (Qab (Qaa 1) (Qab (Qav Qcr (Qab (Qaa 2) Qae)) Qae))) [some (.int (x.1:Int)),some (.int (x.2.1:Int)),some (.ob n)] O = .ok (dW x) O:=Ql2 (maS (x:=.int (x.1:Int)) rfl (maS (x:=.int (x.2.1:Int)) rfl (ma1 hl))) (show 3≤1000000 by decide);show Qbl _ _ _ (dH x n::hT W ns) _ O acc=_;unfold Qbl;rw [show Qb9 3 (QaB (mgN 0) (QaB (mgN 1) (QaB (mgN 2) Qbr))) (dH x n) [a0,a1,a2]=some [some (.int (x.1:Int)),some (.int (x.2.1:Int)),some (.ob n)] from rfl]
  dsimp only;rw [show Qcj [some (.int (x.1:Int)),some (.int (x.2.1:Int)),some (.ob n)] O = .ok true O from rfl];dsimp only;rw [e4];dsimp only;rw [Qlv W ns _ _ _ _ h.2,zP];rfl
 | [],_::_,_,_,_,_,h=>h.elim
 | _::_,[],_,_,_,_,h=>h.elim
theorem QvZ {O:Qac}{W:List Wr}{ns:List Nat} (h:HW O W ns) (hl:W.length≤1000) (hw:∀x∈W,x.2.2.length≤1000):Qcs [.lst (hT W ns),.lst (W.map dW)] O = .ok (.bl true) O:=by
 have ll:=(Qfy h).2.2;refine (QjI 5 _ _ O).trans (Qh1 (Qa2 5) _ _ (hT W ns) (W.map dW) O (.inl ⟨rfl,rfl⟩) (by rw [ll,zd]) (by rw [zd]; exact hl) fun i x y hx hy=>?_);obtain ⟨z,n,hz,hn,rfl⟩:=QkW h hx;rw [zm,hz] at hy;cases hy;refine (QjI 4 _ _ O).trans (Qh1 (Qa2 4) _ _ [.int (z.1:Int),.int (z.2.1:Int),.ob n] [.int (z.1:Int),.int (z.2.1:Int),dRw z.2.2] O (.inr ⟨rfl,rfl⟩) rfl (show 3≤1000 by decide) fun i x y hx hy=>?_)
 match i with
 | 0=>cases hx; cases hy; exact Qou _ _ _
 | 1=>cases hx; cases hy; exact Qou _ _ _
 | 2=>cases hx; cases hy; exact Qpk 1 _ _ z.2.2 (hw z (zx hz)) O (QeD hn) rfl
 | i+3=>cases hx
theorem Qlm (ρ0:Option D→Option D→Option D→Qah) (g:MG) (hg:∀a b c x n,g (dH x n) (ρ0 a b c)=some (ρ0 (some (.int (x.1:Int))) (some (.int (x.2.1:Int))) (some (.ob n)))) (hv:∀a b d,(ρ0 a b (some d))[10]? = some (some d)) {m:L2.M D}{d:D} (hm:∀ρ O,m ρ O = .ok d O):∀(W:List Wr) (ns:List Nat) (k:Nat) (O:Qac) (a b c:Option D),W.length=ns.length→k+W.length≤100000→(∀n∈ns,∃ds,O[n]? = some (.ml ds)∧ds.length≤k)→∃O' a' b' c',Qbo g (QfP (Qaa 10) m) (hT W ns) (ρ0 a b c) O = .nx (ρ0 a' b' c') O'
 | [],[],k,O,a,b,c,_,_,_=>⟨O,a,b,c,rfl⟩
 | x::W,n::ns,k,O,a,b,c,hl,hk,h=>by
  obtain ⟨ds,e1,l1⟩:=h n zq;simp only [zA] at hl hk
  have eb:QfP (Qaa 10) m (ρ0 (some (.int (x.1:Int))) (some (.int (x.2.1:Int))) (some (.ob n))) O = .nx (ρ0 (some (.int (x.1:Int))) (some (.int (x.2.1:Int))) (some (.ob n))) (O.set n (.ml (ds ++ [d]))):=by
   unfold QfP;rw [Qje,hv];dsimp only;rw [e1];dsimp only;rw [hm];dsimp only;rw [e1];dsimp only;rw [if_pos (by omega)]
  obtain ⟨O',a',b',c',e2⟩:=Qlm ρ0 g hg hv hm W ns (k+1) (O.set n (.ml (ds ++ [d]))) (some (.int (x.1:Int))) (some (.int (x.2.1:Int))) (some (.ob n)) (by omega) (by omega) (fun j hj=>by
   by_cases hjn:n=j
   ·subst hjn;exact ⟨_,QhY e1,by rw [zg,zX]; omega⟩
   ·obtain ⟨es,f1,f2⟩:=h j (zu _ hj)
    exact ⟨es,(zj hjn).trans f1,by omega⟩)
  refine ⟨O',a',b',c',?_⟩;show Qbo g _ (dH x n::hT W ns) _ O=_;unfold Qbo;rw [hg];dsimp only;rw [eb];exact e2
 | [],_::_,_,_,_,_,_,h,_,_=>by cases h
 | _::_,[],_,_,_,_,_,h,_,_=>by cases h
def rF:MS:=QaE (mC (.bl false))
def CP (i:Nat):L2.M D:=Qat QcJ (Qab (Qaa i) Qae)
def L1:MS:=Qao 5 (Qa3 (Qab (mMl (CP 3)) (Qab (mMl (CP 4)) Qae)))
def L2':MS:=Qao 6 (Qat Qer (Qab (Qad gIx (Qaa 5) (mC (.int 0))) (Qab (Qad gIx (Qaa 5) (mC (.int 1))) Qae)))
def L3:MS:=QaM (Qgp (Qb4 (Qbs (Qci "list" (Qaa 6)))) (Qgp (Qar (Qg4 true 7 (Qaa 5) (Qa3 (Qab (Qaa 3) (Qab (Qaa 4) Qae))))) (Qb4 (Qbs (Qat Qdp (Qab (Qaa 3) (Qab (Qaa 4) (Qab (Qaa 6) Qae)))))))) rF QaO
def L4:MS:=QaM (QcX (Qar (Qad gEq (Qaa 3) (Qaa 4))) (Qar (Qad gNe (Qaa 6) (Qa3 Qae)))) rF QaO
def L5:MS:=QaM (Qb4 (Qbs (Qat Qcs (Qab (Qat Qeu (Qab (CP 3) (Qab (Qaa 6) Qae))) (Qab (Qaa 4) Qae))))) rF QaO
def L6:MS:=Qao 7 (Qbw (Qba (Qaa 6)) 3 [] (Qb9 3 (QaB (mgN 0) (QaB (mgN 1) (QaB (mgN 2) Qbr)))) Qcj (QaZ (Qab (Qaa 0) (Qab (Qaa 1) (Qab (Qav Qcr (Qab (Qaa 2) Qae)) Qae)))))
def XC:L2.M D:=QaZ (Qab (mC (.str [33])) (Qab (mC (.str [97])) (Qab (mC (.str [98])) Qae)))
def L7:MS:=Qea (Qad gIx (Qad gIx (Qaa 5) (mC (.int 1))) (mC (.int 0))) (mC (.int 0)) XC
def L8:MS:=QhU (Qad gIx (Qaa 5) (mC (.int 0)))
def L9:MS:=QaM (Qar (Qg4 true 7 (Qaa 6) (Qaa 7))) rF QaO
def gl:MG:=Qb9 3 (QaB (mgN 8) (QaB (mgN 9) (QaB (mgN 10) Qbr)))
def LA:MS:=Qis 6 [0] (Qa8 (Qba (Qaa 6)) gl (QfP (Qaa 10) XC))
def LB:MS:=Qit 6
def LC:MS:=QaM (Qb4 (Qbs (Qat Qcs (Qab (Qat Qer (Qab (CP 3) (Qab (CP 4) Qae))) (Qab (Qaa 7) Qae))))) rF QaO
def LW:MS:=Qaj L1 (Qaj L2' (Qaj L3 (Qaj L4 (Qaj L5 (Qaj L6 (Qaj L7 (Qaj L8 (Qaj L9 (Qaj LA (Qaj LB LC))))))))))
def eL (X:D) (P Q A B:List Row) (a5 a6 a7 a8 a9 a10:Option D):Qah:=[some X,some (dP P),some (dP Q),some (dP A),some (dP B),a5,a6,a7,a8,a9,a10]
theorem not_tru {m:L2.M D}{ρ:Qah}{O O':Qac} (h:m ρ O = .ok (.bl true) O'):Qb4 (Qbs m) ρ O = .ok false O':=by
 rw [Qjy,QjJ,h,Qam,QeT,QgK,QfV,Qam];rfl
theorem QhQ {t:L2.M Bool}{a b:MS}{ρ:Qah}{O O':Qac} (h:t ρ O = .ok false O'):QaM t a b ρ O=b ρ O':=by
 rw [QkS,h,QjF,if_neg zp]
theorem Qjw {i:Nat}{ρ:Qah}{O:Qac}{A:List Row} (hl:A.length≤1000) (h:ρ[i]? = some (some (dP A))):CP i ρ O = .ok (pD (ids O.length A.length)) (O++A.map QaS):=(Qbg (ma1 (x:=dP A) (by rw [Qje,h]))).trans (QsO hl O)
theorem turn (h w:Nat) (h1:1≤h) (hh:h≤12) (w2:2≤w) (hw:w≤40) (X:D) (P Q:List Row) {A B:List Row} (hA:Pic A h w) (hB:Pic B h w) (O:Qac) (a5 a6 a7 a8 a9 a10:Option D):∃O' b5 b6 b7 b8 b9 b10,LW (eL X P Q A B a5 a6 a7 a8 a9 a10) O = .nx (eL X P Q A B b5 b6 b7 b8 b9 b10) O':=by
 have lA:=hA.len;have lB:=hB.len;obtain ⟨W,hW⟩:∃W,W=pwk A B h:=⟨_,rfl⟩;have kk:=Qk9 hw hA hB
 have cells:∀x∈W,x.2.2.length≤40:=fun x hx=>by rw [hW] at hx; have:=(kk.ok x hx).cl; omega
 obtain ⟨O1,hO1⟩:∃O1,O1=(O++A.map QaS) ++ [Ob.ml ((ids O.length A.length).map D.ob)]:=⟨_,rfl⟩;obtain ⟨O2,hO2⟩:∃O2,O2=(O1++B.map QaS) ++ [Ob.ml ((ids O1.length B.length).map D.ob)]:=⟨_,rfl⟩
 have l1:O1.length=O.length+h+1:=by rw [hO1]; simp; omega
 have l2:O2.length=O1.length+h+1:=by rw [hO2]; simp; omega
 have ag12:Agr O1 O2:=fun j hj=>by rw [hO2,zP,zr hj]
 have n0:O1[O.length+h]? = some (.ml ((ids O.length A.length).map D.ob)):=by rw [hO1,zE (by simp; omega)]; simp [lA]
 have n1:O2[O1.length+h]? = some (.ml ((ids O1.length B.length).map D.ob)):=by rw [hO2,zE (by simp; omega)]; simp [lB]
 have rA1:∀(k i:Nat),(ids O.length A.length)[k]? = some i→∃r,A[k]? = some r∧O1[i]? = some (QaS r):=fun k i hk=>by rw [hO1]; exact QjD O _ A k i hk
 have rB:∀(k i:Nat),(ids O1.length B.length)[k]? = some i→∃r,B[k]? = some r∧O2[i]? = some (QaS r):=fun k i hk=>by rw [hO2]; exact QjD O1 _ B k i hk
 have hpA:HP O2 (.ob (O.length+h)) A:=HP.agr ⟨_,.inr ⟨_,rfl,n0⟩,Qeo _ _,rA1⟩ ag12;have hpB:HP O2 (.ob (O1.length+h)) B:=⟨_,.inr ⟨_,rfl,n1⟩,Qeo _ _,rB⟩
 have s1:L1 (eL X P Q A B a5 a6 a7 a8 a9 a10) O = .nx (eL X P Q A B (some (.lst [.ob (O.length+h),.ob (O1.length+h)])) a6 a7 a8 a9 a10) O2:=by
  have c1:mMl (CP 3) (eL X P Q A B a5 a6 a7 a8 a9 a10) O = .ok (.ob (O.length+h)) O1:=by
   unfold mMl;rw [Qjw (A:=A) (by omega) rfl,Qam,hO1];show Res.ok (D.ob (O++A.map QaS).length) _=_;rw [zg,zd,lA]
  have c2:mMl (CP 4) (eL X P Q A B a5 a6 a7 a8 a9 a10) O1 = .ok (.ob (O1.length+h)) O2:=by
   unfold mMl;rw [Qjw (A:=B) (by omega) rfl,Qam,hO2];show Res.ok (D.ob (O1++B.map QaS).length) _=_;rw [zg,zd,lB]
  refine QfZ ?_;rw [Qrk,Qds,c1,Qam,Qds,c2,Qam,Qjn,Qam,Qam,Qam];exact if_pos (show 2≤1000000 by decide)
 obtain ⟨O3,ns,e2,pw,wl⟩:=Qmp hh hw hA hB hpA hpB;rw [←hW] at e2 pw wl;have s2:L2' (eL X P Q A B (some (.lst [.ob (O.length+h),.ob (O1.length+h)])) a6 a7 a8 a9 a10) O2 = .nx (eL X P Q A B (some (.lst [.ob (O.length+h),.ob (O1.length+h)])) (some (.lst (hT W ns))) a7 a8 a9 a10) O3:=QfZ ((Qbg (maS (Qaz (x:=.lst [.ob (O.length+h),.ob (O1.length+h)]) rfl rfl rfl) (ma1 (Qaz (x:=.lst [.ob (O.length+h),.ob (O1.length+h)]) rfl rfl rfl)))).trans e2);have hpA3:=hpA.agr pw.ag;have hpB3:=hpB.agr pw.ag;have n03:=(pw.ag (O.length+h) (by omega)).trans ((ag12 _ (by omega)).trans n0);have n13:=(pw.ag (O1.length+h) (by omega)).trans n1
 have dA:Qbj O3 7 (.lst [.ob (O.length+h),.ob (O1.length+h)]) = .lst [dP A,dP B]:=by
  have rA3:∀(k i:Nat),(ids O.length A.length)[k]? = some i→∃r,A[k]? = some r∧O3[i]? = some (QaS r):=fun k i hk=>by
   obtain ⟨r,e1,e2⟩:=rA1 k i hk
   have:=(ze.mp e2).1
   exact ⟨r,e1,(pw.ag i (by omega)).trans ((ag12 i this).trans e2)⟩
  have rB3:∀(k i:Nat),(ids O1.length B.length)[k]? = some i→∃r,B[k]? = some r∧O3[i]? = some (QaS r):=fun k i hk=>by
   obtain ⟨r,e1,e2⟩:=rB k i hk;exact ⟨r,e1,(pw.ag i (ze.mp e2).1).trans e2⟩
  show D.lst [Qbj O3 6 (.ob (O.length+h)),Qbj O3 6 (.ob (O1.length+h))]=_
  have z:∀(n:Nat) (is:List Nat) (R:List Row),O3[n]? = some (.ml (is.map D.ob))→is.length=R.length→(∀(k i:Nat),is[k]? = some i→∃r,R[k]? = some r∧O3[i]? = some (QaS r))→Qbj O3 6 (.ob n)=dP R:=fun n is R hn hl hr=>by
   show (match O3[n]? with | some (.ml ds)=>D.lst (ds.map (Qbj O3 5)) | _=>.ob n)=_;rw [hn];exact congrArg D.lst (Qr6 3 hl hr)
  rw [z _ _ A n03 (Qeo _ _) rA3,z _ _ B n13 (Qeo _ _) rB3]
 have okAB:okE (.lst [dP A,dP B])=true:=Qib (n:=20) (by decide) fun d hd=>by
  rcases zn.mp hd with rfl | hd
  ·exact ⟨(QhG hA).1,(QhG hA).2.1,(QhG hA).2.2.1⟩
  ·rw [zo.mp hd];exact ⟨(QhG hB).1,(QhG hB).2.1,(QhG hB).2.2.1⟩
 obtain ⟨O4,e4,ag34,l34⟩:=Qpe hh hw hA hB (O:=O3) (ns:=ns) (by rw [←hW]; exact pw.hw) (by rw [←hW]; exact wl);rw [←hW] at e4;have le3:=pw.le;have hw3:=Qfy pw.hw;have hw4:HW O4 W ns:=Qeq (fun n hn=>ag34 n (hw3.1 n hn)) pw.hw
 have s3:L3 (eL X P Q A B (some (.lst [.ob (O.length+h),.ob (O1.length+h)])) (some (.lst (hT W ns))) a7 a8 a9 a10) O3 = .nx (eL X P Q A B (some (.lst [.ob (O.length+h),.ob (O1.length+h)])) (some (.lst (hT W ns))) a7 a8 a9 a10) O4:=by
  have t1:Qb4 (Qbs (Qci "list" (Qaa 6))) (eL X P Q A B (some (.lst [.ob (O.length+h),.ob (O1.length+h)])) (some (.lst (hT W ns))) a7 a8 a9 a10) O3 = .ok false O3:=not_tru ((Qf0 (d:=.lst (hT W ns)) rfl rfl).trans (by rw [QmN]))
  have t2:Qar (Qg4 true 7 (Qaa 5) (Qa3 (Qab (Qaa 3) (Qab (Qaa 4) Qae)))) (eL X P Q A B (some (.lst [.ob (O.length+h),.ob (O1.length+h)])) (some (.lst (hT W ns))) a7 a8 a9 a10) O3 = .ok false O3:=Qoj (x:=.lst [.ob (O.length+h),.ob (O1.length+h)]) (y:=.lst [dP A,dP B]) rfl (Qi3 (maS rfl (ma1 rfl)) (show 2≤1000000 by decide)) dA (by
   show D.lst [Qbj O3 6 (dP A),Qbj O3 6 (dP B)]=_
   rw [Qn8,Qn8]) okAB
  have t3:Qb4 (Qbs (Qat Qdp (Qab (Qaa 3) (Qab (Qaa 4) (Qab (Qaa 6) Qae))))) (eL X P Q A B (some (.lst [.ob (O.length+h),.ob (O1.length+h)])) (some (.lst (hT W ns))) a7 a8 a9 a10) O3 = .ok false O4:=not_tru ((Qbg (maS rfl (maS rfl (ma1 rfl)))).trans e4);unfold L3;refine QhQ ?_;rw [QkL,t1,Qam,if_neg zp,QkL,t2,Qam,if_neg zp,t3]
 have s4:L4 (eL X P Q A B (some (.lst [.ob (O.length+h),.ob (O1.length+h)])) (some (.lst (hT W ns))) a7 a8 a9 a10) O4 = .nx (eL X P Q A B (some (.lst [.ob (O.length+h),.ob (O1.length+h)])) (some (.lst (hT W ns))) a7 a8 a9 a10) O4:=by
  have t1:Qar (Qad gEq (Qaa 3) (Qaa 4)) (eL X P Q A B (some (.lst [.ob (O.length+h),.ob (O1.length+h)])) (some (.lst (hT W ns))) a7 a8 a9 a10) O4 = .ok (QcA (dP A) (dP B)) O4:=Qcv (Qaz (x:=dP A) (y:=dP B) rfl rfl (by
   show gEq (dP A) (dP B)=_;have o1:=(QhG hA).2.2.2;have o2:=(QhG hB).2.2.2;unfold dP at o1 o2 ⊢
   rw [QqW,o1,o2,Bool.and_self,if_pos rfl]))
  unfold L4;refine QhQ ?_;rw [QgE,t1,Qam]
  cases he:QcA (dP A) (dP B) with
  | false=>rfl
  | true =>
   have hAB:=QqV he
   have hW0:W = []:=by rw [hW,←hAB,QrV]
   rw [if_pos rfl,hW0];rfl
 have Lw:lay W A=B:=by rw [hW]; exact QrZ hw hA hB
 obtain ⟨O5,hO5⟩:∃O5,O5=O4++A.map QaS:=⟨_,rfl⟩;obtain ⟨O6,hO6⟩:∃O6,O6=O5++B.map QaS:=⟨_,rfl⟩;have hw4l:=Qfy hw4;have hw5:HW O5 W ns:=Qeq (fun n hn=>by rw [hO5,zr (hw4l.1 n hn)]) hw4
 have ep:Qeu [pD (ids O4.length A.length),.lst (hT W ns)] O5 = .ok (pD (ids O5.length h)) O6:=by
  have pc:Pc O5 (ids O4.length A.length) A O4.length (O4.length+A.length):=by rw [hO5]; exact Qk2 O4 A
  have:=QoA h w hh hw hA (W:=W) (by rw [hW]; exact kk.ok) pc hw5
  rw [Lw,←hO6] at this;exact this
 have s5:L5 (eL X P Q A B (some (.lst [.ob (O.length+h),.ob (O1.length+h)])) (some (.lst (hT W ns))) a7 a8 a9 a10) O4 = .nx (eL X P Q A B (some (.lst [.ob (O.length+h),.ob (O1.length+h)])) (some (.lst (hT W ns))) a7 a8 a9 a10) O6:=by
  have c1:Qat Qeu (Qab (CP 3) (Qab (Qaa 6) Qae)) (eL X P Q A B (some (.lst [.ob (O.length+h),.ob (O1.length+h)])) (some (.lst (hT W ns))) a7 a8 a9 a10) O4 = .ok (pD (ids O5.length h)) O6:=by
   rw [QgJ,Qds,Qjw (A:=A) (by omega) rfl,Qam,←hO5,ma1 (x:=.lst (hT W ns)) rfl,Qam,Qam,ep]
  have pc6:Pc O6 (ids O5.length h) B O5.length (O5.length+h):=by
   have:=Qk2 O5 B
   rw [lB,←hO6] at this;exact this
  have al:=QsT pc6.rws (show Rows O6 (B.map dRw) B from by
   unfold Rows;rw [zU]
   rfl) (by omega) (fun r hr=>by rw [hB.wd r hr]; omega)
  unfold L5;refine QhQ (not_tru ?_);rw [QgJ,Qds,c1,Qam,ma1 (x:=dP B) rfl,Qam,Qam];exact al
 have hw6:HW O6 W ns:=Qeq (fun n hn=>by rw [hO6,zr (Qfy hw5 |>.1 n hn)]) hw5
 have s6:L6 (eL X P Q A B (some (.lst [.ob (O.length+h),.ob (O1.length+h)])) (some (.lst (hT W ns))) a7 a8 a9 a10) O6 = .nx (eL X P Q A B (some (.lst [.ob (O.length+h),.ob (O1.length+h)])) (some (.lst (hT W ns))) (some (.lst (W.map dW))) a8 a9 a10) O6:=by
  have:=Qlv (O:=O6) W ns none none none [] hw6
  rw [zJ] at this;exact QaW (Qdt (Qdd (l:=hT W ns) rfl) (by rw [hw4l.2.2]; omega) rfl this)
 have a36:∀j,j < O3.length→O6[j]? = O3[j]?:=fun j hj=>by rw [hO6,zr (by rw [hO5,zg]; omega),hO5,zr (by omega),ag34 j hj]
 obtain ⟨r0,hr0⟩:∃r,B[0]? = some r:=⟨_,zh (show 0 < B.length by omega)⟩;have i0:(ids O1.length B.length)[0]? = some O1.length:=Qoi _ _ 0 (by omega)
 have o6:O6[O1.length]? = some (.ml (r0.map dC)):=by
  obtain ⟨r,e1,e2⟩:=rB 0 _ i0;rw [hr0] at e1;cases e1;rw [a36 _ (by omega),pw.ag _ (by omega)];exact e2
 have n16:O6[O1.length+h]? = some (.ml ((ids O1.length B.length).map D.ob)):=(a36 _ (by omega)).trans n13;have n06:O6[O.length+h]? = some (.ml ((ids O.length A.length).map D.ob)):=(a36 _ (by omega)).trans n03;obtain ⟨O7,hO7⟩:∃O7,O7=O6.set O1.length (.ml ((r0.map dC).set 0 (dC ([33],[97],[98])))):=⟨_,rfl⟩;obtain ⟨O8,hO8⟩:∃O8,O8=O7.set (O.length+h) (.ml []):=⟨_,rfl⟩
 have s7:L7 (eL X P Q A B (some (.lst [.ob (O.length+h),.ob (O1.length+h)])) (some (.lst (hT W ns))) (some (.lst (W.map dW))) a8 a9 a10) O6 = .nx (eL X P Q A B (some (.lst [.ob (O.length+h),.ob (O1.length+h)])) (some (.lst (hT W ns))) (some (.lst (W.map dW))) a8 a9 a10) O7:=by
  rw [hO7];refine Qmn (d:=dC ([33],[97],[98])) (n:=O1.length) (j:=0) rfl (Qaz (x:=.ob (O1.length+h)) (Qaz (x:=.lst [.ob (O.length+h),.ob (O1.length+h)]) rfl rfl rfl) (y:=.int 0) rfl ?_) rfl o6 (by rw [zd,hB.wd r0 (zx hr0)]; omega);rw [QeD n16];exact Qeb (i:=0) (by rw [zm,i0]; rfl)
 have s8:L8 (eL X P Q A B (some (.lst [.ob (O.length+h),.ob (O1.length+h)])) (some (.lst (hT W ns))) (some (.lst (W.map dW))) a8 a9 a10) O7 = .nx (eL X P Q A B (some (.lst [.ob (O.length+h),.ob (O1.length+h)])) (some (.lst (hT W ns))) (some (.lst (W.map dW))) a8 a9 a10) O8:=by
  unfold L8 QhU;rw [show Qad gIx (Qaa 5) (mC (.int 0)) (eL X P Q A B (some (.lst [.ob (O.length+h),.ob (O1.length+h)])) (some (.lst (hT W ns))) (some (.lst (W.map dW))) a8 a9 a10) O7 = .ok (.ob (O.length+h)) O7 from Qaz (x:=.lst [.ob (O.length+h),.ob (O1.length+h)]) rfl rfl rfl];dsimp only;rw [hO7,zj (by omega),n06,hO8,hO7]
 have hw8:HW O8 W ns:=Qeq (fun n hn=>by
  have:=pw.lb n hn
  rw [hO8,zj (by omega),hO7,zj (by omega)]) hw6
 have s9:L9 (eL X P Q A B (some (.lst [.ob (O.length+h),.ob (O1.length+h)])) (some (.lst (hT W ns))) (some (.lst (W.map dW))) a8 a9 a10) O8 = .nx (eL X P Q A B (some (.lst [.ob (O.length+h),.ob (O1.length+h)])) (some (.lst (hT W ns))) (some (.lst (W.map dW))) a8 a9 a10) O8:=by
  unfold L9;exact QhQ (Qoj (x:=.lst (hT W ns)) (y:=.lst (W.map dW)) rfl rfl (congrArg D.lst (Qn9 3 hw8)) (QvL 3 W) (Qv7 (by rw [hW]; exact kk.ok)))
 obtain ⟨O9,b8,b9,b10,eA⟩:=Qlm (fun a b c=>eL X P Q A B (some (.lst [.ob (O.length+h),.ob (O1.length+h)])) (some (.lst (hT W ns))) (some (.lst (W.map dW))) a b c) gl (fun a b c x n=>rfl) (fun a b d=>rfl) (m:=XC) (d:=dC ([33],[97],[98])) (fun ρ O=>rfl) W ns 40 O8 a8 a9 a10 (hw4l.2.1).symm (by omega) (fun n hn=>by
  obtain ⟨i,hi⟩:=List.getElem?_of_mem hn;have hil:=(ze.mp hi).1;obtain ⟨x,m,hx,hm,e⟩:=QkW hw8 (show (hT W ns)[i]? = some ((hT W ns)[i]'(by rw [hw4l.2.2,←hw4l.2.1]; exact hil)) from zh _)
  have hg:(hT W ns)[i]? = some (dH x n):=by
   have:∀(W:List Wr) (ns:List Nat) (i:Nat),W[i]? = some x→ns[i]? = some n→(hT W ns)[i]? = some (dH x n):=by
    intro W
    induction W with
    | nil=>intro ns i h; cases h
    | cons y W ih =>
     intro ns i h1 h2
     cases ns with
     | nil=>cases h2
     | cons k ns =>
      cases i with
      | zero=>cases h1; cases h2; rfl
      | succ i=>exact ih ns i h1 h2
   exact this W ns i hx hi
  rw [zh (by rw [hw4l.2.2,←hw4l.2.1]; exact hil),e] at hg
  have hmn:m=n:=by
   have:=zF hg
   unfold dH at this;simp at this;exact this
  rw [←hmn]
  exact ⟨_,hm,by rw [zd]; exact cells x (zx hx)⟩)
 have sA:LA (eL X P Q A B (some (.lst [.ob (O.length+h),.ob (O1.length+h)])) (some (.lst (hT W ns))) (some (.lst (W.map dW))) a8 a9 a10) O8 = .nx (eL X P Q A B (some (.lst [.ob (O.length+h),.ob (O1.length+h)])) (some (.lst (hT W ns))) (some (.lst (W.map dW))) b8 b9 b10) O9:=by
  unfold LA;rw [QtH (l:=hT W ns) (d:=X) rfl rfl,Qcm,Qdd (l:=hT W ns) rfl,Qb2];exact eA
 obtain ⟨O10,hO10⟩:∃O10,O10=O9++A.map QaS:=⟨_,rfl⟩;obtain ⟨O11,hO11⟩:∃O11,O11=O10++B.map QaS:=⟨_,rfl⟩;have q1:HP O11 (pD (ids O9.length A.length)) A:=⟨_,.inl rfl,Qeo _ _,fun k i hk=>by rw [hO11,hO10]; exact QjD O9 _ A k i hk⟩
 have q2:HP O11 (pD (ids O10.length B.length)) B:=⟨_,.inl rfl,Qeo _ _,fun k i hk=>by
  have:=QjD O10 [] B k i hk
  rw [zO,←hO11] at this
  exact this⟩
 obtain ⟨O12,ns',e12,pw',_⟩:=Qmp hh hw hA hB q1 q2;rw [←hW] at e12 pw'
 have sC:LC (eL X P Q A B (some (.lst [.ob (O.length+h),.ob (O1.length+h)])) (some (.lst [])) (some (.lst (W.map dW))) b8 b9 b10) O9 = .nx (eL X P Q A B (some (.lst [.ob (O.length+h),.ob (O1.length+h)])) (some (.lst [])) (some (.lst (W.map dW))) b8 b9 b10) O12:=by
  have c1:Qat Qer (Qab (CP 3) (Qab (CP 4) Qae)) (eL X P Q A B (some (.lst [.ob (O.length+h),.ob (O1.length+h)])) (some (.lst [])) (some (.lst (W.map dW))) b8 b9 b10) O9 = .ok (.lst (hT W ns')) O12:=by
   rw [QgJ,Qds,Qjw (A:=A) (by omega) rfl,Qam,←hO10,Qds,Qjw (A:=B) (by omega) rfl,Qam,←hO11,Qjn,Qam,Qam,Qam,e12]
  unfold LC;refine QhQ (not_tru ?_);rw [QgJ,Qds,c1,Qam,ma1 (x:=.lst (W.map dW)) rfl,Qam,Qam];exact QvZ pw'.hw (by omega) (fun x hx=>zD (cells x hx) (by decide))
 refine ⟨O12,some (.lst [.ob (O.length+h),.ob (O1.length+h)]),some (.lst []),some (.lst (W.map dW)),b8,b9,b10,?_⟩;unfold LW;rw [sq s1,sq s2,sq s3,sq s4,sq s5,sq s6,sq s7,sq s8,sq s9,sq sA,sq (show LB _ O9 = .nx (eL X P Q A B (some (.lst [.ob (O.length+h),.ob (O1.length+h)])) (some (.lst [])) (some (.lst (W.map dW))) b8 b9 b10) O9 from rfl),sC]
theorem QqC (xs:List Int) (hx:xs.length≤63):∃O',Qq3 [.lst (xs.map D.int)] [] = .ok (.bl true) O':=by
 obtain ⟨h,w,P,Q,h1,h12,w2,w40,hP,hQ,ep⟩:=Qna xs [];obtain ⟨X,hX⟩:∃X,X=D.lst (xs.map D.int):=⟨_,rfl⟩;rw [←hX] at ep ⊢
 obtain ⟨ρ',O',e,b3,b4,b5,b6,b7,b8,b9,b10,rfl⟩:=QbM (g:=Qb9 2 (QaB (mgN 3) (QaB (mgN 4) Qbr))) (b:=LW) (fun _ ρ _=>∃b3 b4 b5 b6 b7 b8 b9 b10,ρ = [some X,some (dP P),some (dP Q),b3,b4,b5,b6,b7,b8,b9,b10]) [.tup [dP P,dP Q],.tup [dP Q,dP P],.tup [dP P,dP P],.tup [dP Q,dP Q]] 0 [some X,some (dP P),some (dP Q),none,none,none,none,none,none,none,none] [] ⟨none,none,none,none,none,none,none,none,rfl⟩ (by
  rintro i d ρ O' hi ⟨a3,a4,a5,a6,a7,a8,a9,a10,rfl⟩
  have fin:∀(A B:List Row),Pic A h w→Pic B h w→d = .tup [dP A,dP B]→∃ρ1,Qb9 2 (QaB (mgN 3) (QaB (mgN 4) Qbr)) d [some X,some (dP P),some (dP Q),a3,a4,a5,a6,a7,a8,a9,a10]=some ρ1∧∃ρ2 O2,(LW ρ1 O' = .nx ρ2 O2∨LW ρ1 O' = .ct ρ2 O2)∧∃b3 b4 b5 b6 b7 b8 b9 b10,ρ2 = [some X,some (dP P),some (dP Q),b3,b4,b5,b6,b7,b8,b9,b10]:=fun A B hA hB hd=>by
   obtain ⟨O1,b5,b6,b7,b8,b9,b10,e1⟩:=turn h w h1 h12 w2 w40 X P Q hA hB O' a5 a6 a7 a8 a9 a10;rw [hd];exact ⟨_,rfl,_,_,.inl e1,_,_,_,_,_,_,_,_,rfl⟩
  match i with
  | 0=>cases hi; exact fin P Q hP hQ rfl
  | 1=>cases hi; exact fin Q P hQ hP rfl
  | 2=>cases hi; exact fin P P hP hP rfl
  | 3=>cases hi; exact fin Q Q hQ hQ rfl
  | i+4=>cases hi)
 refine ⟨O',?_⟩
 have s0:Qg6 (Qat QdX (Qab (Qaa 0) Qae)) (Qb9 2 (QaB (mgN 1) (QaB (mgN 2) Qbr))) [some X,none,none,none,none,none,none,none,none,none,none] [] = .nx [some X,some (dP P),some (dP Q),none,none,none,none,none,none,none,none] []:=by
  rw [Qpi,Qbg (ma1 (x:=X) rfl),ep,Qo9 Quq];rfl
 unfold LW L1 L2' L3 L4 L5 L6 L7 L8 L9 LA LB LC gl XC CP rF at e;show Qa7 (QkZ [some X,none,none,none,none,none,none,none,none,none,none] [])=_;unfold QkZ;rw [sq s0,QaA,Qcm,Qdd (l:=[.tup [dP P,dP Q],.tup [dP Q,dP P],.tup [dP P,dP P],.tup [dP Q,dP Q]]) rfl,Qb2,e,Qay];rfl
theorem all_mk {l:PySem.W.OpenLaw}{w:World}{K:PySem.W.Frag}{h:Heap}{mg:Str→Option Value}{fa:Addr} (X:K.In h) (G:h.Ns mainGlobals mg) (hfa:mg "law" = some (.ref fa))
  {Qc9:Addr}
  {QnQ:Addr}{Qtu Qoa:Option Addr}{QtQ:Array (Option Value)}{Qux Qpf Qop Qot Qlh QoE:Value}
  (Z_Change:ClsAt K "Change" Qc9)
  (Qj3:PySem.W.findIn K (.ref Qc9) "alike" = some none)
  (QhE:PySem.W.findIn K (.ref Qc9) "stretches" = some none)
  (Qgs:Def K mg "cost_over" Qgt)
  (Qf5:Def K mg "least_cost" QdI)
  (M_Change_nodes_at:MethAt K Qc9 "nodes_at" "Change.nodes_at" Qd9)
  (M_Change_moves_from:MethAt K Qc9 "moves_from" "Change.moves_from" Qdz)
  (M_Change_is_end:MethAt K Qc9 "is_end" "Change.is_end" QeJ)
  (Qfl:Def K mg "price_nodes" Qfi)
  (M_Change_last_at:MethAt K Qc9 "last_at" "Change.last_at" Qej)
  (QiL:Def K mg "priced" Qi6)
  (Qem:Def K mg "first_cheapest" Qdb)
  (M_Change_first_node:MethAt K Qc9 "first_node" "Change.first_node" QdB)
  (Qi2:Def K mg "way_of" QiT)
  (QdS:Def K mg "letter_stretches" QcM)
  (M_Change___init__:MethAt K Qc9 "__init__" "Change.__init__" QcY)
  (QfU:Def K mg "row_writes" Qgf)
  (Qj8:Def K mg "patch" QjT)
  (QhB:Def K mg "patched" Qgh)
  (Qhj:Def K mg "_law_cell" QgX)
  (QhT:Def K mg "_law_mix" Qh7)
  (QcS:Def K mg "_law_alike" Qe4)
  (QgO:Def K mg "_law_copy" Qfx)
  (Qgd:Def K mg "_law_stream" Qgc)
  (Qgo:Def K mg "_law_cells" Qgk)
  (QhW:Def K mg "_law_row" QhD)
  (Qfk:Def K mg "_law_changed" Qff)
  (Qhe:Def K mg "_law_size" Qg9)
  (QeU:Def K mg "_law_pictures" Qc4)
  (Qfd:Def K mg "_law_covered" Qfg)
  (Qnx:PySem.W.nsIn K mainGlobals "law" = some (some (.ref QnQ))) (QqR:K.lookup QnQ=some ⟨Qux,Qtu,.func (PySem.W.fnOf "law" "law" (QcH QeF) (QbO QeF) (Qas QeF) .none Qpf Qop Qot Qoa Qlh QoE),QtQ⟩) (QtG:PySem.W.codeIn K Qlh "law" = true) (QuT:PySem.W.keepIn K (.ref QnQ)=true)
  (B:QbZ mg)
  (NK:Qbu K=true)
  (QfT:∃u,mg "WRITE_COST" = some u∧RelV (.int 4) u) :
  ∃fd:FuncData,(∀(s:Shared) (v:Value),BindsTo s fd ⟨[v],[]⟩ [("_law_script",v)])∧∀base:Heap,K.In base→base.Ns mainGlobals mg→QcV l.prog w K mg base CX0 8 fa fd ["_law_script"] (sp_law K):=by
 have e:=hfa.symm.trans (PySem.W.mg_of X G Qnx);cases e;have Qcw:=Z_Change.kf X G Qj3;have QaN:=Z_Change.kf X G QhE;have Qd8:=Z_Change.dm X G M_Change_nodes_at;have Qdx:=Z_Change.dm X G M_Change_moves_from;have QeH:=Z_Change.dm X G M_Change_is_end;have Qek:=Z_Change.dm X G M_Change_last_at;have Qdy:=Z_Change.dm X G M_Change_first_node;have Qd5:=Z_Change.dc X G M_Change___init__;have Qm8:Def K mg "law" QeF:=⟨_,_,PySem.W.mg_of X G Qnx,Qle (st:=QeF) QqR QtG QuT⟩;refine ⟨PySem.W.fnOf "law" "law" (QcH QeF) (QbO QeF) (Qas QeF) .none Qpf Qop Qot Qoa Qlh QoE,fun s v=>.of_eq rfl,fun base _ _=>?_⟩
 have Qdu:=@Qk6 l.prog w K mg base Qgs B NK;have Qc0:=@QkA l.prog w K mg base Qf5 B NK Qdu;have Qd7:=@QhJ l.prog w K mg base Qd8 B NK;have QbP:=@Qg7 l.prog w K mg base Qdx B NK QfT Qcw QaN;have Qcg:=@QiX l.prog w K mg base QeH B NK QaN;have Qfc:=@QjX l.prog w K mg base Qfl B NK Qd7 QbP Qcg Qc0;have Qel:=@QiC l.prog w K mg base Qek B NK QaN;have QiQ:=@Qps l.prog w K mg base QiL B NK Qel Qfc;have Qei:=@QiB l.prog w K mg base Qem B NK Qc0 Qdu;have QdA:=@Qg5 l.prog w K mg base Qdy B NK;have QiP:=@Qo7 l.prog w K mg base Qi2 B NK QiQ QdA Qcg Qei QbP;have QbW:=@Qhv l.prog w K mg base QdS B NK;have Qd4:=@QhL l.prog w K mg base Qd5 B NK QaN Qcw QbW
 have QfQ:=@QkE l.prog w K mg base QfU B NK QiP Qd4 QbW;have Qip:=@QpL l.prog w K mg base Qj8 B NK QfQ;have Qh8:=@Qnz l.prog w K mg base QhB B NK;have QcK:=@Qma l.prog w K mg base Qhj B NK;have Qcu:=@QnA l.prog w K mg base QhT B NK;have Qdr:=@Qlf l.prog w K mg base QcS B NK;have Qdj:=@Ql5 l.prog w K mg base QgO B NK;have Qc7:=@QkD l.prog w K mg base Qgd B NK;have Qdv:=@Qlg l.prog w K mg base Qgo B NK;have Qgj:=@QnR l.prog w K mg base QhW B NK Qc7 Qdv;have Qfh:=@Qkf l.prog w K mg base Qfk B NK Qc7 Qdv;have QgS:=@Ql7 l.prog w K mg base Qhe B NK QcK Qcu;have QeW:=@Qjt l.prog w K mg base QeU B NK QgS Qgj QcK Qcu Qfh
 have Qfb:=@Qke l.prog w K mg base Qfd B NK;have QvA:=@QuI l.prog w K mg base Qm8 B NK QeW Qdj Qip Qfb Qdr Qh8;obtain ⟨f',fd',hm',hk',hb',F',oc',od',osl',lk'⟩:=QvA;have e2:=(PySem.W.mg_of X G Qnx).symm.trans hm';cases e2;have e3:=QqR.symm.trans lk';cases e3;exact F'.imp (QrM QqC)
theorem walk {l:PySem.W.OpenLaw}{q:Program}{loose:List Str}{XP:(Str→Option Value)→Heap→Prop}{YP:World→Heap→Prop}{d:DefRec}{K:Params→PySem.W.Frag} (hn:l.most=some 63) (hdf:d.params.defaults = [])
  (hY:∀(w:World) (h:Heap),YP w h→(K w.params).In h)
  (F:∀(w:World) (mg:Str→Option Value) (fa:Addr) (h:Heap),(K w.params).In h→h.Ns mainGlobals mg→mg d.name=some (.ref fa) →
   ∃fd:FuncData,(∀(s:Shared) (u:Value),BindsTo s fd ⟨[u],[]⟩ [("_law_script",u)])∧∀base:Heap,(K w.params).In base→base.Ns mainGlobals mg→QcV l.prog w (K w.params) mg base CX0 8 fa fd ["_law_script"] (sp_law (K w.params))) :
  PySem.W.WalkO q loose XP YP l.row.toRowW d [] (fun f vs=>PySem.call f vs) :=
 L2.walk_ofR (n:=63) (k:=8) (x:="_law_script") (CX:=fun _=>CX0) (sp:=fun w=>sp_law (K w.params)) hn (by decide) hdf ⟨rfl,by decide,by decide⟩ hY F (fun _ _ a ns hl ho hS=>⟨a,ns,rfl,hS,hl,ho,fun _=>rfl⟩) fun _ _ _ _ _ z=>z
end K75
open PySem PySem.W PyProof.Rows L2
set_option maxRecDepth 100000 in
set_option maxHeartbeats 0 in
theorem PySem.Challenge.cw_outweave_k75_patches_both_ways_holds : PySem.Challenge.rw_outweave_k75_patches_both_ways.Holds := by
 w_on; o_law; k_head; (case hw=>w_witness2)
 k_fill
 refine K75.walk (l:=PySem.Challenge.rw_outweave_k75_patches_both_ways) rfl rfl (fun w h Y=>PySem.W.kIn_of Y) ?F
 case F =>
  intro w mg fa h KX G hmg
  refine' K75.all_mk KX G hmg ⟨?x1,?x2,?x3,?x4,?x5,?x6,?x7⟩ ?x8 ?x9 (mkD KX G ?x10 ?x11 ?x12 ?x13) (mkD KX G ?x14 ?x15 ?x16 ?x17) (mkM ?x18 ?x19 ?x20 ?x21 ?x22) (mkM ?x23 ?x24 ?x25 ?x26 ?x27) (mkM ?x28 ?x29 ?x30 ?x31 ?x32) (mkD KX G ?x33 ?x34 ?x35 ?x36) (mkM ?x37 ?x38 ?x39 ?x40 ?x41) (mkD KX G ?x42 ?x43 ?x44 ?x45) (mkD KX G ?x46 ?x47 ?x48 ?x49) (mkM ?x50 ?x51 ?x52 ?x53 ?x54) (mkD KX G ?x55 ?x56 ?x57 ?x58) (mkD KX G ?x59 ?x60 ?x61 ?x62) (mkM ?x63 ?x64 ?x65 ?x66 ?x67) (mkD KX G ?x68 ?x69 ?x70 ?x71) (mkD KX G ?x72 ?x73 ?x74 ?x75) (mkD KX G ?x76 ?x77 ?x78 ?x79) (mkD KX G ?x80 ?x81 ?x82 ?x83) (mkD KX G ?x84 ?x85 ?x86 ?x87) (mkD KX G ?x88 ?x89 ?x90 ?x91) (mkD KX G ?x92 ?x93 ?x94 ?x95) (mkD KX G ?x96 ?x97 ?x98 ?x99) (mkD KX G ?x100 ?x101 ?x102 ?x103) (mkD KX G ?x104 ?x105 ?x106 ?x107) (mkD KX G ?x108 ?x109 ?x110 ?x111) (mkD KX G ?x112 ?x113 ?x114 ?x115) (mkD KX G ?x116 ?x117 ?x118 ?x119) (mkD KX G ?x120 ?x121 ?x122 ?x123) ?x124 ?x125 ?x126 ?x127 ⟨⟨⟨PySem.W.mg_none_of KX G ?x128,PySem.W.mg_none_of KX G ?x129,PySem.W.mg_none_of KX G ?x130,PySem.W.mg_none_of KX G ?x131,PySem.W.mg_none_of KX G ?x132,PySem.W.mg_none_of KX G ?x133,PySem.W.mg_none_of KX G ?x134,PySem.W.mg_none_of KX G ?x135,PySem.W.mg_none_of KX G ?x136,PySem.W.mg_none_of KX G ?x137,PySem.W.mg_none_of KX G ?x138,PySem.W.mg_none_of KX G ?x139,PySem.W.mg_none_of KX G ?x140,PySem.W.mg_none_of KX G ?x141,PySem.W.mg_none_of KX G ?x142⟩,PySem.W.mg_none_of KX G ?x143⟩,PySem.W.mg_none_of KX G ?x144⟩ ?x145 ⟨_,PySem.W.mg_of KX G ?x146,?x147⟩
  (case x1 | x2 | x3 | x4 | x5 | x6 | x7 | x8 | x9 | x10 | x11 | x12 | x13 | x14 | x15 | x16 | x17 | x18 | x19 | x20 | x21 | x22 | x23 | x24 | x25 | x26 | x27 | x28 | x29 | x30 | x31 | x32 | x33 | x34 | x35 | x36 | x37 | x38 | x39 | x40 | x41 | x42 | x43 | x44 | x45 | x46 | x47 | x48 | x49 | x50 | x51 | x52 | x53 | x54 | x55 | x56 | x57 | x58 | x59 | x60 | x61 | x62 | x63 | x64 | x65 | x66 | x67 | x68 | x69 | x70 | x71 | x72 | x73 | x74 | x75 | x76 | x77 | x78 | x79 | x80 | x81 | x82 | x83 | x84 | x85 | x86 | x87 | x88 | x89 | x90 | x91 | x92 | x93 | x94 | x95 | x96 | x97 | x98 | x99 | x100 | x101 | x102 | x103 | x104 | x105 | x106 | x107 | x108 | x109 | x110 | x111 | x112 | x113 | x114 | x115 | x116 | x117 | x118 | x119 | x120 | x121 | x122 | x123 | x124 | x125 | x126 | x127 | x128 | x129 | x130 | x131 | x132 | x133 | x134 | x135 | x136 | x137 | x138 | x139 | x140 | x141 | x142 | x143 | x144 | x146=>k_is)
  (case x145=>first | kernel_rfl | decide +kernel)
  (case x147=>exact ⟨_,rfl⟩)
