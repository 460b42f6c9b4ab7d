import PyProof.Rows.All
import Wide.All
import OpenK.AllK
import Wide.FinOn
import Lean
import PyProof.EqAt
import PyProof.EqKinds
import PyProof.TupleCall
import PySem.Challenge.RW_outweave_k21_plain_rows
set_option Elab.async false
set_option linter.all false
set_option maxRecDepth 100000
set_option maxHeartbeats 4000000
section
open PySem PyProof.Rows
abbrev za:=@wpAny_bind
abbrev zb:=@wpAny_pure
abbrev zc:=@Nat.le_refl
abbrev zd:=@List.map_cons
abbrev ze:=@List.getElem?_set_ne
abbrev zf:=@Heap.lt_size
abbrev zg:=@Bool.and_eq_true
abbrev zh:=@List.getElem?_eq_some_iff
abbrev zj:=@Bool.false_ne_true
abbrev zk:=@List.length_cons
abbrev zl:=@List.size_toArray
abbrev zm:=@List.mem_cons_of_mem
abbrev zn:=@List.mem_cons
abbrev zo:=@List.mem_singleton
abbrev zp:=@Nat.ne_of_lt
abbrev zq:=@Heap.get?_push_of_some
abbrev zr:=@List.getElem?_append_left
abbrev zt:=@decide_eq_false
abbrev zu:=@List.mem_cons_self
abbrev zv:=@List.getElem?_append_right
abbrev zw:=@List.length_append
abbrev zx:=@List.getElem?_cons_zero
abbrev zy:=@Nat.lt_of_lt_of_le
abbrev zz:=@Nat.le_trans
abbrev zA:=@List.mem_append
abbrev zB:=@List.length_map
abbrev zC:=@Heap.get?_push_size
abbrev zD:=@List.getElem?_eq_getElem
abbrev zE:=@List.length_nil
abbrev zF:=@List.getElem?_set_self
abbrev zG:=@List.getElem?_map
abbrev zH:=@List.getElem?_cons_succ
abbrev zI:=@List.mem_of_getElem?
abbrev zJ:=@wpAny_mono
abbrev zK:=@decide_eq_true
abbrev zL:=@Nat.lt_irrefl
abbrev zM:=@Option.some.inj
abbrev zN:=@List.mem_append_right
abbrev zO:=@List.nil_append
abbrev zP:=@List.map_append
abbrev zQ:=@List.length_set
abbrev zR:=@List.append_nil
abbrev zS:=@List.append_assoc
abbrev zT:=@List.map_nil
abbrev zU:=@List.mem_map
abbrev zV:=@wpAny_holding
abbrev zW:=@List.getD_eq_getElem?_getD
abbrev zX:=@List.map_map
abbrev zY:=@List.set_cons_succ
abbrev zZ:=@List.set_cons_zero
abbrev jc:=@List.length_singleton
abbrev jd:=@Nat.le_add_right
abbrev je:=@Nat.lt_succ_self
abbrev jf:=@List.map_congr_left
abbrev jg:=@of_decide_eq_true
abbrev jh:=@List.nodup_append
abbrev ji:=@List.getElem_mem
end
namespace PySem.W.Fast
abbrev tw5645427362308249702:=()
abbrev tw12822942765949522640:=()
abbrev tw53279158661188267:=()
abbrev tw10955934346469051061:=()
abbrev tw1382995425048504475:=()
abbrev tw4608370327606273744:=()
abbrev tw16321755332830261611:=()
abbrev tw7143484539222659219:=()
abbrev tw12605375686874421936:=()
abbrev tw9912692374707682685:=()
abbrev tw772222281024048506:=()
abbrev tw4551915826250237553:=()
abbrev tw1436496435435109618:=()
abbrev tw4667331410458553567:=()
abbrev tw1241561331087011700:=()
abbrev tw10306152618896737496:=()
abbrev tw14626572465050375042:=()
abbrev tw8384444705538671300:=()
abbrev tw16254064963304573369:=()
abbrev tw11001295740447299089:=()
abbrev tw10630650140696853864:=()
abbrev tw12225814541018748762:=()
end PySem.W.Fast
namespace L2
open PySem PySem.Spec PyProof.Rows
abbrev Key:=Sum Int Str
def Qqb:Key→Value→Bool
 | .inl k,v=>Value.isInt k v
 | .inr x,v=>Value.isStrOf x v
def QuC (w:World):Key→Int
 | .inl k=>hashInt k
 | .inr x=>hashStr w x
theorem QbY:∀{k:Key}{v:Value},Qqb k v=true→(∃i t,k=Sum.inl i∧v=Value.int i t)∨(∃x t,k=Sum.inr x∧v=Value.str x t)
 | .inl i,v,h=>by
  obtain ⟨t,e⟩:=Value.isInt_shape (k:=i) (v:=v) h;exact .inl ⟨i,t,rfl,e⟩
 | .inr x,v,h=>by
  obtain ⟨t,e⟩:=Value.isStrOf_shape (x:=x) (v:=v) h;exact .inr ⟨x,t,rfl,e⟩
theorem Qsr (a b:Int):decide ((Sum.inl a:Key)=Sum.inl b)=(a == b):=by
 by_cases e:a=b
 ·subst e; simp
 ·have h:¬(Sum.inl a:Key)=Sum.inl b:=fun q=>e (Sum.inl.inj q)
  rw [zt h];exact (beq_eq_false_iff_ne.mpr e).symm
theorem Qsk (a b:Str):decide ((Sum.inr a:Key)=Sum.inr b)=decide (a=b):=by
 by_cases e:a=b
 ·subst e; simp
 ·have h:¬(Sum.inr a:Key)=Sum.inr b:=fun q=>e (Sum.inr.inj q)
  rw [zt h,zt e]
theorem QrT (a:Int) (b:Str):decide ((Sum.inl a:Key)=Sum.inr b)=false:=zt (fun q=>nomatch q)
theorem QsS (a:Str) (b:Int):decide ((Sum.inr a:Key)=Sum.inl b)=false:=zt (fun q=>nomatch q)
def QjQ (prog:Program) (w:World):PySem.KeyKind prog w Key where
 is:=Qqb
 hash:=QuC w
 inj:=fun v a b ha hb=>by
  rcases QbY ha with ⟨i,t,rfl,rfl⟩ | ⟨x,t,rfl,rfl⟩
  ·rcases QbY hb with ⟨j,u,rfl,e⟩ | ⟨y,u,rfl,e⟩
   ·injection e with e1 _; rw [e1]
   ·exact nomatch e
  ·rcases QbY hb with ⟨j,u,rfl,e⟩ | ⟨y,u,rfl,e⟩
   ·exact nomatch e
   ·injection e with e1 _; rw [e1]
 byValue:=fun k v h=>by
  rcases QbY h with ⟨i,t,rfl,rfl⟩ | ⟨x,t,rfl,rfl⟩ <;> rfl
 pyHash:=fun hv h=>by
  rcases QbY hv with ⟨i,t,rfl,rfl⟩ | ⟨x,t,rfl,rfl⟩
  ·exact wpAny_pyHash_int h
  ·exact wpAny_pyHash_str h
 eqBool:=fun hu hv h=>by
  rcases QbY hu with ⟨i,t,rfl,rfl⟩ | ⟨x,t,rfl,rfl⟩
  ·rcases QbY hv with ⟨j,u,rfl,rfl⟩ | ⟨y,u,rfl,rfl⟩
   ·rw [Qsr] at h; exact wpAny_eqBool_int h
   ·rw [QrT] at h; exact SeqAt.EqAt.int_str i t y u _ _ _ _ h
  ·rcases QbY hv with ⟨j,u,rfl,rfl⟩ | ⟨y,u,rfl,rfl⟩
   ·rw [QsS] at h; exact SeqAt.EqAt.str_int x t j u _ _ _ _ h
   ·rw [Qsk] at h; exact wpAny_eqBool_str h
 «strs»:=fun k x t v h=>by
  rcases QbY h with ⟨i,u,rfl,e⟩ | ⟨y,u,rfl,e⟩
  ·exact nomatch e
  ·injection e with e1 _
   subst e1
   cases v <;> rfl
inductive V where
 | non | bl (b:Bool) | int (i:Int) | str (x:Str) | byt (b:Array UInt8) | flt (b:UInt64) | ref (a:Addr) | ty (n:String)
 deriving DecidableEq
def RelV:V→Value→Prop
 | .non,u=>u=Value.none
 | .bl b,u=>u=Value.bool b
 | .int i,u=>∃t,u=Value.int i t
 | .str x,u=>∃t,u=Value.str x t
 | .byt b,u=>∃t,u=Value.bytes b t
 | .flt b,u=>∃t,u=Value.float b t
 | .ref a,u=>u=Value.ref a
 | .ty n,u=>u=Value.type n
abbrev Qar:List V→List Value→Prop:=Paired RelV
theorem Qar.length {xs:List V}{us:List Value} (r:Qar xs us):xs.length=us.length:=Paired.length r
theorem Qar.get:∀{xs:List V}{us:List Value}{i:Nat}{x:V},Qar xs us→xs[i]? = some x→∃u,us[i]? = some u∧RelV x u
 | _,_,_,_,.nil,e=>by simp at e
 | _,_,0,_,.cons r _,e=>by simp at e; subst e; exact ⟨_,rfl,r⟩
 | _,_,i+1,x,.cons _ t,e=>by
  obtain ⟨u,h1,h2⟩:=Qar.get (i:=i) (x:=x) t (by simpa using e);exact ⟨u,by simpa using h1,h2⟩
theorem Qar.set {x:V}{u:Value} (r:RelV x u):∀{xs:List V}{us:List Value} (i:Nat),Qar xs us→Qar (xs.set i x) (us.set i u)
 | _,_,_,.nil=>.nil
 | _,_,0,.cons _ t=>.cons r t
 | _,_,i+1,.cons q t=>.cons q (Qar.set r i t)
theorem Qar.append:∀{xs ys:List V}{us ws:List Value},Qar xs us→Qar ys ws→Qar (xs++ys) (us++ws)
 | _,_,_,_,.nil,s=>s
 | _,_,_,_,.cons r t,s=>.cons r (Qar.append t s)
theorem Qar.take:∀{xs:List V}{us:List Value} (n:Nat),Qar xs us→Qar (xs.take n) (us.take n)
 | _,_,0,_=>.nil
 | _,_,_+1,.nil=>.nil
 | _,_,n+1,.cons r t=>.cons r (Qar.take n t)
theorem Qar.drop:∀{xs:List V}{us:List Value} (n:Nat),Qar xs us→Qar (xs.drop n) (us.drop n)
 | _,_,0,r=>r
 | _,_,_+1,.nil=>.nil
 | _,_,n+1,.cons _ t=>Qar.drop n t
theorem Qar.none_of:∀{xs:List V}{us:List Value}{i:Nat},Qar xs us→xs[i]? = none→us[i]? = none:=fun {xs us i} r e=>by
 have h1:=r.length;have h2:xs.length≤i:=List.getElem?_eq_none_iff.mp e;exact List.getElem?_eq_none_iff.mpr (by omega)
def Qdf:Option V→Option Value→Prop
 | some v,some u=>RelV v u
 | none,none=>True
 | _,_=>False
def KV {κ:Type}:List (κ×V)→List (κ×Value)→Prop:=Paired fun (p:κ×V) (q:κ×Value)=>p.1=q.1∧RelV p.2 q.2
def kV:Key→V
 | .inl i=>.int i
 | .inr x=>.str x
inductive HO where
  | lst (xs:List V)
  | tup (xs:List V)
  | dK (kvs:List (Key×V)) | dT (kvs:List (List Key×V))
  | set (S:Int→Bool) (n:Nat)
  | ins (C dx:Addr) (fs:List (Str×V))
  | own (x:Addr)
  | xd (fs:List (Str×V))
  | met (f x:Addr)
  | rng (lo hi:Int)
  | frz (o:Obj) (u:HO)
  | tbl (ps:Array Value)
  | ext (φ:Heap→Prop)
abbrev Hp:=Addr→Option HO
def upd (H:Hp) (a:Addr) (o:HO):Hp:=fun b=>if b=a then some o else H b
theorem QaL {H:Hp}{a:Addr}{o:HO}:upd H a o a=some o:=by unfold upd; rw [if_pos rfl]
theorem Qal {H:Hp}{a b:Addr}{o:HO} (h:b≠a):upd H a o b=H b:=by unfold upd; rw [if_neg h]
theorem Qas {H:Hp}{a b:Addr}{o:HO} (h:H a=some o) (h':H b=none):a≠b:=by
 intro e; subst e; rw [h] at h'; cases h'
section
variable (P:Program) (w:World)
def Qbx (H:Hp) (h:Heap) (a:Addr):HO→Prop
 | .lst xs=>xs.length≤sizeLine∧∃(its:List Value) (n:Nat),Qar xs its∧h.get? a=some { cls:=.type "list",data:=.seq its.toArray n }
 | .tup xs=>xs.length≤sizeLine∧∃its:List Value,Qar xs its∧IsTup h a its.toArray
 | .dK kvs=>kvs.length≤sizeLine∧(a == sysModules)=false∧∃vs,KV kvs vs∧h.DictOf (QjQ P w) a vs
 | .dT kvs=>kvs.length≤sizeLine∧(a == sysModules)=false∧∃xs:List (List Key×Addr×Value),
   Paired (fun (p:List Key×V) (q:List Key×Addr×Value)=>p.1=q.1∧H q.2.1=some (.tup (p.1.map kV))∧RelV p.2 q.2.2) kvs xs ∧
   ∃o es ep,h.get? a=some o∧o.ExactDict∧o.data = .dict es ep∧es.toList=xs.map (entryOfKey (tupleKind (QjQ P w)))∧(xs.map (·.1)).Nodup
 | .set S n=>h.SetOf (intKind P w) a S n
 | .ins C dx fs=>H dx=some (.own a)∧fs.length≤1000∧dx≠a∧h.get? a=some (PySem.W.instObj C dx) ∧
   ∃mA,h.Ns1 dx mA∧(∀f,Qdf (fs.lookup f) (mA f))∧PySem.Within mA (fs.map (·.1))
 | .own _=>∃o,h.get? a=some o
 | .xd fs=>∃mA,h.Ns1 a mA∧∀f,Qdf (fs.lookup f) (mA f)
 | .rng lo hi=>∃t u v,h.get? a=some { cls:=.type "range",data:=.fields #[.int lo t,.int hi u,.int 1 v] }
 | .frz o u=>h.get? a=some o∧Qbx H h a u
 | .tbl ps=>h.get? a=some { cls:=.none,data:=.fields ps }
 | .met f x=>h.get? a=some (PySem.W.methodObj (.ref f) (.ref x))
 | .ext φ=>φ h∧(∃o,h.get? a=some o)∧∀h1 h2:Heap,φ h1→(∀o,h1.get? a=some o→h2.get? a=some o)→φ h2
def HOk (H:Hp) (h:Heap):Prop:=∀a o,H a=some o→Qbx P w H h a o
end
section
variable {P:Program}{w:World}{H H':Hp}{h h':Heap}{a:Addr}{o:HO}
theorem Qbx.lt (x:Qbx P w H h a o):a < h.objs.size:=by
 cases o with
 | lst xs=>obtain ⟨_,_,_,_,e⟩:=x; exact zf e
 | tup xs=>obtain ⟨_,_,_,p⟩:=x; exact p.lt
 | dK kvs=>obtain ⟨_,_,_,_,o,_,_,e,_⟩:=x; exact zf e
 | dT kvs=>obtain ⟨_,_,_,_,o,_,_,e,_⟩:=x; exact zf e
 | set S n=>obtain ⟨o,_,_,_,e,_⟩:=x; exact zf e
 | ins C dx fs=>obtain ⟨_,_,_,e,_⟩:=x; exact zf e
 | own y=>obtain ⟨_,e⟩:=x; exact zf e
 | xd fs=>obtain ⟨_,⟨_,_,_,e,_⟩,_⟩:=x; exact zf e
 | rng lo hi=>obtain ⟨_,_,_,e⟩:=x; exact zf e
 | frz ob u=>obtain ⟨e,_⟩:=x; exact zf e
 | tbl ps=>exact zf (show h.get? a=some _ from x)
 | met f y=>exact zf (show h.get? a=some _ from x)
 | ext φ=>obtain ⟨_,⟨_,e⟩,_⟩:=x; exact zf e
theorem Paired.mapP {α β:Type}{F G:α→β→Prop}:∀{l₁:List α}{l₂:List β},Paired F l₁ l₂→(∀a b,F a b→G a b)→Paired G l₁ l₂
 | _,_,.nil,_=>.nil
 | _,_,.cons r t,f=>.cons (f _ _ r) (Paired.mapP t f)
theorem Qbx.stay (x:Qbx P w H h a o) (k:∀b u,(b=a∨H b=some (.own a))→h.get? b=some u→h'.get? b=some u)
  (ho:∀b,H b=some (.own a)→H' b=some (.own a)) (ht:∀b xs,H b=some (.tup xs)→H' b=some (.tup xs)):Qbx P w H' h' a o:=by
 induction o with
 | lst xs=>obtain ⟨z,its,n,r,e⟩:=x; exact ⟨z,its,n,r,k _ _ (.inl rfl) e⟩
 | tup xs=>obtain ⟨z,its,r,ob,e,c⟩:=x; exact ⟨z,its,r,ob,k _ _ (.inl rfl) e,c⟩
 | dK kvs=>obtain ⟨z,y,vs,r,ob,es,ep,e,c⟩:=x; exact ⟨z,y,vs,r,ob,es,ep,k _ _ (.inl rfl) e,c⟩
 | dT kvs =>
  obtain ⟨z,y,xs,r,ob,es,ep,e,c⟩:=x;exact ⟨z,y,xs,Paired.mapP r fun p q z=>⟨z.1,ht _ _ z.2.1,z.2.2⟩,ob,es,ep,k _ _ (.inl rfl) e,c⟩
 | set S n=>obtain ⟨ob,es,ep,t,e,c⟩:=x; exact ⟨ob,es,ep,t,k _ _ (.inl rfl) e,c⟩
 | ins C dx fs =>
  obtain ⟨d,z,ne,e,mA,⟨od,es,ep,e2,c⟩,r⟩:=x;exact ⟨ho _ d,z,ne,k _ _ (.inl rfl) e,mA,⟨od,es,ep,k _ _ (.inr d) e2,c⟩,r⟩
 | own y=>obtain ⟨ob,e⟩:=x; exact ⟨ob,k _ _ (.inl rfl) e⟩
 | xd fs=>obtain ⟨mA,⟨od,es,ep,e,c⟩,r⟩:=x; exact ⟨mA,⟨od,es,ep,k _ _ (.inl rfl) e,c⟩,r⟩
 | rng lo hi=>obtain ⟨t,u,v,e⟩:=x; exact ⟨t,u,v,k _ _ (.inl rfl) e⟩
 | frz ob u ih=>obtain ⟨e,q⟩:=x; exact ⟨k _ _ (.inl rfl) e,ih q⟩
 | tbl ps =>
  have e:h.get? a=some { cls:=.none,data:=.fields ps }:=x;show h'.get? a=some { cls:=.none,data:=.fields ps };exact k a _ (.inl rfl) e
 | met f y =>
  have e:h.get? a=some (PySem.W.methodObj (.ref f) (.ref y)):=x;show h'.get? a=some (PySem.W.methodObj (.ref f) (.ref y));exact k a _ (.inl rfl) e
 | ext φ=>obtain ⟨p,⟨o,e⟩,st⟩:=x; exact ⟨st _ _ p fun o q=>k _ _ (.inl rfl) q,⟨o,k _ _ (.inl rfl) e⟩,st⟩
theorem HOk.lt (x:HOk P w H h) (e:H a=some o):a < h.objs.size:=(x a o e).lt
theorem HOk.fresh (x:HOk P w H h) (e:h.objs.size≤a):H a=none:=by
 cases q:H a with
 | none=>rfl
 | some u=>exact absurd (zy (x.lt q) e) (zL _)
theorem HOk.kept (x:HOk P w H h) (k:∀b u,h.get? b=some u→h'.get? b=some u):HOk P w H h':=fun a o e =>
 (x a o e).stay (fun b u _ q=>k b u q) (fun _ q=>q) fun _ _ q=>q
theorem HOk.laid (x:HOk P w H h) (k:∀b u,h.get? b=some u→h'.get? b=some u) (hp:h.objs.size≤a) (new:Qbx P w (upd H a o) h' a o):HOk P w (upd H a o) h':=fun b u e=>by
 have hn:=x.fresh hp
 by_cases hb:b=a
 ·subst hb; rw [QaL] at e; cases e; exact new
 ·rw [Qal hb] at e
  exact (x b u e).stay (fun c v _ q=>k c v q) (fun c q=>by rw [Qal (Qas q hn)]; exact q) fun c xs q=>by rw [Qal (Qas q hn)]; exact q
end
def Rd (H:Hp) (a:Addr) (u:HO):Prop:=H a=some u∨∃o,H a=some (.frz o u)
theorem Rd.of {H:Hp}{a:Addr}{u:HO} (h:H a=some u):Rd H a u:=.inl h
theorem Rd.ok {P:Program}{w:World}{H:Hp}{h:Heap}{a:Addr}{u:HO} (r:Rd H a u) (x:HOk P w H h):Qbx P w H h a u:=by
 rcases r with r | ⟨o,r⟩
 ·exact x a u r
 ·obtain ⟨_,q⟩:=x a _ r;exact q
def Mut:Option HO→Prop
 | some (.lst _)=>True
 | some (.dK _)=>True
 | some (.dT _)=>True
 | some (.set _ _)=>True
 | some (.ins _ _ _)=>True
 | some (.ext _)=>True
 | _=>False
section
variable {P:Program}{w:World}{H:Hp}{h h':Heap}{x e:Addr}{o':HO}
theorem HOk.write (ok:HOk P w H h) (mu:Mut (H x)) (he:e=x∨H e=some (.own x)) (k:∀b u,b≠e→h.get? b=some u→h'.get? b=some u) (heo:∃u,h'.get? e=some u)
  (new:Qbx P w (upd H x o') h' x o'):HOk P w (upd H x o') h':=fun b u q=>by
 have nown:∀c y,H c=some (.own y)→c≠x:=fun c y r z=>by subst z; rw [r] at mu; exact mu
 have ntup:∀c xs,H c=some (.tup xs)→c≠x:=fun c xs r z=>by subst z; rw [r] at mu; exact mu
 by_cases hb:b=x
 ·subst hb; rw [QaL] at q; cases q; exact new
 ·rw [Qal hb] at q
  by_cases hbe:b=e
  ·have q':H b=some (.own x):=by
    rcases he with z | z
    ·exact absurd (hbe.trans z) hb
    ·rw [hbe]; exact z
   rw [q] at q'; cases q';obtain ⟨v,hv⟩:=heo;exact ⟨v,by rw [hbe]; exact hv⟩
  ·refine (ok b u q).stay (fun c v hc r=>k c v ?_ r) (fun c r=>by rw [Qal (nown c b r)]; exact r) fun c xs r=>by rw [Qal (ntup c xs r)]; exact r
   rcases hc with rfl | hc
   ·exact hbe
   ·rintro rfl
    rcases he with z | z
    ·exact nown c b hc z
    ·rw [hc] at z; cases z; exact hb rfl
end
structure Un (fs ex:List Addr) (H H':Hp) (h h':Heap):Prop where
 keep:∀b o,h.get? b=some o→H b=none→b∉fs→b∉ex→h'.get? b=some o
 slot:∀b o,h.get? b=some o→H b=none→b∈fs→b∉ex→∃sl,h'.get? b=some { o with slots:=sl }
 free:∀b o,h.get? b=some o→H b=none→b∉ex→H' b=none
 there:∀b o,h.get? b=some o→b∉ex→∃o',h'.get? b=some o'
 tups:∀b xs,H b=some (.tup xs)→H' b=some (.tup xs)
 frzs:∀b o u,H b=some (.frz o u)→H' b=some (.frz o u)
 tbls:∀b ps,H b=some (.tbl ps)→∃more,H' b=some (.tbl (ps++more))
section
variable {fs fs' ex ex':List Addr}{H H1 H2:Hp}{h h1 h2 h':Heap}{a x e:Addr}{o:HO}
theorem Un.any (u:Un fs ex H H1 h h1) {b:Addr}{ob:Obj} (q:h.get? b=some ob) (n:H b=none) (hx:b∉ex):∃sl,h1.get? b=some { ob with slots:=sl }:=by
 by_cases hb:b∈fs
 ·exact u.slot b ob q n hb hx
 ·exact ⟨ob.slots,u.keep b ob q n hb hx⟩
theorem Un.trans (a:Un fs ex H H1 h h1) (b:Un fs ex H1 H2 h1 h2):Un fs ex H H2 h h2 where
 keep:=fun c ob q n hc hx=>b.keep c ob (a.keep c ob q n hc hx) (a.free c ob q n hx) hc hx
 slot:=fun c ob q n hc hx=>by
  obtain ⟨sl,e1⟩:=a.slot c ob q n hc hx;obtain ⟨sl',e2⟩:=b.slot c _ e1 (a.free c ob q n hx) hc hx;exact ⟨sl',e2⟩
 free:=fun c ob q n hx=>by
  obtain ⟨o',e1⟩:=a.there c ob q hx;exact b.free c o' e1 (a.free c ob q n hx) hx
 there:=fun c ob q hx=>by
  obtain ⟨o',e1⟩:=a.there c ob q hx;exact b.there c o' e1 hx
 tups:=fun c xs q=>b.tups c xs (a.tups c xs q)
 frzs:=fun c ob xs q=>b.frzs c ob xs (a.frzs c ob xs q)
 tbls:=fun c ps q=>by
  obtain ⟨m1,e1⟩:=a.tbls c ps q;obtain ⟨m2,e2⟩:=b.tbls c _ e1;exact ⟨m1++m2,by rw [e2,Array.append_assoc]⟩
theorem Un.kept (k:∀b u,h.get? b=some u→h'.get? b=some u):Un fs ex H H h h' :=
 ⟨fun b ob q _ _ _=>k b ob q,fun b ob q _ _ _=>⟨ob.slots,k b ob q⟩,fun _ _ _ n _=>n,fun b ob q _=>⟨ob,k b ob q⟩,fun _ _ q=>q,fun _ _ _ q=>q,fun _ ps q=>⟨#[],by rw [q]; simp⟩⟩
theorem Un.refl:Un fs ex H H h h:=Un.kept fun _ _ q=>q
theorem Un.laid (k:∀b u,h.get? b=some u→h'.get? b=some u) (hp:h.objs.size≤a) (hn:H a=none):Un fs ex H (upd H a o) h h' where
 keep:=fun b u q _ _ _=>k b u q
 slot:=fun b u q _ _ _=>⟨u.slots,k b u q⟩
 free:=fun b u q n _=>by rw [Qal (zp (zy (zf q) hp))]; exact n
 there:=fun b u q _=>⟨u,k b u q⟩
 tups:=fun b xs q=>by rw [Qal (Qas q hn)]; exact q
 frzs:=fun b u xs q=>by rw [Qal (Qas q hn)]; exact q
 tbls:=fun b ps q=>⟨#[],by rw [Qal (Qas q hn),q]; simp⟩
theorem Un.write (mu:Mut (H x)) (he:e=x∨H e=some (.own x)) (k:∀b u,b≠e→h.get? b=some u→h'.get? b=some u) (heo:∃u,h'.get? e=some u):Un fs ex H (upd H x o) h h':=by
 have hx:∀b,H b=none→b≠x:=fun b n z=>by subst z; rw [n] at mu; exact mu
 have hb:∀b,H b=none→b≠e:=fun b n z=>by
  subst z
  rcases he with r | r
  ·exact hx b n r
  ·rw [n] at r; cases r
 have hm:∀b u,H b=some u→¬Mut (some u)→b≠x:=fun b u q nm z=>by subst z; rw [q] at mu; exact nm mu
 refine ⟨fun b u q n _ _=>k b u (hb b n) q,fun b u q n _ _=>⟨u.slots,k b u (hb b n) q⟩,fun b u q n _=>by rw [Qal (hx b n)]; exact n,fun b u q _=>?_,
  fun b xs q=>by rw [Qal (hm b _ q fun z=>z)]; exact q,fun b u xs q=>by rw [Qal (hm b _ q fun z=>z)]; exact q,fun b ps q=>⟨#[],by rw [Qal (hm b _ q fun z=>z),q]; simp⟩⟩
 by_cases hbe:b=e
 ·subst hbe; exact heo
 ·exact ⟨u,k b u hbe q⟩
theorem Un.mono (u:Un fs ex H H1 h h1) (hs:∀b∈fs,b∈fs') (hx:∀b∈ex,b∈ex'):Un fs' ex' H H1 h h1 :=
 ⟨fun b ob q n hb he=>u.keep b ob q n (fun z=>hb (hs b z)) fun z=>he (hx b z),fun _ _ q n _ he=>u.any q n fun z=>he (hx _ z),fun b ob q n he=>u.free b ob q n fun z=>he (hx b z),fun b ob q he=>u.there b ob q fun z=>he (hx b z),u.tups,u.frzs,u.tbls⟩
end
def trk (h:Heap) (H:Hp):List Addr:=(List.range h.objs.size).filter fun a=>(H a).isSome
def Qem (h:Heap) (H:Hp):Heap:=PySem.W.hideAll h (trk h H)
theorem Qkh (h:Heap) (H:Hp):(Qem h H).objs.size=h.objs.size:=PySem.W.hideAll_size _ _
theorem QlP {h:Heap}{H:Hp}{b:Addr}{o:Obj} (e:h.get? b=some o) (n:H b=none):(Qem h H).get? b=some o :=
 PySem.W.hideAll_get _ e fun hm=>by
  have q:(H b).isSome=true:=(List.mem_filter.mp hm).2;rw [n] at q; simp at q
theorem Ql3 {h:Heap}{H:Hp}{b:Addr}{o:Obj} (e:(Qem h H).get? b=some o):h.get? b=some o∧H b=none:=by
 have e':h.get? b=some o:=PySem.W.of_hideAll (trk h H) e;refine ⟨e',?_⟩
 cases q:H b with
 | none=>rfl
 | some x =>
  have hm:b∈trk h H:=List.mem_filter.mpr ⟨List.mem_range.mpr (zf e'),by simp [q]⟩;have z:(Qem h H).get? b=none:=PySem.W.hideAll_none (trk h H) hm;rw [z] at e; cases e
def QqB (g h:Heap) (L:Addr):List (Addr×Obj):=(List.range h.objs.size).filterMap fun a=>if a=L∨(g.get? a).isSome=true then none else (h.get? a).map fun o=>(a,o)
def rest (g h:Heap) (L d:Addr):List (Addr×Obj):=(QqB g h L).filter fun p=>decide (p.1≠d)
structure Mod (K:PySem.W.Frag) (mg:Str→Option Value) (base:Heap):Prop where
 kin:K.In base
 glob:base.Ns mainGlobals mg
 blt:∃mb,base.Ns builtinsNs mb∧∀x:Str,x≠"__name__"→mb x=bootBuiltins x
 nolimit:base.NoLimit
structure Cx where
 prog:Program
 w:World
 K:PySem.W.Frag
 mg:Str→Option Value
 base:Heap
 A:Around
 N:List Str
 s₀:Shared
 H₀:Hp
 env:Env
 outer:List Env
 stack:List Env
 ex:List Addr
 fn:Str→Bool
 calm:Bool
 pn:List (Addr×Obj)
 xe:Value→Shared→Prop
def frs (l:List Env):List Addr:=l.filterMap (·.frame)
abbrev Cx.fs (X:Cx):List Addr:=frs X.outer
def Vis (sc:Scope) (x:Str):Prop:=sc.names.lookup x=some .local∨sc.names.lookup x=some .cell∨sc.names.lookup x=some .free
def Loc (sc:Scope) (x:Str):Prop:=sc.names.lookup x=some .local∨sc.names.lookup x=some .cell
def Look (env:Env) (h:Heap) (m:Str→Option Value) (x:Str) (u:Value):Prop :=
 (env.kindOf x=some .local∧m x=some u)∨((env.kindOf x=some .cell∨env.kindOf x=some .free)∧∃c,env.cells.lookup x=some c∧h.IsCell c (some u))
structure Cx.Ok (X:Cx):Prop where
 mod:Mod X.K X.mg X.base
 kind:X.env.scope.kind = .function
 glob:X.env.globals=mainGlobals
 blt:X.env.builtins=builtinsNs
 above:X.s₀.heap.objs.size≤X.env.locals
 inj:∀x y c,X.env.cells.lookup x=some c→X.env.cells.lookup y=some c→x=y
 has:∀x,(X.env.kindOf x=some .cell∨X.env.kindOf x=some .free)→∃c,X.env.cells.lookup x=some c
 cab:∀x c,X.fn x=true→X.env.cells.lookup x=some c→X.s₀.heap.objs.size≤c
 hd:X.calm=true→X.A.handled=none
 frames:X.A.frames=some X.stack
 stk:X.stack=X.outer∨(X.stack=X.env::X.outer∧X.env.frame=some X.env.locals)
 exf:∀b∈X.ex,b≠X.env.locals∧∀x c,X.env.cells.lookup x=some c→c≠b
 bs:∀b o,X.base.get? b=some o→X.s₀.heap.get? b=some o∧X.H₀ b=none
 bsz:X.base.objs.size≤X.s₀.heap.objs.size
 noex:∀b o,X.base.get? b=some o→b∉X.ex
 exfs:∀b∈X.ex,b∉X.fs
 funs:X.s₀.heap.FunFrames X.base X.outer
 frf:∀b∈X.fs,X.H₀ b=none
structure Inv (X:Cx) (pins:List (Addr×Obj)) (σ:List (Option V)) (H:Hp) (s:Shared):Prop where
 ok:X.Ok
 os:s.os=X.s₀.os
 bare:AllBare s.gens
 base:Un X.fs X.ex X.H₀ H X.s₀.heap s.heap
 loc:∃m,s.heap.Ns X.env.locals m∧∀(i:Nat) (x:Str) (v:V),X.N[i]? = some x→σ[i]? = some (some v)→Vis X.env.scope x→∃u,RelV v u∧Look X.env s.heap m x u
 cell:∀x c,X.env.cells.lookup x=some c→∃v,s.heap.IsCell c v
 free:H X.env.locals=none
 freeC:∀x c,X.env.cells.lookup x=some c→H c=none
 pin:∀p∈X.pn++pins,s.heap.get? p.1=some p.2∧H p.1=none∧p.1≠X.env.locals∧p.1∉X.fs∧∀v,p.2.data≠.cell v
 hok:HOk X.prog X.w H s.heap
 len:σ.length=X.N.length
section
variable {X:Cx}{pins:List (Addr×Obj)}{σ:List (Option V)}{H H':Hp}{s:Shared}{h':Heap}
theorem Cx.Ok.nofr (ok:X.Ok) {b:Addr}{o:Obj} (e:X.base.get? b=some o):b∉X.fs:=fun hb=>by
 have:=(ok.funs.mem hb).1
 rw [e] at this; cases this
theorem Inv.bs (I:Inv X pins σ H s):∀b o,X.base.get? b=some o→s.heap.get? b=some o∧H b=none:=fun b o e =>
 ⟨I.base.keep b o (I.ok.bs b o e).1 (I.ok.bs b o e).2 (I.ok.nofr e) (I.ok.noex b o e),I.base.free b o (I.ok.bs b o e).1 (I.ok.bs b o e).2 (I.ok.noex b o e)⟩
theorem Inv.bk (I:Inv X pins σ H s):∀b o,X.base.get? b=some o→s.heap.get? b=some o:=fun b o e=>(I.bs b o e).1
theorem Inv.mod (I:Inv X pins σ H s):Mod X.K X.mg X.base:=I.ok.mod
theorem Inv.kIn (I:Inv X pins σ H s):X.K.In s.heap:=I.ok.mod.kin.keeps I.bk
theorem Inv.nolimit (I:Inv X pins σ H s):s.heap.NoLimit:=I.ok.mod.nolimit.keeps I.bk
theorem Inv.fr (I:Inv X pins σ H s):∃m,Fr X.base X.env.locals s.heap m :=
 let ⟨m,hn,_⟩:=I.loc
 ⟨m,hn,I.bk,zz I.ok.bsz I.ok.above⟩
theorem Inv.lt (I:Inv X pins σ H s):X.env.locals < s.heap.objs.size:=let ⟨_,hn,_⟩:=I.loc; hn.lt
theorem Inv.sz (I:Inv X pins σ H s):X.s₀.heap.objs.size≤s.heap.objs.size:=zz I.ok.above (Nat.le_of_lt I.lt)
theorem Inv.nofs (I:Inv X pins σ H s) {a:Addr} (h:s.heap.objs.size≤a):a∉X.fs:=fun hb=>by
 obtain ⟨_,o,ho,_⟩:=I.ok.funs.mem hb;exact absurd (zy (zf ho) (zz I.sz h)) (zL _)
theorem Inv.cne (I:Inv X pins σ H s):∀x c,X.env.cells.lookup x=some c→c≠X.env.locals:=fun x c e z=>by
 obtain ⟨v,o,ho,hd⟩:=I.cell x c e;obtain ⟨m,⟨o',es,ep,ho',hd',_⟩,_⟩:=I.loc;rw [z,ho'] at ho; cases ho; rw [hd'] at hd; cases hd
theorem Inv.funs (I:Inv X pins σ H s):s.heap.FunFrames X.base X.outer:=by
 have all:∀(l:List Env),(∀b∈frs l,b∈X.fs)→X.s₀.heap.FunFrames X.base l→s.heap.FunFrames X.base l:=by
  intro l
  induction l with
  | nil=>intro _ _; trivial
  | cons env r ih =>
   intro hs hl;obtain ⟨hk,⟨L,o,hf,hn,ho,hd⟩,hr⟩:=hl;have hL:L∈X.fs:=hs L (by unfold frs; rw [List.filterMap_cons,hf]; exact zu)
   obtain ⟨sl,e⟩:=I.base.slot L o ho (I.ok.frf L hL) hL fun z=>I.ok.exfs L z hL
   exact ⟨hk,⟨L,_,hf,hn,e,hd⟩,ih (fun b hb=>hs b (by unfold frs; rw [List.filterMap_cons,hf]; exact zm _ hb)) hr⟩
 exact all X.outer (fun _ hb=>hb) I.ok.funs
theorem Inv.stack (I:Inv X pins σ H s):s.heap.FunFrames X.base X.stack:=by
 rcases I.ok.stk with e | ⟨e,hf⟩
 ·rw [e]; exact I.funs
 ·rw [e];obtain ⟨m,hn,_⟩:=I.loc;refine .cons (by rw [I.ok.kind]; decide) hf hn ?_ I.funs;exact Heap.get?_none_of_le (zz I.ok.bsz I.ok.above)
theorem Inv.stkSub (I:Inv X pins σ H s):∀b∈frs X.stack,b∈X.env.locals::X.fs:=fun b hb=>by
 rcases I.ok.stk with e | ⟨e,hf⟩
 ·rw [e] at hb; exact zm _ hb
 ·rw [e] at hb;unfold frs at hb;rw [List.filterMap_cons,hf] at hb;exact hb
theorem Inv.stkFree (I:Inv X pins σ H s):∀b∈frs X.stack,H b=none:=fun b hb=>by
 rcases zn.mp (I.stkSub b hb) with e | hb
 ·rw [e]; exact I.free
 ·obtain ⟨_,o,ho,_⟩:=I.ok.funs.mem hb
  exact I.base.free b o ho (I.ok.frf b hb) fun z=>I.ok.exfs b z hb
theorem Inv.step {g':Array GenState}{t':Nat}{d':Drawn}{ch:List Addr} (I:Inv X pins σ H s)
  (hch:∀b∈ch,(b∈X.ex∨X.s₀.heap.objs.size≤b)∧b≠X.env.locals∧(∀x c,X.env.cells.lookup x=some c→c≠b)∧∀p∈X.pn++pins,p.1≠b)
  (keep:∀b o,b≠X.env.locals→b∉X.fs→b∉ch→s.heap.get? b=some o→H b=none→h'.get? b=some o)
  (slot:∀b o,b≠X.env.locals→b∈X.fs→b∉ch→s.heap.get? b=some o→H b=none→∃sl,h'.get? b=some { o with slots:=sl }) (free:∀b o,b∉ch→s.heap.get? b=some o→H b=none→H' b=none)
  (there:∀b o,b∉ch→s.heap.get? b=some o→∃o',h'.get? b=some o')
  (tups:∀b xs,H b=some (.tup xs)→H' b=some (.tup xs)) (frzs:∀b o u,H b=some (.frz o u)→H' b=some (.frz o u)) (tbls:∀b ps,H b=some (.tbl ps)→∃more,H' b=some (.tbl (ps++more)))
  (ns:∀m,s.heap.Ns X.env.locals m→h'.Ns X.env.locals m) (hok:HOk X.prog X.w H' h') (hg:AllBare g') :
  Inv X pins σ H' { s with heap:=h',gens:=g',drawn:=d',toks:=t' }:=by
 have neL:∀b o,X.s₀.heap.get? b=some o→b≠X.env.locals:=fun b o e=>zp (zy (zf e) I.ok.above)
 have neC:∀b o,X.s₀.heap.get? b=some o→b∉X.ex→b∉ch:=fun b o e hx hb=>by
  rcases (hch b hb).1 with z | z
  ·exact hx z
  ·exact absurd (zy (zf e) z) (zL _)
 have cellK:∀x c,X.env.cells.lookup x=some c→∀v,s.heap.IsCell c v→h'.IsCell c v:=fun x c e v ⟨o,ho,hd⟩=>by
  have nch:c∉ch:=fun z=>(hch c z).2.2.1 x c e rfl
  by_cases hc:c∈X.fs
  ·obtain ⟨sl,q⟩:=slot c o (I.cne x c e) hc nch ho (I.freeC x c e);exact ⟨_,q,hd⟩
  ·exact ⟨o,keep c o (I.cne x c e) hc nch ho (I.freeC x c e),hd⟩
 refine ⟨I.ok,I.os,hg,⟨fun b o e n hb hx=>?_,fun b o e n hb hx=>?_,fun b o e n hx=>?_,fun b o e hx=>?_,fun b xs e=>tups b xs (I.base.tups b xs e),fun b o xs e=>frzs b o xs (I.base.frzs b o xs e),fun b ps e=>?_⟩,?_,fun x c e=>?_,?_,fun x c e=>?_,fun p hp=>?_,hok,I.len⟩
 ·exact keep b o (neL b o e) hb (neC b o e hx) (I.base.keep b o e n hb hx) (I.base.free b o e n hx)
 ·obtain ⟨sl,e1⟩:=I.base.slot b o e n hb hx;obtain ⟨sl',e2⟩:=slot b _ (neL b o e) hb (neC b o e hx) e1 (I.base.free b o e n hx);exact ⟨sl',e2⟩
 ·obtain ⟨o',e1⟩:=I.base.there b o e hx;exact free b o' (neC b o e hx) e1 (I.base.free b o e n hx)
 ·obtain ⟨o',e1⟩:=I.base.there b o e hx;exact there b o' (neC b o e hx) e1
 ·obtain ⟨m1,e1⟩:=I.base.tbls b ps e;obtain ⟨m2,e2⟩:=tbls b _ e1;exact ⟨m1++m2,by rw [e2,Array.append_assoc]⟩
 ·obtain ⟨m,hn,hl⟩:=I.loc;refine ⟨m,ns m hn,fun i x v e1 e2 e3=>?_⟩;obtain ⟨u,r,l⟩:=hl i x v e1 e2 e3;refine ⟨u,r,?_⟩
  rcases l with l | ⟨k,c,e,z⟩
  ·exact .inl l
  ·exact .inr ⟨k,c,e,cellK x c e _ z⟩
 ·obtain ⟨v,z⟩:=I.cell x c e;exact ⟨v,cellK x c e v z⟩
 ·obtain ⟨m,⟨o,_,_,ho,_⟩,_⟩:=I.loc;exact free _ o (fun z=>(hch _ z).2.1 rfl) ho I.free
 ·obtain ⟨v,o,ho,hd⟩:=I.cell x c e;exact free c o (fun z=>(hch c z).2.2.1 x c e rfl) ho (I.freeC x c e)
 ·obtain ⟨e,n,ne,nf,d⟩:=I.pin p hp
  have nch:p.1∉ch:=fun z=>(hch p.1 z).2.2.2 p hp rfl
  exact ⟨keep p.1 p.2 ne nf nch e n,free p.1 p.2 nch e n,ne,nf,d⟩
theorem Inv.un {t':Nat} (I:Inv X pins σ H s) (u:Un X.fs [] H H' s.heap h') (hok:HOk X.prog X.w H' h'):Inv X pins σ H' { s with heap:=h',toks:=t' }:=by
 obtain ⟨m,⟨o,es,ep,ho,r⟩,_⟩:=id I.loc;obtain ⟨sl,hL⟩:=u.any ho I.free (by simp)
 exact I.step (g':=s.gens) (d':=s.drawn) (ch:=[]) (fun _ z=>nomatch z) (fun b o _ hb _ e n=>u.keep b o e n hb (by simp)) (fun b o _ hb _ e n=>u.slot b o e n hb (by simp)) (fun b o _ e n=>u.free b o e n (by simp)) (fun b o _ e=>u.there b o e (by simp)) u.tups u.frzs u.tbls (fun m' hm=>by
  obtain ⟨o',es',ep',ho',r'⟩:=hm;rw [ho] at ho'; cases ho'
  exact ⟨_,es',ep',hL,r'⟩) hok I.bare
theorem Inv.call {g':Array GenState}{t':Nat}{d':Drawn}{ch:List Addr} (I:Inv X pins σ H s) (u:Un (frs X.stack) ch H H' s.heap h') (hok:HOk X.prog X.w H' h') (hg:AllBare g')
  (hch:∀b∈ch,(b∈X.ex∨X.s₀.heap.objs.size≤b)∧b≠X.env.locals∧(∀x c,X.env.cells.lookup x=some c→c≠b)∧∀p∈X.pn++pins,p.1≠b) :
  Inv X pins σ H' { s with heap:=h',gens:=g',drawn:=d',toks:=t' }:=by
 obtain ⟨m,⟨o,es,ep,ho,r⟩,_⟩:=id I.loc
 obtain ⟨sl,hL⟩:=u.any ho I.free fun z=>(hch _ z).2.1 rfl
 exact I.step (ch:=ch) hch (fun b o hL hb hc e n=>u.keep b o e n (fun z=>(zn.mp (I.stkSub b z)).elim hL hb) hc) (fun b o _ _ hc e n=>u.any e n hc) (fun b o hc e n=>u.free b o e n hc) (fun b o hc e=>u.there b o e hc) u.tups u.frzs u.tbls (fun m' hm=>by
  obtain ⟨o',es',ep',ho',r'⟩:=hm;rw [ho] at ho'; cases ho'
  exact ⟨_,es',ep',hL,r'⟩) hok hg
theorem Inv.turned {t':Nat}{it:Addr} (I:Inv X pins σ H s) (k:∀b o,b≠it→s.heap.get? b=some o→h'.get? b=some o) (hn:H it=none) (hL:it≠X.env.locals)
  (h1:it∈X.ex∨X.s₀.heap.objs.size≤it) (h2:∀x c,X.env.cells.lookup x=some c→c≠it) (h3:∀p∈X.pn++pins,p.1≠it):Inv X pins σ H { s with heap:=h',toks:=t' }:=by
 have nit:∀b u,H b=some u→b≠it:=fun b u e z=>by rw [z,hn] at e; cases e
 refine I.step (g':=s.gens) (d':=s.drawn) (ch:=[it]) (fun b hb=>?_) (fun b o _ _ hc e _=>k b o (fun z=>hc (by simp [z])) e) (fun b o _ _ hc e _=>⟨o.slots,k b o (fun z=>hc (by simp [z])) e⟩) (fun _ _ _ _ n=>n)
  (fun b o hc e=>⟨o,k b o (fun z=>hc (by simp [z])) e⟩) (fun _ _ e=>e) (fun _ _ _ e=>e) (fun b ps e=>⟨#[],by rw [e]; simp⟩) (fun m hm=>?_) (fun b u e=>?_) I.bare
 ·have e:b=it:=by simpa using hb
  subst e;exact ⟨h1,hL,h2,h3⟩
 ·obtain ⟨o,es,ep,ho,r⟩:=hm;exact ⟨o,es,ep,k _ o (Ne.symm hL) ho,r⟩
 ·refine (I.hok b u e).stay (fun c v hc q=>k c v ?_ q) (fun _ q=>q) fun _ _ q=>q
  rcases hc with z | z
  ·rw [z]; exact nit b u e
  ·exact nit c _ z
theorem Inv.tok (I:Inv X pins σ H s) (t:Nat):Inv X pins σ H { s with toks:=t }:=I.un (h':=s.heap) (t':=t) Un.refl I.hok
theorem Inv.kept {t':Nat} (I:Inv X pins σ H s) (k:∀b u,s.heap.get? b=some u→h'.get? b=some u):Inv X pins σ H { s with heap:=h',toks:=t' }:=I.un (Un.kept k) (I.hok.kept k)
theorem Inv.laid {a:Addr}{o:HO}{t':Nat} (I:Inv X pins σ H s) (k:∀b u,s.heap.get? b=some u→h'.get? b=some u) (hp:s.heap.objs.size≤a) (new:Qbx X.prog X.w (upd H a o) h' a o) :
  Inv X pins σ (upd H a o) { s with heap:=h',toks:=t' }:=I.un (Un.laid k hp (I.hok.fresh hp)) (I.hok.laid k hp new)
theorem Inv.write {x e:Addr}{o:HO}{t':Nat} (I:Inv X pins σ H s) (mu:Mut (H x)) (he:e=x∨H e=some (.own x)) (k:∀b u,b≠e→s.heap.get? b=some u→h'.get? b=some u) (heo:∃u,h'.get? e=some u)
  (new:Qbx X.prog X.w (upd H x o) h' x o):Inv X pins σ (upd H x o) { s with heap:=h',toks:=t' }:=I.un (Un.write mu he k heo) (I.hok.write mu he k heo new)
theorem Inv.pins_of {pins':List (Addr×Obj)} (I:Inv X pins σ H s) (h:∀p∈pins',s.heap.get? p.1=some p.2∧H p.1=none∧p.1≠X.env.locals∧p.1∉X.fs∧∀v,p.2.data≠.cell v):Inv X pins' σ H s :=
 ⟨I.ok,I.os,I.bare,I.base,I.loc,I.cell,I.free,I.freeC,fun p hp=>(zA.mp hp).elim (fun z=>I.pin p (List.mem_append_left _ z)) (h p),I.hok,I.len⟩
theorem QlH {N:List Str} (hN:N.Nodup) {i j:Nat}{x:Str} (a:N[i]? = some x) (b:N[j]? = some x):i=j:=by
 obtain ⟨h1,e1⟩:=zh.mp a;obtain ⟨h2,e2⟩:=zh.mp b;exact (List.getElem_inj hN).mp (e1.trans e2.symm)
theorem Qom {M:Model}{A:Around}{E:Value→Shared→Prop}{i:Nat}{x:Str}{v:V}{u:Value}{Q:Unit→Shared→Prop} (I:Inv X pins σ H s) (hN:X.N.Nodup) (hi:X.N[i]? = some x) (hx:Loc X.env.scope x) (r:RelV v u)
  (h:∀s',Inv X pins (σ.set i (some v)) H s'→(∃a,Heap.SameBut a s.heap s'.heap∧(a=X.env.locals∨X.env.cells.lookup x=some a))→Q () s') (hf:X.fn x=true∨X.env.scope.names.lookup x=some .local:=by first | exact .inl rfl | exact .inr rfl | assumption):wpAny M A (storeName X.env x u) Q E s:=by
 obtain ⟨m,hn,hl⟩:=id I.loc
 have hcls:(X.env.scope.kind == .class || (X.env.scope.kind == .module&&X.env.locals != X.env.globals))=false:=by rw [I.ok.kind]; rfl
 have hiσ:i < σ.length:=by rw [I.len]; exact (zh.mp hi).1
 have cne:=I.cne
 have tracked:∀{a:Addr}{h':Heap},(∃o,s.heap.get? a=some o∧H a=none)→Heap.SameBut a s.heap h'→HOk X.prog X.w H h':=fun {a h'} ha hs b ob e=>by
  obtain ⟨_,_,hfree⟩:=ha
  refine (I.hok b ob e).stay (fun c w' hc q=>(hs.2 c ?_).trans q) (fun _ q=>q) fun _ _ q=>q
  rintro rfl
  rcases hc with rfl | hc
  ·rw [hfree] at e; cases e
  ·rw [hfree] at hc; cases hc
 rcases hx with hk | hk
 ·refine wpAny_storeName_local hk hn (fun h' hn' hs=>?_) hcls;obtain ⟨oL,_,_,hoL,_⟩:=id hn;refine h _ ⟨I.ok,I.os,I.bare,⟨fun b o e n hb hx=>?_,fun b o e n hb hx=>?_,I.base.free,fun b o e hx=>?_,I.base.tups,I.base.frzs,I.base.tbls⟩,⟨_,hn',fun j y v' e1 e2 e3=>?_⟩,fun y c e=>?_,I.free,I.freeC,fun p hp=>?_,tracked ⟨oL,hoL,I.free⟩ hs,by simpa using I.len⟩ ⟨_,hs,.inl rfl⟩
  ·exact (hs.2 b (zp (zy (zf e) I.ok.above))).trans (I.base.keep b o e n hb hx)
  ·obtain ⟨sl,e1⟩:=I.base.slot b o e n hb hx;exact ⟨sl,(hs.2 b (zp (zy (zf e) I.ok.above))).trans e1⟩
  ·obtain ⟨o',e1⟩:=I.base.there b o e hx;exact ⟨o',(hs.2 b (zp (zy (zf e) I.ok.above))).trans e1⟩
  ·by_cases hj:j=i
   ·subst hj;rw [hi] at e1; cases e1;rw [zF hiσ] at e2;cases e2;exact ⟨u,r,.inl ⟨hk,by simp⟩⟩
   ·rw [ze (Ne.symm hj)] at e2;obtain ⟨u',r',q⟩:=hl j y v' e1 e2 e3;refine ⟨u',r',?_⟩
    rcases q with ⟨k,e⟩ | ⟨k,c,e,z⟩
    ·refine .inl ⟨k,?_⟩
     have:y≠x:=fun e=>hj (QlH hN e1 (e ▸ hi))
     simp [this,e]
    ·exact .inr ⟨k,c,e,z.sameBut hs (cne y c e)⟩
  ·obtain ⟨w',z⟩:=I.cell y c e;exact ⟨w',z.sameBut hs (cne y c e)⟩
  ·obtain ⟨e,n,ne,nf,d⟩:=I.pin p hp;exact ⟨(hs.2 p.1 ne).trans e,n,ne,nf,d⟩
 ·have hfn:X.fn x=true:=by
   rcases hf with z | z
   ·exact z
   ·rw [z] at hk; cases hk
  obtain ⟨c,hc⟩:=I.ok.has x (.inl hk);obtain ⟨w',z⟩:=I.cell x c hc;refine wpAny_storeName_cell I.ok.kind hk hc z (fun h' hc' hs=>?_);obtain ⟨oc,hoc,hocd⟩:=id z;refine h { s with heap:=h' } ⟨I.ok,I.os,I.bare,⟨fun b o e n hb hx=>?_,fun b o e n hb hx=>?_,I.base.free,fun b o e hx=>?_,I.base.tups,I.base.frzs,I.base.tbls⟩,⟨m,hn.sameBut hs (Ne.symm (cne x c hc)),fun j y v' e1 e2 e3=>?_⟩,fun y c' e=>?_,I.free,I.freeC,fun p hp=>?_,tracked ⟨oc,hoc,I.freeC x c hc⟩ hs,by simpa using I.len⟩ ⟨c,hs,.inr hc⟩
  ·exact (hs.2 b (zp (zy (zf e) (I.ok.cab x c hfn hc)))).trans (I.base.keep b o e n hb hx)
  ·obtain ⟨sl,e1⟩:=I.base.slot b o e n hb hx;exact ⟨sl,(hs.2 b (zp (zy (zf e) (I.ok.cab x c hfn hc)))).trans e1⟩
  ·obtain ⟨o',e1⟩:=I.base.there b o e hx;exact ⟨o',(hs.2 b (zp (zy (zf e) (I.ok.cab x c hfn hc)))).trans e1⟩
  ·by_cases hj:j=i
   ·subst hj;rw [hi] at e1; cases e1;rw [zF hiσ] at e2;cases e2;exact ⟨u,r,.inr ⟨.inl hk,c,hc,hc'⟩⟩
   ·rw [ze (Ne.symm hj)] at e2;obtain ⟨u',r',q⟩:=hl j y v' e1 e2 e3;refine ⟨u',r',?_⟩
    rcases q with q | ⟨k,c',e,z'⟩
    ·exact .inl q
    ·refine .inr ⟨k,c',e,z'.sameBut hs ?_⟩;rintro rfl;exact hj (QlH hN e1 (I.ok.inj _ _ _ e hc ▸ hi))
  ·by_cases hcc:c'=c
   ·subst hcc; exact ⟨_,hc'⟩
   ·obtain ⟨w2,z2⟩:=I.cell y c' e;exact ⟨w2,z2.sameBut hs hcc⟩
  ·obtain ⟨e,n,ne,nf,d⟩:=I.pin p hp;refine ⟨(hs.2 p.1 ?_).trans e,n,ne,nf,d⟩;intro q;rw [q,hoc] at e;have q':oc=p.2:=zM e;exact d w' (by rw [←q']; exact hocd)
theorem Qld {M:Model}{A:Around}{E:Value→Shared→Prop}{i:Nat}{x:Str}{v:V}{u:Value}{Q:Unit→Shared→Prop} (I:Inv X pins σ H s) (hN:X.N.Nodup) (hi:X.N[i]? = some x) (hx:Loc X.env.scope x) (r:RelV v u)
  (h:∀s',Inv X pins (σ.set i (some v)) H s'→Q () s') (hf:X.fn x=true∨X.env.scope.names.lookup x=some .local:=by first | exact .inl rfl | exact .inr rfl | assumption):wpAny M A (storeName X.env x u) Q E s :=
 Qom I hN hi hx r (fun s' I' _=>h s' I') hf
theorem Inv.call' {s':Shared}{ch:List Addr} (I:Inv X pins σ H s) (ho:s'.os=s.os) (u:Un (frs X.stack) ch H H' s.heap s'.heap) (hok:HOk X.prog X.w H' s'.heap) (hg:AllBare s'.gens)
  (hch:∀b∈ch,(b∈X.ex∨X.s₀.heap.objs.size≤b)∧b≠X.env.locals∧(∀x c,X.env.cells.lookup x=some c→c≠b)∧∀p∈X.pn++pins,p.1≠b):Inv X pins σ H' s':=by
 obtain ⟨h',g',d',t',o'⟩:=s';have e:o'=s.os:=ho;subst e;exact I.call (g':=g') (t':=t') (d':=d') u hok hg hch
end
abbrev XK:=Value→Option Addr→Hp→Prop
abbrev St:=List (Option V)
abbrev VK:=V→Hp→Prop
abbrev TE:=St→Hp→VK→Prop
abbrev TT:=St→Hp→(Bool→Hp→Prop)→Prop
abbrev TA:=St→Hp→(List V→Hp→Prop)→Prop
structure Ends where
 nx:St→Hp→Prop
 rt:VK
 bk:St→Hp→Prop:=fun _ _=>False
 ct:St→Hp→Prop:=fun _ _=>False
abbrev TS:=Ends→St→Hp→Prop
def EP (X:Cx) (pins:List (Addr×Obj)) (σ:St) (Q:VK) (u:Value) (s':Shared):Prop:=∃v H',Inv X pins σ H' s'∧RelV v u∧Q v H'
def TP (X:Cx) (pins:List (Addr×Obj)) (σ:St) (Q:Bool→Hp→Prop) (b:Bool) (s':Shared):Prop:=∃H',Inv X pins σ H' s'∧Q b H'
def AP (X:Cx) (pins:List (Addr×Obj)) (σ:St) (Q:List V→Hp→Prop) (us:List Value) (s':Shared):Prop:=∃vs H',Inv X pins σ H' s'∧Qar vs us∧Q vs H'
def SP (X:Cx) (pins:List (Addr×Obj)) (D:Ends) (f:Flow) (s':Shared):Prop :=
 match f with
 | .next=>∃σ' H',Inv X pins σ' H' s'∧D.nx σ' H'
 | .brk=>∃σ' H',Inv X pins σ' H' s'∧D.bk σ' H'
 | .cont=>∃σ' H',Inv X pins σ' H' s'∧D.ct σ' H'
 | .ret u=>∃v σ' H',Inv X pins σ' H' s'∧RelV v u∧D.rt v H'
def PE (X:Cx) (e:Expr) (t:TE):Prop :=
 ∀(pins:List (Addr×Obj)) (s:Shared) (σ:St) (H:Hp) (Q:VK),Inv X pins σ H s→t σ H Q→wpAny (model X.prog X.w) X.A (eval e X.env) (EP X pins σ Q) X.xe s
def PT (X:Cx) (e:Expr) (t:TT):Prop :=
 ∀(pins:List (Addr×Obj)) (s:Shared) (σ:St) (H:Hp) (Q:Bool→Hp→Prop),Inv X pins σ H s→t σ H Q→wpAny (model X.prog X.w) X.A (isTrue e X.env (eval e X.env)) (TP X pins σ Q) X.xe s
def PW (X:Cx) (e:Expr) (t:TT):Prop :=
 ∀(whole:Sem Value) (pins:List (Addr×Obj)) (s:Shared) (σ:St) (H:Hp) (Q:Bool→Hp→Prop),Inv X pins σ H s→t σ H Q→wpAny (model X.prog X.w) X.A (isTrue e X.env whole) (TP X pins σ Q) X.xe s
theorem PW.pt {X:Cx}{e:Expr}{t:TT} (h:PW X e t):PT X e t:=h _
def PA (X:Cx) (es:List Expr) (t:TA):Prop :=
 ∀(pos:Pos) (pins:List (Addr×Obj)) (s:Shared) (σ:St) (H:Hp) (Q:List V→Hp→Prop),Inv X pins σ H s→t σ H Q→wpAny (model X.prog X.w) X.A (spliced (backTo pos (starEach es X.env))) (AP X pins σ Q) X.xe s
def PS (X:Cx) (st:Stmt) (t:TS):Prop :=
 ∀(pins:List (Addr×Obj)) (s:Shared) (σ:St) (H:Hp) (D:Ends),Inv X pins σ H s→t D σ H→wpAny (model X.prog X.w) X.A (exec st X.env) (SP X pins D) X.xe s
def PSs (X:Cx) (st:List Stmt) (t:TS):Prop :=
 ∀(pins:List (Addr×Obj)) (s:Shared) (σ:St) (H:Hp) (D:Ends),Inv X pins σ H s→t D σ H→wpAny (model X.prog X.w) X.A (execs st X.env) (SP X pins D) X.xe s
theorem thn {α:Type}{t:Sem α}{Q Q':α→Shared→Prop}{M:Model}{A:Around}{E:Value→Shared→Prop}{s:Shared} (h:wpAny M A t Q E s) (hQ:∀a s,Q a s→Q' a s):wpAny M A t Q' E s:=zJ h hQ fun _ _ x=>x
section
variable {X:Cx}
def Qu6 (i:Nat):TE:=fun σ H Q=>∃v,σ[i]? = some (some v)∧Q v H
def tC (v:V):TE:=fun _ H Q=>Q v H
theorem QeQ {i:Nat}{x:Str}{pos:Pos} (hN:X.N[i]? = some x) (hv:Vis X.env.scope x) (hd:(x == ("__debug__":Str))=false:=by decide) (hcd:(x == ("__classdict__":Str))=false:=by decide):PE X (.Name x pos) (Qu6 i):=by
 intro pins s σ H Q I h;obtain ⟨v,e,h⟩:=h;obtain ⟨m,hn,hl⟩:=I.loc;obtain ⟨u,r,l⟩:=hl i x v hN e hv;have fin:EP X pins σ Q u s:=⟨v,H,I,r,h⟩
 rcases l with ⟨hk,hm⟩ | ⟨hk,c,hc,hcell⟩
 ·exact wpAny_Name (wpAny_loadName_local I.ok.kind hk hn hm fin) hd
 ·rcases hk with hk | hk
  ·exact wpAny_Name (wpAny_loadName_cell I.ok.kind hk hc hcell fin) hd
  ·exact wpAny_Name (wpAny_loadName_free I.ok.kind hk hc hcell fin hcd) hd
theorem Qr2 {i j pos}:PE X (.Constant (.int i) j pos) (tC (.int i)):=fun _ _ _ H _ I h=>wpAny_Constant_int ⟨.int i,H,I.tok _,⟨_,rfl⟩,h⟩
theorem QtW {b j pos}:PE X (.Constant (.bool b) j pos) (tC (.bl b)):=fun _ _ _ H _ I h=>Constant_bool ⟨.bl b,H,I,rfl,h⟩
theorem QsJ {j pos}:PE X (.Constant .none j pos) (tC .non):=fun _ _ _ H _ I h=>Constant_none ⟨.non,H,I,rfl,h⟩
theorem QnO {x j pos}:PE X (.Constant (.str x) j pos) (tC (.str x)):=fun _ _ _ H _ I h=>Calls.Constant_str ⟨.str x,H,I.tok _,⟨_,rfl⟩,h⟩
def Gl (X:Cx) (x:Str):Prop:=X.env.kindOf x=some .globalImplicit
theorem QgH {E:Value→Shared→Prop}{pins:List (Addr×Obj)}{s:Shared}{σ:St}{H:Hp}{x:Str}{u:Value}{pos:Pos}{Q:Value→Shared→Prop} (I:Inv X pins σ H s) (hg:Gl X x) (hm:X.mg x=some u) (h:Q u s)
  (hd:(x == ("__debug__":Str))=false:=by decide):wpAny (model X.prog X.w) X.A (eval (.Name x pos) X.env) Q E s :=
 Calls.Name_function_global I.ok.kind hg (Calls.loadGlobal_global (by rw [I.ok.glob]; exact I.mod.glob.keeps I.bk) hm h) hd
theorem Qfz {E:Value→Shared→Prop}{pins:List (Addr×Obj)}{s:Shared}{σ:St}{H:Hp}{x:Str}{u:Value}{pos:Pos}{Q:Value→Shared→Prop} (I:Inv X pins σ H s) (hg:Gl X x) (hm:X.mg x=none) (hv:bootBuiltins x=some u) (h:Q u s)
  (hn:x≠"__name__":=by decide) (hd:(x == ("__debug__":Str))=false:=by decide):wpAny (model X.prog X.w) X.A (eval (.Name x pos) X.env) Q E s:=by
 obtain ⟨mb,h1,h2⟩:=I.mod.blt;exact Calls.Name_function_global I.ok.kind hg (Calls.loadGlobal_builtin (by rw [I.ok.glob]; exact I.mod.glob.keeps I.bk) hm (by rw [I.ok.blt]; exact h1.keeps I.bk) ((h2 x hn).trans hv) h) hd
theorem QqE {x:Str}{v:V}{u:Value}{pos:Pos} (hg:Gl X x) (hm:X.mg x=some u) (r:RelV v u) (hd:(x == ("__debug__":Str))=false:=by decide):PE X (.Name x pos) (tC v) :=
 fun _ _ _ H _ I h=>QgH I hg hm ⟨v,H,I,r,h⟩ hd
theorem Qrp {x:Str}{v:V}{u:Value}{pos:Pos} (hg:Gl X x) (hm:X.mg x=none) (hv:bootBuiltins x=some u) (r:RelV v u) (hn:x≠"__name__":=by decide) (hd:(x == ("__debug__":Str))=false:=by decide):PE X (.Name x pos) (tC v) :=
 fun _ _ _ H _ I h=>Qfz I hg hm hv ⟨v,H,I,r,h⟩ hn hd
variable {a b:Expr}{ta tb:TE}{pos:Pos}
def PC (X:Cx) (op:CmpOp) (a b:Expr) (t:TE):Prop :=
 ∀(pins:List (Addr×Obj)) (s:Shared) (σ:St) (H:Hp) (Q:VK),Inv X pins σ H s→t σ H Q →
  wpAny (model X.prog X.w) X.A (eval a X.env) (fun v s₁=>wpAny (model X.prog X.w) X.A (eval b X.env) (fun u s₂=>wpAny (model X.prog X.w) X.A (compareOp op v u) (EP X pins σ Q) X.xe s₂) X.xe s₁) X.xe s
theorem QoL (b:Expr) {op:CmpOp} (h:op≠.In) (h2:op≠.NotIn):behindInMarks op b=false:=by
 have e1:(op == CmpOp.In)=false:=by cases op <;> first | rfl | exact absurd rfl h
 have e2:(op == CmpOp.NotIn)=false:=by cases op <;> first | rfl | exact absurd rfl h2
 cases b <;> simp [behindInMarks,e1,e2]
def QpY (ta:TE):TE:=fun σ H Q=>ta σ H fun x H1=>Q (.bl (!decide (x = .non))) H1
theorem RelV.none_iff {x:V}{v:Value} (r:RelV x v):(v == Value.none)=decide (x = .non):=by
 cases x with
 | non=>cases r; rfl
 | bl _=>cases r; rfl
 | int _=>obtain ⟨t,rfl⟩:=r; rfl
 | str _=>obtain ⟨t,rfl⟩:=r; rfl
 | byt _=>obtain ⟨t,rfl⟩:=r; rfl
 | flt _=>obtain ⟨t,rfl⟩:=r; rfl
 | ref _=>cases r; rfl
 | ty _=>cases r; rfl
theorem Qrn {j pos'} (ha:PE X a ta):PC X .IsNot a (.Constant .none j pos') (QpY ta):=by
 intro pins s σ H Q I h
 refine thn (ha pins s σ H _ I h) fun v s1 ⟨x,H1,I1,r1,q1⟩=>?_
 exact Constant_none (isnot_none_gen ⟨.bl _,H1,I1,by rw [r1.none_iff]; rfl,q1⟩)
def tB (t:TE):TT:=fun σ H Q=>t σ H fun x H1=>∃c,x = .bl c∧Q c H1
theorem QrN {op:CmpOp}{t:TE} (h:PC X op a b t) (h1:behindInMarks op b=false:=by first | exact QoL _ (by decide) (by decide) | rfl):PT X (.Compare a [op] [b] pos) (tB t):=by
 intro pins s σ H Q I hw;refine wpAny_isTrue_Compare1 (thn (h pins s σ H _ I hw) fun v s1 h1=>thn h1 fun u s2 h2=>thn h2 fun c s3 ⟨x,H1,I1,r1,q1⟩=>?_) h1;obtain ⟨d,rfl,q⟩:=q1;cases r1;exact wpAny_truthy_bool ⟨H1,I1,q⟩
variable {tA tB':TT}{rest:List Expr}
def QsD (t u:TT):TT:=fun σ H Q=>t σ H fun c H1=>if c=true then u σ H1 Q else Q false H1
def tOr (t u:TT):TT:=fun σ H Q=>t σ H fun c H1=>if c=true then Q true H1 else u σ H1 Q
def Quq (t:TT):TT:=fun σ H Q=>t σ H fun c H1=>Q (!c) H1
theorem Qqw (ha:PT X a tA):PW X (.BoolOp .And [a] pos) tA:=by
 intro wh pins s σ H Q I h;refine isTrue_and (thn (ha pins s σ H Q I h) fun c s1 e=>?_)
 cases c with
 | true=>exact isTrue_and_nil e
 | false=>exact e
theorem QsR (ha:PT X a tA):PW X (.BoolOp .Or [a] pos) tA:=by
 intro wh pins s σ H Q I h;refine isTrue_or (thn (ha pins s σ H Q I h) fun c s1 e=>?_)
 cases c with
 | false=>exact isTrue_or_nil e
 | true=>exact e
theorem QsX (ha:PT X a tA) (hb:PW X (.BoolOp .And (b::rest) pos) tB'):PW X (.BoolOp .And (a::b::rest) pos) (QsD tA tB'):=by
 intro wh pins s σ H Q I h;refine isTrue_and (thn (ha pins s σ H _ I h) fun c s1 ⟨H1,I1,q1⟩=>?_)
 cases c with
 | true=>exact hb wh pins s1 σ H1 Q I1 q1
 | false=>exact ⟨H1,I1,q1⟩
theorem QtD (ha:PT X a tA) (hb:PW X (.BoolOp .Or (b::rest) pos) tB'):PW X (.BoolOp .Or (a::b::rest) pos) (tOr tA tB'):=by
 intro wh pins s σ H Q I h;refine isTrue_or (thn (ha pins s σ H _ I h) fun c s1 ⟨H1,I1,q1⟩=>?_)
 cases c with
 | true=>exact ⟨H1,I1,q1⟩
 | false=>exact hb wh pins s1 σ H1 Q I1 q1
theorem QsW (ha:PT X a tA):PT X (.UnaryOp .Not a pos) (Quq tA):=by
 intro pins s σ H Q I h;exact isTrue_not (ha pins s σ H (fun c H1=>Q (!c) H1) I h)
def Qtw (ta tb:TE):TE:=fun σ H Q=>ta σ H fun x H1=>∃c,x = .bl c∧if c=true then tb σ H1 Q else Q (.bl false) H1
def QtS (ta:TE):TE:=fun σ H Q=>ta σ H fun x H1=>∃c,x = .bl c∧Q (.bl (!c)) H1
theorem QrK {op}{t:TE} (h:PE X a t):PE X (.BoolOp op [a] pos) t:=fun pins s σ H Q I hw=>BoolOp_one (h pins s σ H Q I hw)
theorem QsV (ha:PE X a ta) (hb:PE X (.BoolOp .And (b::rest) pos) tb):PE X (.BoolOp .And (a::b::rest) pos) (Qtw ta tb):=by
 intro pins s σ H Q I h;refine BoolOp_and (thn (ha pins s σ H _ I h) fun v s1 ⟨x,H1,I1,r1,q1⟩=>?_);obtain ⟨c,rfl,q1⟩:=q1;cases r1;refine wpAny_truthy_bool ?_
 cases c with
 | true=>exact hb pins s1 σ H1 Q I1 q1
 | false=>exact ⟨.bl false,H1,I1,rfl,q1⟩
theorem Qsu (ha:PE X a ta):PE X (.UnaryOp .Not a pos) (QtS ta):=by
 intro pins s σ H Q I h;refine UnaryOp_ (thn (ha pins s σ H _ I h) fun v s1 ⟨x,H1,I1,r1,q1⟩=>?_);obtain ⟨c,rfl,q1⟩:=q1;cases r1;exact not_of (wpAny_truthy_bool ⟨.bl (!c),H1,I1,rfl,q1⟩)
end
def SqL (K:PySem.W.Frag) (H:Hp) (a:Addr) (xs:List V):Prop :=
 Rd H a (.lst xs) ∨
  ∃(o:Obj) (its:Array Value) (n:Nat),K.lookup a=some o∧o.cls = .type "list"∧o.dict=none∧o.data = .seq its n∧its.size≤sizeLine∧Qar xs its.toList
def SqT (K:PySem.W.Frag) (H:Hp) (a:Addr) (xs:List V):Prop :=
 Rd H a (.tup xs) ∨
  ∃(o:Obj) (its:Array Value) (n:Nat),K.lookup a=some o∧o.cls = .type "tuple"∧o.data = .seq its n∧its.size≤sizeLine∧Qar xs its.toList
def QuO:Value→Option V
 | .none=>some .non
 | .bool b=>some (.bl b)
 | .int i _=>some (.int i)
 | .str x _=>some (.str x)
 | .bytes b _=>some (.byt b)
 | .float b _=>some (.flt b)
 | .ref a=>some (.ref a)
 | .type n=>some (.ty n)
 | _=>none
theorem RelV.abs {x:V}{u:Value} (r:RelV x u):QuO u=some x:=by
 cases x with
 | non=>cases r; rfl
 | bl _=>cases r; rfl
 | int _=>obtain ⟨t,rfl⟩:=r; rfl
 | str _=>obtain ⟨t,rfl⟩:=r; rfl
 | byt _=>obtain ⟨t,rfl⟩:=r; rfl
 | flt _=>obtain ⟨t,rfl⟩:=r; rfl
 | ref _=>cases r; rfl
 | ty _=>cases r; rfl
theorem RelV.inj {x y:V}{u:Value} (r:RelV x u) (q:RelV y u):x=y:=zM (r.abs.symm.trans q.abs)
theorem Qar.inj:∀{xs ys:List V}{us:List Value},Qar xs us→Qar ys us→xs=ys
 | _,_,_,.nil,.nil=>rfl
 | _,_,_,.cons r t,.cons r' t'=>by rw [r.inj r',Qar.inj t t']
section
variable {X:Cx}{pins:List (Addr×Obj)}{σ:St}{H:Hp}{s:Shared}{a:Addr}{xs ys:List V}
theorem SqL.of {K:PySem.W.Frag} (h:H a=some (.lst xs)):SqL K H a xs:=.inl (.inl h)
theorem SqT.of {K:PySem.W.Frag} (h:H a=some (.tup xs)):SqT K H a xs:=.inl (.inl h)
theorem Inv.list (I:Inv X pins σ H s) (h:SqL X.K H a xs):∃its:List Value,Qar xs its∧PlainL s.heap a its.toArray∧xs.length≤sizeLine:=by
 rcases h with h | ⟨o,its,n,hk,hc,hd,hs,hz,r⟩
 ·obtain ⟨z,its,n,r,e⟩:=h.ok I.hok;exact ⟨its,r,⟨_,n,e,rfl,rfl,rfl⟩,z⟩
 ·refine ⟨its.toList,r,⟨o,n,I.kIn a o hk,hc,hd,by simpa using hs⟩,?_⟩;have e:=r.length;simp only [Array.length_toList] at e;omega
theorem Inv.tuple (I:Inv X pins σ H s) (h:SqT X.K H a xs):∃its:List Value,Qar xs its∧IsTup s.heap a its.toArray∧xs.length≤sizeLine:=by
 rcases h with h | ⟨o,its,n,hk,hc,hs,hz,r⟩
 ·obtain ⟨z,its,r,p⟩:=h.ok I.hok;exact ⟨its,r,p,z⟩
 ·refine ⟨its.toList,r,⟨o,I.kIn a o hk,hc,n,by simpa using hs⟩,?_⟩;have e:=r.length;simp only [Array.length_toList] at e;omega
theorem Inv.list_inj (I:Inv X pins σ H s) (h:SqL X.K H a xs) (h':SqL X.K H a ys):xs=ys:=by
 obtain ⟨its,r,⟨o,n,e,_,_,d⟩,_⟩:=I.list h;obtain ⟨its',r',⟨o',n',e',_,_,d'⟩,_⟩:=I.list h';rw [e] at e'; cases e';rw [d] at d'
 injection d' with d1 _
 have:its=its':=by simpa using congrArg Array.toList d1
 subst this;exact r.inj r'
theorem Inv.tuple_inj (I:Inv X pins σ H s) (h:SqT X.K H a xs) (h':SqT X.K H a ys):xs=ys:=by
 obtain ⟨its,r,⟨o,e,_,n,d⟩,_⟩:=I.tuple h;obtain ⟨its',r',⟨o',e',_,n',d'⟩,_⟩:=I.tuple h';rw [e] at e'; cases e';rw [d] at d'
 injection d' with d1 _
 have:its=its':=by simpa using congrArg Array.toList d1
 subst this;exact r.inj r'
end
abbrev Cx.wish (X:Cx) (E:Value→Shared→Prop):Cx:={ X with xe:=E }
abbrev Cx.nox (X:Cx):Cx:=X.wish fun _ _=>False
theorem Cx.Ok.wish {X:Cx} (ok:X.Ok) (E:Value→Shared→Prop):(X.wish E).Ok :=
 ⟨ok.mod,ok.kind,ok.glob,ok.blt,ok.above,ok.inj,ok.has,ok.cab,ok.hd,ok.frames,ok.stk,ok.exf,ok.bs,ok.bsz,ok.noex,ok.exfs,ok.funs,ok.frf⟩
theorem Cx.Ok.unwish {X:Cx}{E:Value→Shared→Prop} (ok:(X.wish E).Ok):X.Ok :=
 ⟨ok.mod,ok.kind,ok.glob,ok.blt,ok.above,ok.inj,ok.has,ok.cab,ok.hd,ok.frames,ok.stk,ok.exf,ok.bs,ok.bsz,ok.noex,ok.exfs,ok.funs,ok.frf⟩
section
variable {X:Cx}{pins:List (Addr×Obj)}{σ:St}{H:Hp}{s:Shared}{E:Value→Shared→Prop}
theorem Inv.wish (I:Inv X pins σ H s) (E:Value→Shared→Prop):Inv (X.wish E) pins σ H s:=⟨I.ok.wish E,I.os,I.bare,I.base,I.loc,I.cell,I.free,I.freeC,I.pin,I.hok,I.len⟩
theorem Inv.unwish (I:Inv (X.wish E) pins σ H s):Inv X pins σ H s:=⟨I.ok.unwish,I.os,I.bare,I.base,I.loc,I.cell,I.free,I.freeC,I.pin,I.hok,I.len⟩
theorem SP.unwish {D:Ends}{f:Flow}{s':Shared} (h:SP (X.wish E) pins D f s'):SP X pins D f s':=by
 cases f with
 | next=>obtain ⟨σ',H',I,q⟩:=h; exact ⟨σ',H',I.unwish,q⟩
 | brk=>obtain ⟨σ',H',I,q⟩:=h; exact ⟨σ',H',I.unwish,q⟩
 | cont=>obtain ⟨σ',H',I,q⟩:=h; exact ⟨σ',H',I.unwish,q⟩
 | ret u=>obtain ⟨v,σ',H',I,r,q⟩:=h; exact ⟨v,σ',H',I.unwish,r,q⟩
theorem PE.nox {e:Expr}{t:TE} (h:PE X.nox e t):PE X e t:=fun pins s σ H Q I hw =>
 zJ (h pins s σ H Q (I.wish _) hw) (fun _ _ ⟨v,H',I',r,q⟩=>⟨v,H',I'.unwish,r,q⟩) fun _ _ z=>False.elim z
theorem PT.nox {e:Expr}{t:TT} (h:PT X.nox e t):PT X e t:=fun pins s σ H Q I hw =>
 zJ (h pins s σ H Q (I.wish _) hw) (fun _ _ ⟨H',I',q⟩=>⟨H',I'.unwish,q⟩) fun _ _ z=>False.elim z
theorem PSs.nox {st:List Stmt}{t:TS} (h:PSs X.nox st t):PSs X st t:=fun pins s σ H D I hw =>
 zJ (h pins s σ H D (I.wish _) hw) (fun _ _ q=>q.unwish) fun _ _ z=>False.elim z
end
section
variable {X:Cx}{st:Stmt}{rest:List Stmt}{t u:TS}{e:Expr}{te:TE}{pos:Pos}
def QtY:TS:=fun D σ H=>D.nx σ H
def Quy (t u:TS):TS:=fun D σ H=>t { D with nx:=u D } σ H
theorem Qrm:PSs X [] QtY:=fun _ _ σ H _ I h=>wpAny_execs_nil ⟨σ,H,I,h⟩
theorem QpI (h1:PS X st t) (h2:PSs X rest u):PSs X (st::rest) (Quy t u):=by
 intro pins s σ H D I h;refine wpAny_execs_cons (thn (h1 pins s σ H { D with nx:=u D } I h) fun f s1 q=>?_)
 cases f with
 | next =>
  obtain ⟨σ',H',I',q⟩:=q;exact h2 pins s1 σ' H' D I' q
 | ret v=>exact q
 | brk=>exact q
 | cont=>exact q
theorem Qms (h1:PS X st t):PSs X [st] t:=by
 intro pins s σ H D I h;refine wpAny_execs_cons (thn (h1 pins s σ H D I h) fun f s1 q=>?_)
 cases f with
 | next=>exact wpAny_execs_nil q
 | ret v=>exact q
 | brk=>exact q
 | cont=>exact q
theorem Inv.quiet {pins:List (Addr×Obj)}{σ:St}{H:Hp}{s:Shared} (I:Inv X pins σ H s):interactive X.env=false:=by simp [interactive,I.ok.kind]
def QtV (te:TE):TS:=fun D σ H=>te σ H fun _ H1=>D.nx σ H1
theorem Qfq (he:PE X e te) (hs:swapsWith e none pos.line X.env=pure false:=by rfl):PS X (.Expr e pos) (QtV te):=by
 intro pins s σ H D I h;exact wpAny_Expr_any (thn (he pins s σ H _ I h) fun v s1 ⟨x,H1,I1,r1,q1⟩=>⟨σ,H1,I1,q1⟩) I.quiet hs
def QuU (te:TE):TS:=fun D σ H=>te σ H D.rt
theorem QoA (he:PE X e te):PS X (.Return (some e) pos) (QuU te):=by
 intro pins s σ H D I h;exact wpAny_Return_some (thn (he pins s σ H _ I h) fun v s1 ⟨x,H1,I1,r1,q1⟩=>⟨x,σ,H1,I1,r1,q1⟩)
def Quw (c:TT) (t u:TS):TS:=fun D σ H=>c σ H fun b H1=>if b=true then t D σ H1 else u D σ H1
theorem QtX {c:Expr}{a b:List Stmt}{tc:TT} (hc:PT X c tc) (ha:PSs X a t) (hb:PSs X b u):PS X (.If c a b pos) (Quw tc t u):=by
 intro pins s σ H D I h;refine wpAny_If (thn (hc pins s σ H _ I h) fun d s1 ⟨H1,I1,q1⟩=>?_)
 cases d with
 | true=>exact ha pins s1 σ H1 D I1 q1
 | false=>exact hb pins s1 σ H1 D I1 q1
def Qtb:TS:=fun _ _ _=>False
theorem Qpj:PS X st Qtb:=fun _ _ _ _ _ _ h=>h.elim
end
abbrev TG:=V→St→Hp→(St→Hp→Prop)→Prop
abbrev TGs:=List V→St→Hp→(St→Hp→Prop)→Prop
def PG (X:Cx) (target:Expr) (t:TG):Prop :=
 ∀(pins:List (Addr×Obj)) (s:Shared) (σ:St) (H:Hp) (v:V) (u:Value) (Q:St→Hp→Prop),Inv X pins σ H s→RelV v u→t v σ H Q →
  wpAny (model X.prog X.w) X.A (assign target X.env u) (fun _ s'=>∃σ' H',Inv X pins σ' H' s'∧Q σ' H') X.xe s
def PGs (X:Cx) (ts:List Expr) (t:TGs):Prop :=
 ∀(pins:List (Addr×Obj)) (s:Shared) (σ:St) (H:Hp) (vs:List V) (us:List Value) (Q:St→Hp→Prop),Inv X pins σ H s→Qar vs us→t vs σ H Q →
  wpAny (model X.prog X.w) X.A (assignInOrder ((assignEach ts X.env).map (·.2)) us) (fun _ s'=>∃σ' H',Inv X pins σ' H' s'∧Q σ' H') X.xe s
section
variable {X:Cx}{pos:Pos}
def Qky (i:Nat):TG:=fun v σ H Q=>Q (σ.set i (some v)) H
theorem Qqz {i:Nat}{x:Str} (hN:X.N.Nodup) (hi:X.N[i]? = some x) (hx:Loc X.env.scope x) (hf:X.fn x=true∨X.env.scope.names.lookup x=some .local:=by first | exact .inl rfl | exact .inr rfl | assumption):PG X (.Name x pos) (Qky i):=by
 intro pins s σ H v u Q I r h;exact wpAny_assign_Name (Qld I hN hi hx r (fun s' I'=>⟨_,H,I',h⟩) hf)
def QuT:TGs:=fun vs σ H Q=>vs = []∧Q σ H
def QtN (t:TG) (u:TGs):TGs:=fun vs σ H Q=>∃v r,vs=v::r∧t v σ H fun σ' H'=>u r σ' H' Q
theorem QqH:PGs X [] QuT:=by
 intro pins s σ H vs us Q I r h;obtain ⟨e,h⟩:=h;subst e;cases r;exact assignInOrder_nil ⟨σ,H,I,h⟩
theorem QoZ {e:Expr}{es:List Expr}{t:TG}{u:TGs} (h1:PG X e t) (h2:PGs X es u)
  (hs:(assignEach (e::es) X.env).map (·.2)=assign e X.env::(assignEach es X.env).map (·.2):=by rfl):PGs X (e::es) (QtN t u):=by
 intro pins s σ H vs us Q I r h;obtain ⟨v,vr,e1,h⟩:=h;subst e1
 cases r with
 | cons r rr =>
  rw [hs];refine assignInOrder_cons (thn (h1 pins s σ H _ _ _ I r h) fun _ s1 ⟨σ1,H1,I1,q1⟩=>?_);exact h2 pins s1 σ1 H1 _ _ Q I1 rr q1
def QuJ (K:PySem.W.Frag) (n:Nat) (t:TGs):TG:=fun v σ H Q=>∃a xs,v = .ref a∧SqT K H a xs∧xs.length=n∧t xs σ H Q
theorem Qr9 {es:List Expr}{k:Nat}{t:TGs}{n:Nat} (hc:X.calm=true) (h:PGs X es t)
  (hn:(assignEach es X.env).length=n:=by rfl) (hst:(assignEach es X.env).findIdx? (·.1)=none:=by rfl):PG X (.Tuple es k pos) (QuJ X.K n t):=by
 intro pins s σ H v u Q I r hw;obtain ⟨a,xs,e1,hq,hl,hw⟩:=hw;subst e1;cases r;obtain ⟨its,rv,ht,hz⟩:=I.tuple hq
 refine assign_Tuple_tuple (I.ok.hd hc) ht (by simp [hn,←hl,rv.length]) hst fun h' hx=>?_
 have I1:Inv X pins σ H { s with heap:=h' }:=I.kept (t':=s.toks) fun b o e=>hx b o (zp (zf e)) e
 exact h pins _ σ H xs _ Q I1 (by simpa using rv) hw
def Qo6 (te:TE) (g:TG):TS:=fun D σ H=>te σ H fun x H1=>g x σ H1 D.nx
theorem QnE {i:Nat}{x:Str}{e:Expr}{te:TE}{pos':Pos} (hN:X.N.Nodup) (hi:X.N[i]? = some x) (hx:Loc X.env.scope x) (he:PE X e te) (hs:swapsWith e (some (.Name x pos')) pos.line X.env=pure false:=by rfl) (hf:X.fn x=true∨X.env.scope.names.lookup x=some .local:=by first | exact .inl rfl | exact .inr rfl | assumption) :
  PS X (.Assign [.Name x pos'] e pos) (Qo6 te (Qky i)):=by
 intro pins s σ H D I h;refine wpAny_Assign_Name (thn (he pins s σ H _ I h) fun v s1 ⟨y,H1,I1,r1,q1⟩=>?_) hs;exact Qld I1 hN hi hx r1 (fun s2 I2=>⟨_,H1,I2,q1⟩) hf
end
section
variable {X:Cx}{pos:Pos}
end
structure It where
 go:Nat→Hp→Prop
 yld:Nat→Hp→V→Hp→Prop
 stop:Nat→Hp→Prop
def Qd8 (X:Cx) (pins:List (Addr×Obj)) (H:Hp) (b:Addr):Prop :=
 H b=none∧b≠X.env.locals∧b∉X.fs∧(b∈X.ex∨X.s₀.heap.objs.size≤b)∧(∀x c,X.env.cells.lookup x=some c→c≠b)∧∀p∈X.pn++pins,p.1≠b
theorem Inv.fpOk {X:Cx}{pins:List (Addr×Obj)}{σ:St}{H H':Hp}{s:Shared}{b:Addr} (I:Inv X pins σ H s) (hb:s.heap.objs.size≤b) (hn:H' b=none):Qd8 X pins H' b:=by
 refine ⟨hn,Nat.ne_of_gt (zy I.lt hb),I.nofs hb,.inr (zz I.sz hb),fun x c e z=>?_,fun p hp z=>?_⟩
 ·obtain ⟨v,q⟩:=I.cell x c e;exact absurd (zy q.lt (by rw [z]; exact hb)) (zL _)
 ·exact absurd (zy (zf (I.pin p hp).1) (by rw [z]; exact hb)) (zL _)
structure Turn (P:Program) (w:World) (K:PySem.W.Frag) (tg:Expr) (J:It) (fp:List Addr) (it:Addr) (tn:Nat→Heap→Prop):Prop where
 mem:it∈fp
 obj:∀i h,tn i h→∀b∈fp,∃o,h.get? b=some o∧∀v,o.data≠.cell v
 keep:∀i h h',tn i h→(∀b∈fp,∀o,h.get? b=some o→h'.get? b=some o)→tn i h'
 item:∀(X:Cx),X.prog=P→X.w=w→X.K=K→X.calm=true→∀(i:Nat) (pins:List (Addr×Obj)) (s:Shared) (σ:St) (H:Hp) (E:Value→Shared→Prop),Inv X pins σ H s→(∀b∈fp,Qd8 X pins H b)→tn i s.heap→J.go i H →
  wpAny (model P w) X.A (pyNext (.ref it)) (fun r s1=>∃u,r=some u ∧
   wpAny (model P w) X.A (letOwnedTupleGo tg (.ref it) u) (fun _ s2=>∃x H',Inv X pins σ H' s2∧RelV x u∧J.yld i H x H'∧tn (i+1) s2.heap∧∀b∈fp,H' b=none) E s1) E s
 done:∀(X:Cx),X.prog=P→X.w=w→X.K=K→X.calm=true→∀(i:Nat) (pins:List (Addr×Obj)) (s:Shared) (σ:St) (H:Hp) (E:Value→Shared→Prop),Inv X pins σ H s→(∀b∈fp,Qd8 X pins H b)→tn i s.heap→J.stop i H →
  wpAny (model P w) X.A (pyNext (.ref it)) (fun r s1=>r=none∧Inv X pins σ H s1) E s
 self:∀(A:Around) (i:Nat) (s:Shared) (Q:Value→Shared→Prop) (E:Value→Shared→Prop),tn i s.heap→Q (.ref it) s→wpAny (model P w) A (pyIter (.ref it)) Q E s
abbrev TI:=St→Hp→(It→Hp→Prop)→Prop
def PIE (X:Cx) (pins:List (Addr×Obj)) (σ:St) (tg:Expr) (R:It→Hp→Prop) (itv:Value) (s2:Shared):Prop :=
 ∃(it:Addr) (fp:List Addr) (tn:Nat→Heap→Prop) (J:It) (H':Hp),itv = .ref it∧Inv X pins σ H' s2∧Turn X.prog X.w X.K tg J fp it tn∧tn 0 s2.heap∧(∀b∈fp,Qd8 X pins H' b)∧R J H'
def PI (X:Cx) (tg iter:Expr) (wi:TI):Prop :=
 ∀(pins:List (Addr×Obj)) (s:Shared) (σ:St) (H:Hp) (R:It→Hp→Prop),Inv X pins σ H s→wi σ H R →
  wpAny (model X.prog X.w) X.A (eval iter X.env) (fun v s1=>wpAny (model X.prog X.w) X.A (pyIter v) (PIE X pins σ tg R) X.xe s1) X.xe s
theorem QkB {M:Model}{A:Around}{E:Value→Shared→Prop}{s:Shared}{tg:Expr}{it:Addr}{u:Value}{o:Obj}{n:String}{vs:Array Value}{Q:Unit→Shared→Prop} (ho:s.heap.get? it=some o) (hc:o.cls = .type n) (hd:o.data = .fields vs)
  (hn:["enumerate","zip","dict_itemiterator","dict_reverseitemiterator","odict_iterator","itertools.zip_longest","itertools.pairwise"].contains n=false) (hQ:Q () s):wpAny M A (letOwnedTupleGo tg (.ref it) u) Q E s:=by
 unfold letOwnedTupleGo
 cases tg <;> first
  | exact zb hQ
  | (cases u <;> first
    | exact zb hQ
    | (refine za (wpAny_load ho ?_)
       rw [hc,hd];show wpAny M A (if (["enumerate","zip","dict_itemiterator","dict_reverseitemiterator","odict_iterator","itertools.zip_longest","itertools.pairwise"].contains n&&vs[0]? == some (rawInt _))=true then _ else _) Q E s;rw [if_neg (by intro h; rw [hn,Bool.false_and] at h; cases h)]
       exact zb hQ))
def Itl (K:PySem.W.Frag) (a:Addr):It :=
 ⟨fun i H=>∃xs x,SqL K H a xs∧xs[i]? = some x,fun i H x H'=>H'=H∧∀xs,SqL K H a xs→xs[i]? = some x,fun i H=>∃xs,SqL K H a xs∧xs.length≤i⟩
def Itt (K:PySem.W.Frag) (a:Addr):It :=
 ⟨fun i H=>∃xs x,SqT K H a xs∧xs[i]? = some x,fun i H x H'=>H'=H∧∀xs,SqT K H a xs→xs[i]? = some x,fun i H=>∃xs,SqT K H a xs∧xs.length≤i⟩
def Itr (lo:Int) (n:Nat):It:=⟨fun i _=>i < n,fun i H x H'=>H'=H∧x = .int (lo+i),fun i _=>n≤i⟩
theorem QoC {P:Program}{w:World}{K:PySem.W.Frag}{tg:Expr} (a it:Addr):Turn P w K tg (Itl K a) [it] it (fun i h=>h.IsListIter it a i) where
 mem:=by simp
 obj:=fun i h st b hb=>by
  have e:b=it:=by simpa using hb
  subst e;obtain ⟨o,e,c,d⟩:=st;exact ⟨o,e,fun v z=>by rw [d] at z; cases z⟩
 keep:=fun i h h' st k=>st.at fun o e=>k it (by simp) o e
 item:=by
  intro X hP hw hK hc i pins s σ H E I hf st hg;subst hP hw hK;obtain ⟨xs,x,hq,hx⟩:=hg;obtain ⟨its,rv,p,hz⟩:=I.list hq;obtain ⟨u,hu,ru⟩:=rv.get hx;obtain ⟨f0,f1,f2,f3,f4,f5⟩:=hf it (by simp)
  refine wpAny_pyNext_list_item st p.isList (x:=u) (by simpa using hu) fun h' st' sb=>?_
  have I1:Inv X pins σ H { s with heap:=h' }:=I.turned (t':=s.toks) (fun b o hb e=>(sb.2 b hb).trans e) f0 f1 f3 f4 f5;obtain ⟨o,e,c,d⟩:=id st';exact ⟨u,rfl,QkB (s:={ s with heap:=h' }) e c d (by decide) ⟨x,H,I1,ru,⟨rfl,fun ys hy=>by rw [I.list_inj hy hq]; exact hx⟩,st',fun b hb=>(hf b hb).1⟩⟩
 done:=by
  intro X hP hw hK hc i pins s σ H E I hf st hg;subst hP hw hK;obtain ⟨xs,hq,hx⟩:=hg;obtain ⟨its,rv,p,hz⟩:=I.list hq;obtain ⟨f0,f1,f2,f3,f4,f5⟩:=hf it (by simp);have hl:=rv.length
  exact wpAny_pyNext_list_end (I.ok.hd hc) st p.isList (by simp; omega) fun h' eb=>⟨rfl,I.turned (t':=s.toks) (fun b o hb e=>eb b o hb e) f0 f1 f3 f4 f5⟩
 self:=fun _ _ _ _ _ st h=>wpAny_pyIter_listiter st h
theorem Qnh {P:Program}{w:World}{K:PySem.W.Frag}{tg:Expr} (a it:Addr):Turn P w K tg (Itt K a) [it] it (fun i h=>h.IsTupleIter it a i) where
 mem:=by simp
 obj:=fun i h st b hb=>by
  have e:b=it:=by simpa using hb
  subst e;obtain ⟨o,e,c,d⟩:=st;exact ⟨o,e,fun v z=>by rw [d] at z; cases z⟩
 keep:=fun i h h' st k=>st.at fun o e=>k it (by simp) o e
 item:=by
  intro X hP hw hK hc i pins s σ H E I hf st hg;subst hP hw hK;obtain ⟨xs,x,hq,hx⟩:=hg;obtain ⟨its,rv,p,hz⟩:=I.tuple hq;obtain ⟨u,hu,ru⟩:=rv.get hx;obtain ⟨f0,f1,f2,f3,f4,f5⟩:=hf it (by simp)
  refine wpAny_pyNext_tuple_item st (show s.heap.IsTuple a its.toArray from p) (x:=u) (by simpa using hu) fun h' st' sb=>?_
  have I1:Inv X pins σ H { s with heap:=h' }:=I.turned (t':=s.toks) (fun b o hb e=>(sb.2 b hb).trans e) f0 f1 f3 f4 f5;obtain ⟨o,e,c,d⟩:=id st';exact ⟨u,rfl,QkB (s:={ s with heap:=h' }) e c d (by decide) ⟨x,H,I1,ru,⟨rfl,fun ys hy=>by rw [I.tuple_inj hy hq]; exact hx⟩,st',fun b hb=>(hf b hb).1⟩⟩
 done:=by
  intro X hP hw hK hc i pins s σ H E I hf st hg;subst hP hw hK;obtain ⟨xs,hq,hx⟩:=hg;obtain ⟨its,rv,p,hz⟩:=I.tuple hq;obtain ⟨f0,f1,f2,f3,f4,f5⟩:=hf it (by simp);have hl:=rv.length
  exact wpAny_pyNext_tuple_end (I.ok.hd hc) st (show s.heap.IsTuple a its.toArray from p) (by simp; omega) fun h' eb=>⟨rfl,I.turned (t':=s.toks) (fun b o hb e=>eb b o hb e) f0 f1 f3 f4 f5⟩
 self:=fun _ _ _ _ _ st h=>wpAny_pyIter_tupleiter st h
theorem Qna {P:Program}{w:World}{K:PySem.W.Frag}{tg:Expr} (it:Addr) (lo:Int) (n:Nat):Turn P w K tg (Itr lo n) [it] it (fun i h=>IsRangeIter h it (lo+(i:Nat) * 1) ((n:Int) - (i:Nat)) 1) where
 mem:=by simp
 obj:=fun i h st b hb=>by
  have e:b=it:=by simpa using hb
  subst e
  exact ⟨_,st,fun v z=>by
   have z':Data.fields _=Data.cell v:=z
   cases z'⟩
 keep:=fun i h h' st k=>k it (by simp) _ st
 item:=by
  intro X hP hw hK hc i pins s σ H E I hf st hg;subst hP hw hK;obtain ⟨f0,f1,f2,f3,f4,f5⟩:=hf it (by simp);have W:=Walks.range (prog:=X.prog) (w:=X.w) (I.ok.hd hc) it lo 1 n
  refine W.item i s _ _ hg st fun v h' tk hv st' kk=>?_
  obtain ⟨t,rfl⟩:=hv;have I1:Inv X pins σ H { s with heap:=h',toks:=tk }:=I.turned (fun b o hb e=>kk b o (by simpa using hb) e) f0 f1 f3 f4 f5;refine ⟨_,rfl,QkB (s:={ s with heap:=h',toks:=tk }) (n:="range_iterator") st' rfl rfl (by decide) ⟨.int (lo+i),H,I1,⟨t,?_⟩,⟨rfl,rfl⟩,st',fun b hb=>(hf b hb).1⟩⟩;rw [Int.mul_one]
 done:=by
  intro X hP hw hK hc i pins s σ H E I hf st hg;subst hP hw hK;obtain ⟨f0,f1,f2,f3,f4,f5⟩:=hf it (by simp)
  exact wpAny_pyNext_range_end (I.ok.hd hc) st (by have:n≤i:=hg; omega) fun h' eb=>⟨rfl,I.turned (t':=s.toks) (fun b o hb e=>eb b o hb e) f0 f1 f3 f4 f5⟩
 self:=fun _ _ _ _ _ st h=>wpAny_pyIter_rangeiter st h
section
variable {X:Cx}{tg:Expr}
def Qp2 (K:PySem.W.Frag) (tl:TE):TI:=fun σ H R=>tl σ H fun x H1=>∃a,x = .ref a∧(∃xs,SqL K H1 a xs)∧R (Itl K a) H1
def QuH (K:PySem.W.Frag) (tl:TE):TI:=fun σ H R=>tl σ H fun x H1=>∃a,x = .ref a∧(∃xs,SqT K H1 a xs)∧R (Itt K a) H1
theorem Qjt {l:Expr}{tl:TE} (hl:PE X l tl):PI X tg l (Qp2 X.K tl):=by
 intro pins s σ H R I h
 refine thn (hl pins s σ H _ I h) fun v s1 ⟨x,H1,I1,r1,q1⟩=>?_
 obtain ⟨a,e,⟨xs,hq⟩,q⟩:=q1;subst e;cases r1;obtain ⟨its,rv,p,hz⟩:=I1.list hq;refine wpAny_pyIter_list p.isList ?_;refine ⟨s1.heap.objs.size,[s1.heap.objs.size],_,_,H1,rfl,I1.kept (t':=s1.toks) fun b o e=>zq _ e,QoC a _,⟨_,zC _ rfl,rfl,rfl⟩,fun b hb=>?_,q⟩
 have e:b=s1.heap.objs.size:=by simpa using hb
 subst e;exact I1.fpOk (zc _) (I1.hok.fresh (zc _))
theorem QsE {l:Expr}{tl:TE} (hl:PE X l tl):PI X tg l (QuH X.K tl):=by
 intro pins s σ H R I h
 refine thn (hl pins s σ H _ I h) fun v s1 ⟨x,H1,I1,r1,q1⟩=>?_
 obtain ⟨a,e,⟨xs,hq⟩,q⟩:=q1;subst e;cases r1;obtain ⟨its,rv,p,hz⟩:=I1.tuple hq;refine wpAny_pyIter_tuple (show s1.heap.IsTuple a its.toArray from p) ?_;refine ⟨s1.heap.objs.size,[s1.heap.objs.size],_,_,H1,rfl,I1.kept (t':=s1.toks) fun b o e=>zq _ e,Qnh a _,⟨_,zC _ rfl,rfl,rfl⟩,fun b hb=>?_,q⟩
 have e:b=s1.heap.objs.size:=by simpa using hb
 subst e;exact I1.fpOk (zc _) (I1.hok.fresh (zc _))
theorem Qpx {pins:List (Addr×Obj)}{σ:St}{H:Hp}{s:Shared}{R:It→Hp→Prop}{E:Value→Shared→Prop}{lo hi:Int}{t u v:Tok}{tk:Nat} (I:Inv X pins σ H s) (h1:-(2 ^ 62)≤lo) (h2:lo < 2 ^ 62) (h3:-(2 ^ 62)≤hi) (h4:hi < 2 ^ 62)
  (q:R (Itr lo (hi - lo).toNat) H):wpAny (model X.prog X.w) X.A (pyIter (.ref s.heap.objs.size)) (PIE X pins σ tg R) E { s with heap:=s.heap.push { cls:=.type "range",data:=.fields #[.int lo t,.int hi u,.int 1 v] },toks:=tk }:=by
 refine wpAny_pyIter_range (IsRange.new ..) (small_one h1 h2 h3 h4) ?_
 have I1:Inv X pins σ H { s with heap:=s.heap.push { cls:=.type "range",data:=.fields #[.int lo t,.int hi u,.int 1 v] },toks:=tk }:=I.kept fun b o e=>zq _ e
 refine ⟨(s.heap.push { cls:=.type "range",data:=.fields #[.int lo t,.int hi u,.int 1 v] }).objs.size,[(s.heap.push { cls:=.type "range",data:=.fields #[.int lo t,.int hi u,.int 1 v] }).objs.size],_,_,H,rfl,
  I1.kept (t':=tk) fun b o e=>zq _ e,Qna _ lo (hi - lo).toNat,?_,fun b hb=>?_,q⟩
 ·have e1:lo+((0:Nat):Int) * 1=lo:=by simp
  have e2:(((hi - lo).toNat:Nat):Int) - ((0:Nat):Int)=Builtin.Range.rangeSize lo hi 1:=by rw [rangeSize_one]; split <;> omega
  show IsRangeIter _ _ (lo+((0:Nat):Int) * 1) ((((hi - lo).toNat:Nat):Int) - ((0:Nat):Int)) 1;rw [e1,e2];exact zC _ rfl
 ·have e:b=(s.heap.push { cls:=.type "range",data:=.fields #[.int lo t,.int hi u,.int 1 v] }).objs.size:=by simpa using hb
  subst e;exact I1.fpOk (zc _) (I1.hok.fresh (zc _))
def QtQ (ta:TA):TI:=fun σ H R=>ta σ H fun vs H1=>∃j:Int,vs = [.int j]∧-(2 ^ 62)≤j∧j < 2 ^ 62∧R (Itr 0 j.toNat) H1
theorem QnX {a:Expr}{ta:TA}{p pos:Pos} (hg:Gl X "range") (hm:X.mg "range" = none) (ha:PA X [a] ta) (hs:starEach [a] X.env = [(false,eval a X.env)]:=by rfl):PI X tg (.Call (.Name "range" p) [a] [] pos) (QtQ ta):=by
 intro pins s σ H R I h;refine Call_ (Qfz I hg hm boot_range (PyProof.Rows.callWith_type1 (thn (ha pos pins s σ H _ I h) fun us s1 ⟨vs,H1,I1,r1,q1⟩=>?_) hs rfl));obtain ⟨j,e,q1,q2,q⟩:=q1;subst e
 cases r1 with
 | cons r rr =>
  cases rr;obtain ⟨t,rfl⟩:=r;exact call_range_1 (Qpx I1 (by omega) (by omega) q1 q2 (by simpa using q))
def Qm0 (wi:TI) (g:TG) (tb:TS):TS:=fun D σ H=>wi σ H fun J H1=>∃W:Nat→Nat→St→Hp→Prop,(∃m,W 0 m σ H1)∧∀i m σ H,W i m σ H →
 (J.stop i H∧D.nx σ H)∨(J.go i H∧∃N:St→Hp→Prop,(∀σ' H',N σ' H'→∃m',m' < m∧W (i+1) m' σ' H')∧∀x H',J.yld i H x H'→g x σ H' fun σ2 H2=>tb { D with nx:=N,ct:=N,bk:=D.nx } σ2 H2)
def QhZ (fp:List Addr) (h:Heap):List (Addr×Obj):=fp.filterMap fun b=>(h.get? b).map fun o=>(b,o)
theorem Qfm {fp:List Addr}{h:Heap}{b:Addr}{o:Obj} (hb:b∈fp) (e:h.get? b=some o):(b,o)∈QhZ fp h:=List.mem_filterMap.mpr ⟨b,hb,by rw [e]; rfl⟩
theorem QnV {fp:List Addr}{h:Heap}{p:Addr×Obj} (hp:p∈QhZ fp h):p.1∈fp∧h.get? p.1=some p.2:=by
 obtain ⟨b,hb,e⟩:=List.mem_filterMap.mp hp
 cases q:h.get? b with
 | none=>rw [q] at e; cases e
 | some o =>
  rw [q] at e;have e':(b,o)=p:=zM e;subst e';exact ⟨hb,q⟩
theorem Inv.pinned {pins:List (Addr×Obj)}{σ:St}{H:Hp}{s:Shared}{fp:List Addr} (I:Inv X pins σ H s) (hf:∀b∈fp,Qd8 X pins H b) (ho:∀b∈fp,∃o,s.heap.get? b=some o∧∀v,o.data≠.cell v):Inv X (pins++QhZ fp s.heap) σ H s :=
 I.pins_of fun p hp=>(zA.mp hp).elim (fun z=>I.pin p (zN _ z)) fun z=>by
  obtain ⟨hb,e⟩:=QnV z;obtain ⟨f0,f1,f2,_⟩:=hf p.1 hb;obtain ⟨o,e',d⟩:=ho p.1 hb;rw [e] at e'; cases e';exact ⟨e,f0,f1,f2,d⟩
theorem Inv.unpinned {pins pl:List (Addr×Obj)}{σ:St}{H:Hp}{s:Shared} (I:Inv X (pins++pl) σ H s):Inv X pins σ H s:=I.pins_of fun p hp=>I.pin p (zN _ (List.mem_append_left _ hp))
theorem Qk7 {iter:Expr}{body:List Stmt}{wi:TI}{g:TG}{tb:TS}{pos:Pos} (hp:PassesOwn (model X.prog X.w) X.A X.env X.xe) (hc:X.calm=true) (hi:PI X tg iter wi) (hg:PG X tg g) (hb:PSs X body tb)
  (hs:∀x,foldedSetIterable iter X.env x=pure x:=by intro _; rfl):PS X (.For tg iter body [] pos) (Qm0 wi g tb):=by
 intro pins s σ H D I h;refine wpAny_For (thn (hi pins s σ H _ I h) fun v s1 h1=>thn h1 fun itv s2 h2=>?_) hs;obtain ⟨it,fp,tn,J,H2,e,I2,T,st2,f2,W,⟨m0,w0⟩,turn⟩:=h2;subst e
 have stat:∀{H':Hp},(∀b∈fp,H' b=none)→∀b∈fp,Qd8 X pins H' b:=fun hn b hb=>⟨hn b hb,(f2 b hb).2⟩
 refine codeAny_forLoop_any (fun n s'=>∃i σ' H',Inv X pins σ' H' s'∧tn i s'.heap∧(∀b∈fp,H' b=none)∧W i n σ' H') ?_ m0 ⟨0,σ,H2,I2,st2,fun b hb=>(f2 b hb).1,w0⟩;rintro n s3 ⟨i,σ3,H3,I3,st3,fr3,w3⟩
 rcases turn i n σ3 H3 w3 with ⟨stop,qn⟩ | ⟨go,N,hN,step⟩
 ·refine wpAny_passesOwn hp (thn (T.done X rfl rfl rfl hc i pins s3 σ3 H3 X.xe I3 (stat fr3) st3 stop) fun r s4 ⟨hr,I4⟩=>?_);subst hr;exact wpAny_execs_nil ⟨σ3,H3,I4,qn⟩
 ·refine wpAny_passesOwn hp (thn (T.item X rfl rfl rfl hc i pins s3 σ3 H3 X.xe I3 (stat fr3) st3 go) fun r s4 ⟨u,hr,h4⟩=>?_);subst hr;refine wpAny_passesOwn hp (thn h4 fun _ s5 ⟨x,H5,I5,r5,y5,st5,fr5⟩=>?_);have I5':=I5.pinned (stat fr5) (T.obj _ _ st5);refine wpAny_passesOwn hp (thn (hg _ s5 σ3 H5 x u _ I5' r5 (step x H5 y5)) fun _ s6 ⟨σ6,H6,I6,q6⟩=>?_);refine wpAny_passesOwn hp (thn (hb _ s6 σ6 H6 _ I6 q6) fun f s7 q7=>?_)
  have again:∀{σ7:St}{H7:Hp},Inv X (pins++QhZ fp s5.heap) σ7 H7 s7→N σ7 H7→∃m,m < n∧∃i σ' H',Inv X pins σ' H' s7∧tn i s7.heap∧(∀b∈fp,H' b=none)∧W i m σ' H':=fun {σ7 H7} I7 n7=>by
   obtain ⟨m',hm,w7⟩:=hN σ7 H7 n7;refine ⟨m',hm,i+1,σ7,H7,I7.unpinned,T.keep _ _ _ st5 fun b hb o e=>(I7.pin (b,o) (zN _ (zN _ (Qfm hb e)))).1,fun b hb=>?_,w7⟩;obtain ⟨o,e,d⟩:=T.obj _ _ st5 b hb;exact (I7.pin (b,o) (zN _ (zN _ (Qfm hb e)))).2.1
  cases f with
  | next=>obtain ⟨σ7,H7,I7,n7⟩:=q7; exact again I7 n7
  | cont=>obtain ⟨σ7,H7,I7,n7⟩:=q7; exact again I7 n7
  | brk=>obtain ⟨σ7,H7,I7,q7⟩:=q7; exact ⟨σ7,H7,I7.unpinned,q7⟩
  | ret v=>obtain ⟨x7,σ7,H7,I7,r7,q7⟩:=q7; exact ⟨x7,σ7,H7,I7.unpinned,r7,q7⟩
end
abbrev R2:=V→V→Hp→VK→Prop
def OpR (X:Cx) (f:Value→Value→Sem Value) (r:R2):Prop :=
 ∀(pins:List (Addr×Obj)) (s:Shared) (σ:St) (H:Hp) (x y:V) (v u:Value) (Q:VK),Inv X pins σ H s→RelV x v→RelV y u→r x y H Q →
  wpAny (model X.prog X.w) X.A (f v u) (EP X pins σ Q) X.xe s
def UnR (X:Cx) (f:Value→Sem Value) (r:V→Hp→VK→Prop):Prop :=
 ∀(pins:List (Addr×Obj)) (s:Shared) (σ:St) (H:Hp) (x:V) (v:Value) (Q:VK),Inv X pins σ H s→RelV x v→r x H Q →
  wpAny (model X.prog X.w) X.A (f v) (EP X pins σ Q) X.xe s
def Qio (X:Cx) (f:Value) (r:List V→Hp→VK→Prop):Prop :=
 ∀(pins:List (Addr×Obj)) (s:Shared) (σ:St) (H:Hp) (xs:List V) (us:List Value) (Q:VK),Inv X pins σ H s→Qar xs us→r xs H Q →
  wpAny (model X.prog X.w) X.A (call f us) (EP X pins σ Q) X.xe s
def QuS (X:Cx) (r:V→Hp→(Bool→Hp→Prop)→Prop):Prop :=
 ∀(pins:List (Addr×Obj)) (s:Shared) (σ:St) (H:Hp) (x:V) (v:Value) (Q:Bool→Hp→Prop),Inv X pins σ H s→RelV x v→r x H Q →
  wpAny (model X.prog X.w) X.A (truthy v) (TP X pins σ Q) X.xe s
def tOp (r:R2) (ta tb:TE):TE:=fun σ H Q=>ta σ H fun x H1=>tb σ H1 fun y H2=>r x y H2 Q
def tUn (r:V→Hp→VK→Prop) (ta:TE):TE:=fun σ H Q=>ta σ H fun x H1=>r x H1 Q
def rI (C:Int→Int→Prop) (g:Int→Int→V):R2:=fun x y H Q=>∃i j,x = .int i∧y = .int j∧C i j∧Q (g i j) H
def rI0 (g:Int→Int→V):R2:=fun x y H Q=>∃i j,x = .int i∧y = .int j∧Q (g i j) H
def rU (g:Int→V):V→Hp→VK→Prop:=fun x H Q=>∃i,x = .int i∧Q (g i) H
section
variable {X:Cx}{a b c:Expr}{ta tb tc:TE}{pos:Pos}
theorem Qpw (ha:PE X a ta) (hb:PE X b tb) {pins:List (Addr×Obj)}{s:Shared}{σ:St}{H:Hp}{R:V→V→Hp→Prop} (I:Inv X pins σ H s)
  (h:ta σ H fun x H1=>tb σ H1 fun y H2=>R x y H2) {Q:Value→Shared→Prop}{f:Value→Value→Sem Value}
  (hf:∀v u s2 x y H2,Inv X pins σ H2 s2→RelV x v→RelV y u→R x y H2→wpAny (model X.prog X.w) X.A (f v u) Q X.xe s2) :
  wpAny (model X.prog X.w) X.A (eval a X.env) (fun v s₁=>wpAny (model X.prog X.w) X.A (eval b X.env) (fun u s₂=>wpAny (model X.prog X.w) X.A (f v u) Q X.xe s₂) X.xe s₁) X.xe s:=by
 refine thn (ha pins s σ H _ I h) fun v s1 ⟨x,H1,I1,r1,q1⟩=>?_
 refine thn (hb pins s1 σ H1 _ I1 q1) fun u s2 ⟨y,H2,I2,r2,q2⟩=>?_
 exact hf v u s2 x y H2 I2 r1 r2 q2
theorem Qt5 {op:Operator}{r:R2} (ho:OpR X (binaryOp op) r) (ha:PE X a ta) (hb:PE X b tb):PE X (.BinOp a op b pos) (tOp r ta tb):=by
 intro pins s σ H Q I h;exact wpAny_BinOp (Qpw ha hb I h fun v u s2 x y H2 I2 rx ry q=>ho pins s2 σ H2 x y v u Q I2 rx ry q)
theorem Qtr {op:UnaryOp}{r:V→Hp→VK→Prop} (ho:UnR X (unaryOp op) r) (ha:PE X a ta):PE X (.UnaryOp op a pos) (tUn r ta):=by
 intro pins s σ H Q I h;exact UnaryOp_ (thn (ha pins s σ H _ I h) fun v s1 ⟨x,H1,I1,r1,q1⟩=>ho pins s1 σ H1 x v Q I1 r1 q1)
theorem opI {f:Value→Value→Sem Value}{C:Int→Int→Prop}{g:Int→Int→Int}
  (rule:∀(i j:Int) (t u:Tok) (s:Shared) (Q:Value→Shared→Prop) (E:Value→Shared→Prop),C i j→Q (.int (g i j) s.toks) { s with toks:=s.toks+1 }→wpAny (model X.prog X.w) X.A (f (.int i t) (.int j u)) Q E s) :
  OpR X f (rI C fun i j=>.int (g i j)):=by
 intro pins s σ H x y v u Q I rx ry h;obtain ⟨i,j,rfl,rfl,hc,q⟩:=h;obtain ⟨t,rfl⟩:=rx;obtain ⟨t',rfl⟩:=ry;exact rule i j t t' s _ _ hc ⟨.int (g i j),H,I.tok _,⟨_,rfl⟩,q⟩
theorem QsH {f:Value→Value→Sem Value}{g:Int→Int→Int}
  (rule:∀(i j:Int) (t u:Tok) (s:Shared) (Q:Value→Shared→Prop) (E:Value→Shared→Prop),Q (.int (g i j) s.toks) { s with toks:=s.toks+1 }→wpAny (model X.prog X.w) X.A (f (.int i t) (.int j u)) Q E s) :
  OpR X f (rI0 fun i j=>.int (g i j)):=by
 intro pins s σ H x y v u Q I rx ry h;obtain ⟨i,j,rfl,rfl,q⟩:=h;obtain ⟨t,rfl⟩:=rx;obtain ⟨t',rfl⟩:=ry;exact rule i j t t' s _ _ ⟨.int (g i j),H,I.tok _,⟨_,rfl⟩,q⟩
theorem Qtk {f:Value→Value→Sem Value}{g:Int→Int→Bool}
  (rule:∀(i j:Int) (t u:Tok) (s:Shared) (Q:Value→Shared→Prop) (E:Value→Shared→Prop),Q (.bool (g i j)) s→wpAny (model X.prog X.w) X.A (f (.int i t) (.int j u)) Q E s) :
  OpR X f (rI0 fun i j=>.bl (g i j)):=by
 intro pins s σ H x y v u Q I rx ry h;obtain ⟨i,j,rfl,rfl,q⟩:=h;obtain ⟨t,rfl⟩:=rx;obtain ⟨t',rfl⟩:=ry;exact rule i j t t' s _ _ ⟨.bl (g i j),H,I,rfl,q⟩
def Quv (i j:Int):Prop:=0 < j∧j < 1073741824
def Quz (i j:Int):Prop:=0≤j∧j≤1000000∧i.natAbs < 2 ^ 64
def QoN (i j:Int):Prop:=(-(2 ^ 64) < i∧i < 2 ^ 64)∨(-(2 ^ 64) < j∧j < 2 ^ 64)
theorem QoN.ok {i j:Int} (h:QoN i j):IntMulOk i j:=by
 rcases h with ⟨h1,h2⟩ | ⟨h1,h2⟩
 ·exact .of_left (intBits_le_64 h1 h2)
 ·exact .of_right (intBits_le_64 h1 h2)
theorem Qr1:OpR X (binaryOp .Add) (rI0 fun i j=>.int (i+j)):=QsH fun _ _ _ _ _ _ _ q=>add_int q
theorem QsU:OpR X (binaryOp .Sub) (rI0 fun i j=>.int (i - j)):=QsH fun _ _ _ _ _ _ _ q=>sub_int q
theorem QsP:OpR X (binaryOp .Mult) (rI QoN fun i j=>.int (i * j)):=opI fun _ _ _ _ _ _ _ hc q=>mul_int q hc.ok
theorem Qq8:OpR X (binaryOp .FloorDiv) (rI Quv fun i j=>.int (i / j)):=opI fun i j _ _ _ _ _ hc q=>by
 have h1:(0:Int) < j:=hc.1;have h2:j < 1073741824:=hc.2;exact floordiv_int (by omega) (by rw [Int.fdiv_eq_ediv_of_nonneg i (by omega)]; exact q) (.inl (PyProof.noPylong_small (by omega)))
theorem Qss:OpR X (binaryOp .Mod) (rI (fun _ j=>0 < j) fun i j=>.int (i % j)):=opI fun i j _ _ _ _ _ hc q=>by
 have h1:(0:Int) < j:=hc;exact mod_int' (by omega) (by rw [Int.fmod_eq_emod_of_nonneg i (by omega)]; exact q)
theorem Qse:OpR X (binaryOp .Pow) (rI Quz fun i j=>.int (i ^ j.toNat)):=opI fun _ _ _ _ _ _ _ hc q=>pow_int_small hc.1 hc.2.1 hc.2.2 q
theorem unI {f:Value→Sem Value}{g:Int→Int}
  (rule:∀(i:Int) (t:Tok) (s:Shared) (Q:Value→Shared→Prop) (E:Value→Shared→Prop),Q (.int (g i) s.toks) { s with toks:=s.toks+1 }→wpAny (model X.prog X.w) X.A (f (.int i t)) Q E s) :
  UnR X f (rU fun i=>.int (g i)):=by
 intro pins s σ H x v Q I rx h;obtain ⟨i,rfl,q⟩:=h;obtain ⟨t,rfl⟩:=rx;exact rule i t s _ _ ⟨.int (g i),H,I.tok _,⟨_,rfl⟩,q⟩
theorem Qsj:UnR X (unaryOp .USub) (rU fun i=>.int (-i)):=unI fun _ _ _ _ _ q=>neg_int q
theorem Qoj:OpR X (binaryOp .Add) (fun x y H Q=>∃i k,x = .int i∧y = .bl k∧Q (.int (i+b2i k)) H):=by
 intro pins s σ H x y v u Q I rx ry h;obtain ⟨i,k,rfl,rfl,q⟩:=h;obtain ⟨t,rfl⟩:=rx;cases ry;exact add_int_bool ⟨.int (i+b2i k),H,I.tok _,⟨_,rfl⟩,q⟩
end
def QrL:V→V→Bool
 | .non,.non=>true | .non,.int _=>true | .int _,.non=>true | .non,.bl _=>true | .bl _,.non=>true | .non,.str _=>true | .str _,.non=>true
 | .int _,.int _=>true | .bl _,.bl _=>true | .str _,.str _=>true | .byt _,.byt _=>true
 | .int _,.str _=>true | .str _,.int _=>true | .bl _,.str _=>true | .str _,.bl _=>true
 | _,_=>false
def rEq:R2:=fun x y H Q=>QrL x y=true∧Q (.bl (decide (x=y))) H
def rNe:R2:=fun x y H Q=>QrL x y=true∧Q (.bl (!decide (x=y))) H
theorem QmC {i j:Int}:decide (V.int i=V.int j)=(i == j):=by
 rw [Bool.eq_iff_iff];simp
theorem QnU {i j:Bool}:decide (V.bl i=V.bl j)=(i == j):=by
 rw [Bool.eq_iff_iff];simp
theorem Qmg {i j:Str}:decide (V.str i=V.str j)=(i == j):=by
 rw [Bool.eq_iff_iff];simp
theorem Ql8 {i j:Array UInt8}:decide (V.byt i=V.byt j)=(i.toList == j.toList):=by
 rw [Bool.eq_iff_iff];cases i;cases j;simp
section
variable {X:Cx}{a b c:Expr}{ta tb tc:TE}{pos:Pos}
theorem QaZ {pins:List (Addr×Obj)}{σ:St}{H:Hp}{s:Shared}{Q:VK}{k k':Bool} (I:Inv X pins σ H s) (q:Q (.bl k) H) (e:k=k'):EP X pins σ Q (.bool k') s:=by
 subst e;exact ⟨.bl k,H,I,rfl,q⟩
theorem QnA:OpR X (compareOp .Eq) rEq:=by
 intro pins s σ H x y v u Q I rx ry h;obtain ⟨hs,q⟩:=h
 cases x with
 | non =>
  cases rx
  cases y with
  | non=>cases ry; exact PySem.EqNone.eq_none_none (QaZ I q (by simp))
  | bl j=>cases ry; exact PySem.EqNone.eq_none_bool (QaZ I q (by simp))
  | int j=>obtain ⟨t',rfl⟩:=ry; exact PySem.EqNone.eq_none_int (QaZ I q (by simp))
  | str j=>obtain ⟨t',rfl⟩:=ry; exact PySem.EqNone.eq_none_str (QaZ I q (by simp))
  | _=>exact absurd (show false=true from hs) zj
 | bl i =>
  cases rx
  cases y with
  | non=>cases ry; exact PySem.EqNone.eq_bool_none (QaZ I q (by simp))
  | bl j=>cases ry; exact eq_bool (QaZ I q QnU)
  | str j=>obtain ⟨t',rfl⟩:=ry; exact PySem.EqMixed.eq_bool_str (QaZ I q (by simp))
  | _=>exact absurd (show false=true from hs) zj
 | int i =>
  obtain ⟨t,rfl⟩:=rx
  cases y with
  | non=>cases ry; exact PySem.EqNone.eq_int_none (QaZ I q (by simp))
  | int j=>obtain ⟨t',rfl⟩:=ry; exact eq_int (QaZ I q QmC)
  | str j=>obtain ⟨t',rfl⟩:=ry; exact PySem.EqMixed.eq_int_str (QaZ I q (by simp))
  | _=>exact absurd (show false=true from hs) zj
 | str i =>
  obtain ⟨t,rfl⟩:=rx
  cases y with
  | non=>cases ry; exact PySem.EqNone.eq_str_none (QaZ I q (by simp))
  | bl j=>cases ry; exact PySem.EqMixed.eq_str_bool (QaZ I q (by simp))
  | int j=>obtain ⟨t',rfl⟩:=ry; exact PySem.EqMixed.eq_str_int (QaZ I q (by simp))
  | str j=>obtain ⟨t',rfl⟩:=ry; exact eq_str (QaZ I q Qmg)
  | _=>exact absurd (show false=true from hs) zj
 | byt i =>
  obtain ⟨t,rfl⟩:=rx
  cases y with
  | byt j=>obtain ⟨t',rfl⟩:=ry; exact PySem.W.eq_bytes (QaZ I q Ql8)
  | _=>exact absurd (show false=true from hs) zj
 | _=>cases y <;> exact absurd (show false=true from hs) zj
theorem Qno:OpR X (compareOp .NotEq) rNe:=by
 intro pins s σ H x y v u Q I rx ry h;obtain ⟨hs,q⟩:=h
 cases x with
 | non =>
  cases rx
  cases y with
  | non=>cases ry; exact PySem.EqNone.ne_none_none (QaZ I q (by simp))
  | bl j=>cases ry; exact PySem.EqNone.ne_none_bool (QaZ I q (by simp))
  | int j=>obtain ⟨t',rfl⟩:=ry; exact PySem.EqNone.ne_none_int (QaZ I q (by simp))
  | str j=>obtain ⟨t',rfl⟩:=ry; exact PySem.EqNone.ne_none_str (QaZ I q (by simp))
  | _=>exact absurd (show false=true from hs) zj
 | bl i =>
  cases rx
  cases y with
  | non=>cases ry; exact PySem.EqNone.ne_bool_none (QaZ I q (by simp))
  | bl j=>cases ry; exact ne_bool (QaZ I q (congrArg not QnU))
  | str j=>obtain ⟨t',rfl⟩:=ry; exact PySem.EqMixed.ne_bool_str (QaZ I q (by simp))
  | _=>exact absurd (show false=true from hs) zj
 | int i =>
  obtain ⟨t,rfl⟩:=rx
  cases y with
  | non=>cases ry; exact PySem.EqNone.ne_int_none (QaZ I q (by simp))
  | int j=>obtain ⟨t',rfl⟩:=ry; exact ne_int (QaZ I q (congrArg not QmC))
  | str j=>obtain ⟨t',rfl⟩:=ry; exact PySem.EqMixed.ne_int_str (QaZ I q (by simp))
  | _=>exact absurd (show false=true from hs) zj
 | str i =>
  obtain ⟨t,rfl⟩:=rx
  cases y with
  | non=>cases ry; exact PySem.EqNone.ne_str_none (QaZ I q (by simp))
  | bl j=>cases ry; exact PySem.EqMixed.ne_str_bool (QaZ I q (by simp))
  | int j=>obtain ⟨t',rfl⟩:=ry; exact PySem.EqMixed.ne_str_int (QaZ I q (by simp))
  | str j=>obtain ⟨t',rfl⟩:=ry; exact ne_str (QaZ I q (congrArg not Qmg))
  | _=>exact absurd (show false=true from hs) zj
 | byt i =>
  obtain ⟨t,rfl⟩:=rx
  cases y with
  | byt j=>obtain ⟨t',rfl⟩:=ry; exact PySem.W.ne_bytes (QaZ I q (congrArg not Ql8))
  | _=>exact absurd (show false=true from hs) zj
 | _=>cases y <;> exact absurd (show false=true from hs) zj
theorem Qt7:OpR X (compareOp .LtE) (rI0 fun i j=>.bl (decide (i≤j))):=Qtk fun _ _ _ _ _ _ _ q=>le_int q
theorem QtT:OpR X (compareOp .Gt) (rI0 fun i j=>.bl (decide (j < i))):=Qtk fun _ _ _ _ _ _ _ q=>gt_int q
theorem QnT:OpR X (compareOp .In) (fun x y H Q=>∃i j,x = .str i∧y = .str j∧Q (.bl (!(Builtin.Str.occurrences j i 0 j.length 1).isEmpty)) H):=by
 intro pins s σ H x y v u Q I rx ry h;obtain ⟨i,j,rfl,rfl,q⟩:=h;obtain ⟨t,rfl⟩:=rx;obtain ⟨t',rfl⟩:=ry;exact in_str (QaZ I q rfl)
theorem QaM (b:Expr) {op:CmpOp} (h:op≠.In:=by decide) (h2:op≠.NotIn:=by decide):behindInMarks op b=false:=by
 have e1:(op == CmpOp.In)=false:=by cases op <;> first | rfl | exact absurd rfl h
 have e2:(op == CmpOp.NotIn)=false:=by cases op <;> first | rfl | exact absurd rfl h2
 cases b <;> simp [behindInMarks,e1,e2]
theorem Ql4 {op:CmpOp}{r:R2} (ho:OpR X (compareOp op) r) (ha:PE X a ta) (hb:PE X b tb) (hm:behindInMarks op b=false):PE X (.Compare a [op] [b] pos) (tOp r ta tb):=by
 intro pins s σ H Q I h;exact wpAny_Compare1 (Qpw ha hb I h fun v u s2 x y H2 I2 rx ry q=>ho pins s2 σ H2 x y v u Q I2 rx ry q) hm
def Qnw (t:TE):TT:=fun σ H Q=>t σ H fun x H'=>∃k,x = .bl k∧Q k H'
theorem QqN {op:CmpOp}{r:R2} (ho:OpR X (compareOp op) r) (ha:PE X a ta) (hb:PE X b tb) (hm:behindInMarks op b=false):PT X (.Compare a [op] [b] pos) (Qnw (tOp r ta tb)):=by
 intro pins s σ H Q I h
 refine wpAny_isTrue_Compare1 (thn (ha pins s σ H _ I h) fun v s1 ⟨x,H1,I1,r1,q1⟩=>thn (hb pins s1 σ H1 _ I1 q1) fun u s2 ⟨y,H2,I2,r2,q2⟩ =>
  thn (ho pins s2 σ H2 x y v u _ I2 r1 r2 q2) fun c s3 ⟨z,H3,I3,r3,k,e,q3⟩=>?_) hm
 subst e;cases r3;exact wpAny_truthy_bool ⟨H3,I3,q3⟩
def Qou (r r':R2) (ta tb tc:TE):TE:=fun σ H Q=>ta σ H fun x H1=>tb σ H1 fun y H2=>r x y H2 fun z H3=>∃k,z = .bl k ∧
 (if k=true then tc σ H3 fun w' H4=>r' y w' H4 Q else Q (.bl false) H3)
theorem Qpe {op op':CmpOp}{r r':R2} (ho:OpR X (compareOp op) r) (ho':OpR X (compareOp op') r') (ha:PE X a ta) (hb:PE X b tb) (hc:PE X c tc)
  (hm:lastMarks [op,op'] [b,c]=false:=by with_unfolding_all rfl):PE X (.Compare a [op,op'] [b,c] pos) (Qou r r' ta tb tc):=by
 intro pins s σ H Q I h
 refine Compare_chain (thn (ha pins s σ H _ I h) fun v s1 ⟨x,H1,I1,r1,q1⟩=>chain_link (thn (hb pins s1 σ H1 _ I1 q1) fun u s2 ⟨y,H2,I2,r2,q2⟩ =>
  thn (ho pins s2 σ H2 x y v u _ I2 r1 r2 q2) fun d s3 ⟨z,H3,I3,r3,k,e,q3⟩=>?_)) hm
 subst e;cases r3;refine wpAny_truthy_bool ?_
 cases k with
 | false=>exact ite_ff ⟨.bl false,H3,I3,rfl,q3⟩
 | true=>exact ite_tt (chain_last (thn (hc pins s3 σ H3 _ I3 q3) fun w' s4 ⟨z',H4,I4,r4,q4⟩=>ho' pins s4 σ H4 y z' u w' Q I4 r2 r4 q4))
def Qpl (K:PySem.W.Frag) (x:V) (H:Hp) (k:Bool):Prop :=
 match x with
 | .non=>k=false
 | .bl b=>k=b
 | .int i=>k=(i != 0)
 | .str y=>y.length≤sizeLine∧k=((y.length:Int) != 0)
 | .byt y=>y.size≤sizeLine∧k=((y.size:Int) != 0)
 | .ref p=>(∃xs,SqL K H p xs∧k = !xs.isEmpty)∨(∃xs,SqT K H p xs∧k = !xs.isEmpty)∨∃kvs,H p=some (.dK kvs)∧k = !kvs.isEmpty
 | _=>False
theorem Qm8 {κ:Type}{kvs:List (κ×V)}{vs:List (κ×Value)} (r:KV kvs vs):(!vs.isEmpty) = !kvs.isEmpty:=by
 cases r <;> rfl
theorem Qji {xs:List V}{its:List Value} (r:Qar xs its):(!its.toArray.isEmpty) = !xs.isEmpty:=by
 cases r <;> simp
theorem QhA:(sizeLine:Nat) < 2 ^ 63:=by rw [sizeLine_eq]; decide
theorem QsL:QuS X (fun x H Q=>∃k,Qpl X.K x H k∧Q k H):=by
 intro pins s σ H x v Q I rx h;obtain ⟨k,e,q⟩:=h;have hl:=QhA;have hs:sizeLine=16777216:=sizeLine_eq
 cases x with
 | non =>
  cases rx;have e':k=false:=e;subst e';exact truthy_none ⟨H,I,q⟩
 | bl b =>
  cases rx;have e':k=b:=e;subst e';exact wpAny_truthy_bool ⟨H,I,q⟩
 | int i =>
  obtain ⟨t,rfl⟩:=rx;have e':k=(i != 0):=e;subst e';exact PySem.P.truthy_int ⟨H,I,q⟩
 | str y =>
  obtain ⟨t,rfl⟩:=rx;obtain ⟨hy,e'⟩:y.length≤sizeLine∧k=((y.length:Int) != 0):=e;subst e';exact PySem.P.truthy_str (by omega) ⟨H,I.tok _,q⟩
 | byt y =>
  obtain ⟨t,rfl⟩:=rx;obtain ⟨hy,e'⟩:y.size≤sizeLine∧k=((y.size:Int) != 0):=e;subst e';exact PySem.W.truthy_bytes (by omega) ⟨H,I.tok _,q⟩
 | ref p =>
  cases rx;have e':(∃xs,SqL X.K H p xs∧k = !xs.isEmpty)∨(∃xs,SqT X.K H p xs∧k = !xs.isEmpty)∨∃kvs,H p=some (.dK kvs)∧k = !kvs.isEmpty:=e
  rcases e' with ⟨xs,hx,e'⟩ | ⟨xs,hx,e'⟩ | ⟨kvs,hx,e'⟩
  ·subst e';obtain ⟨its,r,pl,hz⟩:=I.list hx;have hlen:=r.length;exact wpAny_truthy_list pl.isList (by simp only [zl]; omega) ⟨H,I.tok _,by rw [Qji r]; exact q⟩
  ·subst e';obtain ⟨its,r,pl,hz⟩:=I.tuple hx;have hlen:=r.length;exact truthy_tuple pl (by simp only [zl]; omega) ⟨H,I.tok _,by rw [Qji r]; exact q⟩
  ·subst e';obtain ⟨hz,hS,vs,r,m⟩:kvs.length≤sizeLine∧(p == sysModules)=false∧∃vs,KV kvs vs∧s.heap.DictOf (QjQ X.prog X.w) p vs:=I.hok p _ hx;have hlen:kvs.length=vs.length:=Paired.length r;exact wpAny_truthy_dict hS m (by omega) ⟨H,I.tok _,by rw [Qm8 r]; exact q⟩
 | _=>exact (show False from e).elim
theorem Qpo (ha:PE X a ta) (he:∀whole,isTrue a X.env whole=(do let v ←whole; standAt a.pos; holding [v] (truthy v))) :
  PT X a (fun σ H Q=>ta σ H fun x H'=>∃k,Qpl X.K x H' k∧Q k H'):=by
 intro pins s σ H Q I h;exact isTrue_plain (thn (ha pins s σ H _ I h) fun v s1 ⟨x,H1,I1,r1,q1⟩=>QsL pins s1 σ H1 x v Q I1 r1 q1) (he _)
theorem QmT:OpR X (binaryOp .Add) (fun x y H Q=>∃i j,x = .str i∧y = .str j∧i.length+j.length≤sizeLine∧Q (.str (i++j)) H):=by
 intro pins s σ H x y v u Q I rx ry h;obtain ⟨i,j,rfl,rfl,hz,q⟩:=h;obtain ⟨t,rfl⟩:=rx;obtain ⟨t',rfl⟩:=ry;exact add_str (fun t' tk=>⟨.str (i++j),H,I.tok _,⟨_,rfl⟩,q⟩) hz
theorem vals1 {x:V}{us:List Value} (r:Qar [x] us):∃u,us = [u]∧RelV x u:=by
 cases r with
 | cons r1 r2=>cases r2; exact ⟨_,rfl,r1⟩
theorem vals2 {x y:V}{us:List Value} (r:Qar [x,y] us):∃u w',us = [u,w']∧RelV x u∧RelV y w':=by
 cases r with
 | cons r1 r2 =>
  cases r2 with
  | cons r3 r4=>cases r4; exact ⟨_,_,rfl,r1,r3⟩
def Qu4 (K:PySem.W.Frag) (x:V) (H:Hp) (n:Nat):Prop :=
 match x with
 | .str y=>y.length≤sizeLine∧n=y.length
 | .byt y=>y.size≤sizeLine∧n=y.size
 | .ref p=>(∃xs,SqL K H p xs∧n=xs.length)∨∃xs,SqT K H p xs∧n=xs.length
 | _=>False
theorem call_len:Qio X (.builtin "len") (fun xs H Q=>∃x n,xs = [x]∧Qu4 X.K x H n∧Q (.int n) H):=by
 intro pins s σ H xs us Q I r h;obtain ⟨x,n,rfl,e,q⟩:=h;obtain ⟨u,rfl,rx⟩:=vals1 r;have hl:=QhA;have hs:sizeLine=16777216:=sizeLine_eq
 cases x with
 | str y =>
  obtain ⟨t,rfl⟩:=rx;obtain ⟨hy,e'⟩:y.length≤sizeLine∧n=y.length:=e;subst e';exact len_str (by omega) ⟨.int _,H,I.tok _,⟨_,rfl⟩,q⟩
 | byt y =>
  obtain ⟨t,rfl⟩:=rx;obtain ⟨hy,e'⟩:y.size≤sizeLine∧n=y.size:=e;subst e';exact PySem.W.len_bytes (by omega) ⟨.int _,H,I.tok _,⟨_,rfl⟩,q⟩
 | ref p =>
  cases rx;have e':(∃xs,SqL X.K H p xs∧n=xs.length)∨∃xs,SqT X.K H p xs∧n=xs.length:=e
  rcases e' with ⟨xs,hx,e'⟩ | ⟨xs,hx,e'⟩
  ·subst e';obtain ⟨its,r',pl,hz⟩:=I.list hx;have hlen:=r'.length;exact Calls.call_len_list pl.isList (by simp only [zl]; omega) ⟨.int xs.length,H,I.tok _,⟨_,by simp only [zl]; rw [hlen]⟩,q⟩
  ·subst e';obtain ⟨its,r',pl,hz⟩:=I.tuple hx;have hlen:=r'.length;exact len_tuple pl (by simp only [zl]; omega) ⟨.int xs.length,H,I.tok _,⟨_,by simp only [zl]; rw [hlen]⟩,q⟩
 | _=>exact (show False from e).elim
end
structure QiT (h:Heap) (x dx C:Addr) (mA:Str→Option Value):Prop where
 obj:h.get? x=some (PySem.W.instObj C dx)
 ns:h.Ns1 dx mA
 ne:dx≠x
theorem Qow {h:Heap}{dx:Addr}{mA:Str→Option Value} (n:h.Ns1 dx mA):∃od,h.get? dx=some od∧∀name,PySem.W.lookIn name od=some (mA name):=by
 obtain ⟨o,es,ep,ho,hd,hk,_,hm⟩:=n;refine ⟨o,ho,fun name=>?_⟩;have e:=hm name;unfold nsFind findBy at e;rw [←Array.find?_toList] at e;unfold PySem.W.lookIn;rw [hd];dsimp only
 split
 ·rename_i y q;rw [q] at e;exact congrArg some e
 ·rename_i q;rw [q] at e
  have a:es.toList.any (·.refKey)=false:=by
   rw [List.any_eq_false];intro y hy;obtain ⟨z,t,hkey⟩:=hk y (Array.mem_toList_iff.mp hy);simp [DictEntry.refKey,hkey]
  have a':¬es.toList.any (·.refKey)=true:=by rw [a]; exact zj
  rw [if_neg a'];exact congrArg some e
theorem QiT.look {h:Heap}{x dx C:Addr}{mA:Str→Option Value} (I:QiT h x dx C mA):∃od,PySem.W.InstAt h x (PySem.W.instObj C dx) C (some od)∧∀name,PySem.W.lookIn name od=some (mA name) :=
 let ⟨od,ho,hl⟩:=Qow I.ns
 ⟨od,⟨I.obj,rfl,rfl,ho⟩,hl⟩
section
variable {prog:Program}{w:World}{A:Around}{E:Value→Shared→Prop}{s:Shared}{K:PySem.W.Frag}{x dx C f:Addr}{mA:Str→Option Value}{name:Str}{v:Value}
theorem Qrl {expr:Bool}{Q:Value→Shared→Prop} (X:K.In s.heap) (I:QiT s.heap x dx C mA) (hg:PySem.W.plainGet K C name=true) (hh:PySem.W.hasDictIn K C=true)
  (ha:PySem.W.findIn K (.ref C) name=some none) (hv:mA name=some v) (hv':PySem.W.handedIn v=true) (h:Q v { s with toks:=s.toks+1 }) :
  wpAny (model prog w) A (getAttr (.ref x) name expr) Q E s:=by
 obtain ⟨od,J,hl⟩:=I.look;exact PySem.W.get_value X J (PySem.W.plainGet_of hg).1 (PySem.W.findObj_own hh ha rfl (by rw [hl,hv])) hv' h
theorem Qpm {pl:Sem Bool}{Q:Value×List Value→Shared→Prop} (X:K.In s.heap) (I:QiT s.heap x dx C mA) (hg:PySem.W.plainGet K C name=true)
  (hf:PySem.W.findIn K (.ref C) name=some (some (.ref f))) (ht:PySem.W.isFn K (.ref f)=true) (hv:mA name=none) (h:Q (.ref f,[.ref x]) s) :
  wpAny (model prog w) A (getMethod (.ref x) name pl) Q E s:=by
 obtain ⟨od,J,hl⟩:=I.look;exact PySem.W.method_fn X J (PySem.W.plainGet_of hg).1 (PySem.W.plainGet_of hg).2 hf (beq_iff_eq.mp ht) (by show (PySem.W.lookIn name od).map (·.isSome)=some false; rw [hl,hv]; rfl) h
theorem Qqn {ns:List Str}{Q:Unit→Shared→Prop} (X:K.In s.heap) (I:QiT s.heap x dx C mA)
  (hs:PySem.W.findIn K (.ref C) "__setattr__" = some (some (.builtin "object.__setattr__"))) (hp:PySem.W.plainOver K C=true) (ht:PySem.W.takerIn K C name=some none) (hh:PySem.W.hasDictIn K C=true)
  (hw:PySem.Within mA ns) (hsz:ns.length≤sizeLine)
  (h:∀h',QiT h' x dx C (fun y=>if y=name then some v else mA y)→Heap.SameBut dx s.heap h'→Q () { s with heap:=h',toks:=s.toks+2 }) :
  wpAny (model prog w) A (setAttr (.ref x) name v) Q E s:=by
 obtain ⟨od,J,hl⟩:=I.look;refine PySem.W.set_plain X J hs (PySem.W.osa_open (s:={ s with toks:=s.toks+1 }) (r:=none) X J hp ht fun b=>?_);obtain ⟨cd,hc,hd'⟩:=PySem.W.any_some hh;have hx:s.heap.get? x=some ⟨.ref C,some dx,.plain,#[]⟩:=I.obj;refine za (zb (za (za (wpAny_loadPart hx (za (PySem.W.Looks.here (s:={ s with toks:=s.toks+1 }) (PySem.W.looks_clsIn X hc) ?_))))));rw [hd'];refine zb (a:=some dx) (za (zb (za ?_)))
 refine wpAny_nsSet1 (s:={ s with toks:=s.toks+1 }) I.ns fun h' hn2 hs2=>?_
 obtain ⟨oD,esD,epD,hoD,hdD,hcD⟩:=hn2.count (PySem.Within.cons name v hw);refine za (wpAny_lookBehind hoD (by rw [hdD]; exact pastItsLine_dict (zz hcD (by rw [zk]; omega))) ?_);exact zb (h _ ⟨(hs2.2 _ (Ne.symm I.ne)).trans I.obj,hn2,I.ne⟩ hs2)
theorem Qo7 {R:Result→Shared→Prop}{vs:List Value}{kw:List (Str×Value)} (X:K.In s.heap) (hm:PySem.W.makesIn K C=true)
  (hi:PySem.W.findIn K (.ref C) "__init__" = some (some (.ref f))) (hf:PySem.W.typeIn K (.ref f)=some (.type "function"))
  (h:codeAny (model prog w) (A.under (.builtin "type.__call__" ⟨.ref C::vs,kw⟩)) (.call (.ref f) ⟨.ref (s.heap.objs.size+1)::vs,kw⟩) (PySem.W.InitBack (s.heap.objs.size+1) R)
   { s with heap:=(s.heap.push PySem.W.emptyDict).push (PySem.W.instObj C s.heap.objs.size) }) :
  codeAny (model prog w) A (.call (.ref C) ⟨vs,kw⟩) R s:=by
 obtain ⟨hh,g,d,t,os⟩:=s;exact PySem.W.make_core (PySem.W.makes_of X hm) (PySem.W.looks_findIn X hi) (fun self=>PySem.W.bind_fn X self hf) (.inl rfl) h
end
def QcU (f:Str) (v:V):List (Str×V)→List (Str×V)
 | []=>[(f,v)]
 | (g,x)::r=>if g=f then (g,v)::r else (g,x)::QcU f v r
theorem Qiz (f g:Str) (v:V):∀fs:List (Str×V),(QcU f v fs).lookup g=if g=f then some v else fs.lookup g
 | []=>by
  show List.lookup g [(f,v)]=_
  by_cases h:g=f
  ·have hb:(g == f)=true:=beq_iff_eq.mpr h;simp only [List.lookup,hb,if_pos h]
  ·have hb:(g == f)=false:=beq_eq_false_iff_ne.mpr h;simp only [List.lookup,hb,if_neg h]
 | (k,x)::r=>by
  have ih:=Qiz f g v r;rw [show QcU f v ((k,x)::r)=(if k=f then (k,v)::r else (k,x)::QcU f v r) from rfl]
  by_cases hk:k=f
  ·rw [if_pos hk]
   by_cases h:g=k
   ·have hb:(g == k)=true:=beq_iff_eq.mpr h;simp only [List.lookup,hb,if_pos (h.trans hk)]
   ·have hb:(g == k)=false:=beq_eq_false_iff_ne.mpr h;simp only [List.lookup,hb,if_neg (fun e:g=f=>h (e.trans hk.symm))]
  ·rw [if_neg hk]
   by_cases h:g=k
   ·have hb:(g == k)=true:=beq_iff_eq.mpr h;simp only [List.lookup,hb,if_neg (fun e:g=f=>hk (h.symm.trans e))]
   ·have hb:(g == k)=false:=beq_eq_false_iff_ne.mpr h;simp only [List.lookup,hb];exact ih
theorem QhL (f:Str) (v:V):∀fs:List (Str×V),f∈(QcU f v fs).map (·.1)∧∀g,g∈fs.map (·.1)→g∈(QcU f v fs).map (·.1)
 | []=>⟨by simp [QcU],fun g h=>by simp at h⟩
 | (k,x)::r=>by
  obtain ⟨i1,i2⟩:=QhL f v r;rw [show QcU f v ((k,x)::r)=(if k=f then (k,v)::r else (k,x)::QcU f v r) from rfl]
  by_cases hk:k=f
  ·rw [if_pos hk];subst hk;exact ⟨by simp,fun g h=>by simpa using h⟩
  ·rw [if_neg hk];refine ⟨?_,fun g h=>?_⟩
   ·rw [zd];exact zm _ i1
   ·rw [zd] at h ⊢
    rcases zn.mp h with e | e
    ·exact zn.mpr (.inl e)
    ·exact zm _ (i2 g e)
theorem Qiu (f:Str) (v:V):∀fs:List (Str×V),(QcU f v fs).length≤fs.length+1
 | []=>by simp [QcU]
 | (k,x)::r=>by
  have ih:=Qiu f v r;rw [show QcU f v ((k,x)::r)=(if k=f then (k,v)::r else (k,x)::QcU f v r) from rfl]
  by_cases hk:k=f
  ·rw [if_pos hk,zk,zk]; omega
  ·rw [if_neg hk,zk,zk]; omega
theorem Qdf.some_of {v:V}{o:Option Value} (r:Qdf (some v) o):∃u,o=some u∧RelV v u:=by
 cases o with
 | none=>exact (show False from r).elim
 | some u=>exact ⟨u,rfl,r⟩
theorem Qdf.none_of {o:Option Value} (r:Qdf none o):o=none:=by
 cases o with
 | none=>rfl
 | some u=>exact (show False from r).elim
theorem QnF {v:V}{u:Value} (r:RelV v u):PySem.W.handedIn u=true:=by
 cases v with
 | non=>cases (show u=Value.none from r); rfl
 | bl b=>cases (show u=Value.bool b from r); rfl
 | int i=>obtain ⟨t,e⟩:=(show ∃t,u=Value.int i t from r); cases e; rfl
 | str x=>obtain ⟨t,e⟩:=(show ∃t,u=Value.str x t from r); cases e; rfl
 | byt b=>obtain ⟨t,e⟩:=(show ∃t,u=Value.bytes b t from r); cases e; rfl
 | flt b=>obtain ⟨t,e⟩:=(show ∃t,u=Value.float b t from r); cases e; rfl
 | ref a=>cases (show u=Value.ref a from r); rfl
 | ty n=>cases (show u=Value.type n from r); rfl
section
variable {P:Program}{w:World}{H H':Hp}{h h':Heap}{a C dx:Addr}{fs fs':List (Str×V)}
theorem Qh5 (hok:HOk P w H h) (e:H a=some (.ins C dx fs)):∃mA,QiT h a dx C mA∧(∀f,Qdf (fs.lookup f) (mA f))∧PySem.Within mA (fs.map (·.1))∧fs.length≤1000∧H dx=some (.own a):=by
 obtain ⟨d,z,ne,ob,mA,n,r,q⟩:=(show Qbx P w H h a (.ins C dx fs) from hok a _ e);exact ⟨mA,⟨ob,n,ne⟩,r,q,z,d⟩
end
structure Cls (K:PySem.W.Frag) (C:Addr):Prop where
 pg:PySem.W.plainGet K C Str.empty=true
 hd:PySem.W.hasDictIn K C=true
 po:PySem.W.plainOver K C=true
 sa:PySem.W.findIn K (.ref C) "__setattr__" = some (some (.builtin "object.__setattr__"))
theorem Cls.get {K:PySem.W.Frag}{C:Addr} (c:Cls K C) (f:Str):PySem.W.plainGet K C f=true:=c.pg
def QfE (K:PySem.W.Frag) (C:Addr) (f:Str):Prop:=PySem.W.findIn K (.ref C) f=some none
theorem QfE.taker {K:PySem.W.Frag}{C:Addr}{f:Str} (n:QfE K C f):PySem.W.takerIn K C f=some none:=by
 unfold PySem.W.takerIn;rw [show PySem.W.findIn K (.ref C) f=some none from n];rfl
structure Con (K:PySem.W.Frag) (C:Addr) (f:Str) (v:V) (u:Value):Prop where
 at_:PySem.W.findIn K (.ref C) f=some (some u)
 rel:RelV v u
 get:PySem.W.specialIn K u "__get__" = some none
 cp:PySem.W.copiedNames.contains f=false
structure QiI (K:PySem.W.Frag) (C:Addr) (m:Str) (f:Addr):Prop where
 at_:PySem.W.findIn K (.ref C) m=some (some (.ref f))
 fn:PySem.W.isFn K (.ref f)=true
 kp:PySem.W.keepIn K (.ref f)=true
section
variable {X:Cx}{pins:List (Addr×Obj)}{σ:St}{H:Hp}{s:Shared}{a C dx:Addr}{fs:List (Str×V)}{f:Str}{v:V}{A:Around}{E:Value→Shared→Prop}
theorem Qne {b:Bool}{Q:Value→Shared→Prop} (I:Inv X pins σ H s) (e:H a=some (.ins C dx fs)) (c:Cls X.K C) (n:QfE X.K C f) (l:fs.lookup f=some v)
  (h:∀u s',Inv X pins σ H s'→RelV v u→Q u s'):wpAny (model X.prog X.w) A (getAttr (.ref a) f b) Q E s:=by
 obtain ⟨mA,O,r,_,_,_⟩:=Qh5 I.hok e;obtain ⟨u,hu,ru⟩:=Qdf.some_of (v:=v) (o:=mA f) (by rw [←l]; exact r f);exact Qrl I.kIn O (c.get f) c.hd n hu (QnF ru) (h u _ (I.tok _) ru)
theorem Qi0 {m:Str}{g:Addr}{pl:Sem Bool}{Q:Value×List Value→Shared→Prop} (I:Inv X pins σ H s) (e:H a=some (.ins C dx fs)) (c:Cls X.K C) (k:QiI X.K C m g) (l:fs.lookup m=none)
  (h:Q (.ref g,[.ref a]) s):wpAny (model X.prog X.w) A (getMethod (.ref a) m pl) Q E s:=by
 obtain ⟨mA,O,r,_,_,_⟩:=Qh5 I.hok e;have hn:mA m=none:=Qdf.none_of (by rw [←l]; exact r m);exact Qpm I.kIn O (c.get m) k.at_ k.fn hn h
theorem QmY {y:V}{u:Value}{Q:Unit→Shared→Prop} (I:Inv X pins σ H s) (e:H a=some (.ins C dx fs)) (c:Cls X.K C) (n:QfE X.K C f) (hl:fs.length < 1000) (ry:RelV y u)
  (h:∀s',Inv X pins σ (upd H a (.ins C dx (QcU f y fs))) s'→Q () s'):wpAny (model X.prog X.w) A (setAttr (.ref a) f u) Q E s:=by
 obtain ⟨mA,O,r,wi,_,ho⟩:=Qh5 I.hok e
 have hz:(fs.map (·.1)).length≤sizeLine:=by rw [zB,sizeLine_eq]; omega
 refine Qqn I.kIn O c.sa c.po n.taker c.hd wi hz fun h' O' sb=>h _ ?_
 have hd:∃o,h'.get? dx=some o:=let ⟨o,_,_,e',_⟩:=O'.ns; ⟨o,e'⟩;refine I.write (x:=a) (e:=dx) (by rw [e]; exact True.intro) (.inr ho) (fun b q hb z=>(sb.2 b hb).trans z) hd ?_;refine ⟨by rw [Qal O.ne]; exact ho,?_,O.ne,O'.obj,_,O'.ns,fun g=>?_,fun g hg=>?_⟩
 ·have:=Qiu f y fs; omega
 ·show Qdf ((QcU f y fs).lookup g) (if g=f then some u else mA g);rw [Qiz]
  by_cases q:g=f
  ·rw [if_pos q,if_pos q]; exact ry
  ·rw [if_neg q,if_neg q]; exact r g
 ·by_cases q:g=f
  ·rw [q]; exact (QhL f y fs).1
  ·refine (QhL f y fs).2 g (wi g fun z=>hg ?_);show (if g=f then some u else mA g)=none;rw [if_neg q]; exact z
theorem Inv.made (I:Inv X pins σ H s):Inv X pins σ (upd (upd H s.heap.objs.size (.own (s.heap.objs.size+1))) (s.heap.objs.size+1) (.ins C s.heap.objs.size []))
  { s with heap:=(s.heap.push PySem.W.emptyDict).push (PySem.W.instObj C s.heap.objs.size) }:=by
 have e1:(s.heap.push PySem.W.emptyDict).get? s.heap.objs.size=some PySem.W.emptyDict:=zC s.heap rfl
 have e2:((s.heap.push PySem.W.emptyDict).push (PySem.W.instObj C s.heap.objs.size)).get? (s.heap.objs.size+1)=some (PySem.W.instObj C s.heap.objs.size):=by
  have:=zC (s.heap.push PySem.W.emptyDict) (o:=PySem.W.instObj C s.heap.objs.size) rfl
  rwa [Heap.size_push] at this
 have e3:(s.heap.push PySem.W.emptyDict).Ns s.heap.objs.size (fun _=>none):=⟨PySem.W.emptyDict,#[],_,e1,rfl,(fun e he=>absurd he (by simp)),fun _=>rfl⟩;have I1:=I.laid (a:=s.heap.objs.size) (o:=.own (s.heap.objs.size+1)) (h':=s.heap.push PySem.W.emptyDict) (t':=s.toks) (fun b u q=>zq _ q) (zc _) ⟨_,e1⟩;refine I1.laid (a:=s.heap.objs.size+1) (o:=.ins C s.heap.objs.size []) (t':=s.toks) (fun b u q=>zq _ q) (Nat.le_of_eq (Heap.size_push _ _)) ?_;have ne:s.heap.objs.size≠s.heap.objs.size+1:=zp (je _);refine ⟨by rw [Qal ne,QaL],Nat.zero_le _,ne,e2,fun _=>none,(Heap.Ns1.of_empty e3).at fun o q=>zq _ q,fun _=>True.intro,fun y hy=>absurd rfl hy⟩
theorem Qqq {prog:Program}{w:World}{env:Env}{e:Expr}{f:Str}{pos:Pos}{s:Shared}{Q:Value→Shared→Prop} (hb:attributeBase e f env (eval e env)=eval e env)
  (h:wpAny (model prog w) A (eval e env) (fun o s₁=>wpAny (model prog w) A (getAttr o f true) Q E s₁) E s):wpAny (model prog w) A (eval (.Attribute e f pos) env) Q E s :=
 Attribute_any_ h (by rw [arm_eval_Attribute,hb])
end
def Qu1 (K:PySem.W.Frag) (ta:TE) (f:Str):TE:=fun σ H Q=>ta σ H fun x H1=>∃a C dx fs v,x = .ref a∧H1 a=some (.ins C dx fs)∧Cls K C∧QfE K C f∧fs.lookup f=some v∧Q v H1
def Qva (K:PySem.W.Frag) (ta tv:TE) (f:Str):TS:=fun D σ H=>tv σ H fun y H1=>ta σ H1 fun x H2=>∃a C dx fs,x = .ref a∧H2 a=some (.ins C dx fs)∧Cls K C∧QfE K C f∧fs.length < 1000 ∧
 D.nx σ (upd H2 a (.ins C dx (QcU f y fs)))
section
variable {X:Cx}{o e value:Expr}{f:Str}{pos pos' tpos:Pos}{ta tv:TE}
theorem Qsy (he:PE X e ta) (hb:attributeBase e f X.env (eval e X.env)=eval e X.env):PE X (.Attribute e f pos) (Qu1 X.K ta f):=by
 intro pins s σ H Q I h;refine Qqq hb (thn (he pins s σ H _ I h) fun u s1 ⟨x,H1,I1,rx,a,C,dx,fs,v,ex,ea,c,n,l,q⟩=>?_);subst ex;obtain rfl:u=Value.ref a:=rx
 exact Qne I1 ea c n l fun u' s2 I2 ru=>⟨v,H1,I2,ru,q⟩
theorem QrU (ha:PE X o ta) (hv:PE X value tv) (hs:swapsWith value (some (.Attribute o f pos')) pos.line X.env=pure false):PS X (.Assign [.Attribute o f pos'] value pos) (Qva X.K ta tv f):=by
 intro pins s σ H D I h;refine plainObj_wpAny_Assign_Attribute (thn (hv pins s σ H _ I h) fun u s1 ⟨y,H1,I1,ry,q⟩=>thn (ha pins s1 σ H1 _ I1 q) fun ov s2 ⟨x,H2,I2,rx,a,C,dx,fs,ex,ea,c,n,l,q2⟩=>?_) hs;subst ex;obtain rfl:ov=Value.ref a:=rx
 exact QmY I2 ea c n l ry fun s3 I3=>⟨σ,_,I3,q2⟩
end
section
variable {X:Cx}{pins:List (Addr×Obj)}{σ:St}{H:Hp}{s:Shared}{A:Around}{E:Value→Shared→Prop}{Q:Value→Shared→Prop}{c:Value}{b:Bool}
inductive Qe1 (K:PySem.W.Frag) (H:Hp):V→Value→Prop where
 | non:Qe1 K H .non (.type "NoneType")
 | bl (x:Bool):Qe1 K H (.bl x) (.type "bool")
 | int (i:Int):Qe1 K H (.int i) (.type "int")
 | str (x:Str):Qe1 K H (.str x) (.type "str")
 | flt (x:UInt64):Qe1 K H (.flt x) (.type "float")
 | lst {a:Addr}{xs:List V} (e:H a=some (.lst xs)):Qe1 K H (.ref a) (.type "list")
 | frz {a:Addr}{o:Obj}{xs:List V} (e:H a=some (.frz o (.lst xs))):Qe1 K H (.ref a) (.type "list")
 | tup {a:Addr}{xs:List V} (e:H a=some (.tup xs)):Qe1 K H (.ref a) (.type "tuple")
 | dK {a:Addr}{kvs:List (Key×V)} (e:H a=some (.dK kvs)):Qe1 K H (.ref a) (.type "dict")
 | dT {a:Addr}{kvs:List (List Key×V)} (e:H a=some (.dT kvs)):Qe1 K H (.ref a) (.type "dict")
 | ins {a C dx:Addr}{fs:List (Str×V)} (e:H a=some (.ins C dx fs)) (cl:Cls K C) (ha:PySem.W.findIn K (.ref C) "__class__" = some (some (.builtin "object.__class__")))
   (hn:PySem.W.specialIn K (.builtin "object.__class__") "__get__" = some (some (.builtin "getset_descriptor.__get__"))) (htk:PySem.W.takesIn K (.builtin "object.__class__")=some true)
   (hm:PySem.W.mroIn K C (.type "object")=some true):Qe1 K H (.ref a) (.ref C)
theorem QeT {x:V}{u t:Value} (I:Inv X pins σ H s) (rx:RelV x u) (ty:Qe1 X.K H x t) (e:PySem.W.kitOne X.K t c=some b) (h:∀tk,Q (.bool b) { s with toks:=tk }) :
  wpAny (model X.prog X.w) A (call (.builtin "isinstance") [u,c]) Q E s:=by
 cases ty with
 | non=>cases (show u=Value.none from rx); exact PySem.W.kia_one PySem.W.kitx_none I.kIn True.intro e (fun z=>nomatch z) h
 | bl y=>cases (show u=Value.bool y from rx); exact PySem.W.kia_one PySem.W.kitx_bool I.kIn True.intro e (fun z=>nomatch z) h
 | int i=>obtain ⟨t,q⟩:=(show ∃t,u=Value.int i t from rx); cases q; exact PySem.W.kia_one PySem.W.kitx_int I.kIn True.intro e (fun z=>nomatch z) h
 | str y=>obtain ⟨t,q⟩:=(show ∃t,u=Value.str y t from rx); cases q; exact PySem.W.kia_one PySem.W.kitx_str I.kIn True.intro e (fun z=>nomatch z) h
 | flt y=>obtain ⟨t,q⟩:=(show ∃t,u=Value.float y t from rx); cases q; exact PySem.W.kia_one PySem.W.kitx_float I.kIn True.intro e (fun z=>nomatch z) h
 | @lst a xs ea =>
  cases (show u=Value.ref a from rx);obtain ⟨_,_,n,_,h1⟩:=(show Qbx X.prog X.w H s.heap a (.lst xs) from I.hok a _ ea);exact PySem.W.kia_one PySem.W.kitx_list I.kIn ⟨_,h1,rfl⟩ e (fun z=>nomatch z) h
 | @frz a ob xs ea =>
  cases (show u=Value.ref a from rx);obtain ⟨_,_,_,n,_,h1⟩:=(show Qbx X.prog X.w H s.heap a (.frz ob (.lst xs)) from I.hok a _ ea);exact PySem.W.kia_one PySem.W.kitx_list I.kIn ⟨_,h1,rfl⟩ e (fun z=>nomatch z) h
 | @tup a xs ea =>
  cases (show u=Value.ref a from rx);obtain ⟨_,_,_,p⟩:=(show Qbx X.prog X.w H s.heap a (.tup xs) from I.hok a _ ea);obtain ⟨o,h1,h2,_⟩:=p;exact PySem.W.kia_one PySem.W.kitx_tuple I.kIn ⟨o,h1,h2⟩ e (fun z=>nomatch z) h
 | @dK a kvs ea =>
  cases (show u=Value.ref a from rx);obtain ⟨_,_,vs,_,p⟩:=(show Qbx X.prog X.w H s.heap a (.dK kvs) from I.hok a _ ea);obtain ⟨o,es,ep,h1,h2,_⟩:=p;exact PySem.W.kia_one PySem.W.kitx_dict I.kIn ⟨o,h1,h2.1⟩ e (fun z=>nomatch z) h
 | @dT a kvs ea =>
  cases (show u=Value.ref a from rx);obtain ⟨_,_,xs,_,o,es,ep,h1,h2,_⟩:=(show Qbx X.prog X.w H s.heap a (.dT kvs) from I.hok a _ ea);exact PySem.W.kia_one PySem.W.kitx_dict I.kIn ⟨o,h1,h2.1⟩ e (fun z=>nomatch z) h
 | @ins a C dx fs ea cl ha hn htk hm =>
  cases (show u=Value.ref a from rx);obtain ⟨mA,O,_⟩:=Qh5 I.hok ea;obtain ⟨od,J,_⟩:=O.look;exact PySem.W.kia_one (PySem.W.kitx_own (cl.get _) cl.hd ha hn htk hm) I.kIn J e (fun z=>nomatch z) h
end
structure QaJ (k:Nat) (A:Around):Prop where
 hd:A.handled=none
 dp:A.depth+3 * k+5 < recursionLimit
 un:A.units+16 * k+200 < cLine
theorem QaJ.mono {j k:Nat}{A:Around} (r:QaJ k A) (h:j≤k):QaJ j A:=⟨r.hd,by have:=r.dp; omega,by have:=r.un; omega⟩
theorem QaJ.deeper {k:Nat}{A:Around} (r:QaJ (k+1) A) (env:Env):QaJ k (A.deeper env) :=
 ⟨r.hd,by have:=r.dp; show A.depth+1+3 * k+5 < _; omega,by have:=r.un; show A.units+3+16 * k+200 < _; omega⟩
theorem QaJ.in1 {k:Nat}{A:Around} (r:QaJ (k+1) A):QaJ k A.in1 :=
 ⟨r.hd,by have:=r.dp; show A.depth+3 * k+5 < _; omega,by have:=r.un; show A.units+1+16 * k+200 < _; omega⟩
theorem Qny {A:Around}{C:Addr}{us:List Value}{kw:List (Str×Value)}:(A.under (.builtin "type.__call__" ⟨.ref C::us,kw⟩)).depth=A.depth+1:=by
 first | rfl | simp [Around.under,Code.weight,Code.isCreation,Code.isGuard,Code.isCaller,Code.frames,Code.isFrame,guardIds]
theorem Qm5 {A:Around}{C:Addr}{us:List Value}{kw:List (Str×Value)}:(A.under (.builtin "type.__call__" ⟨.ref C::us,kw⟩)).units=A.units+1:=by
 first | rfl | simp [Around.under,Code.cUnits,Code.frames,Code.isFrame]
theorem QaJ.make {k:Nat}{A:Around} (r:QaJ (k+1) A) (C:Addr) (us:List Value) (kw:List (Str×Value)):QaJ k (A.under (.builtin "type.__call__" ⟨.ref C::us,kw⟩)) :=
 ⟨r.hd,by have:=r.dp; rw [Qny]; omega,by have:=r.un; rw [Qm5]; omega⟩
theorem QaJ.depth {k:Nat}{A:Around} (r:QaJ k A):A.depth < recursionLimit:=by have:=r.dp; omega
theorem QaJ.units {k:Nat}{A:Around} (r:QaJ k A):A.units+64 < cLine:=by have:=r.un; omega
def Qlf:TA:=fun _ H Q=>Q [] H
def Qnz (ta:TE) (tr:TA):TA:=fun σ H Q=>ta σ H fun x H1=>tr σ H1 fun xs H2=>Q (x::xs) H2
section
variable {X:Cx}{e:Expr}{es:List Expr}{te:TE}{t:TA}{pos:Pos}
theorem QcI:PA X [] Qlf:=fun _ _ _ _ H Q I h=>Calls.spliced_nil ⟨[],H,I,.nil,h⟩
theorem QbV (ha:PE X e te) (hr:PA X es t) (hs:starEach (e::es) X.env=(false,eval e X.env)::starEach es X.env:=by rfl):PA X (e::es) (Qnz te t):=by
 intro pos pins s σ H Q I h;rw [hs];show wpAny _ _ (spliced ((false,eval e X.env)::backTo pos (starEach es X.env))) _ _ s;refine Calls.spliced_cons (thn (ha pins s σ H _ I h) fun u s1 ⟨x,H1,I1,r1,q1⟩=>?_)
 exact thn (hr pos pins s1 σ H1 _ I1 q1) fun us s2 ⟨xs,H2,I2,r2,q2⟩=>⟨x::xs,H2,I2,.cons r1 r2,q2⟩
def Qu9 (t:TA):TE:=fun σ H Q=>t σ H fun xs H1=>xs.length≤sizeLine∧∀p,H1 p=none→Q (.ref p) (upd H1 p (.tup xs))
def QuP (t:TA):TE:=fun σ H Q=>t σ H fun xs H1=>xs.length≤sizeLine∧∀p,H1 p=none→Q (.ref p) (upd H1 p (.lst xs))
theorem Qs5 {x1} (h:PA X es t):PE X (.Tuple es x1 pos) (Qu9 t):=by
 intro pins s σ H Q I hq;refine wpAny_Tuple_spliced (thn (h pos pins s σ H _ I hq) fun us s1 ⟨xs,H1,I1,r,z,q⟩=>⟨by rw [←r.length]; exact z,?_⟩);have hf:H1 s1.heap.objs.size=none:=I1.hok.fresh (zc _);refine ⟨.ref s1.heap.objs.size,upd H1 s1.heap.objs.size (.tup xs),I1.laid (t':=s1.toks) (fun b u e=>zq _ e) (zc _) ?_,rfl,q _ hf⟩;exact ⟨z,us,r,⟨_,zC _ rfl,rfl,_,rfl⟩⟩
theorem Qs4 (h:PA X es t):PE X (.List es pos) (QuP t):=by
 intro pins s σ H Q I hq;refine wpAny_List_spliced (thn (h pos pins s σ H _ I hq) fun us s1 ⟨xs,H1,I1,r,z,q⟩=>⟨by rw [←r.length]; exact z,?_⟩);have hf:H1 s1.heap.objs.size=none:=I1.hok.fresh (zc _);refine ⟨.ref s1.heap.objs.size,upd H1 s1.heap.objs.size (.lst xs),I1.laid (t':=s1.toks) (fun b u e=>zq _ e) (zc _) ?_,rfl,q _ hf⟩;exact ⟨z,us,0,r,zC _ rfl⟩
end
abbrev Sp:=List V→Hp→VK→XK→Prop
abbrev CXT:=List Env→Hp→Shared→XK→Value→Shared→Prop
structure Qev (P:Program) (w:World) (K:PySem.W.Frag) (mg:Str→Option Value) (base:Heap) (A:Around) (outer:List Env) (s:Shared) (H:Hp):Prop where
 frames:A.frames=some outer
 mod:Mod K mg base
 bs:∀b o,base.get? b=some o→s.heap.get? b=some o∧H b=none
 bsz:base.objs.size≤s.heap.objs.size
 funs:s.heap.FunFrames base outer
 frf:∀b∈frs outer,H b=none
 hok:HOk P w H s.heap
 bare:AllBare s.gens
def CE (outer:List Env) (P:Program) (w:World) (H:Hp) (s:Shared) (Q:VK) (u:Value) (s':Shared):Prop :=
 ∃v H',s'.os=s.os∧AllBare s'.gens∧Un (frs outer) [] H H' s.heap s'.heap∧HOk P w H' s'.heap∧RelV v u∧Q v H'
def CR (CX:CXT) (outer:List Env) (P:Program) (w:World) (H:Hp) (s:Shared) (Q:VK) (E:XK) (r:Result) (s':Shared):Prop :=
 match r with
 | .ok (.ret u)=>CE outer P w H s Q u s'
 | .ok _=>False
 | .error e=>CX outer H s E e s'
structure Qbp (P:Program) (w:World) (K:PySem.W.Frag) (mg:Str→Option Value) (base:Heap) (CX:CXT) (k:Nat) (f:Addr) (fd:FuncData) (ps:List Str) (sp:Sp):Prop where
 len:∀vs H Q E,sp vs H Q E→vs.length=ps.length
 run:∀(A:Around) (outer:List Env) (s:Shared) (H:Hp) (args:Args) (us:List Value) (vs:List V) (Q:VK) (E:XK),QaJ k A→Qev P w K mg base A outer s H→BindsTo s fd args (ps.zip us)→Qar vs us→sp vs H Q E →
  codeAny (model P w) A (.call (.ref f) args) (CR CX outer P w H s Q E) s
theorem Qbp.mono {P:Program}{w:World}{K:PySem.W.Frag}{mg:Str→Option Value}{base:Heap}{CX:CXT}{j k:Nat}{f:Addr}{fd:FuncData}{ps:List Str}{sp:Sp} (F:Qbp P w K mg base CX j f fd ps sp) (h:j≤k) :
  Qbp P w K mg base CX k f fd ps sp:=⟨F.len,fun A outer s H args us vs Q E hr=>F.run A outer s H args us vs Q E (hr.mono h)⟩
theorem Qbp.imp {P:Program}{w:World}{K:PySem.W.Frag}{mg:Str→Option Value}{base:Heap}{CX:CXT}{k:Nat}{f:Addr}{fd:FuncData}{ps:List Str}{sp sp':Sp} (F:Qbp P w K mg base CX k f fd ps sp)
  (h:∀vs H Q E,sp' vs H Q E→sp vs H Q E):Qbp P w K mg base CX k f fd ps sp' :=
 ⟨fun vs H Q E q=>F.len vs H Q E (h _ _ _ _ q),fun A outer s H args us vs Q E hr he hb hv hs=>F.run A outer s H args us vs Q E hr he hb hv (h _ _ _ _ hs)⟩
theorem Qev.make {P:Program}{w:World}{K:PySem.W.Frag}{mg:Str→Option Value}{base:Heap}{A:Around}{outer:List Env}{s:Shared}{H:Hp} (e:Qev P w K mg base A outer s H) (C:Addr) (us:List Value) (kw:List (Str×Value)) :
  Qev P w K mg base (A.under (.builtin "type.__call__" ⟨.ref C::us,kw⟩)) outer s H:=⟨by first | exact e.frames | (simpa [Around.under,Code.envs,Code.isFrame,pushEnvs] using e.frames),e.mod,e.bs,e.bsz,e.funs,e.frf,e.hok,e.bare⟩
theorem Qev.in1 {P:Program}{w:World}{K:PySem.W.Frag}{mg:Str→Option Value}{base:Heap}{A:Around}{outer:List Env}{s:Shared}{H:Hp} (e:Qev P w K mg base A outer s H) :
  Qev P w K mg base A.in1 outer s H:=⟨e.frames,e.mod,e.bs,e.bsz,e.funs,e.frf,e.hok,e.bare⟩
section
variable {X:Cx}{pins:List (Addr×Obj)}{σ:St}{H:Hp}{s s':Shared}
theorem Inv.env0 (I:Inv X pins σ H s):Qev X.prog X.w X.K X.mg X.base X.A X.stack s H :=
 ⟨I.ok.frames,I.ok.mod,I.bs,zz I.ok.bsz I.sz,I.stack,I.stkFree,I.hok,I.bare⟩
theorem Inv.after {Q:VK}{u:Value} (I:Inv X pins σ H s) (h:CE X.stack X.prog X.w H s Q u s'):EP X pins σ Q u s':=by
 obtain ⟨v,H',os,bare,un,hok,r,q⟩:=h;obtain ⟨hh,g,d,t,os'⟩:=s';obtain rfl:os'=s.os:=os;exact ⟨v,H',I.call (h':=hh) (g':=g) (d':=d) (t':=t) (ch:=[]) un hok bare (fun b z=>absurd z (by simp)),r,q⟩
end
def QkF (sp:Sp) (dvs:List V) (E:XK) (t:TA):TE:=fun σ H Q=>t σ H fun vs H1=>sp (vs++dvs) H1 Q E
def QmG (C:Addr) (m:Str) (sp:Sp) (dvs:List V) (E:XK) (ta:TE) (t:TA):TE:=fun σ H Q=>ta σ H fun x H1=>∃a dx fs,x = .ref a∧H1 a=some (.ins C dx fs)∧fs.lookup m=none ∧
 t σ H1 fun vs H2=>sp (x::(vs++dvs)) H2 Q E
def Qnu (C:Addr) (sp:Sp) (dvs:List V) (E:XK) (t:TA):TE:=fun σ H Q=>t σ H fun vs H1=>∀x dx,H1 x=none→H1 dx=none→dx≠x →
 sp (.ref x::(vs++dvs)) (upd (upd H1 dx (.own x)) x (.ins C dx [])) (fun v H2=>v = .non∧Q (.ref x) H2) E
def Binds (K:PySem.W.Frag) (fd:FuncData) (ps:List Str) (ds:List Value):Prop :=
 ∀(s:Shared) (us:List Value),K.In s.heap→(us++ds).length=ps.length→BindsTo s fd ⟨us,[]⟩ (ps.zip (us++ds))
theorem Binds.all {K:PySem.W.Frag}{fd:FuncData}{ps:List Str} (h:∀us:List Value,us.length=ps.length→bindArgs fd ⟨us,[]⟩=pure (ps.zip us)):Binds K fd ps []:=fun s us _ hl=>by
 rw [zR] at hl ⊢;exact .of_eq (h us hl)
def QeM (CX:CXT) (X:Cx) (E:XK):Prop:=∀(pins:List (Addr×Obj)) (σ:St) (H:Hp) (s:Shared) (e:Value) (s':Shared),Inv X pins σ H s→CX X.stack H s E e s'→X.xe e s'
section
variable {X:Cx}{CX:CXT}{k:Nat}{f C:Addr}{fd:FuncData}{ps:List Str}{sp:Sp}{dvs:List V}{ds:List Value}{E:XK}{x m:Str}{p pos apos:Pos}{e o:Expr}{es:List Expr}{ta:TE}{t:TA}
theorem QkV {pins:List (Addr×Obj)}{σ:St}{H:Hp}{s:Shared}{Q:VK}{us:List Value}{vs:List V} (F:Qbp X.prog X.w X.K X.mg X.base CX k f fd ps sp) (hr:QaJ k X.A) (hb:Binds X.K fd ps ds) (hd:Qar dvs ds) (hx:QeM CX X E)
  (I:Inv X pins σ H s) (r:Qar vs us) (h:sp (vs++dvs) H Q E):wpAny (model X.prog X.w) X.A (call (.ref f) us) (EP X pins σ Q) X.xe s:=by
 have r2:Qar (vs++dvs) (us++ds):=r.append hd
 have hl:(us++ds).length=ps.length:=by rw [←r2.length]; exact F.len _ _ _ _ h
 refine wpAny_call (codeAny_mono (F.run X.A X.stack s H ⟨us,[]⟩ (us++ds) (vs++dvs) Q E hr I.env0 (hb s us I.kIn hl) r2 h) fun r s' hq=>?_)
 cases r with
 | error e=>exact hx pins σ H s e s' I hq
 | ok fl =>
  cases fl with
  | ret u=>exact I.after hq
  | next=>exact False.elim hq
  | brk=>exact False.elim hq
  | cont=>exact False.elim hq
theorem Qqu (F:Qbp X.prog X.w X.K X.mg X.base CX k f fd ps sp) (hr:QaJ k X.A) (hg:Gl X x) (hm:X.mg x=some (.ref f)) (hk:PySem.W.keepIn X.K (.ref f)=true) (hb:Binds X.K fd ps ds) (hd:Qar dvs ds) (hx:QeM CX X E)
  (ha:PA X (e::es) t) (hdb:(x == ("__debug__":Str))=false:=by decide) (he:starEach (e::es) X.env=(false,eval e X.env)::starEach es X.env:=by rfl) (hpl:(backTo pos (starEach es X.env)).any (·.1)=false:=by rfl) :
  PE X (.Call (.Name x p) (e::es) [] pos) (QkF sp dvs E t):=by
 intro pins s σ H Q I h;refine wpAny_Call_Name_kw (QgH I hg hm ?_ hdb);refine PySem.W.callWith_K (h₀:=X.base) I.ok.mod.kin hk (thn (ha pos pins s σ H _ I h) fun us s1 ⟨vs,H1,I1,r,q⟩=>⟨I1.kIn,?_⟩) he hpl;exact QkV F hr hb hd hx I1 r q
theorem Qqh {pl:Sem Bool} (he:PE X o ta) (c:Cls X.K C) (hm:QiI X.K C m f) (F:Qbp X.prog X.w X.K X.mg X.base CX k f fd ps sp) (hr:QaJ k X.A) (hb:Binds X.K fd ps ds) (hd:Qar dvs ds) (hx:QeM CX X E) (ha:PA X (e::es) t)
  (hst:starEach (e::es) X.env=(false,eval e X.env)::starEach es X.env:=by rfl) (hpl:(backTo pos (starEach es X.env)).any (·.1)=false:=by rfl)
  (ht:eval (.Call (.Attribute o m apos) (e::es) [] pos) X.env=(do
   let ov ←eval o X.env
   standAt apos.atName
   let (f,first) ←holding [ov] (getMethod ov m pl)
   callWith pos f first (backTo pos (starEach (e::es) X.env)) (backToKw pos (keywordEach [] X.env))):=by rfl) :
  PE X (.Call (.Attribute o m apos) (e::es) [] pos) (QmG C m sp dvs E ta t):=by
 intro pins s σ H Q I h;refine PySem.W.methodCall_KW (pl:=pl) (thn (he pins s σ H _ I h) fun u s1 ⟨x,H1,I1,rx,a,dx,fs,ex,ea,l,q⟩=>?_) ht;subst ex;obtain rfl:u=Value.ref a:=rx;refine Qi0 I1 ea c hm l ?_;refine PySem.W.callWith_K (first:=[.ref a]) (h₀:=X.base) I.ok.mod.kin hm.kp (thn (ha pos pins s1 σ H1 _ I1 q) fun us s2 ⟨vs,H2,I2,r,q2⟩=>⟨I2.kIn,?_⟩) hst hpl;exact QkV (us:=.ref a::us) (vs:=.ref a::vs) F hr hb hd hx I2 (.cons rfl r) q2
theorem QpB {pl:Sem Bool} (he:PE X o ta) (c:Cls X.K C) (hm:QiI X.K C m f) (F:Qbp X.prog X.w X.K X.mg X.base CX k f fd ps sp) (hr:QaJ k X.A) (hb:Binds X.K fd ps ds) (hd:Qar dvs ds) (hx:QeM CX X E)
  (ht:eval (.Call (.Attribute o m apos) [] [] pos) X.env=(do
   let ov ←eval o X.env
   standAt apos.atName
   let (f,first) ←holding [ov] (getMethod ov m pl)
   callWith pos f first (backTo pos (starEach [] X.env)) (backToKw pos (keywordEach [] X.env))):=by rfl) :
  PE X (.Call (.Attribute o m apos) [] [] pos) (QmG C m sp dvs E ta Qlf):=by
 intro pins s σ H Q I h;refine PySem.W.methodCall_KW (pl:=pl) (thn (he pins s σ H _ I h) fun u s1 ⟨x,H1,I1,rx,a,dx,fs,ex,ea,l,q⟩=>?_) ht;subst ex;obtain rfl:u=Value.ref a:=rx;refine Qi0 I1 ea c hm l ?_;exact PySem.W.callWith_K0 (first:=[.ref a]) I1.kIn hm.kp (QkV (us:=[.ref a]) (vs:=[.ref a]) F hr hb hd hx I1 (.cons rfl .nil) q)
structure Mk (K:PySem.W.Frag) (C f:Addr):Prop where
 makes:PySem.W.makesIn K C=true
 init:PySem.W.findIn K (.ref C) "__init__" = some (some (.ref f))
 fn:PySem.W.isFn K (.ref f)=true
 kp:PySem.W.keepIn K (.ref C)=true
theorem Qlz {pins:List (Addr×Obj)}{σ:St}{H:Hp}{s:Shared}{Q:VK}{us:List Value}{vs:List V} (M:Mk X.K C f) (F:Qbp X.prog X.w X.K X.mg X.base CX k f fd ps sp) (hr:QaJ (k+1) X.A) (hb:Binds X.K fd ps ds) (hd:Qar dvs ds)
  (hx:QeM CX X E) (I:Inv X pins σ H s) (r:Qar vs us)
  (h:∀x dx,H x=none→H dx=none→dx≠x→sp (.ref x::(vs++dvs)) (upd (upd H dx (.own x)) x (.ins C dx [])) (fun v H2=>v = .non∧Q (.ref x) H2) E) :
  wpAny (model X.prog X.w) X.A (call (.ref C) us) (EP X pins σ Q) X.xe s:=by
 have hq:=h (s.heap.objs.size+1) s.heap.objs.size (I.hok.fresh (Nat.le_succ _)) (I.hok.fresh (zc _)) (zp (je _));have I2:=Inv.made (C:=C) I;have r2:Qar (V.ref (s.heap.objs.size+1)::(vs++dvs)) (Value.ref (s.heap.objs.size+1)::(us++ds)):=.cons rfl (r.append hd)
 have hl:(Value.ref (s.heap.objs.size+1)::us++ds).length=ps.length:=by
  have e:=r2.length;rw [F.len _ _ _ _ hq] at e;exact e.symm
 refine wpAny_call (Qo7 (f:=f) I.kIn M.makes M.init (beq_iff_eq.mp M.fn) (codeAny_mono (F.run _ X.stack _ _ ⟨Value.ref (s.heap.objs.size+1)::us,[]⟩ (Value.ref (s.heap.objs.size+1)::(us++ds)) _ _ E (hr.make C us [])
  (I2.env0.make C us []) (hb _ (Value.ref (s.heap.objs.size+1)::us) I2.kIn hl) r2 hq) fun r s' hq'=>?_))
 cases r with
 | error e=>exact hx pins σ _ _ e s' I2 hq'
 | ok fl =>
  cases fl with
  | ret u =>
   obtain ⟨v,H',I3,rv,ev,q3⟩:=I2.after hq';subst ev;exact ⟨rv,⟨V.ref (s.heap.objs.size+1),H',I3,rfl,q3⟩⟩
  | next=>exact False.elim hq'
  | brk=>exact False.elim hq'
  | cont=>exact False.elim hq'
theorem QqI (M:Mk X.K C f) (F:Qbp X.prog X.w X.K X.mg X.base CX k f fd ps sp) (hr:QaJ (k+1) X.A) (hg:Gl X x) (hm:X.mg x=some (.ref C)) (hb:Binds X.K fd ps ds) (hd:Qar dvs ds) (hx:QeM CX X E)
  (ha:PA X (e::es) t) (hdb:(x == ("__debug__":Str))=false:=by decide) (he:starEach (e::es) X.env=(false,eval e X.env)::starEach es X.env:=by rfl) (hpl:(backTo pos (starEach es X.env)).any (·.1)=false:=by rfl) :
  PE X (.Call (.Name x p) (e::es) [] pos) (Qnu C sp dvs E t):=by
 intro pins s σ H Q I h;refine wpAny_Call_Name_kw (QgH I hg hm ?_ hdb);refine PySem.W.callWith_K (h₀:=X.base) I.ok.mod.kin M.kp (thn (ha pos pins s σ H _ I h) fun us s1 ⟨vs,H1,I1,r,q⟩=>⟨I1.kIn,?_⟩) he hpl;exact Qlz M F hr hb hd hx I1 r q
theorem Qo4 (M:Mk X.K C f) (F:Qbp X.prog X.w X.K X.mg X.base CX k f fd ps sp) (hr:QaJ (k+1) X.A) (hg:Gl X x) (hm:X.mg x=some (.ref C)) (hb:Binds X.K fd ps ds) (hd:Qar dvs ds) (hx:QeM CX X E)
  (hdb:(x == ("__debug__":Str))=false:=by decide):PE X (.Call (.Name x p) [] [] pos) (Qnu C sp dvs E Qlf):=by
 intro pins s σ H Q I h;refine wpAny_Call_Name_kw (QgH I hg hm ?_ hdb);exact PySem.W.callWith_K0 I.kIn M.kp (Qlz (us:=[]) M F hr hb hd hx I .nil h)
end
section
variable {X:Cx}{CX:CXT}{k:Nat}{f C:Addr}{fd:FuncData}{ps ks:List Str}{sp:Sp}{E:XK}{x m:Str}{p pos apos kpos:Pos}{e o:Expr}{es:List Expr}{kws:List Keyword}{te ta:TE}{t tk:TA}{nm:Option Str}
structure QvT (K:PySem.W.Frag) (fd:FuncData) (ps ks:List Str) (g:List Value→List Value→List Value) (gV:List V→List V→List V):Prop where
 to:∀(s:Shared) (us ws:List Value),K.In s.heap→(g us ws).length=ps.length→BindsTo s fd ⟨us,ks.zip ws⟩ (ps.zip (g us ws))
 rel:∀{vs:List V}{us:List Value}{zs:List V}{ws:List Value},Qar vs us→Qar zs ws→Qar (gV vs zs) (g us ws)
variable {g:List Value→List Value→List Value}{gV:List V→List V→List V}
end
structure Qay (N P:List Str) (sc:Scope):Prop where
 kind:sc.kind = .function
 co:sc.isCoroutine=false
 gen:sc.isGenerator=false
 nd:N.Nodup
 pre:N.take P.length=P
 par:∀x∈P,sc.names.lookup x=some .local∨sc.names.lookup x=some .cell
 nofree:∀y∈sc.names,y.2≠.free
theorem Qkb {kindOf:Str→Option NameKind}{x:Str}:∀{binds:List (Str×Value)}{m:Str→Option Value},(∀v,(x,v)∉binds)→bindL kindOf binds m x=m x
 | [],_,_=>rfl
 | (n,v)::r,m,h=>by
  unfold bindL;rw [Qkb fun w hw=>h w (zm _ hw)]
  split
  ·have:x≠n:=by rintro rfl; exact h v zu
   simp [this]
  ·rfl
theorem Qj3 {kindOf:Str→Option NameKind}{x:Str}:∀{binds:List (Str×Value)}{m:Str→Option Value},(∀v,(x,v)∉binds)→bindC kindOf binds m x=m x
 | [],_,_=>rfl
 | (n,v)::r,m,h=>by
  unfold bindC;rw [Qj3 fun w hw=>h w (zm _ hw)]
  split
  ·rfl
  ·have:x≠n:=by rintro rfl; exact h v zu
   simp [this]
theorem Qkc {kindOf:Str→Option NameKind}{x:Str}{v:Value}:∀{P:List Str}{vs:List Value}{i:Nat}{m:Str→Option Value},P.Nodup→P[i]? = some x→vs[i]? = some v→kindOf x=some .local →
  bindL kindOf (P.zip vs) m x=some v
 | [],_,_,_,_,h,_,_=>by simp at h
 | _::_,[],_,_,_,_,h,_=>by simp at h
 | p::P,w::vs,0,m,nd,h1,h2,hk=>by
  simp at h1 h2; subst h1; subst h2
  show bindL kindOf ((p,w)::P.zip vs) m p=_;unfold bindL;rw [Qkb fun v hv=>(List.nodup_cons.mp nd).1 (List.of_mem_zip hv).1,if_pos hk];simp
 | p::P,w::vs,i+1,m,nd,h1,h2,hk=>by
  show bindL kindOf ((p,w)::P.zip vs) m x=_;unfold bindL;exact Qkc (i:=i) (List.nodup_cons.mp nd).2 (by simpa using h1) (by simpa using h2) hk
theorem Qka {kindOf:Str→Option NameKind}{x:Str}{v:Value}:∀{P:List Str}{vs:List Value}{i:Nat}{m:Str→Option Value},P.Nodup→P[i]? = some x→vs[i]? = some v→kindOf x≠some .local →
  bindC kindOf (P.zip vs) m x=some v
 | [],_,_,_,_,h,_,_=>by simp at h
 | _::_,[],_,_,_,_,h,_=>by simp at h
 | p::P,w::vs,0,m,nd,h1,h2,hk=>by
  simp at h1 h2; subst h1; subst h2
  show bindC kindOf ((p,w)::P.zip vs) m p=_;unfold bindC;rw [Qj3 fun v hv=>(List.nodup_cons.mp nd).1 (List.of_mem_zip hv).1,if_neg hk];simp
 | p::P,w::vs,i+1,m,nd,h1,h2,hk=>by
  show bindC kindOf ((p,w)::P.zip vs) m x=_;unfold bindC;exact Qka (i:=i) (List.nodup_cons.mp nd).2 (by simpa using h1) (by simpa using h2) hk
def start (N:List Str) (vs:List V):St:=vs.map some++List.replicate (N.length - vs.length) none
def Qdv (CX:CXT) (P:Program) (w:World) (K:PySem.W.Frag) (mg:Str→Option Value) (base:Heap) (N:List Str) (qual:Str) (scope:Scope) (f:Addr) (cd:Value) (A:Around) (outer:List Env) (s:Shared) (H:Hp) (E:XK):Cx where
 prog:=P
 w:=w
 K:=K
 mg:=mg
 base:=base
 A:=A.deeper (envOfC qual scope s.heap.objs.size f cd)
 N:=N
 s₀:=s
 H₀:=H
 env:=envOfC qual scope s.heap.objs.size f cd
 outer:=outer
 stack:=envOfC qual scope s.heap.objs.size f cd::outer
 ex:=[]
 calm:=true
 fn:=fun _=>true
 pn:=[]
 xe:=fun e s'=>wpAny (model P w) (A.deeper (envOfC qual scope s.heap.objs.size f cd)) (leaving (envOfC qual scope s.heap.objs.size f cd) e) (fun _ s''=>CX outer H s E e s'') (fun e' s''=>CX outer H s E e' s'') s'
theorem Qlr {sc:Scope}{n:Nat}{x:Str} (h:sc.names.lookup x=some .cell):∃c,(cellsFrom n sc.names []).lookup x=some c:=by
 have q:=PySem.W.cellsFrom_some sc.names n [] (.inl h);exact Option.isSome_iff_exists.mp q
theorem Qkf {CX:CXT}{P:Program}{w:World}{K:PySem.W.Frag}{mg:Str→Option Value}{base:Heap}{N ps:List Str}{qual:Str}{scope:Scope}{f:Addr}{cd:Value}{A:Around}{outer:List Env}{s s1:Shared}{H:Hp}{E:XK}{us:List Value}{vs:List V}
  (S:Qay N ps scope) (hd:A.handled=none) (e0:Qev P w K mg base A outer s H) (hl:vs.length=ps.length) (r:Qar vs us)
  (x:InCallC s s.heap.objs.size (bindL (envOfC qual scope s.heap.objs.size f cd).kindOf (ps.zip us) fun _=>none) (cellsFrom (s.heap.objs.size+1) scope.names []) (bindC (envOfC qual scope s.heap.objs.size f cd).kindOf (ps.zip us) fun _=>none) s1) :
  Inv (Qdv CX P w K mg base N qual scope f cd A outer s H E) [] (start N vs) H s1:=by
 have hpl:ps.length≤N.length:=by have:=congrArg List.length S.pre; rw [List.length_take] at this; omega
 obtain ⟨h1,tk,rfl,hk⟩:=x.done
 have noA:∀b:Addr,b∉(Qdv CX P w K mg base N qual scope f cd A outer s H E).ex:=fun b z=>absurd (show b∈([]:List Addr) from z) (by simp)
 refine ⟨⟨e0.mod,S.kind,rfl,rfl,zc _,fun y z c h1 h2=>?_,fun y hy=>?_,fun y c _ h=>?_,fun _=>hd,Around.frames_deeper e0.frames,.inr ⟨rfl,rfl⟩,fun b z=>absurd z (noA b),e0.bs,e0.bsz,fun b _ _=>noA b,fun b z=>absurd z (noA b),e0.funs,e0.frf⟩,
  rfl,e0.bare,Un.kept hk,⟨_,x.toInCall.ns,fun i y v h1 h2 h3=>?_⟩,fun y c h=>⟨_,x.cell y c h⟩,e0.hok.fresh (zc _),fun y c h=>?_,fun p hp=>absurd (show p∈([]:List (Addr×Obj)) from hp) (by simp),e0.hok.kept hk,?_⟩
 ·exact name_of_addr x.apart (PySem.mem_of_lookup h1) (PySem.mem_of_lookup h2)
 ·have hy:scope.names.lookup y=some .cell∨scope.names.lookup y=some .free:=hy
  rcases hy with hy | hy
  ·exact Qlr hy
  ·exact absurd rfl (S.nofree _ (PySem.mem_of_lookup hy))
 ·exact Nat.le_of_lt (x.above y c (PySem.mem_of_lookup h))
 ·have hi:i < vs.length:=by
   unfold start at h2
   by_cases hi:i < vs.length
   ·exact hi
   ·rw [zv (by simpa using hi)] at h2;rw [List.getElem?_replicate] at h2
    split at h2 <;> cases h2
  have ha:vs[i]? = some v:=by
   unfold start at h2;rw [zr (by simpa using hi),zG] at h2
   cases e:vs[i]? with
   | none=>rw [e] at h2; cases h2
   | some a=>rw [e] at h2; cases h2; rfl
  obtain ⟨u,hu,rv⟩:=r.get ha
  have hp:ps[i]? = some y:=by
   rw [←S.pre,List.getElem?_take_of_lt (by omega)]; exact h1
  have ndP:ps.Nodup:=by rw [←S.pre]; exact S.nd.sublist (List.take_sublist _ _)
  refine ⟨u,rv,?_⟩
  rcases S.par y (zI hp) with k | k
  ·exact .inl ⟨k,Qkc ndP hp hu k⟩
  ·obtain ⟨c,e⟩:=Qlr (n:=s.heap.objs.size+1) k;refine .inr ⟨.inl k,c,e,?_⟩;have q:=x.cell y c e;rw [Qka ndP hp hu (by show scope.names.lookup y≠_; rw [k]; decide)] at q;exact q
 ·exact e0.hok.fresh (Nat.le_of_lt (x.above y c (PySem.mem_of_lookup h)))
 ·unfold start;show _=N.length;rw [zw,zB,List.length_replicate];omega
theorem Qp1 {CX:CXT}{P:Program}{w:World}{K:PySem.W.Frag}{mg:Str→Option Value}{base:Heap}{k:Nat}{f:Addr}{name qual:Str}{params:Arguments}{body:List Stmt}{scope:Scope}{dV kV doc pm cdv ct oc:Value}{an od:Option Addr}
  {osl:Array (Option Value)}{N ps:List Str}{sp:Sp} (lk:K.lookup f=some ⟨oc,od,.func (PySem.W.fnOf name qual params body scope dV kV doc pm an cdv ct),osl⟩) (hcd:PySem.W.codeIn K cdv qual=true) (S:Qay N ps scope)
  (len:∀vs H Q E,sp vs H Q E→vs.length=ps.length)
  (hbody:∀(A:Around) (outer:List Env) (s:Shared) (H:Hp) (vs:List V) (Q:VK) (E:XK),QaJ k (A.deeper (envOfC qual scope s.heap.objs.size f cdv))→sp vs H Q E →
   ∃t,PSs (Qdv CX P w K mg base N qual scope f cdv A outer s H E) body t∧t { nx:=fun _ H'=>Q .non H',rt:=Q } (start N vs) H) :
  Qbp P w K mg base CX (k+1) f (PySem.W.fnOf name qual params body scope dV kV doc pm an cdv ct) ps sp:=by
 refine ⟨len,fun A outer s H args us vs Q E hr e0 hb r hsp=>?_⟩;have hl:=len _ _ _ _ hsp
 have KX:K.In s.heap:=e0.mod.kin.keeps fun b o e=>(e0.bs b o e).1
 have lim:s.heap.NoLimit:=e0.mod.nolimit.keeps fun b o e=>(e0.bs b o e).1
 have hkind:∀y∈ps.zip us,scope.names.lookup y.1=some .local∨(scope.names.lookup y.1=some .cell∧((cellsFrom (s.heap.objs.size+1) scope.names []).lookup y.1).isSome=true):=fun ⟨n,v⟩ hy=>by
  rcases S.par n (List.of_mem_zip hy).1 with q | q
  ·exact .inl q
  ·exact .inr ⟨q,PySem.W.cellsFrom_some _ _ _ (.inl q)⟩
 refine codeAny_call_function hr.depth (KX _ _ lk) rfl S.co S.gen rfl (PySem.W.codeRec_of KX hcd) (hb _ _ _ _ ?_)
 refine wpAny_newFunctionEnv_cells S.kind hkind fun env he s1 x=>?_
 subst he;refine ⟨lim.keeps x.toInCall.keep,codeAny_func ?_⟩;obtain ⟨t,ht,hq⟩:=hbody A outer s H vs Q E (hr.deeper _) hsp;have I:Inv (Qdv CX P w K mg base N qual scope f cdv A outer s H E) [] (start N vs) H s1:=Qkf S hr.hd e0 hl r x
 refine zJ (ht [] s1 (start N vs) H _ I hq) (fun fl s' hs=>?_) fun e s' hs=>hs
 have fin:∀{σ':St}{H':Hp}{v:V}{u:Value},Inv (Qdv CX P w K mg base N qual scope f cdv A outer s H E) [] σ' H' s'→RelV v u→Q v H'→CE outer P w H s Q u s' :=
  fun {σ' H' v u} J rv q=>⟨v,H',J.os,J.bare,J.base,J.hok,rv,q⟩
 cases fl with
 | ret u =>
  obtain ⟨v,σ',H',J,rv,q⟩:=hs;exact fin J rv q
 | next =>
  obtain ⟨σ',H',J,q⟩:=hs;exact fin (v:=V.non) (u:=Value.none) J rfl q
 | brk =>
  obtain ⟨_,_,_,q⟩:=hs;exact False.elim q
 | cont =>
  obtain ⟨_,_,_,q⟩:=hs;exact False.elim q
section
variable {X:Cx}{x:Str}{p pos:Pos}{e:Expr}{es:List Expr}{t:TA}{id T:String}{r:List V→Hp→VK→Prop}
def tCB (r:List V→Hp→VK→Prop) (t:TA):TE:=fun σ H Q=>t σ H fun vs H1=>r vs H1 Q
theorem QlD (hc:Qio X (.builtin id) r) (hg:Gl X x) (hm:X.mg x=none) (hv:bootBuiltins x=some (.builtin id)) (ha:PA X (e::es) t) (hn:x≠"__name__":=by decide) (hdb:(x == ("__debug__":Str))=false:=by decide)
  (he:starEach (e::es) X.env=(false,eval e X.env)::starEach es X.env:=by rfl) (hpl:(backTo pos (starEach es X.env)).any (·.1)=false:=by rfl):PE X (.Call (.Name x p) (e::es) [] pos) (tCB r t):=by
 intro pins s σ H Q I h;refine wpAny_Call_Name_kw (Qfz I hg hm hv ?_ hn hdb);exact PyProof.Rows.callWith_builtin1 (thn (ha pos pins s σ H _ I h) fun us s1 ⟨vs,H1,I1,r1,q1⟩=>hc pins s1 σ H1 vs us Q I1 r1 q1) he hpl
theorem QoB (hc:Qio X (.type T) r) (hg:Gl X x) (hm:X.mg x=none) (hv:bootBuiltins x=some (.type T)) (ha:PA X (e::es) t) (hn:x≠"__name__":=by decide) (hdb:(x == ("__debug__":Str))=false:=by decide)
  (he:starEach (e::es) X.env=(false,eval e X.env)::starEach es X.env:=by rfl) (hpl:(backTo pos (starEach es X.env)).any (·.1)=false:=by rfl):PE X (.Call (.Name x p) (e::es) [] pos) (tCB r t):=by
 intro pins s σ H Q I h;refine wpAny_Call_Name_kw (Qfz I hg hm hv ?_ hn hdb);exact PyProof.Rows.callWith_type1 (thn (ha pos pins s σ H _ I h) fun us s1 ⟨vs,H1,I1,r1,q1⟩=>hc pins s1 σ H1 vs us Q I1 r1 q1) he hpl
end
end L2
namespace HT
open PySem PyProof.Rows
section
open PySem.SeqAt
open PySem.AutoSeq1 (wpAny_loadPart')
open PySem.MeetsSeq PySem.MeetsSeq2 PySem.MeetsSeq3
end
section
variable {prog:Program}{w:World}{A:Around}{E:Value→Shared→Prop}{s:Shared}
theorem cat_tup {t b:Addr}{vs ws:List Value}{Q:Value→Shared→Prop} (ht:IsTup s.heap t vs.toArray) (hb:IsTup s.heap b ws.toArray) (hv:vs≠[])
  (h1:ws = []→Q (.ref t) s) (h2:ws≠[]→Q (.ref s.heap.objs.size) { s with heap:=s.heap.push { cls:=.type "tuple",data:=.seq (vs++ws).toArray } })
  (hsz:vs.length+ws.length≤sizeLine):wpAny (model prog w) A (binaryOp .Add (.ref t) (.ref b)) Q E s:=by
 obtain ⟨⟨cls,dd,data,sl⟩,ho,hc,n,hd⟩:=id ht;obtain ⟨⟨cls2,dd2,data2,sl2⟩,ho2,hc2,n2,hd2⟩:=id hb;simp only at hc hd hc2 hd2;subst hc hd hc2 hd2
 have e:vs.toArray++ws.toArray=(vs++ws).toArray:=by simp
 by_cases hw:ws = []
 ·exact concat_meets ⟨_,ho,rfl⟩ ⟨_,ho2,rfl⟩ noFill_tuple_add seq_tuple_add PySem.F.slot_tuple_add PySem.F.entry_tuple_add (PySem.F.args_tuple_add_2 _ _)
   (tuple_addW1 t b vs.toArray ws.toArray n n2 dd dd2 sl sl2 (by simpa using hv) (by simp [hw])) ⟨ho,ho2,h1 hw⟩
 ·refine concat_meets ⟨_,ho,rfl⟩ ⟨_,ho2,rfl⟩ noFill_tuple_add seq_tuple_add PySem.F.slot_tuple_add PySem.F.entry_tuple_add (PySem.F.args_tuple_add_2 _ _)
   (tuple_addW2 t b vs.toArray ws.toArray n n2 dd dd2 sl sl2 (by simpa using hv) (by simpa using hw) (by rw [zl,zl]; exact hsz)) ⟨ho,ho2,?_⟩
  rw [e];exact h2 hw
def sIx (n d:Nat):Option Int→Nat
 | none=>d
 | some v=>if v < 0 then (v+(n:Int)).toNat else min v.toNat n
theorem sIx_none (n d:Nat):sIx n d none=d:=rfl
theorem sIx_nat (n d k:Nat):sIx n d (some (k:Int))=min k n:=by
 show (if (k:Int) < 0 then ((k:Int)+(n:Int)).toNat else min (k:Int).toNat n)=min k n;rw [if_neg (by omega),Int.toNat_natCast]
theorem sIx_le (n d:Nat) (hd:d≤n) (o:Option Int):sIx n d o≤n:=by
 cases o with
 | none=>exact hd
 | some v =>
  show (if v < 0 then (v+(n:Int)).toNat else min v.toNat n)≤n
  by_cases hv:v < 0
  ·rw [if_pos hv]; omega
  ·rw [if_neg hv]; exact Nat.min_le_right _ _
theorem Qml (v:Int) (n d:Nat):(if v < 0 then max (v+(n:Int)) 0 else min v (n:Int))=((sIx n d (some v):Nat):Int):=by
 show (if v < 0 then max (v+(n:Int)) 0 else min v (n:Int))=(((if v < 0 then (v+(n:Int)).toNat else min v.toNat n):Nat):Int)
 by_cases hv:v < 0
 ·simp only [if_pos hv]; omega
 ·simp only [if_neg hv]; omega
theorem QmX (lo hi:Option Int) (n:Nat):Builtin.Slice.sliceAdjust lo hi 1 (n:Int)=(((sIx n 0 lo:Nat):Int),((sIx n n hi:Nat):Int)):=by
 have h1:¬((1:Int) < 0):=by omega
 unfold Builtin.Slice.sliceAdjust;simp only [h1,if_false];refine Prod.ext ?_ ?_
 ·cases lo with
  | none=>rfl
  | some v=>exact Qml v n 0
 ·cases hi with
  | none=>rfl
  | some v=>exact Qml v n n
theorem QmF (i j:Nat):Builtin.Slice.slicePlaces (i:Int) (j:Int) 1=j - i:=by
 unfold Builtin.Slice.slicePlaces
 have h1:(1:Int) > 0:=by omega
 simp only [h1,if_true,Int.ediv_one]
 split <;> omega
theorem Qjp {v:Value}{o:Option Int}{Q:Option Int→Shared→Prop} (p:IsPart v o) (h:Q o s):wpAny (model prog w) A (Builtin.Slice.slicePartIndex v) Q E s:=by
 cases p with
 | none=>exact slicePart_none h
 | int i t=>exact slicePart_int h
theorem sliceApplied_gen {sl:Addr}{vl vu:Value}{lo hi:Option Int}{n:Nat}{Q:Int×Int×Nat→Shared→Prop} (hs:s.heap.IsSliceOf sl vl vu .none) (pl:IsPart vl lo) (pu:IsPart vu hi)
  (h:Q (((sIx n 0 lo:Nat):Int),1,sIx n n hi - sIx n 0 lo) s):wpAny (model prog w) A (Builtin.Slice.sliceApplied (.ref sl) (pure (n:Int))) Q E s:=by
 obtain ⟨os,hos,hcs,hds⟩:=id hs;unfold Builtin.Slice.sliceApplied Builtin.Slice.sliceFields;refine za (za (wpAny_field hos hds (x:=vl) rfl (za (wpAny_field hos hds (x:=vu) rfl (za (wpAny_field hos hds (x:=.none) rfl (zb ?_)))))));refine za (slicePart_none ?_);show wpAny _ _ (if ((1:Int) == 0)=true then _ else _) _ _ s;rw [if_neg (by decide)];refine za (Qjp pl (za (Qjp pu (za (zb ?_)))));show wpAny _ _ (match Builtin.Slice.sliceAdjust lo hi 1 (n:Int) with | (lo,hi)=>pure (lo,(1:Int),Builtin.Slice.slicePlaces lo hi 1)) _ _ s;rw [QmX lo hi n];show wpAny _ _ (pure (((sIx n 0 lo:Nat):Int),(1:Int),Builtin.Slice.slicePlaces ((sIx n 0 lo:Nat):Int) ((sIx n n hi:Nat):Int) 1)) _ _ s
 rw [QmF];exact zb h
theorem QoY (xs:Array Value) (i k:Nat):((List.range k).filterMap fun (m:Nat)=>xs[((i:Int)+(m:Int) * 1).toNat]?).toArray=((xs.toList.drop i).take k).toArray:=by
 have e:(fun (m:Nat)=>xs[((i:Int)+(m:Int) * 1).toNat]?)=fun m=>xs[i+m]?:=by
  funext m
  have:((i:Int)+(m:Int) * 1).toNat=i+m:=by omega
  rw [this]
 rw [e]
 have:=pick_run xs i k
 rw [List.filterMap_map] at this
 have e2:((fun x=>xs[x]?) ∘ fun x=>i+x)=fun m=>xs[i+m]?:=rfl
 rw [e2] at this;rw [this]
theorem getItem_tuple_cut {t sl:Addr}{items:Array Value}{vl vu:Value}{lo hi:Option Int}{Q:Value→Shared→Prop} (ht:IsTup s.heap t items) (hs:s.heap.IsSliceOf sl vl vu .none) (pl:IsPart vl lo) (pu:IsPart vu hi)
  (hw:¬(sIx items.size 0 lo=0∧sIx items.size items.size hi=items.size))
  (h:Q (.ref s.heap.objs.size) { s with heap:=s.heap.push { cls:=.type "tuple",data:=.seq ((items.toList.drop (sIx items.size 0 lo)).take (sIx items.size items.size hi - sIx items.size 0 lo)).toArray } })
  (hsz:items.size≤sizeLine):wpAny (model prog w) A (getItem (.ref t) (.ref sl)) Q E s:=by
 have htake:sizeOk (.seq ((items.toList.drop (sIx items.size 0 lo)).take (sIx items.size items.size hi - sIx items.size 0 lo)).toArray):=by
  show ((items.toList.drop (sIx items.size 0 lo)).take (sIx items.size items.size hi - sIx items.size 0 lo)).toArray.size≤sizeLine;rw [zl,List.length_take,List.length_drop,Array.length_toList];omega
 have hj:sIx items.size items.size hi≤items.size:=sIx_le _ _ (zc _) hi;obtain ⟨os,hos,hcs,hds⟩:=id hs;have hTs:s.TypeIs (.ref sl) "slice":=⟨os,hos,hcs⟩;unfold getItem
 try with_reducible refine zV ?_
 first | refine za (zb ?_) | skip
 refine za (wpAny_sequenceKey ht.typeIs (by decide) ?_)
 refine za (wpAny_callSpecial?_slot (name:=Str.ofString "__getitem__") ht.typeIs PyProof.Rows.slot_tuple_getitem
  (wpAny_call_entry PyProof.Rows.slot_tuple_getitem ht.typeIs entry_tuple_getitem ?_ (args_tuple_getitem _ _)))
 show wpAny _ _ (Builtin.Tuple.tupleItemsOf (.ref t) >>= _) _ _ s;refine za (tupleItemsOf_ ht ?_);refine za (wpAny_typeOf hTs ?_);rw [if_pos (by decide)];refine za (sliceApplied_gen hs pl pu ?_)
 have hno:¬((((sIx items.size 0 lo:Nat):Int) == 0&&(1:Int) == 1&&(sIx items.size items.size hi - sIx items.size 0 lo) == items.size)=true):=by
  intro q;rw [zg,zg] at q;have q1:((sIx items.size 0 lo:Nat):Int)=0:=eq_of_beq q.1.1;have q2:sIx items.size items.size hi - sIx items.size 0 lo=items.size:=eq_of_beq q.2;exact hw ⟨by omega,by omega⟩
 show wpAny _ _ (if (((sIx items.size 0 lo:Nat):Int) == 0&&(1:Int) == 1&&(sIx items.size items.size hi - sIx items.size 0 lo) == items.size)=true then _ else _) _ _ s;rw [if_neg hno,QoY]
 first
  | exact za (m:=Builtin.Tuple.tupleExact _) (wpAny_newObj_type (zb ⟨_,rfl,zb h⟩) htake)
  | exact za (m:=Builtin.Tuple.tupleExact _) (wpAny_newObj_type (za (zb (zb ⟨_,rfl,zb h⟩))) htake)
  | exact za (za (m:=Builtin.Tuple.tupleExact _) (wpAny_newObj_type (zb (zb ⟨_,rfl,zb h⟩)) htake))
  | exact za (za (m:=Builtin.Tuple.tupleExact _) (wpAny_newObj_type (zb ⟨_,rfl,zb h⟩) htake))
end
end HT
namespace L2
open PySem PySem.Spec PyProof.Rows
abbrev TO:=St→Hp→(Option Int→Hp→Prop)→Prop
def PO (X:Cx) (e:Option Expr) (t:TO):Prop :=
 ∀(pins:List (Addr×Obj)) (s:Shared) (σ:St) (H:Hp) (Q:Option Int→Hp→Prop),Inv X pins σ H s→t σ H Q →
  wpAny (model X.prog X.w) X.A (evalPart e X.env) (fun u s'=>∃o H',Inv X pins σ H' s'∧IsPart u o∧Q o H') X.xe s
def QqU:TO:=fun _ H Q=>Q none H
def QtG (t:TE):TO:=fun σ H Q=>t σ H fun x H1=>∃i,x = .int i∧Q (some i) H1
section
variable {X:Cx}{e:Expr}{te:TE}{lo hi:Option Expr}{tl th:TO}{pos p2:Pos}
theorem Qrh:PO X none QqU:=by
 intro pins s σ H Q I h;rw [evalPart_none];exact zb ⟨none,H,I,.none,h⟩
theorem QqA (h:PE X e te):PO X (some e) (QtG te):=by
 intro pins s σ H Q I hw;rw [evalPart_some]
 refine thn (h pins s σ H _ I hw) fun u s1 ⟨x,H1,I1,r1,q1⟩=>?_
 obtain ⟨i,rfl,q⟩:=q1;obtain ⟨t,rfl⟩:=r1;exact ⟨some i,H1,I1,.int i t,q⟩
def SlR (X:Cx) (r:V→Option Int→Option Int→Hp→VK→Prop):Prop :=
 ∀(pins:List (Addr×Obj)) (s:Shared) (σ:St) (H:Hp) (x:V) (v vl vu:Value) (lo hi:Option Int) (sl:Addr) (Q:VK),Inv X pins σ H s→RelV x v→s.heap.IsSliceOf sl vl vu .none→IsPart vl lo→IsPart vu hi→r x lo hi H Q →
  ∃T id,typeLookup (.type T) "__getitem__" = pure (some (.builtin id))∧s.TypeIs v T∧wpAny (model X.prog X.w) X.A (getItem v (.ref sl)) (EP X pins σ Q) X.xe s
def tSl (r:V→Option Int→Option Int→Hp→VK→Prop) (te:TE) (tl th:TO):TE:=fun σ H Q=>te σ H fun x H1=>tl σ H1 fun l H2=>th σ H2 fun u H3=>r x l u H3 Q
theorem Qo3 {r:V→Option Int→Option Int→Hp→VK→Prop} (hr:SlR X r) (he:PE X e te) (hl:PO X lo tl) (hu:PO X hi th):PE X (.Subscript e (.Slice lo hi none p2) pos) (tSl r te tl th):=by
 intro pins s σ H Q I h;refine Subscript_ (thn (he pins s σ H _ I h) fun v s1 ⟨x,H1,I1,r1,q1⟩=>?_);refine wpAny_Slice (thn (hl pins s1 σ H1 _ I1 q1) fun vl s2 ⟨l,H2,I2,pl,q2⟩=>thn (hu pins s2 σ H2 _ I2 q2) fun vu s3 ⟨u,H3,I3,pu,q3⟩=>?_);rw [evalPart_none];refine zb ?_
 have I4:Inv X pins σ H3 { s3 with heap:=s3.heap.push { cls:=.type "slice",data:=.fields #[vl,vu,.none] } }:=I3.kept (t':=s3.toks) fun b ob q=>zq _ q
 obtain ⟨T,id,hT,ht,hg⟩:=hr pins { s3 with heap:=s3.heap.push { cls:=.type "slice",data:=.fields #[vl,vu,.none] } } σ H3 x v vl vu l u s3.heap.objs.size Q I4 r1 (Heap.IsSliceOf.new ..) pl pu q3;show wpAny (model X.prog X.w) X.A (subscriptTail e (.Slice lo hi none p2) v (.ref s3.heap.objs.size)) (EP X pins σ Q) X.xe { s3 with heap:=s3.heap.push { cls:=.type "slice",data:=.fields #[vl,vu,.none] } };exact tail_any (ops:=[.ref s3.heap.objs.size,v]) ht hT hg (by with_unfolding_all rfl)
def QgT (xs:List V) (lo hi:Option Int):List V:=(xs.drop (HT.sIx xs.length 0 lo)).take (HT.sIx xs.length xs.length hi - HT.sIx xs.length 0 lo)
theorem QiD (xs:List V) (lo hi:Option Int):(QgT xs lo hi).length≤xs.length:=by
 unfold QgT;rw [List.length_take,List.length_drop];omega
def QuX (K:PySem.W.Frag):V→Option Int→Option Int→Hp→VK→Prop:=fun x lo hi H Q=>∃a xs,x = .ref a∧SqT K H a xs ∧
 ¬(HT.sIx xs.length 0 lo=0∧HT.sIx xs.length xs.length hi=xs.length)∧∀p,H p=none→Q (.ref p) (upd H p (.tup (QgT xs lo hi)))
theorem Qs0:SlR X (QuX X.K):=by
 intro pins s σ H x v vl vu lo hi sl Q I rx hs pl pu h;obtain ⟨a,xs,rfl,hx,hw,q⟩:=h;cases rx;obtain ⟨its,r,ht,hz⟩:=I.tuple hx
 have hlen:its.toArray.size=xs.length:=by rw [zl]; exact r.length.symm
 refine ⟨"tuple",_,PyProof.Rows.slot_tuple_getitem.lookup,ht.typeIs,?_⟩;refine HT.getItem_tuple_cut ht hs pl pu (by rw [hlen]; exact hw) ?_ (by rw [hlen]; exact hz);rw [hlen];refine ⟨.ref s.heap.objs.size,_,I.laid (t':=s.toks) (o:=.tup (QgT xs lo hi)) (fun b ob q=>zq _ q) (zc _) ?_,rfl,q _ (I.hok.fresh (zc _))⟩;exact ⟨zz (QiD xs lo hi) hz,_,(r.drop (HT.sIx xs.length 0 lo)).take (HT.sIx xs.length xs.length hi - HT.sIx xs.length 0 lo),IsTup.new _ _⟩
def Qtp (K:PySem.W.Frag):R2:=fun x y H Q=>∃a b xs ys,x = .ref a∧y = .ref b∧SqT K H a xs∧SqT K H b ys∧xs≠[]∧xs.length+ys.length≤sizeLine ∧
 (ys = []→Q (.ref a) H)∧(ys≠[]→∀p,H p=none→Q (.ref p) (upd H p (.tup (xs++ys))))
theorem Qar.nil_iff {xs:List V}{us:List Value} (r:Qar xs us):us = []↔xs = []:=by
 cases r with
 | nil=>simp
 | cons _ _=>simp
theorem Qrk:OpR X (binaryOp .Add) (Qtp X.K):=by
 intro pins s σ H x y v u Q I rx ry h;obtain ⟨a,b,xs,ys,rfl,rfl,ha,hb,hx,hz,q1,q2⟩:=h;cases rx;cases ry;obtain ⟨its,r1,p1,_⟩:=I.tuple ha;obtain ⟨its2,r2,p2,_⟩:=I.tuple hb;refine HT.cat_tup p1 p2 (fun z=>hx (r1.nil_iff.mp z)) (fun z=>⟨.ref a,H,I,rfl,q1 (r2.nil_iff.mp z)⟩) (fun z=>?_) (by rw [←r1.length,←r2.length]; exact hz);refine ⟨.ref s.heap.objs.size,_,I.laid (t':=s.toks) (o:=.tup (xs++ys)) (fun b ob q=>zq _ q) (zc _) ?_,rfl,q2 (fun w=>z (r2.nil_iff.mpr w)) _ (I.hok.fresh (zc _))⟩;exact ⟨by rw [zw]; exact hz,_,r1.append r2,IsTup.new _ _⟩
end
def ixN (n:Nat) (i:Int):Option Nat:=if 0≤i then (if i < n then some i.toNat else none) else if -(n:Int)≤i then some (i+n).toNat else none
def atI {α:Type} (xs:List α) (i:Int):Option α:=(ixN xs.length i).bind fun j=>xs[j]?
theorem Qrg {n:Nat}{i:Int}{j:Nat} (h:ixN n i=some j):seqIndex? i n=some j∧j < n∧-(n:Int)≤i∧i < n:=by
 unfold ixN at h
 by_cases h0:0≤i
 ·rw [if_pos h0] at h
  by_cases h1:i < n
  ·rw [if_pos h1] at h;have e:i.toNat=j:=zM h;exact ⟨by rw [seqIndex_of h0 h1,e],by omega,by omega,h1⟩
  ·rw [if_neg h1] at h; cases h
 ·rw [if_neg h0] at h
  by_cases h1:-(n:Int)≤i
  ·rw [if_pos h1] at h;have e:(i+n).toNat=j:=zM h;exact ⟨by rw [seqIndex_neg (by omega) h1,e],by omega,h1,by omega⟩
  ·rw [if_neg h1] at h; cases h
theorem QjU {α:Type}{xs:List α}{i:Int}{v:α} (h:atI xs i=some v):∃j,seqIndex? i xs.length=some j∧xs[j]? = some v∧j < xs.length∧-(xs.length:Int)≤i∧i < xs.length:=by
 unfold atI at h
 cases e:ixN xs.length i with
 | none=>rw [e] at h; cases h
 | some j =>
  rw [e] at h;obtain ⟨h1,h2,h3,h4⟩:=Qrg e;exact ⟨j,h1,h,h2,h3,h4⟩
def Ql6 (b:Expr):Prop:=∀o i,subscripted b false o i=operate [o,i] (getItem o i)
def IxR (X:Cx) (r:R2):Prop :=
 ∀(value slice:Expr) (pins:List (Addr×Obj)) (s:Shared) (σ:St) (H:Hp) (x y:V) (v u:Value) (Q:VK),Inv X pins σ H s→RelV x v→RelV y u→r x y H Q →
  subscripted slice false v u=operate [v,u] (getItem v u)→wpAny (model X.prog X.w) X.A (subscriptTail value slice v u) (EP X pins σ Q) X.xe s
def MtR (X:Cx) (id:String) (r:V→List V→Hp→VK→Prop):Prop :=
 ∀(pins:List (Addr×Obj)) (s:Shared) (σ:St) (H:Hp) (x:V) (xs:List V) (v:Value) (us:List Value) (Q:VK),Inv X pins σ H s→RelV x v→Qar xs us→r x xs H Q →
  wpAny (model X.prog X.w) X.A (call (.builtin id) (v::us)) (EP X pins σ Q) X.xe s
section
variable {X:Cx}{a b:Expr}{ta tb:TE}{pos:Pos}
theorem QtK {r:R2} (hr:IxR X r) (ha:PE X a ta) (hb:PE X b tb) (hs:Ql6 b):PE X (.Subscript a b pos) (tOp r ta tb):=by
 intro pins s σ H Q I h;exact Subscript_ (Qpw ha hb I h fun v u s2 x y H2 I2 rx ry q=>hr a b pins s2 σ H2 x y v u Q I2 rx ry q (hs _ _))
def QuW (K:PySem.W.Frag):R2:=fun x y H Q=>∃p xs i v,x = .ref p∧y = .int i∧SqL K H p xs∧atI xs i=some v∧Q v H
def QuF (K:PySem.W.Frag):R2:=fun x y H Q=>∃p xs i v,x = .ref p∧y = .int i∧SqT K H p xs∧atI xs i=some v∧Q v H
def Qu7:R2:=fun x y H Q=>∃z i c,x = .str z∧y = .int i∧z.length≤sizeLine∧atI z.cps.toList i=some c∧Q (.str ⟨#[c]⟩) H
theorem Qqk:IxR X (QuW X.K):=by
 intro value slice pins s σ H x y v u Q I rx ry h hs;obtain ⟨p,xs,i,z,rfl,rfl,hq,he,q⟩:=h;cases rx;obtain ⟨t,rfl⟩:=ry;obtain ⟨its,r,pl,hz⟩:=I.list hq;obtain ⟨j,h1,h2,h3,h4,h5⟩:=QjU he;obtain ⟨w,ew,rw'⟩:=r.get h2;have hl:=r.length;have hn:=QhA;have fin:EP X pins σ Q w s:=⟨z,H,I,rw',q⟩
 by_cases h0:0≤i
 ·have hj:i.toNat=j:=by
   rw [seqIndex_of h0 h5] at h1;exact zM h1
  exact item_listR pl.isList h0 (by omega) (by rw [hj]; simpa using ew) fin hs
 ·have hj:(i+(its.toArray.size:Int)).toNat=j:=by
   rw [seqIndex_neg (by omega) h4] at h1;rw [zl,←hl];exact zM h1
  exact subscriptTail_builtinR (x:=w) pl.isList.typeIs slot_list_getitem.lookup
   (wpAny_getItem_list_neg (Q:=fun r s'=>r=w∧EP X pins σ Q r s') pl.isList (by omega) (by rw [zl] <;> omega) (by omega) (by rw [hj]; simpa using ew) ⟨rfl,fin⟩) hs
theorem Qsm:IxR X (QuF X.K):=by
 intro value slice pins s σ H x y v u Q I rx ry h hs;obtain ⟨p,xs,i,z,rfl,rfl,hq,he,q⟩:=h;cases rx;obtain ⟨t,rfl⟩:=ry;obtain ⟨its,r,pl,hz⟩:=I.tuple hq;obtain ⟨j,h1,h2,h3,h4,h5⟩:=QjU he;obtain ⟨w,ew,rw'⟩:=r.get h2;have hl:=r.length;have hn:=QhA;have fin:EP X pins σ Q w s:=⟨z,H,I,rw',q⟩;exact subscriptTail_builtinR (x:=w) pl.typeIs slot_tuple_getitem.lookup
  (getItem_tuple (j:=j) (Q:=fun r s'=>r=w∧EP X pins σ Q r s') pl (by omega) (by omega) (by rw [zl,←hl]; exact h1) (by simpa using ew) ⟨rfl,fin⟩) hs
theorem QsI:IxR X Qu7:=by
 intro value slice pins s σ H x y v u Q I rx ry h hs;obtain ⟨z,i,c,rfl,rfl,hz,he,q⟩:=h;obtain ⟨t,rfl⟩:=rx;obtain ⟨t',rfl⟩:=ry;obtain ⟨j,h1,h2,h3,h4,h5⟩:=QjU he
 have hl:z.cps.toList.length=z.length:=by simp [Str.length]
 rw [hl] at h1 h4 h5;have hn:=QhA
 exact tail_any (typeIs_str s z t) slot_str_getitem.lookup (getItem_str (c:=c) (by
  have e1:decide (i < -(2 ^ 63:Int))=false:=zt (by omega);have e2:decide (i≥2 ^ 63)=false:=zt (by omega)
  rw [e1,e2,Bool.or_false]) (by rw [h1]; simpa using h2) ⟨.str ⟨#[c]⟩,H,I.tok _,⟨_,rfl⟩,q⟩) hs
theorem Inv.lst {pins:List (Addr×Obj)}{σ:St}{H:Hp}{s:Shared}{p:Addr}{xs:List V} (I:Inv X pins σ H s) (h:H p=some (.lst xs)) :
  ∃(its:List Value) (n:Nat),Qar xs its∧s.heap.get? p=some { cls:=.type "list",data:=.seq its.toArray n }∧xs.length≤sizeLine:=by
 obtain ⟨z,its,n,r,e⟩:=I.hok p _ h;exact ⟨its,n,r,e,z⟩
theorem QhW (lo hi:Option Int) (n:Nat):(sliceBounds lo hi none n).1=((HT.sIx n 0 lo:Nat):Int)∧(sliceBounds lo hi none n).2.1=((HT.sIx n n hi:Nat):Int)∧(sliceBounds lo hi none n).2.2=1:=by
 refine ⟨?_,?_,rfl⟩
 ·cases lo with
  | none=>simp [sliceBounds,HT.sIx]
  | some i =>
   simp only [sliceBounds,HT.sIx,Option.getD_none,show (1:Int) > 0 by decide,if_true]
   by_cases h:i < 0
   ·simp only [h,if_true] <;> omega
   ·simp only [h,if_false] <;> omega
 ·cases hi with
  | none=>simp [sliceBounds,HT.sIx]
  | some i =>
   simp only [sliceBounds,HT.sIx,Option.getD_none,show (1:Int) > 0 by decide,if_true]
   by_cases h:i < 0
   ·simp only [h,if_true] <;> omega
   ·simp only [h,if_false] <;> omega
theorem Qkt (its:List Value) (lo hi:Option Int):slicePick its.toArray lo hi none=((its.drop (HT.sIx its.length 0 lo)).take (HT.sIx its.length its.length hi - HT.sIx its.length 0 lo)).toArray:=by
 obtain ⟨h1,h2,h3⟩:=QhW lo hi its.toArray.size;unfold slicePick;rw [h1,h2,h3]
 simp only [sliceRange_one,pick_run,zl] <;> rfl
def Qu2 (K:PySem.W.Frag):V→Option Int→Option Int→Hp→VK→Prop:=fun x lo hi H Q=>∃a xs,x = .ref a∧SqL K H a xs∧∀p,H p=none→Q (.ref p) (upd H p (.lst (QgT xs lo hi)))
theorem Qra:SlR X (Qu2 X.K):=by
 intro pins s σ H x v vl vu lo hi sl Q I rx hs pl pu h;obtain ⟨a,xs,rfl,hx,q⟩:=h;cases rx;obtain ⟨its,r,ht,hz⟩:=I.list hx;have hlen:=r.length;refine ⟨"list",_,slot_list_getitem.lookup,ht.isList.typeIs,?_⟩;refine wpAny_getItem_list_slice ht.isList hs pl pu .none (by simp) ?_ (by rw [zl] <;> omega);rw [Qkt,←hlen];refine ⟨.ref s.heap.objs.size,_,I.laid (t':=s.toks) (o:=.lst (QgT xs lo hi)) (fun b ob q=>zq _ q) (zc _) ?_,rfl,q _ (I.hok.fresh (zc _))⟩;exact ⟨zz (QiD xs lo hi) hz,_,0,(r.drop (HT.sIx xs.length 0 lo)).take (HT.sIx xs.length xs.length hi - HT.sIx xs.length 0 lo),zC _ rfl⟩
def QeI:V→Bool
 | .non=>true
 | .bl _=>true
 | .int _=>true
 | .str _=>true
 | _=>false
def eqV:V→V→Bool
 | .non,.non=>true
 | .bl a,.bl b=>a == b
 | .bl a,.int b=>(if a then 1 else 0) == b
 | .int a,.bl b=>a == (if b then 1 else 0)
 | .int a,.int b=>a == b
 | .str a,.str b=>a == b
 | _,_=>false
theorem Qtf {A:Around}{s:Shared}{y x:V}{u v:Value} (ry:RelV y u) (rx:RelV x v) (fy:QeI y=true) (fx:QeI x=true):SeqAt.EqAt A s u v (eqV y x):=by
 cases y with
 | non =>
  cases ry
  cases x with
  | non=>cases rx; exact SeqAt.EqAt.same _
  | bl b=>cases rx; exact SeqAt.EqAt.none_bool b
  | int b=>obtain ⟨t,rfl⟩:=rx; exact SeqAt.EqAt.none_int b t
  | str b=>obtain ⟨t,rfl⟩:=rx; exact SeqAt.EqAt.none_str b t
  | _=>exact absurd (show false=true from fx) zj
 | bl a =>
  cases ry
  cases x with
  | non=>cases rx; exact SeqAt.EqAt.bool_none a
  | bl b=>cases rx; exact SeqAt.EqAt.bool_bool a b
  | int b=>obtain ⟨t,rfl⟩:=rx; exact SeqAt.EqAt.bool_int a b t
  | str b=>obtain ⟨t,rfl⟩:=rx; exact SeqAt.EqAt.bool_str a b t
  | _=>exact absurd (show false=true from fx) zj
 | int a =>
  obtain ⟨t',rfl⟩:=ry
  cases x with
  | non=>cases rx; exact SeqAt.EqAt.int_none a t'
  | bl b=>cases rx; exact SeqAt.EqAt.int_bool a t' b
  | int b=>obtain ⟨t,rfl⟩:=rx; exact SeqAt.EqAt.int_int a t' b t
  | str b=>obtain ⟨t,rfl⟩:=rx; exact SeqAt.EqAt.int_str a t' b t
  | _=>exact absurd (show false=true from fx) zj
 | str a =>
  obtain ⟨t',rfl⟩:=ry
  cases x with
  | non=>cases rx; exact SeqAt.EqAt.str_none a t'
  | bl b=>cases rx; exact SeqAt.EqAt.str_bool a t' b
  | int b=>obtain ⟨t,rfl⟩:=rx; exact SeqAt.EqAt.str_int a t' b t
  | str b=>obtain ⟨t,rfl⟩:=rx; exact SeqAt.EqAt.str_str a t' b t
  | _=>exact absurd (show false=true from fx) zj
 | _=>exact absurd (show false=true from fy) zj
def eqU (x:V) (u:Value):Bool:=match u with
 | .none=>eqV .non x
 | .bool b=>eqV (.bl b) x
 | .int i _=>eqV (.int i) x
 | .str z _=>eqV (.str z) x
 | _=>false
theorem QnB {x y:V}{u:Value} (r:RelV y u) (f:QeI y=true):eqU x u=eqV y x:=by
 cases y with
 | non=>cases r; rfl
 | bl b=>cases r; rfl
 | int i=>obtain ⟨t,rfl⟩:=r; rfl
 | str z=>obtain ⟨t,rfl⟩:=r; rfl
 | _=>exact absurd (show false=true from f) zj
theorem QjO {x:V}:∀{xs:List V}{us:List Value},Qar xs us→xs.all QeI=true→us.any (eqU x)=xs.any fun y=>eqV y x
 | _,_,.nil,_=>rfl
 | y::xs,u::us,.cons r t,f=>by
  rw [List.all_cons,zg] at f;rw [List.any_cons,List.any_cons,QnB r f.1,QjO t f.2]
theorem QiH {A:Around}{s:Shared}{x:V}{v:Value} (rx:RelV x v) (fx:QeI x=true):∀{xs:List V}{us:List Value},Qar xs us→xs.all QeI=true→∀u∈us,SeqAt.EqAt A s u v (eqU x u)
 | _,_,.nil,_=>fun u hu=>by cases hu
 | y::xs,u::us,.cons r t,f=>fun u' hu=>by
  rw [List.all_cons,zg] at f
  rcases zn.mp hu with rfl | hu
  ·rw [QnB r f.1]; exact Qtf r rx f.1 fx
  ·exact QiH rx fx t f.2 u' hu
def inV (x:V) (xs:List V):Bool:=xs.any fun y=>eqV y x
def rIn (K:PySem.W.Frag) (neg:Bool):R2:=fun x y H Q=>∃p xs,y = .ref p∧(SqL K H p xs∨SqT K H p xs)∧QeI x=true∧xs.all QeI=true∧Q (.bl (if neg then !inV x xs else inV x xs)) H
theorem Qov:OpR X (compareOp .In) (rIn X.K false):=by
 intro pins s σ H x y v u Q I rx ry h;obtain ⟨p,xs,rfl,hq,fx,fs,q⟩:=h;cases ry
 rcases hq with hq | hq
 ·obtain ⟨its,r,pl,hz⟩:=I.list hq;refine SeqAt.in_listAt (eqU x) pl.isList (fun w hw=>QiH rx fx r fs w (by simpa using hw)) ⟨.bl _,H,I,rfl,?_⟩;rw [show its.toArray.any (eqU x)=its.any (eqU x) by simp,QjO r fs];exact q
 ·obtain ⟨its,r,pl,hz⟩:=I.tuple hq;refine SeqAt.in_tupleAt (eqU x) pl (fun w hw=>QiH rx fx r fs w (by simpa using hw)) ⟨.bl _,H,I,rfl,?_⟩;rw [show its.toArray.any (eqU x)=its.any (eqU x) by simp,QjO r fs];exact q
theorem Qhr:Qio X (.type "list") (fun xs H Q=>∃p ys,xs = [.ref p]∧(SqL X.K H p ys∨SqT X.K H p ys)∧∀l,H l=none→Q (.ref l) (upd H l (.lst ys))):=by
 intro pins s σ H xs us Q I r h;obtain ⟨p,ys,rfl,hq,q⟩:=h;obtain ⟨u,rfl,rx⟩:=vals1 r;cases rx;have fin:∀(its:List Value),Qar ys its→ys.length≤sizeLine→∀(h':Heap) (c':Nat),(∀b o',s.heap.get? b=some o'→h'.get? b=some o') →
   h'.get? s.heap.objs.size=some { cls:=.type "list",dict:=none,data:=.seq its.toArray c',slots:=#[] }→EP X pins σ Q (.ref s.heap.objs.size) { s with heap:=h' }:=fun its r' hz h' c' kp e =>
  ⟨.ref s.heap.objs.size,_,I.laid (t':=s.toks) kp (zc _) (show Qbx X.prog X.w _ h' _ (.lst ys) from ⟨hz,its,c',r',e⟩),rfl,q _ (I.hok.fresh (zc _))⟩
 rcases hq with hq | hq
 ·obtain ⟨its,r',pl,hz⟩:=I.list hq;have hlen:=r'.length;obtain ⟨o,ho,hc,n,hd⟩:=pl.isList;exact call_list_seq p (.inl rfl) ho hc hd (fun h' c' kp e=>fin its r' hz h' c' kp e) (by simp only [zl] <;> omega)
 ·obtain ⟨its,r',pl,hz⟩:=I.tuple hq;have hlen:=r'.length;obtain ⟨o,ho,hc,n,hd⟩:=pl;exact call_list_seq p (.inr rfl) ho hc hd (fun h' c' kp e=>fin its r' hz h' c' kp e) (by simp only [zl] <;> omega)
def tyV (K:PySem.W.Frag) (T:String) (x:V) (H:Hp):Prop:=match x with
 | .str _=>T = "str"
 | .int _=>T = "int"
 | .ref p=>(T = "list"∧∃xs,SqL K H p xs)∨(T = "tuple"∧∃o,K.lookup p=some o∧o.cls = .type "tuple"∧o.dict=none) ∨
   (T = "dict"∧((∃kvs,H p=some (.dK kvs))∨∃kvs,H p=some (.dT kvs)))∨(T = "set"∧∃S n,H p=some (.set S n))
 | _=>False
theorem Qk5 {pins:List (Addr×Obj)}{σ:St}{H:Hp}{s:Shared}{T:String}{x:V}{v:Value} (I:Inv X pins σ H s) (r:RelV x v) (ty:tyV X.K T x H) :
  s.TypeIs v T∧∀a,v = .ref a→∃ob,s.heap.get? a=some ob∧ob.dict=none:=by
 cases x with
 | str z =>
  obtain ⟨t,rfl⟩:=r;cases (show T = "str" from ty);exact ⟨typeIs_str s z t,fun _ e=>nomatch e⟩
 | int i =>
  obtain ⟨t,rfl⟩:=r;cases (show T = "int" from ty);exact ⟨typeIs_int s i t,fun _ e=>nomatch e⟩
 | ref p =>
  cases r
  rcases ty with ⟨rfl,xs,hq⟩ | ⟨rfl,o,hk,hc,hd⟩ | ⟨rfl,hk⟩ | ⟨rfl,S,n,hk⟩
  ·obtain ⟨its,_,pl,_⟩:=I.list hq;refine ⟨pl.isList.typeIs,fun a e=>?_⟩;cases e;obtain ⟨o,n,e,c,hd,_⟩:=pl;exact ⟨o,e,hd⟩
  ·refine ⟨⟨o,I.kIn p o hk,hc⟩,fun a e=>?_⟩;cases e;exact ⟨o,I.kIn _ o hk,hd⟩
  ·have z:∃o,s.heap.get? p=some o∧o.ExactDict:=by
    rcases hk with ⟨kvs,hk⟩ | ⟨kvs,hk⟩
    ·obtain ⟨_,_,_,_,o,_,_,e,ex,_⟩:=I.hok p _ hk;exact ⟨o,e,ex⟩
    ·obtain ⟨_,_,_,_,o,_,_,e,ex,_⟩:=I.hok p _ hk;exact ⟨o,e,ex⟩
   obtain ⟨o,e,ex⟩:=z;refine ⟨⟨o,e,ex.1⟩,fun a e2=>?_⟩;cases e2;exact ⟨o,e,ex.2.1⟩
  ·obtain ⟨o,_,_,_,e,ex,_⟩:=I.hok p _ hk;refine ⟨⟨o,e,ex.1⟩,fun a e2=>?_⟩;cases e2;exact ⟨o,e,ex.2.1⟩
 | _=>exact False.elim ty
def QuD (K:PySem.W.Frag) (T:String) (r:V→List V→Hp→VK→Prop) (to:TE):TE:=fun σ H Q=>to σ H fun x H1=>tyV K T x H1∧r x [] H1 Q
def tBM (K:PySem.W.Frag) (T:String) (r:V→List V→Hp→VK→Prop) (to:TE) (t:TA):TE:=fun σ H Q=>to σ H fun x H1=>tyV K T x H1∧t σ H1 fun xs H2=>r x xs H2 Q
variable {o e:Expr}{es:List Expr}{to:TE}{t:TA}{name:Str}{apos cpos:Pos}{T id:String}{r:V→List V→Hp→VK→Prop}
theorem QrX (pa:PlainAttrs T) (slot:Slot T name id) (hty:typeOf (.builtin id)=pure (.type "method_descriptor")) (hm:MtR X id r) (ho:PE X o to)
  (hbase:attributeBase o name X.env (eval o X.env)=eval o X.env:=by rfl) (hline:(apos.endLine == cpos.line)=true:=by rfl):PE X (.Call (.Attribute o name apos) [] [] cpos) (QuD X.K T r to):=by
 intro pins s σ H Q I h;refine wpAny_Call_method0_late hbase hline (thn (ho pins s σ H _ I h) fun v s1 ⟨x,H1,I1,r1,ty,q1⟩=>?_);obtain ⟨h1,h2⟩:=Qk5 I1 r1 ty;exact ⟨T,id,pa,slot,hty,h1,h2,Calls.callWith_builtin rfl (PySem.evalArgs_none (hm pins s1 σ H1 x [] v [] Q I1 r1 .nil q1))⟩
theorem QfW (pa:PlainAttrs T) (slot:Slot T name id) (hty:typeOf (.builtin id)=pure (.type "method_descriptor")) (hm:MtR X id r) (ho:PE X o to) (ha:PA X (e::es) t)
  (hbase:attributeBase o name X.env (eval o X.env)=eval o X.env:=by rfl)
  (hfew:((backTo cpos (starEach (e::es) X.env)).all (fun x=>!x.1)&&(backToKw cpos (keywordEach [] X.env)).all (fun x=>x.1.isSome)
   && decide ((e::es).length+([]:List Keyword).length+(if ([]:List Keyword).isEmpty then 0 else 1) < 30))=true:=by rfl)
  (hline:(apos.endLine == cpos.line)=true:=by rfl) (hs:starEach (e::es) X.env=(false,eval e X.env)::starEach es X.env:=by rfl) (hplain:(backTo cpos (starEach es X.env)).any (·.1)=false:=by rfl) :
  PE X (.Call (.Attribute o name apos) (e::es) [] cpos) (tBM X.K T r to t):=by
 intro pins s σ H Q I h;refine wpAny_Call_method_late hbase hfew hline rfl (thn (ho pins s σ H _ I h) fun v s1 ⟨x,H1,I1,r1,ty,q1⟩=>?_);obtain ⟨h1,h2⟩:=Qk5 I1 r1 ty;refine ⟨T,id,pa,slot,hty,h1,h2,?_⟩;have hA:=ha cpos pins s1 σ H1 _ I1 q1;rw [hs] at hA ⊢;refine Calls.callWith_builtin (by show (false || (backTo cpos (starEach es X.env)).any (·.1))=false; rw [hplain] <;> rfl) (Calls.evalArgs_plain ?_)
 exact thn hA fun us s2 ⟨vs,H2,I2,r2,q2⟩=>hm pins s2 σ H2 x vs v us Q I2 r1 r2 q2
/- xs.append(e),list.index on a module's tuple .. are MtR facts of 06m -/
end
def MtM (X:Cx) (id:String) (r:V→List V→Hp→VK→Prop):Prop :=
 ∀(pins:List (Addr×Obj)) (s:Shared) (σ:St) (H:Hp) (x:V) (xs:List V) (v:Value) (us:List Value) (Q:VK),Inv X pins σ H s→RelV x v→Qar xs us→r x xs H Q →
  wpAny (model X.prog X.w) X.A (call (.builtin id) (v::us)) (EP X pins σ Q) X.xe s
theorem Qar.one:∀{x:V}{us:List Value},Qar [x] us→∃u,us = [u]∧RelV x u
 | _,_,.cons r .nil=>⟨_,rfl,r⟩
theorem Qar.zero:∀{us:List Value},Qar [] us→us = []
 | _,.nil=>rfl
theorem Qar.rep {xs:List V}{us:List Value} (h:Qar xs us):∀k:Nat,Qar (List.replicate k xs).flatten (List.replicate k us).flatten
 | 0=>.nil
 | k+1=>by
  rw [List.replicate_succ,List.replicate_succ,List.flatten_cons,List.flatten_cons];exact Qar.append h (Qar.rep h k)
theorem foldl_rep (its:List Value):∀(k:Nat) (acc:List Value),
  List.foldl (fun x1 x2=>x1++x2) acc.toArray (List.replicate k its.toArray)=(acc++(List.replicate k its).flatten).toArray
 | 0,acc=>by simp
 | k+1,acc=>by
  have e:acc.toArray++its.toArray=(acc++its).toArray:=by simp
  have e2:(acc++its)++(List.replicate k its).flatten=acc++(List.replicate (k+1) its).flatten:=by
   rw [List.replicate_succ,List.flatten_cons,zS]
  rw [←e2,←foldl_rep its k (acc++its),←e,List.replicate_succ,List.foldl_cons]
section
variable {X:Cx}{pins:List (Addr×Obj)}{σ:St}{H:Hp}{s:Shared}{l b:Addr}{xs ys zs:List V}
theorem Inv.lset {its its':List Value}{n:Nat}{f:Array Value→Array Value}{t':Nat} (I:Inv X pins σ H s) (hH:H l=some (.lst xs))
  (e:s.heap.get? l=some { cls:=.type "list",data:=.seq its.toArray n }) (hf:f its.toArray=its'.toArray) (hv:Qar ys its') (hz:ys.length≤sizeLine) :
  Inv X pins σ (upd H l (.lst ys)) { s with heap:=s.heap.update l (Obj.mapSeq f),toks:=t' }:=by
 have q:=PySem.IsL.update e f;rw [hf] at q;refine I.write (x:=l) (e:=l) (by rw [hH]; exact trivial) (.inl rfl) (fun b' u hb hu=>(Heap.get?_update_other s.heap (Obj.mapSeq f) (Ne.symm hb)).trans hu) ⟨_,q⟩ ?_;exact ⟨hz,its',_,hv,q⟩
theorem Inv.lnew {its:List Value}{t':Nat} (I:Inv X pins σ H s) (hv:Qar ys its) (hz:ys.length≤sizeLine) :
  Inv X pins σ (upd H s.heap.objs.size (.lst ys)) { s with heap:=s.heap.push { cls:=.type "list",data:=.seq its.toArray },toks:=t' } :=
 I.laid (fun _ _ q=>zq _ q) (zc _) ⟨hz,its,0,hv,zC _ rfl⟩
theorem Inv.fresh (I:Inv X pins σ H s):H s.heap.objs.size=none:=I.hok.fresh (zc _)
theorem Inv.lstM (I:Inv X pins σ H s) (hH:H l=some (.lst xs)):xs.length≤sizeLine∧∃(its:List Value) (n:Nat),Qar xs its∧xs.length=its.length∧s.heap.get? l=some { cls:=.type "list",data:=.seq its.toArray n }:=by
 obtain ⟨z,its,n,r,e⟩:=I.hok l _ hH;exact ⟨z,its,n,r,r.length,e⟩
theorem Qg2 {n:Nat} (h:n≤sizeLine):Builtin.List.listTooLong n=false:=by
 unfold Builtin.List.listTooLong;exact zt (by omega)
end
section
variable {X:Cx}
def Qrf:V→List V→Hp→VK→Prop:=fun x vs H Q=>∃l xs y,x = .ref l∧vs = [y]∧H l=some (.lst xs)∧xs.length < sizeLine∧Q .non (upd H l (.lst (xs ++ [y])))
theorem Qkd:MtM X "list.append" Qrf:=by
 intro pins s σ H x vs v us Q I rx rv h;obtain ⟨l,xs,y,rfl,rfl,hH,hz,q⟩:=h;cases rx;obtain ⟨u,rfl,ru⟩:=rv.one;obtain ⟨z,its,n,r,hl,e⟩:=I.lstM hH;refine call_meets F.slot_list_append ⟨_,e,rfl⟩ F.entry_list_append (F.args_list_append_2 _ _) (PySem.list_append l its.toArray n u (by rw [zl]; omega)) ⟨e,?_⟩;refine ⟨.non,_,I.lset (its':=its ++ [u]) hH e (by simp) (r.append (.cons ru .nil)) ?_,rfl,q⟩;rw [zw,jc];omega
def Qsp:V→List V→Hp→VK→Prop:=fun x vs H Q=>∃l xs,x = .ref l∧vs = []∧H l=some (.lst xs)∧Q .non (upd H l (.lst []))
theorem Qpd:MtM X "list.clear" Qsp:=by
 intro pins s σ H x vs v us Q I rx rv h;obtain ⟨l,xs,rfl,rfl,hH,q⟩:=h;cases rx;have hus:=rv.zero;subst hus;obtain ⟨z,its,n,r,hl,e⟩:=I.lstM hH;refine call_meets F.slot_list_clear ⟨_,e,rfl⟩ F.entry_list_clear (F.args_list_clear_1 _) (AutoSeq1.list_clear_list_0 l its.toArray n (by rw [zl]; omega)) ⟨e,?_⟩;exact ⟨.non,_,I.lset (its':=[]) (ys:=[]) hH e rfl .nil (Nat.zero_le _),rfl,q⟩
theorem len_rep {α:Type} (xs:List α) (k:Nat):(List.replicate k xs).flatten.length=k * xs.length:=by
 induction k with
 | zero=>simp
 | succ k ih=>rw [List.replicate_succ,List.flatten_cons,zw,ih,Nat.succ_mul,Nat.add_comm]
end
section
variable {prog:Program}{w:World}{A:Around}{E:Value→Shared→Prop}{s:Shared}
theorem QmW {a c n:Nat} (hac:a≤c) (hc:c≤n):sliceBounds (some (a:Int)) (some (c:Int)) none n=((a:Int),(c:Int),1):=by
 simp only [sliceBounds,Option.getD_none]
 have h1:¬((a:Int) < 0):=by omega
 have h2:¬((c:Int) < 0):=by omega
 simp only [h1,h2,if_false,show (1:Int) > 0 by decide,if_true];congr 1
 ·omega
 ·congr 1; omega
set_option maxRecDepth 100000 in
theorem Qru {l b sl:Addr}{items new:Array Value}{n n2:Nat}{vl vu:Value}{a c:Nat}{Q:Unit→Shared→Prop}
  (e:s.heap.get? l=some { cls:=.type "list",data:=.seq items n }) (e2:s.heap.get? b=some { cls:=.type "list",data:=.seq new n2 }) (hne:l≠b)
  (hs:s.heap.IsSliceOf sl vl vu .none) (pl:IsPart vl (some (a:Int))) (pu:IsPart vu (some (c:Int))) (hac:a≤c) (hc:c≤items.size)
  (hsz:items.size+new.size≤sizeLine) (h:Q () { s with heap:=s.heap.update l (Obj.mapSeq fun xs=>xs.extract 0 a++new++xs.extract c xs.size) }) :
  wpAny (model prog w) A (setItem (.ref l) (.ref sl) (.ref b)) Q E s:=by
 have hl:s.heap.IsList l items:=PySem.IsL.isList e;have hb:s.heap.IsList b new:=PySem.IsL.isList e2;obtain ⟨os,hos,hcs,hds⟩:=id hs;have hTs:s.TypeIs (.ref sl) "slice":=⟨os,hos,hcs⟩;have hstep:¬((rawPart none == rawInt 0)=true):=zj
 have hsame:Builtin.List.listSameRef (.ref l) (.ref b)=false:=by
  unfold Builtin.List.listSameRef;exact beq_eq_false_iff_ne.mpr hne
 have hmax:(max (a:Int) (c:Int)).toNat=c:=by omega
 have hz':((fun xs:Array Value=>xs.extract 0 a++new++xs.extract c xs.size) items).size≤sizeLine+1:=by
  simp only [Array.size_append,Array.size_extract];omega
 unfold setItem
 try with_reducible refine zV ?_
 first | refine za (zb ?_) | skip
 refine za (wpAny_sequenceKey hl.typeIs (by decide) ?_)
 refine za (wpAny_callSpecial?_slot (name:=Str.ofString "__setitem__") hl.typeIs slot_list_setitem
  (wpAny_call_entry slot_list_setitem hl.typeIs entry_list_setitem ?_ (args_list_setitem _ _ _)))
 show wpAny _ _ (Builtin.List.listSubscript? (.ref sl) >>= _) _ _ s;refine za ?_;unfold Builtin.List.listSubscript?;refine za (wpAny_specialOf hTs slice_no_index ?_);simp only [Option.isNone_none,if_true];refine zb ?_;show wpAny _ _ (typeOf (.ref sl) >>= _) _ _ s;refine za (wpAny_typeOf hTs ?_)
 first
  | rw [if_neg (by decide)]
  | refine PySem.W.KFB.if_not (by decide) ?_
 rw [listSliceParts_eq];refine za (za (wpAny_field hos hds (x:=.none) rfl (za (wpAny_listPart .none ?_))));rw [if_neg hstep];refine za (wpAny_field hos hds (x:=vl) rfl (za (wpAny_listPart pl ?_)));refine za (wpAny_field hos hds (x:=vu) rfl (za (wpAny_listPart pu (zb ?_))))
 first
  | simp only [hsame,Bool.false_eq_true,if_false]
  | refine PySem.W.KFB.if_not hsame ?_
  | (dsimp only
     rw [if_neg (by rw [hsame]; exact zj)])
 refine za (m:=Builtin.List.listAllItems (.ref b) "must assign iterable to extended slice") ?_;unfold Builtin.List.listAllItems;refine za (wpAny_typeOf hb.typeIs ?_)
 first
  | refine PySem.W.KFB.if_so (by decide) ?_
  | rw [if_pos (by decide)]
  | simp only [beq_self_eq_true,Bool.true_or,if_true]
 unfold Builtin.List.listItems;refine za (wpAny_seqItems e2 rfl (zb ?_));refine za (za (wpAny_seqItems e rfl (zb ?_)));refine za (wpAny_of_eq ((sliceIndices_raw (some (a:Int)) (some (c:Int)) none items.size (by simp)).trans (congrArg (pure:Int×Int×Int→Sem (Int×Int×Int)) (QmW hac hc))) ?_);show wpAny _ _ (if ((1:Int) == 1)=true then _ else _) _ _ s;rw [if_pos (by decide)];refine za (wpAny_rule ?_)
 first
  | simp only [Qg2 hsz,Bool.false_eq_true,if_false]
  | refine PySem.W.KFB.if_not (Qg2 hsz) ?_
 first | refine za (zb ?_) | skip
 show wpAny _ _ (updateSeq l (fun xs=>xs.extract 0 ((a:Int)).toNat++new++xs.extract (max (a:Int) (c:Int)).toNat xs.size) >>= _) _ _ s;rw [hmax,Int.toNat_natCast];refine za (wpAny_updateSeq (hz:=zz (jd _ _) hsz) (_hz':=hz') e rfl ?_);refine za (wpAny_letGo ?_)
 first
  | exact za (zb (zb ⟨.none,rfl,zb h⟩))
  | exact zb ⟨.none,rfl,zb h⟩
end
section
variable {X:Cx}
end
end L2
namespace Att
open PySem PySem.W PySem.Calls PyProof.Rows
theorem Qja {P:Params}{h:Heap}:∀(ns:List Int) (vs:List Value),WellAll P h vs (ns.map WData.int)→IntsAre vs ns:=by
 intro ns
 induction ns with
 | nil =>
  intro vs w;rw [zT] at w;cases w;exact .nil
 | cons n ns ih =>
  intro vs w;rw [zd] at w
  cases w with
  | cons a b =>
   cases a;exact .cons _ _ (ih _ b)
theorem Qol {l:OpenLaw}{n:Nat} (hn:l.most=some n) {P:Params}{h:Heap}{args:List WData}{vals:List Value}
  (hpre:l.row.toRowW.claim.pre args=true) (hwl:WellAll P h vals args) :
  ∃a vs ns,vals = [Value.ref a]∧args = [WData.list (ns.map WData.int)]∧h.get? a=some { cls:=.type "list",data:=.seq vs.toArray }∧IntsAre vs ns∧ns.length≤n:=by
 have hsh:WShape.hasAll [] args [.list .int]=true:=(pre_splitW hpre).1;have hc:l.pre.holds [] { args:=args }=true:=(pre_splitW hpre).2;obtain ⟨d,r,rfl,h1,h2⟩:=hasAllW_cons hsh;obtain rfl:=hasAllW_nil h2;obtain ⟨xs,rfl,h3⟩:=hasW_list h1;obtain ⟨ns,rfl⟩:=items_int h3
 have hlen:ns.length≤n:=by
  unfold OpenLaw.pre at hc
  have h4:(WTm.not (.lt (.lit (.int (n:Int))) (.len (.arg 0)))).holds [] { args:=[.list (ns.map .int)] }=true:=by
   have h4:=(holds_andW hc).1;rw [hn] at h4;exact h4
  have h5:=condW_of h4 (w_not (w_lt w_lit (w_len_list (w_arg rfl))));rw [zB] at h5
  refine Nat.le_of_not_lt fun q=>?_
  have q':(n:Int) < ((ns.length:Nat):Int):=by omega
  first
   | (rw [zK q'] at h5; exact absurd h5 (by decide))
   | (simp at h5; omega)
 cases hwl with
 | cons w1 w2 =>
  cases w2
  cases w1 with
  | list ho hall=>exact ⟨_,_,ns,rfl,rfl,ho,Qja ns _ hall,hlen⟩
theorem Qor (l:OpenLaw) (args:List WData):l.row.toRowW.claim.post args (.bool true) args=true :=
 postW_of (r:=l.row.toRowW) (X:=(true == true))
  (show WShape.has [] (.bool true) .bool=true by first | rfl | decide | simp [WShape.has,WShape.arms,WShape.armsAll])
  (show (WTm.eq .res (.lit (.bool true))).value [] { args:=args,res:=some (.bool true),after:=args }=some (.bool (true == true)) from w_eq_bool (w_res rfl) w_lit) rfl
theorem attach_call {l:OpenLaw}{n:Nat}{q:Program}{loose:List Str}{XP:(Str→Option Value)→Heap→Prop}{YP:World→Heap→Prop}{d:DefRec}
  (hn:l.most=some n) (hdf:d.params.defaults = [])
  (call:∀(w:World) (s₀ s₁:Shared) (mg mb:Str→Option Value) (fa:Addr) (o:Obj) (pm cd doc:Value) (a:Addr) (vs:List Value) (ns:List Int),
   Ground q loose [] XP w s₀ mg mb s₁.heap→YP w s₁.heap →
   s₁.heap.get? fa=some o→o.data = .func (docDef d.name d.params d.body d.scope pm cd doc)→s₁.heap.CodeRec cd d.name→mg d.name=some (.ref fa) →
   s₁.heap.get? a=some { cls:=.type "list",data:=.seq vs.toArray }→IntsAre vs ns→ns.length≤n→s₁.gens = #[] →
   codeAny (model l.prog w) callerA (.call (.ref fa) ⟨[.ref a],[]⟩) (fun r s'=>r = .ok (.ret (.bool true))∧OldK s₁.heap s'.heap∧s'.os=s₁.os∧AllBare s'.gens) s₁) :
  WalkO q loose XP YP l.row.toRowW d [] (fun f vs=>PySem.call f vs):=by
 intro w s₀ s₁ mg mb G Y fa o pm cd doc dV kV ho hd hcd hD hmg hg args vals as hpre hlay hrd hwl hlo;obtain rfl:dV = .none:=Dflts.none hD hdf;obtain rfl:kV = .none:=Dflts.noKw hD;obtain ⟨a,vs,ns,rfl,rfl,hobj,hints,hlen⟩:=Qol hn hpre hwl;refine enter_call (codeAny_mono (call w s₀ s₁ mg mb fa o pm cd doc a vs ns G Y ho (fd_plain hd) hcd hmg hobj hints hlen hg) fun r s' hq=>?_);obtain ⟨rfl,h2,h3,h4⟩:=hq;exact ⟨.inl ⟨.bool true,.bool true,[],rfl,fun _=>rfl,.bool true,Qor l _,fun _=>⟨List.Pairwise.nil,fun _ hm=>(nomatch hm)⟩⟩,h2,h3,h4⟩
section
variable {prog:Program}{w:World}{A:Around}{E:Value→Shared→Prop}{s:Shared}{K:Frag}
end
end Att
namespace L2
open PySem PySem.Spec PyProof.Rows
theorem Qhu:∀{vs:List Value}{ns:List Int},IntsAre vs ns→Qar (ns.map V.int) vs
 | _,_,.nil=>.nil
 | _,_,.cons n t h=>.cons ⟨t,rfl⟩ (Qhu h)
def QiF (H:Hp):Prop:=∀b,H b=none∨∃o xs,H b=some (.frz o (.lst xs))
theorem Qps {P:Program}{w:World}{K:PySem.W.Frag}{mg mb:Str→Option Value}{CX:CXT}{k:Nat}{fa a:Addr}{fd:FuncData}{x:Str}{sp:Sp}{s₁:Shared}{vs:List Value}{ns:List Int}
  (KX:K.In s₁.heap) (hns:s₁.heap.Ns mainGlobals mg) (hb:s₁.heap.Ns builtinsNs mb) (hbb:∀x:Str,x≠"__name__"→mb x=bootBuiltins x) (hlim:s₁.heap.NoLimit) (hg:s₁.gens = #[])
  (ha:s₁.heap.get? a=some { cls:=.type "list",data:=.seq vs.toArray }) (hi:IntsAre vs ns) (hl:ns.length≤sizeLine) (hr:QaJ k callerA)
  (F:∀base:Heap,K.In base→base.Ns mainGlobals mg→Qbp P w K mg base CX k fa fd [x] sp) (hbind:∀(s:Shared) (u:Value),BindsTo s fd ⟨[u],[]⟩ [(x,u)])
  (hsp:∀H:Hp,QiF H→SqL K H a (ns.map V.int)→sp [.ref a] H (fun v _=>v = .bl true) fun _ _ _=>False)
  (hCX:∀H e s',CX [] H s₁ (fun _ _ _=>False) e s'→False) :
  codeAny (model P w) callerA (.call (.ref fa) ⟨[.ref a],[]⟩) (fun r s'=>r = .ok (.ret (.bool true))∧OldK s₁.heap s'.heap∧s'.os=s₁.os∧AllBare s'.gens) s₁:=by
 have rv:=Qhu hi;have lenV:=hi.length;have core:∀H:Hp,QiF H→SqL K H a (ns.map V.int)→HOk P w H s₁.heap→(∀b,H b≠none→b=a)→(H a≠none→K.lookup a=none) →
   codeAny (model P w) callerA (.call (.ref fa) ⟨[.ref a],[]⟩) (fun r s'=>r = .ok (.ret (.bool true))∧OldK s₁.heap s'.heap∧s'.os=s₁.os∧AllBare s'.gens) s₁:=by
  intro H hO hS hok hA hK
  have base_of:∀{b:Addr}{o:Obj},s₁.heap.get? b=some o→H b=none→(Qem s₁.heap H).get? b=some o:=fun e n=>QlP e n
  have noA:∀{b:Addr}{o:Obj}{es:Array DictEntry}{ep:Nat},s₁.heap.get? b=some o→o.data = .dict es ep→H b=none:=fun {b o es ep} e d=>by
   cases q:H b with
   | none=>rfl
   | some u =>
    have e':b=a:=hA b (by rw [q]; simp);subst e';rw [ha] at e; cases e;have d':Data.seq vs.toArray _=Data.dict es ep:=d;cases d'
  have nsK:∀{b:Addr}{m:Str→Option Value},s₁.heap.Ns b m→(Qem s₁.heap H).Ns b m:=fun {b m} ⟨o,es,ep,e,d,r⟩=>⟨o,es,ep,base_of e (noA e d),d,r⟩
  have hKb:K.In (Qem s₁.heap H):=fun b o e=>base_of (KX b o e) (by
   cases q:H b with
   | none=>rfl
   | some u =>
    have e':b=a:=hA b (by rw [q]; simp);subst e'
    rw [hK (by rw [q]; simp)] at e; cases e)
  have hM:Mod K mg (Qem s₁.heap H):=⟨hKb,nsK hns,⟨mb,nsK hb,hbb⟩,let ⟨mc,h1,h2⟩:=hlim; ⟨mc,nsK h1,h2⟩⟩;have e0:Qev P w K mg (Qem s₁.heap H) callerA [] s₁ H:=⟨rfl,hM,fun b o e=>Ql3 e,Nat.le_of_eq (Qkh _ _),trivial,fun b hb=>absurd (show b∈([]:List Addr) from hb) (by simp),hok,.of_eq hg⟩
  refine codeAny_mono ((F _ hKb (nsK hns)).run callerA [] s₁ H ⟨[.ref a],[]⟩ [.ref a] [.ref a] _ _ hr e0 (hbind s₁ (.ref a)) (.cons rfl .nil) (hsp H hO hS)) fun r s' h=>?_
  cases r with
  | error e=>exact (hCX H e s' h).elim
  | ok fl =>
   cases fl with
   | next=>exact False.elim h
   | brk=>exact False.elim h
   | cont=>exact False.elim h
   | ret u =>
    obtain ⟨v,H',os,bare,un,hok',r',q⟩:=h;have q':v = .bl true:=q;subst q';obtain rfl:u=Value.bool true:=r';refine ⟨rfl,OldK.of_keep fun b o e=>?_,os,bare⟩
    cases q:H b with
    | none=>exact un.keep b o e q (by intro z; exact absurd (show b∈([]:List Addr) from z) (by simp)) (by simp)
    | some u =>
     rcases hO b with z | ⟨ob,xs,z⟩
     ·rw [q] at z; cases z
     ·have z2:=un.frzs b ob _ z;obtain ⟨e1,_⟩:=hok b _ z;obtain ⟨e2,_⟩:=hok' b _ z2;rw [e] at e1; cases e1;exact e2
 cases hk:K.lookup a with
 | some o =>
  have e:=KX a o hk;rw [ha] at e;cases e
  refine core (fun _=>none) (fun _=>.inl rfl) (.inr ⟨_,vs.toArray,_,hk,rfl,rfl,rfl,by rw [zl,lenV]; exact hl,by simpa using rv⟩) (fun b u z=>by have z':(none:Option HO)=some u:=z; cases z') (fun b z=>absurd rfl z) fun z=>absurd rfl z
 | none =>
  refine core (fun b=>if b=a then some (.frz { cls:=.type "list",data:=.seq vs.toArray } (.lst (ns.map V.int))) else none) (fun b=>?_) (.inl (.inr ⟨{ cls:=.type "list",data:=.seq vs.toArray },if_pos rfl⟩)) (fun b u z=>?_) (fun b z=>?_) fun _=>hk
  ·by_cases hb:b=a
   ·exact .inr ⟨_,_,if_pos hb⟩
   ·exact .inl (if_neg hb)
  ·by_cases hb:b=a
   ·have z':=(if_pos hb).symm.trans z;cases z';subst hb;exact ⟨ha,by rw [zB]; exact hl,vs,_,rv,ha⟩
   ·have z':=(if_neg hb).symm.trans z;cases z'
  ·by_cases hb:b=a
   ·exact hb
   ·exact absurd (if_neg hb) z
abbrev KOf {K:PySem.W.Frag}{h:Heap} (_:K.In h):PySem.W.Frag:=K
theorem walk_of {l:PySem.W.OpenLaw}{n k:Nat}{q:Program}{loose:List Str}{XP:(Str→Option Value)→Heap→Prop}{YP:World→Heap→Prop}{d:DefRec}{K:Params→PySem.W.Frag}{CX:World→CXT}{sp:World→Sp}{x:Str}
  (hn:l.most=some n) (hn2:n≤sizeLine) (hdf:d.params.defaults = []) (hr:QaJ k callerA)
  (hY:∀(w:World) (h:Heap),YP w h→(K w.params).In h)
  (F:∀(w:World) (mg:Str→Option Value) (fa:Addr) (h:Heap),(K w.params).In h→h.Ns mainGlobals mg→mg d.name=some (.ref fa) →
   ∃fd:FuncData,(∀(s:Shared) (u:Value),BindsTo s fd ⟨[u],[]⟩ [(x,u)]) ∧
    ∀base:Heap,(K w.params).In base→base.Ns mainGlobals mg→Qbp l.prog w (K w.params) mg base (CX w) k fa fd [x] (sp w))
  (hsp:∀(w:World) (H:Hp) (a:Addr) (ns:List Int),ns.length≤n→QiF H→SqL (K w.params) H a (ns.map V.int)→sp w [.ref a] H (fun v _=>v = .bl true) fun _ _ _=>False)
  (hCX:∀(w:World) (H:Hp) (s:Shared) (e:Value) (s':Shared),CX w [] H s (fun _ _ _=>False) e s'→False) :
  PySem.W.WalkO q loose XP YP l.row.toRowW d [] (fun f vs=>PySem.call f vs):=by
 refine Att.attach_call hn hdf fun w s₀ s₁ mg mb fa o pm cd doc a vs ns G Y ho hd hcd hmg hobj hints hlen hg=>?_
 have KX:=hY w _ Y;obtain ⟨fd,hb,hF⟩:=F w mg fa _ KX G.T.g hmg
 exact Qps KX G.T.g G.T.b G.T.builtins G.T.nolimit hg hobj hints (zz hlen hn2) hr hF hb (fun H hO hS=>hsp w H a ns hlen hO hS) fun H e s'=>hCX w H s₁ e s'
end L2
/- THE LAST THEOREM (shape; LID,My.* are yours):
   My.Adr: a structure of the addresses that your layer names (classes,functions); My.Txt K t: a structure (Prop) of the equations over K;
   My.txt_mk:{K}{implicit addresses ..} (e1:nsIn K mainGlobals "law" = some (some (.ref f))) (e2:K.lookup f=some ⟨oc,od,.func (fnOf "law" "law" params body scope dV kV doc pm an cdv ct),sl⟩) (e3:codeIn K cdv "law" = true) ..:∃t,My.Txt K t
set_option maxRecDepth 100000 in
set_option maxHeartbeats 0 in
theorem PySem.Challenge.cw_LID_holds : PySem.Challenge.rw_LID.Holds := by
 w_on; o_law; k_head; (case hw=>w_witness2)
 k_fill
 refine L2.walk_of (l:=PySem.Challenge.rw_LID) (n:=63) (k:=40) (x:="script") (CX:=fun w=>..) (sp:=fun _=>My.sp_law) rfl (by decide) rfl ⟨rfl,by decide,by decide⟩ (fun w h Y=>PySem.W.kIn_of Y) ?F ?S ?C
 case F =>
  intro w mg fa h KX G hmg
  have T:∃t,My.Txt (L2.KOf KX) t:=by
   dsimp only [L2.KOf]                          -- K must stand as «<heap const> w.params» for k_is
   refine' My.txt_mk ?e1 ?e2 ?e3 ..
   (case e1=>PySem.W.k_is)                    -- in the order: a name -> its address -> its object -> its parts
   (case e2=>PySem.W.k_is)
   ..
  obtain ⟨t,T⟩:=T;have e0:=hmg.symm.trans (PySem.W.mg_of KX G T.law);cases e0                                       -- fa is the law's own address
  exact ⟨_,fun s u=>.of_eq rfl,fun base kb nb=>My.law_fn T kb nb⟩     -- if «.of_eq rfl» comes too early: refine' ⟨_,?b,fun base kb nb=>My.law_fn T kb nb⟩; exact fun s u=>.of_eq rfl
 case S=>exact fun w H a ns hl hO hS=>..
 case C=>exact ..
(the tactic k_is has no namespace: write k_is) -/
namespace L2
open PySem PySem.Spec PyProof.Rows
def inClass (s:Stmt) (j:Nat):Stmt:=match s with
 | .ClassDef _ _ _ body _ _ _ _ _ _ _=>body.getD j (.Pass ⟨0,0,0,0⟩)
 | _=>.Pass ⟨0,0,0,0⟩
def QbW (s:Stmt):Arguments:=match s with
 | .FunctionDef _ a _ _ _ _ _ _ _ _=>a
 | _=>{ posonlyargs:=[],args:=[],vararg:=none,kwonlyargs:=[],kw_defaults:=[],kwarg:=none,defaults:=[] }
def Qa4 (s:Stmt):List Stmt:=match s with
 | .FunctionDef _ _ b _ _ _ _ _ _ _=>b
 | _=>[]
def Qaj (s:Stmt):Scope:=match s with
 | .FunctionDef _ _ _ _ _ _ sc _ _ _=>sc
 | _=>{ kind:=.function,names:=[],isGenerator:=false,isCoroutine:=false }
abbrev CX0:CXT:=fun _ _ _ _ _ _=>False
abbrev E0:XK:=fun _ _ _=>False
theorem Qid {X:Cx}:QeM CX0 X E0:=fun _ _ _ _ _ _ _ h=>h.elim
structure Fun (K:PySem.W.Frag) (x qual:Str) (st:Stmt) (f:Addr) (fd:FuncData):Prop where
 ex:∃(oc:Value) (od:Option Addr) (kV doc pm:Value) (an:Option Addr) (cdv ct:Value) (osl:Array (Option Value)),
  fd=PySem.W.fnOf x qual (QbW st) (Qa4 st) (Qaj st) .none kV doc pm an cdv ct∧K.lookup f=some ⟨oc,od,.func fd,osl⟩∧PySem.W.codeIn K cdv qual=true
 kp:PySem.W.keepIn K (.ref f)=true
section
variable {P:Program}{w:World}{K:PySem.W.Frag}{mg:Str→Option Value}{base:Heap}
theorem Fun.ok {x qual:Str}{st:Stmt}{f:Addr}{fd:FuncData}{N ps:List Str}{k:Nat}{sp:Sp} (F:Fun K x qual st f fd) (S:Qay N ps (Qaj st)) (len:∀vs H Q E,sp vs H Q E→vs.length=ps.length)
  (hbody:∀(cdv:Value) (A:Around) (outer:List Env) (s:Shared) (H:Hp) (vs:List V) (Q:VK) (E:XK),QaJ k (A.deeper (envOfC qual (Qaj st) s.heap.objs.size f cdv))→sp vs H Q E →
   ∃t,PSs (Qdv CX0 P w K mg base N qual (Qaj st) f cdv A outer s H E).nox (Qa4 st) t∧t { nx:=fun _ H'=>Q .non H',rt:=Q } (start N vs) H):Qbp P w K mg base CX0 (k+1) f fd ps sp:=by
 obtain ⟨oc,od,kV,doc,pm,an,cdv,ct,osl,rfl,lk,hcd⟩:=F.ex
 refine Qp1 lk hcd S len fun A outer s H vs Q E hr hsp=>?_
 obtain ⟨t,h,q⟩:=hbody cdv A outer s H vs Q E hr hsp;exact ⟨t,h.nox,q⟩
theorem Fun.binds {x qual:Str}{st:Stmt}{f:Addr}{fd:FuncData}{ps:List Str} (F:Fun K x qual st f fd)
  (h:∀(kV doc pm:Value) (an:Option Addr) (cdv ct:Value) (us:List Value),us.length=ps.length→bindArgs (PySem.W.fnOf x qual (QbW st) (Qa4 st) (Qaj st) .none kV doc pm an cdv ct) ⟨us,[]⟩=pure (ps.zip us)):Binds K fd ps []:=by
 obtain ⟨oc,od,kV,doc,pm,an,cdv,ct,osl,rfl,lk,hcd⟩:=F.ex;exact .all (h kV doc pm an cdv ct)
theorem Qlh {x qual:Str}{st:Stmt}{f:Addr}{oc:Value}{od an:Option Addr}{osl:Array (Option Value)}{kV doc pm cdv ct:Value} (l:K.lookup f=some ⟨oc,od,.func (PySem.W.fnOf x qual (QbW st) (Qa4 st) (Qaj st) .none kV doc pm an cdv ct),osl⟩)
  (c:PySem.W.codeIn K cdv qual=true) (k:PySem.W.keepIn K (.ref f)=true):Fun K x qual st f (PySem.W.fnOf x qual (QbW st) (Qa4 st) (Qaj st) .none kV doc pm an cdv ct):=⟨⟨oc,od,kV,doc,pm,an,cdv,ct,osl,rfl,l,c⟩,k⟩
end
section
variable {X:Cx}
end
def Same (H H':Hp):Prop:=∀b o,H b=some o→H' b=some o
theorem Same.refl (H:Hp):Same H H:=fun _ _ h=>h
theorem Same.trans {H H1 H2:Hp} (a:Same H H1) (b:Same H1 H2):Same H H2:=fun c o h=>b c o (a c o h)
theorem Same.free {H H':Hp} (e:Same H H') {l:Addr} (h:H' l=Option.none):H l=Option.none:=by
 cases q:H l with
 | none=>rfl
 | some o =>
  rw [e l o q] at h;cases h
theorem Same.seq {K:PySem.W.Frag}{H H':Hp}{a:Addr}{xs:List V} (e:Same H H') (h:SqL K H a xs):SqL K H' a xs:=by
 rcases h with (h | ⟨o,h⟩) | h
 ·exact .inl (.inl (e _ _ h))
 ·exact .inl (.inr ⟨o,e _ _ h⟩)
 ·exact .inr h
section
variable {κ:Type} [DecidableEq κ]
def Qdt (kvs:List (κ×V)) (k:κ):Option V:=(kvs.find? fun kv=>decide (kv.1=k)).map (·.2)
def putK (kvs:List (κ×V)) (k:κ) (v:V):List (κ×V) :=
 if (kvs.any fun kv=>decide (kv.1=k))=true then kvs.map (fun kv=>if kv.1=k then (kv.1,v) else kv) else kvs ++ [(k,v)]
def QpW (kvs:List (κ×V)) (k:κ):List (κ×V):=kvs.filter fun kv=>decide (kv.1≠k)
theorem Qfy {p:κ×V}{r:List (κ×V)}{k:κ} (e:p.1=k):Qdt (p::r) k=some p.2:=by simp [Qdt,List.find?_cons,e]
theorem QfI {p:κ×V}{r:List (κ×V)}{k:κ} (e:¬p.1=k):Qdt (p::r) k=Qdt r k:=by simp [Qdt,List.find?_cons,e]
theorem Qla (k:κ):∀kvs:List (κ×V),(kvs.any fun kv=>decide (kv.1=k))=(Qdt kvs k).isSome
 | []=>rfl
 | p::r=>by
  rw [List.any_cons]
  by_cases e:p.1=k
  ·simp only [Qfy e,zK e,Bool.true_or,Option.isSome_some]
  ·rw [QfI e,zt e,Bool.false_or]; exact Qla k r
theorem Qdf.isSome_eq {o:Option V}{u:Option Value} (r:Qdf o u):o.isSome=u.isSome:=by
 cases o with
 | none=>cases u with
  | none=>rfl
  | some _=>exact (show False from r).elim
 | some _=>cases u with
  | none=>exact (show False from r).elim
  | some _=>rfl
theorem Qdf.getD {o:Option V}{u:Option Value}{d:V}{d':Value} (r:Qdf o u) (rd:RelV d d'):RelV (o.getD d) (u.getD d'):=by
 cases o with
 | none=>cases u with
  | none=>exact rd
  | some _=>exact (show False from r).elim
 | some _=>cases u with
  | none=>exact (show False from r).elim
  | some _=>exact r
theorem KV.val {kvs:List (κ×V)}{vs:List (κ×Value)} (r:KV kvs vs) (k:κ):Qdf (Qdt kvs k) (valueAt vs k):=by
 unfold KV at r
 induction r with
 | nil=>exact True.intro
 | @cons p q ps qs h t ih =>
  obtain ⟨h1,h2⟩:=h
  by_cases e:p.1=k
  ·have e':q.1=k:=h1.symm.trans e
   have b:valueAt (q::qs) k=some q.2:=by simp [valueAt,List.find?_cons,e']
   rw [Qfy e,b]; exact h2
  ·have e':¬q.1=k:=fun z=>e (h1.trans z)
   have b:valueAt (q::qs) k=valueAt qs k:=by simp [valueAt,List.find?_cons,e']
   rw [QfI e,b]; exact ih
theorem KV.any {kvs:List (κ×V)}{vs:List (κ×Value)} (r:KV kvs vs) (k:κ):(kvs.any fun kv=>decide (kv.1=k))=vs.any fun kv=>decide (kv.1=k):=by
 unfold KV at r
 induction r with
 | nil=>rfl
 | cons h t ih=>rw [List.any_cons,List.any_cons,ih,h.1]
theorem KV.repl {kvs:List (κ×V)}{vs:List (κ×Value)} (r:KV kvs vs) (k:κ) {y:V}{u:Value} (ry:RelV y u) :
  KV (kvs.map fun kv=>if kv.1=k then (kv.1,y) else kv) (vs.map fun kv=>if kv.1=k then (kv.1,u) else kv):=by
 unfold KV at r ⊢
 induction r with
 | nil=>exact .nil
 | @cons p q ps qs h t ih =>
  rw [zd,zd];refine .cons ?_ ih;obtain ⟨h1,h2⟩:=h
  by_cases e:p.1=k
  ·rw [if_pos e,if_pos (h1.symm.trans e)]; exact ⟨h1,ry⟩
  ·rw [if_neg e,if_neg (fun z=>e (h1.trans z))]; exact ⟨h1,h2⟩
theorem KV.put {kvs:List (κ×V)}{vs:List (κ×Value)} (r:KV kvs vs) (k:κ) {y:V}{u:Value} (ry:RelV y u):KV (putK kvs k y) (stored vs k u):=by
 unfold putK stored;rw [r.any k]
 by_cases e:(vs.any fun kv=>decide (kv.1=k))=true
 ·rw [if_pos e,if_pos e]; exact r.repl k ry
 ·rw [if_neg e,if_neg e]; exact Paired.snoc r ⟨rfl,ry⟩
theorem KV.drop {kvs:List (κ×V)}{vs:List (κ×Value)} (r:KV kvs vs) (k:κ):KV (QpW kvs k) (without vs k):=by
 unfold KV at r ⊢;unfold QpW without
 induction r with
 | nil=>exact .nil
 | @cons p q ps qs h t ih =>
  obtain ⟨h1,h2⟩:=h;rw [List.filter_cons,List.filter_cons]
  by_cases e:p.1=k
  ·have a:¬decide (p.1≠k)=true:=by simp [e]
   have b:¬decide (q.1≠k)=true:=by simp [h1.symm.trans e]
   rw [if_neg a,if_neg b]; exact ih
  ·have e':¬q.1=k:=fun z=>e (h1.trans z)
   have a:decide (p.1≠k)=true:=by simp [e]
   have b:decide (q.1≠k)=true:=by simp [e']
   rw [if_pos a,if_pos b]; exact .cons ⟨h1,h2⟩ ih
theorem KV.keys {kvs:List (κ×V)}{vs:List (κ×Value)} (r:KV kvs vs):kvs.map (·.1)=vs.map (·.1):=by
 unfold KV at r
 induction r with
 | nil=>rfl
 | cons h t ih=>rw [zd,zd,ih,h.1]
theorem KV.length {kvs:List (κ×V)}{vs:List (κ×Value)} (r:KV kvs vs):kvs.length=vs.length:=Paired.length r
end
abbrev KT (H:Hp):List (List Key×V)→List (List Key×Addr×Value)→Prop:=Paired fun p q=>p.1=q.1∧H q.2.1=some (.tup (p.1.map kV))∧RelV p.2 q.2.2
theorem KT.val {H:Hp}{kvs:List (List Key×V)}{xs:List (List Key×Addr×Value)} (r:KT H kvs xs) (k:List Key):Qdf (Qdt kvs k) ((atKey xs k).map (·.2)):=by
 induction r with
 | nil=>exact True.intro
 | @cons p q ps qs h t ih =>
  obtain ⟨h1,_,h2⟩:=h
  by_cases e:p.1=k
  ·have e':q.1=k:=h1.symm.trans e
   have b:atKey (q::qs) k=some q.2:=by simp [atKey,List.find?_cons,e']
   rw [Qfy e,b]; exact h2
  ·have e':¬q.1=k:=fun z=>e (h1.trans z)
   have b:atKey (q::qs) k=atKey qs k:=by simp [atKey,List.find?_cons,e']
   rw [QfI e,b]; exact ih
theorem KT.repl {H:Hp}{kvs:List (List Key×V)}{xs:List (List Key×Addr×Value)} (r:KT H kvs xs) (k:List Key) {y:V}{u:Value} (ry:RelV y u) :
  KT H (kvs.map fun kv=>if kv.1=k then (kv.1,y) else kv) (xs.map (putAt k u)):=by
 induction r with
 | nil=>exact .nil
 | @cons p q ps qs h t ih =>
  rw [zd,zd];refine .cons ?_ ih;obtain ⟨h1,h2,h3⟩:=h;unfold putAt
  by_cases e:p.1=k
  ·rw [if_pos e,if_pos (h1.symm.trans e)]; exact ⟨h1,h2,ry⟩
  ·rw [if_neg e,if_neg (fun z=>e (h1.trans z))]; exact ⟨h1,h2,h3⟩
theorem KT.put {H:Hp}{kvs:List (List Key×V)}{xs:List (List Key×Addr×Value)} (r:KT H kvs xs) (k:List Key) {b:Addr}{y:V}{u:Value} (hb:H b=some (.tup (k.map kV))) (ry:RelV y u) :
  KT H (putK kvs k y) (storedH xs k b u):=by
 have e:(kvs.any fun kv=>decide (kv.1=k))=(atKey xs k).isSome:=by
  rw [Qla,(r.val k).isSome_eq,Option.isSome_map]
 unfold putK storedH;rw [e]
 by_cases q:(atKey xs k).isSome=true
 ·rw [if_pos q,if_pos q]; exact r.repl k ry
 ·rw [if_neg q,if_neg q]; exact Paired.snoc r ⟨rfl,hb,ry⟩
theorem KT.keeps {H H':Hp}{kvs:List (List Key×V)}{xs:List (List Key×Addr×Value)} (r:KT H kvs xs) (ht:∀b ys,H b=some (.tup ys)→H' b=some (.tup ys)):KT H' kvs xs :=
 Paired.mapP r fun _ _ z=>⟨z.1,ht _ _ z.2.1,z.2.2⟩
section
variable {P:Program}{w:World}{H:Hp}{h:Heap}{a:Addr}
end
def QmZ (H:Hp) (a:Addr) (y:V) (r:Option V):Prop :=
 (∃kvs k,Rd H a (.dK kvs)∧y=kV k∧r=Qdt kvs k)∨∃kvs k b,Rd H a (.dT kvs)∧y = .ref b∧H b=some (.tup (k.map kV))∧r=Qdt kvs k
def Qnn (H:Hp) (a:Addr) (y v:V) (H':Hp):Prop :=
 (∃kvs k,H a=some (.dK kvs)∧y=kV k∧kvs.length < sizeLine∧H'=upd H a (.dK (putK kvs k v))) ∨
 ∃kvs k b,H a=some (.dT kvs)∧y = .ref b∧H b=some (.tup (k.map kV))∧kvs.length < sizeLine∧H'=upd H a (.dT (putK kvs k v))
theorem QmZ.k {H:Hp}{a:Addr}{kvs:List (Key×V)}{k:Key} (e:H a=some (.dK kvs)):QmZ H a (kV k) (Qdt kvs k):=.inl ⟨kvs,k,.inl e,rfl,rfl⟩
theorem QmZ.t {H:Hp}{a b:Addr}{kvs:List (List Key×V)}{k:List Key} (e:H a=some (.dT kvs)) (eb:H b=some (.tup (k.map kV))):QmZ H a (.ref b) (Qdt kvs k):=.inr ⟨kvs,k,b,.inl e,rfl,eb,rfl⟩
theorem Qnn.k {H:Hp}{a:Addr}{kvs:List (Key×V)}{k:Key}{v:V} (e:H a=some (.dK kvs)) (hl:kvs.length < sizeLine):Qnn H a (kV k) v (upd H a (.dK (putK kvs k v))):=.inl ⟨kvs,k,e,rfl,hl,rfl⟩
theorem Qnn.t {H:Hp}{a b:Addr}{kvs:List (List Key×V)}{k:List Key}{v:V} (e:H a=some (.dT kvs)) (eb:H b=some (.tup (k.map kV))) (hl:kvs.length < sizeLine) :
  Qnn H a (.ref b) v (upd H a (.dT (putK kvs k v))):=.inr ⟨kvs,k,b,e,rfl,eb,hl,rfl⟩
section
variable {X:Cx}{pins:List (Addr×Obj)}{σ:St}{H:Hp}{s:Shared}{a:Addr}{y v:V}{u r:Value}{o:Option V}{A:Around}{E:Value→Shared→Prop}
end
section
variable {X:Cx}{pins:List (Addr×Obj)}{σ:St}{H:Hp}{s:Shared}{a:Addr}{kvs:List (Key×V)}{k:Key}{u:Value}{A:Around}{E:Value→Shared→Prop}
end
section
variable {X:Cx}{o i e value:Expr}{pos pos' tpos:Pos}{td ty tv:TE}
end
section
variable {X:Cx}{pos:Pos}
end
def QlR:List (TE×TE)→St→Hp→(List (V×V)→Hp→Prop)→Prop
 | [],_,H,Q=>Q [] H
 | (tk,tv)::r,σ,H,Q=>tk σ H fun x H1=>tv σ H1 fun y H2=>QlR r σ H2 fun ps H3=>Q ((x,y)::ps) H3
abbrev VV:List (V×V)→List (Value×Value)→Prop:=Paired fun p q=>RelV p.1 q.1∧RelV p.2 q.2
def PPs (X:Cx) (pos:Pos) (keys:List (Option Expr)) (values:List Expr) (trs:List (TE×TE)):Prop :=
 ∀(pins:List (Addr×Obj)) (s:Shared) (σ:St) (H:Hp) (Q:List (V×V)→Hp→Prop),Inv X pins σ H s→QlR trs σ H Q →
  wpAny (model X.prog X.w) X.A (evalPairs (pairTrees keys values X.env pos)) (fun vs s'=>∃ps H',Inv X pins σ H' s'∧VV ps vs∧Q ps H') X.xe s
structure M1 (X:Cx) (o:Expr) (m:Str) (apos:Pos) (e:Expr) (cpos:Pos):Prop where
 base:attributeBase o m X.env (eval o X.env)=eval o X.env
 few:((backTo cpos (starEach [e] X.env)).all (fun x=>!x.1)&&(backToKw cpos (keywordEach [] X.env)).all (fun x=>x.1.isSome)
  && decide (([e]:List Expr).length+([]:List Keyword).length+(if ([]:List Keyword).isEmpty then 0 else 1) < 30))=true
 line:(apos.endLine == cpos.line)=true
 trees:backTo cpos (starEach [e] X.env) = [(false,eval e X.env)]
structure M2 (X:Cx) (o:Expr) (m:Str) (apos:Pos) (e f:Expr) (cpos:Pos):Prop where
 base:attributeBase o m X.env (eval o X.env)=eval o X.env
 few:((backTo cpos (starEach [e,f] X.env)).all (fun x=>!x.1)&&(backToKw cpos (keywordEach [] X.env)).all (fun x=>x.1.isSome)
  && decide (([e,f]:List Expr).length+([]:List Keyword).length+(if ([]:List Keyword).isEmpty then 0 else 1) < 30))=true
 line:(apos.endLine == cpos.line)=true
 trees:backTo cpos (starEach [e,f] X.env) = [(false,eval e X.env),(false,eval f X.env)]
section
variable {X:Cx}{pins:List (Addr×Obj)}{σ:St}{H:Hp}{s:Shared}{a:Addr}{y d:V}{u r:Value}{o:Option V}{A:Around}{E:Value→Shared→Prop}
end
section
variable {X:Cx}{o e f:Expr}{apos cpos:Pos}{td ty tx:TE}
end
section
variable {X:Cx}{pins:List (Addr×Obj)}{σ:St}{H:Hp}{s:Shared}{a:Addr}{kvs:List (Key×V)}{A:Around}{E:Value→Shared→Prop}
end
section
variable {X:Cx}{pins:List (Addr×Obj)}{σ:St}{H:Hp}{s:Shared}{a:Addr}{y:V}{u:Value}{A:Around}{E:Value→Shared→Prop}
end
section
variable {X:Cx}
end
section
variable {κ:Type} [DecidableEq κ]
end
def Qek (cells:List (Str×Addr)):List (Str×NameKind)→List (Str×Addr)→List (Str×Addr)
 | [],acc=>acc
 | (n,k)::r,acc=>if k == .free then Qek cells r ((n,(cells.lookup n).getD 0)::acc) else Qek cells r acc
def QeJ (scope:Scope) (env:Env):List (Str×Addr):=Qek env.cells scope.names []
theorem Qkq {scope:Scope}{env:Env} (hf:∀y∈scope.names,y.2 = .free→∃c,env.cells.lookup y.1=some c):closureFor scope env=pure (QeJ scope env):=by
 simp only [closureFor,QeJ]
 generalize ([]:List (Str×Addr))=acc
 generalize scope.names=names at hf
 induction names generalizing acc with
 | nil=>rfl
 | cons y r ih =>
  obtain ⟨n,k⟩:=y
  have hr:=fun a=>ih a fun z hz=>hf z (zm _ hz)
  by_cases hk:k = .free
  ·obtain ⟨c,hc⟩:=hf (n,k) zu hk;have hc':env.cells.lookup n=some c:=hc;subst hk;simp only [List.forIn_cons,beq_self_eq_true,if_true,cellOf,hc',pure_bind,bind_assoc,Qek,Option.getD_some];exact hr _
  ·have hb:(k == NameKind.free)=false:=by simpa using hk
   simp only [List.forIn_cons,hb,Bool.false_eq_true,if_false,pure_bind,bind_assoc,Qek];exact hr _
theorem Qgp {cells:List (Str×Addr)}{x:Str}{c:Addr}:∀{names:List (Str×NameKind)}{acc:List (Str×Addr)},(Qek cells names acc).lookup x=some c→acc.lookup x=some c∨(∃k,(x,k)∈names∧k = .free∧(cells.lookup x).getD 0=c)
 | [],acc,h=>.inl h
 | (n,k)::r,acc,h=>by
  unfold Qek at h
  by_cases hk:k = .free
  ·subst hk;simp only [beq_self_eq_true,if_true] at h
   rcases Qgp h with z | ⟨k,hm,q⟩
   ·rw [List.lookup_cons] at z
    by_cases hx:x=n
    ·subst hx;simp at z;exact .inr ⟨.free,zu,rfl,z⟩
    ·have hb:(x == n)=false:=by simpa using hx
     rw [hb] at z;exact .inl z
   ·exact .inr ⟨k,zm _ hm,q⟩
  ·have hb:(k == NameKind.free)=false:=by simpa using hk
   simp only [hb,Bool.false_eq_true,if_false] at h
   rcases Qgp h with z | ⟨k,hm,q⟩
   ·exact .inl z
   ·exact .inr ⟨k,zm _ hm,q⟩
theorem Qfi {cells:List (Str×Addr)}{x:Str}:∀{names:List (Str×NameKind)}{acc:List (Str×Addr)},((∃c,acc.lookup x=some c)∨(x,NameKind.free)∈names)→∃c,(Qek cells names acc).lookup x=some c
 | [],acc,h=>by
  rcases h with h | h
  ·exact h
  ·cases h
 | (n,k)::r,acc,h=>by
  unfold Qek
  by_cases hk:k = .free
  ·subst hk;simp only [beq_self_eq_true,if_true];refine Qfi ?_
   by_cases hx:x=n
   ·subst hx;exact .inl ⟨(cells.lookup x).getD 0,by simp [List.lookup_cons]⟩
   ·have hb:(x == n)=false:=by simpa using hx
    rcases h with ⟨c,h⟩ | h
    ·exact .inl ⟨c,by rw [List.lookup_cons,hb]; exact h⟩
    ·rcases zn.mp h with e | h
     ·cases e; exact absurd rfl hx
     ·exact .inr h
  ·have hb:(k == NameKind.free)=false:=by simpa using hk
   simp only [hb,Bool.false_eq_true,if_false];refine Qfi ?_
   rcases h with h | h
   ·exact .inl h
   ·rcases zn.mp h with e | h
    ·cases e; exact absurd rfl hk
    ·exact .inr h
def Qcu (scope sc0:Scope):List (Str×NameKind) :=
 scope.names.map fun (n,k)=>if (k == .free&&sc0.kind == .function&&sc0.names.lookup n == some .cell) then (n,.cell) else (n,k)
theorem QiB {scope sc0:Scope} (hc:∀y∈scope.names,y.2≠.cell) {x:Str}{k:NameKind} (h:(Qcu scope sc0).lookup x=some k) (hk:k = .cell∨k = .free):(x,NameKind.free)∈scope.names:=by
 have hm:=PySem.mem_of_lookup h;unfold Qcu at hm;obtain ⟨⟨n,k0⟩,h1,h2⟩:=zU.mp hm;dsimp only at h2
 by_cases hb:(k0 == NameKind.free&&sc0.kind == .function&&sc0.names.lookup n == some .cell)=true
 ·rw [if_pos hb] at h2
  have e:k0 = .free:=by
   simp only [zg,beq_iff_eq] at hb;exact hb.1.1
  cases h2;rw [←e]; exact h1
 ·rw [if_neg hb] at h2;cases h2
  rcases hk with e | e
  ·exact absurd e (hc _ h1)
  ·rw [←e]; exact h1
def Qbf (N0 own:List Str) (cap:List Nat):List Str:=own++cap.map fun j=>N0.getD j (Str.ofString "")
def compSt (own:List Str) (cap:List Nat) (σ:St):St:=own.map (fun _=>none)++cap.map fun j=>(σ[j]?).join
def Qi7 (sc0:Scope) (N0:List Str) (scope:Scope) (own:List Str) (cap:List Nat):Bool :=
 (scope.kind == .function)&&scope.names.all (fun y=>y.2 != .cell)&&scope.names.all (fun y=>y.2 != .local || scope.names.lookup y.1 == some .local) &&
 scope.names.all (fun y=>y.2 != .free || sc0.names.lookup y.1 == some .cell || sc0.names.lookup y.1 == some .free) &&
 cap.all fun j=>decide (j < N0.length)&&scope.names.contains (N0.getD j (Str.ofString ""),NameKind.free)&&((Qcu scope sc0).lookup (N0.getD j (Str.ofString "")) == some .cell || (Qcu scope sc0).lookup (N0.getD j (Str.ofString "")) == some .free)
structure QeP (sc0:Scope) (N0:List Str) (scope:Scope) (own:List Str) (cap:List Nat):Prop where
 kind:scope.kind = .function
 nocell:∀y∈scope.names,y.2≠.cell
 names:∀y∈scope.names,y.2 = .local→scope.names.lookup y.1=some .local
 free:∀y∈scope.names,y.2 = .free→sc0.names.lookup y.1=some .cell∨sc0.names.lookup y.1=some .free
 cap:∀j∈cap,j < N0.length∧(N0.getD j (Str.ofString ""),NameKind.free)∈scope.names∧((Qcu scope sc0).lookup (N0.getD j (Str.ofString ""))=some .cell∨(Qcu scope sc0).lookup (N0.getD j (Str.ofString ""))=some .free)
theorem QeP.of {sc0:Scope}{N0:List Str}{scope:Scope}{own:List Str}{cap:List Nat} (h:Qi7 sc0 N0 scope own cap=true):QeP sc0 N0 scope own cap:=by
 unfold Qi7 at h;simp only [zg,List.all_eq_true,beq_iff_eq,bne_iff_ne,ne_eq,Bool.or_eq_true,decide_eq_true_eq,List.contains_iff_mem] at h;obtain ⟨⟨⟨⟨h1,h2⟩,h3⟩,h4⟩,h5⟩:=h;refine ⟨h1,h2,fun y hy e=>?_,fun y hy e=>?_,fun j hj=>?_⟩
 ·rcases h3 y hy with z | z
  ·exact absurd e z
  ·exact z
 ·rcases h4 y hy with (z | z) | z
  ·exact absurd e z
  ·exact .inl z
  ·exact .inr z
 ·obtain ⟨⟨a,b⟩,c⟩:=h5 j hj;exact ⟨a,b,c⟩
def Qbd (X:Cx) (scope:Scope) (C:Addr) (N':List Str) (s:Shared) (H:Hp) (ex:List Addr):Cx where
 prog:=X.prog
 w:=X.w
 K:=X.K
 mg:=X.mg
 base:=X.base
 A:=X.A
 N:=N'
 s₀:=s
 H₀:=H
 env:=compEnvC scope (QeJ scope X.env) C X.env
 outer:=X.stack
 stack:=X.stack
 ex:=ex
 fn:=fun _=>false
 calm:=X.calm
 pn:=[]
 xe:=fun _ _=>False
section
variable {X:Cx}
def Qjz (X:Cx) (ifs:List Expr) (t:TT):Prop :=
 ∀(pins:List (Addr×Obj)) (s:Shared) (σ:St) (H:Hp) (Q:Bool→Hp→Prop),Inv X pins σ H s→t σ H Q →
  wpAny (model X.prog X.w) X.A (forIn ifs true fun c r=>if r=true then do let ok ←isTrue c X.env (eval c X.env); pure (ForInStep.yield ok) else pure (ForInStep.yield r)) (TP X pins σ Q) X.xe s
def QuB:TT:=fun _ H Q=>Q true H
theorem Qo1:Qjz X [] QuB:=fun _ _ _ H _ I h=>wpAny_tests_nil ⟨H,I,h⟩
end
def QpP (J:It) (g:TG) (tt:TT) (te:TE) (Q:List V→Hp→Prop) (σ0:St) (H1:Hp):Prop :=
 ∃W:Nat→Nat→List V→St→Hp→Prop,(∃m,W 0 m [] σ0 H1)∧∀i m ys σ H,W i m ys σ H →
  (J.stop i H∧Q ys H)∨(J.go i H∧ys.length < sizeLine∧∃N:List V→St→Hp→Prop,(∀ys σ' H',N ys σ' H'→∃m',m' < m∧W (i+1) m' ys σ' H')∧∀x H',J.yld i H x H'→g x σ H' fun σ2 H2=>tt σ2 H2 fun b H3 =>
   if b=true then te σ2 H3 fun y H4=>N (ys ++ [y]) σ2 H4 else N ys σ2 H3)
def Qp8 (wi:TI) (own:List Str) (cap:List Nat) (g:TG) (tt:TT) (te:TE):TE:=fun σ H Q =>
 wi σ H fun J H1=>QpP J g tt te (fun ys H'=>ys.length≤sizeLine∧∀p,H' p=none→Q (.ref p) (upd H' p (.lst ys))) (compSt own cap σ) H1
section
variable {prog:Program}{w:World}{A:Around}{R:Result→Shared→Prop}{s:Shared}
theorem Qhn {elt target iter:Expr}{ifs:List Expr}{scope:Scope}{pos:Pos}{it acc:Value}{env:Env} (I:Nat→Shared→Prop)
  (turn:∀n s,I n s→wpAny (model prog w) A (pyNext it) (fun r s₁=>match r with
   | none=>R (.ok .next) s₁
   | some v=>wpAny (model prog w) A (letOwnedTupleGo target it v) (fun _ s₁'=>wpAny (model prog w) A (assign target env v) (fun _ s₂ =>
     wpAny (model prog w) A (forIn ifs true fun c r=>if r=true then do let ok ←isTrue c env (eval c env); pure (ForInStep.yield ok) else pure (ForInStep.yield r)) (fun ok s₃ =>
      if ok=true then wpAny (model prog w) A (eval elt env) (fun x s₄ =>
       wpAny (model prog w) A (call (.builtin "list.append") [acc,x]) (fun _ s₅=>∃m,m < n∧I m s₅) (fun _ _=>False) s₄) (fun _ _=>False) s₃
      else ∃m,m < n∧I m s₃) (fun _ _=>False) s₂) (fun _ _=>False) s₁') (fun _ _=>False) s₁) (fun _ _=>False) s)
  (n:Nat) (h:I n s) :
  codeAny (model prog w) A (.compLoop (.ListComp elt [⟨target,iter,ifs,0⟩] scope pos) 0 it acc env) R s:=by
 refine codeAny_loop rfl I (fun n s hI=>?_) n h;show wpAny _ A ((compTurn (.ListComp elt [⟨target,iter,ifs,0⟩] scope pos) 0 it acc env).onRaise (fun x=>do noteFrame x env; theTreesLotGoes x)) _ _ s;refine wpAny_noted ?_;rw [compTurn_list];refine za (wpAny_standAt (za (zJ (turn n s hI) (fun r s₁ h₁=>?_) fun _ _ h'=>h'.elim)))
 cases r with
 | none=>exact zb h₁
 | some v =>
  refine za (zJ h₁ (fun _ s₁' h₁'=>?_) fun _ _ h'=>h'.elim);refine za (zJ h₁' (fun _ s₂ h₂=>za (zJ h₂ (fun ok s₃ h₃=>?_) fun _ _ h'=>h'.elim)) fun _ _ h'=>h'.elim)
  cases ok with
  | false=>exact zb ⟨rfl,h₃⟩
  | true =>
   exact za (za (zJ h₃ (fun x s₄ h₄=>za (zJ h₄ (fun _ s₅ h₅=>zb (zb ⟨rfl,h₅⟩)) fun _ _ h'=>h'.elim)) fun _ _ h'=>h'.elim))
end
section
variable {X:Cx}{pins:List (Addr×Obj)}{σ:St}{s2:Shared}{H2:Hp}{elt tg iter:Expr}{ifs:List Expr}{scope:Scope}{pos:Pos}{g:TG}{tt:TT}{te:TE}{sc0:Scope}{N0 own:List Str}{cap:List Nat}
 {it:Addr}{fp:List Addr}{tn:Nat→Heap→Prop}{J:It}
theorem Qlc (I2:Inv X pins σ H2 s2) (hsc:X.env.scope=sc0) (ok:QeP sc0 N0 scope own cap):∀y∈scope.names,y.2 = .free→∃c,X.env.cells.lookup y.1=some c:=fun y hy e=>by
 refine I2.ok.has y.1 ?_;have q:=ok.free y hy e;rw [←hsc] at q;exact q
theorem Qb9 (I2:Inv X pins σ H2 s2) (hsc:X.env.scope=sc0) (ok:QeP sc0 N0 scope own cap) {x:Str}{c:Addr} (h:(QeJ scope X.env).lookup x=some c):X.env.cells.lookup x=some c:=by
 rcases Qgp h with z | ⟨k,hm,hk,q⟩
 ·simp at z
 ·obtain ⟨c',e⟩:=Qlc I2 hsc ok (x,k) hm hk;have e':X.env.cells.lookup x=some c':=e;rw [e'] at q;rw [e',←q]; rfl
theorem Qoc (I2:Inv X pins σ H2 s2) (hsc:X.env.scope=sc0) (ok:QeP sc0 N0 scope own cap) (T:Turn X.prog X.w X.K tg J fp it tn) (st2:tn 0 s2.heap) (f2:∀b∈fp,Qd8 X pins H2 b)
  (C:Addr) (hC:s2.heap.objs.size≤C):(Qbd X scope C (Qbf N0 own cap) s2 H2 fp).Ok:=by
 have lt:∀b∈fp,b < s2.heap.objs.size:=fun b hb=>by
  obtain ⟨o,e,_⟩:=T.obj 0 _ st2 b hb;exact zf e
 have rel:(relabel scope X.env).names=Qcu scope sc0:=by rw [←hsc]; rfl
 refine ⟨I2.ok.mod,ok.kind,I2.ok.glob,I2.ok.blt,hC,fun x y c h1 h2=>?_,fun x hx=>?_,fun x c hf _=>absurd hf (by simp [Qbd]),I2.ok.hd,I2.ok.frames,.inl rfl,fun b hb=>⟨?_,fun x c h=>?_⟩,I2.bs,zz I2.ok.bsz I2.sz,
  fun b o e hb=>?_,fun b hb hz=>?_,I2.stack,I2.stkFree⟩
 ·exact I2.ok.inj x y c (Qb9 I2 hsc ok h1) (Qb9 I2 hsc ok h2)
 ·have hx':(Qcu scope sc0).lookup x=some .cell∨(Qcu scope sc0).lookup x=some .free:=by rw [←rel]; exact hx
  have hm:(x,NameKind.free)∈scope.names:=by
   rcases hx' with q | q
   ·exact QiB ok.nocell q (.inl rfl)
   ·exact QiB ok.nocell q (.inr rfl)
  exact Qfi (.inr hm)
 ·exact zp (zy (lt b hb) hC)
 ·exact (f2 b hb).2.2.2.2.1 x c (Qb9 I2 hsc ok h)
 ·rcases (f2 b hb).2.2.2.1 with z | z
  ·exact I2.ok.noex b o e z
  ·exact absurd (zy (zf e) (zz I2.ok.bsz z)) (zL _)
 ·rcases zn.mp (I2.stkSub b hz) with z | z
  ·exact (f2 b hb).2.1 z
  ·exact (f2 b hb).2.2.1 z
theorem Qpv (I2:Inv X pins σ H2 s2) (hsc:X.env.scope=sc0) (hN0:X.N=N0) (ok:QeP sc0 N0 scope own cap) (T:Turn X.prog X.w X.K tg J fp it tn) (st2:tn 0 s2.heap) (f2:∀b∈fp,Qd8 X pins H2 b)
  (C:Addr) (hC:s2.heap.objs.size≤C) {h₁:Heap}{tk:Nat}{m:Str→Option Value} (old:∀b o,s2.heap.get? b=some o→h₁.get? b=some o) (hns:h₁.Ns C m) :
  Inv (Qbd X scope C (Qbf N0 own cap) s2 H2 fp) [] (compSt own cap σ) H2 { s2 with heap:=h₁,toks:=tk }:=by
 have rel:(relabel scope X.env).names=Qcu scope sc0:=by rw [←hsc]; rfl
 refine ⟨Qoc I2 hsc ok T st2 f2 C hC,rfl,I2.bare,Un.kept old,⟨m,hns,fun i x v e1 e2 _=>?_⟩,fun x c h=>?_,I2.hok.fresh hC,fun x c h=>?_,fun p hp=>absurd (show p∈([]:List (Addr×Obj)) from hp) (by simp),I2.hok.kept old,?_⟩
 ·have e1':(Qbf N0 own cap)[i]? = some x:=e1;unfold Qbf at e1';unfold compSt at e2
  by_cases hi:i < own.length
  ·rw [zr (by simpa using hi),zG] at e2
   cases q:own[i]? with
   | none=>rw [q] at e2; cases e2
   | some z=>rw [q] at e2; cases e2
  ·rw [zv (by simpa using hi),zG] at e2;rw [zv (by simpa using hi),zG] at e1';rw [zB] at e2
   cases q:cap[i - own.length]? with
   | none=>rw [q] at e2; cases e2
   | some j =>
    rw [q] at e1' e2;have ex:N0.getD j (Str.ofString "")=x:=zM e1';have ev:(σ[j]?).join=some v:=zM e2;obtain ⟨hj,hm,hk⟩:=ok.cap j (zI q);rw [ex] at hm hk
    have eN:X.N[j]? = some x:=by
     rw [hN0,zD hj];rw [zW,zD hj] at ex;exact congrArg some ex
    have eσ:σ[j]? = some (some v):=by
     cases z:σ[j]? with
     | none=>rw [z] at ev; cases ev
     | some o=>rw [z] at ev; cases o with
      | none=>cases ev
      | some y=>exact congrArg some ev
    have kf:X.env.kindOf x=some .cell∨X.env.kindOf x=some .free:=by
     have z:=ok.free _ hm rfl;rw [←hsc] at z;exact z
    obtain ⟨m0,hn0,hl⟩:=I2.loc;obtain ⟨u,r,l⟩:=hl j x v eN eσ (kf.elim (fun z=>.inr (.inl z)) fun z=>.inr (.inr z));refine ⟨u,r,.inr ⟨?_,?_⟩⟩
    ·show (relabel scope X.env).names.lookup x=_∨(relabel scope X.env).names.lookup x=_;rw [rel]; exact hk
    ·rcases l with ⟨l,_⟩ | ⟨_,c,hc,⟨o,ho,hd⟩⟩
     ·rcases kf with z | z <;> (rw [z] at l; cases l)
     ·obtain ⟨c',hc'⟩:=Qfi (cells:=X.env.cells) (names:=scope.names) (acc:=[]) (.inr hm);have z:=Qb9 I2 hsc ok hc';rw [hc] at z;cases z;exact ⟨c,hc',o,old _ _ ho,hd⟩
 ·obtain ⟨v,o,ho,hd⟩:=I2.cell x c (Qb9 I2 hsc ok h);exact ⟨v,o,old _ _ ho,hd⟩
 ·exact I2.freeC x c (Qb9 I2 hsc ok h)
 ·show (compSt own cap σ).length=(Qbf N0 own cap).length;unfold compSt Qbf;simp
theorem Qnl {Q:List V→Hp→Prop}{RR:Value→Addr→Result→Shared→Prop}{E:Value→Shared→Prop} (hc:X.calm=true) (I2:Inv X pins σ H2 s2) (hsc:X.env.scope=sc0) (hN0:X.N=N0) (ok:QeP sc0 N0 scope own cap)
  (hg:∀C s H ex,PG (Qbd X scope C (Qbf N0 own cap) s H ex) tg g) (ht:∀C s H ex,Qjz (Qbd X scope C (Qbf N0 own cap) s H ex) ifs tt) (he:∀C s H ex,PE (Qbd X scope C (Qbf N0 own cap) s H ex) elt te)
  (T:Turn X.prog X.w X.K tg J fp it tn) (st2:tn 0 s2.heap) (f2:∀b∈fp,Qd8 X pins H2 b) (hW:QpP J g tt te Q (compSt own cap σ) H2)
  (hRR:∀D C oC ys H' s',Inv X (pins ++ [(C,oC)]) σ (upd H' D (.lst ys)) s'→(∀h:Heap,h.get? C=some oC→∃m,h.Ns C m)→Qd8 X pins (upd H' D (.lst ys)) C→H' D=none→Q ys H'→RR (.ref D) C (.ok .next) s')
  (hQsz:∀ys H',Q ys H'→ys.length≤sizeLine) :
  wpAny (model X.prog X.w) X.A (newList []) (fun acc s₃=>wpAny (model X.prog X.w) X.A (newFunctionEnv scope X.env.globals (QeJ scope X.env) [] X.env.qual none .none (some X.env)) (fun cenv s₄ =>
   codeAny (model X.prog X.w) X.A (.compStart (.ListComp elt [⟨tg,iter,ifs,0⟩] scope pos) 0 (.ref it) acc { cenv with scope:=relabel scope X.env }) (RR acc cenv.locals) s₄) E s₃) E s2:=by
 refine wpAny_newObj_type (wpAny_newFunctionEnv ok.nocell (by intro y hy; simp at hy) (fun h₁ hns₁ hsb₁=>?_) ok.kind);dsimp only at hns₁ hsb₁ ⊢
 generalize hP2:s2.heap.push { cls:=.type "list",dict:=none,data:=.seq ([]:List Value).toArray }=P2 at hns₁ hsb₁ ⊢
 have hC:P2.objs.size=s2.heap.objs.size+1:=by rw [←hP2,Heap.size_push]
 have hDC:s2.heap.objs.size≠P2.objs.size:=by rw [hC]; exact zp (je _)
 have hCle:s2.heap.objs.size≤P2.objs.size:=by rw [hC]; exact Nat.le_succ _
 have below:∀b,b < s2.heap.objs.size→b≠P2.objs.size∧b≠s2.heap.objs.size:=fun b hb=>⟨by rw [hC]; exact zp (Nat.lt_succ_of_lt hb),zp hb⟩
 have ltf:∀b∈fp,b < s2.heap.objs.size:=fun b hb=>by
  obtain ⟨o,e,_⟩:=T.obj 0 _ st2 b hb;exact zf e
 have old:∀b o,s2.heap.get? b=some o→h₁.get? b=some o:=fun b o e=>hsb₁.extBut b o (below b (zf e)).1 (zq _ (hP2 ▸ zq _ e))
 have hacc:h₁.PlainList s2.heap.objs.size #[]:=⟨_,hsb₁.extBut _ _ hDC (zq _ (hP2 ▸ zC _ rfl))⟩
 have st₁:tn 0 h₁:=T.keep _ _ _ st2 fun b _ o e=>old b o e
 have hDno:∀b∈fp,s2.heap.objs.size≠b:=fun b hb=>(below b (ltf b hb)).2.symm
 generalize hXe:Qbd X scope P2.objs.size (Qbf N0 own cap) s2 H2 fp=X'
 have loop:∀s₃:Shared,s₃ = { s2 with heap:=h₁,toks:=s2.toks+([]:List (Str×Value)).length } →
   codeAny (model X.prog X.w) X.A (.compLoop (.ListComp elt [⟨tg,iter,ifs,0⟩] scope pos) 0 (.ref it) (.ref s2.heap.objs.size) (compEnvC scope (QeJ scope X.env) P2.objs.size X.env))
    (RR (.ref s2.heap.objs.size) P2.objs.size) s₃:=by
  rintro s₃ rfl;obtain ⟨W,⟨m0,w0⟩,turn⟩:=hW;subst hXe
  have stat:∀{H':Hp}{oD:Obj},(∀b∈fp,H' b=none)→∀b∈fp,Qd8 (Qbd X scope P2.objs.size (Qbf N0 own cap) s2 H2 fp) [(s2.heap.objs.size,oD)] H' b:=fun {H' oD} hn b hb =>
   ⟨hn b hb,(below b (ltf b hb)).1,fun z=>by
    rcases zn.mp (I2.stkSub b z) with z | z
    ·exact (f2 b hb).2.1 z
    ·exact (f2 b hb).2.2.1 z,.inl hb,fun x c h=>(f2 b hb).2.2.2.2.1 x c (Qb9 I2 hsc ok h),fun p hp=>by
    have e:p=(s2.heap.objs.size,oD):=by simpa [Qbd] using hp
    rw [e]; exact hDno b hb⟩
  have notcell:∀x c,(QeJ scope X.env).lookup x=some c→c≠s2.heap.objs.size:=fun x c h z=>by
   obtain ⟨v,o,ho,hd⟩:=I2.cell x c (Qb9 I2 hsc ok h);exact absurd (zf ho) (by rw [z]; exact zL _)
  have nofs:s2.heap.objs.size∉frs X.stack:=fun z=>by
   rcases zn.mp (I2.stkSub _ z) with z | z
   ·exact absurd I2.lt (by rw [z]; exact zL _)
   ·exact I2.nofs (zc _) z
  have pinD:∀{σ':St}{H':Hp}{s':Shared}{its:Array Value}{k:Nat},Inv (Qbd X scope P2.objs.size (Qbf N0 own cap) s2 H2 fp) [] σ' H' s'→H' s2.heap.objs.size=none →
    s'.heap.get? s2.heap.objs.size=some { cls:=.type "list",data:=.seq its k }→Inv (Qbd X scope P2.objs.size (Qbf N0 own cap) s2 H2 fp) [(s2.heap.objs.size,{ cls:=.type "list",data:=.seq its k })] σ' H' s' :=
   fun {σ' H' s' its k} I hn hd=>I.pins_of fun p hp=>by
    have e:p=(s2.heap.objs.size,{ cls:=.type "list",data:=.seq its k }):=by simpa using hp
    subst e;exact ⟨hd,hn,hDC,nofs,fun v z=>by cases z⟩
  obtain ⟨k0,hk0⟩:=hacc;refine Qhn (env:=compEnvC scope (QeJ scope X.env) P2.objs.size X.env)
   (fun n s'=>∃i ys its k σ' H',Inv (Qbd X scope P2.objs.size (Qbf N0 own cap) s2 H2 fp) [(s2.heap.objs.size,{ cls:=.type "list",data:=.seq its k })] σ' H' s'∧tn i s'.heap∧(∀b∈fp,H' b=none)∧Qar ys its.toList∧W i n ys σ' H') ?_ m0
   ⟨0,[],#[],k0,_,H2,pinD (Qpv I2 hsc hN0 ok T st2 f2 _ hCle old hns₁) (I2.hok.fresh (zc _)) hk0,st₁,fun b hb=>(f2 b hb).1,.nil,w0⟩
  rintro n s3 ⟨i,ys,its,k,σ3,H3,I3,st3,fr3,hv,w3⟩
  rcases turn i n ys σ3 H3 w3 with ⟨stop,qn⟩ | ⟨go,hsz,N,hN,step⟩
  ·refine thn (T.done (Qbd X scope P2.objs.size (Qbf N0 own cap) s2 H2 fp) rfl rfl rfl hc i _ s3 σ3 H3 _ I3 (stat fr3) st3 stop) fun r s4 ⟨hr,I4⟩=>?_
   subst hr;show RR _ _ (.ok .next) s4;obtain ⟨hd4,hn4,_⟩:=I4.pin (s2.heap.objs.size,{ cls:=.type "list",data:=.seq its k }) (by simp [Qbd]);dsimp only at hd4 hn4;obtain ⟨m4,hns4,_⟩:=id I4.loc;have hns4':s4.heap.Ns P2.objs.size m4:=hns4;obtain ⟨oC,es,ep,hoC,rC⟩:=id hns4';have cne:P2.objs.size≠s2.heap.objs.size:=hDC.symm;have freeC:H3 P2.objs.size=none:=I4.free;have hchC:Qd8 X pins (upd H3 s2.heap.objs.size (.lst ys)) P2.objs.size:=I2.fpOk hCle (by rw [Qal cne]; exact freeC)
   have hlen:ys.length=its.size:=by have e:=hv.length; simpa using e
   have I5:Inv X pins σ (upd H3 s2.heap.objs.size (.lst ys)) s4:=by
    refine I2.call' (ch:=fp) I4.os ⟨I4.base.keep,I4.base.slot,fun b o e n hx=>?_,I4.base.there,fun b xs e=>?_,fun b o u e=>?_,fun b ps e=>?_⟩ (fun b u e=>?_) I4.bare fun b hb=>?_
    ·rw [Qal (zp (zf e))]; exact I4.base.free b o e n hx
    ·have q:=I4.base.tups b xs e;rw [Qal (Qas q hn4)]; exact q
    ·have q:=I4.base.frzs b o u e;rw [Qal (Qas q hn4)]; exact q
    ·obtain ⟨more,q⟩:=I4.base.tbls b ps e;exact ⟨more,by rw [Qal (Qas q hn4)]; exact q⟩
    ·by_cases hb:b=s2.heap.objs.size
     ·subst hb;rw [QaL] at e;cases e;exact ⟨hQsz ys H3 qn,its.toList,k,hv,by simpa using hd4⟩
     ·rw [Qal hb] at e
      exact (I4.hok b u e).stay (fun _ _ _ q=>q) (fun c q=>by rw [Qal (Qas q hn4)]; exact q) fun c xs q=>by rw [Qal (Qas q hn4)]; exact q
    ·obtain ⟨_,a2,_,a4,a5,a6⟩:=f2 b hb;exact ⟨a4,a2,a5,a6⟩
   refine hRR s2.heap.objs.size P2.objs.size oC ys H3 s4 (I5.pins_of fun p hp=>?_) (fun h e=>⟨m4,oC,es,ep,e,rC⟩) hchC hn4 qn
   rcases zA.mp hp with z | z
   ·exact I5.pin p (zN _ z)
   ·have e:p=(P2.objs.size,oC):=by simpa using z
    subst e
    exact ⟨hoC,hchC.1,hchC.2.1,hchC.2.2.1,fun v z=>by
     have:=rC.1
     rw [this] at z; cases z⟩
  ·refine thn (T.item (Qbd X scope P2.objs.size (Qbf N0 own cap) s2 H2 fp) rfl rfl rfl hc i _ s3 σ3 H3 _ I3 (stat fr3) st3 go) fun r s4 ⟨u,hr,h4⟩=>?_
   subst hr
   refine thn h4 fun _ s5 ⟨x,H5,I5,r5,y5,st5,fr5⟩=>?_
   have I5':=I5.pinned (stat fr5) (T.obj _ _ st5)
   refine thn (hg _ _ _ _ _ s5 σ3 H5 x u _ I5' r5 (step x H5 y5)) fun _ s6 ⟨σ6,H6,I6,q6⟩=>?_
   refine thn (ht _ _ _ _ _ s6 σ6 H6 _ I6 q6) fun b s7 ⟨H7,I7,q7⟩=>?_
   have keepT:∀{σ':St}{H':Hp}{s':Shared},Inv (Qbd X scope P2.objs.size (Qbf N0 own cap) s2 H2 fp) ([(s2.heap.objs.size,{ cls:=.type "list",data:=.seq its k })]++QhZ fp s5.heap) σ' H' s'→tn (i+1) s'.heap∧∀b∈fp,H' b=none:=fun {σ' H' s'} I'=>by
    refine ⟨T.keep _ _ _ st5 fun b hb o e=>(I'.pin (b,o) (zN _ (zN _ (Qfm hb e)))).1,fun b hb=>?_⟩;obtain ⟨o,e,d⟩:=T.obj _ _ st5 b hb;exact (I'.pin (b,o) (zN _ (zN _ (Qfm hb e)))).2.1
   cases b with
   | false =>
    rw [if_neg zj] at q7 ⊢;obtain ⟨m',hm,w7⟩:=hN _ _ _ q7;obtain ⟨a,b⟩:=keepT I7;exact ⟨m',hm,i+1,ys,its,k,σ6,H7,I7.unpinned,a,b,hv,w7⟩
   | true =>
    rw [if_pos rfl] at q7 ⊢
    refine thn (he _ _ _ _ _ s7 σ6 H7 _ I7 q7) fun v s8 ⟨y,H8,I8,r8,q8⟩=>?_
    obtain ⟨m',hm,w8⟩:=hN _ _ _ q8;obtain ⟨a,b⟩:=keepT I8;obtain ⟨hd8,hn8,_⟩:=I8.pin (s2.heap.objs.size,{ cls:=.type "list",data:=.seq its k }) (by simp [Qbd]);dsimp only at hd8 hn8
    have hl:its.size≤sizeLine:=by
     have e:=hv.length;simp at e;omega
    refine wpAny_list_append_plain (hsz:=hl) ⟨k,hd8⟩ fun h9 hl9 hs9=>?_
    obtain ⟨k9,hd9⟩:=hl9
    have I8':Inv (Qbd X scope P2.objs.size (Qbf N0 own cap) s2 H2 fp) [] σ6 H8 s8:=I8.pins_of fun p hp=>absurd hp (by simp)
    have I9:Inv (Qbd X scope P2.objs.size (Qbf N0 own cap) s2 H2 fp) [] σ6 H8 { s8 with heap:=h9 } :=
     I8'.turned (t':=s8.toks) (it:=s2.heap.objs.size) (fun b o hb e=>hs9.extBut b o hb e) hn8 hDC (.inr (zc _)) notcell (fun p hp=>absurd (show p∈([]:List (Addr×Obj)) from hp) (by simp))
    refine ⟨m',hm,i+1,ys ++ [y],its.push v,k9,σ6,H8,pinD I9 hn8 hd9,T.keep _ _ _ a fun b hb o e=>hs9.extBut b o (hDno b hb).symm e,b,?_,w8⟩;rw [Array.toList_push];exact hv.append (.cons r8 .nil)
 exact codeAny_compStart_list (loop _ rfl) (T.self _ 0 _ _ _ st₁ (loop _ rfl))
theorem QqX {wi:TI} (sc0:Scope) (N0 own:List Str) (cap:List Nat) (hc:X.calm=true) (hi:PI X tg iter wi)
  (hg:∀C s H ex,PG (Qbd X scope C (Qbf N0 own cap) s H ex) tg g) (ht:∀C s H ex,Qjz (Qbd X scope C (Qbf N0 own cap) s H ex) ifs tt) (he:∀C s H ex,PE (Qbd X scope C (Qbf N0 own cap) s H ex) elt te)
  (hsc:X.env.scope=sc0:=by rfl) (hN0:X.N=N0:=by rfl) (ok:Qi7 sc0 N0 scope own cap=true:=by decide +kernel) (hs:∀x,foldedSetIterable iter X.env x=pure x:=by intro _; rfl) :
  PE X (.ListComp elt [⟨tg,iter,ifs,0⟩] scope pos) (Qp8 wi own cap g tt te):=by
 intro pins s σ H Q I h;have ok:=QeP.of ok;rw [eval_ListComp];refine wpAny_comprehension_free (use:=none) rfl hs (Qkq (Qlc I hsc ok)) ok.kind ok.names (thn (hi pins s σ H _ I h) fun xv s1 h1=>thn h1 fun itv s2 h2=>?_);obtain ⟨it,fp,tn,J,H2,e,I2,T,st2,f2,hW⟩:=h2;subst e
 refine Qnl (RR:=fun acc C=>compPost (model X.prog X.w) X.A X.xe none (EP X pins σ Q) acc C) hc I2 hsc hN0 ok hg ht he T st2 f2 hW (fun D C oC ys H' s' I' hns fpC hD q=>?_) fun ys H' q=>q.1
 obtain ⟨hC,hCn,_⟩:=I'.pin (C,oC) (by simp);obtain ⟨m,hm⟩:=hns _ hC;refine ⟨m,hm,fun h' hs'=>⟨.ref D,upd H' D (.lst ys),?_,rfl,q.2 D hD⟩⟩;obtain ⟨f0,f1,f2',f3,f4,f5⟩:=fpC;exact I'.unpinned.turned (t':=s'.toks) (it:=C) (fun b o hb e=>hs'.extBut b o hb e) f0 f1 f3 f4 f5
end
def Can (P:Program) (w:World) (K:PySem.W.Frag) (mg:Str→Option Value) (base:Heap) (x:Str) (ps:List Str) (k:Nat) (sp:Sp):Prop :=
 ∃f fd,mg x=some (.ref f)∧PySem.W.keepIn K (.ref f)=true∧Binds K fd ps []∧Qbp P w K mg base CX0 k f fd ps sp∧∃oc od osl,K.lookup f=some ⟨oc,od,.func fd,osl⟩
def Def (K:PySem.W.Frag) (mg:Str→Option Value) (x:Str) (st:Stmt):Prop:=∃f fd,mg x=some (.ref f)∧Fun K x x st f fd
section
variable {P:Program}{w:World}{K:PySem.W.Frag}{mg:Str→Option Value}{base:Heap}
theorem Can.mono {x:Str}{ps:List Str}{j k:Nat}{sp:Sp} (c:Can P w K mg base x ps j sp) (h:j≤k):Can P w K mg base x ps k sp :=
 let ⟨f,fd,a,b,d,e,g⟩:=c; ⟨f,fd,a,b,d,e.mono h,g⟩
theorem Def.can {x:Str}{st:Stmt}{N ps:List Str}{k:Nat}{sp:Sp} (D:Def K mg x st) (S:Qay N ps (Qaj st))
  (hb:∀(kV doc pm:Value) (an:Option Addr) (cdv ct:Value) (us:List Value),us.length=ps.length→bindArgs (PySem.W.fnOf x x (QbW st) (Qa4 st) (Qaj st) .none kV doc pm an cdv ct) ⟨us,[]⟩=pure (ps.zip us))
  (len:∀vs H Q E,sp vs H Q E→vs.length=ps.length)
  (hbody:∀(f:Addr) (cdv:Value) (A:Around) (outer:List Env) (s:Shared) (H:Hp) (vs:List V) (Q:VK) (E:XK),QaJ k (A.deeper (envOfC x (Qaj st) s.heap.objs.size f cdv))→sp vs H Q E →
   ∃t,PSs (Qdv CX0 P w K mg base N x (Qaj st) f cdv A outer s H E).nox (Qa4 st) t∧t { nx:=fun _ H'=>Q .non H',rt:=Q } (start N vs) H):Can P w K mg base x ps (k+1) sp:=by
 obtain ⟨f,fd,hm,F⟩:=D;obtain ⟨oc,od,_,_,_,_,_,_,osl,_,lk,_⟩:=F.ex;exact ⟨f,fd,hm,F.kp,F.binds hb,F.ok S len fun cdv A outer s H vs Q E hr h=>hbody f cdv A outer s H vs Q E hr h,oc,od,osl,lk⟩
end
section
variable {X:Cx}{k:Nat}{x:Str}{ps:List Str}{sp:Sp}{p pos:Pos}{e:Expr}{es:List Expr}{t:TA}
theorem Qta (C:Can X.prog X.w X.K X.mg X.base x ps k sp) (hr:QaJ k X.A) (ha:PA X (e::es) t) (hg:Gl X x:=by rfl) (hdb:(x == ("__debug__":Str))=false:=by decide)
  (he:starEach (e::es) X.env=(false,eval e X.env)::starEach es X.env:=by rfl) (hpl:(backTo pos (starEach es X.env)).any (·.1)=false:=by rfl) :
  PE X (.Call (.Name x p) (e::es) [] pos) (QkF sp [] E0 t):=by
 obtain ⟨f,fd,hm,hk,hb,F,_⟩:=C;exact Qqu F hr hg hm hk hb .nil Qid ha hdb he hpl
end
theorem Same.seqT {K:PySem.W.Frag}{H H':Hp}{a:Addr}{xs:List V} (e:Same H H') (h:SqT K H a xs):SqT K H' a xs:=by
 rcases h with (h | ⟨o,h⟩) | h
 ·exact .inl (.inl (e _ _ h))
 ·exact .inl (.inr ⟨o,e _ _ h⟩)
 ·exact .inr h
theorem Same.upd {H:Hp}{a:Addr}{o:HO} (h:H a=none):Same H (upd H a o):=fun b u e=>by rw [Qal (Qas e h)]; exact e
mutual
def Rep (K:PySem.W.Frag) (H:Hp):V→PyData→Prop
 | v,.none=>v = .non
 | v,.bool b=>v = .bl b
 | v,.int i=>v = .int i
 | v,.str x=>v = .str x
 | v,.list ds=>∃a xs,v = .ref a∧SqL K H a xs∧Qau K H xs ds
 | v,.tuple ds=>∃a xs,v = .ref a∧SqT K H a xs∧Qau K H xs ds
 | _,.dict _=>False
def Qau (K:PySem.W.Frag) (H:Hp):List V→List PyData→Prop
 | xs,[]=>xs = []
 | xs,d::ds=>∃x r,xs=x::r∧Rep K H x d∧Qau K H r ds
end
mutual
theorem Rep.mono {K:PySem.W.Frag}{H H':Hp} (e:Same H H'):∀(d:PyData) {v:V},Rep K H v d→Rep K H' v d
 | .none,v,h=>by rw [Rep] at h ⊢; exact h
 | .bool b,v,h=>by rw [Rep] at h ⊢; exact h
 | .int i,v,h=>by rw [Rep] at h ⊢; exact h
 | .str x,v,h=>by rw [Rep] at h ⊢; exact h
 | .list ds,v,h=>by
  rw [Rep] at h ⊢;obtain ⟨a,xs,h1,h2,h3⟩:=h;exact ⟨a,xs,h1,e.seq h2,Qau.mono e ds h3⟩
 | .tuple ds,v,h=>by
  rw [Rep] at h ⊢;obtain ⟨a,xs,h1,h2,h3⟩:=h;exact ⟨a,xs,h1,e.seqT h2,Qau.mono e ds h3⟩
 | .dict _,v,h=>by rw [Rep] at h; exact h.elim
theorem Qau.mono {K:PySem.W.Frag}{H H':Hp} (e:Same H H'):∀(ds:List PyData) {xs:List V},Qau K H xs ds→Qau K H' xs ds
 | [],xs,h=>by rw [Qau] at h ⊢; exact h
 | d::ds,xs,h=>by
  rw [Qau] at h ⊢;obtain ⟨x,r,h1,h2,h3⟩:=h;exact ⟨x,r,h1,Rep.mono e d h2,Qau.mono e ds h3⟩
end
theorem Qau.nil {K:PySem.W.Frag}{H:Hp}:Qau K H [] []:=by rw [Qau]
theorem Qau.cons {K:PySem.W.Frag}{H:Hp}{x:V}{xs:List V}{d:PyData}{ds:List PyData} (h:Rep K H x d) (hs:Qau K H xs ds):Qau K H (x::xs) (d::ds):=by
 rw [Qau]; exact ⟨x,xs,rfl,h,hs⟩
theorem Qau.un {K:PySem.W.Frag}{H:Hp}{xs:List V}{d:PyData}{ds:List PyData} (h:Qau K H xs (d::ds)):∃x r,xs=x::r∧Rep K H x d∧Qau K H r ds:=by rw [Qau] at h; exact h
theorem Qau.un0 {K:PySem.W.Frag}{H:Hp}{xs:List V} (h:Qau K H xs []):xs = []:=by rw [Qau] at h; exact h
theorem Rep.unL {K:PySem.W.Frag}{H:Hp}{v:V}{ds:List PyData} (h:Rep K H v (.list ds)):∃a xs,v = .ref a∧SqL K H a xs∧Qau K H xs ds:=by rw [Rep] at h; exact h
theorem Rep.unT {K:PySem.W.Frag}{H:Hp}{v:V}{ds:List PyData} (h:Rep K H v (.tuple ds)):∃a xs,v = .ref a∧SqT K H a xs∧Qau K H xs ds:=by rw [Rep] at h; exact h
theorem Rep.unS {K:PySem.W.Frag}{H:Hp}{v:V}{x:Str} (h:Rep K H v (.str x)):v = .str x:=by rw [Rep] at h; exact h
theorem Rep.unI {K:PySem.W.Frag}{H:Hp}{v:V}{x:Int} (h:Rep K H v (.int x)):v = .int x:=by rw [Rep] at h; exact h
theorem Rep.s {K:PySem.W.Frag}{H:Hp}{x:Str}:Rep K H (.str x) (.str x):=by rw [Rep]
theorem Rep.i {K:PySem.W.Frag}{H:Hp}{x:Int}:Rep K H (.int x) (.int x):=by rw [Rep]
theorem Rep.b {K:PySem.W.Frag}{H:Hp}{x:Bool}:Rep K H (.bl x) (.bool x):=by rw [Rep]
theorem Qau.length {K:PySem.W.Frag}{H:Hp}:∀{ds:List PyData}{xs:List V},Qau K H xs ds→xs.length=ds.length
 | [],xs,h=>by rw [Qau] at h; rw [h]; rfl
 | d::ds,xs,h=>by
  rw [Qau] at h;obtain ⟨x,r,rfl,_,h3⟩:=h;simp [Qau.length h3]
theorem Qau.get {K:PySem.W.Frag}{H:Hp}:∀{ds:List PyData}{xs:List V}{i:Nat}{x:V},Qau K H xs ds→xs[i]? = some x→∃d,ds[i]? = some d∧Rep K H x d
 | [],xs,i,x,h,e=>by rw [Qau] at h; rw [h] at e; simp at e
 | d::ds,xs,i,x,h,e=>by
  rw [Qau] at h;obtain ⟨y,r,rfl,h2,h3⟩:=h
  cases i with
  | zero=>simp at e; subst e; exact ⟨d,rfl,h2⟩
  | succ i =>
   obtain ⟨d',e',q⟩:=Qau.get (i:=i) (x:=x) h3 (by simpa using e);exact ⟨d',by simpa using e',q⟩
theorem Qau.snoc {K:PySem.W.Frag}{H:Hp}{x:V}{d:PyData} (hx:Rep K H x d):∀{ds:List PyData}{xs:List V},Qau K H xs ds→Qau K H (xs ++ [x]) (ds ++ [d])
 | [],xs,h=>by rw [Qau] at h; rw [h]; exact Qau.cons hx Qau.nil
 | e::ds,xs,h=>by
  rw [Qau] at h;obtain ⟨y,r,rfl,h2,h3⟩:=h;exact Qau.cons h2 (Qau.snoc hx h3)
theorem Qau.append {K:PySem.W.Frag}{H:Hp}{ys:List V}{es:List PyData} (hy:Qau K H ys es):∀{ds:List PyData}{xs:List V},Qau K H xs ds→Qau K H (xs++ys) (ds++es)
 | [],xs,h=>by rw [Qau] at h; rw [h]; exact hy
 | e::ds,xs,h=>by
  rw [Qau] at h;obtain ⟨y,r,rfl,h2,h3⟩:=h;exact Qau.cons h2 (Qau.append hy h3)
theorem Qau.take {K:PySem.W.Frag}{H:Hp}:∀{ds:List PyData}{xs:List V} (n:Nat),Qau K H xs ds→Qau K H (xs.take n) (ds.take n)
 | _,_,0,_=>by simpa using Qau.nil
 | [],xs,n+1,h=>by rw [Qau] at h; rw [h]; simpa using Qau.nil
 | d::ds,xs,n+1,h=>by
  rw [Qau] at h;obtain ⟨y,r,rfl,h2,h3⟩:=h;exact Qau.cons h2 (Qau.take n h3)
theorem Qau.drop {K:PySem.W.Frag}{H:Hp}:∀{ds:List PyData}{xs:List V} (n:Nat),Qau K H xs ds→Qau K H (xs.drop n) (ds.drop n)
 | _,_,0,h=>by simpa using h
 | [],xs,n+1,h=>by rw [Qau] at h; rw [h]; simpa using Qau.nil
 | d::ds,xs,n+1,h=>by
  rw [Qau] at h;obtain ⟨y,r,rfl,h2,h3⟩:=h;exact Qau.drop n h3
section
variable {X:Cx}{pins:List (Addr×Obj)}{σ:St}{H:Hp}{s:Shared}
mutual
theorem Rep.reads (I:Inv X pins σ H s):∀(d:PyData) {v:V}{u:Value},Rep X.K H v d→RelV v u→∃as,Reads s.heap u d as
 | .none,v,u,h,r=>by rw [Rep] at h; subst h; cases (show u = .none from r); exact ⟨_,.none⟩
 | .bool b,v,u,h,r=>by rw [Rep] at h; subst h; cases (show u = .bool b from r); exact ⟨_,.bool b⟩
 | .int i,v,u,h,r=>by rw [Rep] at h; subst h; obtain ⟨t,rfl⟩:=(show ∃t,u = .int i t from r); exact ⟨_,.int i t⟩
 | .str x,v,u,h,r=>by rw [Rep] at h; subst h; obtain ⟨t,rfl⟩:=(show ∃t,u = .str x t from r); exact ⟨_,.str x t⟩
 | .list ds,v,u,h,r=>by
  rw [Rep] at h;obtain ⟨a,xs,rfl,h2,h3⟩:=h;cases (show u = .ref a from r);obtain ⟨its,rv,pl,_⟩:=I.list h2;obtain ⟨as,q⟩:=Qau.reads I ds h3 rv;obtain ⟨o,ho,hc,n,hd⟩:=pl.isList;exact ⟨_,.list ho hc hd (by simpa using q)⟩
 | .tuple ds,v,u,h,r=>by
  rw [Rep] at h;obtain ⟨a,xs,rfl,h2,h3⟩:=h;cases (show u = .ref a from r);obtain ⟨its,rv,pl,_⟩:=I.tuple h2;obtain ⟨as,q⟩:=Qau.reads I ds h3 rv;obtain ⟨o,ho,hc,n,hd⟩:=pl;exact ⟨_,.tuple ho hc hd (by simpa using q)⟩
 | .dict _,v,u,h,r=>by rw [Rep] at h; exact h.elim
theorem Qau.reads (I:Inv X pins σ H s):∀(ds:List PyData) {xs:List V}{us:List Value},Qau X.K H xs ds→Qar xs us→∃as,ReadsAll s.heap us ds as
 | [],xs,us,h,r=>by rw [Qau] at h; subst h; cases r; exact ⟨_,.nil⟩
 | d::ds,xs,us,h,r=>by
  rw [Qau] at h;obtain ⟨x,rest,rfl,h2,h3⟩:=h
  cases r with
  | cons r1 r2 =>
   obtain ⟨as,q⟩:=Rep.reads I d h2 r1;obtain ⟨bs,q'⟩:=Qau.reads I ds h3 r2;exact ⟨_,.cons q q'⟩
end
end
def okD (d:PyData):Bool:=d.canLay0&&decide (d.depth≤60)
def Qpu (K:PySem.W.Frag) (neg:Bool):R2:=fun x y H Q=>∃d e,Rep K H x d∧Rep K H y e∧okD d=true∧okD e=true∧Q (.bl (if neg then !PyData.eqv d e else PyData.eqv d e)) H
section
variable {X:Cx}
theorem Qok {k:Nat} (hr:QaJ k X.A):OpR X (compareOp .Eq) (Qpu X.K false):=by
 intro pins s σ H x y v u Q I rx ry h;obtain ⟨d,e,h1,h2,k1,k2,q⟩:=h;obtain ⟨as,r1⟩:=Rep.reads I d h1 rx;obtain ⟨bs,r2⟩:=Rep.reads I e h2 ry;unfold okD at k1 k2;simp only [zg,decide_eq_true_eq] at k1 k2;exact SeqAt.compareEq_reads r1 r2 k1.1 k2.1 (by have:=hr.units; omega) ⟨.bl _,H,I,rfl,q⟩
theorem QsZ {k:Nat} (hr:QaJ k X.A):OpR X (compareOp .NotEq) (Qpu X.K true):=by
 intro pins s σ H x y v u Q I rx ry h;obtain ⟨d,e,h1,h2,k1,k2,q⟩:=h;obtain ⟨as,r1⟩:=Rep.reads I d h1 rx;obtain ⟨bs,r2⟩:=Rep.reads I e h2 ry;unfold okD at k1 k2;simp only [zg,decide_eq_true_eq] at k1 k2;exact SeqAt.compareNe_reads r1 r2 k1.1 k2.1 (by have:=hr.units; omega) ⟨.bl _,H,I,rfl,q⟩
end
def S (l:List Nat):Str:=⟨l.toArray⟩
theorem QdO (l:List Nat):(S l).cps.toList=l:=by simp [S]
theorem QaU (l:List Nat):(S l).length=l.length:=by simp [S,Str.length]
theorem Qsh (x:Str):S x.cps.toList=x:=by cases x; simp [S]
theorem QiW (a b:List Nat):S a++S b=S (a++b):=by
 show Str.mk _=Str.mk _;simp [S]
theorem Qqf {a b:List Nat} (h:S a=S b):a=b:=by have:=congrArg (fun x:Str=>x.cps.toList) h; simpa [QdO] using this
section
variable {X:Cx}
theorem QnD:OpR X (compareOp .LtE) (fun x y H Q=>∃i j,x = .str i∧y = .str j∧Q (.bl (!decide (j.cps.toList < i.cps.toList))) H):=by
 intro pins s σ H x y v u Q I rx ry h;obtain ⟨i,j,rfl,rfl,q⟩:=h;obtain ⟨t,rfl⟩:=rx;obtain ⟨t',rfl⟩:=ry;exact P.le_str ⟨.bl _,H,I,rfl,q⟩
theorem QnR:OpR X (compareOp .In) (fun x y H Q=>∃c l,x = .str (S [c])∧y = .str (S l)∧Q (.bl (decide (c∈l))) H):=by
 intro pins s σ H x y v u Q I rx ry h;obtain ⟨c,l,rfl,rfl,q⟩:=h;refine QnT pins s σ H _ _ v u Q I rx ry ⟨S [c],S l,rfl,rfl,?_⟩;have e:=PySem.StrLaws.found_one (S l) c;rw [QdO] at e;show Q (.bl (!(Builtin.Str.occurrences (S l) (S [c]) 0 (S l).length 1).isEmpty)) H;rw [show S [c]=⟨#[c]⟩ from rfl,e];exact q
def Its (l:List Nat):It:=⟨fun i _=>i < l.length,fun i H x H'=>H'=H∧∃c,l[i]? = some c∧x = .str (S [c]),fun i _=>l.length≤i⟩
theorem Qpp {P:Program}{w:World}{K:PySem.W.Frag}{tg:Expr} (l:List Nat) (it:Addr) (t:Tok):Turn P w K tg (Its l) [it] it (fun i h=>h.IsStrIter it "str_ascii_iterator" (S l) t i) where
 mem:=by simp
 obj:=fun i h st b hb=>by
  have e:b=it:=by simpa using hb
  subst e;obtain ⟨o,e,c,d⟩:=st;exact ⟨o,e,fun v z=>by rw [d] at z; cases z⟩
 keep:=fun i h h' st k=>let ⟨o,ho,r⟩:=st; ⟨o,k it (by simp) o ho,r⟩
 item:=by
  intro X hP hw hK hc i pins s σ H E I hf st hg;subst hP hw hK;obtain ⟨f0,f1,f2,f3,f4,f5⟩:=hf it (by simp);have hg':i < l.length:=hg
  refine wpAny_pyNext_ascii_item st (c:=l[i]) (by simp [S,hg']) fun h' st' sb=>?_
  have I1:Inv X pins σ H { s with heap:=h',toks:=s.toks+1 }:=I.turned (fun b o hb e=>(sb.2 b hb).trans e) f0 f1 f3 f4 f5;obtain ⟨o,e,c,d⟩:=id st';exact ⟨_,rfl,QkB (s:={ s with heap:=h',toks:=s.toks+1 }) e c d (by decide) ⟨.str (S [l[i]]),H,I1,⟨_,rfl⟩,⟨rfl,l[i],by simp [hg'],rfl⟩,st',fun b hb=>(hf b hb).1⟩⟩
 done:=by
  intro X hP hw hK hc i pins s σ H E I hf st hg;subst hP hw hK;obtain ⟨f0,f1,f2,f3,f4,f5⟩:=hf it (by simp);have hg':l.length≤i:=hg
  exact wpAny_pyNext_ascii_end (I.ok.hd hc) st (by simp [S,hg']) fun h' eb=>⟨rfl,I.turned (t':=s.toks) (fun b o hb e=>eb b o hb e) f0 f1 f3 f4 f5⟩
 self:=fun _ _ _ _ _ st h=>wpAny_pyIter_striter_ascii st h
def ascii (l:List Nat):Bool:=l.all (· < 128)
def Qvc (tl:TE):TI:=fun σ H R=>tl σ H fun x H1=>∃l,x = .str (S l)∧ascii l=true∧R (Its l) H1
theorem QrC {tg e:Expr}{tl:TE} (hl:PE X e tl):PI X tg e (Qvc tl):=by
 intro pins s σ H R I h
 refine thn (hl pins s σ H _ I h) fun v s1 ⟨x,H1,I1,r1,q1⟩=>?_
 obtain ⟨l,e,ha,q⟩:=q1;subst e;obtain ⟨t,rfl⟩:=r1;refine wpAny_pyIter_ascii (by simpa [S,ascii] using ha) ?_;refine ⟨s1.heap.objs.size,[s1.heap.objs.size],_,_,H1,rfl,I1.kept (t':=s1.toks) fun b o e=>zq _ e,Qpp l _ t,⟨_,zC _ rfl,rfl,rfl⟩,fun b hb=>?_,q⟩
 have e:b=s1.heap.objs.size:=by simpa using hb
 subst e;exact I1.fpOk (zc _) (I1.hok.fresh (zc _))
end
structure Blt (mg:Str→Option Value):Prop where
 len_:mg "len" = none
 isinstance_:mg "isinstance" = none
 all_:mg "all" = none
 sum_:mg "sum" = none
 max_:mg "max" = none
 min_:mg "min" = none
 int_:mg "int" = none
 str_:mg "str" = none
 bool_:mg "bool" = none
 list_:mg "list" = none
 tuple_:mg "tuple" = none
 dict_:mg "dict" = none
 range_:mg "range" = none
 enumerate_:mg "enumerate" = none
 zip_:mg "zip" = none
section
variable {X:Cx}
theorem QkM {x:Str}{v:V}{pos:Pos} (h:∃u,X.mg x=some u∧RelV v u) (hg:Gl X x:=by rfl) (hd:(x == ("__debug__":Str))=false:=by decide):PE X (.Name x pos) (tC v):=by
 obtain ⟨u,hm,r⟩:=h;exact QqE hg hm r hd
end
def Qb7 {α:Type} (l:List α) (lo hi:Option Int):List α:=(l.drop (HT.sIx l.length 0 lo)).take (HT.sIx l.length l.length hi - HT.sIx l.length 0 lo)
theorem Qmj (l:List Nat) (lo hi:Option Int):Txt.slice (S l) lo hi=S (Qb7 l lo hi):=by
 obtain ⟨h1,h2,h3⟩:=QhW lo hi l.length
 have e:Builtin.Str.strSliceIndices lo hi 1 (S l).length=(List.range (HT.sIx l.length l.length hi - HT.sIx l.length 0 lo)).map (HT.sIx l.length 0 lo + ·):=by
  rw [QaU];show sliceRange (sliceBounds lo hi none l.length).1 (sliceBounds lo hi none l.length).2.1 (sliceBounds lo hi none l.length).2.2=_;rw [h1,h2,h3,sliceRange_one]
 unfold Txt.slice;rw [e,pick_run,QdO]
 split
 ·rename_i h
  have hl:HT.sIx l.length l.length hi - HT.sIx l.length 0 lo=l.length:=by simpa [QaU] using h
  have hle:HT.sIx l.length l.length hi≤l.length:=HT.sIx_le _ _ (zc _) hi;have hlo:HT.sIx l.length 0 lo≤l.length:=HT.sIx_le _ _ (Nat.zero_le _) lo
  have h0:HT.sIx l.length 0 lo=0:=by omega
  have h1:HT.sIx l.length l.length hi=l.length:=by omega
  unfold Qb7;rw [h0,h1];simp
 ·rfl
section
variable {X:Cx}
def Qu5:V→Option Int→Option Int→Hp→VK→Prop:=fun x lo hi H Q=>∃l,x = .str (S l)∧l.length≤sizeLine∧Q (.str (S (Qb7 l lo hi))) H
theorem part_of {v:Value}{o:Option Int} (p:IsPart v o):∃q:Option (Int×Tok),v=partValue q∧q.map (·.1)=o:=by
 cases p with
 | none=>exact ⟨none,rfl,rfl⟩
 | int i t=>exact ⟨some (i,t),rfl,rfl⟩
theorem QrQ:SlR X Qu5:=by
 intro pins s σ H x v vl vu lo hi sl Q I rx hs pl pu h;obtain ⟨l,rfl,hz,q⟩:=h;obtain ⟨t,rfl⟩:=rx;obtain ⟨ql,rfl,e1⟩:=part_of pl;obtain ⟨qu,rfl,e2⟩:=part_of pu;refine ⟨"str",_,F.slot_str_getitem.lookup,typeIs_str _ _ _,?_⟩;refine wpAny_getItem_str_slice (l:=ql) (u:=qu) (st:=none) hs rfl ?_;have key:(if ((1:Int) == 1&&(Builtin.Str.strSliceIndices lo hi 1 (S l).length).length == (S l).length)=true then S l else ⟨((Builtin.Str.strSliceIndices lo hi 1 (S l).length).filterMap ((S l).cps[·]?)).toArray⟩)=S (Qb7 l lo hi):=Qmj l lo hi;unfold sliceMade slicePicked;rw [e1,e2];refine post_val_or_str ⟨?_,fun t' k=>?_⟩
 ·show (Txt.slice (S l) lo hi).length≤_;exact zz (Txt.slice_le _ _ _) (by rw [QaU]; exact hz)
 ·have e3:=Qmj l lo hi;unfold Txt.slice at e3;show EP X pins σ Q (.str (if ((1:Int) == 1&&(Builtin.Str.strSliceIndices lo hi 1 (S l).length).length == (S l).length)=true then S l else ⟨((Builtin.Str.strSliceIndices lo hi 1 (S l).length).filterMap ((S l).cps[·]?)).toArray⟩) t') { s with toks:=k };rw [e3];exact ⟨.str _,H,I.tok k,⟨t',rfl⟩,q⟩
end
namespace HT2
theorem getItem_tuple_whole {prog:Program}{w:World}{A:Around}{E:Value→Shared→Prop}{s:Shared}{t sl:Addr}{items:Array Value}{vl vu:Value}{lo hi:Option Int}{Q:Value→Shared→Prop} (ht:IsTup s.heap t items) (hs:s.heap.IsSliceOf sl vl vu .none) (pl:IsPart vl lo) (pu:IsPart vu hi)
  (hw:HT.sIx items.size 0 lo=0∧HT.sIx items.size items.size hi=items.size) (h:Q (.ref t) s):wpAny (model prog w) A (getItem (.ref t) (.ref sl)) Q E s:=by
 obtain ⟨os,hos,hcs,hds⟩:=id hs;have hTs:s.TypeIs (.ref sl) "slice":=⟨os,hos,hcs⟩;unfold getItem
 try with_reducible refine zV ?_
 first | refine za (zb ?_) | skip
 refine za (wpAny_sequenceKey ht.typeIs (by decide) ?_)
 refine za (wpAny_callSpecial?_slot (name:=Str.ofString "__getitem__") ht.typeIs PyProof.Rows.slot_tuple_getitem
  (wpAny_call_entry PyProof.Rows.slot_tuple_getitem ht.typeIs entry_tuple_getitem ?_ (args_tuple_getitem _ _)))
 show wpAny _ _ (Builtin.Tuple.tupleItemsOf (.ref t) >>= _) _ _ s;refine za (tupleItemsOf_ ht ?_);refine za (wpAny_typeOf hTs ?_);rw [if_pos (by decide)];refine za (HT.sliceApplied_gen hs pl pu ?_)
 have hyes:(((HT.sIx items.size 0 lo:Nat):Int) == 0&&(1:Int) == 1&&(HT.sIx items.size items.size hi - HT.sIx items.size 0 lo) == items.size)=true:=by
  rw [hw.1,hw.2];simp
 show wpAny _ _ (if (((HT.sIx items.size 0 lo:Nat):Int) == 0&&(1:Int) == 1&&(HT.sIx items.size items.size hi - HT.sIx items.size 0 lo) == items.size)=true then _ else _) _ _ s;rw [if_pos hyes]
 have hex:∀{A':Around}{E':Value→Shared→Prop}{Q':Bool→Shared→Prop},Q' true s→wpAny (model prog w) A' (Builtin.Tuple.tupleIsExact (.ref t)) Q' E' s:=fun {A' E' Q'} hq=>by
  unfold Builtin.Tuple.tupleIsExact;exact za (wpAny_typeOf ht.typeIs (zb hq))
 refine za (hex ?_);rw [if_pos rfl];exact za (wpAny_rule (zb ⟨_,rfl,zb h⟩))
end HT2
section
variable {X:Cx}
def QtZ (K:PySem.W.Frag):V→Option Int→Option Int→Hp→VK→Prop:=fun x lo hi H Q=>∃a xs,x = .ref a∧SqT K H a xs ∧
 ((HT.sIx xs.length 0 lo=0∧HT.sIx xs.length xs.length hi=xs.length)→Q (.ref a) H)∧(¬(HT.sIx xs.length 0 lo=0∧HT.sIx xs.length xs.length hi=xs.length)→∀p,H p=none→Q (.ref p) (upd H p (.tup (QgT xs lo hi))))
theorem QqZ (K:PySem.W.Frag) (hK:X.K=K:=by rfl):SlR X (QtZ K):=by
 subst hK;intro pins s σ H x v vl vu lo hi sl Q I rx hs pl pu h;obtain ⟨a,xs,rfl,hx,q1,q2⟩:=h
 by_cases hw:HT.sIx xs.length 0 lo=0∧HT.sIx xs.length xs.length hi=xs.length
 ·cases rx;obtain ⟨its,r,ht,hz⟩:=I.tuple hx
  have hlen:its.toArray.size=xs.length:=by rw [zl]; exact r.length.symm
  exact ⟨"tuple",_,PyProof.Rows.slot_tuple_getitem.lookup,ht.typeIs,HT2.getItem_tuple_whole ht hs pl pu (by rw [hlen]; exact hw) ⟨.ref a,H,I,rfl,q1 hw⟩⟩
 ·exact Qs0 pins s σ H _ v vl vu lo hi sl Q I rx hs pl pu ⟨a,xs,rfl,hx,hw,q2 hw⟩
inductive TyQ (K:PySem.W.Frag) (H:Hp):V→String→Prop where
 | non:TyQ K H .non "NoneType"
 | bl (x:Bool):TyQ K H (.bl x) "bool"
 | int (i:Int):TyQ K H (.int i) "int"
 | str (x:Str):TyQ K H (.str x) "str"
 | lst {a:Addr}{xs:List V} (e:SqL K H a xs):TyQ K H (.ref a) "list"
 | tup {a:Addr}{xs:List V} (e:SqT K H a xs):TyQ K H (.ref a) "tuple"
 | dK {a:Addr}{kvs:List (Key×V)} (e:H a=some (.dK kvs)):TyQ K H (.ref a) "dict"
def Qur (K:PySem.W.Frag):List V→Hp→VK→Prop:=fun xs H Q=>∃x n t b,xs = [x,.ty n]∧TyQ K H x t∧PySem.W.kitOne K (.type t) (.type n)=some b∧Q (.bl b) H
theorem QoE (K:PySem.W.Frag) (hK:X.K=K:=by rfl):Qio X (.builtin "isinstance") (Qur K):=by
 subst hK;intro pins s σ H xs us Q I r h;obtain ⟨x,n,t,b,rfl,ty,e,q⟩:=h;obtain ⟨u,c,rfl,r1,r2⟩:=vals2 r;cases (show c = .type n from r2)
 have fin:∀tk,EP X pins σ Q (.bool b) { s with toks:=tk }:=fun tk=>⟨.bl b,H,I.tok tk,rfl,q⟩
 cases ty with
 | non=>exact QeT I r1 .non e fin
 | bl y=>exact QeT I r1 (.bl y) e fin
 | int i=>exact QeT I r1 (.int i) e fin
 | str y=>exact QeT I r1 (.str y) e fin
 | @lst a xs ea =>
  cases (show u=Value.ref a from r1);obtain ⟨its,_,p,_⟩:=I.list ea;obtain ⟨o,ho,hc,_⟩:=p.isList;exact PySem.W.kia_one PySem.W.kitx_list I.kIn ⟨o,ho,hc⟩ e (fun z=>nomatch z) fin
 | @tup a xs ea =>
  cases (show u=Value.ref a from r1);obtain ⟨its,_,p,_⟩:=I.tuple ea;obtain ⟨o,ho,hc,_⟩:=p;exact PySem.W.kia_one PySem.W.kitx_tuple I.kIn ⟨o,ho,hc⟩ e (fun z=>nomatch z) fin
 | @dK a kvs ea=>exact QeT I r1 (.dK ea) e fin
theorem QoX (K:PySem.W.Frag) (n:String):PySem.W.kitOne K (.type n) (.type n)=some true:=by
 unfold PySem.W.kitOne;rw [if_pos (beq_self_eq_true _)]
end
theorem QmB:∀{ds:List PyData},(∀d∈ds,d.canLay0=true)→PyData.canLayAll0 ds=true
 | [],_=>rfl
 | d::ds,h=>by rw [PyData.canLayAll0,h d zu,QmB fun x hx=>h x (zm _ hx)]; rfl
theorem QlL {n:Nat}:∀{ds:List PyData},(∀d∈ds,d.depth≤n)→PyData.depthAll ds≤n
 | [],_=>by rw [PyData.depthAll]; exact Nat.zero_le _
 | d::ds,h=>by
  rw [PyData.depthAll];exact Nat.max_le.mpr ⟨h d zu,QlL fun x hx=>h x (zm _ hx)⟩
theorem Qq1 {n:Nat} (hn:n < 60) {ds:List PyData} (h:∀d∈ds,d.canLay0=true∧d.depth≤n):okD (.list ds)=true:=by
 unfold okD;rw [zg];refine ⟨?_,zK ?_⟩
 ·show PyData.canLayAll0 ds=true
  exact QmB fun d hd=>(h d hd).1
 ·show PyData.depthAll ds+1≤60
  have:=QlL fun d hd=>(h d hd).2
  omega
section
variable {X:Cx}
theorem Qjb:∀{ls:List (List Nat)}{us:List Value},Qar (ls.map fun l=>V.str (S l)) us→StrsAre us (ls.map S)
 | [],us,r=>by rw [zT] at r; cases r; exact .nil
 | l::ls,us,r=>by
  rw [zd] at r
  cases r with
  | cons r1 r2 =>
   obtain ⟨t,e⟩:=r1;subst e;exact .cons _ t (Qjb r2)
theorem Qn9:∀(ls:List (List Nat)) (a:Array Nat),(ls.map S).foldl (fun acc p=>acc++(S []).cps++p.cps) a=a++ls.flatten.toArray
 | [],a=>by simp
 | l::ls,a=>by
  rw [zd,List.foldl_cons,Qn9 ls];simp [S]
theorem Qsa (ls:List (List Nat)):Txt.join (S []) (ls.map S)=S ls.flatten:=by
 show Builtin.Str.glued (S []) (ls.map S)=_;unfold Builtin.Str.glued
 cases ls with
 | nil=>rfl
 | cons l ls =>
  show Str.mk ((ls.map S).foldl (fun acc p=>acc++(S []).cps++p.cps) (S l).cps)=_;rw [Qn9];simp [S]
def rJoin (K:PySem.W.Frag):V→List V→Hp→VK→Prop:=fun x vs H Q=>∃(p:Addr) (ls:List (List Nat)),x = .str (S [])∧vs = [.ref p]∧SqL K H p (ls.map fun l=>V.str (S l))∧(ls.map List.length).sum≤1000000∧Q (.str (S ls.flatten)) H
theorem Qo5 (K:PySem.W.Frag) (hK:X.K=K:=by rfl):MtR X "str.join" (rJoin K):=by
 subst hK;intro pins s σ H x xs v us Q I rx rs h;obtain ⟨p,ls,rfl,rfl,hq,hz,q⟩:=h;obtain ⟨t,rfl⟩:=rx;obtain ⟨u,rfl,ru⟩:=vals1 rs;cases ru;obtain ⟨its,rv,pl,_⟩:=I.list hq
 refine join_list pl.isList (ys:=ls.map S) (by simpa using Qjb rv) ?_ fun t' k=>⟨.str (S ls.flatten),H,I.tok k,⟨t',?_⟩,q⟩
 ·have e:((ls.map S).map (·.length)).sum=(ls.map List.length).sum:=by
   rw [zX];exact congrArg List.sum (jf fun l _=>QaU l)
  rw [e,QaU];simp only [zE,Nat.mul_zero];omega
 ·rw [Qsa]
def QqY:V→List V→Hp→VK→Prop:=fun x vs H Q=>∃l m,x = .str (S l)∧vs = [.str (S m)]∧Q (.bl (decide (l.take m.length=m))) H
theorem Qph (l m:List Nat):Txt.startswith (S l) (S m)=decide (l.take m.length=m):=by
 unfold Txt.startswith;rw [StrLaws.subAt_eq,QdO,QdO,QaU,QaU,List.drop_zero,Bool.eq_iff_iff,zg,decide_eq_true_eq,decide_eq_true_eq,beq_iff_eq];constructor
 ·exact fun h=>h.2
 ·intro h;refine ⟨?_,h⟩
  have:=congrArg List.length h
  rw [List.length_take] at this;omega
def QtI:R2:=fun x y H Q=>∃(l:List Nat) (n:Int),x = .str (S l)∧y = .int n∧-1000000 < n∧n < 1000000∧l.length * n.toNat≤16777216∧Q (.str (S (List.replicate n.toNat l).flatten)) H
theorem Qp3 (l:List Nat):∀(n:Nat) (a:Array Nat),(List.replicate n (S l).cps).foldl (· ++ ·) a=a++(List.replicate n l).flatten.toArray
 | 0,a=>by simp
 | n+1,a=>by
  rw [List.replicate_succ,List.foldl_cons,Qp3 l n,List.replicate_succ,List.flatten_cons];simp [S]
theorem QmD:OpR X (binaryOp .Mult) QtI:=by
 intro pins s σ H x y v u Q I rx ry h;obtain ⟨l,n,rfl,rfl,h1,h2,h3,q⟩:=h;obtain ⟨t,rfl⟩:=rx;obtain ⟨t',rfl⟩:=ry;have hs:sizeLine=16777216:=sizeLine_eq
 by_cases hn:n < 1
 ·have e0:n.toNat=0:=by omega
  rw [e0] at q;exact P.mul_str_none hn (by omega) ⟨.str (S []),H,I.tok _,⟨s.toks,rfl⟩,q⟩
 refine P.mul_str ?_ (fun _ _=>?_) (fun _ _=>?_) ?_
 ·rw [zt (by omega),zt (by omega)];rfl
 ·rw [QaU];intro hz
  have h4:(l.length:Int) * n≤16777216:=by
   have:((l.length * n.toNat:Nat):Int)≤16777216:=by omega
   rw [Int.natCast_mul,Int.toNat_of_nonneg (by omega)] at this;exact this
  have h5:(2 ^ 63 - 1) / n < (l.length:Int):=hz;have h6:=(Int.ediv_lt_iff_lt_mul (show 0 < n by omega)).mp h5;omega
 ·rw [QaU];unfold Builtin.Str.tooLong;exact zt (by omega)
 ·rw [if_neg (by omega)]
  by_cases hl:(n == 1 || (S l).length == 0)=true
  ·rw [if_pos hl]
   have e:(List.replicate n.toNat l).flatten=l:=by
    rw [Bool.or_eq_true,beq_iff_eq,beq_iff_eq,QaU] at hl
    rcases hl with z | z
    ·rw [z];show (List.replicate 1 l).flatten=l;simp
    ·have z':=List.eq_nil_of_length_eq_zero z;subst z';rw [List.flatten_eq_nil_iff];intro x hx;exact (List.mem_replicate.mp hx).2
   rw [e] at q;exact ⟨.str (S l),H,I,⟨t,rfl⟩,q⟩
  ·rw [if_neg hl,Qp3];refine ⟨?_,.str (S (List.replicate n.toNat l).flatten),H,I.tok _,⟨s.toks,?_⟩,q⟩
   ·show (#[]++(List.replicate n.toNat l).flatten.toArray).size≤sizeLine;simp only [Array.size_append,zl,List.length_flatten,List.map_replicate,List.sum_replicate_nat];simp;rw [Nat.mul_comm];omega
   ·congr 1;simp [S]
theorem QnG:MtR X "str.startswith" QqY:=by
 intro pins s σ H x xs v us Q I rx rs h;obtain ⟨l,m,rfl,rfl,q⟩:=h;obtain ⟨t,rfl⟩:=rx;obtain ⟨u,rfl,ru⟩:=vals1 rs;obtain ⟨t',rfl⟩:=ru;exact SC.startswith ⟨.bl _,H,I,rfl,by rw [Qph]; exact q⟩
end
inductive D where
 | non | bl (b:Bool) | int (i:Int) | str (l:List Nat) | lst (ds:List D) | tup (ds:List D) | dic (ks vs:List D) | ob (n:Nat)
inductive Ob where
 | ins (c:Str) (fs:List (Str×D))
 | ml (ds:List D)
 | dt (kvs:List (List Key×D))
 | df (kvs:List (List Key×D))
 | dk (kvs:List (Key×D))
 | kf (kvs:List (Key×D))
 | xc (c:Str) (fs:List (Str×D))
abbrev Qaa:=List Ob
abbrev Qai:=List (Option D)
structure Xc where
 cls:Str
 fs:List (Str×D)
inductive Res (α:Type) where
 | ok (a:α) (O:Qaa) | ex (x:Xc) (O:Qaa) | no
inductive Fl where
 | nx (ρ:Qai) (O:Qaa) | rt (d:D) (O:Qaa) | bk (ρ:Qai) (O:Qaa) | ct (ρ:Qai) (O:Qaa) | ex (x:Xc) (O:Qaa) | no
abbrev M (α:Type):=Qai→Qaa→Res α
abbrev MS:=Qai→Qaa→Fl
def Res.bind {α β:Type} (r:Res α) (f:α→Qaa→Res β):Res β:=match r with
 | .ok a O=>f a O
 | .ex x O=>.ex x O
 | .no=>.no
theorem Res.bind_ok {α β:Type}{r:Res α}{f:α→Qaa→Res β}{b:β}{O':Qaa} (h:r.bind f = .ok b O'):∃a O,r = .ok a O∧f a O = .ok b O':=by
 cases r with
 | ok a O=>exact ⟨a,O,rfl,h⟩
 | ex x O=>cases h
 | no=>cases h
def Qk6:Expr→Bool
 | .Starred _ _=>false
 | _=>true
theorem Qbl {e:Expr}{es:List Expr}{env:Env} (h:Qk6 e=true):starEach (e::es) env=(false,eval e env)::starEach es env:=by
 cases e <;> first | rfl | cases h
theorem Qbk {pos:Pos}{env:Env}:∀{es:List Expr},es.all Qk6=true→(backTo pos (starEach es env)).any (·.1)=false
 | [],_=>by simp [starEach,backTo]
 | e::es,h=>by
  rw [List.all_cons,zg] at h;rw [Qbl h.1];show (false || (backTo pos (starEach es env)).any (·.1))=false;rw [Qbk h.2];rfl
theorem Qik {e:Expr}{env:Env} (h:Qk6 e=true):starEach [e] env = [(false,eval e env)]:=by rw [Qbl h]; simp [starEach]
abbrev Frag:=PySem.W.Frag
def QmO:Key→D
 | .inl i=>.int i
 | .inr x=>.str x.cps.toList
def RdK (K:Frag) (H:Hp) (a:Addr) (xs:List V):Prop:=Rd H a (.lst xs)∨∃(its:List Value) (n:Nat),K.lookup a=some { cls:=.type "list",data:=.seq its.toArray n }∧its.length≤sizeLine∧Qar xs its
theorem RdK.sq {K:Frag}{H:Hp}{a:Addr}{xs:List V} (h:RdK K H a xs):SqL K H a xs:=by
 rcases h with h | ⟨its,n,h1,h2,h3⟩
 ·exact .inl h
 ·exact .inr ⟨_,its.toArray,n,h1,rfl,rfl,rfl,by simpa using h2,by simpa using h3⟩
theorem RdK.ok {X:Cx}{pins:List (Addr×Obj)}{σ:St}{H:Hp}{s:Shared}{a:Addr}{xs:List V} (h:RdK X.K H a xs) (I:Inv X pins σ H s):xs.length≤sizeLine∧∃(its:List Value) (n:Nat),Qar xs its∧s.heap.get? a=some { cls:=.type "list",data:=.seq its.toArray n }:=by
 rcases h with h | ⟨its,n,h1,h2,h3⟩
 ·exact h.ok I.hok
 ·exact ⟨by rw [h3.length]; exact h2,its,n,h3,I.kIn a _ h1⟩
def TqT (K:Frag) (F:Hp) (a:Addr) (xs:List V):Prop :=
 F a=some (.tup xs)∨∃(o:Obj) (its:Array Value) (n:Nat),K.lookup a=some o∧o.cls = .type "tuple"∧o.data = .seq its n∧its.size≤sizeLine∧Qar xs its.toList
theorem TqT.sq {K:Frag}{F:Hp}{a:Addr}{xs:List V} (h:TqT K F a xs):SqT K F a xs:=h.imp .inl id
mutual
def Rp (K:Frag) (F:Hp) (as:List Addr):V→D→Prop
 | v,.non=>v = .non
 | v,.bl b=>v = .bl b
 | v,.int i=>v = .int i
 | v,.str l=>v = .str (S l)
 | v,.lst ds=>∃a xs,v = .ref a∧RdK K F a xs∧Rps K F as xs ds
 | v,.tup ds=>∃a xs,v = .ref a∧TqT K F a xs∧Rps K F as xs ds
 | v,.dic ks vs=>∃(a:Addr) (kvs:List (Key×V)),v = .ref a∧F a=some (.dK kvs)∧ks=kvs.map (fun p=>QmO p.1)∧Rps K F as (kvs.map (·.2)) vs
 | v,.ob n=>∃a,v = .ref a∧as[n]? = some a
def Rps (K:Frag) (F:Hp) (as:List Addr):List V→List D→Prop
 | xs,[]=>xs = []
 | xs,d::ds=>∃x r,xs=x::r∧Rp K F as x d∧Rps K F as r ds
end
section
variable {K:Frag}{F F':Hp}{as as':List Addr}
theorem Rd.mono {H H':Hp}{a:Addr}{u:HO} (e:Same H H') (h:Rd H a u):Rd H' a u:=by
 rcases h with h | ⟨o,h⟩
 ·exact .inl (e _ _ h)
 ·exact .inr ⟨o,e _ _ h⟩
theorem RdK.mono {H H':Hp}{a:Addr}{xs:List V} (e:Same H H') (h:RdK K H a xs):RdK K H' a xs:=h.imp (fun z=>z.mono e) id
mutual
theorem Rp.mono (e:Same F F') (ea:∀(n:Nat) (a:Addr),as[n]? = some a→as'[n]? = some a):∀(d:D) {v:V},Rp K F as v d→Rp K F' as' v d
 | .non,v,h=>by rw [Rp] at h ⊢; exact h
 | .bl b,v,h=>by rw [Rp] at h ⊢; exact h
 | .int i,v,h=>by rw [Rp] at h ⊢; exact h
 | .str x,v,h=>by rw [Rp] at h ⊢; exact h
 | .lst ds,v,h=>by
  rw [Rp] at h ⊢;obtain ⟨a,xs,h1,h2,h3⟩:=h;exact ⟨a,xs,h1,h2.mono e,Rps.mono e ea ds h3⟩
 | .tup ds,v,h=>by
  rw [Rp] at h ⊢;obtain ⟨a,xs,h1,h2,h3⟩:=h;exact ⟨a,xs,h1,h2.imp (e _ _) id,Rps.mono e ea ds h3⟩
 | .dic ks vs,v,h=>by
  rw [Rp] at h ⊢;obtain ⟨a,kvs,h1,h2,h3,h4⟩:=h;exact ⟨a,kvs,h1,e _ _ h2,h3,Rps.mono e ea vs h4⟩
 | .ob n,v,h=>by
  rw [Rp] at h ⊢;obtain ⟨a,h1,h2⟩:=h;exact ⟨a,h1,ea _ _ h2⟩
theorem Rps.mono (e:Same F F') (ea:∀(n:Nat) (a:Addr),as[n]? = some a→as'[n]? = some a):∀(ds:List D) {xs:List V},Rps K F as xs ds→Rps K F' as' xs ds
 | [],xs,h=>by rw [Rps] at h ⊢; exact h
 | d::ds,xs,h=>by
  rw [Rps] at h ⊢;obtain ⟨x,r,h1,h2,h3⟩:=h;exact ⟨x,r,h1,Rp.mono e ea d h2,Rps.mono e ea ds h3⟩
end
theorem Rp.non:Rp K F as .non .non:=by rw [Rp]
theorem Rp.bl {b:Bool}:Rp K F as (.bl b) (.bl b):=by rw [Rp]
theorem Rp.int {i:Int}:Rp K F as (.int i) (.int i):=by rw [Rp]
theorem Rp.str {l:List Nat}:Rp K F as (.str (S l)) (.str l):=by rw [Rp]
theorem Rp.unN {v:V} (h:Rp K F as v .non):v = .non:=by rw [Rp] at h; exact h
theorem Rp.unB {v:V}{b:Bool} (h:Rp K F as v (.bl b)):v = .bl b:=by rw [Rp] at h; exact h
theorem Rp.unI {v:V}{i:Int} (h:Rp K F as v (.int i)):v = .int i:=by rw [Rp] at h; exact h
theorem Rp.unS {v:V}{l:List Nat} (h:Rp K F as v (.str l)):v = .str (S l):=by rw [Rp] at h; exact h
theorem Rp.unL {v:V}{ds:List D} (h:Rp K F as v (.lst ds)):∃a xs,v = .ref a∧RdK K F a xs∧Rps K F as xs ds:=by rw [Rp] at h; exact h
theorem Rp.unT' {v:V}{ds:List D} (h:Rp K F as v (.tup ds)):∃a xs,v = .ref a∧TqT K F a xs∧Rps K F as xs ds:=by rw [Rp] at h; exact h
theorem Rp.unT {v:V}{ds:List D} (h:Rp K F as v (.tup ds)):∃a xs,v = .ref a∧SqT K F a xs∧Rps K F as xs ds:=let ⟨a,xs,e,h1,h2⟩:=h.unT'; ⟨a,xs,e,h1.sq,h2⟩
theorem Rp.unO {v:V}{n:Nat} (h:Rp K F as v (.ob n)):∃a,v = .ref a∧as[n]? = some a:=by rw [Rp] at h; exact h
theorem Rp.unD {v:V}{ks vs:List D} (h:Rp K F as v (.dic ks vs)):∃(a:Addr) (kvs:List (Key×V)),v = .ref a∧F a=some (.dK kvs)∧ks=kvs.map (fun p=>QmO p.1)∧Rps K F as (kvs.map (·.2)) vs:=by rw [Rp] at h; exact h
theorem Rp.mkL {a:Addr}{xs:List V}{ds:List D} (h:RdK K F a xs) (hs:Rps K F as xs ds):Rp K F as (.ref a) (.lst ds):=by rw [Rp]; exact ⟨a,xs,rfl,h,hs⟩
theorem Rp.mkT {a:Addr}{xs:List V}{ds:List D} (h:TqT K F a xs) (hs:Rps K F as xs ds):Rp K F as (.ref a) (.tup ds):=by rw [Rp]; exact ⟨a,xs,rfl,h,hs⟩
theorem Rp.mkO {a:Addr}{n:Nat} (h:as[n]? = some a):Rp K F as (.ref a) (.ob n):=by rw [Rp]; exact ⟨a,rfl,h⟩
theorem Rps.nil:Rps K F as [] []:=by rw [Rps]
theorem Rps.cons {x:V}{xs:List V}{d:D}{ds:List D} (h:Rp K F as x d) (hs:Rps K F as xs ds):Rps K F as (x::xs) (d::ds):=by
 rw [Rps]; exact ⟨x,xs,rfl,h,hs⟩
theorem Rps.un {xs:List V}{d:D}{ds:List D} (h:Rps K F as xs (d::ds)):∃x r,xs=x::r∧Rp K F as x d∧Rps K F as r ds:=by rw [Rps] at h; exact h
theorem Rps.un0 {xs:List V} (h:Rps K F as xs []):xs = []:=by rw [Rps] at h; exact h
theorem Rps.length:∀{ds:List D}{xs:List V},Rps K F as xs ds→xs.length=ds.length
 | [],xs,h=>by rw [h.un0]; rfl
 | d::ds,xs,h=>by
  obtain ⟨x,r,rfl,_,h3⟩:=h.un;simp [Rps.length h3]
theorem Rps.get:∀{ds:List D}{xs:List V}{i:Nat}{x:V},Rps K F as xs ds→xs[i]? = some x→∃d,ds[i]? = some d∧Rp K F as x d
 | [],xs,i,x,h,e=>by rw [h.un0] at e; simp at e
 | d::ds,xs,i,x,h,e=>by
  obtain ⟨y,r,rfl,h2,h3⟩:=h.un
  cases i with
  | zero=>simp at e; subst e; exact ⟨d,rfl,h2⟩
  | succ i =>
   obtain ⟨d',e',q⟩:=Rps.get (i:=i) (x:=x) h3 (by simpa using e);exact ⟨d',by simpa using e',q⟩
theorem Rps.get':∀{ds:List D}{xs:List V}{i:Nat}{d:D},Rps K F as xs ds→ds[i]? = some d→∃x,xs[i]? = some x∧Rp K F as x d:=by
 intro ds xs i d h e;have hl:=h.length
 have hi:i < xs.length:=by rw [hl]; exact (zh.mp e).1
 obtain ⟨d',e',q⟩:=h.get (zD hi);rw [e] at e'; cases e';exact ⟨_,zD hi,q⟩
theorem Rps.append {ys:List V}{es:List D} (hy:Rps K F as ys es):∀{ds:List D}{xs:List V},Rps K F as xs ds→Rps K F as (xs++ys) (ds++es)
 | [],xs,h=>by rw [h.un0]; exact hy
 | e::ds,xs,h=>by
  obtain ⟨y,r,rfl,h2,h3⟩:=h.un;exact Rps.cons h2 (Rps.append hy h3)
theorem Rps.snoc {x:V}{d:D}{ds:List D}{xs:List V} (h:Rps K F as xs ds) (hx:Rp K F as x d):Rps K F as (xs ++ [x]) (ds ++ [d]):=Rps.append (Rps.cons hx Rps.nil) h
theorem Rps.take:∀{ds:List D}{xs:List V} (n:Nat),Rps K F as xs ds→Rps K F as (xs.take n) (ds.take n)
 | _,_,0,_=>by simpa using Rps.nil
 | [],xs,n+1,h=>by rw [h.un0]; simpa using Rps.nil
 | d::ds,xs,n+1,h=>by
  obtain ⟨y,r,rfl,h2,h3⟩:=h.un;exact Rps.cons h2 (Rps.take n h3)
theorem Rps.drop:∀{ds:List D}{xs:List V} (n:Nat),Rps K F as xs ds→Rps K F as (xs.drop n) (ds.drop n)
 | _,_,0,h=>by simpa using h
 | [],xs,n+1,h=>by rw [h.un0]; simpa using Rps.nil
 | d::ds,xs,n+1,h=>by
  obtain ⟨y,r,rfl,h2,h3⟩:=h.un;exact Rps.drop n h3
theorem Rps.set:∀{ds:List D}{xs:List V}{x:V}{d:D} (n:Nat),Rps K F as xs ds→Rp K F as x d→Rps K F as (xs.set n x) (ds.set n d)
 | [],xs,x,d,n,h,_=>by rw [h.un0]; simpa using Rps.nil
 | e::ds,xs,x,d,0,h,hx=>by
  obtain ⟨y,r,rfl,h2,h3⟩:=h.un;exact Rps.cons hx h3
 | e::ds,xs,x,d,n+1,h,hx=>by
  obtain ⟨y,r,rfl,h2,h3⟩:=h.un;exact Rps.cons h2 (Rps.set n h3 hx)
theorem Rps.rep {ds:List D}{xs:List V} (h:Rps K F as xs ds):∀n:Nat,Rps K F as (List.replicate n xs).flatten (List.replicate n ds).flatten
 | 0=>by simpa using Rps.nil
 | n+1=>by
  rw [List.replicate_succ,List.replicate_succ,List.flatten_cons,List.flatten_cons];exact Rps.append (Rps.rep h n) h
end
def isD:HO→Bool
 | .ins _ _ _=>false
 | .own _=>false
 | .xd _=>false
 | _=>true
def isL:HO→Bool
 | .lst _=>true
 | .dK _=>true
 | _=>false
theorem Qqd {o:HO} (h:isL o=true):isD o=true:=by
 cases o <;> first | rfl | cases h
structure Gr (H F:Hp) (as:List Addr) (H' F':Hp) (as':List Addr):Prop where
 fz:∀a o,H a=some o→a∉as→isL o=true→F' a=F a
 ff:Same F F'
 nw:∃new,as'=as++new∧∀a∈new,H a=none
 fr:∀a o,H a=some o→a∉as→isD o=true→H' a=some o
 dm:∀a,H' a=none→H a=none
 kz:∀a o u,H a=some (.frz o u)→H' a=some (.frz o u)
structure Pt where
 p:Addr→Prop
 ss:List (Nat×V×D)
instance:CoeFun Pt (fun _=>Addr→Prop):=⟨Pt.p⟩
def Pt.all (H:Hp):Pt:=⟨fun a=>H a≠none,[]⟩
structure GrS (P:Pt) (H F:Hp) (as:List Addr) (H' F':Hp) (as':List Addr):Prop where
 fz:∀a o,P a→H a=some o→a∉as→isL o=true→F' a=F a
 ff:Same F F'
 nw:∃new,as'=as++new∧∀a∈new,H a=none
 fr:∀a o,P a→H a=some o→a∉as→isD o=true→H' a=some o
 dm:∀a,H' a=none→H a=none
 kz:∀a o u,H a=some (.frz o u)→H' a=some (.frz o u)
section
variable {H F H' F' H2 F2:Hp}{as as' as2:List Addr}{P:Pt}
theorem Gr.refl:Gr H F as H F as:=⟨fun _ _ _ _ _=>rfl,Same.refl F,⟨[],by simp,fun _ h=>nomatch h⟩,fun _ _ h _ _=>h,fun _ h=>h,fun _ _ _ h=>h⟩
theorem Gr.trans (a:Gr H F as H' F' as') (b:Gr H' F' as' H2 F2 as2):Gr H F as H2 F2 as2:=by
 obtain ⟨n1,e1,h1⟩:=a.nw;obtain ⟨n2,e2,h2⟩:=b.nw;refine ⟨fun c o hc hn hd=>?_,a.ff.trans b.ff,⟨n1++n2,by rw [e2,e1,zS],fun c hc=>?_⟩,fun c o e hn hd=>?_,fun c h=>a.dm c (b.dm c h),fun c o u h=>b.kz c o u (a.kz c o u h)⟩
 ·have q:=a.fr c o hc hn (Qqd hd);refine (b.fz c o q ?_ hd).trans (a.fz c o hc hn hd);rw [e1];intro z
  rcases zA.mp z with z | z
  ·exact hn z
  ·rw [h1 c z] at hc; cases hc
 ·rcases zA.mp hc with z | z
  ·exact h1 c z
  ·exact a.dm c (h2 c z)
 ·have q:=a.fr c o e hn hd;refine b.fr c o q ?_ hd;rw [e1];intro z
  rcases zA.mp z with z | z
  ·exact hn z
  ·rw [h1 c z] at e; cases e
theorem Gr.toS (a:Gr H F as H' F' as'):GrS P H F as H' F' as':=⟨fun c o _=>a.fz c o,a.ff,a.nw,fun c o _ e hn hd=>a.fr c o e hn hd,a.dm,a.kz⟩
theorem GrS.refl:GrS P H F as H F as:=Gr.refl.toS
theorem GrS.trans (a:GrS P H F as H' F' as') (b:GrS P H' F' as' H2 F2 as2):GrS P H F as H2 F2 as2:=by
 obtain ⟨n1,e1,h1⟩:=a.nw;obtain ⟨n2,e2,h2⟩:=b.nw;refine ⟨fun c o p hc hn hd=>?_,a.ff.trans b.ff,⟨n1++n2,by rw [e2,e1,zS],fun c hc=>?_⟩,fun c o p e hn hd=>?_,fun c h=>a.dm c (b.dm c h),fun c o u h=>b.kz c o u (a.kz c o u h)⟩
 ·have q:=a.fr c o p hc hn (Qqd hd);refine (b.fz c o p q ?_ hd).trans (a.fz c o p hc hn hd);rw [e1];intro z
  rcases zA.mp z with z | z
  ·exact hn z
  ·rw [h1 c z] at hc; cases hc
 ·rcases zA.mp hc with z | z
  ·exact h1 c z
  ·exact a.dm c (h2 c z)
 ·have q:=a.fr c o p e hn hd;refine b.fr c o p q ?_ hd;rw [e1];intro z
  rcases zA.mp z with z | z
  ·exact hn z
  ·rw [h1 c z] at e; cases e
theorem GrS.mono {P':Pt} (a:GrS P H F as H' F' as') (h:∀c,P' c→P c):GrS P' H F as H' F' as':=⟨fun c o p=>a.fz c o (h c p),a.ff,a.nw,fun c o p=>a.fr c o (h c p),a.dm,a.kz⟩
theorem GrS.gr (a:GrS (Pt.all H) H F as H' F' as'):Gr H F as H' F' as':=⟨fun c o e=>a.fz c o (show H c≠none by rw [e]; exact fun z=>nomatch z) e,a.ff,a.nw,fun c o e=>a.fr c o (show H c≠none by rw [e]; exact fun z=>nomatch z) e,a.dm,a.kz⟩
theorem Gr.at_ (a:Gr H F as H' F' as'):∀(n:Nat) (c:Addr),as[n]? = some c→as'[n]? = some c:=fun n c h=>by
 obtain ⟨new,e,_⟩:=a.nw;rw [e,zr (zh.mp h).1];exact h
theorem GrS.at_ (a:GrS P H F as H' F' as'):∀(n:Nat) (c:Addr),as[n]? = some c→as'[n]? = some c:=fun n c h=>by
 obtain ⟨new,e,_⟩:=a.nw;rw [e,zr (zh.mp h).1];exact h
theorem Gr.out (a:Gr H F as H' F' as') {c:Addr} (h:c∉as) (e:H c≠none):c∉as':=by
 obtain ⟨new,e1,h1⟩:=a.nw;rw [e1];intro z
 rcases zA.mp z with z | z
 ·exact h z
 ·exact e (h1 c z)
theorem GrS.out (a:GrS P H F as H' F' as') {c:Addr} (h:c∉as) (e:H c≠none):c∉as':=by
 obtain ⟨new,e1,h1⟩:=a.nw;rw [e1];intro z
 rcases zA.mp z with z | z
 ·exact h z
 ·exact e (h1 c z)
theorem Rp.gr {K:Frag}{v:V}{d:D} (h:Rp K F as v d) (a:Gr H F as H' F' as'):Rp K F' as' v d:=Rp.mono a.ff a.at_ d h
theorem Rps.gr {K:Frag}{v:List V}{d:List D} (h:Rps K F as v d) (a:Gr H F as H' F' as'):Rps K F' as' v d:=Rps.mono a.ff a.at_ d h
theorem Rp.grS {K:Frag}{v:V}{d:D} (h:Rp K F as v d) (a:GrS P H F as H' F' as'):Rp K F' as' v d:=Rp.mono a.ff a.at_ d h
theorem Rps.grS {K:Frag}{v:List V}{d:List D} (h:Rps K F as v d) (a:GrS P H F as H' F' as'):Rps K F' as' v d:=Rps.mono a.ff a.at_ d h
end
structure FsR (K:Frag) (F:Hp) (as:List Addr) (gs:List (Str×V)) (fs:List (Str×D)):Prop where
 nm:gs.map (·.1)=fs.map (·.1)
 vl:Rps K F as (gs.map (·.2)) (fs.map (·.2))
def XF (K:Frag) (F:Hp) (as:List Addr) (dxo:Option Addr) (fs:List (Str×D)):Prop:=fs = []∨∃dx od gs,dxo=some dx∧F dx=some (.frz od (.xd gs))∧FsR K F as gs fs
theorem XF.mono {K:Frag}{F F':Hp}{as as':List Addr}{dxo:Option Addr}{fs:List (Str×D)} (h:XF K F as dxo fs) (e:Same F F') (ea:∀(n:Nat) (a:Addr),as[n]? = some a→as'[n]? = some a):XF K F' as' dxo fs:=by
 rcases h with h | ⟨dx,od,gs,h1,h2,h3,h4⟩
 ·exact .inl h
 ·exact .inr ⟨dx,od,gs,h1,e _ _ h2,h3,Rps.mono e ea _ h4⟩
def ObR (K:Frag) (mg:Str→Option Value) (H F:Hp) (as:List Addr) (a:Addr):Ob→Prop
 | .ins c fs=>∃C dx gs,mg c=some (.ref C)∧H a=some (.ins C dx gs)∧FsR K F as gs fs
 | .ml ds=>∃xs,H a=some (.lst xs)∧Rps K F as xs ds
 | .dt kvs=>∃xs:List (List Key×V),H a=some (.dT xs)∧xs.map (·.1)=kvs.map (·.1)∧Rps K F as (xs.map (·.2)) (kvs.map (·.2))
 | .df kvs=>∃(o:Obj) (xs:List (List Key×V)),H a=some (.frz o (.dT xs))∧xs.map (·.1)=kvs.map (·.1)∧Rps K F as (xs.map (·.2)) (kvs.map (·.2))
 | .dk kvs=>∃xs:List (Key×V),H a=some (.dK xs)∧xs.map (·.1)=kvs.map (·.1)∧Rps K F as (xs.map (·.2)) (kvs.map (·.2))
 | .kf kvs=>∃(o:Obj) (xs:List (Key×V)),H a=some (.frz o (.dK xs))∧xs.map (·.1)=kvs.map (·.1)∧Rps K F as (xs.map (·.2)) (kvs.map (·.2))
 | .xc c fs=>∃(C:Addr) (oe:Obj) (u:HO),mg c=some (.ref C)∧H a=some (.frz oe u)∧oe.cls = .ref C∧(∃ws,oe.data = .fields ws)∧XF K F as oe.dict fs
structure RlO (K:Frag) (mg:Str→Option Value) (O:Qaa) (H F:Hp) (as:List Addr):Prop where
 fh:Same F H
 fd:∀a o,F a=some o→isD o=true
 nd:as.Nodup
 len:as.length=O.length
 fa:∀a∈as,F a=none
 ob:∀(n:Nat) (a:Addr) (o:Ob),as[n]? = some a→O[n]? = some o→ObR K mg H F as a o
inductive Md where
 | v | s | o
 deriving DecidableEq
def QfZ:D→Bool
 | .lst _=>false
 | _=>true
def QeG (P:Pt) (K:Frag) (H F:Hp) (as:List Addr):Md→V→D→Prop
 | .v,v,d=>Rp K F as v d
 | .s,v,d=>Rp K F as v d∨∃a xs ds,v = .ref a∧d = .lst ds∧H a=some (.lst xs)∧a∉as∧P a∧Rps K F as xs ds
 | .o,v,d=>(QfZ d=true∧Rp K F as v d)∨∃a xs ds,v = .ref a∧d = .lst ds∧H a=some (.lst xs)∧F a=none∧a∉as∧¬P a∧Rps K F as xs ds
structure SlO (K:Frag) (md:List Md) (P:Pt) (ρ:Qai) (σ:St) (H F:Hp) (as:List Addr):Prop where
 len:σ.length=md.length
 len':ρ.length=md.length
 pd:∀a,P a→H a≠none
 sl:∀(i:Nat) (m:Md) (d:D),md[i]? = some m→ρ[i]? = some (some d)→∃v,σ[i]? = some (some v)∧QeG P K H F as m v d
 inj:∀(i j:Nat) (a:Addr) (ds es:List D),md[i]? = some .o→md[j]? = some .o→ρ[i]? = some (some (.lst ds))→ρ[j]? = some (some (.lst es))→σ[i]? = some (some (.ref a))→σ[j]? = some (some (.ref a))→i=j
 pin:∀x∈P.ss,md[x.1]? = some .s∧ρ[x.1]? = some (some x.2.2)∧σ[x.1]? = some (some x.2.1)
section
variable {K:Frag}{mg:Str→Option Value}{md:List Md}{P:Pt}{ρ:Qai}{σ:St}{H F H' F':Hp}{as as':List Addr}{O O':Qaa}
theorem QeG.step {m:Md}{v:V}{d:D} (h:QeG P K H F as m v d) (g:Gr H F as H' F' as'):QeG P K H' F' as' m v d:=by
 cases m with
 | v=>exact Rp.gr (show Rp K F as v d from h) g
 | s =>
  rcases h with h | ⟨a,xs,ds,e1,e2,e3,e4,e5,e6⟩
  ·exact .inl (h.gr g)
  ·exact .inr ⟨a,xs,ds,e1,e2,g.fr _ _ e3 e4 rfl,g.out e4 (by rw [e3]; exact fun z=>nomatch z),e5,e6.gr g⟩
 | o =>
  rcases h with ⟨h1,h⟩ | ⟨a,xs,ds,e1,e2,e3,e0,e4,e5,e6⟩
  ·exact .inl ⟨h1,h.gr g⟩
  ·have hn:H a≠none:=by rw [e3]; exact fun z=>nomatch z
   exact .inr ⟨a,xs,ds,e1,e2,g.fr _ _ e3 e4 rfl,by rw [g.fz a _ e3 e4 rfl]; exact e0,g.out e4 hn,e5,e6.gr g⟩
theorem SlO.step (h:SlO K md P ρ σ H F as) (g:Gr H F as H' F' as'):SlO K md P ρ σ H' F' as' :=
 ⟨h.len,h.len',fun a p z=>h.pd a p (g.dm a z),fun i m d e1 e2=>let ⟨v,q,r⟩:=h.sl i m d e1 e2; ⟨v,q,r.step g⟩,h.inj,h.pin⟩
end
def Sv (K:Frag) (H F:Hp) (as:List Addr) (v:V) (d:D):Prop :=
 Rp K F as v d∨∃a xs ds,v = .ref a∧d = .lst ds∧H a=some (.lst xs)∧a∉as∧Rps K F as xs ds
def Lk (K:Frag) (H F:Hp) (as:List Addr) (v:V) (d:D):Prop :=
 Rp K F as v d∨∃a xs ds,v = .ref a∧d = .lst ds∧H a=some (.lst xs)∧Rps K F as xs ds
def Ow (K:Frag) (N:Addr→Prop) (H F:Hp) (as:List Addr) (v:V) (d:D):Prop :=
 (QfZ d=true∧Rp K F as v d)∨∃a xs ds,v = .ref a∧d = .lst ds∧H a=some (.lst xs)∧F a=none∧a∉as∧N a∧Rps K F as xs ds
def QaK (O:Qaa) (d:D):D:=match d with
 | .ob n=>match O[n]? with
  | some (.ml ds)=>.lst ds
  | _=>.ob n
 | d=>d
section
variable {K:Frag}{mg:Str→Option Value}{H0 H F H' F':Hp}{as as':List Addr}{O:Qaa}{v:V}{d:D}
theorem Sv.gr (h:Sv K H F as v d) (g:Gr H F as H' F' as'):Sv K H' F' as' v d:=by
 rcases h with h | ⟨a,xs,ds,e1,e2,e3,e4,e5⟩
 ·exact .inl (h.gr g)
 ·exact .inr ⟨a,xs,ds,e1,e2,g.fr _ _ e3 e4 rfl,g.out e4 (by rw [e3]; exact fun z=>nomatch z),e5.gr g⟩
theorem Sv.lk (h:Sv K H F as v d) (r:RlO K mg O H F as):Lk K H F as v (QaK O d):=by
 rcases h with h | ⟨a,xs,ds,rfl,rfl,e3,e4,e5⟩
 ·cases d with
  | ob n =>
   obtain ⟨a,rfl,ha⟩:=h.unO;unfold QaK;dsimp only
   split
   ·rename_i ds e;obtain ⟨xs,e1,e2⟩:=r.ob n a _ ha e;exact .inr ⟨a,xs,ds,rfl,rfl,e1,e2⟩
   ·exact .inl (Rp.mkO ha)
  | _=>exact .inl h
 ·exact .inr ⟨a,xs,ds,rfl,rfl,e3,e5⟩
theorem Lk.list {ds:List D} (h:Lk K H F as v (.lst ds)) (fh:Same F H):∃a xs,v = .ref a∧RdK K H a xs∧Rps K F as xs ds:=by
 rcases h with h | ⟨a,xs,ds',e1,e2,e3,e4⟩
 ·obtain ⟨a,xs,e,h1,h2⟩:=h.unL;exact ⟨a,xs,e,h1.mono fh,h2⟩
 ·cases e2;exact ⟨a,xs,e1,.inl (.inl e3),e4⟩
theorem Lk.rp (h:Lk K H F as v d) (hn:QfZ d=true):Rp K F as v d:=by
 rcases h with h | ⟨a,xs,ds',e1,rfl,e3,e4⟩
 ·exact h
 ·cases hn
theorem Sv.rp (h:Sv K H F as v d) (hn:QfZ d=true):Rp K F as v d:=by
 rcases h with h | ⟨a,xs,ds',e1,rfl,e3,e4⟩
 ·exact h
 ·cases hn
theorem Ow.sv {N:Addr→Prop} (h:Ow K N H F as v d):Sv K H F as v d:=by
 rcases h with ⟨_,h⟩ | ⟨a,xs,ds,e1,e2,e3,e4,e5,e6,e7⟩
 ·exact .inl h
 ·exact .inr ⟨a,xs,ds,e1,e2,e3,e5,e7⟩
theorem Gr.lay {p:Addr}{o:HO} (hp:H p=none):Gr H F as (upd H p o) F as :=
 ⟨fun _ _ _ _ _=>rfl,Same.refl F,⟨[],by simp,fun _ h=>nomatch h⟩,fun a o' e _ _=>by rw [Qal (Qas e hp)]; exact e,fun a e=>by
  by_cases h:a=p
  ·subst h; exact hp
  ·rwa [Qal h] at e,fun a o' u e=>by rw [Qal (Qas e hp)]; exact e⟩
theorem ObR.keep {a:Addr}{o:Ob} (h:ObR K mg H F as a o) (hH:H' a=H a) (e:Same F F') (ea:∀(n:Nat) (a:Addr),as[n]? = some a→as'[n]? = some a):ObR K mg H' F' as' a o:=by
 cases o with
 | ins c fs =>
  obtain ⟨C,dx,gs,h1,h2,h3,h4⟩:=h;exact ⟨C,dx,gs,h1,by rw [hH]; exact h2,h3,Rps.mono e ea _ h4⟩
 | ml ds =>
  obtain ⟨xs,h1,h2⟩:=h;exact ⟨xs,by rw [hH]; exact h1,Rps.mono e ea _ h2⟩
 | dt kvs =>
  obtain ⟨xs,h1,h2,h3⟩:=h;exact ⟨xs,by rw [hH]; exact h1,h2,Rps.mono e ea _ h3⟩
 | df kvs =>
  obtain ⟨o,xs,h1,h2,h3⟩:=h;exact ⟨o,xs,by rw [hH]; exact h1,h2,Rps.mono e ea _ h3⟩
 | dk kvs =>
  obtain ⟨xs,h1,h2,h3⟩:=h;exact ⟨xs,by rw [hH]; exact h1,h2,Rps.mono e ea _ h3⟩
 | kf kvs =>
  obtain ⟨o,xs,h1,h2,h3⟩:=h;exact ⟨o,xs,by rw [hH]; exact h1,h2,Rps.mono e ea _ h3⟩
 | xc c fs =>
  obtain ⟨C,oe,u,h1,h2,h3,h4,h5⟩:=h;exact ⟨C,oe,u,h1,by rw [hH]; exact h2,h3,h4,h5.mono e ea⟩
theorem RlO.at {n:Nat}{a:Addr}{o:Ob} (r:RlO K mg O H F as) (ha:as[n]? = some a) (ho:O[n]? = some o):H a≠none:=by
 have q:=r.ob n a o ha ho
 cases o with
 | ins c fs=>obtain ⟨C,dx,gs,h1,h2,_⟩:=q; rw [h2]; exact fun z=>nomatch z
 | ml ds=>obtain ⟨xs,h1,_⟩:=q; rw [h1]; exact fun z=>nomatch z
 | dt kvs=>obtain ⟨xs,h1,_⟩:=q; rw [h1]; exact fun z=>nomatch z
 | df kvs=>obtain ⟨o,xs,h1,_⟩:=q; rw [h1]; exact fun z=>nomatch z
 | dk kvs=>obtain ⟨xs,h1,_⟩:=q; rw [h1]; exact fun z=>nomatch z
 | kf kvs=>obtain ⟨o,xs,h1,_⟩:=q; rw [h1]; exact fun z=>nomatch z
 | xc c fs=>obtain ⟨C,oe,u,_,h1,_⟩:=q; rw [h1]; exact fun z=>nomatch z
theorem RlO.all {a:Addr} (r:RlO K mg O H F as) (ha:a∈as):H a≠none:=by
 obtain ⟨n,hn,e⟩:=List.mem_iff_getElem.mp ha
 have hO:n < O.length:=by rw [←r.len]; exact hn
 exact r.at (n:=n) (by rw [zD hn,e]) (zD hO)
theorem RlO.lay {p:Addr}{o:HO} (r:RlO K mg O H F as) (hp:H p=none):RlO K mg O (upd H p o) F as:=by
 refine ⟨fun a u e=>?_,r.fd,r.nd,r.len,r.fa,fun n a u ha hu=>(r.ob n a u ha hu).keep (Qal ?_) (Same.refl F) fun _ _ h=>h⟩
 ·have q:=r.fh a u e;rw [Qal (Qas q hp)]; exact q
 ·intro z; subst z; exact r.at ha hu hp
theorem Gr.frz {p:Addr}{o:HO} (hp:H p=none) (g:Gr H F as H' F' as') (hf:F' p=none):Gr H F as H' (upd F' p o) as' :=
 ⟨fun a o' ha hn hd=>by rw [Qal (fun z=>by subst z; rw [hp] at ha; cases ha)]; exact g.fz a o' ha hn hd,fun a u e=>by
  have q:=g.ff a u e
  rw [Qal (Qas q hf)]; exact q,g.nw,g.fr,g.dm,g.kz⟩
theorem RlO.frz {p:Addr}{o:HO} (r:RlO K mg O H F as) (hp:H p=some o) (hf:F p=none) (ha:p∉as) (hd:isD o=true):RlO K mg O H (upd F p o) as:=by
 have ff:Same F (upd F p o):=fun a u e=>by rw [Qal (Qas e hf)]; exact e
 refine ⟨fun a u e=>?_,fun a u e=>?_,r.nd,r.len,fun a h=>?_,fun n a u h1 h2=>(r.ob n a u h1 h2).keep rfl ff fun _ _ h=>h⟩
 ·by_cases h:a=p
  ·subst h; rw [QaL] at e; cases e; exact hp
  ·rw [Qal h] at e; exact r.fh a u e
 ·by_cases h:a=p
  ·subst h; rw [QaL] at e; cases e; exact hd
  ·rw [Qal h] at e; exact r.fd a u e
 ·rw [Qal (fun z=>by subst z; exact ha h)]; exact r.fa a h
end
abbrev RR:=(Addr→Prop)→Hp→Hp→List Addr→V→D→Prop
def rV (K:Frag):RR:=fun _ _ F as v d=>Rp K F as v d
def rS (K:Frag):RR:=fun _ H F as v d=>Sv K H F as v d
def rO (K:Frag):RR:=fun N H F as v d=>Ow K N H F as v d
def rA (K:Frag):Md→RR
 | .v=>rV K
 | _=>rS K
def Qew (R:RR):Prop:=∀(N N':Addr→Prop) (H F:Hp) (as:List Addr) (v:V) (d:D),(∀a,N a→N' a)→R N H F as v d→R N' H F as v d
theorem Qbn {K:Frag}:Qew (rV K):=fun _ _ _ _ _ _ _ _ h=>h
theorem Qcr {K:Frag}:Qew (rO K):=fun N N' H F as v d hn h=>by
 rcases h with h | ⟨a,xs,ds,e1,e2,e3,e4,e5,e6,e7⟩
 ·exact .inl h
 ·exact .inr ⟨a,xs,ds,e1,e2,e3,e4,e5,hn a e6,e7⟩
def tM (K:Frag) (mg:Str→Option Value) (md:List Md) (P:Pt) (R:RR) (m:M D):TE:=fun σ H Q =>
 ∃ρ O F as d O',RlO K mg O H F as∧SlO K md P ρ σ H F as∧m ρ O = .ok d O' ∧
  ∀v H' F' as',Gr H F as H' F' as'→RlO K mg O' H' F' as'→R (fun a=>H a=none) H' F' as' v d→Q v H'
def tMT (K:Frag) (mg:Str→Option Value) (md:List Md) (P:Pt) (m:M Bool):TT:=fun σ H Q =>
 ∃ρ O F as b O',RlO K mg O H F as∧SlO K md P ρ σ H F as∧m ρ O = .ok b O' ∧
  ∀H' F' as',Gr H F as H' F' as'→RlO K mg O' H' F' as'→Q b H'
def QbI (K:Frag) (H F:Hp) (as:List Addr):List Md→List V→List D→Prop
 | [],[],[]=>True
 | m::ms,v::vs,d::ds=>rA K m (fun _=>True) H F as v d∧QbI K H F as ms vs ds
 | _,_,_=>False
def tMA (K:Frag) (mg:Str→Option Value) (md:List Md) (P:Pt) (ms:List Md) (m:M (List D)):TA:=fun σ H Q =>
 ∃ρ O F as ds O',RlO K mg O H F as∧SlO K md P ρ σ H F as∧m ρ O = .ok ds O' ∧
  ∀vs H' F' as',Gr H F as H' F' as'→RlO K mg O' H' F' as'→QbI K H' F' as' ms vs ds→Q vs H'
def XE (X:Cx) (md:List Md) (P:Pt) (R:RR) (e:Expr) (m:M D):Prop:=PE X e (tM X.K X.mg md P R m)
def VE (X:Cx) (md:List Md) (P:Pt) (e:Expr) (m:M D):Prop:=PE X e (tM X.K X.mg md P (rV X.K) m)
def SE (X:Cx) (md:List Md) (P:Pt) (e:Expr) (m:M D):Prop:=PE X e (tM X.K X.mg md P (rS X.K) m)
def OE (X:Cx) (md:List Md) (P:Pt) (e:Expr) (m:M D):Prop:=PE X e (tM X.K X.mg md P (rO X.K) m)
def TsE (X:Cx) (md:List Md) (P:Pt) (e:Expr) (m:M Bool):Prop:=PT X e (tMT X.K X.mg md P m)
def TwE (X:Cx) (md:List Md) (P:Pt) (e:Expr) (m:M Bool):Prop:=PW X e (tMT X.K X.mg md P m)
def AE (X:Cx) (md:List Md) (P:Pt) (ms:List Md) (es:List Expr) (m:M (List D)):Prop:=PA X es (tMA X.K X.mg md P ms m)
def Qdm (K:Frag) (mg:Str→Option Value) (md:List Md) (P:Pt) (R:RR) (D:Ends) (H F:Hp) (as:List Addr):Fl→Prop
 | .nx ρ' O'=>∀σ' H' F' as',GrS P H F as H' F' as'→RlO K mg O' H' F' as'→SlO K md P ρ' σ' H' F' as'→D.nx σ' H'
 | .bk ρ' O'=>∀σ' H' F' as',GrS P H F as H' F' as'→RlO K mg O' H' F' as'→SlO K md P ρ' σ' H' F' as'→D.bk σ' H'
 | .ct ρ' O'=>∀σ' H' F' as',GrS P H F as H' F' as'→RlO K mg O' H' F' as'→SlO K md P ρ' σ' H' F' as'→D.ct σ' H'
 | .rt d O'=>∀v H' F' as',GrS P H F as H' F' as'→RlO K mg O' H' F' as'→R (fun a=>¬P a) H' F' as' v d→D.rt v H'
 | .ex _ _=>False
 | .no=>False
def tMS (K:Frag) (mg:Str→Option Value) (md:List Md) (P:Pt) (R:RR) (m:MS):TS:=fun D σ H =>
 ∃ρ O F as,RlO K mg O H F as∧SlO K md P ρ σ H F as∧Qdm K mg md P R D H F as (m ρ O)
def VS (X:Cx) (md:List Md) (P:Pt) (R:RR) (st:Stmt) (m:MS):Prop:=PS X st (tMS X.K X.mg md P R m)
def VSs (X:Cx) (md:List Md) (P:Pt) (R:RR) (st:List Stmt) (m:MS):Prop:=PSs X st (tMS X.K X.mg md P R m)
section
variable {X:Cx}{md:List Md}{P:Pt}{R:RR}
theorem PE.imp {e:Expr}{t t':TE} (h:PE X e t) (k:∀σ H Q,t' σ H Q→t σ H Q):PE X e t':=fun pins s σ H Q I q=>h pins s σ H Q I (k σ H Q q)
theorem PT.imp {e:Expr}{t t':TT} (h:PT X e t) (k:∀σ H Q,t' σ H Q→t σ H Q):PT X e t':=fun pins s σ H Q I q=>h pins s σ H Q I (k σ H Q q)
theorem PW.imp {e:Expr}{t t':TT} (h:PW X e t) (k:∀σ H Q,t' σ H Q→t σ H Q):PW X e t':=fun w pins s σ H Q I q=>h w pins s σ H Q I (k σ H Q q)
theorem PA.imp {e:List Expr}{t t':TA} (h:PA X e t) (k:∀σ H Q,t' σ H Q→t σ H Q):PA X e t':=fun pos pins s σ H Q I q=>h pos pins s σ H Q I (k σ H Q q)
theorem PS.imp {e:Stmt}{t t':TS} (h:PS X e t) (k:∀D σ H,t' D σ H→t D σ H):PS X e t':=fun pins s σ H D I q=>h pins s σ H D I (k D σ H q)
theorem PSs.imp {e:List Stmt}{t t':TS} (h:PSs X e t) (k:∀D σ H,t' D σ H→t D σ H):PSs X e t':=fun pins s σ H D I q=>h pins s σ H D I (k D σ H q)
def Qab (i:Nat):M D:=fun ρ O=>match ρ[i]? with
 | some (some d)=>.ok d O
 | _=>.no
def mC (d:D):M D:=fun _ O=>.ok d O
def mG (m:M D):M D:=fun ρ O=>match m ρ O with
 | .ok d O'=>if QfZ d=true then .ok d O' else .no
 | r=>r
theorem Qh8 {i:Nat}{ρ:Qai}{O O':Qaa}{d:D} (h:Qab i ρ O = .ok d O'):ρ[i]? = some (some d)∧O'=O:=by
 unfold Qab at h;split at h
 ·rename_i d' e;cases h;exact ⟨e,rfl⟩
 ·cases h
theorem QtJ {m:M D}{ρ:Qai}{O O':Qaa}{d:D} (h:mG m ρ O = .ok d O'):m ρ O = .ok d O'∧QfZ d=true:=by
 unfold mG at h;split at h
 ·rename_i d' O1 e;split at h
  ·rename_i hn;cases h;exact ⟨e,hn⟩
  ·cases h
 ·rename_i hne;exact absurd h (hne _ _)
theorem SlO.get {K:Frag}{ρ:Qai}{σ:St}{H F:Hp}{as:List Addr}{i:Nat}{d:D} (s:SlO K md P ρ σ H F as) (h:ρ[i]? = some (some d)):∃m v,md[i]? = some m∧σ[i]? = some (some v)∧QeG P K H F as m v d:=by
 have hi:i < md.length:=by rw [←s.len']; exact (zh.mp h).1
 obtain ⟨v,h1,h2⟩:=s.sl i md[i] d (zD hi) h;exact ⟨_,v,zD hi,h1,h2⟩
theorem QeG.sv {K:Frag}{H F:Hp}{as:List Addr}{m:Md}{v:V}{d:D} (h:QeG P K H F as m v d):Sv K H F as v d:=by
 cases m with
 | v=>exact .inl h
 | s =>
  rcases h with h | ⟨a,xs,ds,e1,e2,e3,e4,e5,e6⟩
  ·exact .inl h
  ·exact .inr ⟨a,xs,ds,e1,e2,e3,e4,e6⟩
 | o =>
  rcases h with ⟨_,h⟩ | ⟨a,xs,ds,e1,e2,e3,e0,e4,e5,e6⟩
  ·exact .inl h
  ·exact .inr ⟨a,xs,ds,e1,e2,e3,e4,e6⟩
theorem Qao (i:Nat) {x:Str}{pos:Pos} (hN:X.N[i]? = some x:=by rfl) (hv:Vis X.env.scope x:=by first | exact Or.inl rfl | exact Or.inr (Or.inl rfl) | exact Or.inr (Or.inr rfl))
  (hd:(x == ("__debug__":Str))=false:=by decide) (hcd:(x == ("__classdict__":Str))=false:=by decide):SE X md P (.Name x pos) (Qab i):=by
 refine (QeQ (i:=i) hN hv hd hcd).imp fun σ H Q h=>?_
 obtain ⟨ρ,O,F,as,d,O',r,s,e,k⟩:=h;obtain ⟨e1,rfl⟩:=Qh8 e;obtain ⟨m,v,h1,h2,h3⟩:=s.get e1;exact ⟨v,h2,k v H F as Gr.refl r h3.sv⟩
theorem Qag (i:Nat) {x:Str}{pos:Pos} (hm:md[i]? = some .v:=by rfl) (hN:X.N[i]? = some x:=by rfl) (hv:Vis X.env.scope x:=by first | exact Or.inl rfl | exact Or.inr (Or.inl rfl) | exact Or.inr (Or.inr rfl))
  (hd:(x == ("__debug__":Str))=false:=by decide) (hcd:(x == ("__classdict__":Str))=false:=by decide):VE X md P (.Name x pos) (Qab i):=by
 refine (QeQ (i:=i) hN hv hd hcd).imp fun σ H Q h=>?_
 obtain ⟨ρ,O,F,as,d,O',r,s,e,k⟩:=h;obtain ⟨e1,rfl⟩:=Qh8 e;obtain ⟨v,h2,h3⟩:=s.sl i .v d hm e1;exact ⟨v,h2,k v H F as Gr.refl r h3⟩
theorem Qad {e:Expr}{m:M D} (h:VE X md P e m):SE X md P e m:=h.imp fun σ H Q q=>by
 obtain ⟨ρ,O,F,as,d,O',r,s,e,k⟩:=q;exact ⟨ρ,_,F,as,_,_,r,s,e,fun v H' F' as' g r' hv=>k v H' F' as' g r' (.inl hv)⟩
theorem QaE {e:Expr}{m:M D} (h:OE X md P e m):SE X md P e m:=h.imp fun σ H Q q=>by
 obtain ⟨ρ,O,F,as,d,O',r,s,e,k⟩:=q;exact ⟨ρ,_,F,as,_,_,r,s,e,fun v H' F' as' g r' hv=>k v H' F' as' g r' (Ow.sv hv)⟩
theorem Qcn {e:Expr}{m:M D} (h:SE X md P e m):VE X md P e (mG m):=h.imp fun σ H Q q=>by
 obtain ⟨ρ,O,F,as,d,O',r,s,e,k⟩:=q;obtain ⟨e,hn⟩:=QtJ e;exact ⟨ρ,_,F,as,_,_,r,s,e,fun v H' F' as' g r' hv=>k v H' F' as' g r' (Sv.rp hv hn)⟩
theorem QaR {e:Expr}{m:M D} (h:OE X md P e m):VE X md P e m:=h.imp fun σ H Q q=>by
 obtain ⟨ρ,O,F,as,d,O',r,s,e,k⟩:=q;refine ⟨ρ,_,F,as,_,_,r,s,e,fun v H' F' as' g r' hv=>?_⟩
 rcases hv with ⟨_,hv⟩ | ⟨a,xs,ds,rfl,rfl,e3,e4,e5,e6,e7⟩
 ·exact k v H' F' as' g r' hv
 ·have ff:Same F' (upd F' a (.lst xs)):=fun b u q=>by rw [Qal (Qas q e4)]; exact q
  refine k _ H' (upd F' a (.lst xs)) as' (g.frz e6 e4) (r'.frz e3 e4 e5 rfl) (Rp.mkL (.inl (.inl QaL)) (Rps.mono ff (fun _ _ z=>z) _ e7))
theorem QlS {e:Expr}{v:V}{d:D} (h:PE X e (tC v)) (hd:∀K F as,Rp K F as v d):VE X md P e (mC d):=h.imp fun σ H Q q=>by
 obtain ⟨ρ,O,F,as,d,O',r,s,e,k⟩:=q;cases e;exact k v H F as Gr.refl r (hd _ _ _)
theorem Qap {i:Int}{j pos}:VE X md P (.Constant (.int i) j pos) (mC (.int i)):=QlS Qr2 fun _ _ _=>Rp.int
theorem Qcp {b:Bool}{j pos}:VE X md P (.Constant (.bool b) j pos) (mC (.bl b)):=QlS QtW fun _ _ _=>Rp.bl
theorem QrJ {j pos}:VE X md P (.Constant .none j pos) (mC .non):=QlS QsJ fun _ _ _=>Rp.non
theorem Qaz {x:Str}{j pos} (l:List Nat) (hx:x=S l:=by decide +kernel):VE X md P (.Constant (.str x) j pos) (mC (.str l)):=QlS QnO fun _ _ _=>by rw [hx]; exact Rp.str
theorem Qdl {x:Str}{v:V}{d:D}{pos:Pos} (h:∃u,X.mg x=some u∧RelV v u) (hd:∀K F as,Rp K F as v d) (hg:Gl X x:=by rfl) (hdb:(x == ("__debug__":Str))=false:=by decide):VE X md P (.Name x pos) (mC d):=QlS (QkM h hg hdb) hd
def Qae:M (List D):=fun _ O=>.ok [] O
def Qac (m:M D) (r:M (List D)):M (List D):=fun ρ O=>(m ρ O).bind fun d O1=>(r ρ O1).bind fun ds O2=>.ok (d::ds) O2
theorem Qak:AE X md P [] [] Qae:=QcI.imp fun σ H Q q=>by
 obtain ⟨ρ,O,F,as,d,O',r,s,e,k⟩:=q;cases e;exact k [] H F as Gr.refl r trivial
theorem rA.gr {K:Frag}{m:Md}{N:Addr→Prop}{H F H' F':Hp}{as as':List Addr}{v:V}{d:D} (h:rA K m N H F as v d) (g:Gr H F as H' F' as'):rA K m (fun _=>True) H' F' as' v d:=by
 cases m with
 | v=>exact Rp.gr (show Rp K F as v d from h) g
 | s=>exact Sv.gr (show Sv K H F as v d from h) g
 | o=>exact Sv.gr (show Sv K H F as v d from h) g
theorem QbI.gr {K:Frag}{H F H' F':Hp}{as as':List Addr} (g:Gr H F as H' F' as'):∀{ms:List Md}{vs:List V}{ds:List D},QbI K H F as ms vs ds→QbI K H' F' as' ms vs ds
 | [],[],[],_=>trivial
 | m::ms,v::vs,d::ds,h=>⟨rA.gr h.1 g,QbI.gr g h.2⟩
 | [],[],_::_,h=>h.elim
 | [],_::_,[],h=>h.elim
 | [],_::_,_::_,h=>h.elim
 | _::_,[],[],h=>h.elim
 | _::_,[],_::_,h=>h.elim
 | _::_,_::_,[],h=>h.elim
theorem Qmk (md0:Md) {e:Expr}{es:List Expr}{m:M D}{ms:List Md}{r:M (List D)} (h:XE X md P (rA X.K md0) e m) (hr:AE X md P ms es r)
  (hs:starEach (e::es) X.env=(false,eval e X.env)::starEach es X.env:=by exact Qbl rfl):AE X md P (md0::ms) (e::es) (Qac m r):=(QbV h hr hs).imp fun σ H Q q=>by
 obtain ⟨ρ,O,F,as,d,O',r0,s,e,k⟩:=q;obtain ⟨d,O1,e1,e⟩:=Res.bind_ok e;obtain ⟨ds',O2,e2,e⟩:=Res.bind_ok e;cases e;refine ⟨ρ,_,F,as,_,_,r0,s,e1,fun v H1 F1 as1 g1 r1 hv=>?_⟩;refine ⟨ρ,_,F1,as1,_,_,r1,s.step g1,e2,fun vs H2 F2 as2 g2 r2 hvs=>?_⟩;exact k (v::vs) H2 F2 as2 (g1.trans g2) r2 ⟨rA.gr hv g2,hvs⟩
theorem QaS {e:Expr}{es:List Expr}{m:M D}{ms:List Md}{r:M (List D)} (h:VE X md P e m) (hr:AE X md P ms es r)
  (hs:starEach (e::es) X.env=(false,eval e X.env)::starEach es X.env:=by exact Qbl rfl):AE X md P (.v::ms) (e::es) (Qac m r):=Qmk .v h hr hs
theorem Qax {e:Expr}{es:List Expr}{m:M D}{ms:List Md}{r:M (List D)} (h:SE X md P e m) (hr:AE X md P ms es r)
  (hs:starEach (e::es) X.env=(false,eval e X.env)::starEach es X.env:=by exact Qbl rfl):AE X md P (.s::ms) (e::es) (Qac m r):=Qmk .s h hr hs
theorem QbI.rps {K:Frag}{H F:Hp}{as:List Addr}:∀{n:Nat}{vs:List V}{ds:List D},QbI K H F as (List.replicate n .v) vs ds→Rps K F as vs ds
 | 0,[],[],_=>Rps.nil
 | n+1,v::vs,d::ds,h=>by
  rw [List.replicate_succ] at h;exact Rps.cons h.1 (QbI.rps h.2)
 | 0,[],_::_,h=>h.elim
 | 0,_::_,[],h=>h.elim
 | 0,_::_,_::_,h=>h.elim
 | n+1,[],[],h=>h.elim
 | n+1,[],_::_,h=>h.elim
 | n+1,_::_,[],h=>h.elim
def Qb2 (r:M (List D)):M D:=fun ρ O=>(r ρ O).bind fun ds O1=>if ds.length≤1000000 then .ok (.lst ds) O1 else .no
def Qbj (r:M (List D)):M D:=fun ρ O=>(r ρ O).bind fun ds O1=>if ds.length≤1000000 then .ok (.tup ds) O1 else .no
theorem Qdn {n:Nat} (h:n≤1000000):n≤sizeLine:=zz h (by decide)
theorem Qce {es:List Expr}{pos:Pos}{r:M (List D)} (n:Nat) (h:AE X md P (List.replicate n .v) es r):OE X md P (.List es pos) (Qb2 r):=(Qs4 h).imp fun σ H Q q=>by
 obtain ⟨ρ,O,F,as,d,O',r0,s,e,k⟩:=q;obtain ⟨ds,O1,e1,e⟩:=Res.bind_ok e;split at e
 ·rename_i hz;cases e;refine ⟨ρ,_,F,as,_,_,r0,s,e1,fun vs H1 F1 as1 g1 r1 hv=>?_⟩;have hr:=hv.rps;refine ⟨by rw [hr.length]; exact Qdn hz,fun p hp=>?_⟩
  have hF:F1 p=none:=by
   cases q:F1 p with
   | none=>rfl
   | some o=>rw [r1.fh p o q] at hp; cases hp
  refine k _ _ F1 as1 (g1.trans (Gr.lay hp)) (r1.lay hp) (.inr ⟨p,vs,ds,rfl,rfl,QaL,hF,fun z=>r1.all z hp,g1.dm p hp,hr⟩)
 ·cases e
theorem QbO {es:List Expr}{pos:Pos}{x1}{r:M (List D)} (n:Nat) (h:AE X md P (List.replicate n .v) es r):VE X md P (.Tuple es x1 pos) (Qbj r):=(Qs5 h).imp fun σ H Q q=>by
 obtain ⟨ρ,O,F,as,d,O',r0,s,e,k⟩:=q;obtain ⟨ds,O1,e1,e⟩:=Res.bind_ok e;split at e
 ·rename_i hz;cases e;refine ⟨ρ,_,F,as,_,_,r0,s,e1,fun vs H1 F1 as1 g1 r1 hv=>?_⟩;have hr:=hv.rps;refine ⟨by rw [hr.length]; exact Qdn hz,fun p hp=>?_⟩
  have hF:F1 p=none:=by
   cases q:F1 p with
   | none=>rfl
   | some o=>rw [r1.fh p o q] at hp; cases hp
  have ff:Same F1 (upd F1 p (.tup vs)):=fun b u q=>by rw [Qal (Qas q hF)]; exact q
  refine k _ _ (upd F1 p (.tup vs)) as1 ((g1.trans (Gr.lay hp)).frz (g1.dm p hp) hF) ((r1.lay hp).frz QaL hF (fun z=>r1.all z hp) rfl) (Rp.mkT (.inl QaL) (Rps.mono ff (fun _ _ z=>z) _ hr))
 ·cases e
def rD (K:Frag) (mg:Str→Option Value) (g:D→D→Option D):R2:=fun x y H Q=>∃O F as dx dy d,RlO K mg O H F as∧Lk K H F as x dx∧Lk K H F as y dy∧g dx dy=some d ∧
 ∀v' H' F',Gr H F as H' F' as→RlO K mg O H' F' as→Ow K (fun a=>H a=none) H' F' as v' d→Q v' H'
abbrev OpD (X:Cx) (f:Value→Value→Sem Value) (g:D→D→Option D):Prop:=OpR X f (rD X.K X.mg g)
def Qaf (g:D→D→Option D) (ma mb:M D):M D:=fun ρ O=>(ma ρ O).bind fun x O1=>(mb ρ O1).bind fun y O2=>match g (QaK O2 x) (QaK O2 y) with
 | some d=>.ok d O2
 | none=>.no
theorem QkU {K:Frag}{mg:Str→Option Value}{g:D→D→Option D}{ma mb:M D}{σ:St}{H:Hp}{Q:VK} (h:tM K mg md P (rO K) (Qaf g ma mb) σ H Q):tOp (rD K mg g) (tM K mg md P (rS K) ma) (tM K mg md P (rS K) mb) σ H Q:=by
 obtain ⟨ρ,O,F,as,d,O',r,sl,e,k⟩:=h;obtain ⟨x,O1,e1,e⟩:=Res.bind_ok e;obtain ⟨y,O2,e2,e⟩:=Res.bind_ok e;split at e
 ·rename_i d' hg;cases e;refine ⟨ρ,_,F,as,_,_,r,sl,e1,fun v H1 F1 as1 g1 r1 hv=>?_⟩;refine ⟨ρ,_,F1,as1,_,_,r1,sl.step g1,e2,fun u H2 F2 as2 g2 r2 hu=>?_⟩;refine ⟨_,F2,as2,_,_,_,r2,Sv.lk (Sv.gr hv g2) r2,Sv.lk hu r2,hg,fun v' H' F' g' r' hw=>?_⟩;exact k v' H' F' as2 ((g1.trans g2).trans g') r' (Qcr _ _ _ _ _ _ _ (fun a ha=>(g1.trans g2).dm a ha) hw)
 ·cases e
theorem QaT {e1 e2:Expr}{pos:Pos}{op:Operator}{g:D→D→Option D}{ma mb:M D} (ho:OpD X (binaryOp op) g) (ha:SE X md P e1 ma) (hb:SE X md P e2 mb):OE X md P (.BinOp e1 op e2 pos) (Qaf g ma mb) :=
 (Qt5 ho ha hb).imp fun _ _ _=>QkU
theorem QgE {e1 e2:Expr}{pos:Pos}{op:CmpOp}{g:D→D→Option D}{ma mb:M D} (ho:OpD X (compareOp op) g) (ha:SE X md P e1 ma) (hb:SE X md P e2 mb) (hm:behindInMarks op e2=false):OE X md P (.Compare e1 [op] [e2] pos) (Qaf g ma mb) :=
 (Ql4 ho ha hb hm).imp fun _ _ _=>QkU
def QaD (m:M D):M Bool:=fun ρ O=>(m ρ O).bind fun d O1=>match d with
 | .bl b=>.ok b O1
 | _=>.no
theorem Qmq {K:Frag}{mg:Str→Option Value}{m:M D}{σ:St}{H:Hp}{Q:Bool→Hp→Prop} (h:tMT K mg md P (QaD m) σ H Q):Qnw (tM K mg md P (rO K) m) σ H Q:=by
 obtain ⟨ρ,O,F,as,d,O',r,sl,e,k⟩:=h;obtain ⟨d,O1,e1,e⟩:=Res.bind_ok e
 cases d with
 | bl c =>
  cases e;refine ⟨ρ,_,F,as,_,_,r,sl,e1,fun v H1 F1 as1 g1 r1 hv=>?_⟩
  rcases hv with ⟨_,hv⟩ | ⟨a,xs,ds,_,e2,_⟩
  ·exact ⟨_,hv.unB,k H1 F1 as1 g1 r1⟩
  ·cases e2
 | _=>cases e
theorem QaW {e1 e2:Expr}{pos:Pos}{op:CmpOp}{g:D→D→Option D}{ma mb:M D} (ho:OpD X (compareOp op) g) (ha:SE X md P e1 ma) (hb:SE X md P e2 mb) (hm:behindInMarks op e2=false):TsE X md P (.Compare e1 [op] [e2] pos) (QaD (Qaf g ma mb)) :=
 (QqN ho ha hb hm).imp fun σ H Q h=>by
  have q:=Qmq h;exact QkU q
def Qgw (g g':D→D→Option D) (ma mb mc:M D):M D:=fun ρ O=>(ma ρ O).bind fun x O1=>(mb ρ O1).bind fun y O2=>match g (QaK O2 x) (QaK O2 y) with
 | some (.bl true)=>(mc ρ O2).bind fun z O3=>match g' (QaK O3 y) (QaK O3 z) with
  | some d=>.ok d O3
  | none=>.no
 | some (.bl false)=>.ok (.bl false) O2
 | _=>.no
theorem Qpn {K:Frag}{mg:Str→Option Value}{g g':D→D→Option D}{ma mb mc:M D}{σ:St}{H:Hp}{Q:VK} (h:tM K mg md P (rO K) (Qgw g g' ma mb mc) σ H Q) :
  Qou (rD K mg g) (rD K mg g') (tM K mg md P (rS K) ma) (tM K mg md P (rS K) mb) (tM K mg md P (rS K) mc) σ H Q:=by
 obtain ⟨ρ,O,F,as,d,O',r,sl,e,k⟩:=h;obtain ⟨x,O1,e1,e⟩:=Res.bind_ok e;obtain ⟨y,O2,e2,e⟩:=Res.bind_ok e;refine ⟨ρ,_,F,as,_,_,r,sl,e1,fun v H1 F1 as1 g1 r1 hv=>?_⟩;refine ⟨ρ,_,F1,as1,_,_,r1,sl.step g1,e2,fun u H2 F2 as2 g2 r2 hu=>?_⟩;split at e
 ·rename_i hg;obtain ⟨z,O3,e3,e⟩:=Res.bind_ok e;refine ⟨_,F2,as2,_,_,_,r2,Sv.lk (Sv.gr hv g2) r2,Sv.lk hu r2,hg,fun v' H' F' g' r' hw=>?_⟩
  rcases hw with ⟨_,hw⟩ | ⟨a,xs,ds,_,z,_⟩
  ·refine ⟨true,hw.unB,?_⟩;rw [if_pos rfl];split at e
   ·rename_i d' hg';cases e;have g3:=(g1.trans g2).trans g';refine ⟨ρ,_,F',as2,_,_,r',sl.step g3,e3,fun w H4 F4 as4 g4 r4 hz=>?_⟩;refine ⟨_,F4,as4,_,_,_,r4,Sv.lk (Sv.gr (Sv.gr hu g') g4) r4,Sv.lk hz r4,hg',fun v5 H5 F5 g5 r5 hw5=>?_⟩;exact k v5 H5 F5 as4 ((g3.trans g4).trans g5) r5 (Qcr _ _ _ _ _ _ _ (fun a ha=>(g3.trans g4).dm a ha) hw5)
   ·cases e
  ·cases z
 ·rename_i hg;cases e;refine ⟨_,F2,as2,_,_,_,r2,Sv.lk (Sv.gr hv g2) r2,Sv.lk hu r2,hg,fun v' H' F' g' r' hw=>?_⟩
  rcases hw with ⟨_,hw⟩ | ⟨a,xs,ds,_,z,_⟩
  ·refine ⟨false,hw.unB,?_⟩;rw [if_neg zj];exact k _ H' F' as2 ((g1.trans g2).trans g') r' (.inl ⟨rfl,Rp.bl⟩)
  ·cases z
 ·cases e
theorem Qle {a b c:Expr}{pos:Pos}{op op':CmpOp}{g g':D→D→Option D}{ma mb mc:M D} (ho:OpD X (compareOp op) g) (ho':OpD X (compareOp op') g') (ha:SE X md P a ma) (hb:SE X md P b mb) (hc:SE X md P c mc)
  (hm:lastMarks [op,op'] [b,c]=false:=by with_unfolding_all rfl):OE X md P (.Compare a [op,op'] [b,c] pos) (Qgw g g' ma mb mc):=(Qpe ho ho' ha hb hc hm).imp fun _ _ _=>Qpn
def isNon:D→Bool
 | .non=>true
 | _=>false
def Qux (m:M D):M D:=fun ρ O=>(m ρ O).bind fun d O1=>.ok (.bl (isNon d)) O1
def QkD (m:M D):M D:=fun ρ O=>(m ρ O).bind fun d O1=>.ok (.bl (!isNon d)) O1
theorem Sv.isN {K:Frag}{H F:Hp}{as:List Addr}{v:V}{d:D} (h:Sv K H F as v d):decide (v = .non)=isNon d:=by
 rcases h with h | ⟨a,xs,ds,rfl,rfl,_⟩
 ·cases d with
  | non=>rw [h.unN]; rfl
  | bl b=>rw [h.unB]; rfl
  | int b=>rw [h.unI]; rfl
  | str b=>rw [h.unS]; rfl
  | lst b=>obtain ⟨a,xs,rfl,_⟩:=h.unL; rfl
  | tup b=>obtain ⟨a,xs,rfl,_⟩:=h.unT; rfl
  | dic k b=>obtain ⟨a,xs,rfl,_⟩:=h.unD; rfl
  | ob b=>obtain ⟨a,rfl,_⟩:=h.unO; rfl
 ·rfl
theorem Qrt {K:Frag}{mg:Str→Option Value}{m:M D}{σ:St}{H:Hp}{Q:VK} (h:tM K mg md P (rO K) (QkD m) σ H Q):QpY (tM K mg md P (rS K) m) σ H Q:=by
 obtain ⟨ρ,O,F,as,d,O',r,sl,e,k⟩:=h;obtain ⟨x,O1,e1,e⟩:=Res.bind_ok e;cases e;refine ⟨ρ,_,F,as,_,_,r,sl,e1,fun v H1 F1 as1 g1 r1 hv=>?_⟩;dsimp only;rw [Sv.isN hv];exact k _ H1 F1 as1 g1 r1 (.inl ⟨rfl,Rp.bl⟩)
theorem Que {t t':TE}{σ:St}{H:Hp}{Q:Bool→Hp→Prop} (h:∀Q',t σ H Q'→t' σ H Q') (q:Qnw t σ H Q):tB t' σ H Q:=h _ q
theorem Qqi {a:Expr}{pos pos':Pos}{j}{m:M D} (h:SE X md P a m):TsE X md P (.Compare a [.IsNot] [.Constant .none j pos'] pos) (QaD (QkD m)):=(QrN (Qrn h)).imp fun _ _ _ q=>Que (fun _=>Qrt) (Qmq q)
def QjS:D→Option Bool
 | .non=>some false
 | .bl b=>some b
 | .int i=>some (i != 0)
 | .str l=>if l.length≤1000000 then some (!l.isEmpty) else none
 | .lst ds=>some (!ds.isEmpty)
 | .tup ds=>some (!ds.isEmpty)
 | .dic ks _=>some (!ks.isEmpty)
 | .ob _=>none
def QbJ (m:M D):M Bool:=fun ρ O=>(m ρ O).bind fun d O1=>match QjS (QaK O1 d) with
 | some b=>.ok b O1
 | none=>.no
theorem Qkj {α β:Type}{xs:List α}{ys:List β} (h:xs.length=ys.length):(!xs.isEmpty) = !ys.isEmpty:=by
 cases xs <;> cases ys <;> simp_all
theorem Lk.tru {K:Frag}{H F:Hp}{as:List Addr}{v:V}{d:D}{b:Bool} (h:Lk K H F as v d) (fh:Same F H) (e:QjS d=some b):Qpl K v H b:=by
 cases d with
 | non=>rw [(h.rp rfl).unN]; cases e; rfl
 | bl b=>rw [(h.rp rfl).unB]; cases e; rfl
 | int b=>rw [(h.rp rfl).unI]; cases e; rfl
 | str l =>
  rw [(h.rp rfl).unS];simp only [QjS] at e;split at e
  ·rename_i hl;cases e;refine ⟨by rw [QaU]; exact Qdn hl,?_⟩;rw [QaU]
   cases l with
   | nil=>rfl
   | cons c l =>
    have:((((c::l).length:Nat):Int) != 0)=true:=by
     rw [bne_iff_ne,zk];omega
    rw [this];rfl
  ·cases e
 | lst ds =>
  obtain ⟨a,xs,rfl,h1,h2⟩:=h.list fh;cases e;exact .inl ⟨xs,h1.sq,(Qkj h2.length).symm⟩
 | tup ds =>
  obtain ⟨a,xs,rfl,h1,h2⟩:=(h.rp rfl).unT;cases e;exact .inr (.inl ⟨xs,Same.seqT fh h1,(Qkj h2.length).symm⟩)
 | dic ks vs =>
  obtain ⟨a,kvs,rfl,h1,rfl,h2⟩:=(h.rp rfl).unD;cases e;exact .inr (.inr ⟨kvs,fh _ _ h1,by cases kvs <;> rfl⟩)
 | ob n=>cases e
theorem Qb1 {a:Expr}{m:M D} (h:SE X md P a m) (he:∀whole,isTrue a X.env whole=(do let v ←whole; standAt a.pos; holding [v] (truthy v)):=by intro _; rfl):TsE X md P a (QbJ m):=(Qpo h he).imp fun σ H Q q=>by
 obtain ⟨ρ,O,F,as,d,O',r,sl,e,k⟩:=q;obtain ⟨d,O1,e1,e⟩:=Res.bind_ok e;split at e
 ·rename_i c hc;cases e;exact ⟨ρ,_,F,as,_,_,r,sl,e1,fun v H1 F1 as1 g1 r1 hv=>⟨_,Lk.tru (Sv.lk hv r1) r1.fh hc,k H1 F1 as1 g1 r1⟩⟩
 ·cases e
def Qff (a b:M Bool):M Bool:=fun ρ O=>(a ρ O).bind fun c O1=>if c=true then b ρ O1 else .ok false O1
def Qb3 (a b:M Bool):M Bool:=fun ρ O=>(a ρ O).bind fun c O1=>if c=true then .ok true O1 else b ρ O1
def Qbz (a:M Bool):M Bool:=fun ρ O=>(a ρ O).bind fun c O1=>.ok (!c) O1
theorem QqT {K:Frag}{mg:Str→Option Value}{ma mb:M Bool}{σ:St}{H:Hp}{Q:Bool→Hp→Prop} (h:tMT K mg md P (Qff ma mb) σ H Q):QsD (tMT K mg md P ma) (tMT K mg md P mb) σ H Q:=by
 obtain ⟨ρ,O,F,as,d,O',r,sl,e,k⟩:=h;obtain ⟨c,O1,e1,e⟩:=Res.bind_ok e;refine ⟨ρ,_,F,as,_,_,r,sl,e1,fun H1 F1 as1 g1 r1=>?_⟩
 cases c with
 | true =>
  rw [if_pos rfl] at e ⊢;exact ⟨ρ,_,F1,as1,_,_,r1,sl.step g1,e,fun H2 F2 as2 g2 r2=>k H2 F2 as2 (g1.trans g2) r2⟩
 | false =>
  rw [if_neg zj] at e ⊢;cases e;exact k H1 F1 as1 g1 r1
theorem Qsf {K:Frag}{mg:Str→Option Value}{ma mb:M Bool}{σ:St}{H:Hp}{Q:Bool→Hp→Prop} (h:tMT K mg md P (Qb3 ma mb) σ H Q):tOr (tMT K mg md P ma) (tMT K mg md P mb) σ H Q:=by
 obtain ⟨ρ,O,F,as,d,O',r,sl,e,k⟩:=h;obtain ⟨c,O1,e1,e⟩:=Res.bind_ok e;refine ⟨ρ,_,F,as,_,_,r,sl,e1,fun H1 F1 as1 g1 r1=>?_⟩
 cases c with
 | true =>
  rw [if_pos rfl] at e ⊢;cases e;exact k H1 F1 as1 g1 r1
 | false =>
  rw [if_neg zj] at e ⊢;exact ⟨ρ,_,F1,as1,_,_,r1,sl.step g1,e,fun H2 F2 as2 g2 r2=>k H2 F2 as2 (g1.trans g2) r2⟩
theorem Qmz {a:Expr}{pos:Pos}{m:M Bool} (h:TsE X md P a m):TwE X md P (.BoolOp .And [a] pos) m:=Qqw h
theorem QeN {a:Expr}{pos:Pos}{m:M Bool} (h:TsE X md P a m):TwE X md P (.BoolOp .Or [a] pos) m:=QsR h
theorem QgA {a b:Expr}{rest:List Expr}{pos:Pos}{ma mb:M Bool} (ha:TsE X md P a ma) (hb:TwE X md P (.BoolOp .And (b::rest) pos) mb):TwE X md P (.BoolOp .And (a::b::rest) pos) (Qff ma mb):=(QsX ha hb).imp fun _ _ _=>QqT
theorem Qee {a b:Expr}{rest:List Expr}{pos:Pos}{ma mb:M Bool} (ha:TsE X md P a ma) (hb:TwE X md P (.BoolOp .Or (b::rest) pos) mb):TwE X md P (.BoolOp .Or (a::b::rest) pos) (Qb3 ma mb):=(QtD ha hb).imp fun _ _ _=>Qsf
theorem Qgt {e:Expr}{m:M Bool} (h:TwE X md P e m):TsE X md P e m:=PW.pt h
theorem QcW {a:Expr}{pos:Pos}{m:M Bool} (h:TsE X md P a m):TsE X md P (.UnaryOp .Not a pos) (Qbz m):=(QsW h).imp fun σ H Q q=>by
 obtain ⟨ρ,O,F,as,d,O',r,sl,e,k⟩:=q;obtain ⟨c,O1,e1,e⟩:=Res.bind_ok e;cases e;exact ⟨ρ,_,F,as,_,_,r,sl,e1,k⟩
def Qdq (ma mb:M D):M D:=fun ρ O=>(ma ρ O).bind fun d O1=>match d with
 | .bl true=>mb ρ O1
 | .bl false=>.ok (.bl false) O1
 | _=>.no
def QrR (ma mb:M D):M D:=fun ρ O=>(ma ρ O).bind fun d O1=>match d with
 | .bl true=>.ok (.bl true) O1
 | .bl false=>mb ρ O1
 | _=>.no
def Qkw (ma:M D):M D:=fun ρ O=>(ma ρ O).bind fun d O1=>match d with
 | .bl b=>.ok (.bl (!b)) O1
 | _=>.no
theorem QfG {a:Expr}{pos:Pos}{op}{m:M D} (h:VE X md P a m):VE X md P (.BoolOp op [a] pos) m:=QrK h
theorem QdM {a b:Expr}{rest:List Expr}{pos:Pos}{ma mb:M D} (ha:VE X md P a ma) (hb:VE X md P (.BoolOp .And (b::rest) pos) mb):VE X md P (.BoolOp .And (a::b::rest) pos) (Qdq ma mb):=(QsV ha hb).imp fun σ H Q q=>by
 obtain ⟨ρ,O,F,as,d,O',r,sl,e,k⟩:=q;obtain ⟨x,O1,e1,e⟩:=Res.bind_ok e;refine ⟨ρ,_,F,as,_,_,r,sl,e1,fun v H1 F1 as1 g1 r1 hv=>?_⟩
 cases x with
 | bl c =>
  refine ⟨c,Rp.unB hv,?_⟩
  cases c with
  | true =>
   rw [if_pos rfl];exact ⟨ρ,_,F1,as1,_,_,r1,sl.step g1,e,fun v2 H2 F2 as2 g2 r2 hv2=>k v2 H2 F2 as2 (g1.trans g2) r2 hv2⟩
  | false =>
   rw [if_neg zj];cases e;exact k _ H1 F1 as1 g1 r1 Rp.bl
 | _=>cases e
theorem QnM {a:Expr}{pos:Pos}{m:M D} (h:VE X md P a m):VE X md P (.UnaryOp .Not a pos) (Qkw m):=(Qsu h).imp fun σ H Q q=>by
 obtain ⟨ρ,O,F,as,d,O',r,sl,e,k⟩:=q;obtain ⟨x,O1,e1,e⟩:=Res.bind_ok e;refine ⟨ρ,_,F,as,_,_,r,sl,e1,fun v H1 F1 as1 g1 r1 hv=>?_⟩
 cases x with
 | bl c =>
  cases e;exact ⟨c,Rp.unB hv,k _ H1 F1 as1 g1 r1 Rp.bl⟩
 | _=>cases e
def mIf (t:M Bool) (a b:M D):M D:=fun ρ O=>(t ρ O).bind fun c O1=>if c=true then a ρ O1 else b ρ O1
end
section
variable {K:Frag}{mg:Str→Option Value}{md:List Md}{P:Pt}{R:RR}{ρ:Qai}{σ:St}{H F H' F':Hp}{as as':List Addr}{O O':Qaa}
theorem SlO.set {i:Nat}{m:Md}{v:V}{d:D} (s:SlO K md P ρ σ H F as) (hm:md[i]? = some m) (hns:m≠.s) (hv:QeG P K H F as m v d)
  (hj:∀(a:Addr) (ds:List D) (j:Nat) (es:List D),m = .o→v = .ref a→d = .lst ds→i≠j→md[j]? = some .o→ρ[j]? = some (some (.lst es))→σ[j]?≠some (some (.ref a))):SlO K md P (ρ.set i (some d)) (σ.set i (some v)) H F as:=by
 have hi:i < md.length:=(zh.mp hm).1;refine ⟨by rw [zQ]; exact s.len,by rw [zQ]; exact s.len',s.pd,fun j m' d' e1 e2=>?_,fun j k a ds es h1 h2 h3 h4 h5 h6=>?_,fun x hx=>?_⟩
 ·by_cases h:i=j
  ·subst h;rw [hm] at e1; cases e1;rw [zF (by rw [s.len']; exact hi)] at e2;cases e2;exact ⟨v,zF (by rw [s.len]; exact hi),hv⟩
  ·rw [ze h] at e2;rw [ze h];exact s.sl j m' d' e1 e2
 ·by_cases hij:i=j
  ·by_cases hik:i=k
   ·rw [←hij,←hik]
   ·exfalso
    subst hij;rw [hm] at h1; cases h1;rw [zF (by rw [s.len']; exact hi)] at h3;rw [zF (by rw [s.len]; exact hi)] at h5;rw [ze hik] at h4 h6;cases h3; cases h5;exact hj a ds k es rfl rfl rfl hik h2 h4 h6
  ·by_cases hik:i=k
   ·exfalso
    subst hik;rw [hm] at h2; cases h2;rw [zF (by rw [s.len']; exact hi)] at h4;rw [zF (by rw [s.len]; exact hi)] at h6;rw [ze hij] at h3 h5;cases h4; cases h6;exact hj a es j ds rfl rfl rfl hij h1 h3 h5
   ·rw [ze hij] at h3 h5;rw [ze hik] at h4 h6;exact s.inj j k a ds es h1 h2 h3 h4 h5 h6
 ·obtain ⟨p1,p2,p3⟩:=s.pin x hx
  have hne:i≠x.1:=fun z=>by
   rw [←z,hm] at p1;exact hns (zM p1)
  exact ⟨p1,by rw [ze hne]; exact p2,by rw [ze hne]; exact p3⟩
theorem SlO.setV {i:Nat}{v:V}{d:D} (s:SlO K md P ρ σ H F as) (hm:md[i]? = some .v) (hv:Rp K F as v d):SlO K md P (ρ.set i (some d)) (σ.set i (some v)) H F as :=
 s.set hm (by decide) hv fun _ _ _ _ z=>nomatch z
theorem SlO.setN {i:Nat}{v:V}{d:D} (s:SlO K md P ρ σ H F as) (hm:md[i]? = some .o) (hn:QfZ d=true) (hv:Rp K F as v d):SlO K md P (ρ.set i (some d)) (σ.set i (some v)) H F as :=
 s.set hm (by decide) (.inl ⟨hn,hv⟩) fun _ _ _ _ _ _ z=>by subst z; cases hn
theorem SlO.setO {i:Nat}{v:V}{d:D}{H0:Hp} (s:SlO K md P ρ σ H0 F as) (g:Gr H0 F as H' F' as') (hm:md[i]? = some .o) (hv:Ow K (fun a=>H0 a=none) H' F' as' v d):SlO K md P (ρ.set i (some d)) (σ.set i (some v)) H' F' as':=by
 have s':=s.step g
 rcases hv with ⟨hn,hv⟩ | ⟨a,xs,ds,rfl,rfl,e3,e4,e5,e6,e7⟩
 ·exact s'.setN hm hn hv
 ·refine s'.set hm (by decide) (.inr ⟨a,xs,ds,rfl,rfl,e3,e4,e5,fun p=>s.pd a p e6,e7⟩) fun b ds' j es _ hb hd hij hj he hs=>?_
  cases hb;obtain ⟨v,h1,h2⟩:=s.sl j .o _ hj he;rw [hs] at h1; cases h1
  rcases h2 with ⟨h2,_⟩ | ⟨a',xs',_,z1,_,z3,_⟩
  ·cases h2
  ·cases z1;rw [e6] at z3; cases z3
end
section
variable {X:Cx}{md:List Md}{P:Pt}{R:RR}
def QaO:MS:=fun ρ O=>.nx ρ O
def Qan (a b:MS):MS:=fun ρ O=>match a ρ O with
 | .nx ρ' O'=>b ρ' O'
 | r=>r
theorem QaQ:VSs X md P R [] QaO:=Qrm.imp fun D σ H q=>by
 obtain ⟨ρ,O,F,as,r,s,k⟩:=q;exact k σ H F as GrS.refl r s
theorem Qcq {K:Frag}{mg:Str→Option Value}{D:Ends}{H F H1 F1:Hp}{as as1:List Addr} (g:GrS P H F as H1 F1 as1) {f:Fl} (k:Qdm K mg md P R D H F as f):Qdm K mg md P R D H1 F1 as1 f:=by
 cases f with
 | nx ρ' O'=>exact fun σ' H' F' as' g'=>k σ' H' F' as' (g.trans g')
 | bk ρ' O'=>exact fun σ' H' F' as' g'=>k σ' H' F' as' (g.trans g')
 | ct ρ' O'=>exact fun σ' H' F' as' g'=>k σ' H' F' as' (g.trans g')
 | rt d O'=>exact fun σ' H' F' as' g'=>k σ' H' F' as' (g.trans g')
 | ex _ _=>exact k
 | no=>exact k
theorem Qah {st:Stmt}{rest:List Stmt}{a b:MS} (h1:VS X md P R st a) (h2:VSs X md P R rest b):VSs X md P R (st::rest) (Qan a b):=(QpI h1 h2).imp fun D σ H q=>by
 obtain ⟨ρ,O,F,as,r,s,k⟩:=q;refine ⟨ρ,O,F,as,r,s,?_⟩;unfold Qan at k
 cases e:a ρ O with
 | nx ρ' O' =>
  rw [e] at k;dsimp only at k
  exact fun σ' H' F' as' g r' s'=>⟨ρ',O',F',as',r',s',Qcq g k⟩
 | bk ρ' O'=>rw [e] at k; exact k
 | ct ρ' O'=>rw [e] at k; exact k
 | rt d O'=>rw [e] at k; exact k
 | ex x O'=>rw [e] at k; exact k
 | no=>rw [e] at k; exact k
theorem Qam {st:Stmt}{a:MS} (h1:VS X md P R st a):VSs X md P R [st] a:=Qms h1
def QjK:MS:=fun _ _=>.no
theorem QiQ {st:Stmt}:VS X md P R st QjK:=(Qpj (X:=X) (st:=st)).imp fun D σ H q=>by
 obtain ⟨ρ,O,F,as,r,s,k⟩:=q;exact False.elim k
def Qgv (m:M D):MS:=fun ρ O=>match m ρ O with
 | .ok _ O'=>.nx ρ O'
 | .ex x O'=>.ex x O'
 | .no=>.no
theorem Qju {e:Expr}{pos:Pos}{m:M D} (h:SE X md P e m) (hs:swapsWith e none pos.line X.env=pure false:=by rfl):VS X md P R (.Expr e pos) (Qgv m):=(Qfq h hs).imp fun D σ H q=>by
 obtain ⟨ρ,O,F,as,r,s,k⟩:=q;unfold Qgv at k
 cases e:m ρ O with
 | ok d O' =>
  rw [e] at k;exact ⟨ρ,_,F,as,_,_,r,s,e,fun v H' F' as' g r' _=>k σ H' F' as' g.toS r' (s.step g)⟩
 | ex x O'=>rw [e] at k; exact False.elim k
 | no=>rw [e] at k; exact False.elim k
def Qaw (m:M D):MS:=fun ρ O=>match m ρ O with
 | .ok d O'=>.rt d O'
 | .ex x O'=>.ex x O'
 | .no=>.no
theorem QnY (hR:Qew R) {e:Expr}{pos:Pos}{m:M D} (h:PE X e (tM X.K X.mg md P R m)):VS X md P R (.Return (some e) pos) (Qaw m):=(QoA h).imp fun D σ H q=>by
 obtain ⟨ρ,O,F,as,r,s,k⟩:=q;unfold Qaw at k
 cases e:m ρ O with
 | ok d O' =>
  rw [e] at k;exact ⟨ρ,_,F,as,_,_,r,s,e,fun v H' F' as' g r' hv=>k v H' F' as' g.toS r' (hR _ _ _ _ _ _ _ (fun a ha p=>s.pd a p ha) hv)⟩
 | ex x O'=>rw [e] at k; exact False.elim k
 | no=>rw [e] at k; exact False.elim k
theorem QaC {e:Expr}{pos:Pos}{m:M D} (h:VE X md P e m):VS X md P (rV X.K) (.Return (some e) pos) (Qaw m):=QnY Qbn h
theorem Qex {e:Expr}{pos:Pos}{m:M D} (h:OE X md P e m):VS X md P (rO X.K) (.Return (some e) pos) (Qaw m):=QnY Qcr h
theorem Qib (i:Nat) {x:Str}{p pos:Pos} (hm:md[i]? = some .o:=by rfl) (hN:X.N[i]? = some x:=by rfl) (hv:Vis X.env.scope x:=by first | exact Or.inl rfl | exact Or.inr (Or.inl rfl) | exact Or.inr (Or.inr rfl))
  (hd:(x == ("__debug__":Str))=false:=by decide) (hcd:(x == ("__classdict__":Str))=false:=by decide):VS X md P (rO X.K) (.Return (some (.Name x p)) pos) (Qaw (Qab i)):=(QoA (QeQ (i:=i) hN hv hd hcd)).imp fun D σ H q=>by
 obtain ⟨ρ,O,F,as,r,s,k⟩:=q;unfold Qaw at k
 cases e:Qab i ρ O with
 | ok d O' =>
  rw [e] at k;obtain ⟨e1,rfl⟩:=Qh8 e;obtain ⟨v,h1,h2⟩:=s.sl i .o d hm e1;refine ⟨v,h1,k v H F as GrS.refl r ?_⟩
  rcases h2 with h2 | ⟨a,xs,ds,e1,e2,e3,e0,e4,e5,e6⟩
  ·exact .inl h2
  ·exact .inr ⟨a,xs,ds,e1,e2,e3,e0,e4,e5,e6⟩
 | ex x O'=>rw [e] at k; exact False.elim k
 | no=>rw [e] at k; exact False.elim k
def QaV (t:M Bool) (a b:MS):MS:=fun ρ O=>match t ρ O with
 | .ok c O'=>if c=true then a ρ O' else b ρ O'
 | .ex x O'=>.ex x O'
 | .no=>.no
theorem Qa7 {c:Expr}{a b:List Stmt}{pos:Pos}{t:M Bool}{ma mb:MS} (hc:TsE X md P c t) (ha:VSs X md P R a ma) (hb:VSs X md P R b mb):VS X md P R (.If c a b pos) (QaV t ma mb):=(QtX hc ha hb).imp fun D σ H q=>by
 obtain ⟨ρ,O,F,as,r,s,k⟩:=q;unfold QaV at k
 cases e:t ρ O with
 | ok c O' =>
  rw [e] at k;refine ⟨ρ,_,F,as,_,_,r,s,e,fun H1 F1 as1 g r1=>?_⟩;dsimp only at k
  cases c with
  | true =>
   rw [if_pos rfl] at k ⊢;exact ⟨ρ,O',F1,as1,r1,s.step g,Qcq g.toS k⟩
  | false =>
   rw [if_neg zj] at k ⊢;exact ⟨ρ,O',F1,as1,r1,s.step g,Qcq g.toS k⟩
 | ex x O'=>rw [e] at k; exact False.elim k
 | no=>rw [e] at k; exact False.elim k
def Qat (i:Nat) (m:M D):MS:=fun ρ O=>match m ρ O with
 | .ok d O'=>.nx (ρ.set i (some d)) O'
 | .ex x O'=>.ex x O'
 | .no=>.no
theorem QqD {K:Frag}{mg:Str→Option Value}{i:Nat}{m:M D}{t:TE} (hm:md[i]? = some .v) (ht:∀σ H Q,tM K mg md P (rV K) m σ H Q→t σ H Q) {D:Ends}{σ:St}{H:Hp} (q:tMS K mg md P R (Qat i m) D σ H):Qo6 t (Qky i) D σ H:=by
 obtain ⟨ρ,O,F,as,r,s,k⟩:=q;unfold Qat at k
 cases e:m ρ O with
 | ok d O' =>
  rw [e] at k;exact ht _ _ _ ⟨ρ,_,F,as,_,_,r,s,e,fun v H' F' as' g r' hv=>k _ H' F' as' g.toS r' ((s.step g).setV hm hv)⟩
 | ex x O'=>rw [e] at k; exact False.elim k
 | no=>rw [e] at k; exact False.elim k
theorem Qqy {K:Frag}{mg:Str→Option Value}{i:Nat}{m:M D}{t:TE} (hm:md[i]? = some .o) (ht:∀σ H Q,tM K mg md P (rO K) m σ H Q→t σ H Q) {D:Ends}{σ:St}{H:Hp} (q:tMS K mg md P R (Qat i m) D σ H):Qo6 t (Qky i) D σ H:=by
 obtain ⟨ρ,O,F,as,r,s,k⟩:=q;unfold Qat at k
 cases e:m ρ O with
 | ok d O' =>
  rw [e] at k;exact ht _ _ _ ⟨ρ,_,F,as,_,_,r,s,e,fun v H' F' as' g r' hv=>k _ H' F' as' g.toS r' (s.setO g hm hv)⟩
 | ex x O'=>rw [e] at k; exact False.elim k
 | no=>rw [e] at k; exact False.elim k
theorem Qa2 {i:Nat}{x:Str}{e:Expr}{pos pos':Pos}{m:M D} (hN:X.N.Nodup) (hi:X.N[i]? = some x) (hx:Loc X.env.scope x) (h:VE X md P e m) (hm:md[i]? = some .v:=by rfl) (hs:swapsWith e (some (.Name x pos')) pos.line X.env=pure false:=by rfl)
  (hf:X.fn x=true∨X.env.scope.names.lookup x=some .local:=by first | exact .inl rfl | exact .inr rfl | assumption):VS X md P R (.Assign [.Name x pos'] e pos) (Qat i m):=(QnE (i:=i) hN hi hx h hs hf).imp fun D σ H q=>QqD hm (fun _ _ _ z=>z) q
theorem QdW {i:Nat}{x:Str}{e:Expr}{pos pos':Pos}{m:M D} (hN:X.N.Nodup) (hi:X.N[i]? = some x) (hx:Loc X.env.scope x) (h:OE X md P e m) (hm:md[i]? = some .o:=by rfl) (hs:swapsWith e (some (.Name x pos')) pos.line X.env=pure false:=by rfl)
  (hf:X.fn x=true∨X.env.scope.names.lookup x=some .local:=by first | exact .inl rfl | exact .inr rfl | assumption):VS X md P R (.Assign [.Name x pos'] e pos) (Qat i m):=(QnE (i:=i) hN hi hx h hs hf).imp fun D σ H q=>Qqy hm (fun _ _ _ z=>z) q
abbrev MG:=D→Qai→Option Qai
def tMG (K:Frag) (mg:Str→Option Value) (md:List Md) (P:Pt) (g:MG):TG:=fun v σ H Q=>∃ρ O F as d ρ',RlO K mg O H F as∧SlO K md P ρ σ H F as∧Rp K F as v d∧g d ρ=some ρ'∧∀σ',SlO K md P ρ' σ' H F as→Q σ' H
def Quu (K:Frag) (mg:Str→Option Value) (md:List Md) (P:Pt) (g:List D→Qai→Option Qai):TGs:=fun vs σ H Q=>∃ρ O F as ds ρ',RlO K mg O H F as∧SlO K md P ρ σ H F as∧Rps K F as vs ds∧g ds ρ=some ρ'∧∀σ',SlO K md P ρ' σ' H F as→Q σ' H
def VG (X:Cx) (md:List Md) (P:Pt) (tg:Expr) (g:MG):Prop:=PG X tg (tMG X.K X.mg md P g)
def VGs (X:Cx) (md:List Md) (P:Pt) (tg:List Expr) (g:List D→Qai→Option Qai):Prop:=PGs X tg (Quu X.K X.mg md P g)
theorem PG.imp {e:Expr}{t t':TG} (h:PG X e t) (k:∀v σ H Q,t' v σ H Q→t v σ H Q):PG X e t':=fun pins s σ H v u Q I r q=>h pins s σ H v u Q I r (k v σ H Q q)
theorem PGs.imp {e:List Expr}{t t':TGs} (h:PGs X e t) (k:∀v σ H Q,t' v σ H Q→t v σ H Q):PGs X e t':=fun pins s σ H v u Q I r q=>h pins s σ H v u Q I r (k v σ H Q q)
def mgN (i:Nat):MG:=fun d ρ=>some (ρ.set i (some d))
theorem Qbv {i:Nat}{x:Str}{pos:Pos} (hN:X.N.Nodup) (hi:X.N[i]? = some x) (hx:Loc X.env.scope x) (hm:md[i]? = some .v:=by rfl) (hf:X.fn x=true∨X.env.scope.names.lookup x=some .local:=by first | exact .inl rfl | exact .inr rfl | assumption):VG X md P (.Name x pos) (mgN i) :=
 (Qqz (i:=i) hN hi hx hf).imp fun v σ H Q q=>by
  obtain ⟨ρ,O,F,as,d,ρ',r,s,hv,e,k⟩:=q;cases e;exact k _ (s.setV hm hv)
def Qeo:List D→Qai→Option Qai:=fun ds ρ=>match ds with
 | []=>some ρ
 | _=>none
def Qbq (g:MG) (r:List D→Qai→Option Qai):List D→Qai→Option Qai:=fun ds ρ=>match ds with
 | d::ds=>(g d ρ).bind fun ρ1=>r ds ρ1
 | []=>none
theorem QjA:VGs X md P [] Qeo:=QqH.imp fun v σ H Q q=>by
 obtain ⟨ρ,O,F,as,ds,ρ',r,s,hv,e,k⟩:=q
 cases ds with
 | nil=>cases e; exact ⟨hv.un0,k _ s⟩
 | cons _ _=>cases e
theorem QeA {e:Expr}{es:List Expr}{g:MG}{r:List D→Qai→Option Qai} (h1:VG X md P e g) (h2:VGs X md P es r) (hs:(assignEach (e::es) X.env).map (·.2)=assign e X.env::(assignEach es X.env).map (·.2):=by rfl):VGs X md P (e::es) (Qbq g r) :=
 (QoZ h1 h2 hs).imp fun v σ H Q q=>by
  obtain ⟨ρ,O,F,as,ds,ρ',r0,s,hv,e,k⟩:=q
  cases ds with
  | nil=>cases e
  | cons d ds =>
   obtain ⟨x,rs,rfl,hx,hr⟩:=hv.un;unfold Qbq at e;dsimp only at e
   cases e1:g d ρ with
   | none=>rw [e1] at e; cases e
   | some ρ1 =>
    rw [e1] at e;exact ⟨x,rs,rfl,ρ,O,F,as,d,ρ1,r0,s,hx,e1,fun σ' s'=>⟨ρ1,O,F,as,ds,ρ',r0,s',hr,e,k⟩⟩
def Qgg (n:Nat) (r:List D→Qai→Option Qai):MG:=fun d ρ=>match d with
 | .tup ds=>if ds.length=n then r ds ρ else none
 | _=>none
theorem Qk0 {es:List Expr}{pos:Pos}{k:Nat}{r:List D→Qai→Option Qai} (n:Nat) (hc:X.calm=true) (h:VGs X md P es r) (hn:(assignEach es X.env).length=n:=by rfl) (hst:(assignEach es X.env).findIdx? (·.1)=none:=by rfl):VG X md P (.Tuple es k pos) (Qgg n r) :=
 (Qr9 hc h hn hst).imp fun v σ H Q q=>by
  obtain ⟨ρ,O,F,as,d,ρ',r0,s,hv,e,k⟩:=q
  cases d with
  | tup ds =>
   obtain ⟨a,xs,rfl,h1,h2⟩:=hv.unT;unfold Qgg at e;dsimp only at e;split at e
   ·rename_i hl;exact ⟨a,xs,rfl,Same.seqT r0.fh h1,by rw [h2.length]; exact hl,ρ,O,F,as,ds,ρ',r0,s,h2,e,k⟩
   ·cases e
  | _=>cases e
def QtC (m:M D) (g:MG):MS:=fun ρ O=>match m ρ O with
 | .ok d O'=>match g d ρ with
  | some ρ'=>.nx ρ' O'
  | none=>.no
 | .ex x O'=>.ex x O'
 | .no=>.no
end
structure JOk (K:Frag) (mg:Str→Option Value) (P:Pt) (J:It) (ds:List D) (H F:Hp) (as:List Addr):Prop where
 turn:∀(i:Nat) (d:D) (H2 F2:Hp) (as2:List Addr),GrS P H F as H2 F2 as2→(∃O,RlO K mg O H2 F2 as2)→ds[i]? = some d→J.go i H2∧∀x H3,J.yld i H2 x H3→∃F3,Gr H2 F2 as2 H3 F3 as2∧(∀O,RlO K mg O H2 F2 as2→RlO K mg O H3 F3 as2)∧Rp K F3 as2 x d
 stop:∀(H2 F2:Hp) (as2:List Addr),GrS P H F as H2 F2 as2→(∃O,RlO K mg O H2 F2 as2)→J.stop ds.length H2
structure QrG (K:Frag) (mg:Str→Option Value) (J:It) (ds:List D) (H F:Hp) (as:List Addr):Prop where
 turn:∀(i:Nat) (d:D) (H2 F2:Hp) (as2:List Addr),Gr H F as H2 F2 as2→(∃O,RlO K mg O H2 F2 as2)→ds[i]? = some d→J.go i H2∧∀x H3,J.yld i H2 x H3→∃F3,Gr H2 F2 as2 H3 F3 as2∧(∀O,RlO K mg O H2 F2 as2→RlO K mg O H3 F3 as2)∧Rp K F3 as2 x d
 stop:∀(H2 F2:Hp) (as2:List Addr),Gr H F as H2 F2 as2→(∃O,RlO K mg O H2 F2 as2)→J.stop ds.length H2
theorem JOk.e {K:Frag}{mg:Str→Option Value}{P:Pt}{J:It}{ds:List D}{H F:Hp}{as:List Addr} (h:JOk K mg P J ds H F as):QrG K mg J ds H F as:=⟨fun i d H2 F2 as2 g=>h.turn i d H2 F2 as2 g.toS,fun H2 F2 as2 g=>h.stop H2 F2 as2 g.toS⟩
def Qtj (K:Frag) (mg:Str→Option Value) (md:List Md) (P:Pt) (m:M (List D)):TI:=fun σ H Q=>∃ρ O F as ds O',RlO K mg O H F as∧SlO K md P ρ σ H F as∧m ρ O = .ok ds O' ∧
 ∀J H' F' as',Gr H F as H' F' as'→RlO K mg O' H' F' as'→QrG K mg J ds H' F' as'→Q J H'
def VIc (X:Cx) (md:List Md) (P:Pt) (tg iter:Expr) (m:M (List D)):Prop:=PI X tg iter (Qtj X.K X.mg md P m)
def tMI (K:Frag) (mg:Str→Option Value) (md:List Md) (P:Pt) (m:M (List D)):TI:=fun σ H Q=>∃ρ O F as ds O',RlO K mg O H F as∧SlO K md P ρ σ H F as∧m ρ O = .ok ds O' ∧
 ∀J H' F' as',Gr H F as H' F' as'→RlO K mg O' H' F' as'→JOk K mg P J ds H' F' as'→Q J H'
def VI (X:Cx) (md:List Md) (P:Pt) (tg iter:Expr) (m:M (List D)):Prop:=PI X tg iter (tMI X.K X.mg md P m)
section
variable {X:Cx}{md:List Md}{P:Pt}{R:RR}
theorem PI.imp {tg e:Expr}{t t':TI} (h:PI X tg e t) (k:∀σ H Q,t' σ H Q→t σ H Q):PI X tg e t':=fun pins s σ H Q I q=>h pins s σ H Q I (k σ H Q q)
theorem QhX {tg e:Expr}{m:M (List D)} (h:VI X md P tg e m):VIc X md P tg e m:=h.imp fun σ H Q q=>by
 obtain ⟨ρ,O,F,as,ds,O',r,s,e,k⟩:=q;exact ⟨ρ,O,F,as,ds,O',r,s,e,fun J H' F' as' g r' hJ=>k J H' F' as' g r' hJ.e⟩
def Qbh (g:MG) (b:MS):List D→MS
 | [],ρ,O=>.nx ρ O
 | d::ds,ρ,O=>match g d ρ with
  | none=>.no
  | some ρ1=>match b ρ1 O with
   | .nx ρ2 O2=>Qbh g b ds ρ2 O2
   | .ct ρ2 O2=>Qbh g b ds ρ2 O2
   | .bk ρ2 O2=>.nx ρ2 O2
   | r=>r
def QbX (m:M (List D)) (g:MG) (b:MS):MS:=fun ρ O=>match m ρ O with
 | .ok ds O'=>Qbh g b ds ρ O'
 | .ex x O'=>.ex x O'
 | .no=>.no
theorem QrF {K:Frag}{mg:Str→Option Value}{m:M (List D)}{g:MG}{b:MS}{D:Ends}{σ:St}{H:Hp} (q:tMS K mg md P R (QbX m g b) D σ H):Qm0 (tMI K mg md P m) (tMG K mg md P g) (tMS K mg md P R b) D σ H:=by
 obtain ⟨ρ,O,F,as,r,s,k⟩:=q;unfold QbX at k
 cases e:m ρ O with
 | ex x O'=>rw [e] at k; exact False.elim k
 | no=>rw [e] at k; exact False.elim k
 | ok ds O1 =>
  rw [e] at k;dsimp only at k;refine ⟨ρ,_,F,as,_,_,r,s,e,fun J H1 F1 as1 g1 r1 hJ=>?_⟩;have k1:=Qcq (R:=R) g1.toS k;refine ⟨fun i m σ' H'=>m=ds.length - i∧i≤ds.length∧∃ρ' O' F' as',GrS P H1 F1 as1 H' F' as'∧RlO K mg O' H' F' as'∧SlO K md P ρ' σ' H' F' as'∧Qdm K mg md P R D H' F' as' (Qbh g b (ds.drop i) ρ' O'),⟨ds.length,by simp,Nat.zero_le _,ρ,O1,F1,as1,GrS.refl,r1,s.step g1,by rw [List.drop_zero]; exact k1⟩,?_⟩;rintro i n σ' H' ⟨rfl,hi,ρ',O',F',as',g',r',s',k'⟩
  by_cases hlt:i < ds.length
  ·have hd:=zD hlt;obtain ⟨go,yl⟩:=hJ.turn i _ H' F' as' g' ⟨O',r'⟩ hd;rw [List.drop_eq_getElem_cons hlt] at k';refine .inr ⟨go,fun σ2 H2=>∃ρ2 O2 F2 as2,GrS P H1 F1 as1 H2 F2 as2∧RlO K mg O2 H2 F2 as2∧SlO K md P ρ2 σ2 H2 F2 as2∧Qdm K mg md P R D H2 F2 as2 (Qbh g b (ds.drop (i+1)) ρ2 O2),fun σ2 H2 h2=>⟨ds.length - (i+1),by omega,rfl,hlt,h2⟩,fun x H3 y=>?_⟩;obtain ⟨F3,g3,r3,hx⟩:=yl x H3 y;have r3':=r3 O' r';unfold Qbh at k'
   cases eg:g ds[i] ρ' with
   | none=>rw [eg] at k'; exact False.elim k'
   | some ρ1 =>
    rw [eg] at k';dsimp only at k';refine ⟨ρ',O',F3,as',ds[i],ρ1,r3',s'.step g3,hx,eg,fun σ4 s4=>?_⟩;refine ⟨ρ1,O',F3,as',r3',s4,?_⟩;have g4:GrS P H1 F1 as1 H3 F3 as':=g'.trans g3.toS
    have keep:=fun {f}=>Qcq (K:=K) (mg:=mg) (md:=md) (R:=R) (D:=D) (f:=f) (g3.toS (P:=P))
    cases eb:b ρ1 O' with
    | nx ρ2 O2 =>
     rw [eb] at k'
     exact fun σ2 H2 F2 as2 g2 r2 s2=>⟨ρ2,O2,F2,as2,g4.trans g2,r2,s2,Qcq g2 (keep k')⟩
    | ct ρ2 O2 =>
     rw [eb] at k'
     exact fun σ2 H2 F2 as2 g2 r2 s2=>⟨ρ2,O2,F2,as2,g4.trans g2,r2,s2,Qcq g2 (keep k')⟩
    | bk ρ2 O2 =>
     rw [eb] at k'
     exact fun σ2 H2 F2 as2 g2 r2 s2=>k' σ2 H2 F2 as2 (g3.toS.trans g2) r2 s2
    | rt d O2 =>
     rw [eb] at k'
     exact fun v H2 F2 as2 g2 r2 s2=>k' v H2 F2 as2 (g3.toS.trans g2) r2 s2
    | ex _ _=>rw [eb] at k'; exact False.elim k'
    | no=>rw [eb] at k'; exact False.elim k'
  ·have hi':i=ds.length:=by omega
   subst hi';refine .inl ⟨hJ.stop H' F' as' g' ⟨O',r'⟩,?_⟩;rw [List.drop_length] at k';exact k' σ' H' F' as' GrS.refl r' s'
theorem Qd9 {tg iter:Expr}{body:List Stmt}{pos:Pos}{m:M (List D)}{g:MG}{b:MS} (hc:X.calm=true) (hi:VI X md P tg iter m) (hg:VG X md P tg g) (hb:VSs X md P R body b) (hp:PassesOwn (model X.prog X.w) X.A X.env X.xe:=by exact PassesOwn.never)
  (hs:∀x,foldedSetIterable iter X.env x=pure x:=by intro _; rfl):VS X md P R (.For tg iter body [] pos) (QbX m g b):=(Qk7 hp hc hi hg hb hs).imp fun _ _ _ q=>QrF q
def QcA (g:MG) (t:M Bool) (m:M D):List D→Qai→Qaa→List D→Res (List D)
 | [],ρ,O,acc=>.ok acc O
 | d::ds,ρ,O,acc=>match g d ρ with
  | none=>.no
  | some ρ1=>match t ρ1 O with
   | .ok true O1=>match m ρ1 O1 with
    | .ok y O2=>QcA g t m ds ρ1 O2 (acc ++ [y])
    | .ex x O'=>.ex x O'
    | .no=>.no
   | .ok false O1=>QcA g t m ds ρ1 O1 acc
   | .ex x O'=>.ex x O'
   | .no=>.no
def QgX (own:Nat) (cap:List Nat) (ρ:Qai):Qai:=List.replicate own none++cap.map fun j=>(ρ[j]?).join
def Qdp (m:M (List D)) (own:Nat) (cap:List Nat) (g:MG) (t:M Bool) (e:M D):M D:=fun ρ O=>(m ρ O).bind fun ds O1=>if ds.length≤1000000 then (QcA g t e ds (QgX own cap ρ) O1 []).bind fun ys O2=>.ok (.lst ys) O2 else .no
def QdU:M Bool:=fun _ O=>.ok true O
def cMd (own:Nat) (cap:List Nat) (md:List Md):List Md:=List.replicate own .v++cap.map fun j=>match md[j]? with
 | some .v=>.v
 | _=>.s
theorem Qni {K:Frag}{ρ:Qai}{σ:St}{H F:Hp}{as:List Addr}{own:List Str}{cap:List Nat} (s:SlO K md P ρ σ H F as) (hcap:∀j∈cap,j < md.length):SlO K (cMd own.length cap md) (Pt.all H) (QgX own.length cap ρ) (compSt own cap σ) H F as:=by
 refine ⟨by simp [compSt,cMd],by simp [QgX,cMd],fun a h=>h,fun i m d e1 e2=>?_,fun i j a ds es h1=>?_,fun _ z=>nomatch z⟩
 ·unfold QgX at e2;unfold cMd at e1;unfold compSt
  by_cases hi:i < own.length
  ·rw [zr (by simpa using hi),List.getElem?_replicate_of_lt hi] at e2;cases e2
  ·have hi':own.length≤i:=Nat.le_of_not_lt hi;rw [zv (by simpa using hi'),List.length_replicate,zG] at e2 e1;rw [zv (by simpa using hi'),zB,zG]
   cases q:cap[i - own.length]? with
   | none=>rw [q] at e2; cases e2
   | some j =>
    rw [q] at e1 e2;simp only [Option.map_some,Option.some.injEq] at e1 e2 ⊢
    cases q2:ρ[j]? with
    | none=>rw [q2] at e2; cases e2
    | some o =>
     rw [q2] at e2;have e2':o=some d:=e2;subst e2';obtain ⟨m0,v,h1,h2,h3⟩:=s.get q2;rw [h1] at e1;refine ⟨v,by rw [h2]; rfl,?_⟩
     cases m0 with
     | v=>dsimp only at e1; subst e1; exact h3
     | s =>
      dsimp only at e1; subst e1
      rcases h3 with h3 | ⟨a,xs,ds,e1,e2,e3,e4,e5,e6⟩
      ·exact .inl h3
      ·exact .inr ⟨a,xs,ds,e1,e2,e3,e4,(show H a≠none by rw [e3]; exact fun z=>nomatch z),e6⟩
     | o =>
      dsimp only at e1; subst e1
      rcases h3 with ⟨_,h3⟩ | ⟨a,xs,ds,e1,e2,e3,e0,e4,e5,e6⟩
      ·exact .inl h3
      ·exact .inr ⟨a,xs,ds,e1,e2,e3,e4,(show H a≠none by rw [e3]; exact fun z=>nomatch z),e6⟩
 ·exfalso
  unfold cMd at h1
  by_cases hi:i < own.length
  ·rw [zr (by simpa using hi),List.getElem?_replicate_of_lt hi] at h1;cases h1
  ·have hi':own.length≤i:=Nat.le_of_not_lt hi;rw [zv (by simpa using hi'),List.length_replicate,zG] at h1
   cases q:cap[i - own.length]? with
   | none=>rw [q] at h1; cases h1
   | some j =>
    rw [q] at h1;simp only [Option.map_some,Option.some.injEq] at h1
    split at h1 <;> cases h1
end
section
variable {X:Cx}{md:List Md}{P:Pt}{R:RR}
def xM (K:Frag) (mg:Str→Option Value) (md:List Md) (R:RR) (m:M D):TE:=fun σ H Q=>∃P,tM K mg md P R m σ H Q
def xMT (K:Frag) (mg:Str→Option Value) (md:List Md) (m:M Bool):TT:=fun σ H Q=>∃P,tMT K mg md P m σ H Q
def xMG (K:Frag) (mg:Str→Option Value) (md:List Md) (g:MG):TG:=fun v σ H Q=>∃P,tMG K mg md P g v σ H Q
theorem xm {e:Expr}{m:M D} (h:∀P,PE X e (tM X.K X.mg md P R m)):PE X e (xM X.K X.mg md R m):=fun pins s σ H Q I ⟨P,q⟩=>h P pins s σ H Q I q
theorem xmg {e:Expr}{g:MG} (h:∀P,VG X md P e g):PG X e (xMG X.K X.mg md g):=fun pins s σ H v u Q I r ⟨P,q⟩=>h P pins s σ H v u Q I r q
theorem xmt {e:List Expr}{m:M Bool} (h:∀P,Qjz X e (tMT X.K X.mg md P m)):Qjz X e (xMT X.K X.mg md m):=fun pins s σ H Q I ⟨P,q⟩=>h P pins s σ H Q I q
def VIf (X:Cx) (md:List Md) (P:Pt) (e:List Expr) (m:M Bool):Prop:=Qjz X e (tMT X.K X.mg md P m)
theorem Qic:VIf X md P [] QdU:=fun pins s σ H Q I q=>by
 obtain ⟨ρ,O,F,as,d,O',r,s,e,k⟩:=q;cases e;exact Qo1 pins _ σ H Q I (k H F as Gr.refl r)
theorem Qre {K:Frag}{mg:Str→Option Value}{m:M (List D)}{own:List Str}{cap:List Nat}{g:MG}{t:M Bool}{e:M D} (hcap:∀j∈cap,j < md.length) {σ:St}{H:Hp}{Q:VK} (q:tM K mg md P (rO K) (Qdp m own.length cap g t e) σ H Q) :
  Qp8 (Qtj K mg md P m) own cap (xMG K mg (cMd own.length cap md) g) (xMT K mg (cMd own.length cap md) t) (xM K mg (cMd own.length cap md) (rV K) e) σ H Q:=by
 obtain ⟨ρ,O,F,as,d,OZ,r,s,eq,k⟩:=q;obtain ⟨ds,O1,e1,eq⟩:=Res.bind_ok eq;split at eq
 ·rename_i hz;obtain ⟨yf,O2,e2,eq⟩:=Res.bind_ok eq;cases eq;refine ⟨ρ,_,F,as,_,_,r,s,e1,fun J H1 F1 as1 g1 r1 hJ=>?_⟩;have sb:=Qni (own:=own) (s.step g1) hcap
  refine ⟨fun i n ys σ' H'=>n=ds.length - i∧i≤ds.length∧∃ρ' O' F' as' acc,Gr H1 F1 as1 H' F' as'∧RlO K mg O' H' F' as'∧SlO K (cMd own.length cap md) (Pt.all H1) ρ' σ' H' F' as'∧Rps K F' as' ys acc∧acc.length≤i ∧
   QcA g t e (ds.drop i) ρ' O' acc = .ok yf OZ,⟨ds.length,by simp,Nat.zero_le _,QgX own.length cap ρ,O1,F1,as1,[],Gr.refl,r1,sb,Rps.nil,zc _,by rw [List.drop_zero]; exact e2⟩,?_⟩
  rintro i n ys σ' H' ⟨rfl,hi,ρ',O',F',as',acc,g',r',s',hy,hl,ec⟩
  by_cases hlt:i < ds.length
  ·obtain ⟨go,yl⟩:=hJ.turn i _ H' F' as' g' ⟨O',r'⟩ (zD hlt)
   refine .inr ⟨go,?_,fun ys σ2 H2=>∃ρ2 O3 F2 as2 acc2,Gr H1 F1 as1 H2 F2 as2∧RlO K mg O3 H2 F2 as2∧SlO K (cMd own.length cap md) (Pt.all H1) ρ2 σ2 H2 F2 as2∧Rps K F2 as2 ys acc2∧acc2.length≤i+1 ∧
    QcA g t e (ds.drop (i+1)) ρ2 O3 acc2 = .ok yf OZ,fun ys2 σ2 H2 h2=>⟨ds.length - (i+1),by omega,rfl,hlt,h2⟩,fun x H3 y=>?_⟩
   ·rw [hy.length]
    have:=Qdn hz
    omega
   obtain ⟨F3,g3,r3,hx⟩:=yl x H3 y;have r3':=r3 O' r';have g13:=g'.trans g3;rw [List.drop_eq_getElem_cons hlt] at ec;unfold QcA at ec
   cases eg:g ds[i] ρ' with
   | none=>rw [eg] at ec; cases ec
   | some ρ1 =>
    rw [eg] at ec;dsimp only at ec;refine ⟨_,ρ',O',F3,as',ds[i],ρ1,r3',s'.step g3,hx,eg,fun σ4 s4=>?_⟩
    cases et:t ρ1 O' with
    | ex _ _=>rw [et] at ec; cases ec
    | no=>rw [et] at ec; cases ec
    | ok c O4 =>
     rw [et] at ec;refine ⟨_,ρ1,O',F3,as',c,O4,r3',s4,et,fun H5 F5 as5 g5 r5=>?_⟩
     cases c with
     | false =>
      rw [if_neg zj];exact ⟨ρ1,O4,F5,as5,acc,g13.trans g5,r5,s4.step g5,(hy.gr g3).gr g5,by omega,ec⟩
     | true =>
      rw [if_pos rfl];dsimp only at ec
      cases em:e ρ1 O4 with
      | ex _ _=>rw [em] at ec; cases ec
      | no=>rw [em] at ec; cases ec
      | ok yd O6 =>
       rw [em] at ec;refine ⟨_,ρ1,O4,F5,as5,yd,O6,r5,s4.step g5,em,fun vy H7 F7 as7 g7 r7 hvy=>?_⟩;exact ⟨ρ1,O6,F7,as7,acc ++ [yd],(g13.trans g5).trans g7,r7,(s4.step g5).step g7,(((hy.gr g3).gr g5).gr g7).snoc hvy,by rw [zw]; show acc.length+1≤i+1; omega,ec⟩
  ·have hi':i=ds.length:=by omega
   subst hi';rw [List.drop_length] at ec;cases ec;refine .inl ⟨hJ.stop H' F' as' g' ⟨_,r'⟩,?_,fun p hp=>?_⟩
   ·rw [hy.length];exact zz hl (Qdn hz)
   ·have hF:F' p=none:=by
     cases q:F' p with
     | none=>rfl
     | some o=>rw [r'.fh p o q] at hp; cases hp
    exact k _ _ F' as' ((g1.trans g').trans (Gr.lay hp)) (r'.lay hp) (.inr ⟨p,ys,yf,rfl,rfl,QaL,hF,fun z=>r'.all z hp,(g1.trans g').dm p hp,hy⟩)
 ·cases eq
variable {tg iter elt:Expr}{ifs:List Expr}{scope:Scope}{pos:Pos}{mi:M (List D)}{g:MG}{t:M Bool}{e:M D}
theorem Qif (sc0:Scope) (N0 own:List Str) (cap:List Nat) (hc:X.calm=true) (hi:VIc X md P tg iter mi)
  (hg:∀C s H ex P,VG (Qbd X scope C (Qbf N0 own cap) s H ex) (cMd own.length cap md) P tg g) (ht:∀C s H ex P,VIf (Qbd X scope C (Qbf N0 own cap) s H ex) (cMd own.length cap md) P ifs t)
  (he:∀C s H ex P,VE (Qbd X scope C (Qbf N0 own cap) s H ex) (cMd own.length cap md) P elt e)
  (hcap:∀j∈cap,j < md.length:=by decide) (hsc:X.env.scope=sc0:=by rfl) (hN0:X.N=N0:=by rfl) (ok:Qi7 sc0 N0 scope own cap=true:=by decide +kernel) (hs:∀x,foldedSetIterable iter X.env x=pure x:=by intro _; rfl) :
  OE X md P (.ListComp elt [⟨tg,iter,ifs,0⟩] scope pos) (Qdp mi own.length cap g t e) :=
 (QqX sc0 N0 own cap hc hi (fun C s H ex=>xmg (hg C s H ex)) (fun C s H ex=>xmt (ht C s H ex)) (fun C s H ex=>xm (he C s H ex)) hsc hN0 ok hs).imp fun _ _ _ q=>Qre hcap q
end
def vSp (K:Frag) (mg:Str→Option Value) (pm:List Md) (R:RR) (c:List D→Qaa→Res D):Sp:=fun vs H Q _ =>
 ∃ds O F as d O',RlO K mg O H F as∧QbI K H F as pm vs ds∧c ds O = .ok d O'∧∀v H' F' as',Gr H F as H' F' as'→RlO K mg O' H' F' as'→R (fun a=>H a=none) H' F' as' v d→Q v H'
def Qa6 (n:Nat) (b:MS):List D→Qaa→Res D:=fun ds O=>match b (ds.map some++List.replicate (n - ds.length) none) O with
 | .rt d O'=>.ok d O'
 | .nx _ O'=>.ok .non O'
 | .ex x O'=>.ex x O'
 | _=>.no
theorem QbI.len {K:Frag}{H F:Hp}{as:List Addr}:∀{ms:List Md}{vs:List V}{ds:List D},QbI K H F as ms vs ds→vs.length=ms.length∧ds.length=ms.length
 | [],[],[],_=>⟨rfl,rfl⟩
 | m::ms,v::vs,d::ds,h=>by
  have:=QbI.len h.2
  simp [this.1,this.2]
 | [],[],_::_,h=>h.elim
 | [],_::_,[],h=>h.elim
 | [],_::_,_::_,h=>h.elim
 | _::_,[],[],h=>h.elim
 | _::_,[],_::_,h=>h.elim
 | _::_,_::_,[],h=>h.elim
theorem QbI.get {K:Frag}{H F:Hp}{as:List Addr}:∀{ms:List Md}{vs:List V}{ds:List D}{i:Nat}{m:Md}{d:D},QbI K H F as ms vs ds→ms[i]? = some m→ds[i]? = some d→∃v,vs[i]? = some v∧rA K m (fun _=>True) H F as v d
 | m::ms,v::vs,d::ds,0,m',d',h,e1,e2=>by
  simp at e1 e2
  subst e1 e2;exact ⟨v,rfl,h.1⟩
 | m::ms,v::vs,d::ds,i+1,m',d',h,e1,e2=>by
  obtain ⟨v',h1,h2⟩:=QbI.get (i:=i) (m:=m') (d:=d') h.2 (by simpa using e1) (by simpa using e2);exact ⟨v',by simpa using h1,h2⟩
 | [],[],[],_,_,_,_,e1,_=>by simp at e1
 | [],[],_::_,_,_,_,h,_,_=>h.elim
 | [],_::_,[],_,_,_,h,_,_=>h.elim
 | [],_::_,_::_,_,_,_,h,_,_=>h.elim
 | _::_,[],[],_,_,_,h,_,_=>h.elim
 | _::_,[],_::_,_,_,_,h,_,_=>h.elim
 | _::_,_::_,[],_,_,_,h,_,_=>h.elim
theorem Qf2 {K:Frag}{H F:Hp}{as:List Addr}{N:List Str}{pm lm:List Md}{vs:List V}{ds:List D} (h:QbI K H F as pm vs ds) (hl:(pm++lm).length=N.length) (hp:∀m∈pm,m≠.o) :
  SlO K (pm++lm) (Pt.all H) (ds.map some++List.replicate (N.length - ds.length) none) (start N vs) H F as:=by
 obtain ⟨h1,h2⟩:=h.len;rw [zw] at hl
 have vsl:vs.length≤N.length:=by omega
 have no:∀i a,(ds.map some++List.replicate (N.length - ds.length) none)[i]? = some (some a)→i < ds.length:=fun i a e=>by
  by_cases hi:i < ds.length
  ·exact hi
  ·rw [zv (by simpa using hi),List.getElem?_replicate] at e
   split at e <;> cases e
 refine ⟨by unfold start; simp; omega,by simp; omega,fun a z=>z,fun i m d e1 e2=>?_,fun i j a es fs e1 e2 e3=>?_,fun _ z=>nomatch z⟩
 ·have hi:=no i d e2;rw [zr (by simpa using hi),zG] at e2;rw [zr (by omega)] at e1
  cases q:ds[i]? with
  | none=>rw [q] at e2; cases e2
  | some d' =>
   rw [q] at e2;cases e2;obtain ⟨v,h3,h4⟩:=h.get e1 q;refine ⟨v,?_,?_⟩
   ·unfold start;rw [zr (by simp; omega),zG,h3];rfl
   ·cases m with
    | v=>exact h4
    | s =>
     rcases h4 with h4 | ⟨a,xs,es,z1,z2,z3,z4,z5⟩
     ·exact .inl h4
     ·exact .inr ⟨a,xs,es,z1,z2,z3,z4,(show H a≠none by rw [z3]; exact fun z=>nomatch z),z5⟩
    | o=>exact absurd rfl (hp .o (zI e1))
 ·have hi:=no i _ e3;rw [zr (by omega)] at e1;exact absurd rfl (hp .o (zI e1))
section
variable {Pr:Program}{w:World}{K:Frag}{mg:Str→Option Value}{base:Heap}
theorem QcE {x:Str}{st:Stmt}{N ps:List Str}{k:Nat} (Df:Def K mg x st) (S:Qay N ps (Qaj st))
  (hb:∀(kV doc pm:Value) (an:Option Addr) (cdv ct:Value) (us:List Value),us.length=ps.length→bindArgs (PySem.W.fnOf x x (QbW st) (Qa4 st) (Qaj st) .none kV doc pm an cdv ct) ⟨us,[]⟩=pure (ps.zip us))
  (pm lm:List Md) {R:RR}{b:MS} (hR:Qew R) (hR0:∀N H F as,R N H F as .non .non) (hpl:pm.length=ps.length:=by rfl) (hl:(pm++lm).length=N.length:=by rfl) (hp:∀m∈pm,m≠.o:=by decide)
  (body:∀(f:Addr) (cdv:Value) (A:Around) (outer:List Env) (s:Shared) (H:Hp) (E:XK),QaJ k (A.deeper (envOfC x (Qaj st) s.heap.objs.size f cdv))→∀P,VSs ((Qdv CX0 Pr w K mg base N x (Qaj st) f cdv A outer s H E).nox) (pm++lm) P R (Qa4 st) b) :
  Can Pr w K mg base x ps (k+1) (vSp K mg pm R (Qa6 N.length b)):=by
 refine Df.can (k:=k) S hb (fun vs H Q E h=>?_) (fun f cdv A outer s H vs Q E hr h=>?_)
 ·obtain ⟨ds,O,F,as,d,O',r,a,_⟩:=h;rw [a.len.1,hpl]
 ·obtain ⟨ds,O,F,as,d,O',r,a,e,q⟩:=h;refine ⟨_,body f cdv A outer s H E hr (Pt.all H),?_⟩;refine ⟨_,O,F,as,r,Qf2 a hl hp,?_⟩;unfold Qa6 at e
  cases eb:b (ds.map some++List.replicate (N.length - ds.length) none) O with
  | rt d' O2 =>
   rw [eb] at e;cases e
   exact fun v H' F' as' g r' hv=>q v H' F' as' g.gr r' (hR _ _ _ _ _ _ _ (fun c hc=>Classical.not_not.mp hc) hv)
  | nx ρ O2 =>
   rw [eb] at e;cases e
   exact fun σ' H' F' as' g r' _=>q _ H' F' as' g.gr r' (hR0 _ _ _ _)
  | bk _ _=>rw [eb] at e; cases e
  | ct _ _=>rw [eb] at e; cases e
  | ex _ _=>rw [eb] at e; cases e
  | no=>rw [eb] at e; cases e
end
section
variable {X:Cx}{md:List Md}{P:Pt}{R:RR}{k:Nat}{x:Str}{ps:List Str}{p pos:Pos}{e:Expr}{es:List Expr}{pm:List Md}{c:List D→Qaa→Res D}{ma:M (List D)}
def QaA (c:List D→Qaa→Res D) (ma:M (List D)):M D:=fun ρ O=>(ma ρ O).bind fun ds O1=>c ds O1
theorem Qmt {K:Frag}{mg:Str→Option Value} (hR:Qew R) {E:XK}{σ:St}{H:Hp}{Q:VK} (q:tM K mg md P R (QaA c ma) σ H Q):QkF (vSp K mg pm R c) [] E (tMA K mg md P pm ma) σ H Q:=by
 obtain ⟨ρ,O,F,as,d,O',r,s,e,k⟩:=q;obtain ⟨ds,O1,e1,e⟩:=Res.bind_ok e;refine ⟨ρ,_,F,as,_,_,r,s,e1,fun vs H1 F1 as1 g1 r1 hv=>?_⟩;dsimp only;rw [zR];exact ⟨ds,O1,F1,as1,d,O',r1,hv,e,fun v H' F' as' g' r' hw=>k v H' F' as' (g1.trans g') r' (hR _ _ _ _ _ _ _ (fun a ha=>g1.dm a ha) hw)⟩
theorem Qmu (hR:Qew R) (C:Can X.prog X.w X.K X.mg X.base x ps k (vSp X.K X.mg pm R c)) (hr:QaJ k X.A) (ha:AE X md P pm (e::es) ma) (hg:Gl X x:=by rfl) (hdb:(x == ("__debug__":Str))=false:=by decide)
  (he:starEach (e::es) X.env=(false,eval e X.env)::starEach es X.env:=by exact Qbl rfl) (hpl:(backTo pos (starEach es X.env)).any (·.1)=false:=by exact Qbk rfl):PE X (.Call (.Name x p) (e::es) [] pos) (tM X.K X.mg md P R (QaA c ma)) :=
 (Qta C hr ha hg hdb he hpl).imp fun _ _ _ q=>Qmt hR q
end
section
variable {K:Frag}{mg:Str→Option Value}{H F:Hp}{as:List Addr}{O:Qaa}{Q:VK}{d:D}{p:Addr}{xs:List V}{ds:List D}
theorem Qbs {v:V} (r:RlO K mg O H F as) (k:∀v' H' F',Gr H F as H' F' as→RlO K mg O H' F' as→Ow K (fun a=>H a=none) H' F' as v' d→Q v' H') (hn:QfZ d=true) (hv:Rp K F as v d):Q v H:=k v H F Gr.refl r (.inl ⟨hn,hv⟩)
theorem RlO.frF (r:RlO K mg O H F as) (hp:H p=none):F p=none:=by
 cases q:F p with
 | none=>rfl
 | some o=>rw [r.fh p o q] at hp; cases hp
theorem Qh7 (r:RlO K mg O H F as) (k:∀v' H' F',Gr H F as H' F' as→RlO K mg O H' F' as→Ow K (fun a=>H a=none) H' F' as v' (.lst ds)→Q v' H') (hp:H p=none) (hs:Rps K F as xs ds):Q (.ref p) (upd H p (.lst xs)) :=
 k _ _ F (Gr.lay hp) (r.lay hp) (.inr ⟨p,xs,ds,rfl,rfl,QaL,r.frF hp,fun z=>r.all z hp,hp,hs⟩)
theorem QpR (r:RlO K mg O H F as) (k:∀v' H' F',Gr H F as H' F' as→RlO K mg O H' F' as→Ow K (fun a=>H a=none) H' F' as v' (.tup ds)→Q v' H') (hp:H p=none) (hs:Rps K F as xs ds):Q (.ref p) (upd H p (.tup xs)):=by
 have hF:=r.frF hp
 have ff:Same F (upd F p (.tup xs)):=fun b u q=>by rw [Qal (Qas q hF)]; exact q
 exact k _ _ (upd F p (.tup xs)) ((Gr.lay hp).frz hp hF) ((r.lay hp).frz QaL hF (fun z=>r.all z hp) rfl) (.inl ⟨rfl,Rp.mkT (.inl QaL) (Rps.mono ff (fun _ _ z=>z) _ hs)⟩)
end
section
variable {X:Cx}
def Qtq (K:Frag):R2:=fun x y H Q=>∃l b xs zs,x = .ref l∧y = .ref b∧RdK K H l xs∧RdK K H b zs∧xs.length+zs.length≤sizeLine∧∀p,H p=none→Q (.ref p) (upd H p (.lst (xs++zs)))
theorem QqS:OpR X (binaryOp .Add) (Qtq X.K):=by
 intro pins s σ H x y v u Q I rx ry h;obtain ⟨l,b,xs,zs,rfl,rfl,hH,hB,hz,q⟩:=h;cases rx;cases ry;obtain ⟨z,its,n,r,e⟩:=hH.ok I;obtain ⟨z2,its2,n2,r2,e2⟩:=hB.ok I;have hl:=r.length;have hl2:=r2.length;refine PySem.P.add_list e e2 ?_ (by rw [zl,zl]; omega)
 have ea:its.toArray++its2.toArray=(its++its2).toArray:=by simp
 rw [ea];exact ⟨.ref _,_,I.lnew (t':=s.toks) (r.append r2) (by rw [zw]; omega),rfl,q _ I.fresh⟩
def QtR (K:Frag):R2:=fun x y H Q=>∃l k xs,x = .ref l∧y = .int k∧RdK K H l xs∧-(2 ^ 63)≤k∧k < 2 ^ 63∧xs.length * k.toNat≤sizeLine ∧
 ∀p,H p=none→Q (.ref p) (upd H p (.lst (List.replicate k.toNat xs).flatten))
theorem QqJ:OpR X (binaryOp .Mult) (QtR X.K):=by
 intro pins s σ H x y v u Q I rx ry h;obtain ⟨l,k,xs,rfl,rfl,hH,h1,h2,hz,q⟩:=h;cases rx;obtain ⟨t,rfl⟩:=ry;obtain ⟨z,its,n,r,e⟩:=hH.ok I;have hl:=r.length
 have hlen:its.toArray.size * k.toNat≤sizeLine:=by rw [zl,←hl]; exact hz
 have hcap:¬its.toArray.size * k.toNat > (2 ^ 63 - 1) / 8:=by
  have:(sizeLine:Nat)≤(2 ^ 63 - 1) / 8:=by decide
  omega
 have hfit:¬(!Builtin.List.listFitsIndex k)=true:=by
  rw [fitsIndex_both h1 h2];exact zj
 have hlong:¬Builtin.List.listTooLong (its.toArray.size * k.toNat)=true:=by
  rw [Qg2 hlen];exact zj
 have hnew:List.foldl (fun x1 x2=>x1++x2) #[] (List.replicate (if its.toArray.isEmpty=true then 0 else k.toNat) its.toArray)=(List.replicate k.toNat its).flatten.toArray:=by
  have f0:∀m:Nat,List.foldl (fun x1 x2=>x1++x2) #[] (List.replicate m its.toArray)=(List.replicate m its).flatten.toArray:=fun m=>by
   have:=foldl_rep its m []
   rw [zO] at this;exact this
  rw [f0]
  cases its with
  | nil=>simp
  | cons a r'=>rw [if_neg (by simp)]
 refine wpAny_binaryOp_repeat_ref (T:="list") (U:="int") (by decide) ⟨_,e,rfl⟩ (fun s'=>typeIs_int s' k t) noFill_list_mul F.fills_int_mul F.slot_int_rmul repeat_list F.slot_int_index.lookup
  (call_meets F.slot_int_rmul (typeIs_int s k t) F.entry_int_rmul (F.args_int_rmul_2 _ _) (int___rmul___int_list k t l its.toArray n)
   ⟨e,rfl,⟨_,e,rfl⟩,call_meets F.slot_list_mul ⟨_,e,rfl⟩ F.entry_list_mul (F.args_list_mul_2 _ _) (AutoListH.list___mul___list_int_3 l its.toArray n k t hfit hcap hlong) ⟨e,?_⟩⟩)
 rw [hnew];exact ⟨.ref _,_,I.lnew (t':=s.toks) (r.rep k.toNat) (by rw [len_rep,Nat.mul_comm]; exact hz),rfl,q _ I.fresh⟩
def Qa0:D→D→Option D
 | .int i,.int j=>some (.int (i+j))
 | .int i,.bl k=>some (.int (i+b2i k))
 | .str a,.str b=>if a.length+b.length≤1000000 then some (.str (a++b)) else none
 | .lst a,.lst b=>if a.length+b.length≤1000000 then some (.lst (a++b)) else none
 | .tup a,.tup b=>if a.length+b.length≤1000000∧a≠[] then some (.tup (a++b)) else none
 | _,_=>none
instance (a:List D):Decidable (a≠[]):=match a with
 | []=>isFalse fun h=>h rfl
 | _::_=>isTrue fun h=>nomatch h
theorem Qcg:OpD X (binaryOp .Add) Qa0:=by
 intro pins s σ H x y v u Q I rx ry h;obtain ⟨O,F,as,dx,dy,d,r,hx,hy,e,k⟩:=h
 cases dx with
 | int i =>
  cases (hx.rp rfl).unI
  cases dy with
  | int j =>
   cases (hy.rp rfl).unI;cases e;exact Qr1 pins s σ H _ _ v u Q I rx ry ⟨i,j,rfl,rfl,Qbs r k rfl Rp.int⟩
  | bl j =>
   cases (hy.rp rfl).unB;cases e;exact Qoj pins s σ H _ _ v u Q I rx ry ⟨i,j,rfl,rfl,Qbs r k rfl Rp.int⟩
  | _=>cases e
 | str a =>
  cases (hx.rp rfl).unS
  cases dy with
  | str b =>
   cases (hy.rp rfl).unS;simp only [Qa0] at e;split at e
   ·rename_i hz;cases e;refine QmT pins s σ H _ _ v u Q I rx ry ⟨S a,S b,rfl,rfl,by rw [QaU,QaU]; exact Qdn hz,?_⟩;rw [QiW];exact Qbs r k rfl Rp.str
   ·cases e
  | _=>cases e
 | lst a =>
  obtain ⟨p,xs,rfl,h1,h2⟩:=hx.list r.fh
  cases dy with
  | lst b =>
   obtain ⟨p',ys,rfl,h3,h4⟩:=hy.list r.fh;simp only [Qa0] at e;split at e
   ·rename_i hz;cases e;exact QqS pins s σ H _ _ v u Q I rx ry ⟨p,p',xs,ys,rfl,rfl,h1,h3,by rw [h2.length,h4.length]; exact Qdn hz,fun q hq=>Qh7 r k hq (Rps.append h4 h2)⟩
   ·cases e
  | _=>cases e
 | tup a =>
  obtain ⟨p,xs,rfl,h1,h2⟩:=(hx.rp rfl).unT
  cases dy with
  | tup b =>
   obtain ⟨p',ys,rfl,h3,h4⟩:=(hy.rp rfl).unT;simp only [Qa0] at e;split at e
   ·rename_i hz;cases e
    have hxs:xs≠[]:=fun z=>hz.2 (List.eq_nil_of_length_eq_zero (by rw [←h2.length,z]; rfl))
    refine Qrk pins s σ H _ _ v u Q I rx ry ⟨p,p',xs,ys,rfl,rfl,Same.seqT r.fh h1,Same.seqT r.fh h3,hxs,by rw [h2.length,h4.length]; exact Qdn hz.1,fun z=>?_,fun _ q hq=>QpR r k hq (Rps.append h4 h2)⟩;have hb:b = []:=List.eq_nil_of_length_eq_zero (by rw [←h4.length,z]; rfl);subst hb;rw [zR] at k;exact Qbs r k rfl (hx.rp rfl)
   ·cases e
  | _=>cases e
 | _=>cases e
def gI (C:Int→Int→Bool) (f:Int→Int→Int):D→D→Option D
 | .int i,.int j=>if C i j=true then some (.int (f i j)) else none
 | _,_=>none
theorem QpH {f:Value→Value→Sem Value}{Cp:Int→Int→Prop}{g:Int→Int→Int}{C:Int→Int→Bool} (h:OpR X f (rI Cp fun i j=>.int (g i j))) (hc:∀i j,C i j=true→Cp i j):OpD X f (gI C g):=by
 intro pins s σ H x y v u Q I rx ry h';obtain ⟨O,F,as,dx,dy,d,r,hx,hy,e,k⟩:=h'
 cases dx with
 | int i =>
  cases (hx.rp rfl).unI
  cases dy with
  | int j =>
   cases (hy.rp rfl).unI;simp only [gI] at e;split at e
   ·rename_i hC;cases e;exact h pins s σ H _ _ v u Q I rx ry ⟨i,j,rfl,rfl,hc i j hC,Qbs r k rfl Rp.int⟩
   ·cases e
  | _=>cases e
 | _=>cases e
def Qel:D→D→Option D:=gI (fun _ _=>true) fun i j=>i - j
theorem QlA:OpD X (binaryOp .Sub) Qel:=by
 intro pins s σ H x y v u Q I rx ry h';obtain ⟨O,F,as,dx,dy,d,r,hx,hy,e,k⟩:=h'
 cases dx with
 | int i =>
  cases (hx.rp rfl).unI
  cases dy with
  | int j =>
   cases (hy.rp rfl).unI;cases e;exact QsU pins s σ H _ _ v u Q I rx ry ⟨i,j,rfl,rfl,Qbs r k rfl Rp.int⟩
  | _=>cases e
 | _=>cases e
def Qfo (i:Int):Bool:=decide (-(2 ^ 64) < i)&&decide (i < 2 ^ 64)
theorem Qgf {i:Int} (h:Qfo i=true):-(2 ^ 64) < i∧i < 2 ^ 64:=by
 unfold Qfo at h;rw [zg,decide_eq_true_eq,decide_eq_true_eq] at h;exact h
def Qeq:D→D→Option D
 | .int i,.int j=>if (Qfo i || Qfo j)=true then some (.int (i * j)) else none
 | .str l,.int n=>if -1000000 < n∧n < 1000000∧l.length * n.toNat≤16777216 then some (.str (List.replicate n.toNat l).flatten) else none
 | .lst l,.int n=>if -1000000 < n∧n < 1000000∧l.length * n.toNat≤1000000 then some (.lst (List.replicate n.toNat l).flatten) else none
 | _,_=>none
theorem Qli:OpD X (binaryOp .Mult) Qeq:=by
 intro pins s σ H x y v u Q I rx ry h;obtain ⟨O,F,as,dx,dy,d,r,hx,hy,e,k⟩:=h
 cases dx with
 | int i =>
  cases (hx.rp rfl).unI
  cases dy with
  | int j =>
   cases (hy.rp rfl).unI;simp only [Qeq] at e;split at e
   ·rename_i hz;cases e;refine QsP pins s σ H _ _ v u Q I rx ry ⟨i,j,rfl,rfl,?_,Qbs r k rfl Rp.int⟩;rw [Bool.or_eq_true] at hz
    rcases hz with z | z
    ·exact .inl (Qgf z)
    ·exact .inr (Qgf z)
   ·cases e
  | _=>cases e
 | str l =>
  cases (hx.rp rfl).unS
  cases dy with
  | int n =>
   cases (hy.rp rfl).unI;simp only [Qeq] at e;split at e
   ·rename_i hz;cases e;exact QmD pins s σ H _ _ v u Q I rx ry ⟨l,n,rfl,rfl,hz.1,hz.2.1,hz.2.2,Qbs r k rfl Rp.str⟩
   ·cases e
  | _=>cases e
 | lst l =>
  obtain ⟨p,xs,rfl,h1,h2⟩:=hx.list r.fh
  cases dy with
  | int n =>
   cases (hy.rp rfl).unI;simp only [Qeq] at e;split at e
   ·rename_i hz;cases e;exact QqJ pins s σ H _ _ v u Q I rx ry ⟨p,n,xs,rfl,rfl,h1,by omega,by omega,by rw [h2.length]; exact Qdn hz.2.2,fun q hq=>Qh7 r k hq (h2.rep _)⟩
   ·cases e
  | _=>cases e
 | _=>cases e
def Qcc:D→D→Option D:=gI (fun _ j=>decide (0 < j)) fun i j=>i % j
theorem QeO:OpD X (binaryOp .Mod) Qcc:=QpH Qss fun _ _ h=>jg h
def QfR:D→D→Option D:=gI (fun _ j=>decide (0 < j)&&decide (j < 1073741824)) fun i j=>i / j
theorem Qmn:OpD X (binaryOp .FloorDiv) QfR:=QpH Qq8 fun i j h=>by
 rw [zg,decide_eq_true_eq,decide_eq_true_eq] at h;exact h
def Qf4:D→D→Option D:=gI (fun i j=>decide (0≤j)&&(decide (j≤1000000)&&Qfo i)) fun i j=>i ^ j.toNat
theorem Qlo:OpD X (binaryOp .Pow) Qf4:=QpH Qse fun i j h=>by
 rw [zg,zg,decide_eq_true_eq,decide_eq_true_eq] at h
 have:=Qgf h.2.2
 exact ⟨h.1,h.2.1,by omega⟩
def mUn (g:D→Option D) (m:M D):M D:=fun ρ O=>(m ρ O).bind fun d O1=>match g (QaK O1 d) with
 | some y=>.ok y O1
 | none=>.no
def QjF:D→Option D
 | .int i=>some (.int (-i))
 | _=>none
theorem Qn7 {md:List Md}{P:Pt}{a:Expr}{pos:Pos}{m:M D} (h:SE X md P a m):OE X md P (.UnaryOp .USub a pos) (mUn QjF m):=(Qtr Qsj h).imp fun σ H Q q=>by
 obtain ⟨ρ,O,F,as,d,O',r,s,e,k⟩:=q;obtain ⟨x,O1,e1,e⟩:=Res.bind_ok e;refine ⟨ρ,_,F,as,_,_,r,s,e1,fun v H1 F1 as1 g1 r1 hv=>?_⟩
 cases ed:QaK O1 x with
 | int i =>
  rw [ed] at e;cases e
  have:=Sv.lk hv r1
  rw [ed] at this;exact ⟨i,(this.rp rfl).unI,k _ H1 F1 as1 g1 r1 (.inl ⟨rfl,Rp.int⟩)⟩
 | _=>rw [ed] at e; cases e
def gCI (f:Int→Int→Bool):D→D→Option D
 | .int i,.int j=>some (.bl (f i j))
 | _,_=>none
theorem QtH {f:Value→Value→Sem Value}{g:Int→Int→Bool} (h:OpR X f (rI0 fun i j=>.bl (g i j))):OpD X f (gCI g):=by
 intro pins s σ H x y v u Q I rx ry h';obtain ⟨O,F,as,dx,dy,d,r,hx,hy,e,k⟩:=h'
 cases dx with
 | int i =>
  cases (hx.rp rfl).unI
  cases dy with
  | int j =>
   cases (hy.rp rfl).unI;cases e;exact h pins s σ H _ _ v u Q I rx ry ⟨i,j,rfl,rfl,Qbs r k rfl Rp.bl⟩
  | _=>cases e
 | _=>cases e
def gLt:D→D→Option D:=gCI fun i j=>decide (i < j)
def gGt:D→D→Option D:=gCI fun i j=>decide (j < i)
def gGe:D→D→Option D:=gCI fun i j=>decide (j≤i)
def gLe:D→D→Option D
 | .int i,.int j=>some (.bl (decide (i≤j)))
 | .str a,.str b=>some (.bl (!decide (b < a)))
 | _,_=>none
theorem QkJ:OpD X (compareOp .LtE) gLe:=by
 intro pins s σ H x y v u Q I rx ry h';obtain ⟨O,F,as,dx,dy,d,r,hx,hy,e,k⟩:=h'
 cases dx with
 | int i =>
  cases (hx.rp rfl).unI
  cases dy with
  | int j =>
   cases (hy.rp rfl).unI;cases e;exact Qt7 pins s σ H _ _ v u Q I rx ry ⟨i,j,rfl,rfl,Qbs r k rfl Rp.bl⟩
  | _=>cases e
 | str a =>
  cases (hx.rp rfl).unS
  cases dy with
  | str b =>
   cases (hy.rp rfl).unS;cases e;refine QnD pins s σ H _ _ v u Q I rx ry ⟨S a,S b,rfl,rfl,?_⟩;rw [QdO,QdO];exact Qbs r k rfl Rp.bl
  | _=>cases e
 | _=>cases e
theorem QpT:OpD X (compareOp .Gt) gGt:=QtH QtT
mutual
def toP:D→PyData
 | .non=>.none
 | .bl b=>.bool b
 | .int i=>.int i
 | .str l=>.str (S l)
 | .lst ds=>.list (Qf9 ds)
 | .tup ds=>.tuple (Qf9 ds)
 | .dic _ _=>.none
 | .ob _=>.none
def Qf9:List D→List PyData
 | []=>[]
 | d::ds=>toP d::Qf9 ds
end
mutual
def QbD:D→Bool
 | .lst ds=>Qdr ds
 | .tup ds=>Qdr ds
 | .dic _ _=>false
 | .ob _=>false
 | _=>true
def Qdr:List D→Bool
 | []=>true
 | d::ds=>QbD d&&Qdr ds
end
section
variable {K:Frag}{F:Hp}{as:List Addr}
mutual
theorem Rp.rep:∀(d:D) {v:V},QbD d=true→Rp K F as v d→Rep K F v (toP d)
 | .non,v,_,h=>by rw [toP,Rep]; exact h.unN
 | .bl b,v,_,h=>by rw [toP,Rep]; exact h.unB
 | .int i,v,_,h=>by rw [toP,Rep]; exact h.unI
 | .str x,v,_,h=>by rw [toP,Rep]; exact h.unS
 | .lst ds,v,hp,h=>by
  obtain ⟨a,xs,h1,h2,h3⟩:=h.unL;rw [toP,Rep];rw [QbD] at hp;exact ⟨a,xs,h1,h2.sq,Rps.rep' ds hp h3⟩
 | .tup ds,v,hp,h=>by
  obtain ⟨a,xs,h1,h2,h3⟩:=h.unT;rw [toP,Rep];rw [QbD] at hp;exact ⟨a,xs,h1,h2,Rps.rep' ds hp h3⟩
 | .dic _ _,v,hp,h=>by rw [QbD] at hp; cases hp
 | .ob _,v,hp,h=>by rw [QbD] at hp; cases hp
theorem Rps.rep':∀(ds:List D) {xs:List V},Qdr ds=true→Rps K F as xs ds→Qau K F xs (Qf9 ds)
 | [],xs,_,h=>by rw [h.un0,Qf9]; exact Qau.nil
 | d::ds,xs,hp,h=>by
  obtain ⟨x,r,rfl,h2,h3⟩:=h.un;rw [Qdr,zg] at hp;rw [Qf9];exact Qau.cons (Rp.rep d hp.1 h2) (Rps.rep' ds hp.2 h3)
end
theorem Lk.rep {H:Hp}{d:D}{v:V} (h:Lk K H F as v d) (fh:Same F H) (hp:QbD d=true):Rep K H v (toP d):=by
 rcases h with h | ⟨a,xs,ds,rfl,rfl,h1,h2⟩
 ·exact Rep.mono fh _ (Rp.rep d hp h)
 ·rw [QbD] at hp;rw [toP,Rep];exact ⟨a,xs,rfl,.inl (.inl h1),Qau.mono fh _ (Rps.rep' ds hp h2)⟩
end
def okE (d:D):Bool:=QbD d&&okD (toP d)
def Qhi (a b:D):Bool:=PyData.eqv (toP a) (toP b)
def gEq:D→D→Option D
 | .int i,.int j=>some (.bl (decide (i=j)))
 | .str a,.str b=>some (.bl (decide (a=b)))
 | .bl a,.bl b=>some (.bl (decide (a=b)))
 | a,b=>if (okE a&&okE b)=true then some (.bl (Qhi a b)) else none
def gNe:D→D→Option D
 | .int i,.int j=>some (.bl (!decide (i=j)))
 | .str a,.str b=>some (.bl (!decide (a=b)))
 | .bl a,.bl b=>some (.bl (!decide (a=b)))
 | a,b=>if (okE a&&okE b)=true then some (.bl (!Qhi a b)) else none
theorem Qp9 (a b:List Nat):decide (V.str (S a)=V.str (S b))=decide (a=b):=by
 by_cases h:a=b
 ·subst h; simp
 ·rw [zt h,zt];intro z;exact h (Qqf (V.str.inj z))
theorem Qqe (a b:Int):decide (V.int a=V.int b)=decide (a=b):=by
 by_cases h:a=b
 ·subst h; simp
 ·rw [zt h,zt];intro z;exact h (V.int.inj z)
theorem QpQ (a b:Bool):decide (V.bl a=V.bl b)=decide (a=b):=by
 cases a <;> cases b <;> rfl
theorem QqP {a b d:D} (h:gEq a b=some d):(∃i j,a = .int i∧b = .int j∧d = .bl (decide (i=j)))∨(∃i j,a = .str i∧b = .str j∧d = .bl (decide (i=j)))∨(∃i j,a = .bl i∧b = .bl j∧d = .bl (decide (i=j))) ∨
  (okE a=true∧okE b=true∧d = .bl (Qhi a b)):=by
 unfold gEq at h;split at h
 ·cases h; exact .inl ⟨_,_,rfl,rfl,rfl⟩
 ·cases h; exact .inr (.inl ⟨_,_,rfl,rfl,rfl⟩)
 ·cases h; exact .inr (.inr (.inl ⟨_,_,rfl,rfl,rfl⟩))
 ·split at h
  ·rename_i hk;rw [zg] at hk;cases h;exact .inr (.inr (.inr ⟨hk.1,hk.2,rfl⟩))
  ·cases h
theorem QqQ {a b d:D} (h:gNe a b=some d):(∃i j,a = .int i∧b = .int j∧d = .bl (!decide (i=j)))∨(∃i j,a = .str i∧b = .str j∧d = .bl (!decide (i=j)))∨(∃i j,a = .bl i∧b = .bl j∧d = .bl (!decide (i=j))) ∨
  (okE a=true∧okE b=true∧d = .bl (!Qhi a b)):=by
 unfold gNe at h;split at h
 ·cases h; exact .inl ⟨_,_,rfl,rfl,rfl⟩
 ·cases h; exact .inr (.inl ⟨_,_,rfl,rfl,rfl⟩)
 ·cases h; exact .inr (.inr (.inl ⟨_,_,rfl,rfl,rfl⟩))
 ·split at h
  ·rename_i hk;rw [zg] at hk;cases h;exact .inr (.inr (.inr ⟨hk.1,hk.2,rfl⟩))
  ·cases h
theorem Qbm {k:Nat} (hr:QaJ k X.A):OpD X (compareOp .Eq) gEq:=by
 intro pins s σ H x y v u Q I rx ry h';obtain ⟨O,F,as,dx,dy,d,r,hx,hy,e,k⟩:=h'
 rcases QqP e with ⟨i,j,rfl,rfl,rfl⟩ | ⟨i,j,rfl,rfl,rfl⟩ | ⟨i,j,rfl,rfl,rfl⟩ | ⟨h1,h2,rfl⟩
 ·cases (hx.rp rfl).unI;cases (hy.rp rfl).unI;refine QnA pins s σ H _ _ v u Q I rx ry ⟨rfl,?_⟩;rw [Qqe];exact Qbs r k rfl Rp.bl
 ·cases (hx.rp rfl).unS;cases (hy.rp rfl).unS;refine QnA pins s σ H _ _ v u Q I rx ry ⟨rfl,?_⟩;rw [Qp9];exact Qbs r k rfl Rp.bl
 ·cases (hx.rp rfl).unB;cases (hy.rp rfl).unB;refine QnA pins s σ H _ _ v u Q I rx ry ⟨rfl,?_⟩;rw [QpQ];exact Qbs r k rfl Rp.bl
 ·unfold okE at h1 h2;rw [zg] at h1 h2;exact Qok hr pins s σ H _ _ v u Q I rx ry ⟨toP dx,toP dy,hx.rep r.fh h1.1,hy.rep r.fh h2.1,h1.2,h2.2,Qbs r k rfl Rp.bl⟩
theorem QgR {k:Nat} (hr:QaJ k X.A):OpD X (compareOp .NotEq) gNe:=by
 intro pins s σ H x y v u Q I rx ry h';obtain ⟨O,F,as,dx,dy,d,r,hx,hy,e,k⟩:=h'
 rcases QqQ e with ⟨i,j,rfl,rfl,rfl⟩ | ⟨i,j,rfl,rfl,rfl⟩ | ⟨i,j,rfl,rfl,rfl⟩ | ⟨h1,h2,rfl⟩
 ·cases (hx.rp rfl).unI;cases (hy.rp rfl).unI;refine Qno pins s σ H _ _ v u Q I rx ry ⟨rfl,?_⟩;rw [Qqe];exact Qbs r k rfl Rp.bl
 ·cases (hx.rp rfl).unS;cases (hy.rp rfl).unS;refine Qno pins s σ H _ _ v u Q I rx ry ⟨rfl,?_⟩;rw [Qp9];exact Qbs r k rfl Rp.bl
 ·cases (hx.rp rfl).unB;cases (hy.rp rfl).unB;refine Qno pins s σ H _ _ v u Q I rx ry ⟨rfl,?_⟩;rw [QpQ];exact Qbs r k rfl Rp.bl
 ·unfold okE at h1 h2;rw [zg] at h1 h2;exact QsZ hr pins s σ H _ _ v u Q I rx ry ⟨toP dx,toP dy,hx.rep r.fh h1.1,hy.rep r.fh h2.1,h1.2,h2.2,Qbs r k rfl Rp.bl⟩
def toV:D→V
 | .bl b=>.bl b
 | .int i=>.int i
 | .str l=>.str (S l)
 | _=>.non
def Qfl:D→Bool
 | .non=>true
 | .bl _=>true
 | .int _=>true
 | .str _=>true
 | _=>false
def eqF (x y:D):Bool:=eqV (toV x) (toV y)
theorem Rp.flat {K:Frag}{F:Hp}{as:List Addr}{v:V}{d:D} (h:Rp K F as v d) (hf:Qfl d=true):v=toV d∧QeI v=true:=by
 cases d with
 | non=>rw [h.unN]; exact ⟨rfl,rfl⟩
 | bl b=>rw [h.unB]; exact ⟨rfl,rfl⟩
 | int b=>rw [h.unI]; exact ⟨rfl,rfl⟩
 | str b=>rw [h.unS]; exact ⟨rfl,rfl⟩
 | _=>cases hf
theorem Rps.flat {K:Frag}{F:Hp}{as:List Addr}:∀{ds:List D}{xs:List V},Rps K F as xs ds→ds.all Qfl=true→xs=ds.map toV∧xs.all QeI=true
 | [],xs,h,_=>by rw [h.un0]; exact ⟨rfl,rfl⟩
 | d::ds,xs,h,hf=>by
  obtain ⟨x,r,rfl,h2,h3⟩:=h.un;rw [List.all_cons,zg] at hf;obtain ⟨e1,e2⟩:=h2.flat hf.1;obtain ⟨e3,e4⟩:=Rps.flat h3 hf.2;exact ⟨by rw [zd,←e1,←e3],by rw [List.all_cons,e2,e4]; rfl⟩
def gIn (neg:Bool):D→D→Option D
 | .str [c],.str l=>some (.bl (neg ^^ decide (c∈l)))
 | x,.lst ds=>if (Qfl x&&ds.all Qfl)=true then some (.bl (neg ^^ ds.any fun y=>eqF y x)) else none
 | x,.tup ds=>if (Qfl x&&ds.all Qfl)=true then some (.bl (neg ^^ ds.any fun y=>eqF y x)) else none
 | _,_=>none
theorem Qrc {neg:Bool}{a b d:D} (h:gIn neg a b=some d):(∃c l,a = .str [c]∧b = .str l∧d = .bl (neg ^^ decide (c∈l)))∨(∃ds,(b = .lst ds∨b = .tup ds)∧Qfl a=true∧ds.all Qfl=true∧d = .bl (neg ^^ ds.any fun y=>eqF y a)):=by
 unfold gIn at h;split at h
 ·cases h; exact .inl ⟨_,_,rfl,rfl,rfl⟩
 ·split at h
  ·rename_i hk;rw [zg] at hk;cases h;exact .inr ⟨_,.inl rfl,hk.1,hk.2,rfl⟩
  ·cases h
 ·split at h
  ·rename_i hk;rw [zg] at hk;cases h;exact .inr ⟨_,.inr rfl,hk.1,hk.2,rfl⟩
  ·cases h
 ·cases h
theorem Qrr {x:D}{ds:List D}:inV (toV x) (ds.map toV)=ds.any fun y=>eqF y x:=by
 unfold inV;rw [List.any_map];rfl
theorem Qpr {K:Frag}{mg:Str→Option Value}{H F:Hp}{as:List Addr}{O:Qaa}{v:V}{b:D}{ds:List D} (r:RlO K mg O H F as) (hy:Lk K H F as v b) (hb:b = .lst ds∨b = .tup ds):∃p xs,v = .ref p∧(SqL K H p xs∨SqT K H p xs)∧Rps K F as xs ds:=by
 rcases hb with rfl | rfl
 ·obtain ⟨p,xs,e,h1,h2⟩:=hy.list r.fh;exact ⟨p,xs,e,.inl h1.sq,h2⟩
 ·obtain ⟨p,xs,e,h1,h2⟩:=(hy.rp rfl).unT;exact ⟨p,xs,e,.inr (Same.seqT r.fh h1),h2⟩
theorem Qot {d:D} (h:Qfl d=true):QfZ d=true:=by cases d <;> first | rfl | cases h
theorem Qts:OpD X (compareOp .In) (gIn false):=by
 intro pins s σ H x y v u Q I rx ry h';obtain ⟨O,F,as,dx,dy,d,r,hx,hy,e,k⟩:=h'
 rcases Qrc e with ⟨c,l,rfl,rfl,rfl⟩ | ⟨ds,hb,h1,h2,rfl⟩
 ·cases (hx.rp rfl).unS;cases (hy.rp rfl).unS;refine QnR pins s σ H _ _ v u Q I rx ry ⟨c,l,rfl,rfl,?_⟩;rw [Bool.false_xor] at k;exact Qbs r k rfl Rp.bl
 ·obtain ⟨p,xs,rfl,h3,h4⟩:=Qpr r hy hb;obtain ⟨e1,e2⟩:=(hx.rp (Qot h1)).flat h1;obtain ⟨e3,e4⟩:=h4.flat h2;refine Qov pins s σ H _ _ v u Q I rx ry ⟨p,xs,rfl,h3,e2,e4,?_⟩;rw [if_neg zj,e1,e3,Qrr];rw [Bool.false_xor] at k;exact Qbs r k rfl Rp.bl
def gIx:D→D→Option D
 | .lst ds,.int i=>atI ds i
 | .tup ds,.int i=>atI ds i
 | .str l,.int i=>if l.length≤1000000 then (atI l i).map fun c=>.str [c] else none
 | _,_=>none
theorem Rps.atI {K:Frag}{F:Hp}{as:List Addr}{xs:List V}{ds:List D}{i:Int}{d:D} (h:Rps K F as xs ds) (e:atI ds i=some d):∃v,L2.atI xs i=some v∧Rp K F as v d:=by
 unfold L2.atI at e ⊢;rw [h.length]
 cases q:ixN ds.length i with
 | none=>rw [q] at e; cases e
 | some j =>
  rw [q] at e;exact h.get' e
def rDv (K:Frag) (mg:Str→Option Value) (g:D→D→Option D):R2:=fun x y H Q=>∃O F as dx dy d,RlO K mg O H F as∧Lk K H F as x dx∧Lk K H F as y dy∧g dx dy=some d∧∀v',Rp K F as v' d→Q v' H
theorem Qut:IxR X (rDv X.K X.mg gIx):=by
 intro value slice pins s σ H x y v u Q I rx ry h' hsb;obtain ⟨O,F,as,dx,dy,d,r,hx,hy,e,k⟩:=h'
 cases dx with
 | lst ds =>
  obtain ⟨p,xs,rfl,h1,h2⟩:=hx.list r.fh
  cases dy with
  | int i =>
   cases (hy.rp rfl).unI;obtain ⟨z,e1,e2⟩:=h2.atI e;exact Qqk value slice pins s σ H _ _ v u Q I rx ry ⟨p,xs,i,z,rfl,rfl,h1.sq,e1,k z e2⟩ hsb
  | _=>cases e
 | tup ds =>
  obtain ⟨p,xs,rfl,h1,h2⟩:=(hx.rp rfl).unT
  cases dy with
  | int i =>
   cases (hy.rp rfl).unI;obtain ⟨z,e1,e2⟩:=h2.atI e;exact Qsm value slice pins s σ H _ _ v u Q I rx ry ⟨p,xs,i,z,rfl,rfl,Same.seqT r.fh h1,e1,k z e2⟩ hsb
  | _=>cases e
 | str l =>
  cases (hx.rp rfl).unS
  cases dy with
  | int i =>
   cases (hy.rp rfl).unI;simp only [gIx] at e;split at e
   ·rename_i hz
    cases q:L2.atI l i with
    | none=>rw [q] at e; cases e
    | some c =>
     rw [q] at e;cases e;exact QsI value slice pins s σ H _ _ v u Q I rx ry ⟨S l,i,c,rfl,rfl,by rw [QaU]; exact Qdn hz,by rw [QdO]; exact q,k _ Rp.str⟩ hsb
   ·cases e
  | _=>cases e
 | _=>cases e
theorem Qa1 {md:List Md}{P:Pt}{a b:Expr}{pos:Pos}{ma mb:M D} (ha:SE X md P a ma) (hb:SE X md P b mb) (hs:Ql6 b:=by intro _ _; rfl):VE X md P (.Subscript a b pos) (Qaf gIx ma mb):=(QtK Qut ha hb hs).imp fun σ H Q h=>by
 obtain ⟨ρ,O,F,as,d,O',r,sl,e,k⟩:=h;obtain ⟨x,O1,e1,e⟩:=Res.bind_ok e;obtain ⟨y,O2,e2,e⟩:=Res.bind_ok e;split at e
 ·rename_i d' hg;cases e;refine ⟨ρ,_,F,as,_,_,r,sl,e1,fun v H1 F1 as1 g1 r1 hv=>?_⟩;refine ⟨ρ,_,F1,as1,_,_,r1,sl.step g1,e2,fun u H2 F2 as2 g2 r2 hu=>?_⟩;exact ⟨_,F2,as2,_,_,_,r2,Sv.lk (Sv.gr hv g2) r2,Sv.lk hu r2,hg,fun v' hw=>k v' H2 F2 as2 (g1.trans g2) r2 hw⟩
 ·cases e
def tMO (K:Frag) (mg:Str→Option Value) (md:List Md) (P:Pt) (m:M (Option Int)):TO:=fun σ H Q =>
 ∃ρ O F as b O',RlO K mg O H F as∧SlO K md P ρ σ H F as∧m ρ O = .ok b O'∧∀H' F' as',Gr H F as H' F' as'→RlO K mg O' H' F' as'→Q b H'
def VO (X:Cx) (md:List Md) (P:Pt) (e:Option Expr) (m:M (Option Int)):Prop:=PO X e (tMO X.K X.mg md P m)
theorem PO.imp {e:Option Expr}{t t':TO} (h:PO X e t) (k:∀σ H Q,t' σ H Q→t σ H Q):PO X e t':=fun pins s σ H Q I q=>h pins s σ H Q I (k σ H Q q)
def moN:M (Option Int):=fun _ O=>.ok none O
def moS (m:M D):M (Option Int):=fun ρ O=>(m ρ O).bind fun d O1=>match d with
 | .int i=>.ok (some i) O1
 | _=>.no
theorem QjR {md:List Md}{P:Pt}:VO X md P none moN:=Qrh.imp fun σ H Q q=>by
 obtain ⟨ρ,O,F,as,d,O',r,s,e,k⟩:=q;cases e;exact k H F as Gr.refl r
theorem QjP {md:List Md}{P:Pt}{e:Expr}{m:M D} (h:VE X md P e m):VO X md P (some e) (moS m):=(QqA h).imp fun σ H Q q=>by
 obtain ⟨ρ,O,F,as,d,O',r,s,e,k⟩:=q;obtain ⟨x,O1,e1,e⟩:=Res.bind_ok e
 cases x with
 | int i =>
  cases e;exact ⟨ρ,_,F,as,_,_,r,s,e1,fun v H1 F1 as1 g1 r1 hv=>⟨i,Rp.unI hv,k H1 F1 as1 g1 r1⟩⟩
 | _=>cases e
def gSl (d:D) (lo hi:Option Int):Option D:=match d with
 | .lst ds=>some (.lst (Qb7 ds lo hi))
 | .tup ds=>some (.tup (Qb7 ds lo hi))
 | .str l=>if l.length≤16777216 then some (.str (Qb7 l lo hi)) else none
 | _=>none
def QuR (K:Frag) (mg:Str→Option Value):V→Option Int→Option Int→Hp→VK→Prop:=fun x lo hi H Q=>∃O F as dx d,RlO K mg O H F as∧Lk K H F as x dx∧gSl dx lo hi=some d ∧
 ∀v' H' F',Gr H F as H' F' as→RlO K mg O H' F' as→Ow K (fun a=>H a=none) H' F' as v' d→Q v' H'
theorem Rps.cut {K:Frag}{F:Hp}{as:List Addr}{xs:List V}{ds:List D} (h:Rps K F as xs ds) (lo hi:Option Int):Rps K F as (QgT xs lo hi) (Qb7 ds lo hi):=by
 unfold QgT Qb7;rw [h.length];exact (h.drop _).take _
theorem QuY:SlR X (QuR X.K X.mg):=by
 intro pins s σ H x v vl vu lo hi sl Q I rx hs pl pu h;obtain ⟨O,F,as,dx,d,r,hx,e,k⟩:=h
 cases dx with
 | lst ds =>
  obtain ⟨p,xs,rfl,h1,h2⟩:=hx.list r.fh;cases e;exact Qra pins s σ H _ v vl vu lo hi sl Q I rx hs pl pu ⟨p,xs,rfl,h1.sq,fun q hq=>Qh7 r k hq (h2.cut lo hi)⟩
 | tup ds =>
  obtain ⟨p,xs,rfl,h1,h2⟩:=(hx.rp rfl).unT;cases e;refine QqZ X.K rfl pins s σ H _ v vl vu lo hi sl Q I rx hs pl pu ⟨p,xs,rfl,Same.seqT r.fh h1,fun z=>?_,fun _ q hq=>QpR r k hq (h2.cut lo hi)⟩
  have:Qb7 ds lo hi=ds:=by
   unfold Qb7;rw [←h2.length,z.1,z.2,List.drop_zero,Nat.sub_zero,h2.length,List.take_length]
  rw [this] at k;exact Qbs r k rfl (hx.rp rfl)
 | str l =>
  cases (hx.rp rfl).unS;simp only [gSl] at e;split at e
  ·rename_i hz;cases e;exact QrQ pins s σ H _ v vl vu lo hi sl Q I rx hs pl pu ⟨l,rfl,zz hz (Nat.le_of_eq sizeLine_eq.symm),Qbs r k rfl Rp.str⟩
  ·cases e
 | _=>cases e
def mSl (m:M D) (lo hi:M (Option Int)):M D:=fun ρ O=>(m ρ O).bind fun d O1=>(lo ρ O1).bind fun l O2=>(hi ρ O2).bind fun h O3=>match gSl (QaK O3 d) l h with
 | some y=>.ok y O3
 | none=>.no
end
section
variable {X:Cx}{md:List Md}{P:Pt}{R:RR}
theorem QiK {e:Expr}{lo hi:Option Expr}{p2 pos:Pos}{m:M D}{ml mh:M (Option Int)} (he:SE X md P e m) (hl:VO X md P lo ml) (hh:VO X md P hi mh):OE X md P (.Subscript e (.Slice lo hi none p2) pos) (mSl m ml mh):=(Qo3 QuY he hl hh).imp fun σ H Q q=>by
 obtain ⟨ρ,O,F,as,d,O',r,s,e,k⟩:=q;obtain ⟨x,O1,e1,e⟩:=Res.bind_ok e;obtain ⟨l,O2,e2,e⟩:=Res.bind_ok e;obtain ⟨h,O3,e3,e⟩:=Res.bind_ok e;split at e
 ·rename_i y hg;cases e;refine ⟨ρ,_,F,as,_,_,r,s,e1,fun v H1 F1 as1 g1 r1 hv=>?_⟩;refine ⟨ρ,_,F1,as1,_,_,r1,s.step g1,e2,fun H2 F2 as2 g2 r2=>?_⟩;have g12:=g1.trans g2;refine ⟨ρ,_,F2,as2,_,_,r2,s.step g12,e3,fun H3 F3 as3 g3 r3=>?_⟩;have g13:=g12.trans g3;exact ⟨_,F3,as3,_,_,r3,Sv.lk (Sv.gr (Sv.gr hv g2) g3) r3,hg,fun v' H' F' g' r' hw=>k v' H' F' as3 (g13.trans g') r' (Qcr _ _ _ _ _ _ _ (fun a ha=>g13.dm a ha) hw)⟩
 ·cases e
def Lks (K:Frag) (H F:Hp) (as:List Addr):List V→List D→Prop
 | [],[]=>True
 | v::vs,d::ds=>Lk K H F as v d∧Lks K H F as vs ds
 | _,_=>False
theorem QbI.lks {K:Frag}{mg:Str→Option Value}{O:Qaa}{H F:Hp}{as:List Addr} (r:RlO K mg O H F as):∀{ms:List Md}{vs:List V}{ds:List D},QbI K H F as ms vs ds→Lks K H F as vs (ds.map (QaK O))
 | [],[],[],_=>trivial
 | m::ms,v::vs,d::ds,h=>by
  refine ⟨?_,QbI.lks r h.2⟩
  have h1:Sv K H F as v d:=by
   cases m with
   | v=>exact .inl h.1
   | s=>exact h.1
   | o=>exact h.1
  exact h1.lk r
 | [],[],_::_,h=>h.elim
 | [],_::_,[],h=>h.elim
 | [],_::_,_::_,h=>h.elim
 | _::_,[],[],h=>h.elim
 | _::_,[],_::_,h=>h.elim
 | _::_,_::_,[],h=>h.elim
def rC (K:Frag) (mg:Str→Option Value) (g:List D→Option D):List V→Hp→VK→Prop:=fun vs H Q=>∃O F as ds d,RlO K mg O H F as∧Lks K H F as vs ds∧g ds=some d ∧
 ∀v' H' F',Gr H F as H' F' as→RlO K mg O H' F' as→Ow K (fun a=>H a=none) H' F' as v' d→Q v' H'
abbrev Qkz (X:Cx) (f:Value) (g:List D→Option D):Prop:=Qio X f (rC X.K X.mg g)
def QaB (g:List D→Option D) (ma:M (List D)):M D:=fun ρ O=>(ma ρ O).bind fun ds O1=>match g (ds.map (QaK O1)) with
 | some d=>.ok d O1
 | none=>.no
theorem QkY {K:Frag}{mg:Str→Option Value}{g:List D→Option D}{ms:List Md}{ma:M (List D)}{σ:St}{H:Hp}{Q:VK} (q:tM K mg md P (rO K) (QaB g ma) σ H Q):tCB (rC K mg g) (tMA K mg md P ms ma) σ H Q:=by
 obtain ⟨ρ,O,F,as,d,O',r,s,e,k⟩:=q;obtain ⟨ds,O1,e1,e⟩:=Res.bind_ok e;split at e
 ·rename_i y hg;cases e;refine ⟨ρ,_,F,as,_,_,r,s,e1,fun vs H1 F1 as1 g1 r1 hv=>?_⟩;exact ⟨_,F1,as1,_,_,r1,hv.lks r1,hg,fun v' H' F' g' r' hw=>k v' H' F' as1 (g1.trans g') r' (Qcr _ _ _ _ _ _ _ (fun a ha=>g1.dm a ha) hw)⟩
 ·cases e
theorem Qa8 {x:Str}{p pos:Pos}{e:Expr}{es:List Expr}{id:String}{g:List D→Option D}{ms:List Md}{ma:M (List D)} (hc:Qkz X (.builtin id) g) (hm:X.mg x=none) (ha:AE X md P ms (e::es) ma) (hv:bootBuiltins x=some (.builtin id):=by decide +kernel) (hg:Gl X x:=by rfl)
  (hn:x≠"__name__":=by decide) (hdb:(x == ("__debug__":Str))=false:=by decide) (he:starEach (e::es) X.env=(false,eval e X.env)::starEach es X.env:=by exact Qbl rfl) (hpl:(backTo pos (starEach es X.env)).any (·.1)=false:=by exact Qbk rfl) :
  OE X md P (.Call (.Name x p) (e::es) [] pos) (QaB g ma):=(QlD hc hg hm hv ha hn hdb he hpl).imp fun _ _ _ q=>QkY q
theorem QoR {x:Str}{p pos:Pos}{e:Expr}{es:List Expr}{T:String}{g:List D→Option D}{ms:List Md}{ma:M (List D)} (hc:Qkz X (.type T) g) (hm:X.mg x=none) (ha:AE X md P ms (e::es) ma) (hv:bootBuiltins x=some (.type T):=by decide +kernel) (hg:Gl X x:=by rfl)
  (hn:x≠"__name__":=by decide) (hdb:(x == ("__debug__":Str))=false:=by decide) (he:starEach (e::es) X.env=(false,eval e X.env)::starEach es X.env:=by exact Qbl rfl) (hpl:(backTo pos (starEach es X.env)).any (·.1)=false:=by exact Qbk rfl) :
  OE X md P (.Call (.Name x p) (e::es) [] pos) (QaB g ma):=(QoB hc hg hm hv ha hn hdb he hpl).imp fun _ _ _ q=>QkY q
theorem Lks.one {K:Frag}{H F:Hp}{as:List Addr}{vs:List V}{d:D} (h:Lks K H F as vs [d]):∃v,vs = [v]∧Lk K H F as v d:=by
 cases vs with
 | nil=>exact h.elim
 | cons v vs =>
  cases vs with
  | nil=>exact ⟨v,rfl,h.1⟩
  | cons u us=>exact h.2.elim
def QaY:List D→Option D
 | [.str l]=>if l.length≤1000000 then some (.int l.length) else none
 | [.lst ds]=>some (.int ds.length)
 | [.tup ds]=>some (.int ds.length)
 | _=>none
theorem QbC:Qkz X (.builtin "len") QaY:=by
 intro pins s σ H xs us Q I rs h;obtain ⟨O,F,as,ds,d,r,hvs,e,k⟩:=h;unfold QaY at e;split at e
 ·rename_i l;obtain ⟨v,rfl,hv⟩:=hvs.one;split at e
  ·rename_i hz;cases e;cases (hv.rp rfl).unS;refine call_len pins s σ H _ us Q I rs ⟨_,_,rfl,⟨by rw [QaU]; exact Qdn hz,rfl⟩,?_⟩;rw [QaU];exact Qbs r k rfl Rp.int
  ·cases e
 ·rename_i l;obtain ⟨v,rfl,hv⟩:=hvs.one;cases e;obtain ⟨p,xs,rfl,h1,h2⟩:=hv.list r.fh;refine call_len pins s σ H _ us Q I rs ⟨_,_,rfl,.inl ⟨xs,h1.sq,rfl⟩,?_⟩;rw [h2.length];exact Qbs r k rfl Rp.int
 ·rename_i l;obtain ⟨v,rfl,hv⟩:=hvs.one;cases e;obtain ⟨p,xs,rfl,h1,h2⟩:=(hv.rp rfl).unT;refine call_len pins s σ H _ us Q I rs ⟨_,_,rfl,.inr ⟨xs,Same.seqT r.fh h1,rfl⟩,?_⟩;rw [h2.length];exact Qbs r k rfl Rp.int
 ·cases e
def QuN:List D→Option D
 | [.int i,.int j]=>some (.int (if j > i then j else i))
 | _=>none
def QuA:List D→Option D
 | [.int i,.int j]=>some (.int (if j < i then j else i))
 | _=>none
def QsK:List D→Option D
 | [.int i]=>some (.int i)
 | [.bl b]=>some (.int (if b then 1 else 0))
 | _=>none
def QkA:List D→Option D
 | [.lst ds]=>some (.lst ds)
 | [.tup ds]=>some (.lst ds)
 | _=>none
theorem QqV:Qkz X (.type "list") QkA:=by
 intro pins s σ H xs us Q I rs h;obtain ⟨O,F,as,ds,d,r,hvs,e,k⟩:=h;unfold QkA at e;split at e
 ·obtain ⟨v,rfl,hv⟩:=hvs.one;cases e;obtain ⟨p,xs,rfl,h1,h2⟩:=hv.list r.fh;exact Qhr pins s σ H _ us Q I rs ⟨p,xs,rfl,.inl h1.sq,fun l hl=>Qh7 r k hl h2⟩
 ·obtain ⟨v,rfl,hv⟩:=hvs.one;cases e;obtain ⟨p,xs,rfl,h1,h2⟩:=(hv.rp rfl).unT;exact Qhr pins s σ H _ us Q I rs ⟨p,xs,rfl,.inr (Same.seqT r.fh h1),fun l hl=>Qh7 r k hl h2⟩
 ·cases e
theorem QbB:bootBuiltins "len" = some (.builtin "len"):=by decide +kernel
theorem QoK:bootBuiltins "int" = some (.type "int"):=by decide +kernel
theorem QiX:bootBuiltins "str" = some (.type "str"):=by decide +kernel
theorem Ql5:bootBuiltins "bool" = some (.type "bool"):=by decide +kernel
theorem Qjw:bootBuiltins "list" = some (.type "list"):=by decide +kernel
theorem QiP:bootBuiltins "tuple" = some (.type "tuple"):=by decide +kernel
def tyD:D→Option String
 | .non=>some "NoneType"
 | .bl _=>some "bool"
 | .int _=>some "int"
 | .str _=>some "str"
 | .lst _=>some "list"
 | .tup _=>some "tuple"
 | .dic _ _=>some "dict"
 | .ob _=>none
def Qdk (t n:String):Bool:=t == n || (t == "bool" && n == "int")
def QcH (n:String) (m:M D):M D:=fun ρ O=>(m ρ O).bind fun d O1=>match tyD (QaK O1 d) with
 | some t=>.ok (.bl (Qdk t n)) O1
 | none=>.no
def QoW:List String:=["str","int","bool","list","tuple","dict"]
theorem Qro (K:Frag):∀d t,tyD d=some t→∀n∈QoW,PySem.W.kitOne K (.type t) (.type n)=some (Qdk t n):=by
 intro d t e n hn;simp only [QoW,zn,List.not_mem_nil,or_false] at hn
 cases d <;> cases e <;> rcases hn with rfl | rfl | rfl | rfl | rfl | rfl <;> first | exact QoX K _ | kernel_rfl
theorem Lk.ty {K:Frag}{H F:Hp}{as:List Addr}{v:V}{d:D}{t:String} (h:Lk K H F as v d) (fh:Same F H) (e:tyD d=some t):TyQ K H v t:=by
 cases d with
 | non=>cases e; rw [(h.rp rfl).unN]; exact .non
 | bl b=>cases e; rw [(h.rp rfl).unB]; exact .bl _
 | int b=>cases e; rw [(h.rp rfl).unI]; exact .int _
 | str b=>cases e; rw [(h.rp rfl).unS]; exact .str _
 | lst ds=>cases e; obtain ⟨p,xs,rfl,h1,h2⟩:=h.list fh; exact .lst h1.sq
 | tup ds=>cases e; obtain ⟨p,xs,rfl,h1,h2⟩:=(h.rp rfl).unT; exact .tup (Same.seqT fh h1)
 | dic ks vs=>cases e; obtain ⟨p,xs,rfl,h1,h2⟩:=(h.rp rfl).unD; exact .dK (fh _ _ h1)
 | ob n=>cases e
theorem QcC (n:String) {T:Str}{a:Expr}{p p' pos:Pos}{m:M D} (hm:X.mg "isinstance" = none) (hT:X.mg T=none) (h:SE X md P a m) (hb:bootBuiltins T=some (.type n):=by decide +kernel) (hn:n∈QoW:=by decide) (hg:Gl X "isinstance":=by rfl) (hgT:Gl X T:=by rfl)
  (hTn:T≠"__name__":=by decide) (hTd:(T == ("__debug__":Str))=false:=by decide)
  (hs1:starEach [a,.Name T p'] X.env=(false,eval a X.env)::starEach [.Name T p'] X.env:=by exact Qbl rfl) (hs2:starEach [.Name T p'] X.env=(false,eval (.Name T p') X.env)::starEach [] X.env:=by rfl) (hpl:(backTo pos (starEach [.Name T p'] X.env)).any (·.1)=false:=by exact Qbk rfl) :
  OE X md P (.Call (.Name "isinstance" p) [a,.Name T p'] [] pos) (QcH n m) :=
 (QlD (QoE X.K) hg hm (by decide +kernel) (QbV h (QbV (Qrp (v:=.ty n) hgT hT hb rfl hTn hTd) QcI hs2) hs1) (by decide) (by decide) hs1 hpl).imp fun σ H Q q=>by
  obtain ⟨ρ,O,F,as,d,O',r,s,e,k⟩:=q;obtain ⟨x,O1,e1,e⟩:=Res.bind_ok e;split at e
  ·rename_i t ht;cases e;refine ⟨ρ,_,F,as,_,_,r,s,e1,fun v H1 F1 as1 g1 r1 hv=>?_⟩;exact ⟨v,n,t,_,rfl,Lk.ty (Sv.lk hv r1) r1.fh ht,Qro _ _ t ht n hn,k _ H1 F1 as1 g1 r1 (.inl ⟨rfl,Rp.bl⟩)⟩
  ·cases e
def Qh6 (m:M D):M (List D):=fun ρ O=>(m ρ O).bind fun d O1=>match d with
 | .lst ds=>.ok ds O1
 | _=>.no
def Qng (m:M D):M (List D):=fun ρ O=>(m ρ O).bind fun d O1=>match d with
 | .tup ds=>.ok ds O1
 | _=>.no
theorem Qo2 {K:Frag}{mg:Str→Option Value}{H F:Hp}{as:List Addr}{a:Addr}{xs:List V}{ds:List D} (hs:Rps K F as xs ds) (hp:∀(H2 F2:Hp) (as2:List Addr),GrS P H F as H2 F2 as2→(∃O,RlO K mg O H2 F2 as2)→RdK K H2 a xs):JOk K mg P (Itl K a) ds H F as:=by
 refine ⟨fun i d H2 F2 as2 g r e=>?_,fun H2 F2 as2 g r=>⟨xs,(hp H2 F2 as2 g r).sq,by rw [hs.length]; exact zc _⟩⟩;obtain ⟨x,h1,h2⟩:=hs.get' e;have q:=hp H2 F2 as2 g r;refine ⟨⟨xs,x,q.sq,h1⟩,fun y H3 hy=>?_⟩;obtain ⟨rfl,hy⟩:=hy
 have:=hy xs q.sq
 rw [h1] at this;cases this;exact ⟨F2,Gr.refl,fun _ r=>r,h2.grS g⟩
end
section
variable {X:Cx}{pins:List (Addr×Obj)}{σ:St}{H:Hp}{s:Shared}
theorem Inv.turnL {ch:List Addr}{h':Heap}{t':Nat} (I:Inv X pins σ H s) (hch:∀b∈ch,Qd8 X pins H b) (k:∀b o,b∉ch→s.heap.get? b=some o→h'.get? b=some o):Inv X pins σ H { s with heap:=h',toks:=t' }:=by
 have nit:∀b u,H b=some u→b∉ch:=fun b u e z=>by rw [(hch b z).1] at e; cases e
 refine I.step (g':=s.gens) (d':=s.drawn) (ch:=ch) (fun b hb=>?_) (fun b o _ _ hc e _=>k b o hc e) (fun b o _ _ hc e _=>⟨o.slots,k b o hc e⟩) (fun _ _ _ _ n=>n)
  (fun b o hc e=>⟨o,k b o hc e⟩) (fun _ _ e=>e) (fun _ _ _ e=>e) (fun b ps e=>⟨#[],by rw [e]; simp⟩) (fun m hm=>?_) (fun b u e=>?_) I.bare
 ·obtain ⟨f0,f1,f2,f3,f4,f5⟩:=hch b hb;exact ⟨f3,f1,f4,f5⟩
 ·obtain ⟨o,es,ep,ho,r⟩:=hm;exact ⟨o,es,ep,k _ o (fun z=>(hch _ z).2.1 rfl) ho,r⟩
 ·refine (I.hok b u e).stay (fun c v hc q=>k c v ?_ q) (fun _ q=>q) fun _ _ q=>q
  rcases hc with z | z
  ·rw [z]; exact nit b u e
  ·exact nit c _ z
theorem Inv.turnT {ch:List Addr}{h':Heap}{t':Nat}{T:Addr}{vs:List V}{us:List Value} (I:Inv X pins σ H s) (hch:∀b∈ch,Qd8 X pins H b) (k:∀b o,b∉ch→s.heap.get? b=some o→h'.get? b=some o)
  (hT:s.heap.objs.size≤T) (new:IsTup h' T us.toArray) (hv:Qar vs us) (hz:vs.length≤sizeLine):Inv X pins σ (upd H T (.tup vs)) { s with heap:=h',toks:=t' }:=by
 have hn:H T=none:=I.hok.fresh hT
 have nit:∀b u,H b=some u→b∉ch:=fun b u e z=>by rw [(hch b z).1] at e; cases e
 have ne:∀b o,s.heap.get? b=some o→b≠T:=fun b o e z=>by
  subst z;exact absurd (zf e) (Nat.not_lt_of_le hT)
 refine I.step (g':=s.gens) (d':=s.drawn) (ch:=ch) (fun b hb=>?_) (fun b o _ _ hc e _=>k b o hc e) (fun b o _ _ hc e _=>⟨o.slots,k b o hc e⟩) (fun b o _ e n=>by rw [Qal (ne b o e)]; exact n)
  (fun b o hc e=>⟨o,k b o hc e⟩) (fun b _ e=>by rw [Qal (Qas e hn)]; exact e) (fun b _ _ e=>by rw [Qal (Qas e hn)]; exact e) (fun b ps e=>⟨#[],by rw [Qal (Qas e hn),e]; simp⟩) (fun m hm=>?_) (fun b u e=>?_) I.bare
 ·obtain ⟨f0,f1,f2,f3,f4,f5⟩:=hch b hb;exact ⟨f3,f1,f4,f5⟩
 ·obtain ⟨o,es,ep,ho,r⟩:=hm;exact ⟨o,es,ep,k _ o (fun z=>(hch _ z).2.1 rfl) ho,r⟩
 ·by_cases hb:b=T
  ·subst hb;rw [QaL] at e;cases e;exact ⟨hz,us,hv,new⟩
  ·rw [Qal hb] at e
   refine (I.hok b u e).stay (fun c v hc q=>k c v ?_ q) (fun c q=>by rw [Qal (Qas q hn)]; exact q) fun c xs q=>by rw [Qal (Qas q hn)]; exact q
   rcases hc with z | z
   ·rw [z]; exact nit b u e
   ·exact nit c _ z
end
def Ite (K:Frag) (l:Addr):It:=⟨fun i H=>∃xs x,SqL K H l xs∧xs[i]? = some x,fun i H v H'=>∃T x,v = .ref T∧H T=none∧H'=upd H T (.tup [.int i,x])∧∀xs,SqL K H l xs→xs[i]? = some x,fun i H=>∃xs,SqL K H l xs∧xs.length≤i⟩
def Qsw (l:List Nat):It:=⟨fun i _=>i < l.length,fun i H v H'=>∃T c,v = .ref T∧H T=none∧H'=upd H T (.tup [.int i,.str (S [c])])∧l[i]? = some c,fun i _=>l.length≤i⟩
theorem QcM {h:Heap}{b:Addr}{o:Obj}{vs:Array Value} (e:h.get? b=some o) (d:o.data = .fields vs):∃o,h.get? b=some o∧∀v,o.data≠.cell v:=⟨o,e,fun v z=>by rw [d] at z; cases z⟩
theorem QmL {P:Program}{w:World}{K:Frag}{elts:List Expr}{x1}{pos:Pos} (e it l:Addr) (hne:e≠it):Turn P w K (.Tuple elts x1 pos) (Ite K l) [e,it] e (fun i h=>(∃old,IsEnum h e it i old)∧h.IsListIter it l i) where
 mem:=by simp
 obj:=fun i h st b hb=>by
  obtain ⟨⟨old,he⟩,o,ho,hc,hd⟩:=st
  rcases zn.mp hb with rfl | hb
  ·exact QcM he rfl
  ·rw [zo.mp hb];exact QcM ho hd
 keep:=fun i h h' st k=>by
  obtain ⟨⟨old,he⟩,o,ho,r⟩:=st;exact ⟨⟨old,k e (by simp) _ he⟩,o,k it (by simp) o ho,r⟩
 item:=by
  intro X hP hw hK hc i pins s σ H E I hf st hg;subst hP hw hK;obtain ⟨⟨old,he⟩,hit⟩:=st;obtain ⟨xs,x,hq,hx⟩:=hg;obtain ⟨its,rv,pl,hz⟩:=I.list hq;obtain ⟨u,hu,ru⟩:=rv.get hx;have hT:H s.heap.objs.size=none:=I.hok.fresh (zc _);have elt:e < s.heap.objs.size:=zf he
  refine wpAny_pyNext_enum_item he hit pl.isList (x:=u) (by simpa using hu) hne fun h' ho hit' hTup hsz hk=>⟨_,rfl,?_⟩
  refine wpAny_letOwnedTupleGo_enum ho fun h'' he'' hs''=>⟨.ref s.heap.objs.size,_,?_,rfl,⟨s.heap.objs.size,x,rfl,hT,rfl,fun ys hy=>by rw [I.list_inj hy hq]; exact hx⟩,⟨⟨_,by simpa using he''⟩,hit'.extBut hs''.extBut (Ne.symm hne)⟩,fun b hb=>?_⟩
  ·show Inv X pins σ _ { s with heap:=h'',toks:=s.toks+1 };refine I.turnT (ch:=[e,it]) (us:=[.int i s.toks,u]) hf (fun b o hb q=>?_) (zc _) ⟨_,hs''.extBut _ _ (Nat.ne_of_gt elt) hTup,rfl,_,rfl⟩ (.cons ⟨_,rfl⟩ (.cons ru .nil)) (by show 2≤sizeLine; decide)
   have h1:b≠e:=fun z=>hb (by simp [z])
   have h2:b≠it:=fun z=>hb (by simp [z])
   exact hs''.extBut _ _ h1 (hk b o h1 h2 q)
  ·have q:=hf b hb;rw [Qal (fun z=>?_)]
   ·exact q.1
   ·obtain ⟨o,ho⟩:∃o,s.heap.get? b=some o:=by
     rcases zn.mp hb with rfl | hb
     ·exact ⟨_,he⟩
     ·rw [zo.mp hb];obtain ⟨o,ho,_⟩:=hit;exact ⟨o,ho⟩
    exact absurd (zf ho) (by rw [z]; exact zL _)
 done:=by
  intro X hP hw hK hc i pins s σ H E I hf st hg;subst hP hw hK;obtain ⟨⟨old,he⟩,hit⟩:=st;obtain ⟨xs,hq,hl⟩:=hg;obtain ⟨its,rv,pl,hz⟩:=I.list hq
  refine wpAny_pyNext_enum_end (I.ok.hd hc) he hit pl.isList (by have:=rv.length; simp; omega) fun h' hx=>⟨rfl,?_⟩
  exact I.turnL (t':=s.toks) (ch:=[e,it]) hf fun b o hb q=>hx b o (fun z=>hb (by simp [z])) q
 self:=fun A i s Q E st h=>by
  obtain ⟨⟨old,he⟩,_⟩:=st;exact wpAny_pyIter_enum he h
theorem QmE {P:Program}{w:World}{K:Frag}{elts:List Expr}{x1}{pos:Pos} (e it:Addr) (l:List Nat) (t:Tok) (hne:e≠it):Turn P w K (.Tuple elts x1 pos) (Qsw l) [e,it] e (fun i h=>(∃old,IsEnum h e it i old)∧h.IsStrIter it "str_ascii_iterator" (S l) t i) where
 mem:=by simp
 obj:=fun i h st b hb=>by
  obtain ⟨⟨old,he⟩,o,ho,hc,hd⟩:=st
  rcases zn.mp hb with rfl | hb
  ·exact QcM he rfl
  ·rw [zo.mp hb];exact QcM ho hd
 keep:=fun i h h' st k=>by
  obtain ⟨⟨old,he⟩,o,ho,r⟩:=st;exact ⟨⟨old,k e (by simp) _ he⟩,o,k it (by simp) o ho,r⟩
 item:=by
  intro X hP hw hK hc i pins s σ H E I hf st hg;subst hP hw hK;obtain ⟨⟨old,he⟩,hit⟩:=st;have hg':i < l.length:=hg;have hT:H s.heap.objs.size=none:=I.hok.fresh (zc _);have elt:e < s.heap.objs.size:=zf he;have hd:X.A.in1.handled=none:=I.ok.hd hc
  refine wpAny_pyNext_enum_itemD (Draws.strAscii hd it (S l) t) he hit (by simpa [S] using hg') hne (fun z=>hne (by simpa using z)) fun u h' tk hP ho hit' hTup hsz hk=>⟨_,rfl,?_⟩
  obtain ⟨c,tc,hcx,rfl⟩:=hP
  have hcl:l[i]? = some c:=by
   rw [←hcx];simp [S]
  refine wpAny_letOwnedTupleGo_enum ho fun h'' he'' hs''=>⟨.ref s.heap.objs.size,_,?_,rfl,⟨s.heap.objs.size,c,rfl,hT,rfl,hcl⟩,⟨⟨_,by simpa using he''⟩,?_⟩,fun b hb=>?_⟩
  ·show Inv X pins σ _ { s with heap:=h'',toks:=tk+1 };refine I.turnT (ch:=[e,it]) (us:=[.int i tk,.str ⟨#[c]⟩ tc]) hf (fun b o hb q=>?_) (zc _) ⟨_,hs''.extBut _ _ (Nat.ne_of_gt elt) hTup,rfl,_,rfl⟩ (.cons ⟨_,rfl⟩ (.cons ⟨_,rfl⟩ .nil)) (by show 2≤sizeLine; decide)
   have h1:b≠e:=fun z=>hb (by simp [z])
   have h2:b≠it:=fun z=>hb (by simp [z])
   exact hs''.extBut _ _ h1 (hk b o h1 h2 q)
  ·obtain ⟨o,ho',r⟩:=hit';exact ⟨o,hs''.extBut _ _ (Ne.symm hne) ho',r⟩
  ·have q:=hf b hb;rw [Qal (fun z=>?_)]
   ·exact q.1
   ·obtain ⟨o,ho⟩:∃o,s.heap.get? b=some o:=by
     rcases zn.mp hb with rfl | hb
     ·exact ⟨_,he⟩
     ·rw [zo.mp hb];obtain ⟨o,ho,_⟩:=hit;exact ⟨o,ho⟩
    exact absurd (zf ho) (by rw [z]; exact zL _)
 done:=by
  intro X hP hw hK hc i pins s σ H E I hf st hg;subst hP hw hK;obtain ⟨⟨old,he⟩,hit⟩:=st;have hd:X.A.in1.handled=none:=I.ok.hd hc;have hg':l.length≤i:=hg;have hT:s.TypeIs (.ref e) "enumerate":=⟨_,he,rfl⟩;unfold pyNext
  refine za (wpAny_attempt (wpAny_callSpecial?_slot (name:=Str.ofString "__next__") hT F.slot_enumerate_next
   (wpAny_call_entry F.slot_enumerate_next hT F.entry_enumerate_next ?_ (F.args_enumerate_next_1 _))))
  show wpAny _ _ (field (.ref e) 2 >>= _) _ _ _;refine za (wpAny_field he rfl (x:=.ref it) rfl ?_);refine za (wpAny_nextOf_ascii_end hd hit (by simp [S]; exact hg') fun h' x he' hx'=>?_);obtain ⟨o,ho,hc⟩:=hx';refine za (wpAny_isInstance (T:="StopIteration") (b:=true) ⟨o,ho,hc⟩ isSubtype_stop ?_);exact zb ⟨rfl,I.turnL (t':=s.toks) (ch:=[e,it]) hf fun b o hb q=>he' b o (fun z=>hb (by simp [z])) q⟩
 self:=fun A i s Q E st h=>by
  obtain ⟨⟨old,he⟩,_⟩:=st;exact wpAny_pyIter_enum he h
section
variable {X:Cx}{elts:List Expr}{x1:Nat}{tpos:Pos}
def Qtc (K:Frag) (ta:TA):TI:=fun σ H R=>ta σ H fun vs H1=>∃a,vs = [.ref a]∧(∃xs,SqL K H1 a xs)∧R (Ite K a) H1
def Qsb (ta:TA):TI:=fun σ H R=>ta σ H fun vs H1=>∃l,vs = [.str (S l)]∧ascii l=true∧R (Qsw l) H1
theorem Qko {l:List Nat} (h:ascii l=true):strIterType (S l) = "str_ascii_iterator":=by
 unfold strIterType;rw [if_pos];unfold ascii at h;rw [List.all_eq_true] at h;simp [S];intro i hi;simpa using h i hi
theorem Qpg {a:Expr}{ta:TA}{p pos:Pos} (hg:Gl X "enumerate") (hm:X.mg "enumerate" = none) (ha:PA X [a] ta) (hs:starEach [a] X.env = [(false,eval a X.env)]:=by exact Qik rfl):PI X (.Tuple elts x1 tpos) (.Call (.Name "enumerate" p) [a] [] pos) (Qtc X.K ta):=by
 intro pins s σ H R I h;refine Call_ (Qfz I hg hm boot_enumerate (PyProof.Rows.callWith_type1 (thn (ha pos pins s σ H _ I h) fun us s1 ⟨vs,H1,I1,r1,q1⟩=>?_) hs rfl));obtain ⟨l,e,⟨xs,hq⟩,q⟩:=q1;subst e;obtain ⟨u,rfl,ru⟩:=vals1 r1;cases ru;obtain ⟨its,rv,pl,hz⟩:=I1.list hq
 refine call_enumerate_list pl.isList fun h' he hit hsz hk=>wpAny_pyIter_enum he ?_
 refine ⟨s1.heap.objs.size+1,[s1.heap.objs.size+1,s1.heap.objs.size],_,_,H1,rfl,I1.kept (t':=s1.toks) hk,QmL (s1.heap.objs.size+1) s1.heap.objs.size l (Nat.succ_ne_self _),⟨⟨_,he⟩,hit⟩,fun b hb=>?_,q⟩
 have hb':s1.heap.objs.size≤b:=by
  rcases zn.mp hb with rfl | hb
  ·exact Nat.le_succ _
  ·rw [zo.mp hb]; exact zc _
 exact I1.fpOk hb' (I1.hok.fresh hb')
theorem Qpa {a:Expr}{ta:TA}{p pos:Pos} (hg:Gl X "enumerate") (hm:X.mg "enumerate" = none) (ha:PA X [a] ta) (hs:starEach [a] X.env = [(false,eval a X.env)]:=by exact Qik rfl):PI X (.Tuple elts x1 tpos) (.Call (.Name "enumerate" p) [a] [] pos) (Qsb ta):=by
 intro pins s σ H R I h;refine Call_ (Qfz I hg hm boot_enumerate (PyProof.Rows.callWith_type1 (thn (ha pos pins s σ H _ I h) fun us s1 ⟨vs,H1,I1,r1,q1⟩=>?_) hs rfl));obtain ⟨l,e,hl,q⟩:=q1;subst e;obtain ⟨u,rfl,t,rfl⟩:=vals1 r1
 refine call_enumerate_str fun h' he hit hsz hk=>wpAny_pyIter_enum he ?_
 rw [Qko hl] at hit;refine ⟨s1.heap.objs.size+1,[s1.heap.objs.size+1,s1.heap.objs.size],_,_,H1,rfl,I1.kept (t':=s1.toks) hk,QmE (s1.heap.objs.size+1) s1.heap.objs.size l t (Nat.succ_ne_self _),⟨⟨_,he⟩,hit⟩,fun b hb=>?_,q⟩
 have hb':s1.heap.objs.size≤b:=by
  rcases zn.mp hb with rfl | hb
  ·exact Nat.le_succ _
  ·rw [zo.mp hb]; exact zc _
 exact I1.fpOk hb' (I1.hok.fresh hb')
end
def rW (K:Frag) (P:Pt):RR:=fun _ H F as v d=>Rp K F as v d∨∃a xs ds,v = .ref a∧d = .lst ds∧H a=some (.lst xs)∧a∉as∧P a∧Rps K F as xs ds
def WE (X:Cx) (md:List Md) (P:Pt) (e:Expr) (m:M D):Prop:=PE X e (tM X.K X.mg md P (rW X.K P) m)
section
variable {X:Cx}{md:List Md}{P:Pt}{R:RR}
theorem QkK {e:Expr}{m:M D} (h:VE X md P e m):WE X md P e m:=h.imp fun σ H Q q=>by
 obtain ⟨ρ,O,F,as,d,O',r,s,e,k⟩:=q;exact ⟨ρ,O,F,as,d,O',r,s,e,fun v H' F' as' g r' hv=>k v H' F' as' g r' (.inl hv)⟩
theorem QgD (i:Nat) {x:Str}{pos:Pos} (hm:md[i]? = some .s:=by rfl) (hN:X.N[i]? = some x:=by rfl) (hv:Vis X.env.scope x:=by first | exact Or.inl rfl | exact Or.inr (Or.inl rfl) | exact Or.inr (Or.inr rfl))
  (hd:(x == ("__debug__":Str))=false:=by decide) (hcd:(x == ("__classdict__":Str))=false:=by decide):WE X md P (.Name x pos) (Qab i):=by
 refine (QeQ (i:=i) hN hv hd hcd).imp fun σ H Q h=>?_
 obtain ⟨ρ,O,F,as,d,O',r,s,e,k⟩:=h;obtain ⟨e1,rfl⟩:=Qh8 e;obtain ⟨v,h2,h3⟩:=s.sl i .s d hm e1;exact ⟨v,h2,k v H F as Gr.refl r h3⟩
theorem QmR {K:Frag}{mg:Str→Option Value}{N:Addr→Prop}{H F:Hp}{as:List Addr}{v:V}{ds:List D} (hv:rW K P N H F as v (.lst ds)) :
  ∃a xs,v = .ref a∧Rps K F as xs ds∧∀(H2 F2:Hp) (as2:List Addr),GrS P H F as H2 F2 as2→(∃O,RlO K mg O H2 F2 as2)→RdK K H2 a xs:=by
 rcases hv with hv | ⟨a,xs,ds',rfl,e,e3,e4,e5,e6⟩
 ·obtain ⟨a,xs,rfl,h1,h2⟩:=hv.unL;exact ⟨a,xs,rfl,h2,fun H2 F2 as2 g ⟨O,r⟩=>(h1.mono g.ff).mono r.fh⟩
 ·cases e;exact ⟨a,xs,rfl,e6,fun H2 F2 as2 g _=>.inl (.inl (g.fr _ _ e5 e3 e4 rfl))⟩
theorem Qmb {tg e:Expr}{m:M D} (h:WE X md P e m):VI X md P tg e (Qh6 m):=(Qjt h).imp fun σ H Q q=>by
 obtain ⟨ρ,O,F,as,ds,O',r,s,e,k⟩:=q;obtain ⟨d,O1,e1,e⟩:=Res.bind_ok e
 cases d with
 | lst es =>
  cases e;refine ⟨ρ,_,F,as,_,_,r,s,e1,fun v H1 F1 as1 g1 r1 hv=>?_⟩;obtain ⟨a,xs,rfl,h1,h2⟩:=QmR (mg:=X.mg) hv;exact ⟨a,rfl,⟨xs,(h2 H1 F1 as1 GrS.refl ⟨_,r1⟩).sq⟩,k _ H1 F1 as1 g1 r1 (Qo2 h1 h2)⟩
 | _=>cases e
theorem Qn5 {tg e:Expr}{m:M D} (h:VE X md P e m):VI X md P tg e (Qng m):=(QsE h).imp fun σ H Q q=>by
 obtain ⟨ρ,O,F,as,ds,O',r,s,e,k⟩:=q;obtain ⟨d,O1,e1,e⟩:=Res.bind_ok e
 cases d with
 | tup es =>
  cases e;refine ⟨ρ,_,F,as,_,_,r,s,e1,fun v H1 F1 as1 g1 r1 hv=>?_⟩;obtain ⟨a,xs,rfl,h1,h2⟩:=Rp.unT hv
  have hp:∀(H2 F2:Hp) (as2:List Addr),GrS P H1 F1 as1 H2 F2 as2→(∃O,RlO X.K X.mg O H2 F2 as2)→SqT X.K H2 a xs:=fun H2 F2 as2 g ⟨O,r⟩=>Same.seqT r.fh (Same.seqT g.ff h1)
  refine ⟨a,rfl,⟨xs,hp H1 F1 as1 GrS.refl ⟨_,r1⟩⟩,k _ H1 F1 as1 g1 r1 ⟨fun i d H2 F2 as2 g r e=>?_,fun H2 F2 as2 g r=>⟨xs,hp H2 F2 as2 g r,by rw [h2.length]; exact zc _⟩⟩⟩;obtain ⟨x,h3,h4⟩:=h2.get' e;have q:=hp H2 F2 as2 g r;refine ⟨⟨xs,x,q,h3⟩,fun y H3 hy=>?_⟩;obtain ⟨rfl,hy⟩:=hy
  have:=hy xs q
  rw [h3] at this;cases this;exact ⟨F2,Gr.refl,fun _ r=>r,h4.grS g⟩
 | _=>cases e
def Qa5 (l:List Nat):List D:=l.map fun c=>.str [c]
def Qnc (m:M D):M (List D):=fun ρ O=>(m ρ O).bind fun d O1=>match d with
 | .str l=>if ascii l=true then .ok (Qa5 l) O1 else .no
 | _=>.no
theorem QlG {K:Frag}{mg:Str→Option Value}{J:It}{ds:List D}{H F:Hp}{as:List Addr} (h1:∀(i:Nat) (d:D) (H2:Hp),ds[i]? = some d→J.go i H2∧∀x H3,J.yld i H2 x H3→H3=H2∧∀K F as,Rp K F as x d) (h2:∀H2,J.stop ds.length H2):JOk K mg P J ds H F as :=
 ⟨fun i d H2 F2 as2 _ _ e=>⟨(h1 i d H2 e).1,fun x H3 y=>by
  obtain ⟨rfl,hx⟩:=(h1 i d H2 e).2 x H3 y
  exact ⟨F2,Gr.refl,fun _ r=>r,hx _ _ _⟩⟩,fun H2 _ _ _ _=>h2 H2⟩
theorem Qoq {tg e:Expr}{m:M D} (h:SE X md P e m):VI X md P tg e (Qnc m):=(QrC h).imp fun σ H Q q=>by
 obtain ⟨ρ,O,F,as,ds,O',r,s,e,k⟩:=q;obtain ⟨d,O1,e1,e⟩:=Res.bind_ok e
 cases d with
 | str l =>
  dsimp only at e;split at e
  ·rename_i hl;cases e;refine ⟨ρ,_,F,as,_,_,r,s,e1,fun v H1 F1 as1 g1 r1 hv=>?_⟩;refine ⟨l,(Sv.rp hv rfl).unS,hl,k _ H1 F1 as1 g1 r1 (QlG (fun i d H2 e=>?_) fun H2=>by simp [Qa5,Its])⟩;unfold Qa5 at e;rw [zG] at e
   cases q:l[i]? with
   | none=>rw [q] at e; cases e
   | some c =>
    rw [q] at e;cases e;refine ⟨(zh.mp q).1,fun x H3 y=>?_⟩;obtain ⟨e1,c',e2,rfl⟩:=y;rw [q] at e2;cases e2;exact ⟨e1,fun _ _ _=>Rp.str⟩
  ·cases e
 | _=>cases e
def QbL (lo:Int) (n:Nat):List D:=(List.range n).map fun (k:Nat)=>.int (lo+(k:Int))
def QcN (m:M (List D)):M (List D):=fun ρ O=>(m ρ O).bind fun ds O1=>match ds with
 | [.int j]=>if j≤1000000000∧-1000000000≤j then .ok (QbL 0 j.toNat) O1 else .no
 | _=>.no
theorem Qos {K:Frag}{mg:Str→Option Value}{lo:Int}{n:Nat}{H F:Hp}{as:List Addr}:JOk K mg P (Itr lo n) (QbL lo n) H F as:=QlG (fun i d H2 e=>by
 unfold QbL at e;rw [zG] at e
 by_cases hi:i < n
 ·rw [List.getElem?_range hi] at e;cases e;refine ⟨hi,fun x H3 y=>?_⟩;obtain ⟨e1,rfl⟩:=y;exact ⟨e1,fun _ _ _=>Rp.int⟩
 ·rw [List.getElem?_eq_none (by simpa using hi)] at e
  cases e) fun H2=>by simp [QbL,Itr]
theorem QbI.one {K:Frag}{H F:Hp}{as:List Addr}{m:Md}{vs:List V}{d:D} (h:QbI K H F as [m] vs [d]):∃v,vs = [v]∧rA K m (fun _=>True) H F as v d:=by
 cases vs with
 | nil=>exact h.elim
 | cons v vs =>
  cases vs with
  | nil=>exact ⟨v,rfl,h.1⟩
  | cons u us=>exact h.2.elim
theorem QeL {tg a:Expr}{p pos:Pos}{m:M (List D)} (hm:X.mg "range" = none) (ha:AE X md P [.s] [a] m) (hg:Gl X "range":=by rfl) (hs:starEach [a] X.env = [(false,eval a X.env)]:=by exact Qik rfl):VI X md P tg (.Call (.Name "range" p) [a] [] pos) (QcN m):=(QnX hg hm ha hs).imp fun σ H Q q=>by
 obtain ⟨ρ,O,F,as,ds,O',r,s,e,k⟩:=q;obtain ⟨es,O1,e1,e⟩:=Res.bind_ok e;split at e
 ·rename_i j;split at e
  ·rename_i hj;cases e;refine ⟨ρ,_,F,as,_,_,r,s,e1,fun vs H1 F1 as1 g1 r1 hv=>?_⟩;obtain ⟨v,rfl,hv1⟩:=hv.one
   have:=(Sv.rp hv1 rfl).unI
   subst this;exact ⟨j,rfl,by omega,by omega,k _ H1 F1 as1 g1 r1 Qos⟩
  ·cases e
 ·cases e
def QbZ:Nat→List D→List D
 | _,[]=>[]
 | k,d::ds=>.tup [.int k,d]::QbZ (k+1) ds
theorem QfO:∀(k:Nat) (ds:List D),(QbZ k ds).length=ds.length
 | _,[]=>rfl
 | k,d::ds=>by simp [QbZ,QfO (k+1) ds]
theorem QfX:∀(k:Nat) (ds:List D) (i:Nat),(QbZ k ds)[i]? = (ds[i]?).map fun d=>.tup [.int ((k+i:Nat):Int),d]
 | k,[],i=>by simp [QbZ]
 | k,d::ds,0=>by simp [QbZ]
 | k,d::ds,i+1=>by
  rw [QbZ,zH,zH,QfX (k+1) ds i];congr 1
  funext d
  congr 3;omega
theorem QiS {K:Frag}{mg:Str→Option Value}{H2 F2:Hp}{as2:List Addr}{T:Addr}{xs:List V}{ds:List D} (hr:∃O,RlO K mg O H2 F2 as2) (hT:H2 T=none) (hx:Rps K F2 as2 xs ds) :
  ∃F3,Gr H2 F2 as2 (upd H2 T (.tup xs)) F3 as2∧(∀O,RlO K mg O H2 F2 as2→RlO K mg O (upd H2 T (.tup xs)) F3 as2)∧Rp K F3 as2 (.ref T) (.tup ds):=by
 obtain ⟨O,r⟩:=hr;have hF:=r.frF hT
 have ff:Same F2 (upd F2 T (.tup xs)):=fun b u q=>by rw [Qal (Qas q hF)]; exact q
 exact ⟨upd F2 T (.tup xs),(Gr.lay hT).frz hT hF,fun O' r'=>(r'.lay hT).frz QaL hF (fun z=>r'.all z hT) rfl,Rp.mkT (.inl QaL) (Rps.mono ff (fun _ _ z=>z) _ hx)⟩
def Qn4 (m:M D):M (List D):=fun ρ O=>(m ρ O).bind fun d O1=>match d with
 | .lst ds=>.ok (QbZ 0 ds) O1
 | _=>.no
def Qoo (m:M D):M (List D):=fun ρ O=>(m ρ O).bind fun d O1=>match d with
 | .str l=>if ascii l=true then .ok (QbZ 0 (Qa5 l)) O1 else .no
 | _=>.no
variable {elts:List Expr}{x1:Nat}{tpos:Pos}
theorem QoV {a:Expr}{p pos:Pos}{m:M D} (hm:X.mg "enumerate" = none) (h:WE X md P a m) (hg:Gl X "enumerate":=by rfl) (hs:starEach [a] X.env = [(false,eval a X.env)]:=by exact Qik rfl) (hs':starEach [a] X.env=(false,eval a X.env)::starEach [] X.env:=by exact Qbl rfl) :
  VI X md P (.Tuple elts x1 tpos) (.Call (.Name "enumerate" p) [a] [] pos) (Qn4 m):=(Qpg hg hm (QbV h QcI hs') hs).imp fun σ H Q q=>by
 obtain ⟨ρ,O,F,as,ds,O',r,s,e,k⟩:=q;obtain ⟨d,O1,e1,e⟩:=Res.bind_ok e
 cases d with
 | lst es =>
  cases e;refine ⟨ρ,_,F,as,_,_,r,s,e1,fun v H1 F1 as1 g1 r1 hv=>?_⟩;obtain ⟨a,xs,rfl,h1,h2⟩:=QmR (mg:=X.mg) hv;refine ⟨a,rfl,⟨xs,(h2 H1 F1 as1 GrS.refl ⟨_,r1⟩).sq⟩,k _ H1 F1 as1 g1 r1 ⟨fun i d H2 F2 as2 g r e=>?_,fun H2 F2 as2 g r=>⟨xs,(h2 H2 F2 as2 g r).sq,by rw [QfO,h1.length]; exact zc _⟩⟩⟩;rw [QfX] at e
  cases q:es[i]? with
  | none=>rw [q] at e; cases e
  | some y =>
   rw [q] at e;cases e;obtain ⟨x,h3,h4⟩:=h1.get' q;have hq:=h2 H2 F2 as2 g r;refine ⟨⟨xs,x,hq.sq,h3⟩,fun z H3 hz=>?_⟩;obtain ⟨T,x',rfl,hT,rfl,hx'⟩:=hz
   have:=hx' xs hq.sq
   rw [h3] at this;cases this;rw [Nat.zero_add];exact QiS r hT (Rps.cons Rp.int (Rps.cons (h4.grS g) Rps.nil))
 | _=>cases e
theorem Qo0 {a:Expr}{p pos:Pos}{m:M D} (hm:X.mg "enumerate" = none) (h:SE X md P a m) (hg:Gl X "enumerate":=by rfl) (hs:starEach [a] X.env = [(false,eval a X.env)]:=by exact Qik rfl) (hs':starEach [a] X.env=(false,eval a X.env)::starEach [] X.env:=by exact Qbl rfl) :
  VI X md P (.Tuple elts x1 tpos) (.Call (.Name "enumerate" p) [a] [] pos) (Qoo m):=(Qpa hg hm (QbV h QcI hs') hs).imp fun σ H Q q=>by
 obtain ⟨ρ,O,F,as,ds,O',r,s,e,k⟩:=q;obtain ⟨d,O1,e1,e⟩:=Res.bind_ok e
 cases d with
 | str l =>
  dsimp only at e;split at e
  ·rename_i hl;cases e;refine ⟨ρ,_,F,as,_,_,r,s,e1,fun v H1 F1 as1 g1 r1 hv=>?_⟩;refine ⟨l,by rw [(Sv.rp hv rfl).unS],hl,k _ H1 F1 as1 g1 r1 ⟨fun i d H2 F2 as2 g r e=>?_,fun H2 F2 as2 g r=>?_⟩⟩
   ·rw [QfX] at e;unfold Qa5 at e;rw [zG] at e
    cases q:l[i]? with
    | none=>rw [q] at e; cases e
    | some c =>
     rw [q] at e;cases e;refine ⟨(zh.mp q).1,fun z H3 hz=>?_⟩;obtain ⟨T,c',rfl,hT,rfl,hc'⟩:=hz;rw [q] at hc';cases hc';rw [Nat.zero_add];exact QiS r hT (Rps.cons Rp.int (Rps.cons Rp.str Rps.nil))
   ·show l.length≤_;rw [QfO];simp [Qa5]
  ·cases e
 | _=>cases e
def QeF:List D→Option (List (List Nat))
 | []=>some []
 | .str l::ds=>(QeF ds).map (l :: ·)
 | _=>none
theorem Rps.strs {K:Frag}{F:Hp}{as:List Addr}:∀{ds:List D}{xs:List V}{ls:List (List Nat)},Rps K F as xs ds→QeF ds=some ls→xs=ls.map fun l=>V.str (S l)
 | [],xs,bs,h,e=>by cases e; rw [h.un0]; rfl
 | d::ds,xs,bs,h,e=>by
  obtain ⟨x,r,rfl,h2,h3⟩:=h.un
  cases d with
  | str b =>
   unfold QeF at e
   cases q:QeF ds with
   | none=>rw [q] at e; cases e
   | some cs =>
    rw [q] at e;cases e;rw [h2.unS,Rps.strs h3 q];rfl
  | _=>cases e
def QkG (m:M D):M D:=fun ρ O=>(m ρ O).bind fun d O1=>match QaK O1 d with
 | .lst ds=>match QeF ds with
  | some ls=>if (ls.map List.length).sum≤1000000 then .ok (.str ls.flatten) O1 else .no
  | none=>.no
 | _=>.no
theorem Qqr {e:Expr}{j:Nat}{p apos cpos:Pos}{m:M D} (h:SE X md P e m) {x:Str} (hx:x=S []:=by decide +kernel)
  (hfew:((backTo cpos (starEach [e] X.env)).all (fun x=>!x.1)&&(backToKw cpos (keywordEach [] X.env)).all (fun x=>x.1.isSome)&&decide ([e].length+([]:List Keyword).length+(if ([]:List Keyword).isEmpty then 0 else 1) < 30))=true:=by rfl)
  (hline:(apos.endLine == cpos.line)=true:=by rfl) (hs:starEach [e] X.env=(false,eval e X.env)::starEach [] X.env:=by exact Qbl rfl) (hbase:attributeBase (.Constant (.str x) j p) "join" X.env (eval (.Constant (.str x) j p) X.env)=eval (.Constant (.str x) j p) X.env:=by rfl) (hplain:(backTo cpos (starEach [] X.env)).any (·.1)=false:=by exact Qbk rfl) :
  OE X md P (.Call (.Attribute (.Constant (.str x) j p) "join" apos) [e] [] cpos) (QkG m) :=
 (QfW PySem.F.plainAttrs_str PySem.F.slot_str_join PySem.F.type_str_join (Qo5 X.K) (QnO (x:=x)) (QbV h QcI hs) hbase hfew hline hs hplain).imp fun σ H Q q=>by
  obtain ⟨ρ,O,F,as,d,O',r,s,e,k⟩:=q;obtain ⟨y,O1,e1,e⟩:=Res.bind_ok e
  cases ed:QaK O1 y with
  | lst ds =>
   rw [ed] at e;dsimp only at e
   cases es:QeF ds with
   | none=>rw [es] at e; cases e
   | some ls =>
    rw [es] at e;dsimp only at e;split at e
    ·rename_i hz;cases e;refine ⟨rfl,ρ,_,F,as,_,_,r,s,e1,fun v H1 F1 as1 g1 r1 hv=>?_⟩;have q:=Sv.lk hv r1;rw [ed] at q;obtain ⟨a,xs,rfl,h1,h2⟩:=q.list r1.fh;refine ⟨a,ls,by rw [hx],rfl,?_,hz,k _ H1 F1 as1 g1 r1 (.inl ⟨rfl,Rp.str⟩)⟩;rw [←h2.strs es];exact h1.sq
    ·cases e
  | _=>rw [ed] at e; cases e
def Qih (mo m:M D):M D:=fun ρ O=>(mo ρ O).bind fun a O1=>(m ρ O1).bind fun b O2=>match a,b with
 | .str l,.str n=>.ok (.bl (decide (l.take n.length=n))) O2
 | _,_=>.no
theorem Qkk {o e:Expr}{apos cpos:Pos}{mo m:M D} (ho:VE X md P o mo) (h:VE X md P e m)
  (hbase:attributeBase o "startswith" X.env (eval o X.env)=eval o X.env:=by rfl)
  (hfew:((backTo cpos (starEach [e] X.env)).all (fun x=>!x.1)&&(backToKw cpos (keywordEach [] X.env)).all (fun x=>x.1.isSome)&&decide ([e].length+([]:List Keyword).length+(if ([]:List Keyword).isEmpty then 0 else 1) < 30))=true:=by rfl)
  (hline:(apos.endLine == cpos.line)=true:=by rfl) (hs:starEach [e] X.env=(false,eval e X.env)::starEach [] X.env:=by exact Qbl rfl) (hplain:(backTo cpos (starEach [] X.env)).any (·.1)=false:=by exact Qbk rfl) :
  OE X md P (.Call (.Attribute o "startswith" apos) [e] [] cpos) (Qih mo m) :=
 (QfW PySem.F.plainAttrs_str PySem.F.slot_str_startswith PySem.F.type_str_startswith QnG ho (QbV h QcI hs) hbase hfew hline hs hplain).imp fun σ H Q q=>by
  obtain ⟨ρ,O,F,as,d,O',r,s,e,k⟩:=q;obtain ⟨a,O1,e1,e⟩:=Res.bind_ok e;obtain ⟨b,O2,e2,e⟩:=Res.bind_ok e;split at e
  ·cases e;refine ⟨ρ,_,F,as,_,_,r,s,e1,fun v H1 F1 as1 g1 r1 hv=>?_⟩;cases Rp.unS hv;refine ⟨rfl,ρ,_,F1,as1,_,_,r1,s.step g1,e2,fun u H2 F2 as2 g2 r2 hu=>?_⟩;cases Rp.unS hu;exact ⟨_,_,rfl,rfl,k _ H2 F2 as2 (g1.trans g2) r2 (.inl ⟨rfl,Rp.bl⟩)⟩
  ·cases e
end
section
variable {K:Frag}{mg:Str→Option Value}{md:List Md}{P:Pt}{ρ:Qai}{σ:St}{H F:Hp}{as:List Addr}{O:Qaa}{i:Nat}{a:Addr}{xs xs':List V}{ds ds':List D}
theorem SlO.own (s:SlO K md P ρ σ H F as) (hm:md[i]? = some .o) (hρ:ρ[i]? = some (some (.lst ds))):∃a xs,σ[i]? = some (some (.ref a))∧H a=some (.lst xs)∧F a=none∧a∉as∧¬P a∧Rps K F as xs ds:=by
 obtain ⟨v,h1,h2⟩:=s.sl i .o _ hm hρ
 rcases h2 with ⟨h2,_⟩ | ⟨a,xs,es,rfl,e2,e3,e0,e4,e5,e6⟩
 ·cases h2
 ·cases e2;exact ⟨a,xs,h1,e3,e0,e4,e5,e6⟩
theorem SlO.mut (s:SlO K md P ρ σ H F as) (hm:md[i]? = some .o) (hρ:ρ[i]? = some (some (.lst ds))) (hσ:σ[i]? = some (some (.ref a))) (hF:F a=none) (ha:a∉as) (hP:¬P a) (r:Rps K F as xs' ds'):SlO K md P (ρ.set i (some (.lst ds'))) σ (upd H a (.lst xs')) F as:=by
 have hi:i < md.length:=(zh.mp hm).1;refine ⟨s.len,by rw [zQ]; exact s.len',fun c p=>?_,fun j m d e1 e2=>?_,fun j k c es fs h1 h2 h3 h4 h5 h6=>?_,fun x hx=>?_⟩
 ·have:=s.pd c p
  unfold upd
  split
  ·exact fun z=>nomatch z
  ·exact this
 ·by_cases h:i=j
  ·subst h;rw [hm] at e1; cases e1;rw [zF (by rw [s.len']; exact hi)] at e2;cases e2;exact ⟨_,hσ,.inr ⟨a,xs',ds',rfl,rfl,QaL,hF,ha,hP,r⟩⟩
  ·rw [ze h] at e2;obtain ⟨v,q1,q2⟩:=s.sl j m d e1 e2;refine ⟨v,q1,?_⟩
   cases m with
   | v=>exact q2
   | s =>
    rcases q2 with q2 | ⟨c,ys,es,z1,z2,z3,z4,z5,z6⟩
    ·exact .inl q2
    ·exact .inr ⟨c,ys,es,z1,z2,by rw [Qal (fun z=>hP (by rw [←z]; exact z5))]; exact z3,z4,z5,z6⟩
   | o =>
    rcases q2 with q2 | ⟨c,ys,es,z1,z2,z3,z0,z4,z5,z6⟩
    ·exact .inl q2
    ·refine .inr ⟨c,ys,es,z1,z2,?_,z0,z4,z5,z6⟩;rw [Qal]
     ·exact z3
     ·intro z;subst z z1 z2;exact h (s.inj i j c ds es hm e1 hρ e2 hσ q1)
 ·have f:∀k es,(ρ.set i (some (.lst ds')))[k]? = some (some (D.lst es))→∃es',ρ[k]? = some (some (D.lst es')):=fun k es q=>by
   by_cases h:i=k
   ·subst h; exact ⟨ds,hρ⟩
   ·rw [ze h] at q; exact ⟨es,q⟩
  obtain ⟨es',q3⟩:=f j es h3;obtain ⟨fs',q4⟩:=f k fs h4;exact s.inj j k c es' fs' h1 h2 q3 q4 h5 h6
 ·obtain ⟨p1,p2,p3⟩:=s.pin x hx
  have hne:i≠x.1:=fun z=>by rw [←z,hm] at p1; cases p1
  exact ⟨p1,by rw [ze hne]; exact p2,p3⟩
theorem Qoe {xs:List V} (hH:H a=some (.lst xs)) (hP:¬P a) {o:HO}:GrS P H F as (upd H a o) F as :=
 ⟨fun _ _ _ _ _ _=>rfl,Same.refl F,⟨[],by simp,fun _ h=>nomatch h⟩,fun c u p e _ _=>by rw [Qal (fun z=>hP (by rw [←z]; exact p))]; exact e,fun c e=>by
  by_cases h:c=a
  ·subst h; rw [QaL] at e; cases e
  ·rwa [Qal h] at e,fun c o' u e=>by rw [Qal (fun z=>by rw [z,hH] at e; cases e)]; exact e⟩
theorem RlO.mut (r:RlO K mg O H F as) (hF:F a=none) (ha:a∉as) {o:HO}:RlO K mg O (upd H a o) F as:=by
 refine ⟨fun c u e=>?_,r.fd,r.nd,r.len,r.fa,fun n c u hc hu=>(r.ob n c u hc hu).keep (Qal ?_) (Same.refl F) fun _ _ h=>h⟩
 ·rw [Qal (Qas e hF)]; exact r.fh c u e
 ·intro z; subst z; exact ha (zI hc)
end
section
variable {X:Cx}{md:List Md}{P:Pt}{R:RR}
def QgL (i:Nat) (m:M D):MS:=fun ρ O=>match m ρ O with
 | .ok d O'=>match ρ[i]? with
  | some (some (.lst ds))=>if ds.length < 1000000 then .nx (ρ.set i (some (.lst (ds ++ [d])))) O' else .no
  | _=>.no
 | .ex x O'=>.ex x O'
 | .no=>.no
theorem Qob {i:Nat}{m:M D}{ρ:Qai}{O:Qaa} (K:Frag) (mg:Str→Option Value) {D:Ends}{H F:Hp}{as:List Addr} (k:Qdm K mg md P R D H F as (QgL i m ρ O)) :
  ∃d O' ds,m ρ O = .ok d O'∧ρ[i]? = some (some (.lst ds))∧ds.length < 1000000∧Qdm K mg md P R D H F as (.nx (ρ.set i (some (.lst (ds ++ [d])))) O'):=by
 unfold QgL at k;split at k
 ·rename_i d O' e;split at k
  ·rename_i ds e2;split at k
   ·rename_i hz;exact ⟨d,O',ds,e,e2,hz,k⟩
   ·exact False.elim k
  ·exact False.elim k
 ·exact False.elim k
 ·exact False.elim k
theorem Qog (i:Nat) {x:Str}{p apos cpos pos:Pos}{e:Expr}{m:M D} (h:VE X md P e m) (hm:md[i]? = some .o:=by rfl) (hN:X.N[i]? = some x:=by rfl) (hv:Vis X.env.scope x:=by first | exact Or.inl rfl | exact Or.inr (Or.inl rfl) | exact Or.inr (Or.inr rfl))
  (hd:(x == ("__debug__":Str))=false:=by decide) (hcd:(x == ("__classdict__":Str))=false:=by decide)
  (hbase:attributeBase (.Name x p) "append" X.env (eval (.Name x p) X.env)=eval (.Name x p) X.env:=by rfl)
  (hfew:((backTo cpos (starEach [e] X.env)).all (fun x=>!x.1)&&(backToKw cpos (keywordEach [] X.env)).all (fun x=>x.1.isSome)&&decide ([e].length+([]:List Keyword).length+(if ([]:List Keyword).isEmpty then 0 else 1) < 30))=true:=by rfl)
  (hline:(apos.endLine == cpos.line)=true:=by rfl) (hs:starEach [e] X.env=(false,eval e X.env)::starEach [] X.env:=by exact Qbl rfl) (hplain:(backTo cpos (starEach [] X.env)).any (·.1)=false:=by exact Qbk rfl)
  (hsw:swapsWith (.Call (.Attribute (.Name x p) "append" apos) [e] [] cpos) none pos.line X.env=pure false:=by rfl) :
  VS X md P R (.Expr (.Call (.Attribute (.Name x p) "append" apos) [e] [] cpos) pos) (QgL i m) :=
 (Qfq (QfW PySem.F.plainAttrs_list PySem.F.slot_list_append PySem.F.type_list_append Qkd (QeQ (i:=i) hN hv hd hcd) (QbV h QcI hs) hbase hfew hline hs hplain) hsw).imp fun D σ H q=>by
  obtain ⟨ρ,O,F,as,r,s,k⟩:=q;obtain ⟨d,O',ds,e,e2,hz,k⟩:=Qob X.K X.mg k;obtain ⟨a,xs,h1,h2,h3,h4,h5,h6⟩:=s.own hm e2;refine ⟨_,h1,.inl ⟨rfl,xs,.inl (.inl h2)⟩,ρ,O,F,as,d,O',r,s,e,fun y H1 F1 as1 g1 r1 hy=>?_⟩;have s1:=s.step g1
  have hn:H a≠none:=by rw [h2]; exact fun z=>nomatch z
  have q2:=g1.fr _ _ h2 h4 rfl
  have q3:F1 a=none:=by rw [g1.fz a _ h2 h4 rfl]; exact h3
  have q4:=g1.out h4 hn
  have hn1:H1 a≠none:=by rw [q2]; exact fun z=>nomatch z
  exact ⟨a,xs,y,rfl,rfl,q2,by rw [h6.length]; exact zy hz (by decide),k σ _ F1 as1 (g1.toS.trans (Qoe q2 h5)) (r1.mut q3 q4) (s1.mut hm e2 h1 q3 q4 h5 ((h6.gr g1).snoc hy))⟩
def QtL (K:Frag):V→List V→Hp→VK→Prop:=fun x vs H Q=>∃l b xs zs,x = .ref l∧vs = [.ref b]∧H l=some (.lst xs)∧RdK K H b zs∧xs.length+zs.length≤sizeLine∧Q .non (upd H l (.lst (xs++zs)))
theorem Qmr:MtM X "list.extend" (QtL X.K):=by
 intro pins s σ H x vs v us Q I rx rv h;obtain ⟨l,b,xs,zs,rfl,rfl,hH,hB,hz,q⟩:=h;cases rx;obtain ⟨u,rfl,ru⟩:=rv.one;cases ru;obtain ⟨z,its,n,r,hl,e⟩:=I.lstM hH;obtain ⟨z2,its2,n2,r2,e2⟩:=hB.ok I;have hl2:=r2.length
 have hsz:its.toArray.size+its2.toArray.size≤sizeLine:=by rw [zl,zl]; omega
 have hlong:¬(!its.toArray.isEmpty&&Builtin.List.listTooLong (its.toArray.size+its2.toArray.size))=true:=by
  rw [Qg2 hsz,Bool.and_false];exact zj
 refine call_meets F.slot_list_extend ⟨_,e,rfl⟩ F.entry_list_extend (F.args_list_extend_2 _ _)
  (AutoSeq1.list_extend_list_list_0 l its.toArray n b its2.toArray n2 hlong (by rw [zl]; omega) (by omega)) ⟨e,e2,?_⟩
 refine ⟨.non,_,I.lset (its':=its++its2) hH e (by simp) (r.append r2) ?_,rfl,q⟩;rw [zw];omega
def Qfe (i:Nat) (m:M D):MS:=fun ρ O=>match m ρ O with
 | .ok d O'=>match ρ[i]?,QaK O' d with
  | some (some (.lst ds)),.lst es=>if ds.length+es.length≤1000000 then .nx (ρ.set i (some (.lst (ds++es)))) O' else .no
  | _,_=>.no
 | .ex x O'=>.ex x O'
 | .no=>.no
theorem QnK {i:Nat}{m:M D}{ρ:Qai}{O:Qaa} (K:Frag) (mg:Str→Option Value) {D:Ends}{H F:Hp}{as:List Addr} (k:Qdm K mg md P R D H F as (Qfe i m ρ O)) :
  ∃d O' ds es,m ρ O = .ok d O'∧ρ[i]? = some (some (.lst ds))∧QaK O' d = .lst es∧ds.length+es.length≤1000000∧Qdm K mg md P R D H F as (.nx (ρ.set i (some (.lst (ds++es)))) O'):=by
 unfold Qfe at k;split at k
 ·rename_i d O' e;split at k
  ·rename_i ds es e2 e3;split at k
   ·rename_i hz;exact ⟨d,O',ds,es,e,e2,e3,hz,k⟩
   ·exact False.elim k
  ·exact False.elim k
 ·exact False.elim k
 ·exact False.elim k
theorem QnZ (i:Nat) {x:Str}{p apos cpos pos:Pos}{e:Expr}{m:M D} (h:SE X md P e m) (hm:md[i]? = some .o:=by rfl) (hN:X.N[i]? = some x:=by rfl) (hv:Vis X.env.scope x:=by first | exact Or.inl rfl | exact Or.inr (Or.inl rfl) | exact Or.inr (Or.inr rfl))
  (hd:(x == ("__debug__":Str))=false:=by decide) (hcd:(x == ("__classdict__":Str))=false:=by decide)
  (hbase:attributeBase (.Name x p) "extend" X.env (eval (.Name x p) X.env)=eval (.Name x p) X.env:=by rfl)
  (hfew:((backTo cpos (starEach [e] X.env)).all (fun x=>!x.1)&&(backToKw cpos (keywordEach [] X.env)).all (fun x=>x.1.isSome)&&decide ([e].length+([]:List Keyword).length+(if ([]:List Keyword).isEmpty then 0 else 1) < 30))=true:=by rfl)
  (hline:(apos.endLine == cpos.line)=true:=by rfl) (hs:starEach [e] X.env=(false,eval e X.env)::starEach [] X.env:=by exact Qbl rfl) (hplain:(backTo cpos (starEach [] X.env)).any (·.1)=false:=by exact Qbk rfl)
  (hsw:swapsWith (.Call (.Attribute (.Name x p) "extend" apos) [e] [] cpos) none pos.line X.env=pure false:=by rfl) :
  VS X md P R (.Expr (.Call (.Attribute (.Name x p) "extend" apos) [e] [] cpos) pos) (Qfe i m) :=
 (Qfq (QfW PySem.F.plainAttrs_list PySem.F.slot_list_extend PySem.F.type_list_extend Qmr (QeQ (i:=i) hN hv hd hcd) (QbV h QcI hs) hbase hfew hline hs hplain) hsw).imp fun D σ H q=>by
  obtain ⟨ρ,O,F,as,r,s,k⟩:=q;obtain ⟨d,O',ds,es,e,e2,e3,hz,k⟩:=QnK X.K X.mg k;obtain ⟨a,xs,h1,h2,h3,h4,h5,h6⟩:=s.own hm e2;refine ⟨_,h1,.inl ⟨rfl,xs,.inl (.inl h2)⟩,ρ,O,F,as,d,O',r,s,e,fun y H1 F1 as1 g1 r1 hy=>?_⟩;have s1:=s.step g1
  have hn:H a≠none:=by rw [h2]; exact fun z=>nomatch z
  have q2:=g1.fr _ _ h2 h4 rfl
  have q3:F1 a=none:=by rw [g1.fz a _ h2 h4 rfl]; exact h3
  have q4:=g1.out h4 hn
  have hn1:H1 a≠none:=by rw [q2]; exact fun z=>nomatch z
  have ly:=Sv.lk hy r1;rw [e3] at ly;obtain ⟨b,zs,rfl,w1,w2⟩:=ly.list r1.fh;exact ⟨a,b,xs,zs,rfl,rfl,q2,w1,by rw [h6.length,w2.length]; exact Qdn hz,k σ _ F1 as1 (g1.toS.trans (Qoe q2 h5)) (r1.mut q3 q4) (s1.mut hm e2 h1 q3 q4 h5 (Rps.append w2 (h6.gr g1)))⟩
end
def putD (f:Str) (v:D):List (Str×D)→List (Str×D)
 | []=>[(f,v)]
 | (g,x)::r=>if g=f then (g,v)::r else (g,x)::putD f v r
section
variable {K:Frag}{F:Hp}{as:List Addr}
theorem FsR.cons_inv {gs:List (Str×V)}{f:Str}{d:D}{fs:List (Str×D)} (h:FsR K F as gs ((f,d)::fs)):∃v gs',gs=(f,v)::gs'∧Rp K F as v d∧FsR K F as gs' fs:=by
 obtain ⟨h1,h2⟩:=h
 cases gs with
 | nil=>cases h1
 | cons g gs' =>
  obtain ⟨g1,g2⟩:=g;simp only [zd,List.cons.injEq] at h1;obtain ⟨x,r,e,h3,h4⟩:=h2.un;simp only [zd,List.cons.injEq] at e;obtain ⟨rfl,rfl⟩:=e;exact ⟨g2,gs',by rw [h1.1],h3,⟨h1.2,h4⟩⟩
theorem FsR.nil_inv {gs:List (Str×V)} (h:FsR K F as gs []):gs = []:=List.map_eq_nil_iff.mp h.nm
theorem FsR.get:∀{fs:List (Str×D)}{gs:List (Str×V)}{f:Str}{d:D},FsR K F as gs fs→fs.lookup f=some d→∃v,gs.lookup f=some v∧Rp K F as v d
 | [],_,_,_,_,e=>by cases e
 | (g,x)::fs,gs,f,d,h,e=>by
  obtain ⟨v,gs',rfl,h1,h2⟩:=h.cons_inv;rw [List.lookup_cons] at e ⊢
  cases q:f == g with
  | true =>
   rw [q] at e;cases e;exact ⟨v,rfl,h1⟩
  | false =>
   rw [q] at e;exact FsR.get h2 e
theorem FsR.no:∀{fs:List (Str×D)}{gs:List (Str×V)}{f:Str},FsR K F as gs fs→fs.lookup f=none→gs.lookup f=none
 | [],_,_,h,e=>by rw [h.nil_inv]; rfl
 | (g,x)::fs,gs,f,h,e=>by
  obtain ⟨v,gs',rfl,h1,h2⟩:=h.cons_inv;rw [List.lookup_cons] at e ⊢
  cases q:f == g with
  | true=>rw [q] at e; cases e
  | false =>
   rw [q] at e;exact FsR.no h2 e
theorem FsR.put {f:Str}{v:V}{d:D} (hv:Rp K F as v d):∀{fs:List (Str×D)}{gs:List (Str×V)},FsR K F as gs fs→FsR K F as (QcU f v gs) (putD f d fs)
 | [],_,h=>by
  rw [h.nil_inv];exact ⟨rfl,Rps.cons hv Rps.nil⟩
 | (g,x)::fs,gs,h=>by
  obtain ⟨u,gs',rfl,h1,h2⟩:=h.cons_inv;rw [QcU,putD]
  by_cases q:g=f
  ·rw [if_pos q,if_pos q];exact ⟨by simp [h2.nm],Rps.cons hv h2.vl⟩
  ·rw [if_neg q,if_neg q];have ih:=FsR.put (f:=f) hv h2;exact ⟨by simp [ih.nm],Rps.cons h1 ih.vl⟩
theorem FsR.length {fs:List (Str×D)}{gs:List (Str×V)} (h:FsR K F as gs fs):gs.length=fs.length:=by
 have:=congrArg List.length h.nm
 simpa using this
theorem RlO.set {mg:Str→Option Value}{O:Qaa}{H:Hp}{n:Nat}{a:Addr}{o:Ob}{u:HO} (r:RlO K mg O H F as) (ha:as[n]? = some a) (ho:ObR K mg (upd H a u) F as a o):RlO K mg (O.set n o) (upd H a u) F as:=by
 have hF:=r.fa a (zI ha);refine ⟨fun c w e=>?_,r.fd,r.nd,by rw [zQ]; exact r.len,r.fa,fun k c w hc hw=>?_⟩
 ·rw [Qal (Qas e hF)]; exact r.fh c w e
 ·by_cases h:n=k
  ·subst h;rw [ha] at hc; cases hc;rw [zF (by rw [←r.len]; exact (zh.mp ha).1)] at hw;cases hw;exact ho
  ·rw [ze h] at hw
   refine (r.ob k c w hc hw).keep (Qal ?_) (Same.refl F) fun _ _ h=>h
   intro z;subst z;obtain ⟨l1,q1⟩:=zh.mp ha;obtain ⟨l2,q2⟩:=zh.mp hc;exact h ((List.getElem_inj r.nd).mp (q1.trans q2.symm))
end
def KC (K:Frag) (mg:Str→Option Value) (c f:Str):Prop:=∃C,mg c=some (.ref C)∧Cls K C∧QfE K C f
section
variable {X:Cx}{md:List Md}{P:Pt}{R:RR}
def QbA (cs:List Str) (f:Str) (m:M D):M D:=fun ρ O=>(m ρ O).bind fun d O1=>match d with
 | .ob n=>match O1[n]? with
  | some (.ins c fs)=>if c∈cs then match fs.lookup f with
   | some y=>.ok y O1
   | none=>.no else .no
  | _=>.no
 | _=>.no
theorem Qb0 {cs:List Str}{f:Str}{o:Expr}{pos:Pos}{m:M D} (hc:∀c∈cs,KC X.K X.mg c f) (h:VE X md P o m) (hb:attributeBase o f X.env (eval o X.env)=eval o X.env:=by rfl):VE X md P (.Attribute o f pos) (QbA cs f m):=(Qsy h hb).imp fun σ H Q q=>by
 obtain ⟨ρ,O,F,as,d,O',r,s,e,k⟩:=q;obtain ⟨x,O1,e1,e⟩:=Res.bind_ok e
 cases x with
 | ob n =>
  dsimp only at e;split at e
  ·rename_i c fs eo;split at e
   ·rename_i hcs;split at e
    ·rename_i y ey;cases e;refine ⟨ρ,_,F,as,_,_,r,s,e1,fun v H1 F1 as1 g1 r1 hv=>?_⟩;obtain ⟨a,rfl,ha⟩:=Rp.unO hv;obtain ⟨C,dx,gs,h1,h2,h3⟩:=r1.ob n a _ ha eo;obtain ⟨C',h4,h5,h6⟩:=hc c hcs;rw [h1] at h4; cases h4;obtain ⟨w,h7,h8⟩:=h3.get ey;exact ⟨a,C,dx,gs,w,rfl,h2,h5,h6,h7,k w H1 F1 as1 g1 r1 h8⟩
    ·cases e
   ·cases e
  ·cases e
 | _=>cases e
def QbH (cs:List Str) (f:Str) (mo mv:M D):MS:=fun ρ O=>match mv ρ O with
 | .ok d O1=>match mo ρ O1 with
  | .ok (.ob n) O2=>match O2[n]? with
   | some (.ins c fs)=>if c∈cs∧fs.length < 900 then .nx ρ (O2.set n (.ins c (putD f d fs))) else .no
   | _=>.no
  | _=>.no
 | .ex x O'=>.ex x O'
 | .no=>.no
theorem QbG {cs:List Str}{f:Str}{o value:Expr}{pos pos':Pos}{mo mv:M D} (hc:∀c∈cs,KC X.K X.mg c f) (ho:VE X md P o mo) (hv:VE X md P value mv) (hs:swapsWith value (some (.Attribute o f pos')) pos.line X.env=pure false:=by rfl):VS X md P R (.Assign [.Attribute o f pos'] value pos) (QbH cs f mo mv):=(QrU ho hv hs).imp fun D σ H q=>by
 obtain ⟨ρ,O,F,as,r,s,k⟩:=q;unfold QbH at k;split at k
 ·rename_i d O1 e1;split at k
  ·rename_i n O2 e2;split at k
   ·rename_i c fs eo;split at k
    ·rename_i hcs;refine ⟨ρ,O,F,as,d,O1,r,s,e1,fun y H1 F1 as1 g1 r1 hy=>?_⟩;refine ⟨ρ,O1,F1,as1,.ob n,O2,r1,s.step g1,e2,fun z H2 F2 as2 g2 r2 hz=>?_⟩;have g:=g1.trans g2;obtain ⟨a,rfl,ha⟩:=Rp.unO hz;obtain ⟨C,dx,gs,h1,h2,h3⟩:=r2.ob n a _ ha eo;obtain ⟨C',h4,h5,h6⟩:=hc c hcs.1;rw [h1] at h4; cases h4;have hmem:=zI ha
     have hn:H2 a≠none:=by rw [h2]; exact fun z=>nomatch z
     have gg:Gr H2 F2 as2 (upd H2 a (.ins C dx (QcU f y gs))) F2 as2:=⟨fun _ _ _ _ _=>rfl,Same.refl _,⟨[],by simp,fun _ h=>nomatch h⟩,fun b u e hb _=>by rw [Qal (fun z=>hb (by rw [z]; exact hmem))]; exact e,fun b e=>by
      by_cases h:b=a
      ·subst h; rw [QaL] at e; cases e
      ·rwa [Qal h] at e,fun b o' u e=>by rw [Qal (fun z=>by rw [z,h2] at e; cases e)]; exact e⟩
     refine ⟨a,C,dx,gs,rfl,h2,h5,h6,by rw [h3.length]; omega,?_⟩;exact k σ _ F2 as2 (g.trans gg).toS (r2.set ha ⟨C,dx,_,h1,QaL,h3.put (Rp.gr hy g2)⟩) ((s.step g).step gg)
    ·exact False.elim k
   ·exact False.elim k
  ·exact False.elim k
 ·exact False.elim k
 ·exact False.elim k
end
section
variable {Pr:Program}{w:World}{K:Frag}{mg:Str→Option Value}{base:Heap}
theorem Qte {x qual:Str}{st:Stmt}{f:Addr}{fd:FuncData}{N ps:List Str}{k:Nat} (Fn:Fun K x qual st f fd) (S:Qay N ps (Qaj st))
  (pm lm:List Md) {R:RR}{b:MS} (hR:Qew R) (hR0:∀N H F as,R N H F as .non .non) (hpl:pm.length=ps.length) (hl:(pm++lm).length=N.length) (hp:∀m∈pm,m≠.o)
  (body:∀(cdv:Value) (A:Around) (outer:List Env) (s:Shared) (H:Hp) (E:XK),QaJ k (A.deeper (envOfC qual (Qaj st) s.heap.objs.size f cdv))→∀P,VSs ((Qdv CX0 Pr w K mg base N qual (Qaj st) f cdv A outer s H E).nox) (pm++lm) P R (Qa4 st) b) :
  Qbp Pr w K mg base CX0 (k+1) f fd ps (vSp K mg pm R (Qa6 N.length b)):=by
 refine Fn.ok S (fun vs H Q E h=>?_) (fun cdv A outer s H vs Q E hr h=>?_)
 ·obtain ⟨ds,O,F,as,d,O',r,a,_⟩:=h;rw [a.len.1,hpl]
 ·obtain ⟨ds,O,F,as,d,O',r,a,e,q⟩:=h;refine ⟨_,body cdv A outer s H E hr (Pt.all H),?_⟩;refine ⟨_,O,F,as,r,Qf2 a hl hp,?_⟩;unfold Qa6 at e
  cases eb:b (ds.map some++List.replicate (N.length - ds.length) none) O with
  | rt d' O2 =>
   rw [eb] at e;cases e
   exact fun v H' F' as' g r' hv=>q v H' F' as' g.gr r' (hR _ _ _ _ _ _ _ (fun c hc=>Classical.not_not.mp hc) hv)
  | nx ρ O2 =>
   rw [eb] at e;cases e
   exact fun σ' H' F' as' g r' _=>q _ H' F' as' g.gr r' (hR0 _ _ _ _)
  | bk _ _=>rw [eb] at e; cases e
  | ct _ _=>rw [eb] at e; cases e
  | ex _ _=>rw [eb] at e; cases e
  | no=>rw [eb] at e; cases e
def QfF (K:Frag) (mg:Str→Option Value) (c m qual:Str) (st:Stmt):Prop:=∃C f fd,mg c=some (.ref C)∧Cls K C∧QiI K C m f∧Fun K m qual st f fd
def Qdb (P:Program) (w:World) (K:Frag) (mg:Str→Option Value) (base:Heap) (c m:Str) (ps:List Str) (k:Nat) (sp:Sp):Prop :=
 ∃C f fd,mg c=some (.ref C)∧Cls K C∧QiI K C m f∧Binds K fd ps []∧Qbp P w K mg base CX0 k f fd ps sp
def QjN (P:Program) (w:World) (K:Frag) (mg:Str→Option Value) (base:Heap) (c:Str) (ps:List Str) (k:Nat) (sp:Sp):Prop :=
 ∃C f fd,mg c=some (.ref C)∧Mk K C f∧Binds K fd ps []∧Qbp P w K mg base CX0 k f fd ps sp
def QmQ (K:Frag) (mg:Str→Option Value) (c qual:Str) (st:Stmt):Prop:=∃C f fd,mg c=some (.ref C)∧Mk K C f∧Fun K "__init__" qual st f fd
theorem Qfj {c x qual:Str}{st:Stmt}{N ps:List Str}{k:Nat} (Df:QfF K mg c x qual st) (S:Qay N ps (Qaj st))
  (hb:∀(kV doc pm:Value) (an:Option Addr) (cdv ct:Value) (us:List Value),us.length=ps.length→bindArgs (PySem.W.fnOf x qual (QbW st) (Qa4 st) (Qaj st) .none kV doc pm an cdv ct) ⟨us,[]⟩=pure (ps.zip us))
  (pm lm:List Md) {R:RR}{b:MS} (hR:Qew R) (hR0:∀N H F as,R N H F as .non .non) (hpl:pm.length=ps.length:=by rfl) (hl:(pm++lm).length=N.length:=by rfl) (hp:∀m∈pm,m≠.o:=by decide)
  (body:∀(f:Addr) (cdv:Value) (A:Around) (outer:List Env) (s:Shared) (H:Hp) (E:XK),QaJ k (A.deeper (envOfC qual (Qaj st) s.heap.objs.size f cdv))→∀P,VSs ((Qdv CX0 Pr w K mg base N qual (Qaj st) f cdv A outer s H E).nox) (pm++lm) P R (Qa4 st) b) :
  Qdb Pr w K mg base c x ps (k+1) (vSp K mg pm R (Qa6 N.length b)):=by
 obtain ⟨C,f,fd,h1,h2,h3,h4⟩:=Df;exact ⟨C,f,fd,h1,h2,h3,h4.binds hb,Qte h4 S pm lm hR hR0 hpl hl hp (body f)⟩
theorem QpZ {c qual:Str}{st:Stmt}{N ps:List Str}{k:Nat} (Df:QmQ K mg c qual st) (S:Qay N ps (Qaj st))
  (hb:∀(kV doc pm:Value) (an:Option Addr) (cdv ct:Value) (us:List Value),us.length=ps.length→bindArgs (PySem.W.fnOf "__init__" qual (QbW st) (Qa4 st) (Qaj st) .none kV doc pm an cdv ct) ⟨us,[]⟩=pure (ps.zip us))
  (pm lm:List Md) {R:RR}{b:MS} (hR:Qew R) (hR0:∀N H F as,R N H F as .non .non) (hpl:pm.length=ps.length:=by rfl) (hl:(pm++lm).length=N.length:=by rfl) (hp:∀m∈pm,m≠.o:=by decide)
  (body:∀(f:Addr) (cdv:Value) (A:Around) (outer:List Env) (s:Shared) (H:Hp) (E:XK),QaJ k (A.deeper (envOfC qual (Qaj st) s.heap.objs.size f cdv))→∀P,VSs ((Qdv CX0 Pr w K mg base N qual (Qaj st) f cdv A outer s H E).nox) (pm++lm) P R (Qa4 st) b) :
  QjN Pr w K mg base c ps (k+1) (vSp K mg pm R (Qa6 N.length b)):=by
 obtain ⟨C,f,fd,h1,h2,h4⟩:=Df;exact ⟨C,f,fd,h1,h2,h4.binds hb,Qte h4 S pm lm hR hR0 hpl hl hp (body f)⟩
end
section
variable {X:Cx}{md:List Md}{P:Pt}{R:RR}{k:Nat}{c m:Str}{ps:List Str}{p pos apos:Pos}{o e:Expr}{es:List Expr}{pm:List Md}{cf:List D→Qaa→Res D}{mo:M D}{ma:M (List D)}
def Qbi (c m:Str) (cf:List D→Qaa→Res D) (mo:M D) (ma:M (List D)):M D:=fun ρ O=>(mo ρ O).bind fun d O1=>match d with
 | .ob n=>match O1[n]? with
  | some (.ins c' fs)=>if c'=c∧(fs.lookup m).isNone=true then (ma ρ O1).bind fun ds O2=>cf (.ob n::ds) O2 else .no
  | _=>.no
 | _=>.no
theorem Qmd {K:Frag}{mg:Str→Option Value}{C:Addr} (hR:Qew R) (hC:mg c=some (.ref C)) {E:XK}{σ:St}{H:Hp}{Q:VK} (q:tM K mg md P R (Qbi c m cf mo ma) σ H Q) :
  QmG C m (vSp K mg (.v::pm) R cf) [] E (tM K mg md P (rV K) mo) (tMA K mg md P pm ma) σ H Q:=by
 obtain ⟨ρ,O,F,as,d,O',r,s,e,k⟩:=q;obtain ⟨x,O1,e1,e⟩:=Res.bind_ok e
 cases x with
 | ob n =>
  dsimp only at e;split at e
  ·rename_i c' fs eo;split at e
   ·rename_i hc;obtain ⟨ds,O2,e2,e⟩:=Res.bind_ok e;refine ⟨ρ,O,F,as,.ob n,O1,r,s,e1,fun v H1 F1 as1 g1 r1 hv=>?_⟩;obtain ⟨a,rfl,ha⟩:=Rp.unO hv;obtain ⟨C',dx,gs,h1,h2,h3⟩:=r1.ob n a _ ha eo;rw [hc.1,hC] at h1; cases h1;refine ⟨a,dx,gs,rfl,h2,h3.no (Option.isNone_iff_eq_none.mp hc.2),?_⟩;refine ⟨ρ,O1,F1,as1,ds,O2,r1,s.step g1,e2,fun vs H2 F2 as2 g2 r2 hvs=>?_⟩;dsimp only;rw [zR];exact ⟨.ob n::ds,O2,F2,as2,d,O',r2,⟨Rp.gr hv g2,hvs⟩,e,fun v' H' F' as' g' r' hw=>k v' H' F' as' ((g1.trans g2).trans g') r' (hR _ _ _ _ _ _ _ (fun b hb=>(g1.trans g2).dm b hb) hw)⟩
   ·cases e
  ·cases e
 | _=>cases e
theorem Qrs {pl:Sem Bool} (hR:Qew R) (M:Qdb X.prog X.w X.K X.mg X.base c m ps k (vSp X.K X.mg (.v::pm) R cf)) (hr:QaJ k X.A) (ho:VE X md P o mo) (ha:AE X md P pm (e::es) ma)
  (hst:starEach (e::es) X.env=(false,eval e X.env)::starEach es X.env:=by exact Qbl rfl) (hpl:(backTo pos (starEach es X.env)).any (·.1)=false:=by exact Qbk rfl)
  (ht:eval (.Call (.Attribute o m apos) (e::es) [] pos) X.env=(do
   let ov ←eval o X.env
   standAt apos.atName
   let (f,first) ←holding [ov] (getMethod ov m pl)
   callWith pos f first (backTo pos (starEach (e::es) X.env)) (backToKw pos (keywordEach [] X.env))):=by rfl) :
  PE X (.Call (.Attribute o m apos) (e::es) [] pos) (tM X.K X.mg md P R (Qbi c m cf mo ma)):=by
 obtain ⟨C,f,fd,h1,h2,h3,h4,h5⟩:=M
 exact (Qqh (pl:=pl) (E:=E0) (ds:=[]) (dvs:=[]) ho h2 h3 h5 hr h4 .nil Qid ha hst hpl ht).imp fun _ _ _ q=>Qmd hR h1 q
theorem Qk9 {pl:Sem Bool} (hR:Qew R) (M:Qdb X.prog X.w X.K X.mg X.base c m ps k (vSp X.K X.mg [.v] R cf)) (hr:QaJ k X.A) (ho:VE X md P o mo)
  (ht:eval (.Call (.Attribute o m apos) [] [] pos) X.env=(do
   let ov ←eval o X.env
   standAt apos.atName
   let (f,first) ←holding [ov] (getMethod ov m pl)
   callWith pos f first (backTo pos (starEach [] X.env)) (backToKw pos (keywordEach [] X.env))):=by rfl) :
  PE X (.Call (.Attribute o m apos) [] [] pos) (tM X.K X.mg md P R (Qbi c m cf mo Qae)):=by
 obtain ⟨C,f,fd,h1,h2,h3,h4,h5⟩:=M
 refine (QpB (pl:=pl) (E:=E0) (ds:=[]) (dvs:=[]) ho h2 h3 h5 hr h4 .nil Qid ht).imp fun σ H Q q=>?_
 obtain ⟨ρ,O,F,as,d,O',r,s,e,k⟩:=Qmd (pm:=[]) (E:=E0) hR h1 q;refine ⟨ρ,O,F,as,d,O',r,s,e,fun v H' F' as' g r' hv=>?_⟩;obtain ⟨a,dx,fs,e1,e2,e3,t⟩:=k v H' F' as' g r' hv;refine ⟨a,dx,fs,e1,e2,e3,?_⟩;obtain ⟨ρ1,O1,F1,as1,ds1,O2,r1,s1,e4,k4⟩:=t;cases e4;exact k4 [] H' F1 as1 Gr.refl r1 trivial
def Qfn (c:Str) (cf:List D→Qaa→Res D) (ma:M (List D)):M D:=fun ρ O=>(ma ρ O).bind fun ds O1=>match cf (.ob O1.length::ds) (O1 ++ [.ins c []]) with
 | .ok .non O2=>.ok (.ob O1.length) O2
 | .ok _ _=>.no
 | .ex x O2=>.ex x O2
 | .no=>.no
theorem QmA {K:Frag}{mg:Str→Option Value}{C:Addr} (hC:mg c=some (.ref C)) {E:XK}{σ:St}{H:Hp}{Q:VK} (q:tM K mg md P (rV K) (Qfn c cf ma) σ H Q) :
  Qnu C (vSp K mg (.v::pm) (rV K) cf) [] E (tMA K mg md P pm ma) σ H Q:=by
 obtain ⟨ρ,O,F,as,d,O',r,s,e,k⟩:=q;obtain ⟨ds,O1,e1,e⟩:=Res.bind_ok e;split at e
 ·rename_i O2 ec;cases e;refine ⟨ρ,O,F,as,ds,O1,r,s,e1,fun vs H1 F1 as1 g1 r1 hvs=>?_⟩;intro x dx hx hdx hne;rw [zR]
  have hx2:upd H1 dx (.own x) x=none:=by rw [Qal hne.symm]; exact hx
  have gA:Gr H1 F1 as1 (upd H1 dx (.own x)) F1 as1:=Gr.lay hdx;have gB:Gr (upd H1 dx (.own x)) F1 as1 (upd (upd H1 dx (.own x)) x (.ins C dx [])) F1 as1:=Gr.lay hx2;have gC:Gr (upd (upd H1 dx (.own x)) x (.ins C dx [])) F1 as1 (upd (upd H1 dx (.own x)) x (.ins C dx [])) F1 as1:=Gr.refl;have gAB:=gA.trans gB;have g2:Gr H1 F1 as1 (upd (upd H1 dx (.own x)) x (.ins C dx [])) F1 (as1 ++ [x]):=⟨gAB.fz,gAB.ff,⟨[x],rfl,fun a ha=>by rw [zo.mp ha]; exact hx⟩,fun a o e ha hd=>gAB.fr a o e ha hd,gAB.dm,gAB.kz⟩
  have nx:x∉as1:=fun z=>r1.all z hx
  have rB:=(r1.lay (o:=.own x) hdx).lay (o:=.ins C dx []) hx2
  have at_:∀(n:Nat) (a:Addr),as1[n]? = some a→(as1 ++ [x])[n]? = some a:=fun n a h=>by
   rw [zr (zh.mp h).1]; exact h
  have r2:RlO K mg (O1 ++ [.ins c []]) (upd (upd H1 dx (.own x)) x (.ins C dx [])) F1 (as1 ++ [x]):=by
   refine ⟨rB.fh,rB.fd,?_,by simp [r1.len],fun a ha=>?_,fun n a o ha ho=>?_⟩
   ·rw [jh];refine ⟨r1.nd,by simp,fun a ha b hb=>?_⟩;rw [zo.mp hb];intro z;subst z;exact nx ha
   ·rcases zA.mp ha with z | z
    ·exact r1.fa a z
    ·rw [zo.mp z];exact r1.frF hx
   ·by_cases hn:n < O1.length
    ·rw [zr (by rw [r1.len]; exact hn)] at ha;rw [zr hn] at ho;exact (rB.ob n a o ha ho).keep rfl (Same.refl _) at_
    ·have hn':n=O1.length:=by
      have:=(zh.mp ho).1
      simp at this
      omega
     subst hn';rw [zv (zc _),Nat.sub_self] at ho;rw [←r1.len,zv (zc _),Nat.sub_self] at ha;cases ho;cases ha;exact ⟨C,dx,[],hC,QaL,⟨rfl,Rps.nil⟩⟩
  have hox:Rp K F1 (as1 ++ [x]) (.ref x) (.ob O1.length):=Rp.mkO (by rw [←r1.len,zv (zc _),Nat.sub_self]; rfl);refine ⟨.ob O1.length::ds,_,F1,as1 ++ [x],.non,_,r2,⟨hox,hvs.gr g2⟩,ec,fun v H3 F3 as3 g3 r3 hv=>?_⟩;exact ⟨Rp.unN hv,k _ H3 F3 as3 ((g1.trans g2).trans g3) r3 (Rp.gr hox g3)⟩
 ·cases e
 ·cases e
 ·cases e
theorem QqK (M:QjN X.prog X.w X.K X.mg X.base c ps k (vSp X.K X.mg (.v::pm) (rV X.K) cf)) (hr:QaJ (k+1) X.A) (ha:AE X md P pm (e::es) ma) (hg:Gl X c:=by rfl) (hdb:(c == ("__debug__":Str))=false:=by decide)
  (he:starEach (e::es) X.env=(false,eval e X.env)::starEach es X.env:=by exact Qbl rfl) (hpl:(backTo pos (starEach es X.env)).any (·.1)=false:=by exact Qbk rfl):VE X md P (.Call (.Name c p) (e::es) [] pos) (Qfn c cf ma):=by
 obtain ⟨C,f,fd,h1,h3,h4,h5⟩:=M
 exact (QqI (E:=E0) (ds:=[]) (dvs:=[]) h3 h5 hr hg h1 h4 .nil Qid ha hdb he hpl).imp fun _ _ _ q=>QmA h1 q
theorem Qo9 (M:QjN X.prog X.w X.K X.mg X.base c ps k (vSp X.K X.mg [.v] (rV X.K) cf)) (hr:QaJ (k+1) X.A) (hg:Gl X c:=by rfl) (hdb:(c == ("__debug__":Str))=false:=by decide):VE X md P (.Call (.Name c p) [] [] pos) (Qfn c cf Qae):=by
 obtain ⟨C,f,fd,h1,h3,h4,h5⟩:=M
 refine (Qo4 (E:=E0) (ds:=[]) (dvs:=[]) h3 h5 hr hg h1 h4 .nil Qid hdb).imp fun σ H Q q=>?_
 obtain ⟨ρ,O,F,as,ds,O1,r,s,e,k⟩:=QmA (pm:=[]) (E:=E0) h1 q;cases e;exact k [] H F as Gr.refl r trivial
end
section
variable {X:Cx}{md:List Md}{P:Pt}{R:RR}
def QgZ:D→Option (List D)
 | .lst ds=>some ds
 | .tup ds=>some ds
 | .str l=>if ascii l=true then some (Qa5 l) else none
 | _=>none
def Qc9 (m:M D):M (List D):=fun ρ O=>(m ρ O).bind fun d O1=>match QgZ d with
 | some ds=>.ok ds O1
 | none=>.no
theorem Qm2 {e:Expr}{m:M D} (h:WE X md P e m):SE X md P e m:=h.imp fun σ H Q q=>by
 obtain ⟨ρ,O,F,as,d,O',r,s,e,k⟩:=q;refine ⟨ρ,O,F,as,d,O',r,s,e,fun v H' F' as' g r' hv=>k v H' F' as' g r' ?_⟩
 rcases hv with hv | ⟨a,xs,ds,e1,e2,e3,e4,e5,e6⟩
 ·exact .inl hv
 ·exact .inr ⟨a,xs,ds,e1,e2,e3,e4,e6⟩
theorem Qi5 {tg e:Expr}{m:M D} (h:WE X md P e m):VI X md P tg e (Qc9 m):=fun pins s σ H Q I q=>by
 obtain ⟨ρ,O,F,as,ds,O',r,sl,e,k⟩:=q;obtain ⟨d,O1,e1,e⟩:=Res.bind_ok e
 cases d with
 | lst es =>
  cases e;exact Qmb h pins s σ H Q I ⟨ρ,O,F,as,_,_,r,sl,by unfold Qh6; rw [e1]; rfl,k⟩
 | tup es =>
  cases e;exact Qn5 (Qcn (Qm2 h)) pins s σ H Q I ⟨ρ,O,F,as,_,_,r,sl,by unfold Qng mG; rw [e1]; rfl,k⟩
 | str l =>
  simp only [QgZ] at e;split at e
  ·rename_i es hes;split at hes
   ·rename_i hl;cases hes;cases e;refine Qoq (Qm2 h) pins s σ H Q I ⟨ρ,O,F,as,Qa5 l,_,r,sl,?_,k⟩;unfold Qnc;rw [e1];show (if ascii l=true then _ else _)=_;rw [if_pos hl]
   ·cases hes
  ·cases e
 | _=>cases e
theorem QoS {tg e:Expr}{m:M D} (h:SE X md P e m):VIc X md P tg e (Qh6 m):=(Qjt h).imp fun σ H Q q=>by
 obtain ⟨ρ,O,F,as,ds,O',r,s,e,k⟩:=q;obtain ⟨d,O1,e1,e⟩:=Res.bind_ok e
 cases d with
 | lst es =>
  cases e;refine ⟨ρ,_,F,as,_,_,r,s,e1,fun v H1 F1 as1 g1 r1 hv=>?_⟩
  obtain ⟨a,xs,rfl,h1,h2⟩:∃a xs,v = .ref a∧Rps X.K F1 as1 xs ds∧∀(H2 F2:Hp) (as2:List Addr),Gr H1 F1 as1 H2 F2 as2→(∃O,RlO X.K X.mg O H2 F2 as2)→RdK X.K H2 a xs:=by
   rcases hv with hv | ⟨a,xs,ds',rfl,e,e3,e4,e6⟩
   ·obtain ⟨a,xs,rfl,h1,h2⟩:=hv.unL;exact ⟨a,xs,rfl,h2,fun H2 F2 as2 g ⟨O,r⟩=>(h1.mono g.ff).mono r.fh⟩
   ·cases e;exact ⟨a,xs,rfl,e6,fun H2 F2 as2 g _=>.inl (.inl (g.fr _ _ e3 e4 rfl))⟩
  refine ⟨a,rfl,⟨xs,(h2 H1 F1 as1 Gr.refl ⟨_,r1⟩).sq⟩,k _ H1 F1 as1 g1 r1 ⟨fun i d H2 F2 as2 g r e=>?_,fun H2 F2 as2 g r=>⟨xs,(h2 H2 F2 as2 g r).sq,by rw [h1.length]; exact zc _⟩⟩⟩;obtain ⟨x,h3,h4⟩:=h1.get' e;have q:=h2 H2 F2 as2 g r;refine ⟨⟨xs,x,q.sq,h3⟩,fun y H3 hy=>?_⟩;obtain ⟨rfl,hy⟩:=hy
  have:=hy xs q.sq
  rw [h3] at this;cases this;exact ⟨F2,Gr.refl,fun _ r=>r,h4.gr g⟩
 | _=>cases e
theorem Qqg {tg e:Expr}{m:M D} (h:SE X md P e m):VIc X md P tg e (Qc9 m):=fun pins s σ H Q I q=>by
 obtain ⟨ρ,O,F,as,ds,O',r,sl,e,k⟩:=q;obtain ⟨d,O1,e1,e⟩:=Res.bind_ok e
 cases d with
 | lst es =>
  cases e;exact QoS h pins s σ H Q I ⟨ρ,O,F,as,_,_,r,sl,by unfold Qh6; rw [e1]; rfl,k⟩
 | tup es =>
  cases e;exact QhX (Qn5 (Qcn h)) pins s σ H Q I ⟨ρ,O,F,as,_,_,r,sl,by unfold Qng mG; rw [e1]; rfl,k⟩
 | str l =>
  simp only [QgZ] at e;split at e
  ·rename_i es hes;split at hes
   ·rename_i hl;cases hes;cases e;refine QhX (Qoq h) pins s σ H Q I ⟨ρ,O,F,as,Qa5 l,_,r,sl,?_,k⟩;unfold Qnc;rw [e1];show (if ascii l=true then _ else _)=_;rw [if_pos hl]
   ·cases hes
  ·cases e
 | _=>cases e
def Qku (m:M D):M (List D):=fun ρ O=>(m ρ O).bind fun d O1=>match d with
 | .lst ds=>.ok (QbZ 0 ds) O1
 | .str l=>if ascii l=true then .ok (QbZ 0 (Qa5 l)) O1 else .no
 | _=>.no
variable {elts:List Expr}{x1:Nat}{tpos:Pos}
theorem Ql9 {a:Expr}{p pos:Pos}{m:M D} (hm:X.mg "enumerate" = none) (h:WE X md P a m) (hg:Gl X "enumerate":=by rfl) (hs:starEach [a] X.env = [(false,eval a X.env)]:=by exact Qik rfl) (hs':starEach [a] X.env=(false,eval a X.env)::starEach [] X.env:=by exact Qbl rfl) :
  VI X md P (.Tuple elts x1 tpos) (.Call (.Name "enumerate" p) [a] [] pos) (Qku m):=fun pins s σ H Q I q=>by
 obtain ⟨ρ,O,F,as,ds,O',r,sl,e,k⟩:=q;obtain ⟨d,O1,e1,e⟩:=Res.bind_ok e
 cases d with
 | lst es =>
  cases e;exact QoV hm h hg hs hs' pins s σ H Q I ⟨ρ,O,F,as,_,_,r,sl,by unfold Qn4; rw [e1]; rfl,k⟩
 | str l=>exact Qo0 hm (Qm2 h) hg hs hs' pins s σ H Q I ⟨ρ,O,F,as,ds,O',r,sl,by unfold Qoo; rw [e1]; exact e,k⟩
 | _=>cases e
def Pt.with (P:Pt) (a:Addr) (i:Nat) (d:D) (l:List (Nat×V×D)):Pt:=⟨fun c=>P c∨c=a,(i,.ref a,d)::(l++P.ss)⟩
end
theorem QoD {P:Program}{w:World}{K:PySem.W.Frag}{mg mb:Str→Option Value}{CX:CXT}{k:Nat}{fa a:Addr}{fd:FuncData}{x:Str}{sp:Sp}{s₁:Shared}{vs:List Value}{ns:List Int}
  (KX:K.In s₁.heap) (hns:s₁.heap.Ns mainGlobals mg) (hb:s₁.heap.Ns builtinsNs mb) (hbb:∀x:Str,x≠"__name__"→mb x=bootBuiltins x) (hlim:s₁.heap.NoLimit) (hg:s₁.gens = #[])
  (ha:s₁.heap.get? a=some { cls:=.type "list",data:=.seq vs.toArray }) (hi:IntsAre vs ns) (hl:ns.length≤sizeLine) (hr:QaJ k callerA)
  (F:∀base:Heap,K.In base→base.Ns mainGlobals mg→Qbp P w K mg base CX k fa fd [x] sp) (hbind:∀(s:Shared) (u:Value),BindsTo s fd ⟨[u],[]⟩ [(x,u)])
  (hsp:∀H:Hp,QiF H→RdK K H a (ns.map V.int)→sp [.ref a] H (fun v _=>v = .bl true) fun _ _ _=>False)
  (hCX:∀H e s',CX [] H s₁ (fun _ _ _=>False) e s'→False) :
  codeAny (model P w) callerA (.call (.ref fa) ⟨[.ref a],[]⟩) (fun r s'=>r = .ok (.ret (.bool true))∧OldK s₁.heap s'.heap∧s'.os=s₁.os∧AllBare s'.gens) s₁:=by
 have rv:=Qhu hi;have lenV:=hi.length;have core:∀H:Hp,QiF H→RdK K H a (ns.map V.int)→HOk P w H s₁.heap→(∀b,H b≠none→b=a)→(H a≠none→K.lookup a=none) →
   codeAny (model P w) callerA (.call (.ref fa) ⟨[.ref a],[]⟩) (fun r s'=>r = .ok (.ret (.bool true))∧OldK s₁.heap s'.heap∧s'.os=s₁.os∧AllBare s'.gens) s₁:=by
  intro H hO hS hok hA hK
  have base_of:∀{b:Addr}{o:Obj},s₁.heap.get? b=some o→H b=none→(Qem s₁.heap H).get? b=some o:=fun e n=>QlP e n
  have noA:∀{b:Addr}{o:Obj}{es:Array DictEntry}{ep:Nat},s₁.heap.get? b=some o→o.data = .dict es ep→H b=none:=fun {b o es ep} e d=>by
   cases q:H b with
   | none=>rfl
   | some u =>
    have e':b=a:=hA b (by rw [q]; simp);subst e';rw [ha] at e; cases e;have d':Data.seq vs.toArray _=Data.dict es ep:=d;cases d'
  have nsK:∀{b:Addr}{m:Str→Option Value},s₁.heap.Ns b m→(Qem s₁.heap H).Ns b m:=fun {b m} ⟨o,es,ep,e,d,r⟩=>⟨o,es,ep,base_of e (noA e d),d,r⟩
  have hKb:K.In (Qem s₁.heap H):=fun b o e=>base_of (KX b o e) (by
   cases q:H b with
   | none=>rfl
   | some u =>
    have e':b=a:=hA b (by rw [q]; simp);subst e'
    rw [hK (by rw [q]; simp)] at e; cases e)
  have hM:Mod K mg (Qem s₁.heap H):=⟨hKb,nsK hns,⟨mb,nsK hb,hbb⟩,let ⟨mc,h1,h2⟩:=hlim; ⟨mc,nsK h1,h2⟩⟩;have e0:Qev P w K mg (Qem s₁.heap H) callerA [] s₁ H:=⟨rfl,hM,fun b o e=>Ql3 e,Nat.le_of_eq (Qkh _ _),trivial,fun b hb=>absurd (show b∈([]:List Addr) from hb) (by simp),hok,.of_eq hg⟩
  refine codeAny_mono ((F _ hKb (nsK hns)).run callerA [] s₁ H ⟨[.ref a],[]⟩ [.ref a] [.ref a] _ _ hr e0 (hbind s₁ (.ref a)) (.cons rfl .nil) (hsp H hO hS)) fun r s' h=>?_
  cases r with
  | error e=>exact (hCX H e s' h).elim
  | ok fl =>
   cases fl with
   | next=>exact False.elim h
   | brk=>exact False.elim h
   | cont=>exact False.elim h
   | ret u =>
    obtain ⟨v,H',os,bare,un,hok',r',q⟩:=h;have q':v = .bl true:=q;subst q';obtain rfl:u=Value.bool true:=r';refine ⟨rfl,OldK.of_keep fun b o e=>?_,os,bare⟩
    cases q:H b with
    | none=>exact un.keep b o e q (by intro z; exact absurd (show b∈([]:List Addr) from z) (by simp)) (by simp)
    | some u =>
     rcases hO b with z | ⟨ob,xs,z⟩
     ·rw [q] at z; cases z
     ·have z2:=un.frzs b ob _ z;obtain ⟨e1,_⟩:=hok b _ z;obtain ⟨e2,_⟩:=hok' b _ z2;rw [e] at e1; cases e1;exact e2
 cases hk:K.lookup a with
 | some o =>
  have e:=KX a o hk;rw [ha] at e;cases e
  refine core (fun _=>none) (fun _=>.inl rfl) (.inr ⟨vs,_,hk,by rw [lenV]; exact hl,rv⟩) (fun b u z=>by have z':(none:Option HO)=some u:=z; cases z') (fun b z=>absurd rfl z) fun z=>absurd rfl z
 | none =>
  refine core (fun b=>if b=a then some (.frz { cls:=.type "list",data:=.seq vs.toArray } (.lst (ns.map V.int))) else none) (fun b=>?_) (.inl (.inr ⟨{ cls:=.type "list",data:=.seq vs.toArray },if_pos rfl⟩)) (fun b u z=>?_) (fun b z=>?_) fun _=>hk
  ·by_cases hb:b=a
   ·exact .inr ⟨_,_,if_pos hb⟩
   ·exact .inl (if_neg hb)
  ·by_cases hb:b=a
   ·have z':=(if_pos hb).symm.trans z;cases z';subst hb;exact ⟨ha,by rw [zB]; exact hl,vs,_,rv,ha⟩
   ·have z':=(if_neg hb).symm.trans z;cases z'
  ·by_cases hb:b=a
   ·exact hb
   ·exact absurd (if_neg hb) z
theorem walk_ofR {l:PySem.W.OpenLaw}{n k:Nat}{q:Program}{loose:List Str}{XP:(Str→Option Value)→Heap→Prop}{YP:World→Heap→Prop}{d:DefRec}{K:Params→PySem.W.Frag}{CX:World→CXT}{sp:World→Sp}{x:Str}
  (hn:l.most=some n) (hn2:n≤sizeLine) (hdf:d.params.defaults = []) (hr:QaJ k callerA)
  (hY:∀(w:World) (h:Heap),YP w h→(K w.params).In h)
  (F:∀(w:World) (mg:Str→Option Value) (fa:Addr) (h:Heap),(K w.params).In h→h.Ns mainGlobals mg→mg d.name=some (.ref fa) →
   ∃fd:FuncData,(∀(s:Shared) (u:Value),BindsTo s fd ⟨[u],[]⟩ [(x,u)]) ∧
    ∀base:Heap,(K w.params).In base→base.Ns mainGlobals mg→Qbp l.prog w (K w.params) mg base (CX w) k fa fd [x] (sp w))
  (hsp:∀(w:World) (H:Hp) (a:Addr) (ns:List Int),ns.length≤n→QiF H→RdK (K w.params) H a (ns.map V.int)→sp w [.ref a] H (fun v _=>v = .bl true) fun _ _ _=>False)
  (hCX:∀(w:World) (H:Hp) (s:Shared) (e:Value) (s':Shared),CX w [] H s (fun _ _ _=>False) e s'→False) :
  PySem.W.WalkO q loose XP YP l.row.toRowW d [] (fun f vs=>PySem.call f vs):=by
 refine Att.attach_call hn hdf fun w s₀ s₁ mg mb fa o pm cd doc a vs ns G Y ho hd hcd hmg hobj hints hlen hg=>?_
 have KX:=hY w _ Y;obtain ⟨fd,hb,hF⟩:=F w mg fa _ KX G.T.g hmg
 exact QoD KX G.T.g G.T.b G.T.builtins G.T.nolimit hg hobj hints (zz hlen hn2) hr hF hb (fun H hO hS=>hsp w H a ns hlen hO hS) fun H e s'=>hCX w H s₁ e s'
theorem QaP {K:Frag}{mg:Str→Option Value}{f:Str}:∀c∈([]:List Str),KC K mg c f:=fun _ h=>nomatch h
theorem QaH {K:Frag}{mg:Str→Option Value}{f c:Str}{cs:List Str} (h:KC K mg c f) (hr:∀c∈cs,KC K mg c f):∀c'∈c::cs,KC K mg c' f:=fun c' hc=>by
 rcases zn.mp hc with rfl | hc
 ·exact h
 ·exact hr c' hc
def sp_law (K:Frag):Sp:=fun vs H Q _=>∃(a:Addr) (ns:List Int),vs = [.ref a]∧RdK K H a (ns.map V.int)∧ns.length≤63∧QiF H∧∀H',Q (.bl true) H'
theorem Rps.ofInts {K:Frag}{F:Hp}{as:List Addr}:∀ns:List Int,Rps K F as (ns.map V.int) (ns.map D.int)
 | []=>Rps.nil
 | n::ns=>Rps.cons Rp.int (Rps.ofInts ns)
theorem QqG {K:Frag}{mg:Str→Option Value}{c:List D→Qaa→Res D} (h:∀ns:List Int,ns.length≤63→∃O',c [.lst (ns.map D.int)] [] = .ok (.bl true) O'):∀vs H Q E,sp_law K vs H Q E→vSp K mg [.s] (rV K) c vs H Q E:=by
 rintro vs H Q E ⟨a,ns,rfl,hS,hl,hO,q⟩;obtain ⟨O',e⟩:=h ns hl
 have r:RlO K mg [] H H []:=⟨Same.refl H,fun b o e=>by
  rcases hO b with z | ⟨o',xs,z⟩
  ·rw [e] at z; cases z
  ·rw [e] at z; cases z; rfl,List.nodup_nil,rfl,(fun _ z=>nomatch z),fun n b o z=>by cases z⟩
 refine ⟨[.lst (ns.map D.int)],[],H,[],.bl true,O',r,⟨.inl (Rp.mkL hS (Rps.ofInts ns)),trivial⟩,e,fun v H' F' as' g r' hv=>?_⟩;rw [Rp.unB hv];exact q H'
def keyOf:D→Option Key
 | .int i=>some (.inl i)
 | .str l=>some (.inr (S l))
 | _=>none
theorem Qqx {d:D}{k:Key} (h:keyOf d=some k):QmO k=d:=by
 cases d with
 | int i=>cases h; rfl
 | str l=>cases h; show D.str (S l).cps.toList=_; rw [QdO]
 | _=>cases h
theorem Rp.key {K:Frag}{F:Hp}{as:List Addr}{v:V}{d:D}{k:Key} (h:Rp K F as v d) (e:keyOf d=some k):v=kV k:=by
 cases d with
 | int i=>cases e; exact h.unI
 | str l=>cases e; exact h.unS
 | _=>cases e
section
variable {X:Cx}{md:List Md}{P:Pt}
def Prs (K:Frag) (F:Hp) (as:List Addr):List (V×V)→List (D×D)→Prop
 | [],[]=>True
 | p::ps,d::ds=>Rp K F as p.1 d.1∧Rp K F as p.2 d.2∧Prs K F as ps ds
 | _,_=>False
def DPE (X:Cx) (md:List Md) (P:Pt) (pos:Pos) (keys:List (Option Expr)) (values:List Expr) (m:M (List (D×D))):Prop:=∃trs:List (TE×TE),
 PPs X pos keys values trs∧∀σ H Q,(∃ρ O F as kv O',RlO X.K X.mg O H F as∧SlO X.K md P ρ σ H F as∧m ρ O = .ok kv O'∧∀ps H' F' as',Gr H F as H' F' as'→RlO X.K X.mg O' H' F' as'→Prs X.K F' as' ps kv→Q ps H')→QlR trs σ H Q
def QtU:M (List (D×D)):=fun _ O=>.ok [] O
def Qr8 (mk mv:M D) (r:M (List (D×D))):M (List (D×D)):=fun ρ O=>(mk ρ O).bind fun a O1=>(mv ρ O1).bind fun b O2=>(r ρ O2).bind fun ps O3=>.ok ((a,b)::ps) O3
def keysOf:List (D×D)→Option (List Key)
 | []=>some []
 | (a,_)::r=>(keyOf a).bind fun k=>(keysOf r).map (k :: ·)
theorem Prs.kvs {K:Frag}{F:Hp}{as:List Addr}:∀{kv:List (D×D)}{ps:List (V×V)}{ks:List Key},Prs K F as ps kv→keysOf kv=some ks →
  ∃kvs:List (Key×V),ps=kvs.map (fun p=>(kV p.1,p.2))∧kvs.map (·.1)=ks∧kv.map (·.1)=kvs.map (fun p=>QmO p.1)∧Rps K F as (kvs.map (·.2)) (kv.map (·.2))
 | [],ps,ks,h,e=>by
  cases ps with
  | nil=>cases e; exact ⟨[],rfl,rfl,rfl,Rps.nil⟩
  | cons _ _=>exact h.elim
 | (a,b)::kv,ps,ks,h,e=>by
  cases ps with
  | nil=>exact h.elim
  | cons p ps =>
   obtain ⟨p1,p2⟩:=p;unfold keysOf at e
   cases ea:keyOf a with
   | none=>rw [ea] at e; cases e
   | some k =>
    rw [ea] at e
    cases er:keysOf kv with
    | none=>rw [er] at e; cases e
    | some ks' =>
     rw [er] at e;cases e;obtain ⟨kvs,h1,h2,h3,h4⟩:=Prs.kvs h.2.2 er;refine ⟨(k,p2)::kvs,?_,?_,?_,Rps.cons h.2.1 h4⟩
     ·rw [zd,←h1]
      have:p1=kV k:=Rp.key h.1 ea
      rw [this]
     ·rw [zd,h2]
     ·rw [zd,zd,h3,Qqx ea]
def Qt9 (m:M (List (D×D))):M D:=fun ρ O=>(m ρ O).bind fun kv O1=>match keysOf kv with
 | some ks=>if ks.Nodup∧kv.length≤15 then .ok (.dic (kv.map (·.1)) (kv.map (·.2))) O1 else .no
 | none=>.no
theorem Prs.length {K:Frag}{F:Hp}{as:List Addr}:∀{kv:List (D×D)}{ps:List (V×V)},Prs K F as ps kv→ps.length=kv.length
 | [],[],_=>rfl
 | _::kv,_::ps,h=>by simp [Prs.length h.2.2]
 | [],_::_,h=>h.elim
 | _::_,[],h=>h.elim
end
section
variable {X:Cx}{md:List Md}{P:Pt}{k:Nat}{c x m:Str}{ps:List Str}{p pos apos:Pos}{o e:Expr}{es:List Expr}{pm:List Md}{cf:List D→Qaa→Res D}{mo:M D}{ma:M (List D)}
theorem Qa3 (C:Can X.prog X.w X.K X.mg X.base x ps k (vSp X.K X.mg pm (rV X.K) cf)) (hr:QaJ k X.A) (ha:AE X md P pm (e::es) ma) (hg:Gl X x:=by rfl) (hdb:(x == ("__debug__":Str))=false:=by decide) (he:starEach (e::es) X.env=(false,eval e X.env)::starEach es X.env:=by exact Qbl rfl) (hpl:(backTo pos (starEach es X.env)).any (·.1)=false:=by exact Qbk rfl) :
  VE X md P (.Call (.Name x p) (e::es) [] pos) (QaA cf ma):=Qmu Qbn C hr ha hg hdb he hpl
theorem Qie (C:Can X.prog X.w X.K X.mg X.base x ps k (vSp X.K X.mg pm (rO X.K) cf)) (hr:QaJ k X.A) (ha:AE X md P pm (e::es) ma) (hg:Gl X x:=by rfl) (hdb:(x == ("__debug__":Str))=false:=by decide) (he:starEach (e::es) X.env=(false,eval e X.env)::starEach es X.env:=by exact Qbl rfl) (hpl:(backTo pos (starEach es X.env)).any (·.1)=false:=by exact Qbk rfl) :
  OE X md P (.Call (.Name x p) (e::es) [] pos) (QaA cf ma):=Qmu Qcr C hr ha hg hdb he hpl
theorem Qfr {pl:Sem Bool} (M:Qdb X.prog X.w X.K X.mg X.base c m ps k (vSp X.K X.mg (.v::pm) (rO X.K) cf)) (hr:QaJ k X.A) (ho:VE X md P o mo) (ha:AE X md P pm (e::es) ma) (hst:starEach (e::es) X.env=(false,eval e X.env)::starEach es X.env:=by exact Qbl rfl) (hpl:(backTo pos (starEach es X.env)).any (·.1)=false:=by exact Qbk rfl)
  (ht:eval (.Call (.Attribute o m apos) (e::es) [] pos) X.env=(do
   let ov ←eval o X.env
   standAt apos.atName
   let (f,first) ←holding [ov] (getMethod ov m pl)
   callWith pos f first (backTo pos (starEach (e::es) X.env)) (backToKw pos (keywordEach [] X.env))):=by rfl):OE X md P (.Call (.Attribute o m apos) (e::es) [] pos) (Qbi c m cf mo ma):=Qrs Qcr M hr ho ha hst hpl ht
theorem QiN {pl:Sem Bool} (M:Qdb X.prog X.w X.K X.mg X.base c m ps k (vSp X.K X.mg [.v] (rV X.K) cf)) (hr:QaJ k X.A) (ho:VE X md P o mo)
  (ht:eval (.Call (.Attribute o m apos) [] [] pos) X.env=(do
   let ov ←eval o X.env
   standAt apos.atName
   let (f,first) ←holding [ov] (getMethod ov m pl)
   callWith pos f first (backTo pos (starEach [] X.env)) (backToKw pos (keywordEach [] X.env))):=by rfl):VE X md P (.Call (.Attribute o m apos) [] [] pos) (Qbi c m cf mo Qae):=Qk9 Qbn M hr ho ht
theorem QpK {pl:Sem Bool} (M:Qdb X.prog X.w X.K X.mg X.base c m ps k (vSp X.K X.mg [.v] (rO X.K) cf)) (hr:QaJ k X.A) (ho:VE X md P o mo)
  (ht:eval (.Call (.Attribute o m apos) [] [] pos) X.env=(do
   let ov ←eval o X.env
   standAt apos.atName
   let (f,first) ←holding [ov] (getMethod ov m pl)
   callWith pos f first (backTo pos (starEach [] X.env)) (backToKw pos (keywordEach [] X.env))):=by rfl):OE X md P (.Call (.Attribute o m apos) [] [] pos) (Qbi c m cf mo Qae):=Qk9 Qcr M hr ho ht
end
def Itz (K:Frag) (l1 l2:Addr):It:=⟨fun i H=>∃xs ys x y,SqL K H l1 xs∧SqL K H l2 ys∧xs[i]? = some x∧ys[i]? = some y,
 fun i H v H'=>∃T x y,v = .ref T∧H T=none∧H'=upd H T (.tup [x,y])∧(∀xs,SqL K H l1 xs→xs[i]? = some x)∧∀ys,SqL K H l2 ys→ys[i]? = some y,
 fun i H=>∃xs ys,SqL K H l1 xs∧SqL K H l2 ys∧(xs.length≤i∨ys.length≤i)⟩
theorem Qo8 {P:Program}{w:World}{K:Frag}{elts:List Expr}{x1}{pos:Pos} (z TI TO i1 i2 l1 l2:Addr) (D:ZipApart z TI TO i1 i2 l1 l2):Turn P w K (.Tuple elts x1 pos) (Itz K l1 l2) [z,TI,TO,i1,i2] z
  (fun i h=>IsZip h z TI TO .none∧IsPair h TI (.ref i1) (.ref i2)∧(∃a b,IsPair h TO a b)∧h.IsListIter i1 l1 i∧h.IsListIter i2 l2 i) where
 mem:=by simp
 obj:=fun i h st b hb=>by
  obtain ⟨hz,hTI,⟨a,b',hTO⟩,⟨o1,ho1,hc1,hd1⟩,⟨o2,ho2,hc2,hd2⟩⟩:=st;simp only [zn,List.not_mem_nil,or_false] at hb
  rcases hb with rfl | rfl | rfl | rfl | rfl
  ·exact QcM hz rfl
  ·exact ⟨_,hTI,fun v z=>nomatch z⟩
  ·exact ⟨_,hTO,fun v z=>nomatch z⟩
  ·exact QcM ho1 hd1
  ·exact QcM ho2 hd2
 keep:=fun i h h' st k=>by
  obtain ⟨hz,hTI,⟨a,b',hTO⟩,h1,h2⟩:=st;exact ⟨k z (by simp) _ hz,k TI (by simp) _ hTI,⟨a,b',k TO (by simp) _ hTO⟩,h1.at fun o e=>k i1 (by simp) o e,h2.at fun o e=>k i2 (by simp) o e⟩
 item:=by
  intro X hP hw hK hc i pins s σ H E I hf st hg;subst hP hw hK;obtain ⟨hz,hTI,⟨a,b',hTO⟩,h1,h2⟩:=st;obtain ⟨xs,ys,x,y,hq1,hq2,hx,hy⟩:=hg;obtain ⟨its1,rv1,pl1,hz1⟩:=I.list hq1;obtain ⟨its2,rv2,pl2,hz2⟩:=I.list hq2;obtain ⟨u1,hu1,ru1⟩:=rv1.get hx;obtain ⟨u2,hu2,ru2⟩:=rv2.get hy;have hT:H s.heap.objs.size=none:=I.hok.fresh (zc _);have elt:z < s.heap.objs.size:=zf hz
  refine wpAny_pyNext_zip_item D hz hTI hTO h1 h2 pl1.isList pl2.isList (x:=u1) (y:=u2) (by simpa using hu1) (by simpa using hu2) fun h' a1 a2 a3 a4 a5 a6 hk=>⟨_,rfl,?_⟩
  refine wpAny_letOwnedTupleGo_zip a1 fun h'' hz'' hs''=>⟨.ref s.heap.objs.size,_,?_,rfl,⟨s.heap.objs.size,x,y,rfl,hT,rfl,fun ys' hy'=>by rw [I.list_inj hy' hq1]; exact hx,fun ys' hy'=>by rw [I.list_inj hy' hq2]; exact hy⟩,⟨hz'',hs''.extBut _ _ D.TIz (hk _ _ D.TIz D.TITO D.TIi1 D.TIi2 hTI),⟨_,_,hs''.extBut _ _ D.TOz a2⟩,a3.extBut hs''.extBut D.i1z,a4.extBut hs''.extBut D.i2z⟩,fun b hb=>?_⟩
  ·show Inv X pins σ _ { s with heap:=h'',toks:=s.toks };refine I.turnT (ch:=[z,TI,TO,i1,i2]) (us:=[u1,u2]) hf (fun b o hb q=>?_) (zc _) ⟨_,hs''.extBut _ _ (Nat.ne_of_gt elt) a5,rfl,_,rfl⟩ (.cons ru1 (.cons ru2 .nil)) (by show 2≤sizeLine; decide)
   have n1:b≠z:=fun e=>hb (by simp [e])
   have n2:b≠TO:=fun e=>hb (by simp [e])
   have n3:b≠i1:=fun e=>hb (by simp [e])
   have n4:b≠i2:=fun e=>hb (by simp [e])
   exact hs''.extBut _ _ n1 (hk b o n1 n2 n3 n4 q)
  ·have q:=hf b hb;rw [Qal (fun e=>?_)]
   ·exact q.1
   ·obtain ⟨o,ho⟩:∃o,s.heap.get? b=some o:=by
     obtain ⟨o1,ho1,_⟩:=h1;obtain ⟨o2,ho2,_⟩:=h2;simp only [zn,List.not_mem_nil,or_false] at hb
     rcases hb with rfl | rfl | rfl | rfl | rfl
     ·exact ⟨_,hz⟩
     ·exact ⟨_,hTI⟩
     ·exact ⟨_,hTO⟩
     ·exact ⟨_,ho1⟩
     ·exact ⟨_,ho2⟩
    exact absurd (zf ho) (by rw [e]; exact zL _)
 done:=by
  intro X hP hw hK hc i pins s σ H E I hf st hg;subst hP hw hK;obtain ⟨hz,hTI,⟨a,b',hTO⟩,h1,h2⟩:=st;obtain ⟨xs,ys,hq1,hq2,hl⟩:=hg;obtain ⟨its1,rv1,pl1,hz1⟩:=I.list hq1;obtain ⟨its2,rv2,pl2,hz2⟩:=I.list hq2;have l1:=rv1.length;have l2:=rv2.length
  refine wpAny_pyNext_zip_end (I.ok.hd hc) D hz hTI hTO h1 h2 pl1.isList pl2.isList (by
   rcases hl with hl | hl
   ·left; simp; omega
   ·right; simp; omega) fun h' hx=>⟨rfl,?_⟩
  exact I.turnL (t':=s.toks) (ch:=[z,TI,TO,i1,i2]) hf fun b o hb q=>hx b o (fun e=>hb (by simp [e])) (fun e=>hb (by simp [e])) (fun e=>hb (by simp [e])) (fun e=>hb (by simp [e])) q
 self:=fun A i s Q E st h=>wpAny_pyIter_zip st.1 h
section
variable {X:Cx}{md:List Md}{P:Pt}{R:RR}{elts:List Expr}{x1:Nat}{tpos:Pos}
def Qst (K:Frag) (ta:TA):TI:=fun σ H R=>ta σ H fun vs H1=>∃a b,vs = [.ref a,.ref b]∧(∃xs,SqL K H1 a xs)∧(∃ys,SqL K H1 b ys)∧R (Itz K a b) H1
theorem Qrz {a b:Expr}{ta:TA}{p pos:Pos} (hg:Gl X "zip") (hm:X.mg "zip" = none) (ha:PA X [a,b] ta) (hs:starEach [a,b] X.env=(false,eval a X.env)::starEach [b] X.env:=by exact Qbl rfl) (hpl:(backTo pos (starEach [b] X.env)).any (·.1)=false:=by exact Qbk rfl) :
  PI X (.Tuple elts x1 tpos) (.Call (.Name "zip" p) [a,b] [] pos) (Qst X.K ta):=by
 intro pins s σ H R I h;refine Call_ (Qfz I hg hm boot_zip (PyProof.Rows.callWith_type1 (thn (ha pos pins s σ H _ I h) fun us s1 ⟨vs,H1,I1,r1,q1⟩=>?_) hs hpl));obtain ⟨l1,l2,e,⟨xs,hq1⟩,⟨ys,hq2⟩,q⟩:=q1;subst e;obtain ⟨u1,u2,rfl,ru1,ru2⟩:=vals2 r1;cases ru1;cases ru2;obtain ⟨its1,rv1,pl1,hz1⟩:=I1.list hq1;obtain ⟨its2,rv2,pl2,hz2⟩:=I1.list hq2
 have a1:l1 < s1.heap.objs.size:=by obtain ⟨_,e,_⟩:=pl1.isList; exact zf e
 have a2:l2 < s1.heap.objs.size:=by obtain ⟨_,e,_⟩:=pl2.isList; exact zf e
 refine call_zip_2 pl1.isList pl2.isList fun h' hz hTI hTO hit1 hit2 hsz hk=>wpAny_pyIter_zip hz ?_
 refine ⟨s1.heap.objs.size+4,[s1.heap.objs.size+4,s1.heap.objs.size+2,s1.heap.objs.size+3,s1.heap.objs.size,s1.heap.objs.size+1],_,_,H1,rfl,I1.kept (t':=s1.toks) hk,Qo8 _ _ _ _ _ l1 l2 (zipApart_new a1 a2),⟨hz,hTI,⟨_,_,hTO⟩,hit1,hit2⟩,fun b hb=>?_,q⟩
 have hb':s1.heap.objs.size≤b:=by
  simp only [zn,List.not_mem_nil,or_false] at hb
  rcases hb with rfl | rfl | rfl | rfl | rfl
  ·exact jd _ _
  ·exact jd _ _
  ·exact jd _ _
  ·exact zc _
  ·exact jd _ _
 exact I1.fpOk hb' (I1.hok.fresh hb')
def QmK:List D→List D→List D
 | d::ds,e::es=>.tup [d,e]::QmK ds es
 | _,_=>[]
def Qsv (ma mb:M D):M (List D):=fun ρ O=>(ma ρ O).bind fun d O1=>(mb ρ O1).bind fun e O2=>match d,e with
 | .lst ds,.lst es=>.ok (QmK ds es) O2
 | _,_=>.no
def QuK (m:MS):MS:=fun ρ O=>match m ρ O with
 | .rt d O'=>.rt d O'
 | _=>.no
theorem SlO.toV {K:Frag}{ρ:Qai}{σ:St}{H F F':Hp}{as:List Addr}{i:Nat} (s:SlO K md P ρ σ H F as) (hm:md[i]? = some .o) (ff:Same F F')
  (hown:∀(j:Nat) (ds:List D) (a:Addr),j≠i→md[j]? = some .o→ρ[j]? = some (some (.lst ds))→σ[j]? = some (some (.ref a))→F' a=F a)
  (hv:∀d,ρ[i]? = some (some d)→∃v,σ[i]? = some (some v)∧Rp K F' as v d):SlO K (md.set i .v) P ρ σ H F' as:=by
 have hi:i < md.length:=(zh.mp hm).1
 have back:∀(j:Nat),(md.set i Md.v)[j]? = some Md.o→j≠i∧md[j]? = some .o:=fun j e=>by
  by_cases hj:j=i
  ·subst hj;rw [zF hi] at e;cases e
  ·rw [ze (Ne.symm hj)] at e;exact ⟨hj,e⟩
 refine ⟨by rw [zQ]; exact s.len,by rw [zQ]; exact s.len',s.pd,fun j m d e1 e2=>?_,fun j k a ds es h1 h2 h3 h4 h5 h6=>s.inj j k a ds es (back j h1).2 (back k h2).2 h3 h4 h5 h6,fun x hx=>?_⟩
 ·by_cases hj:j=i
  ·subst hj;rw [zF hi] at e1;cases e1;exact hv d e2
  ·rw [ze (Ne.symm hj)] at e1;obtain ⟨v,q,t⟩:=s.sl j m d e1 e2;refine ⟨v,q,?_⟩
   cases m with
   | v=>exact Rp.mono ff (fun _ _ z=>z) _ t
   | s =>
    rcases t with t | ⟨a,xs,ds,t1,t2,t3,t4,t5,t6⟩
    ·exact .inl (Rp.mono ff (fun _ _ z=>z) _ t)
    ·exact .inr ⟨a,xs,ds,t1,t2,t3,t4,t5,Rps.mono ff (fun _ _ z=>z) _ t6⟩
   | o =>
    rcases t with ⟨t0,t⟩ | ⟨a,xs,ds,rfl,rfl,t3,t0,t4,t5,t6⟩
    ·exact .inl ⟨t0,Rp.mono ff (fun _ _ z=>z) _ t⟩
    ·exact .inr ⟨a,xs,ds,rfl,rfl,t3,by rw [hown j ds a hj e1 e2 q]; exact t0,t4,t5,Rps.mono ff (fun _ _ z=>z) _ t6⟩
 ·obtain ⟨p1,p2,p3⟩:=s.pin x hx
  have hne:i≠x.1:=fun z=>by rw [←z,hm] at p1; cases p1
  exact ⟨by rw [ze hne]; exact p1,p2,p3⟩
end
section
variable {prog:Program}{w:World}{A:Around}{E:Value→Shared→Prop}
end
section
variable {X:Cx}{md:List Md}{P:Pt}{R:RR}
def mMl (m:M D):M D:=fun ρ O=>(m ρ O).bind fun d O1=>match d with
 | .lst ds=>.ok (.ob O1.length) (O1 ++ [.ml ds])
 | d=>.ok d O1
theorem Qmh {as:List Addr}{a:Addr}:∀(n:Nat) (c:Addr),as[n]? = some c→(as ++ [a])[n]? = some c:=fun n c h=>by
 rw [zr (zh.mp h).1]; exact h
theorem RlO.snocMl {K:Frag}{mg:Str→Option Value}{O:Qaa}{H F:Hp}{as:List Addr}{a:Addr}{xs:List V}{ds:List D} (r:RlO K mg O H F as) (hH:H a=some (.lst xs)) (hF:F a=none) (ha:a∉as) (hx:Rps K F as xs ds):RlO K mg (O ++ [.ml ds]) H F (as ++ [a]):=by
 refine ⟨r.fh,r.fd,jh.mpr ⟨r.nd,by simp,fun c hc d hd=>by rw [zo.mp hd]; exact fun z=>ha (z ▸ hc)⟩,by rw [zw,zw,r.len]; rfl,fun c hc=>?_,fun n c o hc ho=>?_⟩
 ·rcases zA.mp hc with hc | hc
  ·exact r.fa c hc
  ·rw [zo.mp hc]; exact hF
 ·by_cases hn:n < as.length
  ·rw [zr hn] at hc;rw [zr (by rw [←r.len]; exact hn)] at ho;exact (r.ob n c o hc ho).keep rfl (Same.refl F) Qmh
  ·have hn':n=as.length:=by
    have:=(zh.mp hc).1
    rw [zw,jc] at this;omega
   subst hn';rw [zv (zc _),Nat.sub_self] at hc;rw [r.len,zv (zc _),Nat.sub_self] at ho;cases hc;cases ho;exact ⟨xs,hH,Rps.mono (Same.refl F) Qmh _ hx⟩
theorem QiZ {e:Expr}{m:M D} (h:OE X md P e m):VE X md P e (mMl m):=h.imp fun σ H Q q=>by
 obtain ⟨ρ,O,F,as,d,O',r,s,e,k⟩:=q;obtain ⟨x,O1,e1,e⟩:=Res.bind_ok e;refine ⟨ρ,_,F,as,_,_,r,s,e1,fun v H1 F1 as1 g1 r1 hv=>?_⟩
 rcases hv with ⟨hn,hv⟩ | ⟨a,xs,ds,rfl,rfl,e3,e4,e5,e6,e7⟩
 ·cases x with
  | lst ds=>cases hn
  | _=>cases e; exact k v H1 F1 as1 g1 r1 hv
 ·cases e;obtain ⟨new,en,hnw⟩:=g1.nw;refine k (.ref a) H1 F1 (as1 ++ [a]) ⟨g1.fz,g1.ff,⟨new ++ [a],by rw [en,zS],fun c hc=>?_⟩,g1.fr,g1.dm,g1.kz⟩ (r1.snocMl e3 e4 e5 e7) (Rp.mkO ?_)
  ·rcases zA.mp hc with hc | hc
   ·exact hnw c hc
   ·rw [zo.mp hc]; exact e6
  ·rw [←r1.len,zv (zc _),Nat.sub_self];rfl
theorem QjH {H F:Hp}{as:List Addr}{a:Addr}{h:HO} (ha:a∈as) (hh:H a=some h) {o:HO} (hf:∀o u,h≠.frz o u:=by intro _ _ z; cases z):Gr H F as (upd H a o) F as :=
 ⟨fun _ _ _ _ _=>rfl,Same.refl F,⟨[],by simp,fun _ h=>nomatch h⟩,fun c u e hn _=>by rw [Qal (fun z=>hn (by rw [z]; exact ha))]; exact e,fun c e=>by
  by_cases h:c=a
  ·subst h; rw [QaL] at e; cases e
  ·rwa [Qal h] at e,fun c o' u e=>by rw [Qal (fun z=>by rw [z,hh] at e; cases e; exact hf _ _ rfl)]; exact e⟩
theorem RlO.mutO {K:Frag}{mg:Str→Option Value}{O:Qaa}{H F:Hp}{as:List Addr}{n:Nat}{a:Addr}{xs:List V}{ds:List D} (r:RlO K mg O H F as) (hn:as[n]? = some a) (hx:Rps K F as xs ds):RlO K mg (O.set n (.ml ds)) (upd H a (.lst xs)) F as:=by
 have ha:=zI hn;refine ⟨fun c u e=>?_,r.fd,r.nd,by rw [zQ]; exact r.len,r.fa,fun m c o hc ho=>?_⟩
 ·rw [Qal (fun z=>by rw [z,r.fa a ha] at e; cases e)]; exact r.fh c u e
 ·by_cases hm:m=n
  ·subst hm;rw [hn] at hc;cases hc
   have hlt:m < O.length:=by rw [←r.len]; exact (zh.mp hn).1
   rw [zF hlt] at ho;cases ho;exact ⟨xs,QaL,hx⟩
  ·rw [ze (Ne.symm hm)] at ho
   refine (r.ob m c o hc ho).keep (Qal fun z=>hm ?_) (Same.refl F) fun _ _ h=>h
   obtain ⟨q0,q1⟩:=zh.mp hc;obtain ⟨p0,p1⟩:=zh.mp hn;exact (List.getElem_inj r.nd).mp (q1.trans (z.trans p1.symm))
theorem RlO.ml {K:Frag}{mg:Str→Option Value}{O:Qaa}{H F:Hp}{as:List Addr}{n:Nat}{a:Addr}{ds:List D} (r:RlO K mg O H F as) (hn:as[n]? = some a) (hO:O[n]? = some (.ml ds)):∃xs,H a=some (.lst xs)∧Rps K F as xs ds:=r.ob n a _ hn hO
def QdJ (mo m:M D):MS:=fun ρ O=>match mo ρ O with
 | .ok (.ob n) O1=>match O1[n]? with
  | some (.ml _)=>match m ρ O1 with
   | .ok d O2=>match O2[n]? with
    | some (.ml ds)=>if ds.length < 1000000 then .nx ρ (O2.set n (.ml (ds ++ [d]))) else .no
    | _=>.no
   | _=>.no
  | _=>.no
 | _=>.no
theorem QjE {o e:Expr}{apos cpos pos:Pos}{mo m:M D} (ho:VE X md P o mo) (h:VE X md P e m)
  (hbase:attributeBase o "append" X.env (eval o X.env)=eval o X.env:=by rfl)
  (hfew:((backTo cpos (starEach [e] X.env)).all (fun x=>!x.1)&&(backToKw cpos (keywordEach [] X.env)).all (fun x=>x.1.isSome)&&decide ([e].length+([]:List Keyword).length+(if ([]:List Keyword).isEmpty then 0 else 1) < 30))=true:=by rfl)
  (hline:(apos.endLine == cpos.line)=true:=by rfl) (hs:starEach [e] X.env=(false,eval e X.env)::starEach [] X.env:=by exact Qbl rfl) (hplain:(backTo cpos (starEach [] X.env)).any (·.1)=false:=by exact Qbk rfl)
  (hsw:swapsWith (.Call (.Attribute o "append" apos) [e] [] cpos) none pos.line X.env=pure false:=by rfl) :
  VS X md P R (.Expr (.Call (.Attribute o "append" apos) [e] [] cpos) pos) (QdJ mo m) :=
 (Qfq (QfW PySem.F.plainAttrs_list PySem.F.slot_list_append PySem.F.type_list_append Qkd ho (QbV h QcI hs) hbase hfew hline hs hplain) hsw).imp fun D σ H q=>by
  obtain ⟨ρ,O,F,as,r,s,k⟩:=q;unfold QdJ at k;split at k
  ·rename_i n O1 e1;split at k
   ·rename_i ds0 e2;split at k
    ·rename_i d O2 e3;split at k
     ·rename_i ds e4;split at k
      ·rename_i hz;refine ⟨ρ,O,F,as,_,_,r,s,e1,fun v H1 F1 as1 g1 r1 hv=>?_⟩;obtain ⟨a,rfl,ha⟩:=Rp.unO hv;obtain ⟨xs0,x1,x2⟩:=r1.ml ha e2;refine ⟨.inl ⟨rfl,xs0,.inl (.inl x1)⟩,ρ,O1,F1,as1,d,O2,r1,s.step g1,e3,fun y H2 F2 as2 g2 r2 hy=>?_⟩;have ha2:=g2.at_ n a ha;obtain ⟨xs,y1,y2⟩:=r2.ml ha2 e4;have g3:Gr H2 F2 as2 (upd H2 a (.lst (xs ++ [y]))) F2 as2:=QjH (zI ha2) y1;exact ⟨a,xs,y,rfl,rfl,y1,by rw [y2.length]; exact zy hz (by decide),k σ _ F2 as2 ((g1.trans g2).trans g3).toS (r2.mutO ha2 (y2.snoc hy)) (s.step ((g1.trans g2).trans g3))⟩
      ·exact False.elim k
     ·exact False.elim k
    ·exact False.elim k
   ·exact False.elim k
  ·exact False.elim k
def QgF (mo:M D):MS:=fun ρ O=>match mo ρ O with
 | .ok (.ob n) O1=>match O1[n]? with
  | some (.ml _)=>.nx ρ (O1.set n (.ml []))
  | _=>.no
 | _=>.no
theorem Qq0 {o:Expr}{apos cpos pos:Pos}{mo:M D} (ho:VE X md P o mo)
  (hbase:attributeBase o "clear" X.env (eval o X.env)=eval o X.env:=by rfl) (hline:(apos.endLine == cpos.line)=true:=by rfl)
  (hsw:swapsWith (.Call (.Attribute o "clear" apos) [] [] cpos) none pos.line X.env=pure false:=by rfl) :
  VS X md P R (.Expr (.Call (.Attribute o "clear" apos) [] [] cpos) pos) (QgF mo) :=
 (Qfq (QrX PySem.F.plainAttrs_list PySem.F.slot_list_clear PySem.F.type_list_clear Qpd ho hbase hline) hsw).imp fun D σ H q=>by
  obtain ⟨ρ,O,F,as,r,s,k⟩:=q;unfold QgF at k;split at k
  ·rename_i n O1 e1;split at k
   ·rename_i ds0 e2;refine ⟨ρ,O,F,as,_,_,r,s,e1,fun v H1 F1 as1 g1 r1 hv=>?_⟩;obtain ⟨a,rfl,ha⟩:=Rp.unO hv;obtain ⟨xs,x1,x2⟩:=r1.ml ha e2;have g3:Gr H1 F1 as1 (upd H1 a (.lst [])) F1 as1:=QjH (zI ha) x1;exact ⟨.inl ⟨rfl,xs,.inl (.inl x1)⟩,a,xs,rfl,rfl,x1,k σ _ F1 as1 (g1.trans g3).toS (r1.mutO ha Rps.nil) (s.step (g1.trans g3))⟩
   ·exact False.elim k
  ·exact False.elim k
def QcB (n:Nat) (all:List D) (g:MG) (b:MS):List D→MS
 | [],ρ,O=>match O[n]? with
  | some (.ml es)=>if es.length=all.length then .nx ρ O else .no
  | _=>.no
 | d::ds,ρ,O=>match O[n]? with
  | some (.ml es)=>match es[all.length - (ds.length+1)]? with
   | some d'=>match g d' ρ with
    | none=>.no
    | some ρ1=>match b ρ1 O with
     | .nx ρ2 O2=>QcB n all g b ds ρ2 O2
     | .ct ρ2 O2=>QcB n all g b ds ρ2 O2
     | .bk ρ2 O2=>.nx ρ2 O2
     | r=>r
   | none=>.no
  | _=>.no
def Qej (m:M D) (g:MG) (b:MS):MS:=fun ρ O=>match m ρ O with
 | .ok (.ob n) O'=>match O'[n]? with
  | some (.ml ds)=>QcB n ds g b ds ρ O'
  | _=>.no
 | .ok (.lst ds) O'=>Qbh g b ds ρ O'
 | _=>.no
theorem Qqp {K:Frag}{mg:Str→Option Value}{m:M D}{g:MG}{b:MS}{n:Nat}{ds:List D}{D:Ends}{σ:St}{H F:Hp}{as:List Addr}{ρ:Qai}{O O1:Qaa} (r:RlO K mg O H F as) (s:SlO K md P ρ σ H F as) (e:m ρ O = .ok (.ob n) O1) (e2:O1[n]? = some (.ml ds))
  (k:Qdm K mg md P R D H F as (QcB n ds g b ds ρ O1)):Qm0 (Qp2 K (tM K mg md P (rW K P) m)) (tMG K mg md P g) (tMS K mg md P R b) D σ H:=by
 refine ⟨ρ,O,F,as,_,_,r,s,e,fun v H1 F1 as1 g1 r1 hv=>?_⟩
 have hv':Rp K F1 as1 v (.ob n):=by
  rcases hv with hv | ⟨a,xs,ds',_,z,_⟩
  ·exact hv
  ·cases z
 obtain ⟨a,rfl,ha⟩:=Rp.unO hv';obtain ⟨xs0,x1,x2⟩:=r1.ml ha e2;have k1:=Qcq (R:=R) g1.toS k;refine ⟨a,rfl,⟨xs0,.inl (.inl x1)⟩,fun i m σ' H'=>m=ds.length - i∧i≤ds.length∧∃ρ' O' F' as',GrS P H1 F1 as1 H' F' as'∧RlO K mg O' H' F' as'∧SlO K md P ρ' σ' H' F' as'∧Qdm K mg md P R D H' F' as' (QcB n ds g b (ds.drop i) ρ' O'),⟨ds.length,by simp,Nat.zero_le _,ρ,O1,F1,as1,GrS.refl,r1,s.step g1,by rw [List.drop_zero]; exact k1⟩,?_⟩;rintro i t σ' H' ⟨rfl,hi,ρ',O',F',as',g',r',s',k'⟩;have ha':=g'.at_ n a ha
 by_cases hlt:i < ds.length
 ·rw [List.drop_eq_getElem_cons hlt] at k';unfold QcB at k';split at k'
  ·rename_i es ee;obtain ⟨xs,y1,y2⟩:=r'.ml ha' ee
   have hidx:ds.length - ((ds.drop (i+1)).length+1)=i:=by rw [List.length_drop]; omega
   rw [hidx] at k';split at k'
   ·rename_i d' ed;obtain ⟨x,hx,rx⟩:=y2.get' ed;have hsq:SqL K H' a xs:=.inl (.inl y1);refine .inr ⟨⟨xs,x,hsq,hx⟩,fun σ2 H2=>∃ρ2 O2 F2 as2,GrS P H1 F1 as1 H2 F2 as2∧RlO K mg O2 H2 F2 as2∧SlO K md P ρ2 σ2 H2 F2 as2∧Qdm K mg md P R D H2 F2 as2 (QcB n ds g b (ds.drop (i+1)) ρ2 O2),fun σ2 H2 h2=>⟨ds.length - (i+1),by omega,rfl,hlt,h2⟩,fun x' H3 y=>?_⟩;obtain ⟨rfl,hy⟩:=y;have hxx:=hy xs hsq;rw [hx] at hxx;cases hxx;split at k'
    ·exact False.elim k'
    ·rename_i ρ1 eg;refine ⟨ρ',O',F',as',d',ρ1,r',s',rx,eg,fun σ4 s4=>?_⟩;refine ⟨ρ1,O',F',as',r',s4,?_⟩
     cases eb:b ρ1 O' with
     | nx ρ2 O2 =>
      rw [eb] at k'
      exact fun σ2 H2 F2 as2 g2 r2 s2=>⟨ρ2,O2,F2,as2,g'.trans g2,r2,s2,Qcq g2 k'⟩
     | ct ρ2 O2 =>
      rw [eb] at k'
      exact fun σ2 H2 F2 as2 g2 r2 s2=>⟨ρ2,O2,F2,as2,g'.trans g2,r2,s2,Qcq g2 k'⟩
     | bk ρ2 O2 =>
      rw [eb] at k'
      exact fun σ2 H2 F2 as2 g2 r2 s2=>k' σ2 H2 F2 as2 g2 r2 s2
     | rt d O2 =>
      rw [eb] at k'
      exact fun v H2 F2 as2 g2 r2 s2=>k' v H2 F2 as2 g2 r2 s2
     | ex _ _=>rw [eb] at k'; exact False.elim k'
     | no=>rw [eb] at k'; exact False.elim k'
   ·exact False.elim k'
  ·exact False.elim k'
 ·have hi':i=ds.length:=by omega
  subst hi';rw [List.drop_length] at k';unfold QcB at k';split at k'
  ·rename_i es ee;split at k'
   ·rename_i hl;obtain ⟨xs,y1,y2⟩:=r'.ml ha' ee;exact .inl ⟨⟨xs,.inl (.inl y1),by rw [y2.length,hl]; exact zc _⟩,k' σ' H' F' as' GrS.refl r' s'⟩
   ·exact False.elim k'
  ·exact False.elim k'
theorem Ql7 {tg iter:Expr}{body:List Stmt}{pos:Pos}{m:M D}{g:MG}{b:MS} (hc:X.calm=true) (hi:WE X md P iter m) (hg:VG X md P tg g) (hb:VSs X md P R body b) (hp:PassesOwn (model X.prog X.w) X.A X.env X.xe:=by exact PassesOwn.never)
  (hs:∀x,foldedSetIterable iter X.env x=pure x:=by intro _; rfl):VS X md P R (.For tg iter body [] pos) (Qej m g b):=fun pins s σ H D I q=>by
 obtain ⟨ρ,O,F,as,r,sl,k⟩:=q;unfold Qej at k;split at k
 ·rename_i n O1 e1;split at k
  ·rename_i ds e2;exact Qk7 hp hc (Qjt hi) hg hb hs pins s σ H D I (Qqp r sl e1 e2 k)
  ·exact False.elim k
 ·rename_i ds O1 e1;refine Qd9 hc (Qmb hi) hg hb hp hs pins s σ H D I ⟨ρ,O,F,as,r,sl,?_⟩;unfold QbX
  have:Qh6 m ρ O = .ok ds O1:=by unfold Qh6; rw [e1]; rfl
  rw [this];exact k
 ·exact False.elim k
end
def Qm7 (K:Frag) (mg:Str→Option Value) (x:Str) (ls:List (List Nat)):Prop:=∃(a:Addr) (o:Obj) (its:Array Value) (n:Nat),mg x=some (.ref a)∧K.lookup a=some o∧o.cls = .type "tuple"∧o.data = .seq its n∧its.size≤sizeLine∧Qar (ls.map fun l=>V.str (S l)) its.toList
theorem Rps.texts {K:Frag}{F:Hp}{as:List Addr}:∀ls:List (List Nat),Rps K F as (ls.map fun l=>V.str (S l)) (ls.map D.str)
 | []=>Rps.nil
 | l::ls=>Rps.cons Rp.str (Rps.texts ls)
theorem Qmy {X:Cx}{md:List Md}{P:Pt}{x:Str}{ls:List (List Nat)}{pos:Pos} (h:Qm7 X.K X.mg x ls) (hg:Gl X x:=by rfl) (hdb:(x == ("__debug__":Str))=false:=by decide):VE X md P (.Name x pos) (mC (.tup (ls.map D.str))):=by
 obtain ⟨a,o,its,n,hm,hk,h1,h2,h3,h4⟩:=h
 refine (QkM (v:=.ref a) ⟨_,hm,rfl⟩ hg hdb).imp fun σ H Q q=>?_
 obtain ⟨ρ,O,F,as,d,O',r,s,e,k⟩:=q;cases e;exact k _ H F as Gr.refl r (Rp.mkT (.inr ⟨o,its,n,hk,h1,h2,h3,h4⟩) (Rps.texts ls))
theorem Qbw {α:Type}{p:List α→Prop} (h:p []):∀us:List α,us.length=0→p us:=fun us e=>by
 cases us with
 | nil=>exact h
 | cons a as=>cases e
theorem QaX {α:Type}{p:List α→Prop}{n:Nat} (h:∀a,∀us:List α,us.length=n→p (a::us)):∀us:List α,us.length=n+1→p us:=fun us e=>by
 cases us with
 | nil=>cases e
 | cons a as=>exact h a as (Nat.succ.inj e)
section
variable {prog:Program}{w:World}{κ:Type} [DecidableEq κ] {knd:HeapKind prog w κ}{A:Around}{E:Value→Shared→Prop}{s:Shared}
end
section
variable {X:Cx}{pins:List (Addr×Obj)}{σ:St}{H:Hp}{s:Shared}{a b:Addr}{v:V}{r:Value}{kvs:List (List Key×V)}{k:List Key}{A:Around}{E:Value→Shared→Prop}
end
def Qnt:List D→Option (List Key)
 | []=>some []
 | .int i::ds=>(Qnt ds).map (Sum.inl i :: ·)
 | _=>none
theorem Rps.keys {K:Frag}{F:Hp}{as:List Addr}:∀{ds:List D}{xs:List V}{ks:List Key},Rps K F as xs ds→Qnt ds=some ks→xs=ks.map kV∧∃is:List Int,ks=is.map Sum.inl
 | [],xs,ks,h,e=>by cases e; exact ⟨h.un0,[],rfl⟩
 | .int i::ds,xs,ks,h,e=>by
  obtain ⟨x,r,rfl,h1,h2⟩:=h.un;obtain ⟨ks',e1,rfl⟩:=Option.map_eq_some_iff.mp (show (Qnt ds).map (Sum.inl i :: ·)=some ks from e);obtain ⟨q1,is,rfl⟩:=Rps.keys h2 e1;exact ⟨by rw [h1.unI,q1]; rfl,i::is,rfl⟩
 | .non::ds,xs,ks,h,e=>by cases e
 | .bl _::ds,xs,ks,h,e=>by cases e
 | .str _::ds,xs,ks,h,e=>by cases e
 | .lst _::ds,xs,ks,h,e=>by cases e
 | .tup _::ds,xs,ks,h,e=>by cases e
 | .dic _ _::ds,xs,ks,h,e=>by cases e
 | .ob _::ds,xs,ks,h,e=>by cases e
def QjT (kvs:List (List Key×D)) (k:List Key):Option D:=(kvs.find? fun p=>decide (p.1=k)).map (·.2)
def Qsd (kvs:List (List Key×D)) (k:List Key) (d:D):List (List Key×D) :=
 if (kvs.any fun p=>decide (p.1=k))=true then kvs.map (fun p=>if p.1=k then (p.1,d) else p) else kvs ++ [(k,d)]
def DtR (K:Frag) (F:Hp) (as:List Addr) (xs:List (List Key×V)) (kvs:List (List Key×D)):Prop:=xs.map (·.1)=kvs.map (·.1)∧Rps K F as (xs.map (·.2)) (kvs.map (·.2))
section
variable {K:Frag}{mg:Str→Option Value}{O:Qaa}{H F H' F':Hp}{as as':List Addr}
theorem DtR.len {xs:List (List Key×V)}{kvs:List (List Key×D)} (h:DtR K F as xs kvs):xs.length=kvs.length:=by
 have:=congrArg List.length h.1
 simpa using this
theorem DtR.un {xs:List (List Key×V)}{p:List Key×D}{kvs:List (List Key×D)} (h:DtR K F as xs (p::kvs)):∃v r,xs=(p.1,v)::r∧Rp K F as v p.2∧DtR K F as r kvs:=by
 obtain ⟨h1,h2⟩:=h
 cases xs with
 | nil=>cases h1
 | cons x r =>
  obtain ⟨v,r',e,q1,q2⟩:=h2.un;cases e;rw [zd,zd] at h1;have q3:=(List.cons.inj h1).1;refine ⟨x.2,r,?_,q1,(List.cons.inj h1).2,q2⟩;rw [←q3]
theorem DtR.val {k:List Key}:∀{kvs:List (List Key×D)}{xs:List (List Key×V)},DtR K F as xs kvs→(QjT kvs k=none∧Qdt xs k=none)∨∃d v,QjT kvs k=some d∧Qdt xs k=some v∧Rp K F as v d
 | [],xs,h=>by
  have:=h.len
  cases xs with
  | nil=>exact .inl ⟨rfl,rfl⟩
  | cons=>cases this
 | p::kvs,xs,h=>by
  obtain ⟨v,r,rfl,h1,h2⟩:=h.un
  by_cases e:p.1=k
  ·exact .inr ⟨p.2,v,by simp [QjT,List.find?_cons,e],Qfy e,h1⟩
  ·rw [show QjT (p::kvs) k=QjT kvs k by simp [QjT,List.find?_cons,e],QfI (p:=(p.1,v)) e];exact DtR.val h2
theorem DtR.any {k:List Key}:∀{kvs:List (List Key×D)}{xs:List (List Key×V)},DtR K F as xs kvs→(xs.any fun p=>decide (p.1=k))=kvs.any fun p=>decide (p.1=k)
 | [],xs,h=>by
  have:=h.len
  cases xs with
  | nil=>rfl
  | cons=>cases this
 | p::kvs,xs,h=>by
  obtain ⟨v,r,rfl,h1,h2⟩:=h.un;rw [List.any_cons,List.any_cons,DtR.any h2]
theorem DtR.repl {k:List Key}{v:V}{d:D} (hv:Rp K F as v d):∀{kvs:List (List Key×D)}{xs:List (List Key×V)},DtR K F as xs kvs →
  DtR K F as (xs.map fun p=>if p.1=k then (p.1,v) else p) (kvs.map fun p=>if p.1=k then (p.1,d) else p)
 | [],xs,h=>by
  have:=h.len
  cases xs with
  | nil=>exact ⟨rfl,Rps.nil⟩
  | cons=>cases this
 | p::kvs,xs,h=>by
  obtain ⟨u,r,rfl,h1,h2⟩:=h.un;obtain ⟨i1,i2⟩:=DtR.repl (k:=k) hv h2
  by_cases e:p.1=k
  ·rw [zd,zd,if_pos e,if_pos e];exact ⟨by rw [zd,zd,i1],Rps.cons hv i2⟩
  ·rw [zd,zd,if_neg e,if_neg e];exact ⟨by rw [zd,zd,i1],Rps.cons h1 i2⟩
theorem DtR.put {xs:List (List Key×V)}{kvs:List (List Key×D)} (h:DtR K F as xs kvs) (k:List Key) {v:V}{d:D} (hv:Rp K F as v d):DtR K F as (putK xs k v) (Qsd kvs k d):=by
 unfold putK Qsd;rw [h.any]
 split
 ·exact h.repl hv
 ·exact ⟨by rw [zP,zP,h.1]; rfl,by rw [zP,zP]; exact Rps.snoc h.2 hv⟩
theorem DtR.mono {xs:List (List Key×V)}{kvs:List (List Key×D)} (h:DtR K F as xs kvs) (e:Same F F') (ea:∀(n:Nat) (a:Addr),as[n]? = some a→as'[n]? = some a):DtR K F' as' xs kvs:=⟨h.1,Rps.mono e ea _ h.2⟩
theorem RlO.dt {n:Nat}{a:Addr}{kvs:List (List Key×D)} (r:RlO K mg O H F as) (hn:as[n]? = some a) (hO:O[n]? = some (.dt kvs)):∃xs,H a=some (.dT xs)∧DtR K F as xs kvs:=let ⟨xs,h1,h2,h3⟩:=r.ob n a _ hn hO; ⟨xs,h1,h2,h3⟩
theorem Gr.snoc {p:Addr}{o:HO} (hp:H p=none):Gr H F as (upd H p o) F (as ++ [p]) :=
 ⟨fun _ _ _ _ _=>rfl,Same.refl F,⟨[p],rfl,fun a h=>by rw [zo.mp h]; exact hp⟩,fun a u e _ _=>by rw [Qal (Qas e hp)]; exact e,fun a e=>by
  by_cases h:a=p
  ·subst h; exact hp
  ·rwa [Qal h] at e,fun a o' u e=>by rw [Qal (Qas e hp)]; exact e⟩
end
section
variable {X:Cx}{md:List Md}{P:Pt}{R:RR}
end
section
variable {X:Cx}
open Classical in
noncomputable def eqR (s:Shared) (x:PyData) (u:Value):Bool:=decide (∃d as,Reads s.heap u d as∧d.canLay0=true∧PyData.eqv d x=true)
open Classical in
theorem QvZ {s:Shared}{x d:PyData}{u:Value}{as:List Addr} (h:Reads s.heap u d as) (hd:d.canLay0=true):eqR s x u=PyData.eqv d x:=by
 unfold eqR
 cases e:PyData.eqv d x with
 | true=>exact zK ⟨d,as,h,hd,e⟩
 | false =>
  refine zt fun ⟨d',as',h',hd',e'⟩=>?_
  rw [←SeqAt.Reads.unique d d' u as as' hd h h',e] at e';cases e'
end
section
variable {X:Cx}{md:List Md}{P:Pt}{R:RR}
end
def QbK (O:Qaa):Nat→D→D
 | 0,d=>d
 | n+1,.ob i=>match O[i]? with
  | some (.ml ds)=>.lst (ds.map (QbK O n))
  | _=>.ob i
 | n+1,.lst ds=>.lst (ds.map (QbK O n))
 | n+1,.tup ds=>.tup (ds.map (QbK O n))
 | _+1,d=>d
section
variable {K:Frag}{mg:Str→Option Value}{O:Qaa}{H F:Hp}{as:List Addr}
theorem QfA {n:Nat} (ih:∀(d:D) (v:V),Rp K F as v d→QbD (QbK O n d)=true→Rep K H v (toP (QbK O n d))):∀(ds:List D) (xs:List V),Rps K F as xs ds→Qdr (ds.map (QbK O n))=true→Qau K H xs (Qf9 (ds.map (QbK O n)))
 | [],xs,h,_=>by rw [h.un0]; exact Qau.nil
 | d::ds,xs,h,hp=>by
  obtain ⟨x,r,rfl,h1,h2⟩:=h.un;rw [zd,Qdr,zg] at hp;rw [zd,Qf9];exact Qau.cons (ih d x h1 hp.1) (QfA ih ds r h2 hp.2)
theorem Qfu (r:RlO K mg O H F as):∀(n:Nat) (d:D) (v:V),Rp K F as v d→QbD (QbK O n d)=true→Rep K H v (toP (QbK O n d))
 | 0,d,v,h,hp=>Lk.rep (Or.inl h) r.fh hp
 | n+1,.ob i,v,h,hp=>by
  unfold QbK at hp ⊢;split at hp
  ·rename_i ds e;obtain ⟨a,rfl,ha⟩:=h.unO;obtain ⟨xs,h1,h2⟩:=r.ml ha e;rw [QbD] at hp;rw [toP,Rep];exact ⟨a,xs,rfl,.inl (.inl h1),QfA (Qfu r n) ds xs h2 hp⟩
  ·cases hp
 | n+1,.lst ds,v,h,hp=>by
  unfold QbK at hp ⊢;obtain ⟨a,xs,rfl,h1,h2⟩:=h.unL;rw [QbD] at hp;rw [toP,Rep];exact ⟨a,xs,rfl,(h1.mono r.fh).sq,QfA (Qfu r n) ds xs h2 hp⟩
 | n+1,.tup ds,v,h,hp=>by
  unfold QbK at hp ⊢;obtain ⟨a,xs,rfl,h1,h2⟩:=h.unT;rw [QbD] at hp;rw [toP,Rep];exact ⟨a,xs,rfl,Same.seqT r.fh h1,QfA (Qfu r n) ds xs h2 hp⟩
 | n+1,.non,v,h,hp=>Lk.rep (Or.inl h) r.fh hp
 | n+1,.bl _,v,h,hp=>Lk.rep (Or.inl h) r.fh hp
 | n+1,.int _,v,h,hp=>Lk.rep (Or.inl h) r.fh hp
 | n+1,.str _,v,h,hp=>Lk.rep (Or.inl h) r.fh hp
 | n+1,.dic _ _,v,h,hp=>Lk.rep (Or.inl h) r.fh hp
theorem Qmi (r:RlO K mg O H F as) {n:Nat}{d:D}{v:V} (h:Sv K H F as v d) (hp:QbD (QbK O n d)=true):Rep K H v (toP (QbK O n d)):=by
 rcases h with h | ⟨a,xs,ds,rfl,rfl,e3,e4,e5⟩
 ·exact Qfu r n d v h hp
 ·cases n with
  | zero=>exact Lk.rep (Or.inr ⟨a,xs,ds,rfl,rfl,e3,e5⟩) r.fh hp
  | succ n =>
   unfold QbK at hp ⊢;rw [QbD] at hp;rw [toP,Rep];exact ⟨a,xs,rfl,.inl (.inl e3),QfA (Qfu r n) ds xs e5 hp⟩
end
section
variable {X:Cx}{md:List Md}{P:Pt}{R:RR}
def Qk2 (neg:Bool) (n:Nat) (ma mb:M D):M D:=fun ρ O=>(ma ρ O).bind fun x O1=>(mb ρ O1).bind fun y O2 =>
 if (okE (QbK O2 n x)&&okE (QbK O2 n y))=true then .ok (.bl (if neg then !Qhi (QbK O2 n x) (QbK O2 n y) else Qhi (QbK O2 n x) (QbK O2 n y))) O2 else .no
theorem QsG {K:Frag}{mg:Str→Option Value}{neg:Bool}{n:Nat}{ma mb:M D}{σ:St}{H:Hp}{Q:VK} (h:tM K mg md P (rO K) (Qk2 neg n ma mb) σ H Q):tOp (Qpu K neg) (tM K mg md P (rS K) ma) (tM K mg md P (rS K) mb) σ H Q:=by
 obtain ⟨ρ,O,F,as,d,O',r,sl,e,k⟩:=h;obtain ⟨x,O1,e1,e⟩:=Res.bind_ok e;obtain ⟨y,O2,e2,e⟩:=Res.bind_ok e;split at e
 ·rename_i hk;cases e;rw [zg] at hk;obtain ⟨k1,k2⟩:=hk;unfold okE at k1 k2;rw [zg] at k1 k2;refine ⟨ρ,_,F,as,_,_,r,sl,e1,fun v H1 F1 as1 g1 r1 hv=>?_⟩;refine ⟨ρ,_,F1,as1,_,_,r1,sl.step g1,e2,fun u H2 F2 as2 g2 r2 hu=>?_⟩;exact ⟨_,_,Qmi r2 (Sv.gr hv g2) k1.1,Qmi r2 hu k2.1,k1.2,k2.2,k _ H2 F2 as2 (g1.trans g2) r2 (.inl ⟨rfl,Rp.bl⟩)⟩
 ·cases e
theorem QsA (n:Nat) {k:Nat} (hr:QaJ k X.A) {e1 e2:Expr}{pos:Pos}{ma mb:M D} (ha:SE X md P e1 ma) (hb:SE X md P e2 mb):OE X md P (.Compare e1 [.Eq] [e2] pos) (Qk2 false n ma mb) :=
 (Ql4 (Qok hr) ha hb (QaM _)).imp fun _ _ _=>QsG
end
section
variable {X:Cx}{md:List Md}{P:Pt}{R:RR}
end
end L2
namespace L2
open PySem PySem.Spec PyProof.Rows PySem.W PySem.Calls
section
variable {prog:Program}{w:World}{A:Around}{E:Value→Shared→Prop}{s:Shared}{a:Addr}{vs out:List Value}{p:Array Nat}
def Keeps (s:Shared) (a:Addr) (h':Heap):Prop:=∀b o,b≠a→s.heap.get? b=some o→h'.get? b=some o
end
def QmM {α:Type} (cmp:Nat→Nat→Bool→Prop):KasT α→α→Prop
 | .ret a,r=>r=a
 | .ask i j k,r=>∃b,cmp i j b∧QmM cmp (k b) r
theorem QmM.wp {α:Type}{cmp:Nat→Nat→Bool→Prop}{ask:Nat→Nat→(Bool→Shared→Prop)→Shared→Prop}{s:Shared} (hc:∀i j b,cmp i j b→∀C:Bool→Shared→Prop,C b s→ask i j C s) {G:α→Shared→Prop}{r:α} (hg:G r s):∀t:KasT α,QmM cmp t r→t.kasWp ask G s
 | .ret a,h=>by
  cases (show r=a from h);exact hg
 | .ask i j k,h=>by
  obtain ⟨b,h1,h2⟩:=h;exact hc i j b h1 _ (QmM.wp hc hg (k b) h2)
section
variable {X:Cx}
theorem Rps.getD {K:Frag}{F:Hp}{as:List Addr}{ds:List D}{xs:List V} (h:Rps K F as xs ds) (i:Nat):Rp K F as (xs.getD i V.non) (ds.getD i .non):=by
 rw [zW,zW]
 cases e:ds[i]? with
 | none =>
  have:xs[i]? = none:=by
   rw [List.getElem?_eq_none_iff] at e ⊢;rw [h.length];exact e
  rw [this];exact Rp.non
 | some d =>
  obtain ⟨v,hv,r⟩:=h.get' e;rw [hv];exact r
end
structure Qs3 (mg:Str→Option Value):Prop extends Blt mg where
 sorted_:mg "sorted" = none
end L2
namespace L2
open PySem PySem.Spec PyProof.Rows
abbrev Qr3 (h:Heap) (z TI TO T:Addr) (b:Bool):Prop :=
 h.get? z=some { cls:=.type "zip",dict:=none,data:=.fields #[rawInt T,.bool b,.bool false,.ref TI,.ref TO],slots:=#[] }
section
variable {prog:Program}{w:World}{A:Around}{E:Value→Shared→Prop}{s:Shared}
structure ZS (base:Nat) (h:Heap) (z TI TO i1 i2 l1 l2 S:Addr) (xs ys acc:Array Value) (c i:Nat):Prop where
 zi:(IsZip h z TI TO .none∧∃a b,IsPair h TO a b)∨∃T b o,Qr3 h z TI TO T b∧h.get? T=some o∧T∉[z,TO,i1,i2,S]
 ti:IsPair h TI (.ref i1) (.ref i2)
 it1:h.IsListIter i1 l1 i
 it2:h.IsListIter i2 l2 i
 a1:h.IsList l1 xs
 a2:h.IsList l2 ys
 ls:h.get? S=some { cls:=.type "list",dict:=none,data:=.seq acc c,slots:=#[] }
 sz:acc.size=i
 tl:TO < h.objs.size
 nd:acc.toList.Nodup
 ts:∀(j:Nat) (v:Value),acc[j]? = some v→∃(T:Addr) (x y:Value),v=Value.ref T∧xs[j]? = some x∧ys[j]? = some y∧IsPair h T x y∧T∉[z,TO,i1,i2,S]∧base≤T
variable {R:PySem.Result→Shared→Prop}
end
theorem Un.more {fs ex:List Addr}{H H1:Hp}{h h':Heap}{a:Addr}{o:HO} (u:Un fs ex H H1 h h') (hp:h.objs.size≤a) (hn:H1 a=none):Un fs ex H (upd H1 a o) h h' where
 keep:=u.keep
 slot:=u.slot
 free:=fun b ob q n hx=>by rw [Qal (zp (zy (zf q) hp))]; exact u.free b ob q n hx
 there:=u.there
 tups:=fun b xs q=>by have z:=u.tups b xs q; rw [Qal (Qas z hn)]; exact z
 frzs:=fun b ob v q=>by have z:=u.frzs b ob v q; rw [Qal (Qas z hn)]; exact z
 tbls:=fun b ps q=>by obtain ⟨m,z⟩:=u.tbls b ps q; exact ⟨m,by rw [Qal (Qas z hn)]; exact z⟩
theorem HOk.more {P:Program}{w:World}{H:Hp}{h:Heap}{a:Addr}{o:HO} (x:HOk P w H h) (hn:H a=none) (new:Qbx P w (upd H a o) h a o):HOk P w (upd H a o) h:=fun b u e=>by
 by_cases hb:b=a
 ·subst hb; rw [QaL] at e; cases e; exact new
 ·rw [Qal hb] at e
  exact (x b u e).stay (fun c v _ q=>q) (fun c q=>by rw [Qal (Qas q hn)]; exact q) fun c xs q=>by rw [Qal (Qas q hn)]; exact q
section
variable {X:Cx}
end
section
variable {X:Cx}{md:List Md}{P:Pt}
end
section
end
end L2
namespace L2
open PySem PySem.Spec PyProof.Rows PySem.W
section
variable {X:Cx}{md:List Md}{P:Pt}
end
end L2
namespace L2
open PySem PySem.Spec PyProof.Rows
section
variable {X:Cx}{md:List Md}{P:Pt}{R:RR}
variable {elts:List Expr}{x1:Nat}{tpos:Pos}{a elt:Expr}{ifs:List Expr}{scope:Scope}{p pos pe:Pos}{m:M D}{g:MG}{t:M Bool}{e:M D}
end
section
variable {X:Cx}{md:List Md}{P:Pt}{R:RR}{tg:Expr}
end
structure QwG (mg:Str→Option Value):Prop extends Qs3 mg where
 reversed_:mg "reversed" = none
end L2
namespace L2
open PySem PySem.Spec PyProof.Rows PySem.W
section
variable {prog:Program}{w:World}{A:Around}{E:Value→Shared→Prop}
end
section
variable {X:Cx}{md:List Md}{P:Pt}{R:RR}
end
section
variable {X:Cx}{tg:Expr}{md:List Md}{P:Pt}
end
section
variable {X:Cx}{pins:List (Addr×Obj)}{σ:List (Option V)}{H:Hp}{s:Shared}{a:Addr}{xs:List (List Key×V)}{o:Obj}
end
section
variable {prog:Program}{w:World}{A:Around}{E:Value→Shared→Prop}{s:Shared}
end
section
variable {K:Frag}{mg:Str→Option Value}{O:Qaa}{H F:Hp}{as:List Addr}
theorem RlO.df {n:Nat}{a:Addr}{kvs:List (List Key×D)} (r:RlO K mg O H F as) (hn:as[n]? = some a) (hO:O[n]? = some (.df kvs)):∃o xs,H a=some (.frz o (.dT xs))∧DtR K F as xs kvs:=let ⟨o,xs,h1,h2,h3⟩:=r.ob n a _ hn hO; ⟨o,xs,h1,h2,h3⟩
end
section
variable {X:Cx}{md:List Md}{P:Pt}{R:RR}
end
section
variable {K:Frag}{mg:Str→Option Value}{md:List Md}{P:Pt}{ρ:Qai}{σ:St}{O:Qaa}{H F H' F':Hp}{as as':List Addr}
end
section
variable {X:Cx}{md:List Md}{P:Pt}{R:RR}
end
section
variable {X:Cx}{md:List Md}{P:Pt}{R:RR}
end
section
variable {prog:Program}{w:World}
end
section
variable {X:Cx}{md:List Md}{P:Pt}{R:RR}
end
def Qjy (kvs:List (Key×D)) (k:Key):Option D:=(kvs.find? fun p=>decide (p.1=k)).map (·.2)
def Qr7 (kvs:List (Key×D)) (k:Key) (d:D):List (Key×D) :=
 if (kvs.any fun p=>decide (p.1=k))=true then kvs.map (fun p=>if p.1=k then (p.1,d) else p) else kvs ++ [(k,d)]
def DkR (K:Frag) (F:Hp) (as:List Addr) (xs:List (Key×V)) (kvs:List (Key×D)):Prop:=xs.map (·.1)=kvs.map (·.1)∧Rps K F as (xs.map (·.2)) (kvs.map (·.2))
section
variable {K:Frag}{mg:Str→Option Value}{O:Qaa}{H F H' F':Hp}{as as':List Addr}
theorem DkR.len {xs:List (Key×V)}{kvs:List (Key×D)} (h:DkR K F as xs kvs):xs.length=kvs.length:=by
 have:=congrArg List.length h.1
 simpa using this
theorem DkR.un {xs:List (Key×V)}{p:Key×D}{kvs:List (Key×D)} (h:DkR K F as xs (p::kvs)):∃v r,xs=(p.1,v)::r∧Rp K F as v p.2∧DkR K F as r kvs:=by
 obtain ⟨h1,h2⟩:=h
 cases xs with
 | nil=>cases h1
 | cons x r =>
  obtain ⟨v,r',e,q1,q2⟩:=h2.un;cases e;rw [zd,zd] at h1;have q3:=(List.cons.inj h1).1;refine ⟨x.2,r,?_,q1,(List.cons.inj h1).2,q2⟩;rw [←q3]
theorem DkR.val {k:Key}:∀{kvs:List (Key×D)}{xs:List (Key×V)},DkR K F as xs kvs→(Qjy kvs k=none∧Qdt xs k=none)∨∃d v,Qjy kvs k=some d∧Qdt xs k=some v∧Rp K F as v d
 | [],xs,h=>by
  have:=h.len
  cases xs with
  | nil=>exact .inl ⟨rfl,rfl⟩
  | cons=>cases this
 | p::kvs,xs,h=>by
  obtain ⟨v,r,rfl,h1,h2⟩:=h.un
  by_cases e:p.1=k
  ·exact .inr ⟨p.2,v,by simp [Qjy,List.find?_cons,e],Qfy e,h1⟩
  ·rw [show Qjy (p::kvs) k=Qjy kvs k by simp [Qjy,List.find?_cons,e],QfI (p:=(p.1,v)) e];exact DkR.val h2
theorem DkR.any {k:Key}:∀{kvs:List (Key×D)}{xs:List (Key×V)},DkR K F as xs kvs→(xs.any fun p=>decide (p.1=k))=kvs.any fun p=>decide (p.1=k)
 | [],xs,h=>by
  have:=h.len
  cases xs with
  | nil=>rfl
  | cons=>cases this
 | p::kvs,xs,h=>by
  obtain ⟨v,r,rfl,h1,h2⟩:=h.un;rw [List.any_cons,List.any_cons,DkR.any h2]
theorem DkR.repl {k:Key}{v:V}{d:D} (hv:Rp K F as v d):∀{kvs:List (Key×D)}{xs:List (Key×V)},DkR K F as xs kvs →
  DkR K F as (xs.map fun p=>if p.1=k then (p.1,v) else p) (kvs.map fun p=>if p.1=k then (p.1,d) else p)
 | [],xs,h=>by
  have:=h.len
  cases xs with
  | nil=>exact ⟨rfl,Rps.nil⟩
  | cons=>cases this
 | p::kvs,xs,h=>by
  obtain ⟨u,r,rfl,h1,h2⟩:=h.un;obtain ⟨i1,i2⟩:=DkR.repl (k:=k) hv h2
  by_cases e:p.1=k
  ·rw [zd,zd,if_pos e,if_pos e];exact ⟨by rw [zd,zd,i1],Rps.cons hv i2⟩
  ·rw [zd,zd,if_neg e,if_neg e];exact ⟨by rw [zd,zd,i1],Rps.cons h1 i2⟩
theorem DkR.put {xs:List (Key×V)}{kvs:List (Key×D)} (h:DkR K F as xs kvs) (k:Key) {v:V}{d:D} (hv:Rp K F as v d):DkR K F as (putK xs k v) (Qr7 kvs k d):=by
 unfold putK Qr7;rw [h.any]
 split
 ·exact h.repl hv
 ·exact ⟨by rw [zP,zP,h.1]; rfl,by rw [zP,zP]; exact Rps.snoc h.2 hv⟩
theorem RlO.dk {n:Nat}{a:Addr}{kvs:List (Key×D)} (r:RlO K mg O H F as) (hn:as[n]? = some a) (hO:O[n]? = some (.dk kvs)):∃xs,H a=some (.dK xs)∧DkR K F as xs kvs:=let ⟨xs,h1,h2,h3⟩:=r.ob n a _ hn hO; ⟨xs,h1,h2,h3⟩
end
section
variable {X:Cx}{md:List Md}{P:Pt}{R:RR}
end
section
variable {X:Cx}{md:List Md}{P:Pt}{R:RR}
end
section
variable {X:Cx}{md:List Md}{P:Pt}{R:RR}
theorem QeG.int {K:Frag}{H F:Hp}{as:List Addr}{m:Md}{v:V}{a:Int} (h:QeG P K H F as m v (.int a)):v = .int a:=by
 cases m with
 | v=>exact (show Rp K F as v (.int a) from h).unI
 | s =>
  rcases h with h | ⟨_,_,_,_,h,_⟩
  ·exact h.unI
  ·cases h
 | o =>
  rcases h with ⟨_,h⟩ | ⟨_,_,_,_,h,_⟩
  ·exact h.unI
  ·cases h
end
end L2
namespace L2
open PySem PySem.Spec PyProof.Rows PySem.W PySem.Calls
def Qfh (ss:List Str) (x:Str):List Str:=if x∈ss then ss else ss ++ [x]
def Qip (es:Array (Int×Value)):List Str:=es.toList.map fun e=>strOf e.2
def QmH (prog:Program) (w:World) (h:Heap) (a:Addr) (ss:List Str) (o:Obj) (es:Array (Int×Value)) (ep:Nat) (t:SetTable):Prop :=
 h.get? a=some o∧o.ExactSet∧o.data = .set es ep t∧ElemsOf (PySem.strKind prog w) es.toList∧(Qip es).Perm ss∧es.size < scanBound∧t.fits es.size=true∧(es.size=0∨t.plain=false)∧t.led = !w.params.followText "set-order"
def Qdz (prog:Program) (w:World) (h:Heap) (a:Addr) (ss:List Str):Prop:=∃o es ep t,QmH prog w h a ss o es ep t
section
variable {prog:Program}{w:World}{A:Around}{E:Value→Shared→Prop}{s:Shared}{a:Addr}{ss:List Str}
theorem Qdz.at {h h':Heap} (x:Qdz prog w h a ss) (k:∀o,h.get? a=some o→h'.get? a=some o):Qdz prog w h' a ss :=
 let ⟨o,es,ep,t,h1,r⟩:=x; ⟨o,es,ep,t,k o h1,r⟩
theorem Qdz.len {h:Heap} (x:Qdz prog w h a ss):ss.length < scanBound:=by
 obtain ⟨o,es,ep,t,h1,h2,h3,h4,h5,h6,_⟩:=x;rw [←h5.length_eq];unfold Qip;rw [zB];exact h6
theorem QlY (t:SetTable) (es:Array (Int×Value)) (n:Nat) (h:t.plain=false):(relayAll t es n).2.1.plain=false:=by
 unfold relayAll
 split
 ·rename_i t' order e;dsimp only
  split
  ·unfold SetTable.relaid SetTable.laid at e
   cases q:SetTable.layClean (SetTable.sizeAbove n - 1) (Array.map (fun x=>x.fst) es) with
   | none=>rw [q] at e; cases e
   | some ow =>
    rw [q] at e;cases e;exact h
  ·rfl
 ·rfl
theorem QnW (t:SetTable) (es:Array (Int×Value)) (n:Nat):(relayAll t es n).2.1.led=t.led:=by
 unfold relayAll
 split
 ·rename_i t' order e;dsimp only
  split
  ·unfold SetTable.relaid SetTable.laid at e
   cases q:SetTable.layClean (SetTable.sizeAbove n - 1) (Array.map (fun x=>x.fst) es) with
   | none=>rw [q] at e; cases e
   | some ow =>
    rw [q] at e;cases e;rfl
  ·rfl
 ·rfl
theorem Qn8 (t:SetTable) (n:Nat):(t.orStandIn n).led=t.led:=by
 unfold SetTable.orStandIn
 split <;> rfl
theorem Qqt (t:SetTable) (es:Array (Int×Value)) (h:Int) (x:Value):(layNew t es h x).2.1.led=t.led:=by
 unfold layNew
 split
 ·exact Qn8 _ _
 ·rfl
theorem Qjm {h:Heap}{o:Obj}{es:Array (Int×Value)}{ep:Nat}{t:SetTable} (ho:h.get? a=some o) (hex:o.ExactSet) (hd:o.data = .set es ep t)
  {es':Array (Int×Value)}{t':SetTable} (hel:ElemsOf (PySem.strKind prog w) es'.toList) (hp:(Qip es').Perm ss) (hb:es'.size < scanBound) (hf:t'.fits es'.size=true) (hpl:t'.plain=false) (hled:t'.led = !w.params.followText "set-order") :
  (h.update a (Obj.putSet es' t')).get? a=some { o with data:=.set es' (ep+1) t' }∧Qdz prog w (h.update a (Obj.putSet es' t')) a ss:=by
 have hg:(h.update a (Obj.putSet es' t')).get? a=some { o with data:=.set es' (ep+1) t' }:=by
  have:=Heap.get?_update_self (Obj.putSet es' t') ho (by rw [putSet_of es' t' hd]; rfl)
  rw [putSet_of es' t' hd] at this; exact this
 exact ⟨hg,_,es',ep+1,t',hg,hex,rfl,hel,hp,hb,hf,.inr hpl,hled⟩
theorem Qj4 {g:Bool→Sem Unit} (hg:∀(b:Bool) (s₁:Shared) (Q':Unit→Shared→Prop),Q' () s₁→wpAny (model prog w) A (g b) Q' E s₁)
  {o:Obj}{es:Array (Int×Value)}{ep:Nat}{t:SetTable} (ho:s.heap.get? a=some o) (hex:o.ExactSet) (hd:o.data = .set es ep t)
  {es1:Array (Int×Value)}{t2:SetTable} (hel1:ElemsOf (PySem.strKind prog w) es1.toList) (hp1:(Qip es1).Perm ss) (hb1:es1.size < scanBound) (hf2:t2.fits es1.size=true) (hpl:t2.plain=false) (hled:t2.led = !w.params.followText "set-order") {wasDummy:Bool}{R:Option Bool→Shared→Prop}
  (h:∀h',Heap.SameBut a s.heap h'→Qdz prog w h' a ss→R (some true) { s with heap:=h' }) :
  wpAny (model prog w) A (do
    storeSet a es1 t2
    if (!wasDummy&&t2.tooFull)=true then do
      g (relayAll t2 es1 (SetTable.grown es1.size)).2.2
      storeSet a (relayAll t2 es1 (SetTable.grown es1.size)).1 (relayAll t2 es1 (SetTable.grown es1.size)).2.1
      pure (some true)
     else pure (some true)) R E s:=by
 refine za (wpAny_storeSet_of ho hd ?_ (fits_of_scanBound hb1));obtain ⟨ho1,hS1⟩:=Qjm (prog:=prog) (w:=w) ho hex hd hel1 hp1 hb1 hf2 hpl hled;have hsb1:=Heap.SameBut.update s.heap a (Obj.putSet es1 t2)
 split
 ·have hp:=relayAll_perm t2 es1 (SetTable.grown es1.size);have hfr:=relayAll_fits t2 es1 (SetTable.grown es1.size);have hpr:=QlY t2 es1 (SetTable.grown es1.size) hpl;have hlr:=QnW t2 es1 (SetTable.grown es1.size)
  generalize hRl:relayAll t2 es1 (SetTable.grown es1.size)=Rl at hp hfr hpr hlr ⊢
  obtain ⟨es2,t3,gave2⟩:=Rl;dsimp only at hp hfr hpr hlr ⊢;have hel2:ElemsOf (PySem.strKind prog w) es2.toList:=hel1.perm hp
  have hsz:es2.size=es1.size:=by rw [←Array.length_toList,hp.length_eq,Array.length_toList]
  have hb2:es2.size < scanBound:=by rw [hsz]; exact hb1
  refine za (hg _ _ _ ?_);refine za (wpAny_storeSet_of ho1 rfl ?_ (fits_of_scanBound hb2));obtain ⟨_,hS2⟩:=Qjm (prog:=prog) (w:=w) ho1 hex rfl hel2 ((hp.map _).trans hp1) hb2 hfr hpr (hlr.trans hled);exact zb (h _ (hsb1.trans (Heap.SameBut.update _ a _)) hS2)
 ·exact zb (h _ hsb1 hS1)
theorem QoT {x:Str}{tk:Tok}{Q:Bool→Shared→Prop} (hS:Qdz prog w s.heap a ss) (hroom:ss.length+1 < scanBound)
  (h:∀h' b,Heap.SameBut a s.heap h'→Qdz prog w h' a (Qfh ss x)→Q b { s with heap:=h' }) :
  wpAny (model prog w) A (setAddHashed a (.str x tk) ((PySem.strKind prog w).hash x)) Q E s:=by
 obtain ⟨o,es,ep,t,ho,hex,hd,hel,hp,hb,hf,hpl,hled⟩:=hS
 have hkey:(PySem.strKind prog w).is x (.str x tk)=true:=by
  show Value.isStrOf x (.str x tk)=true;simp [Value.isStrOf]
 have hlen:es.size=ss.length:=by rw [←hp.length_eq]; unfold Qip; rw [zB,Array.length_toList]
 have hb1:es.size+1 < scanBound:=by rw [hlen]; exact hroom
 have hsc:(Value.str x tk).scannable=true:=rfl
 have key:∀e∈es.toList,∀y,(PySem.strKind prog w).is y e.2=true↔strOf e.2=y:=fun e he y=>by
  obtain ⟨⟨k,hk,_⟩,_⟩:=hel e he;obtain ⟨t',ht⟩:=Value.isStrOf_shape hk;rw [ht];show Value.isStrOf y (.str k t')=true↔k=y;simp [Value.isStrOf]
 unfold setAddHashed setAddHashedIn;refine zV (za (wpAny_setState_of ho hd hf ?_));dsimp only;rw [byScan_of hsc hb hel];simp only [↓reduceIte];unfold setAddByScan;refine za ?_;refine za (wpAny_rule ?_);refine za (wpAny_setScan_of hkey ho hd hf hel ?_)
 cases hr:List.findIdx? (fun e=>(PySem.strKind prog w).is x e.2) es.toList with
 | some j =>
  dsimp only;obtain ⟨hj,hpj,_⟩:=List.findIdx?_eq_some_iff_getElem.mp hr;have hx:x∈ss:=hp.mem_iff.mp (zU.mpr ⟨es.toList[j],ji hj,(key _ (ji hj) x).mp hpj⟩);refine zb (zb ?_)
  have e:s = { s with heap:=s.heap }:=by cases s; rfl
  rw [e];exact h s.heap _ (Heap.SameBut.refl a s.heap) ⟨o,es,ep,t,ho,hex,hd,hel,by rw [Qfh,if_pos hx]; exact hp,hb,hf,hpl,hled⟩
 | none =>
  dsimp only
  have hx:x∉ss:=fun hx=>by
   obtain ⟨e,he,q⟩:=zU.mp (hp.mem_iff.mpr hx)
   have:=List.findIdx?_eq_none_iff.mp hr e he
   rw [(key e he x).mpr q] at this;exact Bool.noConfusion this
  have hgw:∀(b:Bool) {s₁:Shared}{Q':Unit→Shared→Prop},Q' () s₁→wpAny (model prog w) A (match b with | true=>rule "set.scan.the-table-gave-way" | false=>pure ()) Q' E s₁ :=
   fun b s₁ Q' hq=>by cases b <;> first | exact zb hq | exact wpAny_rule hq
  have hperm:=layNew_perm t es ((PySem.strKind prog w).hash x) (.str x tk);have hfits:=layNew_fits t es ((PySem.strKind prog w).hash x) (.str x tk);have hll:=Qqt t es ((PySem.strKind prog w).hash x) (.str x tk)
  generalize hL:layNew t es ((PySem.strKind prog w).hash x) (.str x tk)=L at hperm hfits hll ⊢
  obtain ⟨es1,t1,wasDummy,gave⟩:=L;dsimp only at hperm hfits hll ⊢;rw [Array.toList_push] at hperm;have hel1:ElemsOf (PySem.strKind prog w) es1.toList:=(hel.push hkey hsc).perm hperm
  have hp1:(Qip es1).Perm (Qfh ss x):=by
   rw [Qfh,if_neg hx];refine (hperm.map fun e=>strOf e.2).trans ?_;rw [zP];exact hp.append_right _
  have hb1':es1.size < scanBound:=by rw [←Array.length_toList,hperm.length_eq,zw,Array.length_toList]; simpa using hb1
  refine za (hgw _ ?_)
  split
  ·refine za ?_;refine za (m:=hashByValue 8 (.str x tk)) (zb ?_);refine zb ?_;simp only [Bool.false_eq_true,↓reduceIte];refine Qj4 (t2:={ t1 with plain:=false }) ?_ ho hex hd hel1 hp1 hb1' (SetTable.fits_plain_off hfits) rfl (hll.trans hled) ?_
   ·intro b s₁ Q' hq; cases b <;> first | exact zb hq | exact wpAny_rule hq
   ·intro h' hsb hS'; dsimp only; exact zb (h h' _ hsb hS')
  ·rename_i hnp;refine za (zb ?_);simp only [↓reduceIte];refine Qj4 ?_ ho hex hd hel1 hp1 hb1' hfits (by simpa using hnp) (hll.trans hled) ?_
   ·intro b s₁ Q' hq; cases b <;> first | exact zb hq | exact wpAny_rule hq
   ·intro h' hsb hS'; dsimp only; exact zb (h h' _ hsb hS')
theorem isS (x:Str) (t:Tok):(PySem.strKind prog w).is x (.str x t)=true:=by
 show Value.isStrOf x (.str x t)=true;simp [Value.isStrOf]
theorem map_getD (ns:List Str):(List.range' 0 ns.length).map (fun i=>ns.getD i ⟨#[]⟩)=ns:=by
 apply List.ext_getElem
 ·simp
 ·intro i h1 h2;simp [zW,h2]
theorem QnS {R:Result→Shared→Prop}{I:Addr}{fp wr:List Addr}{G:Array GenState→Array GenState→Prop}{n:Nat}{P:Nat→Value→Prop}{St:Nat→Shared→Prop} (W:WalksS prog w A.in1 I fp wr G n P St) (S:Addr) (hSf:S∉fp)
  (val:Nat→Str) (hval:∀i v,P i v→∃t,v = .str (val i) t) (hb:n+1 < scanBound) :
  ∀(k i:Nat) (s:Shared) (ss:List Str),n - i=k→i≤n→St i s→ss.length≤i→Qdz prog w s.heap S ss →
   (∀s',Moved (S::wr) G s s'→Qdz prog w s'.heap S (((List.range' i (n - i)).map val).foldl Qfh ss)→R (.ok (.ret .none)) s') →
   codeAny (model prog w) A (.builtin "set.update.loop" ⟨[.ref S,.ref I],[]⟩) R s:=by
 have hSw:S∉wr:=fun h=>hSf (W.sub _ h)
 have hsub:∀b∈wr,b∈S::wr:=fun b hb=>zm _ hb
 intro k
 induction k with
 | zero =>
  intro i s ss hk hi hst hle hS hR
  have hin:i=n:=by omega
  subst hin;refine codeAny_builtin PyProof.Rows.F.entry_set_update_loop ?_;rw [Around.under_plainId PyProof.Rows.F.plain_set_update_loop _];show wpAny _ A.in1 (pyNext (.ref I) >>= _) _ _ s;refine za (W.done s _ _ hst fun s' hm=>?_);show wpAny _ A.in1 (ret Value.none) _ _ s';refine zb (hR s' (hm.mono hsub) ?_);rw [Nat.sub_self]
  exact hS.at fun o e=>hm.heap S _ hSw e
 | succ k ih =>
  intro i s ss hk hi hst hle hS hR
  have hlt:i < n:=by omega
  refine codeAny_builtin PyProof.Rows.F.entry_set_update_loop ?_;rw [Around.under_plainId PyProof.Rows.F.plain_set_update_loop _];show wpAny _ A.in1 (pyNext (.ref I) >>= _) _ _ s;refine za (W.item i s _ _ hlt hst fun v s' hP hst' hm=>?_);obtain ⟨t,rfl⟩:=hval i v hP
  have hS':Qdz prog w s'.heap S ss:=hS.at fun o e=>hm.heap S _ hSw e
  show wpAny _ A.in1 (holding [Value.str (val i) t] (setAdd S (.str (val i) t)) >>= _) _ _ s';refine za (zV ?_);unfold setAdd;refine zV ?_;refine za ((PySem.strKind prog w).pyHash (k:=val i) (isS _ _) ?_)
  refine QoT (s:={ s' with toks:=s'.toks+1 }) hS' (by omega) fun h' b hsb hS2=>?_
  refine zb ⟨plainId_quiet PyProof.Rows.F.plain_set_update_loop _,ih (i+1) _ (Qfh ss (val i)) (by omega) hlt (W.frame _ s' _ _ hst' (Nat.le_succ _) fun b hb o e=>?_) ?_ hS2 fun s'' hm'' hS''=>?_⟩
  ·rw [hsb.2 b (fun h:b=S=>hSf (by rw [←h]; exact hb))]; exact e
  ·unfold Qfh
   split
   ·omega
   ·rw [zw,jc]; omega
  ·refine hR s'' (Moved.trans W.gtrans ((hm.mono hsub).then_heap (Nat.le_succ _) fun b o hb e=>?_) hm'') ?_
   ·rw [hsb.2 b (fun h:b=S=>hb (by rw [h]; exact zu))]; exact e
   ·rw [show n - i=(n - (i+1))+1 by omega,List.range'_succ,zd,List.foldl_cons];exact hS''
theorem QpF (x:Value) {Q₁:Value→Shared→Prop}
  (h:Q₁ (.ref s.heap.objs.size) { s with heap:=s.heap.push { cls:=.type "set",dict:=none,data:=.set #[] 0 (.fresh 0 0 (!w.params.followText "set-order")) } }) :
  codeAny (model prog w) A (.call (.builtin "set.__new__") ⟨[.type "set",x],[]⟩) (wants Q₁ E) s:=by
 refine codeAny_of_tree ?_;show wpAny _ A.in1 (do checkBuiltinCall "set.__new__" ⟨[.type "set",x],[]⟩; again (.builtin "set.__new__" ⟨[.type "set",x],[]⟩)) _ _ s;refine za (wpAny_of_eq (PySem.F.newCall_set_1 x) (zb ⟨plainId_quiet PySem.F.plain_set_new _,codeAny_builtin PySem.F.entry_set_new ?_⟩));rw [Around.under_plainId PySem.F.plain_set_new _];unfold Builtin.«set.__new__» Builtin.Frozenset.newClass;have hsub:=sub_set_self;obtain ⟨hp,g,d,tk,os⟩:=s;dsimp only
 wp_walk
 refine wpAny_askSetting (zb ?_);dsimp only;simp only [newObj];refine za (wpAny_alloc (zb ?_));exact zb h
theorem QnJ {h:Heap}:Qdz prog w (h.push { cls:=.type "set",dict:=none,data:=.set #[] 0 (.fresh 0 0 (!w.params.followText "set-order")) }) h.objs.size [] :=
 ⟨_,#[],0,_,zC _ rfl,⟨rfl,rfl,rfl⟩,rfl,fun e he=>by simp at he,.nil,by decide,by rfl,.inl rfl,rfl⟩
set_option maxHeartbeats 8000000 in
theorem Qq2 {l:Addr}{items:Array Value}{ns:List Str}{Q:Value→Shared→Prop}
  (hh:A.handled=none) (hl:s.heap.IsList l items) (hi:StrsAre items.toList ns) (hb:items.size+1 < scanBound)
  (h:∀(h':Heap) (tk:Nat),Qdz prog w h' s.heap.objs.size (ns.foldl Qfh []) →
   (∀b o,s.heap.get? b=some o→h'.get? b=some o)→Q (.ref s.heap.objs.size) { s with heap:=h',toks:=tk }) :
  wpAny (model prog w) A (call (.type "set") [.ref l]) Q E s:=by
 obtain ⟨c,tl,hmro⟩:=PySem.F.called_set.mro;have hmade:=PySem.F.called_set.made;have hsub:=PySem.F.called_set.sub;refine wpAny_call (codeAny_of_tree ?_);show wpAny _ _ (callAny (.type "set") _) _ _ _;refine zb ⟨Code.quiet_builtin _ (by decide +kernel),codeAny_builtin PySem.F.entry_type_call ?_⟩;rw [Around.under_plain (weight_type_call_type "set" [.ref l] []) rfl];have h1:=PySem.F.called_set.notType;have h2:=PySem.F.called_set.canCreate;have hct:=PySem.F.typeCall_set_1 (.ref l)
 repeat (any_goals (first | assumption | wp_step))
 generalize hO:({ cls:=.type "set",dict:=none,data:=.set #[] 0 (.fresh 0 0 (!w.params.followText "set-order")) }:Obj)=O0
 refine codeAny_mono (QpF (.ref l) (E:=E) (Q₁:=fun obj s₁=>obj = .ref s.heap.objs.size∧s₁ = { s with heap:=s.heap.push O0 }) (by rw [hO]; exact ⟨rfl,rfl⟩)) fun r s₁ hr=>?_
 cases r with
 | error e=>exact hr
 | ok fl =>
  cases fl with
  | ret obj =>
   obtain ⟨rfl,rfl⟩:=hr
   have hfr:Qdz prog w (s.heap.push O0) s.heap.objs.size []:=by rw [←hO]; exact QnJ
   have hS:(s.heap.push O0).get? s.heap.objs.size=some O0:=by rw [←hO]; exact zC _ rfl
   have hcls:O0.cls = .type "set":=by rw [←hO]
   have hdat:O0.data = .set #[] 0 (.fresh 0 0 (!w.params.followText "set-order")):=by rw [←hO]
   have hT:Shared.TypeIs { s with heap:=s.heap.push O0 } (.ref s.heap.objs.size) "set":=⟨_,hS,hcls⟩;have hli:=PySem.F.called_set.init.lookup;have hbi:=PySem.F.called_set.init.bind (.ref s.heap.objs.size)
   repeat (any_goals (first | assumption | wp_step))
   refine codeAny_mono (codeAny_call_builtin (R:=wants (fun r s₂=>r = .none∧∃h' tk,s₂ = { s with heap:=h',toks:=tk } ∧
     Qdz prog w h' s.heap.objs.size (ns.foldl Qfh []) ∧
     (∀b o,s.heap.get? b=some o→h'.get? b=some o)) E) PySem.F.called_set.init.plain PySem.F.entry_set_init (check_set_init_1 hT ?_)) fun r₂ s₂ hr₂=>?_
   ·subst hO;obtain ⟨ol,hol,hcl,nl,hdl⟩:=hl;obtain ⟨ocls,odict,odata,oslots⟩:=ol;simp only at hcl hdl;subst hcl; subst hdl;have hol':(s.heap.push { cls:=.type "set",dict:=none,data:=.set #[] 0 (.fresh 0 0 (!w.params.followText "set-order")) }).get? l=some { cls:=.type "list",dict:=odict,data:=.seq items nl,slots:=oslots }:=zq _ hol;have hsls:=PySem.F.sub_list_set;have hslf:=PySem.F.sub_list_frozenset
    have hne:(Value.type "list" == Value.type "dict")=false:=by decide
    have hl1:(s.heap.push { cls:=.type "set",dict:=none,data:=.set #[] 0 (.fresh 0 0 (!w.params.followText "set-order")) }).IsList l items:=⟨_,hol',rfl,nl,rfl⟩;unfold Builtin.«set.__init__» noKeywords Builtin.Frozenset.updateFrom
    generalize hPI:pyIter=PI
    wp_walk
    subst hPI;refine wpAny_pyIter_list hl1 ?_;refine za (wpAny_runValue ?_);have hlS:l < s.heap.objs.size:=zf hol
    have hh3:A.in1.in1.in1.handled=none:=by simp [hh]
    have hneI:l≠(s.heap.push { cls:=.type "set",dict:=none,data:=.set #[] 0 (.fresh 0 0 (!w.params.followText "set-order")) }).objs.size:=by
     rw [Heap.size_push]; exact zp (Nat.lt_succ_of_lt hlS)
    have hSf:s.heap.objs.size∉[(s.heap.push { cls:=.type "set",dict:=none,data:=.set #[] 0 (.fresh 0 0 (!w.params.followText "set-order")) }).objs.size,l]:=by
     rw [Heap.size_push]; simp only [zn,zo,List.not_mem_nil,or_false,not_or];exact ⟨zp (je _),Nat.ne_of_gt hlS⟩
    have hnl:ns.length=items.size:=by rw [←hi.strs,zB,Array.length_toList]
    have hval:∀(i:Nat) (v:Value),items[i]? = some v→∃t,v = .str ((fun i=>ns.getD i ⟨#[]⟩) i) t:=fun i v hv=>by
     have hv':items.toList[i]? = some v:=by rw [Array.getElem?_toList]; exact hv
     obtain ⟨x,t,rfl⟩:=hi.all v (zI hv');refine ⟨t,?_⟩
     have hm:(items.toList.map strOf)[i]? = some x:=by rw [zG,hv']; rfl
     rw [hi.strs] at hm;show Value.str x t=Value.str (ns.getD i ⟨#[]⟩) t;rw [zW,hm];rfl
    refine QnS ((Walks.list hh3 _ l hneI items).toS) s.heap.objs.size
     hSf (fun i=>ns.getD i ⟨#[]⟩) hval hb (items.size - 0) 0 _ [] (by omega) (Nat.zero_le _)
     ⟨⟨_,zC _ rfl,rfl,rfl⟩,(hl1.push _)⟩ (zc _) (QnJ.at fun o e=>zq _ e) ?hR
    intro s' hm hS';rw [Nat.sub_zero,←hnl] at hS';rw [map_getD] at hS';obtain ⟨h',g',d',tk',os'⟩:=s';have eg:g'=s.gens:=hm.gens;have ed:d'=s.drawn:=hm.drawn;have eo:os'=s.os:=hm.os;subst eg; subst ed; subst eo;show wpAny _ _ _ _ _ _;refine zb ?_;show wpAny _ _ (ret Value.none) _ _ _;refine zb ⟨rfl,h',tk',rfl,hS',fun b o e=>?_⟩;have hb':=zf e;have hb1:b≠s.heap.objs.size:=zp hb'
    have hb2:b≠(s.heap.push { cls:=.type "set",dict:=none,data:=.set #[] 0 (.fresh 0 0 (!w.params.followText "set-order")) }).objs.size:=by
     rw [Heap.size_push]; exact zp (Nat.lt_succ_of_lt hb')
    exact hm.heap b o (by simp only [zn,zo,List.not_mem_nil,or_false,not_or]; exact ⟨hb1,hb2⟩) (zq _ (zq _ e))
   ·cases r₂ with
    | error e=>exact hr₂
    | ok fl₂ =>
     cases fl₂ with
     | ret r =>
      obtain ⟨rfl,h',tk,rfl,hS',hk'⟩:=hr₂
      repeat (any_goals (first | assumption | wp_step))
      exact h _ _ hS' hk'
     | _=>exact hr₂.elim
  | _=>exact hr.elim
end
def ItS (h:Heap) (I a:Addr) (first:Value) (i n ep:Nat):Prop:=∃o,h.get? I=some o∧o.cls = .type "set_iterator"∧o.data = .fields #[first,.int i 0,.ref a,.int n 0,.int ep 0]
section
variable {prog:Program}{w:World}{A:Around}{E:Value→Shared→Prop}{s:Shared}{a:Addr}{ss:List Str}{o:Obj}{es:Array (Int×Value)}{ep:Nat}{t:SetTable}
theorem ItS.typeIs {I:Addr}{first:Value}{i n:Nat} (h:ItS s.heap I a first i n ep):s.TypeIs (.ref I) "set_iterator":=let ⟨o,h1,h2,_⟩:=h; ⟨o,h1,h2⟩
end
section
variable {prog:Program}{w:World}{A:Around}{E:Value→Shared→Prop}{s:Shared}{a:Addr}{ss:List Str}{o:Obj}{es:Array (Int×Value)}{ep:Nat}{t:SetTable}
theorem ItS.at {h h':Heap}{I:Addr}{first:Value}{i n:Nat} (x:ItS h I a first i n ep) (e:∀o,h.get? I=some o→h'.get? I=some o):ItS h' I a first i n ep:=let ⟨o,ho,r⟩:=x; ⟨o,e _ ho,r⟩
theorem QmH.at {h h':Heap} (x:QmH prog w h a ss o es ep t) (e:∀o,h.get? a=some o→h'.get? a=some o):QmH prog w h' a ss o es ep t:=⟨e _ x.1,x.2⟩
end
section
variable {X:Cx}
variable {md:List Md}{P:Pt}
end
structure QwF (mg:Str→Option Value):Prop extends Qs3 mg where
 set_:mg "set" = none
section
variable {prog:Program}{w:World}{A:Around}{E:Value→Shared→Prop}{s:Shared}{K:Frag}{H F:Hp}{as:List Addr}
end
section
variable {X:Cx}
end
end L2
namespace L2
open PySem PySem.Spec PyProof.Rows
section
variable {X:Cx}{md:List Md}{P:Pt}{R:RR}
def QhY (mo m:M D):MS:=fun ρ O=>match mo ρ O with
 | .ok (.ob n) O1=>match O1[n]? with
  | some (.ml _)=>match m ρ O1 with
   | .ok d O2=>match O2[n]?,QaK O2 d with
    | some (.ml ds),.lst es=>if ds.length+es.length≤1000000 then .nx ρ (O2.set n (.ml (ds++es))) else .no
    | _,_=>.no
   | _=>.no
  | _=>.no
 | _=>.no
theorem Qqj {o e:Expr}{apos cpos pos:Pos}{mo m:M D} (ho:VE X md P o mo) (h:SE X md P e m)
  (hbase:attributeBase o "extend" X.env (eval o X.env)=eval o X.env:=by rfl)
  (hfew:((backTo cpos (starEach [e] X.env)).all (fun x=>!x.1)&&(backToKw cpos (keywordEach [] X.env)).all (fun x=>x.1.isSome)&&decide ([e].length+([]:List Keyword).length+(if ([]:List Keyword).isEmpty then 0 else 1) < 30))=true:=by rfl)
  (hline:(apos.endLine == cpos.line)=true:=by rfl) (hs:starEach [e] X.env=(false,eval e X.env)::starEach [] X.env:=by exact Qbl rfl) (hplain:(backTo cpos (starEach [] X.env)).any (·.1)=false:=by exact Qbk rfl)
  (hsw:swapsWith (.Call (.Attribute o "extend" apos) [e] [] cpos) none pos.line X.env=pure false:=by rfl) :
  VS X md P R (.Expr (.Call (.Attribute o "extend" apos) [e] [] cpos) pos) (QhY mo m) :=
 (Qfq (QfW PySem.F.plainAttrs_list PySem.F.slot_list_extend PySem.F.type_list_extend Qmr ho (QbV h QcI hs) hbase hfew hline hs hplain) hsw).imp fun D σ H q=>by
  obtain ⟨ρ,O,F,as,r,s,k⟩:=q;unfold QhY at k;split at k
  ·rename_i n O1 e1;split at k
   ·rename_i ds0 e2;split at k
    ·rename_i d O2 e3;split at k
     ·rename_i ds es e4 e5;split at k
      ·rename_i hz;refine ⟨ρ,O,F,as,_,_,r,s,e1,fun v H1 F1 as1 g1 r1 hv=>?_⟩;obtain ⟨a,rfl,ha⟩:=Rp.unO hv;obtain ⟨xs0,x1,x2⟩:=r1.ml ha e2;refine ⟨.inl ⟨rfl,xs0,.inl (.inl x1)⟩,ρ,O1,F1,as1,d,O2,r1,s.step g1,e3,fun y H2 F2 as2 g2 r2 hy=>?_⟩;have ha2:=g2.at_ n a ha;obtain ⟨xs,y1,y2⟩:=r2.ml ha2 e4;have ly:=Sv.lk hy r2;rw [e5] at ly;obtain ⟨b,zs,rfl,w1,w2⟩:=ly.list r2.fh;have g3:Gr H2 F2 as2 (upd H2 a (.lst (xs++zs))) F2 as2:=QjH (zI ha2) y1;exact ⟨a,b,xs,zs,rfl,rfl,y1,w1,by rw [y2.length,w2.length]; exact Qdn hz,k σ _ F2 as2 ((g1.trans g2).trans g3).toS (r2.mutO ha2 (Rps.append w2 y2)) (s.step ((g1.trans g2).trans g3))⟩
      ·exact False.elim k
     ·exact False.elim k
    ·exact False.elim k
   ·exact False.elim k
  ·exact False.elim k
end
section
variable {X:Cx}{md:List Md}{P:Pt}
variable {tg iter elt:Expr}{ifs:List Expr}{scope:Scope}{pos:Pos}{mi:M D}{g:MG}{t:M Bool}{e:M D}
end
end L2
namespace L2
open PySem PySem.Spec PyProof.Rows PySem.W
def CXE (Pr:Program) (w:World):CXT:=fun outer H s E e s'=>∃(ea C:Addr) (H':Hp) (B:Heap) (a0:Value),e = .ref ea∧s'.os=s.os∧AllBare s'.gens∧Un (frs outer) [] H H' s.heap s'.heap∧HOk Pr w H' s'.heap ∧
 Heap.FlyingW B outer ea (.ref C) a0 s'.heap∧(∀b u,H' b=some u→∃o,B.get? b=some o)∧(∀b o,s.heap.get? b=some o→b∉frs outer→∃o',B.get? b=some o')∧E (.ref C) none H'
section
variable {X:Cx}{md:List Md}{P:Pt}{R:RR}
def Qm3 (K:Frag) (mg:Str→Option Value) (md:List Md) (P:Pt) (R:RR) (W:Xc→Hp→Prop) (D:Ends) (H F:Hp) (as:List Addr):Fl→Prop
 | .ex x O'=>∀H' F' as',GrS P H F as H' F' as'→RlO K mg O' H' F' as'→W x H'
 | f=>Qdm K mg md P R D H F as f
theorem Qm3.gr {K:Frag}{mg:Str→Option Value}{W:Xc→Hp→Prop}{D:Ends}{H F H' F':Hp}{as as':List Addr}{f:Fl} (g:GrS P H F as H' F' as') (h:Qm3 K mg md P R W D H F as f):Qm3 K mg md P R W D H' F' as' f:=by
 cases f with
 | ex x O'=>exact fun H2 F2 as2 g2 r2=>h H2 F2 as2 (g.trans g2) r2
 | nx ρ' O'=>exact fun σ' H2 F2 as2 g2 r2 s2=>h σ' H2 F2 as2 (g.trans g2) r2 s2
 | bk ρ' O'=>exact fun σ' H2 F2 as2 g2 r2 s2=>h σ' H2 F2 as2 (g.trans g2) r2 s2
 | ct ρ' O'=>exact fun σ' H2 F2 as2 g2 r2 s2=>h σ' H2 F2 as2 (g.trans g2) r2 s2
 | rt d O'=>exact fun v H2 F2 as2 g2 r2 s2=>h v H2 F2 as2 (g.trans g2) r2 s2
 | no=>exact h
end
def bmV:List Value:=[.type "ValueError",.type "Exception",.type "BaseException",.type "object"]
section
variable {X:Cx}{md:List Md}{P:Pt}{R:RR}
end
theorem Qbx.has {P:Program}{w:World}{H:Hp}{h:Heap}{a:Addr}{o:HO} (x:Qbx P w H h a o):∃u,h.get? a=some u:=by
 cases o with
 | lst xs=>exact let ⟨_,_,_,_,e⟩:=x; ⟨_,e⟩
 | tup xs=>exact let ⟨_,_,_,_,e,_⟩:=x; ⟨_,e⟩
 | dK kvs=>exact let ⟨_,_,_,_,_,_,_,e,_⟩:=x; ⟨_,e⟩
 | dT kvs=>exact let ⟨_,_,_,_,_,_,_,e,_⟩:=x; ⟨_,e⟩
 | set S n=>exact let ⟨_,_,_,_,e,_⟩:=x; ⟨_,e⟩
 | ins C dx fs=>exact let ⟨_,_,_,e,_⟩:=x; ⟨_,e⟩
 | own y=>exact let ⟨_,e⟩:=x; ⟨_,e⟩
 | xd fs=>exact let ⟨_,⟨_,_,_,e,_⟩,_⟩:=x; ⟨_,e⟩
 | rng lo hi=>exact let ⟨_,_,_,e⟩:=x; ⟨_,e⟩
 | frz ob u=>exact ⟨_,x.1⟩
 | tbl ps=>exact ⟨_,x⟩
 | met f y=>exact ⟨_,x⟩
 | ext φ=>exact x.2.1
theorem HOk.only {P:Program}{w:World}{H:Hp}{h h':Heap} (x:HOk P w H h) (k:∀b v u,H b=some v→h.get? b=some u→h'.get? b=some u):HOk P w H h':=fun a o e =>
 (x a o e).stay (fun b u hb q=>by
  rcases hb with rfl | hb
  ·exact k _ _ u e q
  ·exact k b _ u hb q) (fun _ q=>q) fun _ _ q=>q
theorem Un.then {fs:List Addr}{H0 H:Hp}{h0 h1 h2:Heap} (u:Un fs [] H0 H h0 h1) (st:∀b o,h1.get? b=some o→b∉fs→(∃o',h0.get? b=some o')→h2.get? b=some o)
  (fr:∀b o,h1.get? b=some o→b∈fs→∃sl,h2.get? b=some { o with slots:=sl }):Un fs [] H0 H h0 h2 where
 keep:=fun b o q n nf nx=>st b o (u.keep b o q n nf nx) nf ⟨o,q⟩
 slot:=fun b o q n hb nx=>by
  obtain ⟨sl,e⟩:=u.slot b o q n hb nx;obtain ⟨sl2,e2⟩:=fr b _ e hb;exact ⟨sl2,e2⟩
 free:=u.free
 there:=fun b o q nx=>by
  obtain ⟨o',e⟩:=u.there b o q nx
  by_cases hb:b∈fs
  ·obtain ⟨sl,e2⟩:=fr b o' e hb;exact ⟨_,e2⟩
  ·exact ⟨o',st b o' e hb ⟨o,q⟩⟩
 tups:=u.tups
 frzs:=u.frzs
 tbls:=u.tbls
def QrM (P:Program) (w:World) (K:Frag) (mg:Str→Option Value) (base:Heap) (x:Str) (ps:List Str) (k:Nat) (sp:Sp):Prop :=
 ∃f fd,mg x=some (.ref f)∧keepIn K (.ref f)=true∧Binds K fd ps []∧Qbp P w K mg base (CXE P w) k f fd ps sp∧∃oc od osl,K.lookup f=some ⟨oc,od,.func fd,osl⟩
def QtE (K:Frag) (mg:Str→Option Value) (R:RR) (H F:Hp) (as:List Addr) (Q:VK) (E:XK):Res D→Prop
 | .ok d O'=>∀v H' F' as',Gr H F as H' F' as'→RlO K mg O' H' F' as'→R (fun a=>H a=none) H' F' as' v d→Q v H'
 | .ex x O'=>∀C H' F' as',mg x.cls=some (.ref C)→Gr H F as H' F' as'→RlO K mg O' H' F' as'→E (.ref C) none H'
 | .no=>False
def QmP (K:Frag) (mg:Str→Option Value) (pm:List Md) (R:RR) (c:List D→Qaa→Res D):Sp:=fun vs H Q E =>
 ∃ds O F as,RlO K mg O H F as∧QbI K H F as pm vs ds∧QtE K mg R H F as Q E (c ds O)
section
variable {Pr:Program}{w:World}{K:Frag}{mg:Str→Option Value}{base:Heap}
theorem QrM.can {x:Str}{ps:List Str}{k:Nat}{pm:List Md}{R:RR}{c:List D→Qaa→Res D} (C:QrM Pr w K mg base x ps k (QmP K mg pm R c)) (hl:pm.length=ps.length:=by rfl):Can Pr w K mg base x ps k (vSp K mg pm R c):=by
 obtain ⟨f,fd,hm,hk,hb,Fn,lk⟩:=C;refine ⟨f,fd,hm,hk,hb,⟨fun vs H Q E h=>?_,fun A outer s H args us vs Q E hr e0 hbi r h=>?_⟩,lk⟩
 ·obtain ⟨ds,O,F,as,d,O',r,a,_⟩:=h;rw [a.len.1,hl]
 ·obtain ⟨ds,O,F,as,d,O',ro,a,e,q⟩:=h
  have z:QmP K mg pm R c vs H Q fun _ _ _=>False:=⟨ds,O,F,as,ro,a,by rw [e]; exact q⟩
  refine codeAny_mono (Fn.run A outer s H args us vs Q _ hr e0 hbi r z) fun res s' hq=>?_
  cases res with
  | error ev =>
   obtain ⟨_,_,_,_,_,_,_,_,_,_,_,_,_,f0⟩:=hq;exact f0.elim
  | ok fl=>cases fl <;> exact hq
end
section
variable {X:Cx}{pins:List (Addr×Obj)}{σ:St}{H:Hp}{s:Shared}{ea:Addr}{oe:Obj}
end
end L2
namespace L2
open PySem PySem.Spec PyProof.Rows PySem.W PySem.Calls PySem.Builtin PySem.Builtin.ObjectAttr PySem.Builtin.Getset_descriptor
section
variable {prog:Program}{w:World}{A:Around}{E:Value→Shared→Prop}{K:Frag}{a C:Addr}{o:Obj}{h:Heap}{g:Array GenState}{d:Drawn}{t:Nat}{os:OsState}
structure QoQ (K:Frag) (C:Addr):Prop where
 ga:findIn K (.ref C) "__getattribute__" = some (some (.builtin "BaseException.__getattribute__"))
 na:findIn K (.ref C) "__getattr__" = some none
 ca:findIn K (.ref C) "__class__" = some (some (.builtin "object.__class__"))
 sp:specialIn K (.builtin "object.__class__") "__get__" = some (some (.builtin "getset_descriptor.__get__"))
 tk:takesIn K (.builtin "object.__class__")=some true
 ob:mroIn K C (.type "object")=some true
 be:mroIn K C (.type "BaseException")=some true
 cl:(clsIn K C).isSome=true
end
end L2
namespace L2
open PySem PySem.Spec PyProof.Rows PySem.W
section
variable {X:Cx}{ea C:Addr}{oe:Obj}
end
section
variable {X:Cx}{md:List Md}{P:Pt}{R:RR}
end
section
variable {X:Cx}{ea C:Addr}{oe:Obj}{i:Nat}{b:Bool}{n:Str}{p p1 pos:Pos}
end
end L2
namespace L2
open PySem PySem.Spec PyProof.Rows
section
variable {X:Cx}
def Qeh (l n:List Nat):List (List Nat):=(Txt.split (S l) (S n)).map fun x=>x.cps.toList
theorem Qkg:∀ws:List (Str×Tok),Qar ((ws.map (·.1)).map V.str) (strValues ws)
 | []=>.nil
 | a::ws=>.cons ⟨a.2,rfl⟩ (Qkg ws)
theorem Qoa (l n:List Nat):(Qeh l n).map (fun y=>V.str (S y))=(Txt.split (S l) (S n)).map V.str:=by
 unfold Qeh;rw [zX]
 exact jf fun x _=>congrArg V.str (Qsh x)
def QsM:V→List V→Hp→VK→Prop:=fun x vs H Q=>∃l n:List Nat,x = .str (S l)∧vs = [.str (S n)]∧1≤n.length∧l.length≤1000000∧∀p,H p=none→Q (.ref p) (upd H p (.lst ((Qeh l n).map fun y=>V.str (S y))))
theorem QpE:MtR X "str.split" QsM:=by
 intro pins s σ H x xs v us Q I rx rs h;obtain ⟨l,n,rfl,rfl,hn,hl,q⟩:=h;obtain ⟨a,rfl⟩:=rx;obtain ⟨u,rfl,ru⟩:=vals1 rs;obtain ⟨b,rfl⟩:=ru;have hs:sizeLine=16777216:=sizeLine_eq;have hw:=split_weight (S l) (S n) (by rw [QaU]; exact hn);rw [QaU] at hw
 have hy0:((S n).length == 0)=false:=by rw [QaU]; cases n with
  | nil=>cases hn
  | cons=>rfl
 have fin:∀(ws:List (Str×Tok)) (k:Tok),ws.map (·.1)=Txt.split (S l) (S n) →
   EP X pins σ Q (.ref s.heap.objs.size) { s with heap:=s.heap.push { cls:=.type "list",data:=.seq (strValues ws).toArray },toks:=k }:=fun ws k e =>
  ⟨.ref s.heap.objs.size,_,I.laid (t':=k) (fun b o z=>zq _ z) (zc _)
   (show Qbx X.prog X.w _ _ _ (.lst ((Qeh l n).map fun y=>V.str (S y))) from ⟨by rw [Qoa,zB]; omega,_,0,by rw [Qoa,←e]; exact Qkg ws,zC _ rfl⟩),rfl,q _ (I.hok.fresh (zc _))⟩
 cases h1:(decide ((S l).length < (S n).length) || decide (Builtin.Str.strKind (S l) < Builtin.Str.strKind (S n)))
 ·cases hf:(Builtin.Str.occurrences (S l) (S n) 0 (S l).length ((S l).length+1)).isEmpty
  ·have hle:(Builtin.Str.partsBetween (S l) (Builtin.Str.occurrences (S l) (S n) 0 (S l).length ((S l).length+1)) (S n).length).length≤sizeLine:=by
    have e1:=StrLaws.occ_length_le (S l) (S n) 0 (S l).length ((S l).length+1);rw [QaU] at e1;rw [length_partsBetween,QaU];omega
   refine call_meets F.slot_str_split (typeIs_str _ _ _) F.entry_str_split (F.args_str_split_2 _ _) (meets_str_split_sep _ _ a b h1 hy0 hf (by rw [QaU]; omega) hle) ?_;show wants _ _ _ { s with toks:=_,heap:=s.heap.push { cls:=.type "list",data:=.seq (strsFrom s.toks _).toArray } };rw [strsFrom_eq];exact fin _ _ ((numbered_texts _ _).trans ((if_neg (ne_true_of_eq_false h1)).trans (if_neg (ne_true_of_eq_false hf))).symm)
  ·exact call_meets F.slot_str_split (typeIs_str _ _ _) F.entry_str_split (F.args_str_split_2 _ _) (meets_str_split_not_found _ _ a b h1 hy0 hf) (fin [(S l,a)] s.toks ((if_neg (ne_true_of_eq_false h1)).trans (if_pos hf)).symm)
 ·exact call_meets F.slot_str_split (typeIs_str _ _ _) F.entry_str_split (F.args_str_split_2 _ _) (meets_str_split_cannot_occur _ _ a b h1) (fin [(S l,a)] s.toks (if_pos h1).symm)
def QfV (g:List Nat):List (List Nat)→List Nat
 | []=>[]
 | [a]=>a
 | a::b::r=>a++g++QfV g (b::r)
theorem QqW (g:List Nat):∀ls:List (List Nat),Txt.join (S g) (ls.map S)=S (QfV g ls):=by
 intro ls;show Builtin.Str.glued _ _=_;rw [StrLaws.glued_eq_join]
 induction ls with
 | nil=>rfl
 | cons a r ih =>
  cases r with
  | nil=>rfl
  | cons b r =>
   show S a++S g++Str.join (S g) ((b::r).map S)=S (a++g++QfV g (b::r));rw [ih,QiW,QiW]
variable {md:List Md}{P:Pt}
def QiY (mo m:M D):M D:=fun ρ O=>(mo ρ O).bind fun a O1=>(m ρ O1).bind fun b O2=>match a,b with
 | .str l,.str n=>if 1≤n.length∧l.length≤1000000 then .ok (.lst ((Qeh l n).map D.str)) O2 else .no
 | _,_=>.no
theorem Rps.strL {K:Frag}{F:Hp}{as:List Addr}:∀ls:List (List Nat),Rps K F as (ls.map fun y=>V.str (S y)) (ls.map D.str)
 | []=>Rps.nil
 | l::ls=>Rps.cons Rp.str (Rps.strL ls)
theorem Qpi {o e:Expr}{apos cpos:Pos}{mo m:M D} (ho:VE X md P o mo) (h:VE X md P e m)
  (hbase:attributeBase o "split" X.env (eval o X.env)=eval o X.env:=by rfl) (hfew:((backTo cpos (starEach [e] X.env)).all (fun x=>!x.1)&&(backToKw cpos (keywordEach [] X.env)).all (fun x=>x.1.isSome)&&decide ([e].length+([]:List Keyword).length+(if ([]:List Keyword).isEmpty then 0 else 1) < 30))=true:=by rfl)
  (hline:(apos.endLine == cpos.line)=true:=by rfl) (hs:starEach [e] X.env=(false,eval e X.env)::starEach [] X.env:=by exact Qbl rfl) (hplain:(backTo cpos (starEach [] X.env)).any (·.1)=false:=by exact Qbk rfl) :
  OE X md P (.Call (.Attribute o "split" apos) [e] [] cpos) (QiY mo m) :=
 (QfW PySem.F.plainAttrs_str PySem.F.slot_str_split PySem.F.type_str_split QpE ho (QbV h QcI hs) hbase hfew hline hs hplain).imp fun σ H Q q=>by
  obtain ⟨ρ,O,F,as,d,O',r,s,e,k⟩:=q;obtain ⟨a,O1,e1,e⟩:=Res.bind_ok e;obtain ⟨b,O2,e2,e⟩:=Res.bind_ok e;split at e
  ·split at e
   ·rename_i hz;cases e;refine ⟨ρ,_,F,as,_,_,r,s,e1,fun v H1 F1 as1 g1 r1 hv=>?_⟩;cases Rp.unS hv;refine ⟨rfl,ρ,_,F1,as1,_,_,r1,s.step g1,e2,fun u H2 F2 as2 g2 r2 hu=>?_⟩;cases Rp.unS hu;refine ⟨_,_,rfl,rfl,hz.1,hz.2,fun p hp=>?_⟩;have g12:=g1.trans g2;exact Qh7 r2 (fun v' H' F' g' r' hw=>k v' H' F' as2 (g12.trans g') r' (Qcr _ _ _ _ _ _ _ (fun a ha=>g12.dm a ha) hw)) hp (Rps.strL _)
   ·cases e
  ·cases e
end
end L2
namespace L2
open PySem PySem.Spec PyProof.Rows PySem.W
section
variable {prog:Program}{w:World}{A:Around}{E:Value→Shared→Prop}
end
section
variable {X:Cx}{md:List Md}{P:Pt}{R:RR}
def Qh0 (mo m:M D):M D:=fun ρ O=>(mo ρ O).bind fun a O1=>(m ρ O1).bind fun b O2=>match a,b with
 | .str l,.str n=>.ok (.int (Txt.rfind (S l) (S n))) O2
 | _,_=>.no
def QsF:V→List V→Hp→VK→Prop:=fun x vs H Q=>∃l n:List Nat,x = .str (S l)∧vs = [.str (S n)]∧Q (.int (Txt.rfind (S l) (S n))) H
theorem Qpc:MtR X "str.rfind" QsF:=by
 intro pins s σ H x xs v us Q I rx rs h;obtain ⟨l,n,rfl,rfl,q⟩:=h;obtain ⟨a,rfl⟩:=rx;obtain ⟨u,rfl,ru⟩:=vals1 rs;obtain ⟨b,rfl⟩:=ru;exact SC.rfind ⟨.int _,H,I.tok _,⟨_,rfl⟩,q⟩
theorem QpJ {o e:Expr}{apos cpos:Pos}{mo m:M D} (ho:VE X md P o mo) (h:VE X md P e m)
  (hbase:attributeBase o "rfind" X.env (eval o X.env)=eval o X.env:=by rfl) (hfew:((backTo cpos (starEach [e] X.env)).all (fun x=>!x.1)&&(backToKw cpos (keywordEach [] X.env)).all (fun x=>x.1.isSome)&&decide ([e].length+([]:List Keyword).length+(if ([]:List Keyword).isEmpty then 0 else 1) < 30))=true:=by rfl)
  (hline:(apos.endLine == cpos.line)=true:=by rfl) (hs:starEach [e] X.env=(false,eval e X.env)::starEach [] X.env:=by exact Qbl rfl) (hplain:(backTo cpos (starEach [] X.env)).any (·.1)=false:=by exact Qbk rfl) :
  OE X md P (.Call (.Attribute o "rfind" apos) [e] [] cpos) (Qh0 mo m) :=
 (QfW PySem.F.plainAttrs_str PySem.F.slot_str_rfind PySem.F.type_str_rfind Qpc ho (QbV h QcI hs) hbase hfew hline hs hplain).imp fun σ H Q q=>by
  obtain ⟨ρ,O,F,as,d,O',r,s,e,k⟩:=q;obtain ⟨a,O1,e1,e⟩:=Res.bind_ok e;obtain ⟨b,O2,e2,e⟩:=Res.bind_ok e;split at e
  ·cases e;refine ⟨ρ,_,F,as,_,_,r,s,e1,fun v H1 F1 as1 g1 r1 hv=>?_⟩;cases Rp.unS hv;refine ⟨rfl,ρ,_,F1,as1,_,_,r1,s.step g1,e2,fun u H2 F2 as2 g2 r2 hu=>?_⟩;cases Rp.unS hu;exact ⟨_,_,rfl,rfl,k _ H2 F2 as2 (g1.trans g2) r2 (.inl ⟨rfl,Rp.int⟩)⟩
  ·cases e
end
def QkT (mg:Str→Option Value):List Str→List Addr→Prop
 | [],as=>as = []
 | n::ns,as=>∃a r,as=a::r∧mg n=some (.ref a)∧QkT mg ns r
theorem QkT.len {mg:Str→Option Value}:∀{ns:List Str}{as:List Addr},QkT mg ns as→as.length=ns.length
 | [],as,h=>by
  have h':as = []:=h;rw [h'];rfl
 | n::ns,as,h=>by
  obtain ⟨a,r,rfl,_,h2⟩:=h;rw [zk,h2.len,zk]
section
variable {X:Cx}{md:List Md}{P:Pt}{R:RR}
end
section
variable {X:Cx}{pins:List (Addr×Obj)}{σ:St}{H:Hp}{s:Shared}{ea:Addr}{oe:Obj}
end
section
variable {X:Cx}{md:List Md}{P:Pt}{R:RR}
theorem SlO.drop {K:Frag}{ρ:Qai}{σ:St}{H F:Hp}{as:List Addr}{i:Nat}{x:Option V} (s:SlO K md P ρ σ H F as) (hm:md[i]? = some .v):SlO K md P (ρ.set i none) (σ.set i x) H F as:=by
 have hi:i < ρ.length:=by rw [s.len']; exact (zh.mp hm).1
 have ne:∀(j:Nat) (d:D),(ρ.set i none)[j]? = some (some d)→j≠i∧ρ[j]? = some (some d):=fun j d e=>by
  by_cases hj:j=i
  ·subst hj;rw [zF hi] at e;cases e
  ·rw [ze (Ne.symm hj)] at e;exact ⟨hj,e⟩
 refine ⟨by rw [zQ]; exact s.len,by rw [zQ]; exact s.len',s.pd,fun j m d e1 e2=>?_,fun j k a ds es h1 h2 h3 h4 h5 h6=>?_,fun y hy=>?_⟩
 ·obtain ⟨hj,e2⟩:=ne j d e2;rw [ze (Ne.symm hj)];exact s.sl j m d e1 e2
 ·obtain ⟨hj,h3⟩:=ne j _ h3;obtain ⟨hk,h4⟩:=ne k _ h4;rw [ze (Ne.symm hj)] at h5;rw [ze (Ne.symm hk)] at h6;exact s.inj j k a ds es h1 h2 h3 h4 h5 h6
 ·obtain ⟨p1,p2,p3⟩:=s.pin y hy
  have hne:i≠y.1:=fun z=>by rw [←z,hm] at p1; cases p1
  rw [ze hne,ze hne];exact ⟨p1,p2,p3⟩
end
section
variable {X:Cx}{ea C:Addr}{oe:Obj}{i ja jb:Nat}{b:Bool}{n na nb w1 w2:Str}{p p1 pos:Pos}
end
section
variable {X:Cx}{md:List Md}{P:Pt}{R:RR}
end
def DK (h h':Heap):Prop:=∀b o,h.get? b=some o→∃o',h'.get? b=some o'∧o'.dict=o.dict
theorem DK.refl (h:Heap):DK h h:=fun _ o e=>⟨o,e,rfl⟩
theorem DK.trans {h h' h2:Heap} (x:DK h h') (y:DK h' h2):DK h h2:=fun b o e=>by
 obtain ⟨o1,e1,q1⟩:=x b o e;obtain ⟨o2,e2,q2⟩:=y b o1 e1;exact ⟨o2,e2,q2.trans q1⟩
theorem DK.upd {h:Heap}{a:Addr}{f:Obj→Obj} (hf:∀o,o.isFreed=false→(f o).isFreed=false∧(f o).dict=o.dict):DK h (h.update a f):=fun b o e=>by
 by_cases z:a=b
 ·subst z;have hz:=(Heap.get?_some_iff.mp e).2;exact ⟨f o,Heap.get?_update_self f e (hf o hz).1,(hf o hz).2⟩
 ·exact ⟨o,(Heap.get?_update_other h f z).trans e,rfl⟩
section
variable {X:Cx}{md:List Md}{P:Pt}{R:RR}
end
section
variable {X:Cx}{md:List Md}{P:Pt}{R:RR}
end
section
variable {Pr:Program}{w:World}{K:Frag}{mg:Str→Option Value}{base:Heap}
def Qp6 (P:Program) (w:World) (K:Frag) (mg:Str→Option Value) (base:Heap) (c m:Str) (ps:List Str) (k:Nat) (sp:Sp):Prop :=
 ∃C f fd,mg c=some (.ref C)∧Cls K C∧QiI K C m f∧Binds K fd ps []∧Qbp P w K mg base (CXE P w) k f fd ps sp
theorem Qp6.can {c x:Str}{ps:List Str}{k:Nat}{pm:List Md}{R:RR}{cf:List D→Qaa→Res D} (C:Qp6 Pr w K mg base c x ps k (QmP K mg pm R cf)) (hl:pm.length=ps.length:=by rfl):Qdb Pr w K mg base c x ps k (vSp K mg pm R cf):=by
 obtain ⟨C,f,fd,h1,h2,h3,hb,Fn⟩:=C;refine ⟨C,f,fd,h1,h2,h3,hb,⟨fun vs H Q E h=>?_,fun A outer s H args us vs Q E hr e0 hbi r h=>?_⟩⟩
 ·obtain ⟨ds,O,F,as,d,O',r,a,_⟩:=h;rw [a.len.1,hl]
 ·obtain ⟨ds,O,F,as,d,O',ro,a,e,q⟩:=h
  have z:QmP K mg pm R cf vs H Q fun _ _ _=>False:=⟨ds,O,F,as,ro,a,by rw [e]; exact q⟩
  refine codeAny_mono (Fn.run A outer s H args us vs Q _ hr e0 hbi r z) fun res s' hq=>?_
  cases res with
  | error ev =>
   obtain ⟨_,_,_,_,_,_,_,_,_,_,_,_,_,f0⟩:=hq;exact f0.elim
  | ok fl=>cases fl <;> exact hq
end
section
variable {X:Cx}{md:List Md}{P:Pt}{R:RR}
end
section
variable {X:Cx}{md:List Md}{P:Pt}{R:RR}{k:Nat}{c m:Str}{ps:List Str}{p pos apos:Pos}{o e:Expr}{es:List Expr}{pm:List Md}{cf:List D→Qaa→Res D}{mo:M D}{ma:M (List D)}
end
def CXF (Pr:Program) (w:World):CXT:=fun outer H s E e s'=>∃(ea C:Addr) (H':Hp) (B:Heap) (a0:Value) (dxo:Option Addr),e = .ref ea∧s'.os=s.os∧AllBare s'.gens∧Un (frs outer) [] H H' s.heap s'.heap∧HOk Pr w H' s'.heap ∧
 Heap.FlyingW B outer ea (.ref C) a0 s'.heap∧(∀b u,H' b=some u→∃o,B.get? b=some o)∧(∀b o,s.heap.get? b=some o→b∉frs outer→∃o',B.get? b=some o')∧(∃oe,s'.heap.get? ea=some oe∧oe.dict=dxo)∧E (.ref C) dxo H'
section
variable {X:Cx}{md:List Md}{P:Pt}{R:RR}
abbrev WX:=Xc→Option Addr→Hp→Prop
def Qnd (K:Frag) (mg:Str→Option Value) (md:List Md) (P:Pt) (R:RR) (W:WX) (D:Ends) (H F:Hp) (as:List Addr):Fl→Prop
 | .ex x O'=>∀dxo H' F' as',GrS P H F as H' F' as'→RlO K mg O' H' F' as'→XF K F' as' dxo x.fs→W x dxo H'
 | f=>Qdm K mg md P R D H F as f
theorem Qnd.gr {K:Frag}{mg:Str→Option Value}{W:WX}{D:Ends}{H F H' F':Hp}{as as':List Addr}{f:Fl} (g:GrS P H F as H' F' as') (h:Qnd K mg md P R W D H F as f):Qnd K mg md P R W D H' F' as' f:=by
 cases f with
 | ex x O'=>exact fun d H2 F2 as2 g2 r2=>h d H2 F2 as2 (g.trans g2) r2
 | nx ρ' O'=>exact fun σ' H2 F2 as2 g2 r2 s2=>h σ' H2 F2 as2 (g.trans g2) r2 s2
 | bk ρ' O'=>exact fun σ' H2 F2 as2 g2 r2 s2=>h σ' H2 F2 as2 (g.trans g2) r2 s2
 | ct ρ' O'=>exact fun σ' H2 F2 as2 g2 r2 s2=>h σ' H2 F2 as2 (g.trans g2) r2 s2
 | rt d O'=>exact fun v H2 F2 as2 g2 r2 s2=>h v H2 F2 as2 (g.trans g2) r2 s2
 | no=>exact h
end
section
variable {Pr:Program}{w:World}{K:Frag}{mg:Str→Option Value}{base:Heap}{N:List Str}{qual:Str}{scope:Scope}{f:Addr}{cd:Value}{A:Around}{outer:List Env}{s0:Shared}{H0:Hp}{E E':XK}{pins:List (Addr×Obj)}{σ:St}{H:Hp}{s s':Shared}
end
def Qsi (P:Program) (w:World) (K:Frag) (mg:Str→Option Value) (base:Heap) (x:Str) (ps:List Str) (k:Nat) (sp:Sp):Prop :=
 ∃f fd,mg x=some (.ref f)∧keepIn K (.ref f)=true∧Binds K fd ps []∧Qbp P w K mg base (CXF P w) k f fd ps sp∧∃oc od osl,K.lookup f=some ⟨oc,od,.func fd,osl⟩
def QpU (P:Program) (w:World) (K:Frag) (mg:Str→Option Value) (base:Heap) (c m:Str) (ps:List Str) (k:Nat) (sp:Sp):Prop :=
 ∃C f fd,mg c=some (.ref C)∧Cls K C∧QiI K C m f∧Binds K fd ps []∧Qbp P w K mg base (CXF P w) k f fd ps sp
def Qus (K:Frag) (mg:Str→Option Value) (R:RR) (H F:Hp) (as:List Addr) (Q:VK) (E:XK):Res D→Prop
 | .ok d O'=>∀v H' F' as',Gr H F as H' F' as'→RlO K mg O' H' F' as'→R (fun a=>H a=none) H' F' as' v d→Q v H'
 | .ex x O'=>∀C dxo H' F' as',mg x.cls=some (.ref C)→Gr H F as H' F' as'→RlO K mg O' H' F' as'→XF K F' as' dxo x.fs→E (.ref C) dxo H'
 | .no=>False
def QlJ (K:Frag) (mg:Str→Option Value) (pm:List Md) (R:RR) (c:List D→Qaa→Res D):Sp:=fun vs H Q E =>
 ∃ds O F as,RlO K mg O H F as∧QbI K H F as pm vs ds∧Qus K mg R H F as Q E (c ds O)
section
variable {Pr:Program}{w:World}{K:Frag}{mg:Str→Option Value}{base:Heap}
theorem Qjv {f:Addr}{fd:FuncData}{ps:List Str}{k:Nat}{pm:List Md}{R:RR}{c:List D→Qaa→Res D} (Fn:Qbp Pr w K mg base (CXF Pr w) k f fd ps (QlJ K mg pm R c)) (hl:pm.length=ps.length) {CX:CXT}:Qbp Pr w K mg base CX k f fd ps (vSp K mg pm R c):=by
 refine ⟨fun vs H Q E h=>?_,fun A outer s H args us vs Q E hr e0 hbi r h=>?_⟩
 ·obtain ⟨ds,O,F,as,d,O',r,a,_⟩:=h;rw [a.len.1,hl]
 ·obtain ⟨ds,O,F,as,d,O',ro,a,e,q⟩:=h
  have z:QlJ K mg pm R c vs H Q fun _ _ _=>False:=⟨ds,O,F,as,ro,a,by rw [e]; exact q⟩
  refine codeAny_mono (Fn.run A outer s H args us vs Q _ hr e0 hbi r z) fun res s' hq=>?_
  cases res with
  | error ev =>
   obtain ⟨_,_,_,_,_,_,_,_,_,_,_,_,_,_,_,f0⟩:=hq;exact f0.elim
  | ok fl=>cases fl <;> exact hq
theorem Qsi.can {x:Str}{ps:List Str}{k:Nat}{pm:List Md}{R:RR}{c:List D→Qaa→Res D} (C:Qsi Pr w K mg base x ps k (QlJ K mg pm R c)) (hl:pm.length=ps.length:=by rfl):Can Pr w K mg base x ps k (vSp K mg pm R c):=by
 obtain ⟨f,fd,hm,hk,hb,Fn,lk⟩:=C;exact ⟨f,fd,hm,hk,hb,Qjv Fn hl,lk⟩
theorem QpU.can {c x:Str}{ps:List Str}{k:Nat}{pm:List Md}{R:RR}{cf:List D→Qaa→Res D} (C:QpU Pr w K mg base c x ps k (QlJ K mg pm R cf)) (hl:pm.length=ps.length:=by rfl):Qdb Pr w K mg base c x ps k (vSp K mg pm R cf):=by
 obtain ⟨C,f,fd,h1,h2,h3,hb,Fn⟩:=C;exact ⟨C,f,fd,h1,h2,h3,hb,Qjv Fn hl⟩
end
section
variable {X:Cx}{md:List Md}{P:Pt}{R:RR}
end
section
variable {X:Cx}{md:List Md}{P:Pt}{R:RR}{k:Nat}{c m:Str}{ps:List Str}{p pos apos:Pos}{o e:Expr}{es:List Expr}{pm:List Md}{cf:List D→Qaa→Res D}{mo:M D}{ma:M (List D)}
end
section
variable {X:Cx}{md:List Md}{P:Pt}{R:RR}
end
end L2
namespace L2
open PySem PySem.Spec PyProof.Rows PySem.W PySem.Builtin PySem.Builtin.ObjectAttr
def QlN (K:Frag) (C:Addr) (bmB:List Value) (newId:String) (fI:Addr):Bool:=match K.lookup C with
 | some ⟨.type "type",_,.cls cd,sl⟩=>(match cd.mro,sl.toList with
  | .ref C'::bm,[_,_,_,_,some (.builtin n),_]=>C' == C&&n == newId && !cd.hasDel&&tailIn K bmB bm&&nsOkIn K cd.ns&&nsIn K cd.ns "__init__" == some (some (.ref fI))&&cd.hasDict
  | _,_=>false)
 | _=>false
theorem Qpz {K:Frag}{C fI:Addr}{id:String} (hq:QlN K C bmV id fI=true) :
  ∃bm N nm qn bs sn sub ab col dd k0 k1 k2 k3 k5,K.lookup C=some (excClassObj nm qn C N bs bm true sn sub ab col dd k0 k1 k2 k3 k5 id)∧tailIn K bmV bm=true∧nsOkIn K N=true∧nsIn K N "__init__" = some (some (.ref fI)):=by
 unfold QlN at hq;split at hq
 case h_2=>cases hq
 case h_1 dd cd sl lk =>
  split at hq
  case h_2=>cases hq
  case h_1 C1 bm k0 k1 k2 k3 nn k5 e1 e2 =>
   rw [zg,zg,zg,zg,zg,zg] at hq;obtain ⟨⟨⟨⟨⟨⟨p1,p2⟩,p3⟩,p4⟩,p5⟩,p6⟩,p7⟩:=hq;have q1:C1=C:=beq_iff_eq.mp p1;have q2:nn=id:=beq_iff_eq.mp p2;subst q1;subst q2
   rcases cd with ⟨nm,bs,mro,ns,qn,hd,sn,sub,ab,col,del⟩
   have e1':mro = .ref C1::bm:=e1
   have p3':del=false:=by
    have z:(!del)=true:=p3
    cases del with
    | false=>rfl
    | true=>cases z
   have p7':hd=true:=p7;subst e1';subst p3';subst p7'
   rcases sl with ⟨ls⟩
   have e2':ls = [k0,k1,k2,k3,some (.builtin nn),k5]:=e2;subst e2';exact ⟨bm,ns,nm,qn,bs,sn,sub,ab,col,dd,k0,k1,k2,k3,k5,lk,p4,p5,beq_iff_eq.mp p6⟩
theorem Qix {K:Frag} (self:Value):∀{l:List Value},tailIn K bmV l=true→refuseLoop self "__setattr__" l=pure ()
 | [],e=>by rw [show ([]:List Value)=bmV from (beq_iff_eq.mp e).symm]; exact PySem.F.store_ValueError.passes self
 | v::r,e=>by
  unfold tailIn at e
  rcases Bool.or_eq_true_iff.mp e with q | q
  ·rw [beq_iff_eq.mp q];exact PySem.F.store_ValueError.passes self
  ·split at q
   ·split at q
    ·rw [zg,zg] at q;rw [refuseLoop_ref];exact Qix self q.2
    ·cases q
   ·cases q
def Qk1 (C t:Addr) (dxo:Option Addr):Obj:={ cls:=.ref C,dict:=dxo,data:=.fields #[.ref t,.none,.none,.none,.bool false,.none] }
section
variable {prog:Program}{w:World}{A:Around}{E:Value→Shared→Prop}{h:Heap}{g:Array GenState}{d:Drawn}{t:Nat}{os:OsState}
variable {nm q:Str}{C N:Addr}{bs bm bmB:List Value}{hdct:Bool}{sn:List Str}{sub:List Value}{ab:Bool}{col:Option Bool}{dd:Option Addr}{k0 k1 k2 k3 k5:Option Value}{B newId initId:String}
theorem QqF {K:Frag}{x:Addr}{ox:Obj}{name:Str}{tk:Tok}{v:Value}{cd:ClassData}{Q:Fin→Shared→Prop} (X:K.In h) (hx:h.get? x=some ox) (hc:ox.cls = .ref C) (hnd:ox.dict=none) (hda:∃ws,ox.data = .fields ws)
  (hcd:clsIn K C=some cd) (hhd:cd.hasDict=true) (hrf:refuseLoop (.ref x) "__setattr__" cd.mro=pure ()) (hna:findIn K (.ref C) name=some none)
  (hq:∀h' tk',h'.Ns1 h.objs.size (fun y=>if y=name then some v else none)→h'.get? x=some { ox with dict:=some h.objs.size }→(∀b o,b≠x→h.get? b=some o→h'.get? b=some o)→Q (.done (.ret .none)) ⟨h',g,d,tk',os⟩) :
  wpAny (model prog w) A (Builtin.«object.__setattr__» ⟨[.ref x,.str name tk,v],[]⟩) Q E ⟨h,g,d,t,os⟩:=by
 obtain ⟨ws,hda⟩:=hda;have L0:Looks (model prog w) h (typeOf (.ref x)) (.ref C):=hc ▸ (Looks.ld hx).andThen .now;have hm:Looks (model prog w) h (mroOf (.ref C)) cd.mro:=(looks_clsIn X hcd).andThen .now;have L2:=looks_findIn (M:=model prog w) X hna;rw [osa_eq,refuse_eq];refine za (za (L0.at (za (hm.at ?_))));rw [hrf];refine zb (za (L0.at (za (L2.at (za (zb ?_))))));show wpAny _ _ (storeInOwnDict _ _ _ _ _ _) _ _ _;unfold storeInOwnDict;refine za (zb (za ?_));unfold ownDictForStores instanceDict;dsimp only;refine za (wpAny_loadPart hx ?_);obtain ⟨oc,odi,oda,osl⟩:=ox;dsimp only at hc hnd hda
 subst hc hnd hda;refine za ((looks_clsIn X hcd).at ?_);rw [hhd];rw [if_neg (by decide),if_neg (by simp [typeHasDict])];have hx₁:=zq { cls:=.type "dict",data:=.dict #[] } hx;have hxs:x≠h.objs.size:=zp (zf hx);refine za (wpAny_alloc' ?_);refine za (wpAny_update' hx₁ ?_);refine zb ?_;have hgd:((h.push { cls:=.type "dict",data:=.dict #[] }).update x fun o=>{ cls:=o.cls,dict:=some h.objs.size,data:=o.data,slots:=o.slots }).get? h.objs.size=some { cls:=.type "dict",data:=.dict #[] } :=
  (Heap.get?_update_ne _ _ _ _ hxs.symm).trans (Heap.get?_push_at rfl rfl)
 have hnd:((h.push { cls:=.type "dict",data:=.dict #[] }).update x fun o=>{ cls:=o.cls,dict:=some h.objs.size,data:=o.data,slots:=o.slots }).Ns h.objs.size (fun _=>none) :=
  ⟨_,#[],_,hgd,rfl,fun e he=>absurd he (by simp),fun _=>rfl⟩
 show wpAny _ _ (storeInDict h.objs.size (.str name tk) name v) _ _ _;unfold storeInDict newKeyGuard;refine za (zb (za (wpAny_nsSet1 (Heap.Ns1.of_empty hnd) fun h' hn' hs=>?_)));obtain ⟨oD,esD,epD,hoD,hdD,hcD⟩:=hn'.count (Within.cons name v Within.nil);refine za (wpAny_lookBehind hoD (by rw [hdD]; exact pastItsLine_dict (zz hcD (by rw [zk,zE,sizeLine_eq]; omega))) ?_)
 wp_walk
 refine hq h' _ hn' ((hs.2 x hxs).trans (Heap.get?_update_self _ hx₁ rfl)) fun b ob hbx hb=>?_
 exact (hs.2 b (zp (zf hb))).trans ((Heap.get?_update_ne _ _ _ _ hbx).trans (zq _ hb))
end
def xoK (C t ea:Addr) (dxo:Option Addr):HO:=.ext fun h=>h.get? ea=some (Qk1 C t dxo)
theorem Qs9 {P:Program}{w:World}{H:Hp}{h:Heap}{C t ea:Addr}{dxo:Option Addr} (e:h.get? ea=some (Qk1 C t dxo)):Qbx P w H h ea (xoK C t ea dxo):=⟨e,⟨_,e⟩,fun _ _ z k=>k _ z⟩
theorem Qrv {P:Program}{w:World}{H:Hp}{h:Heap}{C t ea:Addr}{dxo:Option Addr} (q:Qbx P w H h ea (xoK C t ea dxo)):h.get? ea=some (Qk1 C t dxo):=q.1
def spI (C:Addr) (name:Str):Sp:=fun vs H Q _=>∃ea t v,vs = [.ref ea,v]∧H ea=some (xoK C t ea none)∧∀dx od,H dx=none→dx≠ea→Q .non (upd (upd H dx (.frz od (.xd [(name,v)]))) ea (xoK C t ea (some dx)))
structure Qlg (K:Frag) (C fI:Addr) (name:Str):Prop where
 cl:QlN K C bmV "ValueError.__new__" fI=true
 sa:findIn K (.ref C) "__setattr__" = some (some (.builtin "object.__setattr__"))
 na:findIn K (.ref C) name=some none
 ob:mroIn K C (.type "object")=some true
section
variable {X:Cx}{pins:List (Addr×Obj)}{σ:St}{H:Hp}{s:Shared}{ea C fI t:Addr}{name:Str}{v:V}{u:Value}
theorem Qq9 {A:Around}{E:Value→Shared→Prop}{Q:Unit→Shared→Prop} (I:Inv X pins σ H s) (Z:Qlg X.K C fI name) (e:H ea=some (xoK C t ea none)) (rv:RelV v u)
  (hq:∀dx od s',H dx=none→dx≠ea→Inv X pins σ (upd (upd H dx (.frz od (.xd [(name,v)]))) ea (xoK C t ea (some dx))) s'→Q () s'):wpAny (model X.prog X.w) A (setAttr (.ref ea) name u) Q E s:=by
 have hx:=Qrv (I.hok ea _ e);obtain ⟨bm,N,nm,qn,bs,sn,sub,ab,col,dd,k0,k1,k2,k3,k5,lk,ht,_,_⟩:=Qpz Z.cl;have SF:=PySem.F.store_object
 obtain ⟨cd,hcl,hm,hhd⟩:∃cd,clsIn X.K C=some cd∧cd.mro = .ref C::bm∧cd.hasDict=true:=by
  refine ⟨_,by unfold clsIn; rw [show X.K.lookup C=_ from lk],rfl,rfl⟩
 refine set_plain (od:=none) I.kIn ⟨hx,rfl,rfl,trivial⟩ Z.sa ?_;have L0:Looks (model X.prog X.w) s.heap (isInstance (.ref ea) (.type "object")) true:=(show Looks (model X.prog X.w) s.heap (typeOf (.ref ea)) (.ref C) from (Looks.ld hx).andThen .now).andThen (looks_mroIn I.kIn Z.ob);refine codeAny_call_builtin SF.slot.plain SF.entry (@check_slot (model X.prog X.w) _ _ { s with toks:=s.toks+1 } "object.__setattr__" "object" "__setattr__" (.ref ea) [.str name s.toks,u] [] _ SF.kind SF.split L0 (SF.args (.ref ea) (.str name s.toks) u) ?_)
 refine QqF I.kIn hx rfl rfl ⟨_,rfl⟩ hcl hhd (by rw [hm,refuseLoop_ref]; exact Qix _ ht) Z.na fun h' tk' hns hex hk=>?_
 show Q () _;have hfr:H s.heap.objs.size=none:=I.hok.fresh (zc _);have hne:s.heap.objs.size≠ea:=(zp (zf hx)).symm;obtain ⟨od,es,ep,hod,hr⟩:=id hns;refine hq s.heap.objs.size od _ hfr hne (I.un ⟨fun b o q n _ _=>?_,fun b o q n _ _=>?_,fun b o q n _=>?_,fun b o q _=>?_,fun b xs q=>?_,fun b o u' q=>?_,fun b ps q=>?_⟩ fun b o q=>?_)
 ·exact hk b o (fun z=>by rw [z,e] at n; cases n) q
 ·exact ⟨o.slots,hk b o (fun z=>by rw [z,e] at n; cases n) q⟩
 ·rw [Qal (fun z=>by rw [z,e] at n; cases n),Qal (zp (zf q))];exact n
 ·by_cases z:b=ea
  ·exact ⟨_,z ▸ hex⟩
  ·exact ⟨o,hk b o z q⟩
 ·rw [Qal (fun z=>by rw [z,e] at q; cases q),Qal (fun z=>by rw [z,hfr] at q; cases q)];exact q
 ·rw [Qal (fun z=>by rw [z,e] at q; cases q),Qal (fun z=>by rw [z,hfr] at q; cases q)];exact q
 ·refine ⟨#[],?_⟩;rw [Qal (fun z=>by rw [z,e] at q; cases q),Qal (fun z=>by rw [z,hfr] at q; cases q),Array.append_empty];exact q
 ·by_cases z:b=ea
  ·subst z;rw [QaL] at q;cases q;exact Qs9 hex
  ·rw [Qal z] at q
   by_cases y:b=s.heap.objs.size
   ·subst y;rw [QaL] at q;cases q;refine ⟨hod,_,hns,fun f=>?_⟩
    by_cases hf:f=name
    ·rw [if_pos hf,hf];show Qdf (List.lookup name [(name,v)]) _;rw [show List.lookup name [(name,v)]=some v by simp [List.lookup]];exact rv
    ·have hb:(f == name)=false:=beq_eq_false_iff_ne.mpr hf;rw [if_neg hf,show List.lookup f [(name,v)]=none by simp only [List.lookup,hb]];exact True.intro
   ·rw [Qal y] at q
    refine (I.hok b o q).stay (fun b' u' hb' q'=>hk b' u' (fun x=>?_) q') (fun b' q'=>?_) fun b' xs q'=>?_
    ·rcases hb' with rfl | hb'
     ·exact z x
     ·rw [x,e] at hb';cases hb'
    ·rw [Qal (fun x=>by rw [x,e] at q'; cases q'),Qal (fun x=>by rw [x,hfr] at q'; cases q')];exact q'
    ·rw [Qal (fun x=>by rw [x,e] at q'; cases q'),Qal (fun x=>by rw [x,hfr] at q'; cases q')];exact q'
def Qt3 (C:Addr) (name:Str):TS:=fun D σ H=>∃ea t v,σ[0]? = some (some (.ref ea))∧σ[1]? = some (some v)∧H ea=some (xoK C t ea none)∧∀dx od,H dx=none→dx≠ea→D.nx σ (upd (upd H dx (.frz od (.xd [(name,v)]))) ea (xoK C t ea (some dx)))
theorem Qq3 {sf pn:Str}{p1 p2 p3 p4:Pos} (Z:Qlg X.K C fI name) (h0:X.N[0]? = some sf) (h1:X.N[1]? = some pn) (v0:Vis X.env.scope sf) (v1:Vis X.env.scope pn) (d0:(sf == ("__debug__":Str))=false) (d1:(pn == ("__debug__":Str))=false) (c0:(sf == ("__classdict__":Str))=false) (c1:(pn == ("__classdict__":Str))=false)
  (hs:swapsWith (.Name pn p3) (some (.Attribute (.Name sf p1) name p2)) p4.line X.env=pure false):PS X (.Assign [.Attribute (.Name sf p1) name p2] (.Name pn p3) p4) (Qt3 C name):=by
 intro pins s σ H D I q;obtain ⟨ea,t,v,e0,e1,eh,k⟩:=q;refine plainObj_wpAny_Assign_Attribute (thn (QeQ (i:=1) h1 v1 d1 c1 pins s σ H (fun v' H1=>v'=v∧H1=H) I ⟨v,e1,rfl,rfl⟩) fun u s1 z=>?_) hs;obtain ⟨_,_,I1,ru,rfl,rfl⟩:=z
 refine thn (QeQ (i:=0) h0 v0 d0 c0 pins s1 σ _ (fun v' H1=>v' = .ref ea∧H1=_) I1 ⟨.ref ea,e0,rfl,rfl⟩) fun ov s2 z=>?_
 obtain ⟨_,_,I2,ro,rfl,rfl⟩:=z;obtain rfl:ov=Value.ref ea:=ro
 exact Qq9 I2 Z eh ru fun dx od s3 n1 n2 I3=>⟨σ,_,I3,k dx od n1 n2⟩
end
def Qr4 (P:Program) (w:World) (K:Frag) (mg:Str→Option Value) (base:Heap) (c name:Str) (k:Nat):Prop :=
 ∃(C fI:Addr) (fd:FuncData) (ps:List Str),mg c=some (.ref C)∧Qlg K C fI name∧isFn K (.ref fI)=true∧Binds K fd ps []∧Qbp P w K mg base CX0 k fI fd ps (spI C name)
section
variable {Pr:Program}{w:World}{K:Frag}{mg:Str→Option Value}{base:Heap}
theorem Qt4 {c name qual sf pn:Str}{st:Stmt}{C fI:Addr}{fd:FuncData}{p1 p2 p3 p4:Pos} (hC:mg c=some (.ref C)) (Z:Qlg K C fI name) (hf:isFn K (.ref fI)=true) (Fn:Fun K "__init__" qual st fI fd) (S:Qay [sf,pn] [sf,pn] (Qaj st))
  (hb:∀(kV doc pm:Value) (an:Option Addr) (cdv ct:Value) (us:List Value),us.length = [sf,pn].length→bindArgs (PySem.W.fnOf "__init__" qual (QbW st) (Qa4 st) (Qaj st) .none kV doc pm an cdv ct) ⟨us,[]⟩=pure ([sf,pn].zip us))
  (hbo:Qa4 st = [.Assign [.Attribute (.Name sf p1) name p2] (.Name pn p3) p4]) (v0:Vis (Qaj st) sf) (v1:Vis (Qaj st) pn) (d0:(sf == ("__debug__":Str))=false) (d1:(pn == ("__debug__":Str))=false) (c0:(sf == ("__classdict__":Str))=false) (c1:(pn == ("__classdict__":Str))=false)
  (hs:∀L f cdv,swapsWith (.Name pn p3) (some (.Attribute (.Name sf p1) name p2)) p4.line (envOfC qual (Qaj st) L f cdv)=pure false):Qr4 Pr w K mg base c name 1:=by
 have hbi:=Fn.binds hb;obtain ⟨oc,od,kV,doc,pmv,an,cdv,ct,osl,rfl,lk,hcd⟩:=Fn.ex;refine ⟨C,fI,_,_,hC,Z,hf,hbi,Qp1 lk hcd S (fun vs H Q E h=>?_) fun A outer s H vs Q E hr h=>?_⟩
 ·obtain ⟨ea,t,v,rfl,_⟩:=h;rfl
 ·obtain ⟨ea,t,v,rfl,e,k⟩:=h;rw [hbo];exact ⟨_,Qms (Qq3 (X:=Qdv CX0 Pr w K mg base [sf,pn] qual (Qaj st) fI cdv A outer s H E) Z rfl rfl v0 v1 d0 d1 c0 c1 (hs _ _ _)),ea,t,v,rfl,rfl,e,k⟩
end
section
variable {prog:Program}{w:World}{A:Around}{E:Value→Shared→Prop}{s:Shared}{env:Env}
variable {nm q:Str}{C N:Addr}{bs bm:List Value}{hdct:Bool}{sn:List Str}{sub:List Value}{ab:Bool}{col:Option Bool}{dd:Option Addr}{k0 k1 k2 k3 k5:Option Value}{newId:String}
end
section
variable {X:Cx}{md:List Md}{P:Pt}{R:RR}
end
end L2
namespace L2
open PySem PySem.Spec PyProof.Rows PySem.W
def xcO (oe:Obj):HO:=.frz oe (.ext fun _=>True)
section
variable {X:Cx}{md:List Md}{P:Pt}{R:RR}{pins:List (Addr×Obj)}{σ:St}{H:Hp}{s:Shared}{ea:Addr}{oe:Obj}
end
end L2
namespace L2
open PySem PySem.Spec PyProof.Rows PySem.W PySem.Calls PySem.Builtin PySem.Builtin.ObjectAttr
section
variable {X:Cx}{md:List Md}{P:Pt}{R:RR}
theorem RlO.xc {K:Frag}{mg:Str→Option Value}{O:Qaa}{H F:Hp}{as:List Addr}{ea C:Addr}{oe:Obj}{c:Str}{fs:List (Str×D)} (r:RlO K mg O H F as) (hn:H ea=none) (hC:mg c=some (.ref C)) (hc:oe.cls = .ref C) (hd:∃ws,oe.data = .fields ws) (hx:XF K F as oe.dict fs) :
  RlO K mg (O ++ [.xc c fs]) (upd H ea (xcO oe)) F (as ++ [ea])∧Gr H F as (upd H ea (xcO oe)) F (as ++ [ea]):=by
 have at_:∀(n:Nat) (a:Addr),as[n]? = some a→(as ++ [ea])[n]? = some a:=fun n a h=>by
  rw [zr (zh.mp h).1]; exact h
 have g0:Gr H F as (upd H ea (xcO oe)) F as:=Gr.lay hn;have rB:RlO K mg O (upd H ea (xcO oe)) F as:=r.lay hn;refine ⟨⟨rB.fh,rB.fd,?_,by simp [r.len],fun a ha=>?_,fun n a o ha ho=>?_⟩,⟨g0.fz,g0.ff,⟨[ea],rfl,fun a ha=>by rw [zo.mp ha]; exact hn⟩,fun a o e ha hd=>g0.fr a o e ha hd,g0.dm,g0.kz⟩⟩
 ·rw [jh];refine ⟨r.nd,by simp,fun a ha b hb=>?_⟩;rw [zo.mp hb];intro z;subst z;exact r.all ha hn
 ·rcases zA.mp ha with z | z
  ·exact r.fa a z
  ·rw [zo.mp z];exact r.frF hn
 ·by_cases hn':n < O.length
  ·rw [zr (by rw [r.len]; exact hn')] at ha;rw [zr hn'] at ho;exact (rB.ob n a o ha ho).keep rfl (Same.refl _) at_
  ·have hn2:n=O.length:=by
    have:=(zh.mp ho).1
    simp at this
    omega
   subst hn2;rw [zv (zc _),Nat.sub_self] at ho;rw [←r.len,zv (zc _),Nat.sub_self] at ha;cases ho;cases ha;exact ⟨C,oe,_,hC,QaL,hc,hd,hx.mono (Same.refl _) at_⟩
end
section
variable {prog:Program}{w:World}{A:Around}{E:Value→Shared→Prop}{K:Frag}{a C:Addr}{o od:Obj}{h:Heap}{g:Array GenState}{d:Drawn}{t:Nat}{os:OsState}{name:Str}{v:Value}
end
section
variable {X:Cx}{md:List Md}{P:Pt}{R:RR}
def ISN (K:Frag) (mg:Str→Option Value) (T c:Str) (b:Bool):Prop:=∃C A,mg c=some (.ref C)∧QoQ K C∧mg T=some (.ref A)∧kitOne K (.ref C) (.ref A)=some b
def ISV (K:Frag) (mg:Str→Option Value) (c:Str):Prop:=∃C,mg c=some (.ref C)∧QoQ K C∧kitOne K (.ref C) (.type "ValueError")=some true
def Qsl (K:Frag) (mg:Str→Option Value) (ns:List Str) (c:Str) (b:Bool):Prop:=∃C as,mg c=some (.ref C)∧QoQ K C∧QkT mg ns as∧kitAny K (.ref C) (as.map Value.ref)=some b
theorem FsR.at {K:Frag}{F:Hp}{as:List Addr}{f:Str}{d:D}:∀{fs:List (Str×D)}{gs:List (Str×V)},FsR K F as gs fs→fs.lookup f=some d→∃v,gs.lookup f=some v∧Rp K F as v d
 | [],gs,h,e=>by cases e
 | (g,y)::fs,gs,h,e=>by
  obtain ⟨h1,h2⟩:=h
  cases gs with
  | nil=>cases h1
  | cons p gs =>
   obtain ⟨g',x⟩:=p;have hg:g'=g:=(List.cons.inj h1).1;subst hg;obtain ⟨x',r,ex,hx,hr⟩:=Rps.un h2;cases ex
   by_cases hf:(f == g')=true
   ·have e':some y=some d:=by
     simp only [List.lookup,hf] at e;exact e
    cases e';exact ⟨x,by simp only [List.lookup,hf],hx⟩
   ·have hf':(f == g')=false:=by simpa using hf
    have e':fs.lookup f=some d:=by
     simp only [List.lookup,hf'] at e;exact e
    obtain ⟨v,q1,q2⟩:=FsR.at (fs:=fs) (gs:=gs) ⟨(List.cons.inj h1).2,hr⟩ e';exact ⟨v,by simp only [List.lookup,hf']; exact q1,q2⟩
end
end L2
namespace L2
open PySem PySem.Spec PyProof.Rows PySem.W
def QkE (A:Around):Around:={ A with handled:=none }
theorem RoomH.deeper {k:Nat}{A:Around} (r:QaJ (k+1) (QkE A)) (env:Env):QaJ k (QkE (A.deeper env)):=⟨rfl,(r.deeper env).dp,(r.deeper env).un⟩
theorem QaJ.h {k:Nat}{A:Around} (r:QaJ k A):QaJ k (QkE A):=⟨rfl,r.dp,r.un⟩
structure Qns (P:Program) (w:World) (K:Frag) (mg:Str→Option Value) (base:Heap) (k:Nat) (f:Addr) (fd:FuncData) (ps:List Str) (sp:Sp):Prop where
 len:∀vs H Q E,sp vs H Q E→vs.length=ps.length
 run:∀(A:Around) (outer:List Env) (s:Shared) (H:Hp) (args:Args) (us:List Value) (vs:List V) (Q:VK) (E:XK),QaJ k (QkE A)→Qev P w K mg base A outer s H→BindsTo s fd args (ps.zip us)→Qar vs us→sp vs H Q E →
  codeAny (model P w) A (.call (.ref f) args) (CR CX0 outer P w H s Q E) s
theorem Qns.fn {P:Program}{w:World}{K:Frag}{mg:Str→Option Value}{base:Heap}{k:Nat}{f:Addr}{fd:FuncData}{ps:List Str}{sp:Sp} (F:Qns P w K mg base k f fd ps sp):Qbp P w K mg base CX0 k f fd ps sp:=⟨F.len,fun A outer s H args us vs Q E hr=>F.run A outer s H args us vs Q E hr.h⟩
def Qs2 (P:Program) (w:World) (K:Frag) (mg:Str→Option Value) (base:Heap) (x:Str) (ps:List Str) (k:Nat) (sp:Sp):Prop :=
 ∃f fd,mg x=some (.ref f)∧keepIn K (.ref f)=true∧Binds K fd ps []∧Qns P w K mg base k f fd ps sp∧∃oc od osl,K.lookup f=some ⟨oc,od,.func fd,osl⟩
section
variable {Pr:Program}{w:World}{K:Frag}{mg:Str→Option Value}{base:Heap}
theorem Qs2.can {x:Str}{ps:List Str}{k:Nat}{sp:Sp} (C:Qs2 Pr w K mg base x ps k sp):Can Pr w K mg base x ps k sp:=by
 obtain ⟨f,fd,h1,h2,h3,h4,h5⟩:=C;exact ⟨f,fd,h1,h2,h3,h4.fn,h5⟩
end
section
variable {X:Cx}{md:List Md}{P:Pt}{R:RR}
end
section
variable {X:Cx}{md:List Md}{P:Pt}{R:RR}
end
theorem ISN.nm {K:Frag}{mg:Str→Option Value}{T c:Str}{b:Bool} (h:ISN K mg T c b):∃A,mg T=some (.ref A):=let ⟨_,A,_,_,e,_⟩:=h; ⟨A,e⟩
theorem Qsl.nm {K:Frag}{mg:Str→Option Value}{ns:List Str}{c:Str}{b:Bool} (h:Qsl K mg ns c b):∃as,QkT mg ns as:=let ⟨_,as,_,_,e,_⟩:=h; ⟨as,e⟩
theorem ISV.tb {K:Frag}{mg:Str→Option Value}{c:Str} (h:ISV K mg c):true=true∧ISV K mg c:=⟨rfl,h⟩
def QsO (K:Frag) (mg:Str→Option Value) (c name qual:Str) (st:Stmt):Prop:=∃C fI fd,mg c=some (.ref C)∧Qlg K C fI name∧isFn K (.ref fI)=true∧Fun K "__init__" qual st fI fd
theorem QsO.can {Pr:Program}{w:World}{K:Frag}{mg:Str→Option Value}{base:Heap}{c name qual sf pn:Str}{st:Stmt}{p1 p2 p3 p4:Pos} (h:QsO K mg c name qual st) (S:Qay [sf,pn] [sf,pn] (Qaj st))
  (hb:∀(kV doc pm:Value) (an:Option Addr) (cdv ct:Value) (us:List Value),us.length = [sf,pn].length→bindArgs (PySem.W.fnOf "__init__" qual (QbW st) (Qa4 st) (Qaj st) .none kV doc pm an cdv ct) ⟨us,[]⟩=pure ([sf,pn].zip us))
  (hbo:Qa4 st = [.Assign [.Attribute (.Name sf p1) name p2] (.Name pn p3) p4]) (v0:Vis (Qaj st) sf) (v1:Vis (Qaj st) pn) (hs:∀L f cdv,swapsWith (.Name pn p3) (some (.Attribute (.Name sf p1) name p2)) p4.line (envOfC qual (Qaj st) L f cdv)=pure false)
  (d0:(sf == ("__debug__":Str))=false:=by decide) (d1:(pn == ("__debug__":Str))=false:=by decide) (c0:(sf == ("__classdict__":Str))=false:=by decide) (c1:(pn == ("__classdict__":Str))=false:=by decide):Qr4 Pr w K mg base c name 1:=by
 obtain ⟨C,fI,fd,h1,h2,h3,h4⟩:=h;exact Qt4 h1 h2 h3 h4 S hb hbo v0 v1 d0 d1 c0 c1 hs
section
variable {X:Cx}{md:List Md}{P:Pt}{R:RR}
end
def Qp7 (P:Program) (w:World) (K:Frag) (mg:Str→Option Value) (base:Heap) (c:Str) (ps:List Str) (k:Nat) (sp:Sp):Prop :=
 ∃C f fd,mg c=some (.ref C)∧Mk K C f∧Binds K fd ps []∧Qbp P w K mg base (CXF P w) k f fd ps sp
section
variable {Pr:Program}{w:World}{K:Frag}{mg:Str→Option Value}{base:Heap}
theorem Qp7.can {c:Str}{ps:List Str}{k:Nat}{pm:List Md}{R:RR}{cf:List D→Qaa→Res D} (C:Qp7 Pr w K mg base c ps k (QlJ K mg pm R cf)) (hl:pm.length=ps.length:=by rfl):QjN Pr w K mg base c ps k (vSp K mg pm R cf):=by
 obtain ⟨C,f,fd,h1,h2,hb,Fn⟩:=C;exact ⟨C,f,fd,h1,h2,hb,Qjv Fn hl⟩
end
theorem RlO.ins {K:Frag}{mg:Str→Option Value}{O:Qaa}{H F:Hp}{as:List Addr}{x dx C:Addr}{c:Str} (r1:RlO K mg O H F as) (hC:mg c=some (.ref C)) (hx:H x=none) (hdx:H dx=none) (hne:dx≠x) :
  RlO K mg (O ++ [.ins c []]) (upd (upd H dx (.own x)) x (.ins C dx [])) F (as ++ [x])∧Gr H F as (upd (upd H dx (.own x)) x (.ins C dx [])) F (as ++ [x])∧Rp K F (as ++ [x]) (.ref x) (.ob O.length):=by
 have hx2:upd H dx (.own x) x=none:=by rw [Qal hne.symm]; exact hx
 have gAB:Gr H F as (upd (upd H dx (.own x)) x (.ins C dx [])) F as:=(Gr.lay hdx).trans (Gr.lay hx2)
 have nx:x∉as:=fun z=>r1.all z hx
 have rB:=(r1.lay (o:=.own x) hdx).lay (o:=.ins C dx []) hx2
 have at_:∀(n:Nat) (a:Addr),as[n]? = some a→(as ++ [x])[n]? = some a:=fun n a h=>by
  rw [zr (zh.mp h).1]; exact h
 refine ⟨⟨rB.fh,rB.fd,?_,by simp [r1.len],fun a ha=>?_,fun n a o ha ho=>?_⟩,⟨gAB.fz,gAB.ff,⟨[x],rfl,fun a ha=>by rw [zo.mp ha]; exact hx⟩,fun a o e ha hd=>gAB.fr a o e ha hd,gAB.dm,gAB.kz⟩,Rp.mkO (by rw [←r1.len,zv (zc _),Nat.sub_self]; rfl)⟩
 ·rw [jh];refine ⟨r1.nd,by simp,fun a ha b hb=>?_⟩;rw [zo.mp hb];intro z;subst z;exact nx ha
 ·rcases zA.mp ha with z | z
  ·exact r1.fa a z
  ·rw [zo.mp z];exact r1.frF hx
 ·by_cases hn:n < O.length
  ·rw [zr (by rw [r1.len]; exact hn)] at ha;rw [zr hn] at ho;exact (rB.ob n a o ha ho).keep rfl (Same.refl _) at_
  ·have hn':n=O.length:=by
    have:=(zh.mp ho).1
    simp at this
    omega
   subst hn';rw [zv (zc _),Nat.sub_self] at ho;rw [←r1.len,zv (zc _),Nat.sub_self] at ha;cases ho;cases ha;exact ⟨C,dx,[],hC,QaL,⟨rfl,Rps.nil⟩⟩
section
variable {X:Cx}{md:List Md}{P:Pt}{k:Nat}{c:Str}{ps:List Str}{p pos:Pos}{e:Expr}{es:List Expr}{pm:List Md}{cf:List D→Qaa→Res D}{ma:M (List D)}
end
end L2
namespace L2
open PySem PySem.Spec PyProof.Rows PySem.W PySem.Calls
section
variable {prog:Program}{w:World}{A:Around}{E:Value→Shared→Prop}{s:Shared}{R:Result→Shared→Prop}
end
section
variable {X:Cx}{md:List Md}{P:Pt}{R:RR}
structure QwQ (mg:Str→Option Value):Prop extends Blt mg where
 any_:mg "any" = none
end
end L2
namespace L2
open PySem PySem.Spec PyProof.Rows PySem.W
section
variable {X:Cx}{pins:List (Addr×Obj)}{σ:St}{H:Hp}{s:Shared}{a:Addr}{xs:List (Key×V)}
end
section
variable {K:Frag}{mg:Str→Option Value}{O:Qaa}{H F:Hp}{as:List Addr}
theorem RlO.kf {n:Nat}{a:Addr}{kvs:List (Key×D)} (r:RlO K mg O H F as) (hn:as[n]? = some a) (hO:O[n]? = some (.kf kvs)):∃o xs,H a=some (.frz o (.dK xs))∧DkR K F as xs kvs:=let ⟨o,xs,h1,h2,h3⟩:=r.ob n a _ hn hO; ⟨o,xs,h1,h2,h3⟩
end
section
variable {X:Cx}{md:List Md}{P:Pt}{R:RR}
end
section
variable {prog:Program}{w:World}{A:Around}{E:Value→Shared→Prop}{s:Shared}
end
section
variable {X:Cx}{md:List Md}{P:Pt}{R:RR}
end
def QjW {α:Type} (t:Sem α):Prop:=∀(M:Model) (Γ:PySem.Ctx) (Q:α→Pos→Shared→Prop) (E:Value→Pos→Shared→Prop) (p:Pos) (s:Shared),Sem.wp M Γ t Q E p s→Sem.wp M Γ t (fun a p' s'=>1≤s'.toks∧Q a p' s') (fun e p' s'=>1≤s'.toks∧E e p' s') p s
theorem Qnr {α:Type}{k:Tok→Sem α}:QjW (Sem.fresh k):=fun M Γ Q E p s h=>Sem.wp_toks M Γ 1 (k s.toks) Q E p { s with toks:=s.toks+1 } (Nat.le_add_left _ _) h
theorem Qrq {α:Type}{p':Pos}{k:Unit→Sem α} (h:QjW (k ())):QjW (Sem.at p' k):=fun M Γ Q E p s q=>h M Γ Q E p' s q
theorem Qpt {α:Type}{M:Model}{A:Around}{t:Sem α}{Q:α→Shared→Prop}{E:Value→Shared→Prop}{s:Shared} (b:QjW t) (h:wpAny M A t Q E s):wpAny M A t (fun a s'=>1≤s'.toks∧Q a s') (fun e s'=>1≤s'.toks∧E e s') s:=fun Γ p hΓ=>b M Γ _ _ p s (h Γ p hΓ)
structure QkI (P:Program) (w:World) (K:PySem.W.Frag) (mg:Str→Option Value) (base:Heap) (k:Nat) (f:Addr) (fd:FuncData) (ps:List Str) (sp:Sp):Prop where
 len:∀vs H Q E,sp vs H Q E→vs.length=ps.length
 run:∀(A:Around) (outer:List Env) (s:Shared) (H:Hp) (args:Args) (us:List Value) (vs:List V) (Q:VK) (E:XK),QaJ k A→Qev P w K mg base A outer s H→BindsTo s fd args (ps.zip us)→Qar vs us→sp vs H Q E →
  codeAny (model P w) A (.call (.ref f) args) (fun r s'=>1≤s'.toks∧CR CX0 outer P w H s Q E r s') s
theorem QkI.ok {P:Program}{w:World}{K:PySem.W.Frag}{mg:Str→Option Value}{base:Heap}{k:Nat}{f:Addr}{fd:FuncData}{ps:List Str}{sp:Sp} (F:QkI P w K mg base k f fd ps sp):Qbp P w K mg base CX0 k f fd ps sp :=
 ⟨F.len,fun A outer s H args us vs Q E hr he hb hv hs=>codeAny_mono (F.run A outer s H args us vs Q E hr he hb hv hs) fun _ _ q=>q.2⟩
theorem Qs8 {P:Program}{w:World}{K:PySem.W.Frag}{mg:Str→Option Value}{base:Heap}{k:Nat}{f:Addr}{name qual:Str}{params:Arguments}{body:List Stmt}{scope:Scope}{dV kV doc pm cdv ct oc:Value}{an od:Option Addr}
  {osl:Array (Option Value)}{N ps:List Str}{sp:Sp} (lk:K.lookup f=some ⟨oc,od,.func (PySem.W.fnOf name qual params body scope dV kV doc pm an cdv ct),osl⟩) (hcd:PySem.W.codeIn K cdv qual=true) (S:Qay N ps scope)
  (len:∀vs H Q E,sp vs H Q E→vs.length=ps.length) (hbp:∀env,QjW (execs body env))
  (hbody:∀(A:Around) (outer:List Env) (s:Shared) (H:Hp) (vs:List V) (Q:VK) (E:XK),QaJ k (A.deeper (envOfC qual scope s.heap.objs.size f cdv))→sp vs H Q E →
   ∃t,PSs (Qdv CX0 P w K mg base N qual scope f cdv A outer s H E).nox body t∧t { nx:=fun _ H'=>Q .non H',rt:=Q } (start N vs) H) :
  QkI P w K mg base (k+1) f (PySem.W.fnOf name qual params body scope dV kV doc pm an cdv ct) ps sp:=by
 refine ⟨len,fun A outer s H args us vs Q E hr e0 hb r hsp=>?_⟩;have hl:=len _ _ _ _ hsp
 have KX:K.In s.heap:=e0.mod.kin.keeps fun b o e=>(e0.bs b o e).1
 have lim:s.heap.NoLimit:=e0.mod.nolimit.keeps fun b o e=>(e0.bs b o e).1
 have hkind:∀y∈ps.zip us,scope.names.lookup y.1=some .local∨(scope.names.lookup y.1=some .cell∧((cellsFrom (s.heap.objs.size+1) scope.names []).lookup y.1).isSome=true):=fun ⟨n,v⟩ hy=>by
  rcases S.par n (List.of_mem_zip hy).1 with q | q
  ·exact .inl q
  ·exact .inr ⟨q,PySem.W.cellsFrom_some _ _ _ (.inl q)⟩
 refine codeAny_call_function hr.depth (KX _ _ lk) rfl S.co S.gen rfl (PySem.W.codeRec_of KX hcd) (hb _ _ _ _ ?_)
 refine wpAny_newFunctionEnv_cells S.kind hkind fun env he s1 x=>?_
 subst he;refine ⟨lim.keeps x.toInCall.keep,codeAny_func ?_⟩;obtain ⟨t,ht,hq⟩:=hbody A outer s H vs Q E (hr.deeper _) hsp;have I:Inv (Qdv CX0 P w K mg base N qual scope f cdv A outer s H E) [] (start N vs) H s1:=Qkf S hr.hd e0 hl r x
 refine zJ (Qpt (hbp _) (ht [] s1 (start N vs) H _ (I.wish _) hq)) (fun fl s' hs=>?_) fun e s' hs=>hs.2.elim
 obtain ⟨ht1,hs⟩:=hs
 replace hs:=hs.unwish
 have fin:∀{σ':St}{H':Hp}{v:V}{u:Value},Inv (Qdv CX0 P w K mg base N qual scope f cdv A outer s H E) [] σ' H' s'→RelV v u→Q v H'→CE outer P w H s Q u s' :=
  fun {σ' H' v u} J rv q=>⟨v,H',J.os,J.bare,J.base,J.hok,rv,q⟩
 refine ⟨ht1,?_⟩
 cases fl with
 | ret u =>
  obtain ⟨v,σ',H',J,rv,q⟩:=hs;exact fin J rv q
 | next =>
  obtain ⟨σ',H',J,q⟩:=hs;exact fin (v:=V.non) (u:=Value.none) J rfl q
 | brk =>
  obtain ⟨_,_,_,q⟩:=hs;exact False.elim q
 | cont =>
  obtain ⟨_,_,_,q⟩:=hs;exact False.elim q
def QjJ (P:Program) (w:World) (K:PySem.W.Frag) (mg:Str→Option Value) (base:Heap) (x:Str) (ps:List Str) (k:Nat) (sp:Sp):Prop :=
 ∃f fd,mg x=some (.ref f)∧PySem.W.keepIn K (.ref f)=true∧Binds K fd ps []∧QkI P w K mg base k f fd ps sp∧∃oc od osl,K.lookup f=some ⟨oc,od,.func fd,osl⟩
theorem QjJ.can {P:Program}{w:World}{K:PySem.W.Frag}{mg:Str→Option Value}{base:Heap}{x:Str}{ps:List Str}{k:Nat}{sp:Sp} (c:QjJ P w K mg base x ps k sp):Can P w K mg base x ps k sp :=
 let ⟨f,fd,a,b,d,e,g⟩:=c; ⟨f,fd,a,b,d,e.ok,g⟩
section
variable {Pr:Program}{w:World}{K:Frag}{mg:Str→Option Value}{base:Heap}
theorem Qud {x:Str}{st:Stmt}{N ps:List Str}{k:Nat} (Df:Def K mg x st) (S:Qay N ps (Qaj st))
  (hb:∀(kV doc pm:Value) (an:Option Addr) (cdv ct:Value) (us:List Value),us.length=ps.length→bindArgs (PySem.W.fnOf x x (QbW st) (Qa4 st) (Qaj st) .none kV doc pm an cdv ct) ⟨us,[]⟩=pure (ps.zip us))
  (pm lm:List Md) {R:RR}{b:MS} (hR:Qew R) (hR0:∀N H F as,R N H F as .non .non) (hbp:∀env,QjW (execs (Qa4 st) env)) (hpl:pm.length=ps.length:=by rfl) (hl:(pm++lm).length=N.length:=by rfl) (hp:∀m∈pm,m≠.o:=by decide)
  (body:∀(f:Addr) (cdv:Value) (A:Around) (outer:List Env) (s:Shared) (H:Hp) (E:XK),QaJ k (A.deeper (envOfC x (Qaj st) s.heap.objs.size f cdv))→∀P,VSs ((Qdv CX0 Pr w K mg base N x (Qaj st) f cdv A outer s H E).nox) (pm++lm) P R (Qa4 st) b) :
  QjJ Pr w K mg base x ps (k+1) (vSp K mg pm R (Qa6 N.length b)):=by
 obtain ⟨f,fd,hm,F⟩:=Df;have hbinds:=F.binds hb;have hkp:=F.kp;obtain ⟨oc,od,kV,doc,pmv,an,cdv,ct,osl,rfl,lk,hcd⟩:=F.ex;refine ⟨f,_,hm,hkp,hbinds,?_,oc,od,osl,lk⟩
 refine Qs8 lk hcd S (fun vs H Q E h=>?_) hbp fun A outer s H vs Q E hr h=>?_
 ·obtain ⟨ds,O,F,as,d,O',r,a,_⟩:=h;rw [a.len.1,hpl]
 ·obtain ⟨ds,O,F,as,d,O',r,a,e,q⟩:=h;refine ⟨_,(body f cdv A outer s H E hr (Pt.all H)),?_⟩;refine ⟨_,O,F,as,r,Qf2 a hl hp,?_⟩;unfold Qa6 at e
  cases eb:b (ds.map some++List.replicate (N.length - ds.length) none) O with
  | rt d' O2 =>
   rw [eb] at e;cases e
   exact fun v H' F' as' g r' hv=>q v H' F' as' g.gr r' (hR _ _ _ _ _ _ _ (fun c hc=>Classical.not_not.mp hc) hv)
  | nx ρ O2 =>
   rw [eb] at e;cases e
   exact fun σ' H' F' as' g r' _=>q _ H' F' as' g.gr r' (hR0 _ _ _ _)
  | bk _ _=>rw [eb] at e; cases e
  | ct _ _=>rw [eb] at e; cases e
  | ex _ _=>rw [eb] at e; cases e
  | no=>rw [eb] at e; cases e
end
section
variable {X:Cx}{md:List Md}{P:Pt}{R:RR}
def PE1 (X:Cx) (e:Expr) (t:TE):Prop :=
 ∀(pins:List (Addr×Obj)) (s:Shared) (σ:St) (H:Hp) (Q:VK),Inv X pins σ H s→t σ H Q→wpAny (model X.prog X.w) X.A (eval e X.env) (fun u s'=>1≤s'.toks∧EP X pins σ Q u s') X.xe s
theorem Qpf {x:Str}{ps:List Str}{k:Nat}{sp:Sp}{p pos:Pos} (C:QjJ X.prog X.w X.K X.mg X.base x ps k sp) (hr:QaJ k X.A) (hg:Gl X x:=by rfl) (hdb:(x == ("__debug__":Str))=false:=by decide) :
  PE1 X (.Call (.Name x p) [] [] pos) (QkF sp [] E0 Qlf):=by
 obtain ⟨f,fd,hm,hk,hb,F,_⟩:=C;intro pins s σ H Q I h;refine wpAny_Call_Name_kw (QgH I hg hm ?_ hdb);refine PySem.W.callWith_K0 I.kIn hk ?_
 have hl:([] ++ []:List Value).length=ps.length:=by rw [←F.len _ _ _ _ h]; rfl
 refine wpAny_call (codeAny_mono (F.run X.A X.stack s H ⟨[],[]⟩ ([] ++ []) ([] ++ []) Q E0 hr I.env0 (hb s [] I.kIn hl) .nil h) fun r s' hq=>?_);obtain ⟨ht,hq⟩:=hq
 cases r with
 | error e=>exact Qid pins σ H s e s' I hq
 | ok fl =>
  cases fl with
  | ret u=>exact ⟨ht,I.after hq⟩
  | next=>exact False.elim hq
  | brk=>exact False.elim hq
  | cont=>exact False.elim hq
def QtP (a b:Str) (to:TE):TE:=fun σ H Q=>to σ H fun x H1=>∃l:Str,x = .str l∧l.length≤1000000∧Q (.str (Txt.replace l a b)) H1
theorem Qri {o:Expr}{to:TE}{a b:Str}{j1 j2:Nat}{p1 p2 apos cpos:Pos} (ho:PE1 X o to) (hab:(a == b)=false) (hbl:b.length≤14)
  (hbase:attributeBase o "replace" X.env (eval o X.env)=eval o X.env:=by rfl)
  (hline:(apos.endLine == cpos.line)=true:=by rfl) :
  PE X (.Call (.Attribute o "replace" apos) [.Constant (.str a) j1 p1,.Constant (.str b) j2 p2] [] cpos) (QtP a b to):=by
 intro pins s σ H Q I h;refine wpAny_Call_method_late hbase rfl hline rfl (thn (ho pins s σ H _ I h) fun v s1 hh=>?_);obtain ⟨ht,x,H1,I1,r1,l,rfl,hl,q⟩:=hh;obtain ⟨h1,h2⟩:=Qk5 (T:="str") I1 r1 rfl;refine ⟨"str","str.replace",PySem.F.plainAttrs_str,PySem.F.slot_str_replace,PySem.F.type_str_replace,h1,h2,?_⟩;refine Calls.callWith_builtin rfl (Calls.evalArgs_plain ?_);refine Calls.spliced_cons (x:=eval (.Constant (.str a) j1 p1) X.env) (Calls.Constant_str ?_);show wpAny _ _ (spliced [(false,eval (.Constant (.str b) j2 p2) X.env)]) _ _ _;refine Calls.spliced_cons (Calls.Constant_str (Calls.spliced_nil ?_))
 obtain ⟨t,rfl⟩:=r1
 refine SC.replaceW (by show s1.toks≠0; omega) (by show s1.toks+1≠0; omega) (by show s1.toks≠s1.toks+1; omega) hab (by omega) hbl fun t' k=>?_
 exact ⟨.str _,H1,I1.tok _,⟨_,rfl⟩,q⟩
def Qij (c:Nat) (m:M D):M D:=fun ρ O=>(m ρ O).bind fun d O1=>match d with
 | .str l=>if l.length≤1000000 then .ok (.str (l.filter (· != c))) O1 else .no
 | _=>.no
theorem Qs1 (l:List Nat) (c:Nat):Txt.replace (S l) (S [c]) (S [])=S (l.filter (· != c)):=by
 have e:=replace_strikes (S l) c;have e2:(S l).cps.toList=l:=QdO l;rw [e2] at e
 have z:∀x:Str,x=S x.cps.toList:=fun x=>by cases x; rfl
 rw [z (Txt.replace (S l) (S [c]) (S []))];congr 1
theorem QnL {x:Str}{ps:List Str}{k:Nat}{c:List D→Qaa→Res D}{p pos apos cpos p1 p2:Pos}{j1 j2:Nat}{a b:Str} (n:Nat) (C:QjJ X.prog X.w X.K X.mg X.base x ps k (vSp X.K X.mg [] (rV X.K) c)) (hr:QaJ k X.A) (ha:a=S [n]:=by decide +kernel) (hb:b=S []:=by decide +kernel) (hg:Gl X x:=by rfl) (hdb:(x == ("__debug__":Str))=false:=by decide)
  (hbase:attributeBase (.Call (.Name x p) [] [] pos) "replace" X.env (eval (.Call (.Name x p) [] [] pos) X.env)=eval (.Call (.Name x p) [] [] pos) X.env:=by rfl)
  (hline:(apos.endLine == cpos.line)=true:=by rfl) :
  VE X md P (.Call (.Attribute (.Call (.Name x p) [] [] pos) "replace" apos) [.Constant (.str a) j1 p1,.Constant (.str b) j2 p2] [] cpos) (Qij n (QaA c Qae)):=by
 subst ha hb
 refine (Qri (Qpf C hr hg hdb) (by
  cases h:(S [n] == S []) with
  | false=>rfl
  | true=>exact absurd (Qqf (eq_of_beq h)) (by simp)) (Nat.zero_le _) hbase hline).imp fun σ H Q q=>?_
 obtain ⟨ρ,O,F,as,d,O',r,s,e,kk⟩:=q;obtain ⟨d1,O1,e1,e⟩:=Res.bind_ok e;split at e
 ·rename_i l;split at e
  ·rename_i hl;cases e
   have q':tM X.K X.mg md P (rV X.K) (QaA c Qae) σ H (fun x H1=>∃l:Str,x = .str l∧l.length≤1000000∧Q (.str (Txt.replace l (S [n]) (S []))) H1):=⟨ρ,O,F,as,.str l,O',r,s,e1,fun v H1 F1 as1 g1 r1 hv=>by
    cases Rp.unS hv;refine ⟨_,rfl,by rw [QaU]; exact hl,?_⟩;rw [Qs1]
    exact kk _ H1 F1 as1 g1 r1 Rp.str⟩
   have:=Qmt (pm:=[]) (E:=E0) Qbn q'
   obtain ⟨ρ,O,F,as,d,O',r,s,e1,k⟩:=this;cases e1;exact k [] H F as Gr.refl r trivial
  ·cases e
 ·cases e
end
section
variable {X:Cx}{md:List Md}{P:Pt}{R:RR}
def QdK (n:Nat) (g:MG) (b:MS):Nat→List D→MS
 | i,[],ρ,O=>match O[n]? with
  | some (.ml es)=>if es.length=i then .nx ρ O else .no
  | _=>.no
 | i,e::rest,ρ,O=>match O[n]? with
  | some (.ml es)=>match es[i]? with
   | some d=>match g (.tup [d,e]) ρ with
    | none=>.no
    | some ρ1=>match b ρ1 O with
     | .nx ρ2 O2=>QdK n g b (i+1) rest ρ2 O2
     | .ct ρ2 O2=>QdK n g b (i+1) rest ρ2 O2
     | .bk ρ2 O2=>.nx ρ2 O2
     | r=>r
   | none=>.no
  | _=>.no
def Qgu (ma mb:M D) (g:MG) (b:MS):MS:=fun ρ O=>match ma ρ O with
 | .ok (.ob n) O1=>match mb ρ O1 with
  | .ok (.lst es) O2=>match O2[n]? with
   | some (.ml _)=>QdK n g b 0 es ρ O2
   | _=>.no
  | _=>.no
 | _=>.no
theorem QqC {K:Frag}{mg:Str→Option Value}{ma mb:M D}{g:MG}{b:MS}{n:Nat}{ds es:List D}{D:Ends}{σ:St}{H F:Hp}{as:List Addr}{ρ:Qai}{O O1 O2:Qaa} (r:RlO K mg O H F as) (s:SlO K md P ρ σ H F as) (e:ma ρ O = .ok (.ob n) O1) (e':mb ρ O1 = .ok (.lst es) O2) (e2:O2[n]? = some (.ml ds))
  (k:Qdm K mg md P R D H F as (QdK n g b 0 es ρ O2)):Qm0 (Qst K (Qnz (tM K mg md P (rW K P) ma) (Qnz (tM K mg md P (rW K P) mb) Qlf))) (tMG K mg md P g) (tMS K mg md P R b) D σ H:=by
 refine ⟨ρ,O,F,as,_,_,r,s,e,fun v H1 F1 as1 g1 r1 hv=>?_⟩;refine ⟨ρ,_,F1,as1,_,_,r1,s.step g1,e',fun u H2 F2 as2 g2 r2 hu=>?_⟩
 have hv':Rp K F1 as1 v (.ob n):=by
  rcases hv with hv | ⟨a,xs,ds',_,z,_⟩
  ·exact hv
  ·cases z
 obtain ⟨a,rfl,ha1⟩:=Rp.unO hv'
 have ha:=g2.toS (P:=P) |>.at_ n a ha1
 obtain ⟨xs0,x1,x2⟩:=r2.ml ha e2;obtain ⟨bb,ys,rfl,h3,h4⟩:=QmR (mg:=mg) hu;have hly:ys.length=es.length:=h3.length;have k1:=Qcq (R:=R) (g1.trans g2).toS k;refine ⟨a,bb,rfl,⟨xs0,.inl (.inl x1)⟩,⟨ys,(h4 H2 F2 as2 GrS.refl ⟨_,r2⟩).sq⟩,fun i m σ' H'=>m=es.length - i∧i≤es.length∧∃ρ' O' F' as',GrS P H2 F2 as2 H' F' as'∧RlO K mg O' H' F' as'∧SlO K md P ρ' σ' H' F' as'∧Qdm K mg md P R D H' F' as' (QdK n g b i (es.drop i) ρ' O'),⟨es.length,by simp,Nat.zero_le _,ρ,O2,F2,as2,GrS.refl,r2,s.step (g1.trans g2),by rw [List.drop_zero]; exact k1⟩,?_⟩;rintro i t σ' H' ⟨rfl,hi,ρ',O',F',as',g',r',s',k'⟩
 have ha':=g'.at_ n a ha;have sy:=(h4 H' F' as' g' ⟨_,r'⟩).sq
 by_cases hlt:i < es.length
 ·rw [List.drop_eq_getElem_cons hlt] at k';unfold QdK at k';split at k'
  ·rename_i es1 ee;obtain ⟨xs,y1,y2⟩:=r'.ml ha' ee;split at k'
   ·rename_i d' ed;obtain ⟨x,hx,rx⟩:=y2.get' ed;have sx:SqL K H' a xs:=.inl (.inl y1);obtain ⟨y,hy,ry⟩:=h3.get' (zD hlt);refine .inr ⟨⟨xs,ys,x,y,sx,sy,hx,hy⟩,fun σ2 H3=>∃ρ2 O3 F3 as3,GrS P H2 F2 as2 H3 F3 as3∧RlO K mg O3 H3 F3 as3∧SlO K md P ρ2 σ2 H3 F3 as3∧Qdm K mg md P R D H3 F3 as3 (QdK n g b (i+1) (es.drop (i+1)) ρ2 O3),fun σ2 H3 h2=>⟨es.length - (i+1),by omega,rfl,hlt,h2⟩,fun z H4 hz=>?_⟩;obtain ⟨T,x2',y2',rfl,hT,rfl,hx2,hy2⟩:=hz;have t1:=hx2 xs sx;have t2:=hy2 ys sy;rw [hx] at t1;rw [hy] at t2;cases t1;cases t2;obtain ⟨F3,gg,rr,rp⟩:=QiS (mg:=mg) ⟨_,r'⟩ hT (Rps.cons rx (Rps.cons (ry.grS g') Rps.nil))
    have k2:=Qcq (R:=R) gg.toS k';split at k2
    ·exact False.elim k2
    ·rename_i ρ1 eg;refine ⟨ρ',O',F3,as',_,ρ1,rr O' r',s'.step gg,rp,eg,fun σ4 s4=>?_⟩;refine ⟨ρ1,O',F3,as',rr O' r',s4,?_⟩
     cases eb:b ρ1 O' with
     | nx ρ2 O2 =>
      rw [eb] at k2
      exact fun σ2 H2 F2 as2 g2 r2 s2=>⟨ρ2,O2,F2,as2,(g'.trans gg.toS).trans g2,r2,s2,Qcq g2 k2⟩
     | ct ρ2 O2 =>
      rw [eb] at k2
      exact fun σ2 H2 F2 as2 g2 r2 s2=>⟨ρ2,O2,F2,as2,(g'.trans gg.toS).trans g2,r2,s2,Qcq g2 k2⟩
     | bk ρ2 O2 =>
      rw [eb] at k2
      exact fun σ2 H2 F2 as2 g2 r2 s2=>k2 σ2 H2 F2 as2 g2 r2 s2
     | rt d O2 =>
      rw [eb] at k2
      exact fun v H2 F2 as2 g2 r2 s2=>k2 v H2 F2 as2 g2 r2 s2
     | ex _ _=>rw [eb] at k2; exact False.elim k2
     | no=>rw [eb] at k2; exact False.elim k2
   ·exact False.elim k'
  ·exact False.elim k'
 ·have hi':i=es.length:=by omega
  subst hi';rw [List.drop_length] at k';unfold QdK at k';split at k'
  ·rename_i es1 ee;split at k'
   ·rename_i hl;obtain ⟨xs,y1,y2⟩:=r'.ml ha' ee;exact .inl ⟨⟨xs,ys,.inl (.inl y1),sy,.inr (by rw [hly]; exact zc _)⟩,k' σ' H' F' as' GrS.refl r' s'⟩
   ·exact False.elim k'
  ·exact False.elim k'
theorem Qrb {elts:List Expr}{x1:Nat}{tpos:Pos}{a b:Expr}{p ipos:Pos}{body:List Stmt}{pos:Pos}{ma mb:M D}{g:MG}{bd:MS} (hc:X.calm=true) (hm:X.mg "zip" = none) (ha:WE X md P a ma) (hb':WE X md P b mb) (hg:VG X md P (.Tuple elts x1 tpos) g) (hb:VSs X md P R body bd)
  (hgl:Gl X "zip":=by rfl) (hs1:starEach [a,b] X.env=(false,eval a X.env)::starEach [b] X.env:=by exact Qbl rfl) (hs2:starEach [b] X.env=(false,eval b X.env)::starEach [] X.env:=by exact Qbl rfl) (hpl:(backTo ipos (starEach [b] X.env)).any (·.1)=false:=by exact Qbk rfl)
  (hp:PassesOwn (model X.prog X.w) X.A X.env X.xe:=by exact PassesOwn.never)
  (hs:∀x,foldedSetIterable (.Call (.Name "zip" p) [a,b] [] ipos) X.env x=pure x:=by intro _; rfl):VS X md P R (.For (.Tuple elts x1 tpos) (.Call (.Name "zip" p) [a,b] [] ipos) body [] pos) (Qgu ma mb g bd):=fun pins s σ H D I q=>by
 obtain ⟨ρ,O,F,as,r,sl,k⟩:=q;unfold Qgu at k;split at k
 ·rename_i n O1 e1;split at k
  ·rename_i es O2 e3;split at k
   ·rename_i ds e2;exact Qk7 hp hc (Qrz hgl hm (QbV ha (QbV hb' QcI hs2) hs1) hs1 hpl) hg hb hs pins s σ H D I (QqC r sl e1 e3 e2 k)
   ·exact False.elim k
  ·exact False.elim k
 ·exact False.elim k
end
section
variable {prog:Program}{w:World}{A:Around}{E:Value→Shared→Prop}{s:Shared}
end
section
variable {X:Cx}{md:List Md}{P:Pt}{R:RR}
end
section
variable {K:Frag}{h:Heap}{mg:Str→Option Value}
theorem mkD {x:Str}{st:Stmt}{f:Addr}{oc:Value}{od an:Option Addr}{sl:Array (Option Value)}{kV dc pm cd ct:Value} (X:K.In h) (G:h.Ns mainGlobals mg) (a:nsIn K mainGlobals x=some (some (.ref f))) (l:K.lookup f=some ⟨oc,od,.func (fnOf x x (QbW st) (Qa4 st) (Qaj st) .none kV dc pm an cd ct),sl⟩) (c:codeIn K cd x=true) (k:keepIn K (.ref f)=true):Def K mg x st:=⟨_,_,mg_of X G a,Qlh l c k⟩
structure ClsAt (K:Frag) (c:Str) (A:Addr):Prop where
 ns:nsIn K mainGlobals c=some (some (.ref A))
 pg:plainGet K A Str.empty=true
 hd:hasDictIn K A=true
 po:plainOver K A=true
 sa:findIn K (.ref A) "__setattr__" = some (some (.builtin "object.__setattr__"))
 mks:makesIn K A=true
 kc:keepIn K (.ref A)=true
def MethAt (K:Frag) (A:Addr) (m qual:Str) (st:Stmt):Prop:=∃f fd,findIn K (.ref A) m=some (some (.ref f))∧isFn K (.ref f)=true∧keepIn K (.ref f)=true∧Fun K m qual st f fd
theorem mkM {A:Addr}{m qual:Str}{st:Stmt}{f:Addr}{oc:Value}{od an:Option Addr}{sl:Array (Option Value)}{kV dc pm cd ct:Value} (a:findIn K (.ref A) m=some (some (.ref f))) (i:isFn K (.ref f)=true) (l:K.lookup f=some ⟨oc,od,.func (fnOf m qual (QbW st) (Qa4 st) (Qaj st) .none kV dc pm an cd ct),sl⟩) (c:codeIn K cd qual=true) (k:keepIn K (.ref f)=true):MethAt K A m qual st:=⟨_,_,a,i,k,Qlh l c k⟩
variable {A:Addr}{c:Str}
theorem ClsAt.cl (z:ClsAt K c A):Cls K A:=⟨z.pg,z.hd,z.po,z.sa⟩
theorem ClsAt.dm (z:ClsAt K c A) (X:K.In h) (G:h.Ns mainGlobals mg) {m qual:Str}{st:Stmt} (q:MethAt K A m qual st):QfF K mg c m qual st:=by
 obtain ⟨f,fd,a,i,k,fu⟩:=q;exact ⟨_,_,_,mg_of X G z.ns,z.cl,⟨a,i,k⟩,fu⟩
theorem ClsAt.dc (z:ClsAt K c A) (X:K.In h) (G:h.Ns mainGlobals mg) {qual:Str}{st:Stmt} (q:MethAt K A "__init__" qual st):QmQ K mg c qual st:=by
 obtain ⟨f,fd,a,i,k,fu⟩:=q;exact ⟨_,_,_,mg_of X G z.ns,⟨z.mks,a,i,z.kc⟩,fu⟩
theorem ClsAt.kf (z:ClsAt K c A) (X:K.In h) (G:h.Ns mainGlobals mg) {f:Str} (n:findIn K (.ref A) f=some none):KC K mg c f:=⟨_,mg_of X G z.ns,z.cl,n⟩
end
end L2
namespace L2
open PySem PySem.Spec PyProof.Rows
section
variable {X:Cx}
end
def ofO (o:Option D) (O:Qaa):Res D:=match o with
 | some d=>.ok d O
 | none=>.no
@[simp] theorem QdR {d:D}{O:Qaa}:ofO (some d) O = .ok d O:=rfl
@[simp] theorem Qaq {α β:Type}{a:α}{O:Qaa}{f:α→Qaa→Res β}:(Res.ok a O).bind f=f a O:=rfl
@[simp] theorem Qul {O:Qaa}:QaK O .non = .non:=rfl
@[simp] theorem Qhd {O:Qaa}{b:Bool}:QaK O (.bl b) = .bl b:=rfl
@[simp] theorem Qdj {O:Qaa}{b:Int}:QaK O (.int b) = .int b:=rfl
@[simp] theorem QeK {O:Qaa}{b:List Nat}:QaK O (.str b) = .str b:=rfl
@[simp] theorem QeS {O:Qaa}{b:List D}:QaK O (.lst b) = .lst b:=rfl
@[simp] theorem Qui {O:Qaa}{b:List D}:QaK O (.tup b) = .tup b:=rfl
@[simp] theorem Quk {O:Qaa}{a b:List D}:QaK O (.dic a b) = .dic a b:=rfl
@[simp] theorem QbT {i:Nat}{ρ:Qai}{O:Qaa}:Qab i ρ O=(match ρ[i]? with | some (some d)=>.ok d O | _=>.no):=rfl
@[simp] theorem m_c {d:D}{ρ:Qai}{O:Qaa}:mC d ρ O = .ok d O:=rfl
@[simp] theorem Qi6 {g:D→D→Option D}{a b:M D}{ρ:Qai}{O:Qaa}:Qaf g a b ρ O=(a ρ O).bind fun x O1=>(b ρ O1).bind fun y O2=>ofO (g (QaK O2 x) (QaK O2 y)) O2:=rfl
def gF (r:Res D):Res D:=match r with
 | .ok d O'=>if QfZ d=true then .ok d O' else .no
 | r=>r
@[simp] theorem m_g {m:M D}{ρ:Qai}{O:Qaa}:mG m ρ O=gF (m ρ O):=rfl
@[simp] theorem Qr6 {i:Int}{O:Qaa}:gF (.ok (.int i) O) = .ok (.int i) O:=rfl
@[simp] theorem QvU {i:List Nat}{O:Qaa}:gF (.ok (.str i) O) = .ok (.str i) O:=rfl
@[simp] theorem Qwz {i:Bool}{O:Qaa}:gF (.ok (.bl i) O) = .ok (.bl i) O:=rfl
@[simp] theorem QvL {O:Qaa}:gF (.ok .non O) = .ok .non O:=rfl
@[simp] theorem QvV {l:List D}{O:Qaa}:gF (.ok (.tup l) O) = .ok (.tup l) O:=rfl
@[simp] theorem QwC {n:Nat}{O:Qaa}:gF (.ok (.ob n) O) = .ok (.ob n) O:=rfl
def chF (o:Option D) (O:Qaa) (f:Unit→Res D):Res D:=match o with
 | some (.bl true)=>f ()
 | some (.bl false)=>.ok (.bl false) O
 | _=>.no
@[simp] theorem Qwo {b:Bool}{O:Qaa}{f:Unit→Res D}:chF (some (.bl b)) O f=if b=true then f () else .ok (.bl false) O:=by cases b <;> rfl
@[simp] theorem Qvw {g g':D→D→Option D}{a b c:M D}{ρ:Qai}{O:Qaa}:Qgw g g' a b c ρ O=(a ρ O).bind fun x O1=>(b ρ O1).bind fun y O2=>chF (g (QaK O2 x) (QaK O2 y)) O2 fun _=>(c ρ O2).bind fun z O3=>ofO (g' (QaK O3 y) (QaK O3 z)) O3:=by
 unfold Qgw;congr 1
@[simp] theorem QwE {m:M D}{ρ:Qai}{O:Qaa}:Qux m ρ O=(m ρ O).bind fun d O1=>.ok (.bl (isNon d)) O1:=rfl
@[simp] theorem Qvx {m:M D}{ρ:Qai}{O:Qaa}:QkD m ρ O=(m ρ O).bind fun d O1=>.ok (.bl (!isNon d)) O1:=rfl
@[simp] theorem Quh:isNon .non=true:=rfl
@[simp] theorem Qun {l:List D}:isNon (.lst l)=false:=rfl
@[simp] theorem Quj {l:List D}:isNon (.tup l)=false:=rfl
@[simp] theorem Quf {l:List Nat}:isNon (.str l)=false:=rfl
@[simp] theorem Quo {l:Int}:isNon (.int l)=false:=rfl
@[simp] theorem QuV {l:Nat}:isNon (.ob l)=false:=rfl
def teF (d:D) (O:Qaa):Res Bool:=match d with
 | .bl b=>.ok b O
 | _=>.no
@[simp] theorem Qjk {b:Bool}{O:Qaa}:teF (.bl b) O = .ok b O:=rfl
@[simp] theorem Qi4 {m:M D}{ρ:Qai}{O:Qaa}:QaD m ρ O=(m ρ O).bind teF:=rfl
def ofB (o:Option Bool) (O:Qaa):Res Bool:=match o with
 | some d=>.ok d O
 | none=>.no
@[simp] theorem QgN {d:Bool}{O:Qaa}:ofB (some d) O = .ok d O:=rfl
@[simp] theorem Qjg {m:M D}{ρ:Qai}{O:Qaa}:QbJ m ρ O=(m ρ O).bind fun d O1=>ofB (QjS (QaK O1 d)) O1:=rfl
@[simp] theorem Qim {b:Bool}:QjS (.bl b)=some b:=rfl
@[simp] theorem QuM {b:List D}:QjS (.lst b)=some (!b.isEmpty):=rfl
@[simp] theorem QvH {a b:M Bool}{ρ:Qai}{O:Qaa}:Qff a b ρ O=(a ρ O).bind fun c O1=>if c=true then b ρ O1 else .ok false O1:=rfl
@[simp] theorem QpL {a b:M Bool}{ρ:Qai}{O:Qaa}:Qb3 a b ρ O=(a ρ O).bind fun c O1=>if c=true then .ok true O1 else b ρ O1:=rfl
@[simp] theorem QgB {a:M Bool}{ρ:Qai}{O:Qaa}:Qbz a ρ O=(a ρ O).bind fun c O1=>.ok (!c) O1:=rfl
def anF (d:D) (O:Qaa) (f:Unit→Res D):Res D:=match d with
 | .bl true=>f ()
 | .bl false=>.ok (.bl false) O
 | _=>.no
def orF (d:D) (O:Qaa) (f:Unit→Res D):Res D:=match d with
 | .bl true=>.ok (.bl true) O
 | .bl false=>f ()
 | _=>.no
@[simp] theorem Qwi {b:Bool}{O:Qaa}{f:Unit→Res D}:anF (.bl b) O f=if b=true then f () else .ok (.bl false) O:=by cases b <;> rfl
@[simp] theorem Qv1 {b:Bool}{O:Qaa}{f:Unit→Res D}:orF (.bl b) O f=if b=true then .ok (.bl true) O else f ():=by cases b <;> rfl
@[simp] theorem Qvz {a b:M D}{ρ:Qai}{O:Qaa}:Qdq a b ρ O=(a ρ O).bind fun d O1=>anF d O1 fun _=>b ρ O1:=by
 unfold Qdq;congr 1
@[simp] theorem Qwp {a b:M D}{ρ:Qai}{O:Qaa}:QrR a b ρ O=(a ρ O).bind fun d O1=>orF d O1 fun _=>b ρ O1:=by
 unfold QrR;congr 1
def noF (d:D) (O:Qaa):Res D:=match d with
 | .bl b=>.ok (.bl (!b)) O
 | _=>.no
@[simp] theorem Qwg {b:Bool}{O:Qaa}:noF (.bl b) O = .ok (.bl (!b)) O:=rfl
@[simp] theorem QvM {a:M D}{ρ:Qai}{O:Qaa}:Qkw a ρ O=(a ρ O).bind noF:=rfl
@[simp] theorem QwJ {t:M Bool}{a b:M D}{ρ:Qai}{O:Qaa}:mIf t a b ρ O=(t ρ O).bind fun c O1=>if c=true then a ρ O1 else b ρ O1:=rfl
@[simp] theorem QbN {ρ:Qai}{O:Qaa}:Qae ρ O = .ok [] O:=rfl
@[simp] theorem QbU {m:M D}{r:M (List D)}{ρ:Qai}{O:Qaa}:Qac m r ρ O=(m ρ O).bind fun d O1=>(r ρ O1).bind fun ds O2=>.ok (d::ds) O2:=rfl
@[simp] theorem Qh9 {r:M (List D)}{ρ:Qai}{O:Qaa}:Qb2 r ρ O=(r ρ O).bind fun ds O1=>if ds.length≤1000000 then .ok (.lst ds) O1 else .no:=rfl
@[simp] theorem Qp0 {r:M (List D)}{ρ:Qai}{O:Qaa}:Qbj r ρ O=(r ρ O).bind fun ds O1=>if ds.length≤1000000 then .ok (.tup ds) O1 else .no:=rfl
@[simp] theorem QgG {c:List D→Qaa→Res D}{ma:M (List D)}{ρ:Qai}{O:Qaa}:QaA c ma ρ O=(ma ρ O).bind fun ds O1=>c ds O1:=rfl
@[simp] theorem Qmv {g:List D→Option D}{ma:M (List D)}{ρ:Qai}{O:Qaa}:QaB g ma ρ O=(ma ρ O).bind fun ds O1=>ofO (g (ds.map (QaK O1))) O1:=rfl
@[simp] theorem QwN {g:D→Option D}{ma:M D}{ρ:Qai}{O:Qaa}:mUn g ma ρ O=(ma ρ O).bind fun d O1=>ofO (g (QaK O1 d)) O1:=rfl
def isF (n:String) (o:Option String) (O:Qaa):Res D:=match o with
 | some t=>.ok (.bl (Qdk t n)) O
 | none=>.no
@[simp] theorem QiM {n t:String}{O:Qaa}:isF n (some t) O = .ok (.bl (Qdk t n)) O:=rfl
@[simp] theorem Qnf {n:String}{m:M D}{ρ:Qai}{O:Qaa}:QcH n m ρ O=(m ρ O).bind fun d O1=>isF n (tyD (QaK O1 d)) O1:=rfl
@[simp] theorem Qvg:tyD .non=some "NoneType":=rfl
@[simp] theorem QvQ {b:Bool}:tyD (.bl b)=some "bool":=rfl
@[simp] theorem Qvv {b:Int}:tyD (.int b)=some "int":=rfl
@[simp] theorem Qrd {b:List Nat}:tyD (.str b)=some "str":=rfl
@[simp] theorem Qme {b:List D}:tyD (.lst b)=some "list":=rfl
@[simp] theorem Qve {b:List D}:tyD (.tup b)=some "tuple":=rfl
@[simp] theorem Qvt {a b:List D}:tyD (.dic a b)=some "dict":=rfl
@[simp] theorem QwM {ρ:Qai}{O:Qaa}:moN ρ O = .ok none O:=rfl
def osF (d:D) (O:Qaa):Res (Option Int):=match d with
 | .int i=>.ok (some i) O
 | _=>.no
@[simp] theorem Qwk {i:Int}{O:Qaa}:osF (.int i) O = .ok (some i) O:=rfl
@[simp] theorem QwL {m:M D}{ρ:Qai}{O:Qaa}:moS m ρ O=(m ρ O).bind osF:=rfl
@[simp] theorem QuZ {m:M D}{lo hi:M (Option Int)}{ρ:Qai}{O:Qaa}:mSl m lo hi ρ O=(m ρ O).bind fun d O1=>(lo ρ O1).bind fun l O2=>(hi ρ O2).bind fun h O3=>ofO (gSl (QaK O3 d) l h) O3:=rfl
@[simp] theorem Qvp {l:List Nat}{lo hi:Option Int}:gSl (.str l) lo hi=if l.length≤16777216 then some (.str (Qb7 l lo hi)) else none:=rfl
@[simp] theorem QqL {l:List D}{lo hi:Option Int}:gSl (.lst l) lo hi=some (.lst (Qb7 l lo hi)):=rfl
@[simp] theorem Qvm {l:List D}{lo hi:Option Int}:gSl (.tup l) lo hi=some (.tup (Qb7 l lo hi)):=rfl
def QgS (f:Fl) (b:MS):Fl:=match f with
 | .nx ρ' O'=>b ρ' O'
 | r=>r
@[simp] theorem QcX {a b:MS}{ρ:Qai}{O:Qaa}:Qan a b ρ O=QgS (a ρ O) b:=rfl
@[simp] theorem QcJ {ρ:Qai}{O:Qaa}{b:MS}:QgS (.nx ρ O) b=b ρ O:=rfl
@[simp] theorem Qrj {d:D}{O:Qaa}{b:MS}:QgS (.rt d O) b = .rt d O:=rfl
@[simp] theorem Qvj {ρ:Qai}{O:Qaa}{b:MS}:QgS (.bk ρ O) b = .bk ρ O:=rfl
@[simp] theorem Qvr {ρ:Qai}{O:Qaa}{b:MS}:QgS (.ct ρ O) b = .ct ρ O:=rfl
@[simp] theorem Qvl {b:MS}:QgS .no b = .no:=rfl
@[simp] theorem Qfx {ρ:Qai}{O:Qaa}:QaO ρ O = .nx ρ O:=rfl
def Qlp (r:Res D):Fl:=match r with
 | .ok d O'=>.rt d O'
 | .ex x O'=>.ex x O'
 | .no=>.no
@[simp] theorem QcV {m:M D}{ρ:Qai}{O:Qaa}:Qaw m ρ O=Qlp (m ρ O):=rfl
@[simp] theorem Qck {d:D}{O:Qaa}:Qlp (.ok d O) = .rt d O:=rfl
def QpN (r:Res D) (ρ:Qai):Fl:=match r with
 | .ok _ O'=>.nx ρ O'
 | .ex x O'=>.ex x O'
 | .no=>.no
@[simp] theorem Qjr {m:M D}{ρ:Qai}{O:Qaa}:Qgv m ρ O=QpN (m ρ O) ρ:=rfl
@[simp] theorem QiL {d:D}{O:Qaa}{ρ:Qai}:QpN (.ok d O) ρ = .nx ρ O:=rfl
def ifF (r:Res Bool) (a b:MS) (ρ:Qai):Fl:=match r with
 | .ok c O'=>if c=true then a ρ O' else b ρ O'
 | .ex x O'=>.ex x O'
 | .no=>.no
@[simp] theorem QeB {t:M Bool}{a b:MS}{ρ:Qai}{O:Qaa}:QaV t a b ρ O=ifF (t ρ O) a b ρ:=rfl
@[simp] theorem QdL {c:Bool}{O:Qaa}{a b:MS}{ρ:Qai}:ifF (.ok c O) a b ρ=if c=true then a ρ O else b ρ O:=rfl
def Qlu (i:Nat) (r:Res D) (ρ:Qai):Fl:=match r with
 | .ok d O'=>.nx (ρ.set i (some d)) O'
 | .ex x O'=>.ex x O'
 | .no=>.no
@[simp] theorem Qd6 {i:Nat}{m:M D}{ρ:Qai}{O:Qaa}:Qat i m ρ O=Qlu i (m ρ O) ρ:=rfl
@[simp] theorem Qdo {i:Nat}{d:D}{O:Qaa}{ρ:Qai}:Qlu i (.ok d O) ρ = .nx (ρ.set i (some d)) O:=rfl
def QsC (r:Res (List D)) (g:MG) (b:MS) (ρ:Qai):Fl:=match r with
 | .ok ds O'=>Qbh g b ds ρ O'
 | .ex x O'=>.ex x O'
 | .no=>.no
@[simp] theorem Qlm {m:M (List D)}{g:MG}{b:MS}{ρ:Qai}{O:Qaa}:QbX m g b ρ O=QsC (m ρ O) g b ρ:=rfl
@[simp] theorem QjB {ds:List D}{O:Qaa}{g:MG}{b:MS}{ρ:Qai}:QsC (.ok ds O) g b ρ=Qbh g b ds ρ O:=rfl
@[simp] theorem mg_n {i:Nat}{d:D}{ρ:Qai}:mgN i d ρ=some (ρ.set i (some d)):=rfl
def Qb4 (f:Fl):Res D:=match f with
 | .rt d O'=>.ok d O'
 | .nx _ O'=>.ok .non O'
 | .ex x O'=>.ex x O'
 | _=>.no
@[simp] theorem QkH {n:Nat}{b:MS}{ds:List D}{O:Qaa}:Qa6 n b ds O=Qb4 (b (ds.map some++List.replicate (n - ds.length) none) O):=rfl
@[simp] theorem QdV {d:D}{O:Qaa}:Qb4 (.rt d O) = .ok d O:=rfl
@[simp] theorem Qmp {ρ:Qai}{O:Qaa}:Qb4 (.nx ρ O) = .ok .non O:=rfl
@[simp] theorem QrA {m:M (List D)}{ρ:Qai}{O:Qaa}:QcN m ρ O=(m ρ O).bind fun ds O1=>match ds with
 | [.int j]=>if j≤1000000000∧-1000000000≤j then .ok (QbL 0 j.toNat) O1 else .no
 | _=>.no:=rfl
def itF (o:Option (List D)) (O:Qaa):Res (List D):=match o with
 | some ds=>.ok ds O
 | none=>.no
@[simp] theorem Qg4 {ds:List D}{O:Qaa}:itF (some ds) O = .ok ds O:=rfl
@[simp] theorem Qjj {m:M D}{ρ:Qai}{O:Qaa}:Qc9 m ρ O=(m ρ O).bind fun d O1=>itF (QgZ d) O1:=rfl
@[simp] theorem Qhy {ds:List D}:QgZ (.lst ds)=some ds:=rfl
@[simp] theorem Qug {ds:List D}:QgZ (.tup ds)=some ds:=rfl
theorem Qop {l:List Nat} (h:ascii l=true):QgZ (.str l)=some (Qa5 l):=by
 show (if ascii l=true then some (Qa5 l) else none)=_;rw [if_pos h]
@[simp] theorem QoG {m:M (List D)}{own:Nat}{cap:List Nat}{g:MG}{t:M Bool}{e:M D}{ρ:Qai}{O:Qaa}:Qdp m own cap g t e ρ O=(m ρ O).bind fun ds O1=>if ds.length≤1000000 then (QcA g t e ds (QgX own cap ρ) O1 []).bind fun ys O2=>.ok (.lst ys) O2 else .no:=rfl
@[simp] theorem QvO {i j:Int}:Qa0 (.int i) (.int j)=some (.int (i+j)):=rfl
@[simp] theorem Qrx {a b:List Nat}:Qa0 (.str a) (.str b)=if a.length+b.length≤1000000 then some (.str (a++b)) else none:=rfl
@[simp] theorem QsY {a b:List D}:Qa0 (.lst a) (.lst b)=if a.length+b.length≤1000000 then some (.lst (a++b)) else none:=rfl
@[simp] theorem QuI {i j:Int}:Qel (.int i) (.int j)=some (.int (i - j)):=rfl
@[simp] theorem Qsq {i j:Int}:Qcc (.int i) (.int j)=if 0 < j then some (.int (i % j)) else none:=by
 unfold Qcc gI
 by_cases h:0 < j <;> simp [h]
@[simp] theorem Qvd {i j:Int}:QfR (.int i) (.int j)=if 0 < j∧j < 1073741824 then some (.int (i / j)) else none:=by
 unfold QfR gI
 by_cases h:0 < j∧j < 1073741824 <;> simp [h]
theorem QnC {i j:Int} (h:(-(2 ^ 64) < i∧i < 2 ^ 64)∨(-(2 ^ 64) < j∧j < 2 ^ 64)):Qeq (.int i) (.int j)=some (.int (i * j)):=by
 unfold Qeq;dsimp only;rw [if_pos];rw [Bool.or_eq_true];unfold Qfo;rw [zg,zg,decide_eq_true_eq,decide_eq_true_eq,decide_eq_true_eq,decide_eq_true_eq];exact h
@[simp] theorem Qv3 {i j:Int}:gLt (.int i) (.int j)=some (.bl (decide (i < j))):=rfl
@[simp] theorem Qwd {i j:Int}:gGt (.int i) (.int j)=some (.bl (decide (j < i))):=rfl
@[simp] theorem Qv6 {i j:Int}:gGe (.int i) (.int j)=some (.bl (decide (j≤i))):=rfl
@[simp] theorem Qwf {i j:Int}:gLe (.int i) (.int j)=some (.bl (decide (i≤j))):=rfl
theorem Qn0 (a b:Nat):(([a]:List Nat) < [b])↔a < b:=by
 constructor
 ·intro h
  rcases List.cons_lt_cons_iff.mp h with h | ⟨_,h⟩
  ·exact h
  ·exact absurd h (List.not_lt_nil _)
 ·intro h;exact List.cons_lt_cons_iff.mpr (.inl h)
@[simp] theorem Qwy {a b:Nat}:gLe (.str [a]) (.str [b])=some (.bl (decide (a≤b))):=by
 show some (D.bl (!decide (([b]:List Nat) < [a])))=_
 have:decide (([b]:List Nat) < [a])=decide (b < a):=by
  by_cases h:b < a
  ·rw [zK h,zK ((Qn0 _ _).mpr h)]
  ·rw [zt h,zt (fun z=>h ((Qn0 _ _).mp z))]
 rw [this]
 by_cases h:b < a
 ·rw [zK h,zt (by omega)]; rfl
 ·rw [zt h,zK (by omega)]; rfl
@[simp] theorem QwA {i j:Int}:gEq (.int i) (.int j)=some (.bl (decide (i=j))):=rfl
@[simp] theorem QpV {i j:List Nat}:gEq (.str i) (.str j)=some (.bl (decide (i=j))):=rfl
@[simp] theorem Qwm {i j:Bool}:gEq (.bl i) (.bl j)=some (.bl (decide (i=j))):=rfl
@[simp] theorem QtO {i j:List D}:gEq (.lst i) (.lst j)=if (okE (.lst i)&&okE (.lst j))=true then some (.bl (Qhi (.lst i) (.lst j))) else none:=rfl
@[simp] theorem Qqc {i j:Int}:gNe (.int i) (.int j)=some (.bl (!decide (i=j))):=rfl
@[simp] theorem Qv7 {i j:List Nat}:gNe (.str i) (.str j)=some (.bl (!decide (i=j))):=rfl
@[simp] theorem Qv2 {i j:Bool}:gNe (.bl i) (.bl j)=some (.bl (!decide (i=j))):=rfl
@[simp] theorem Qwa {i j:List D}:gNe (.lst i) (.lst j)=if (okE (.lst i)&&okE (.lst j))=true then some (.bl (!Qhi (.lst i) (.lst j))) else none:=rfl
@[simp] theorem Qwe {n:Bool}{c:Nat}{l:List Nat}:gIn n (.str [c]) (.str l)=some (.bl (n ^^ decide (c∈l))):=rfl
theorem Qt8 {ds:List D}{i:Int}:gIx (.lst ds) (.int i)=atI ds i:=rfl
theorem QpO {l:List Nat}{i:Int}:gIx (.str l) (.int i)=if l.length≤1000000 then (atI l i).map (fun c=>.str [c]) else none:=rfl
@[simp] theorem QrO {l:List Nat}:QaY [.str l]=if l.length≤1000000 then some (.int l.length) else none:=rfl
@[simp] theorem QoH {l:List D}:QaY [.lst l]=some (.int l.length):=rfl
@[simp] theorem QvG {l:List D}:QaY [.tup l]=some (.int l.length):=rfl
@[simp] theorem QvA {i j:Int}:QuN [.int i,.int j]=some (.int (if j > i then j else i)):=rfl
@[simp] theorem Qvy {i j:Int}:QuA [.int i,.int j]=some (.int (if j < i then j else i)):=rfl
@[simp] theorem QvI {i:Int}:QsK [.int i]=some (.int i):=rfl
@[simp] theorem QvF {b:Bool}:QsK [.bl b]=some (.int (if b then 1 else 0)):=rfl
@[simp] theorem QvP:Qf4 (.int 10) (.int 18)=some (.int 1000000000000000000):=by rfl
@[simp] theorem QvE:Qf4 (.int 10) (.int 9)=some (.int 1000000000):=by rfl
@[simp] theorem Qke {α:Type}{xs:List α}{j:Nat}:atI xs (j:Int)=xs[j]?:=by
 unfold atI ixN;rw [if_pos (by omega)]
 by_cases h:j < xs.length
 ·rw [if_pos (by omega)];simp
 ·rw [if_neg (by omega),List.getElem?_eq_none (by omega)];rfl
theorem QrI {α:Type}{xs:List α}{i:Int} (h0:0≤i) (h1:i < xs.length):∃x,atI xs i=some x∧x∈xs:=by
 obtain ⟨j,rfl⟩:=Int.eq_ofNat_of_zero_le h0
 have hj:j < xs.length:=by omega
 exact ⟨xs[j],by show atI xs (j:Int)=_; rw [Qke,zD hj],ji hj⟩
section
variable {c:Prop} [Decidable c]
@[simp] theorem Qu8 {a b:Fl}:Qb4 (if c then a else b)=if c then Qb4 a else Qb4 b:=by split <;> rfl
@[simp] theorem Qu3 {a b:Res D}:Qlp (if c then a else b)=if c then Qlp a else Qlp b:=by split <;> rfl
@[simp] theorem Qu0 {a b:Fl}{r:MS}:QgS (if c then a else b) r=if c then QgS a r else QgS b r:=by split <;> rfl
@[simp] theorem QuG {α β:Type}{a b:Res α}{f:α→Qaa→Res β}:(if c then a else b).bind f=if c then a.bind f else b.bind f:=by split <;> rfl
@[simp] theorem Qvk {a b:Res Bool}{x y:MS}{ρ:Qai}:ifF (if c then a else b) x y ρ=if c then ifF a x y ρ else ifF b x y ρ:=by split <;> rfl
@[simp] theorem QuE {a b:Res D}{i:Nat}{ρ:Qai}:Qlu i (if c then a else b) ρ=if c then Qlu i a ρ else Qlu i b ρ:=by split <;> rfl
@[simp] theorem Qvh {a b:Option D}{O:Qaa}:ofO (if c then a else b) O=if c then ofO a O else ofO b O:=by split <;> rfl
end
@[simp] theorem Qsz:Qdk "str" "str" = true:=by decide
@[simp] theorem QvD:Qdk "int" "str" = false:=by decide
@[simp] theorem QvW:Qdk "bool" "str" = false:=by decide
@[simp] theorem QvY:Qdk "list" "str" = false:=by decide
@[simp] theorem QvJ:Qdk "tuple" "str" = false:=by decide
@[simp] theorem QvB:Qdk "dict" "str" = false:=by decide
@[simp] theorem QvR:Qdk "NoneType" "str" = false:=by decide
@[simp] theorem QvC:Qdk "int" "int" = true:=by decide
@[simp] theorem QvN:Qdk "int" "bool" = false:=by decide
@[simp] theorem Qvu:Qdk "bool" "bool" = true:=by decide
@[simp] theorem Qmo:Qdk "list" "list" = true:=by decide
@[simp] theorem Qvq:Qdk "tuple" "tuple" = true:=by decide
@[simp] theorem Qvn:Qdk "NoneType" "list" = false:=by decide
theorem QfN {g:MG}{b:MS} (Pv:Nat→Qai→Qaa→Prop):∀(ds:List D) (k:Nat) (ρ:Qai) (O:Qaa),Pv k ρ O →
  (∀i d ρ O,ds[i]? = some d→Pv (k+i) ρ O→∃ρ1,g d ρ=some ρ1∧∃ρ2 O2,(b ρ1 O = .nx ρ2 O2∨b ρ1 O = .ct ρ2 O2)∧Pv (k+i+1) ρ2 O2)→∃ρ' O',Qbh g b ds ρ O = .nx ρ' O'∧Pv (k+ds.length) ρ' O'
 | [],k,ρ,O,h,_=>⟨ρ,O,rfl,h⟩
 | d::ds,k,ρ,O,h,hs=>by
  obtain ⟨ρ1,e1,ρ2,O2,e2,h2⟩:=hs 0 d ρ O rfl h
  obtain ⟨ρ',O',e3,h3⟩:=QfN Pv ds (k+1) ρ2 O2 h2 fun i d' ρ' O' hi hp=>by
   have:=hs (i+1) d' ρ' O' (by simpa using hi) (by rw [show k+(i+1)=k+1+i by omega]; exact hp)
   rw [show k+(i+1)+1=k+1+i+1 by omega] at this;exact this
  refine ⟨ρ',O',?_,by rw [zk,show k+(ds.length+1)=k+1+ds.length by omega]; exact h3⟩;unfold Qbh;rw [e1];dsimp only
  rcases e2 with e2 | e2 <;> rw [e2] <;> exact e3
theorem QjZ {g:MG}{t:M Bool}{m:M D} (Pv:Qai→Prop) (f:D→D):∀(ds:List D) (ρ:Qai) (O:Qaa) (acc:List D),Pv ρ→(∀d∈ds,∀ρ,Pv ρ→∃ρ1,g d ρ=some ρ1∧Pv ρ1∧t ρ1 O = .ok true O∧m ρ1 O = .ok (f d) O)→QcA g t m ds ρ O acc = .ok (acc++ds.map f) O
 | [],ρ,O,acc,_,_=>by simp [QcA]
 | d::ds,ρ,O,acc,h,hs=>by
  obtain ⟨ρ1,e1,h1,e2,e3⟩:=hs d zu ρ h;unfold QcA;rw [e1];dsimp only;rw [e2];dsimp only;rw [e3];dsimp only;rw [QjZ Pv f ds ρ1 O _ h1 fun d' hd'=>hs d' (zm _ hd')];simp
@[simp] theorem QvS {ρ:Qai}{O:Qaa}:QtU ρ O = .ok [] O:=rfl
@[simp] theorem Qvf {a b:M D}{r:M (List (D×D))}{ρ:Qai}{O:Qaa}:Qr8 a b r ρ O=(a ρ O).bind fun x O1=>(b ρ O1).bind fun y O2=>(r ρ O2).bind fun ps O3=>.ok ((x,y)::ps) O3:=rfl
def diF (o:Option (List Key)) (kv:List (D×D)) (O:Qaa):Res D:=match o with
 | some ks=>if ks.Nodup∧kv.length≤15 then .ok (.dic (kv.map (·.1)) (kv.map (·.2))) O else .no
 | none=>.no
@[simp] theorem Qup {ks:List Key}{kv:List (D×D)}{O:Qaa}:diF (some ks) kv O=if ks.Nodup∧kv.length≤15 then .ok (.dic (kv.map (·.1)) (kv.map (·.2))) O else .no:=rfl
@[simp] theorem QvK {m:M (List (D×D))}{ρ:Qai}{O:Qaa}:Qt9 m ρ O=(m ρ O).bind fun kv O1=>diF (keysOf kv) kv O1:=rfl
@[simp] theorem Qvs {i:Int}:keyOf (.int i)=some (.inl i):=rfl
@[simp] theorem Qvo {i:List Nat}:keyOf (.str i)=some (.inr (S i)):=rfl
@[simp] theorem Qua:keysOf []=some []:=rfl
@[simp] theorem Qtn {a b:D}{r:List (D×D)}:keysOf ((a,b)::r)=(keyOf a).bind fun k=>(keysOf r).map (k :: ·):=rfl
def joF (o:Option (List (List Nat))) (O:Qaa):Res D:=match o with
 | some ls=>if (ls.map List.length).sum≤1000000 then .ok (.str ls.flatten) O else .no
 | none=>.no
@[simp] theorem QpG {ls:List (List Nat)}{O:Qaa}:joF (some ls) O=if (ls.map List.length).sum≤1000000 then .ok (.str ls.flatten) O else .no:=rfl
def jdF (d:D) (O:Qaa):Res D:=match d with
 | .lst ds=>joF (QeF ds) O
 | _=>.no
@[simp] theorem Qt2 {ds:List D}{O:Qaa}:jdF (.lst ds) O=joF (QeF ds) O:=rfl
@[simp] theorem QrY {m:M D}{ρ:Qai}{O:Qaa}:QkG m ρ O=(m ρ O).bind fun d O1=>jdF (QaK O1 d) O1:=rfl
theorem Qj6 {α:Type}{f:α→List Nat}:∀l:List α,QeF (l.map fun x=>.str (f x))=some (l.map f)
 | []=>rfl
 | x::l=>by
  show (QeF (l.map fun x=>D.str (f x))).map _=_;rw [Qj6 l];rfl
@[simp] theorem Qv5 {own:Nat}{cap:List Nat}{ρ:Qai}:QgX own cap ρ=List.replicate own none++cap.map fun j=>(ρ[j]?).join:=rfl
@[simp] theorem Qum {g:MG}{t:M Bool}{m:M D}{ρ:Qai}{O:Qaa}{acc:List D}:QcA g t m [] ρ O acc = .ok acc O:=rfl
theorem QlF:∀ds:List D,Qf9 ds=ds.map toP
 | []=>rfl
 | d::ds=>by rw [Qf9,QlF ds]; rfl
theorem Qit:∀{ds:List D},(∀d∈ds,QbD d=true)→Qdr ds=true
 | [],_=>rfl
 | d::ds,h=>by rw [Qdr,h d zu,Qit fun x hx=>h x (zm _ hx)]; rfl
theorem Qq7 {n:Nat} (hn:n < 60) {ds:List D} (h:∀d∈ds,QbD d=true∧(toP d).canLay0=true∧(toP d).depth≤n):okE (.lst ds)=true:=by
 unfold okE;rw [zg];refine ⟨?_,?_⟩
 ·rw [QbD]; exact Qit fun d hd=>(h d hd).1
 ·rw [toP,QlF]
  refine Qq1 hn fun d hd=>?_
  obtain ⟨x,hx,rfl⟩:=zU.mp hd;exact (h x hx).2
theorem QjD {l:List Nat} (h:∀c∈l,c < 1114112):(PyData.str (S l)).canLay0=true:=by
 show PyData.strOk (S l)=true;unfold PyData.strOk S;simp;exact h
theorem QhS {d:D} (h:okE d=true):Qhi d d=true:=by
 unfold okE at h;rw [zg] at h
 have:=h.2
 unfold okD at this;rw [zg] at this;exact SeqAt.eqv_refl _ this.1
def it (f:Int→Int):Nat→Int→Int
 | 0,x=>x
 | n+1,x=>f (it f n x)
def mix (n k:Int):Int:=if n > 1000000000000000000 then it (fun r=>r / 1000000000) k.toNat n % 1000000000
 else
  let m:=it (fun m=>(m * 48271+104729) % 2147483629) (k+2).toNat (n % 2147483647+7919)
  m * m % 998244353 / 11
theorem QpS (j:Nat) (x:Int) (h0:0≤x) (h1:x < 2147491566):0≤it (fun m=>(m * 48271+104729) % 2147483629) j x∧it (fun m=>(m * 48271+104729) % 2147483629) j x < 2147491566:=by
 induction j with
 | zero=>exact ⟨h0,h1⟩
 | succ j ih =>
  refine ⟨Int.emod_nonneg _ (by decide),?_⟩
  have:=Int.emod_lt_of_pos (it (fun m=>(m * 48271+104729) % 2147483629) j x * 48271+104729) (show (0:Int) < 2147483629 by decide)
  show (it (fun m=>(m * 48271+104729) % 2147483629) j x * 48271+104729) % 2147483629 < _;omega
def QmJ:MS:=(Qan (QaV (QaD (Qaf gGt (Qab 0) (Qaf Qf4 (mC (.int 10)) (mC (.int 18))))) (Qan (Qat 2 (mG (Qab 0)))
  (Qan (QbX (QcN (Qac (Qab 1) Qae)) (mgN 3) (Qat 2 (Qaf QfR (Qab 2) (Qaf Qf4 (mC (.int 10)) (mC (.int 9))))))
  (Qaw (Qaf Qcc (Qab 2) (Qaf Qf4 (mC (.int 10)) (mC (.int 9))))))) QaO)
  (Qan (Qat 4 (Qaf Qa0 (Qaf Qcc (Qab 0) (mC (.int 2147483647))) (mC (.int 7919))))
  (Qan (QbX (QcN (Qac (Qaf Qa0 (Qab 1) (mC (.int 2))) Qae)) (mgN 3) (Qat 4 (Qaf Qcc (Qaf Qa0 (Qaf Qeq (Qab 4) (mC (.int 48271))) (mC (.int 104729))) (mC (.int 2147483629)))))
  (Qaw (Qaf QfR (Qaf Qcc (Qaf Qeq (Qab 4) (Qab 4)) (mC (.int 998244353))) (mC (.int 11)))))))
theorem Qjo (lo:Int) (n:Nat):(QbL lo n).length=n:=by simp [QbL]
theorem Qtm (n k:Int) (h0:0≤k) (h1:k≤1000000) (O:Qaa):Qa6 5 QmJ [.int n,.int k] O = .ok (.int (mix n k)) O:=by
 unfold mix
 by_cases hn:n > 1000000000000000000
 ·obtain ⟨ρ',O',e,rfl,o3,rfl⟩:=QfN (g:=mgN 3) (b:=Qat 2 (Qaf QfR (Qab 2) (Qaf Qf4 (mC (.int 10)) (mC (.int 9)))))
   (fun i ρ O'=>O'=O∧∃o3,ρ = [some (.int n),some (.int k),some (.int (it (fun r=>r / 1000000000) i n)),o3,none]) (QbL 0 k.toNat) 0 [some (.int n),some (.int k),some (.int n),none,none] O ⟨rfl,none,rfl⟩ (by
    rintro i d ρ O' hi ⟨rfl,o3,rfl⟩;refine ⟨_,rfl,?_⟩;simp;rw [show it (fun r=>r / 1000000000) (i+1) n=it (fun r=>r / 1000000000) i n / 1000000000 from rfl]
    exact ⟨_,_,⟨rfl,rfl⟩,rfl,_,rfl⟩)
  rw [Qjo,Nat.zero_add] at e
  have hk:k≤1000000000∧-1000000000≤k:=by omega
  simp [QmJ,hn,hk,e]
 ·have hm0:0≤n % 2147483647+7919:=by have:=Int.emod_nonneg n (show (2147483647:Int)≠0 by decide); omega
  have hm1:n % 2147483647+7919 < 2147491566:=by have:=Int.emod_lt_of_pos n (show (0:Int) < 2147483647 by decide); omega
  obtain ⟨ρ',O',e,rfl,o3,rfl⟩:=QfN (g:=mgN 3) (b:=Qat 4 (Qaf Qcc (Qaf Qa0 (Qaf Qeq (Qab 4) (mC (.int 48271))) (mC (.int 104729))) (mC (.int 2147483629))))
   (fun i ρ O'=>O'=O∧∃o3,ρ = [some (.int n),some (.int k),none,o3,some (.int (it (fun m=>(m * 48271+104729) % 2147483629) i (n % 2147483647+7919)))]) (QbL 0 (k+2).toNat) 0 [some (.int n),some (.int k),none,none,some (.int (n % 2147483647+7919))] O ⟨rfl,none,rfl⟩ (by
    rintro i d ρ O' hi ⟨rfl,o3,rfl⟩;refine ⟨_,rfl,?_⟩;obtain ⟨b0,b1⟩:=QpS i _ hm0 hm1
    have:=QnC (i:=it (fun m=>(m * 48271+104729) % 2147483629) i (n % 2147483647+7919)) (j:=48271) (.inr ⟨by decide,by decide⟩)
    simp [this]
    rw [show it (fun m=>(m * 48271+104729) % 2147483629) (i+1) (n % 2147483647+7919)=(it (fun m=>(m * 48271+104729) % 2147483629) i (n % 2147483647+7919) * 48271+104729) % 2147483629 from rfl]
    exact ⟨_,_,⟨rfl,rfl⟩,rfl,_,rfl⟩)
  rw [Qjo,Nat.zero_add] at e
  have hk:k+2≤1000000000∧-1000000000≤k+2:=by omega
  obtain ⟨b0,b1⟩:=QpS (k+2).toNat _ hm0 hm1;have hq:=QnC (i:=it (fun m=>(m * 48271+104729) % 2147483629) (k+2).toNat (n % 2147483647+7919)) (j:=it (fun m=>(m * 48271+104729) % 2147483629) (k+2).toNat (n % 2147483647+7919)) (.inl ⟨by omega,by omega⟩);simp [QmJ,hn,hk,e,hq]
def Qey (cs:List Str) (f:Str) (d:D) (O:Qaa):Res D:=match d with
 | .ob n=>match O[n]? with
  | some (.ins c fs)=>if c∈cs then match fs.lookup f with
   | some y=>.ok y O
   | none=>.no else .no
  | _=>.no
 | _=>.no
@[simp] theorem Qp5 {cs:List Str}{f:Str}{m:M D}{ρ:Qai}{O:Qaa}:QbA cs f m ρ O=(m ρ O).bind (Qey cs f):=rfl
def puF (cs:List Str) (f:Str) (d:D) (ρ:Qai) (r:Res D):Fl:=match r with
 | .ok (.ob n) O2=>match O2[n]? with
  | some (.ins c fs)=>if c∈cs∧fs.length < 900 then .nx ρ (O2.set n (.ins c (putD f d fs))) else .no
  | _=>.no
 | _=>.no
def sfF (cs:List Str) (f:Str) (mo:M D) (r:Res D) (ρ:Qai):Fl:=match r with
 | .ok d O1=>puF cs f d ρ (mo ρ O1)
 | .ex x O'=>.ex x O'
 | .no=>.no
@[simp] theorem Qi8 {cs:List Str}{f:Str}{mo mv:M D}{ρ:Qai}{O:Qaa}:QbH cs f mo mv ρ O=sfF cs f mo (mv ρ O) ρ:=by
 unfold QbH sfF puF
 cases mv ρ O <;> rfl
@[simp] theorem Qi2 {cs:List Str}{f:Str}{mo:M D}{d:D}{O:Qaa}{ρ:Qai}:sfF cs f mo (.ok d O) ρ=puF cs f d ρ (mo ρ O):=rfl
def meF (c m:Str) (cf:List D→Qaa→Res D) (ma:Qaa→Res (List D)) (d:D) (O1:Qaa):Res D:=match d with
 | .ob n=>match O1[n]? with
  | some (.ins c' fs)=>if c'=c∧(fs.lookup m).isNone=true then (ma O1).bind fun ds O2=>cf (.ob n::ds) O2 else .no
  | _=>.no
 | _=>.no
@[simp] theorem Qeg {c m:Str}{cf:List D→Qaa→Res D}{mo:M D}{ma:M (List D)}{ρ:Qai}{O:Qaa}:Qbi c m cf mo ma ρ O=(mo ρ O).bind (meF c m cf (ma ρ)):=rfl
def mkF (n:Nat) (r:Res D):Res D:=match r with
 | .ok .non O2=>.ok (.ob n) O2
 | .ok _ _=>.no
 | .ex x O2=>.ex x O2
 | .no=>.no
@[simp] theorem QsB {c:Str}{cf:List D→Qaa→Res D}{ma:M (List D)}{ρ:Qai}{O:Qaa}:Qfn c cf ma ρ O=(ma ρ O).bind fun ds O1=>mkF O1.length (cf (.ob O1.length::ds) (O1 ++ [.ins c []])):=by
 unfold Qfn;congr 1
@[simp] theorem QrH {n:Nat}{O:Qaa}:mkF n (.ok .non O) = .ok (.ob n) O:=rfl
def apF (i:Nat) (r:Res D) (ρ:Qai):Fl:=match r with
 | .ok d O'=>match ρ[i]? with
  | some (some (.lst ds))=>if ds.length < 1000000 then .nx (ρ.set i (some (.lst (ds ++ [d])))) O' else .no
  | _=>.no
 | .ex x O'=>.ex x O'
 | .no=>.no
@[simp] theorem QrV {i:Nat}{m:M D}{ρ:Qai}{O:Qaa}:QgL i m ρ O=apF i (m ρ O) ρ:=rfl
theorem QsQ {i:Nat}{d:D}{ds:List D}{ρ:Qai}{O:Qaa} (h:ρ[i]? = some (some (.lst ds))) (hl:ds.length < 1000000):apF i (.ok d O) ρ = .nx (ρ.set i (some (.lst (ds ++ [d])))) O:=by
 unfold apF; dsimp only; rw [h]; dsimp only; rw [if_pos hl]
def exF (i:Nat) (r:Res D) (ρ:Qai):Fl:=match r with
 | .ok d O'=>match ρ[i]?,QaK O' d with
  | some (some (.lst ds)),.lst es=>if ds.length+es.length≤1000000 then .nx (ρ.set i (some (.lst (ds++es)))) O' else .no
  | _,_=>.no
 | .ex x O'=>.ex x O'
 | .no=>.no
@[simp] theorem QrS {i:Nat}{m:M D}{ρ:Qai}{O:Qaa}:Qfe i m ρ O=exF i (m ρ O) ρ:=rfl
theorem QrZ {i:Nat}{es ds:List D}{ρ:Qai}{O:Qaa} (h:ρ[i]? = some (some (.lst ds))) (hl:ds.length+es.length≤1000000):exF i (.ok (.lst es) O) ρ = .nx (ρ.set i (some (.lst (ds++es)))) O:=by
 unfold exF; dsimp only [QaK]; rw [h]; dsimp only; rw [if_pos hl]
def enF (d:D) (O1:Qaa):Res (List D):=match d with
 | .lst ds=>.ok (QbZ 0 ds) O1
 | .str l=>if ascii l=true then .ok (QbZ 0 (Qa5 l)) O1 else .no
 | _=>.no
@[simp] theorem Qsx {m:M D}{ρ:Qai}{O:Qaa}:Qku m ρ O=(m ρ O).bind enF:=rfl
theorem Qmm {l:List Nat}{O:Qaa} (h:ascii l=true):enF (.str l) O = .ok (QbZ 0 (Qa5 l)) O:=by
 show (if ascii l=true then _ else _)=_;rw [if_pos h]
def asF (r:Res D) (g:MG) (ρ:Qai):Fl:=match r with
 | .ok d O'=>match g d ρ with
  | some ρ'=>.nx ρ' O'
  | none=>.no
 | .ex x O'=>.ex x O'
 | .no=>.no
@[simp] theorem Qv0 {m:M D}{g:MG}{ρ:Qai}{O:Qaa}:QtC m g ρ O=asF (m ρ O) g ρ:=rfl
@[simp] theorem QwP {i j:Nat}{a b:D}{ρ:Qai}:Qgg 2 (Qbq (mgN i) (Qbq (mgN j) Qeo)) (.tup [a,b]) ρ=some ((ρ.set i (some a)).set j (some b)):=rfl
def stF (a b:D) (O:Qaa):Res D:=match a,b with
 | .str l,.str n=>.ok (.bl (decide (l.take n.length=n))) O
 | _,_=>.no
@[simp] theorem QuQ {a b:M D}{ρ:Qai}{O:Qaa}:Qih a b ρ O=(a ρ O).bind fun x O1=>(b ρ O1).bind fun y O2=>stF x y O2:=rfl
@[simp] theorem Qwq {l n:List Nat}{O:Qaa}:stF (.str l) (.str n) O = .ok (.bl (decide (l.take n.length=n))) O:=rfl
theorem Qhe {α:Type}{g:MG}{t:M Bool}{m:M D} (Pv:Qai→Prop) (f h:α→D):∀(xs:List α) (ρ:Qai) (O:Qaa) (acc:List D),Pv ρ→(∀x∈xs,∀ρ,Pv ρ→∃ρ1,g (f x) ρ=some ρ1∧Pv ρ1∧t ρ1 O = .ok true O∧m ρ1 O = .ok (h x) O)→QcA g t m (xs.map f) ρ O acc = .ok (acc++xs.map h) O
 | [],ρ,O,acc,_,_=>by simp [QcA]
 | x::xs,ρ,O,acc,hp,hs=>by
  obtain ⟨ρ1,e1,h1,e2,e3⟩:=hs x zu ρ hp;rw [zd];unfold QcA;rw [e1];dsimp only;rw [e2];dsimp only;rw [e3];dsimp only;rw [Qhe Pv f h xs ρ1 O _ h1 fun d' hd'=>hs d' (zm _ hd')];simp
def Qb8:List Nat:=[101,110,100]
def Qi9:List Nat:=[97,110,101,119]
def QfC:List Nat:=[112,108,97,105,110]
def QaF:List Nat:=[115,105,103,110]
def QhC:List Nat:=[105,110,107]
def Qd0:List Nat:=[103,114,111,117,110,100]
def item (p:Int) (k v:List Nat):D:=.tup [.int p,.str k,.str v]
def col (c:Nat):Bool:=decide (c∈[97,98,99,100,101,102,103,104,46])
theorem Qjc {c:Nat} (h:col c=true):c≠91∧c≠93∧c≠47∧c≠10∧c≠9:=by
 have:c∈[97,98,99,100,101,102,103,104,46]:=jg h
 have q:∀c∈[97,98,99,100,101,102,103,104,46],c≠91∧c≠93∧c≠47∧c≠10∧c≠9:=by decide
 exact q c this
def QkO (x:Nat):List Nat→List Nat×List Nat×Nat
 | []=>(QaF,[91],0)
 | e::_=>if e=93 then (Qd0,[x],3) else (QaF,[91],0)
def QiR:List Nat→List Nat×List Nat×Nat
 | []=>(QaF,[91],0)
 | x::t=>if col x=true then QkO x t else (QaF,[91],0)
def Qlx (x:Nat):List Nat→List Nat×List Nat×Nat
 | []=>(QaF,[91],0)
 | e::_=>if e=93 then (QhC,[x],2) else (QaF,[91],0)
def Qea:List Nat→List Nat×List Nat×Nat
 | []=>(QaF,[91],0)
 | d::t=>if d=93 then (QfC,[],1) else if d=91 then (QaF,[91],1) else if col d=true then Qlx d t else if d=47 then QiR t else (QaF,[91],0)
def one (c:Nat) (t:List Nat):List Nat×List Nat×Nat :=
 if c=10 then (Qb8,[],0) else if c=9 then (Qi9,[],0) else if c=91 then Qea t else (QaF,[c],0)
def items (p:Int):List Nat→List D
 | []=>[]
 | c::t=>item p (one c t).1 (one c t).2.1::items (p+((one c t).2.2+1:Nat)) (t.drop (one c t).2.2)
termination_by l=>l.length
decreasing_by
 simp only [List.length_drop,zk];omega
theorem QdY (p:Int):items p [] = []:=by rw [items]
theorem Qfg (p:Int) (c:Nat) (t:List Nat):items p (c::t)=item p (one c t).1 (one c t).2.1::items (p+((one c t).2.2+1:Nat)) (t.drop (one c t).2.2):=by rw [items]
def own (p:Int) (c:Nat):D:=if c=10 then item p Qb8 [] else if c=9 then item p Qi9 [] else item p QaF [c]
def Qcw:Int→List Nat→List D
 | _,[]=>[]
 | p,c::l=>own p c::Qcw (p+1) l
theorem Qba {p:Int}{c:Nat}{t:List Nat} (h:c≠91):items p (c::t)=own p c::items (p+1) t:=by
 rw [Qfg];unfold one own
 by_cases h1:c=10
 ·simp [h1]
 ·by_cases h2:c=9
  ·simp [h1,h2]
  ·simp [h1,h2,h]
theorem Qcf {p:Int}{t:List Nat} (h:Qea t=(QaF,[91],0)):items p (91::t)=own p 91::items (p+1) t:=by
 rw [Qfg]
 have:one 91 t=(QaF,[91],0):=h
 rw [this];rfl
theorem QfK {p:Int}{t:List Nat}{k v:List Nat}{n:Nat} (h:Qea t=(k,v,n)):items p (91::t)=item p k v::items (p+(n+1:Nat)) (t.drop n):=by
 rw [Qfg]
 have:one 91 t=(k,v,n):=h
 rw [this]
def Qcd:List Nat→Bool
 | [a]=>decide (a=91)
 | [a,b]=>decide (a=91)&&(decide (b=47) || col b)
 | [a,b,c]=>decide (a=91)&&(decide (b=47)&&col c)
 | _=>false
def markB:List Nat→Option (List Nat×List Nat)
 | [a,b]=>if a=91∧b=93 then some (QfC,[]) else if a=91∧b=91 then some (QaF,[91]) else none
 | [a,b,c]=>if a=91∧col b=true∧c=93 then some (QhC,[b]) else none
 | [a,b,c,d]=>if a=91∧b=47∧col c=true∧d=93 then some (Qd0,[c]) else none
 | _=>none
def tk (h:List Nat) (c:Nat) (p:Int):List D×List Nat :=
 if Qcd (h ++ [c])=true then ([],h ++ [c]) else match markB (h ++ [c]) with
 | some (k,v)=>([item p k v],[])
 | none=>if c=91 then (Qcw p h,[91]) else (Qcw p (h ++ [c]),[])
inductive Qbb:List Nat→Prop where
 | h0:Qbb []
 | h1:Qbb [91]
 | h2:Qbb [91,47]
 | h3 (x:Nat) (h:col x=true):Qbb [91,x]
 | h4 (x:Nat) (h:col x=true):Qbb [91,47,x]
theorem Qbb.len {h:List Nat} (H:Qbb h):h.length≤3:=by cases H <;> simp
theorem Qll:col 91=false:=by decide
theorem QnP:col 93=false:=by decide
theorem QeR:col 47=false:=by decide
theorem QgP {h:List Nat} (H:Qbb h) (c:Nat) (p:Int) (rest:List Nat) :
  Qbb (tk h c p).2∧items p (h++c::rest)=(tk h c p).1++items (p+h.length+1 - (tk h c p).2.length) ((tk h c p).2++rest):=by
 cases H with
 | h0 =>
  by_cases h1:c=91
  ·subst h1;refine ⟨Qbb.h1,?_⟩;simp [tk,Qcd]
  ·have:tk [] c p=([own p c],[]):=by simp [tk,Qcd,markB,h1,Qcw]
   rw [this];refine ⟨Qbb.h0,?_⟩;simp [Qba h1]
 | h1 =>
  by_cases h2:c=93
  ·subst h2
   have:tk [91] 93 p=([item p QfC []],[]):=by simp [tk,Qcd,markB,QnP]
   rw [this];refine ⟨Qbb.h0,?_⟩;show items p (91::93::rest)=_;rw [QfK (k:=QfC) (v:=[]) (n:=1) rfl];simp [Int.add_assoc]
  ·by_cases h1:c=91
   ·subst h1
    have:tk [91] 91 p=([item p QaF [91]],[]):=by simp [tk,Qcd,markB,Qll]
    rw [this];refine ⟨Qbb.h0,?_⟩;show items p (91::91::rest)=_;rw [QfK (k:=QaF) (v:=[91]) (n:=1) rfl];simp [Int.add_assoc]
   ·by_cases h3:c=47
    ·subst h3
     have:tk [91] 47 p=([],[91,47]):=by simp [tk,Qcd]
     rw [this];exact ⟨Qbb.h2,by simp; congr 1; omega⟩
    ·by_cases h4:col c=true
     ·have:tk [91] c p=([],[91,c]):=by simp [tk,Qcd,h4]
      rw [this];exact ⟨Qbb.h3 c h4,by simp; congr 1; omega⟩
     ·have:tk [91] c p=([own p 91,own (p+1) c],[]):=by simp [tk,Qcd,markB,h1,h2,h3,h4,Qcw]
      rw [this];refine ⟨Qbb.h0,?_⟩;show items p (91::c::rest)=_;rw [Qcf (by simp [Qea,h1,h2,h3,h4]),Qba h1];simp
 | h2 =>
  by_cases h4:col c=true
  ·have:tk [91,47] c p=([],[91,47,c]):=by simp [tk,Qcd,h4]
   rw [this];exact ⟨Qbb.h4 c h4,by simp; congr 1; omega⟩
  ·by_cases h1:c=91
   ·subst h1
    have:tk [91,47] 91 p=([own p 91,own (p+1) 47],[91]):=by simp [tk,Qcd,markB,QeR,Qll,Qcw]
    rw [this];refine ⟨Qbb.h1,?_⟩;show items p (91::47::91::rest)=_;rw [Qcf (by simp [Qea,QiR,QeR,Qll]),Qba (by decide)];simp;congr 1;omega
   ·have:tk [91,47] c p=([own p 91,own (p+1) 47,own (p+1+1) c],[]):=by simp [tk,Qcd,markB,h1,h4,QeR,Qcw]
    rw [this];refine ⟨Qbb.h0,?_⟩;show items p (91::47::c::rest)=_;rw [Qcf (by simp [Qea,QiR,QeR,h4]),Qba (by decide),Qba h1];simp;congr 1;omega
 | h3 x hx =>
  obtain ⟨n1,n2,n3,n4,n5⟩:=Qjc hx
  by_cases h2:c=93
  ·subst h2
   have:tk [91,x] 93 p=([item p QhC [x]],[]):=by simp [tk,Qcd,markB,QnP,hx]
   rw [this];refine ⟨Qbb.h0,?_⟩;show items p (91::x::93::rest)=_;rw [QfK (k:=QhC) (v:=[x]) (n:=2) (by simp [Qea,Qlx,n1,n2,hx])];simp;congr 1;omega
  ·by_cases h1:c=91
   ·subst h1
    have:tk [91,x] 91 p=([own p 91,own (p+1) x],[91]):=by simp [tk,Qcd,markB,n3,Qcw]
    rw [this];refine ⟨Qbb.h1,?_⟩;show items p (91::x::91::rest)=_;rw [Qcf (by simp [Qea,Qlx,n1,n2,hx]),Qba n1];simp;congr 1;omega
   ·have:tk [91,x] c p=([own p 91,own (p+1) x,own (p+1+1) c],[]):=by simp [tk,Qcd,markB,h1,h2,n3,Qcw]
    rw [this];refine ⟨Qbb.h0,?_⟩;show items p (91::x::c::rest)=_;rw [Qcf (by simp [Qea,Qlx,n1,n2,hx,h2]),Qba n1,Qba h1];simp;congr 1;omega
 | h4 x hx =>
  obtain ⟨n1,n2,n3,n4,n5⟩:=Qjc hx
  by_cases h2:c=93
  ·subst h2
   have:tk [91,47,x] 93 p=([item p Qd0 [x]],[]):=by simp [tk,Qcd,markB,hx]
   rw [this];refine ⟨Qbb.h0,?_⟩;show items p (91::47::x::93::rest)=_;rw [QfK (k:=Qd0) (v:=[x]) (n:=3) (by simp [Qea,QiR,QkO,QeR,hx])];simp;congr 1;omega
  ·by_cases h1:c=91
   ·subst h1
    have:tk [91,47,x] 91 p=([own p 91,own (p+1) 47,own (p+1+1) x],[91]):=by simp [tk,Qcd,markB,Qcw]
    rw [this];refine ⟨Qbb.h1,?_⟩;show items p (91::47::x::91::rest)=_;rw [Qcf (by simp [Qea,QiR,QkO,QeR,hx]),Qba (by decide),Qba n1];simp;congr 1;omega
   ·have:tk [91,47,x] c p=([own p 91,own (p+1) 47,own (p+1+1) x,own (p+1+1+1) c],[]):=by simp [tk,Qcd,markB,h1,h2,Qcw]
    rw [this];refine ⟨Qbb.h0,?_⟩;show items p (91::47::x::c::rest)=_;rw [Qcf (by simp [Qea,QiR,QkO,QeR,hx,h2]),Qba (by decide),Qba n1,Qba h1];simp;congr 1;omega
theorem QmS {h:List Nat} (H:Qbb h) (p:Int):items p h=Qcw p h:=by
 cases H with
 | h0=>rw [QdY]; rfl
 | h1=>rw [Qcf rfl,QdY]; rfl
 | h2=>rw [Qcf rfl,Qba (by decide),QdY]; rfl
 | h3 x hx =>
  obtain ⟨n1,n2,n3,n4,n5⟩:=Qjc hx;rw [Qcf (by simp [Qea,Qlx,n1,n2,hx]),Qba n1,QdY]; rfl
 | h4 x hx =>
  obtain ⟨n1,n2,n3,n4,n5⟩:=Qjc hx;rw [Qcf (by simp [Qea,QiR,QkO,QeR,hx]),Qba (by decide),Qba n1,QdY]; rfl
def QbM:List Nat→Int→List Nat→List D×List Nat
 | h,_,[]=>([],h)
 | h,p,c::t=>((tk h c (p - h.length)).1++(QbM (tk h c (p - h.length)).2 (p+1) t).1,(QbM (tk h c (p - h.length)).2 (p+1) t).2)
theorem Qki:∀(t:List Nat) {h:List Nat} (_:Qbb h) (p:Int) (rest:List Nat),Qbb (QbM h p t).2∧items (p - h.length) (h++(t++rest))=(QbM h p t).1++items (p+t.length - (QbM h p t).2.length) ((QbM h p t).2++rest)
 | [],h,H,p,rest=>⟨H,by simp [QbM]⟩
 | c::t,h,H,p,rest=>by
  obtain ⟨a,b⟩:=QgP H c (p - h.length) (t++rest);obtain ⟨a2,b2⟩:=Qki t a (p+1) rest;refine ⟨a2,?_⟩;show items (p - h.length) (h++c::(t++rest))=_;rw [b]
  have e:p - (h.length:Int)+h.length+1 - ((tk h c (p - h.length)).2.length:Int)=p+1 - ((tk h c (p - h.length)).2.length:Int):=by omega
  rw [e,b2];show _=((tk h c (p - h.length)).1++(QbM (tk h c (p - h.length)).2 (p+1) t).1)++items (p+((c::t).length:Nat) - ((QbM (tk h c (p - h.length)).2 (p+1) t).2.length:Int)) ((QbM (tk h c (p - h.length)).2 (p+1) t).2++rest);rw [zS]
  have e2:p+1+(t.length:Int)=p+((c::t).length:Nat):=by simp; omega
  rw [e2]
theorem Qq6 (t:List Nat):Qbb (QbM [] 0 t).2∧items 0 t=(QbM [] 0 t).1++Qcw (t.length - (QbM [] 0 t).2.length) (QbM [] 0 t).2:=by
 obtain ⟨a,b⟩:=Qki t Qbb.h0 0 [];refine ⟨a,?_⟩;simp at b;rw [b,QmS a]
@[simp] theorem Qvi {l:List D}:QkA [.lst l]=some (.lst l):=rfl
def fzF (f:Fl):Fl:=match f with
 | .rt d O'=>.rt d O'
 | _=>.no
@[simp] theorem Qwc {m:MS}{ρ:Qai}{O:Qaa}:QuK m ρ O=fzF (m ρ O):=rfl
@[simp] theorem QvX {d:D}{O:Qaa}:fzF (.rt d O) = .rt d O:=rfl
def ziF (d e:D) (O:Qaa):Res (List D):=match d,e with
 | .lst ds,.lst es=>.ok (QmK ds es) O
 | _,_=>.no
@[simp] theorem QwD {ma mb:M D}{ρ:Qai}{O:Qaa}:Qsv ma mb ρ O=(ma ρ O).bind fun d O1=>(mb ρ O1).bind fun e O2=>ziF d e O2:=by
 unfold Qsv;congr 1
@[simp] theorem Qwu {ds es:List D}{O:Qaa}:ziF (.lst ds) (.lst es) O = .ok (QmK ds es) O:=rfl
end L2
namespace L2
open PySem
section
variable {ρ ρ':Qai}{O O' O1 O2:Qaa}{d:D}{x:Xc}{a b m:MS}{r:M D}{t:M Bool}{ma:M (List D)}{c:List D→Qaa→Res D}{ds:List D}
theorem Qby (h:a ρ O = .nx ρ' O'):Qan a b ρ O=b ρ' O':=by rw [QcX,h,QcJ]
theorem Qt1 (h:a ρ O = .rt d O'):Qan a b ρ O = .rt d O':=by rw [QcX,h,Qrj]
theorem QkC {g:MG} (h:ma ρ O = .ok ds O'):QbX ma g b ρ O=Qbh g b ds ρ O':=by rw [Qlm,h,QjB]
end
end L2
namespace K21
open PySem L2
seal VE SE OE WE TsE TwE AE VS VSs VG VGs VI VIc VO VIf DPE
def top (i:Nat):Stmt:=PySem.Challenge.pw_outweave_k21_plain_rows.main.body.getD i (.Pass ⟨0,0,0,0⟩)
local macro_rules | `(tactic| trivial) => `(tactic| exact ⟨rfl, rfl, rfl, by decide +kernel, rfl, by decide +kernel, by decide +kernel⟩)
section
variable {Pr:Program}{w:World}{K:Frag}{mg:Str→Option Value}{base:Heap}
abbrev QhJ:Stmt:=top 11
theorem Qm1:Qay ["thing"] ["thing"] (Qaj QhJ):=by trivial
def QhV:MS :=
  (Qaw (Qdq (QcH "str" (Qab 0)) (Qdq (Qaf gEq (QaB QaY (Qac (Qab 0) Qae)) (mC (.int 1))) (Qgw gLe gLe (mC (.str [32])) (Qab 0) (mC (.str [125]))))))
def Qd2:List D→Qaa→Res D:=Qa6 1 QhV
abbrev Qj2 (Pr:Program) (w:World) (K:Frag) (mg:Str→Option Value) (base:Heap):Prop:=Can Pr w K mg base "is_sign" ["thing"] 1 (vSp K mg [.s] (rV K) Qd2)
theorem Qm9 (QhR:Def K mg "is_sign" QhJ)
  (B:Blt mg)
  (Qfs:∃u,mg "FIRST_SIGN" = some u∧RelV (.str (S [32])) u)
  (Qgd:∃u,mg "LAST_SIGN" = some u∧RelV (.str (S [125])) u) :
  Qj2 Pr w K mg base:=by
 refine QcE (k:=0) (b:=QhV) QhR Qm1 (fun _ _ _ _ _ _=>QaX fun _=>Qbw rfl) [.s] [] Qbn (fun _ _ _ _=>Rp.non) (body:=fun f cdv A outer s H E hr P=>?_);refine Qam ?_;refine QaC ?_;refine QdM ?_ ?_;refine QaR (QcC "str" (hb:=QiX) B.isinstance_ B.str_ (Qao 0));refine QdM ?_ ?_;refine QaR ?_;refine QgE (Qbm hr) ?_ (Qad Qap) (QaM _);refine QaE ?_;refine Qa8 (ms:=[.s]) (hv:=QbB) QbC B.len_ ?_;refine Qax (Qao 0) Qak;refine QfG ?_;refine QaR ?_;refine Qle QkJ QkJ ?_ (Qao 0) ?_;refine Qad ?_;refine Qdl Qfs (fun _ _ _=>Rp.str);refine Qad ?_;refine Qdl Qgd (fun _ _ _=>Rp.str)
abbrev Qgh:Stmt:=top 12
theorem QkS:Qay ["thing"] ["thing"] (Qaj Qgh):=by trivial
def Qf0:MS :=
  (Qaw (Qdq (QcH "str" (Qab 0)) (Qdq (Qaf gEq (QaB QaY (Qac (Qab 0) Qae)) (mC (.int 1))) (Qaf (gIn false) (Qab 0) (mC (.str [97,98,99,100,101,102,103,104,46]))))))
def Qct:List D→Qaa→Res D:=Qa6 1 Qf0
abbrev Qgn (Pr:Program) (w:World) (K:Frag) (mg:Str→Option Value) (base:Heap):Prop:=Can Pr w K mg base "is_colour" ["thing"] 1 (vSp K mg [.s] (rV K) Qct)
theorem QkN (Qgb:Def K mg "is_colour" Qgh)
  (B:Blt mg)
  (QhU:∃u,mg "COLOURS" = some u∧RelV (.str (S [97,98,99,100,101,102,103,104,46])) u) :
  Qgn Pr w K mg base:=by
 refine QcE (k:=0) (b:=Qf0) Qgb QkS (fun _ _ _ _ _ _=>QaX fun _=>Qbw rfl) [.s] [] Qbn (fun _ _ _ _=>Rp.non) (body:=fun f cdv A outer s H E hr P=>?_);refine Qam ?_;refine QaC ?_;refine QdM ?_ ?_;refine QaR (QcC "str" (hb:=QiX) B.isinstance_ B.str_ (Qao 0));refine QdM ?_ ?_;refine QaR ?_;refine QgE (Qbm hr) ?_ (Qad Qap) (QaM _);refine QaE ?_;refine Qa8 (ms:=[.s]) (hv:=QbB) QbC B.len_ ?_;refine Qax (Qao 0) Qak;refine QfG ?_;refine QaR ?_;refine QgE Qts (Qao 0) ?_ (by with_unfolding_all rfl);refine Qad ?_;refine Qdl QhU (fun _ _ _=>Rp.str)
abbrev Qh4:Stmt:=top 13
theorem Qg5:Qay ["text","place","sign"] ["text"] (Qaj Qh4):=by trivial
def QhH:MS :=
  (Qan (QaV (Qbz (QbJ (QcH "str" (Qab 0)))) QjK QaO)
  (QbX (Qku (Qab 0)) (Qgg 2 (Qbq (mgN 1) (Qbq (mgN 2) Qeo))) (QaV (Qbz (Qb3 (QbJ (QaA Qd2 (Qac (Qab 2) Qae))) (Qb3 (QaD (Qaf gEq (Qab 2) (mC (.str [10])))) (QaD (Qaf gEq (Qab 2) (mC (.str [9]))))))) QjK QaO)))
def QfP:List D→Qaa→Res D:=Qa6 3 QhH
abbrev Qj5 (Pr:Program) (w:World) (K:Frag) (mg:Str→Option Value) (base:Heap):Prop:=Can Pr w K mg base "checked" ["text"] 2 (vSp K mg [.s] (rV K) QfP)
theorem QmV (QhE:Def K mg "checked" Qh4)
  (B:Blt mg)
  (Qc1:∃u,mg "ANEW_SIGN" = some u∧RelV (.str (S [9])) u)
  (Qd1:∃u,mg "ROW_END" = some u∧RelV (.str (S [10])) u)
  (Qhp:Qj2 Pr w K mg base) :
  Qj5 Pr w K mg base:=by
 refine QcE (k:=1) (b:=QhH) QhE Qg5 (fun _ _ _ _ _ _=>QaX fun _=>Qbw rfl) [.s] [.v,.v] Qbn (fun _ _ _ _=>Rp.non) (body:=fun f cdv A outer s H E hr P=>?_);refine Qah ?_ ?_;refine Qa7 ?_ (Qam QiQ) QaQ;refine QcW ?_;refine Qb1 ?_;refine QaE (QcC "str" (hb:=QiX) B.isinstance_ B.str_ (Qao 0));refine Qam ?_;refine Qd9 rfl (Ql9 B.enumerate_ (QgD 0)) ?_ ?_;refine Qk0 2 rfl ?_;refine QeA (Qbv (i:=1) Qg5.nd rfl (.inl rfl)) ?_;refine QeA (Qbv (i:=2) Qg5.nd rfl (.inl rfl)) QjA;refine Qam ?_;refine Qa7 ?_ (Qam QiQ) QaQ;refine QcW ?_;refine Qgt ?_;refine Qee ?_ ?_;refine Qb1 ?_;refine Qad ?_;refine Qa3 Qhp (hr.mono (by decide)) ?_
 refine Qax (Qad (Qag 2)) Qak;refine Qee ?_ ?_;refine QaW (Qbm hr) (Qad (Qag 2)) ?_ (QaM _);refine Qad ?_;refine Qdl Qd1 (fun _ _ _=>Rp.str);refine QeN ?_;refine QaW (Qbm hr) (Qad (Qag 2)) ?_ (QaM _);refine Qad ?_;refine Qdl Qc1 (fun _ _ _=>Rp.str)
abbrev QhO:Stmt:=top 15
theorem QmN:Qay ["text"] ["text"] (Qaj QhO):=by trivial
def QdZ:MS :=
  (Qan (QaV (QaD (Qaf gEq (Qab 0) (mC (.str [91,93])))) (Qaw (Qbj (Qac (mC (.str [112,108,97,105,110])) (Qac (mC (.str [])) Qae)))) QaO)
  (Qan (QaV (QaD (Qaf gEq (Qab 0) (mC (.str [91,91])))) (Qaw (Qbj (Qac (mC (.str [115,105,103,110])) (Qac (mC (.str [91])) Qae)))) QaO)
  (Qan (QaV (Qff (QaD (Qaf gEq (QaB QaY (Qac (Qab 0) Qae)) (mC (.int 3)))) (Qff (QaD (Qaf gEq (Qaf gIx (Qab 0) (mC (.int 0))) (mC (.str [91])))) (Qff (QbJ (QaA Qct (Qac (Qaf gIx (Qab 0) (mC (.int 1))) Qae))) (QaD (Qaf gEq (Qaf gIx (Qab 0) (mC (.int 2))) (mC (.str [93]))))))) (Qaw (Qbj (Qac (mC (.str [105,110,107])) (Qac (Qaf gIx (Qab 0) (mC (.int 1))) Qae)))) QaO)
  (Qan (QaV (Qff (QaD (Qaf gEq (QaB QaY (Qac (Qab 0) Qae)) (mC (.int 4)))) (Qff (QbJ (Qih (mG (Qab 0)) (mC (.str [91,47])))) (Qff (QbJ (QaA Qct (Qac (Qaf gIx (Qab 0) (mC (.int 2))) Qae))) (QaD (Qaf gEq (Qaf gIx (Qab 0) (mC (.int 3))) (mC (.str [93]))))))) (Qaw (Qbj (Qac (mC (.str [103,114,111,117,110,100])) (Qac (Qaf gIx (Qab 0) (mC (.int 2))) Qae)))) QaO)
  (Qaw (mC .non))))))
def Qdi:List D→Qaa→Res D:=Qa6 1 QdZ
abbrev Qj0 (Pr:Program) (w:World) (K:Frag) (mg:Str→Option Value) (base:Heap):Prop:=Can Pr w K mg base "mark_of" ["text"] 2 (vSp K mg [.s] (rV K) Qdi)
theorem Qnb (QhD:Def K mg "mark_of" QhO)
  (B:Blt mg)
  (Qca:Qgn Pr w K mg base) :
  Qj0 Pr w K mg base:=by
 refine QcE (k:=1) (b:=QdZ) QhD QmN (fun _ _ _ _ _ _=>QaX fun _=>Qbw rfl) [.s] [] Qbn (fun _ _ _ _=>Rp.non) (body:=fun f cdv A outer s H E hr P=>?_);refine Qah ?_ ?_;refine Qa7 ?_ ?_ QaQ;refine QaW (Qbm hr) (Qao 0) (Qad (Qaz [91,93])) (QaM _);refine Qam ?_;refine QaC ?_;refine QbO 2 ?_;refine QaS (Qaz [112,108,97,105,110]) ?_;refine QaS (Qaz []) Qak;refine Qah ?_ ?_;refine Qa7 ?_ ?_ QaQ;refine QaW (Qbm hr) (Qao 0) (Qad (Qaz [91,91])) (QaM _);refine Qam ?_;refine QaC ?_;refine QbO 2 ?_;refine QaS (Qaz [115,105,103,110]) ?_;refine QaS (Qaz [91]) Qak;refine Qah ?_ ?_;refine Qa7 ?_ ?_ QaQ;refine Qgt ?_
 refine QgA ?_ ?_;refine QaW (Qbm hr) ?_ (Qad Qap) (QaM _);refine QaE ?_;refine Qa8 (ms:=[.s]) (hv:=QbB) QbC B.len_ ?_;refine Qax (Qao 0) Qak;refine QgA ?_ ?_;refine QaW (Qbm hr) ?_ (Qad (Qaz [91])) (QaM _);refine Qad ?_;refine Qa1 (Qao 0) (Qad Qap);refine QgA ?_ ?_;refine Qb1 ?_;refine Qad ?_;refine Qa3 Qca (hr.mono (by decide)) ?_;refine Qax ?_ Qak;refine Qad ?_;refine Qa1 (Qao 0) (Qad Qap);refine Qmz ?_;refine QaW (Qbm hr) ?_ (Qad (Qaz [93])) (QaM _);refine Qad ?_;refine Qa1 (Qao 0) (Qad Qap);refine Qam ?_;refine QaC ?_;refine QbO 2 ?_;refine QaS (Qaz [105,110,107]) ?_;refine QaS ?_ Qak;refine Qa1 (Qao 0) (Qad Qap)
 refine Qah ?_ ?_;refine Qa7 ?_ ?_ QaQ;refine Qgt ?_;refine QgA ?_ ?_;refine QaW (Qbm hr) ?_ (Qad Qap) (QaM _);refine QaE ?_;refine Qa8 (ms:=[.s]) (hv:=QbB) QbC B.len_ ?_;refine Qax (Qao 0) Qak;refine QgA ?_ ?_;refine Qb1 ?_;refine QaE ?_;refine Qkk (Qcn (Qao 0)) (Qaz [91,47]);refine QgA ?_ ?_;refine Qb1 ?_;refine Qad ?_;refine Qa3 Qca (hr.mono (by decide)) ?_;refine Qax ?_ Qak;refine Qad ?_;refine Qa1 (Qao 0) (Qad Qap);refine Qmz ?_;refine QaW (Qbm hr) ?_ (Qad (Qaz [93])) (QaM _);refine Qad ?_;refine Qa1 (Qao 0) (Qad Qap);refine Qam ?_;refine QaC ?_;refine QbO 2 ?_;refine QaS (Qaz [103,114,111,117,110,100]) ?_
 refine QaS ?_ Qak;refine Qa1 (Qao 0) (Qad Qap);refine Qam (QaC QrJ)
abbrev QdB:Stmt:=top 16
theorem QhB:Qay ["text"] ["text"] (Qaj QdB):=by trivial
def QbR:MS :=
  (Qan (QaV (Qb3 (QaD (Qaf gEq (Qab 0) (mC (.str [91])))) (QaD (Qaf gEq (Qab 0) (mC (.str [91,47]))))) (Qaw (mC (.bl true))) QaO)
  (Qan (QaV (QaD (Qaf gEq (QaB QaY (Qac (Qab 0) Qae)) (mC (.int 2)))) (Qaw (Qdq (Qaf gEq (Qaf gIx (Qab 0) (mC (.int 0))) (mC (.str [91]))) (QaA Qct (Qac (Qaf gIx (Qab 0) (mC (.int 1))) Qae)))) QaO)
  (Qaw (Qdq (Qaf gEq (QaB QaY (Qac (Qab 0) Qae)) (mC (.int 3))) (Qdq (Qih (mG (Qab 0)) (mC (.str [91,47]))) (QaA Qct (Qac (Qaf gIx (Qab 0) (mC (.int 2))) Qae)))))))
def Qbr:List D→Qaa→Res D:=Qa6 1 QbR
abbrev Qfc (Pr:Program) (w:World) (K:Frag) (mg:Str→Option Value) (base:Heap):Prop:=Can Pr w K mg base "may_become_mark" ["text"] 2 (vSp K mg [.s] (rV K) Qbr)
theorem QhM (Qds:Def K mg "may_become_mark" QdB)
  (B:Blt mg)
  (Qca:Qgn Pr w K mg base) :
  Qfc Pr w K mg base:=by
 refine QcE (k:=1) (b:=QbR) Qds QhB (fun _ _ _ _ _ _=>QaX fun _=>Qbw rfl) [.s] [] Qbn (fun _ _ _ _=>Rp.non) (body:=fun f cdv A outer s H E hr P=>?_);refine Qah ?_ ?_;refine Qa7 ?_ ?_ QaQ;refine Qgt ?_;refine Qee ?_ ?_;refine QaW (Qbm hr) (Qao 0) (Qad (Qaz [91])) (QaM _);refine QeN ?_;refine QaW (Qbm hr) (Qao 0) (Qad (Qaz [91,47])) (QaM _);refine Qam (QaC Qcp);refine Qah ?_ ?_;refine Qa7 ?_ ?_ QaQ;refine QaW (Qbm hr) ?_ (Qad Qap) (QaM _);refine QaE ?_;refine Qa8 (ms:=[.s]) (hv:=QbB) QbC B.len_ ?_;refine Qax (Qao 0) Qak;refine Qam ?_;refine QaC ?_;refine QdM ?_ ?_;refine QaR ?_;refine QgE (Qbm hr) ?_ (Qad (Qaz [91])) (QaM _)
 refine Qad ?_;refine Qa1 (Qao 0) (Qad Qap);refine QfG ?_;refine Qa3 Qca (hr.mono (by decide)) ?_;refine Qax ?_ Qak;refine Qad ?_;refine Qa1 (Qao 0) (Qad Qap);refine Qam ?_;refine QaC ?_;refine QdM ?_ ?_;refine QaR ?_;refine QgE (Qbm hr) ?_ (Qad Qap) (QaM _);refine QaE ?_;refine Qa8 (ms:=[.s]) (hv:=QbB) QbC B.len_ ?_;refine Qax (Qao 0) Qak;refine QdM ?_ ?_;refine QaR ?_;refine Qkk (Qcn (Qao 0)) (Qaz [91,47]);refine QfG ?_;refine Qa3 Qca (hr.mono (by decide)) ?_;refine Qax ?_ Qak;refine Qad ?_;refine Qa1 (Qao 0) (Qad Qap)
abbrev Qg9:Stmt:=top 17
theorem Ql2:Qay ["place","sign"] ["place","sign"] (Qaj Qg9):=by trivial
def Qg1:MS :=
  (Qan (QaV (QaD (Qaf gEq (Qab 1) (mC (.str [10])))) (Qaw (Qbj (Qac (mG (Qab 0)) (Qac (mC (.str [101,110,100])) (Qac (mC (.str [])) Qae))))) QaO)
  (Qan (QaV (QaD (Qaf gEq (Qab 1) (mC (.str [9])))) (Qaw (Qbj (Qac (mG (Qab 0)) (Qac (mC (.str [97,110,101,119])) (Qac (mC (.str [])) Qae))))) QaO)
  (Qaw (Qbj (Qac (mG (Qab 0)) (Qac (mC (.str [115,105,103,110])) (Qac (mG (Qab 1)) Qae)))))))
def Qep:List D→Qaa→Res D:=Qa6 2 Qg1
abbrev Qjn (Pr:Program) (w:World) (K:Frag) (mg:Str→Option Value) (base:Heap):Prop:=Can Pr w K mg base "own_item" ["place","sign"] 1 (vSp K mg [.s,.s] (rV K) Qep)
theorem QlW (QgJ:Def K mg "own_item" Qg9)
  (B:Blt mg)
  (Qc1:∃u,mg "ANEW_SIGN" = some u∧RelV (.str (S [9])) u)
  (Qd1:∃u,mg "ROW_END" = some u∧RelV (.str (S [10])) u) :
  Qjn Pr w K mg base:=by
 refine QcE (k:=0) (b:=Qg1) QgJ Ql2 (fun _ _ _ _ _ _=>QaX fun _=>QaX fun _=>Qbw rfl) [.s,.s] [] Qbn (fun _ _ _ _=>Rp.non) (body:=fun f cdv A outer s H E hr P=>?_);refine Qah ?_ ?_;refine Qa7 ?_ ?_ QaQ;refine QaW (Qbm hr) (Qao 1) ?_ (QaM _);refine Qad ?_;refine Qdl Qd1 (fun _ _ _=>Rp.str);refine Qam ?_;refine QaC ?_;refine QbO 3 ?_;refine QaS (Qcn (Qao 0)) ?_;refine QaS (Qaz [101,110,100]) ?_;refine QaS (Qaz []) Qak;refine Qah ?_ ?_;refine Qa7 ?_ ?_ QaQ;refine QaW (Qbm hr) (Qao 1) ?_ (QaM _);refine Qad ?_;refine Qdl Qc1 (fun _ _ _=>Rp.str);refine Qam ?_;refine QaC ?_;refine QbO 3 ?_;refine QaS (Qcn (Qao 0)) ?_
 refine QaS (Qaz [97,110,101,119]) ?_;refine QaS (Qaz []) Qak;refine Qam ?_;refine QaC ?_;refine QbO 3 ?_;refine QaS (Qcn (Qao 0)) ?_;refine QaS (Qaz [115,105,103,110]) ?_;refine QaS (Qcn (Qao 1)) Qak
abbrev QeD:Stmt:=top 18
theorem QlO:Qay ["place","signs"] ["place","signs"] (Qaj QeD):=by trivial
def Qf7:MS :=
  (Qaw (Qdp (Qku (Qab 1)) 2 [0] (Qgg 2 (Qbq (mgN 0) (Qbq (mgN 1) Qeo))) QdU (QaA Qep (Qac (Qaf Qa0 (Qab 2) (Qab 0)) (Qac (Qab 1) Qae)))))
def QcY:List D→Qaa→Res D:=Qa6 2 Qf7
abbrev Qgc (Pr:Program) (w:World) (K:Frag) (mg:Str→Option Value) (base:Heap):Prop:=Can Pr w K mg base "own_items" ["place","signs"] 2 (vSp K mg [.s,.s] (rO K) QcY)
theorem Qlt (Qf3:Def K mg "own_items" QeD)
  (B:Blt mg)
  (QgK:Qjn Pr w K mg base) :
  Qgc Pr w K mg base:=by
 refine QcE (k:=1) (b:=Qf7) Qf3 QlO (fun _ _ _ _ _ _=>QaX fun _=>QaX fun _=>Qbw rfl) [.s,.s] [] Qcr (fun _ _ _ _=>.inl ⟨rfl,Rp.non⟩) (body:=fun f cdv A outer s H E hr P=>?_);refine Qam ?_;refine Qex ?_;refine Qif (Qaj QeD) ["place","signs"] ["k","sign"] [0] rfl ?_ (fun _ _ _ _ P=>?_) (fun _ _ _ _ P=>?_) (fun _ _ _ _ P=>?_);refine QhX (Ql9 B.enumerate_ (QgD 1));refine Qk0 2 rfl ?_;refine QeA (Qbv (i:=0) (show (Qbf ["place","signs"] ["k","sign"] [0]).Nodup by decide +kernel) rfl (.inl rfl)) ?_;refine QeA (Qbv (i:=1) (show (Qbf ["place","signs"] ["k","sign"] [0]).Nodup by decide +kernel) rfl (.inl rfl)) QjA
 exact Qic
 refine Qa3 QgK (hr.mono (by decide)) ?_;refine Qax ?_ ?_;refine QaE ?_;refine QaT Qcg (Qao 2) (Qad (Qag 0));refine Qax (Qad (Qag 1)) Qak
abbrev QdC:Stmt:=inClass (top 19) 0
theorem QhT:Qay ["self"] ["self"] (Qaj QdC):=by trivial
def QdH:MS :=
  (Qan (QbH ["Reader"] "held" (Qab 0) (mC (.str [])))
  (QbH ["Reader"] "place" (Qab 0) (mC (.int 0))))
def Qb6:List D→Qaa→Res D:=Qa6 1 QdH
abbrev Qfb (Pr:Program) (w:World) (K:Frag) (mg:Str→Option Value) (base:Heap):Prop:=QjN Pr w K mg base "Reader" ["self"] 1 (vSp K mg [.v] (rV K) Qb6)
theorem Qh1 (QdD:QmQ K mg "Reader" "Reader.__init__" QdC)
  (B:Blt mg)
  (QaN:KC K mg "Reader" "held")
  (Qa9:KC K mg "Reader" "place") :
  Qfb Pr w K mg base:=by
 refine QpZ (k:=0) (b:=QdH) QdD QhT (fun _ _ _ _ _ _=>QaX fun _=>Qbw rfl) [.v] [] Qbn (fun _ _ _ _=>Rp.non) (body:=fun f cdv A outer s H E hr P=>?_);refine Qah ?_ ?_;refine QbG (QaH QaN QaP) (Qag 0) (Qaz []);refine Qam ?_;refine QbG (QaH Qa9 QaP) (Qag 0) Qap
abbrev Qe8:Stmt:=inClass (top 19) 4
theorem QcG:Qay ["self","sign","seen","first","mark","told"] ["self","sign"] (Qaj Qe8):=by trivial
def Qe0:MS :=
  (Qan (Qat 2 (Qaf Qa0 (QbA ["Reader"] "held" (Qab 0)) (Qab 1)))
  (Qan (Qat 3 (Qaf Qel (QbA ["Reader"] "place" (Qab 0)) (QaB QaY (Qac (QbA ["Reader"] "held" (Qab 0)) Qae))))
  (Qan (QbH ["Reader"] "place" (Qab 0) (Qaf Qa0 (QbA ["Reader"] "place" (Qab 0)) (mC (.int 1))))
  (Qan (QaV (QbJ (QaA Qbr (Qac (Qab 2) Qae))) (Qan (QbH ["Reader"] "held" (Qab 0) (Qab 2))
  (Qaw (Qb2 Qae))) QaO)
  (Qan (Qat 4 (QaA Qdi (Qac (Qab 2) Qae)))
  (Qan (QaV (QaD (QkD (Qab 4))) (Qan (QbH ["Reader"] "held" (Qab 0) (mC (.str [])))
  (Qaw (Qb2 (Qac (Qbj (Qac (Qab 3) (Qac (Qaf gIx (Qab 4) (mC (.int 0))) (Qac (Qaf gIx (Qab 4) (mC (.int 1))) Qae)))) Qae)))) QaO)
  (Qan (QaV (QaD (Qaf gEq (Qab 1) (mC (.str [91])))) (Qan (Qat 5 (QaA QcY (Qac (Qab 3) (Qac (QbA ["Reader"] "held" (Qab 0)) Qae))))
  (Qan (QbH ["Reader"] "held" (Qab 0) (mG (Qab 1)))
  (Qaw (Qab 5)))) QaO)
  (Qan (QbH ["Reader"] "held" (Qab 0) (mC (.str [])))
  (Qaw (QaA QcY (Qac (Qab 3) (Qac (Qab 2) Qae))))))))))))
def Qbe:List D→Qaa→Res D:=Qa6 6 Qe0
abbrev Qhk (Pr:Program) (w:World) (K:Frag) (mg:Str→Option Value) (base:Heap):Prop:=Qdb Pr w K mg base "Reader" "take" ["self","sign"] 3 (vSp K mg [.v,.s] (rO K) Qbe)
theorem Qjx (Qe6:QfF K mg "Reader" "take" "Reader.take" Qe8)
  (B:Blt mg)
  (Qa9:KC K mg "Reader" "place")
  (QaN:KC K mg "Reader" "held")
  (QdF:Qfc Pr w K mg base)
  (QhP:Qj0 Pr w K mg base)
  (Qcv:Qgc Pr w K mg base) :
  Qhk Pr w K mg base:=by
 refine Qfj (k:=2) (b:=Qe0) Qe6 QcG (fun _ _ _ _ _ _=>QaX fun _=>QaX fun _=>Qbw rfl) [.v,.s] [.v,.v,.v,.o] Qcr (fun _ _ _ _=>.inl ⟨rfl,Rp.non⟩) (body:=fun f cdv A outer s H E hr P=>?_);refine Qah ?_ ?_;refine Qa2 (i:=2) QcG.nd rfl (.inl rfl) ?_;refine QaR ?_;refine QaT Qcg ?_ (Qao 1);refine Qad (Qb0 (QaH QaN QaP) (Qag 0));refine Qah ?_ ?_;refine Qa2 (i:=3) QcG.nd rfl (.inl rfl) ?_;refine QaR ?_;refine QaT QlA ?_ ?_;refine Qad (Qb0 (QaH Qa9 QaP) (Qag 0));refine QaE ?_;refine Qa8 (ms:=[.s]) (hv:=QbB) QbC B.len_ ?_;refine Qax ?_ Qak;refine Qad (Qb0 (QaH QaN QaP) (Qag 0));refine Qah ?_ ?_;refine QbG (QaH Qa9 QaP) (Qag 0) ?_
 refine QaR ?_;refine QaT Qcg ?_ (Qad Qap);refine Qad (Qb0 (QaH Qa9 QaP) (Qag 0));refine Qah ?_ ?_;refine Qa7 ?_ ?_ QaQ;refine Qb1 ?_;refine Qad ?_;refine Qa3 QdF (hr.mono (by decide)) ?_;refine Qax (Qad (Qag 2)) Qak;refine Qah ?_ ?_;refine QbG (QaH QaN QaP) (Qag 0) (Qag 2);refine Qam ?_;refine Qex (Qce 0 Qak);refine Qah ?_ ?_;refine Qa2 (i:=4) QcG.nd rfl (.inl rfl) ?_;refine Qa3 QhP (hr.mono (by decide)) ?_;refine Qax (Qad (Qag 2)) Qak;refine Qah ?_ ?_;refine Qa7 ?_ ?_ QaQ;refine Qqi (Qad (Qag 4));refine Qah ?_ ?_;refine QbG (QaH QaN QaP) (Qag 0) (Qaz []);refine Qam ?_;refine Qex ?_;refine Qce 1 ?_
 refine QaS ?_ Qak;refine QbO 3 ?_;refine QaS (Qag 3) ?_;refine QaS ?_ ?_;refine Qa1 (Qad (Qag 4)) (Qad Qap);refine QaS ?_ Qak;refine Qa1 (Qad (Qag 4)) (Qad Qap);refine Qah ?_ ?_;refine Qa7 ?_ ?_ QaQ;refine QaW (Qbm hr) (Qao 1) (Qad (Qaz [91])) (QaM _);refine Qah ?_ ?_;refine QdW (i:=5) QcG.nd rfl (.inl rfl) ?_;refine Qie Qcv (hr.mono (by decide)) ?_;refine Qax (Qad (Qag 3)) ?_;refine Qax ?_ Qak;refine Qad (Qb0 (QaH QaN QaP) (Qag 0));refine Qah ?_ (Qam (Qib 5));refine QbG (QaH QaN QaP) (Qag 0) (Qcn (Qao 1));refine Qah ?_ ?_;refine QbG (QaH QaN QaP) (Qag 0) (Qaz []);refine Qam ?_;refine Qex ?_;refine Qie Qcv (hr.mono (by decide)) ?_
 refine Qax (Qad (Qag 3)) ?_;refine Qax (Qad (Qag 2)) Qak
abbrev Qe2:Stmt:=inClass (top 19) 1
theorem Qeu:Qay ["self","piece","told","sign"] ["self","piece"] (Qaj Qe2):=by trivial
def QeW:MS :=
  (Qan (Qgv (QaA QfP (Qac (Qab 1) Qae)))
  (Qan (Qat 2 (Qb2 Qae))
  (Qan (QbX (Qc9 (Qab 1)) (mgN 3) (Qfe 2 (Qbi "Reader" "take" Qbe (Qab 0) (Qac (Qab 3) Qae))))
  (Qaw (Qab 2)))))
def QdN:List D→Qaa→Res D:=Qa6 4 QeW
abbrev Qhm (Pr:Program) (w:World) (K:Frag) (mg:Str→Option Value) (base:Heap):Prop:=Qdb Pr w K mg base "Reader" "feed" ["self","piece"] 4 (vSp K mg [.v,.s] (rO K) QdN)
theorem QjL (Qe4:QfF K mg "Reader" "feed" "Reader.feed" Qe2)
  (B:Blt mg)
  (Qhw:Qj5 Pr w K mg base)
  (Qe5:Qhk Pr w K mg base) :
  Qhm Pr w K mg base:=by
 refine Qfj (k:=3) (b:=QeW) Qe4 Qeu (fun _ _ _ _ _ _=>QaX fun _=>QaX fun _=>Qbw rfl) [.v,.s] [.o,.v] Qcr (fun _ _ _ _=>.inl ⟨rfl,Rp.non⟩) (body:=fun f cdv A outer s H E hr P=>?_);refine Qah ?_ ?_;refine Qju ?_;refine Qad ?_;refine Qa3 Qhw (hr.mono (by decide)) ?_;refine Qax (Qao 1) Qak;refine Qah ?_ ?_;refine QdW (i:=2) Qeu.nd rfl (.inl rfl) (Qce 0 Qak);refine Qah ?_ (Qam (Qib 2));refine Qd9 rfl (Qi5 (QgD 1)) (Qbv (i:=3) Qeu.nd rfl (.inl rfl)) ?_;refine Qam ?_;refine QnZ 2 ?_;refine QaE ?_;refine Qfr Qe5 (hr.mono (by decide)) (Qag 0) ?_;refine Qax (Qad (Qag 3)) Qak
abbrev Qei:Stmt:=inClass (top 19) 3
theorem QfH:Qay ["self","told"] ["self"] (Qaj Qei):=by trivial
def Qec:MS :=
  (Qan (Qat 1 (QaA QcY (Qac (Qaf Qel (QbA ["Reader"] "place" (Qab 0)) (QaB QaY (Qac (QbA ["Reader"] "held" (Qab 0)) Qae))) (Qac (QbA ["Reader"] "held" (Qab 0)) Qae))))
  (Qan (QbH ["Reader"] "held" (Qab 0) (mC (.str [])))
  (Qaw (Qab 1))))
def Qda:List D→Qaa→Res D:=Qa6 2 Qec
abbrev QfU (Pr:Program) (w:World) (K:Frag) (mg:Str→Option Value) (base:Heap):Prop:=Qdb Pr w K mg base "Reader" "finish" ["self"] 3 (vSp K mg [.v] (rV K) Qda)
theorem QiG (Qen:QfF K mg "Reader" "finish" "Reader.finish" Qei)
  (B:Blt mg)
  (QaN:KC K mg "Reader" "held")
  (Qa9:KC K mg "Reader" "place")
  (Qcv:Qgc Pr w K mg base) :
  QfU Pr w K mg base:=by
 refine Qfj (k:=2) (b:=Qec) Qen QfH (fun _ _ _ _ _ _=>QaX fun _=>Qbw rfl) [.v] [.v] Qbn (fun _ _ _ _=>Rp.non) (body:=fun f cdv A outer s H E hr P=>?_);refine Qah ?_ ?_;refine Qa2 (i:=1) QfH.nd rfl (.inl rfl) ?_;refine QaR ?_;refine Qie Qcv (hr.mono (by decide)) ?_;refine Qax ?_ ?_;refine QaE ?_;refine QaT QlA ?_ ?_;refine Qad (Qb0 (QaH Qa9 QaP) (Qag 0));refine QaE ?_;refine Qa8 (ms:=[.s]) (hv:=QbB) QbC B.len_ ?_;refine Qax ?_ Qak;refine Qad (Qb0 (QaH QaN QaP) (Qag 0));refine Qax ?_ Qak;refine Qad (Qb0 (QaH QaN QaP) (Qag 0));refine Qah ?_ ?_;refine QbG (QaH QaN QaP) (Qag 0) (Qaz []);refine Qam (QaC (Qag 1))
abbrev Qg7:Stmt:=top 20
theorem Qgq:Qay ["text","reader","told"] ["text"] (Qaj Qg7):=by trivial
def QgO:MS :=
  (Qan (Qat 1 (Qfn "Reader" Qb6 Qae))
  (Qan (Qat 2 (Qbi "Reader" "feed" QdN (Qab 1) (Qac (Qab 0) Qae)))
  (Qaw (Qaf Qa0 (Qab 2) (Qbi "Reader" "finish" Qda (Qab 1) Qae)))))
def QcT:List D→Qaa→Res D:=Qa6 3 QgO
abbrev Qje (Pr:Program) (w:World) (K:Frag) (mg:Str→Option Value) (base:Heap):Prop:=Can Pr w K mg base "items_of" ["text"] 5 (vSp K mg [.s] (rO K) QcT)
theorem QlV (Qg6:Def K mg "items_of" Qg7)
  (B:Blt mg)
  (Qdu:Qfb Pr w K mg base)
  (QeZ:Qhm Pr w K mg base)
  (Qeb:QfU Pr w K mg base) :
  Qje Pr w K mg base:=by
 refine QcE (k:=4) (b:=QgO) Qg6 Qgq (fun _ _ _ _ _ _=>QaX fun _=>Qbw rfl) [.s] [.v,.v] Qcr (fun _ _ _ _=>.inl ⟨rfl,Rp.non⟩) (body:=fun f cdv A outer s H E hr P=>?_);refine Qah (Qa2 (i:=1) Qgq.nd rfl (.inl rfl) (Qo9 Qdu (hr.mono (by decide)))) ?_;refine Qah ?_ ?_;refine Qa2 (i:=2) Qgq.nd rfl (.inl rfl) ?_;refine QaR ?_;refine Qfr QeZ (hr.mono (by decide)) (Qag 1) ?_;refine Qax (Qao 0) Qak;refine Qam ?_;refine Qex ?_;refine QaT Qcg (Qad (Qag 2)) ?_;refine Qad (QiN Qeb (hr.mono (by decide)) (Qag 1))
abbrev QeY:Stmt:=top 23
theorem QjI:Qay ["pair","kind","value"] ["pair","kind","value"] (Qaj QeY):=by trivial
def Qe3:MS :=
  (Qan (QaV (QaD (Qaf gEq (Qab 1) (mC (.str [105,110,107])))) (Qaw (Qbj (Qac (mG (Qab 2)) (Qac (Qaf gIx (Qab 0) (mC (.int 1))) Qae)))) QaO)
  (Qan (QaV (QaD (Qaf gEq (Qab 1) (mC (.str [103,114,111,117,110,100])))) (Qaw (Qbj (Qac (Qaf gIx (Qab 0) (mC (.int 0))) (Qac (mG (Qab 2)) Qae)))) QaO)
  (Qan (QaV (QaD (Qaf gEq (Qab 1) (mC (.str [115,105,103,110])))) (Qaw (mG (Qab 0))) QaO)
  (Qaw (mC (.tup [.str [46],.str [46]]))))))
def Qcl:List D→Qaa→Res D:=Qa6 3 Qe3
abbrev Qhl (Pr:Program) (w:World) (K:Frag) (mg:Str→Option Value) (base:Heap):Prop:=Can Pr w K mg base "pair_behind" ["pair","kind","value"] 1 (vSp K mg [.s,.s,.s] (rV K) Qcl)
theorem QjG (Qe7:Def K mg "pair_behind" QeY)
  (B:Blt mg)
  (Qfp:Qm7 K mg "PLAIN" [[46],[46]]) :
  Qhl Pr w K mg base:=by
 refine QcE (k:=0) (b:=Qe3) Qe7 QjI (fun _ _ _ _ _ _=>QaX fun _=>QaX fun _=>QaX fun _=>Qbw rfl) [.s,.s,.s] [] Qbn (fun _ _ _ _=>Rp.non) (body:=fun f cdv A outer s H E hr P=>?_);refine Qah ?_ ?_;refine Qa7 ?_ ?_ QaQ;refine QaW (Qbm hr) (Qao 1) (Qad (Qaz [105,110,107])) (QaM _);refine Qam ?_;refine QaC ?_;refine QbO 2 ?_;refine QaS (Qcn (Qao 2)) ?_;refine QaS ?_ Qak;refine Qa1 (Qao 0) (Qad Qap);refine Qah ?_ ?_;refine Qa7 ?_ ?_ QaQ;refine QaW (Qbm hr) (Qao 1) (Qad (Qaz [103,114,111,117,110,100])) (QaM _);refine Qam ?_;refine QaC ?_;refine QbO 2 ?_;refine QaS ?_ ?_;refine Qa1 (Qao 0) (Qad Qap);refine QaS (Qcn (Qao 2)) Qak
 refine Qah ?_ ?_;refine Qa7 ?_ ?_ QaQ;refine QaW (Qbm hr) (Qao 1) (Qad (Qaz [115,105,103,110])) (QaM _);refine Qam ?_;refine QaC (Qcn (Qao 0));refine Qam (QaC (Qmy (ls:=[[46],[46]]) Qfp))
abbrev QgQ:Stmt:=top 25
theorem Ql1:Qay ["thing"] ["thing"] (Qaj QgQ):=by trivial
def QgM:MS :=
  (Qaw (Qdq (QcH "int" (Qab 0)) (Qkw (QcH "bool" (Qab 0)))))
def QgU:List D→Qaa→Res D:=Qa6 1 QgM
abbrev Qi1 (Pr:Program) (w:World) (K:Frag) (mg:Str→Option Value) (base:Heap):Prop:=Can Pr w K mg base "is_whole" ["thing"] 1 (vSp K mg [.s] (rV K) QgU)
theorem QlX (Qhg:Def K mg "is_whole" QgQ)
  (B:Blt mg) :
  Qi1 Pr w K mg base:=by
 refine QcE (k:=0) (b:=QgM) Qhg Ql1 (fun _ _ _ _ _ _=>QaX fun _=>Qbw rfl) [.s] [] Qbn (fun _ _ _ _=>Rp.non) (body:=fun f cdv A outer s H E hr P=>?_);refine Qam ?_;refine QaC ?_;refine QdM ?_ ?_;refine QaR (QcC "int" (hb:=QoK) B.isinstance_ B.int_ (Qao 0));refine QfG ?_;refine QnM ?_;refine QaR (QcC "bool" (hb:=Ql5) B.isinstance_ B.bool_ (Qao 0))
abbrev Qgi:Stmt:=top 26
theorem QkX:Qay ["thing","least","greatest"] ["thing","least","greatest"] (Qaj Qgi):=by trivial
def Qge:MS :=
  (Qaw (Qdq (QaA QgU (Qac (Qab 0) Qae)) (Qgw gLe gLe (Qab 1) (Qab 0) (Qab 2))))
def QeE:List D→Qaa→Res D:=Qa6 3 Qge
abbrev Qiy (Pr:Program) (w:World) (K:Frag) (mg:Str→Option Value) (base:Heap):Prop:=Can Pr w K mg base "is_within" ["thing","least","greatest"] 2 (vSp K mg [.s,.s,.s] (rV K) QeE)
theorem Qlv (Qgk:Def K mg "is_within" Qgi)
  (B:Blt mg)
  (Qg8:Qi1 Pr w K mg base) :
  Qiy Pr w K mg base:=by
 refine QcE (k:=1) (b:=Qge) Qgk QkX (fun _ _ _ _ _ _=>QaX fun _=>QaX fun _=>QaX fun _=>Qbw rfl) [.s,.s,.s] [] Qbn (fun _ _ _ _=>Rp.non) (body:=fun f cdv A outer s H E hr P=>?_);refine Qam ?_;refine QaC ?_;refine QdM ?_ ?_;refine Qa3 Qg8 (hr.mono (by decide)) ?_;refine Qax (Qao 0) Qak;refine QfG ?_;refine QaR ?_;refine Qle QkJ QkJ (Qao 1) (Qao 0) (Qao 2)
abbrev QdE:Stmt:=inClass (top 29) 5
theorem Qhz:Qay ["self"] ["self"] (Qaj QdE):=by trivial
def Qcx:MS :=
  (Qan (QbH ["Maker"] "letters" (Qab 0) (mMl (Qb2 Qae)))
  (Qan (QbH ["Maker"] "pair" (Qab 0) (mC (.tup [.str [46],.str [46]])))
  (QbH ["Maker"] "stale" (Qab 0) (mC (.bl false)))))
def Qb5:List D→Qaa→Res D:=Qa6 1 Qcx
abbrev Qe9 (Pr:Program) (w:World) (K:Frag) (mg:Str→Option Value) (base:Heap):Prop:=Qdb Pr w K mg base "Maker" "begin_row" ["self"] 1 (vSp K mg [.v] (rV K) Qb5)
theorem Qhq (Qdy:QfF K mg "Maker" "begin_row" "Maker.begin_row" QdE)
  (B:Blt mg)
  (Qfp:Qm7 K mg "PLAIN" [[46],[46]])
  (QaG:KC K mg "Maker" "letters")
  (Qbo:KC K mg "Maker" "pair")
  (Qbc:KC K mg "Maker" "stale") :
  Qe9 Pr w K mg base:=by
 refine Qfj (k:=0) (b:=Qcx) Qdy Qhz (fun _ _ _ _ _ _=>QaX fun _=>Qbw rfl) [.v] [] Qbn (fun _ _ _ _=>Rp.non) (body:=fun f cdv A outer s H E hr P=>?_);refine Qah ?_ ?_;refine QbG (QaH QaG QaP) (Qag 0) ?_;refine QiZ (Qce 0 Qak);refine Qah ?_ ?_;refine QbG (QaH Qbo QaP) (Qag 0) (Qmy (ls:=[[46],[46]]) Qfp);refine Qam ?_;refine QbG (QaH Qbc QaP) (Qag 0) Qcp
abbrev QdQ:Stmt:=inClass (top 29) 0
theorem Qiq:Qay ["self","most"] ["self","most"] (Qaj QdQ):=by trivial
def QcL:MS :=
  (Qan (QaV (Qbz (QbJ (QaA QeE (Qac (Qab 1) (Qac (mC (.int 1)) (Qac (mC (.int 200)) Qae)))))) QjK QaO)
  (Qan (QbH ["Maker"] "most" (Qab 0) (mG (Qab 1)))
  (Qan (QbH ["Maker"] "last_word" (Qab 0) (mC (.str [119,104,111,108,101])))
  (Qgv (Qbi "Maker" "begin_row" Qb5 (Qab 0) Qae)))))
def QcO:List D→Qaa→Res D:=Qa6 2 QcL
abbrev QfB (Pr:Program) (w:World) (K:Frag) (mg:Str→Option Value) (base:Heap):Prop:=QjN Pr w K mg base "Maker" ["self","most"] 3 (vSp K mg [.v,.s] (rV K) QcO)
theorem Qir (QdT:QmQ K mg "Maker" "Maker.__init__" QdQ)
  (B:Blt mg)
  (Qer:∃u,mg "GREATEST_MOST" = some u∧RelV (.int 200) u)
  (QcF:KC K mg "Maker" "most")
  (QbQ:KC K mg "Maker" "last_word")
  (Qga:Qiy Pr w K mg base)
  (QdG:Qe9 Pr w K mg base) :
  QfB Pr w K mg base:=by
 refine QpZ (k:=2) (b:=QcL) QdT Qiq (fun _ _ _ _ _ _=>QaX fun _=>QaX fun _=>Qbw rfl) [.v,.s] [] Qbn (fun _ _ _ _=>Rp.non) (body:=fun f cdv A outer s H E hr P=>?_);refine Qah ?_ ?_;refine Qa7 ?_ (Qam QiQ) QaQ;refine QcW ?_;refine Qb1 ?_;refine Qad ?_;refine Qa3 Qga (hr.mono (by decide)) ?_;refine Qax (Qao 1) ?_;refine Qax (Qad Qap) ?_;refine Qax ?_ Qak;refine Qad ?_;refine Qdl Qer (fun _ _ _=>Rp.int);refine Qah ?_ ?_;refine QbG (QaH QcF QaP) (Qag 0) (Qcn (Qao 1));refine Qah ?_ ?_;refine QbG (QaH QbQ QaP) (Qag 0) (Qaz [119,104,111,108,101]);refine Qam ?_;refine Qju ?_;refine Qad (QiN QdG (hr.mono (by decide)) (Qag 0))
abbrev Qfv:Stmt:=inClass (top 29) 8
theorem Qhj:Qay ["self","word","part"] ["self","word"] (Qaj Qfv):=by trivial
def Qft:MS :=
  (Qan (Qat 2 (Qbj (Qac (QbA ["Maker"] "letters" (Qab 0)) (Qac (mG (Qab 1)) Qae))))
  (Qan (QbH ["Maker"] "letters" (Qab 0) (mMl (Qb2 Qae)))
  (Qan (QbH ["Maker"] "last_word" (Qab 0) (mG (Qab 1)))
  (Qaw (Qb2 (Qac (Qab 2) Qae))))))
def Qch:List D→Qaa→Res D:=Qa6 3 Qft
abbrev Qfw (Pr:Program) (w:World) (K:Frag) (mg:Str→Option Value) (base:Heap):Prop:=Qdb Pr w K mg base "Maker" "tell" ["self","word"] 1 (vSp K mg [.v,.s] (rO K) Qch)
theorem Qkp (QfD:QfF K mg "Maker" "tell" "Maker.tell" Qfv)
  (B:Blt mg)
  (QaG:KC K mg "Maker" "letters")
  (QbQ:KC K mg "Maker" "last_word") :
  Qfw Pr w K mg base:=by
 refine Qfj (k:=0) (b:=Qft) QfD Qhj (fun _ _ _ _ _ _=>QaX fun _=>QaX fun _=>Qbw rfl) [.v,.s] [.v] Qcr (fun _ _ _ _=>.inl ⟨rfl,Rp.non⟩) (body:=fun f cdv A outer s H E hr P=>?_);refine Qah ?_ ?_;refine Qa2 (i:=2) Qhj.nd rfl (.inl rfl) ?_;refine QbO 2 ?_;refine QaS (Qb0 (QaH QaG QaP) (Qag 0)) ?_;refine QaS (Qcn (Qao 1)) Qak;refine Qah ?_ ?_;refine QbG (QaH QaG QaP) (Qag 0) ?_;refine QiZ (Qce 0 Qak);refine Qah ?_ ?_;refine QbG (QaH QbQ QaP) (Qag 0) (Qcn (Qao 1));refine Qam ?_;refine Qex ?_;refine Qce 1 ?_;refine QaS (Qag 2) Qak
abbrev Qc3:Stmt:=inClass (top 29) 6
theorem Qhf:Qay ["self"] ["self"] (Qaj Qc3):=by trivial
def Qci:MS :=
  (QaV (QbJ (QbA ["Maker"] "stale" (Qab 0))) (Qan (QbH ["Maker"] "letters" (Qab 0) (mMl (Qb2 Qae)))
  (QbH ["Maker"] "stale" (Qab 0) (mC (.bl false)))) QaO)
def Qbu:List D→Qaa→Res D:=Qa6 1 Qci
abbrev Qes (Pr:Program) (w:World) (K:Frag) (mg:Str→Option Value) (base:Heap):Prop:=Qdb Pr w K mg base "Maker" "empty_stale" ["self"] 1 (vSp K mg [.v] (rV K) Qbu)
theorem Qg3 (Qc5:QfF K mg "Maker" "empty_stale" "Maker.empty_stale" Qc3)
  (B:Blt mg)
  (Qbc:KC K mg "Maker" "stale")
  (QaG:KC K mg "Maker" "letters") :
  Qes Pr w K mg base:=by
 refine Qfj (k:=0) (b:=Qci) Qc5 Qhf (fun _ _ _ _ _ _=>QaX fun _=>Qbw rfl) [.v] [] Qbn (fun _ _ _ _=>Rp.non) (body:=fun f cdv A outer s H E hr P=>?_);refine Qam ?_;refine Qa7 ?_ ?_ QaQ;refine Qb1 ?_;refine Qad (Qb0 (QaH Qbc QaP) (Qag 0));refine Qah ?_ ?_;refine QbG (QaH QaG QaP) (Qag 0) ?_;refine QiZ (Qce 0 Qak);refine Qam ?_;refine QbG (QaH Qbc QaP) (Qag 0) Qcp
abbrev Qdd:Stmt:=inClass (top 29) 7
theorem Qc6:Qay ["self","item","told"] ["self","item"] (Qaj Qdd):=by trivial
def QbF:MS :=
  (Qan (Qat 2 (Qb2 Qae))
  (Qan (QaV (QaD (Qaf gEq (QaB QaY (Qac (QbA ["Maker"] "letters" (Qab 0)) Qae)) (QbA ["Maker"] "most" (Qab 0)))) (Qat 2 (Qbi "Maker" "tell" Qch (Qab 0) (Qac (mC (.str [109,111,114,101])) Qae))) QaO)
  (Qan (QdJ (QbA ["Maker"] "letters" (Qab 0)) (Qbj (Qac (Qaf gIx (Qab 1) (mC (.int 2))) (Qac (Qaf gIx (QbA ["Maker"] "pair" (Qab 0)) (mC (.int 0))) (Qac (Qaf gIx (QbA ["Maker"] "pair" (Qab 0)) (mC (.int 1))) (Qac (Qaf gIx (Qab 1) (mC (.int 0))) Qae))))))
  (Qaw (Qab 2)))))
def Qco:List D→Qaa→Res D:=Qa6 3 QbF
abbrev QeU (Pr:Program) (w:World) (K:Frag) (mg:Str→Option Value) (base:Heap):Prop:=Qdb Pr w K mg base "Maker" "add_letter" ["self","item"] 2 (vSp K mg [.v,.s] (rO K) Qco)
theorem Qho (Qdh:QfF K mg "Maker" "add_letter" "Maker.add_letter" Qdd)
  (B:Blt mg)
  (QcF:KC K mg "Maker" "most")
  (QaG:KC K mg "Maker" "letters")
  (Qbo:KC K mg "Maker" "pair")
  (QcD:Qfw Pr w K mg base) :
  QeU Pr w K mg base:=by
 refine Qfj (k:=1) (b:=QbF) Qdh Qc6 (fun _ _ _ _ _ _=>QaX fun _=>QaX fun _=>Qbw rfl) [.v,.s] [.o] Qcr (fun _ _ _ _=>.inl ⟨rfl,Rp.non⟩) (body:=fun f cdv A outer s H E hr P=>?_);refine Qah ?_ ?_;refine QdW (i:=2) Qc6.nd rfl (.inl rfl) (Qce 0 Qak);refine Qah ?_ ?_;refine Qa7 ?_ ?_ QaQ;refine QaW (Qbm hr) ?_ ?_ (QaM _);refine QaE ?_;refine Qa8 (ms:=[.s]) (hv:=QbB) QbC B.len_ ?_;refine Qax ?_ Qak;refine Qad (Qb0 (QaH QaG QaP) (Qag 0));refine Qad (Qb0 (QaH QcF QaP) (Qag 0));refine Qam ?_;refine QdW (i:=2) Qc6.nd rfl (.inl rfl) ?_;refine Qfr QcD (hr.mono (by decide)) (Qag 0) ?_;refine Qax (Qad (Qaz [109,111,114,101])) Qak
 refine Qah ?_ (Qam (Qib 2));refine QjE (Qb0 (QaH QaG QaP) (Qag 0)) ?_;refine QbO 4 ?_;refine QaS ?_ ?_;refine Qa1 (Qao 1) (Qad Qap);refine QaS ?_ ?_;refine Qa1 ?_ (Qad Qap);refine Qad (Qb0 (QaH Qbo QaP) (Qag 0));refine QaS ?_ ?_;refine Qa1 ?_ (Qad Qap);refine Qad (Qb0 (QaH Qbo QaP) (Qag 0));refine QaS ?_ Qak;refine Qa1 (Qao 1) (Qad Qap)
abbrev Qgo:Stmt:=inClass (top 29) 1
theorem Qdc:Qay ["self","item","kind","told"] ["self","item"] (Qaj Qgo):=by trivial
def Qc0:MS :=
  (Qan (Qat 2 (Qaf gIx (Qab 1) (mC (.int 1))))
  (Qan (Qat 3 (Qb2 Qae))
  (Qan (QaV (QaD (Qaf gEq (Qab 2) (mC (.str [101,110,100])))) (Qan (Qat 3 (Qbi "Maker" "tell" Qch (Qab 0) (Qac (mC (.str [119,104,111,108,101])) Qae)))
  (QbH ["Maker"] "stale" (Qab 0) (mC (.bl false)))) (QaV (QaD (Qaf gEq (Qab 2) (mC (.str [97,110,101,119])))) (QbH ["Maker"] "stale" (Qab 0) (mC (.bl true))) (Qgv (Qbi "Maker" "empty_stale" Qbu (Qab 0) Qae))))
  (Qan (QaV (QaD (Qaf gEq (Qab 2) (mC (.str [115,105,103,110])))) (Qat 3 (Qbi "Maker" "add_letter" Qco (Qab 0) (Qac (Qab 1) Qae))) QaO)
  (Qan (QbH ["Maker"] "pair" (Qab 0) (QaA Qcl (Qac (QbA ["Maker"] "pair" (Qab 0)) (Qac (Qab 2) (Qac (Qaf gIx (Qab 1) (mC (.int 2))) Qae)))))
  (Qaw (Qab 3)))))))
def Qcs:List D→Qaa→Res D:=Qa6 4 Qc0
abbrev QiC (Pr:Program) (w:World) (K:Frag) (mg:Str→Option Value) (base:Heap):Prop:=Qdb Pr w K mg base "Maker" "put" ["self","item"] 3 (vSp K mg [.v,.s] (rO K) Qcs)
theorem QkR (Qgm:QfF K mg "Maker" "put" "Maker.put" Qgo)
  (B:Blt mg)
  (Qbo:KC K mg "Maker" "pair")
  (Qbc:KC K mg "Maker" "stale")
  (QcD:Qfw Pr w K mg base)
  (Qc8:Qes Pr w K mg base)
  (Qde:QeU Pr w K mg base)
  (QeX:Qhl Pr w K mg base) :
  QiC Pr w K mg base:=by
 refine Qfj (k:=2) (b:=Qc0) Qgm Qdc (fun _ _ _ _ _ _=>QaX fun _=>QaX fun _=>Qbw rfl) [.v,.s] [.v,.o] Qcr (fun _ _ _ _=>.inl ⟨rfl,Rp.non⟩) (body:=fun f cdv A outer s H E hr P=>?_);refine Qah ?_ ?_;refine Qa2 (i:=2) Qdc.nd rfl (.inl rfl) ?_;refine Qa1 (Qao 1) (Qad Qap);refine Qah ?_ ?_;refine QdW (i:=3) Qdc.nd rfl (.inl rfl) (Qce 0 Qak);refine Qah ?_ ?_;refine Qa7 ?_ ?_ ?_;refine QaW (Qbm hr) (Qad (Qag 2)) (Qad (Qaz [101,110,100])) (QaM _);refine Qah ?_ ?_;refine QdW (i:=3) Qdc.nd rfl (.inl rfl) ?_;refine Qfr QcD (hr.mono (by decide)) (Qag 0) ?_;refine Qax (Qad (Qaz [119,104,111,108,101])) Qak
 refine Qam ?_;refine QbG (QaH Qbc QaP) (Qag 0) Qcp;refine Qam ?_;refine Qa7 ?_ ?_ ?_;refine QaW (Qbm hr) (Qad (Qag 2)) (Qad (Qaz [97,110,101,119])) (QaM _);refine Qam ?_;refine QbG (QaH Qbc QaP) (Qag 0) Qcp;refine Qam ?_;refine Qju ?_;refine Qad (QiN Qc8 (hr.mono (by decide)) (Qag 0));refine Qah ?_ ?_;refine Qa7 ?_ ?_ QaQ;refine QaW (Qbm hr) (Qad (Qag 2)) (Qad (Qaz [115,105,103,110])) (QaM _);refine Qam ?_;refine QdW (i:=3) Qdc.nd rfl (.inl rfl) ?_;refine Qfr Qde (hr.mono (by decide)) (Qag 0) ?_;refine Qax (Qao 1) Qak;refine Qah ?_ (Qam (Qib 3));refine QbG (QaH Qbo QaP) (Qag 0) ?_;refine Qa3 QeX (hr.mono (by decide)) ?_
 refine Qax ?_ ?_;refine Qad (Qb0 (QaH Qbo QaP) (Qag 0));refine Qax (Qad (Qag 2)) ?_;refine Qax ?_ Qak;refine Qad ?_;refine Qa1 (Qao 1) (Qad Qap)
abbrev QcS:Stmt:=inClass (top 29) 2
theorem Qgy:Qay ["self"] ["self"] (Qaj QcS):=by trivial
def QcP:MS :=
  (Qaw (QaB QkA (Qac (QbA ["Maker"] "letters" (Qab 0)) Qae)))
def QbP:List D→Qaa→Res D:=Qa6 1 QcP
abbrev Qed (Pr:Program) (w:World) (K:Frag) (mg:Str→Option Value) (base:Heap):Prop:=Qdb Pr w K mg base "Maker" "open_letters" ["self"] 1 (vSp K mg [.v] (rO K) QbP)
theorem QgC (QcQ:QfF K mg "Maker" "open_letters" "Maker.open_letters" QcS)
  (B:Blt mg)
  (QaG:KC K mg "Maker" "letters") :
  Qed Pr w K mg base:=by
 refine Qfj (k:=0) (b:=QcP) QcQ Qgy (fun _ _ _ _ _ _=>QaX fun _=>Qbw rfl) [.v] [] Qcr (fun _ _ _ _=>.inl ⟨rfl,Rp.non⟩) (body:=fun f cdv A outer s H E hr P=>?_);refine Qam ?_;refine Qex ?_;refine QoR (ms:=[.s]) (hv:=Qjw) QqV B.list_ ?_;refine Qax ?_ Qak;refine Qad (Qb0 (QaH QaG QaP) (Qag 0))
abbrev Qhv:Stmt:=top 30
theorem Qfk:Qay ["text","most","maker","parts","item"] ["text","most"] (Qaj Qhv):=by trivial
def QfY:MS :=
  (Qan (Qat 2 (Qfn "Maker" QcO (Qac (Qab 1) Qae)))
  (Qan (Qat 3 (mMl (Qb2 Qae)))
  (Qan (QbX (Qc9 (QaA QcT (Qac (Qab 0) Qae))) (mgN 4) (QhY (Qab 3) (Qbi "Maker" "put" Qcs (Qab 2) (Qac (Qab 4) Qae))))
  (Qaw (Qbj (Qac (Qab 3) (Qac (mMl (Qbi "Maker" "open_letters" QbP (Qab 2) Qae)) Qae)))))))
def Qd4:List D→Qaa→Res D:=Qa6 5 QfY
abbrev Qkl (Pr:Program) (w:World) (K:Frag) (mg:Str→Option Value) (base:Heap):Prop:=Can Pr w K mg base "rows_of" ["text","most"] 6 (vSp K mg [.s,.s] (rV K) Qd4)
theorem Qnv (Qhs:Def K mg "rows_of" Qhv)
  (B:Blt mg)
  (QdS:QfB Pr w K mg base)
  (Qhh:Qje Pr w K mg base)
  (Qgl:QiC Pr w K mg base)
  (QcR:Qed Pr w K mg base) :
  Qkl Pr w K mg base:=by
 refine QcE (k:=5) (b:=QfY) Qhs Qfk (fun _ _ _ _ _ _=>QaX fun _=>QaX fun _=>Qbw rfl) [.s,.s] [.v,.v,.v] Qbn (fun _ _ _ _=>Rp.non) (body:=fun f cdv A outer s H E hr P=>?_);refine Qah ?_ ?_;refine Qa2 (i:=2) Qfk.nd rfl (.inl rfl) ?_;refine QqK QdS (hr.mono (by decide)) ?_;refine Qax (Qao 1) Qak;refine Qah ?_ ?_;refine Qa2 (i:=3) Qfk.nd rfl (.inl rfl) ?_;refine QiZ (Qce 0 Qak);refine Qah ?_ ?_;refine Qd9 rfl ?_ (Qbv (i:=4) Qfk.nd rfl (.inl rfl)) ?_;refine Qi5 ?_;refine QkK ?_;refine QaR ?_;refine Qie Qhh (hr.mono (by decide)) ?_;refine Qax (Qao 0) Qak;refine Qam ?_;refine Qqj (Qag 3) ?_;refine QaE ?_
 refine Qfr Qgl (hr.mono (by decide)) (Qag 2) ?_;refine Qax (Qad (Qag 4)) Qak;refine Qam ?_;refine QaC ?_;refine QbO 2 ?_;refine QaS (Qag 3) ?_;refine QaS ?_ Qak;refine QiZ (QpK QcR (hr.mono (by decide)) (Qag 2))
abbrev QhF:Stmt:=top 33
theorem QcK:Qay ["_law_cell_here","_law_k","_law_rest","_law_turn","_law_number"] ["_law_cell_here","_law_k"] (Qaj QhF):=by trivial
def Qj7:MS :=
  (Qan (QaV (QaD (Qaf gGt (Qab 0) (Qaf Qf4 (mC (.int 10)) (mC (.int 18))))) (Qan (Qat 2 (mG (Qab 0)))
  (Qan (QbX (QcN (Qac (Qab 1) Qae)) (mgN 3) (Qat 2 (Qaf QfR (Qab 2) (Qaf Qf4 (mC (.int 10)) (mC (.int 9))))))
  (Qaw (Qaf Qcc (Qab 2) (Qaf Qf4 (mC (.int 10)) (mC (.int 9))))))) QaO)
  (Qan (Qat 4 (Qaf Qa0 (Qaf Qcc (Qab 0) (mC (.int 2147483647))) (mC (.int 7919))))
  (Qan (QbX (QcN (Qac (Qaf Qa0 (Qab 1) (mC (.int 2))) Qae)) (mgN 3) (Qat 4 (Qaf Qcc (Qaf Qa0 (Qaf Qeq (Qab 4) (mC (.int 48271))) (mC (.int 104729))) (mC (.int 2147483629)))))
  (Qaw (Qaf QfR (Qaf Qcc (Qaf Qeq (Qab 4) (Qab 4)) (mC (.int 998244353))) (mC (.int 11)))))))
def QbS:List D→Qaa→Res D:=Qa6 5 Qj7
abbrev Qj1 (Pr:Program) (w:World) (K:Frag) (mg:Str→Option Value) (base:Heap):Prop:=Can Pr w K mg base "_law_mix" ["_law_cell_here","_law_k"] 1 (vSp K mg [.s,.s] (rV K) QbS)
theorem Qm6 (QhQ:Def K mg "_law_mix" QhF)
  (B:Blt mg) :
  Qj1 Pr w K mg base:=by
 refine QcE (k:=0) (b:=Qj7) QhQ QcK (fun _ _ _ _ _ _=>QaX fun _=>QaX fun _=>Qbw rfl) [.s,.s] [.v,.v,.v] Qbn (fun _ _ _ _=>Rp.non) (body:=fun f cdv A outer s H E hr P=>?_);refine Qah ?_ ?_;refine Qa7 ?_ ?_ QaQ;refine QaW QpT (Qao 0) ?_ (QaM _);refine QaE ?_;refine QaT Qlo (Qad Qap) (Qad Qap);refine Qah ?_ ?_;refine Qa2 (i:=2) QcK.nd rfl (.inl rfl) (Qcn (Qao 0));refine Qah ?_ ?_;refine Qd9 rfl ?_ (Qbv (i:=3) QcK.nd rfl (.inl rfl)) ?_;refine QeL B.range_ ?_;refine Qax (Qao 1) Qak;refine Qam ?_;refine Qa2 (i:=2) QcK.nd rfl (.inl rfl) ?_;refine QaR ?_;refine QaT Qmn (Qad (Qag 2)) ?_;refine QaE ?_;refine QaT Qlo (Qad Qap) (Qad Qap)
 refine Qam ?_;refine QaC ?_;refine QaR ?_;refine QaT QeO (Qad (Qag 2)) ?_;refine QaE ?_;refine QaT Qlo (Qad Qap) (Qad Qap);refine Qah ?_ ?_;refine Qa2 (i:=4) QcK.nd rfl (.inl rfl) ?_;refine QaR ?_;refine QaT Qcg ?_ (Qad Qap);refine QaE ?_;refine QaT QeO (Qao 0) (Qad Qap);refine Qah ?_ ?_;refine Qd9 rfl ?_ (Qbv (i:=3) QcK.nd rfl (.inl rfl)) ?_;refine QeL B.range_ ?_;refine Qax ?_ Qak;refine QaE ?_;refine QaT Qcg (Qao 1) (Qad Qap);refine Qam ?_;refine Qa2 (i:=4) QcK.nd rfl (.inl rfl) ?_;refine QaR ?_;refine QaT QeO ?_ (Qad Qap);refine QaE ?_;refine QaT Qcg ?_ (Qad Qap);refine QaE ?_;refine QaT Qli (Qad (Qag 4)) (Qad Qap)
 refine Qam ?_;refine QaC ?_;refine QaR ?_;refine QaT Qmn ?_ (Qad Qap);refine QaE ?_;refine QaT QeO ?_ (Qad Qap);refine QaE ?_;refine QaT Qli (Qad (Qag 4)) (Qad (Qag 4))
abbrev Qf8:Stmt:=top 34
theorem QhN:Qay ["_law_some"] [] (Qaj Qf8):=by trivial
def Qiv:MS :=
  (Qan (Qat 0 (mC (.str [32,33,34,35,36,38,39,40,41,42,43,44,45,46,47,48,49,50,51,52,53,54,55,56,57,58,59,60,61,62,63,64,65,66,67,68,69,70,71,72,73,74,75,76,77,78,79,80,81,82,83,84,85,86,87,88,89,90])))
  (Qaw (Qaf Qa0 (Qab 0) (mC (.str [91,92,93,94,95,96,97,98,99,100,101,102,103,104,105,106,107,108,109,110,111,112,113,114,115,116,117,118,119,120,121,122,123,124,125])))))
def QeH:List D→Qaa→Res D:=Qa6 1 Qiv
abbrev Qiw (Pr:Program) (w:World) (K:Frag) (mg:Str→Option Value) (base:Heap):Prop:=QjJ Pr w K mg base "_law_signs" [] 1 (vSp K mg [] (rV K) QeH)
theorem QlB (Qf5:Def K mg "_law_signs" Qf8)
  (B:Blt mg) :
  Qiw Pr w K mg base:=by
 refine Qud (k:=0) (b:=Qiv) Qf5 QhN (fun _ _ _ _ _ _=>Qbw rfl) [] [.v] Qbn (fun _ _ _ _=>Rp.non) (fun env=>Qrq Qnr) (body:=fun f cdv A outer s H E hr P=>?_);refine Qah (Qa2 (i:=0) QhN.nd rfl (.inl rfl) (Qaz [32,33,34,35,36,38,39,40,41,42,43,44,45,46,47,48,49,50,51,52,53,54,55,56,57,58,59,60,61,62,63,64,65,66,67,68,69,70,71,72,73,74,75,76,77,78,79,80,81,82,83,84,85,86,87,88,89,90])) ?_;refine Qam ?_;refine QaC ?_;refine QaR ?_;refine QaT Qcg (Qad (Qag 0)) (Qad (Qaz [91,92,93,94,95,96,97,98,99,100,101,102,103,104,105,106,107,108,109,110,111,112,113,114,115,116,117,118,119,120,121,122,123,124,125]))
abbrev Qgs:Stmt:=top 35
theorem QlE:Qay ["_law_found"] ["_law_found"] (Qaj Qgs):=by trivial
def Qgj:MS :=
  (Qaw (Qdq (QcH "int" (Qab 0)) (Qkw (QcH "bool" (Qab 0)))))
def QdI:List D→Qaa→Res D:=Qa6 1 Qgj
abbrev QiA (Pr:Program) (w:World) (K:Frag) (mg:Str→Option Value) (base:Heap):Prop:=Can Pr w K mg base "_law_whole" ["_law_found"] 1 (vSp K mg [.s] (rV K) QdI)
theorem QlC (Qf1:Def K mg "_law_whole" Qgs)
  (B:Blt mg) :
  QiA Pr w K mg base:=by
 refine QcE (k:=0) (b:=Qgj) Qf1 QlE (fun _ _ _ _ _ _=>QaX fun _=>Qbw rfl) [.s] [] Qbn (fun _ _ _ _=>Rp.non) (body:=fun f cdv A outer s H E hr P=>?_);refine Qam ?_;refine QaC ?_;refine QdM ?_ ?_;refine QaR (QcC "int" (hb:=QoK) B.isinstance_ B.int_ (Qao 0));refine QfG ?_;refine QnM ?_;refine QaR (QcC "bool" (hb:=Ql5) B.isinstance_ B.bool_ (Qao 0))
abbrev Qcj:Stmt:=top 36
theorem Qd5:Qay ["_law_found","_law_due_here","_law_letter"] ["_law_found","_law_due_here"] (Qaj Qcj):=by trivial
def Qc2:MS :=
  (Qan (QaV (Qb3 (Qbz (QbJ (QcH "list" (Qab 0)))) (QaD (Qaf gNe (QaB QaY (Qac (Qab 0) Qae)) (QaB QaY (Qac (Qab 1) Qae))))) (Qaw (mC (.bl false))) QaO)
  (Qan (Qej (Qab 0) (mgN 2) (Qan (QaV (Qb3 (Qbz (QbJ (QcH "tuple" (Qab 2)))) (Qb3 (QaD (Qaf gNe (QaB QaY (Qac (Qab 2) Qae)) (mC (.int 4)))) (Qbz (QbJ (QaA QdI (Qac (Qaf gIx (Qab 2) (mC (.int 3))) Qae)))))) (Qaw (mC (.bl false))) QaO)
  (QaV (QaD (Qaf gNe (Qdp (Qc9 (mSl (Qab 2) moN (moS (mC (.int 3))))) 1 [] (mgN 0) QdU (QcH "str" (Qab 0))) (Qb2 (Qac (mC (.bl true)) (Qac (mC (.bl true)) (Qac (mC (.bl true)) Qae)))))) (Qaw (mC (.bl false))) QaO)))
  (Qaw (Qaf gEq (Qab 0) (Qab 1)))))
def Qbg:List D→Qaa→Res D:=Qa6 3 Qc2
abbrev Qc4 (Pr:Program) (w:World) (K:Frag) (mg:Str→Option Value) (base:Heap):Prop:=Can Pr w K mg base "_law_letters_right" ["_law_found","_law_due_here"] 2 (vSp K mg [.s,.s] (rV K) Qbg)
theorem QgI (Qc7:Def K mg "_law_letters_right" Qcj)
  (B:Blt mg)
  (Qgr:QiA Pr w K mg base) :
  Qc4 Pr w K mg base:=by
 refine QcE (k:=1) (b:=Qc2) Qc7 Qd5 (fun _ _ _ _ _ _=>QaX fun _=>QaX fun _=>Qbw rfl) [.s,.s] [.v] Qbn (fun _ _ _ _=>Rp.non) (body:=fun f cdv A outer s H E hr P=>?_);refine Qah ?_ ?_;refine Qa7 ?_ ?_ QaQ;refine Qgt ?_;refine Qee ?_ ?_;refine QcW ?_;refine Qb1 ?_;refine QaE (QcC "list" (hb:=Qjw) B.isinstance_ B.list_ (Qao 0));refine QeN ?_;refine QaW (QgR hr) ?_ ?_ (QaM _);refine QaE ?_;refine Qa8 (ms:=[.s]) (hv:=QbB) QbC B.len_ ?_;refine Qax (Qao 0) Qak;refine QaE ?_;refine Qa8 (ms:=[.s]) (hv:=QbB) QbC B.len_ ?_;refine Qax (Qao 1) Qak;refine Qam (QaC Qcp);refine Qah ?_ ?_;refine Ql7 rfl (QgD 0) (Qbv (i:=2) Qd5.nd rfl (.inl rfl)) ?_
 refine Qah ?_ ?_;refine Qa7 ?_ ?_ QaQ;refine Qgt ?_;refine Qee ?_ ?_;refine QcW ?_;refine Qb1 ?_;refine QaE ?_;refine QcC "tuple" (hb:=QiP) B.isinstance_ B.tuple_ (Qad (Qag 2));refine Qee ?_ ?_;refine QaW (QgR hr) ?_ (Qad Qap) (QaM _);refine QaE ?_;refine Qa8 (ms:=[.s]) (hv:=QbB) QbC B.len_ ?_;refine Qax (Qad (Qag 2)) Qak;refine QeN ?_;refine QcW ?_;refine Qb1 ?_;refine Qad ?_;refine Qa3 Qgr (hr.mono (by decide)) ?_;refine Qax ?_ Qak;refine Qad ?_;refine Qa1 (Qad (Qag 2)) (Qad Qap);refine Qam (QaC Qcp);refine Qam ?_;refine Qa7 ?_ ?_ QaQ;refine QaW (QgR hr) ?_ ?_ (QaM _);refine QaE ?_;refine Qif (Qaj Qcj) ["_law_found","_law_due_here","_law_letter"] ["_law_thing"] [] rfl ?_ (fun _ _ _ _ P=>?_) (fun _ _ _ _ P=>?_) (fun _ _ _ _ P=>?_)
 refine Qqg ?_;refine QaE ?_;refine QiK (Qad (Qag 2)) QjR (QjP Qap);exact Qbv (i:=0) (show (Qbf ["_law_found","_law_due_here","_law_letter"] ["_law_thing"] []).Nodup by decide +kernel) rfl (.inl rfl);exact Qic;refine QaR ?_;refine QcC "str" (hb:=QiX) B.isinstance_ B.str_ (Qad (Qag 0));refine QaE ?_;refine Qce 3 ?_;refine QaS Qcp ?_;refine QaS Qcp ?_;refine QaS Qcp Qak;refine Qam (QaC Qcp);refine Qam ?_;refine QaC ?_;refine QaR ?_;refine QgE (Qbm hr) (Qao 0) (Qao 1) (QaM _)
abbrev QdA:Stmt:=top 37
theorem Qdg:Qay ["_law_found","_law_due_here","_law_part","_law_other"] ["_law_found","_law_due_here"] (Qaj QdA):=by trivial
def Qcz:MS :=
  (Qan (QaV (Qb3 (Qbz (QbJ (QcH "list" (Qab 0)))) (QaD (Qaf gNe (QaB QaY (Qac (Qab 0) Qae)) (QaB QaY (Qac (Qab 1) Qae))))) (Qaw (mC (.bl false))) QaO)
  (Qan (Qgu (Qab 0) (Qab 1) (Qgg 2 (Qbq (mgN 2) (Qbq (mgN 3) Qeo))) (Qan (QaV (Qb3 (Qbz (QbJ (QcH "tuple" (Qab 2)))) (Qb3 (QaD (Qaf gNe (QaB QaY (Qac (Qab 2) Qae)) (mC (.int 2)))) (QaD (Qaf gNe (Qaf gIx (Qab 2) (mC (.int 1))) (Qaf gIx (Qab 3) (mC (.int 1))))))) (Qaw (mC (.bl false))) QaO)
  (QaV (Qbz (QbJ (QaA Qbg (Qac (Qaf gIx (Qab 2) (mC (.int 0))) (Qac (Qaf gIx (Qab 3) (mC (.int 0))) Qae))))) (Qaw (mC (.bl false))) QaO)))
  (Qaw (mC (.bl true)))))
def Qcy:List D→Qaa→Res D:=Qa6 4 Qcz
abbrev Qfa (Pr:Program) (w:World) (K:Frag) (mg:Str→Option Value) (base:Heap):Prop:=Can Pr w K mg base "_law_parts_right" ["_law_found","_law_due_here"] 3 (vSp K mg [.s,.s] (rV K) Qcy)
theorem Qht (Qdw:Def K mg "_law_parts_right" QdA)
  (B:Blt mg)
  (Qbt:Qc4 Pr w K mg base) :
  Qfa Pr w K mg base:=by
 refine QcE (k:=2) (b:=Qcz) Qdw Qdg (fun _ _ _ _ _ _=>QaX fun _=>QaX fun _=>Qbw rfl) [.s,.s] [.v,.v] Qbn (fun _ _ _ _=>Rp.non) (body:=fun f cdv A outer s H E hr P=>?_);refine Qah ?_ ?_;refine Qa7 ?_ ?_ QaQ;refine Qgt ?_;refine Qee ?_ ?_;refine QcW ?_;refine Qb1 ?_;refine QaE (QcC "list" (hb:=Qjw) B.isinstance_ B.list_ (Qao 0));refine QeN ?_;refine QaW (QgR hr) ?_ ?_ (QaM _);refine QaE ?_;refine Qa8 (ms:=[.s]) (hv:=QbB) QbC B.len_ ?_;refine Qax (Qao 0) Qak;refine QaE ?_;refine Qa8 (ms:=[.s]) (hv:=QbB) QbC B.len_ ?_;refine Qax (Qao 1) Qak;refine Qam (QaC Qcp);refine Qah ?_ ?_;refine Qrb rfl B.zip_ (QgD 0) (QgD 1) ?_ ?_
 refine Qk0 2 rfl ?_;refine QeA (Qbv (i:=2) Qdg.nd rfl (.inl rfl)) ?_;refine QeA (Qbv (i:=3) Qdg.nd rfl (.inl rfl)) QjA;refine Qah ?_ ?_;refine Qa7 ?_ ?_ QaQ;refine Qgt ?_;refine Qee ?_ ?_;refine QcW ?_;refine Qb1 ?_;refine QaE ?_;refine QcC "tuple" (hb:=QiP) B.isinstance_ B.tuple_ (Qad (Qag 2));refine Qee ?_ ?_;refine QaW (QgR hr) ?_ (Qad Qap) (QaM _);refine QaE ?_;refine Qa8 (ms:=[.s]) (hv:=QbB) QbC B.len_ ?_;refine Qax (Qad (Qag 2)) Qak;refine QeN ?_;refine QaW (QgR hr) ?_ ?_ (QaM _);refine Qad ?_;refine Qa1 (Qad (Qag 2)) (Qad Qap);refine Qad ?_;refine Qa1 (Qad (Qag 3)) (Qad Qap);refine Qam (QaC Qcp)
 refine Qam ?_;refine Qa7 ?_ ?_ QaQ;refine QcW ?_;refine Qb1 ?_;refine Qad ?_;refine Qa3 Qbt (hr.mono (by decide)) ?_;refine Qax ?_ ?_;refine Qad ?_;refine Qa1 (Qad (Qag 2)) (Qad Qap);refine Qax ?_ Qak;refine Qad ?_;refine Qa1 (Qad (Qag 3)) (Qad Qap);refine Qam (QaC Qcp);refine Qam (QaC Qcp)
abbrev QfS:Stmt:=top 38
theorem QgW:Qay ["_law_cell_here","_law_signs_here","_law_many"] ["_law_cell_here"] (Qaj QfS):=by trivial
def QdX:MS :=
  (Qan (Qat 1 (Qij 91 (QaA QeH Qae)))
  (Qan (QaV (QaD (Qaf gEq (Qaf Qcc (QaA QbS (Qac (Qab 0) (Qac (mC (.int 0)) Qae))) (mC (.int 4))) (mC (.int 3)))) (Qaw (Qaf Qeq (mC (.str [10])) (Qaf Qa0 (mC (.int 1)) (Qaf Qcc (QaA QbS (Qac (Qab 0) (Qac (mC (.int 2)) Qae))) (mC (.int 3)))))) QaO)
  (Qan (Qat 2 (Qaf Qcc (QaA QbS (Qac (Qab 0) (Qac (mC (.int 3)) Qae))) (mC (.int 10))))
  (Qaw (QkG (Qdp (QcN (Qac (Qab 2) Qae)) 1 [0,1] (mgN 0) QdU (Qaf gIx (Qab 2) (Qaf Qcc (QaA QbS (Qac (Qab 1) (Qac (Qaf Qa0 (mC (.int 4)) (Qab 0)) Qae))) (mC (.int 92))))))))))
def QeV:List D→Qaa→Res D:=Qa6 3 QdX
abbrev Qj8 (Pr:Program) (w:World) (K:Frag) (mg:Str→Option Value) (base:Heap):Prop:=Can Pr w K mg base "_law_run" ["_law_cell_here"] 2 (vSp K mg [.s] (rV K) QeV)
theorem QmU (Qh3:Def K mg "_law_run" QfS)
  (B:Blt mg)
  (Qf6:Qiw Pr w K mg base)
  (Qd3:Qj1 Pr w K mg base) :
  Qj8 Pr w K mg base:=by
 refine QcE (k:=1) (b:=QdX) Qh3 QgW (fun _ _ _ _ _ _=>QaX fun _=>Qbw rfl) [.s] [.v,.v] Qbn (fun _ _ _ _=>Rp.non) (body:=fun f cdv A outer s H E hr P=>?_);refine Qah (Qa2 (i:=1) QgW.nd rfl (.inr rfl) (QnL 91 Qf6 (hr.mono (by decide)))) ?_;refine Qah ?_ ?_;refine Qa7 ?_ ?_ QaQ;refine QaW (Qbm hr) ?_ (Qad Qap) (QaM _);refine QaE ?_;refine QaT QeO ?_ (Qad Qap);refine Qad ?_;refine Qa3 Qd3 (hr.mono (by decide)) ?_;refine Qax (Qao 0) ?_;refine Qax (Qad Qap) Qak;refine Qam ?_;refine QaC ?_;refine QaR ?_;refine QaT Qli (Qad (Qaz [10])) ?_;refine QaE ?_;refine QaT Qcg (Qad Qap) ?_;refine QaE ?_;refine QaT QeO ?_ (Qad Qap)
 refine Qad ?_;refine Qa3 Qd3 (hr.mono (by decide)) ?_;refine Qax (Qao 0) ?_;refine Qax (Qad Qap) Qak;refine Qah ?_ ?_;refine Qa2 (i:=2) QgW.nd rfl (.inl rfl) ?_;refine QaR ?_;refine QaT QeO ?_ (Qad Qap);refine Qad ?_;refine Qa3 Qd3 (hr.mono (by decide)) ?_;refine Qax (Qao 0) ?_;refine Qax (Qad Qap) Qak;refine Qam ?_;refine QaC ?_;refine QaR ?_;refine Qqr ?_;refine QaE ?_;refine Qif (Qaj QfS) ["_law_cell_here","_law_signs_here","_law_many"] ["_law_k"] [0,1] rfl ?_ (fun _ _ _ _ P=>?_) (fun _ _ _ _ P=>?_) (fun _ _ _ _ P=>?_);refine QhX ?_;refine QeL B.range_ ?_;refine Qax (Qad (Qag 2)) Qak;exact Qbv (i:=0) (show (Qbf ["_law_cell_here","_law_signs_here","_law_many"] ["_law_k"] [0,1]).Nodup by decide +kernel) rfl (.inl rfl)
 exact Qic
 refine Qa1 (Qad (Qag 2)) ?_;refine QaE ?_;refine QaT QeO ?_ (Qad Qap);refine Qad ?_;refine Qa3 Qd3 (hr.mono (by decide)) ?_;refine Qax (Qao 1) ?_;refine Qax ?_ Qak;refine QaE ?_;refine QaT Qcg (Qad Qap) (Qad (Qag 0))
abbrev QgY:Stmt:=top 39
theorem QcZ:Qay ["_law_script","_law_text_here","_law_cell_here","_law_piece"] ["_law_script"] (Qaj QgY):=by trivial
def Qfd:MS :=
  (Qan (Qat 1 (mC (.str [])))
  (Qan (QbX (Qc9 (mSl (Qab 0) moN (moS (mC (.int 60))))) (mgN 2) (Qan (Qat 3 (QaA QeV (Qac (Qab 2) Qae)))
  (Qan (QaV (QaD (Qaf gGt (Qaf Qa0 (Qaf Qel (QaB QaY (Qac (Qab 1) Qae)) (Qh0 (Qab 1) (mC (.str [10])))) (QaB QaY (Qac (Qab 3) Qae))) (mC (.int 200)))) (Qat 3 (mC (.str [10]))) QaO)
  (Qat 1 (Qaf Qa0 (Qab 1) (Qab 3))))))
  (Qaw (Qab 1))))
def Qhc:List D→Qaa→Res D:=Qa6 4 Qfd
abbrev Qjh (Pr:Program) (w:World) (K:Frag) (mg:Str→Option Value) (base:Heap):Prop:=Can Pr w K mg base "_law_text" ["_law_script"] 3 (vSp K mg [.s] (rV K) Qhc)
theorem QlU (Qhb:Def K mg "_law_text" QgY)
  (B:Blt mg)
  (Qhx:Qj8 Pr w K mg base) :
  Qjh Pr w K mg base:=by
 refine QcE (k:=2) (b:=Qfd) Qhb QcZ (fun _ _ _ _ _ _=>QaX fun _=>Qbw rfl) [.s] [.v,.v,.v] Qbn (fun _ _ _ _=>Rp.non) (body:=fun f cdv A outer s H E hr P=>?_);refine Qah (Qa2 (i:=1) QcZ.nd rfl (.inl rfl) (Qaz [])) ?_;refine Qah ?_ ?_;refine Qd9 rfl ?_ (Qbv (i:=2) QcZ.nd rfl (.inl rfl)) ?_;refine Qi5 ?_;refine QkK ?_;refine QaR ?_;refine QiK (Qao 0) QjR (QjP Qap);refine Qah ?_ ?_;refine Qa2 (i:=3) QcZ.nd rfl (.inl rfl) ?_;refine Qa3 Qhx (hr.mono (by decide)) ?_;refine Qax (Qad (Qag 2)) Qak;refine Qah ?_ ?_;refine Qa7 ?_ ?_ QaQ;refine QaW QpT ?_ (Qad Qap) (QaM _);refine QaE ?_;refine QaT Qcg ?_ ?_
 refine QaE ?_;refine QaT QlA ?_ ?_;refine QaE ?_;refine Qa8 (ms:=[.s]) (hv:=QbB) QbC B.len_ ?_;refine Qax (Qad (Qag 1)) Qak;refine QaE ?_;refine QpJ (Qag 1) (Qaz [10]);refine QaE ?_;refine Qa8 (ms:=[.s]) (hv:=QbB) QbC B.len_ ?_;refine Qax (Qad (Qag 3)) Qak;refine Qam (Qa2 (i:=3) QcZ.nd rfl (.inl rfl) (Qaz [10]));refine Qam ?_;refine Qa2 (i:=1) QcZ.nd rfl (.inl rfl) ?_;refine QaR ?_;refine QaT Qcg (Qad (Qag 1)) (Qad (Qag 3));refine Qam (QaC (Qag 1))
abbrev QfL:Stmt:=top 40
theorem Qef:Qay ["_law_text_here","_law_parts","_law_at","_law_row"] ["_law_text_here"] (Qaj QfL):=by trivial
def QfT:MS :=
  (Qan (Qat 1 (Qb2 Qae))
  (Qan (Qat 2 (mC (.int 0)))
  (Qan (QbX (Qc9 (QiY (mG (Qab 0)) (mC (.str [10])))) (mgN 3) (Qan (QgL 1 (Qbj (Qac (Qdp (QcN (Qac (QaB QaY (Qac (Qab 3) Qae)) Qae)) 1 [2,3] (mgN 0) QdU (Qbj (Qac (Qaf gIx (Qab 2) (Qab 0)) (Qac (mC (.str [46])) (Qac (mC (.str [46])) (Qac (Qaf Qa0 (Qab 1) (Qab 0)) Qae)))))) (Qac (mC (.str [119,104,111,108,101])) Qae))))
  (Qat 2 (Qaf Qa0 (Qaf Qa0 (Qab 2) (QaB QaY (Qac (Qab 3) Qae))) (mC (.int 1))))))
  (Qaw (Qbj (Qac (mSl (Qab 1) moN (moS (mUn QjF (mC (.int 1))))) (Qac (Qaf gIx (Qaf gIx (Qab 1) (mUn QjF (mC (.int 1)))) (mC (.int 0))) Qae)))))))
def QhK:List D→Qaa→Res D:=Qa6 4 QfT
abbrev QjX (Pr:Program) (w:World) (K:Frag) (mg:Str→Option Value) (base:Heap):Prop:=Can Pr w K mg base "_law_due" ["_law_text_here"] 1 (vSp K mg [.s] (rV K) QhK)
theorem Qnp (QhG:Def K mg "_law_due" QfL)
  (B:Blt mg) :
  QjX Pr w K mg base:=by
 refine QcE (k:=0) (b:=QfT) QhG Qef (fun _ _ _ _ _ _=>QaX fun _=>Qbw rfl) [.s] [.o,.v,.v] Qbn (fun _ _ _ _=>Rp.non) (body:=fun f cdv A outer s H E hr P=>?_);refine Qah ?_ ?_;refine QdW (i:=1) Qef.nd rfl (.inl rfl) (Qce 0 Qak);refine Qah (Qa2 (i:=2) Qef.nd rfl (.inr rfl) Qap) ?_;refine Qah ?_ ?_;refine Qd9 rfl ?_ (Qbv (i:=3) Qef.nd rfl (.inr rfl)) ?_;refine Qi5 ?_;refine QkK ?_;refine QaR ?_;refine Qpi (Qcn (Qao 0)) (Qaz [10]);refine Qah ?_ ?_;refine Qog 1 ?_;refine QbO 2 ?_;refine QaS ?_ ?_;refine QaR ?_;refine Qif (Qaj QfL) ["_law_text_here","_law_parts","_law_at","_law_row"] ["_law_k"] [2,3] rfl ?_ (fun _ _ _ _ P=>?_) (fun _ _ _ _ P=>?_) (fun _ _ _ _ P=>?_)
 refine QhX ?_;refine QeL B.range_ ?_;refine Qax ?_ Qak;refine QaE ?_;refine Qa8 (ms:=[.s]) (hv:=QbB) QbC B.len_ ?_;refine Qax (Qad (Qag 3)) Qak;exact Qbv (i:=0) (show (Qbf ["_law_text_here","_law_parts","_law_at","_law_row"] ["_law_k"] [2,3]).Nodup by decide +kernel) rfl (.inl rfl);exact Qic;refine QbO 4 ?_;refine QaS ?_ ?_;refine Qa1 (Qad (Qag 2)) (Qad (Qag 0));refine QaS (Qaz [46]) ?_;refine QaS (Qaz [46]) ?_;refine QaS ?_ Qak;refine QaR ?_;refine QaT Qcg (Qad (Qag 1)) (Qad (Qag 0));refine QaS (Qaz [119,104,111,108,101]) Qak;refine Qam ?_;refine Qa2 (i:=2) Qef.nd rfl (.inr rfl) ?_;refine QaR ?_
 refine QaT Qcg ?_ (Qad Qap);refine QaE ?_;refine QaT Qcg (Qad (Qag 2)) ?_;refine QaE ?_;refine Qa8 (ms:=[.s]) (hv:=QbB) QbC B.len_ ?_;refine Qax (Qad (Qag 3)) Qak;refine Qam ?_;refine QaC ?_;refine QbO 2 ?_;refine QaS ?_ ?_;refine QaR ?_;refine QiK (Qao 1) QjR ?_;refine QjP ?_;refine QaR ?_;refine Qn7 (Qad Qap);refine QaS ?_ Qak;refine Qa1 ?_ (Qad Qap);refine Qad ?_;refine Qa1 (Qao 1) ?_;refine QaE ?_;refine Qn7 (Qad Qap)
abbrev QeC:Stmt:=top 41
theorem Qgz:Qay ["_law_script","_law_text_here","_law_due_here","_law_more","_law_found","_law_part"] ["_law_script"] (Qaj QeC):=by trivial
def Qkv:MS :=
  (Qan (Qat 1 (QaA Qhc (Qac (Qab 0) Qae)))
  (Qan (Qat 2 (QaA QhK (Qac (Qab 1) Qae)))
  (Qan (QbX (QcN (Qac (mC (.int 2)) Qae)) (mgN 3) (Qan (Qat 4 (QaA Qd4 (Qac (Qab 1) (Qac (mC (.int 200)) Qae))))
  (Qan (QaV (Qb3 (Qbz (QbJ (QcH "tuple" (Qab 4)))) (QaD (Qaf gNe (QaB QaY (Qac (Qab 4) Qae)) (mC (.int 2))))) (Qaw (mC (.bl false))) QaO)
  (Qan (QaV (Qb3 (Qbz (QbJ (QaA Qcy (Qac (Qaf gIx (Qab 4) (mC (.int 0))) (Qac (Qaf gIx (Qab 2) (mC (.int 0))) Qae))))) (Qbz (QbJ (QaA Qbg (Qac (Qaf gIx (Qab 4) (mC (.int 1))) (Qac (Qaf gIx (Qab 2) (mC (.int 1))) Qae)))))) (Qaw (mC (.bl false))) QaO)
  (Qan (Qej (Qaf gIx (Qab 4) (mC (.int 0))) (mgN 5) (QdJ (Qaf gIx (Qab 5) (mC (.int 0))) (Qbj (Qac (mC (.str [120])) (Qac (mC (.str [46])) (Qac (mC (.str [46])) (Qac (mC (.int 0)) Qae)))))))
  (Qan (QdJ (Qaf gIx (Qab 4) (mC (.int 0))) (Qbj (Qac (Qb2 Qae) (Qac (mC (.str [119,104,111,108,101])) Qae))))
  (QgF (Qaf gIx (Qab 4) (mC (.int 1))))))))))
  (Qaw (Qk2 false 4 (QaA Qd4 (Qac (mC (.str [])) (Qac (mC (.int 200)) Qae))) (Qbj (Qac (Qb2 Qae) (Qac (Qb2 Qae) Qae))))))))
def Qqa:List D→Qaa→Res D:=Qa6 6 Qkv
abbrev Qty (Pr:Program) (w:World) (K:Frag) (mg:Str→Option Value) (base:Heap):Prop:=Can Pr w K mg base "law" ["_law_script"] 7 (vSp K mg [.s] (rV K) Qqa)
theorem QrD (QmI:Def K mg "law" QeC)
  (B:Blt mg)
  (Qg0:Qjh Pr w K mg base)
  (Qh2:QjX Pr w K mg base)
  (QfM:Qkl Pr w K mg base)
  (Qdx:Qfa Pr w K mg base)
  (Qbt:Qc4 Pr w K mg base) :
  Qty Pr w K mg base:=by
 refine QcE (k:=6) (b:=Qkv) QmI Qgz (fun _ _ _ _ _ _=>QaX fun _=>Qbw rfl) [.s] [.v,.v,.v,.v,.v] Qbn (fun _ _ _ _=>Rp.non) (body:=fun f cdv A outer s H E hr P=>?_);refine Qah ?_ ?_;refine Qa2 (i:=1) Qgz.nd rfl (.inl rfl) ?_;refine Qa3 Qg0 (hr.mono (by decide)) ?_;refine Qax (Qao 0) Qak;refine Qah ?_ ?_;refine Qa2 (i:=2) Qgz.nd rfl (.inl rfl) ?_;refine Qa3 Qh2 (hr.mono (by decide)) ?_;refine Qax (Qad (Qag 1)) Qak;refine Qah ?_ ?_;refine Qd9 rfl ?_ (Qbv (i:=3) Qgz.nd rfl (.inl rfl)) ?_;refine QeL B.range_ ?_;refine Qax (Qad Qap) Qak;refine Qah ?_ ?_;refine Qa2 (i:=4) Qgz.nd rfl (.inl rfl) ?_;refine Qa3 QfM (hr.mono (by decide)) ?_
 refine Qax (Qad (Qag 1)) ?_;refine Qax (Qad Qap) Qak;refine Qah ?_ ?_;refine Qa7 ?_ ?_ QaQ;refine Qgt ?_;refine Qee ?_ ?_;refine QcW ?_;refine Qb1 ?_;refine QaE ?_;refine QcC "tuple" (hb:=QiP) B.isinstance_ B.tuple_ (Qad (Qag 4));refine QeN ?_;refine QaW (QgR hr) ?_ (Qad Qap) (QaM _);refine QaE ?_;refine Qa8 (ms:=[.s]) (hv:=QbB) QbC B.len_ ?_;refine Qax (Qad (Qag 4)) Qak;refine Qam (QaC Qcp);refine Qah ?_ ?_;refine Qa7 ?_ ?_ QaQ;refine Qgt ?_;refine Qee ?_ ?_;refine QcW ?_;refine Qb1 ?_;refine Qad ?_;refine Qa3 Qdx (hr.mono (by decide)) ?_;refine Qax ?_ ?_;refine Qad ?_;refine Qa1 (Qad (Qag 4)) (Qad Qap)
 refine Qax ?_ Qak;refine Qad ?_;refine Qa1 (Qad (Qag 2)) (Qad Qap);refine QeN ?_;refine QcW ?_;refine Qb1 ?_;refine Qad ?_;refine Qa3 Qbt (hr.mono (by decide)) ?_;refine Qax ?_ ?_;refine Qad ?_;refine Qa1 (Qad (Qag 4)) (Qad Qap);refine Qax ?_ Qak;refine Qad ?_;refine Qa1 (Qad (Qag 2)) (Qad Qap);refine Qam (QaC Qcp);refine Qah ?_ ?_;refine Ql7 rfl ?_ (Qbv (i:=5) Qgz.nd rfl (.inl rfl)) ?_;refine QkK ?_;refine Qa1 (Qad (Qag 4)) (Qad Qap);refine Qam ?_;refine QjE ?_ ?_;refine Qa1 (Qad (Qag 5)) (Qad Qap);refine QbO 4 ?_;refine QaS (Qaz [120]) ?_;refine QaS (Qaz [46]) ?_;refine QaS (Qaz [46]) ?_;refine QaS Qap Qak
 refine Qah ?_ ?_;refine QjE ?_ ?_;refine Qa1 (Qad (Qag 4)) (Qad Qap);refine QbO 2 ?_;refine QaS ?_ ?_;refine QaR (Qce 0 Qak);refine QaS (Qaz [119,104,111,108,101]) Qak;refine Qam ?_;refine Qq0 ?_;refine Qa1 (Qad (Qag 4)) (Qad Qap);refine Qam ?_;refine QaC ?_;refine QaR ?_;refine QsA 4 hr ?_ ?_;refine Qad ?_;refine Qa3 QfM (hr.mono (by decide)) ?_;refine Qax (Qad (Qaz [])) ?_;refine Qax (Qad Qap) Qak;refine Qad ?_;refine QbO 2 ?_;refine QaS ?_ ?_;refine QaR (Qce 0 Qak);refine QaS ?_ Qak;refine QaR (Qce 0 Qak)
end
structure Okt (t:List Nat):Prop where
 len:t.length≤5000
 ok:∀c∈t,(32≤c∧c≤125)∨c=10∨c=9
theorem Okt.lt {t:List Nat} (h:Okt t):∀c∈t,c < 128:=fun c hc=>by
 have:=h.ok c hc
 omega
theorem Okt.asc {t:List Nat} (h:Okt t):ascii t=true:=by
 unfold ascii;rw [List.all_eq_true];intro c hc;exact zK (h.lt c hc)
@[simp] theorem Qwl {a:Nat}:gIx (.str [a]) (.int 0)=some (.str [a]):=rfl
@[simp] theorem Qv8 {a b:Nat}:gIx (.str [a,b]) (.int 0)=some (.str [a]):=rfl
@[simp] theorem Qwh {a b:Nat}:gIx (.str [a,b]) (.int 1)=some (.str [b]):=rfl
@[simp] theorem Qws {a b c:Nat}:gIx (.str [a,b,c]) (.int 0)=some (.str [a]):=rfl
@[simp] theorem Qww {a b c:Nat}:gIx (.str [a,b,c]) (.int 1)=some (.str [b]):=rfl
@[simp] theorem Qwr {a b c:Nat}:gIx (.str [a,b,c]) (.int 2)=some (.str [c]):=rfl
@[simp] theorem QwB {a b c d:Nat}:gIx (.str [a,b,c,d]) (.int 0)=some (.str [a]):=rfl
@[simp] theorem Qv9 {a b c d:Nat}:gIx (.str [a,b,c,d]) (.int 1)=some (.str [b]):=rfl
@[simp] theorem Qwt {a b c d:Nat}:gIx (.str [a,b,c,d]) (.int 2)=some (.str [c]):=rfl
@[simp] theorem Qwx {a b c d:Nat}:gIx (.str [a,b,c,d]) (.int 3)=some (.str [d]):=rfl
@[simp] theorem Qwb {a b:D}:gIx (.tup [a,b]) (.int 0)=some a:=rfl
@[simp] theorem Qv4 {a b:D}:gIx (.tup [a,b]) (.int 1)=some b:=rfl
@[simp] theorem Qwn {a b c:D}:gIx (.tup [a,b,c]) (.int 0)=some a:=rfl
@[simp] theorem Qwj {a b c:D}:gIx (.tup [a,b,c]) (.int 1)=some b:=rfl
@[simp] theorem Qwv {a b c:D}:gIx (.tup [a,b,c]) (.int 2)=some c:=rfl
theorem Qha (c:Nat) (O:Qaa):Qct [.str [c]] O = .ok (.bl (col c)) O:=by
 simp [Qct,Qf0,col]
theorem Qnj (c:Nat) (O:Qaa):Qd2 [.str [c]] O = .ok (.bl (decide (32≤c∧c≤125))) O:=by
 simp [Qd2,QhV]
 by_cases h:32≤c <;> simp [h]
theorem QjY {t:List Nat}{d:D}{i:Nat} (h:(QbZ 0 (Qa5 t))[i]? = some d):∃c,c∈t∧d = .tup [.int i,.str [c]]:=by
 rw [QfX] at h;unfold Qa5 at h;rw [zG] at h
 cases q:t[i]? with
 | none=>rw [q] at h; cases h
 | some c =>
  rw [q] at h;simp at h;exact ⟨c,zI q,h.symm⟩
theorem Qof (t:List Nat) (h:Okt t) (O:Qaa):QfP [.str t] O = .ok .non O:=by
 obtain ⟨ρ1,O1,e1,rfl,o1,o2,rfl⟩:=QfN (g:=Qgg 2 (Qbq (mgN 1) (Qbq (mgN 2) Qeo)))
  (b:=QaV (Qbz (Qb3 (QbJ (QaA Qd2 (Qac (Qab 2) Qae))) (Qb3 (QaD (Qaf gEq (Qab 2) (mC (.str [10])))) (QaD (Qaf gEq (Qab 2) (mC (.str [9]))))))) QjK QaO)
  (fun i ρ O'=>O'=O∧∃o1 o2,ρ = [some (.str t),o1,o2]) (QbZ 0 (Qa5 t)) 0 [some (.str t),none,none] O ⟨rfl,none,none,rfl⟩ (by
   rintro i d ρ O' hi ⟨rfl,o1,o2,rfl⟩;obtain ⟨c,hc,rfl⟩:=QjY hi;refine ⟨_,rfl,_,_,.inl ?_,rfl,some (.int i),some (.str [c]),rfl⟩
   have:=h.ok c hc
   have e:(Qb3 (QbJ (QaA Qd2 (Qac (Qab 2) Qae))) (Qb3 (QaD (Qaf gEq (Qab 2) (mC (.str [10])))) (QaD (Qaf gEq (Qab 2) (mC (.str [9])))))) [some (.str t),some (.int i),some (.str [c])] O' = .ok true O':=by
    simp [Qnj]
    omega
   show QaV (Qbz _) QjK QaO [some (.str t),some (.int i),some (.str [c])] O'=_;simp only [QeB,QgB,e,Qaq,QdL,Bool.not_true,Qfx]
   rfl)
 simp only [QfP,QhH,QkH,zd,zT,zk,zE,List.replicate,List.cons_append,zO,QcX,QeB,QgB,Qjg,Qnf,QbT,zx,Qaq,QeK,Qrd,QiM,Qsz,Qhd,Qim,QgN,Bool.not_true,QdL,Qfx,Bool.false_eq_true,if_false,QcJ,Qlm,Qsx,Qmm h.asc,QjB];show Qb4 (Qbh _ _ (QbZ 0 (Qa5 t)) [some (.str t),none,none] _)=_;rw [e1];rfl
def mkD:Option (List Nat×List Nat)→D
 | some (k,v)=>.tup [.str k,.str v]
 | none=>.non
theorem Qs7 (s:List Nat) (h0:1≤s.length) (h4:s.length≤4) (O:Qaa):Qdi [.str s] O = .ok (mkD (markB s)) O:=by
 match s,h0,h4 with
 | [a],_,_=>simp [Qdi,QdZ,markB,mkD]
 | [a,b],_,_ =>
  simp [Qdi,QdZ,markB]
  by_cases h1:a=91∧b=93
  ·simp [h1,mkD,QfC]
  ·by_cases h2:a=91∧b=91
   ·simp [h2,mkD,QaF]
   ·simp [h1,h2,mkD]
 | [a,b,c],_,_ =>
  simp [Qdi,QdZ,markB,Qha]
  by_cases h1:a=91
  ·by_cases h2:col b=true
   ·by_cases h3:c=93
    ·simp [h1,h2,h3,mkD,QhC]
    ·simp [h1,h2,h3,mkD]
   ·simp [h1,h2,mkD]
  ·simp [h1,mkD]
 | [a,b,c,d],_,_ =>
  simp [Qdi,QdZ,markB,Qha]
  by_cases h1:a=91
  ·by_cases h5:b=47
   ·by_cases h2:col c=true
    ·by_cases h3:d=93
     ·simp [h1,h2,h3,h5,mkD,Qd0]
     ·simp [h1,h2,h3,h5,mkD]
    ·simp [h1,h2,h5,mkD]
   ·simp [h1,h5,mkD]
  ·simp [h1,mkD]
theorem QtM (s:List Nat) (h0:1≤s.length) (h4:s.length≤4) (O:Qaa):Qbr [.str s] O = .ok (.bl (Qcd s)) O:=by
 match s,h0,h4 with
 | [a],_,_ =>
  simp [Qbr,QbR,Qcd]
  by_cases h1:a=91 <;> simp [h1]
 | [a,b],_,_ =>
  simp [Qbr,QbR,Qcd,Qha]
  by_cases h1:a=91
  ·by_cases h2:b=47 <;> simp [h1,h2]
  ·simp [h1]
 | [a,b,c],_,_ =>
  simp [Qbr,QbR,Qcd,Qha]
  by_cases h1:a=91
  ·by_cases h2:b=47 <;> simp [h1,h2]
  ·simp [h1]
 | [a,b,c,d],_,_ =>
  simp [Qbr,QbR,Qcd]
theorem Qtx (p:Int) (c:Nat) (O:Qaa):Qep [.int p,.str [c]] O = .ok (own p c) O:=by
 simp [Qep,Qg1,own,item]
 by_cases h1:c=10
 ·simp [h1,Qb8]
 ·by_cases h2:c=9
  ·simp [h1,h2,Qi9]
  ·simp [h1,h2,QaF]
theorem Qkn (p:Int):∀(l:List Nat) (k:Nat),(QbZ k (Qa5 l)).map (fun d=>match d with | .tup [.int i,.str [c]]=>own (p+i) c | _=>.non)=Qcw (p+k) l
 | [],k=>rfl
 | c::l,k=>by
  show own (p+(k:Int)) c::(QbZ (k+1) (Qa5 l)).map _=own (p+k) c::Qcw (p+k+1) l;rw [Qkn p l (k+1)];congr 2;omega
theorem Qls (p:Int) (l:List Nat) (ha:ascii l=true) (hl:l.length≤100000) (O:Qaa):QcY [.int p,.str l] O = .ok (.lst (Qcw p l)) O:=by
 have hl':(QbZ 0 (Qa5 l)).length≤1000000:=by rw [QfO]; unfold Qa5; rw [zB]; omega
 have ec:QcA (Qgg 2 (Qbq (mgN 0) (Qbq (mgN 1) Qeo))) QdU (QaA Qep (Qac (Qaf Qa0 (Qab 2) (Qab 0)) (Qac (Qab 1) Qae))) (QbZ 0 (Qa5 l)) [none,none,some (.int p)] O [] = .ok (Qcw p l) O:=by
  rw [QjZ (fun ρ=>∃a b,ρ = [a,b,some (.int p)]) (fun d=>match d with | .tup [.int i,.str [c]]=>own (p+i) c | _=>.non) _ _ _ _ ⟨none,none,rfl⟩ (by
   rintro d hd ρ ⟨a,b,rfl⟩;obtain ⟨i,hi⟩:=List.mem_iff_getElem?.mp hd;obtain ⟨c,hc,rfl⟩:=QjY hi;refine ⟨_,rfl,⟨_,_,rfl⟩,rfl,?_⟩
   simp [Qtx])]
  rw [Qkn p l 0];simp
 simp [QcY,Qf7,Qmm ha,hl',ec]
def RO (h:List Nat) (p:Int):Ob:=.ins "Reader" [("held",.str h),("place",.int p)]
theorem fh {O:Qaa}{n:Nat}{h:List Nat}{p:Int} (e:O[n]? = some (RO h p)):Qey ["Reader"] "held" (.ob n) O = .ok (.str h) O:=by
 unfold Qey; dsimp only; rw [e]; rfl
theorem fp {O:Qaa}{n:Nat}{h:List Nat}{p:Int} (e:O[n]? = some (RO h p)):Qey ["Reader"] "place" (.ob n) O = .ok (.int p) O:=by
 unfold Qey; dsimp only; rw [e]; rfl
theorem ph {O:Qaa}{n:Nat}{h h':List Nat}{p:Int}{ρ:Qai} (e:O[n]? = some (RO h p)):puF ["Reader"] "held" (.str h') ρ (.ok (.ob n) O) = .nx ρ (O.set n (RO h' p)):=by
 unfold puF; dsimp only; rw [e]; rfl
theorem pp {O:Qaa}{n:Nat}{h:List Nat}{p p':Int}{ρ:Qai} (e:O[n]? = some (RO h p)):puF ["Reader"] "place" (.int p') ρ (.ok (.ob n) O) = .nx ρ (O.set n (RO h p')):=by
 unfold puF; dsimp only; rw [e]; rfl
theorem gs {O:Qaa}{n:Nat}{x y:Ob} (e:O[n]? = some x):(O.set n y)[n]? = some y:=by
 obtain ⟨h,_⟩:=zh.mp e;simp [h]
theorem QiO {h:List Nat} (H:Qbb h):ascii h=true:=by
 cases H with
 | h0=>rfl
 | h1=>rfl
 | h2=>rfl
 | h3 x hx =>
  have:x∈[97,98,99,100,101,102,103,104,46]:=jg hx
  have q:∀c∈[97,98,99,100,101,102,103,104,46],c < 128:=by decide
  simp [ascii,q x this]
 | h4 x hx =>
  have:x∈[97,98,99,100,101,102,103,104,46]:=jg hx
  have q:∀c∈[97,98,99,100,101,102,103,104,46],c < 128:=by decide
  simp [ascii,q x this]
theorem Qqv {a:List Nat}{c:Nat} (h:ascii a=true) (hc:c < 128):ascii (a ++ [c])=true:=by
 unfold ascii at *;rw [List.all_append,h];simp [hc]
theorem Qs6 {O:Qaa}{n:Nat}{h:List Nat}{p:Int} (e:O[n]? = some (RO h p)) (H:Qbb h) (c:Nat) (hc:c < 128):Qbe [.ob n,.str [c]] O = .ok (.lst (tk h c (p - h.length)).1) (O.set n (RO (tk h c (p - h.length)).2 (p+1))):=by
 have hl:=H.len;have e1:(O.set n (RO h (p+1)))[n]? = some (RO h (p+1)):=gs e
 have z1:h.length+1≤1000000:=by omega
 have z2:h.length≤1000000:=by omega
 have s0:1≤(h ++ [c]).length:=by simp
 have s4:(h ++ [c]).length≤4:=by simp; omega
 have f1:=QtM (h ++ [c]) s0 s4;have f2:=Qs7 (h ++ [c]) s0 s4
 have f3:=fun O=>Qls (p - h.length) h (QiO H) (by omega) O
 have f4:=fun O=>Qls (p - h.length) (h ++ [c]) (Qqv (QiO H) hc) (by omega) O
 unfold tk;simp [Qbe,Qe0,fh e,fp e,pp e,z1,z2,f1]
 by_cases q1:Qcd (h ++ [c])=true
 ·simp [q1,ph e1]
 ·simp [q1,f2]
  cases q2:markB (h ++ [c]) with
  | some kv =>
   obtain ⟨k,v⟩:=kv;simp [mkD,ph e1,item]
  | none =>
   simp [mkD]
   by_cases q3:c=91
   ·subst q3;simp [fh e1,f3,ph e1]
   ·simp [q3,ph e1,f4]
theorem QiE:∀(l:List Nat) (p:Int),(Qcw p l).length=l.length
 | [],_=>rfl
 | c::l,p=>by show (Qcw (p+1) l).length+1=l.length+1; rw [QiE l]
theorem Qoi {h:List Nat} (H:Qbb h) (c:Nat) (p:Int):(tk h c p).1.length≤4:=by
 have:=H.len
 unfold tk
 split
 ·simp
 ·split
  ·simp
  ·split <;> simp [QiE] <;> omega
theorem Qln:∀(t:List Nat) {h:List Nat} (_:Qbb h) (p:Int),(QbM h p t).1.length≤4 * t.length
 | [],h,H,p=>by simp [QbM]
 | c::t,h,H,p=>by
  have a:=Qoi H c (p - h.length);have b:=Qln t (QgP H c (p - h.length) []).1 (p+1);simp only [QbM,zw,zk];omega
theorem QoO {O:Qaa}{n:Nat}{x y:Ob}:(O.set n x).set n y=O.set n y:=by simp
theorem Qkm {n:Nat}{t0:List Nat}:∀(t:List Nat) (h:List Nat) (_:Qbb h) (p:Int) (acc:List D) (O:Qaa) (o3:Option D),O[n]? = some (RO h p)→(∀c∈t,c < 128)→acc.length+4 * t.length≤1000000 →
  ∃o3',Qbh (mgN 3) (Qfe 2 (Qbi "Reader" "take" Qbe (Qab 0) (Qac (Qab 3) Qae))) (Qa5 t) [some (.ob n),some (.str t0),some (.lst acc),o3] O = .nx [some (.ob n),some (.str t0),some (.lst (acc++(QbM h p t).1)),o3'] (O.set n (RO (QbM h p t).2 (p+t.length)))
 | [],h,H,p,acc,O,o3,e,_,_=>by
  refine ⟨o3,?_⟩;obtain ⟨hn,e'⟩:=zh.mp e;show Fl.nx _ O=_;simp only [QbM,zR,zE]
  have:O.set n (RO h p)=O:=by rw [←e']; exact List.set_getElem_self _
  simp [this]
 | c::t,h,H,p,acc,O,o3,e,hc,hl=>by
  have et:=Qs6 e H c (hc c zu)
  have hm:meF "Reader" "take" Qbe (Qac (Qab 3) Qae [some (.ob n),some (.str t0),some (.lst acc),some (.str [c])]) (.ob n) O=Qbe [.ob n,.str [c]] O:=by
   unfold meF;dsimp only;rw [e];rfl
  have tl:=Qoi H c (p - h.length);simp only [zk] at hl;obtain ⟨o3',q⟩:=Qkm t (tk h c (p - h.length)).2 (QgP H c (p - h.length) []).1 (p+1) (acc++(tk h c (p - h.length)).1) (O.set n (RO (tk h c (p - h.length)).2 (p+1))) (some (.str [c])) (gs e) (fun d hd=>hc d (zm _ hd)) (by rw [zw]; omega);refine ⟨o3',?_⟩
  have eb:(Qfe 2 (Qbi "Reader" "take" Qbe (Qab 0) (Qac (Qab 3) Qae))) [some (.ob n),some (.str t0),some (.lst acc),some (.str [c])] O = .nx [some (.ob n),some (.str t0),some (.lst (acc++(tk h c (p - h.length)).1)),some (.str [c])] (O.set n (RO (tk h c (p - h.length)).2 (p+1))):=by
   rw [QrS,Qeg,QbT];show exF 2 (meF "Reader" "take" Qbe _ (.ob n) O) _=_;rw [hm,et,QrZ (ds:=acc) rfl (by omega)];rfl
  show Qbh _ _ (D.str [c]::Qa5 t) _ O=_;unfold Qbh;rw [mg_n];dsimp only
  show (match (Qfe 2 (Qbi "Reader" "take" Qbe (Qab 0) (Qac (Qab 3) Qae))) [some (.ob n),some (.str t0),some (.lst acc),some (.str [c])] O with
   | .nx ρ' O'=>Qbh _ _ (Qa5 t) ρ' O' | .ct ρ' O'=>Qbh _ _ (Qa5 t) ρ' O' | .bk ρ' O'=>Fl.nx ρ' O' | r=>r)=_
  rw [eb];dsimp only;rw [q,QoO];simp only [QbM,zS,zk];congr 3
  push_cast
  omega
theorem Qsn {O:Qaa}{n:Nat}{h:List Nat}{p:Int} (e:O[n]? = some (RO h p)) (H:Qbb h) (t:List Nat) (ht:Okt t):QdN [.ob n,.str t] O = .ok (.lst (QbM h p t).1) (O.set n (RO (QbM h p t).2 (p+t.length))):=by
 have hl:=ht.len;obtain ⟨o3,q⟩:=Qkm (t0:=t) t h H p [] O none e ht.lt (by simp; omega);have q':Qbh (mgN 3) (Qfe 2 (Qbi "Reader" "take" Qbe (Qab 0) (Qac (Qab 3) Qae))) (Qa5 t) [some (.ob n),some (.str t),some (.lst []),none] O=_:=q;simp only [QdN,QeW,QkH,zd,zT,zk,zE,List.replicate,List.cons_append,zO,QcX,Qjr,QgG,QbU,QbN,QbT,zx,zH,Qaq,Qof t ht,QiL,QcJ,Qd6,Qh9,Nat.zero_le,if_true,Qdo,zY,zZ,Qlm,Qjj,Qop ht.asc,Qg4,QjB,q',QcV,Qck,QdV]
theorem QoU {O:Qaa}{n:Nat}{h:List Nat}{p:Int} (e:O[n]? = some (RO h p)) (H:Qbb h):Qda [.ob n] O = .ok (.lst (Qcw (p - h.length) h)) (O.set n (RO [] p)):=by
 have hl:=H.len
 have z2:h.length≤1000000:=by omega
 have f3:=fun O=>Qls (p - h.length) h (QiO H) (by omega) O
 simp [Qda,Qec,fh e,fp e,z2,f3,ph e]
theorem QrW (O:Qaa):Qb6 [.ob O.length] (O ++ [.ins "Reader" []]) = .ok .non (O ++ [RO [] 0]):=by
 have a:(O ++ [Ob.ins "Reader" []])[O.length]? = some (.ins "Reader" []):=by simp
 have s1:∀ρ,puF ["Reader"] "held" (.str []) ρ (.ok (.ob O.length) (O ++ [.ins "Reader" []])) = .nx ρ (O ++ [.ins "Reader" [("held",.str [])]]):=fun ρ=>by
  unfold puF;dsimp only;rw [a];dsimp only;rw [if_pos (by decide)];simp [putD]
 have b:(O ++ [Ob.ins "Reader" [("held",.str [])]])[O.length]? = some (.ins "Reader" [("held",.str [])]):=by simp
 have s2:∀ρ,puF ["Reader"] "place" (.int 0) ρ (.ok (.ob O.length) (O ++ [.ins "Reader" [("held",.str [])]])) = .nx ρ (O ++ [RO [] 0]):=fun ρ=>by
  unfold puF;dsimp only;rw [b];dsimp only;rw [if_pos (by constructor <;> decide)]
  have:putD "place" (.int 0) [("held",.str [])] = [(("held":Str),D.str []),("place",.int 0)]:=by rfl
  rw [this];simp [RO]
 simp [Qb6,QdH,s1,s2]
theorem Quc (ρ:Qai) (O:Qaa):Qfn "Reader" Qb6 Qae ρ O = .ok (.ob O.length) (O ++ [RO [] 0]):=by
 simp [QrW]
theorem QlQ (O:Qaa):(O ++ [RO [] 0])[O.length]? = some (RO [] 0):=by simp
theorem Qn3 {cf:List D→Qaa→Res D}{m:Str}{ma:Qaa→Res (List D)}{n:Nat}{O:Qaa}{h:List Nat}{p:Int} (hm:m≠"held") (hm':m≠"place") (e:O[n]? = some (RO h p)):meF "Reader" m cf ma (.ob n) O=(ma O).bind fun ds O2=>cf (.ob n::ds) O2:=by
 unfold meF;dsimp only;rw [e];dsimp only [RO];rw [if_pos];refine ⟨rfl,?_⟩
 have a:(m == ("held":Str))=false:=by simpa using hm
 have b:(m == ("place":Str))=false:=by simpa using hm'
 simp [List.lookup,a,b]
theorem Qti {α:Type} (l:List α) (b:Nat):Qb7 l none (some (b:Int))=l.take b:=by
 unfold Qb7;rw [HT.sIx_nat,HT.sIx_none,List.drop_zero,Nat.sub_zero]
 by_cases hb:b≤l.length
 ·rw [Nat.min_eq_left hb]
 ·rw [Nat.min_eq_right (by omega),List.take_of_length_le (by omega),List.take_of_length_le (by omega)]
@[simp] theorem QwR {a:Nat}:Qb7 [a] none (some 2) = [a]:=rfl
@[simp] theorem QwO {a b:Nat}:Qb7 [a,b] none (some 2) = [a,b]:=rfl
@[simp] theorem QwI {a b c:Nat}:Qb7 [a,b,c] none (some 2) = [a,b]:=rfl
@[simp] theorem QwK {a b c d:Nat}:Qb7 [a,b,c,d] none (some 2) = [a,b]:=rfl
abbrev LT:=Nat×Nat×Nat×Int
def dL (x:LT):D:=.tup [.str [x.1],.str [x.2.1],.str [x.2.2.1],.int x.2.2.2]
def OkL (x:LT):Prop:=x.1≤125∧x.2.1≤125∧x.2.2.1≤125
theorem Qoy {x:LT} (h:OkL x):QbD (dL x)=true∧(toP (dL x)).canLay0=true∧(toP (dL x)).depth≤5:=by
 obtain ⟨h1,h2,h3⟩:=h;refine ⟨rfl,?_,?_⟩
 ·have a:=QjD (l:=[x.1]) (by simp; omega);have b:=QjD (l:=[x.2.1]) (by simp; omega);have c:=QjD (l:=[x.2.2.1]) (by simp; omega);show PyData.canLay0 (.tuple [.str (S [x.1]),.str (S [x.2.1]),.str (S [x.2.2.1]),.int x.2.2.2])=true;simp [PyData.canLay0,PyData.canLayAll0] at *
  try exact ⟨a,b,c⟩
 ·show PyData.depth (.tuple [.str (S [x.1]),.str (S [x.2.1]),.str (S [x.2.2.1]),.int x.2.2.2])≤5;simp [PyData.depth,PyData.depthAll]
theorem QlZ (l:List LT) (h:∀x∈l,OkL x):okE (.lst (l.map dL))=true:=Qq7 (n:=5) (by decide) fun d hd=>by
 obtain ⟨x,hx,rfl⟩:=zU.mp hd;exact Qoy (h x hx)
def Qav:List Nat:=[119,104,111,108,101]
def Qd7:List Nat:=[109,111,114,101]
def mkO (M:Int) (lw:List Nat) (n:Nat) (i g:Nat) (st:Bool):Ob:=.ins "Maker" [("most",.int M),("last_word",.str lw),("letters",.ob n),("pair",.tup [.str [i],.str [g]]),("stale",.bl st)]
section
variable {O:Qaa}{o n i g:Nat}{M:Int}{lw:List Nat}{st:Bool}
theorem fM (e:O[o]? = some (mkO M lw n i g st)):Qey ["Maker"] "most" (.ob o) O = .ok (.int M) O:=by
 unfold Qey; dsimp only; rw [e]; rfl
theorem fL (e:O[o]? = some (mkO M lw n i g st)):Qey ["Maker"] "letters" (.ob o) O = .ok (.ob n) O:=by
 unfold Qey; dsimp only; rw [e]; rfl
theorem fP (e:O[o]? = some (mkO M lw n i g st)):Qey ["Maker"] "pair" (.ob o) O = .ok (.tup [.str [i],.str [g]]) O:=by
 unfold Qey; dsimp only; rw [e]; rfl
theorem fS (e:O[o]? = some (mkO M lw n i g st)):Qey ["Maker"] "stale" (.ob o) O = .ok (.bl st) O:=by
 unfold Qey; dsimp only; rw [e]; rfl
theorem pW {ρ:Qai}{w:List Nat} (e:O[o]? = some (mkO M lw n i g st)):puF ["Maker"] "last_word" (.str w) ρ (.ok (.ob o) O) = .nx ρ (O.set o (mkO M w n i g st)):=by
 unfold puF; dsimp only; rw [e]; rfl
theorem pL {ρ:Qai}{m:Nat} (e:O[o]? = some (mkO M lw n i g st)):puF ["Maker"] "letters" (.ob m) ρ (.ok (.ob o) O) = .nx ρ (O.set o (mkO M lw m i g st)):=by
 unfold puF; dsimp only; rw [e]; rfl
theorem pP {ρ:Qai}{i' g':Nat} (e:O[o]? = some (mkO M lw n i g st)):puF ["Maker"] "pair" (.tup [.str [i'],.str [g']]) ρ (.ok (.ob o) O) = .nx ρ (O.set o (mkO M lw n i' g' st)):=by
 unfold puF; dsimp only; rw [e]; rfl
theorem pS {ρ:Qai}{b:Bool} (e:O[o]? = some (mkO M lw n i g st)):puF ["Maker"] "stale" (.bl b) ρ (.ok (.ob o) O) = .nx ρ (O.set o (mkO M lw n i g b)):=by
 unfold puF; dsimp only; rw [e]; rfl
theorem gs' {x y:Ob} (e:O[o]? = some x):(O.set o y)[o]? = some y:=by
 obtain ⟨h,_⟩:=zh.mp e;simp [h]
theorem ap1 {x y:Ob} (e:O[o]? = some x):(O ++ [y])[o]? = some x:=by
 rw [zr (zh.mp e).1]; exact e
theorem apN {y:Ob}:(O ++ [y])[O.length]? = some y:=by simp
@[simp] theorem Qr0 {m:L2.M D}{ρ:Qai}:mMl m ρ O=(m ρ O).bind fun d O1=>match d with
 | .lst ds=>.ok (.ob O1.length) (O1 ++ [.ml ds])
 | d=>.ok d O1:=rfl
theorem Qig {cf:List D→Qaa→Res D}{m:Str}{ma:Qaa→Res (List D)} (h1:m≠"most") (h2:m≠"last_word") (h3:m≠"letters") (h4:m≠"pair") (h5:m≠"stale") (e:O[o]? = some (mkO M lw n i g st)):meF "Maker" m cf ma (.ob o) O=(ma O).bind fun ds O2=>cf (.ob o::ds) O2:=by
 unfold meF;dsimp only;rw [e];dsimp only [mkO];rw [if_pos];refine ⟨rfl,?_⟩
 have a1:(m == ("most":Str))=false:=by simpa using h1
 have a2:(m == ("last_word":Str))=false:=by simpa using h2
 have a3:(m == ("letters":Str))=false:=by simpa using h3
 have a4:(m == ("pair":Str))=false:=by simpa using h4
 have a5:(m == ("stale":Str))=false:=by simpa using h5
 simp [List.lookup,a1,a2,a3,a4,a5]
theorem QnN {w:List Nat} (e:O[o]? = some (mkO M lw n i g st)):Qch [.ob o,.str w] O = .ok (.lst [.tup [.ob n,.str w]]) ((O ++ [Ob.ml []]).set o (mkO M w O.length i g st)):=by
 have e1:(O ++ [Ob.ml []])[o]? = some (mkO M lw n i g st):=ap1 e;have e2:((O ++ [Ob.ml []]).set o (mkO M lw O.length i g st))[o]? = some (mkO M lw O.length i g st):=gs' e1;simp [Qch,Qft,fL e,pL e1,pW e2]
theorem QqO (e:O[o]? = some (mkO M lw n i g st)):Qbu [.ob o] O = .ok .non (if st=true then (O ++ [Ob.ml []]).set o (mkO M lw O.length i g false) else O):=by
 have e1:(O ++ [Ob.ml []])[o]? = some (mkO M lw n i g st):=ap1 e;have e2:((O ++ [Ob.ml []]).set o (mkO M lw O.length i g st))[o]? = some (mkO M lw O.length i g st):=gs' e1
 cases st with
 | true=>simp [Qbu,Qci,fS e,pL e1,pS e2]
 | false=>simp [Qbu,Qci,fS e]
theorem Qia {mo m:L2.M D}{ρ:Qai}{ds:List D}{d:D} (h1:mo ρ O = .ok (.ob n) O) (h2:O[n]? = some (.ml ds)) (h3:m ρ O = .ok d O) (h4:ds.length < 1000000):QdJ mo m ρ O = .nx ρ (O.set n (.ml (ds ++ [d]))):=by
 unfold QdJ;rw [h1];dsimp only;rw [h2];dsimp only;rw [h3];dsimp only;rw [h2];dsimp only;rw [if_pos h4]
theorem QgV {ds:List D} (h:O[n]? = some (.ml ds)):QaK O (.ob n) = .lst ds:=by
 unfold QaK;dsimp only;rw [h]
end
structure Sta where
 row:List LT
 st:Bool
 i:Nat
 g:Nat
structure OkS (M:Int) (s:Sta):Prop where
 len:(s.row.length:Int)≤M
 ok:∀x∈s.row,OkL x
 i:s.i≤125
 g:s.g≤125
def Mk (O:Qaa) (o:Nat) (M:Int) (lw:List Nat) (s:Sta):Prop:=∃n,O[o]? = some (mkO M lw n s.i s.g s.st)∧O[n]? = some (.ml (s.row.map dL))
def Prt (O:Qaa) (told:List D) (due:List (List LT×List Nat)):Prop:=(told = []∧due = [])∨∃n r w,told = [.tup [.ob n,.str w]]∧due = [(r,w)]∧O[n]? = some (.ml (r.map dL))∧(w=Qav∨w=Qd7)∧(∀x∈r,OkL x)∧r.length≤1000
inductive Itm:List Nat→List Nat→Prop where
 | anew:Itm Qi9 []
 | end_:Itm Qb8 []
 | plain:Itm QfC []
 | ink (c:Nat) (h:c≤125):Itm QhC [c]
 | ground (c:Nat) (h:c≤125):Itm Qd0 [c]
 | sign (c:Nat) (h:c≤125):Itm QaF [c]
def bare (s:Sta):List LT:=if s.st=true then [] else s.row
def Qvb (M:Int) (s:Sta):List (List LT×List Nat):=if ((bare s).length:Int)=M then [(bare s,Qd7)] else []
def due (M:Int) (s:Sta) (k:List Nat):List (List LT×List Nat):=if k=Qb8 then [(s.row,Qav)] else if k=QaF then Qvb M s else []
def QuL (x:List LT×List Nat):D:=.tup [.lst (x.1.map dL),.str x.2]
@[simp] theorem QwH {i j k:Nat}{a b c:D}{ρ:Qai}:Qgg 3 (Qbq (mgN i) (Qbq (mgN j) (Qbq (mgN k) Qeo))) (.tup [a,b,c]) ρ=some (((ρ.set i (some a)).set j (some b)).set k (some c)):=rfl
section
variable {O:Qaa}{o n i g:Nat}{M:Int}{lw:List Nat}{st:Bool}
theorem QhI {x:Ob} (e:O[o]? = some x):o < O.length:=(zh.mp e).1
theorem Qt6 {ds:List D}{p:Int}{c:Nat} (e:O[o]? = some (mkO M lw n i g st)) (el:O[n]? = some (.ml ds)) (hl:ds.length < 1000000) :
  Qco [.ob o,item p QaF [c]] O=if (ds.length:Int)=M then .ok (.lst [.tup [.ob n,.str Qd7]]) (((O ++ [Ob.ml []]).set o (mkO M Qd7 O.length i g st)).set O.length (.ml [dL (c,i,g,p)])) else .ok (.lst []) (O.set n (.ml (ds ++ [dL (c,i,g,p)]))):=by
 have ed:=QgV el
 have pre:∀(ρ:Qai) (O':Qaa) (n':Nat) (lw':List Nat),O'[o]? = some (mkO M lw' n' i g st)→∀a2,(Qbj (Qac (Qaf gIx (Qab 1) (mC (.int 2))) (Qac (Qaf gIx (QbA ["Maker"] "pair" (Qab 0)) (mC (.int 0))) (Qac (Qaf gIx (QbA ["Maker"] "pair" (Qab 0)) (mC (.int 1))) (Qac (Qaf gIx (Qab 1) (mC (.int 0))) Qae))))) [some (.ob o),some (item p QaF [c]),a2] O' = .ok (dL (c,i,g,p)) O':=fun ρ O' n' lw' h a2=>by
  have i0:gIx (.tup [.int p,.str QaF,.str [c]]) (.int 2)=some (.str [c]):=rfl;have i1:gIx (.tup [.int p,.str QaF,.str [c]]) (.int 0)=some (.int p):=rfl;have i2:gIx (.tup [.str [i],.str [g]]) (.int 0)=some (.str [i]):=rfl;have i3:gIx (.tup [.str [i],.str [g]]) (.int 1)=some (.str [g]):=rfl;simp [item,fP h,i0,i1,i2,i3,dL]
 by_cases hm:(ds.length:Int)=M
 ·rw [if_pos hm];have et:=QnN (w:=Qd7) e;have e1:((O ++ [Ob.ml []]).set o (mkO M Qd7 O.length i g st))[o]? = some (mkO M Qd7 O.length i g st):=gs' (ap1 e)
  have e2:((O ++ [Ob.ml []]).set o (mkO M Qd7 O.length i g st))[O.length]? = some (.ml []):=by
   rw [ze (zp (QhI e))]; exact apN
  have ea:=Qia (mo:=QbA ["Maker"] "letters" (Qab 0)) (m:=Qbj (Qac (Qaf gIx (Qab 1) (mC (.int 2))) (Qac (Qaf gIx (QbA ["Maker"] "pair" (Qab 0)) (mC (.int 0))) (Qac (Qaf gIx (QbA ["Maker"] "pair" (Qab 0)) (mC (.int 1))) (Qac (Qaf gIx (Qab 1) (mC (.int 0))) Qae))))) (ρ:=[some (.ob o),some (item p QaF [c]),some (.lst [.tup [.ob n,.str Qd7]])]) (by simp [fL e1]) e2 (pre [] _ _ _ e1 _) (by simp)
  have c1:(QaD (Qaf gEq (QaB QaY (Qac (QbA ["Maker"] "letters" (Qab 0)) Qae)) (QbA ["Maker"] "most" (Qab 0)))) [some (.ob o),some (item p QaF [c]),some (.lst [])] O = .ok true O:=by
   simp [fL e,fM e,ed,hm]
  have c2:(Qbi "Maker" "tell" Qch (Qab 0) (Qac (mC (.str [109,111,114,101])) Qae)) [some (.ob o),some (item p QaF [c]),some (.lst [])] O = .ok (.lst [.tup [.ob n,.str Qd7]]) ((O ++ [Ob.ml []]).set o (mkO M Qd7 O.length i g st)):=by
   rw [Qeg];simp only [QbT,zx,Qaq,Qig (m:="tell") (by decide) (by decide) (by decide) (by decide) (by decide) e,QbU,QbN,m_c];exact et
  show Qb4 (QbF [some (.ob o),some (item p QaF [c]),none] O)=_;unfold QbF;simp only [QcX,Qd6,Qh9,QbN,Qaq,zE,Nat.zero_le,if_true,Qdo,QcJ,zY,zZ,QeB,c1,QdL,c2,ea,QcV,QbT,zH,zx,Qck,QdV,zO]
 ·rw [if_neg hm];have ea:=Qia (mo:=QbA ["Maker"] "letters" (Qab 0)) (m:=Qbj (Qac (Qaf gIx (Qab 1) (mC (.int 2))) (Qac (Qaf gIx (QbA ["Maker"] "pair" (Qab 0)) (mC (.int 0))) (Qac (Qaf gIx (QbA ["Maker"] "pair" (Qab 0)) (mC (.int 1))) (Qac (Qaf gIx (Qab 1) (mC (.int 0))) Qae))))) (ρ:=[some (.ob o),some (item p QaF [c]),some (.lst [])]) (by simp [fL e]) el (pre [] _ _ _ e _) hl
  have c1:(QaD (Qaf gEq (QaB QaY (Qac (QbA ["Maker"] "letters" (Qab 0)) Qae)) (QbA ["Maker"] "most" (Qab 0)))) [some (.ob o),some (item p QaF [c]),some (.lst [])] O = .ok false O:=by
   simp [fL e,fM e,ed,hm]
  show Qb4 (QbF [some (.ob o),some (item p QaF [c]),none] O)=_;unfold QbF;simp only [QcX,Qd6,Qh9,QbN,Qaq,zE,Nat.zero_le,if_true,Qdo,QcJ,zY,zZ,QeB,c1,QdL,Bool.false_eq_true,if_false,Qfx,ea,QcV,QbT,zH,zx,Qck,QdV]
theorem Qoh {i g:Nat}{k v:List Nat} (h:Itm k v) (O:Qaa):Qcl [.tup [.str [i],.str [g]],.str k,.str v] O = .ok (if k=QhC then .tup [.str [v.headD 0],.str [g]] else if k=Qd0 then .tup [.str [i],.str [v.headD 0]] else if k=QaF then .tup [.str [i],.str [g]] else .tup [.str [46],.str [46]]) O:=by
 have i2:gIx (.tup [.str [i],.str [g]]) (.int 0)=some (.str [i]):=rfl;have i3:gIx (.tup [.str [i],.str [g]]) (.int 1)=some (.str [g]):=rfl
 cases h <;> simp [Qcl,Qe3,Qi9,Qb8,QaF,QhC,Qd0,QfC,i2,i3]
theorem QrE {ds:List D} (e:O[o]? = some (mkO M lw n i g st)) (el:O[n]? = some (.ml ds)):QbP [.ob o] O = .ok (.lst ds) O:=by
 simp [QbP,QcP,fL e,QgV el]
end
theorem Qi3 {O:Qaa}{o n:Nat}{M:Int}{lw:List Nat}{m i g:Nat}{st:Bool}{ds:List D} (e:O[o]? = some (mkO M lw m i g st)) (el:O[n]? = some (.ml ds)):o≠n:=fun z=>by
 rw [z,el] at e;cases e
theorem Prt.set {O:Qaa}{o:Nat}{M:Int}{lw:List Nat}{m i g:Nat}{st:Bool}{told:List D}{du:List (List LT×List Nat)}{x:Ob} (h:Prt O told du) (e:O[o]? = some (mkO M lw m i g st)):Prt (O.set o x) told du:=by
 rcases h with h | ⟨n,r,w,h1,h2,h3,h4⟩
 ·exact .inl h
 ·exact .inr ⟨n,r,w,h1,h2,by rw [ze (Qi3 e h3)]; exact h3,h4⟩
def Sep (O:Qaa) (o:Nat) (told:List D):Prop:=∀n w,told = [.tup [.ob n,.str w]]→∀(M:Int) (lw:List Nat) (m i g:Nat) (st:Bool),O[o]? = some (mkO M lw m i g st)→m≠n
theorem Qqo {M M':Int}{lw lw':List Nat}{n m i i' g g':Nat}{st st':Bool} (h:mkO M lw n i g st=mkO M' lw' m i' g' st'):n=m:=by
 unfold mkO at h;cases h;rfl
theorem Sep.nil {O:Qaa}{o:Nat}:Sep O o []:=fun n w h=>nomatch h
theorem Sep.one {O:Qaa}{o n:Nat}{w:List Nat}{M:Int}{lw:List Nat}{m i g:Nat}{st:Bool} (e:O[o]? = some (mkO M lw m i g st)) (h:m≠n):Sep O o [.tup [.ob n,.str w]]:=fun n' w' hz M' lw' m' i' g' st' e'=>by
 rw [e] at e'
 have:=Qqo (zM e')
 cases hz;rw [←this];exact h
def Old (O:Qaa) (o n:Nat) (ds:List D):Prop:=O[n]? = some (.ml ds)∧∀(M:Int) (lw:List Nat) (m i g:Nat) (st:Bool),O[o]? = some (mkO M lw m i g st)→m≠n
def Keeps (O O':Qaa) (o:Nat):Prop:=∀n ds,Old O o n ds→Old O' o n ds
theorem Keeps.refl {O:Qaa}{o:Nat}:Keeps O O o:=fun _ _ h=>h
theorem Keeps.trans {O O1 O2:Qaa}{o:Nat} (a:Keeps O O1 o) (b:Keeps O1 O2 o):Keeps O O2 o:=fun n ds h=>b n ds (a n ds h)
theorem Qjf {n:Nat}{all:List D}{g:MG}{b:MS}{O:Qaa} (Pv:Qai→Prop) (h:O[n]? = some (.ml all)) (hs:∀d∈all,∀ρ,Pv ρ→∃ρ1,g d ρ=some ρ1∧∃ρ2,b ρ1 O = .nx ρ2 O∧Pv ρ2) :
  ∀(m i:Nat) (ρ:Qai),i+m=all.length→Pv ρ→∃ρ',QcB n all g b (all.drop i) ρ O = .nx ρ' O∧Pv ρ'
 | 0,i,ρ,hi,hp=>by
  refine ⟨ρ,?_,hp⟩;rw [List.drop_eq_nil_of_le (by omega)];unfold QcB;rw [h];dsimp only;rw [if_pos rfl]
 | m+1,i,ρ,hi,hp=>by
  have hlt:i < all.length:=by omega
  have ed:=zD hlt;obtain ⟨ρ1,e1,ρ2,e2,hp2⟩:=hs all[i] (ji hlt) ρ hp;obtain ⟨ρ',e3,h3⟩:=Qjf Pv h hs m (i+1) ρ2 (by omega) hp2;refine ⟨ρ',?_,h3⟩;rw [List.drop_eq_getElem_cons hlt];unfold QcB;rw [h];dsimp only;rw [show all.length - ((all.drop (i+1)).length+1)=i by rw [List.length_drop]; omega,ed];dsimp only;rw [e1];dsimp only;rw [e2];exact e3
def QlT:MS:=(Qan (QaV (Qb3 (Qbz (QbJ (QcH "tuple" (Qab 2)))) (Qb3 (QaD (Qaf gNe (QaB QaY (Qac (Qab 2) Qae)) (mC (.int 4)))) (Qbz (QbJ (QaA QdI (Qac (Qaf gIx (Qab 2) (mC (.int 3))) Qae)))))) (Qaw (mC (.bl false))) QaO)
  (QaV (QaD (Qaf gNe (Qdp (Qc9 (mSl (Qab 2) moN (moS (mC (.int 3))))) 1 [] (mgN 0) QdU (QcH "str" (Qab 0))) (Qb2 (Qac (mC (.bl true)) (Qac (mC (.bl true)) (Qac (mC (.bl true)) Qae)))))) (Qaw (mC (.bl false))) QaO))
theorem QqM (p:Int) (O:Qaa):QdI [.int p] O = .ok (.bl true) O:=by
 simp [QdI,Qgj]
theorem QtF (x:LT) (a0 a1:Option D) (O:Qaa):QlT [a0,a1,some (dL x)] O = .nx [a0,a1,some (dL x)] O:=by
 have i3:gIx (.tup [.str [x.1],.str [x.2.1],.str [x.2.2.1],.int x.2.2.2]) (.int 3)=some (.int x.2.2.2):=rfl;have c3:Qb7 [D.str [x.1],D.str [x.2.1],D.str [x.2.2.1],D.int x.2.2.2] none (some 3) = [.str [x.1],.str [x.2.1],.str [x.2.2.1]]:=rfl;have ok:okE (.lst [.bl true,.bl true,.bl true])=true:=rfl;have q:=QhS ok;unfold QlT;simp [dL,i3,QqM,c3,QcA,QdU,ok,q]
theorem QpM {O:Qaa}{n:Nat} (l:List LT) (hok:∀x∈l,OkL x) (h:O[n]? = some (.ml (l.map dL))):Qbg [.ob n,.lst (l.map dL)] O = .ok (.bl true) O:=by
 have ok:=QlZ l hok;have q:=QhS ok;have dr:=QgV h
 obtain ⟨ρ',e,o2,rfl⟩:=Qjf (g:=mgN 2) (b:=QlT) (fun ρ=>∃o2,ρ = [some (.ob n),some (.lst (l.map dL)),o2]) h (by
  rintro d hd ρ ⟨o2,rfl⟩;obtain ⟨x,_,rfl⟩:=zU.mp hd
  exact ⟨_,rfl,_,QtF x _ _ O,_,rfl⟩) (l.map dL).length 0 [some (.ob n),some (.lst (l.map dL)),none] (by omega) ⟨none,rfl⟩
 rw [List.drop_zero] at e
 have ef:Qej (Qab 0) (mgN 2) QlT [some (.ob n),some (.lst (l.map dL)),none] O = .nx [some (.ob n),some (.lst (l.map dL)),o2] O:=by
  unfold Qej;simp only [QbT,zx];rw [h];exact e
 unfold QlT at ef;simp only [Qbg,Qc2,QkH,zd,zT,zk,zE,List.replicate,List.cons_append,zO,QcX,QeB,QpL,QgB,Qjg,Qnf,QbT,zx,zH,Qaq,dr,QeS,Qme,QiM,Qmo,Qhd,Qim,QgN,Bool.not_true,Bool.false_eq_true,if_false,Qi4,Qi6,Qmv,QbU,QbN,QoH,QdR,Qdj,Qqc,decide_true,Qjk,QdL,Qfx,QcJ,ef,QcV,QtO,ok,q,Bool.and_self,if_true,Qck,QdV]
def Qlw:MS:=(Qan (QaV (Qb3 (Qbz (QbJ (QcH "tuple" (Qab 2)))) (Qb3 (QaD (Qaf gNe (QaB QaY (Qac (Qab 2) Qae)) (mC (.int 2)))) (QaD (Qaf gNe (Qaf gIx (Qab 2) (mC (.int 1))) (Qaf gIx (Qab 3) (mC (.int 1))))))) (Qaw (mC (.bl false))) QaO)
  (QaV (Qbz (QbJ (QaA Qbg (Qac (Qaf gIx (Qab 2) (mC (.int 0))) (Qac (Qaf gIx (Qab 3) (mC (.int 0))) Qae))))) (Qaw (mC (.bl false))) QaO))
def sgl:List Nat:=[32,33,34,35,36,38,39,40,41,42,43,44,45,46,47,48,49,50,51,52,53,54,55,56,57,58,59,60,61,62,63,64,65,66,67,68,69,70,71,72,73,74,75,76,77,78,79,80,81,82,83,84,85,86,87,88,89,90,91,92,93,94,95,96,97,98,99,100,101,102,103,104,105,106,107,108,109,110,111,112,113,114,115,116,117,118,119,120,121,122,123,124,125]
theorem QqR (O:Qaa):QeH [] O = .ok (.str sgl) O:=rfl
theorem ixS {l:List Nat}{v n:Int} (hl:l.length≤1000000) (h:(l.length:Int)=n) (hn:0 < n):∃c,c∈l∧gIx (.str l) (.int (v % n))=some (.str [c]):=by
 obtain ⟨c,h1,h2⟩:=QrI (xs:=l) (i:=v % n) (Int.emod_nonneg _ (by omega)) (by rw [h]; exact Int.emod_lt_of_pos _ hn);exact ⟨c,h2,by rw [QpO,if_pos hl,h1]; rfl⟩
theorem Qkx (n k:Int) (h0:0≤k) (h1:k≤1000000) (O:Qaa):QbS [.int n,.int k] O = .ok (.int (mix n k)) O:=Qtm n k h0 h1 O
theorem pG {O:Qaa}{o:Nat}{fs:List (Str×D)}{f:Str}{d:D}{ρ:Qai} (e:O[o]? = some (.ins "Maker" fs)) (h:fs.length < 900):puF ["Maker"] f d ρ (.ok (.ob o) O) = .nx ρ (O.set o (.ins "Maker" (putD f d fs))):=by
 unfold puF;dsimp only;rw [e];dsimp only;rw [if_pos ⟨by simp,h⟩]
theorem Qpb {O:Qaa}{o:Nat}{M:Int}{lw:List Nat} (e:O[o]? = some (.ins "Maker" [("most",.int M),("last_word",.str lw)])):Qb5 [.ob o] O = .ok .non ((O ++ [Ob.ml []]).set o (mkO M lw O.length 46 46 false)):=by
 have e1:(O ++ [Ob.ml []])[o]? = some (.ins "Maker" [("most",.int M),("last_word",.str lw)]):=ap1 e
 have p1:=fun ρ=>pG (f:="letters") (d:=.ob O.length) (ρ:=ρ) e1 (by simp)
 have e2:=gs' (y:=.ins "Maker" (putD "letters" (.ob O.length) [("most",.int M),("last_word",.str lw)])) e1
 have p2:=fun ρ=>pG (f:="pair") (d:=.tup [.str [46],.str [46]]) (ρ:=ρ) e2 (by show 3 < 900; decide)
 have e3:=gs' (y:=.ins "Maker" (putD "pair" (.tup [.str [46],.str [46]]) (putD "letters" (.ob O.length) [("most",.int M),("last_word",.str lw)]))) e1
 have p3:=fun ρ=>pG (f:="stale") (d:=.bl false) (ρ:=ρ) e3 (by show 4 < 900; decide)
 have fe:Ob.ins "Maker" (putD "stale" (.bl false) (putD "pair" (.tup [.str [46],.str [46]]) (putD "letters" (.ob O.length) [("most",.int M),("last_word",.str lw)])))=mkO M lw O.length 46 46 false:=rfl;rw [fe] at p3;show Qb4 (Qcx [some (.ob o)] O)=_;unfold Qcx;simp only [QcX,Qi8,Qr0,Qh9,QbN,Qaq,zE,Nat.zero_le,if_true,Qi2,QbT,zx,p1,QcJ,m_c,p2,p3,Qmp,List.set_set]
theorem QpA (M:Int) (h:1≤M∧M≤200) (O:Qaa):QeE [.int M,.int 1,.int 200] O = .ok (.bl true) O:=by
 simp [QeE,Qge,QgU,QgM,h]
theorem Qtd (M:Int) (h:1≤M∧M≤200) (O:Qaa) (ρ:Qai) (hρ:∀O,Qab 1 ρ O = .ok (.int M) O):∃O',Qfn "Maker" QcO (Qac (Qab 1) Qae) ρ O = .ok (.ob O.length) O'∧Mk O' O.length M Qav ⟨[],false,46,46⟩:=by
 have e0:(O ++ [Ob.ins "Maker" []])[O.length]? = some (.ins "Maker" []):=apN
 have p0:=fun ρ=>pG (f:="most") (d:=.int M) (ρ:=ρ) e0 (by decide)
 have e1:=gs' (y:=.ins "Maker" (putD "most" (.int M) [])) e0
 have p1:=fun ρ=>pG (f:="last_word") (d:=.str Qav) (ρ:=ρ) e1 (by show 1 < 900; decide)
 have e2:(((O ++ [Ob.ins "Maker" []]).set O.length (.ins "Maker" (putD "most" (.int M) []))).set O.length (.ins "Maker" (putD "last_word" (.str Qav) (putD "most" (.int M) []))))[O.length]? = some (.ins "Maker" [("most",.int M),("last_word",.str Qav)]):=gs' e1;have eb:=Qpb e2
 have em:∀(O':Qaa) (a1:Option D),O'[O.length]? = some (.ins "Maker" [("most",.int M),("last_word",.str Qav)])→(Qbi "Maker" "begin_row" Qb5 (Qab 0) Qae) [some (.ob O.length),a1] O'=Qb5 [.ob O.length] O':=fun O' a1 h'=>by
  rw [Qeg];simp only [QbT,zx,Qaq];unfold meF;dsimp only;rw [h'];rfl
 have ei:QcO [.ob O.length,.int M] (O ++ [Ob.ins "Maker" []]) = .ok .non ((((O ++ [Ob.ins "Maker" []]).set O.length (.ins "Maker" (putD "most" (.int M) []))).set O.length (.ins "Maker" (putD "last_word" (.str Qav) (putD "most" (.int M) []))) ++ [Ob.ml []]).set O.length (mkO M Qav (((O ++ [Ob.ins "Maker" []]).set O.length (.ins "Maker" (putD "most" (.int M) []))).set O.length (.ins "Maker" (putD "last_word" (.str Qav) (putD "most" (.int M) [])))).length 46 46 false)):=by
  show Qb4 (QcL [some (.ob O.length),some (.int M)] (O ++ [Ob.ins "Maker" []]))=_;unfold QcL;have p1':∀ρ,puF ["Maker"] "last_word" (.str [119,104,111,108,101]) ρ (.ok (.ob O.length) ((O ++ [Ob.ins "Maker" []]).set O.length (.ins "Maker" (putD "most" (.int M) []))))=_:=p1;simp only [QcX,QeB,QgB,Qjg,QgG,QbU,QbN,QbT,m_c,zx,zH,Qaq,QpA M h,Qhd,Qim,QgN,Bool.not_true,QdL,Bool.false_eq_true,if_false,Qfx,QcJ,Qi8,m_g,Qr6,Qi2,p0,p1',Qjr,em _ _ e2,eb,QiL,Qmp]
 obtain ⟨O',hO'⟩:∃O',O'=((((O ++ [Ob.ins "Maker" []]).set O.length (.ins "Maker" (putD "most" (.int M) []))).set O.length (.ins "Maker" (putD "last_word" (.str Qav) (putD "most" (.int M) []))) ++ [Ob.ml []]).set O.length (mkO M Qav (((O ++ [Ob.ins "Maker" []]).set O.length (.ins "Maker" (putD "most" (.int M) []))).set O.length (.ins "Maker" (putD "last_word" (.str Qav) (putD "most" (.int M) [])))).length 46 46 false)):=⟨_,rfl⟩;rw [←hO'] at ei;refine ⟨O',?_,?_⟩
 ·rw [QsB];simp only [QbU,QbN,hρ,Qaq,ei,QrH]
 ·rw [hO'];refine ⟨_,gs' (ap1 e2),?_⟩;rw [ze (by simp)];exact apN
theorem Ql0 (t:List Nat) (ht:Okt t) (O:Qaa):∃O',QcT [.str t] O = .ok (.lst (items 0 t)) O'∧∀(n:Nat) (x:Ob),O[n]? = some x→O'[n]? = some x:=by
 obtain ⟨H,q⟩:=Qq6 t;have f1:=Qsn (QlQ O) Qbb.h0 t ht;have e2:((O ++ [RO [] 0]).set O.length (RO (QbM [] 0 t).2 (0+t.length)))[O.length]? = some (RO (QbM [] 0 t).2 (0+t.length)):=gs (QlQ O);have f2:=QoU e2 H;have hl:=ht.len;have l1:=Qln t Qbb.h0 0;have l2:=H.len
 have z:(QbM [] 0 t).1.length+(Qcw (0+(t.length:Int) - ((QbM [] 0 t).2.length:Int)) (QbM [] 0 t).2).length≤1000000:=by
  rw [QiE]; omega
 rw [q];have z':=Int.zero_add (t.length:Int);rw [z'] at f1 f2 e2 z;refine ⟨((O ++ [RO [] 0]).set O.length (RO (QbM [] 0 t).2 t.length)).set O.length (RO [] t.length),?_,fun n x hx=>?_⟩
 ·simp only [QcT,QgO,QkH,zd,zT,zk,zE,List.replicate,List.cons_append,zO,QcX,Qd6,Quc,Qdo,QcJ,zY,zZ,Qeg,QbT,zx,zH,Qaq,Qn3 (show ("feed":Str)≠"held" by decide) (by decide) (QlQ O),QbU,QbN,f1,QcV,Qi6,Qn3 (show ("finish":Str)≠"held" by decide) (by decide) e2,f2,QeS,QsY,if_pos z,QdR,Qck,QdV]
 ·have hn:=(zh.mp hx).1;rw [ze (by omega),ze (by omega),zr hn];exact hx
theorem QbE {g:D→D→Option D}{a b:L2.M D}{ρ:Qai}{O:Qaa}{x y z:D} (ha:a ρ O = .ok x O) (hb:b ρ O = .ok y O) (h:g (QaK O x) (QaK O y)=some z):Qaf g a b ρ O = .ok z O:=by
 rw [Qi6,ha,Qaq,hb,Qaq,h,QdR]
theorem ma1 {a:L2.M D}{ρ:Qai}{O:Qaa}{x:D} (h:a ρ O = .ok x O):Qac a Qae ρ O = .ok [x] O:=by
 rw [QbU,h,Qaq,QbN,Qaq]
theorem maS {a:L2.M D}{r:L2.M (List D)}{ρ:Qai}{O:Qaa}{x:D}{xs:List D} (h:a ρ O = .ok x O) (h2:r ρ O = .ok xs O):Qac a r ρ O = .ok (x::xs) O:=by
 rw [QbU,h,Qaq,h2,Qaq]
theorem QoP {m:L2.M (List D)}{ρ:Qai}{O:Qaa}{xs:List D} (h:m ρ O = .ok xs O) (hl:xs.length≤1000000):Qbj m ρ O = .ok (.tup xs) O:=by
 rw [Qp0,h,Qaq,if_pos hl]
theorem QiU {g:List D→Option D}{m:L2.M (List D)}{ρ:Qai}{O:Qaa}{xs:List D}{z:D} (h:m ρ O = .ok xs O) (hg:g (xs.map (QaK O))=some z):QaB g m ρ O = .ok z O:=by
 rw [Qmv,h,Qaq,hg,QdR]
theorem Qth {i:Nat}{m:L2.M D}{ρ:Qai}{O:Qaa}{d:D}{ds:List D} (hm:m ρ O = .ok d O) (h:ρ[i]? = some (some (.lst ds))) (hl:ds.length < 1000000):QgL i m ρ O = .nx (ρ.set i (some (.lst (ds ++ [d])))) O:=by
 rw [QrV,hm,QsQ h hl]
theorem QfJ {i:Nat}{m:L2.M D}{ρ:Qai}{O:Qaa}{d:D} (h:m ρ O = .ok d O):Qat i m ρ O = .nx (ρ.set i (some d)) O:=by
 rw [Qd6,h,Qdo]
theorem Qcm {c:List D→Qaa→Res D}{ma:L2.M (List D)}{ρ:Qai}{O:Qaa}{ds:List D} (h:ma ρ O = .ok ds O):QaA c ma ρ O=c ds O:=by
 rw [QgG,h,Qaq]
theorem Qjq {m:L2.M D}{ρ:Qai}{O:Qaa}{b:Bool} (h:m ρ O = .ok (.bl b) O):QaD m ρ O = .ok b O:=by
 rw [Qi4,h,Qaq,Qjk]
theorem Qtl {m:L2.M D}{ρ:Qai}{O:Qaa}{l:List D} (h:m ρ O = .ok (.lst l) O):QaB QaY (Qac m Qae) ρ O = .ok (.int (l.length:Int)) O:=QiU (ma1 h) rfl
theorem Qk3 {m:L2.M D}{ρ:Qai}{O:Qaa}{n:Nat} (h:m ρ O = .ok (.int (n:Int)) O) (hn:n≤1000000):QcN (Qac m Qae) ρ O = .ok (QbL 0 n) O:=by
 rw [QrA,ma1 h,Qaq];show (if (n:Int)≤1000000000∧-1000000000≤(n:Int) then Res.ok (QbL 0 (n:Int).toNat) O else .no)=_;rw [if_pos ⟨by omega,by omega⟩,Int.toNat_natCast]
theorem Qjl {a b:L2.M D}{ρ:Qai}{O:Qaa}{i j:Int} (ha:a ρ O = .ok (.int i) O) (hb:b ρ O = .ok (.int j) O) (hj:0 < j):Qaf Qcc a b ρ O = .ok (.int (i % j)) O:=QbE ha hb (by rw [Qdj,Qdj,Qsq,if_pos hj])
theorem Qil {a b:L2.M D}{ρ:Qai}{O:Qaa}{i j:Int} (ha:a ρ O = .ok (.int i) O) (hb:b ρ O = .ok (.int j) O):Qaf Qa0 a b ρ O = .ok (.int (i+j)) O:=QbE ha hb rfl
theorem QtA {a b:L2.M D}{ρ:Qai}{O:Qaa}{i j:Int} (ha:a ρ O = .ok (.int i) O) (hb:b ρ O = .ok (.int j) O):Qaf Qel a b ρ O = .ok (.int (i - j)) O:=QbE ha hb rfl
theorem QtB {a b:L2.M D}{ρ:Qai}{O:Qaa}{i j:Int} (ha:a ρ O = .ok (.int i) O) (hb:b ρ O = .ok (.int j) O):QaD (Qaf gEq a b) ρ O = .ok (decide (i=j)) O:=Qjq (QbE ha hb rfl)
theorem Qet {g:MG}{b:MS}{d:D}{ds:List D}{ρ ρ1 ρ2:Qai}{O O2:Qaa} (hg:g d ρ=some ρ1) (hb:b ρ1 O = .nx ρ2 O2):Qbh g b (d::ds) ρ O=Qbh g b ds ρ2 O2:=by
 rw [Qbh,hg];dsimp only;rw [hb]
theorem Qto {i:Nat}{m:L2.M D}{ρ:Qai}{O O1:Qaa}{d:D} (h:m ρ O = .ok d O1):Qat i m ρ O = .nx (ρ.set i (some d)) O1:=by
 rw [Qd6,h,Qdo]
theorem Qp4 {m:L2.M D}{ρ:Qai}{O O':Qaa} (h:m ρ O = .ok (.bl true) O'):Qbz (QbJ m) ρ O = .ok false O':=by
 rw [QgB,Qjg,h];rfl
theorem Qnk {a b:L2.M Bool}{ρ:Qai}{O O1 O2:Qaa} (ha:a ρ O = .ok false O1) (hb:b ρ O1 = .ok false O2):Qb3 a b ρ O = .ok false O2:=by
 rw [QpL,ha,Qaq,if_neg zj,hb]
theorem ifN {t:L2.M Bool}{a:MS}{ρ:Qai}{O O':Qaa} (h:t ρ O = .ok false O'):QaV t a QaO ρ O = .nx ρ O':=by
 rw [QeB,h,QdL];rfl
theorem ifY {t:L2.M Bool}{a b:MS}{ρ:Qai}{O O':Qaa} (h:t ρ O = .ok true O'):QaV t a b ρ O=a ρ O':=by
 rw [QeB,h,QdL];rfl
theorem Qq5 {pre:List D}{x:D}:gIx (.lst (pre ++ [x])) (.int (-1))=some x:=by
 rw [Qt8]
 have q:atI (pre ++ [x]) (-1)=(pre ++ [x])[pre.length]?:=by
  have z:ixN (pre ++ [x]).length (-1)=some pre.length:=by
   unfold ixN;rw [zw,jc,if_neg (by omega),if_pos (by omega)];congr 1;omega
  unfold atI;rw [z];rfl
 rw [q,zv (zc _),Nat.sub_self];rfl
theorem Qii {m:L2.M D}{ρ:Qai}{O:Qaa}{t:List Nat} (h:m ρ O = .ok (.str t) O) (hz:t.length≤1000000):QaB QaY (Qac m Qae) ρ O = .ok (.int (t.length:Int)) O:=QiU (xs:=[.str t]) (ma1 h) (by
 show QaY [D.str t]=_
 rw [QrO,if_pos hz])
theorem Qq4 {a b:L2.M D}{ρ:Qai}{O:Qaa}{x y:List Nat} (ha:a ρ O = .ok (.str x) O) (hb:b ρ O = .ok (.str y) O) (hl:x.length+y.length≤1000000):Qaf Qa0 a b ρ O = .ok (.str (x++y)) O:=QbE ha hb (by rw [QeK,QeK,Qrx,if_pos hl])
theorem Qso {a b:L2.M (Option Int)}{m:L2.M D}{ρ:Qai}{O:Qaa}{t:List D}{x y:Option Int} (hm:m ρ O = .ok (.lst t) O) (ha:a ρ O = .ok x O) (hb:b ρ O = .ok y O):mSl m a b ρ O = .ok (.lst (Qb7 t x y)) O:=by
 rw [QuZ,hm,Qaq,ha,Qaq,hb,Qaq,QeS,QqL,QdR]
section
variable {O:Qaa}{o n:Nat}{lw:List Nat}
theorem Qqm {p:Int}{row:List D} (e:O[o]? = some (mkO 200 lw n 46 46 false)):Qcs [.ob o,item p Qb8 []] O = .ok (.lst [.tup [.ob n,.str Qav]]) ((O ++ [Ob.ml []]).set o (mkO 200 Qav O.length 46 46 false)):=by
 have et:=QnN (w:=Qav) e;have e1:((O ++ [Ob.ml []]).set o (mkO 200 Qav O.length 46 46 false))[o]? = some (mkO 200 Qav O.length 46 46 false):=gs' (ap1 e);have ep:=Qoh (i:=46) (g:=46) Itm.end_ ((O ++ [Ob.ml []]).set o (mkO 200 Qav O.length 46 46 false));have ep':Qcl [.tup [.str [46],.str [46]],.str Qb8,.str []] ((O ++ [Ob.ml []]).set o (mkO 200 Qav O.length 46 46 false)) = .ok (.tup [.str [46],.str [46]]) ((O ++ [Ob.ml []]).set o (mkO 200 Qav O.length 46 46 false)):=ep;have i1:gIx (item p Qb8 []) (.int 1)=some (.str Qb8):=rfl;have i2:gIx (item p Qb8 []) (.int 2)=some (.str []):=rfl
 have di:∀O:Qaa,QaK O (item p Qb8 [])=item p Qb8 []:=fun _=>rfl
 have c2:(Qbi "Maker" "tell" Qch (Qab 0) (Qac (mC (.str [119,104,111,108,101])) Qae)) [some (.ob o),some (item p Qb8 []),some (.str Qb8),some (.lst [])] O = .ok (.lst [.tup [.ob n,.str Qav]]) ((O ++ [Ob.ml []]).set o (mkO 200 Qav O.length 46 46 false)):=by
  rw [Qeg];simp only [QbT,zx,Qaq,Qig (m:="tell") (by decide) (by decide) (by decide) (by decide) (by decide) e,QbU,QbN,m_c];exact et
 show Qb4 (Qc0 [some (.ob o),some (item p Qb8 []),none,none] O)=_;unfold Qc0;simp only [QcX,Qd6,Qi6,QbT,m_c,zx,zH,Qaq,di,Qdj,i1,QdR,Qdo,QcJ,zY,zZ,Qh9,QbN,zE,Nat.zero_le,if_true,QeB,Qi4,QeK,QpV,Qjk,QdL,show decide (Qb8 = [101,110,100])=true from rfl,show decide (Qb8 = [115,105,103,110])=false from rfl,Bool.false_eq_true,if_false,c2,Qi8,Qi2,pS e1,Qfx,List.set_set,QgG,QbU,Qp5,fP e1,i2,ep',pP e1,QcV,Qck,QdV]
theorem QoM {p:Int}{c:Nat}{ds:List D} (e:O[o]? = some (mkO 200 lw n 46 46 false)) (el:O[n]? = some (.ml ds)) (hl:ds.length < 200) (hc:c≤125):Qcs [.ob o,item p QaF [c]] O = .ok (.lst []) ((O.set n (.ml (ds ++ [dL (c,46,46,p)]))).set o (mkO 200 lw n 46 46 false)):=by
 have ee:=QqO e;rw [if_neg zj] at ee;have ea:=Qt6 (p:=p) (c:=c) e el (by omega);rw [if_neg (by omega)] at ea;have hne:o≠n:=Qi3 e el
 have e1:(O.set n (.ml (ds ++ [dL (c,46,46,p)])))[o]? = some (mkO 200 lw n 46 46 false):=by
  rw [ze (Ne.symm hne)];exact e
 have ep:=Qoh (i:=46) (g:=46) (Itm.sign c hc) (O.set n (.ml (ds ++ [dL (c,46,46,p)])));have ep':Qcl [.tup [.str [46],.str [46]],.str QaF,.str [c]] (O.set n (.ml (ds ++ [dL (c,46,46,p)]))) = .ok (.tup [.str [46],.str [46]]) (O.set n (.ml (ds ++ [dL (c,46,46,p)]))):=ep;have i1:gIx (item p QaF [c]) (.int 1)=some (.str QaF):=rfl;have i2:gIx (item p QaF [c]) (.int 2)=some (.str [c]):=rfl
 have di:∀O:Qaa,QaK O (item p QaF [c])=item p QaF [c]:=fun _=>rfl
 have c1:(Qbi "Maker" "empty_stale" Qbu (Qab 0) Qae) [some (.ob o),some (item p QaF [c]),some (.str QaF),some (.lst [])] O = .ok .non O:=by
  rw [Qeg];simp only [QbT,zx,Qaq,Qig (m:="empty_stale") (by decide) (by decide) (by decide) (by decide) (by decide) e,QbN];exact ee
 have c2:(Qbi "Maker" "add_letter" Qco (Qab 0) (Qac (Qab 1) Qae)) [some (.ob o),some (item p QaF [c]),some (.str QaF),some (.lst [])] O = .ok (.lst []) (O.set n (.ml (ds ++ [dL (c,46,46,p)]))):=by
  rw [Qeg];simp only [QbT,zx,zH,Qaq,Qig (m:="add_letter") (by decide) (by decide) (by decide) (by decide) (by decide) e,QbU,QbN];exact ea
 show Qb4 (Qc0 [some (.ob o),some (item p QaF [c]),none,none] O)=_;unfold Qc0;simp only [QcX,Qd6,Qi6,QbT,m_c,zx,zH,Qaq,di,Qdj,i1,QdR,Qdo,QcJ,zY,zZ,Qh9,QbN,zE,Nat.zero_le,if_true,QeB,Qi4,QeK,QpV,Qjk,QdL,show decide (QaF = [101,110,100])=false from rfl,show decide (QaF = [97,110,101,119])=false from rfl,show decide (QaF = [115,105,103,110])=true from rfl,Bool.false_eq_true,if_false,Qjr,QiL,c1,c2,Qi8,Qi2,Qfx,QgG,QbU,Qp5,fP e1,i2,ep',pP e1,QcV,Qck,QdV]
end
def lets:Int→List Nat→List LT
 | _,[]=>[]
 | p,c::r=>(c,46,46,p)::lets (p+1) r
def go:Int→List LT→List Nat→List (List LT)×List LT
 | _,row,[]=>([],row)
 | p,row,c::t=>if c=10 then (row::(go (p+1) [] t).1,(go (p+1) [] t).2) else go (p+1) (row ++ [(c,46,46,p)]) t
def ok:Nat→List Nat→Prop
 | _,[]=>True
 | n,c::t=>if c=10 then ok 0 t else n < 200∧ok (n+1) t
structure Chr (t:List Nat):Prop where
 ok:∀c∈t,(32≤c∧c≤125∧c≠91)∨c=10
def Tol (O:Qaa) (n q:Nat):List D→List (List LT)→Prop
 | [],[]=>True
 | d::T,r::R=>(∃m,d = .tup [.ob m,.str Qav]∧m≠n∧m≠q∧O[m]? = some (.ml (r.map dL)))∧Tol O n q T R
 | _,_=>False
theorem Tol.mono {O O':Qaa}{n n' q:Nat} (h:∀m x,m≠n→m≠q→O[m]? = some (.ml x)→O'[m]? = some (.ml x)∧m≠n'):∀{T:List D}{R:List (List LT)},Tol O n q T R→Tol O' n' q T R
 | [],[],_=>trivial
 | d::T,r::R,⟨⟨m,e,a,b,c⟩,ht⟩=>⟨⟨m,e,(h m _ a b c).2,b,(h m _ a b c).1⟩,Tol.mono h ht⟩
 | [],_::_,z=>z.elim
 | _::_,[],z=>z.elim
theorem Tol.snoc {O:Qaa}{n q m:Nat}{r:List LT} (a:m≠n) (b:m≠q) (c:O[m]? = some (.ml (r.map dL))):∀{T:List D}{R:List (List LT)},Tol O n q T R→Tol O n q (T ++ [.tup [.ob m,.str Qav]]) (R ++ [r])
 | [],[],_=>⟨⟨m,rfl,a,b,c⟩,trivial⟩
 | d::T,r::R,⟨h,ht⟩=>⟨h,Tol.snoc a b c ht⟩
 | [],_::_,z=>z.elim
 | _::_,[],z=>z.elim
theorem Tol.len {O:Qaa}{n q:Nat}:∀{T:List D}{R:List (List LT)},Tol O n q T R→T.length=R.length
 | [],[],_=>rfl
 | d::T,r::R,h=>by simp [Tol.len h.2]
 | [],_::_,z=>z.elim
 | _::_,[],z=>z.elim
def its:Int→List Nat→List D
 | _,[]=>[]
 | p,c::t=>(if c=10 then item p Qb8 [] else item p QaF [c])::its (p+1) t
theorem Qj9:∀(t:List Nat) (p:Int),(∀c∈t,(32≤c∧c≤125∧c≠91)∨c=10)→items p t=its p t
 | [],p,_=>QdY p
 | c::t,p,h=>by
  have hc:=h c zu;have ih:=Qj9 t (p+1) (fun x hx=>h x (zm _ hx));rw [Qfg];unfold one its
  by_cases h10:c=10
  ·rw [if_pos h10,if_pos h10];show item p Qb8 []::items (p+((0+1:Nat):Int)) (t.drop 0)=_;rw [List.drop_zero,←ih];rfl
  ·rw [if_neg h10,if_neg h10,if_neg (show ¬c=9 by omega),if_neg (show ¬c=91 by omega)];show item p QaF [c]::items (p+((0+1:Nat):Int)) (t.drop 0)=_;rw [List.drop_zero,←ih];rfl
def bRo:MS:=(QhY (Qab 3) (Qbi "Maker" "put" Qcs (Qab 2) (Qac (Qab 4) Qae)))
theorem QnQ {O O2:Qaa}{n o q:Nat}{lw:List Nat}{T told:List D}{it:D}{a0 a1:Option D} (e:O[o]? = some (mkO 200 lw n 46 46 false)) (hq:O[q]? = some (.ml T)) (h:Qcs [.ob o,it] O = .ok (.lst told) O2) (hq2:O2[q]? = some (.ml T)) (hl:T.length+told.length≤1000000) :
  bRo [a0,a1,some (.ob o),some (.ob q),some it] O = .nx [a0,a1,some (.ob o),some (.ob q),some it] (O2.set q (.ml (T++told))):=by
 unfold bRo QhY
 have em:(Qbi "Maker" "put" Qcs (Qab 2) (Qac (Qab 4) Qae)) [a0,a1,some (.ob o),some (.ob q),some it] O = .ok (.lst told) O2:=by
  rw [Qeg];simp only [QbT,zx,zH,Qaq,Qig (m:="put") (by decide) (by decide) (by decide) (by decide) (by decide) e,QbU,QbN];exact h
 rw [show Qab 3 [a0,a1,some (.ob o),some (.ob q),some it] O = .ok (.ob q) O from rfl];dsimp only;rw [hq];dsimp only;rw [em];dsimp only;rw [hq2,QeS];dsimp only;rw [if_pos hl]
theorem Qjs {o q:Nat} (a0 a1:Option D):∀(t:List Nat) (p:Int) (O:Qaa) (lw:List Nat) (n:Nat) (row:List LT) (T:List D) (R:List (List LT)) (o4:Option D),(∀c∈t,(32≤c∧c≤125∧c≠91)∨c=10)→ok row.length t→T.length+t.length≤10000 →
  O[o]? = some (mkO 200 lw n 46 46 false)→O[n]? = some (.ml (row.map dL))→O[q]? = some (.ml T)→q≠n→q≠o→Tol O n q T R →
  ∃O' lw' n' T' o4',Qbh (mgN 4) bRo (its p t) [a0,a1,some (.ob o),some (.ob q),o4] O = .nx [a0,a1,some (.ob o),some (.ob q),o4'] O'∧O'[o]? = some (mkO 200 lw' n' 46 46 false)∧O'[n']? = some (.ml ((go p row t).2.map dL))∧O'[q]? = some (.ml T')∧q≠n'∧Tol O' n' q T' (R++(go p row t).1)
 | [],p,O,lw,n,row,T,R,o4,_,_,_,h1,h2,h3,h4,h5,ht=>⟨O,lw,n,T,o4,rfl,h1,h2,h3,h4,by simpa [go] using ht⟩
 | c::t,p,O,lw,n,row,T,R,o4,hc,hok,hl,h1,h2,h3,h4,h5,ht=>by
  have hcc:=hc c zu
  have hct:=fun x hx=>hc x (zm c hx)
  rw [zk] at hl;have hne:o≠n:=Qi3 h1 h2;have ln:=QhI h2;have lq:=QhI h3;have lo:=QhI h1
  by_cases h10:c=10
  ·unfold ok at hok;rw [if_pos h10] at hok;have hp:=Qqm (p:=p) (row:=[]) h1
   have q2:((O ++ [Ob.ml []]).set o (mkO 200 Qav O.length 46 46 false))[q]? = some (.ml T):=by
    rw [ze (Ne.symm h5)];exact ap1 h3
   have eb:=QnQ (a0:=a0) (a1:=a1) h1 h3 hp q2 (by show T.length+1≤1000000; omega)
   have g1:(((O ++ [Ob.ml []]).set o (mkO 200 Qav O.length 46 46 false)).set q (.ml (T ++ [.tup [.ob n,.str Qav]])))[o]? = some (mkO 200 Qav O.length 46 46 false):=by
    rw [ze h5];exact gs' (ap1 h1)
   have g2:(((O ++ [Ob.ml []]).set o (mkO 200 Qav O.length 46 46 false)).set q (.ml (T ++ [.tup [.ob n,.str Qav]])))[O.length]? = some (.ml (([]:List LT).map dL)):=by
    rw [ze (by omega),ze (by omega)];exact apN
   have old:∀m x,m≠q→O[m]? = some (.ml x)→(((O ++ [Ob.ml []]).set o (mkO 200 Qav O.length 46 46 false)).set q (.ml (T ++ [.tup [.ob n,.str Qav]])))[m]? = some (.ml x):=fun m x hm e=>by
    rw [ze (Ne.symm hm),ze (Qi3 h1 e)];exact ap1 e
   obtain ⟨O',lw',n',T',o4',e2,f1,f2,f3,f4,f5⟩:=Qjs a0 a1 t (p+1) _ Qav O.length [] (T ++ [.tup [.ob n,.str Qav]]) (R ++ [row]) (some (item p Qb8 [])) hct hok (by simp; omega) g1 g2 (gs' q2) (by omega) h5
    (Tol.snoc (by omega) (Ne.symm h4) (old n _ (Ne.symm h4) h2) (Tol.mono (fun m x a b e=>⟨old m x b e,by have:=QhI e; omega⟩) ht))
   refine ⟨O',lw',n',T',o4',?_,f1,?_,f3,f4,?_⟩
   ·show Qbh (mgN 4) bRo ((if c=10 then item p Qb8 [] else item p QaF [c])::its (p+1) t) _ O=_;rw [if_pos h10,Qet (ρ1:=[a0,a1,some (.ob o),some (.ob q),some (item p Qb8 [])]) rfl eb];exact e2
   ·unfold go;rw [if_pos h10];exact f2
   ·unfold go;rw [if_pos h10];simpa using f5
  ·unfold ok at hok;rw [if_neg h10] at hok;have hp:=QoM (p:=p) (c:=c) h1 h2 (by rw [zB]; exact hok.1) (by omega)
   have q2:((O.set n (.ml (row.map dL ++ [dL (c,46,46,p)]))).set o (mkO 200 lw n 46 46 false))[q]? = some (.ml T):=by
    rw [ze (Ne.symm h5),ze (Ne.symm h4)];exact h3
   have eb:=QnQ (a0:=a0) (a1:=a1) h1 h3 hp q2 (by show T.length+0≤1000000; omega)
   have g0:(O.set n (.ml (row.map dL ++ [dL (c,46,46,p)])))[o]? = some (mkO 200 lw n 46 46 false):=by
    rw [ze (Ne.symm hne)];exact h1
   have g1:(((O.set n (.ml (row.map dL ++ [dL (c,46,46,p)]))).set o (mkO 200 lw n 46 46 false)).set q (.ml (T ++ [])))[o]? = some (mkO 200 lw n 46 46 false):=by
    rw [ze h5];exact gs' g0
   have g2:(((O.set n (.ml (row.map dL ++ [dL (c,46,46,p)]))).set o (mkO 200 lw n 46 46 false)).set q (.ml (T ++ [])))[n]? = some (.ml ((row ++ [(c,46,46,p)]).map dL)):=by
    rw [ze h4,ze hne,gs' h2,zP];rfl
   have g3:=gs' (y:=.ml (T ++ [])) q2;rw [zR] at g1 g2 g3 eb;obtain ⟨O',lw',n',T',o4',e2,f1,f2,f3,f4,f5⟩:=Qjs a0 a1 t (p+1) _ lw n (row ++ [(c,46,46,p)]) T R (some (item p QaF [c])) hct (by rw [zw]; exact hok.2) (by omega) g1 g2 g3 h4 h5
    (Tol.mono (fun m x a b e=>⟨by rw [ze (Ne.symm b),ze (Qi3 h1 e),ze (Ne.symm a)]; exact e,a⟩) ht)
   refine ⟨O',lw',n',T',o4',?_,f1,?_,f3,f4,?_⟩
   ·show Qbh (mgN 4) bRo ((if c=10 then item p Qb8 [] else item p QaF [c])::its (p+1) t) _ O=_;rw [if_neg h10,Qet (ρ1:=[a0,a1,some (.ob o),some (.ob q),some (item p QaF [c])]) rfl eb];exact e2
   ·unfold go;rw [if_neg h10];exact f2
   ·unfold go;rw [if_neg h10];exact f5
theorem Qon (t:List Nat) (hc:∀c∈t,(32≤c∧c≤125∧c≠91)∨c=10) (hl:t.length≤3000) (hok:ok 0 t) (O:Qaa) :
  ∃O' n q no T,Qd4 [.str t,.int 200] O = .ok (.tup [.ob q,.ob no]) O'∧O'[q]? = some (.ml T)∧Tol O' n q T (go 0 [] t).1∧O'[no]? = some (.ml ((go 0 [] t).2.map dL))∧no≠q:=by
 obtain ⟨O1,en,n,m1,m2⟩:=Qtd 200 (by decide) O [some (.str t),some (.int 200),none,none,none] (fun _=>rfl);have ht:Okt t:=⟨by omega,fun c h=>by have:=hc c h; omega⟩;obtain ⟨O2,ei,keep⟩:=Ql0 t ht (O1 ++ [.ml []]);rw [Qj9 t 0 hc] at ei;have l1:=QhI m1;have l2:=QhI m2;obtain ⟨O3,lw,n',T,o4,e,f1,f2,f3,f4,f5⟩:=Qjs (o:=O.length) (q:=O1.length) (some (.str t)) (some (.int 200)) t 0 O2 Qav n [] [] [] none hc hok (by simp; omega) (keep _ _ (ap1 m1)) (keep _ _ (ap1 m2)) (keep _ _ apN) (by omega) (by omega) trivial;have eo:=QrE f1 f2;rw [zO] at f5;have l3:=QhI f3;refine ⟨O3 ++ [.ml ((go 0 [] t).2.map dL)],n',O1.length,O3.length,T,?_,ap1 f3,Tol.mono (fun m x a b h=>⟨ap1 h,a⟩) f5,apN,by omega⟩
 have t3:(Qbi "Maker" "open_letters" QbP (Qab 2) Qae) [some (.str t),some (.int 200),some (.ob O.length),some (.ob O1.length),o4] O3 = .ok (.lst ((go 0 [] t).2.map dL)) O3:=by
  rw [Qeg];simp only [QbT,zx,zH,Qaq,Qig (m:="open_letters") (by decide) (by decide) (by decide) (by decide) (by decide) f1,QbN,eo]
 show Qb4 (QfY [some (.str t),some (.int 200),none,none,none] O)=_;unfold QfY;rw [Qby (show Qat 2 _ [some (.str t),some (.int 200),none,none,none] O = .nx [some (.str t),some (.int 200),some (.ob O.length),none,none] O1 by rw [Qd6,en,Qdo]; rfl)];rw [Qby (show Qat 3 (mMl (Qb2 Qae)) [some (.str t),some (.int 200),some (.ob O.length),none,none] O1 = .nx [some (.str t),some (.int 200),some (.ob O.length),some (.ob O1.length),none] (O1 ++ [.ml []]) from rfl)]
 have ef:QbX (Qc9 (QaA QcT (Qac (Qab 0) Qae))) (mgN 4) bRo [some (.str t),some (.int 200),some (.ob O.length),some (.ob O1.length),none] (O1 ++ [.ml []]) = .nx [some (.str t),some (.int 200),some (.ob O.length),some (.ob O1.length),o4] O3:=by
  have e':Qc9 (QaA QcT (Qac (Qab 0) Qae)) [some (.str t),some (.int 200),some (.ob O.length),some (.ob O1.length),none] (O1 ++ [.ml []]) = .ok (its 0 t) O2:=by
   simp only [Qjj,QgG,QbU,QbN,QbT,zx,Qaq,ei,Qhy,Qg4]
  exact (QkC e').trans e
 show Qb4 (Qan (QbX (Qc9 (QaA QcT (Qac (Qab 0) Qae))) (mgN 4) bRo) _ _ _)=_;rw [Qby ef,QcV];simp only [Qp0,QbU,QbN,QbT,zx,zH,Qaq,Qr0,t3,zk,zE,Nat.reduceAdd,Nat.reduceLeDiff,if_true,Qck,QdV]
def QkW (a:Nat):List (List Nat)→List (List Nat)
 | []=>[[a]]
 | w::r=>(a::w)::r
def spl:List Nat→List (List Nat)
 | []=>[[]]
 | a::l=>if a=10 then []::spl l else QkW a (spl l)
theorem Qgx (l:List Nat):spl (10::l) = []::spl l:=by
 show (if (10:Nat)=10 then _ else _)=_;rw [if_pos rfl]
theorem Qin {a:Nat} (h:a≠10) (l:List Nat):spl (a::l)=QkW a (spl l):=by
 show (if a=10 then _ else _)=_;rw [if_neg h]
theorem QoJ:∀l:List Nat,spl l≠[]
 | []=>by unfold spl; exact fun h=>nomatch h
 | a::l=>by
  by_cases h:a=10
  ·rw [h,Qgx]; exact fun h=>nomatch h
  ·rw [Qin h]
   cases spl l with
   | nil=>exact fun h=>nomatch h
   | cons w r=>exact fun h=>nomatch h
theorem Qpk {a:Nat}{x y:List (List Nat)} (h:x≠[]):QkW a (x++y)=QkW a x++y:=by
 cases x with
 | nil=>exact absurd rfl h
 | cons w r=>rfl
theorem QjC:∀x y:List Nat,spl (x++10::y)=spl x++spl y
 | [],y=>by rw [zO,Qgx]; rfl
 | a::x,y=>by
  by_cases h:a=10
  ·rw [h,List.cons_append,Qgx,QjC x y,Qgx]; rfl
  ·rw [List.cons_append,Qin h,QjC x y,Qin h,Qpk (QoJ x)]
theorem QiV:∀w:List Nat,(∀a∈w,a≠10)→spl w = [w]
 | [],_=>rfl
 | a::w,h=>by
  rw [Qin (h a (zu ..)),QiV w fun b hb=>h b (zm _ hb)];rfl
theorem Qly:∀ws:List (List Nat),ws≠[]→(∀w∈ws,∀a∈w,a≠10)→spl (QfV [10] ws)=ws
 | [],h,_=>absurd rfl h
 | [w],_,h=>QiV w (h w (zo.mpr rfl))
 | w::v::r,_,h=>by
  show spl (w ++ [10]++QfV [10] (v::r))=_;rw [zS,List.singleton_append,QjC,QiV w (h w (zu ..)),Qly (v::r) (fun z=>nomatch z) fun u hu=>h u (zm _ hu)];rfl
theorem Qn2:∀ps:List Str,S (QfV [10] (ps.map fun x=>x.cps.toList))=Str.join (S [10]) ps:=by
 intro ps;have e:=QqW [10] (ps.map fun x=>x.cps.toList)
 have e2:(ps.map fun x=>x.cps.toList).map S=ps:=by
  rw [zX]
  conv=>rhs; rw [←List.map_id ps]
  exact jf fun x _=>Qsh x
 rw [e2] at e;rw [←e];exact StrLaws.glued_eq_join _ _
theorem Qm4 (x y:Str):Txt.split x y≠[]:=by
 unfold Txt.split
 split
 ·exact fun h=>nomatch h
 ·split
  ·exact fun h=>nomatch h
  ·rw [StrLaws.partsBetween_eq]
   generalize Builtin.Str.occurrences x y 0 x.length (x.length+1)=cs
   cases cs with
   | nil=>exact fun h=>nomatch h
   | cons=>exact fun h=>nomatch h
theorem Qql (l:List Nat):Qeh l [10]=spl l:=by
 have hj:=StrLaws.join_split (S l) (S [10]);rw [←Qn2] at hj
 have hl:QfV [10] (Qeh l [10])=l:=by
  have:=congrArg (fun x:Str=>x.cps.toList) hj
  show QfV [10] (List.map (fun x=>x.cps.toList) (Txt.split (S l) (S [10])))=l;simpa [QdO] using this
 have hf:∀w∈Qeh l [10],∀a∈w,a≠10:=by
  intro w hw a ha z;unfold Qeh at hw;obtain ⟨p,hp,rfl⟩:=zU.mp hw;exact StrLaws.split_free (S l) 10 p hp (z ▸ ha)
 have hn:Qeh l [10]≠[]:=by
  unfold Qeh;intro z;exact Qm4 _ _ (List.map_eq_nil_iff.mp z)
 have:=Qly (Qeh l [10]) hn hf
 rw [hl] at this;exact this.symm
def tl:Nat→List Nat→Nat
 | n,[]=>n
 | n,c::t=>if c=10 then tl 0 t else tl (n+1) t
theorem Qlk:∀(t u:List Nat) (n:Nat),tl n (t++u)=tl (tl n t) u
 | [],u,n=>rfl
 | c::t,u,n=>by
  show (if c=10 then tl 0 (t++u) else tl (n+1) (t++u))=tl (if c=10 then tl 0 t else tl (n+1) t) u
  split
  ·exact Qlk t u 0
  ·exact Qlk t u (n+1)
theorem QjV:∀(t:List Nat) (n:Nat),(∀c∈t,c≠10)→tl n t=n+t.length
 | [],n,_=>rfl
 | c::t,n,h=>by
  show (if c=10 then tl 0 t else tl (n+1) t)=_;rw [if_neg (h c zu),QjV t (n+1) fun x hx=>h x (zm _ hx),zk];omega
theorem QlM:∀(t u:List Nat) (n:Nat),ok n t→ok (tl n t) u→ok n (t++u)
 | [],u,n,_,h=>h
 | c::t,u,n,h,h2=>by
  have h2':ok (if c=10 then tl 0 t else tl (n+1) t) u:=h2;have h1':if c=10 then ok 0 t else n < 200∧ok (n+1) t:=h;show if c=10 then ok 0 (t++u) else n < 200∧ok (n+1) (t++u)
  by_cases h10:c=10
  ·rw [if_pos h10] at h1' h2' ⊢;exact QlM t u 0 h1' h2'
  ·rw [if_neg h10] at h1' h2' ⊢;exact ⟨h1'.1,QlM t u (n+1) h1'.2 h2'⟩
theorem QiJ:∀(t:List Nat) (n:Nat),n+t.length≤200→ok n t
 | [],n,_=>trivial
 | c::t,n,h=>by
  rw [zk] at h;show if c=10 then ok 0 t else n < 200∧ok (n+1) t
  split
  ·exact QiJ t 0 (by omega)
  ·exact ⟨by omega,QiJ t (n+1) (by omega)⟩
theorem QlK (t:List Nat) (i:Nat):StrLaws.At (S t) (S [10]) (S t).length i↔t[i]? = some 10:=by
 have h:=StrLaws.subAt_one (S t) 10 i;rw [QdO] at h;exact h
theorem Qt0 (t:List Nat):(tl 0 t:Int)+1≤(t.length:Int) - Txt.rfind (S t) (S [10]):=by
 rcases PyProof.Rows.rfind_whole (S t) (S [10]) with ⟨e,h⟩ | ⟨i,e,h1,h2⟩
 ·have free:∀c∈t,c≠10:=fun c hc z=>by
   obtain ⟨i,hi⟩:=List.getElem?_of_mem hc;exact h i ((QlK t i).mpr (by rw [hi,z]))
  rw [e,QjV t 0 free];omega
 ·have ti:=(QlK t i).mp h1;obtain ⟨hi,hx⟩:=zh.mp ti
  have ht:t=t.take i++10::t.drop (i+1):=by
   conv=>lhs; rw [←List.take_append_drop i t,List.drop_eq_getElem_cons hi,hx]
  have free:∀c∈t.drop (i+1),c≠10:=fun c hc z=>by
   obtain ⟨j,hj⟩:=List.getElem?_of_mem hc;rw [List.getElem?_drop] at hj;exact h2 (i+1+j) (by omega) ((QlK t _).mpr (by rw [hj,z]))
  have e2:tl 0 t=t.length - (i+1):=by
   conv=>lhs; rw [ht]
   rw [Qlk];show (if (10:Nat)=10 then tl 0 (t.drop (i+1)) else _)=_;rw [if_pos rfl,QjV _ 0 free,List.length_drop];omega
  rw [e,e2];omega
def sg:List Nat:=sgl.filter (· != 91)
theorem Qoz:sg.length=92:=by decide
theorem Qtu:∀c∈sg,32≤c∧c≤125∧c≠91:=by decide
def Qez (t:List Nat):Prop:=∀c∈t,(32≤c∧c≤125∧c≠91)∨c=10
theorem Qry {t u:List Nat} (a:Qez t) (b:Qez u):Qez (t++u):=fun c hc=>by
 rcases zA.mp hc with h | h
 ·exact a c h
 ·exact b c h
theorem QkQ (n:Int) (k:Nat):∃c,c∈sg∧gIx (.str sg) (.int (mix n (4+(k:Int)) % 92))=some (.str [c]):=ixS (l:=sg) (v:=mix n (4+(k:Int))) (n:=92) (by rw [Qoz]; decide) (by rw [Qoz]; rfl) (by decide)
noncomputable def chr (n:Int) (k:Nat):Nat:=(QkQ n k).choose
theorem Qr5 (n:Int) (k:Nat):chr n k∈sg:=(QkQ n k).choose_spec.1
theorem QsN (n:Int) (k:Nat):gIx (.str sg) (.int (mix n (4+(k:Int)) % 92))=some (.str [chr n k]):=(QkQ n k).choose_spec.2
theorem Qtv (n:Int) (O:Qaa):∃l,l.length≤9∧Qez l∧QeV [.int n] O = .ok (.str l) O:=by
 have s1:Qat 1 (Qij 91 (QaA QeH Qae)) [some (.int n),none,none] O = .nx [some (.int n),some (.str sg),none] O:=by
  refine QfJ ?_;unfold Qij;rw [Qcm (ds:=[]) rfl,QqR,Qaq];dsimp only;rw [if_pos (by decide)];rfl
 have t1:QaD (Qaf gEq (Qaf Qcc (QaA QbS (Qac (Qab 0) (Qac (mC (.int 0)) Qae))) (mC (.int 4))) (mC (.int 3))) [some (.int n),some (.str sg),none] O = .ok (decide (mix n 0 % 4=3)) O:=QtB (Qjl ((Qcm (ds:=[.int n,.int 0]) rfl).trans (Qkx n 0 (by decide) (by decide) O)) rfl (by decide)) rfl
 by_cases w:mix n 0 % 4=3
 ·rw [zK w] at t1;obtain ⟨k,hk⟩:∃k:Nat,1+mix n 2 % 3=(k:Int):=⟨(1+mix n 2 % 3).toNat,by omega⟩
  have kk:k=1∨k=2∨k=3:=by omega
  have g:∃l,l.length≤9∧Qez l∧Qeq (.str [10]) (.int (k:Int))=some (.str l):=by
   rcases kk with rfl | rfl | rfl
   ·exact ⟨[10],by decide,fun c hc=>.inr (zo.mp hc),rfl⟩
   ·exact ⟨[10,10],by decide,fun c hc=>.inr (by simpa using hc),rfl⟩
   ·exact ⟨[10,10,10],by decide,fun c hc=>.inr (by simpa using hc),rfl⟩
  obtain ⟨l,h1,h2,h3⟩:=g;refine ⟨l,h1,h2,?_⟩;have e:Qaf Qeq (mC (.str [10])) (Qaf Qa0 (mC (.int 1)) (Qaf Qcc (QaA QbS (Qac (Qab 0) (Qac (mC (.int 2)) Qae))) (mC (.int 3)))) [some (.int n),some (.str sg),none] O = .ok (.str l) O:=QbE (x:=.str [10]) (y:=.int (k:Int)) rfl (by rw [←hk]; exact Qil rfl (Qjl ((Qcm (ds:=[.int n,.int 2]) rfl).trans (Qkx n 2 (by decide) (by decide) O)) rfl (by decide))) h3;show Qb4 (QdX [some (.int n),none,none] O)=_;unfold QdX;rw [Qby s1,Qt1 ((ifY t1).trans (by rw [QcV,e,Qck]))];rfl
 ·rw [zt w] at t1;obtain ⟨m,hm⟩:∃m:Nat,mix n 3 % 10=(m:Int):=⟨(mix n 3 % 10).toNat,by omega⟩
  have hm9:m≤9:=by omega
  have s2:Qat 2 (Qaf Qcc (QaA QbS (Qac (Qab 0) (Qac (mC (.int 3)) Qae))) (mC (.int 10))) [some (.int n),some (.str sg),none] O = .nx [some (.int n),some (.str sg),some (.int (m:Int))] O:=QfJ (by rw [←hm]; exact Qjl ((Qcm (ds:=[.int n,.int 3]) rfl).trans (Qkx n 3 (by decide) (by decide) O)) rfl (by decide))
  have z:=Qhe (g:=mgN 0) (t:=QdU) (m:=Qaf gIx (Qab 2) (Qaf Qcc (QaA QbS (Qac (Qab 1) (Qac (Qaf Qa0 (mC (.int 4)) (Qab 0)) Qae))) (mC (.int 92)))) (fun ρ=>∃a,ρ = [a,some (.int n),some (.str sg)]) (fun i:Nat=>D.int (0+(i:Int))) (fun k=>.str [chr n k]) (List.range m) [none,some (.int n),some (.str sg)] O [] ⟨none,rfl⟩ (by
   rintro k hk ρ ⟨a,rfl⟩;have hk':=List.mem_range.mp hk;refine ⟨_,rfl,⟨_,rfl⟩,rfl,?_⟩;refine QbE (x:=.str sg) (y:=.int (mix n (4+(k:Int)) % 92)) rfl (Qjl ((Qcm (ds:=[.int n,.int (4+(k:Int))]) ?_).trans (Qkx n _ (by omega) (by omega) O)) rfl (by decide)) (QsN n k)
   exact maS rfl (ma1 (by rw [show (4+(k:Int))=4+(0+(k:Int)) by omega]; exact Qil rfl rfl)))
  rw [zO] at z
  have ec:Qdp (QcN (Qac (Qab 2) Qae)) 1 [0,1] (mgN 0) QdU (Qaf gIx (Qab 2) (Qaf Qcc (QaA QbS (Qac (Qab 1) (Qac (Qaf Qa0 (mC (.int 4)) (Qab 0)) Qae))) (mC (.int 92)))) [some (.int n),some (.str sg),some (.int (m:Int))] O = .ok (.lst ((List.range m).map fun k=>.str [chr n k])) O:=by
   rw [QoG,Qk3 (n:=m) rfl (by omega),Qaq,if_pos (by unfold QbL; rw [zB,List.length_range]; omega),show QgX 1 [0,1] [some (.int n),some (.str sg),some (.int (m:Int))] = [none,some (.int n),some (.str sg)] from rfl];unfold QbL;rw [z,Qaq]
  have hs:=Qj6 (f:=fun k=>[chr n k]) (List.range m)
  have hsum:∀l:List Nat,((l.map fun k=>[chr n k]).map List.length).sum=l.length:=fun l=>by
   induction l with
   | nil=>rfl
   | cons x l ih=>simp only [zd,List.sum_cons,ih,zk,zE]; omega
  have hlen:∀l:List Nat,((l.map fun k=>[chr n k]).flatten).length=l.length:=fun l=>by
   induction l with
   | nil=>rfl
   | cons x l ih=>simp only [zd,List.flatten_cons,zw,ih,zk,zE]; omega
  refine ⟨((List.range m).map fun k=>[chr n k]).flatten,by rw [hlen,List.length_range]; exact hm9,fun c hc=>?_,?_⟩
  ·obtain ⟨l,hl,hcl⟩:=List.mem_flatten.mp hc;obtain ⟨k,_,rfl⟩:=zU.mp hl;rw [zo.mp hcl];exact .inl (Qtu _ (Qr5 n k))
  ·have ej:QkG (Qdp (QcN (Qac (Qab 2) Qae)) 1 [0,1] (mgN 0) QdU (Qaf gIx (Qab 2) (Qaf Qcc (QaA QbS (Qac (Qab 1) (Qac (Qaf Qa0 (mC (.int 4)) (Qab 0)) Qae))) (mC (.int 92))))) [some (.int n),some (.str sg),some (.int (m:Int))] O = .ok (.str ((List.range m).map fun k=>[chr n k]).flatten) O:=by
    rw [QrY,ec,Qaq,QeS,Qt2,hs,QpG,if_pos (by rw [hsum,List.length_range]; omega)]
   show Qb4 (QdX [some (.int n),none,none] O)=_;unfold QdX;rw [Qby s1,Qby (ifN t1),Qby s2,QcV,ej,Qck];rfl
def bTx:MS:=(Qan (Qat 3 (QaA QeV (Qac (Qab 2) Qae)))
  (Qan (QaV (QaD (Qaf gGt (Qaf Qa0 (Qaf Qel (QaB QaY (Qac (Qab 1) Qae)) (Qh0 (Qab 1) (mC (.str [10])))) (QaB QaY (Qac (Qab 3) Qae))) (mC (.int 200)))) (Qat 3 (mC (.str [10]))) QaO)
  (Qat 1 (Qaf Qa0 (Qab 1) (Qab 3)))))
theorem Qmw (o0:Option D) (O:Qaa):∀(ns:List Int) (t:List Nat) (o2 o3:Option D),Qez t→ok 0 t→t.length+9 * ns.length≤1000 →
  ∃t' p2 p3,Qbh (mgN 2) bTx (ns.map D.int) [o0,some (.str t),o2,o3] O = .nx [o0,some (.str t'),p2,p3] O∧Qez t'∧ok 0 t'∧t'.length≤1000
 | [],t,o2,o3,h1,h2,h3=>⟨t,o2,o3,rfl,h1,h2,by simp at h3; omega⟩
 | n::ns,t,o2,o3,h1,h2,h3=>by
  rw [zk] at h3;obtain ⟨l,l1,l2,l3⟩:=Qtv n O;have hr:=Qt0 t;have s3:Qat 3 (QaA QeV (Qac (Qab 2) Qae)) [o0,some (.str t),some (.int n),o3] O = .nx [o0,some (.str t),some (.int n),some (.str l)] O:=QfJ ((Qcm (ds:=[.int n]) rfl).trans l3);have tt:QaD (Qaf gGt (Qaf Qa0 (Qaf Qel (QaB QaY (Qac (Qab 1) Qae)) (Qh0 (Qab 1) (mC (.str [10])))) (QaB QaY (Qac (Qab 3) Qae))) (mC (.int 200))) [o0,some (.str t),some (.int n),some (.str l)] O = .ok (decide (200 < (t.length:Int) - Txt.rfind (S t) (S [10])+(l.length:Int))) O:=Qjq (QbE (x:=.int ((t.length:Int) - Txt.rfind (S t) (S [10])+(l.length:Int))) (y:=.int 200) (Qil (QtA (Qii rfl (by omega)) rfl) (Qii rfl (by omega))) rfl rfl)
  have fin:∀l':List Nat,l'.length≤9→Qez l'→ok (tl 0 t) l'→QaV (QaD (Qaf gGt (Qaf Qa0 (Qaf Qel (QaB QaY (Qac (Qab 1) Qae)) (Qh0 (Qab 1) (mC (.str [10])))) (QaB QaY (Qac (Qab 3) Qae))) (mC (.int 200)))) (Qat 3 (mC (.str [10]))) QaO [o0,some (.str t),some (.int n),some (.str l)] O = .nx [o0,some (.str t),some (.int n),some (.str l')] O →
    ∃t' p2 p3,Qbh (mgN 2) bTx ((n::ns).map D.int) [o0,some (.str t),o2,o3] O = .nx [o0,some (.str t'),p2,p3] O∧Qez t'∧ok 0 t'∧t'.length≤1000:=fun l' q1 q2 q3 q4=>by
   have s1:Qat 1 (Qaf Qa0 (Qab 1) (Qab 3)) [o0,some (.str t),some (.int n),some (.str l')] O = .nx [o0,some (.str (t++l')),some (.int n),some (.str l')] O:=QfJ (Qq4 rfl rfl (by omega))
   have e:bTx [o0,some (.str t),some (.int n),o3] O = .nx [o0,some (.str (t++l')),some (.int n),some (.str l')] O:=by
    unfold bTx;rw [Qby s3,Qby q4];exact s1
   obtain ⟨t',p2,p3,e2,f1,f2,f3⟩:=Qmw o0 O ns (t++l') (some (.int n)) (some (.str l')) (Qry h1 q2) (QlM t l' 0 h2 q3) (by rw [zw]; omega);refine ⟨t',p2,p3,?_,f1,f2,f3⟩;rw [zd,Qet (ρ1:=[o0,some (.str t),some (.int n),o3]) rfl e];exact e2
  by_cases w:200 < (t.length:Int) - Txt.rfind (S t) (S [10])+(l.length:Int)
  ·rw [zK w] at tt;exact fin [10] (by decide) (fun c hc=>.inr (zo.mp hc)) (by show if (10:Nat)=10 then ok 0 [] else _; rw [if_pos rfl]; exact True.intro) ((ifY tt).trans rfl)
  ·rw [zt w] at tt;exact fin l l1 l2 (QiJ l _ (by omega)) (ifN tt)
theorem Qrw (ns:List Int) (O:Qaa):∃t,Qez t∧ok 0 t∧t.length≤1000∧Qhc [.lst (ns.map D.int)] O = .ok (.str t) O:=by
 have l60:(ns.take 60).length≤60:=by rw [List.length_take]; omega
 obtain ⟨t,p2,p3,e,f1,f2,f3⟩:=Qmw (some (.lst (ns.map D.int))) O (ns.take 60) [] none none (fun c hc=>nomatch hc) trivial (by simp; omega);refine ⟨t,f1,f2,f3,?_⟩;have sl:=Qso (m:=Qab 0) (a:=moN) (b:=moS (mC (.int 60))) (ρ:=[some (.lst (ns.map D.int)),some (.str []),none,none]) (O:=O) (t:=ns.map D.int) (x:=none) (y:=some ((60:Nat):Int)) rfl rfl rfl;rw [Qti,←List.map_take] at sl
 have ei:Qc9 (mSl (Qab 0) moN (moS (mC (.int 60)))) [some (.lst (ns.map D.int)),some (.str []),none,none] O = .ok ((ns.take 60).map D.int) O:=by
  rw [Qjj,sl,Qaq,Qhy,Qg4]
 show Qb4 (Qfd [some (.lst (ns.map D.int)),none,none,none] O)=_;unfold Qfd;rw [Qby (show Qat 1 _ [some (.lst (ns.map D.int)),none,none,none] O = .nx [some (.lst (ns.map D.int)),some (.str []),none,none] O from rfl)];show Qb4 (Qan (QbX _ (mgN 2) bTx) _ _ _)=_;rw [Qby ((QkC ei).trans e)];rfl
def QfQ:Int→List (List Nat)→List (List LT)
 | _,[]=>[]
 | p,r::rs=>lets p r::QfQ (p+r.length+1) rs
theorem Qlq:∀(t:List Nat) (p:Int) (row:List LT),∃r rs,spl t=r::rs∧(go p row t).1 ++ [(go p row t).2]=(row++lets p r)::QfQ (p+r.length+1) rs
 | [],p,row=>⟨[],[],rfl,by simp [go,lets,QfQ]⟩
 | c::t,p,row=>by
  by_cases h:c=10
  ·obtain ⟨r,rs,e1,e2⟩:=Qlq t (p+1) [];refine ⟨[],r::rs,by rw [h,Qgx,e1],?_⟩;unfold go;rw [if_pos h,List.cons_append,e2];simp [lets,QfQ]
  ·obtain ⟨r,rs,e1,e2⟩:=Qlq t (p+1) (row ++ [(c,46,46,p)]);refine ⟨c::r,rs,by rw [Qin h,e1]; rfl,?_⟩;unfold go;rw [if_neg h,e2];simp only [lets,zS,List.singleton_append,zk];congr 2
   push_cast
   omega
theorem Qtg (t:List Nat):QfQ 0 (spl t)=(go 0 [] t).1 ++ [(go 0 [] t).2]:=by
 obtain ⟨r,rs,e1,e2⟩:=Qlq t 0 [];rw [e1,e2];rfl
theorem Qk8:∀(r:List Nat) (p:Int),(List.range r.length).map (fun k=>(r.getD k 0,46,46,p+(k:Int)))=lets p r
 | [],p=>rfl
 | c::r,p=>by
  rw [zk,List.range_succ_eq_map,zd,zX];unfold lets;congr 1
  ·simp
  ·rw [←Qk8 r (p+1)]
   apply jf
   intro k _;show ((c::r).getD (k+1) 0,46,46,p+((k+1:Nat):Int))=_;rw [List.getD_cons_succ,show p+((k+1:Nat):Int)=p+1+(k:Int) by push_cast; omega]
def QaI (r:List LT):D:=QuL (r,Qav)
def bDu:MS:=(Qan (QgL 1 (Qbj (Qac (Qdp (QcN (Qac (QaB QaY (Qac (Qab 3) Qae)) Qae)) 1 [2,3] (mgN 0) QdU (Qbj (Qac (Qaf gIx (Qab 2) (Qab 0)) (Qac (mC (.str [46])) (Qac (mC (.str [46])) (Qac (Qaf Qa0 (Qab 1) (Qab 0)) Qae)))))) (Qac (mC (.str [119,104,111,108,101])) Qae))))
  (Qat 2 (Qaf Qa0 (Qaf Qa0 (Qab 2) (QaB QaY (Qac (Qab 3) Qae))) (mC (.int 1)))))
theorem Qqs (r:List Nat) (hr:r.length≤1000) (p:Int) (o0:Option D) (acc:List D) (O:Qaa):Qdp (QcN (Qac (QaB QaY (Qac (Qab 3) Qae)) Qae)) 1 [2,3] (mgN 0) QdU (Qbj (Qac (Qaf gIx (Qab 2) (Qab 0)) (Qac (mC (.str [46])) (Qac (mC (.str [46])) (Qac (Qaf Qa0 (Qab 1) (Qab 0)) Qae))))) [o0,some (.lst acc),some (.int p),some (.str r)] O = .ok (.lst ((lets p r).map dL)) O:=by
 have z:=Qhe (g:=mgN 0) (t:=QdU) (m:=Qbj (Qac (Qaf gIx (Qab 2) (Qab 0)) (Qac (mC (.str [46])) (Qac (mC (.str [46])) (Qac (Qaf Qa0 (Qab 1) (Qab 0)) Qae))))) (fun ρ=>∃a,ρ = [a,some (.int p),some (.str r)]) (fun i:Nat=>D.int (0+(i:Int))) (fun k=>dL (r.getD k 0,46,46,p+(k:Int))) (List.range r.length) [none,some (.int p),some (.str r)] O [] ⟨none,rfl⟩ (by
  rintro k hk ρ ⟨a,rfl⟩;have hk':=List.mem_range.mp hk;refine ⟨_,rfl,⟨_,rfl⟩,rfl,?_⟩
  have g:gIx (.str r) (.int (0+(k:Int)))=some (.str [r.getD k 0]):=by
   rw [Int.zero_add,QpO,if_pos (by omega),Qke,zD hk',zW,zD hk'];rfl
  have ga:Qaf Qa0 (Qab 1) (Qab 0) [some (.int (0+(k:Int))),some (.int p),some (.str r)] O = .ok (.int (p+(k:Int))) O:=by
   rw [show p+(k:Int)=p+(0+(k:Int)) by omega];exact Qil rfl rfl
  exact QoP (maS (QbE (x:=.str r) (y:=.int (0+(k:Int))) rfl rfl g) (maS (x:=.str [46]) rfl (maS (x:=.str [46]) rfl (ma1 ga)))) (show (4:Nat)≤1000000 by decide))
 rw [zO] at z;rw [QoG,Qk3 (n:=r.length) (Qii rfl (by omega)) (by omega),Qaq,if_pos (by unfold QbL; rw [zB,List.length_range]; omega),show QgX 1 [2,3] [o0,some (.lst acc),some (.int p),some (.str r)] = [none,some (.int p),some (.str r)] from rfl];unfold QbL;rw [z,Qaq,←Qk8 r p,zX];rfl
theorem Qmx (o0:Option D) (O:Qaa):∀(rs:List (List Nat)) (p:Int) (acc:List D) (o3:Option D),(∀r∈rs,r.length≤1000)→acc.length+rs.length≤10000 →
  ∃p' p3,Qbh (mgN 3) bDu (rs.map D.str) [o0,some (.lst acc),some (.int p),o3] O = .nx [o0,some (.lst (acc++(QfQ p rs).map QaI)),some (.int p'),p3] O
 | [],p,acc,o3,_,_=>⟨p,o3,by simp [QfQ]; rfl⟩
 | r::rs,p,acc,o3,h,hl=>by
  have hr:=h r zu;rw [zk] at hl;have ap:=Qth (i:=1) (ds:=acc) (d:=QaI (lets p r)) (m:=Qbj (Qac (Qdp (QcN (Qac (QaB QaY (Qac (Qab 3) Qae)) Qae)) 1 [2,3] (mgN 0) QdU (Qbj (Qac (Qaf gIx (Qab 2) (Qab 0)) (Qac (mC (.str [46])) (Qac (mC (.str [46])) (Qac (Qaf Qa0 (Qab 1) (Qab 0)) Qae)))))) (Qac (mC (.str [119,104,111,108,101])) Qae))) (ρ:=[o0,some (.lst acc),some (.int p),some (.str r)]) (O:=O) (QoP (maS (Qqs r hr p o0 acc O) (ma1 rfl)) (show (2:Nat)≤1000000 by decide)) rfl (by omega);have s2:Qat 2 (Qaf Qa0 (Qaf Qa0 (Qab 2) (QaB QaY (Qac (Qab 3) Qae))) (mC (.int 1))) [o0,some (.lst (acc ++ [QaI (lets p r)])),some (.int p),some (.str r)] O = .nx [o0,some (.lst (acc ++ [QaI (lets p r)])),some (.int (p+r.length+1)),some (.str r)] O:=QfJ (Qil (Qil rfl (Qii rfl (by omega))) rfl)
  have e:bDu [o0,some (.lst acc),some (.int p),some (.str r)] O = .nx [o0,some (.lst (acc ++ [QaI (lets p r)])),some (.int (p+r.length+1)),some (.str r)] O:=by
   unfold bDu;rw [Qby ap];exact s2
  obtain ⟨p',p3,e2⟩:=Qmx o0 O rs (p+r.length+1) (acc ++ [QaI (lets p r)]) (some (.str r)) (fun x hx=>h x (zm _ hx)) (by simp; omega);refine ⟨p',p3,?_⟩;rw [zd,Qet (ρ1:=[o0,some (.lst acc),some (.int p),some (.str r)]) rfl e,e2];simp [QfQ]
theorem QlI:∀t:List Nat,(spl t).length≤t.length+1∧∀r∈spl t,r.length≤t.length
 | []=>⟨zc _,fun r hr=>by rw [zo.mp hr]; exact zc _⟩
 | c::t=>by
  obtain ⟨h1,h2⟩:=QlI t
  by_cases h:c=10
  ·rw [h,Qgx];refine ⟨by simp; omega,fun r hr=>?_⟩
   rcases zn.mp hr with rfl | hr
   ·exact Nat.zero_le _
   ·have:=h2 r hr
    simp; omega
  ·rw [Qin h]
   cases e:spl t with
   | nil=>exact absurd e (QoJ t)
   | cons w rs =>
    rw [e] at h1 h2;refine ⟨by simp [QkW] at h1 ⊢; omega,fun r hr=>?_⟩
    rcases zn.mp hr with rfl | hr
    ·have:=h2 w zu
     simp; omega
    ·have:=h2 r (zm _ hr)
     simp; omega
theorem QsT (l:List D) (x:D):Qb7 (l ++ [x]) none (some (-1))=l:=by
 unfold Qb7;rw [HT.sIx_none,List.drop_zero,Nat.sub_zero]
 have:HT.sIx (l ++ [x]).length (l ++ [x]).length (some (-1))=l.length:=by
  show (if (-1:Int) < 0 then ((-1:Int)+((l ++ [x]).length:Int)).toNat else min (-1:Int).toNat (l ++ [x]).length)=_;rw [if_pos (by decide),zw,jc];omega
 rw [this,List.take_left' rfl]
theorem Qtt (t:List Nat) (hl:t.length≤1000) (O:Qaa):QhK [.str t] O = .ok (.tup [.lst ((go 0 [] t).1.map QaI),.lst ((go 0 [] t).2.map dL)]) O:=by
 obtain ⟨s1,s2⟩:=QlI t;obtain ⟨p',p3,e⟩:=Qmx (some (.str t)) O (spl t) 0 [] none (fun r hr=>by have:=s2 r hr; omega) (by simp; omega);rw [zO,Qtg,zP,zd,zT] at e
 have ei:Qc9 (QiY (mG (Qab 0)) (mC (.str [10]))) [some (.str t),some (.lst []),some (.int 0),none] O = .ok ((spl t).map D.str) O:=by
  have x1:QiY (mG (Qab 0)) (mC (.str [10])) [some (.str t),some (.lst []),some (.int 0),none] O = .ok (.lst ((Qeh t [10]).map D.str)) O:=by
   show (if 1≤[10].length∧t.length≤1000000 then Res.ok (D.lst ((Qeh t [10]).map D.str)) O else .no)=_;rw [if_pos ⟨by decide,by omega⟩]
  rw [Qjj,x1,Qaq,Qhy,Qg4,Qql]
 show Qb4 (QfT [some (.str t),none,none,none] O)=_;unfold QfT;rw [Qby (show Qat 1 _ [some (.str t),none,none,none] O = .nx [some (.str t),some (.lst []),none,none] O from rfl),Qby (show Qat 2 _ [some (.str t),some (.lst []),none,none] O = .nx [some (.str t),some (.lst []),some (.int 0),none] O from rfl)];show Qb4 (Qan (QbX _ (mgN 3) bDu) _ _ _)=_;rw [Qby ((QkC ei).trans e)];have z1:=Qso (m:=Qab 1) (a:=moN) (b:=moS (mUn QjF (mC (.int 1)))) (ρ:=[some (.str t),some (.lst ((go 0 [] t).1.map QaI ++ [QaI (go 0 [] t).2])),some (.int p'),p3]) (O:=O) (t:=(go 0 [] t).1.map QaI ++ [QaI (go 0 [] t).2]) (x:=none) (y:=some (-1)) rfl rfl rfl
 rw [QsT] at z1;have z2:Qaf gIx (Qab 1) (mUn QjF (mC (.int 1))) [some (.str t),some (.lst ((go 0 [] t).1.map QaI ++ [QaI (go 0 [] t).2])),some (.int p'),p3] O = .ok (QaI (go 0 [] t).2) O:=QbE (x:=.lst ((go 0 [] t).1.map QaI ++ [QaI (go 0 [] t).2])) (y:=.int (-1)) rfl rfl Qq5;have z3:Qaf gIx (Qaf gIx (Qab 1) (mUn QjF (mC (.int 1)))) (mC (.int 0)) [some (.str t),some (.lst ((go 0 [] t).1.map QaI ++ [QaI (go 0 [] t).2])),some (.int p'),p3] O = .ok (.lst ((go 0 [] t).2.map dL)) O:=QbE (x:=QaI (go 0 [] t).2) (y:=.int 0) z2 rfl rfl;rw [QcV,QoP (maS z1 (ma1 z3)) (show (2:Nat)≤1000000 by decide),Qck]
 rfl
theorem Qnq:∀(t:List Nat) (p:Int) (row:List LT),Qez t→(∀x∈row,OkL x)→(∀r∈(go p row t).1,(∀x∈r,OkL x)∧r.length≤row.length+t.length)∧(∀x∈(go p row t).2,OkL x)
 | [],p,row,_,h=>⟨(fun r (hr:r∈[])=>nomatch hr),h⟩
 | c::t,p,row,hc,h=>by
  have hcc:=hc c zu
  have hct:Qez t:=fun x hx=>hc x (zm _ hx)
  unfold go
  by_cases h10:c=10
  ·rw [if_pos h10];obtain ⟨a,b⟩:=Qnq t (p+1) [] hct (fun x hx=>nomatch hx);refine ⟨fun r hr=>?_,b⟩
   rcases zn.mp hr with rfl | hr
   ·exact ⟨h,by omega⟩
   ·obtain ⟨a1,a2⟩:=a r hr;exact ⟨a1,by simp at a2 ⊢; omega⟩
  ·rw [if_neg h10]
   obtain ⟨a,b⟩:=Qnq t (p+1) (row ++ [(c,46,46,p)]) hct (fun x hx=>by
    rcases zA.mp hx with hx | hx
    ·exact h x hx
    ·rw [zo.mp hx]
     exact ⟨by show c≤125; omega,by show (46:Nat)≤125; decide,by show (46:Nat)≤125; decide⟩)
   exact ⟨fun r hr=>⟨(a r hr).1,by have:=(a r hr).2; simp at this ⊢; omega⟩,b⟩
def gP:MG:=(Qgg 2 (Qbq (mgN 2) (Qbq (mgN 3) Qeo)))
theorem Qmc {O:Qaa}{q n:Nat}{T:List D} (hq:O[q]? = some (.ml T)) (a0 a1:Option D):∀(rest:List D) (R:List (List LT)) (pre:List D) (o2 o3:Option D),T=pre++rest→Tol O n q rest R→(∀r∈R,∀x∈r,OkL x) →
  ∃o2' o3',QdK q gP Qlw pre.length (R.map QaI) [a0,a1,o2,o3] O = .nx [a0,a1,o2',o3'] O
 | [],[],pre,o2,o3,hT,_,_=>by
  refine ⟨o2,o3,?_⟩;rw [zR] at hT;show (match O[q]? with | some (.ml es)=>if es.length=pre.length then Fl.nx [a0,a1,o2,o3] O else .no | _=>.no)=_;rw [hq];dsimp only;rw [if_pos (by rw [hT])]
 | d::rest,r::R,pre,o2,o3,hT,⟨⟨m,hd,_,_,hm⟩,ht⟩,hok=>by
  subst hd;obtain ⟨o2',o3',e2⟩:=Qmc hq a0 a1 rest R (pre ++ [.tup [.ob m,.str Qav]]) (some (.tup [.ob m,.str Qav])) (some (QaI r)) (by rw [hT]; simp) ht (fun x hx=>hok x (zm _ hx));refine ⟨o2',o3',?_⟩;have lr:=QpM r (hok r zu) hm
  have eb:Qlw [a0,a1,some (.tup [.ob m,.str Qav]),some (QaI r)] O = .nx [a0,a1,some (.tup [.ob m,.str Qav]),some (QaI r)] O:=by
   have i0:gIx (.tup [.ob m,.str Qav]) (.int 0)=some (.ob m):=rfl;have i1:gIx (.tup [.ob m,.str Qav]) (.int 1)=some (.str Qav):=rfl;have i2:gIx (QaI r) (.int 0)=some (.lst (r.map dL)):=rfl;have i3:gIx (QaI r) (.int 1)=some (.str Qav):=rfl;have dd:QaK O (QaI r)=QaI r:=rfl;unfold Qlw;simp [i0,i1,i2,i3,dd,lr]
  have ti:T[pre.length]? = some (.tup [.ob m,.str Qav]):=by
   rw [hT,zv (zc _),Nat.sub_self];rfl
  rw [zd];unfold QdK;rw [hq];dsimp only;rw [ti];dsimp only;rw [show gP (.tup [.tup [.ob m,.str Qav],QaI r]) [a0,a1,o2,o3]=some [a0,a1,some (.tup [.ob m,.str Qav]),some (QaI r)] from rfl];dsimp only;rw [eb];dsimp only;rw [zw] at e2;exact e2
 | [],_::_,_,_,_,_,z,_=>z.elim
 | _::_,[],_,_,_,_,z,_=>z.elim
theorem QpC {O:Qaa}{q n:Nat}{T:List D}{R:List (List LT)} (hq:O[q]? = some (.ml T)) (h:Tol O n q T R) (hok:∀r∈R,∀x∈r,OkL x):Qcy [.ob q,.lst (R.map QaI)] O = .ok (.bl true) O:=by
 obtain ⟨o2,o3,e⟩:=Qmc hq (some (.ob q)) (some (.lst (R.map QaI))) T R [] none none rfl h hok;have dr:=QgV hq
 have t1:Qbz (QbJ (QcH "list" (Qab 0))) [some (.ob q),some (.lst (R.map QaI)),none,none] O = .ok false O:=by
  simp only [QgB,Qjg,Qnf,QbT,zx,Qaq,dr,Qme,QiM,Qmo,Qhd,Qim,QgN,Bool.not_true]
 have l0:QaB QaY (Qac (Qab 0) Qae) [some (.ob q),some (.lst (R.map QaI)),none,none] O = .ok (.int (T.length:Int)) O:=QiU (xs:=[.ob q]) (ma1 rfl) (by rw [zd,zT,dr,QoH]);have t2:QaD (Qaf gNe (QaB QaY (Qac (Qab 0) Qae)) (QaB QaY (Qac (Qab 1) Qae))) [some (.ob q),some (.lst (R.map QaI)),none,none] O = .ok false O:=Qjq (QbE l0 (Qtl rfl) (by rw [Qdj,Qdj,Qqc,zB,h.len,zK rfl]; rfl))
 have ez:Qgu (Qab 0) (Qab 1) gP Qlw [some (.ob q),some (.lst (R.map QaI)),none,none] O = .nx [some (.ob q),some (.lst (R.map QaI)),o2,o3] O:=by
  unfold Qgu;rw [show Qab 0 [some (.ob q),some (.lst (R.map QaI)),none,none] O = .ok (.ob q) O from rfl];dsimp only;rw [show Qab 1 [some (.ob q),some (.lst (R.map QaI)),none,none] O = .ok (.lst (R.map QaI)) O from rfl];dsimp only;rw [hq];exact e
 show Qb4 (Qcz [some (.ob q),some (.lst (R.map QaI)),none,none] O)=_;unfold Qcz;rw [Qby (ifN (Qnk t1 t2))];show Qb4 (Qan (Qgu (Qab 0) (Qab 1) gP Qlw) _ _ _)=_;rw [Qby ez];rfl
def MLb (O:Qaa) (n B:Nat):Prop:=∃ds,O[n]? = some (.ml ds)∧ds.length≤B
theorem MLb.app {O:Qaa}{n m B:Nat}{ds:List D}{d:D} (h:MLb O n B) (e:O[m]? = some (.ml ds)) (hl:ds.length≤B):MLb (O.set m (.ml (ds ++ [d]))) n (B+1):=by
 obtain ⟨es,e2,h2⟩:=h
 by_cases hm:m=n
 ·subst hm;exact ⟨_,gs' e,by simp; omega⟩
 ·exact ⟨es,by rw [ze hm]; exact e2,by omega⟩
def bAp:MS:=(QdJ (Qaf gIx (Qab 5) (mC (.int 0))) (Qbj (Qac (mC (.str [120])) (Qac (mC (.str [46])) (Qac (mC (.str [46])) (Qac (mC (.int 0)) Qae))))))
theorem Qmf {q no:Nat}{T:List D} (a0 a1 a2 a3 a4:Option D):∀(rest pre:List D) (O:Qaa) (o5:Option D) (B:Nat),T=pre++rest→O[q]? = some (.ml T)→(∀d∈rest,∃m w,d = .tup [.ob m,.str w]∧m≠q∧MLb O m B)→MLb O no B→B+rest.length≤100000 →
  ∃O' o5',QcB q T (mgN 5) bAp rest [a0,a1,a2,a3,a4,o5] O = .nx [a0,a1,a2,a3,a4,o5'] O'∧O'[q]? = some (.ml T)∧MLb O' no 100000
 | [],pre,O,o5,B,hT,hq,_,hn,hB=>by
  refine ⟨O,o5,?_,hq,?_⟩
  ·show (match O[q]? with | some (.ml es)=>if es.length=T.length then Fl.nx [a0,a1,a2,a3,a4,o5] O else .no | _=>.no)=_;rw [hq];dsimp only;rw [if_pos rfl]
  ·obtain ⟨ds,e,h⟩:=hn;exact ⟨ds,e,by simp at hB; omega⟩
 | d::rest,pre,O,o5,B,hT,hq,hm,hn,hB=>by
  obtain ⟨m,w,rfl,hmq,ds,em,hl⟩:=hm d zu;rw [zk] at hB;have eb:bAp [a0,a1,a2,a3,a4,some (.tup [.ob m,.str w])] O = .nx [a0,a1,a2,a3,a4,some (.tup [.ob m,.str w])] (O.set m (.ml (ds ++ [.tup [.str [120],.str [46],.str [46],.int 0]]))):=Qia (QbE (x:=.tup [.ob m,.str w]) (y:=.int 0) rfl rfl rfl) em rfl (by omega)
  have hq':(O.set m (.ml (ds ++ [.tup [.str [120],.str [46],.str [46],.int 0]])))[q]? = some (.ml T):=by rw [ze hmq]; exact hq
  obtain ⟨O',o5',e2,f1,f2⟩:=Qmf a0 a1 a2 a3 a4 rest (pre ++ [.tup [.ob m,.str w]]) _ (some (.tup [.ob m,.str w])) (B+1) (by rw [hT]; simp) hq' (fun d' hd'=>by
   obtain ⟨m',w',e',h1,h2⟩:=hm d' (zm _ hd')
   exact ⟨m',w',e',h1,h2.app em hl⟩) (hn.app em hl) (by omega)
  refine ⟨O',o5',?_,f1,f2⟩
  have ti:T[T.length - (rest.length+1)]? = some (.tup [.ob m,.str w]):=by
   have:T.length - (rest.length+1)=pre.length:=by rw [hT]; simp
   rw [this,hT,zv (zc _),Nat.sub_self];rfl
  unfold QcB;rw [hq];dsimp only;rw [ti];dsimp only;rw [show mgN 5 (.tup [.ob m,.str w]) [a0,a1,a2,a3,a4,o5]=some [a0,a1,a2,a3,a4,some (.tup [.ob m,.str w])] from rfl];dsimp only;rw [eb];exact e2
theorem Tol.mls {O:Qaa}{n q:Nat}{B:Nat}:∀{T:List D}{R:List (List LT)},Tol O n q T R→(∀r∈R,r.length≤B)→∀d∈T,∃m w,d = .tup [.ob m,.str w]∧m≠q∧MLb O m B
 | [],[],_,_,d,hd=>nomatch hd
 | d::T,r::R,⟨⟨m,e,_,h2,h3⟩,ht⟩,hB,d',hd=>by
  rcases zn.mp hd with rfl | hd
  ·exact ⟨m,_,e,h2,_,h3,by rw [zB]; exact hB r zu⟩
  ·exact Tol.mls ht (fun x hx=>hB x (zm _ hx)) d' hd
 | [],_::_,z,_,_,_=>z.elim
 | _::_,[],z,_,_,_=>z.elim
theorem Qk4:∀(t:List Nat) (p:Int) (row:List LT),(go p row t).1.length≤t.length∧(go p row t).2.length≤row.length+t.length
 | [],p,row=>⟨zc _,zc _⟩
 | c::t,p,row=>by
  unfold go
  by_cases h10:c=10
  ·rw [if_pos h10];obtain ⟨a,b⟩:=Qk4 t (p+1) [];exact ⟨by simp; exact a,by simp at b ⊢; omega⟩
  ·rw [if_neg h10];obtain ⟨a,b⟩:=Qk4 t (p+1) (row ++ [(c,46,46,p)]);exact ⟨by simp; omega,by simp at b ⊢; omega⟩
def bLw:MS:=(Qan (Qat 4 (QaA Qd4 (Qac (Qab 1) (Qac (mC (.int 200)) Qae))))
  (Qan (QaV (Qb3 (Qbz (QbJ (QcH "tuple" (Qab 4)))) (QaD (Qaf gNe (QaB QaY (Qac (Qab 4) Qae)) (mC (.int 2))))) (Qaw (mC (.bl false))) QaO)
  (Qan (QaV (Qb3 (Qbz (QbJ (QaA Qcy (Qac (Qaf gIx (Qab 4) (mC (.int 0))) (Qac (Qaf gIx (Qab 2) (mC (.int 0))) Qae))))) (Qbz (QbJ (QaA Qbg (Qac (Qaf gIx (Qab 4) (mC (.int 1))) (Qac (Qaf gIx (Qab 2) (mC (.int 1))) Qae)))))) (Qaw (mC (.bl false))) QaO)
  (Qan (Qej (Qaf gIx (Qab 4) (mC (.int 0))) (mgN 5) bAp)
  (Qan (QdJ (Qaf gIx (Qab 4) (mC (.int 0))) (Qbj (Qac (Qb2 Qae) (Qac (mC (.str [119,104,111,108,101])) Qae))))
  (QgF (Qaf gIx (Qab 4) (mC (.int 1)))))))))
theorem Qma (t:List Nat) (hc:Qez t) (hk:ok 0 t) (hl:t.length≤1000) (o0 o3 o4 o5:Option D) (O:Qaa):∃p4 p5 O',bLw [o0,some (.str t),some (.tup [.lst ((go 0 [] t).1.map QaI),.lst ((go 0 [] t).2.map dL)]),o3,o4,o5] O = .nx [o0,some (.str t),some (.tup [.lst ((go 0 [] t).1.map QaI),.lst ((go 0 [] t).2.map dL)]),o3,p4,p5] O':=by
 obtain ⟨O1,n,q,no,T,er,hq,td,hno,hnq⟩:=Qon t hc (by omega) hk O;obtain ⟨g1,g2⟩:=Qnq t 0 [] hc (fun x hx=>nomatch hx);obtain ⟨l1,l2⟩:=Qk4 t 0 [];have p1:=QpC hq td (fun r hr=>(g1 r hr).1);have p2:=QpM (go 0 [] t).2 g2 hno;have tl:=td.len;obtain ⟨O2,o5',ea,hq2,hn2⟩:=Qmf (q:=q) (no:=no) o0 (some (.str t)) (some (.tup [.lst ((go 0 [] t).1.map QaI),.lst ((go 0 [] t).2.map dL)])) o3 (some (.tup [.ob q,.ob no])) T [] O1 o5 1000 rfl hq (td.mls (fun r hr=>by have:=(g1 r hr).2; simp at this; omega)) ⟨_,hno,by rw [zB]; simp at l2; omega⟩ (by omega)
 have ef:Qej (Qaf gIx (Qab 4) (mC (.int 0))) (mgN 5) bAp [o0,some (.str t),some (.tup [.lst ((go 0 [] t).1.map QaI),.lst ((go 0 [] t).2.map dL)]),o3,some (.tup [.ob q,.ob no]),o5] O1 = .nx [o0,some (.str t),some (.tup [.lst ((go 0 [] t).1.map QaI),.lst ((go 0 [] t).2.map dL)]),o3,some (.tup [.ob q,.ob no]),o5'] O2:=by
  unfold Qej;rw [show Qaf gIx (Qab 4) (mC (.int 0)) [o0,some (.str t),some (.tup [.lst ((go 0 [] t).1.map QaI),.lst ((go 0 [] t).2.map dL)]),o3,some (.tup [.ob q,.ob no]),o5] O1 = .ok (.ob q) O1 from QbE (x:=.tup [.ob q,.ob no]) (y:=.int 0) rfl rfl rfl];dsimp only;rw [hq];exact ea
 have e5:QdJ (Qaf gIx (Qab 4) (mC (.int 0))) (Qbj (Qac (Qb2 Qae) (Qac (mC (.str [119,104,111,108,101])) Qae))) [o0,some (.str t),some (.tup [.lst ((go 0 [] t).1.map QaI),.lst ((go 0 [] t).2.map dL)]),o3,some (.tup [.ob q,.ob no]),o5'] O2 = .nx [o0,some (.str t),some (.tup [.lst ((go 0 [] t).1.map QaI),.lst ((go 0 [] t).2.map dL)]),o3,some (.tup [.ob q,.ob no]),o5'] (O2.set q (.ml (T ++ [.tup [.lst [],.str Qav]]))):=Qia (QbE (x:=.tup [.ob q,.ob no]) (y:=.int 0) rfl rfl rfl) hq2 rfl (by omega);obtain ⟨es,hes,_⟩:=hn2
 have hes':(O2.set q (.ml (T ++ [.tup [.lst [],.str Qav]])))[no]? = some (.ml es):=by rw [ze (Ne.symm hnq)]; exact hes
 refine ⟨some (.tup [.ob q,.ob no]),o5',(O2.set q (.ml (T ++ [.tup [.lst [],.str Qav]]))).set no (.ml []),?_⟩
 have e6:QgF (Qaf gIx (Qab 4) (mC (.int 1))) [o0,some (.str t),some (.tup [.lst ((go 0 [] t).1.map QaI),.lst ((go 0 [] t).2.map dL)]),o3,some (.tup [.ob q,.ob no]),o5'] (O2.set q (.ml (T ++ [.tup [.lst [],.str Qav]]))) = .nx [o0,some (.str t),some (.tup [.lst ((go 0 [] t).1.map QaI),.lst ((go 0 [] t).2.map dL)]),o3,some (.tup [.ob q,.ob no]),o5'] ((O2.set q (.ml (T ++ [.tup [.lst [],.str Qav]]))).set no (.ml [])):=by
  unfold QgF;rw [show Qaf gIx (Qab 4) (mC (.int 1)) [o0,some (.str t),some (.tup [.lst ((go 0 [] t).1.map QaI),.lst ((go 0 [] t).2.map dL)]),o3,some (.tup [.ob q,.ob no]),o5'] (O2.set q (.ml (T ++ [.tup [.lst [],.str Qav]]))) = .ok (.ob no) (O2.set q (.ml (T ++ [.tup [.lst [],.str Qav]]))) from QbE (x:=.tup [.ob q,.ob no]) (y:=.int 1) rfl rfl rfl];dsimp only;rw [hes']
 unfold bLw
 rw [Qby (show Qat 4 _ [o0,some (.str t),some (.tup [.lst ((go 0 [] t).1.map QaI),.lst ((go 0 [] t).2.map dL)]),o3,o4,o5] O = .nx [o0,some (.str t),some (.tup [.lst ((go 0 [] t).1.map QaI),.lst ((go 0 [] t).2.map dL)]),o3,some (.tup [.ob q,.ob no]),o5] O1 from Qto ((Qcm (ds:=[.str t,.int 200]) rfl).trans er)),
  Qby (ifN (Qnk (O1:=O1) rfl rfl)),
  Qby (ifN (Qnk (Qp4 ((Qcm (ds:=[.ob q,.lst ((go 0 [] t).1.map QaI)]) (maS (QbE (x:=.tup [.ob q,.ob no]) (y:=.int 0) rfl rfl rfl) (ma1 (QbE (x:=.tup [.lst ((go 0 [] t).1.map QaI),.lst ((go 0 [] t).2.map dL)]) (y:=.int 0) rfl rfl rfl)))).trans p1)) (Qp4 ((Qcm (ds:=[.ob no,.lst ((go 0 [] t).2.map dL)]) (maS (QbE (x:=.tup [.ob q,.ob no]) (y:=.int 1) rfl rfl rfl) (ma1 (QbE (x:=.tup [.lst ((go 0 [] t).1.map QaI),.lst ((go 0 [] t).2.map dL)]) (y:=.int 1) rfl rfl rfl)))).trans p2)))),
  Qby ef,Qby e5]
 exact e6
theorem Qlb (lo:Int) (n:Nat):QbL lo (n+1) = .int lo::QbL (lo+1) n:=by
 unfold QbL;rw [List.range_succ_eq_map,zd,zX];congr 1
 ·simp
 ·congr 1
  funext i
  simp only [Function.comp];congr 1
  push_cast
  omega
theorem Qpy (ns:List Int) (hn:ns.length≤63):∃O',Qqa [.lst (ns.map D.int)] [] = .ok (.bl true) O':=by
 obtain ⟨t,hc,hk,hl,et⟩:=Qrw ns [];have ed:=Qtt t hl [];obtain ⟨a4,a5,O1,e1⟩:=Qma t hc hk hl (some (.lst (ns.map D.int))) (some (.int 0)) none none [];obtain ⟨b4,b5,O2,e2⟩:=Qma t hc hk hl (some (.lst (ns.map D.int))) (some (.int (0+1))) a4 a5 O1
 have lp:Qbh (mgN 3) bLw (QbL 0 2) [some (.lst (ns.map D.int)),some (.str t),some (.tup [.lst ((go 0 [] t).1.map QaI),.lst ((go 0 [] t).2.map dL)]),none,none,none] [] = .nx [some (.lst (ns.map D.int)),some (.str t),some (.tup [.lst ((go 0 [] t).1.map QaI),.lst ((go 0 [] t).2.map dL)]),some (.int (0+1)),b4,b5] O2:=by
  rw [Qlb,Qet (ρ1:=[some (.lst (ns.map D.int)),some (.str t),some (.tup [.lst ((go 0 [] t).1.map QaI),.lst ((go 0 [] t).2.map dL)]),some (.int 0),none,none]) rfl e1,Qlb,Qet (ρ1:=[some (.lst (ns.map D.int)),some (.str t),some (.tup [.lst ((go 0 [] t).1.map QaI),.lst ((go 0 [] t).2.map dL)]),some (.int (0+1)),a4,a5]) rfl e2];rfl
 obtain ⟨O3,n,q,no,T,er,hq,td,hno,hnq⟩:=Qon [] (fun c hc=>nomatch hc) (by decide) trivial O2;have hT:T = []:=List.eq_nil_of_length_eq_zero td.len;subst hT;refine ⟨O3,?_⟩;show Qb4 (Qkv [some (.lst (ns.map D.int)),none,none,none,none,none] [])=_;unfold Qkv
 rw [Qby (show Qat 1 _ [some (.lst (ns.map D.int)),none,none,none,none,none] [] = .nx [some (.lst (ns.map D.int)),some (.str t),none,none,none,none] [] from QfJ ((Qcm (ds:=[.lst (ns.map D.int)]) rfl).trans et)),
  Qby (show Qat 2 _ [some (.lst (ns.map D.int)),some (.str t),none,none,none,none] [] = .nx [some (.lst (ns.map D.int)),some (.str t),some (.tup [.lst ((go 0 [] t).1.map QaI),.lst ((go 0 [] t).2.map dL)]),none,none,none] [] from QfJ ((Qcm (ds:=[.str t]) rfl).trans ed))]
 show Qb4 (Qan (QbX _ (mgN 3) bLw) _ _ _)=_;rw [Qby ((QkC (Qk3 (n:=2) rfl (by decide))).trans lp)]
 have eq:∀N:Nat,Qk2 false (N+2) (QaA Qd4 (Qac (mC (.str [])) (Qac (mC (.int 200)) Qae))) (Qbj (Qac (Qb2 Qae) (Qac (Qb2 Qae) Qae))) [some (.lst (ns.map D.int)),some (.str t),some (.tup [.lst ((go 0 [] t).1.map QaI),.lst ((go 0 [] t).2.map dL)]),some (.int (0+1)),b4,b5] O2 = .ok (.bl true) O3:=fun N=>by
  unfold Qk2;rw [Qcm (ds:=[.str [],.int 200]) rfl,er,Qaq,show Qbj (Qac (Qb2 Qae) (Qac (Qb2 Qae) Qae)) [some (.lst (ns.map D.int)),some (.str t),some (.tup [.lst ((go 0 [] t).1.map QaI),.lst ((go 0 [] t).2.map dL)]),some (.int (0+1)),b4,b5] O3 = .ok (.tup [.lst [],.lst []]) O3 from rfl,Qaq]
  have d1:QbK O3 (N+2) (.tup [.ob q,.ob no]) = .tup [.lst [],.lst []]:=by
   show D.tup [QbK O3 (N+1) (.ob q),QbK O3 (N+1) (.ob no)]=_
   have x1:QbK O3 (N+1) (.ob q) = .lst []:=by
    show (match O3[q]? with | some (.ml ds)=>D.lst (ds.map (QbK O3 N)) | _=>.ob q)=_;rw [hq];rfl
   have x2:QbK O3 (N+1) (.ob no) = .lst []:=by
    show (match O3[no]? with | some (.ml ds)=>D.lst (ds.map (QbK O3 N)) | _=>.ob no)=_;rw [hno];rfl
   rw [x1,x2]
  have d2:QbK O3 (N+2) (.tup [.lst [],.lst []]) = .tup [.lst [],.lst []]:=rfl;have ok:okE (.tup [.lst [],.lst []])=true:=rfl;rw [d1,d2,ok,QhS ok];rfl
 rw [QcV,eq,Qck];rfl
theorem all_mk {l:PySem.W.OpenLaw}{w:World}{K:PySem.W.Frag}{h:Heap}{mg:Str→Option Value}{fa:Addr} (X:K.In h) (G:h.Ns mainGlobals mg) (hfa:mg "law" = some (.ref fa))
  {QdP:Addr}
  {Qcb:Addr}
  {Qnx:Addr}{QrP QoF:Option Addr}{QrB:Array (Option Value)}{Qsc Qod QnI QnH Qlj Qn1:Value}
  {ad_PLAIN:Addr}{QkP:Value}{Qpq:Option Addr}{it_PLAIN:Array Value}{nn_PLAIN:Nat}{QpD:Array (Option Value)}
  (Z_Reader:ClsAt K "Reader" QdP)
  (Qks:PySem.W.findIn K (.ref QdP) "held" = some none)
  (QjM:PySem.W.findIn K (.ref QdP) "place" = some none)
  (Z_Maker:ClsAt K "Maker" Qcb)
  (Qis:PySem.W.findIn K (.ref Qcb) "last_word" = some none)
  (Qjd:PySem.W.findIn K (.ref Qcb) "letters" = some none)
  (QkL:PySem.W.findIn K (.ref Qcb) "most" = some none)
  (QkZ:PySem.W.findIn K (.ref Qcb) "pair" = some none)
  (Qkr:PySem.W.findIn K (.ref Qcb) "stale" = some none)
  (QhR:Def K mg "is_sign" QhJ)
  (Qgb:Def K mg "is_colour" Qgh)
  (QhE:Def K mg "checked" Qh4)
  (QhD:Def K mg "mark_of" QhO)
  (Qds:Def K mg "may_become_mark" QdB)
  (QgJ:Def K mg "own_item" Qg9)
  (Qf3:Def K mg "own_items" QeD)
  (M_Reader___init__:MethAt K QdP "__init__" "Reader.__init__" QdC)
  (M_Reader_take:MethAt K QdP "take" "Reader.take" Qe8)
  (M_Reader_feed:MethAt K QdP "feed" "Reader.feed" Qe2)
  (M_Reader_finish:MethAt K QdP "finish" "Reader.finish" Qei)
  (Qg6:Def K mg "items_of" Qg7)
  (Qe7:Def K mg "pair_behind" QeY)
  (Qhg:Def K mg "is_whole" QgQ)
  (Qgk:Def K mg "is_within" Qgi)
  (M_Maker_begin_row:MethAt K Qcb "begin_row" "Maker.begin_row" QdE)
  (M_Maker___init__:MethAt K Qcb "__init__" "Maker.__init__" QdQ)
  (M_Maker_tell:MethAt K Qcb "tell" "Maker.tell" Qfv)
  (M_Maker_empty_stale:MethAt K Qcb "empty_stale" "Maker.empty_stale" Qc3)
  (M_Maker_add_letter:MethAt K Qcb "add_letter" "Maker.add_letter" Qdd)
  (M_Maker_put:MethAt K Qcb "put" "Maker.put" Qgo)
  (M_Maker_open_letters:MethAt K Qcb "open_letters" "Maker.open_letters" QcS)
  (Qhs:Def K mg "rows_of" Qhv)
  (QhQ:Def K mg "_law_mix" QhF)
  (Qf5:Def K mg "_law_signs" Qf8)
  (Qf1:Def K mg "_law_whole" Qgs)
  (Qc7:Def K mg "_law_letters_right" Qcj)
  (Qdw:Def K mg "_law_parts_right" QdA)
  (Qh3:Def K mg "_law_run" QfS)
  (Qhb:Def K mg "_law_text" QgY)
  (QhG:Def K mg "_law_due" QfL)
  (Qnm:PySem.W.nsIn K mainGlobals "law" = some (some (.ref Qnx))) (QpX:K.lookup Qnx=some ⟨Qsc,QrP,.func (PySem.W.fnOf "law" "law" (QbW QeC) (Qa4 QeC) (Qaj QeC) .none Qod QnI QnH QoF Qlj Qn1),QrB⟩) (Qsg:PySem.W.codeIn K Qlj "law" = true) (Qub:PySem.W.keepIn K (.ref Qnx)=true)
  (B:Blt mg)
  (Qc1:∃u,mg "ANEW_SIGN" = some u∧RelV (.str (S [9])) u)
  (QhU:∃u,mg "COLOURS" = some u∧RelV (.str (S [97,98,99,100,101,102,103,104,46])) u)
  (Qfs:∃u,mg "FIRST_SIGN" = some u∧RelV (.str (S [32])) u)
  (Qer:∃u,mg "GREATEST_MOST" = some u∧RelV (.int 200) u)
  (Qgd:∃u,mg "LAST_SIGN" = some u∧RelV (.str (S [125])) u)
  (QoI:PySem.W.nsIn K mainGlobals "PLAIN" = some (some (.ref ad_PLAIN))) (Qox:K.lookup ad_PLAIN=some ⟨QkP,Qpq,.seq it_PLAIN nn_PLAIN,QpD⟩) (t_c_PLAIN:QkP = .type "tuple") (Qn6:it_PLAIN.size≤sizeLine) (v_c_PLAIN:Qar (List.map (fun l=>V.str (S l)) [[46],[46]]) it_PLAIN.toList)
  (Qd1:∃u,mg "ROW_END" = some u∧RelV (.str (S [10])) u) :
  ∃fd:FuncData,(∀(s:Shared) (v:Value),BindsTo s fd ⟨[v],[]⟩ [("_law_script",v)])∧∀base:Heap,K.In base→base.Ns mainGlobals mg→Qbp l.prog w K mg base CX0 7 fa fd ["_law_script"] (sp_law K):=by
 have e:=hfa.symm.trans (PySem.W.mg_of X G Qnm);cases e;have QaN:=Z_Reader.kf X G Qks;have Qa9:=Z_Reader.kf X G QjM;have QbQ:=Z_Maker.kf X G Qis;have QaG:=Z_Maker.kf X G Qjd;have QcF:=Z_Maker.kf X G QkL;have Qbo:=Z_Maker.kf X G QkZ;have Qbc:=Z_Maker.kf X G Qkr;have QdD:=Z_Reader.dc X G M_Reader___init__;have Qe6:=Z_Reader.dm X G M_Reader_take;have Qe4:=Z_Reader.dm X G M_Reader_feed;have Qen:=Z_Reader.dm X G M_Reader_finish;have Qdy:=Z_Maker.dm X G M_Maker_begin_row;have QdT:=Z_Maker.dc X G M_Maker___init__;have QfD:=Z_Maker.dm X G M_Maker_tell;have Qc5:=Z_Maker.dm X G M_Maker_empty_stale;have Qdh:=Z_Maker.dm X G M_Maker_add_letter
 have Qgm:=Z_Maker.dm X G M_Maker_put;have QcQ:=Z_Maker.dm X G M_Maker_open_letters;have QmI:Def K mg "law" QeC:=⟨_,_,PySem.W.mg_of X G Qnm,Qlh (st:=QeC) QpX Qsg Qub⟩;have Qfp:Qm7 K mg "PLAIN" [[46],[46]]:=⟨ad_PLAIN,_,it_PLAIN,nn_PLAIN,PySem.W.mg_of X G QoI,Qox,t_c_PLAIN,rfl,Qn6,v_c_PLAIN⟩;refine ⟨PySem.W.fnOf "law" "law" (QbW QeC) (Qa4 QeC) (Qaj QeC) .none Qod QnI QnH QoF Qlj Qn1,fun s v=>.of_eq rfl,fun base _ _=>?_⟩;have Qhp:=@Qm9 l.prog w K mg base QhR B Qfs Qgd;have Qca:=@QkN l.prog w K mg base Qgb B QhU;have Qhw:=@QmV l.prog w K mg base QhE B Qc1 Qd1 Qhp;have QhP:=@Qnb l.prog w K mg base QhD B Qca
 have QdF:=@QhM l.prog w K mg base Qds B Qca;have QgK:=@QlW l.prog w K mg base QgJ B Qc1 Qd1;have Qcv:=@Qlt l.prog w K mg base Qf3 B QgK;have Qdu:=@Qh1 l.prog w K mg base QdD B QaN Qa9;have Qe5:=@Qjx l.prog w K mg base Qe6 B Qa9 QaN QdF QhP Qcv;have QeZ:=@QjL l.prog w K mg base Qe4 B Qhw Qe5;have Qeb:=@QiG l.prog w K mg base Qen B QaN Qa9 Qcv;have Qhh:=@QlV l.prog w K mg base Qg6 B Qdu QeZ Qeb;have QeX:=@QjG l.prog w K mg base Qe7 B Qfp;have Qg8:=@QlX l.prog w K mg base Qhg B;have Qga:=@Qlv l.prog w K mg base Qgk B Qg8;have QdG:=@Qhq l.prog w K mg base Qdy B Qfp QaG Qbo Qbc;have QdS:=@Qir l.prog w K mg base QdT B Qer QcF QbQ Qga QdG
 have QcD:=@Qkp l.prog w K mg base QfD B QaG QbQ;have Qc8:=@Qg3 l.prog w K mg base Qc5 B Qbc QaG;have Qde:=@Qho l.prog w K mg base Qdh B QcF QaG Qbo QcD;have Qgl:=@QkR l.prog w K mg base Qgm B Qbo Qbc QcD Qc8 Qde QeX;have QcR:=@QgC l.prog w K mg base QcQ B QaG;have QfM:=@Qnv l.prog w K mg base Qhs B QdS Qhh Qgl QcR;have Qd3:=@Qm6 l.prog w K mg base QhQ B;have Qf6:=@QlB l.prog w K mg base Qf5 B;have Qgr:=@QlC l.prog w K mg base Qf1 B;have Qbt:=@QgI l.prog w K mg base Qc7 B Qgr;have Qdx:=@Qht l.prog w K mg base Qdw B Qbt;have Qhx:=@QmU l.prog w K mg base Qh3 B Qf6 Qd3;have Qg0:=@QlU l.prog w K mg base Qhb B Qhx
 have Qh2:=@Qnp l.prog w K mg base QhG B;have Qtz:=@QrD l.prog w K mg base QmI B Qg0 Qh2 QfM Qdx Qbt;obtain ⟨f',fd',hm',hk',hb',F',oc',od',osl',lk'⟩:=Qtz;have e2:=(PySem.W.mg_of X G Qnm).symm.trans hm';cases e2;have e3:=QpX.symm.trans lk';cases e3;exact F'.imp (QqG Qpy)
theorem walk {l:PySem.W.OpenLaw}{q:Program}{loose:List Str}{XP:(Str→Option Value)→Heap→Prop}{YP:World→Heap→Prop}{d:DefRec}{K:Params→PySem.W.Frag} (hn:l.most=some 63) (hdf:d.params.defaults = [])
  (hY:∀(w:World) (h:Heap),YP w h→(K w.params).In h)
  (F:∀(w:World) (mg:Str→Option Value) (fa:Addr) (h:Heap),(K w.params).In h→h.Ns mainGlobals mg→mg d.name=some (.ref fa) →
   ∃fd:FuncData,(∀(s:Shared) (u:Value),BindsTo s fd ⟨[u],[]⟩ [("_law_script",u)])∧∀base:Heap,(K w.params).In base→base.Ns mainGlobals mg→Qbp l.prog w (K w.params) mg base CX0 7 fa fd ["_law_script"] (sp_law (K w.params))) :
  PySem.W.WalkO q loose XP YP l.row.toRowW d [] (fun f vs=>PySem.call f vs) :=
 L2.walk_ofR (n:=63) (k:=7) (x:="_law_script") (CX:=fun _=>CX0) (sp:=fun w=>sp_law (K w.params)) hn (by decide) hdf ⟨rfl,by decide,by decide⟩ hY F (fun _ _ a ns hl ho hS=>⟨a,ns,rfl,hS,hl,ho,fun _=>rfl⟩) fun _ _ _ _ _ z=>z
end K21
open PySem PySem.W PyProof.Rows L2
set_option maxRecDepth 100000 in
set_option maxHeartbeats 0 in
theorem PySem.Challenge.cw_outweave_k21_plain_rows_holds : PySem.Challenge.rw_outweave_k21_plain_rows.Holds := by
 w_on; o_law; k_head; (case hw=>w_witness2)
 k_fill
 refine K21.walk (l:=PySem.Challenge.rw_outweave_k21_plain_rows) rfl rfl (fun w h Y=>PySem.W.kIn_of Y) ?F
 case F =>
  intro w mg fa h KX G hmg
  refine' K21.all_mk KX G hmg ⟨?x1,?x2,?x3,?x4,?x5,?x6,?x7⟩ ?x8 ?x9 ⟨?x10,?x11,?x12,?x13,?x14,?x15,?x16⟩ ?x17 ?x18 ?x19 ?x20 ?x21 (mkD KX G ?x22 ?x23 ?x24 ?x25) (mkD KX G ?x26 ?x27 ?x28 ?x29) (mkD KX G ?x30 ?x31 ?x32 ?x33) (mkD KX G ?x34 ?x35 ?x36 ?x37) (mkD KX G ?x38 ?x39 ?x40 ?x41) (mkD KX G ?x42 ?x43 ?x44 ?x45) (mkD KX G ?x46 ?x47 ?x48 ?x49) (mkM ?x50 ?x51 ?x52 ?x53 ?x54) (mkM ?x55 ?x56 ?x57 ?x58 ?x59) (mkM ?x60 ?x61 ?x62 ?x63 ?x64) (mkM ?x65 ?x66 ?x67 ?x68 ?x69) (mkD KX G ?x70 ?x71 ?x72 ?x73) (mkD KX G ?x74 ?x75 ?x76 ?x77) (mkD KX G ?x78 ?x79 ?x80 ?x81) (mkD KX G ?x82 ?x83 ?x84 ?x85) (mkM ?x86 ?x87 ?x88 ?x89 ?x90) (mkM ?x91 ?x92 ?x93 ?x94 ?x95) (mkM ?x96 ?x97 ?x98 ?x99 ?x100) (mkM ?x101 ?x102 ?x103 ?x104 ?x105) (mkM ?x106 ?x107 ?x108 ?x109 ?x110) (mkM ?x111 ?x112 ?x113 ?x114 ?x115) (mkM ?x116 ?x117 ?x118 ?x119 ?x120) (mkD KX G ?x121 ?x122 ?x123 ?x124) (mkD KX G ?x125 ?x126 ?x127 ?x128) (mkD KX G ?x129 ?x130 ?x131 ?x132) (mkD KX G ?x133 ?x134 ?x135 ?x136) (mkD KX G ?x137 ?x138 ?x139 ?x140) (mkD KX G ?x141 ?x142 ?x143 ?x144) (mkD KX G ?x145 ?x146 ?x147 ?x148) (mkD KX G ?x149 ?x150 ?x151 ?x152) (mkD KX G ?x153 ?x154 ?x155 ?x156) ?x157 ?x158 ?x159 ?x160 ⟨PySem.W.mg_none_of KX G ?x161,PySem.W.mg_none_of KX G ?x162,PySem.W.mg_none_of KX G ?x163,PySem.W.mg_none_of KX G ?x164,PySem.W.mg_none_of KX G ?x165,PySem.W.mg_none_of KX G ?x166,PySem.W.mg_none_of KX G ?x167,PySem.W.mg_none_of KX G ?x168,PySem.W.mg_none_of KX G ?x169,PySem.W.mg_none_of KX G ?x170,PySem.W.mg_none_of KX G ?x171,PySem.W.mg_none_of KX G ?x172,PySem.W.mg_none_of KX G ?x173,PySem.W.mg_none_of KX G ?x174,PySem.W.mg_none_of KX G ?x175⟩ ⟨_,PySem.W.mg_of KX G ?x176,?x177⟩ ⟨_,PySem.W.mg_of KX G ?x178,?x179⟩ ⟨_,PySem.W.mg_of KX G ?x180,?x181⟩ ⟨_,PySem.W.mg_of KX G ?x182,?x183⟩ ⟨_,PySem.W.mg_of KX G ?x184,?x185⟩ ?x186 ?x187 ?x188 ?x189 ?x190 ⟨_,PySem.W.mg_of KX G ?x191,?x192⟩
  (case x1 | x2 | x3 | x4 | x5 | x6 | x7 | x8 | x9 | x10 | x11 | x12 | x13 | x14 | x15 | x16 | x17 | x18 | x19 | x20 | x21 | x22 | x23 | x24 | x25 | x26 | x27 | x28 | x29 | x30 | x31 | x32 | x33 | x34 | x35 | x36 | x37 | x38 | x39 | x40 | x41 | x42 | x43 | x44 | x45 | x46 | x47 | x48 | x49 | x50 | x51 | x52 | x53 | x54 | x55 | x56 | x57 | x58 | x59 | x60 | x61 | x62 | x63 | x64 | x65 | x66 | x67 | x68 | x69 | x70 | x71 | x72 | x73 | x74 | x75 | x76 | x77 | x78 | x79 | x80 | x81 | x82 | x83 | x84 | x85 | x86 | x87 | x88 | x89 | x90 | x91 | x92 | x93 | x94 | x95 | x96 | x97 | x98 | x99 | x100 | x101 | x102 | x103 | x104 | x105 | x106 | x107 | x108 | x109 | x110 | x111 | x112 | x113 | x114 | x115 | x116 | x117 | x118 | x119 | x120 | x121 | x122 | x123 | x124 | x125 | x126 | x127 | x128 | x129 | x130 | x131 | x132 | x133 | x134 | x135 | x136 | x137 | x138 | x139 | x140 | x141 | x142 | x143 | x144 | x145 | x146 | x147 | x148 | x149 | x150 | x151 | x152 | x153 | x154 | x155 | x156 | x157 | x158 | x159 | x160 | x161 | x162 | x163 | x164 | x165 | x166 | x167 | x168 | x169 | x170 | x171 | x172 | x173 | x174 | x175 | x176 | x178 | x180 | x182 | x184 | x186 | x187 | x191=>k_is)
  (case x177 | x179 | x181 | x183 | x185 | x192=>exact ⟨_,rfl⟩)
  (case x188=>rfl)
  (case x189=>decide +kernel)
  (case x190=>repeat (first | exact .nil | refine .cons ⟨_,rfl⟩ ?_))
