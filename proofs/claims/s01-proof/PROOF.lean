import PyProof.Rows.All
import Wide.All
import OpenK.AllK
import Open.SpecLaws
import KE.OsHead
import KE.OsGo
import PySem.Challenge.RW_nearsquares_s01_answers
import Wide.FinOn
import PyProof.EqAt
import PyProof.EqKinds
import PyProof.TupleCall
import KE.BitLaws
import KE.KMinKey
import KE.KLam
import KE.IntBitsLaws
import PyProof.P3In
set_option Elab.async false
set_option maxRecDepth 100000
set_option linter.all false
section
namespace Nh
open PySem PySem.W
structure LS where
 os:List Obj
 n:Nat
 t:Nat
 es:List DictEntry
 cs:List Value
 mv:Value
noncomputable def i0(k:Nat):Value:=.int k 0
noncomputable def Iw(l:List Value):Obj:=⟨.type "tuple",none,.seq l.toArray 0,#[]⟩
noncomputable def Iz(c:Value)(l:List Value):Obj:=⟨c,none,.fields l.toArray,#[]⟩
noncomputable def aaP:List Str->Nat->List Value
 |[],_=>[]
 |x::r,t=> .str x t::aaP r (t+1)
noncomputable def qU(F q f:Str)(line argc:Nat)(fl:Nat)(opt:Bool)(t k a:Nat)(b:List Value):Obj:=
 Iz (.type "code") ([.str q t,.str f (t+1),.str F (t+2),i0 line,i0 argc,i0 0,i0 0,i0 fl,.ref a,.bool opt,i0 181,.ref (a+1),.none]++b++[i0 (t+3+k),i0 line,.str F (t+4+k)])
noncomputable def locals(sc:Scope):Option (List Str):=if sc.more.isEmpty then some (sc.names.filterMap fun x=>match x.2 with|.local=>some x.1|_=>none)else none
noncomputable def af5(F:Str)(mv:Value)(name qual:Str)(args:Arguments)(body:List Stmt)(sc:Scope)(pos:Pos)(a t:Nat):List Obj×Nat×Nat:=
 let fn (c:Value) (g:Nat) (m cd:Value):Obj:=⟨c,none,.func { name:=name,qualname:=qual,params:=args,body:=.stmts body,scope:=sc,globals:=g,closure:=[],defaults:=.none,kwdefaults:=.none,pyModule:=m,code:=cd },#[]⟩
 match locals sc with
 |some l=>([Iw [],Iz .none [],Iw (aaP l (t+3)),Iw [],fn .none 0 .none .none,qU F name qual pos.line args.args.length 3 true t l.length a [.ref (a+2),.ref (a+3),.ref (a+4)],fn (.type "function") 3 mv (.ref (a+5))],a+6,5+l.length)
 |none=>([Iw [],Iz .none [],fn .none 0 .none .none,qU F name qual pos.line args.args.length 3 true t 0 a [.none,.none,.ref (a+2)],fn (.type "function") 3 mv (.ref (a+3))],a+4,5)
noncomputable def ent(P:Params)(k:Str)(t:Nat)(v:Value):DictEntry:={ hash:=PyData.keyHash P k,key:=.str k t,val:=v }
noncomputable def LS.bind(P:Params)(s:LS)(x:Str)(v:Value):LS:={ s with es:=ent P x s.t v::s.es,t:=s.t+1 }
noncomputable def ahO:Expr->Nat->Value×Nat
 |.Constant (.int i) _ _,t=>(.int i t,t+1)
 |.UnaryOp _ (.Constant (.int i) _ _) _,t=>(.int (-i) (t+1),t+2)
 |_,t=>(.none,t)
noncomputable def find(es:List DictEntry)(x:Str):Value:=match es.find? fun e=>match e.key with|.str y _=>decide (y=x)|_=>false with|some e=>e.val|none=> .none
noncomputable def Vg(es:List DictEntry):List Expr->Nat->List Value×Nat
 |[],t=>([],t)
 |.Name x _::r,t=>let q:=Vg es r t;(find es x::q.1,q.2)
 |e::r,t=>let v:=ahO e t;let q:=Vg es r v.2;(v.1::q.1,q.2)
noncomputable def tableV(es:List DictEntry):List (Option Expr)->List Expr->Nat->Nat->List DictEntry×List Obj×Nat
 |some k::ks,.Tuple el _ _::vs,a,t=>let kv:=ahO k t;let q:=Vg es el kv.2;let r:=tableV es ks vs (a+1) q.2
  ({ hash:=(match kv.1 with|.int i _=>hashInt i|_=>0),key:=kv.1,val:=.ref a }::r.1,Iw q.1::r.2.1,r.2.2)
 |_,_,_,t=>([],[],t)
noncomputable def Vh(P:Params)(F:Str)(mv:Value)(cn:Str):List Stmt->Nat->Nat->List Obj×List Value×List DictEntry×Nat×Nat
 |.FunctionDef x args body _ _ _ sc _ _ pos::r,a,t=>
  let f:=af5 F mv x (cn++"."++x) args body sc pos a t
  let q:=Vh P F mv cn r (a+f.1.length) (t+f.2.2+1)
  (f.1++q.1,[i0 pos.line,i0 pos.col,.ref (f.2.1-1)]++q.2.1,ent P x (t+f.2.2) (.ref f.2.1)::q.2.2.1,q.2.2.2)
 |_::r,a,t=>Vh P F mv cn r a t
 |[],a,t=>([],[],[],a,t)
noncomputable def lay(P:Params)(F:Str)(s:LS):Stmt->LS
 |.Assign [.Name x _] (.Constant (.str v) _ _) _=>{ s with mv:=.str v s.t,t:=s.t+2 }
 |.Assign [.Name x _] (.Dict ks vs _) _=>
  let r:=tableV s.es ks vs (s.n+1) s.t
  LS.bind P { s with os:=r.2.1.reverse++(⟨.type "dict",none,.dict r.1.toArray r.1.length,#[]⟩::s.os),n:=s.n+1+r.1.length,t:=r.2.2+r.1.length } x (.ref s.n)
 |.Assign [.Name x _] e _=>let v:=ahO e s.t;LS.bind P { s with t:=v.2 } x v.1
 |.FunctionDef x args body _ _ _ sc _ _ pos=>
  let f:=af5 F s.mv x x args body sc pos s.n s.t
  LS.bind P { s with os:=f.1.reverse++s.os,n:=s.n+f.1.length,t:=s.t+f.2.2,cs:=.ref (f.2.1-1)::i0 pos.col::i0 pos.line::s.cs } x (.ref f.2.1)
 |.ClassDef x _ _ body _ _ _ _ _ st pos=>
  let a:=s.n;let t:=s.t
  let m:=Vh P F s.mv x body (a+7) (t+12)
  let b:=m.2.2.2.1;let u:=m.2.2.2.2;let k:=st.length
  let e1:=ent P "__module__" (t+7) s.mv
  let e3:=ent P "__firstlineno__" (t+11) (.int pos.line (t+10))
  let e4:=ent P "__static_attributes__" (u+k) (.ref b)
  let es:=[e1,ent P "__qualname__" (t+9) (.str x (t+8)),e3]++m.2.2.1++[e4]
  let ds:=[e1,e3]++m.2.2.1++[e4,ent P "__dict__" (u+k+2) (.ref (b+3)),ent P "__weakref__" (u+k+4) (.ref (b+4)),ent P "__doc__" (u+k+5) .none]
  let c:=b+2
  let o:=[Iw [],Iz (.type "builtin_function_or_method") [.builtin "type.__prepare__",.type "type"],⟨.type "dict",none,.dict es.toArray es.length,#[]⟩,Iw [],Iz .none m.2.1,
   qU F x x pos.line 0 0 false (t+2) 0 (a+3) [.none,.none,.none],
   ⟨.type "frame",none,.plain,#[some (.ref (a+5)),some (.ref 3),some (.ref (a+2)),none,some s.mv,none,some (.ref 0)]⟩]++m.1++
   [Iw (aaP st u),⟨.type "dict",none,.dict ds.toArray 4,#[]⟩,
    ⟨.type "type",none,.cls { name:=x,bases:=[.type "object"],mro:=[.ref c,.type "object"],ns:=b+1,qualname:=x },#[none,none,some (.str x t),some (.str x (t+8)),some (.builtin "object.__new__"),some (.bool true)]⟩,
    Iz (.type "getset_descriptor") [.str "__dict__" (u+k+1),.ref c,.builtin "function.__dict__",.builtin "function.__dict__#set"],
    Iz (.type "getset_descriptor") [.str "__weakref__" (u+k+3),.ref c,.builtin "ExceptionGroup.__weakref__",.none],
    Iz (.type "super") [.ref c,.ref c,.ref c],Iz (.type "builtin_function_or_method") [.builtin "object.__init_subclass__",.ref c]]
  LS.bind P { s with os:=o.reverse++s.os,n:=b+7,t:=u+k+7,cs:=.ref (a+5)::i0 pos.col::i0 pos.line::s.cs } x (.ref c)
 |_=>s
noncomputable def lays(P:Params)(F:Str):List Stmt->LS->LS
 |[],s=>s
 |x::r,s=>lays P F r (lay P F s x)
noncomputable def ls0:LS:=⟨[],15,187,[],[],.str "__main__" 164⟩
end Nh
end
section
set_option maxHeartbeats 0
namespace Nh
open PySem PySem.W
abbrev F0:Str:="/claim/cut.py"
noncomputable def d3(P:Params)(s:LS):Obj:=
 let l:=[ent P "__name__" 165 s.mv,ent P "__doc__" 166 .none,ent P "__package__" 167 .none,ent P "__loader__" 168 (.builtin "__main__.__loader__#opaque"),ent P "__spec__" 169 .none,ent P "__annotations__" 170 (.ref 6),
  ent P "__builtins__" 171 (.ref 4),ent P "__file__" 173 (.str F0 172),ent P "__cached__" 174 .none]++s.es.reverse
 ⟨.type "dict",none,.dict l.toArray l.length,#[]⟩
noncomputable def objs(P:Params)(s:LS):List Obj:=
 [boot_o_0 P,boot_o_1 P,boot_o_2 P,d3 P s,boot_o_4 P,boot_o_5 P,boot_o_6 P,boot_o_7 P,boot_o_8 P,boot_o_9 P,boot_o_10 P,Iw [],Iz .none s.cs.reverse,
   qU F0 "<module>" "<module>" 1 0 0 false 182 0 11 [.none,.none,.none],
   ⟨.type "frame",none,.plain,#[some (.ref 13),some (.ref 3),some (.ref 3),none,some (.str "__main__" 164),none,some (.ref 0)]⟩]++s.os.reverse
noncomputable def Qp{α:Type}:List α->List α
 |a::_::r=>a::Qp r
 |[a]=>[a]
 |[]=>[]
noncomputable def treeOf:Nat->List Obj->BT
 |k+1,v::r=> .node v (treeOf k (Qp r)) (treeOf k (Qp r.tail))
 |_,_=> .nil
noncomputable def stT(p:Program)(w:World)(os:OsState)(j:Nat):SharedT:=
 let s:=lays w.params F0 ((behindTheImports p).take j) ls0
 ⟨treeOf 12 (objs w.params s),s.n,{},Array.mk [],boot_drawn,s.t,os⟩
noncomputable abbrev envE(p:Program):Env:={ scope:=p.main.scope,locals:=mainNs,globals:=mainNs,cells:=[],code:=.ref 13,frame:=some 14 }
noncomputable abbrev cE(p:Program):Code:=.body (behindTheImports p) (envE p)
noncomputable abbrev sts(p:Program)(a n:Nat):List Stmt:=((behindTheImports p).drop a).take n
noncomputable def zf:Nat->List Obj->BT
 |k+1,v::r=> .node v (zf k (Qp r)) (zf k (Qp r.tail))
 |0,_=> .nil
 |_+1,[]=> .nil
theorem Af:∀(k:Nat)(l:List Obj),zf k l=treeOf k l
 |0,l=>by cases l<;>rfl
 |k+1,[]=>rfl
 |k+1,v::r=>by
  show BT.node v (zf k (Qp r)) (zf k (Qp r.tail))=BT.node v (treeOf k (Qp r)) (treeOf k (Qp r.tail))
  rw[Af k,Af k]
noncomputable def YK{α:Type}:List α->List α->List α
 |[],l=>l
 |a::r,l=>YK r (a::l)
theorem Qq{α:Type}:∀(a l:List α),YK a l=a.reverse++l
 |[],l=>rfl
 |a::r,l=>by
  show YK r (a::l)=_
  rw[Qq r,List.reverse_cons,List.append_assoc];rfl
noncomputable def aaQ{α:Type}:List α->List α->List α
 |[],l=>l
 |a::r,l=>a::aaQ r l
theorem Qs{α:Type}:∀(a l:List α),aaQ a l=a++l
 |[],l=>rfl
 |a::r,l=>by show a::aaQ r l=_;rw[Qs r];rfl
noncomputable def adP{α:Type}(l:List α):Array α:=Array.mk l
noncomputable def af6:Value->Value
 |.str v t=> .str v t
 |x=>x
theorem aaR(v:Value):af6 v=v:=by cases v<;>rfl
noncomputable def d3E(P:Params)(s:LS):Obj:=
 let l:=aaQ [ent P "__name__" 165 (af6 s.mv),ent P "__doc__" 166 .none,ent P "__package__" 167 .none,ent P "__loader__" 168 (.builtin "__main__.__loader__#opaque"),ent P "__spec__" 169 .none,ent P "__annotations__" 170 (.ref 6),
  ent P "__builtins__" 171 (.ref 4),ent P "__file__" 173 (.str F0 172),ent P "__cached__" 174 .none] (YK s.es [])
 ⟨.type "dict",none,.dict (adP l) l.length,#[]⟩
theorem ahP(P:Params)(s:LS):d3E P s=d3 P s:=by
 unfold d3E d3 adP
 simp only[Qs,Qq,List.append_nil,aaR]
noncomputable def RQ(b:Params->Obj)(P:Params)(s:LS):List Obj:=
 aaQ [b P,boot_o_1 P,boot_o_2 P,d3E P s,boot_o_4 P,boot_o_5 P,boot_o_6 P,boot_o_7 P,boot_o_8 P,boot_o_9 P,boot_o_10 P,Iw [],⟨.none,none,.fields (adP (YK s.cs [])),#[]⟩,
  qU F0 "<module>" "<module>" 1 0 0 false 182 0 11 [.none,.none,.none],
  ⟨.type "frame",none,.plain,#[some (.ref 13),some (.ref 3),some (.ref 3),none,some (.str "__main__" 164),none,some (.ref 0)]⟩] (YK s.os [])
theorem aaS(P:Params)(s:LS):RQ boot_o_0 P s=objs P s:=by
 unfold RQ objs Iz adP
 simp only[Qs,Qq,List.append_nil,ahP]
noncomputable def stE(p:Program)(w:World)(os:OsState)(j:Nat):SharedT:=
 let s:=lays w.params F0 ((behindTheImports p).take j) ls0
 ⟨zf 12 (RQ boot_o_0 w.params s),s.n,{},Array.mk [],boot_drawn,s.t,os⟩
theorem aaT(p:Program)(w:World)(os:OsState)(j:Nat):stE p w os j=stT p w os j:=by
 unfold stE stT
 simp only[Af,aaS]
theorem row2{α:Type}{f g:World->α}(h1:∀w:World,f (w.withFollow "special-get-raises" false)=g (w.withFollow "special-get-raises" false))(h2:∀w:World,f (w.withFollow "special-get-raises" true)=g (w.withFollow "special-get-raises" true)):∀w,f w=g w:=
 byRow2 (P:=fun w=>f w=g w) "special-get-raises" h1 h2
end Nh
end
section
set_option maxHeartbeats 0
namespace Nh
open PySem PySem.W W.Fast
abbrev pg:=PySem.Challenge.pw_nearsquares_s01_answers
abbrev z0:Pos:=⟨0,0,0,0⟩
abbrev an:Option Value:=some (.ref 6)
abbrev Pc(a n k:Nat)(q q':Pos):Prop:=∀w:World,(fun os=>segRunT treeTable pg w 11 an 1 k (stT pg w os a) (piecesOf (sts pg a n) (envE pg) (cE pg) q [topFrame z0]))=fun os=>some (Flow.next,stE pg w os (a+n),cE pg,q')
noncomputable def hA(P:Params):Heap:=⟨(RQ boot_o_0 P ls0).toArray,{}⟩
theorem pre:∀w:World,(fun os=>topGo treeTable pg w 11 an 12 ⟨boot_heap w.params,Array.mk [],boot_drawn,boot_toks,os⟩ (topStub pg))=fun os=>some (⟨hA w.params,Array.mk [],boot_drawn,187,os⟩,(⟨denote treeTable (cE pg),cE pg,z0,[topFrame z0]⟩:Thread)):=by
 intro w
 unfold cE envE
 rw[te15667345088766844465,te14364793385576792824,te11892475500146522536]
 kernel_rfl
theorem blk:∀w:World,(fun os=>segRun treeTable pg w 11 an 1 1 ⟨hA w.params,Array.mk [],boot_drawn,187,os⟩ (blockOf (behindTheImports pg) (envE pg) (cE pg) z0 [topFrame z0]))=fun os=>some (Flow.next,(stT pg w os 0).abs,cE pg,z0):=by
 intro w
 unfold cE envE blockOf
 rw[te14374325043358763698,te14364793385576792824,te1066825118222455980]
 kernel_rfl
theorem fin:∀w:World,(fun os=>topRun treeTable pg w 11 an 2 (stT pg w os 189).abs ⟨doneF .next,cE pg,⟨636,0,651,15⟩,[topFrame z0]⟩)=fun os=>some (stT pg w os 189).abs:=by
 intro w
 rfl
theorem dN{a n k N:Nat}{q q':Pos}(h:Pc a n k q q'){w:World}{os:OsState}{r:Shared}
 (kk:topRun treeTable pg w 11 an N (stT pg w os (a+n)).abs (restOf ((behindTheImports pg).drop (a+n)) (envE pg) (cE pg) q' [topFrame z0])=some r):
 topRun treeTable pg w 11 an (k+N) (stT pg w os a).abs (restOf ((behindTheImports pg).drop a) (envE pg) (cE pg) q [topFrame z0])=some r:=by
 have e:=congrFun (h w) os
 rw[aaT]at e
 have e2:=segRun_of e
 have l:(behindTheImports pg).drop a=sts pg a n++(behindTheImports pg).drop (a+n):=by
  show _=((behindTheImports pg).drop a).take n++_
  rw[<-List.drop_drop,List.take_append_drop]
 rw[l]
 exact piece_app e2 kk
local macro_rules | `(tactic| walk_at "zz") => `(tactic| (unfold Pc sts cE envE piecesOf; rw [te10110043849684766642, te14364793385576792824, te12563942051412417395]))
theorem p1:Pc 0 6 291 z0 ⟨10,0,14,15⟩:=by
 walk_at"zz";intro w;kernel_rfl
theorem p2:Pc 6 9 279 ⟨10,0,14,15⟩ ⟨48,0,51,80⟩:=by
 walk_at"zz";intro w;kernel_rfl
theorem p3:Pc 15 12 289 ⟨48,0,51,80⟩ ⟨95,0,95,12⟩:=by
 walk_at"zz";intro w;kernel_rfl
theorem p4:Pc 27 14 287 ⟨95,0,95,12⟩ ⟨123,0,128,14⟩:=by
 walk_at"zz";intro w;kernel_rfl
theorem p5:Pc 41 7 199 ⟨123,0,128,14⟩ ⟨159,0,160,80⟩:=by
 walk_at"zz";intro w;kernel_rfl
theorem p6:Pc 48 1 164 ⟨159,0,160,80⟩ ⟨161,0,161,10⟩:=by
 walk_at"zz";refine row2 (fun w=>?_) (fun w=>?_)<;>kernel_rfl
theorem p7:Pc 49 14 292 ⟨161,0,161,10⟩ ⟨194,0,197,35⟩:=by
 walk_at"zz";intro w;kernel_rfl
theorem p8:Pc 63 9 272 ⟨194,0,197,35⟩ ⟨226,0,230,31⟩:=by
 walk_at"zz";intro w;kernel_rfl
theorem p9:Pc 72 2 62 ⟨226,0,230,31⟩ ⟨235,0,236,69⟩:=by
 walk_at"zz";intro w;kernel_rfl
theorem p10:Pc 74 1 198 ⟨235,0,236,69⟩ ⟨237,0,237,9⟩:=by
 walk_at"zz";refine row2 (fun w=>?_) (fun w=>?_)<;>kernel_rfl
theorem p11:Pc 75 11 291 ⟨237,0,237,9⟩ ⟨280,0,283,64⟩:=by
 walk_at"zz";intro w;kernel_rfl
theorem p12:Pc 86 4 118 ⟨280,0,283,64⟩ ⟨295,0,299,45⟩:=by
 walk_at"zz";intro w;kernel_rfl
theorem p13:Pc 90 1 215 ⟨295,0,299,45⟩ ⟨300,0,300,10⟩:=by
 walk_at"zz";refine row2 (fun w=>?_) (fun w=>?_)<;>kernel_rfl
theorem p14:Pc 91 11 296 ⟨300,0,300,10⟩ ⟨338,0,342,16⟩:=by
 walk_at"zz";intro w;kernel_rfl
theorem p15:Pc 102 13 289 ⟨338,0,342,16⟩ ⟨368,0,369,49⟩:=by
 walk_at"zz";intro w;kernel_rfl
theorem p16:Pc 115 7 217 ⟨368,0,369,49⟩ ⟨395,0,398,45⟩:=by
 walk_at"zz";intro w;kernel_rfl
theorem p17:Pc 122 1 215 ⟨395,0,398,45⟩ ⟨399,0,399,12⟩:=by
 walk_at"zz";refine row2 (fun w=>?_) (fun w=>?_)<;>kernel_rfl
theorem p18:Pc 123 13 295 ⟨399,0,399,12⟩ ⟨437,0,442,63⟩:=by
 walk_at"zz";intro w;kernel_rfl
theorem p19:Pc 136 1 32 ⟨437,0,442,63⟩ ⟨443,0,447,37⟩:=by
 walk_at"zz";intro w;kernel_rfl
theorem p20:Pc 137 1 164 ⟨443,0,447,37⟩ ⟨448,0,448,10⟩:=by
 walk_at"zz";refine row2 (fun w=>?_) (fun w=>?_)<;>kernel_rfl
theorem p21:Pc 138 4 294 ⟨448,0,448,10⟩ ⟨458,0,460,44⟩:=by
 walk_at"zz";intro w;kernel_rfl
theorem p22:Pc 142 3 91 ⟨458,0,460,44⟩ ⟨467,0,469,44⟩:=by
 walk_at"zz";intro w;kernel_rfl
theorem p23:Pc 145 1 106 ⟨467,0,469,44⟩ ⟨470,0,470,5⟩:=by
 walk_at"zz";refine row2 (fun w=>?_) (fun w=>?_)<;>kernel_rfl
theorem p24:Pc 146 1 96 ⟨470,0,470,5⟩ ⟨471,0,471,5⟩:=by
 walk_at"zz";refine row2 (fun w=>?_) (fun w=>?_)<;>kernel_rfl
theorem p25:Pc 147 14 300 ⟨471,0,471,5⟩ ⟨504,0,509,30⟩:=by
 walk_at"zz";intro w;kernel_rfl
theorem p26:Pc 161 5 159 ⟨504,0,509,30⟩ ⟨528,0,534,43⟩:=by
 walk_at"zz";intro w;kernel_rfl
theorem p27:Pc 166 1 147 ⟨528,0,534,43⟩ ⟨535,0,535,12⟩:=by
 walk_at"zz";refine row2 (fun w=>?_) (fun w=>?_)<;>kernel_rfl
theorem p28:Pc 167 2 19 ⟨535,0,535,12⟩ ⟨537,0,537,15⟩:=by
 walk_at"zz";intro w;kernel_rfl
theorem p29:Pc 169 1 353 ⟨537,0,537,15⟩ ⟨538,0,563,33⟩:=by
 walk_at"zz";intro w;kernel_rfl
theorem p30:Pc 170 11 281 ⟨538,0,563,33⟩ ⟨592,0,596,36⟩:=by
 walk_at"zz";intro w;kernel_rfl
theorem p31:Pc 181 2 63 ⟨592,0,596,36⟩ ⟨602,0,608,36⟩:=by
 walk_at"zz";intro w;kernel_rfl
theorem p32:Pc 183 1 164 ⟨602,0,608,36⟩ ⟨609,0,609,9⟩:=by
 walk_at"zz";refine row2 (fun w=>?_) (fun w=>?_)<;>kernel_rfl
theorem p33:Pc 184 5 115 ⟨609,0,609,9⟩ ⟨636,0,651,15⟩:=by
 walk_at"zz";intro w;kernel_rfl
theorem run(w:World)(os:OsState):topRun treeTable pg w 11 an (12+(1+(291+(279+(289+(287+(199+(164+(292+(272+(62+(198+(291+(118+(215+(296+(289+(217+(215+(295+(32+(164+(294+(91+(106+(96+(300+(159+(147+(19+(353+(281+(63+(164+(115+2))))))))))))))))))))))))))))))))))) ⟨boot_heap w.params,Array.mk [],boot_drawn,boot_toks,os⟩ (topStub pg)=some (stT pg w os 189).abs:=
 go_top (congrFun (pre w) os) (piece_block (congrFun (blk w) os) (dN p1 (dN p2 (dN p3 (dN p4 (dN p5 (dN p6 (dN p7 (dN p8 (dN p9 (dN p10 (dN p11 (dN p12 (dN p13 (dN p14 (dN p15 (dN p16 (dN p17 (dN p18 (dN p19 (dN p20 (dN p21 (dN p22 (dN p23 (dN p24 (dN p25 (dN p26 (dN p27 (dN p28 (dN p29 (dN p30 (dN p31 (dN p32 (dN p33 (congrFun (fin w) os)))))))))))))))))))))))))))))))))))
end Nh
end
section
set_option maxHeartbeats 0
namespace Nh
open PySem PySem.W W.Fast PySem.Calls PyProof.Rows
noncomputable def zL(b:Params->Obj)(p:Program)(P:Params):List Obj:=RQ b P (lays P F0 ((behindTheImports p).take 189) ls0)
noncomputable def hZ(b:Params->Obj)(p:Program)(P:Params):Heap:=⟨(zL b p P).toArray,{}⟩
theorem amx(w:World)(os:OsState):(stT pg w os 189).abs=⟨hZ boot_o_0 pg w.params,Array.mk [],boot_drawn,1770,os⟩:=by
 rw[<-aaT]
 kernel_rfl
theorem size:∀w:World,((boot_heap w.params).isNs mainGlobals && (Array.mk []:Array GenState).size==0,(boot_heap w.params).objs.size,(boot_heap w.params).nsMap mainGlobals "__annotations__")=(true,11,an):=fun w=>by kernel_rfl
noncomputable def kept:List Nat:=(List.range 189).filter fun i=> !([0,18,25,36,49,55,75,91,96,104,123,138,152,167,170,184].contains i)
noncomputable def qv(p:Program):Program:={ p with main:={ p.main with body:=kept.filterMap fun i=>p.main.body[i]? } }
noncomputable def loose:List Str:=["DESK_CALLS","GAP_CALLS","MOVE_CALLS","NUMBER_CALLS","PAIR_CALLS","KINDS","RULES","RIDDLE_CALLS","WAY_CALLS"]
noncomputable abbrev sZ(b:Params->Obj)(p:Program)(w:World)(os:OsState):Shared:=⟨hZ b p w.params,Array.mk [],boot_drawn,1770,os⟩
noncomputable abbrev q:=qv pg
noncomputable def rOf:Stmt->Option DefRec
 |.FunctionDef n a b _ _ _ sc _ _ pos=>some ⟨n,a,b,sc,pos⟩
 |_=>none
noncomputable def rL(p:Program):List DefRec:=(qv p).main.body.filterMap rOf
noncomputable def lOf:Stmt->Option Str
 |.Assign [.Name x _] v _=>match v with|.Dict _ _ _=>none|_=>some x
 |_=>none
noncomputable def cOf:Stmt->Option Str
 |.ClassDef n _ _ _ _ _ _ _ _ _ _=>some n
 |_=>none
noncomputable def lN(p:Program):List Str:=(qv p).main.body.filterMap lOf
noncomputable def cN(p:Program):List Str:=(qv p).main.body.filterMap cOf
noncomputable def a1(p:Program):=recsOf (qv p)
noncomputable def a2(p:Program):=drecsOf (qv p)
noncomputable def a3(p:Program):=wdefsOf (qv p)
noncomputable def a4(p:Program):=wlitsOf (qv p)
noncomputable def a5(p:Program):=(wclssOf (qv p) loose,dclssOf (qv p) loose)
noncomputable def a7(p:Program):=(litsOf (qv p)).map (·.1)
noncomputable def a8(p:Program):=(clssOf (qv p) loose).map (·.name)
noncomputable def a9(p:Program):=(ownsOf (qv p),(qv p).main.body.flatMap importedNames)
noncomputable def l1(b:Params->Obj)(p:Program)(c:Params->Heap)(w:World)(os:OsState):=(staticsOk (importedModules p.main.body) (c w.params) (hZ b p w.params) && namesBound p (hZ b p w.params) && gensDone (sZ b p w os) && laidKept (c w.params) (hZ b p w.params))
noncomputable def t1(b:Params->Obj)(p:Program)(w:World)(os:OsState):=seen ((rL p).map (·.name)) [] [] (sZ b p w os)
noncomputable def u1(p:Program):Seen:=⟨(rL p).map fun d=>some d.shape,true,[],true,true,true,0⟩
noncomputable def t3(b:Params->Obj)(p:Program)(w:World):=(hZ b p w.params).keysOk loose ((rL p).map (·.name)) (lN p) (cN p)
noncomputable def t4(b:Params->Obj)(p:Program)(w:World):=(hZ b p w.params).accountedOkI (importedModules p.main.body) && (hZ b p w.params).isNs mainGlobals && (hZ b p w.params).isNs builtinsNs && tablesOk (qv p) (hZ b p w.params)
noncomputable def t5(b:Params->Obj)(p:Program)(w:World)(os:OsState):=(xlAt (qv p) [] (sZ b p w os) && recOk [] (sZ b p w os)) && (sZ b p w os).gens.size==0
noncomputable def t6(b:Params->Obj)(p:Program)(w:World):=(rL p).all fun d=>(hZ b p w.params).tab0Ok d.name
noncomputable def t7(b:Params->Obj)(p:Program)(w:World):=((hZ b p w.params).bmainOk && valsOk (qv p) (hZ b p w.params)) && (!importsNone (qv p)||(hZ b p w.params).noSeerOk)
noncomputable def t8(b:Params->Obj)(p:Program)(w:World)(os:OsState):=plainSeenE (qv p) loose (sZ b p w os)
noncomputable def u8(p:Program):=plainGoodE (qv p) loose
noncomputable def t9(b:Params->Obj)(p:Program)(w:World)(os:OsState):=(pinSeenD (qv p) [] (sZ b p w os))
noncomputable def nf(b:Params->Obj)(p:Program)(P:Params):=(zL b p P).all fun o=>match o.data with|.freed=>false|_=>true
lay_quick Nh.l1 Nh.rL Nh.a1 Nh.a2 Nh.a3 Nh.a4 Nh.a5 Nh.a7 Nh.a8 Nh.a9 Nh.t1 Nh.u1 Nh.t3 Nh.t4 Nh.t5 Nh.t6 Nh.t7 Nh.t8 Nh.u8 Nh.t9 Nh.lN Nh.cN Nh.nf
end Nh
end
section
set_option maxHeartbeats 0
namespace Nh
open PySem PySem.W W.Fast PySem.Calls PyProof.Rows
theorem kA1:a1 pg=rL pg:=by
 rw[te6828440187488166490,te4473133029962717725]
 kernel_rfl
theorem kA2:a2 pg=[]:=by
 rw[te6243325191975348470]
 kernel_rfl
theorem kA3:a3 pg=[]:=by
 rw[te13756378055368819972]
 kernel_rfl
theorem kA4:a4 pg=[]:=by
 rw[te16246717941779861351]
 kernel_rfl
theorem kA5:a5 pg=([],[]):=by
 rw[te13627987671343896402]
 kernel_rfl
theorem kA7:a7 pg=lN pg:=by
 rw[te16468136734908297356,te10627844032914254700]
 kernel_rfl
theorem kA8:a8 pg=cN pg:=by
 rw[te8739311513473105598,te2918802311262097794]
 kernel_rfl
theorem kA9:a9 pg=([],[]):=by
 rw[te1579282501982278872]
 kernel_rfl
noncomputable def v1(r:OpenSpec):=r.wellSaid
noncomputable def v2(p:Program):=p.tablesWhole
lay_quick Nh.v1 Nh.v2
theorem V1:v1 PySem.Challenge.rw_nearsquares_s01_answers=true:=by
 rw[te1224146479428951147]
 kernel_rfl
theorem V2:v2 pg=true:=by
 rw[te6636233046418217137]
 kernel_rfl
end Nh
end
section
set_option maxHeartbeats 0
namespace Nh
open PySem PySem.W W.Fast PySem.Calls PyProof.Rows
theorem kB0:l1 boot_o_0 pg boot_heap=fun _ _=>true:=by
 rw[te8013828934341714410]
 kernel_rfl
theorem kB1:t1 boot_o_0 pg=fun _ _=>u1 pg:=by
 rw[te14152458303357375145,te3808961600577948282]
 kernel_rfl
theorem kB3:t3 boot_o_0 pg=fun _=>true:=by
 rw[te6861127670423774583]
 kernel_rfl
theorem kB4:t4 boot_o_0 pg=fun _=>true:=by
 rw[te13475646328859634561]
 kernel_rfl
theorem kB5:t5 boot_o_0 pg=fun _ _=>true:=by
 rw[te16975312290957751437]
 kernel_rfl
theorem kB6:t6 boot_o_0 pg=fun _=>true:=by
 rw[te12475991900175616472]
 kernel_rfl
theorem kB7:t7 boot_o_0 pg=fun _=>true:=by
 rw[te6949073895805734530]
 kernel_rfl
theorem kB8:t8 boot_o_0 pg=fun _ _=>u8 pg:=by
 rw[te9120218438403823845,te13291169063595814763]
 kernel_rfl
theorem kB9:t9 boot_o_0 pg=fun _ _=>pinGoodD []:=by
 rw[te5223100679309010015]
 kernel_rfl
theorem kBn:nf boot_o_0 pg=fun _=>true:=by
 rw[te17522955608232685326]
 kernel_rfl
theorem kB2:(fun(w:World)(os:OsState)=>(sZ boot_o_0 pg w os).heap.bltView)=fun _ _=>bltViewBooted:=by
 kernel_rfl
end Nh
end
section
set_option maxHeartbeats 0
namespace Nh
open PySem PySem.W W.Fast PySem.Calls PyProof.Rows
theorem eLw:looseW q loose=loose:=by
 have e2:drecsOf q=[]:=kA2
 have e3:wdefsOf q=[]:=kA3
 have e4:wlitsOf q=[]:=kA4
 have e5:wclssOf q loose=[]:=congrArg Prod.fst kA5
 have e6:dclssOf q loose=[]:=congrArg Prod.snd kA5
 have e9:q.main.body.flatMap importedNames=[]:=congrArg Prod.snd kA9
 unfold looseW looseD heldW
 rw[e2,e3,e4,e5,e6,e9]
 rfl
noncomputable abbrev Xt(s:Shared):Bool:=xlAt q [] s && recOk [] s
theorem lkS(w:World)(os:OsState):openSeen q loose (importedModules pg.main.body) Xt true (sZ boot_o_0 pg w os)=openGood q loose:=by
 have e1:recsOf q=rL pg:=kA1
 have e2:drecsOf q=[]:=kA2
 have e3:wdefsOf q=[]:=kA3
 have e4:wlitsOf q=[]:=kA4
 have e5:wclssOf q loose=[]:=congrArg Prod.fst kA5
 have e6:dclssOf q loose=[]:=congrArg Prod.snd kA5
 have e7:(litsOf q).map (·.1)=lN pg:=kA7
 have e8:(clssOf q loose).map (·.name)=cN pg:=kA8
 have e9:ownsOf q=[]:=congrArg Prod.fst kA9
 have f1:=congrFun (congrFun kB1 w) os
 have f2:=congrFun (congrFun kB2 w) os
 have f3:=congrFun kB3 w
 have f4:=congrFun kB4 w
 have f5:=congrFun (congrFun kB5 w) os
 have f6:=congrFun kB6 w
 have f7:=congrFun kB7 w
 have f8:=congrFun (congrFun kB8 w) os
 have f9:=congrFun (congrFun kB9 w) os
 unfold t1 u1 at f1
 unfold t3 at f3
 unfold t4 at f4
 unfold t5 at f5
 unfold t6 at f6
 unfold t7 at f7
 unfold t8 u8 at f8
 unfold t9 at f9
 unfold openSeen openGood
 rw[eLw,e1,e2,e7,e8,e9]
 refine looks_pair ?_ (looks_pair f2 (looks_pair ?_ (looks_pair ?_ (looks_pair f9 (looks_pair f8 (looks_pair ?_ (looks_pair ?_ ?_)))))))
 ·unfold expectedOf
  rw[e1]
  exact f1
 ·simp only[Bool.and_eq_true]at f4 f5⊢
  exact⟨⟨⟨⟨⟨⟨f3,f4.1.1.1⟩,f4.1.1.2⟩,f4.1.2⟩,f4.2⟩,f5.1⟩,f5.2⟩
 ·unfold tabsOk
  rw[e1]
  simp only[Bool.and_eq_true]at f7⊢
  exact⟨⟨⟨f6,f7.1.1⟩,f7.1.2⟩,f7.2⟩
 ·unfold plainSeenD plainGoodD
  rw[e6]
  rfl
 ·unfold wideSeen wideGood
  rw[e3,e4]
  rfl
 ·unfold clsSeenW clsGoodW
  rw[e5]
  rfl
noncomputable def num:Nat->List Obj->Frag
 |_,[]=>[]
 |i,o::r=>match i==121||i==536||i==1027 with
  |true=>num (i+1) r
  |false=>(i,o)::num (i+1) r
theorem RT:∀(l:List Obj)(i a:Nat)(o:Obj),(num i l).lookup a=some o->i<=a/\l[a-i]?=some o
 |[],_,_,_,h=>by cases h
 |x::r,i,a,o,h=>by
  unfold num at h
  have st:(num (i+1) r).lookup a=some o->i<=a/\(x::r)[a-i]?=some o:=fun k=>by
    obtain⟨b,e⟩:=RT r (i+1) a o k
    refine⟨by omega,?_⟩
    rw[show a-i=(a-(i+1))+1 by omega,List.getElem?_cons_succ]
    exact e
  split at h
  ·exact st h
  ·rw[List.lookup_cons]at h
   split at h
   ·rename_i k
    cases h
    rw[beq_iff_eq.mp k]
    exact⟨Nat.le_refl _,by rw[Nat.sub_self];rfl⟩
   ·exact st h
noncomputable def KZ(b:Params->Obj)(p:Program)(P:Params):Frag:=num 0 (zL b p P)
noncomputable abbrev K0:=KZ boot_o_0 pg
theorem k_in(P:Params):(K0 P).In (hZ boot_o_0 pg P):=fun a o h=>by
 obtain⟨_,e⟩:=RT _ _ _ _ h
 have n:=congrFun kBn P
 unfold nf at n
 have m:=List.all_eq_true.mp n o (List.mem_of_getElem? e)
 unfold Heap.get? hZ
 simp only[List.getElem?_toArray]
 rw[Nat.sub_zero]at e
 rw[e]
 obtain⟨c,d,t,s⟩:=o
 cases t<;>first|rfl|cases m
noncomputable def H0:Hook:=⟨Heap,fun s=>s.heap,fun w=>hZ boot_o_0 pg w.params,InK K0,fun w s e=>by
 show(K0 w.params).In s.heap
 rw[show s.heap=_ from e]
 exact k_in w.params,InK.keeps⟩
theorem left:LeftO pg q loose Xt H0.obs H0.val 13366:=
 LeftO.of_pieces (open_:=boot_open (by kernel_rfl) rfl (fun s=>by kernel_rfl)) (size:=size) (run:=fun w os=>(run w os).trans (congrArg some (amx w os))) (le:=rfl)
  (looks:=fun w=>funext fun os=>looks_pair (congrFun (congrFun kB0 w) os) (looks_pair (lkS w os) rfl))
end Nh
end
section
namespace Ns
structure fX(m r:Nat):Prop where
 le:r*r<=m
 lt:m<(r+1)*(r+1)
theorem jB{a b:Nat}(h:a*a<b*b):a<b:=by
 apply Nat.lt_of_not_le
 intro h'
 have:=Nat.mul_le_mul h' h'
 omega
theorem BK{a b:Nat}(h:a*a<=b*b):a<=b:=by
 apply Nat.le_of_not_lt
 intro h'
 have:=Nat.mul_lt_mul'' h' h'
 omega
theorem fX.uniq{m r t:Nat}(a:fX m r)(b:fX m t):r=t:=by
 have h1:r<t+1:=jB (Nat.lt_of_le_of_lt a.le b.lt)
 have h2:t<r+1:=jB (Nat.lt_of_le_of_lt b.le a.lt)
 omega
theorem fX.sq{r:Nat}:fX (r*r) r:=⟨Nat.le_refl _,by grind⟩
theorem fX.qW{m r:Nat}(a:fX m r):r<=m:=by
 rcases Nat.eq_zero_or_pos r with h|h
 ·omega
 ·exact Nat.le_trans (Nat.le_mul_of_pos_left r h) a.le
theorem DW(m:Nat):∀(b r:Nat),fX m r->
 (List.range b).foldl (fun(r k:Nat)=>if k*k<=m then k else r) 0=if b<=r then b-1 else r
 |0,r,h=>by simp
 |b+1,r,h=>by
  rw[List.range_succ,List.foldl_append,DW m b r h]
  show(if b*b<=m then b else(if b<=r then b-1 else r))=_
  by_cases hb:b*b<=m
  ·rw[if_pos hb]
   have:b<r+1:=jB (Nat.lt_of_le_of_lt hb h.lt)
   by_cases hr:b+1<=r
   ·rw[if_pos hr];omega
   ·rw[if_neg hr];omega
  ·rw[if_neg hb]
   have:r<b:=jB (Nat.lt_of_le_of_lt h.le (by omega))
   rw[if_neg (by omega),if_neg (by omega)]
theorem vf:∀m:Nat,∃r,fX m r
 |0=>⟨0,by omega,by omega⟩
 |m+1=>by
  obtain⟨r,h⟩:=vf m
  by_cases c:(r+1)*(r+1)<=m+1
  ·exact⟨r+1,c,by have:=h.lt;grind⟩
  ·exact⟨r,by have:=h.le;omega,by omega⟩
theorem Ib(m:Nat):fX m (Kp279.root m):=by
 obtain⟨r,h⟩:=vf m
 unfold Kp279.root
 rw[DW m (m+1) r h,if_neg (by have:=h.qW;omega)]
 exact h
theorem adQ{m b:Nat}(hb:m<b*b):fX m ((List.range b).foldl (fun(r k:Nat)=>if k*k<=m then k else r) 0):=by
 obtain⟨r,h⟩:=vf m
 have:r<b:=jB (Nat.lt_of_le_of_lt h.le hb)
 rw[DW m b r h,if_neg (by omega)]
 exact h
theorem Xb{m r t:Nat}(h:fX m r)(ht:0<t):r<=(t+m/t)/2:=by
 have e:m/t*t+m%t=m:=by rw[Nat.mul_comm];exact Nat.div_add_mod m t
 have h2:m%t<t:=Nat.mod_lt _ ht
 have h1:=h.le
 rw[Nat.le_div_iff_mul_le (by decide)]
 apply Nat.le_of_not_lt
 intro c
 generalize hq:m/t=q at*
 have h3:m<(q+1)*t:=by rw[Nat.add_mul];omega
 have h4:r*r<(q+1)*t:=Nat.lt_of_le_of_lt h1 h3
 have h5:t+(q+1)<=2*r:=by omega
 have h6:4*((q+1)*t)<=(t+(q+1))*(t+(q+1)):=by
  rcases Nat.le_total t (q+1)with z|z
  ·obtain⟨d,hd⟩:=Nat.le.dest z
   rw[<-hd];grind
  ·obtain⟨d,hd⟩:=Nat.le.dest z
   rw[<-hd];grind
 have h7:=Nat.mul_le_mul h5 h5
 have h8:2*r*(2*r)=4*(r*r):=by grind
 omega
theorem Xc{m r t:Nat}(h:fX m r)(ht:r<t):m/t<=r:=by
 have h1:=h.lt
 have:m/t<r+1:=by
  rw[Nat.div_lt_iff_lt_mul (by omega)]
  exact Nat.lt_of_lt_of_le h1 (Nat.mul_le_mul_left _ ht)
 omega
theorem YL{m r t:Nat}(h:fX m r)(ht:r<t):(t+m/t)/2-r<=(t-r)/2:=by
 have:=Xc h ht
 omega
theorem adR{m r t:Nat}(h:fX m r)(ht:r<t):(t+m/t)/2<t:=by
 have:=Xc h ht
 omega
theorem wW{m r t:Nat}(h:fX m r)(ht:r<=t):t*t<=m↔t=r:=by
 constructor
 ·intro c
  have:t<r+1:=jB (Nat.lt_of_le_of_lt c h.lt)
  omega
 ·intro e;rw[e];exact h.le
theorem Gj{m r:Nat}(h:fX m r):∀(f t:Nat),r<=t->t-r<2^f->Kp279.rootFrom m f t=r
 |0,t,h1,h2=>by
  have:(2:Nat)^0=1:=rfl
  show t=r
  omega
 |f+1,t,h1,h2=>by
  show(if t*t<=m then t else Kp279.rootFrom m f ((t+m/t)/2))=r
  by_cases c:t*t<=m
  ·rw[if_pos c];exact(wW h h1).mp c
  ·rw[if_neg c]
   have hn:t≠r:=fun e=>c ((wW h h1).mpr e)
   have hlt:r<t:=by omega
   refine Gj h f _ (Xb h (by omega)) ?_
   have:=YL h hlt
   have e:(2:Nat)^(f+1)=2*2^f:=by rw[Nat.pow_succ,Nat.mul_comm]
   omega
theorem uO{m:Nat}(hm:m+1<2^200):fX m (Kp279.rootOf m):=by
 obtain⟨r,h⟩:=vf m
 have hr:=h.qW
 unfold Kp279.rootOf
 rw[Gj h 200 (m+1) (by omega) (by omega)]
 exact h
theorem bD{n:Nat}:Kp279.okN n=true↔2<=n/\n<=60/\∀r,fX n r->r*r≠n:=by
 unfold Kp279.okN
 rw[Bool.and_eq_true,Bool.and_eq_true,decide_eq_true_iff,decide_eq_true_iff,bne_iff_ne]
 constructor
 ·rintro ⟨⟨a,b⟩,c⟩
  exact⟨a,b,fun r h=>by rw[h.uniq (Ib n)];exact c⟩
 ·rintro ⟨a,b,c⟩
  exact⟨⟨a,b⟩,c _ (Ib n)⟩
end Ns
end
section
namespace Ns
open Kp280
structure Good(n:Nat)(t:Triple):Prop where
 k:t.k=Kp279.diff n ⟨t.a,t.b⟩
 k0:t.k≠0
 tk:taken n t≠0
 a:t.a<2^250
 b:t.b<2^250
 b0:0<t.b
noncomputable def RV(a b:Nat):Nat:=Nat.add (Nat.sub a b) (Nat.sub b a)
theorem Xd(a b:Nat):RV a b=Kp279.gap a b:=by
 show(a-b)+(b-a)=Kp279.gap a b
 unfold Kp279.gap
 split<;>omega
noncomputable def DX(n a b K:Nat):Nat->Nat->Nat->Nat
 |0,_,z=>z
 |f+1,m,z=>DX n a b K f (Nat.succ m) (bif Nat.beq (Nat.mod (Nat.add a (Nat.mul m b)) K) 0 then(bif Nat.beq z 0 then m else bif Nat.blt (RV (Nat.mul m m) n) (RV (Nat.mul z z) n)then m else z)else z)
noncomputable def sgn(neg:Bool)(K:Nat):Int:=if neg then -(K:Int)else(K:Int)
theorem Qt(neg:Bool)(K:Nat):(sgn neg K).natAbs=K:=by
 unfold sgn;split<;>omega
theorem adS{a b K m:Nat}{neg:Bool}:fits ⟨a,b,sgn neg K⟩ m=Nat.beq (Nat.mod (Nat.add a (Nat.mul m b)) K) 0:=by
 rw[Bool.eq_iff_iff,Nat.beq_eq]
 show((((a:Int)+(m:Int)*(b:Int))%sgn neg K==0)=true)↔(a+m*b)%K=0
 rw[beq_iff_eq,<-Int.dvd_iff_emod_eq_zero,<-Int.natAbs_dvd,Qt,<-Nat.dvd_iff_mod_eq_zero]
 have e:((a:Int)+(m:Int)*(b:Int))=((a+m*b:Nat):Int):=by push_cast;rfl
 rw[e,Int.ofNat_dvd]
theorem IK(n:Nat)(t:Triple)(a b K:Nat)(neg:Bool)(ht:t=⟨a,b,sgn neg K⟩):∀(f m z:Nat),
 (List.range' m f).foldl (fun(z m:Nat)=>if fits t m then(if z=0 then m else if Kp279.gap (m*m) n<Kp279.gap (z*z) n then m else z)else z) z=DX n a b K f m z
 |0,m,z=>rfl
 |f+1,m,z=>by
  rw[List.range'_succ,List.foldl_cons,IK n t a b K neg ht f (m+1)]
  show DX n a b K f (m+1) _=DX n a b K f (m+1) _
  congr 1
  rw[ht,adS,Xd,Xd]
  generalize Nat.beq (Nat.mod (Nat.add a (Nat.mul m b)) K) 0=c1
  have e2:Nat.beq z 0=decide (z=0):=by
   rw[Bool.eq_iff_iff,Nat.beq_eq,decide_eq_true_iff]
  have e3:Nat.blt (Kp279.gap (Nat.mul m m) n) (Kp279.gap (Nat.mul z z) n)=decide (Kp279.gap (m*m) n<Kp279.gap (z*z) n):=by
   rw[Bool.eq_iff_iff,Nat.blt_eq,decide_eq_true_iff];exact Iff.rfl
  rw[e2,e3]
  cases c1 with
  |false=>rfl
  |true=>
   simp only[if_true,cond_true]
   by_cases hz:z=0
   ·simp[hz]
   ·simp only[hz,if_false,decide_false,cond_false]
    by_cases hg:Kp279.gap (m*m) n<Kp279.gap (z*z) n<;>simp[hg]
theorem aaU(n a b K:Nat)(neg:Bool):taken n ⟨a,b,sgn neg K⟩=DX n a b K (Nat.mul 2 n) 1 0:=by
 unfold taken
 have e:(List.range (2*n+1)).drop 1=List.range' 1 (2*n):=by
  rw[List.range_eq_range',List.drop_range']
  congr 1
 rw[e]
 exact IK n _ a b K neg rfl (2*n) 1 0
def lim:Nat:=2^250
noncomputable def Od(n:Nat):Nat->Nat->Nat->Nat->Bool->Bool
 |0,_,_,_,_=>true
 |f+1,a,b,K,neg=>
  bif Nat.beq K 0 then false else
  bif Nat.beq b 0 then false else
  bif bif neg then Nat.beq (Nat.add (Nat.mul a a) K) (Nat.mul (Nat.mul n b) b)else Nat.beq (Nat.mul a a) (Nat.add K (Nat.mul (Nat.mul n b) b))then
  bif Nat.blt a lim then bif Nat.blt b lim then
  (fun m=>bif Nat.beq m 0 then false else
    bif Nat.beq (Nat.mod (RV (Nat.mul m m) n) K) 0 then
    Od n f (Nat.div (Nat.add (Nat.mul a m) (Nat.mul n b)) K) (Nat.div (Nat.add a (Nat.mul b m)) K) (Nat.div (RV (Nat.mul m m) n) K) (bif Nat.blt (Nat.mul m m) n then !neg else neg)else false) (DX n a b K (Nat.mul 2 n) 1 0)
  else false else false else false
theorem adT{m n K:Nat}{neg:Bool}(hK:K≠0)(h:RV (m*m) n%K=0):((m:Int)*(m:Int)-(n:Int))/sgn neg K=sgn (bif Nat.blt (m*m) n then !neg else neg) (RV (m*m) n/K):=by
 obtain⟨c,hc⟩:=Nat.dvd_of_mod_eq_zero h
 rw[hc,Nat.mul_div_cancel_left c (by omega)]
 have hg:RV (m*m) n=(m*m-n)+(n-m*m):=rfl
 have em:(m:Int)*(m:Int)=((m*m:Nat):Int):=by push_cast;rfl
 rw[em]
 by_cases hb:m*m<n
 ·have e1:Nat.blt (m*m) n=true:=by rw[Nat.blt_eq];exact hb
  rw[e1,cond_true]
  have e2:((m*m:Nat):Int)-(n:Int)=-((K*c:Nat):Int):=by omega
  rw[e2]
  cases neg
  ·show -((K*c:Nat):Int)/(K:Int)=-(c:Int)
   rw[Int.neg_ediv_of_dvd (by exact_mod_cast Nat.dvd_mul_right K c)]
   push_cast
   rw[Int.mul_ediv_cancel_left _ (by omega)]
  ·show -((K*c:Nat):Int)/ -(K:Int)=(c:Int)
   rw[Int.ediv_neg,Int.neg_ediv_of_dvd (by exact_mod_cast Nat.dvd_mul_right K c),Int.neg_neg]
   push_cast
   rw[Int.mul_ediv_cancel_left _ (by omega)]
 ·have e1:Nat.blt (m*m) n=false:=by
   rw[Bool.eq_false_iff];intro z;rw[Nat.blt_eq]at z;exact hb z
  rw[e1,cond_false]
  have e2:((m*m:Nat):Int)-(n:Int)=((K*c:Nat):Int):=by omega
  rw[e2]
  cases neg
  ·show((K*c:Nat):Int)/(K:Int)=(c:Int)
   push_cast
   rw[Int.mul_ediv_cancel_left _ (by omega)]
  ·show((K*c:Nat):Int)/ -(K:Int)=-(c:Int)
   rw[Int.ediv_neg]
   push_cast
   rw[Int.mul_ediv_cancel_left _ (by omega)]
theorem IV{n f a b K:Nat}{neg:Bool}(h:Od n (f+1) a b K neg=true):Good n ⟨a,b,sgn neg K⟩/\
 ∃a' b' K' adU,next n ⟨a,b,sgn neg K⟩=⟨a',b',sgn adU K'⟩/\Od n f a' b' K' adU=true:=by
 unfold Od at h
 rw[<-aaU n a b K neg]at h
 generalize hm:taken n ⟨a,b,sgn neg K⟩=m at h
 simp only[Bool.cond_eq_ite,Bool.ite_eq_true_distrib,Bool.false_eq_true,if_false_left,if_false_right,Nat.beq_eq,Nat.blt_eq]at h
 obtain⟨h1,h2,h3,h4,h5,h6,h7,h8⟩:=h
 refine⟨⟨?_,?_,?_,h4,h5,Nat.pos_of_ne_zero h2⟩,?_⟩
 ·show sgn neg K=(a:Int)*(a:Int)-(n:Int)*(b:Int)*(b:Int)
  cases neg
  ·have h3:a*a=K+n*b*b:=by simpa using h3
   have h3':((a*a:Nat):Int)=((K+n*b*b:Nat):Int):=by rw[h3]
   push_cast at h3'
   show(K:Int)=_
   omega
  ·have h3:a*a+K=n*b*b:=by simpa using h3
   have h3':((a*a+K:Nat):Int)=((n*b*b:Nat):Int):=by rw[h3]
   push_cast at h3'
   show -(K:Int)=_
   omega
 ·show sgn neg K≠0
  intro z
  have:=Qt neg K
  rw[z]at this
  exact h1 this.symm
 ·rw[hm];exact h6
 ·refine⟨_,_,_,_,?_,h8⟩
  unfold next
  simp only[hm,Qt]
  rw[adT h1 h7]
  simp only[Bool.cond_eq_ite,Nat.blt_eq,Nat.mul_eq,Nat.add_eq]
  rfl
theorem Oe{n:Nat}:∀(j f a b K:Nat)(neg:Bool),Od n f a b K neg=true->j<f->Good n (walk n j ⟨a,b,sgn neg K⟩)
 |0,f+1,a,b,K,neg,h,_=>(IV h).1
 |j+1,f+1,a,b,K,neg,h,hj=>by
  obtain⟨_,a',b',K',adU,e,h'⟩:=IV h
  show Good n (walk n j (next n ⟨a,b,sgn neg K⟩))
  rw[e]
  exact Oe j f a' b' K' adU h' (by omega)
noncomputable def aaV(n:Nat):Bool:=(fun t=>Od n 61 t.a t.b t.k.natAbs (decide (t.k<0))) (first n)
set_option maxRecDepth 100000 in
theorem Vi:((List.range 61).all fun n=> !Kp279.okN n||aaV n)=true:=by decide+kernel
theorem tK{n j:Nat}(h:Kp279.okN n=true)(hj:j<=60):Good n (walk n j (first n)):=by
 have hn:=(bD.mp h).2.1
 have t:=List.all_eq_true.mp Vi n (List.mem_range.mpr (by omega))
 rw[h]at t
 have t:aaV n=true:=by simpa using t
 have e:first n=⟨(first n).a,(first n).b,sgn (decide ((first n).k<0)) (first n).k.natAbs⟩:=by
  have:(first n).k=sgn (decide ((first n).k<0)) (first n).k.natAbs:=by
   unfold sgn
   by_cases z:(first n).k<0
   ·simp[z];omega
   ·simp[z];omega
  rw[<-this]
 rw[e]
 exact Oe j 61 _ _ _ _ t (by omega)
theorem DY{n:Nat}:∀(j:Nat)(t:Triple),walk n (j+1) t=next n (walk n j t)
 |0,_=>rfl
 |j+1,t=>DY j (next n t)
def lengthOf(n:Nat):Nat:=(all n).length-1
noncomputable def aaW(n:Nat):Bool:=decide (lengthOf n<=20) && (decide (all n=(List.range (lengthOf n+1)).map fun j=>walk n j (first n)) && ((List.range (lengthOf n+1)).all fun j=>(decide ((walk n j (first n)).k=1))==decide (j=lengthOf n)))
set_option maxRecDepth 100000 in
theorem YM:((List.range 61).all fun n=> !Kp279.okN n||aaW n)=true:=by decide+kernel
structure Way(n:Nat):Prop where
 len:lengthOf n<=20
 all:all n=(List.range (lengthOf n+1)).map fun j=>walk n j (first n)
 one:∀j,j<=lengthOf n->((walk n j (first n)).k=1↔j=lengthOf n)
theorem qI{n:Nat}(h:Kp279.okN n=true):Way n:=by
 have hn:=(bD.mp h).2.1
 have t:=List.all_eq_true.mp YM n (List.mem_range.mpr (by omega))
 rw[h]at t
 have t:aaW n=true:=by simpa using t
 unfold aaW at t
 simp only[Bool.and_eq_true,decide_eq_true_iff]at t
 obtain⟨t1,t2,t3⟩:=t
 refine⟨t1,t2,fun j hj=>?_⟩
 have q:=List.all_eq_true.mp t3 j (List.mem_range.mpr (by omega))
 rw[beq_iff_eq]at q
 exact decide_eq_decide.mp q
theorem IW{n:Nat}(h:Kp279.okN n=true):least n=⟨(walk n (lengthOf n) (first n)).a,(walk n (lengthOf n) (first n)).b⟩:=by
 have w:=qI h
 unfold least last
 rw[w.all,List.getLastD_eq_getLast?,List.getLast?_map,List.range_succ,List.getLast?_append]
 rfl
end Ns
end
section
namespace Ns
open Kp279 (Pair)
theorem Vj(n:Nat)(a b:Pair):Kp279.diff n (Kp279.times n a b)=Kp279.diff n a*Kp279.diff n b:=by
 unfold Kp279.diff Kp279.times
 push_cast
 grind
theorem aaX(a b:Nat):(Kp279.gap a b:Int)*(Kp279.gap a b:Int)=((a:Int)-(b:Int))*((a:Int)-(b:Int)):=by
 unfold Kp279.gap
 split
 ·rw[Int.natCast_sub (by omega)];grind
 ·rw[Int.natCast_sub (by omega)]
theorem BL(n:Nat)(a b:Pair):Kp279.diff n (Kp279.against n a b)=Kp279.diff n a*Kp279.diff n b:=by
 have h1:=aaX (a.x*b.x) (n*a.y*b.y)
 have h2:=aaX (a.x*b.y) (a.y*b.x)
 unfold Kp279.diff Kp279.against
 show(Kp279.gap _ _:Int)*(Kp279.gap _ _:Int)-(n:Int)*(Kp279.gap _ _:Int)*(Kp279.gap _ _:Int)=_
 rw[Int.mul_assoc (n:Int),h1,h2]
 push_cast
 grind
structure Xe(n:Nat)(l:Pair):Prop where
 one:l.x*l.x=n*l.y*l.y+1
 pos:0<l.y
 min:∀x y:Nat,x*x=n*y*y+1->0<y->l.y<=y
noncomputable def RW(n:Nat):Nat->Nat->Nat->Bool
 |0,_,_=>true
 |f+1,y,r=>(fun v=>(fun r'=>bif Nat.blt (Nat.mul r' r') v then bif Nat.blt v (Nat.mul (Nat.succ r') (Nat.succ r'))then RW n f (Nat.succ y) r' else false else false) (upN v 9 r)) (Nat.succ (Nat.mul (Nat.mul n y) y))
where upN (v:Nat):Nat->Nat->Nat
 |0,r=>r
 |g+1,r=>bif Nat.ble (Nat.mul (Nat.succ r) (Nat.succ r)) v then upN v g (Nat.succ r)else r
theorem RX{n:Nat}:∀(f y r:Nat),RW n f y r=true->∀x z:Nat,y<=z->z<y+f->x*x≠n*z*z+1
 |0,y,r,_,x,z,h1,h2=>by omega
 |f+1,y,r,h,x,z,h1,h2=>by
  unfold RW at h
  dsimp only at h
  generalize RW.upN _ 9 r=r' at h
  simp only[Bool.cond_eq_ite,Bool.ite_eq_true_distrib,Bool.false_eq_true,if_false_right,Nat.blt_eq]at h
  obtain⟨h3,h4,h5⟩:=h
  by_cases e:z=y
  ·subst e
   intro q
   have h3:r'*r'<n*z*z+1:=h3
   have h4:n*z*z+1<(r'+1)*(r'+1):=h4
   rw[<-q]at h3 h4
   have:=jB h3
   have:=jB h4
   omega
  ·exact RX f (y+1) r' h5 x z (by omega) (by omega)
noncomputable def Qu(n:Nat):Bool:=(fun l=>decide (l.x*l.x=n*l.y*l.y+1) && (decide (0<l.y) && RW n (l.y-1) 1 1)) (Kp280.least n)
set_option maxRecDepth 100000 in
theorem RZ:((List.range 61).all fun n=> !Kp279.okN n||Qu n)=true:=by decide+kernel
theorem lV{n:Nat}(h:Kp279.okN n=true):Xe n (Kp280.least n):=by
 have hn:=(bD.mp h).2.1
 have t:=List.all_eq_true.mp RZ n (List.mem_range.mpr (by omega))
 rw[h]at t
 have t:Qu n=true:=by simpa using t
 unfold Qu at t
 simp only[Bool.and_eq_true,decide_eq_true_iff]at t
 obtain⟨t1,t2,t3⟩:=t
 refine⟨t1,t2,fun x y hxy hy=>?_⟩
 apply Nat.le_of_not_lt
 intro c
 exact RX _ 1 1 t3 x y (by omega) (by omega) hxy
theorem jC{n:Nat}{a:Pair}:Kp279.diff n a=1↔a.x*a.x=n*a.y*a.y+1:=by
 unfold Kp279.diff
 constructor
 ·intro h
  have:((a.x*a.x:Nat):Int)=((n*a.y*a.y+1:Nat):Int):=by push_cast;omega
  exact_mod_cast this
 ·intro h
  have:((a.x*a.x:Nat):Int)=((n*a.y*a.y+1:Nat):Int):=by rw[h]
  push_cast at this
  omega
section
variable{n:Nat}{l:Pair}
theorem Xe.two(h:Xe n l)(hn:2<=n):2<=l.x:=by
 have h1:=h.one
 have h2:=h.pos
 apply Nat.le_of_not_lt
 intro c
 have h3:l.x*l.x<=1*1:=Nat.mul_le_mul (by omega) (by omega)
 have h4:1<=n*l.y*l.y:=Nat.mul_pos (Nat.mul_pos (by omega) h2) h2
 omega
theorem aaY{n x y p q:Nat}(h1:x*x=n*y*y+1)(h2:p*p=n*q*q+1)(h:q<=y):x*q<=y*p:=by
 apply BK
 have e1:x*q*(x*q)=n*y*y*(q*q)+q*q:=by
  have:x*q*(x*q)=(x*x)*(q*q):=by grind
  rw[this,h1];grind
 have e2:y*p*(y*p)=n*y*y*(q*q)+y*y:=by
  have:y*p*(y*p)=(p*p)*(y*y):=by grind
  rw[this,h2];grind
 have:=Nat.mul_le_mul h h
 omega
theorem adV{n x y p q:Nat}(h1:x*x=n*y*y+1)(h2:p*p=n*q*q+1):n*y*q<x*p:=by
 apply jB
 have e1:x*p*(x*p)=(n*y*y+1)*(n*q*q+1):=by
  rw[<-h1,<-h2];grind
 have e2:n*y*q*(n*y*q)=(n*y*y)*(n*q*q):=by grind
 rw[e1,e2]
 have:(n*y*y+1)*(n*q*q+1)=(n*y*y)*(n*q*q)+n*y*y+n*q*q+1:=by grind
 omega
theorem YQ(h:Xe n l){a:Pair}(ha:a.x*a.x=n*a.y*a.y+1)(hy:0<a.y):
 Kp279.times n (Kp279.against n a l) l=a/\(Kp279.against n a l).y<a.y/\Kp279.diff n (Kp279.against n a l)=1:=by
 have hd:Kp279.diff n (Kp279.against n a l)=1:=by
  rw[BL,jC.mpr ha,jC.mpr h.one]
  rfl
 have hq:=h.min a.x a.y ha hy
 have c1:=aaY ha h.one hq
 have c2:=adV ha h.one
 obtain⟨x,y⟩:=a
 obtain⟨p,q⟩:=l
 have hp:0<q:=h.pos
 have h1:=h.one
 simp only at*
 have e:Kp279.against n ⟨x,y⟩ ⟨p,q⟩=⟨x*p-n*y*q,y*p-x*q⟩:=by
  unfold Kp279.against Kp279.gap
  simp only
  rw[if_neg (by omega)]
  by_cases z:x*q<y*p
  ·rw[if_pos z]
  ·rw[if_neg z]
   have:x*q=y*p:=by omega
   rw[this]
 rw[e]at hd⊢
 obtain⟨u,hu⟩:=Nat.le.dest (Nat.le_of_lt c2)
 obtain⟨v,hv⟩:=Nat.le.dest c1
 have eu:x*p-n*y*q=u:=by omega
 have ev:y*p-x*q=v:=by omega
 rw[eu,ev]at hd⊢
 have hu':(x:Int)*p=(n:Int)*y*q+u:=by exact_mod_cast hu.symm
 have hv':(y:Int)*p=(x:Int)*q+v:=by exact_mod_cast hv.symm
 have h1':(p:Int)*p=(n:Int)*q*q+1:=by exact_mod_cast h1
 have ex:u*p+n*v*q=x:=by
  have:((u:Int)*p+n*v*q)=x:=by
   have a1:(u:Int)=x*p-n*y*q:=by omega
   have a2:(v:Int)=y*p-x*q:=by omega
   rw[a1,a2]
   have:((x:Int)*p-n*y*q)*p+n*(y*p-x*q)*q=x*(p*p-n*q*q):=by grind
   rw[this,h1']
   grind
  exact_mod_cast this
 have ey:u*q+v*p=y:=by
  have:((u:Int)*q+v*p)=y:=by
   have a1:(u:Int)=x*p-n*y*q:=by omega
   have a2:(v:Int)=y*p-x*q:=by omega
   rw[a1,a2]
   have:((x:Int)*p-n*y*q)*q+(y*p-x*q)*p=y*(p*p-n*q*q):=by grind
   rw[this,h1']
   grind
  exact_mod_cast this
 refine⟨?_,?_,hd⟩
 ·unfold Kp279.times
  simp only
  rw[ex,ey]
 ·show v<y
  have hu0:0<u:=by
   rcases Nat.eq_zero_or_pos u with z|z
   ·have:=jC.mp hd
    subst z
    simp at this
   ·exact z
  have hp0:0<p:=by
   rcases Nat.eq_zero_or_pos p with z|z
   ·subst z;simp at h1
   ·exact z
  have b1:1<=u*q:=Nat.mul_pos hu0 hp
  have b2:v<=v*p:=Nat.le_mul_of_pos_right v hp0
  omega
end
theorem pU{n:Nat}(h:Kp279.okN n=true):∀k:Nat,Kp279.diff n (Kp281.nth n k)=1
 |0=>by unfold Kp281.nth Kp279.power Kp279.diff;simp
 |k+1=>by
  show Kp279.diff n (Kp279.times n (Kp281.nth n k) (Kp280.least n))=1
  rw[Vj,pU h k,jC.mpr (lV h).one]
  rfl
theorem wX{n:Nat}(h:Kp279.okN n=true):∀(y x:Nat),x*x=n*y*y+1->∃k,Kp281.nth n k=⟨x,y⟩:=by
 intro y
 induction y using Nat.strongRecOn with
 |_ y ih=>
  intro x hx
  rcases Nat.eq_zero_or_pos y with z|z
  ·subst z
   have:x=1:=by
    have h1:x*x=1*1:=by simpa using hx
    have:=BK (Nat.le_of_eq h1)
    have:=BK (Nat.le_of_eq h1.symm)
    omega
   subst this
   exact⟨0,rfl⟩
  ·obtain⟨h1,h2,h3⟩:=YQ (lV h) (a:=⟨x,y⟩) hx z
   obtain⟨k,hk⟩:=ih _ h2 _ (jC.mp h3)
   refine⟨k+1,?_⟩
   show Kp279.times n (Kp281.nth n k) (Kp280.least n)=⟨x,y⟩
   rw[hk]
   exact h1
theorem adW{n:Nat}(h:Kp279.okN n=true){a:Pair}:Kp279.diff n a=1↔∃k,Kp281.nth n k=a:=by
 constructor
 ·intro e
  exact wX h a.y a.x (jC.mp e)
 ·rintro ⟨k,rfl⟩
  exact pU h k
section
variable{n:Nat}(h:Kp279.okN n=true)
include h
theorem nq:∀k:Nat,0<(Kp281.nth n (k+1)).y/\0<(Kp281.nth n k).x
 |0=>by
  have l:=lV h
  refine⟨?_,(by show 0<1;decide)⟩
  show 0<1*(Kp280.least n).y+0*(Kp280.least n).x
  have:=l.pos
  omega
 |k+1=>by
  obtain⟨h1,h2⟩:=nq k
  have l:=lV h
  have hp:=l.two (bD.mp h).1
  have hx:0<(Kp281.nth n (k+1)).x:=by
   show 0<(Kp281.nth n k).x*(Kp280.least n).x+n*(Kp281.nth n k).y*(Kp280.least n).y
   have:=Nat.mul_pos h2 (show 0<(Kp280.least n).x by omega)
   omega
  refine⟨?_,hx⟩
  show 0<(Kp281.nth n (k+1)).x*(Kp280.least n).y+(Kp281.nth n (k+1)).y*(Kp280.least n).x
  have:=Nat.mul_pos hx l.pos
  omega
theorem Ja(k:Nat):(Kp281.nth n k).y<(Kp281.nth n (k+1)).y:=by
 have l:=lV h
 have hp:=l.two (bD.mp h).1
 show _<(Kp281.nth n k).x*(Kp280.least n).y+(Kp281.nth n k).y*(Kp280.least n).x
 have h1:=Nat.mul_pos (nq h k).2 l.pos
 have h2:(Kp281.nth n k).y<=(Kp281.nth n k).y*(Kp280.least n).x:=Nat.le_mul_of_pos_right _ (by omega)
 omega
theorem BP(k:Nat):2*(Kp281.nth n k).x<=(Kp281.nth n (k+1)).x:=by
 have l:=lV h
 have hp:=l.two (bD.mp h).1
 show _<=(Kp281.nth n k).x*(Kp280.least n).x+n*(Kp281.nth n k).y*(Kp280.least n).y
 have h2:=Nat.mul_le_mul_left (Kp281.nth n k).x hp
 omega
theorem Jb{j k:Nat}(hjk:j<k):(Kp281.nth n j).y<(Kp281.nth n k).y:=by
 induction k with
 |zero=>omega
 |succ k ih=>
  have:=Ja h k
  rcases Nat.lt_or_ge j k with z|z
  ·have:=ih z;omega
  ·have:j=k:=by omega
   subst this;assumption
theorem Ag{j k:Nat}(hjk:j<k):(Kp281.nth n j).x<(Kp281.nth n k).x:=by
 induction k with
 |zero=>omega
 |succ k ih=>
  have:=BP h k
  have:=(nq h k).2
  rcases Nat.lt_or_ge j k with z|z
  ·have:=ih z;omega
  ·have:j=k:=by omega
   subst this;omega
theorem adX{j k:Nat}(e:Kp281.nth n j=Kp281.nth n k):j=k:=by
 rcases Nat.lt_trichotomy j k with z|z|z
 ·have:=Ag h z;rw[e]at this;omega
 ·exact z
 ·have:=Ag h z;rw[e]at this;omega
theorem Jc:∀k:Nat,3^k<=(Kp281.nth n (k+1)).y/\3^k<=(Kp281.nth n (k+1)).x
 |0=>by
  have h1:=(nq h 0).1
  have h2:=(nq h 1).2
  exact⟨h1,h2⟩
 |k+1=>by
  obtain⟨h1,h2⟩:=Jc k
  have l:=lV h
  have hn:=(bD.mp h).1
  have hp:=l.two hn
  have one:=jC.mp (pU h (k+1))
  have hy:=(nq h k).1
  generalize hz:Kp281.nth n (k+1)=z at*
  have e:Kp281.nth n (k+1+1)=Kp279.times n z (Kp280.least n):=by rw[<-hz];rfl
  rw[e]
  obtain⟨x,y⟩:=z
  simp only at*
  generalize Kp280.least n=m at*
  obtain⟨p,q⟩:=m
  have hq:0<q:=l.pos
  simp only at*
  show 3^(k+1)<=x*q+y*p/\3^(k+1)<=x*p+n*y*q
  have hxy:y<x:=by
   apply jB
   rw[one]
   have:y*y<=n*y*y:=Nat.mul_le_mul_right y (Nat.le_mul_of_pos_left y (by omega))
   omega
  have hnx:x<=n*y:=by
   apply BK
   rw[one]
   have e1:n*y*(n*y)=n*(n*y*y):=by grind
   rw[e1]
   have e2:2*(n*y*y)<=n*(n*y*y):=Nat.mul_le_mul_right _ hn
   have e3:1<=n*y*y:=Nat.mul_pos (Nat.mul_pos (by omega) hy) hy
   omega
  have a1:x<=x*q:=Nat.le_mul_of_pos_right x hq
  have a2:y*2<=y*p:=Nat.mul_le_mul_left y hp
  have a3:x*2<=x*p:=Nat.mul_le_mul_left x hp
  have a4:n*y<=n*y*q:=Nat.le_mul_of_pos_right _ hq
  rw[Nat.pow_succ]
  omega
theorem BR{k:Nat}:∀(f j:Nat),j<=k->k<j+f->Kp281.numberOf n (Kp281.nth n k) f j=some k
 |0,j,h1,h2=>by omega
 |f+1,j,h1,h2=>by
  show(if Kp281.nth n j=Kp281.nth n k then some j else if(Kp281.nth n k).x<(Kp281.nth n j).x then none else Kp281.numberOf n (Kp281.nth n k) f (j+1))=some k
  by_cases e:j=k
  ·subst e;rw[if_pos rfl]
  ·rw[if_neg (fun z=>e (adX h z)),if_neg (by have:=Ag h (show j<k by omega);omega)]
   exact BR f (j+1) (by omega) (by omega)
theorem uE{a:Pair}(ha:Kp279.diff n a≠1):∀(f j:Nat),Kp281.numberOf n a f j=none
 |0,j=>rfl
 |f+1,j=>by
  show(if Kp281.nth n j=a then some j else if a.x<(Kp281.nth n j).x then none else Kp281.numberOf n a f (j+1))=none
  rw[if_neg (fun z=>ha (by rw[<-z];exact pU h j))]
  split
  ·rfl
  ·exact uE ha f (j+1)
theorem YS{k:Nat}(hk:(Kp281.nth n k).y<2^33):k<=22:=by
 apply Nat.le_of_not_lt
 intro c
 have h1:3^22<=(Kp281.nth n 23).y:=(Jc h 22).1
 have h3:(3:Nat)^22=31381059609:=rfl
 rcases Nat.lt_or_ge 23 k with z|z
 ·have:=Jb h z
  omega
 ·have:k=23:=by omega
  subst this
  omega
end
end Ns
end
section
namespace Ns
open Kp279 (Pair)
theorem fmod_zero{u d:Int}:u.fmod d=0↔u%d=0:=by
 rw[<-Int.dvd_iff_emod_eq_zero,<-Int.dvd_iff_fmod_eq_zero]
theorem BW{u d:Int}(h:u%d=0):u.fdiv d=u/d:=by
 exact(Int.fdiv_eq_ediv_of_dvd (Int.dvd_of_emod_eq_zero h))
theorem oK(a b:Nat):((a:Int).fdiv (b:Int))=((a/b:Nat):Int):=by
 rw[Int.fdiv_eq_ediv_of_nonneg _ (Int.natCast_nonneg b)]
 rfl
theorem wY(a b:Nat):((a:Int).fmod (b:Int))=((a%b:Nat):Int):=by
 rw[Int.fmod_eq_emod_of_nonneg _ (Int.natCast_nonneg b)]
 rfl
theorem wZ{n y r:Nat}(h:r*r<=n*y*y):(Kp279.diff n ⟨r,y⟩).natAbs=n*y*y-r*r:=by
 unfold Kp279.diff
 have e:((n:Int)*(y:Int)*(y:Int))=((n*y*y:Nat):Int):=by push_cast;rfl
 have e2:((r:Int)*(r:Int))=((r*r:Nat):Int):=by push_cast;rfl
 simp only[e,e2]
 omega
theorem xg{n y r:Nat}(h:n*y*y<=r*r):(Kp279.diff n ⟨r,y⟩).natAbs=r*r-n*y*y:=by
 unfold Kp279.diff
 have e:((n:Int)*(y:Int)*(y:Int))=((n*y*y:Nat):Int):=by push_cast;rfl
 have e2:((r:Int)*(r:Int))=((r*r:Nat):Int):=by push_cast;rfl
 simp only[e,e2]
 omega
theorem Ah{n y r:Nat}(hr:fX (n*y*y) r)(hb:n*y*y<9000*9000):
 Kp279.nearest n y=if(Kp279.diff n ⟨r,y⟩).natAbs<(Kp279.diff n ⟨r+1,y⟩).natAbs then⟨r,y⟩else⟨r+1,y⟩:=by
 unfold Kp279.nearest
 have e:=hr.uniq (adQ hb)
 simp only
 rw[<-e]
 have h1:=wZ hr.le
 have h2:=xg (Nat.le_of_lt hr.lt)
 have h3:=hr.le
 have h4:=hr.lt
 have h5:(r+1)*(r+1)=r*r+2*r+1:=by grind
 rw[h1,h2]
 by_cases c:(r+1)*(r+1)-n*y*y<n*y*y-r*r
 ·rw[if_pos c,if_neg (by omega)]
 ·rw[if_neg c,if_pos (by omega)]
theorem aaZ{n:Nat}:Kp280.first n=⟨(Kp279.nearest n 1).x,1,Kp279.diff n (Kp279.nearest n 1)⟩\/60<n:=by
 by_cases hn:60<n
 ·exact .inr hn
 ·left
  obtain⟨r,hr⟩:=vf n
  have e:n*1*1=n:=by omega
  rw[Ah (r:=r) (by rw[e];exact hr) (by omega)]
  unfold Kp280.first
  rw[<-hr.uniq (Ib n)]
  have h1:=wZ (n:=n) (y:=1) (r:=r) (by rw[e];exact hr.le)
  have h2:=xg (n:=n) (y:=1) (r:=r+1) (by rw[e];exact Nat.le_of_lt hr.lt)
  have h3:=hr.le
  have h4:=hr.lt
  have h5:(r+1)*(r+1)=r*r+2*r+1:=by grind
  rw[h1,h2,e]
  simp only
  by_cases c:(r+1)*(r+1)-n<n-r*r
  ·rw[if_pos c,if_neg (by omega)]
   unfold Kp279.diff
   simp
  ·rw[if_neg c,if_pos (by omega)]
   unfold Kp279.diff
   simp
structure fP{α:Type}(key:α->Int)(l:List α)(i:Nat)(b:α):Prop where
 at_:l[i]?=some b
 le:∀(j:Nat)(c:α),l[j]?=some c->key b<=key c
 lt:∀(j:Nat)(c:α),j<i->l[j]?=some c->key b<key c
theorem fP.snoc{α:Type}{key:α->Int}{l:List α}{i:Nat}{b x:α}(h:fP key l i b):
 if key x<key b then fP key (l++[x]) l.length x else fP key (l++[x]) i b:=by
 have hi:i<l.length:=by
  have:=h.at_
  exact(List.getElem?_eq_some_iff.mp this).1
 have adY:∀(j:Nat)(c:α),(l++[x])[j]?=some c->l[j]?=some c\/(j=l.length/\c=x):=by
  intro j c hj
  rcases Nat.lt_trichotomy j l.length with z|z|z
  ·rw[List.getElem?_append_left z]at hj;exact .inl hj
  ·subst z;rw[List.getElem?_append_right (Nat.le_refl _)]at hj;simp at hj;exact .inr ⟨rfl,hj.symm⟩
  ·rw[List.getElem?_append_right (Nat.le_of_lt z)]at hj
   rw[List.getElem?_eq_none_iff.mpr (by simp;omega)]at hj
   cases hj
 by_cases c:key x<key b
 ·rw[if_pos c]
  refine⟨by simp,fun j d hj=>?_,fun j d hj hd=>?_⟩
  ·rcases adY j d hj with z|⟨_,z⟩
   ·have:=h.le j d z;omega
   ·subst z;omega
  ·rcases adY j d hd with z|⟨z,_⟩
   ·have:=h.le j d z;omega
   ·omega
 ·rw[if_neg c]
  refine⟨by rw[List.getElem?_append_left hi];exact h.at_,fun j d hj=>?_,fun j d hj hd=>?_⟩
  ·rcases adY j d hj with z|⟨_,z⟩
   ·exact h.le j d z
   ·subst z;omega
  ·rcases adY j d hd with z|⟨z,_⟩
   ·exact h.lt j d hj z
   ·omega
theorem fP.uniq{α:Type}{key:α->Int}{l:List α}{i j:Nat}{b c:α}(h:fP key l i b)(g:fP key l j c):i=j/\b=c:=by
 have h1:=h.le j c g.at_
 have h2:=g.le i b h.at_
 have:i=j:=by
  rcases Nat.lt_trichotomy i j with z|z|z
  ·have:=g.lt i b z h.at_;omega
  ·exact z
  ·have:=h.lt j c z g.at_;omega
 subst this
 exact⟨rfl,Option.some.inj (h.at_.symm.trans g.at_)⟩
theorem Og{n:Nat}{t:Kp280.Triple}(ht:Kp280.taken n t≠0):
 ∃i,fP (fun(m:Nat)=>(((m:Int)*(m:Int)-(n:Int)).natAbs:Int)) (((List.range (2*n+1)).drop 1).filter (Kp280.fits t)) i (Kp280.taken n t):=by
 have key:∀(l:List Nat),(∀m∈l,m≠0)->
  (let z:=l.foldl (fun(z m:Nat)=>if Kp280.fits t m then(if z=0 then m else if Kp279.gap (m*m) n<Kp279.gap (z*z) n then m else z)else z) 0
   if z=0 then l.filter (Kp280.fits t)=[]else∃i,fP (fun(m:Nat)=>(((m:Int)*(m:Int)-(n:Int)).natAbs:Int)) (l.filter (Kp280.fits t)) i z):=by
  intro l
  induction hl:l.length generalizing l with
  |zero=>
   intro _
   have:l=[]:=List.eq_nil_of_length_eq_zero hl
   subst this
   simp
  |succ k ih=>
   intro h0
   obtain⟨l',x,rfl⟩:∃l' x,l=l'++[x]:=by
    have hne:l≠[]:=by intro z;subst z;simp at hl
    exact⟨l.dropLast,l.getLast hne,(List.dropLast_concat_getLast hne).symm⟩
   have ih:=ih l' (by simp at hl;exact hl) (fun m hm=>h0 m (List.mem_append_left _ hm))
   have hx:x≠0:=h0 x (List.mem_append_right _ (List.mem_singleton.mpr rfl))
   simp only at ih⊢
   rw[List.foldl_append,List.foldl_cons,List.foldl_nil,List.filter_append]
   generalize hz:l'.foldl (fun(z m:Nat)=>if Kp280.fits t m then(if z=0 then m else if Kp279.gap (m*m) n<Kp279.gap (z*z) n then m else z)else z) 0=z at ih⊢
   have eg:∀m:Nat,(((m:Int)*(m:Int)-(n:Int)).natAbs)=Kp279.gap (m*m) n:=by
    intro m
    have e:(m:Int)*(m:Int)=((m*m:Nat):Int):=by push_cast;rfl
    rw[e]
    unfold Kp279.gap
    split<;>omega
   by_cases hf:Kp280.fits t x=true
   ·rw[if_pos hf]
    have e1:[x].filter (Kp280.fits t)=[x]:=by simp[hf]
    rw[e1]
    by_cases h:z=0
    ·rw[if_pos h]at ih⊢
     rw[ih,if_neg hx]
     refine⟨0,by simp,fun j c hj=>?_,fun j c hj=>by omega⟩
     have:j=0:=by
       have:=(List.getElem?_eq_some_iff.mp hj).1
       simp at this;exact this
     subst this
     simp at hj
     subst hj
     exact Int.le_refl _
    ·rw[if_neg h]at ih⊢
     obtain⟨i,hi⟩:=ih
     have s:=hi.snoc (x:=x)
     simp only[eg]at s
     by_cases hg:Kp279.gap (x*x) n<Kp279.gap (z*z) n
     ·rw[if_pos hg,if_neg hx]
      rw[if_pos (by exact_mod_cast hg)]at s
      simp only[eg]
      exact⟨_,s⟩
     ·rw[if_neg hg,if_neg h]
      rw[if_neg (by intro q;exact hg (by exact_mod_cast q))]at s
      simp only[eg]
      exact⟨_,s⟩
   ·have hf':Kp280.fits t x=false:=by simpa using hf
    rw[hf']
    have e1:[x].filter (Kp280.fits t)=[]:=by simp[hf']
    rw[e1,List.append_nil]
    simpa using ih
 have k:=key ((List.range (2*n+1)).drop 1) (by
  intro m hm
  rw[List.range_eq_range',List.drop_range',List.mem_range'_1]at hm
  omega)
 simp only at k
 unfold Kp280.taken at ht⊢
 rw[if_neg ht]at k
 exact k
theorem Gk{n:Nat}:∀b:Nat,0<b->∃i,fP (fun a=>((Kp279.diff n a).natAbs:Int)) ((List.range' 1 b).map (Kp279.nearest n)) i (Kp279.nearest n (Kp279.closest n b))/\Kp279.closest n b=i+1:=by
 intro b hb
 unfold Kp279.closest
 have e:(List.range (b+1)).drop 1=List.range' 1 b:=by
  rw[List.range_eq_range',List.drop_range']
  congr 1
 rw[e]
 induction b with
 |zero=>omega
 |succ b ih=>
  rcases Nat.eq_zero_or_pos b with z|z
  ·subst z
   refine⟨0,⟨rfl,fun j c hj=>?_,fun j c hj=>by omega⟩,rfl⟩
   have:j=0:=by
     have:=(List.getElem?_eq_some_iff.mp hj).1
     simp at this;exact this
   subst this
   have:=Option.some.inj hj
   subst this
   exact Int.le_refl _
  ·have e:(List.range (b+1)).drop 1=List.range' 1 b:=by
     rw[List.range_eq_range',List.drop_range']
     congr 1
   obtain⟨i,h1,h2⟩:=ih z e
   have es:List.range' 1 (b+1)=List.range' 1 b++[b+1]:=by
     rw[List.range'_concat];simp[Nat.add_comm]
   rw[es,List.foldl_append,List.foldl_cons,List.foldl_nil,List.map_append]
   generalize hz:(List.range' 1 b).foldl (fun(z y:Nat)=>if z=0 then y else if(Kp279.diff n (Kp279.nearest n y)).natAbs<(Kp279.diff n (Kp279.nearest n z)).natAbs then y else z) 0=c at h1 h2⊢
   rw[if_neg (show¬c=0 by omega)]
   have s:=h1.snoc (x:=Kp279.nearest n (b+1))
   by_cases hg:(Kp279.diff n (Kp279.nearest n (b+1))).natAbs<(Kp279.diff n (Kp279.nearest n c)).natAbs
   ·rw[if_pos hg]
    rw[if_pos (by exact_mod_cast hg)]at s
    refine⟨b,?_,rfl⟩
    simpa using s
   ·rw[if_neg hg]
    rw[if_neg (by intro q;exact hg (by exact_mod_cast q))]at s
    exact⟨i,s,h2⟩
end Ns
end
section
namespace Ns
open Kp279 (Pair)
noncomputable def prods(gs:List Int):List Int:=gs.foldl (fun ps g=>ps++ps.map fun p=>p*g) [1]
theorem Ai(gs:List Int)(g:Int):prods (gs++[g])=prods gs++(prods gs).map fun p=>p*g:=by
 unfold prods
 rw[List.foldl_append,List.foldl_cons,List.foldl_nil]
noncomputable def vg(gs:List Int)(m:Nat):Int:=((List.range gs.length).filter fun i=>Nat.testBit m i).foldl (fun(w:Int)(i:Nat)=>w*gs.getD i 1) 1
theorem snoc_cases{α:Type}(l:List α):l=[]\/∃l' x,l=l'++[x]:=by
 rcases List.eq_nil_or_concat l with h|⟨l',x,h⟩
 ·exact .inl h
 ·exact .inr ⟨l',x,by rw[h];try exact List.concat_eq_append⟩
theorem qJ{α β:Type}{f g:β->α->β}:∀(l:List α)(b:β),(∀b,∀a∈l,f b a=g b a)->l.foldl f b=l.foldl g b
 |[],_,_=>rfl
 |a::l,b,h=>by
  rw[List.foldl_cons,List.foldl_cons,h b a (List.mem_cons_self ..)]
  exact qJ l _ fun b a ha=>h b a (List.mem_cons_of_mem _ ha)
theorem BX:∀(n:Nat)(gs:List Int),gs.length=n->(prods gs).length=2^n/\∀m,m<2^n->(prods gs)[m]?=some (vg gs m)
 |0,gs,h=>by
  have:gs=[]:=List.eq_nil_of_length_eq_zero h
  subst this
  refine⟨rfl,fun m hm=>?_⟩
  have:m=0:=by simpa using hm
  subst this
  rfl
 |n+1,gs,h=>by
  rcases snoc_cases gs with z|⟨gs',g,rfl⟩
  ·subst z;simp at h
  have hl:gs'.length=n:=by simpa using h
  obtain⟨ih1,ih2⟩:=BX n gs' hl
  rw[Ai]
  have e2:(2:Nat)^(n+1)=2^n+2^n:=by rw[Nat.pow_succ];omega
  refine⟨by rw[List.length_append,List.length_map,ih1,e2],fun m hm=>?_⟩
  have inner:∀k,k<2^n->∀m,(∀i,i<n->Nat.testBit m i=Nat.testBit k i)->
     (((List.range n).filter fun i=>Nat.testBit m i).foldl (fun(w:Int)(i:Nat)=>w*(gs'++[g]).getD i 1) 1)=vg gs' k:=by
   intro k hk m hb
   unfold vg
   rw[hl]
   have ef:(List.range n).filter (fun i=>Nat.testBit m i)=(List.range n).filter (fun i=>Nat.testBit k i):=by
     apply List.filter_congr
     intro i hi
     exact hb i (List.mem_range.mp hi)
   rw[ef]
   apply qJ
   intro b i hi
   have hi:i<n:=List.mem_range.mp (List.mem_filter.mp hi).1
   rw[List.getD_eq_getElem?_getD,List.getD_eq_getElem?_getD,List.getElem?_append_left (by omega)]
  have whole:vg (gs'++[g]) m=(if Nat.testBit m n then(((List.range n).filter fun i=>Nat.testBit m i).foldl (fun(w:Int)(i:Nat)=>w*(gs'++[g]).getD i 1) 1)*g else(((List.range n).filter fun i=>Nat.testBit m i).foldl (fun(w:Int)(i:Nat)=>w*(gs'++[g]).getD i 1) 1)):=by
   unfold vg
   rw[List.length_append,hl,List.length_singleton,List.range_succ,List.filter_append]
   by_cases c:Nat.testBit m n=true
   ·have e:[n].filter (fun i=>Nat.testBit m i)=[n]:=by simp[c]
    rw[e,List.foldl_append,List.foldl_cons,List.foldl_nil,if_pos c]
    congr 1
    rw[List.getD_eq_getElem?_getD,List.getElem?_append_right (by omega)]
    simp[hl]
   ·have e:[n].filter (fun i=>Nat.testBit m i)=[]:=by simp[c]
    rw[e,List.append_nil,if_neg c]
  rcases Nat.lt_or_ge m (2^n)with c|c
  ·rw[List.getElem?_append_left (by omega),ih2 m c,whole,if_neg (by rw[Nat.testBit_lt_two_pow c];decide),inner m c m fun _ _=>rfl]
  ·rw[List.getElem?_append_right (by omega),ih1,List.getElem?_map,ih2 (m-2^n) (by omega)]
   have eb:∀i,i<n->Nat.testBit m i=Nat.testBit (m-2^n) i:=by
     intro i hi
     have:m=2^n+(m-2^n):=by omega
     rw[this,Nat.testBit_two_pow_add_gt hi]
     congr 1
     omega
   have et:Nat.testBit m n=true:=by
     have:m=2^n+(m-2^n):=by omega
     rw[this,Nat.testBit_two_pow_add_eq,Nat.testBit_lt_two_pow (by omega)]
     rfl
   rw[whole,if_pos et,inner (m-2^n) (by omega) m eb]
   rfl
theorem getD_map{α β:Type}(f:α->β)(l:List α)(i:Nat)(d:β)(e:α)(hi:i<l.length):(l.map f).getD i d=f (l.getD i e):=by
 rw[List.getD_eq_getElem?_getD,List.getD_eq_getElem?_getD,List.getElem?_map,List.getElem?_eq_getElem hi]
 rfl
theorem adZ(d:Kp284.Desk)(v:Int):Kp284.sets d v=(List.range (2^d.kept.length)).filter fun m=>decide ((prods (d.kept.map (Kp279.diff d.n)))[m]?=some v):=by
 unfold Kp284.sets
 apply List.filter_congr
 intro m hm
 have hm:m<2^d.kept.length:=List.mem_range.mp hm
 have h:=(BX d.kept.length (d.kept.map (Kp279.diff d.n)) (by rw[List.length_map])).2 m hm
 rw[h]
 have e:vg (d.kept.map (Kp279.diff d.n)) m=(((List.range d.kept.length).filter fun i=>Nat.testBit m i).foldl (fun(w:Int)(i:Nat)=>w*Kp279.diff d.n (Kp284.keptAt d i)) 1):=by
  unfold vg
  rw[List.length_map]
  apply qJ
  intro b i hi
  have hi:i<d.kept.length:=List.mem_range.mp (List.mem_filter.mp hi).1
  unfold Kp284.keptAt
  rw[getD_map _ _ _ _ ⟨1,0⟩ hi]
 rw[<-e,Bool.eq_iff_iff,beq_iff_eq,decide_eq_true_iff]
 exact⟨fun h=>by rw[h],fun h=>Option.some.inj h⟩
noncomputable def argc:List Nat:=[1,2,0,1,1,1,1,1,0,0,0,0,0,2,0,2,0,0,0,0,0,0,1,2,0,1,1,2,4,1,1,0,0,1,1,0,1,1,1,2,2,2,1,1,2,2,2,1,2,2,1,0,0,2,2,2,3,3,1,2,3,0,2,2,2,2,2,2,2,2]
set_option maxRecDepth 100000 in
theorem YT:∀k:Fin 70,PyKp284.shape ((k.val:Nat):Int)=some (argc.getD k.val 0,0):=by decide+kernel
theorem YW{p:Int}(h:p<0\/69<p):PyKp284.shape p=none:=by
 unfold PyKp284.shape
 iterate 70 rw[if_neg (by omega)]
theorem Vk{p:Int}{n k:Nat}(h:PyKp284.shape p=some (n,k)):∃j:Nat,j<70/\p=(j:Int)/\n=argc.getD j 0/\k=0:=by
 by_cases c:p<0\/69<p
 ·rw[YW c]at h;cases h
 ·refine⟨p.toNat,by omega,by omega,?_⟩
  have e:=YT ⟨p.toNat,by omega⟩
  have ep:((p.toNat:Nat):Int)=p:=by omega
  simp only[ep]at e
  rw[h]at e
  simp only[Option.some.injEq,Prod.mk.injEq]at e
  exact e
theorem Xf{P:List (List Int)->Prop}
 (h0:(∀a:Int,P [[0,a]]))
 (h1:(∀a b:Int,P [[1,a,b]]))
 (h2:P [[2]])
 (h3:(∀a:Int,P [[3,a]]))
 (h4:(∀a:Int,P [[4,a]]))
 (h5:(∀a:Int,P [[5,a]]))
 (h6:(∀a:Int,P [[6,a]]))
 (h7:(∀a:Int,P [[7,a]]))
 (h8:P [[8]])
 (h9:P [[9]])
 (h10:P [[10]])
 (h11:P [[11]])
 (h12:P [[12]])
 (h13:(∀a b:Int,P [[13,a,b]]))
 (h14:P [[14]])
 (h15:(∀a b:Int,P [[15,a,b]]))
 (h16:P [[16]])
 (h17:P [[17]])
 (h18:P [[18]])
 (h19:P [[19]])
 (h20:P [[20]])
 (h21:P [[21]])
 (h22:(∀a:Int,P [[22,a]]))
 (h23:(∀a b:Int,P [[23,a,b]]))
 (h24:P [[24]])
 (h25:(∀a:Int,P [[25,a]]))
 (h26:(∀a:Int,P [[26,a]]))
 (h27:(∀a b:Int,P [[27,a,b]]))
 (h28:(∀a b c d:Int,P [[28,a,b,c,d]]))
 (h29:(∀a:Int,P [[29,a]]))
 (h30:(∀a:Int,P [[30,a]]))
 (h31:P [[31]])
 (h32:P [[32]])
 (h33:(∀a:Int,P [[33,a]]))
 (h34:(∀a:Int,P [[34,a]]))
 (h35:P [[35]])
 (h36:(∀a:Int,P [[36,a]]))
 (h37:(∀a:Int,P [[37,a]]))
 (h38:(∀a:Int,P [[38,a]]))
 (h39:(∀a b:Int,P [[39,a,b]]))
 (h40:(∀a b:Int,P [[40,a,b]]))
 (h41:(∀a b:Int,P [[41,a,b]]))
 (h42:(∀a:Int,P [[42,a]]))
 (h43:(∀a:Int,P [[43,a]]))
 (h44:(∀a b:Int,P [[44,a,b]]))
 (h45:(∀a b:Int,P [[45,a,b]]))
 (h46:(∀a b:Int,P [[46,a,b]]))
 (h47:(∀a:Int,P [[47,a]]))
 (h48:(∀a b:Int,P [[48,a,b]]))
 (h49:(∀a b:Int,P [[49,a,b]]))
 (h50:(∀a:Int,P [[50,a]]))
 (h51:P [[51]])
 (h52:P [[52]])
 (h53:(∀a b:Int,P [[53,a,b]]))
 (h54:(∀a b:Int,P [[54,a,b]]))
 (h55:(∀a b:Int,P [[55,a,b]]))
 (h56:(∀a b c:Int,P [[56,a,b,c]]))
 (h57:(∀a b c:Int,P [[57,a,b,c]]))
 (h58:(∀a:Int,P [[58,a]]))
 (h59:(∀a b:Int,P [[59,a,b]]))
 (h60:(∀a b c:Int,P [[60,a,b,c]]))
 (h61:P [[61]])
 (h62:(∀a b:Int,P [[62,a,b]]))
 (h63:(∀a b:Int,P [[63,a,b]]))
 (h64:(∀a b:Int,P [[64,a,b]]))
 (h65:(∀a b:Int,P [[65,a,b]]))
 (h66:(∀a b:Int,P [[66,a,b]]))
 (h67:(∀a b:Int,P [[67,a,b]]))
 (h68:(∀a b:Int,P [[68,a,b]]))
 (h69:(∀a b:Int,P [[69,a,b]]))
 :∀(j:Nat),j<70->∀args:List Int,args.length=argc.getD j 0->P [(j:Int)::args]
 |0,_,[a],_=>h0 a
 |1,_,[a,b],_=>h1 a b
 |2,_,[],_=>h2
 |3,_,[a],_=>h3 a
 |4,_,[a],_=>h4 a
 |5,_,[a],_=>h5 a
 |6,_,[a],_=>h6 a
 |7,_,[a],_=>h7 a
 |8,_,[],_=>h8
 |9,_,[],_=>h9
 |10,_,[],_=>h10
 |11,_,[],_=>h11
 |12,_,[],_=>h12
 |13,_,[a,b],_=>h13 a b
 |14,_,[],_=>h14
 |15,_,[a,b],_=>h15 a b
 |16,_,[],_=>h16
 |17,_,[],_=>h17
 |18,_,[],_=>h18
 |19,_,[],_=>h19
 |20,_,[],_=>h20
 |21,_,[],_=>h21
 |22,_,[a],_=>h22 a
 |23,_,[a,b],_=>h23 a b
 |24,_,[],_=>h24
 |25,_,[a],_=>h25 a
 |26,_,[a],_=>h26 a
 |27,_,[a,b],_=>h27 a b
 |28,_,[a,b,c,d],_=>h28 a b c d
 |29,_,[a],_=>h29 a
 |30,_,[a],_=>h30 a
 |31,_,[],_=>h31
 |32,_,[],_=>h32
 |33,_,[a],_=>h33 a
 |34,_,[a],_=>h34 a
 |35,_,[],_=>h35
 |36,_,[a],_=>h36 a
 |37,_,[a],_=>h37 a
 |38,_,[a],_=>h38 a
 |39,_,[a,b],_=>h39 a b
 |40,_,[a,b],_=>h40 a b
 |41,_,[a,b],_=>h41 a b
 |42,_,[a],_=>h42 a
 |43,_,[a],_=>h43 a
 |44,_,[a,b],_=>h44 a b
 |45,_,[a,b],_=>h45 a b
 |46,_,[a,b],_=>h46 a b
 |47,_,[a],_=>h47 a
 |48,_,[a,b],_=>h48 a b
 |49,_,[a,b],_=>h49 a b
 |50,_,[a],_=>h50 a
 |51,_,[],_=>h51
 |52,_,[],_=>h52
 |53,_,[a,b],_=>h53 a b
 |54,_,[a,b],_=>h54 a b
 |55,_,[a,b],_=>h55 a b
 |56,_,[a,b,c],_=>h56 a b c
 |57,_,[a,b,c],_=>h57 a b c
 |58,_,[a],_=>h58 a
 |59,_,[a,b],_=>h59 a b
 |60,_,[a,b,c],_=>h60 a b c
 |61,_,[],_=>h61
 |62,_,[a,b],_=>h62 a b
 |63,_,[a,b],_=>h63 a b
 |64,_,[a,b],_=>h64 a b
 |65,_,[a,b],_=>h65 a b
 |66,_,[a,b],_=>h66 a b
 |67,_,[a,b],_=>h67 a b
 |68,_,[a,b],_=>h68 a b
 |69,_,[a,b],_=>h69 a b
 |0,_,[],h=>absurd h (by show¬(0=1);decide)
 |0,_,_::_::_,h=>absurd h (by intro q;have q:_+2=1:=q;omega)
 |1,_,[],h=>absurd h (by show¬(0=2);decide)
 |1,_,[_],h=>absurd h (by show¬(1=2);decide)
 |1,_,_::_::_::_,h=>absurd h (by intro q;have q:_+3=2:=q;omega)
 |2,_,_::_,h=>absurd h (by intro q;have q:_+1=0:=q;omega)
 |3,_,[],h=>absurd h (by show¬(0=1);decide)
 |3,_,_::_::_,h=>absurd h (by intro q;have q:_+2=1:=q;omega)
 |4,_,[],h=>absurd h (by show¬(0=1);decide)
 |4,_,_::_::_,h=>absurd h (by intro q;have q:_+2=1:=q;omega)
 |5,_,[],h=>absurd h (by show¬(0=1);decide)
 |5,_,_::_::_,h=>absurd h (by intro q;have q:_+2=1:=q;omega)
 |6,_,[],h=>absurd h (by show¬(0=1);decide)
 |6,_,_::_::_,h=>absurd h (by intro q;have q:_+2=1:=q;omega)
 |7,_,[],h=>absurd h (by show¬(0=1);decide)
 |7,_,_::_::_,h=>absurd h (by intro q;have q:_+2=1:=q;omega)
 |8,_,_::_,h=>absurd h (by intro q;have q:_+1=0:=q;omega)
 |9,_,_::_,h=>absurd h (by intro q;have q:_+1=0:=q;omega)
 |10,_,_::_,h=>absurd h (by intro q;have q:_+1=0:=q;omega)
 |11,_,_::_,h=>absurd h (by intro q;have q:_+1=0:=q;omega)
 |12,_,_::_,h=>absurd h (by intro q;have q:_+1=0:=q;omega)
 |13,_,[],h=>absurd h (by show¬(0=2);decide)
 |13,_,[_],h=>absurd h (by show¬(1=2);decide)
 |13,_,_::_::_::_,h=>absurd h (by intro q;have q:_+3=2:=q;omega)
 |14,_,_::_,h=>absurd h (by intro q;have q:_+1=0:=q;omega)
 |15,_,[],h=>absurd h (by show¬(0=2);decide)
 |15,_,[_],h=>absurd h (by show¬(1=2);decide)
 |15,_,_::_::_::_,h=>absurd h (by intro q;have q:_+3=2:=q;omega)
 |16,_,_::_,h=>absurd h (by intro q;have q:_+1=0:=q;omega)
 |17,_,_::_,h=>absurd h (by intro q;have q:_+1=0:=q;omega)
 |18,_,_::_,h=>absurd h (by intro q;have q:_+1=0:=q;omega)
 |19,_,_::_,h=>absurd h (by intro q;have q:_+1=0:=q;omega)
 |20,_,_::_,h=>absurd h (by intro q;have q:_+1=0:=q;omega)
 |21,_,_::_,h=>absurd h (by intro q;have q:_+1=0:=q;omega)
 |22,_,[],h=>absurd h (by show¬(0=1);decide)
 |22,_,_::_::_,h=>absurd h (by intro q;have q:_+2=1:=q;omega)
 |23,_,[],h=>absurd h (by show¬(0=2);decide)
 |23,_,[_],h=>absurd h (by show¬(1=2);decide)
 |23,_,_::_::_::_,h=>absurd h (by intro q;have q:_+3=2:=q;omega)
 |24,_,_::_,h=>absurd h (by intro q;have q:_+1=0:=q;omega)
 |25,_,[],h=>absurd h (by show¬(0=1);decide)
 |25,_,_::_::_,h=>absurd h (by intro q;have q:_+2=1:=q;omega)
 |26,_,[],h=>absurd h (by show¬(0=1);decide)
 |26,_,_::_::_,h=>absurd h (by intro q;have q:_+2=1:=q;omega)
 |27,_,[],h=>absurd h (by show¬(0=2);decide)
 |27,_,[_],h=>absurd h (by show¬(1=2);decide)
 |27,_,_::_::_::_,h=>absurd h (by intro q;have q:_+3=2:=q;omega)
 |28,_,[],h=>absurd h (by show¬(0=4);decide)
 |28,_,[_],h=>absurd h (by show¬(1=4);decide)
 |28,_,[_,_],h=>absurd h (by show¬(2=4);decide)
 |28,_,[_,_,_],h=>absurd h (by show¬(3=4);decide)
 |28,_,_::_::_::_::_::_,h=>absurd h (by intro q;have q:_+5=4:=q;omega)
 |29,_,[],h=>absurd h (by show¬(0=1);decide)
 |29,_,_::_::_,h=>absurd h (by intro q;have q:_+2=1:=q;omega)
 |30,_,[],h=>absurd h (by show¬(0=1);decide)
 |30,_,_::_::_,h=>absurd h (by intro q;have q:_+2=1:=q;omega)
 |31,_,_::_,h=>absurd h (by intro q;have q:_+1=0:=q;omega)
 |32,_,_::_,h=>absurd h (by intro q;have q:_+1=0:=q;omega)
 |33,_,[],h=>absurd h (by show¬(0=1);decide)
 |33,_,_::_::_,h=>absurd h (by intro q;have q:_+2=1:=q;omega)
 |34,_,[],h=>absurd h (by show¬(0=1);decide)
 |34,_,_::_::_,h=>absurd h (by intro q;have q:_+2=1:=q;omega)
 |35,_,_::_,h=>absurd h (by intro q;have q:_+1=0:=q;omega)
 |36,_,[],h=>absurd h (by show¬(0=1);decide)
 |36,_,_::_::_,h=>absurd h (by intro q;have q:_+2=1:=q;omega)
 |37,_,[],h=>absurd h (by show¬(0=1);decide)
 |37,_,_::_::_,h=>absurd h (by intro q;have q:_+2=1:=q;omega)
 |38,_,[],h=>absurd h (by show¬(0=1);decide)
 |38,_,_::_::_,h=>absurd h (by intro q;have q:_+2=1:=q;omega)
 |39,_,[],h=>absurd h (by show¬(0=2);decide)
 |39,_,[_],h=>absurd h (by show¬(1=2);decide)
 |39,_,_::_::_::_,h=>absurd h (by intro q;have q:_+3=2:=q;omega)
 |40,_,[],h=>absurd h (by show¬(0=2);decide)
 |40,_,[_],h=>absurd h (by show¬(1=2);decide)
 |40,_,_::_::_::_,h=>absurd h (by intro q;have q:_+3=2:=q;omega)
 |41,_,[],h=>absurd h (by show¬(0=2);decide)
 |41,_,[_],h=>absurd h (by show¬(1=2);decide)
 |41,_,_::_::_::_,h=>absurd h (by intro q;have q:_+3=2:=q;omega)
 |42,_,[],h=>absurd h (by show¬(0=1);decide)
 |42,_,_::_::_,h=>absurd h (by intro q;have q:_+2=1:=q;omega)
 |43,_,[],h=>absurd h (by show¬(0=1);decide)
 |43,_,_::_::_,h=>absurd h (by intro q;have q:_+2=1:=q;omega)
 |44,_,[],h=>absurd h (by show¬(0=2);decide)
 |44,_,[_],h=>absurd h (by show¬(1=2);decide)
 |44,_,_::_::_::_,h=>absurd h (by intro q;have q:_+3=2:=q;omega)
 |45,_,[],h=>absurd h (by show¬(0=2);decide)
 |45,_,[_],h=>absurd h (by show¬(1=2);decide)
 |45,_,_::_::_::_,h=>absurd h (by intro q;have q:_+3=2:=q;omega)
 |46,_,[],h=>absurd h (by show¬(0=2);decide)
 |46,_,[_],h=>absurd h (by show¬(1=2);decide)
 |46,_,_::_::_::_,h=>absurd h (by intro q;have q:_+3=2:=q;omega)
 |47,_,[],h=>absurd h (by show¬(0=1);decide)
 |47,_,_::_::_,h=>absurd h (by intro q;have q:_+2=1:=q;omega)
 |48,_,[],h=>absurd h (by show¬(0=2);decide)
 |48,_,[_],h=>absurd h (by show¬(1=2);decide)
 |48,_,_::_::_::_,h=>absurd h (by intro q;have q:_+3=2:=q;omega)
 |49,_,[],h=>absurd h (by show¬(0=2);decide)
 |49,_,[_],h=>absurd h (by show¬(1=2);decide)
 |49,_,_::_::_::_,h=>absurd h (by intro q;have q:_+3=2:=q;omega)
 |50,_,[],h=>absurd h (by show¬(0=1);decide)
 |50,_,_::_::_,h=>absurd h (by intro q;have q:_+2=1:=q;omega)
 |51,_,_::_,h=>absurd h (by intro q;have q:_+1=0:=q;omega)
 |52,_,_::_,h=>absurd h (by intro q;have q:_+1=0:=q;omega)
 |53,_,[],h=>absurd h (by show¬(0=2);decide)
 |53,_,[_],h=>absurd h (by show¬(1=2);decide)
 |53,_,_::_::_::_,h=>absurd h (by intro q;have q:_+3=2:=q;omega)
 |54,_,[],h=>absurd h (by show¬(0=2);decide)
 |54,_,[_],h=>absurd h (by show¬(1=2);decide)
 |54,_,_::_::_::_,h=>absurd h (by intro q;have q:_+3=2:=q;omega)
 |55,_,[],h=>absurd h (by show¬(0=2);decide)
 |55,_,[_],h=>absurd h (by show¬(1=2);decide)
 |55,_,_::_::_::_,h=>absurd h (by intro q;have q:_+3=2:=q;omega)
 |56,_,[],h=>absurd h (by show¬(0=3);decide)
 |56,_,[_],h=>absurd h (by show¬(1=3);decide)
 |56,_,[_,_],h=>absurd h (by show¬(2=3);decide)
 |56,_,_::_::_::_::_,h=>absurd h (by intro q;have q:_+4=3:=q;omega)
 |57,_,[],h=>absurd h (by show¬(0=3);decide)
 |57,_,[_],h=>absurd h (by show¬(1=3);decide)
 |57,_,[_,_],h=>absurd h (by show¬(2=3);decide)
 |57,_,_::_::_::_::_,h=>absurd h (by intro q;have q:_+4=3:=q;omega)
 |58,_,[],h=>absurd h (by show¬(0=1);decide)
 |58,_,_::_::_,h=>absurd h (by intro q;have q:_+2=1:=q;omega)
 |59,_,[],h=>absurd h (by show¬(0=2);decide)
 |59,_,[_],h=>absurd h (by show¬(1=2);decide)
 |59,_,_::_::_::_,h=>absurd h (by intro q;have q:_+3=2:=q;omega)
 |60,_,[],h=>absurd h (by show¬(0=3);decide)
 |60,_,[_],h=>absurd h (by show¬(1=3);decide)
 |60,_,[_,_],h=>absurd h (by show¬(2=3);decide)
 |60,_,_::_::_::_::_,h=>absurd h (by intro q;have q:_+4=3:=q;omega)
 |61,_,_::_,h=>absurd h (by intro q;have q:_+1=0:=q;omega)
 |62,_,[],h=>absurd h (by show¬(0=2);decide)
 |62,_,[_],h=>absurd h (by show¬(1=2);decide)
 |62,_,_::_::_::_,h=>absurd h (by intro q;have q:_+3=2:=q;omega)
 |63,_,[],h=>absurd h (by show¬(0=2);decide)
 |63,_,[_],h=>absurd h (by show¬(1=2);decide)
 |63,_,_::_::_::_,h=>absurd h (by intro q;have q:_+3=2:=q;omega)
 |64,_,[],h=>absurd h (by show¬(0=2);decide)
 |64,_,[_],h=>absurd h (by show¬(1=2);decide)
 |64,_,_::_::_::_,h=>absurd h (by intro q;have q:_+3=2:=q;omega)
 |65,_,[],h=>absurd h (by show¬(0=2);decide)
 |65,_,[_],h=>absurd h (by show¬(1=2);decide)
 |65,_,_::_::_::_,h=>absurd h (by intro q;have q:_+3=2:=q;omega)
 |66,_,[],h=>absurd h (by show¬(0=2);decide)
 |66,_,[_],h=>absurd h (by show¬(1=2);decide)
 |66,_,_::_::_::_,h=>absurd h (by intro q;have q:_+3=2:=q;omega)
 |67,_,[],h=>absurd h (by show¬(0=2);decide)
 |67,_,[_],h=>absurd h (by show¬(1=2);decide)
 |67,_,_::_::_::_,h=>absurd h (by intro q;have q:_+3=2:=q;omega)
 |68,_,[],h=>absurd h (by show¬(0=2);decide)
 |68,_,[_],h=>absurd h (by show¬(1=2);decide)
 |68,_,_::_::_::_,h=>absurd h (by intro q;have q:_+3=2:=q;omega)
 |69,_,[],h=>absurd h (by show¬(0=2);decide)
 |69,_,[_],h=>absurd h (by show¬(1=2);decide)
 |69,_,_::_::_::_,h=>absurd h (by intro q;have q:_+3=2:=q;omega)
 |_+70,h,_,_=>absurd h (by omega)
theorem aa0{j:Nat}(hj:j<70){args:List Int}(h:args.length=argc.getD j 0):PyKp284.whole [(j:Int)::args]=[(j:Int)::args]:=
 Xf (P:=fun c=>PyKp284.whole c=c) (fun _=>rfl) (fun _ _=>rfl) rfl (fun _=>rfl) (fun _=>rfl) (fun _=>rfl) (fun _=>rfl) (fun _=>rfl) rfl rfl rfl rfl rfl (fun _ _=>rfl) rfl (fun _ _=>rfl) rfl rfl rfl rfl rfl rfl (fun _=>rfl) (fun _ _=>rfl) rfl (fun _=>rfl) (fun _=>rfl) (fun _ _=>rfl) (fun _ _ _ _=>rfl) (fun _=>rfl) (fun _=>rfl) rfl rfl (fun _=>rfl) (fun _=>rfl) rfl (fun _=>rfl) (fun _=>rfl) (fun _=>rfl) (fun _ _=>rfl) (fun _ _=>rfl) (fun _ _=>rfl) (fun _=>rfl) (fun _=>rfl) (fun _ _=>rfl) (fun _ _=>rfl) (fun _ _=>rfl) (fun _=>rfl) (fun _ _=>rfl) (fun _ _=>rfl) (fun _=>rfl) rfl rfl (fun _ _=>rfl) (fun _ _=>rfl) (fun _ _=>rfl) (fun _ _ _=>rfl) (fun _ _ _=>rfl) (fun _=>rfl) (fun _ _=>rfl) (fun _ _ _=>rfl) rfl (fun _ _=>rfl) (fun _ _=>rfl) (fun _ _=>rfl) (fun _ _=>rfl) (fun _ _=>rfl) (fun _ _=>rfl) (fun _ _=>rfl) (fun _ _=>rfl) j hj args h
theorem Jd{f:Nat}{p:Int}{r:List Int}{cs:List (List (List Int))}(h:PyFlat.calls PyKp284.shape f (p::r)=some cs):
 ∃(g j:Nat)(cs':List (List (List Int))),f=g+1/\j<70/\p=(j:Int)/\argc.getD j 0<=r.length/\cs=[p::r.take (argc.getD j 0)]::cs'/\PyFlat.calls PyKp284.shape g (r.drop (argc.getD j 0))=some cs':=by
 cases f with
 |zero=>cases h
 |succ g=>
  unfold PyFlat.calls at h
  cases hc:PyFlat.call PyKp284.shape (p::r)with
  |none=>rw[hc]at h;cases h
  |some ct=>
   obtain⟨c,t⟩:=ct
   rw[hc]at h
   simp only at h
   cases hr:PyFlat.calls PyKp284.shape g t with
   |none=>rw[hr]at h;cases h
   |some cs'=>
    rw[hr]at h
    simp only[Option.some.injEq]at h
    unfold PyFlat.call at hc
    cases hs:PyKp284.shape p with
    |none=>simp only[hs]at hc;cases hc
    |some nk=>
     obtain⟨n,k⟩:=nk
     obtain⟨j,hj,hp,hn,hk⟩:=Vk hs
     subst hk
     simp only[hs]at hc
     by_cases hl:r.length<n
     ·rw[if_pos hl]at hc;cases hc
     ·rw[if_neg hl]at hc
      unfold PyFlat.rows at hc
      simp only[Option.some.injEq,Prod.mk.injEq]at hc
      obtain⟨h1,h2⟩:=hc
      subst h1 h2 hn
      exact⟨g,j,cs',rfl,hj,hp,by omega,h.symm,hr⟩
end Ns
end
section
namespace Ns
open Kp279 (Pair)
theorem Qv{α:Type}(l:List α)(n:Nat):(l.drop (l.length-n)).reverse=l.reverse.take n:=by
 rw[List.take_reverse]
theorem Ea{n:Nat}(h:Kp279.okN n=true)(a:Pair):Kp279.diff n (Kp282.down n a)=Kp279.diff n a:=by
 unfold Kp282.down
 rw[BL,jC.mpr (lV h).one,Int.mul_one]
theorem vh{n:Nat}(h:Kp279.okN n=true):∀(f c:Nat)(a:Pair),Kp279.diff n (Kp282.downAll n f c a).2=Kp279.diff n a
 |0,c,a=>rfl
 |f+1,c,a=>by
  show Kp279.diff n (if Kp282.isFirst n a then(c,a)else Kp282.downAll n f (c+1) (Kp282.down n a)).2=_
  split
  ·rfl
  ·rw[vh h f,Ea h]
theorem Qw{d:Kp284.Desk}(h:Kp279.okN d.n=true)(b c:Pair):Kp284.kin d b c=decide (Kp284.firstOf d b=Kp284.firstOf d c):=by
 unfold Kp284.kin
 by_cases e:Kp284.firstOf d b=Kp284.firstOf d c
 ·have:Kp279.diff d.n b=Kp279.diff d.n c:=by
   rw[<-vh h 100 0 b,<-vh h 100 0 c]
   exact congrArg _ e
  simp[e,this]
 ·simp[e]
section
variable{α:Type} [DecidableEq α]
noncomputable def tally(l:List α):List (α×Int):=l.foldl (fun t k=>if t.any (fun p=>decide (p.1=k))then t.map (fun p=>if p.1=k then(p.1,p.2+1)else p)else t++[(k,1)]) []
noncomputable def kJ(l:List α):List Nat:=(List.range l.length).filter fun i=>decide (l[i]?∉(l.take i).map some)
theorem Je(l:List α)(k:α):tally (l++[k])=if(tally l).any (fun p=>decide (p.1=k))then(tally l).map (fun p=>if p.1=k then(p.1,p.2+1)else p)else tally l++[(k,1)]:=by
 unfold tally
 rw[List.foldl_append,List.foldl_cons,List.foldl_nil]
theorem Qx(l:List α)(k:α):kJ (l++[k])=if k∈l then kJ l else kJ l++[l.length]:=by
 unfold kJ
 rw[List.length_append,List.length_singleton,List.range_succ,List.filter_append]
 have e1:(List.range l.length).filter (fun i=>decide ((l++[k])[i]?∉((l++[k]).take i).map some))=(List.range l.length).filter fun i=>decide (l[i]?∉(l.take i).map some):=by
  apply List.filter_congr
  intro i hi
  have hi:i<l.length:=List.mem_range.mp hi
  rw[List.getElem?_append_left hi,List.take_append_of_le_length (by omega)]
 rw[e1]
 have e2:(l++[k])[l.length]?=some k:=by simp
 have e3:(l++[k]).take l.length=l:=by simp
 by_cases c:k∈l
 ·rw[if_pos c]
  have:[l.length].filter (fun i=>decide ((l++[k])[i]?∉((l++[k]).take i).map some))=[]:=by
   rw[List.filter_cons,if_neg,List.filter_nil]
   rw[e2,e3]
   simp[c]
  rw[this,List.append_nil]
 ·rw[if_neg c]
  have:[l.length].filter (fun i=>decide ((l++[k])[i]?∉((l++[k]).take i).map some))=[l.length]:=by
   rw[List.filter_cons,if_pos,List.filter_nil]
   rw[e2,e3]
   simp[c]
  rw[this]
theorem uP:∀(n:Nat)(l:List α),l.length=n->∃ks:List α,ks.map some=(kJ l).map (fun i=>l[i]?)/\(∀k,k∈ks↔k∈l)/\ks.Nodup/\tally l=ks.map fun k=>(k,((l.filter fun x=>decide (x=k)).length:Int))
 |0,l,h=>by
  have:l=[]:=List.eq_nil_of_length_eq_zero h
  subst this
  exact⟨[],rfl,fun k=>Iff.rfl,List.nodup_nil,rfl⟩
 |n+1,l,h=>by
  rcases snoc_cases l with z|⟨l',x,rfl⟩
  ·subst z;simp at h
  have hl:l'.length=n:=by simpa using h
  obtain⟨ks,h1,h2,h3,h4⟩:=uP n l' hl
  have hidx:∀i∈kJ l',i<l'.length:=fun i hi=>List.mem_range.mp (List.mem_filter.mp hi).1
  have hmap:(kJ l').map (fun i=>(l'++[x])[i]?)=(kJ l').map (fun i=>l'[i]?):=by
   apply List.map_congr_left
   intro i hi
   rw[List.getElem?_append_left (hidx i hi)]
  have hany:(tally l').any (fun p=>decide (p.1=x))=decide (x∈l'):=by
   rw[h4,Bool.eq_iff_iff,List.any_eq_true,decide_eq_true_iff,<-h2 x]
   constructor
   ·rintro ⟨p,hp,e⟩
    obtain⟨k,hk,rfl⟩:=List.mem_map.mp hp
    have:k=x:=by simpa using e
    subst this
    exact hk
   ·intro hx
    exact⟨_,List.mem_map.mpr ⟨x,hx,rfl⟩,by simp⟩
  rw[Qx,Je,hany]
  by_cases c:x∈l'
  ·rw[if_pos c,if_pos (by simpa using c)]
   refine⟨ks,by rw[hmap];exact h1,fun k=>?_,h3,?_⟩
   ·rw[h2 k,List.mem_append,List.mem_singleton]
    constructor
    ·exact .inl
    ·rintro (q|q)
     ·exact q
     ·rw[q];exact c
   ·rw[h4,List.map_map]
    apply List.map_congr_left
    intro k hk
    simp only[Function.comp,List.filter_append,List.length_append]
    by_cases e:k=x
    ·subst e;simp
    ·have e2:[x].filter (fun y=>decide (y=k))=[]:=by
       rw[List.filter_cons,if_neg (by simpa using fun q:x=k=>e q.symm),List.filter_nil]
     rw[e2]
     simp[e]
  ·rw[if_neg c,if_neg (by simpa using c)]
   refine⟨ks++[x],?_,fun k=>?_,?_,?_⟩
   ·rw[List.map_append,List.map_append,hmap,h1]
    simp
   ·rw[List.mem_append,List.mem_append,h2 k]
   ·rw[List.nodup_append]
    refine⟨h3,by simp,fun a ha b hb=>?_⟩
    have:b=x:=by simpa using hb
    subst this
    intro q
    subst q
    exact c ((h2 _).mp ha)
   ·rw[h4,List.map_append]
    congr 1
    ·apply List.map_congr_left
     intro k hk
     have hk':=(h2 k).mp hk
     have:¬x=k:=fun q=>c (by rw[q];exact hk')
     simp[List.filter_append,this]
    ·have:l'.filter (fun y=>decide (y=x))=[]:=by
       rw[List.filter_eq_nil_iff]
       intro y hy
       simp only[decide_eq_true_iff]
       intro q
       exact c (by rw[<-q];exact hy)
     simp[List.filter_append,this]
end
theorem R0{d:Kp284.Desk}(h:Kp279.okN d.n=true):
 Kp284.families d=(kJ (d.kept.map (Kp284.firstOf d))).map fun i=>(i,((d.kept.map (Kp284.firstOf d)).filter fun x=>decide (some x=(d.kept.map (Kp284.firstOf d))[i]?)).length):=by
 have at_:∀i,i<d.kept.length->(d.kept.map (Kp284.firstOf d))[i]?=some (Kp284.firstOf d (Kp284.keptAt d i)):=by
  intro i hi
  unfold Kp284.keptAt
  rw[List.getElem?_map,List.getD_eq_getElem?_getD,List.getElem?_eq_getElem hi]
  rfl
 unfold Kp284.families kJ
 rw[List.length_map]
 have e1:((List.range d.kept.length).filter fun i=>(List.range i).all fun j=> !Kp284.kin d (Kp284.keptAt d i) (Kp284.keptAt d j))=
  (List.range d.kept.length).filter fun i=>decide ((d.kept.map (Kp284.firstOf d))[i]?∉((d.kept.map (Kp284.firstOf d)).take i).map some):=by
  apply List.filter_congr
  intro i hi
  have hi:i<d.kept.length:=List.mem_range.mp hi
  rw[Bool.eq_iff_iff,List.all_eq_true,decide_eq_true_iff,at_ i hi]
  constructor
  ·intro q hm
   obtain⟨y,hy,e⟩:=List.mem_map.mp hm
   obtain⟨j,hj⟩:=List.mem_iff_getElem?.mp hy
   have hji:j<i:=by
     have:=(List.getElem?_eq_some_iff.mp hj).1
     rw[List.length_take]at this
     omega
   rw[List.getElem?_take_of_lt hji,at_ j (by omega)]at hj
   have:=q j (List.mem_range.mpr hji)
   rw[Qw h]at this
   have e:=Option.some.inj e
   have hj:=Option.some.inj hj
   rw[<-hj]at e
   simp[e]at this
  ·intro q j hj
   have hj:j<i:=List.mem_range.mp hj
   rw[Qw h]
   simp only[Bool.not_eq_true',decide_eq_false_iff_not]
   intro e
   apply q
   refine List.mem_map.mpr ⟨Kp284.firstOf d (Kp284.keptAt d j),?_,by rw[e]⟩
   apply List.mem_iff_getElem?.mpr
   exact⟨j,by rw[List.getElem?_take_of_lt hj,at_ j (by omega)]⟩
 rw[e1]
 apply List.map_congr_left
 intro i hi
 have hi:i<d.kept.length:=List.mem_range.mp (List.mem_filter.mp hi).1
 congr 1
 rw[at_ i hi,List.filter_map,List.length_map]
 have e3:d.kept=(List.range d.kept.length).map (Kp284.keptAt d):=by
  apply List.ext_getElem?
  intro j
  rw[List.getElem?_map]
  by_cases hj:j<d.kept.length
  ·rw[List.getElem?_eq_getElem hj,List.getElem?_range hj]
   simp[Kp284.keptAt,hj]
  ·rw[List.getElem?_eq_none_iff.mpr (by omega),List.getElem?_eq_none_iff.mpr (by simp;omega)]
   rfl
 conv=>rhs;rw[e3]
 rw[List.filter_map,List.length_map]
 congr 1
 apply List.filter_congr
 intro j hj
 rw[Qw h]
 simp only[Function.comp,Option.some.injEq]
 rw[decide_eq_decide]
 exact eq_comm
end Ns
end
section
namespace Ns
open Kp279 (Pair)
noncomputable def Aj(n:Nat):Bool:=decide ((Kp280.least n).x<2^20) && decide ((Kp280.least n).y<2^20)
set_option maxRecDepth 100000 in
theorem BZ:((List.range 61).all fun n=> !Kp279.okN n||Aj n)=true:=by decide+kernel
theorem Gm{n:Nat}(h:Kp279.okN n=true):(Kp280.least n).x<2^20/\(Kp280.least n).y<2^20:=by
 have hn:=(bD.mp h).2.1
 have t:=List.all_eq_true.mp BZ n (List.mem_range.mpr (by omega))
 rw[h]at t
 have t:Aj n=true:=by simpa using t
 unfold Aj at t
 rw[Bool.and_eq_true,decide_eq_true_iff,decide_eq_true_iff]at t
 exact t
theorem Oh{p:Nat->Prop}:∀K,p K->∃k,k<=K/\p k/\∀j,j<k->¬p j:=by
 intro K
 induction K using Nat.strongRecOn with
 |_ K ih=>
  intro h
  by_cases c:∃j,j<K/\p j
  ·obtain⟨j,hj,hp⟩:=c
   obtain⟨k,h1,h2,h3⟩:=ih j hj hp
   exact⟨k,by omega,h2,h3⟩
  ·exact⟨K,Nat.le_refl _,h,fun j hj hp=>c ⟨j,hj,hp⟩⟩
theorem filter_lt(k:Nat):∀m,(List.range m).filter (fun i=>decide (i<k))=List.range (min m k)
 |0=>by simp
 |m+1=>by
  rw[List.range_succ,List.filter_append,filter_lt k m]
  by_cases c:m<k
  ·rw[show min (m+1) k=m+1 by omega,show min m k=m by omega,List.range_succ]
   simp[c]
  ·rw[show min (m+1) k=k by omega,show min m k=k by omega]
   simp[c]
structure d9(f:Nat->Nat)(lo b k:Nat):Prop where
 ge:lo<=k
 le:b<=f k
 lt:∀j,lo<=j->j<k->f j<b
theorem d9.ex{f:Nat->Nat}{lo b K:Nat}(hK:lo<=K)(h:b<=f K):∃k,k<=K/\d9 f lo b k:=by
 obtain⟨k,h1,⟨h2,h2'⟩,h3⟩:=Oh (p:=fun k=>lo<=k/\b<=f k) K ⟨hK,h⟩
 exact⟨k,h1,h2,h2',fun j hl hj=>Nat.lt_of_not_le fun z=>h3 j hj ⟨hl,z⟩⟩
theorem d9.uniq{f:Nat->Nat}{lo b j k:Nat}(h:d9 f lo b j)(g:d9 f lo b k):j=k:=by
 rcases Nat.lt_trichotomy j k with z|z|z
 ·have:=g.lt j h.ge z;have:=h.le;omega
 ·exact z
 ·have:=h.lt k g.ge z;have:=g.le;omega
theorem d9.count{f:Nat->Nat}{lo b k:Nat}(h:d9 f lo (b+1) k)(mono:∀j,lo<=j->f j<f (j+1))(m:Nat):((List.range m).filter fun i=>decide (lo<=i) && decide (f i<=b))=(List.range (min m k)).filter fun i=>decide (lo<=i):=by
 have up:∀d,b+1<=f (k+d):=by
  intro d
  induction d with
  |zero=>exact h.le
  |succ d ih=>have:=mono (k+d) (by have:=h.ge;omega);rw[<-Nat.add_assoc];omega
 rw[<-filter_lt k m,List.filter_filter]
 apply List.filter_congr
 intro i _
 rw[Bool.eq_iff_iff]
 simp only[Bool.and_eq_true,decide_eq_true_iff]
 constructor
 ·rintro ⟨a,c⟩
  refine⟨a,Nat.lt_of_not_le fun z=>?_⟩
  have:=up (i-k)
  rw[show k+(i-k)=i by omega]at this
  omega
 ·rintro ⟨a,c⟩
  have:=h.lt i a c
  omega
section
variable{n:Nat}(h:Kp279.okN n=true)
include h
noncomputable abbrev yOf(n k:Nat):Nat:=(Kp281.nth n k).y
theorem Xg{b:Nat}(hb:b<=2^33):∃k,k<=23/\d9 (yOf n) 0 b k:=by
 have h1:3^22<=(Kp281.nth n 23).y:=(Jc h 22).1
 have h3:(3:Nat)^22=31381059609:=rfl
 have h4:(2:Nat)^33=8589934592:=rfl
 exact d9.ex (Nat.zero_le _) (by show b<=(Kp281.nth n 23).y;omega)
theorem R3{b k:Nat}(hf:d9 (yOf n) 0 b k):∀(f j:Nat),j<=k->k<j+f->Kp281.above n b f j=some k
 |0,j,h1,h2=>by omega
 |f+1,j,h1,h2=>by
  show(if b<=(Kp281.nth n j).y then some j else Kp281.above n b f (j+1))=some k
  by_cases e:j=k
  ·subst e;rw[if_pos hf.le]
  ·have:=hf.lt j (Nat.zero_le _) (by omega)
   have this:(Kp281.nth n j).y<b:=this
   rw[if_neg (by omega)]
   exact R3 hf f (j+1) (by omega) (by omega)
theorem ad0{b k:Nat}(hf:d9 (yOf n) 0 (b+1) k)(hk:k<=40):((List.range 40).filter fun i=>decide ((Kp281.nth n i).y<=b)).length=k:=by
 have c:=hf.count (fun j _=>Ja h j) 40
 have e:((List.range 40).filter fun i=>decide ((Kp281.nth n i).y<=b))=((List.range 40).filter fun i=>decide (0<=i) && decide (yOf n i<=b)):=by
  apply List.filter_congr
  intro i _
  simp
 rw[e,c,show min 40 k=k by omega,List.filter_eq_self.mpr (by simp),List.length_range]
theorem Oi{a:Pair}(ha:Kp279.diff n a=1)(hy:a.y<2^33):∃k,k<=22/\Kp281.nth n k=a/\d9 (yOf n) 0 a.y k/\Kp281.numberOf n a 30 0=some k:=by
 obtain⟨k,hk⟩:=(adW h).mp ha
 have h22:=YS h (k:=k) (by rw[hk];exact hy)
 refine⟨k,h22,hk,⟨Nat.zero_le _,?_,fun j _ hj=>?_⟩,?_⟩
 ·rw[<-hk];exact Nat.le_refl _
 ·rw[<-hk];exact Jb h hj
 ·rw[<-hk];exact BR h 30 0 (Nat.zero_le _) (by omega)
theorem R4(k:Nat):2*(Kp280.least n).x*(Kp281.nth n (k+1)).x=(Kp281.nth n (k+2)).x+(Kp281.nth n k).x/\2*(Kp280.least n).x*(Kp281.nth n (k+1)).y=(Kp281.nth n (k+2)).y+(Kp281.nth n k).y:=by
 have one:=(lV h).one
 have e1:Kp281.nth n (k+1)=Kp279.times n (Kp281.nth n k) (Kp280.least n):=rfl
 have e2:Kp281.nth n (k+2)=Kp279.times n (Kp281.nth n (k+1)) (Kp280.least n):=rfl
 rw[e2,e1]
 generalize Kp281.nth n k=a at*
 generalize Kp280.least n=l at*
 obtain⟨x,y⟩:=a
 obtain⟨p,q⟩:=l
 simp only[Kp279.times]at*
 constructor<;>grind
end
noncomputable def bB(n m:Nat):Nat->Pair
 |0=>⟨1%m,0⟩
 |i+1=>⟨((bB n m i).x*(Kp280.least n).x+n*(bB n m i).y*(Kp280.least n).y)%m,((bB n m i).x*(Kp280.least n).y+(bB n m i).y*(Kp280.least n).x)%m⟩
theorem R5(n m:Nat):bB n m 1=⟨(Kp280.least n).x%m,(Kp280.least n).y%m⟩:=by
 show(⟨(1%m*(Kp280.least n).x+n*0*(Kp280.least n).y)%m,(1%m*(Kp280.least n).y+0*(Kp280.least n).x)%m⟩:Pair)=_
 rw[Nat.mul_zero,Nat.zero_mul,Nat.zero_mul,Nat.add_zero,Nat.add_zero,Nat.mod_mul_mod,Nat.mod_mul_mod,Nat.one_mul,Nat.one_mul]
noncomputable def roundN(n m p q s:Nat):Nat->Nat->Nat->Bool
 |0,_,_=>false
 |f+1,x,y=>(fun u v=>bif Nat.beq u s then(bif Nat.beq v 0 then true else roundN n m p q s f u v)else roundN n m p q s f u v) (Nat.mod (Nat.add (Nat.mul x p) (Nat.mul (Nat.mul n y) q)) m) (Nat.mod (Nat.add (Nat.mul x q) (Nat.mul y p)) m)
noncomputable def R6(n:Nat):Bool:=(fun l=>(List.range 101).all fun m=>bif Nat.beq m 0 then true else roundN n m l.x l.y (Nat.mod 1 m) 200 (Nat.mod 1 m) 0) (Kp280.least n)
set_option maxRecDepth 100000 in
theorem R7:((List.range 61).all fun n=> !Kp279.okN n||R6 n)=true:=by decide+kernel
theorem Oj{n m:Nat}:∀(f i:Nat),roundN n m (Kp280.least n).x (Kp280.least n).y (1%m) f (bB n m i).x (bB n m i).y=true->∃k,i<k/\k<=i+f/\bB n m k=⟨1%m,0⟩
 |0,i,h=>by cases h
 |f+1,i,h=>by
  unfold roundN at h
  have e:bB n m (i+1)=⟨((bB n m i).x*(Kp280.least n).x+n*(bB n m i).y*(Kp280.least n).y)%m,((bB n m i).x*(Kp280.least n).y+(bB n m i).y*(Kp280.least n).x)%m⟩:=rfl
  have ex:Nat.mod (Nat.add (Nat.mul (bB n m i).x (Kp280.least n).x) (Nat.mul (Nat.mul n (bB n m i).y) (Kp280.least n).y)) m=(bB n m (i+1)).x:=rfl
  have ey:Nat.mod (Nat.add (Nat.mul (bB n m i).x (Kp280.least n).y) (Nat.mul (bB n m i).y (Kp280.least n).x)) m=(bB n m (i+1)).y:=rfl
  simp only[ex,ey]at h
  have rec_:roundN n m (Kp280.least n).x (Kp280.least n).y (1%m) f (bB n m (i+1)).x (bB n m (i+1)).y=true->∃k,i<k/\k<=i+(f+1)/\bB n m k=⟨1%m,0⟩:=fun q=>by
   obtain⟨k,h1,h2,h3⟩:=Oj f (i+1) q
   exact⟨k,by omega,by omega,h3⟩
  cases c1:Nat.beq (bB n m (i+1)).x (1%m)with
  |false=>rw[c1]at h;exact rec_ h
  |true=>
   cases c2:Nat.beq (bB n m (i+1)).y 0 with
   |false=>rw[c1,c2]at h;exact rec_ h
   |true=>
    refine⟨i+1,by omega,by omega,?_⟩
    have c1:=Nat.eq_of_beq_eq_true c1
    have c2:=Nat.eq_of_beq_eq_true c2
    generalize bB n m (i+1)=z at*
    obtain⟨x,y⟩:=z
    simp only at c1 c2
    rw[c1,c2]
theorem Jf{n m k:Nat}(hk:bB n m k=⟨1%m,0⟩):∀(f i:Nat),i<k->k<=i+f->(∀j,i<j->j<k->bB n m j≠⟨1%m,0⟩)->Kp281.roundOf n m f i (bB n m i).x (bB n m i).y=some k
 |0,i,h1,h2,_=>by omega
 |f+1,i,h1,h2,hn=>by
  show(if(bB n m (i+1)).x=1%m/\(bB n m (i+1)).y=0 then some (i+1)else Kp281.roundOf n m f (i+1) (bB n m (i+1)).x (bB n m (i+1)).y)=some k
  by_cases e:i+1=k
  ·subst e
   rw[if_pos (by rw[hk];exact⟨rfl,rfl⟩)]
  ·have ne:=hn (i+1) (by omega) (by omega)
   rw[if_neg (fun z=>ne (by
     generalize bB n m (i+1)=w at*
     obtain⟨x,y⟩:=w
     simp only at z
     rw[z.1,z.2]))]
   exact Jf hk f (i+1) (by omega) (by omega) fun j a b=>hn j (by omega) b
theorem aa1{n m:Nat}(h:Kp279.okN n=true)(h1:1<=m)(h2:m<=100):∃k,1<=k/\k<=200/\bB n m k=⟨1%m,0⟩/\(∀j,1<=j->j<k->bB n m j≠⟨1%m,0⟩)/\Kp281.roundOf n m 10000 0 (1%m) 0=some k:=by
 have hn:=(bD.mp h).2.1
 have t:=List.all_eq_true.mp R7 n (List.mem_range.mpr (by omega))
 rw[h]at t
 have t:R6 n=true:=by simpa using t
 have t:=List.all_eq_true.mp t m (List.mem_range.mpr (by omega))
 have e0:Nat.beq m 0=false:=by
  cases c:Nat.beq m 0 with
  |false=>rfl
  |true=>have:=Nat.eq_of_beq_eq_true c;omega
 rw[e0]at t
 obtain⟨K,a1,a2,a3⟩:=Oj 200 0 t
 obtain⟨k,b1,⟨b2,b3⟩,b4⟩:=Oh (p:=fun k=>1<=k/\bB n m k=⟨1%m,0⟩) K ⟨a1,a3⟩
 refine⟨k,b2,by omega,b3,fun j c1 c2 c3=>b4 j c2 ⟨c1,c3⟩,?_⟩
 exact Jf b3 10000 0 (by omega) (by omega) fun j c1 c2 c3=>b4 j c2 ⟨c1,c3⟩
theorem Mu{n m:Nat}(hm:1<=m):∀i,(bB n m i).x<m/\(bB n m i).y<m
 |0=>⟨Nat.mod_lt _ hm,hm⟩
 |_+1=>⟨Nat.mod_lt _ hm,Nat.mod_lt _ hm⟩
end Ns
end
section
namespace Ns
open Kp279 (Pair)
theorem Vl{n y:Nat}{d:Int}{z:Pair}(hv:((n:Int)*y*y+d).toNat+1<2^200):Kp282.withY n d y=some z↔z.y=y/\Kp279.diff n z=d:=by
 unfold Kp282.withY
 simp only
 have hr:=uO hv
 generalize hR:Kp279.rootOf ((n:Int)*y*y+d).toNat=r at hr
 constructor
 ·intro h
  by_cases c:(n:Int)*y*y+d<0
  ·rw[if_pos c]at h;cases h
  ·rw[if_neg c]at h
   by_cases c2:r*r=((n:Int)*y*y+d).toNat
   ·rw[if_pos c2]at h
    have h:=Option.some.inj h
    subst h
    refine⟨rfl,?_⟩
    unfold Kp279.diff
    simp only
    have e:(r:Int)*(r:Int)=((r*r:Nat):Int):=by push_cast;rfl
    rw[e,c2]
    omega
   ·rw[if_neg c2]at h;cases h
 ·rintro ⟨rfl,hd⟩
  unfold Kp279.diff at hd
  have e:(z.x:Int)*(z.x:Int)=((z.x*z.x:Nat):Int):=by push_cast;rfl
  rw[e]at hd
  have ev:(n:Int)*z.y*z.y+d=((z.x*z.x:Nat):Int):=by omega
  have c:¬(n:Int)*z.y*z.y+d<0:=by omega
  rw[if_neg c]
  rw[ev]at hr⊢
  have e2:(((z.x*z.x:Nat):Int)).toNat=z.x*z.x:=by omega
  rw[e2]at hr⊢
  have:=hr.uniq (fX.sq (r:=z.x))
  subst this
  rw[if_pos rfl]
theorem Qy{n y:Nat}{d:Int}(hn:n<=60)(hy:y<=1000000)(hd:d.natAbs<=60):((n:Int)*y*y+d).toNat<2^46:=by
 have h1:n*y*y<=60*1000000*1000000:=Nat.mul_le_mul (Nat.mul_le_mul hn hy) hy
 have e:(n:Int)*y*y=((n*y*y:Nat):Int):=by push_cast;rfl
 rw[e]
 omega
theorem Eb{n y:Nat}{d:Int}{z:Pair}(hn:n<=60)(hy:y<=1000000)(hd:d.natAbs<=60):Kp282.withY n d y=some z↔z.y=y/\Kp279.diff n z=d:=
 Vl (by have:=Qy hn hy hd;have:(2:Nat)^46<2^200:=by decide
        omega)
theorem aa2{n y:Nat}{d:Int}{z:Pair}(hn:n<=60)(hy:y<=1000000)(hd:d.natAbs<=60)(h:Kp282.withY n d y=some z):z.x<2^24/\z.y<=1000000:=by
 obtain⟨h1,h2⟩:=(Eb hn hy hd).mp h
 refine⟨jB ?_,by omega⟩
 unfold Kp279.diff at h2
 have e:(z.x:Int)*(z.x:Int)=((z.x*z.x:Nat):Int):=by push_cast;rfl
 rw[e,h1]at h2
 have:=Qy hn hy hd
 omega
theorem rQ{n k:Nat}(h:Kp279.okN n=true)(hk:k<=60):fX ((Kp280.least n).y*(Kp280.least n).y*k/(2*((Kp280.least n).x-1))) (Kp282.bound n k)/\Kp282.bound n k<8192:=by
 have l:=lV h
 have s:=Gm h
 have hn:=(bD.mp h).1
 have two:=l.two hn
 have one:=l.one
 unfold Kp282.bound
 simp only
 generalize Kp280.least n=a at*
 obtain⟨p,q⟩:=a
 simp only at*
 obtain⟨p',rfl⟩:∃p',p=p'+2:=⟨p-2,by omega⟩
 have e1:p'+2-1=p'+1:=by omega
 rw[e1]
 have h1:q*q<=(p'+1)*(p'+3):=by
  have h2:q*q<=n*q*q:=by
   rw[Nat.mul_assoc]
   exact Nat.le_mul_of_pos_left _ (by omega)
  have h3:(p'+2)*(p'+2)=(p'+1)*(p'+3)+1:=by grind
  omega
 have h2:q*q*k/(2*(p'+1))<2^26:=by
  rw[Nat.div_lt_iff_lt_mul (by omega)]
  have h3:q*q*k<=(p'+1)*(p'+3)*60:=Nat.mul_le_mul h1 hk
  have h4:(p'+1)*(p'+3)*60=(30*(p'+3))*(2*(p'+1)):=by grind
  have h5:(30*(p'+3))*(2*(p'+1))<2^26*(2*(p'+1)):=Nat.mul_lt_mul_of_pos_right (by omega) (by omega)
  omega
 have r:=uO (m:=q*q*k/(2*(p'+1))) (by have:(2:Nat)^26+1<2^200:=by decide
                                      omega)
 refine⟨r,jB ?_⟩
 have:=r.le
 omega
theorem R8{n y:Nat}{d:Int}{z:Pair}(h:Kp279.okN n=true)(hy:y<=1000000)(hd:d.natAbs<=60)(hz:Kp282.withY n d y=some z)(hn:∀j,j<y->Kp282.withY n d j=none):Kp282.isFirst n z=true:=by
 have h60:=(bD.mp h).2.1
 obtain⟨h1,h2⟩:=(Eb h60 hy hd).mp hz
 unfold Kp282.isFirst
 rw[decide_eq_true_iff]
 apply Nat.le_of_not_lt
 intro c
 have e:=(Eb (y:=(Kp282.down n z).y) (z:=Kp282.down n z) h60 (by omega) hd).mpr ⟨rfl,by rw[Ea h];exact h2⟩
 rw[hn _ (by omega)]at e
 cases e
theorem rR{f:Nat->Option Pair}:∀m,(∀j,j<m->f j=none)->(List.range m).filterMap f=[]
 |0,_=>rfl
 |m+1,h=>by
  rw[List.range_succ,List.filterMap_append,rR m fun j hj=>h j (by omega)]
  simp[h m (by omega)]
theorem v9{f:Nat->Option Pair}{y:Nat}{z:Pair}(h:∀j,j<y->f j=none)(hz:f y=some z):∀m,y<m->∃r,(List.range m).filterMap f=z::r
 |0,hm=>by omega
 |m+1,hm=>by
  rw[List.range_succ,List.filterMap_append]
  by_cases c:y=m
  ·subst c
   rw[rR y h]
   exact⟨[],by simp[hz]⟩
  ·obtain⟨r,e⟩:=v9 h hz m (by omega)
   rw[e]
   exact⟨_,rfl⟩
theorem R9{n y:Nat}{d:Int}{z:Pair}(h:Kp279.okN n=true)(hd:d.natAbs<=60)(hy:y<=Kp282.bound n d.natAbs)(hz:Kp282.withY n d y=some z)(hn:∀j,j<y->Kp282.withY n d j=none):∃r,Kp282.firsts n d=z::r:=by
 unfold Kp282.firsts
 obtain⟨r,e⟩:=v9 hn hz (Kp282.bound n d.natAbs+1) (by omega)
 rw[e,List.filter_cons,if_pos (R8 h (by have:=(rQ h hd).2;omega) hd hz hn)]
 exact⟨_,rfl⟩
theorem Sd{n:Nat}{d:Int}(hn:∀j,j<Kp282.bound n d.natAbs+1->Kp282.withY n d j=none):Kp282.firsts n d=[]:=by
 unfold Kp282.firsts
 rw[rR _ hn]
 rfl
end Ns
end
section
namespace Ns
open Kp279 (Pair)
theorem ok2:Kp279.okN 2=true:=by decide+kernel
theorem ok3:Kp279.okN 3=true:=by decide+kernel
theorem ok8:Kp279.okN 8=true:=by decide+kernel
theorem Vm:Kp280.least 2=⟨3,2⟩:=by decide+kernel
theorem ahS:Kp280.least 8=⟨3,1⟩:=by decide+kernel
theorem Ca(n k:Nat):Kp281.nth n (k+1)=Kp279.times n (Kp281.nth n k) (Kp280.least n):=rfl
theorem eight:∀k,Kp281.nth 2 k=⟨(Kp281.nth 8 k).x,2*(Kp281.nth 8 k).y⟩
 |0=>rfl
 |k+1=>by
  rw[Ca 2,Ca 8,eight k,Vm,ahS]
  generalize Kp281.nth 8 k=a
  simp only[Kp279.times,Kp279.Pair.mk.injEq]
  omega
theorem Ol(k:Nat):Kp283.half (k+1)=Kp279.times 2 (Kp283.half k) ⟨1,1⟩:=rfl
theorem nF:∀k,Kp283.half (2*k+1)=Kp279.times 2 ⟨1,1⟩ (Kp281.nth 2 k)
 |0=>rfl
 |k+1=>by
  rw[show 2*(k+1)+1=2*k+1+1+1 by omega,Ol,Ol,nF k,Ca,Vm]
  generalize Kp281.nth 2 k=a
  simp only[Kp279.times,Kp279.Pair.mk.injEq]
  omega
theorem rG(n:Nat)(a:Pair):Kp279.times n ⟨1,0⟩ a=a:=by
 obtain⟨x,y⟩:=a
 simp only[Kp279.times,Kp279.Pair.mk.injEq]
 simp
theorem ajK(k:Nat):(Kp281.nth 8 k).x%2=1:=by
 have e:=jC.mp (pU ok8 k)
 generalize Kp281.nth 8 k=a at*
 rcases Nat.mod_two_eq_zero_or_one a.x with c|c
 ·have e2:a.x*a.x%2=0:=by rw[Nat.mul_mod,c]
  have e3:8*a.y*a.y=2*(4*a.y*a.y):=by grind
  omega
 ·exact c
theorem Jg(k:Nat):Kp283.value 0 k=(Kp281.nth 8 k).y*(Kp281.nth 8 k).y:=rfl
theorem value1(k:Nat):Kp283.value 1 k=(Kp281.nth 8 k).y:=rfl
theorem value2(k:Nat):Kp283.value 2 k=((Kp281.nth 8 k).x+4*(Kp281.nth 8 k).y-1)/2:=by
 show((Kp283.half (2*k+1)).x-1)/2=_
 rw[nF,eight]
 simp only[Kp279.times]
 congr 2
 omega
theorem Jh(k:Nat):Kp283.value 3 k=2*(Kp281.nth 3 k).x:=rfl
theorem aa3(k:Nat):Kp283.value 4 k=((Kp281.nth 8 k).x+2*(Kp281.nth 8 k).y+1)/2:=by
 show((Kp283.half (2*k+1)).y+1)/2=_
 rw[nF,eight]
 simp only[Kp279.times]
 congr 2
 omega
theorem Ji{c:Nat}(hc:c<5)(k:Nat):Kp283.value c k<Kp283.value c (k+1):=by
 have h8:=Ja ok8 k
 have x8:=BP ok8 k
 have p8:=(nq ok8 k).2
 have x3:=BP ok3 k
 have p3:=(nq ok3 k).2
 match c,hc with
 |0,_=>rw[Jg,Jg];exact Nat.mul_lt_mul'' h8 h8
 |1,_=>rw[value1,value1];exact h8
 |2,_=>rw[value2,value2];omega
 |3,_=>rw[Jh,Jh];omega
 |4,_=>rw[aa3,aa3];omega
theorem Jj{c:Nat}(hc:c<5){j k:Nat}(h:j<k):Kp283.value c j<Kp283.value c k:=by
 induction k with
 |zero=>omega
 |succ k ih=>
  have:=Ji hc k
  rcases Nat.lt_or_ge j k with z|z
  ·have:=ih z;omega
  ·have:j=k:=by omega
   subst this;assumption
set_option maxRecDepth 100000 in
theorem YX:∀c:Fin 5,2000000000<Kp283.value c.val 20:=by decide+kernel
theorem first_value{c b:Nat}(hc:c<5)(hb:b<=2000000000):∃k,k<=20/\d9 (Kp283.value c) 1 b k:=
 d9.ex (by decide) (Nat.le_trans hb (Nat.le_of_lt (YX ⟨c,hc⟩)))
theorem vm{v:Nat}(h:v<2^190):fX v (Kp279.rootOf v):=uO (by have:(2:Nat)^190+1<2^200:=by decide
                                                           omega)
theorem Vn{v:Nat}(h:v<2^190):Kp279.rootOf v*Kp279.rootOf v=v↔∃r,r*r=v:=by
 constructor
 ·intro e;exact⟨_,e⟩
 ·rintro ⟨r,e⟩
  have:=(vm h).uniq (by rw[<-e];exact fX.sq)
  rw[this,e]
theorem Om{x y:Nat}(h:x*x+1=2*y*y):∃k,Kp283.half (2*k+1)=⟨x,y⟩:=by
 have h1:(x+2*y)*(x+2*y)=2*(x+y)*(x+y)+1:=by grind
 obtain⟨j,hj⟩:=wX ok2 (x+y) (x+2*y) h1
 cases j with
 |zero=>
  have e:(⟨1,0⟩:Pair)=⟨x+2*y,x+y⟩:=hj
  simp only[Kp279.Pair.mk.injEq]at e
  omega
 |succ k=>
  refine⟨k,?_⟩
  rw[Ca,Vm]at hj
  rw[nF]
  generalize Kp281.nth 2 k=a at*
  obtain⟨u,v⟩:=a
  simp only[Kp279.times,Kp279.Pair.mk.injEq]at*
  omega
theorem Jk(k:Nat):(Kp283.half (2*k+1)).x*(Kp283.half (2*k+1)).x+1=2*(Kp283.half (2*k+1)).y*(Kp283.half (2*k+1)).y:=by
 rw[nF]
 have e:=jC.mp (pU ok2 k)
 generalize Kp281.nth 2 k=a at*
 obtain⟨u,v⟩:=a
 simp only[Kp279.times]at*
 grind
theorem Jl(k:Nat):(Kp283.half (2*k+1)).x%2=1/\(Kp283.half (2*k+1)).y%2=1/\(0<k->1<(Kp283.half (2*k+1)).x/\1<(Kp283.half (2*k+1)).y):=by
 rw[nF,eight]
 have h8:=ajK k
 have p8:=(nq ok8 k).2
 have q8:0<k->0<(Kp281.nth 8 k).y:=fun hk=>by
  have:=(nq ok8 (k-1)).1
  rw[show k-1+1=k by omega]at this
  exact this
 generalize Kp281.nth 8 k=a at*
 simp only[Kp279.times]
 refine⟨by omega,by omega,fun hk=>?_⟩
 have:=q8 hk
 omega
theorem ahT{m v:Nat}:Kp283.sumTo m=v*v↔m*(m+1)=2*(v*v):=by
 unfold Kp283.sumTo
 have e:m*(m+1)%2=0:=by
  rcases Nat.mod_two_eq_zero_or_one m with c|c
  ·rw[Nat.mul_mod,c,Nat.zero_mul]
  ·rw[Nat.mul_mod,show(m+1)%2=0 by omega,Nat.mul_zero]
 omega
theorem big{v:Nat}(hv:v<=2000000000):v<2^31:=by
 have:(2:Nat)^31=2147483648:=rfl
 omega
theorem is0{v:Nat}(hv:v<=2000000000):Kp283.isOf 0 v=true↔∃k,1<=k/\Kp283.value 0 k=v:=by
 have hb:=big hv
 have p:(2:Nat)^31*9<2^190:=by decide
 show(decide (0<v) && Kp279.rootOf v*Kp279.rootOf v==v && Kp279.rootOf (8*v+1)*Kp279.rootOf (8*v+1)==8*v+1)=true↔_
 rw[Bool.and_eq_true,Bool.and_eq_true,decide_eq_true_iff,beq_iff_eq,beq_iff_eq,Vn (by omega),Vn (by omega)]
 constructor
 ·rintro ⟨⟨h0,r,hr⟩,s,hs⟩
  have e:s*s=8*r*r+1:=by rw[hs,<-hr];grind
  obtain⟨k,hk⟩:=wX ok8 r s e
  refine⟨k,?_,by rw[Jg,hk];exact hr⟩
  cases k with
  |zero=>
   have e:(⟨1,0⟩:Pair)=⟨s,r⟩:=hk
   simp only[Kp279.Pair.mk.injEq]at e
   rw[<-e.2]at hr
   omega
  |succ k=>omega
 ·rintro ⟨k,hk,rfl⟩
  rw[Jg]
  have e:=jC.mp (pU ok8 k)
  have hp:=(nq ok8 (k-1)).1
  rw[show k-1+1=k by omega]at hp
  refine⟨⟨Nat.mul_pos hp hp,_,rfl⟩,(Kp281.nth 8 k).x,?_⟩
  rw[e]
  grind
theorem is1{v:Nat}(hv:v<=2000000000):Kp283.isOf 1 v=true↔∃k,1<=k/\Kp283.value 1 k=v:=by
 have hb:=big hv
 have hvv:v*v<=2^31*2^31:=Nat.mul_le_mul (by omega) (by omega)
 have p:(2:Nat)*(2^31*2^31)<2^190:=by decide
 have e2:2*v*v=2*(v*v):=by grind
 show(decide (0<v) && Kp283.sumTo (Kp279.rootOf (2*v*v))==v*v)=true↔_
 rw[Bool.and_eq_true,decide_eq_true_iff,beq_iff_eq,ahT,e2]
 have hr:=vm (v:=2*(v*v)) (by omega)
 constructor
 ·rintro ⟨h0,h⟩
  generalize Kp279.rootOf (2*(v*v))=m at*
  have e:(2*m+1)*(2*m+1)=8*v*v+1:=by grind
  obtain⟨k,hk⟩:=wX ok8 v (2*m+1) e
  refine⟨k,?_,by rw[value1,hk]⟩
  cases k with
  |zero=>
   have e:(⟨1,0⟩:Pair)=⟨2*m+1,v⟩:=hk
   simp only[Kp279.Pair.mk.injEq]at e
   omega
  |succ k=>omega
 ·rintro ⟨k,hk,rfl⟩
  rw[value1]at*
  have e:=jC.mp (pU ok8 k)
  have o:=ajK k
  have hp:=(nq ok8 (k-1)).1
  rw[show k-1+1=k by omega]at hp
  refine⟨hp,?_⟩
  generalize Kp281.nth 8 k=a at*
  obtain⟨x,y⟩:=a
  simp only at*
  obtain⟨m,rfl⟩:∃m,x=2*m+1:=⟨x/2,by omega⟩
  have e3:m*(m+1)=2*(y*y):=by grind
  have:Kp279.rootOf (2*(y*y))=m:=hr.uniq ⟨by rw[<-e3];exact Nat.mul_le_mul_left m (by omega),by rw[<-e3];grind⟩
  rw[this]
  exact e3
theorem is2{v:Nat}(hv:v<=2000000000):Kp283.isOf 2 v=true↔∃k,1<=k/\Kp283.value 2 k=v:=by
 have hb:=big hv
 have hvv:(v+1)*(v+1)<=2^31*2^31:=Nat.mul_le_mul (by omega) (by omega)
 have aqp:v*v<=2^31*2^31:=Nat.mul_le_mul (by omega) (by omega)
 have p:(2:Nat)*(2^31*2^31)<2^190:=by decide
 show(decide (0<v) && Kp279.rootOf (v*v+(v+1)*(v+1))*Kp279.rootOf (v*v+(v+1)*(v+1))==v*v+(v+1)*(v+1))=true↔_
 rw[Bool.and_eq_true,decide_eq_true_iff,beq_iff_eq,Vn (by omega)]
 constructor
 ·rintro ⟨h0,h,hh⟩
  have e:(2*v+1)*(2*v+1)+1=2*h*h:=by
   have:2*h*h=2*(h*h):=by grind
   rw[this,hh];grind
  obtain⟨k,hk⟩:=Om e
  refine⟨k,?_,by show((Kp283.half (2*k+1)).x-1)/2=v;rw[hk];show(2*v+1-1)/2=v;omega⟩
  cases k with
  |zero=>
   have e:(⟨1,1⟩:Pair)=⟨2*v+1,h⟩:=hk
   simp only[Kp279.Pair.mk.injEq]at e
   omega
  |succ k=>omega
 ·rintro ⟨k,hk,e⟩
  have e:((Kp283.half (2*k+1)).x-1)/2=v:=e
  obtain⟨m1,m2,m3⟩:=Jl k
  have m3:=m3 hk
  have hm:=Jk k
  generalize Kp283.half (2*k+1)=a at*
  obtain⟨x,y⟩:=a
  simp only at*
  have ex:x=2*v+1:=by omega
  subst ex
  refine⟨by omega,y,?_⟩
  have h1:(2*v+1)*(2*v+1)+1=2*(v*v+(v+1)*(v+1)):=by grind
  have h2:2*y*y=2*(y*y):=by grind
  omega
theorem ahU{x u:Nat}(h:x*x∣u*u):x∣u:=by
 rw[<-Nat.pow_two,<-Nat.pow_two]at h
 exact(Nat.pow_dvd_pow_iff (by decide)).mp h
theorem is3{v:Nat}(hv:v<=2000000000):Kp283.isOf 3 v=true↔∃k,1<=k/\Kp283.value 3 k=v:=by
 have hb:=big hv
 have hvv:v*v<=2^31*2^31:=Nat.mul_le_mul (by omega) (by omega)
 have hs:3*v*v*(v*v-4)<2^190:=by
  have h1:3*v*v=3*(v*v):=by grind
  rw[h1]
  have h2:3*(v*v)*(v*v-4)<=3*(2^31*2^31)*(2^31*2^31):=Nat.mul_le_mul (by omega) (by omega)
  have:3*(2^31*2^31)*(2^31*2^31)<2^190:=by decide
  omega
 show(decide (2<v) && (Kp279.rootOf (3*v*v*(v*v-4))*Kp279.rootOf (3*v*v*(v*v-4))==3*v*v*(v*v-4) && Kp279.rootOf (3*v*v*(v*v-4))%4==0))=true↔_
 rw[Bool.and_eq_true,Bool.and_eq_true,decide_eq_true_iff,beq_iff_eq,beq_iff_eq]
 have hr:=vm hs
 constructor
 ·rintro ⟨h0,h1,h2⟩
  generalize Kp279.rootOf (3*v*v*(v*v-4))=t at*
  obtain⟨u,rfl⟩:∃u,t=4*u:=⟨t/4,by omega⟩
  have h16:4*u*(4*u)=16*(u*u):=by grind
  rw[h16]at h1
  have v4:4<=v*v:=Nat.le_trans (by decide:4<=2*2) (Nat.mul_le_mul (by omega) (by omega))
  have ev:v%2=0:=by
   rcases Nat.mod_two_eq_zero_or_one v with c|c
   ·exact c
   ·have o1:v*v%2=1:=by rw[Nat.mul_mod,c]
    have o2:(v*v-4)%2=1:=by omega
    have o3:3*v*v*(v*v-4)%2=1:=by
       rw[Nat.mul_mod,o2,Nat.mul_assoc 3 v v,Nat.mul_mod 3,o1]
    omega
  obtain⟨x,rfl⟩:∃x,v=2*x:=⟨v/2,by omega⟩
  have x1:1<=x*x:=Nat.mul_pos (by omega) (by omega)
  have e4:2*x*(2*x)=4*(x*x):=by grind
  have e5:3*(2*x)*(2*x)=12*(x*x):=by grind
  rw[e4,e5]at h1
  have e6:12*(x*x)*(4*(x*x)-4)=16*(3*(x*x)*(x*x-1)):=by
   have:4*(x*x)-4=4*(x*x-1):=by omega
   rw[this];grind
  rw[e6]at h1
  have h3:u*u=3*(x*x)*(x*x-1):=by omega
  have d:x∣u:=ahU ⟨3*(x*x-1),by rw[h3];grind⟩
  obtain⟨w,rfl⟩:=d
  have h4:w*w=3*(x*x-1):=by
   have:x*x*(w*w)=x*x*(3*(x*x-1)):=by
     have a1:x*w*(x*w)=x*x*(w*w):=by grind
     have a2:3*(x*x)*(x*x-1)=x*x*(3*(x*x-1)):=by grind
     rw[<-a1,<-a2];exact h3
   exact Nat.eq_of_mul_eq_mul_left x1 this
  have w3:w%3=0:=by
   have q:w*w%3=0:=by rw[h4];omega
   rw[Nat.mul_mod]at q
   have:w%3<3:=Nat.mod_lt _ (by decide)
   match hw:w%3,this with
   |0,_=>rfl
   |1,_=>rw[hw]at q;cases q
   |2,_=>rw[hw]at q;cases q
  obtain⟨y,rfl⟩:∃y,w=3*y:=⟨w/3,by omega⟩
  have h5:x*x=3*y*y+1:=by
   have a1:3*y*(3*y)=3*(3*y*y):=by grind
   omega
  obtain⟨k,hk⟩:=wX ok3 y x h5
  refine⟨k,?_,by rw[Jh,hk]⟩
  cases k with
  |zero=>
   have e:(⟨1,0⟩:Pair)=⟨x,y⟩:=hk
   simp only[Kp279.Pair.mk.injEq]at e
   omega
  |succ k=>omega
 ·rintro ⟨k,hk,rfl⟩
  rw[Jh]at*
  have e:=jC.mp (pU ok3 k)
  have hx:=BP ok3 (k-1)
  have hx0:=(nq ok3 (k-1)).2
  rw[show k-1+1=k by omega]at hx
  generalize Kp281.nth 3 k=a at*
  obtain⟨x,y⟩:=a
  simp only at*
  have e4:2*x*(2*x)-4=4*(3*y*y):=by
   have:2*x*(2*x)=4*(x*x):=by grind
   omega
  have e5:3*(2*x)*(2*x)*(2*x*(2*x)-4)=12*x*y*(12*x*y):=by rw[e4];grind
  have er:=hr.uniq (by rw[e5];exact fX.sq)
  rw[er]
  refine⟨by omega,e5.symm,?_⟩
  have:12*x*y=4*(3*x*y):=by grind
  omega
theorem is4{v:Nat}(hv:v<=2000000000):Kp283.isOf 4 v=true↔∃k,1<=k/\Kp283.value 4 k=v:=by
 have hb:=big hv
 have hvv:v*(v-1)<=2^31*2^31:=Nat.mul_le_mul (by omega) (by omega)
 have p:(9:Nat)*(2^31*2^31)<2^190:=by decide
 have e8:8*v*(v-1)=8*(v*(v-1)):=by grind
 show(decide (1<v) && ((1+Kp279.rootOf (1+8*v*(v-1)))/2*((1+Kp279.rootOf (1+8*v*(v-1)))/2-1)==2*v*(v-1)))=true↔_
 rw[Bool.and_eq_true,decide_eq_true_iff,beq_iff_eq]
 have hr:=vm (v:=1+8*v*(v-1)) (by omega)
 constructor
 ·rintro ⟨h0,h⟩
  generalize (1+Kp279.rootOf (1+8*v*(v-1)))/2=n at*
  obtain⟨u,rfl⟩:∃u,v=u+1:=⟨v-1,by omega⟩
  simp only[Nat.add_sub_cancel]at h
  have hpos:0<2*(u+1)*u:=Nat.mul_pos (by omega) (by omega)
  obtain⟨m,rfl⟩:∃m,n=m+1:=⟨n-1,by
   rcases Nat.eq_zero_or_pos n with z|z
   ·rw[z,Nat.zero_mul]at h;omega
   ·omega⟩
  simp only[Nat.add_sub_cancel]at h
  have e:(2*m+1)*(2*m+1)+1=2*(2*u+1)*(2*u+1):=by grind
  obtain⟨k,hk⟩:=Om e
  refine⟨k,?_,by show((Kp283.half (2*k+1)).y+1)/2=u+1;rw[hk];show(2*u+1+1)/2=u+1;omega⟩
  cases k with
  |zero=>
   have e:(⟨1,1⟩:Pair)=⟨2*m+1,2*u+1⟩:=hk
   simp only[Kp279.Pair.mk.injEq]at e
   omega
  |succ k=>omega
 ·rintro ⟨k,hk,e⟩
  have e:((Kp283.half (2*k+1)).y+1)/2=v:=e
  obtain⟨m1,m2,m3⟩:=Jl k
  have m3:=m3 hk
  have hm:=Jk k
  generalize Kp283.half (2*k+1)=a at*
  obtain⟨x,y⟩:=a
  simp only at*
  obtain⟨u,rfl⟩:∃u,v=u+1:=⟨v-1,by omega⟩
  have ey:y=2*u+1:=by omega
  obtain⟨m,ex⟩:∃m,x=2*m+1:=⟨x/2,by omega⟩
  subst ey ex
  simp only[Nat.add_sub_cancel]at*
  have e5:1+8*(u+1)*u=(2*m+1)*(2*m+1):=by grind
  have er:=hr.uniq (by rw[e5];exact fX.sq)
  rw[er,show(1+(2*m+1))/2=m+1 by omega]
  simp only[Nat.add_sub_cancel]
  refine⟨by omega,?_⟩
  grind
theorem ahV{c v:Nat}(hc:c<5)(hv:v<=2000000000):Kp283.isOf c v=true↔∃k,1<=k/\Kp283.value c k=v:=
 match c,hc with
 |0,_=>is0 hv
 |1,_=>is1 hv
 |2,_=>is2 hv
 |3,_=>is3 hv
 |4,_=>is4 hv
section
variable{c:Nat}(hc:c<5)
include hc
theorem Xh{v k:Nat}(hv:v<=2000000000)(hf:d9 (Kp283.value c) 1 v k):Kp283.isOf c v=decide (Kp283.value c k=v):=by
 rw[Bool.eq_iff_iff,ahV hc hv,decide_eq_true_iff]
 constructor
 ·rintro ⟨j,h1,h2⟩
  rcases Nat.lt_trichotomy j k with z|z|z
  ·have:=hf.lt j h1 z;omega
  ·rw[<-z];exact h2
  ·have:=Jj hc z;have:=hf.le;omega
 ·intro e;exact⟨k,hf.ge,e⟩
theorem vo{v k:Nat}(hf:d9 (Kp283.value c) 1 v k):∀(f j:Nat),1<=j->j<=k->k<j+f->Kp283.numberFrom c v f j=if Kp283.value c k=v then some k else none
 |0,j,_,h1,h2=>by omega
 |f+1,j,h0,h1,h2=>by
  show(if Kp283.value c j=v then some j else if v<Kp283.value c j then none else Kp283.numberFrom c v f (j+1))=_
  by_cases e:j=k
  ·subst e
   by_cases q:Kp283.value c j=v
   ·rw[if_pos q,if_pos q]
   ·rw[if_neg q,if_neg q,if_pos (by have:=hf.le;omega)]
  ·have:=hf.lt j h0 (by omega)
   rw[if_neg (by omega),if_neg (by omega)]
   exact vo hf f (j+1) (by omega) (by omega) (by omega)
theorem Gn{b k:Nat}(hf:d9 (Kp283.value c) 1 b k):∀(f j:Nat),1<=j->j<=k->k<j+f->Kp283.aboveFrom c b f j=k
 |0,j,_,h1,h2=>by omega
 |f+1,j,h0,h1,h2=>by
  show(if b<=Kp283.value c j then j else Kp283.aboveFrom c b f (j+1))=k
  by_cases e:j=k
  ·subst e;rw[if_pos hf.le]
  ·have:=hf.lt j h0 (by omega)
   rw[if_neg (by omega)]
   exact Gn hf f (j+1) (by omega) (by omega) (by omega)
theorem xq:∀k,(List.range (k+1)).filter (fun i=>decide (1<=i))=List.range' 1 k
 |0=>rfl
 |k+1=>by
  rw[List.range_succ,List.filter_append,xq k,List.range'_concat]
  simp[Nat.add_comm]
theorem Vo{b k:Nat}(hf:d9 (Kp283.value c) 1 (b+1) k)(hk:k<=41):((List.range 41).filter fun i=>decide (0<i) && decide (Kp283.value c i<=b)).length=k-1:=by
 have q:=hf.count (fun j _=>Ji hc j) 41
 have ge:=hf.ge
 rw[show(fun i=>decide (0<i) && decide (Kp283.value c i<=b))=(fun i=>decide (1<=i) && decide (Kp283.value c i<=b))from rfl,q,show min 41 k=(k-1)+1 by omega,xq hc,List.length_range']
theorem YZ{b k:Nat}(hb:b<=2000000000)(hf:d9 (Kp283.value c) 1 (b+1) k):(List.range (b+1)).filter (Kp283.isOf c)=(List.range' 1 (k-1)).map (Kp283.value c):=by
 have main:∀m,m<=b+1->∀j,d9 (Kp283.value c) 1 m j->(List.range m).filter (Kp283.isOf c)=(List.range' 1 (j-1)).map (Kp283.value c):=by
  intro m
  induction m with
  |zero=>
   intro _ j hj
   have:j=1:=by
    rcases Nat.lt_or_ge 1 j with z|z
    ·have:=hj.lt 1 (Nat.le_refl _) z;omega
    ·have:=hj.ge;omega
   subst this
   rfl
  |succ m ih=>
   intro hm j hj
   obtain⟨i,hi,fi⟩:=first_value hc (b:=m) (by omega)
   rw[List.range_succ,List.filter_append,ih (by omega) i fi]
   have e:=Xh hc (by omega) fi
   by_cases q:Kp283.value c i=m
   ·have f2:d9 (Kp283.value c) 1 (m+1) (i+1):=⟨by omega,by have:=Ji hc i;omega,fun l h1 h2=>by
     rcases Nat.lt_or_ge l i with z|z
     ·have:=fi.lt l h1 z;omega
     ·have:l=i:=by omega
      subst this;omega⟩
    have ej:=f2.uniq hj
    subst ej
    have g:=fi.ge
    have e1:[m].filter (Kp283.isOf c)=[m]:=by rw[List.filter_cons,e,decide_eq_true q,if_pos rfl,List.filter_nil]
    rw[e1,show i+1-1=(i-1)+1 by omega,List.range'_concat,List.map_append]
    simp only[List.map_cons,List.map_nil]
    rw[show 1+1*(i-1)=i by omega,q]
   ·have f2:d9 (Kp283.value c) 1 (m+1) i:=⟨fi.ge,by have:=fi.le;omega,fun l h1 h2=>by have:=fi.lt l h1 h2;omega⟩
    have ej:=f2.uniq hj
    subst ej
    have e1:[m].filter (Kp283.isOf c)=[]:=by rw[List.filter_cons,e,decide_eq_false q,if_neg (by decide),List.filter_nil]
    rw[e1,List.append_nil]
 exact main (b+1) (Nat.le_refl _) k hf
end
end Ns
end
section
namespace Ns
open Kp279 (Pair)
theorem fold_max(g:Nat->Nat)(l:List Nat):(∀m∈l,m≠0)->l≠[]->l.foldl (fun(z n:Nat)=>if z=0 then n else if g z<g n then n else z) 0≠0/\∃i,fP (fun(m:Nat)=>-((g m:Nat):Int)) l i (l.foldl (fun(z n:Nat)=>if z=0 then n else if g z<g n then n else z) 0):=by
 induction hl:l.length generalizing l with
 |zero=>intro _ h;exact absurd (List.eq_nil_of_length_eq_zero hl) h
 |succ k ih=>
  intro h0 _
  rcases snoc_cases l with z|⟨l',x,rfl⟩
  ·subst z;simp at hl
  have hx:x≠0:=h0 x (List.mem_append_right _ (List.mem_singleton.mpr rfl))
  rw[List.foldl_append,List.foldl_cons,List.foldl_nil]
  by_cases c:l'=[]
  ·subst c
   show(if(0:Nat)=0 then x else _)≠0/\∃i,fP _ ([]++[x]) i (if(0:Nat)=0 then x else _)
   rw[if_pos rfl]
   refine⟨hx,0,by simp,fun j c hj=>?_,fun j c hj=>by omega⟩
   have:j=0:=by
    have:=(List.getElem?_eq_some_iff.mp hj).1
    simp at this;exact this
   subst this
   simp at hj
   subst hj
   exact Int.le_refl _
  ·obtain⟨hz,i,hi⟩:=ih l' (by simpa using hl) (fun m hm=>h0 m (List.mem_append_left _ hm)) c
   generalize l'.foldl (fun(z n:Nat)=>if z=0 then n else if g z<g n then n else z) 0=z at*
   rw[if_neg hz]
   have s:=hi.snoc (x:=x)
   by_cases q:g z<g x
   ·rw[if_pos q]
    rw[if_pos (by omega)]at s
    exact⟨hx,_,s⟩
   ·rw[if_neg q]
    rw[if_neg (by omega)]at s
    exact⟨hz,_,s⟩
theorem ad1{b:Nat}(hb:2<=b):Kp280.nons b=(List.range' 2 (b-1)).filter Kp279.okN:=by
 unfold Kp280.nons
 have e:List.range (b+1)=[0,1]++List.range' 2 (b-1):=by
  rw[List.range_eq_range',show b+1=2+(b-1) by omega,<-List.range'_append_1]
  rfl
 rw[e,List.filter_append]
 have:[0,1].filter Kp279.okN=[]:=by decide+kernel
 rw[this,List.nil_append]
theorem zj{b m:Nat}(h:m∈Kp280.nons b):Kp279.okN m=true:=(List.mem_filter.mp h).2
theorem Ie{b:Nat}(hb:2<=b):Kp280.nons b≠[]:=by
 intro z
 have:2∈Kp280.nons b:=List.mem_filter.mpr ⟨List.mem_range.mpr (by omega),ok2⟩
 rw[z]at this
 cases this
theorem Sg{b:Nat}(hb:2<=b):Kp279.okN (Kp280.longest b)=true/\∃i,fP (fun(m:Nat)=>-(((Kp280.all m).length:Nat):Int)) (Kp280.nons b) i (Kp280.longest b):=by
 obtain⟨_,i,h⟩:=fold_max (fun m=>(Kp280.all m).length) (Kp280.nons b) (fun m hm=>by have:=(bD.mp (zj hm)).1;omega) (Ie hb)
 exact⟨zj (List.mem_of_getElem? h.at_),i,h⟩
theorem Qz{b:Nat}(hb:2<=b):Kp279.okN (Kp280.greatest b)=true/\∃i,fP (fun(m:Nat)=>-(((Kp280.least m).x:Nat):Int)) (Kp280.nons b) i (Kp280.greatest b):=by
 obtain⟨_,i,h⟩:=fold_max (fun m=>(Kp280.least m).x) (Kp280.nons b) (fun m hm=>by have:=(bD.mp (zj hm)).1;omega) (Ie hb)
 exact⟨zj (List.mem_of_getElem? h.at_),i,h⟩
theorem Ak{n:Nat}(h:Kp279.okN n=true):(Kp280.all n).length=lengthOf n+1:=by
 rw[(qI h).all,List.length_map,List.length_range]
theorem Y0{n j:Nat}(h:Kp279.okN n=true)(hj:j<=lengthOf n):(Kp280.walk n j (Kp280.first n)).k=Kp279.diff n ⟨(Kp280.walk n j (Kp280.first n)).a,(Kp280.walk n j (Kp280.first n)).b⟩:=
 (tK h (by have:=(qI h).len;omega)).k
theorem Jm{p:Kp280.Triple->Bool}{n j:Nat}(h:Kp279.okN n=true)(hj:j<=lengthOf n)(h1:p (Kp280.walk n j (Kp280.first n))=true)(h2:∀i,i<j->p (Kp280.walk n i (Kp280.first n))=false):(Kp280.all n).find? p=some (Kp280.walk n j (Kp280.first n)):=by
 rw[(qI h).all,List.find?_map]
 have:(List.range (lengthOf n+1)).find? (p∘fun j=>Kp280.walk n j (Kp280.first n))=some j:=by
  rw[List.find?_range_eq_some]
  refine⟨h1,List.mem_range.mpr (by omega),fun i hi=>?_⟩
  simp[h2 i hi]
 rw[this]
 rfl
theorem find_none{p:Kp280.Triple->Bool}{n:Nat}(h:Kp279.okN n=true)(h2:∀i,i<=lengthOf n->p (Kp280.walk n i (Kp280.first n))=false):(Kp280.all n).find? p=none:=by
 rw[(qI h).all,List.find?_eq_none]
 intro t ht
 obtain⟨j,hj,rfl⟩:=List.mem_map.mp ht
 rw[h2 j (by have:=List.mem_range.mp hj;omega)]
 decide
theorem Sh{n:Nat}(a:Pair):(Kp279.one n a).isSome=true↔Kp279.diff n a∈([1,-1,2,-2,4,-4]:List Int):=by
 unfold Kp279.one
 generalize Kp279.diff n a=d
 simp only[List.mem_cons,List.not_mem_nil,or_false]
 by_cases h1:d=1
 ·simp[h1]
 ·by_cases h2:d=-1
  ·simp[h2]
  ·by_cases h3:d=2\/d=-2
   ·rw[if_neg h1,if_neg h2,if_pos h3]
    simp only[Option.isSome_some,true_iff]
    omega
   ·by_cases h4:d=4
    ·rw[if_neg h1,if_neg h2,if_neg h3,if_pos h4]
     constructor
     ·intro;omega
     ·intro
      split
      ·rfl
      ·split<;>rfl
    ·by_cases h5:d=-4
     ·rw[if_neg h1,if_neg h2,if_neg h3,if_neg h4,if_pos h5]
      simp only[Option.isSome_some,true_iff]
      omega
     ·rw[if_neg h1,if_neg h2,if_neg h3,if_neg h4,if_neg h5]
      simp only[Option.isSome_none,Bool.false_eq_true,false_iff]
      omega
noncomputable def downs(n:Nat)(z:Pair):Nat->Pair
 |0=>z
 |i+1=>Kp282.down n (downs n z i)
theorem Jo{n:Nat}(h:Kp279.okN n=true)(z:Pair):∀i,Kp279.diff n (downs n z i)=Kp279.diff n z
 |0=>rfl
 |i+1=>by
  show Kp279.diff n (Kp282.down n (downs n z i))=_
  rw[Ea h,Jo h z i]
theorem Vp{n:Nat}(h:Kp279.okN n=true){z:Pair}(hx:z.x<=1000000)(hy:z.y<=1000000):∀i,(∀j,j<i->Kp282.isFirst n (downs n z j)=false)->(downs n z i).x<2^24/\(downs n z i).y<=1000000:=by
 have hn:=(bD.mp h).2.1
 intro i hi
 have ys:∀i,(∀j,j<i->Kp282.isFirst n (downs n z j)=false)->(downs n z i).y<=1000000:=by
  intro i
  induction i with
  |zero=>intro _;exact hy
  |succ i ih=>
   intro hi
   have h1:=ih fun j hj=>hi j (by omega)
   have h2:=hi i (by omega)
   unfold Kp282.isFirst at h2
   rw[decide_eq_false_iff_not]at h2
   show(Kp282.down n (downs n z i)).y<=_
   omega
 have h1:=ys i hi
 refine⟨?_,h1⟩
 have d:=Jo h z i
 generalize downs n z i=w at*
 unfold Kp279.diff at d
 have b1:w.y*w.y<=1000000*1000000:=Nat.mul_le_mul h1 h1
 have b2:n*w.y*w.y<=60*(1000000*1000000):=by rw[Nat.mul_assoc];exact Nat.mul_le_mul hn b1
 have b3:z.x*z.x<=1000000*1000000:=Nat.mul_le_mul hx hx
 have e1:(w.x:Int)*w.x=((w.x*w.x:Nat):Int):=by push_cast;rfl
 have e2:(n:Int)*w.y*w.y=((n*w.y*w.y:Nat):Int):=by push_cast;rfl
 have e3:(z.x:Int)*z.x=((z.x*z.x:Nat):Int):=by push_cast;rfl
 have e4:(n:Int)*z.y*z.y=((n*z.y*z.y:Nat):Int):=by push_cast;rfl
 rw[e1,e2,e3,e4]at d
 apply jB
 omega
end Ns
end
section
namespace Ns
open Kp284 (Desk)
open Kp279 (Pair)
noncomputable def wg(n:Nat)(a:Pair):List Int:=[0,(a.x:Int),(a.y:Int),Kp279.diff n a]
noncomputable def Cd(a:Pair):List Int:=[0,(a.x:Int),(a.y:Int)]
noncomputable def aa4(t:Kp280.Triple):List Int:=[0,(t.a:Int),(t.b:Int),t.k]
noncomputable def ajL(n:Nat):Option Pair->List Int
 |some a=>wg n a
 |none=>[-33]
noncomputable def ahW:Option Pair->List Int
 |some a=>Cd a
 |none=>[-33]
noncomputable def optN:Option Nat->List Int
 |some k=>[(k:Int)]
 |none=>[-33]
noncomputable def xys(l:List Pair):List Int:=l.flatMap fun a=>[(a.x:Int),(a.y:Int)]
noncomputable def flat(l:List Pair):List Int:=(l.length:Int)::xys l
def zs(l:List Nat):List Int:=l.map fun(x:Nat)=>(x:Int)
def nums(l:List Nat):List Int:=(l.length:Int)::zs l
theorem qg{st:Kp284.State}{c:List (List Int)}{x:Kp284.Call}(h:Kp284Neutral.callOf c=some x):Kp284Neutral.step st c=((Kp284.step st x).1,(Kp284.step st x).2.num::(Kp284.step st x).2.nums):=by
 unfold Kp284Neutral.step;rw[h]
section
variable{D:Desk}{c:List (List Int)}
theorem QB{x:Kp279.Call}(h:Kp284Neutral.callOf c=some (.pairs x)):Kp284Neutral.step (some D) c=(some D,(Kp279.step (some ⟨D.n,D.a⟩) x).2.num::(Kp279.step (some ⟨D.n,D.a⟩) x).2.nums):=(qg h).trans rfl
theorem QC{x:Kp280.Call}(h:Kp284Neutral.callOf c=some (.way x)):Kp284Neutral.step (some D) c=(some D,(Kp280.step (some ⟨D.n,Kp280.first D.n,0⟩) x).2.num::(Kp280.step (some ⟨D.n,Kp280.first D.n,0⟩) x).2.nums):=(qg h).trans rfl
theorem Hj{x:Kp281.Call}(h:Kp284Neutral.callOf c=some (.ones x)):Kp284Neutral.step (some D) c=(some D,(Kp281.step (some ⟨D.n,1⟩) x).2.num::(Kp281.step (some ⟨D.n,1⟩) x).2.nums):=(qg h).trans rfl
theorem Jp{x:Kp282.Call}(h:Kp284Neutral.callOf c=some (.diffs x)):Kp284Neutral.step (some D) c=(some D,(Kp282.step (some ⟨D.n,D.a⟩) x).2.num::(Kp282.step (some ⟨D.n,D.a⟩) x).2.nums):=(qg h).trans rfl
theorem Sq{k:Nat}{x:Kp283.Call}(h:Kp284Neutral.callOf c=some (.met k x)):Kp284Neutral.step (some D) c=(some D,if 5<=k then [-22]else(Kp283.step (some k) x).2.num::(Kp283.step (some k) x).2.nums):=by
 show _=(some D,if Kp283.KINDS<=k then [-22]else(Kp283.step (some k) x).2.num::(Kp283.step (some k) x).2.nums)
 rw[qg h]
 unfold Kp284.step;dsimp only
 split<;>rfl
end
noncomputable def mv(D:Desk)(b:Pair):Kp284.State×List Int:=if Kp284.ok b=true then(some (Kp284.to D b),wg D.n b)else(some D,[-28])
theorem Oo(D:Desk)(b:Pair):((Kp284.move D b).1,(Kp284.move D b).2.num::(Kp284.move D b).2.nums)=mv D b:=by
 unfold Kp284.move mv
 split<;>rfl
theorem af8(D:Desk):Kp284Neutral.step (some D) [[12]]=(some D,[0,((Kp284.all D).x:Int),((Kp284.all D).y:Int),Kp284.product D]):=by
 rw[qg (x:=.all) rfl]
 rfl
theorem af9(D:Desk)(i j:Nat):Kp284Neutral.step (some D) [[13,(i:Int),(j:Int)]]=(some D,if D.kept.length<=i\/D.kept.length<=j then [-2]else [if Kp284.kin D (Kp284.keptAt D i) (Kp284.keptAt D j)=true then 1 else 0]):=by
 rw[qg (x:=.kin i j) rfl]
 unfold Kp284.step;dsimp only
 split
 ·rfl
 ·rfl
theorem aga(D:Desk):Kp284Neutral.step (some D) [[14]]=(some D,((Kp284.families D).length:Int)::(Kp284.families D).flatMap fun z=>[(z.1:Int),(z.2:Int)]):=by
 rw[qg (x:=.families) rfl]
 rfl
theorem agb(D:Desk)(s k:Nat):Kp284Neutral.step (some D) [[15,(s:Int),(k:Int)]]=(some D,if 1<s\/1000000<k then [-22]else nums (Kp284.sets D (Kp282.signed s k))):=by
 rw[qg (x:=.sets s k) rfl]
 unfold Kp284.step;dsimp only
 split<;>rfl
theorem agc(D:Desk):Kp284Neutral.step (some D) [[16]]=(some D,flat D.kept):=by
 rw[qg (x:=.kept) rfl]
 rfl
theorem agd(D:Desk):Kp284Neutral.step (some D) [[17]]=(some D,optN (Kp281.numberOf D.n D.a 30 0)):=by
 rw[qg (x:=.number) rfl]
 unfold Kp284.step;dsimp only
 cases Kp281.numberOf D.n D.a 30 0<;>rfl
theorem aa5(D:Desk):Kp284Neutral.step (some D) [[18]]=(some D,[((Kp282.downAll D.n 100 0 D.a).1:Int),((Kp282.downAll D.n 100 0 D.a).2.x:Int),((Kp282.downAll D.n 100 0 D.a).2.y:Int)]):=by
 rw[qg (x:=.first) rfl]
 rfl
theorem agf(D:Desk):Kp284Neutral.step (some D) [[19]]=(some D,wg D.n D.a):=by
 rw[qg (x:=.here) rfl]
 rfl
theorem agg(D:Desk):Kp284Neutral.step (some D) [[20]]=(some D,[(D.n:Int),(D.a.x:Int),(D.a.y:Int),(D.kept.length:Int),(D.before.length:Int)]):=by
 rw[qg (x:=.told) rfl]
 rfl
theorem agh(D:Desk):Kp284Neutral.step (some D) [[21]]=(some D,wg D.n (Kp279.times D.n D.a D.a)):=by
 rw[QB (x:=.square) rfl]
 rfl
theorem agi(D:Desk)(k:Nat):Kp284Neutral.step (some D) [[22,(k:Int)]]=(some D,if 12<k then [-22]else wg D.n (Kp279.power D.n D.a k)):=by
 rw[QB (x:=.power k) rfl]
 unfold Kp279.step;dsimp only
 split<;>rfl
theorem agj(D:Desk)(u v:Nat):Kp284Neutral.step (some D) [[23,(u:Int),(v:Int)]]=(some D,if Kp279.ok u v=false then [-22]else ajL D.n (Kp279.parted D.n D.a ⟨u,v⟩)):=by
 rw[QB (x:=.parted u v) rfl]
 unfold Kp279.step;dsimp only
 split
 ·rfl
 ·cases Kp279.parted D.n D.a ⟨u,v⟩<;>rfl
theorem agk(D:Desk):Kp284Neutral.step (some D) [[24]]=(some D,ajL D.n (Kp279.one D.n D.a)):=by
 rw[QB (x:=.one) rfl]
 unfold Kp279.step;dsimp only
 cases Kp279.one D.n D.a<;>rfl
theorem agl(D:Desk)(y:Nat):Kp284Neutral.step (some D) [[25,(y:Int)]]=(some D,if y=0\/1000<y then [-22]else wg D.n (Kp279.nearest D.n y)):=by
 rw[QB (x:=.nearest y) rfl]
 unfold Kp279.step;dsimp only
 split<;>rfl
theorem agm(D:Desk)(b:Nat):Kp284Neutral.step (some D) [[26,(b:Int)]]=(some D,if b=0\/60<b then [-22]else wg D.n (Kp279.nearest D.n (Kp279.closest D.n b))):=by
 rw[QB (x:=.closest b) rfl]
 unfold Kp279.step;dsimp only
 split<;>rfl
theorem agn(D:Desk)(u v:Nat):Kp284Neutral.step (some D) [[27,(u:Int),(v:Int)]]=(some D,if Kp279.ok u v=true then [0,Kp279.diff D.n ⟨u,v⟩]else [-22]):=by
 rw[QB (x:=.of_ u v) rfl]
 unfold Kp279.step;dsimp only
 split<;>rfl
theorem ago(D:Desk)(u v s t:Nat):Kp284Neutral.step (some D) [[28,(u:Int),(v:Int),(s:Int),(t:Int)]]=(some D,if Kp279.ok u v=false\/Kp279.ok s t=false then [-22]else wg D.n (Kp279.times D.n ⟨u,v⟩ ⟨s,t⟩)):=by
 rw[QB (x:=.both u v s t) rfl]
 unfold Kp279.step;dsimp only
 split<;>rfl
theorem agp(D:Desk)(m:Nat):Kp284Neutral.step (some D) [[29,(m:Int)]]=(some D,if 10000<m then [-22]else [(Kp279.root m:Int),(m:Int)-(Kp279.root m:Int)*(Kp279.root m:Int)]):=by
 rw[QB (x:=.root m) rfl]
 unfold Kp279.step;dsimp only
 split<;>rfl
theorem agq(D:Desk)(j:Nat):Kp284Neutral.step (some D) [[30,(j:Int)]]=(some D,if 60<j then [-22]else aa4 (Kp280.walk D.n j (Kp280.first D.n))):=by
 rw[QC (x:=.steps j) rfl]
 unfold Kp280.step;dsimp only
 split<;>rfl
theorem agr(D:Desk):Kp284Neutral.step (some D) [[31]]=(some D,((Kp280.all D.n).length:Int)::(Kp280.all D.n).flatMap fun t=>[(t.a:Int),(t.b:Int)]):=by
 rw[QC (x:=.all) rfl]
 rfl
theorem ags(D:Desk):Kp284Neutral.step (some D) [[32]]=(some D,((Kp280.all D.n).length:Int)::(Kp280.all D.n).map fun t=>t.k):=by
 rw[QC (x:=.diffs) rfl]
 rfl
theorem agt(D:Desk)(n:Nat):Kp284Neutral.step (some D) [[33,(n:Int)]]=(some D,if Kp279.okN n=true then Cd (Kp280.least n)else [-22]):=by
 rw[QC (x:=.least n) rfl]
 unfold Kp280.step;dsimp only
 split<;>rfl
theorem agu(D:Desk)(n:Nat):Kp284Neutral.step (some D) [[34,(n:Int)]]=(some D,if Kp279.okN n=true then [(((Kp280.all n).length-1:Nat):Int)]else [-22]):=by
 rw[QC (x:=.long n) rfl]
 unfold Kp280.step;dsimp only
 split<;>rfl
theorem agv(D:Desk):Kp284Neutral.step (some D) [[35]]=(some D,match Kp280.short D.n with|some t=>aa4 t|none=>[-33]):=by
 rw[QC (x:=.short) rfl]
 unfold Kp280.step;dsimp only
 cases Kp280.short D.n<;>rfl
theorem agw(D:Desk)(b:Nat):Kp284Neutral.step (some D) [[36,(b:Int)]]=(some D,if b<2\/60<b then [-22]else [(Kp280.longest b:Int),(((Kp280.all (Kp280.longest b)).length-1:Nat):Int)]):=by
 show _=(some D,if b<2\/Kp279.MOST<b then [-22]else [(Kp280.longest b:Int),(((Kp280.all (Kp280.longest b)).length-1:Nat):Int)])
 rw[QC (x:=.longest b) rfl]
 unfold Kp280.step;dsimp only
 split<;>rfl
theorem agx(D:Desk)(b:Nat):Kp284Neutral.step (some D) [[37,(b:Int)]]=(some D,if b<2\/60<b then [-22]else [(Kp280.greatest b:Int),((Kp280.least (Kp280.greatest b)).x:Int)]):=by
 show _=(some D,if b<2\/Kp279.MOST<b then [-22]else [(Kp280.greatest b:Int),((Kp280.least (Kp280.greatest b)).x:Int)])
 rw[QC (x:=.greatest b) rfl]
 unfold Kp280.step;dsimp only
 split<;>rfl
theorem agy(D:Desk)(n:Nat):Kp284Neutral.step (some D) [[38,(n:Int)]]=(some D,if Kp279.okN n=false then [-22]else match Kp280.minus n with|some t=>Cd ⟨t.a,t.b⟩|none=>[-33]):=by
 rw[QC (x:=.minus n) rfl]
 unfold Kp280.step;dsimp only
 split
 ·rfl
 ·cases Kp280.minus n<;>rfl
theorem agz(D:Desk)(n k:Nat):Kp284Neutral.step (some D) [[39,(n:Int),(k:Int)]]=(some D,if Kp279.okN n=false\/12<k then [-22]else Cd (Kp281.nth n k)):=by
 show _=(some D,if Kp279.okN n=false\/Kp281.TOP<k then [-22]else Cd (Kp281.nth n k))
 rw[Hj (x:=.nth n k) rfl]
 unfold Kp281.step;dsimp only
 split<;>rfl
theorem agA(D:Desk)(x y:Nat):Kp284Neutral.step (some D) [[40,(x:Int),(y:Int)]]=(some D,optN (Kp281.numberOf D.n ⟨x,y⟩ 30 0)):=by
 rw[Hj (x:=.number x y) rfl]
 unfold Kp281.step;dsimp only
 cases Kp281.numberOf D.n ⟨x,y⟩ 30 0<;>rfl
theorem agB(D:Desk)(x y:Nat):Kp284Neutral.step (some D) [[41,(x:Int),(y:Int)]]=(some D,[if Kp281.isOne D.n ⟨x,y⟩=true then 1 else 0]):=by
 rw[Hj (x:=.is_ x y) rfl]
 rfl
theorem agC(D:Desk)(b:Nat):Kp284Neutral.step (some D) [[42,(b:Int)]]=(some D,match Kp281.above D.n b 40 0 with|some k=>[(k:Int),((Kp281.nth D.n k).x:Int),((Kp281.nth D.n k).y:Int)]|none=>[-33]):=by
 rw[Hj (x:=.above b) rfl]
 unfold Kp281.step;dsimp only
 cases Kp281.above D.n b 40 0<;>rfl
theorem agD(D:Desk)(b:Nat):Kp284Neutral.step (some D) [[43,(b:Int)]]=(some D,[(((List.range 40).filter fun k=>decide ((Kp281.nth D.n k).y<=b)).length:Int)]):=by
 rw[Hj (x:=.many b) rfl]
 rfl
theorem agE(D:Desk)(j k:Nat):Kp284Neutral.step (some D) [[44,(j:Int),(k:Int)]]=(some D,if 12<j\/12<k\/j=0 then [-22]else [if(Kp281.nth D.n k).y%(Kp281.nth D.n j).y=0 then 1 else 0]):=by
 show _=(some D,if Kp281.TOP<j\/Kp281.TOP<k\/j=0 then [-22]else [if(Kp281.nth D.n k).y%(Kp281.nth D.n j).y=0 then 1 else 0])
 rw[Hj (x:=.divides j k) rfl]
 unfold Kp281.step;dsimp only
 split<;>rfl
theorem agF(D:Desk)(j k:Nat):Kp284Neutral.step (some D) [[45,(j:Int),(k:Int)]]=(some D,if 12<j\/12<k then [-22]else [0,(Nat.gcd (Kp281.nth D.n j).y (Kp281.nth D.n k).y:Int)]):=by
 show _=(some D,if Kp281.TOP<j\/Kp281.TOP<k then [-22]else [0,(Nat.gcd (Kp281.nth D.n j).y (Kp281.nth D.n k).y:Int)])
 rw[Hj (x:=.common j k) rfl]
 unfold Kp281.step;dsimp only
 split<;>rfl
theorem agG(D:Desk)(j k:Nat):Kp284Neutral.step (some D) [[46,(j:Int),(k:Int)]]=(some D,if 12<j\/12<k then [-22]else Cd (Kp279.times D.n (Kp281.nth D.n j) (Kp281.nth D.n k))):=by
 show _=(some D,if Kp281.TOP<j\/Kp281.TOP<k then [-22]else Cd (Kp279.times D.n (Kp281.nth D.n j) (Kp281.nth D.n k)))
 rw[Hj (x:=.together j k) rfl]
 unfold Kp281.step;dsimp only
 split<;>rfl
theorem agH(D:Desk)(k:Nat):Kp284Neutral.step (some D) [[47,(k:Int)]]=(some D,if 12<k\/k<2 then [-22]else [0,(2*(Kp280.least D.n).x*(Kp281.nth D.n (k-1)).x:Nat)-((Kp281.nth D.n (k-2)).x:Int),(2*(Kp280.least D.n).x*(Kp281.nth D.n (k-1)).y:Nat)-((Kp281.nth D.n (k-2)).y:Int)]):=by
 show _=(some D,if Kp281.TOP<k\/k<2 then [-22]else [0,(2*(Kp280.least D.n).x*(Kp281.nth D.n (k-1)).x:Nat)-((Kp281.nth D.n (k-2)).x:Int),(2*(Kp280.least D.n).x*(Kp281.nth D.n (k-1)).y:Nat)-((Kp281.nth D.n (k-2)).y:Int)])
 rw[Hj (x:=.rule k) rfl]
 unfold Kp281.step;dsimp only
 split<;>rfl
theorem agI(D:Desk)(k b:Nat):Kp284Neutral.step (some D) [[48,(k:Int),(b:Int)]]=(some D,if 12<k\/k=0\/1000000<b then [-22]else [0,(((Kp281.nth D.n k).x*b/(Kp281.nth D.n k).y:Nat):Int),(Kp279.rootOf (D.n*b*b):Int)]):=by
 show _=(some D,if Kp281.TOP<k\/k=0\/1000000<b then [-22]else [0,(((Kp281.nth D.n k).x*b/(Kp281.nth D.n k).y:Nat):Int),(Kp279.rootOf (D.n*b*b):Int)])
 rw[Hj (x:=.root k b) rfl]
 unfold Kp281.step;dsimp only
 split<;>rfl
theorem agJ(D:Desk)(m k:Nat):Kp284Neutral.step (some D) [[49,(m:Int),(k:Int)]]=(some D,if m=0\/1000<m\/12<k then [-22]else [0,(((Kp281.nth D.n k).x%m:Nat):Int),(((Kp281.nth D.n k).y%m:Nat):Int)]):=by
 show _=(some D,if m=0\/1000<m\/Kp281.TOP<k then [-22]else [0,(((Kp281.nth D.n k).x%m:Nat):Int),(((Kp281.nth D.n k).y%m:Nat):Int)])
 rw[Hj (x:=.left m k) rfl]
 unfold Kp281.step;dsimp only
 split<;>rfl
theorem agK(D:Desk)(m:Nat):Kp284Neutral.step (some D) [[50,(m:Int)]]=(some D,if m=0\/100<m then [-22]else optN (Kp281.roundOf D.n m 10000 0 (1%m) 0)):=by
 rw[Hj (x:=.round m) rfl]
 unfold Kp281.step;dsimp only
 split
 ·rfl
 ·cases Kp281.roundOf D.n m 10000 0 (1%m) 0<;>rfl
theorem agL(D:Desk):Kp284Neutral.step (some D) [[51]]=(some D,[((Kp282.downAll D.n 100 0 D.a).1:Int),((Kp282.downAll D.n 100 0 D.a).2.x:Int),((Kp282.downAll D.n 100 0 D.a).2.y:Int)]):=by
 rw[Jp (x:=.first) rfl]
 rfl
theorem agM(D:Desk):Kp284Neutral.step (some D) [[52]]=(some D,[if Kp282.isFirst D.n D.a=true then 1 else 0]):=by
 rw[Jp (x:=.isFirst) rfl]
 rfl
theorem agN(D:Desk)(s k:Nat):Kp284Neutral.step (some D) [[53,(s:Int),(k:Int)]]=(some D,if Kp282.okD s k=false then [-22]else flat (Kp282.firsts D.n (Kp282.signed s k))):=by
 rw[Jp (x:=.firsts s k) rfl]
 unfold Kp282.step;dsimp only
 split<;>rfl
theorem agO(D:Desk)(s k:Nat):Kp284Neutral.step (some D) [[54,(s:Int),(k:Int)]]=(some D,if Kp282.okD s k=false then [-22]else [if(Kp282.firsts D.n (Kp282.signed s k)).isEmpty=true then 0 else 1]):=by
 rw[Jp (x:=.can s k) rfl]
 unfold Kp282.step;dsimp only
 split
 ·rfl
 ·rfl
theorem agP(D:Desk)(s k:Nat):Kp284Neutral.step (some D) [[55,(s:Int),(k:Int)]]=(some D,if Kp282.okD s k=false then [-22]else ahW (Kp282.firsts D.n (Kp282.signed s k)).head?):=by
 rw[Jp (x:=.least s k) rfl]
 unfold Kp282.step;dsimp only
 split
 ·rfl
 ·cases Kp282.firsts D.n (Kp282.signed s k)<;>rfl
theorem agQ(D:Desk)(s k b:Nat):Kp284Neutral.step (some D) [[56,(s:Int),(k:Int),(b:Int)]]=(some D,if Kp282.okD s k=false\/300<b then [-22]else flat (Kp282.upTo D.n (Kp282.signed s k) b)):=by
 rw[Jp (x:=.upTo s k b) rfl]
 unfold Kp282.step;dsimp only
 split<;>rfl
theorem agR(D:Desk)(s k b:Nat):Kp284Neutral.step (some D) [[57,(s:Int),(k:Int),(b:Int)]]=(some D,if Kp282.okD s k=false\/2000<b then [-22]else [((Kp282.upTo D.n (Kp282.signed s k) b).length:Int)]):=by
 rw[Jp (x:=.many s k b) rfl]
 unfold Kp282.step;dsimp only
 split<;>rfl
theorem agS(D:Desk)(k:Nat):Kp284Neutral.step (some D) [[58,(k:Int)]]=(some D,if k=0\/60<k then [-22]else [(Kp282.bound D.n k:Int)]):=by
 show _=(some D,if k=0\/Kp282.DIFF<k then [-22]else [(Kp282.bound D.n k:Int)])
 rw[Jp (x:=.bound k) rfl]
 unfold Kp282.step;dsimp only
 split<;>rfl
theorem agT(D:Desk)(s b:Nat):Kp284Neutral.step (some D) [[59,(s:Int),(b:Int)]]=(some D,if 1<s\/60<b then [-22]else nums (((List.range (b+1)).drop 1).filter fun k=> !(Kp282.firsts D.n (Kp282.signed s k)).isEmpty)):=by
 show _=(some D,if 1<s\/Kp282.DIFF<b then [-22]else nums (((List.range (b+1)).drop 1).filter fun k=> !(Kp282.firsts D.n (Kp282.signed s k)).isEmpty))
 rw[Jp (x:=.which s b) rfl]
 unfold Kp282.step;dsimp only
 split<;>rfl
theorem agU(D:Desk)(s k y:Nat):Kp284Neutral.step (some D) [[60,(s:Int),(k:Int),(y:Int)]]=(some D,if Kp282.okD s k=false\/1000000<y then [-22]else ahW (Kp282.withY D.n (Kp282.signed s k) y)):=by
 rw[Jp (x:=.withY s k y) rfl]
 unfold Kp282.step;dsimp only
 split
 ·rfl
 ·cases Kp282.withY D.n (Kp282.signed s k) y<;>rfl
theorem agV(D:Desk):Kp284Neutral.step (some D) [[61]]=(some D,Cd (Kp282.down D.n D.a)):=by
 rw[Jp (x:=.other) rfl]
 rfl
theorem agW(D:Desk)(c k:Nat):Kp284Neutral.step (some D) [[62,(c:Int),(k:Int)]]=(some D,if 5<=c then [-22]else if k=0\/12<k then [-22]else 0::zs (Kp283.nth c k)):=by
 show _=(some D,if 5<=c then [-22]else if k=0\/Kp283.TOP<k then [-22]else 0::zs (Kp283.nth c k))
 rw[Sq (x:=.nth k) (k:=c) rfl]
 split
 ·rfl
 ·unfold Kp283.step;dsimp only
  split<;>rfl
theorem agX(D:Desk)(c v:Nat):Kp284Neutral.step (some D) [[63,(c:Int),(v:Int)]]=(some D,if 5<=c then [-22]else if 1000000000<v then [-22]else [if Kp283.isOf c v=true then 1 else 0]):=by
 show _=(some D,if 5<=c then [-22]else if Kp283.GREAT<v then [-22]else [if Kp283.isOf c v=true then 1 else 0])
 rw[Sq (x:=.is_ v) (k:=c) rfl]
 split
 ·rfl
 ·unfold Kp283.step;dsimp only
  split<;>rfl
theorem agY(D:Desk)(c v:Nat):Kp284Neutral.step (some D) [[64,(c:Int),(v:Int)]]=(some D,if 5<=c then [-22]else if 1000000000<v then [-22]else optN (Kp283.number c v)):=by
 show _=(some D,if 5<=c then [-22]else if Kp283.GREAT<v then [-22]else optN (Kp283.number c v))
 rw[Sq (x:=.number v) (k:=c) rfl]
 split
 ·rfl
 ·unfold Kp283.step;dsimp only
  split
  ·rfl
  ·cases Kp283.number c v<;>rfl
theorem agZ(D:Desk)(c b:Nat):Kp284Neutral.step (some D) [[65,(c:Int),(b:Int)]]=(some D,if 5<=c then [-22]else if 1000000000<b then [-22]else [(Kp283.aboveFrom c b 40 1:Int),(Kp283.value c (Kp283.aboveFrom c b 40 1):Int)]):=by
 show _=(some D,if 5<=c then [-22]else if Kp283.GREAT<b then [-22]else [(Kp283.aboveFrom c b 40 1:Int),(Kp283.value c (Kp283.aboveFrom c b 40 1):Int)])
 rw[Sq (x:=.above b) (k:=c) rfl]
 split
 ·rfl
 ·unfold Kp283.step;dsimp only
  split<;>rfl
theorem ag0(D:Desk)(c b:Nat):Kp284Neutral.step (some D) [[66,(c:Int),(b:Int)]]=(some D,if 5<=c then [-22]else if 1000000000<b then [-22]else [(((List.range 41).filter fun k=>decide (0<k) && decide (Kp283.value c k<=b)).length:Int)]):=by
 show _=(some D,if 5<=c then [-22]else if Kp283.GREAT<b then [-22]else [(((List.range 41).filter fun k=>decide (0<k) && decide (Kp283.value c k<=b)).length:Int)])
 rw[Sq (x:=.many b) (k:=c) rfl]
 split
 ·rfl
 ·unfold Kp283.step;dsimp only
  split<;>rfl
theorem ag1(D:Desk)(c b:Nat):Kp284Neutral.step (some D) [[67,(c:Int),(b:Int)]]=(some D,if 5<=c then [-22]else if 2000<b then [-22]else nums ((List.range (b+1)).filter (Kp283.isOf c))):=by
 rw[Sq (x:=.all b) (k:=c) rfl]
 split
 ·rfl
 ·unfold Kp283.step;dsimp only
  split<;>rfl
theorem ag2(D:Desk)(c k:Nat):Kp284Neutral.step (some D) [[68,(c:Int),(k:Int)]]=(some D,if 5<=c then [-22]else if k<3\/12<k then [-22]else [0,Kp283.ruleOf c k]):=by
 show _=(some D,if 5<=c then [-22]else if k<3\/Kp283.TOP<k then [-22]else [0,Kp283.ruleOf c k])
 rw[Sq (x:=.rule k) (k:=c) rfl]
 split
 ·rfl
 ·unfold Kp283.step;dsimp only
  split<;>rfl
theorem ag3(D:Desk)(c v:Nat):Kp284Neutral.step (some D) [[69,(c:Int),(v:Int)]]=(some D,if 5<=c then [-22]else if 1000000000<v then [-22]else match Kp283.number c v with|some k=>(k:Int)::zs (Kp283.nth c k)|none=>[-33]):=by
 show _=(some D,if 5<=c then [-22]else if Kp283.GREAT<v then [-22]else match Kp283.number c v with|some k=>(k:Int)::zs (Kp283.nth c k)|none=>[-33])
 rw[Sq (x:=.of_ v) (k:=c) rfl]
 split
 ·rfl
 ·unfold Kp283.step;dsimp only
  split
  ·rfl
  ·cases Kp283.number c v<;>rfl
theorem amC(st:Kp284.State)(n:Nat):Kp284Neutral.step st [[0,(n:Int)]]=if Kp279.okN n=true then(some ⟨n,⟨1,0⟩,[],[]⟩,[0])else(st,[-22]):=by
 rw[qg (x:=.begin_ n) rfl]
 unfold Kp284.step;dsimp only
 split<;>rfl
theorem amD(D:Desk)(x y:Nat):Kp284Neutral.step (some D) [[1,(x:Int),(y:Int)]]=if Kp284.ok ⟨x,y⟩=false\/(x=0/\y=0)then(some D,[-22])else(some (Kp284.to D ⟨x,y⟩),wg D.n ⟨x,y⟩):=by
 rw[qg (x:=.pair x y) rfl]
 unfold Kp284.step;dsimp only
 split<;>rfl
theorem amE(D:Desk):Kp284Neutral.step (some D) [[2]]=if 8<=D.kept.length then(some D,[-28])else(some { D with kept:=D.kept++[D.a] },[(D.kept.length:Int)]):=by
 rw[qg (x:=.keep) rfl]
 show _=(if Kp284.KEPT<=D.kept.length then(some D,[-28])else(some { D with kept:=D.kept++[D.a] },[(D.kept.length:Int)]))
 unfold Kp284.step;dsimp only
 split<;>rfl
theorem amF(D:Desk)(i:Nat):Kp284Neutral.step (some D) [[3,(i:Int)]]=if D.kept.length<=i then(some D,[-2])else(some { D with kept:=D.kept.take i++D.kept.drop (i+1) },[((D.kept.length-1:Nat):Int)]):=by
 rw[qg (x:=.drop i) rfl]
 unfold Kp284.step;dsimp only
 split<;>rfl
theorem amG(D:Desk)(i:Nat):Kp284Neutral.step (some D) [[4,(i:Int)]]=if D.kept.length<=i then(some D,[-2])else(some (Kp284.to D (Kp284.keptAt D i)),wg D.n (Kp284.keptAt D i)):=by
 rw[qg (x:=.take i) rfl]
 unfold Kp284.step;dsimp only
 split<;>rfl
theorem amH(D:Desk)(i:Nat):Kp284Neutral.step (some D) [[5,(i:Int)]]=if D.kept.length<=i then(some D,[-2])else mv D (Kp279.times D.n D.a (Kp284.keptAt D i)):=by
 rw[qg (x:=.with_ i) rfl]
 unfold Kp284.step;dsimp only
 split
 ·rfl
 ·exact Oo D _
theorem amI(D:Desk)(i:Nat):Kp284Neutral.step (some D) [[6,(i:Int)]]=if D.kept.length<=i then(some D,[-2])else match Kp279.parted D.n D.a (Kp284.keptAt D i)with|some b=>mv D b|none=>(some D,[-33]):=by
 rw[qg (x:=.from_ i) rfl]
 unfold Kp284.step;dsimp only
 split
 ·rfl
 ·cases Kp279.parted D.n D.a (Kp284.keptAt D i)with
  |none=>rfl
  |some b=>exact Oo D _
theorem amJ(D:Desk)(i:Nat):Kp284Neutral.step (some D) [[7,(i:Int)]]=if D.kept.length<=i then(some D,[-2])else mv D (Kp279.against D.n D.a (Kp284.keptAt D i)):=by
 rw[qg (x:=.against i) rfl]
 unfold Kp284.step;dsimp only
 split
 ·rfl
 ·exact Oo D _
theorem amK(D:Desk):Kp284Neutral.step (some D) [[8]]=mv D (Kp282.up D.n D.a):=by
 rw[qg (x:=.up) rfl]
 exact Oo D _
theorem amL(D:Desk):Kp284Neutral.step (some D) [[9]]=if Kp282.isFirst D.n D.a=true then(some D,[-16])else mv D (Kp282.down D.n D.a):=by
 rw[qg (x:=.down) rfl]
 unfold Kp284.step;dsimp only
 split
 ·rfl
 ·exact Oo D _
theorem ajM(D:Desk):Kp284Neutral.step (some D) [[10]]=match Kp279.one D.n D.a with|some b=>mv D b|none=>(some D,[-33]):=by
 rw[qg (x:=.one) rfl]
 unfold Kp284.step;dsimp only
 cases Kp279.one D.n D.a with
 |none=>rfl
 |some b=>exact Oo D _
theorem ajN(D:Desk):Kp284Neutral.step (some D) [[11]]=match D.before with|b::r=>(some { D with a:=b,before:=r },wg D.n b)|[]=>(some D,[-6]):=by
 rw[qg (x:=.back) rfl]
 unfold Kp284.step;dsimp only
 cases D.before<;>rfl
end Ns
end
section
namespace Ns
open Kp279 (Pair)
noncomputable def Oq(c:Nat):Nat:=if c=3 then 3 else 2
noncomputable def kindS(c:Nat):Pair:=if c=2\/c=4 then⟨1,1⟩else⟨1,0⟩
noncomputable def Jq:Nat->Pair->Nat
 |0,z=>(z.y/2)*(z.y/2)
 |1,z=>z.y/2
 |2,z=>(z.x-1)/2
 |3,z=>2*z.x
 |_,z=>(z.y+1)/2
noncomputable def Jr:Nat->Pair->List Nat
 |0,z=>[(z.y/2)*(z.y/2),z.y/2,(z.x-1)/2]
 |1,z=>[z.y/2,(z.x-1)/2]
 |2,z=>[(z.x-1)/2,(z.x-1)/2+1,z.y]
 |3,z=>[2*z.x-1,2*z.x,2*z.x+1,3*z.x*z.y]
 |_,z=>[(z.y+1)/2,(z.x+1)/2]
noncomputable def Xi(c k:Nat):Pair:=Kp279.times (Oq c) (kindS c) (Kp281.nth (Oq c) k)
theorem QD{c:Nat}(hc:c<5):Kp279.okN (Oq c)=true:=by
 unfold Oq
 split
 ·exact ok3
 ·exact ok2
theorem Y4{c:Nat}(hc:c<5)(k:Nat):1<=(Xi c k).x:=by
 have h:=(nq (QD hc) k).2
 unfold Xi kindS
 split
 ·simp only[Kp279.times]
  omega
 ·simp only[Kp279.times]
  omega
theorem aa6{c:Nat}(hc:c<5)(k:Nat):Jq c (Xi c k)=Kp283.value c k:=by
 match c,hc with
 |0,_=>
  show((Kp279.times 2 ⟨1,0⟩ (Kp281.nth 2 k)).y/2)*((Kp279.times 2 ⟨1,0⟩ (Kp281.nth 2 k)).y/2)=_
  rw[rG,eight,Jg]
  simp only
  rw[Nat.mul_div_cancel_left _ (by decide)]
 |1,_=>
  show(Kp279.times 2 ⟨1,0⟩ (Kp281.nth 2 k)).y/2=_
  rw[rG,eight,value1]
  simp only
  rw[Nat.mul_div_cancel_left _ (by decide)]
 |2,_=>
  show((Kp279.times 2 ⟨1,1⟩ (Kp281.nth 2 k)).x-1)/2=((Kp283.half (2*k+1)).x-1)/2
  rw[nF]
 |3,_=>
  show 2*(Kp279.times 3 ⟨1,0⟩ (Kp281.nth 3 k)).x=_
  rw[rG,Jh]
 |4,_=>
  show((Kp279.times 2 ⟨1,1⟩ (Kp281.nth 2 k)).y+1)/2=((Kp283.half (2*k+1)).y+1)/2
  rw[nF]
theorem aa7{c:Nat}(hc:c<5)(k:Nat):Jr c (Xi c k)=Kp283.nth c k:=by
 match c,hc with
 |0,_=>
  show [((Kp279.times 2 ⟨1,0⟩ (Kp281.nth 2 k)).y/2)*((Kp279.times 2 ⟨1,0⟩ (Kp281.nth 2 k)).y/2),(Kp279.times 2 ⟨1,0⟩ (Kp281.nth 2 k)).y/2,((Kp279.times 2 ⟨1,0⟩ (Kp281.nth 2 k)).x-1)/2]=[(Kp281.nth 8 k).y*(Kp281.nth 8 k).y,(Kp281.nth 8 k).y,((Kp281.nth 8 k).x-1)/2]
  rw[rG,eight]
  simp only
  rw[Nat.mul_div_cancel_left _ (by decide)]
 |1,_=>
  show [(Kp279.times 2 ⟨1,0⟩ (Kp281.nth 2 k)).y/2,((Kp279.times 2 ⟨1,0⟩ (Kp281.nth 2 k)).x-1)/2]=[(Kp281.nth 8 k).y,((Kp281.nth 8 k).x-1)/2]
  rw[rG,eight]
  simp only
  rw[Nat.mul_div_cancel_left _ (by decide)]
 |2,_=>
  have h:=Jl k
  show [((Kp279.times 2 ⟨1,1⟩ (Kp281.nth 2 k)).x-1)/2,((Kp279.times 2 ⟨1,1⟩ (Kp281.nth 2 k)).x-1)/2+1,(Kp279.times 2 ⟨1,1⟩ (Kp281.nth 2 k)).y]=[((Kp283.half (2*k+1)).x-1)/2,((Kp283.half (2*k+1)).x+1)/2,(Kp283.half (2*k+1)).y]
  rw[<-nF]
  congr 2
  omega
 |3,_=>
  show [2*(Kp279.times 3 ⟨1,0⟩ (Kp281.nth 3 k)).x-1,2*(Kp279.times 3 ⟨1,0⟩ (Kp281.nth 3 k)).x,2*(Kp279.times 3 ⟨1,0⟩ (Kp281.nth 3 k)).x+1,3*(Kp279.times 3 ⟨1,0⟩ (Kp281.nth 3 k)).x*(Kp279.times 3 ⟨1,0⟩ (Kp281.nth 3 k)).y]=_
  rw[rG]
  rfl
 |4,_=>
  show [((Kp279.times 2 ⟨1,1⟩ (Kp281.nth 2 k)).y+1)/2,((Kp279.times 2 ⟨1,1⟩ (Kp281.nth 2 k)).x+1)/2]=[((Kp283.half (2*k+1)).y+1)/2,((Kp283.half (2*k+1)).x+1)/2]
  rw[nF]
noncomputable def aa8(c:Nat):Int:=match c with|0=>34|1=>6|2=>6|3=>4|_=>6
noncomputable def ag4(c:Nat):Int:=match c with|0=>2|1=>0|2=>2|3=>0|_=>-2
theorem ad2{c:Nat}(hc:c<5)(k:Nat):aa8 c*(Kp283.value c (k-1):Int)-(Kp283.value c (k-2):Int)+ag4 c=Kp283.ruleOf c k:=by
 match c,hc with
 |0,_=>rfl
 |1,_=>
  show 6*(Kp283.value 1 (k-1):Int)-(Kp283.value 1 (k-2):Int)+0=6*(Kp283.value 1 (k-1):Int)-(Kp283.value 1 (k-2):Int)
  omega
 |2,_=>rfl
 |3,_=>
  show 4*(Kp283.value 3 (k-1):Int)-(Kp283.value 3 (k-2):Int)+0=4*(Kp283.value 3 (k-1):Int)-(Kp283.value 3 (k-2):Int)
  omega
 |4,_=>
  show 6*(Kp283.value 4 (k-1):Int)-(Kp283.value 4 (k-2):Int)+(-2)=6*(Kp283.value 4 (k-1):Int)-(Kp283.value 4 (k-2):Int)-2
  omega
end Ns
end
section
namespace L2
open PySem PySem.Spec PyProof.Rows
abbrev Key:=Sum Int Str
noncomputable def Gp:Key->Value->Bool
 |.inl k,v=>Value.isInt k v
 |.inr x,v=>Value.isStrOf x v
noncomputable def amM(w:World):Key->Int
 |.inl k=>hashInt k
 |.inr x=>hashStr w x
theorem iC:∀{k:Key}{v:Value},Gp k v=true->(∃i t,k=Sum.inl i/\v=Value.int i t)\/(∃x t,k=Sum.inr x/\v=Value.str x t)
 |.inl i,v,h=>by
  obtain⟨t,e⟩:=Value.isInt_shape (k:=i) (v:=v) h
  exact .inl ⟨i,t,rfl,e⟩
 |.inr x,v,h=>by
  obtain⟨t,e⟩:=Value.isStrOf_shape (x:=x) (v:=v) h
  exact .inr ⟨x,t,rfl,e⟩
theorem Y5(i:Int)(t:Tok):Gp (.inl i) (.int i t)=true:=by simp[Gp,Value.isInt]
theorem Y6(x:Str)(t:Tok):Gp (.inr x) (.str x t)=true:=by simp[Gp,Value.isStrOf]
theorem ahX(a b:Int):decide ((Sum.inl a:Key)=Sum.inl b)=(a==b):=by
 by_cases e:a=b
 ·subst e;simp
 ·have h:¬(Sum.inl a:Key)=Sum.inl b:=fun q=>e (Sum.inl.inj q)
  rw[decide_eq_false h]
  exact(beq_eq_false_iff_ne.mpr e).symm
theorem ahY(a b:Str):decide ((Sum.inr a:Key)=Sum.inr b)=decide (a=b):=by
 by_cases e:a=b
 ·subst e;simp
 ·have h:¬(Sum.inr a:Key)=Sum.inr b:=fun q=>e (Sum.inr.inj q)
  rw[decide_eq_false h,decide_eq_false e]
theorem ahZ(a:Int)(b:Str):decide ((Sum.inl a:Key)=Sum.inr b)=false:=decide_eq_false (fun q=>nomatch q)
theorem ah0(a:Str)(b:Int):decide ((Sum.inr a:Key)=Sum.inl b)=false:=decide_eq_false (fun q=>nomatch q)
noncomputable def jR(prog:Program)(w:World):PySem.KeyKind prog w Key where
 is:=Gp
 hash:=amM w
 inj:=fun v a b ha hb=>by
  rcases iC ha with⟨i,t,rfl,rfl⟩|⟨x,t,rfl,rfl⟩
  ·rcases iC hb with⟨j,u,rfl,e⟩|⟨y,u,rfl,e⟩
   ·injection e with e1 _;rw[e1]
   ·exact nomatch e
  ·rcases iC hb with⟨j,u,rfl,e⟩|⟨y,u,rfl,e⟩
   ·exact nomatch e
   ·injection e with e1 _;rw[e1]
 byValue:=fun k v h=>by
  rcases iC h with⟨i,t,rfl,rfl⟩|⟨x,t,rfl,rfl⟩<;>rfl
 pyHash:=fun hv h=>by
  rcases iC hv with⟨i,t,rfl,rfl⟩|⟨x,t,rfl,rfl⟩
  ·exact wpAny_pyHash_int h
  ·exact wpAny_pyHash_str h
 eqBool:=fun hu hv h=>by
  rcases iC hu with⟨i,t,rfl,rfl⟩|⟨x,t,rfl,rfl⟩
  ·rcases iC hv with⟨j,u,rfl,rfl⟩|⟨y,u,rfl,rfl⟩
   ·rw[ahX]at h;exact wpAny_eqBool_int h
   ·rw[ahZ]at h;exact SeqAt.EqAt.int_str i t y u _ _ _ _ h
  ·rcases iC hv with⟨j,u,rfl,rfl⟩|⟨y,u,rfl,rfl⟩
   ·rw[ah0]at h;exact SeqAt.EqAt.str_int x t j u _ _ _ _ h
   ·rw[ahY]at h;exact wpAny_eqBool_str h
 «strs»:=fun k x t v h=>by
  rcases iC h with⟨i,u,rfl,e⟩|⟨y,u,rfl,e⟩
  ·exact nomatch e
  ·injection e with e1 _
   subst e1
   cases v<;>rfl
theorem Ss(prog:Program)(w:World)(i:Int)(t:Tok):(jR prog w).is (.inl i) (.int i t)=true:=Y5 i t
theorem Sv(prog:Program)(w:World)(x:Str)(t:Tok):(jR prog w).is (.inr x) (.str x t)=true:=Y6 x t
end L2
namespace L2
open PySem PySem.Spec PyProof.Rows
inductive V where
 |non|bl (b:Bool)|int (i:Int)|str (x:Str)|Sw (b:Array UInt8)|flt (b:UInt64)|ref (a:Addr)|ty (n:String)
 deriving DecidableEq
def RelV:V->Value->Prop
 |.non,u=>u=Value.none
 |.bl b,u=>u=Value.bool b
 |.int i,u=>∃t,u=Value.int i t
 |.str x,u=>∃t,u=Value.str x t
 |.Sw b,u=>∃t,u=Value.bytes b t
 |.flt b,u=>∃t,u=Value.float b t
 |.ref a,u=>u=Value.ref a
 |.ty n,u=>u=Value.type n
abbrev Vals:List V->List Value->Prop:=Paired RelV
theorem Vals.length{xs:List V}{us:List Value}(r:Vals xs us):xs.length=us.length:=Paired.length r
theorem Vals.get:∀{xs:List V}{us:List Value}{i:Nat}{x:V},Vals xs us->xs[i]?=some x->∃u,us[i]?=some u/\RelV x u
 |_,_,_,_,.nil,e=>by simp at e
 |_,_,0,_,.cons r _,e=>by simp at e;subst e;exact⟨_,rfl,r⟩
 |_,_,i+1,x,.cons _ t,e=>by
  obtain⟨u,h1,h2⟩:=Vals.get (i:=i) (x:=x) t (by simpa using e)
  exact⟨u,by simpa using h1,h2⟩
theorem Vals.set{x:V}{u:Value}(r:RelV x u):∀{xs:List V}{us:List Value}(i:Nat),Vals xs us->Vals (xs.set i x) (us.set i u)
 |_,_,_,.nil=> .nil
 |_,_,0,.cons _ t=> .cons r t
 |_,_,i+1,.cons q t=> .cons q (Vals.set r i t)
theorem Vals.append:∀{xs ys:List V}{us ws:List Value},Vals xs us->Vals ys ws->Vals (xs++ys) (us++ws)
 |_,_,_,_,.nil,s=>s
 |_,_,_,_,.cons r t,s=> .cons r (Vals.append t s)
theorem Vals.take:∀{xs:List V}{us:List Value}(n:Nat),Vals xs us->Vals (xs.take n) (us.take n)
 |_,_,0,_=> .nil
 |_,_,_+1,.nil=> .nil
 |_,_,n+1,.cons r t=> .cons r (Vals.take n t)
theorem Vals.drop:∀{xs:List V}{us:List Value}(n:Nat),Vals xs us->Vals (xs.drop n) (us.drop n)
 |_,_,0,r=>r
 |_,_,_+1,.nil=> .nil
 |_,_,n+1,.cons _ t=>Vals.drop n t
theorem Vals.none_of:∀{xs:List V}{us:List Value}{i:Nat},Vals xs us->xs[i]?=none->us[i]?=none:=fun{xs us i} r e=>by
 have h1:=r.length
 have h2:xs.length<=i:=List.getElem?_eq_none_iff.mp e
 exact List.getElem?_eq_none_iff.mpr (by omega)
def wM:Option V->Option Value->Prop
 |some v,some u=>RelV v u
 |none,none=>True
 |_,_=>False
def KV{κ:Type}:List (κ×V)->List (κ×Value)->Prop:=Paired fun(p:κ×V)(q:κ×Value)=>p.1=q.1/\RelV p.2 q.2
noncomputable def kV:Key->V
 |.inl i=> .int i
 |.inr x=> .str x
inductive HO where
 |lst (xs:List V)
 |tup (xs:List V)
 |dK (kvs:List (Key×V))|dT (kvs:List (List Key×V))
 |set (S:Int->Bool) (n:Nat)
 |ins (C dx:Addr) (fs:List (Str×V))
 |own (x:Addr)
 |xd (fs:List (Str×V))
 |met (f x:Addr)
 |rng (lo hi:Int)
 |nG (o:Obj) (u:HO)
 |Ot (ps:Array Value)
 |ext (φ:Heap->Prop)
abbrev Hp:=Addr->Option HO
noncomputable def upd(H:Hp)(a:Addr)(o:HO):Hp:=fun b=>if b=a then some o else H b
theorem aG{H:Hp}{a:Addr}{o:HO}:upd H a o a=some o:=by unfold upd;rw[if_pos rfl]
theorem aH{H:Hp}{a b:Addr}{o:HO}(h:b≠a):upd H a o b=H b:=by unfold upd;rw[if_neg h]
theorem Xj{H:Hp}{a:Addr}{o u:HO}:upd (upd H a o) a u=upd H a u:=by
 funext b;unfold upd;split<;>rfl
theorem Js{H:Hp}{a b:Addr}{o u:HO}(h:H a=some o)(h':H b=some u)(d:o≠u):a≠b:=by
 intro e;subst e;rw[h]at h';exact d (Option.some.inj h')
theorem aW{H:Hp}{a b:Addr}{o:HO}(h:H a=some o)(h':H b=none):a≠b:=by
 intro e;subst e;rw[h]at h';cases h'
section
variable(P:Program)(w:World)
def jQ(H:Hp)(h:Heap)(a:Addr):HO->Prop
 |.lst xs=>xs.length<=sizeLine/\∃(its:List Value)(n:Nat),Vals xs its/\h.get? a=some { cls:=.type "list",data:=.seq its.toArray n }
 |.tup xs=>xs.length<=sizeLine/\∃its:List Value,Vals xs its/\IsTup h a its.toArray
 |.dK kvs=>kvs.length<=sizeLine/\(a==sysModules)=false/\∃vs,KV kvs vs/\h.DictOf (jR P w) a vs
 |.dT kvs=>kvs.length<=sizeLine/\(a==sysModules)=false/\∃xs:List (List Key×Addr×Value),
   Paired (fun(p:List Key×V)(q:List Key×Addr×Value)=>p.1=q.1/\H q.2.1=some (.tup (p.1.map kV))/\RelV p.2 q.2.2) kvs xs/\
   ∃o es ep,h.get? a=some o/\o.ExactDict/\o.data=.dict es ep/\es.toList=xs.map (entryOfKey (tupleKind (jR P w)))/\(xs.map (·.1)).Nodup
 |.set S n=>h.SetOf (intKind P w) a S n
 |.ins C dx fs=>H dx=some (.own a)/\fs.length<=1000/\dx≠a/\h.get? a=some (W.instObj C dx)/\
   ∃mA,h.Ns1 dx mA/\(∀f,wM (fs.lookup f) (mA f))/\PySem.Within mA (fs.map (·.1))
 |.own _=>∃o,h.get? a=some o
 |.xd fs=>∃mA,h.Ns1 a mA/\∀f,wM (fs.lookup f) (mA f)
 |.rng lo hi=>∃t u v,h.get? a=some { cls:=.type "range",data:=.fields #[.int lo t,.int hi u,.int 1 v] }
 |.nG o u=>h.get? a=some o/\jQ H h a u
 |.Ot ps=>h.get? a=some { cls:=.none,data:=.fields ps }
 |.met f x=>h.get? a=some (W.methodObj (.ref f) (.ref x))
 |.ext φ=>φ h/\(∃o,h.get? a=some o)/\∀h1 h2:Heap,φ h1->(∀o,h1.get? a=some o->h2.get? a=some o)->φ h2
def wV(H:Hp)(h:Heap):Prop:=∀a o,H a=some o->jQ P w H h a o
end
section
variable{P:Program}{w:World}{H H':Hp}{h h':Heap}{a:Addr}{o:HO}
theorem jQ.lt(x:jQ P w H h a o):a<h.objs.size:=by
 cases o with
 |lst xs=>obtain⟨_,_,_,_,e⟩:=x;exact Heap.lt_size e
 |tup xs=>obtain⟨_,_,_,p⟩:=x;exact p.lt
 |dK kvs=>obtain⟨_,_,_,_,o,_,_,e,_⟩:=x;exact Heap.lt_size e
 |dT kvs=>obtain⟨_,_,_,_,o,_,_,e,_⟩:=x;exact Heap.lt_size e
 |set S n=>obtain⟨o,_,_,_,e,_⟩:=x;exact Heap.lt_size e
 |ins C dx fs=>obtain⟨_,_,_,e,_⟩:=x;exact Heap.lt_size e
 |own y=>obtain⟨_,e⟩:=x;exact Heap.lt_size e
 |xd fs=>obtain⟨_,⟨_,_,_,e,_⟩,_⟩:=x;exact Heap.lt_size e
 |rng lo hi=>obtain⟨_,_,_,e⟩:=x;exact Heap.lt_size e
 |nG ob u=>obtain⟨e,_⟩:=x;exact Heap.lt_size e
 |Ot ps=>exact Heap.lt_size (show h.get? a=some _ from x)
 |met f y=>exact Heap.lt_size (show h.get? a=some _ from x)
 |ext φ=>obtain⟨_,⟨_,e⟩,_⟩:=x;exact Heap.lt_size e
theorem Paired.ah1{α β:Type}{F G:α->β->Prop}:∀{l₁:List α}{l₂:List β},Paired F l₁ l₂->(∀a b,F a b->G a b)->Paired G l₁ l₂
 |_,_,.nil,_=> .nil
 |_,_,.cons r t,f=> .cons (f _ _ r) (Paired.ah1 t f)
theorem jQ.stay(x:jQ P w H h a o)(k:∀b u,(b=a\/H b=some (.own a))->h.get? b=some u->h'.get? b=some u)
 (ho:∀b,H b=some (.own a)->H' b=some (.own a))(ht:∀b xs,H b=some (.tup xs)->H' b=some (.tup xs)):jQ P w H' h' a o:=by
 induction o with
 |lst xs=>obtain⟨z,its,n,r,e⟩:=x;exact⟨z,its,n,r,k _ _ (.inl rfl) e⟩
 |tup xs=>obtain⟨z,its,r,ob,e,c⟩:=x;exact⟨z,its,r,ob,k _ _ (.inl rfl) e,c⟩
 |dK kvs=>obtain⟨z,y,vs,r,ob,es,ep,e,c⟩:=x;exact⟨z,y,vs,r,ob,es,ep,k _ _ (.inl rfl) e,c⟩
 |dT kvs=>
  obtain⟨z,y,xs,r,ob,es,ep,e,c⟩:=x
  exact⟨z,y,xs,Paired.ah1 r fun p q z=>⟨z.1,ht _ _ z.2.1,z.2.2⟩,ob,es,ep,k _ _ (.inl rfl) e,c⟩
 |set S n=>obtain⟨ob,es,ep,t,e,c⟩:=x;exact⟨ob,es,ep,t,k _ _ (.inl rfl) e,c⟩
 |ins C dx fs=>
  obtain⟨d,z,ne,e,mA,⟨od,es,ep,e2,c⟩,r⟩:=x
  exact⟨ho _ d,z,ne,k _ _ (.inl rfl) e,mA,⟨od,es,ep,k _ _ (.inr d) e2,c⟩,r⟩
 |own y=>obtain⟨ob,e⟩:=x;exact⟨ob,k _ _ (.inl rfl) e⟩
 |xd fs=>obtain⟨mA,⟨od,es,ep,e,c⟩,r⟩:=x;exact⟨mA,⟨od,es,ep,k _ _ (.inl rfl) e,c⟩,r⟩
 |rng lo hi=>obtain⟨t,u,v,e⟩:=x;exact⟨t,u,v,k _ _ (.inl rfl) e⟩
 |nG ob u ih=>obtain⟨e,q⟩:=x;exact⟨k _ _ (.inl rfl) e,ih q⟩
 |Ot ps=>
  have e:h.get? a=some { cls:=.none,data:=.fields ps }:=x
  show h'.get? a=some { cls:=.none,data:=.fields ps }
  exact k a _ (.inl rfl) e
 |met f y=>
  have e:h.get? a=some (W.methodObj (.ref f) (.ref y)):=x
  show h'.get? a=some (W.methodObj (.ref f) (.ref y))
  exact k a _ (.inl rfl) e
 |ext φ=>obtain⟨p,⟨o,e⟩,st⟩:=x;exact⟨st _ _ p fun o q=>k _ _ (.inl rfl) q,⟨o,k _ _ (.inl rfl) e⟩,st⟩
theorem wV.lt(x:wV P w H h)(e:H a=some o):a<h.objs.size:=(x a o e).lt
theorem wV.fresh(x:wV P w H h)(e:h.objs.size<=a):H a=none:=by
 cases q:H a with
 |none=>rfl
 |some u=>exact absurd (Nat.lt_of_lt_of_le (x.lt q) e) (Nat.lt_irrefl _)
theorem wV.kept(x:wV P w H h)(k:∀b u,h.get? b=some u->h'.get? b=some u):wV P w H h':=fun a o e=>
 (x a o e).stay (fun b u _ q=>k b u q) (fun _ q=>q) fun _ _ q=>q
theorem wV.laid(x:wV P w H h)(k:∀b u,h.get? b=some u->h'.get? b=some u)(hp:h.objs.size<=a)(new:jQ P w (upd H a o) h' a o):wV P w (upd H a o) h':=fun b u e=>by
 have hn:=x.fresh hp
 by_cases hb:b=a
 ·subst hb;rw[aG]at e;cases e;exact new
 ·rw[aH hb]at e
  exact(x b u e).stay (fun c v _ q=>k c v q) (fun c q=>by rw[aH (aW q hn)];exact q) fun c xs q=>by rw[aH (aW q hn)];exact q
end
def Rd(H:Hp)(a:Addr)(u:HO):Prop:=H a=some u\/∃o,H a=some (.nG o u)
theorem Rd.of{H:Hp}{a:Addr}{u:HO}(h:H a=some u):Rd H a u:=.inl h
theorem Rd.ok{P:Program}{w:World}{H:Hp}{h:Heap}{a:Addr}{u:HO}(r:Rd H a u)(x:wV P w H h):jQ P w H h a u:=by
 rcases r with r|⟨o,r⟩
 ·exact x a u r
 ·obtain⟨_,q⟩:=x a _ r
  exact q
def Mut:Option HO->Prop
 |some (.lst _)=>True
 |some (.dK _)=>True
 |some (.dT _)=>True
 |some (.set _ _)=>True
 |some (.ins _ _ _)=>True
 |some (.ext _)=>True
 |_=>False
section
variable{P:Program}{w:World}{H:Hp}{h h':Heap}{x e:Addr}{o':HO}
theorem wV.write(ok:wV P w H h)(mu:Mut (H x))(he:e=x\/H e=some (.own x))(k:∀b u,b≠e->h.get? b=some u->h'.get? b=some u)(heo:∃u,h'.get? e=some u)
 (new:jQ P w (upd H x o') h' x o'):wV P w (upd H x o') h':=fun b u q=>by
 have ajO:∀c y,H c=some (.own y)->c≠x:=fun c y r z=>by subst z;rw[r]at mu;exact mu
 have amN:∀c xs,H c=some (.tup xs)->c≠x:=fun c xs r z=>by subst z;rw[r]at mu;exact mu
 by_cases hb:b=x
 ·subst hb;rw[aG]at q;cases q;exact new
 ·rw[aH hb]at q
  by_cases hbe:b=e
  ·have q':H b=some (.own x):=by
    rcases he with z|z
    ·exact absurd (hbe.trans z) hb
    ·rw[hbe];exact z
   rw[q]at q';cases q'
   obtain⟨v,hv⟩:=heo
   exact⟨v,by rw[hbe];exact hv⟩
  ·refine(ok b u q).stay (fun c v hc r=>k c v ?_ r) (fun c r=>by rw[aH (ajO c b r)];exact r) fun c xs r=>by rw[aH (amN c xs r)];exact r
   rcases hc with rfl|hc
   ·exact hbe
   ·rintro rfl
    rcases he with z|z
    ·exact ajO c b hc z
    ·rw[hc]at z;cases z;exact hb rfl
end
structure Un(fs ex:List Addr)(H H':Hp)(h h':Heap):Prop where
 keep:∀b o,h.get? b=some o->H b=none->b∉fs->b∉ex->h'.get? b=some o
 slot:∀b o,h.get? b=some o->H b=none->b∈fs->b∉ex->∃sl,h'.get? b=some { o with slots:=sl }
 free:∀b o,h.get? b=some o->H b=none->b∉ex->H' b=none
 there:∀b o,h.get? b=some o->b∉ex->∃o',h'.get? b=some o'
 tups:∀b xs,H b=some (.tup xs)->H' b=some (.tup xs)
 Al:∀b o u,H b=some (.nG o u)->H' b=some (.nG o u)
 Ce:∀b ps,H b=some (.Ot ps)->∃more,H' b=some (.Ot (ps++more))
section
variable{fs fs' ex ex':List Addr}{H H1 H2:Hp}{h h1 h2 h':Heap}{a x e:Addr}{o:HO}
theorem Un.any(u:Un fs ex H H1 h h1){b:Addr}{ob:Obj}(q:h.get? b=some ob)(n:H b=none)(hx:b∉ex):∃sl,h1.get? b=some { ob with slots:=sl }:=by
 by_cases hb:b∈fs
 ·exact u.slot b ob q n hb hx
 ·exact⟨ob.slots,u.keep b ob q n hb hx⟩
theorem Un.trans(a:Un fs ex H H1 h h1)(b:Un fs ex H1 H2 h1 h2):Un fs ex H H2 h h2 where
 keep:=fun c ob q n hc hx=>b.keep c ob (a.keep c ob q n hc hx) (a.free c ob q n hx) hc hx
 slot:=fun c ob q n hc hx=>by
  obtain⟨sl,e1⟩:=a.slot c ob q n hc hx
  obtain⟨sl',e2⟩:=b.slot c _ e1 (a.free c ob q n hx) hc hx
  exact⟨sl',e2⟩
 free:=fun c ob q n hx=>by
  obtain⟨o',e1⟩:=a.there c ob q hx
  exact b.free c o' e1 (a.free c ob q n hx) hx
 there:=fun c ob q hx=>by
  obtain⟨o',e1⟩:=a.there c ob q hx
  exact b.there c o' e1 hx
 tups:=fun c xs q=>b.tups c xs (a.tups c xs q)
 Al:=fun c ob xs q=>b.Al c ob xs (a.Al c ob xs q)
 Ce:=fun c ps q=>by
  obtain⟨m1,e1⟩:=a.Ce c ps q
  obtain⟨m2,e2⟩:=b.Ce c _ e1
  exact⟨m1++m2,by rw[e2,Array.append_assoc]⟩
theorem Un.kept(k:∀b u,h.get? b=some u->h'.get? b=some u):Un fs ex H H h h':=
 ⟨fun b ob q _ _ _=>k b ob q,fun b ob q _ _ _=>⟨ob.slots,k b ob q⟩,fun _ _ _ n _=>n,fun b ob q _=>⟨ob,k b ob q⟩,fun _ _ q=>q,fun _ _ _ q=>q,fun _ ps q=>⟨#[],by rw[q];simp⟩⟩
theorem Un.refl:Un fs ex H H h h:=Un.kept fun _ _ q=>q
theorem Un.laid(k:∀b u,h.get? b=some u->h'.get? b=some u)(hp:h.objs.size<=a)(hn:H a=none):Un fs ex H (upd H a o) h h' where
 keep:=fun b u q _ _ _=>k b u q
 slot:=fun b u q _ _ _=>⟨u.slots,k b u q⟩
 free:=fun b u q n _=>by rw[aH (Nat.ne_of_lt (Nat.lt_of_lt_of_le (Heap.lt_size q) hp))];exact n
 there:=fun b u q _=>⟨u,k b u q⟩
 tups:=fun b xs q=>by rw[aH (aW q hn)];exact q
 Al:=fun b u xs q=>by rw[aH (aW q hn)];exact q
 Ce:=fun b ps q=>⟨#[],by rw[aH (aW q hn),q];simp⟩
theorem Un.write(mu:Mut (H x))(he:e=x\/H e=some (.own x))(k:∀b u,b≠e->h.get? b=some u->h'.get? b=some u)(heo:∃u,h'.get? e=some u):Un fs ex H (upd H x o) h h':=by
 have hx:∀b,H b=none->b≠x:=fun b n z=>by subst z;rw[n]at mu;exact mu
 have hb:∀b,H b=none->b≠e:=fun b n z=>by
  subst z
  rcases he with r|r
  ·exact hx b n r
  ·rw[n]at r;cases r
 have hm:∀b u,H b=some u->¬Mut (some u)->b≠x:=fun b u q nm z=>by subst z;rw[q]at mu;exact nm mu
 refine⟨fun b u q n _ _=>k b u (hb b n) q,fun b u q n _ _=>⟨u.slots,k b u (hb b n) q⟩,fun b u q n _=>by rw[aH (hx b n)];exact n,fun b u q _=>?_,
  fun b xs q=>by rw[aH (hm b _ q fun z=>z)];exact q,fun b u xs q=>by rw[aH (hm b _ q fun z=>z)];exact q,fun b ps q=>⟨#[],by rw[aH (hm b _ q fun z=>z),q];simp⟩⟩
 by_cases hbe:b=e
 ·subst hbe;exact heo
 ·exact⟨u,k b u hbe q⟩
theorem Un.mono(u:Un fs ex H H1 h h1)(hs:∀b∈fs,b∈fs')(hx:∀b∈ex,b∈ex'):Un fs' ex' H H1 h h1:=
 ⟨fun b ob q n hb he=>u.keep b ob q n (fun z=>hb (hs b z)) fun z=>he (hx b z),fun _ _ q n _ he=>u.any q n fun z=>he (hx _ z),fun b ob q n he=>u.free b ob q n fun z=>he (hx b z),fun b ob q he=>u.there b ob q fun z=>he (hx b z),u.tups,u.Al,u.Ce⟩
end
noncomputable def trk(h:Heap)(H:Hp):List Addr:=(List.range h.objs.size).filter fun a=>(H a).isSome
noncomputable def Jt(h:Heap)(H:Hp):Heap:=W.hideAll h (trk h H)
theorem Y7(h:Heap)(H:Hp):(Jt h H).objs.size=h.objs.size:=W.hideAll_size _ _
theorem aa9{h:Heap}{H:Hp}{b:Addr}{o:Obj}(e:h.get? b=some o)(n:H b=none):(Jt h H).get? b=some o:=
 W.hideAll_get _ e fun hm=>by
   have q:(H b).isSome=true:=(List.mem_filter.mp hm).2
   rw[n]at q;simp at q
theorem ad3{h:Heap}{H:Hp}{b:Addr}{o:Obj}(e:(Jt h H).get? b=some o):h.get? b=some o/\H b=none:=by
 have e':h.get? b=some o:=W.of_hideAll (trk h H) e
 refine⟨e',?_⟩
 cases q:H b with
 |none=>rfl
 |some x=>
  have hm:b∈trk h H:=List.mem_filter.mpr ⟨List.mem_range.mpr (Heap.lt_size e'),by simp[q]⟩
  have z:(Jt h H).get? b=none:=W.hideAll_none (trk h H) hm
  rw[z]at e;cases e
noncomputable def ad4(g h:Heap)(L:Addr):List (Addr×Obj):=(List.range h.objs.size).filterMap fun a=>if a=L\/(g.get? a).isSome=true then none else(h.get? a).map fun o=>(a,o)
noncomputable def rest(g h:Heap)(L d:Addr):List (Addr×Obj):=(ad4 g h L).filter fun p=>decide (p.1≠d)
end L2
namespace L2
open PySem PySem.Spec PyProof.Rows
structure Mod(K:W.Frag)(mg:Str->Option Value)(base:Heap):Prop where
 kin:K.In base
 glob:base.Ns mainGlobals mg
 blt:∃mb,base.Ns builtinsNs mb/\∀x:Str,x≠"__name__"->mb x=bootBuiltins x
 nolimit:base.NoLimit
structure Cx where
 prog:Program
 w:World
 K:W.Frag
 mg:Str->Option Value
 base:Heap
 A:Around
 N:List Str
 s_0:Shared
 H_0:Hp
 env:Env
 outer:List Env
 stack:List Env
 ex:List Addr
 fn:Str->Bool
 calm:Bool
 pn:List (Addr×Obj)
 xe:Value->Shared->Prop
def frs(l:List Env):List Addr:=l.filterMap (·.frame)
abbrev Cx.fs(X:Cx):List Addr:=frs X.outer
def Vis(sc:Scope)(x:Str):Prop:=sc.names.lookup x=some .local\/sc.names.lookup x=some .cell\/sc.names.lookup x=some .free
def Loc(sc:Scope)(x:Str):Prop:=sc.names.lookup x=some .local\/sc.names.lookup x=some .cell
def Look(env:Env)(h:Heap)(m:Str->Option Value)(x:Str)(u:Value):Prop:=
 (env.kindOf x=some .local/\m x=some u)\/((env.kindOf x=some .cell\/env.kindOf x=some .free)/\∃c,env.cells.lookup x=some c/\h.IsCell c (some u))
structure Cx.Ok(X:Cx):Prop where
 mod:Mod X.K X.mg X.base
 kind:X.env.scope.kind=.function
 glob:X.env.globals=mainGlobals
 blt:X.env.builtins=builtinsNs
 above:X.s_0.heap.objs.size<=X.env.locals
 inj:∀x y c,X.env.cells.lookup x=some c->X.env.cells.lookup y=some c->x=y
 has:∀x,(X.env.kindOf x=some .cell\/X.env.kindOf x=some .free)->∃c,X.env.cells.lookup x=some c
 cab:∀x c,X.fn x=true->X.env.cells.lookup x=some c->X.s_0.heap.objs.size<=c
 hd:X.calm=true->X.A.handled=none
 frames:X.A.frames=some X.stack
 stk:X.stack=X.outer\/(X.stack=X.env::X.outer/\X.env.frame=some X.env.locals)
 exf:∀b∈X.ex,b≠X.env.locals/\∀x c,X.env.cells.lookup x=some c->c≠b
 bs:∀b o,X.base.get? b=some o->X.s_0.heap.get? b=some o/\X.H_0 b=none
 Y8:X.base.objs.size<=X.s_0.heap.objs.size
 abb:∀b o,X.base.get? b=some o->b∉X.ex
 abd:∀b∈X.ex,b∉X.fs
 Cg:X.s_0.heap.FunFrames X.base X.outer
 frf:∀b∈X.fs,X.H_0 b=none
structure Inv(X:Cx)(pins:List (Addr×Obj))(σ:List (Option V))(H:Hp)(s:Shared):Prop where
 ok:X.Ok
 os:s.os=X.s_0.os
 bare:AllBare s.gens
 base:Un X.fs X.ex X.H_0 H X.s_0.heap s.heap
 loc:∃m,s.heap.Ns X.env.locals m/\∀(i:Nat)(x:Str)(v:V),X.N[i]?=some x->σ[i]?=some (some v)->Vis X.env.scope x->∃u,RelV v u/\Look X.env s.heap m x u
 cell:∀x c,X.env.cells.lookup x=some c->∃v,s.heap.IsCell c v
 free:H X.env.locals=none
 tL:∀x c,X.env.cells.lookup x=some c->H c=none
 pin:∀p∈X.pn++pins,s.heap.get? p.1=some p.2/\H p.1=none/\p.1≠X.env.locals/\p.1∉X.fs/\∀v,p.2.data≠.cell v
 hok:wV X.prog X.w H s.heap
 len:σ.length=X.N.length
section
variable{X:Cx}{pins:List (Addr×Obj)}{σ:List (Option V)}{H H':Hp}{s:Shared}{h':Heap}
theorem Cx.Ok.amO(ok:X.Ok){b:Addr}{o:Obj}(e:X.base.get? b=some o):b∉X.fs:=fun hb=>by
 have:=(ok.Cg.mem hb).1
 rw[e]at this;cases this
theorem Inv.bs(I:Inv X pins σ H s):∀b o,X.base.get? b=some o->s.heap.get? b=some o/\H b=none:=fun b o e=>
 ⟨I.base.keep b o (I.ok.bs b o e).1 (I.ok.bs b o e).2 (I.ok.amO e) (I.ok.abb b o e),I.base.free b o (I.ok.bs b o e).1 (I.ok.bs b o e).2 (I.ok.abb b o e)⟩
theorem Inv.bk(I:Inv X pins σ H s):∀b o,X.base.get? b=some o->s.heap.get? b=some o:=fun b o e=>(I.bs b o e).1
theorem Inv.mod(I:Inv X pins σ H s):Mod X.K X.mg X.base:=I.ok.mod
theorem Inv.RN(I:Inv X pins σ H s):X.K.In s.heap:=I.ok.mod.kin.keeps I.bk
theorem Inv.nolimit(I:Inv X pins σ H s):s.heap.NoLimit:=I.ok.mod.nolimit.keeps I.bk
theorem Inv.fr(I:Inv X pins σ H s):∃m,Fr X.base X.env.locals s.heap m:=
 let⟨m,hn,_⟩:=I.loc
 ⟨m,hn,I.bk,Nat.le_trans I.ok.Y8 I.ok.above⟩
theorem Inv.lt(I:Inv X pins σ H s):X.env.locals<s.heap.objs.size:=let⟨_,hn,_⟩:=I.loc;hn.lt
theorem Inv.sz(I:Inv X pins σ H s):X.s_0.heap.objs.size<=s.heap.objs.size:=Nat.le_trans I.ok.above (Nat.le_of_lt I.lt)
theorem Inv.ajP(I:Inv X pins σ H s){a:Addr}(h:s.heap.objs.size<=a):a∉X.fs:=fun hb=>by
 obtain⟨_,o,ho,_⟩:=I.ok.Cg.mem hb
 exact absurd (Nat.lt_of_lt_of_le (Heap.lt_size ho) (Nat.le_trans I.sz h)) (Nat.lt_irrefl _)
theorem Inv.cne(I:Inv X pins σ H s):∀x c,X.env.cells.lookup x=some c->c≠X.env.locals:=fun x c e z=>by
 obtain⟨v,o,ho,hd⟩:=I.cell x c e
 obtain⟨m,⟨o',es,ep,ho',hd',_⟩,_⟩:=I.loc
 rw[z,ho']at ho;cases ho;rw[hd']at hd;cases hd
theorem Inv.Cg(I:Inv X pins σ H s):s.heap.FunFrames X.base X.outer:=by
 have all:∀(l:List Env),(∀b∈frs l,b∈X.fs)->X.s_0.heap.FunFrames X.base l->s.heap.FunFrames X.base l:=by
  intro l
  induction l with
  |nil=>intro _ _;trivial
  |cons env r ih=>
   intro hs hl
   obtain⟨hk,⟨L,o,hf,hn,ho,hd⟩,hr⟩:=hl
   have hL:L∈X.fs:=hs L (by unfold frs;rw[List.filterMap_cons,hf];exact List.mem_cons_self)
   obtain⟨sl,e⟩:=I.base.slot L o ho (I.ok.frf L hL) hL fun z=>I.ok.abd L z hL
   exact⟨hk,⟨L,_,hf,hn,e,hd⟩,ih (fun b hb=>hs b (by unfold frs;rw[List.filterMap_cons,hf];exact List.mem_cons_of_mem _ hb)) hr⟩
 exact all X.outer (fun _ hb=>hb) I.ok.Cg
theorem Inv.stack(I:Inv X pins σ H s):s.heap.FunFrames X.base X.stack:=by
 rcases I.ok.stk with e|⟨e,hf⟩
 ·rw[e];exact I.Cg
 ·rw[e]
  obtain⟨m,hn,_⟩:=I.loc
  refine .cons (by rw[I.ok.kind];decide) hf hn ?_ I.Cg
  exact Heap.get?_none_of_le (Nat.le_trans I.ok.Y8 I.ok.above)
theorem Inv.Vq(I:Inv X pins σ H s):∀b∈frs X.stack,b∈X.env.locals::X.fs:=fun b hb=>by
 rcases I.ok.stk with e|⟨e,hf⟩
 ·rw[e]at hb;exact List.mem_cons_of_mem _ hb
 ·rw[e]at hb
  unfold frs at hb
  rw[List.filterMap_cons,hf]at hb
  exact hb
theorem Inv.QF(I:Inv X pins σ H s):∀b∈frs X.stack,H b=none:=fun b hb=>by
 rcases List.mem_cons.mp (I.Vq b hb)with e|hb
 ·rw[e];exact I.free
 ·obtain⟨_,o,ho,_⟩:=I.ok.Cg.mem hb
  exact I.base.free b o ho (I.ok.frf b hb) fun z=>I.ok.abd b z hb
theorem Inv.step{g':Array GenState}{t':Nat}{d':Drawn}{ch:List Addr}(I:Inv X pins σ H s)
 (hch:∀b∈ch,(b∈X.ex\/X.s_0.heap.objs.size<=b)/\b≠X.env.locals/\(∀x c,X.env.cells.lookup x=some c->c≠b)/\∀p∈X.pn++pins,p.1≠b)
 (keep:∀b o,b≠X.env.locals->b∉X.fs->b∉ch->s.heap.get? b=some o->H b=none->h'.get? b=some o)
 (slot:∀b o,b≠X.env.locals->b∈X.fs->b∉ch->s.heap.get? b=some o->H b=none->∃sl,h'.get? b=some { o with slots:=sl })(free:∀b o,b∉ch->s.heap.get? b=some o->H b=none->H' b=none)
 (there:∀b o,b∉ch->s.heap.get? b=some o->∃o',h'.get? b=some o')
 (tups:∀b xs,H b=some (.tup xs)->H' b=some (.tup xs))(Al:∀b o u,H b=some (.nG o u)->H' b=some (.nG o u))(Ce:∀b ps,H b=some (.Ot ps)->∃more,H' b=some (.Ot (ps++more)))
 (ns:∀m,s.heap.Ns X.env.locals m->h'.Ns X.env.locals m)(hok:wV X.prog X.w H' h')(hg:AllBare g'):
 Inv X pins σ H' { s with heap:=h',gens:=g',drawn:=d',toks:=t' }:=by
 have neL:∀b o,X.s_0.heap.get? b=some o->b≠X.env.locals:=fun b o e=>Nat.ne_of_lt (Nat.lt_of_lt_of_le (Heap.lt_size e) I.ok.above)
 have neC:∀b o,X.s_0.heap.get? b=some o->b∉X.ex->b∉ch:=fun b o e hx hb=>by
  rcases(hch b hb).1 with z|z
  ·exact hx z
  ·exact absurd (Nat.lt_of_lt_of_le (Heap.lt_size e) z) (Nat.lt_irrefl _)
 have cellK:∀x c,X.env.cells.lookup x=some c->∀v,s.heap.IsCell c v->h'.IsCell c v:=fun x c e v ⟨o,ho,hd⟩=>by
  have nch:c∉ch:=fun z=>(hch c z).2.2.1 x c e rfl
  by_cases hc:c∈X.fs
  ·obtain⟨sl,q⟩:=slot c o (I.cne x c e) hc nch ho (I.tL x c e)
   exact⟨_,q,hd⟩
  ·exact⟨o,keep c o (I.cne x c e) hc nch ho (I.tL x c e),hd⟩
 refine⟨I.ok,I.os,hg,⟨fun b o e n hb hx=>?_,fun b o e n hb hx=>?_,fun b o e n hx=>?_,fun b o e hx=>?_,fun b xs e=>tups b xs (I.base.tups b xs e),fun b o xs e=>Al b o xs (I.base.Al b o xs e),fun b ps e=>?_⟩,?_,fun x c e=>?_,?_,fun x c e=>?_,fun p hp=>?_,hok,I.len⟩
 ·exact keep b o (neL b o e) hb (neC b o e hx) (I.base.keep b o e n hb hx) (I.base.free b o e n hx)
 ·obtain⟨sl,e1⟩:=I.base.slot b o e n hb hx
  obtain⟨sl',e2⟩:=slot b _ (neL b o e) hb (neC b o e hx) e1 (I.base.free b o e n hx)
  exact⟨sl',e2⟩
 ·obtain⟨o',e1⟩:=I.base.there b o e hx
  exact free b o' (neC b o e hx) e1 (I.base.free b o e n hx)
 ·obtain⟨o',e1⟩:=I.base.there b o e hx
  exact there b o' (neC b o e hx) e1
 ·obtain⟨m1,e1⟩:=I.base.Ce b ps e
  obtain⟨m2,e2⟩:=Ce b _ e1
  exact⟨m1++m2,by rw[e2,Array.append_assoc]⟩
 ·obtain⟨m,hn,hl⟩:=I.loc
  refine⟨m,ns m hn,fun i x v e1 e2 e3=>?_⟩
  obtain⟨u,r,l⟩:=hl i x v e1 e2 e3
  refine⟨u,r,?_⟩
  rcases l with l|⟨k,c,e,z⟩
  ·exact .inl l
  ·exact .inr ⟨k,c,e,cellK x c e _ z⟩
 ·obtain⟨v,z⟩:=I.cell x c e
  exact⟨v,cellK x c e v z⟩
 ·obtain⟨m,⟨o,_,_,ho,_⟩,_⟩:=I.loc
  exact free _ o (fun z=>(hch _ z).2.1 rfl) ho I.free
 ·obtain⟨v,o,ho,hd⟩:=I.cell x c e
  exact free c o (fun z=>(hch c z).2.2.1 x c e rfl) ho (I.tL x c e)
 ·obtain⟨e,n,ne,nf,d⟩:=I.pin p hp
  have nch:p.1∉ch:=fun z=>(hch p.1 z).2.2.2 p hp rfl
  exact⟨keep p.1 p.2 ne nf nch e n,free p.1 p.2 nch e n,ne,nf,d⟩
theorem Inv.un{t':Nat}(I:Inv X pins σ H s)(u:Un X.fs [] H H' s.heap h')(hok:wV X.prog X.w H' h'):Inv X pins σ H' { s with heap:=h',toks:=t' }:=by
 obtain⟨m,⟨o,es,ep,ho,r⟩,_⟩:=id I.loc
 obtain⟨sl,hL⟩:=u.any ho I.free (by simp)
 exact I.step (g':=s.gens) (d':=s.drawn) (ch:=[]) (fun _ z=>nomatch z) (fun b o _ hb _ e n=>u.keep b o e n hb (by simp)) (fun b o _ hb _ e n=>u.slot b o e n hb (by simp)) (fun b o _ e n=>u.free b o e n (by simp)) (fun b o _ e=>u.there b o e (by simp)) u.tups u.Al u.Ce (fun m' hm=>by
  obtain⟨o',es',ep',ho',r'⟩:=hm
  rw[ho]at ho';cases ho'
  exact⟨_,es',ep',hL,r'⟩) hok I.bare
theorem Inv.call{g':Array GenState}{t':Nat}{d':Drawn}{ch:List Addr}(I:Inv X pins σ H s)(u:Un (frs X.stack) ch H H' s.heap h')(hok:wV X.prog X.w H' h')(hg:AllBare g')
 (hch:∀b∈ch,(b∈X.ex\/X.s_0.heap.objs.size<=b)/\b≠X.env.locals/\(∀x c,X.env.cells.lookup x=some c->c≠b)/\∀p∈X.pn++pins,p.1≠b):
 Inv X pins σ H' { s with heap:=h',gens:=g',drawn:=d',toks:=t' }:=by
 obtain⟨m,⟨o,es,ep,ho,r⟩,_⟩:=id I.loc
 obtain⟨sl,hL⟩:=u.any ho I.free fun z=>(hch _ z).2.1 rfl
 exact I.step (ch:=ch) hch (fun b o hL hb hc e n=>u.keep b o e n (fun z=>(List.mem_cons.mp (I.Vq b z)).elim hL hb) hc) (fun b o _ _ hc e n=>u.any e n hc) (fun b o hc e n=>u.free b o e n hc) (fun b o hc e=>u.there b o e hc) u.tups u.Al u.Ce (fun m' hm=>by
  obtain⟨o',es',ep',ho',r'⟩:=hm
  rw[ho]at ho';cases ho'
  exact⟨_,es',ep',hL,r'⟩) hok hg
theorem Inv.turned{t':Nat}{it:Addr}(I:Inv X pins σ H s)(k:∀b o,b≠it->s.heap.get? b=some o->h'.get? b=some o)(hn:H it=none)(hL:it≠X.env.locals)
 (h1:it∈X.ex\/X.s_0.heap.objs.size<=it)(h2:∀x c,X.env.cells.lookup x=some c->c≠it)(h3:∀p∈X.pn++pins,p.1≠it):Inv X pins σ H { s with heap:=h',toks:=t' }:=by
 have nit:∀b u,H b=some u->b≠it:=fun b u e z=>by rw[z,hn]at e;cases e
 refine I.step (g':=s.gens) (d':=s.drawn) (ch:=[it]) (fun b hb=>?_) (fun b o _ _ hc e _=>k b o (fun z=>hc (by simp[z])) e) (fun b o _ _ hc e _=>⟨o.slots,k b o (fun z=>hc (by simp[z])) e⟩) (fun _ _ _ _ n=>n)
  (fun b o hc e=>⟨o,k b o (fun z=>hc (by simp[z])) e⟩) (fun _ _ e=>e) (fun _ _ _ e=>e) (fun b ps e=>⟨#[],by rw[e];simp⟩) (fun m hm=>?_) (fun b u e=>?_) I.bare
 ·have e:b=it:=by simpa using hb
  subst e
  exact⟨h1,hL,h2,h3⟩
 ·obtain⟨o,es,ep,ho,r⟩:=hm
  exact⟨o,es,ep,k _ o (Ne.symm hL) ho,r⟩
 ·refine(I.hok b u e).stay (fun c v hc q=>k c v ?_ q) (fun _ q=>q) fun _ _ q=>q
  rcases hc with z|z
  ·rw[z];exact nit b u e
  ·exact nit c _ z
theorem Inv.tok(I:Inv X pins σ H s)(t:Nat):Inv X pins σ H { s with toks:=t }:=I.un (h':=s.heap) (t':=t) Un.refl I.hok
theorem Inv.kept{t':Nat}(I:Inv X pins σ H s)(k:∀b u,s.heap.get? b=some u->h'.get? b=some u):Inv X pins σ H { s with heap:=h',toks:=t' }:=I.un (Un.kept k) (I.hok.kept k)
theorem Inv.laid{a:Addr}{o:HO}{t':Nat}(I:Inv X pins σ H s)(k:∀b u,s.heap.get? b=some u->h'.get? b=some u)(hp:s.heap.objs.size<=a)(new:jQ X.prog X.w (upd H a o) h' a o):
 Inv X pins σ (upd H a o) { s with heap:=h',toks:=t' }:=I.un (Un.laid k hp (I.hok.fresh hp)) (I.hok.laid k hp new)
theorem Inv.write{x e:Addr}{o:HO}{t':Nat}(I:Inv X pins σ H s)(mu:Mut (H x))(he:e=x\/H e=some (.own x))(k:∀b u,b≠e->s.heap.get? b=some u->h'.get? b=some u)(heo:∃u,h'.get? e=some u)
 (new:jQ X.prog X.w (upd H x o) h' x o):Inv X pins σ (upd H x o) { s with heap:=h',toks:=t' }:=I.un (Un.write mu he k heo) (I.hok.write mu he k heo new)
theorem Inv.weak{σ':List (Option V)}(I:Inv X pins σ H s)(hl:σ'.length=σ.length)(w:∀(i:Nat) v,σ'[i]?=some (some v)->σ[i]?=some (some v)):Inv X pins σ' H s:=
 ⟨I.ok,I.os,I.bare,I.base,let⟨m,hn,hl'⟩:=I.loc;⟨m,hn,fun i x v e1 e2 e3=>hl' i x v e1 (w i v e2) e3⟩,I.cell,I.free,I.tL,I.pin,I.hok,hl.trans I.len⟩
theorem Inv.Ig{ag6:List (Addr×Obj)}(I:Inv X pins σ H s)(h:∀p∈ag6,s.heap.get? p.1=some p.2/\H p.1=none/\p.1≠X.env.locals/\p.1∉X.fs/\∀v,p.2.data≠.cell v):Inv X ag6 σ H s:=
 ⟨I.ok,I.os,I.bare,I.base,I.loc,I.cell,I.free,I.tL,fun p hp=>(List.mem_append.mp hp).elim (fun z=>I.pin p (List.mem_append_left _ z)) (h p),I.hok,I.len⟩
theorem Ju{N:List Str}(hN:N.Nodup){i j:Nat}{x:Str}(a:N[i]?=some x)(b:N[j]?=some x):i=j:=by
 obtain⟨h1,e1⟩:=List.getElem?_eq_some_iff.mp a
 obtain⟨h2,e2⟩:=List.getElem?_eq_some_iff.mp b
 exact(List.getElem_inj hN).mp (e1.trans e2.symm)
theorem Ou{M:Model}{A:Around}{E:Value->Shared->Prop}{i:Nat}{x:Str}{v:V}{u:Value}{Q:Unit->Shared->Prop}(I:Inv X pins σ H s)(hN:X.N.Nodup)(hi:X.N[i]?=some x)(hx:Loc X.env.scope x)(r:RelV v u)
 (h:∀s',Inv X pins (σ.set i (some v)) H s'->(∃a,Heap.SameBut a s.heap s'.heap/\(a=X.env.locals\/X.env.cells.lookup x=some a))->Q () s')(hf:X.fn x=true\/X.env.scope.names.lookup x=some .local:=by first|exact .inl rfl|exact .inr rfl|assumption):wpAny M A (storeName X.env x u) Q E s:=by
 obtain⟨m,hn,hl⟩:=id I.loc
 have hcls:(X.env.scope.kind==.class||(X.env.scope.kind==.module && X.env.locals !=X.env.globals))=false:=by rw[I.ok.kind];rfl
 have an8:i<σ.length:=by rw[I.len];exact(List.getElem?_eq_some_iff.mp hi).1
 have cne:=I.cne
 have tracked:∀{a:Addr}{h':Heap},(∃o,s.heap.get? a=some o/\H a=none)->Heap.SameBut a s.heap h'->wV X.prog X.w H h':=fun{a h'} ha hs b ob e=>by
  obtain⟨_,_,hfree⟩:=ha
  refine(I.hok b ob e).stay (fun c w' hc q=>(hs.2 c ?_).trans q) (fun _ q=>q) fun _ _ q=>q
  rintro rfl
  rcases hc with rfl|hc
  ·rw[hfree]at e;cases e
  ·rw[hfree]at hc;cases hc
 rcases hx with hk|hk
 ·refine wpAny_storeName_local hk hn (fun h' hn' hs=>?_) hcls
  obtain⟨oL,_,_,hoL,_⟩:=id hn
  refine h _ ⟨I.ok,I.os,I.bare,⟨fun b o e n hb hx=>?_,fun b o e n hb hx=>?_,I.base.free,fun b o e hx=>?_,I.base.tups,I.base.Al,I.base.Ce⟩,⟨_,hn',fun j y v' e1 e2 e3=>?_⟩,fun y c e=>?_,I.free,I.tL,fun p hp=>?_,tracked ⟨oL,hoL,I.free⟩ hs,by simpa using I.len⟩ ⟨_,hs,.inl rfl⟩
  ·exact(hs.2 b (Nat.ne_of_lt (Nat.lt_of_lt_of_le (Heap.lt_size e) I.ok.above))).trans (I.base.keep b o e n hb hx)
  ·obtain⟨sl,e1⟩:=I.base.slot b o e n hb hx
   exact⟨sl,(hs.2 b (Nat.ne_of_lt (Nat.lt_of_lt_of_le (Heap.lt_size e) I.ok.above))).trans e1⟩
  ·obtain⟨o',e1⟩:=I.base.there b o e hx
   exact⟨o',(hs.2 b (Nat.ne_of_lt (Nat.lt_of_lt_of_le (Heap.lt_size e) I.ok.above))).trans e1⟩
  ·by_cases hj:j=i
   ·subst hj
    rw[hi]at e1;cases e1
    rw[List.getElem?_set_self an8]at e2
    cases e2
    exact⟨u,r,.inl ⟨hk,by simp⟩⟩
   ·rw[List.getElem?_set_ne (Ne.symm hj)]at e2
    obtain⟨u',r',q⟩:=hl j y v' e1 e2 e3
    refine⟨u',r',?_⟩
    rcases q with⟨k,e⟩|⟨k,c,e,z⟩
    ·refine .inl ⟨k,?_⟩
     have:y≠x:=fun e=>hj (Ju hN e1 (e▸hi))
     simp[this,e]
    ·exact .inr ⟨k,c,e,z.sameBut hs (cne y c e)⟩
  ·obtain⟨w',z⟩:=I.cell y c e
   exact⟨w',z.sameBut hs (cne y c e)⟩
  ·obtain⟨e,n,ne,nf,d⟩:=I.pin p hp
   exact⟨(hs.2 p.1 ne).trans e,n,ne,nf,d⟩
 ·have hfn:X.fn x=true:=by
   rcases hf with z|z
   ·exact z
   ·rw[z]at hk;cases hk
  obtain⟨c,hc⟩:=I.ok.has x (.inl hk)
  obtain⟨w',z⟩:=I.cell x c hc
  refine wpAny_storeName_cell I.ok.kind hk hc z (fun h' hc' hs=>?_)
  obtain⟨oc,hoc,amP⟩:=id z
  refine h { s with heap:=h' } ⟨I.ok,I.os,I.bare,⟨fun b o e n hb hx=>?_,fun b o e n hb hx=>?_,I.base.free,fun b o e hx=>?_,I.base.tups,I.base.Al,I.base.Ce⟩,⟨m,hn.sameBut hs (Ne.symm (cne x c hc)),fun j y v' e1 e2 e3=>?_⟩,fun y c' e=>?_,I.free,I.tL,fun p hp=>?_,tracked ⟨oc,hoc,I.tL x c hc⟩ hs,by simpa using I.len⟩ ⟨c,hs,.inr hc⟩
  ·exact(hs.2 b (Nat.ne_of_lt (Nat.lt_of_lt_of_le (Heap.lt_size e) (I.ok.cab x c hfn hc)))).trans (I.base.keep b o e n hb hx)
  ·obtain⟨sl,e1⟩:=I.base.slot b o e n hb hx
   exact⟨sl,(hs.2 b (Nat.ne_of_lt (Nat.lt_of_lt_of_le (Heap.lt_size e) (I.ok.cab x c hfn hc)))).trans e1⟩
  ·obtain⟨o',e1⟩:=I.base.there b o e hx
   exact⟨o',(hs.2 b (Nat.ne_of_lt (Nat.lt_of_lt_of_le (Heap.lt_size e) (I.ok.cab x c hfn hc)))).trans e1⟩
  ·by_cases hj:j=i
   ·subst hj
    rw[hi]at e1;cases e1
    rw[List.getElem?_set_self an8]at e2
    cases e2
    exact⟨u,r,.inr ⟨.inl hk,c,hc,hc'⟩⟩
   ·rw[List.getElem?_set_ne (Ne.symm hj)]at e2
    obtain⟨u',r',q⟩:=hl j y v' e1 e2 e3
    refine⟨u',r',?_⟩
    rcases q with q|⟨k,c',e,z'⟩
    ·exact .inl q
    ·refine .inr ⟨k,c',e,z'.sameBut hs ?_⟩
     rintro rfl
     exact hj (Ju hN e1 (I.ok.inj _ _ _ e hc▸hi))
  ·by_cases hcc:c'=c
   ·subst hcc;exact⟨_,hc'⟩
   ·obtain⟨w2,z2⟩:=I.cell y c' e
    exact⟨w2,z2.sameBut hs hcc⟩
  ·obtain⟨e,n,ne,nf,d⟩:=I.pin p hp
   refine⟨(hs.2 p.1 ?_).trans e,n,ne,nf,d⟩
   intro q
   rw[q,hoc]at e
   have q':oc=p.2:=Option.some.inj e
   exact d w' (by rw[<-q'];exact amP)
theorem Sx{M:Model}{A:Around}{E:Value->Shared->Prop}{i:Nat}{x:Str}{v:V}{u:Value}{Q:Unit->Shared->Prop}(I:Inv X pins σ H s)(hN:X.N.Nodup)(hi:X.N[i]?=some x)(hx:Loc X.env.scope x)(r:RelV v u)
 (h:∀s',Inv X pins (σ.set i (some v)) H s'->Q () s')(hf:X.fn x=true\/X.env.scope.names.lookup x=some .local:=by first|exact .inl rfl|exact .inr rfl|assumption):wpAny M A (storeName X.env x u) Q E s:=
 Ou I hN hi hx r (fun s' I' _=>h s' I') hf
theorem Inv.call'{s':Shared}{ch:List Addr}(I:Inv X pins σ H s)(ho:s'.os=s.os)(u:Un (frs X.stack) ch H H' s.heap s'.heap)(hok:wV X.prog X.w H' s'.heap)(hg:AllBare s'.gens)
 (hch:∀b∈ch,(b∈X.ex\/X.s_0.heap.objs.size<=b)/\b≠X.env.locals/\(∀x c,X.env.cells.lookup x=some c->c≠b)/\∀p∈X.pn++pins,p.1≠b):Inv X pins σ H' s':=by
 obtain⟨h',g',d',t',o'⟩:=s'
 have e:o'=s.os:=ho
 subst e
 exact I.call (g':=g') (t':=t') (d':=d') u hok hg hch
end
abbrev XK:=Value->Option Addr->Hp->Prop
abbrev St:=List (Option V)
abbrev VK:=V->Hp->Prop
abbrev TE:=St->Hp->VK->Prop
abbrev TT:=St->Hp->(Bool->Hp->Prop)->Prop
abbrev TA:=St->Hp->(List V->Hp->Prop)->Prop
structure Ends where
 nx:St->Hp->Prop
 rt:VK
 bk:St->Hp->Prop:=fun _ _=>False
 ct:St->Hp->Prop:=fun _ _=>False
abbrev TS:=Ends->St->Hp->Prop
def EP(X:Cx)(pins:List (Addr×Obj))(σ:St)(Q:VK)(u:Value)(s':Shared):Prop:=∃v H',Inv X pins σ H' s'/\RelV v u/\Q v H'
def TP(X:Cx)(pins:List (Addr×Obj))(σ:St)(Q:Bool->Hp->Prop)(b:Bool)(s':Shared):Prop:=∃H',Inv X pins σ H' s'/\Q b H'
def AP(X:Cx)(pins:List (Addr×Obj))(σ:St)(Q:List V->Hp->Prop)(us:List Value)(s':Shared):Prop:=∃vs H',Inv X pins σ H' s'/\Vals vs us/\Q vs H'
def SP(X:Cx)(pins:List (Addr×Obj))(D:Ends)(f:Flow)(s':Shared):Prop:=
 match f with
 |.next=>∃σ' H',Inv X pins σ' H' s'/\D.nx σ' H'
 |.brk=>∃σ' H',Inv X pins σ' H' s'/\D.bk σ' H'
 |.cont=>∃σ' H',Inv X pins σ' H' s'/\D.ct σ' H'
 |.ret u=>∃v σ' H',Inv X pins σ' H' s'/\RelV v u/\D.rt v H'
def PE(X:Cx)(e:Expr)(t:TE):Prop:=
 ∀(pins:List (Addr×Obj))(s:Shared)(σ:St)(H:Hp)(Q:VK),Inv X pins σ H s->t σ H Q->wpAny (model X.prog X.w) X.A (eval e X.env) (EP X pins σ Q) X.xe s
def PT(X:Cx)(e:Expr)(t:TT):Prop:=
 ∀(pins:List (Addr×Obj))(s:Shared)(σ:St)(H:Hp)(Q:Bool->Hp->Prop),Inv X pins σ H s->t σ H Q->wpAny (model X.prog X.w) X.A (isTrue e X.env (eval e X.env)) (TP X pins σ Q) X.xe s
def PW(X:Cx)(e:Expr)(t:TT):Prop:=
 ∀(whole:Sem Value)(pins:List (Addr×Obj))(s:Shared)(σ:St)(H:Hp)(Q:Bool->Hp->Prop),Inv X pins σ H s->t σ H Q->wpAny (model X.prog X.w) X.A (isTrue e X.env whole) (TP X pins σ Q) X.xe s
theorem PW.pt{X:Cx}{e:Expr}{t:TT}(h:PW X e t):PT X e t:=h _
def PA(X:Cx)(es:List Expr)(t:TA):Prop:=
 ∀(pos:Pos)(pins:List (Addr×Obj))(s:Shared)(σ:St)(H:Hp)(Q:List V->Hp->Prop),Inv X pins σ H s->t σ H Q->wpAny (model X.prog X.w) X.A (spliced (backTo pos (starEach es X.env))) (AP X pins σ Q) X.xe s
def PS(X:Cx)(st:Stmt)(t:TS):Prop:=
 ∀(pins:List (Addr×Obj))(s:Shared)(σ:St)(H:Hp)(D:Ends),Inv X pins σ H s->t D σ H->wpAny (model X.prog X.w) X.A (exec st X.env) (SP X pins D) X.xe s
def Vr(X:Cx)(st:List Stmt)(t:TS):Prop:=
 ∀(pins:List (Addr×Obj))(s:Shared)(σ:St)(H:Hp)(D:Ends),Inv X pins σ H s->t D σ H->wpAny (model X.prog X.w) X.A (execs st X.env) (SP X pins D) X.xe s
theorem jK{α:Type}{t:Sem α}{Q Q':α->Shared->Prop}{M:Model}{A:Around}{E:Value->Shared->Prop}{s:Shared}(h:wpAny M A t Q E s)(hQ:∀a s,Q a s->Q' a s):wpAny M A t Q' E s:=wpAny_mono h hQ fun _ _ x=>x
end L2
namespace L2
open PySem PySem.Spec PyProof.Rows
section
variable{X:Cx}
def ah4(i:Nat):TE:=fun σ H Q=>∃v,σ[i]?=some (some v)/\Q v H
def tC(v:V):TE:=fun _ H Q=>Q v H
theorem abe{i:Nat}{x:Str}{pos:Pos}(hN:X.N[i]?=some x)(hv:Vis X.env.scope x)(hd:(x==("__debug__":Str))=false:=by decide)(hcd:(x==("__classdict__":Str))=false:=by decide):PE X (.Name x pos) (ah4 i):=by
 intro pins s σ H Q I h
 obtain⟨v,e,h⟩:=h
 obtain⟨m,hn,hl⟩:=I.loc
 obtain⟨u,r,l⟩:=hl i x v hN e hv
 have fin:EP X pins σ Q u s:=⟨v,H,I,r,h⟩
 rcases l with⟨hk,hm⟩|⟨hk,c,hc,hcell⟩
 ·exact wpAny_Name (wpAny_loadName_local I.ok.kind hk hn hm fin) hd
 ·rcases hk with hk|hk
  ·exact wpAny_Name (wpAny_loadName_cell I.ok.kind hk hc hcell fin) hd
  ·exact wpAny_Name (wpAny_loadName_free I.ok.kind hk hc hcell fin hcd) hd
theorem aC{i j pos}:PE X (.Constant (.int i) j pos) (tC (.int i)):=fun _ _ _ H _ I h=>wpAny_Constant_int ⟨.int i,H,I.tok _,⟨_,rfl⟩,h⟩
theorem rT{j pos}:PE X (.Constant .none j pos) (tC .non):=fun _ _ _ H _ I h=>Constant_none ⟨.non,H,I,rfl,h⟩
def Gl(X:Cx)(x:Str):Prop:=X.env.kindOf x=some .globalImplicit
theorem Ih{E:Value->Shared->Prop}{pins:List (Addr×Obj)}{s:Shared}{σ:St}{H:Hp}{x:Str}{u:Value}{pos:Pos}{Q:Value->Shared->Prop}(I:Inv X pins σ H s)(hg:Gl X x)(hm:X.mg x=some u)(h:Q u s)
 (hd:(x==("__debug__":Str))=false:=by decide):wpAny (model X.prog X.w) X.A (eval (.Name x pos) X.env) Q E s:=
 Calls.Name_function_global I.ok.kind hg (Calls.loadGlobal_global (by rw[I.ok.glob];exact I.mod.glob.keeps I.bk) hm h) hd
theorem Am{E:Value->Shared->Prop}{pins:List (Addr×Obj)}{s:Shared}{σ:St}{H:Hp}{x:Str}{u:Value}{pos:Pos}{Q:Value->Shared->Prop}(I:Inv X pins σ H s)(hg:Gl X x)(hm:X.mg x=none)(hv:bootBuiltins x=some u)(h:Q u s)
 (hn:x≠"__name__":=by decide)(hd:(x==("__debug__":Str))=false:=by decide):wpAny (model X.prog X.w) X.A (eval (.Name x pos) X.env) Q E s:=by
 obtain⟨mb,h1,h2⟩:=I.mod.blt
 exact Calls.Name_function_global I.ok.kind hg (Calls.loadGlobal_builtin (by rw[I.ok.glob];exact I.mod.glob.keeps I.bk) hm (by rw[I.ok.blt];exact h1.keeps I.bk) ((h2 x hn).trans hv) h) hd
theorem iZ{x:Str}{v:V}{u:Value}{pos:Pos}(hg:Gl X x)(hm:X.mg x=some u)(r:RelV v u)(hd:(x==("__debug__":Str))=false:=by decide):PE X (.Name x pos) (tC v):=
 fun _ _ _ H _ I h=>Ih I hg hm ⟨v,H,I,r,h⟩ hd
variable{a b:Expr}{ta tb:TE}{pos:Pos}
def PC(X:Cx)(op:CmpOp)(a b:Expr)(t:TE):Prop:=
 ∀(pins:List (Addr×Obj))(s:Shared)(σ:St)(H:Hp)(Q:VK),Inv X pins σ H s->t σ H Q->
  wpAny (model X.prog X.w) X.A (eval a X.env) (fun v s₁=>wpAny (model X.prog X.w) X.A (eval b X.env) (fun u s₂=>wpAny (model X.prog X.w) X.A (compareOp op v u) (EP X pins σ Q) X.xe s₂) X.xe s₁) X.xe s
theorem abf(b:Expr){op:CmpOp}(h:op≠.In)(h2:op≠.NotIn):behindInMarks op b=false:=by
 have e1:(op==CmpOp.In)=false:=by cases op<;>first|rfl|exact absurd rfl h
 have e2:(op==CmpOp.NotIn)=false:=by cases op<;>first|rfl|exact absurd rfl h2
 cases b<;>simp[behindInMarks,e1,e2]
def ajS(ta:TE):TE:=fun σ H Q=>ta σ H fun x H1=>Q (.bl (decide (x=.non))) H1
def ag7(ta:TE):TE:=fun σ H Q=>ta σ H fun x H1=>Q (.bl (!decide (x=.non))) H1
theorem RelV.Sy{x:V}{v:Value}(r:RelV x v):(v==Value.none)=decide (x=.non):=by
 cases x with
 |non=>cases r;rfl
 |bl _=>cases r;rfl
 |int _=>obtain⟨t,rfl⟩:=r;rfl
 |str _=>obtain⟨t,rfl⟩:=r;rfl
 |Sw _=>obtain⟨t,rfl⟩:=r;rfl
 |flt _=>obtain⟨t,rfl⟩:=r;rfl
 |ref _=>cases r;rfl
 |ty _=>cases r;rfl
theorem xr{j pos'}(ha:PE X a ta):PC X .Is a (.Constant .none j pos') (ajS ta):=by
 intro pins s σ H Q I h
 refine jK (ha pins s σ H _ I h) fun v s1 ⟨x,H1,I1,r1,q1⟩=>?_
 exact Constant_none (is_none_gen ⟨.bl _,H1,I1,by rw[r1.Sy];rfl,q1⟩)
theorem QG{j pos'}(ha:PE X a ta):PC X .IsNot a (.Constant .none j pos') (ag7 ta):=by
 intro pins s σ H Q I h
 refine jK (ha pins s σ H _ I h) fun v s1 ⟨x,H1,I1,r1,q1⟩=>?_
 exact Constant_none (isnot_none_gen ⟨.bl _,H1,I1,by rw[r1.Sy];rfl,q1⟩)
def tB(t:TE):TT:=fun σ H Q=>t σ H fun x H1=>∃c,x=.bl c/\Q c H1
theorem lW{op:CmpOp}{t:TE}(h:PC X op a b t)(h1:behindInMarks op b=false:=by first|exact abf _ (by decide) (by decide)|rfl):PT X (.Compare a [op] [b] pos) (tB t):=by
 intro pins s σ H Q I hw
 refine wpAny_isTrue_Compare1 (jK (h pins s σ H _ I hw) fun v s1 h1=>jK h1 fun u s2 h2=>jK h2 fun c s3 ⟨x,H1,I1,r1,q1⟩=>?_) h1
 obtain⟨d,rfl,q⟩:=q1
 cases r1
 exact wpAny_truthy_bool ⟨H1,I1,q⟩
theorem dU{e:Expr}{t:TE}(h:PE X e t)(he:∀whole,isTrue e X.env whole=(do let v <-whole;standAt e.pos;holding [v] (truthy v)):=by intro _;rfl):PT X e (tB t):=by
 intro pins s σ H Q I hw
 refine isTrue_plain (jK (h pins s σ H _ I hw) fun v s1 ⟨x,H1,I1,r1,q1⟩=>?_) (he _)
 obtain⟨d,rfl,q⟩:=q1
 cases r1
 exact wpAny_truthy_bool ⟨H1,I1,q⟩
variable{tA tB':TT}{rest:List Expr}
def ajT(t u:TT):TT:=fun σ H Q=>t σ H fun c H1=>if c=true then u σ H1 Q else Q false H1
def tOr(t u:TT):TT:=fun σ H Q=>t σ H fun c H1=>if c=true then Q true H1 else u σ H1 Q
def ajU(t:TT):TT:=fun σ H Q=>t σ H fun c H1=>Q (!c) H1
theorem Ii(ha:PT X a tA):PW X (.BoolOp .And [a] pos) tA:=by
 intro wh pins s σ H Q I h
 refine isTrue_and (jK (ha pins s σ H Q I h) fun c s1 e=>?_)
 cases c with
 |true=>exact isTrue_and_nil e
 |false=>exact e
theorem dW(ha:PT X a tA):PW X (.BoolOp .Or [a] pos) tA:=by
 intro wh pins s σ H Q I h
 refine isTrue_or (jK (ha pins s σ H Q I h) fun c s1 e=>?_)
 cases c with
 |false=>exact isTrue_or_nil e
 |true=>exact e
theorem QH(ha:PT X a tA)(hb:PW X (.BoolOp .And (b::rest) pos) tB'):PW X (.BoolOp .And (a::b::rest) pos) (ajT tA tB'):=by
 intro wh pins s σ H Q I h
 refine isTrue_and (jK (ha pins s σ H _ I h) fun c s1 ⟨H1,I1,q1⟩=>?_)
 cases c with
 |true=>exact hb wh pins s1 σ H1 Q I1 q1
 |false=>exact⟨H1,I1,q1⟩
theorem fQ(ha:PT X a tA)(hb:PW X (.BoolOp .Or (b::rest) pos) tB'):PW X (.BoolOp .Or (a::b::rest) pos) (tOr tA tB'):=by
 intro wh pins s σ H Q I h
 refine isTrue_or (jK (ha pins s σ H _ I h) fun c s1 ⟨H1,I1,q1⟩=>?_)
 cases c with
 |true=>exact⟨H1,I1,q1⟩
 |false=>exact hb wh pins s1 σ H1 Q I1 q1
theorem nQ(ha:PT X a tA):PT X (.UnaryOp .Not a pos) (ajU tA):=by
 intro pins s σ H Q I h
 exact isTrue_not (ha pins s σ H (fun c H1=>Q (!c) H1) I h)
def ag8(ta tb:TE):TE:=fun σ H Q=>ta σ H fun x H1=>∃c,x=.bl c/\if c=true then tb σ H1 Q else Q (.bl false) H1
def ajV(ta tb:TE):TE:=fun σ H Q=>ta σ H fun x H1=>∃c,x=.bl c/\if c=true then Q (.bl true) H1 else tb σ H1 Q
theorem Vs{op}{t:TE}(h:PE X a t):PE X (.BoolOp op [a] pos) t:=fun pins s σ H Q I hw=>BoolOp_one (h pins s σ H Q I hw)
theorem ah5(ha:PE X a ta)(hb:PE X (.BoolOp .And (b::rest) pos) tb):PE X (.BoolOp .And (a::b::rest) pos) (ag8 ta tb):=by
 intro pins s σ H Q I h
 refine BoolOp_and (jK (ha pins s σ H _ I h) fun v s1 ⟨x,H1,I1,r1,q1⟩=>?_)
 obtain⟨c,rfl,q1⟩:=q1
 cases r1
 refine wpAny_truthy_bool ?_
 cases c with
 |true=>exact hb pins s1 σ H1 Q I1 q1
 |false=>exact⟨.bl false,H1,I1,rfl,q1⟩
theorem abg(ha:PE X a ta)(hb:PE X (.BoolOp .Or (b::rest) pos) tb):PE X (.BoolOp .Or (a::b::rest) pos) (ajV ta tb):=by
 intro pins s σ H Q I h
 refine BoolOp_or (jK (ha pins s σ H _ I h) fun v s1 ⟨x,H1,I1,r1,q1⟩=>?_)
 obtain⟨c,rfl,q1⟩:=q1
 cases r1
 refine wpAny_truthy_bool ?_
 cases c with
 |false=>exact hb pins s1 σ H1 Q I1 q1
 |true=>exact⟨.bl true,H1,I1,rfl,q1⟩
def tIf(t:TT)(ta tb:TE):TE:=fun σ H Q=>t σ H fun c H1=>if c=true then ta σ H1 Q else tb σ H1 Q
theorem rW{c:Expr}(hc:PT X c tA)(ha:PE X a ta)(hb:PE X b tb):PE X (.IfExp c a b pos) (tIf tA ta tb):=by
 intro pins s σ H Q I h
 refine wpAny_IfExp (jK (hc pins s σ H _ I h) fun d s1 ⟨H1,I1,q1⟩=>?_)
 cases d with
 |true=>exact ha pins s1 σ H1 Q I1 q1
 |false=>exact hb pins s1 σ H1 Q I1 q1
end
end L2
namespace L2
open PySem PySem.Spec PyProof.Rows
def cY(K:W.Frag)(H:Hp)(a:Addr)(xs:List V):Prop:=
 Rd H a (.lst xs)\/
  ∃(o:Obj)(its:Array Value)(n:Nat),K.lookup a=some o/\o.cls=.type "list"/\o.dict=none/\o.data=.seq its n/\its.size<=sizeLine/\Vals xs its.toList
def Ov(K:W.Frag)(H:Hp)(a:Addr)(xs:List V):Prop:=
 Rd H a (.tup xs)\/
  ∃(o:Obj)(its:Array Value)(n:Nat),K.lookup a=some o/\o.cls=.type "tuple"/\o.data=.seq its n/\its.size<=sizeLine/\Vals xs its.toList
noncomputable def amQ:Value->Option V
 |.none=>some .non
 |.bool b=>some (.bl b)
 |.int i _=>some (.int i)
 |.str x _=>some (.str x)
 |.bytes b _=>some (.Sw b)
 |.float b _=>some (.flt b)
 |.ref a=>some (.ref a)
 |.type n=>some (.ty n)
 |_=>none
theorem RelV.abs{x:V}{u:Value}(r:RelV x u):amQ u=some x:=by
 cases x with
 |non=>cases r;rfl
 |bl _=>cases r;rfl
 |int _=>obtain⟨t,rfl⟩:=r;rfl
 |str _=>obtain⟨t,rfl⟩:=r;rfl
 |Sw _=>obtain⟨t,rfl⟩:=r;rfl
 |flt _=>obtain⟨t,rfl⟩:=r;rfl
 |ref _=>cases r;rfl
 |ty _=>cases r;rfl
theorem RelV.inj{x y:V}{u:Value}(r:RelV x u)(q:RelV y u):x=y:=Option.some.inj (r.abs.symm.trans q.abs)
theorem Vals.inj:∀{xs ys:List V}{us:List Value},Vals xs us->Vals ys us->xs=ys
 |_,_,_,.nil,.nil=>rfl
 |_,_,_,.cons r t,.cons r' t'=>by rw[r.inj r',Vals.inj t t']
section
variable{X:Cx}{pins:List (Addr×Obj)}{σ:St}{H:Hp}{s:Shared}{a:Addr}{xs ys:List V}
theorem cY.of{K:W.Frag}(h:H a=some (.lst xs)):cY K H a xs:=.inl (.inl h)
theorem Ov.of{K:W.Frag}(h:H a=some (.tup xs)):Ov K H a xs:=.inl (.inl h)
theorem Inv.list(I:Inv X pins σ H s)(h:cY X.K H a xs):∃its:List Value,Vals xs its/\PlainL s.heap a its.toArray/\xs.length<=sizeLine:=by
 rcases h with h|⟨o,its,n,hk,hc,hd,hs,hz,r⟩
 ·obtain⟨z,its,n,r,e⟩:=h.ok I.hok
  exact⟨its,r,⟨_,n,e,rfl,rfl,rfl⟩,z⟩
 ·refine⟨its.toList,r,⟨o,n,I.RN a o hk,hc,hd,by simpa using hs⟩,?_⟩
  have e:=r.length
  simp only[Array.length_toList]at e
  omega
theorem Inv.tuple(I:Inv X pins σ H s)(h:Ov X.K H a xs):∃its:List Value,Vals xs its/\IsTup s.heap a its.toArray/\xs.length<=sizeLine:=by
 rcases h with h|⟨o,its,n,hk,hc,hs,hz,r⟩
 ·obtain⟨z,its,r,p⟩:=h.ok I.hok
  exact⟨its,r,p,z⟩
 ·refine⟨its.toList,r,⟨o,I.RN a o hk,hc,n,by simpa using hs⟩,?_⟩
  have e:=r.length
  simp only[Array.length_toList]at e
  omega
theorem Inv.SJ(I:Inv X pins σ H s)(h:cY X.K H a xs)(h':cY X.K H a ys):xs=ys:=by
 obtain⟨its,r,⟨o,n,e,_,_,d⟩,_⟩:=I.list h
 obtain⟨its',r',⟨o',n',e',_,_,d'⟩,_⟩:=I.list h'
 rw[e]at e';cases e'
 rw[d]at d'
 injection d' with d1 _
 have:its=its':=by simpa using congrArg Array.toList d1
 subst this
 exact r.inj r'
end
noncomputable abbrev Cx.wish(X:Cx)(E:Value->Shared->Prop):Cx:={ X with xe:=E }
noncomputable abbrev Cx.nox(X:Cx):Cx:=X.wish fun _ _=>False
theorem Cx.Ok.wish{X:Cx}(ok:X.Ok)(E:Value->Shared->Prop):(X.wish E).Ok:=
 ⟨ok.mod,ok.kind,ok.glob,ok.blt,ok.above,ok.inj,ok.has,ok.cab,ok.hd,ok.frames,ok.stk,ok.exf,ok.bs,ok.Y8,ok.abb,ok.abd,ok.Cg,ok.frf⟩
theorem Cx.Ok.uF{X:Cx}{E:Value->Shared->Prop}(ok:(X.wish E).Ok):X.Ok:=
 ⟨ok.mod,ok.kind,ok.glob,ok.blt,ok.above,ok.inj,ok.has,ok.cab,ok.hd,ok.frames,ok.stk,ok.exf,ok.bs,ok.Y8,ok.abb,ok.abd,ok.Cg,ok.frf⟩
section
variable{X:Cx}{pins:List (Addr×Obj)}{σ:St}{H:Hp}{s:Shared}{E:Value->Shared->Prop}
theorem Inv.wish(I:Inv X pins σ H s)(E:Value->Shared->Prop):Inv (X.wish E) pins σ H s:=⟨I.ok.wish E,I.os,I.bare,I.base,I.loc,I.cell,I.free,I.tL,I.pin,I.hok,I.len⟩
theorem Inv.uF(I:Inv (X.wish E) pins σ H s):Inv X pins σ H s:=⟨I.ok.uF,I.os,I.bare,I.base,I.loc,I.cell,I.free,I.tL,I.pin,I.hok,I.len⟩
theorem SP.uF{D:Ends}{f:Flow}{s':Shared}(h:SP (X.wish E) pins D f s'):SP X pins D f s':=by
 cases f with
 |next=>obtain⟨σ',H',I,q⟩:=h;exact⟨σ',H',I.uF,q⟩
 |brk=>obtain⟨σ',H',I,q⟩:=h;exact⟨σ',H',I.uF,q⟩
 |cont=>obtain⟨σ',H',I,q⟩:=h;exact⟨σ',H',I.uF,q⟩
 |ret u=>obtain⟨v,σ',H',I,r,q⟩:=h;exact⟨v,σ',H',I.uF,r,q⟩
theorem PE.nox{e:Expr}{t:TE}(h:PE X.nox e t):PE X e t:=fun pins s σ H Q I hw=>
 wpAny_mono (h pins s σ H Q (I.wish _) hw) (fun _ _ ⟨v,H',I',r,q⟩=>⟨v,H',I'.uF,r,q⟩) fun _ _ z=>False.elim z
theorem PT.nox{e:Expr}{t:TT}(h:PT X.nox e t):PT X e t:=fun pins s σ H Q I hw=>
 wpAny_mono (h pins s σ H Q (I.wish _) hw) (fun _ _ ⟨H',I',q⟩=>⟨H',I'.uF,q⟩) fun _ _ z=>False.elim z
theorem Vr.nox{st:List Stmt}{t:TS}(h:Vr X.nox st t):Vr X st t:=fun pins s σ H D I hw=>
 wpAny_mono (h pins s σ H D (I.wish _) hw) (fun _ _ q=>q.uF) fun _ _ z=>False.elim z
end
section
variable{X:Cx}{st:Stmt}{rest:List Stmt}{t u:TS}{e:Expr}{te:TE}{pos:Pos}
def ag9:TS:=fun D σ H=>D.nx σ H
def ajW(t u:TS):TS:=fun D σ H=>t { D with nx:=u D } σ H
theorem aU:Vr X [] ag9:=fun _ _ σ H _ I h=>wpAny_execs_nil ⟨σ,H,I,h⟩
theorem aj(h1:PS X st t)(h2:Vr X rest u):Vr X (st::rest) (ajW t u):=by
 intro pins s σ H D I h
 refine wpAny_execs_cons (jK (h1 pins s σ H { D with nx:=u D } I h) fun f s1 q=>?_)
 cases f with
 |next=>
  obtain⟨σ',H',I',q⟩:=q
  exact h2 pins s1 σ' H' D I' q
 |ret v=>exact q
 |brk=>exact q
 |cont=>exact q
theorem ak(h1:PS X st t):Vr X [st] t:=by
 intro pins s σ H D I h
 refine wpAny_execs_cons (jK (h1 pins s σ H D I h) fun f s1 q=>?_)
 cases f with
 |next=>exact wpAny_execs_nil q
 |ret v=>exact q
 |brk=>exact q
 |cont=>exact q
theorem Inv.quiet{pins:List (Addr×Obj)}{σ:St}{H:Hp}{s:Shared}(I:Inv X pins σ H s):interactive X.env=false:=by simp[interactive,I.ok.kind]
def aha(te:TE):TS:=fun D σ H=>te σ H fun _ H1=>D.nx σ H1
theorem nP(he:PE X e te)(hs:swapsWith e none pos.line X.env=pure false:=by rfl):PS X (.Expr e pos) (aha te):=by
 intro pins s σ H D I h
 exact wpAny_Expr_any (jK (he pins s σ H _ I h) fun v s1 ⟨x,H1,I1,r1,q1⟩=>⟨σ,H1,I1,q1⟩) I.quiet hs
def ajX(te:TE):TS:=fun D σ H=>te σ H D.rt
theorem au(he:PE X e te):PS X (.Return (some e) pos) (ajX te):=by
 intro pins s σ H D I h
 exact wpAny_Return_some (jK (he pins s σ H _ I h) fun v s1 ⟨x,H1,I1,r1,q1⟩=>⟨x,σ,H1,I1,r1,q1⟩)
def ajY(c:TT)(t u:TS):TS:=fun D σ H=>c σ H fun b H1=>if b=true then t D σ H1 else u D σ H1
theorem bC{c:Expr}{a b:List Stmt}{tc:TT}(hc:PT X c tc)(ha:Vr X a t)(hb:Vr X b u):PS X (.If c a b pos) (ajY tc t u):=by
 intro pins s σ H D I h
 refine wpAny_If (jK (hc pins s σ H _ I h) fun d s1 ⟨H1,I1,q1⟩=>?_)
 cases d with
 |true=>exact ha pins s1 σ H1 D I1 q1
 |false=>exact hb pins s1 σ H1 D I1 q1
end
abbrev TG:=V->St->Hp->(St->Hp->Prop)->Prop
abbrev TGs:=List V->St->Hp->(St->Hp->Prop)->Prop
def PG(X:Cx)(target:Expr)(t:TG):Prop:=
 ∀(pins:List (Addr×Obj))(s:Shared)(σ:St)(H:Hp)(v:V)(u:Value)(Q:St->Hp->Prop),Inv X pins σ H s->RelV v u->t v σ H Q->
  wpAny (model X.prog X.w) X.A (assign target X.env u) (fun _ s'=>∃σ' H',Inv X pins σ' H' s'/\Q σ' H') X.xe s
def PGs(X:Cx)(ts:List Expr)(t:TGs):Prop:=
 ∀(pins:List (Addr×Obj))(s:Shared)(σ:St)(H:Hp)(vs:List V)(us:List Value)(Q:St->Hp->Prop),Inv X pins σ H s->Vals vs us->t vs σ H Q->
  wpAny (model X.prog X.w) X.A (assignInOrder ((assignEach ts X.env).map (·.2)) us) (fun _ s'=>∃σ' H',Inv X pins σ' H' s'/\Q σ' H') X.xe s
section
variable{X:Cx}{pos:Pos}
def zK(i:Nat):TG:=fun v σ H Q=>Q (σ.set i (some v)) H
theorem fG{i:Nat}{x:Str}(hN:X.N.Nodup)(hi:X.N[i]?=some x)(hx:Loc X.env.scope x)(hf:X.fn x=true\/X.env.scope.names.lookup x=some .local:=by first|exact .inl rfl|exact .inr rfl|assumption):PG X (.Name x pos) (zK i):=by
 intro pins s σ H v u Q I r h
 exact wpAny_assign_Name (Sx I hN hi hx r (fun s' I'=>⟨_,H,I',h⟩) hf)
def aj0:TGs:=fun vs σ H Q=>vs=[]/\Q σ H
def abj(t:TG)(u:TGs):TGs:=fun vs σ H Q=>∃v r,vs=v::r/\t v σ H fun σ' H'=>u r σ' H' Q
theorem ad6:PGs X [] aj0:=by
 intro pins s σ H vs us Q I r h
 obtain⟨e,h⟩:=h
 subst e
 cases r
 exact assignInOrder_nil ⟨σ,H,I,h⟩
theorem SM{e:Expr}{es:List Expr}{t:TG}{u:TGs}(h1:PG X e t)(h2:PGs X es u)
 (hs:(assignEach (e::es) X.env).map (·.2)=assign e X.env::(assignEach es X.env).map (·.2):=by rfl):PGs X (e::es) (abj t u):=by
 intro pins s σ H vs us Q I r h
 obtain⟨v,vr,e1,h⟩:=h
 subst e1
 cases r with
 |cons r rr=>
  rw[hs]
  refine assignInOrder_cons (jK (h1 pins s σ H _ _ _ I r h) fun _ s1 ⟨σ1,H1,I1,q1⟩=>?_)
  exact h2 pins s1 σ1 H1 _ _ Q I1 rr q1
def ah6(K:W.Frag)(n:Nat)(t:TGs):TG:=fun v σ H Q=>∃a xs,v=.ref a/\Ov K H a xs/\xs.length=n/\t xs σ H Q
theorem ah7{es:List Expr}{k:Nat}{t:TGs}{n:Nat}(hc:X.calm=true)(h:PGs X es t)
 (hn:(assignEach es X.env).length=n:=by rfl)(hst:(assignEach es X.env).findIdx? (·.1)=none:=by rfl):PG X (.Tuple es k pos) (ah6 X.K n t):=by
 intro pins s σ H v u Q I r hw
 obtain⟨a,xs,e1,hq,hl,hw⟩:=hw
 subst e1
 cases r
 obtain⟨its,rv,ht,hz⟩:=I.tuple hq
 refine assign_Tuple_tuple (I.ok.hd hc) ht (by simp[hn,<-hl,rv.length]) hst fun h' hx=>?_
 have I1:Inv X pins σ H { s with heap:=h' }:=I.kept (t':=s.toks) fun b o e=>hx b o (Nat.ne_of_lt (Heap.lt_size e)) e
 exact h pins _ σ H xs _ Q I1 (by simpa using rv) hw
def ad7(te:TE)(g:TG):TS:=fun D σ H=>te σ H fun x H1=>g x σ H1 D.nx
theorem abk{i:Nat}{x:Str}{e:Expr}{te:TE}{pos':Pos}(hN:X.N.Nodup)(hi:X.N[i]?=some x)(hx:Loc X.env.scope x)(he:PE X e te)(hs:swapsWith e (some (.Name x pos')) pos.line X.env=pure false:=by rfl)(hf:X.fn x=true\/X.env.scope.names.lookup x=some .local:=by first|exact .inl rfl|exact .inr rfl|assumption):
 PS X (.Assign [.Name x pos'] e pos) (ad7 te (zK i)):=by
 intro pins s σ H D I h
 refine wpAny_Assign_Name (jK (he pins s σ H _ I h) fun v s1 ⟨y,H1,I1,r1,q1⟩=>?_) hs
 exact Sx I1 hN hi hx r1 (fun s2 I2=>⟨_,H1,I2,q1⟩) hf
end
section
variable{X:Cx}{pos:Pos}
def Vt(c:TT)(tb:TS):TS:=fun D σ H=>∃W:Nat->St->Hp->Prop,(∃m,W m σ H)/\∀m σ H,W m σ H->
 c σ H fun b H1=>if b=true then∃N:St->Hp->Prop,(∀σ' H',N σ' H'->∃m',m'<m/\W m' σ' H')/\tb { D with nx:=N,ct:=N,bk:=D.nx } σ H1 else D.nx σ H1
theorem qj{c:Expr}{body:List Stmt}{tc:TT}{tb:TS}(hp:PassesOwn (model X.prog X.w) X.A X.env X.xe)(hc:PT X c tc)(hb:Vr X body tb):PS X (.While c body [] pos) (Vt tc tb):=by
 intro pins s σ H D I h
 obtain⟨W,⟨m0,w0⟩,turn⟩:=h
 refine wpAny_While (codeAny_whileLoop (fun n s'=>∃σ' H',Inv X pins σ' H' s'/\W n σ' H') ?_ m0 ⟨σ,H,I,w0⟩)
 rintro n s1 ⟨σ1,H1,I1,w1⟩
 refine wpAny_passesOwn hp (jK (hc pins s1 σ1 H1 _ I1 (turn n σ1 H1 w1)) fun b s2 ⟨H2,I2,q2⟩=>?_)
 cases b with
 |true=>
  obtain⟨N,hN,q2⟩:=q2
  rw[if_pos rfl]
  refine wpAny_passesOwn hp (jK (hb pins s2 σ1 H2 _ I2 q2) fun f s3 q3=>?_)
  cases f with
  |next=>
   obtain⟨σ3,H3,I3,n3⟩:=q3
   obtain⟨m',hm,w3⟩:=hN σ3 H3 n3
   exact⟨m',hm,σ3,H3,I3,w3⟩
  |cont=>
   obtain⟨σ3,H3,I3,n3⟩:=q3
   obtain⟨m',hm,w3⟩:=hN σ3 H3 n3
   exact⟨m',hm,σ3,H3,I3,w3⟩
  |brk=>exact q3
  |ret v=>exact q3
 |false=>
  rw[if_neg Bool.false_ne_true]
  exact wpAny_execs_nil ⟨σ1,H2,I2,q2⟩
end
structure It where
 go:Nat->Hp->Prop
 yld:Nat->Hp->V->Hp->Prop
 stop:Nat->Hp->Prop
def qK(X:Cx)(pins:List (Addr×Obj))(H:Hp)(b:Addr):Prop:=
 H b=none/\b≠X.env.locals/\b∉X.fs/\(b∈X.ex\/X.s_0.heap.objs.size<=b)/\(∀x c,X.env.cells.lookup x=some c->c≠b)/\∀p∈X.pn++pins,p.1≠b
theorem Inv.QJ{X:Cx}{pins:List (Addr×Obj)}{σ:St}{H H':Hp}{s:Shared}{b:Addr}(I:Inv X pins σ H s)(hb:s.heap.objs.size<=b)(hn:H' b=none):qK X pins H' b:=by
 refine⟨hn,Nat.ne_of_gt (Nat.lt_of_lt_of_le I.lt hb),I.ajP hb,.inr (Nat.le_trans I.sz hb),fun x c e z=>?_,fun p hp z=>?_⟩
 ·obtain⟨v,q⟩:=I.cell x c e
  exact absurd (Nat.lt_of_lt_of_le q.lt (by rw[z];exact hb)) (Nat.lt_irrefl _)
 ·exact absurd (Nat.lt_of_lt_of_le (Heap.lt_size (I.pin p hp).1) (by rw[z];exact hb)) (Nat.lt_irrefl _)
structure Turn(P:Program)(w:World)(K:W.Frag)(tg:Expr)(J:It)(fp:List Addr)(it:Addr)(tn:Nat->Heap->Prop):Prop where
 mem:it∈fp
 obj:∀i h,tn i h->∀b∈fp,∃o,h.get? b=some o/\∀v,o.data≠.cell v
 keep:∀i h h',tn i h->(∀b∈fp,∀o,h.get? b=some o->h'.get? b=some o)->tn i h'
 item:∀(X:Cx),X.prog=P->X.w=w->X.K=K->X.calm=true->∀(i:Nat)(pins:List (Addr×Obj))(s:Shared)(σ:St)(H:Hp)(E:Value->Shared->Prop),Inv X pins σ H s->(∀b∈fp,qK X pins H b)->tn i s.heap->J.go i H->
  wpAny (model P w) X.A (pyNext (.ref it)) (fun r s1=>∃u,r=some u/\
   wpAny (model P w) X.A (letOwnedTupleGo tg (.ref it) u) (fun _ s2=>∃x H',Inv X pins σ H' s2/\RelV x u/\J.yld i H x H'/\tn (i+1) s2.heap/\∀b∈fp,H' b=none) E s1) E s
 done:∀(X:Cx),X.prog=P->X.w=w->X.K=K->X.calm=true->∀(i:Nat)(pins:List (Addr×Obj))(s:Shared)(σ:St)(H:Hp)(E:Value->Shared->Prop),Inv X pins σ H s->(∀b∈fp,qK X pins H b)->tn i s.heap->J.stop i H->
  wpAny (model P w) X.A (pyNext (.ref it)) (fun r s1=>r=none/\Inv X pins σ H s1) E s
 self:∀(A:Around)(i:Nat)(s:Shared)(Q:Value->Shared->Prop)(E:Value->Shared->Prop),tn i s.heap->Q (.ref it) s->wpAny (model P w) A (pyIter (.ref it)) Q E s
abbrev TI:=St->Hp->(It->Hp->Prop)->Prop
def PIE(X:Cx)(pins:List (Addr×Obj))(σ:St)(tg:Expr)(R:It->Hp->Prop)(itv:Value)(s2:Shared):Prop:=
 ∃(it:Addr)(fp:List Addr)(tn:Nat->Heap->Prop)(J:It)(H':Hp),itv=.ref it/\Inv X pins σ H' s2/\Turn X.prog X.w X.K tg J fp it tn/\tn 0 s2.heap/\(∀b∈fp,qK X pins H' b)/\R J H'
def PI(X:Cx)(tg iter:Expr)(wi:TI):Prop:=
 ∀(pins:List (Addr×Obj))(s:Shared)(σ:St)(H:Hp)(R:It->Hp->Prop),Inv X pins σ H s->wi σ H R->
  wpAny (model X.prog X.w) X.A (eval iter X.env) (fun v s1=>wpAny (model X.prog X.w) X.A (pyIter v) (PIE X pins σ tg R) X.xe s1) X.xe s
theorem Xk{M:Model}{A:Around}{E:Value->Shared->Prop}{s:Shared}{tg:Expr}{it:Addr}{u:Value}{o:Obj}{n:String}{vs:Array Value}{Q:Unit->Shared->Prop}(ho:s.heap.get? it=some o)(hc:o.cls=.type n)(hd:o.data=.fields vs)
 (hn:["enumerate","zip","dict_itemiterator","dict_reverseitemiterator","odict_iterator","itertools.zip_longest","itertools.pairwise"].contains n=false)(hQ:Q () s):wpAny M A (letOwnedTupleGo tg (.ref it) u) Q E s:=by
 unfold letOwnedTupleGo
 cases tg<;>first
  |exact wpAny_pure hQ
  |(cases u<;>first
     |exact wpAny_pure hQ
     |(refine wpAny_bind (wpAny_load ho ?_)
       rw[hc,hd]
       show wpAny M A (if(["enumerate","zip","dict_itemiterator","dict_reverseitemiterator","odict_iterator","itertools.zip_longest","itertools.pairwise"].contains n && vs[0]?==some (rawInt _))=true then _ else _) Q E s
       rw[if_neg (by intro h;rw[hn,Bool.false_and]at h;cases h)]
       exact wpAny_pure hQ))
def Itl(K:W.Frag)(a:Addr):It:=
 ⟨fun i H=>∃xs x,cY K H a xs/\xs[i]?=some x,fun i H x H'=>H'=H/\∀xs,cY K H a xs->xs[i]?=some x,fun i H=>∃xs,cY K H a xs/\xs.length<=i⟩
def Ve(lo:Int)(n:Nat):It:=⟨fun i _=>i<n,fun i H x H'=>H'=H/\x=.int (lo+i),fun i _=>n<=i⟩
theorem Y9{P:Program}{w:World}{K:W.Frag}{tg:Expr}(a it:Addr):Turn P w K tg (Itl K a) [it] it (fun i h=>h.IsListIter it a i) where
 mem:=by simp
 obj:=fun i h st b hb=>by
  have e:b=it:=by simpa using hb
  subst e
  obtain⟨o,e,c,d⟩:=st
  exact⟨o,e,fun v z=>by rw[d]at z;cases z⟩
 keep:=fun i h h' st k=>st.at fun o e=>k it (by simp) o e
 item:=by
  intro X hP hw hK hc i pins s σ H E I hf st hg
  subst hP hw hK
  obtain⟨xs,x,hq,hx⟩:=hg
  obtain⟨its,rv,p,hz⟩:=I.list hq
  obtain⟨u,hu,ru⟩:=rv.get hx
  obtain⟨f0,f1,f2,f3,f4,f5⟩:=hf it (by simp)
  refine wpAny_pyNext_list_item st p.isList (x:=u) (by simpa using hu) fun h' st' sb=>?_
  have I1:Inv X pins σ H { s with heap:=h' }:=I.turned (t':=s.toks) (fun b o hb e=>(sb.2 b hb).trans e) f0 f1 f3 f4 f5
  obtain⟨o,e,c,d⟩:=id st'
  exact⟨u,rfl,Xk (s:={ s with heap:=h' }) e c d (by decide) ⟨x,H,I1,ru,⟨rfl,fun ys hy=>by rw[I.SJ hy hq];exact hx⟩,st',fun b hb=>(hf b hb).1⟩⟩
 done:=by
  intro X hP hw hK hc i pins s σ H E I hf st hg
  subst hP hw hK
  obtain⟨xs,hq,hx⟩:=hg
  obtain⟨its,rv,p,hz⟩:=I.list hq
  obtain⟨f0,f1,f2,f3,f4,f5⟩:=hf it (by simp)
  have hl:=rv.length
  exact wpAny_pyNext_list_end (I.ok.hd hc) st p.isList (by simp;omega) fun h' eb=>⟨rfl,I.turned (t':=s.toks) (fun b o hb e=>eb b o hb e) f0 f1 f3 f4 f5⟩
 self:=fun _ _ _ _ _ st h=>wpAny_pyIter_listiter st h
theorem Vu{P:Program}{w:World}{K:PySem.W.Frag}{tg:Expr}(it:Addr)(lo:Int)(n:Nat):Turn P w K tg (Ve lo n) [it] it (fun i h=>IsRangeIter h it (lo+(i:Nat)*1) ((n:Int)-(i:Nat)) 1) where
 mem:=by simp
 obj:=fun i h st b hb=>by
  have e:b=it:=by simpa using hb
  subst e
  exact⟨_,st,fun v z=>by
   have z':Data.fields _=Data.cell v:=z
   cases z'⟩
 keep:=fun i h h' st k=>k it (by simp) _ st
 item:=by
  intro X hP hw hK hc i pins s σ H E I hf st hg
  subst hP hw hK
  obtain⟨f0,f1,f2,f3,f4,f5⟩:=hf it (by simp)
  have W:=Walks.range (prog:=X.prog) (w:=X.w) (I.ok.hd hc) it lo 1 n
  refine W.item i s _ _ hg st fun v h' tk hv st' kk=>?_
  obtain⟨t,rfl⟩:=hv
  have I1:Inv X pins σ H { s with heap:=h',toks:=tk }:=I.turned (fun b o hb e=>kk b o (by simpa using hb) e) f0 f1 f3 f4 f5
  refine⟨_,rfl,Xk (s:={ s with heap:=h',toks:=tk }) (n:="range_iterator") st' rfl rfl (by decide) ⟨.int (lo+i),H,I1,⟨t,?_⟩,⟨rfl,rfl⟩,st',fun b hb=>(hf b hb).1⟩⟩
  rw[Int.mul_one]
 done:=by
  intro X hP hw hK hc i pins s σ H E I hf st hg
  subst hP hw hK
  obtain⟨f0,f1,f2,f3,f4,f5⟩:=hf it (by simp)
  exact wpAny_pyNext_range_end (I.ok.hd hc) st (by have:n<=i:=hg;omega) fun h' eb=>⟨rfl,I.turned (t':=s.toks) (fun b o hb e=>eb b o hb e) f0 f1 f3 f4 f5⟩
 self:=fun _ _ _ _ _ st h=>wpAny_pyIter_rangeiter st h
end L2
namespace L2
open PySem PySem.Spec PyProof.Rows
section
variable{X:Cx}{tg:Expr}
def ahc(K:W.Frag)(tl:TE):TI:=fun σ H R=>tl σ H fun x H1=>∃a,x=.ref a/\(∃xs,cY K H1 a xs)/\R (Itl K a) H1
theorem pW{l:Expr}{tl:TE}(hl:PE X l tl):PI X tg l (ahc X.K tl):=by
 intro pins s σ H R I h
 refine jK (hl pins s σ H _ I h) fun v s1 ⟨x,H1,I1,r1,q1⟩=>?_
 obtain⟨a,e,⟨xs,hq⟩,q⟩:=q1
 subst e
 cases r1
 obtain⟨its,rv,p,hz⟩:=I1.list hq
 refine wpAny_pyIter_list p.isList ?_
 refine⟨s1.heap.objs.size,[s1.heap.objs.size],_,_,H1,rfl,I1.kept (t':=s1.toks) fun b o e=>Heap.get?_push_of_some _ e,Y9 a _,⟨_,Heap.get?_push_size _ rfl,rfl,rfl⟩,fun b hb=>?_,q⟩
 have e:b=s1.heap.objs.size:=by simpa using hb
 subst e
 exact I1.QJ (Nat.le_refl _) (I1.hok.fresh (Nat.le_refl _))
theorem SN{pins:List (Addr×Obj)}{σ:St}{H:Hp}{s:Shared}{R:It->Hp->Prop}{E:Value->Shared->Prop}{lo hi:Int}{t u v:Tok}{tk:Nat}(I:Inv X pins σ H s)(h1:-(2^62)<=lo)(h2:lo<2^62)(h3:-(2^62)<=hi)(h4:hi<2^62)
 (q:R (Ve lo (hi-lo).toNat) H):wpAny (model X.prog X.w) X.A (pyIter (.ref s.heap.objs.size)) (PIE X pins σ tg R) E { s with heap:=s.heap.push { cls:=.type "range",data:=.fields #[.int lo t,.int hi u,.int 1 v] },toks:=tk }:=by
 refine wpAny_pyIter_range (IsRange.new ..) (small_one h1 h2 h3 h4) ?_
 have I1:Inv X pins σ H { s with heap:=s.heap.push { cls:=.type "range",data:=.fields #[.int lo t,.int hi u,.int 1 v] },toks:=tk }:=I.kept fun b o e=>Heap.get?_push_of_some _ e
 refine⟨(s.heap.push { cls:=.type "range",data:=.fields #[.int lo t,.int hi u,.int 1 v] }).objs.size,[(s.heap.push { cls:=.type "range",data:=.fields #[.int lo t,.int hi u,.int 1 v] }).objs.size],_,_,H,rfl,
  I1.kept (t':=tk) fun b o e=>Heap.get?_push_of_some _ e,Vu _ lo (hi-lo).toNat,?_,fun b hb=>?_,q⟩
 ·have e1:lo+((0:Nat):Int)*1=lo:=by simp
  have e2:(((hi-lo).toNat:Nat):Int)-((0:Nat):Int)=Builtin.Range.rangeSize lo hi 1:=by rw[rangeSize_one];split<;>omega
  show IsRangeIter _ _ (lo+((0:Nat):Int)*1) ((((hi-lo).toNat:Nat):Int)-((0:Nat):Int)) 1
  rw[e1,e2]
  exact Heap.get?_push_size _ rfl
 ·have e:b=(s.heap.push { cls:=.type "range",data:=.fields #[.int lo t,.int hi u,.int 1 v] }).objs.size:=by simpa using hb
  subst e
  exact I1.QJ (Nat.le_refl _) (I1.hok.fresh (Nat.le_refl _))
def ahd(ta:TA):TI:=fun σ H R=>ta σ H fun vs H1=>∃j:Int,vs=[.int j]/\-(2^62)<=j/\j<2^62/\R (Ve 0 j.toNat) H1
def ahe(ta:TA):TI:=fun σ H R=>ta σ H fun vs H1=>∃i j:Int,vs=[.int i,.int j]/\(-(2^62)<=i/\i<2^62/\-(2^62)<=j/\j<2^62)/\R (Ve i (j-i).toNat) H1
theorem zm{a:Expr}{ta:TA}{p pos:Pos}(hg:Gl X "range")(hm:X.mg "range"=none)(ha:PA X [a] ta)(hs:starEach [a] X.env=[(false,eval a X.env)]:=by rfl):PI X tg (.Call (.Name "range" p) [a] [] pos) (ahd ta):=by
 intro pins s σ H R I h
 refine Call_ (Am I hg hm boot_range (PyProof.Rows.callWith_type1 (jK (ha pos pins s σ H _ I h) fun us s1 ⟨vs,H1,I1,r1,q1⟩=>?_) hs rfl))
 obtain⟨j,e,q1,q2,q⟩:=q1
 subst e
 cases r1 with
 |cons r rr=>
  cases rr
  obtain⟨t,rfl⟩:=r
  exact call_range_1 (SN I1 (by omega) (by omega) q1 q2 (by simpa using q))
theorem uQ{a b:Expr}{ta:TA}{p pos:Pos}(hg:Gl X "range")(hm:X.mg "range"=none)(ha:PA X [a,b] ta)(hs:starEach [a,b] X.env=[(false,eval a X.env),(false,eval b X.env)]:=by rfl)(hs2:starEach [b] X.env=[(false,eval b X.env)]:=by rfl):
 PI X tg (.Call (.Name "range" p) [a,b] [] pos) (ahe ta):=by
 intro pins s σ H R I h
 refine Call_ (Am I hg hm boot_range (PyProof.Rows.callWith_type1 (jK (ha pos pins s σ H _ I h) fun us s1 ⟨vs,H1,I1,r1,q1⟩=>?_) (by rw[hs,hs2]) (by rw[hs2];rfl)))
 obtain⟨i,j,e,⟨q1,q2,q3,q4⟩,q⟩:=q1
 subst e
 cases r1 with
 |cons r rr=>
  cases rr with
  |cons r' rr=>
   cases rr
   obtain⟨t,rfl⟩:=r
   obtain⟨t',rfl⟩:=r'
   exact call_range_2 (SN I1 q1 q2 q3 q4 q)
def aj1(wi:TI)(g:TG)(tb:TS):TS:=fun D σ H=>wi σ H fun J H1=>∃W:Nat->Nat->St->Hp->Prop,(∃m,W 0 m σ H1)/\∀i m σ H,W i m σ H->
 (J.stop i H/\D.nx σ H)\/(J.go i H/\∃N:St->Hp->Prop,(∀σ' H',N σ' H'->∃m',m'<m/\W (i+1) m' σ' H')/\∀x H',J.yld i H x H'->g x σ H' fun σ2 H2=>tb { D with nx:=N,ct:=N,bk:=D.nx } σ2 H2)
noncomputable def Jv(fp:List Addr)(h:Heap):List (Addr×Obj):=fp.filterMap fun b=>(h.get? b).map fun o=>(b,o)
theorem Ao{fp:List Addr}{h:Heap}{b:Addr}{o:Obj}(hb:b∈fp)(e:h.get? b=some o):(b,o)∈Jv fp h:=List.mem_filterMap.mpr ⟨b,hb,by rw[e];rfl⟩
theorem Za{fp:List Addr}{h:Heap}{p:Addr×Obj}(hp:p∈Jv fp h):p.1∈fp/\h.get? p.1=some p.2:=by
 obtain⟨b,hb,e⟩:=List.mem_filterMap.mp hp
 cases q:h.get? b with
 |none=>rw[q]at e;cases e
 |some o=>
  rw[q]at e
  have e':(b,o)=p:=Option.some.inj e
  subst e'
  exact⟨hb,q⟩
theorem Inv.pinned{pins:List (Addr×Obj)}{σ:St}{H:Hp}{s:Shared}{fp:List Addr}(I:Inv X pins σ H s)(hf:∀b∈fp,qK X pins H b)(ho:∀b∈fp,∃o,s.heap.get? b=some o/\∀v,o.data≠.cell v):Inv X (pins++Jv fp s.heap) σ H s:=
 I.Ig fun p hp=>(List.mem_append.mp hp).elim (fun z=>I.pin p (List.mem_append_right _ z)) fun z=>by
   obtain⟨hb,e⟩:=Za z
   obtain⟨f0,f1,f2,_⟩:=hf p.1 hb
   obtain⟨o,e',d⟩:=ho p.1 hb
   rw[e]at e';cases e'
   exact⟨e,f0,f1,f2,d⟩
theorem Inv.rY{pins pl:List (Addr×Obj)}{σ:St}{H:Hp}{s:Shared}(I:Inv X (pins++pl) σ H s):Inv X pins σ H s:=I.Ig fun p hp=>I.pin p (List.mem_append_right _ (List.mem_append_left _ hp))
theorem vp{iter:Expr}{body:List Stmt}{wi:TI}{g:TG}{tb:TS}{pos:Pos}(hp:PassesOwn (model X.prog X.w) X.A X.env X.xe)(hc:X.calm=true)(hi:PI X tg iter wi)(hg:PG X tg g)(hb:Vr X body tb)
 (hs:∀x,foldedSetIterable iter X.env x=pure x:=by intro _;rfl):PS X (.For tg iter body [] pos) (aj1 wi g tb):=by
 intro pins s σ H D I h
 refine wpAny_For (jK (hi pins s σ H _ I h) fun v s1 h1=>jK h1 fun itv s2 h2=>?_) hs
 obtain⟨it,fp,tn,J,H2,e,I2,T,st2,f2,W,⟨m0,w0⟩,turn⟩:=h2
 subst e
 have stat:∀{H':Hp},(∀b∈fp,H' b=none)->∀b∈fp,qK X pins H' b:=fun hn b hb=>⟨hn b hb,(f2 b hb).2⟩
 refine codeAny_forLoop_any (fun n s'=>∃i σ' H',Inv X pins σ' H' s'/\tn i s'.heap/\(∀b∈fp,H' b=none)/\W i n σ' H') ?_ m0 ⟨0,σ,H2,I2,st2,fun b hb=>(f2 b hb).1,w0⟩
 rintro n s3 ⟨i,σ3,H3,I3,st3,fr3,w3⟩
 rcases turn i n σ3 H3 w3 with⟨stop,qn⟩|⟨go,N,hN,step⟩
 ·refine wpAny_passesOwn hp (jK (T.done X rfl rfl rfl hc i pins s3 σ3 H3 X.xe I3 (stat fr3) st3 stop) fun r s4 ⟨hr,I4⟩=>?_)
  subst hr
  exact wpAny_execs_nil ⟨σ3,H3,I4,qn⟩
 ·refine wpAny_passesOwn hp (jK (T.item X rfl rfl rfl hc i pins s3 σ3 H3 X.xe I3 (stat fr3) st3 go) fun r s4 ⟨u,hr,h4⟩=>?_)
  subst hr
  refine wpAny_passesOwn hp (jK h4 fun _ s5 ⟨x,H5,I5,r5,y5,st5,fr5⟩=>?_)
  have I5':=I5.pinned (stat fr5) (T.obj _ _ st5)
  refine wpAny_passesOwn hp (jK (hg _ s5 σ3 H5 x u _ I5' r5 (step x H5 y5)) fun _ s6 ⟨σ6,H6,I6,q6⟩=>?_)
  refine wpAny_passesOwn hp (jK (hb _ s6 σ6 H6 _ I6 q6) fun f s7 q7=>?_)
  have again:∀{σ7:St}{H7:Hp},Inv X (pins++Jv fp s5.heap) σ7 H7 s7->N σ7 H7->∃m,m<n/\∃i σ' H',Inv X pins σ' H' s7/\tn i s7.heap/\(∀b∈fp,H' b=none)/\W i m σ' H':=fun{σ7 H7} I7 n7=>by
   obtain⟨m',hm,w7⟩:=hN σ7 H7 n7
   refine⟨m',hm,i+1,σ7,H7,I7.rY,T.keep _ _ _ st5 fun b hb o e=>(I7.pin (b,o) (List.mem_append_right _ (List.mem_append_right _ (Ao hb e)))).1,fun b hb=>?_,w7⟩
   obtain⟨o,e,d⟩:=T.obj _ _ st5 b hb
   exact(I7.pin (b,o) (List.mem_append_right _ (List.mem_append_right _ (Ao hb e)))).2.1
  cases f with
  |next=>obtain⟨σ7,H7,I7,n7⟩:=q7;exact again I7 n7
  |cont=>obtain⟨σ7,H7,I7,n7⟩:=q7;exact again I7 n7
  |brk=>obtain⟨σ7,H7,I7,q7⟩:=q7;exact⟨σ7,H7,I7.rY,q7⟩
  |ret v=>obtain⟨x7,σ7,H7,I7,r7,q7⟩:=q7;exact⟨x7,σ7,H7,I7.rY,r7,q7⟩
end
theorem abl{K:PySem.W.Frag}{a:Addr}{xs:List V}{g:TG}{tb:TS}{D:Ends}{σ:St}{H:Hp}(Pv:Nat->St->Hp->Prop)(h0:Pv 0 σ H)(hl:∀i σ H,i<=xs.length->Pv i σ H->cY K H a xs)
 (hs:∀i x σ H,xs[i]?=some x->Pv i σ H->g x σ H fun σ2 H2=>tb { D with nx:=Pv (i+1),ct:=Pv (i+1),bk:=D.nx } σ2 H2)(hd:∀σ H,Pv xs.length σ H->D.nx σ H):
 ∃W:Nat->Nat->St->Hp->Prop,(∃m,W 0 m σ H)/\∀i m σ H,W i m σ H->
  ((Itl K a).stop i H/\D.nx σ H)\/((Itl K a).go i H/\∃N:St->Hp->Prop,(∀σ' H',N σ' H'->∃m',m'<m/\W (i+1) m' σ' H')/\∀x H',(Itl K a).yld i H x H'->g x σ H' fun σ2 H2=>tb { D with nx:=N,ct:=N,bk:=D.nx } σ2 H2):=by
 refine⟨fun i m σ H=>m=xs.length-i/\i<=xs.length/\Pv i σ H,⟨xs.length,by simp,Nat.zero_le _,h0⟩,?_⟩
 rintro i m σ H ⟨rfl,hi,p⟩
 have q:=hl i σ H hi p
 by_cases hlt:i<xs.length
 ·refine .inr ⟨⟨xs,xs[i],q,by simp[hlt]⟩,Pv (i+1),fun σ' H' p'=>⟨xs.length-(i+1),by omega,rfl,hlt,p'⟩,fun x H' y=>?_⟩
  obtain⟨e,y⟩:=y
  subst e
  exact hs i x σ _ (y xs q) p
 ·have e:i=xs.length:=by omega
  subst e
  exact .inl ⟨⟨xs,q,Nat.le_refl _⟩,hd σ H p⟩
theorem Ec{lo:Int}{n:Nat}{g:TG}{tb:TS}{D:Ends}{σ:St}{H:Hp}(Pv:Nat->St->Hp->Prop)(h0:Pv 0 σ H)
 (hs:∀i σ H,i<n->Pv i σ H->g (.int (lo+i)) σ H fun σ2 H2=>tb { D with nx:=Pv (i+1),ct:=Pv (i+1),bk:=D.nx } σ2 H2)(hd:∀σ H,Pv n σ H->D.nx σ H):
 ∃W:Nat->Nat->St->Hp->Prop,(∃m,W 0 m σ H)/\∀i m σ H,W i m σ H->
  ((Ve lo n).stop i H/\D.nx σ H)\/((Ve lo n).go i H/\∃N:St->Hp->Prop,(∀σ' H',N σ' H'->∃m',m'<m/\W (i+1) m' σ' H')/\∀x H',(Ve lo n).yld i H x H'->g x σ H' fun σ2 H2=>tb { D with nx:=N,ct:=N,bk:=D.nx } σ2 H2):=by
 refine⟨fun i m σ H=>m=n-i/\i<=n/\Pv i σ H,⟨n,by simp,Nat.zero_le _,h0⟩,?_⟩
 rintro i m σ H ⟨rfl,hi,p⟩
 by_cases hlt:i<n
 ·refine .inr ⟨hlt,Pv (i+1),fun σ' H' p'=>⟨n-(i+1),by omega,rfl,hlt,p'⟩,fun x H' y=>?_⟩
  obtain⟨e,y⟩:=y
  subst e y
  exact hs i σ _ hlt p
 ·have e:i=n:=by omega
  subst e
  exact .inl ⟨Nat.le_refl _,hd σ H p⟩
theorem abm{c:TT}{tb:TS}{D:Ends}{σ:St}{H:Hp}(Pv:St->Hp->Prop)(μ:St->Hp->Nat)(h0:Pv σ H)
 (hs:∀σ H,Pv σ H->c σ H fun b H1=>if b=true then tb { D with nx:=fun σ' H'=>Pv σ' H'/\μ σ' H'<μ σ H,ct:=fun σ' H'=>Pv σ' H'/\μ σ' H'<μ σ H,bk:=D.nx } σ H1 else D.nx σ H1)
 (mono:∀σ H Q Q',(∀b H1,Q b H1->Q' b H1)->c σ H Q->c σ H Q'):Vt c tb D σ H:=by
 refine⟨fun m σ H=>m=μ σ H/\Pv σ H,⟨_,rfl,h0⟩,?_⟩
 rintro m σ H ⟨rfl,p⟩
 refine mono σ H _ _ (fun b H1 q=>?_) (hs σ H p)
 cases b with
 |true=>exact⟨_,fun σ' H' ⟨p',l⟩=>⟨_,l,rfl,p'⟩,q⟩
 |false=>exact q
end L2
namespace L2
open PySem PySem.Spec PyProof.Rows
abbrev R2:=V->V->Hp->VK->Prop
def Jw(X:Cx)(f:Value->Value->Sem Value)(r:R2):Prop:=
 ∀(pins:List (Addr×Obj))(s:Shared)(σ:St)(H:Hp)(x y:V)(v u:Value)(Q:VK),Inv X pins σ H s->RelV x v->RelV y u->r x y H Q->
  wpAny (model X.prog X.w) X.A (f v u) (EP X pins σ Q) X.xe s
def UnR(X:Cx)(f:Value->Sem Value)(r:V->Hp->VK->Prop):Prop:=
 ∀(pins:List (Addr×Obj))(s:Shared)(σ:St)(H:Hp)(x:V)(v:Value)(Q:VK),Inv X pins σ H s->RelV x v->r x H Q->
  wpAny (model X.prog X.w) X.A (f v) (EP X pins σ Q) X.xe s
def Xl(X:Cx)(f:Value)(r:List V->Hp->VK->Prop):Prop:=
 ∀(pins:List (Addr×Obj))(s:Shared)(σ:St)(H:Hp)(xs:List V)(us:List Value)(Q:VK),Inv X pins σ H s->Vals xs us->r xs H Q->
  wpAny (model X.prog X.w) X.A (call f us) (EP X pins σ Q) X.xe s
def tOp(r:R2)(ta tb:TE):TE:=fun σ H Q=>ta σ H fun x H1=>tb σ H1 fun y H2=>r x y H2 Q
def tUn(r:V->Hp->VK->Prop)(ta:TE):TE:=fun σ H Q=>ta σ H fun x H1=>r x H1 Q
def rI(C:Int->Int->Prop)(g:Int->Int->V):R2:=fun x y H Q=>∃i j,x=.int i/\y=.int j/\C i j/\Q (g i j) H
def rI0(g:Int->Int->V):R2:=fun x y H Q=>∃i j,x=.int i/\y=.int j/\Q (g i j) H
def rU(g:Int->V):V->Hp->VK->Prop:=fun x H Q=>∃i,x=.int i/\Q (g i) H
section
variable{X:Cx}{a b c:Expr}{ta tb tc:TE}{pos:Pos}
theorem ah8(ha:PE X a ta)(hb:PE X b tb){pins:List (Addr×Obj)}{s:Shared}{σ:St}{H:Hp}{R:V->V->Hp->Prop}(I:Inv X pins σ H s)
 (h:ta σ H fun x H1=>tb σ H1 fun y H2=>R x y H2){Q:Value->Shared->Prop}{f:Value->Value->Sem Value}
 (hf:∀v u s2 x y H2,Inv X pins σ H2 s2->RelV x v->RelV y u->R x y H2->wpAny (model X.prog X.w) X.A (f v u) Q X.xe s2):
 wpAny (model X.prog X.w) X.A (eval a X.env) (fun v s₁=>wpAny (model X.prog X.w) X.A (eval b X.env) (fun u s₂=>wpAny (model X.prog X.w) X.A (f v u) Q X.xe s₂) X.xe s₁) X.xe s:=by
 refine jK (ha pins s σ H _ I h) fun v s1 ⟨x,H1,I1,r1,q1⟩=>?_
 refine jK (hb pins s1 σ H1 _ I1 q1) fun u s2 ⟨y,H2,I2,r2,q2⟩=>?_
 exact hf v u s2 x y H2 I2 r1 r2 q2
theorem aM{op:Operator}{r:R2}(ho:Jw X (binaryOp op) r)(ha:PE X a ta)(hb:PE X b tb):PE X (.BinOp a op b pos) (tOp r ta tb):=by
 intro pins s σ H Q I h
 exact wpAny_BinOp (ah8 ha hb I h fun v u s2 x y H2 I2 rx ry q=>ho pins s2 σ H2 x y v u Q I2 rx ry q)
theorem ql{op:UnaryOp}{r:V->Hp->VK->Prop}(ho:UnR X (unaryOp op) r)(ha:PE X a ta):PE X (.UnaryOp op a pos) (tUn r ta):=by
 intro pins s σ H Q I h
 exact UnaryOp_ (jK (ha pins s σ H _ I h) fun v s1 ⟨x,H1,I1,r1,q1⟩=>ho pins s1 σ H1 x v Q I1 r1 q1)
theorem opI{f:Value->Value->Sem Value}{C:Int->Int->Prop}{g:Int->Int->Int}
 (rule:∀(i j:Int)(t u:Tok)(s:Shared)(Q:Value->Shared->Prop)(E:Value->Shared->Prop),C i j->Q (.int (g i j) s.toks) { s with toks:=s.toks+1 }->wpAny (model X.prog X.w) X.A (f (.int i t) (.int j u)) Q E s):
 Jw X f (rI C fun i j=> .int (g i j)):=by
 intro pins s σ H x y v u Q I rx ry h
 obtain⟨i,j,rfl,rfl,hc,q⟩:=h
 obtain⟨t,rfl⟩:=rx
 obtain⟨t',rfl⟩:=ry
 exact rule i j t t' s _ _ hc ⟨.int (g i j),H,I.tok _,⟨_,rfl⟩,q⟩
theorem aj2{f:Value->Value->Sem Value}{g:Int->Int->Int}
 (rule:∀(i j:Int)(t u:Tok)(s:Shared)(Q:Value->Shared->Prop)(E:Value->Shared->Prop),Q (.int (g i j) s.toks) { s with toks:=s.toks+1 }->wpAny (model X.prog X.w) X.A (f (.int i t) (.int j u)) Q E s):
 Jw X f (rI0 fun i j=> .int (g i j)):=by
 intro pins s σ H x y v u Q I rx ry h
 obtain⟨i,j,rfl,rfl,q⟩:=h
 obtain⟨t,rfl⟩:=rx
 obtain⟨t',rfl⟩:=ry
 exact rule i j t t' s _ _ ⟨.int (g i j),H,I.tok _,⟨_,rfl⟩,q⟩
theorem aeb{f:Value->Value->Sem Value}{g:Int->Int->Bool}
 (rule:∀(i j:Int)(t u:Tok)(s:Shared)(Q:Value->Shared->Prop)(E:Value->Shared->Prop),Q (.bool (g i j)) s->wpAny (model X.prog X.w) X.A (f (.int i t) (.int j u)) Q E s):
 Jw X f (rI0 fun i j=> .bl (g i j)):=by
 intro pins s σ H x y v u Q I rx ry h
 obtain⟨i,j,rfl,rfl,q⟩:=h
 obtain⟨t,rfl⟩:=rx
 obtain⟨t',rfl⟩:=ry
 exact rule i j t t' s _ _ ⟨.bl (g i j),H,I,rfl,q⟩
def aj3(i j:Int):Prop:=(-(2^64)<i/\i<2^64)\/(-(2^64)<j/\j<2^64)
theorem aj3.ok{i j:Int}(h:aj3 i j):IntMulOk i j:=by
 rcases h with⟨h1,h2⟩|⟨h1,h2⟩
 ·exact .of_left (intBits_le_64 h1 h2)
 ·exact .of_right (intBits_le_64 h1 h2)
theorem dX:Jw X (binaryOp .Add) (rI0 fun i j=> .int (i+j)):=aj2 fun _ _ _ _ _ _ _ q=>add_int q
theorem gA:Jw X (binaryOp .Sub) (rI0 fun i j=> .int (i-j)):=aj2 fun _ _ _ _ _ _ _ q=>sub_int q
theorem pX:Jw X (binaryOp .Mod) (rI (fun _ j=>j≠0) fun i j=> .int (i.fmod j)):=opI fun _ _ _ _ _ _ _ hc q=>mod_int' hc q
theorem unI{f:Value->Sem Value}{g:Int->Int}
 (rule:∀(i:Int)(t:Tok)(s:Shared)(Q:Value->Shared->Prop)(E:Value->Shared->Prop),Q (.int (g i) s.toks) { s with toks:=s.toks+1 }->wpAny (model X.prog X.w) X.A (f (.int i t)) Q E s):
 UnR X f (rU fun i=> .int (g i)):=by
 intro pins s σ H x v Q I rx h
 obtain⟨i,rfl,q⟩:=h
 obtain⟨t,rfl⟩:=rx
 exact rule i t s _ _ ⟨.int (g i),H,I.tok _,⟨_,rfl⟩,q⟩
theorem lX:UnR X (unaryOp .USub) (rU fun i=> .int (-i)):=unI fun _ _ _ _ _ q=>neg_int q
end
noncomputable def aj4:V->V->Bool
 |.non,.non=>true|.non,.int _=>true|.int _,.non=>true|.non,.bl _=>true|.bl _,.non=>true|.non,.str _=>true|.str _,.non=>true
 |.int _,.int _=>true|.bl _,.bl _=>true|.str _,.str _=>true|.Sw _,.Sw _=>true
 |.int _,.str _=>true|.str _,.int _=>true|.bl _,.str _=>true|.str _,.bl _=>true
 |_,_=>false
def rEq:R2:=fun x y H Q=>aj4 x y=true/\Q (.bl (decide (x=y))) H
def rNe:R2:=fun x y H Q=>aj4 x y=true/\Q (.bl (!decide (x=y))) H
theorem Xm{i j:Int}:decide (V.int i=V.int j)=(i==j):=by
 rw[Bool.eq_iff_iff]
 simp
theorem abn{i j:Bool}:decide (V.bl i=V.bl j)=(i==j):=by
 rw[Bool.eq_iff_iff]
 simp
theorem Xn{i j:Str}:decide (V.str i=V.str j)=(i==j):=by
 rw[Bool.eq_iff_iff]
 simp
theorem Xo{i j:Array UInt8}:decide (V.Sw i=V.Sw j)=(i.toList==j.toList):=by
 rw[Bool.eq_iff_iff]
 cases i
 cases j
 simp
section
variable{X:Cx}{a b c:Expr}{ta tb tc:TE}{pos:Pos}
theorem eX{pins:List (Addr×Obj)}{σ:St}{H:Hp}{s:Shared}{Q:VK}{k k':Bool}(I:Inv X pins σ H s)(q:Q (.bl k) H)(e:k=k'):EP X pins σ Q (.bool k') s:=by
 subst e
 exact⟨.bl k,H,I,rfl,q⟩
theorem lA:Jw X (compareOp .Eq) rEq:=by
 intro pins s σ H x y v u Q I rx ry h
 obtain⟨hs,q⟩:=h
 cases x with
 |non=>
  cases rx
  cases y with
  |non=>cases ry;exact PySem.EqNone.eq_none_none (eX I q (by simp))
  |bl j=>cases ry;exact PySem.EqNone.eq_none_bool (eX I q (by simp))
  |int j=>obtain⟨t',rfl⟩:=ry;exact PySem.EqNone.eq_none_int (eX I q (by simp))
  |str j=>obtain⟨t',rfl⟩:=ry;exact PySem.EqNone.eq_none_str (eX I q (by simp))
  |_=>exact absurd (show false=true from hs) Bool.false_ne_true
 |bl i=>
  cases rx
  cases y with
  |non=>cases ry;exact PySem.EqNone.eq_bool_none (eX I q (by simp))
  |bl j=>cases ry;exact eq_bool (eX I q abn)
  |str j=>obtain⟨t',rfl⟩:=ry;exact PySem.EqMixed.eq_bool_str (eX I q (by simp))
  |_=>exact absurd (show false=true from hs) Bool.false_ne_true
 |int i=>
  obtain⟨t,rfl⟩:=rx
  cases y with
  |non=>cases ry;exact PySem.EqNone.eq_int_none (eX I q (by simp))
  |int j=>obtain⟨t',rfl⟩:=ry;exact eq_int (eX I q Xm)
  |str j=>obtain⟨t',rfl⟩:=ry;exact PySem.EqMixed.eq_int_str (eX I q (by simp))
  |_=>exact absurd (show false=true from hs) Bool.false_ne_true
 |str i=>
  obtain⟨t,rfl⟩:=rx
  cases y with
  |non=>cases ry;exact PySem.EqNone.eq_str_none (eX I q (by simp))
  |bl j=>cases ry;exact PySem.EqMixed.eq_str_bool (eX I q (by simp))
  |int j=>obtain⟨t',rfl⟩:=ry;exact PySem.EqMixed.eq_str_int (eX I q (by simp))
  |str j=>obtain⟨t',rfl⟩:=ry;exact eq_str (eX I q Xn)
  |_=>exact absurd (show false=true from hs) Bool.false_ne_true
 |Sw i=>
  obtain⟨t,rfl⟩:=rx
  cases y with
  |Sw j=>obtain⟨t',rfl⟩:=ry;exact W.eq_bytes (eX I q Xo)
  |_=>exact absurd (show false=true from hs) Bool.false_ne_true
 |_=>cases y<;>exact absurd (show false=true from hs) Bool.false_ne_true
theorem xu:Jw X (compareOp .NotEq) rNe:=by
 intro pins s σ H x y v u Q I rx ry h
 obtain⟨hs,q⟩:=h
 cases x with
 |non=>
  cases rx
  cases y with
  |non=>cases ry;exact PySem.EqNone.ne_none_none (eX I q (by simp))
  |bl j=>cases ry;exact PySem.EqNone.ne_none_bool (eX I q (by simp))
  |int j=>obtain⟨t',rfl⟩:=ry;exact PySem.EqNone.ne_none_int (eX I q (by simp))
  |str j=>obtain⟨t',rfl⟩:=ry;exact PySem.EqNone.ne_none_str (eX I q (by simp))
  |_=>exact absurd (show false=true from hs) Bool.false_ne_true
 |bl i=>
  cases rx
  cases y with
  |non=>cases ry;exact PySem.EqNone.ne_bool_none (eX I q (by simp))
  |bl j=>cases ry;exact ne_bool (eX I q (congrArg not abn))
  |str j=>obtain⟨t',rfl⟩:=ry;exact PySem.EqMixed.ne_bool_str (eX I q (by simp))
  |_=>exact absurd (show false=true from hs) Bool.false_ne_true
 |int i=>
  obtain⟨t,rfl⟩:=rx
  cases y with
  |non=>cases ry;exact PySem.EqNone.ne_int_none (eX I q (by simp))
  |int j=>obtain⟨t',rfl⟩:=ry;exact ne_int (eX I q (congrArg not Xm))
  |str j=>obtain⟨t',rfl⟩:=ry;exact PySem.EqMixed.ne_int_str (eX I q (by simp))
  |_=>exact absurd (show false=true from hs) Bool.false_ne_true
 |str i=>
  obtain⟨t,rfl⟩:=rx
  cases y with
  |non=>cases ry;exact PySem.EqNone.ne_str_none (eX I q (by simp))
  |bl j=>cases ry;exact PySem.EqMixed.ne_str_bool (eX I q (by simp))
  |int j=>obtain⟨t',rfl⟩:=ry;exact PySem.EqMixed.ne_str_int (eX I q (by simp))
  |str j=>obtain⟨t',rfl⟩:=ry;exact ne_str (eX I q (congrArg not Xn))
  |_=>exact absurd (show false=true from hs) Bool.false_ne_true
 |Sw i=>
  obtain⟨t,rfl⟩:=rx
  cases y with
  |Sw j=>obtain⟨t',rfl⟩:=ry;exact W.ne_bytes (eX I q (congrArg not Xo))
  |_=>exact absurd (show false=true from hs) Bool.false_ne_true
 |_=>cases y<;>exact absurd (show false=true from hs) Bool.false_ne_true
theorem oM:Jw X (compareOp .Lt) (rI0 fun i j=> .bl (decide (i<j))):=aeb fun _ _ _ _ _ _ _ q=>lt_int q
theorem abo:Jw X (compareOp .LtE) (rI0 fun i j=> .bl (decide (i<=j))):=aeb fun _ _ _ _ _ _ _ q=>le_int q
theorem cZ:Jw X (compareOp .Gt) (rI0 fun i j=> .bl (decide (j<i))):=aeb fun _ _ _ _ _ _ _ q=>gt_int q
theorem ahf:Jw X (compareOp .GtE) (rI0 fun i j=> .bl (decide (j<=i))):=aeb fun _ _ _ _ _ _ _ q=>ge_int q
theorem rZ(b:Expr){op:CmpOp}(h:op≠.In:=by decide)(h2:op≠.NotIn:=by decide):behindInMarks op b=false:=by
 have e1:(op==CmpOp.In)=false:=by cases op<;>first|rfl|exact absurd rfl h
 have e2:(op==CmpOp.NotIn)=false:=by cases op<;>first|rfl|exact absurd rfl h2
 cases b<;>simp[behindInMarks,e1,e2]
theorem qX{op:CmpOp}{r:R2}(ho:Jw X (compareOp op) r)(ha:PE X a ta)(hb:PE X b tb)(hm:behindInMarks op b=false):PE X (.Compare a [op] [b] pos) (tOp r ta tb):=by
 intro pins s σ H Q I h
 exact wpAny_Compare1 (ah8 ha hb I h fun v u s2 x y H2 I2 rx ry q=>ho pins s2 σ H2 x y v u Q I2 rx ry q) hm
def abp(t:TE):TT:=fun σ H Q=>t σ H fun x H'=>∃k,x=.bl k/\Q k H'
theorem QK{op:CmpOp}{r:R2}(ho:Jw X (compareOp op) r)(ha:PE X a ta)(hb:PE X b tb)(hm:behindInMarks op b=false):PT X (.Compare a [op] [b] pos) (abp (tOp r ta tb)):=by
 intro pins s σ H Q I h
 refine wpAny_isTrue_Compare1 (jK (ha pins s σ H _ I h) fun v s1 ⟨x,H1,I1,r1,q1⟩=>jK (hb pins s1 σ H1 _ I1 q1) fun u s2 ⟨y,H2,I2,r2,q2⟩=>
  jK (ho pins s2 σ H2 x y v u _ I2 r1 r2 q2) fun c s3 ⟨z,H3,I3,r3,k,e,q3⟩=>?_) hm
 subst e
 cases r3
 exact wpAny_truthy_bool ⟨H3,I3,q3⟩
def abq(r r':R2)(ta tb tc:TE):TE:=fun σ H Q=>ta σ H fun x H1=>tb σ H1 fun y H2=>r x y H2 fun z H3=>∃k,z=.bl k/\
 (if k=true then tc σ H3 fun w' H4=>r' y w' H4 Q else Q (.bl false) H3)
theorem abr{op op':CmpOp}{r r':R2}(ho:Jw X (compareOp op) r)(ho':Jw X (compareOp op') r')(ha:PE X a ta)(hb:PE X b tb)(hc:PE X c tc)
 (hm:lastMarks [op,op'] [b,c]=false:=by with_unfolding_all rfl):PE X (.Compare a [op,op'] [b,c] pos) (abq r r' ta tb tc):=by
 intro pins s σ H Q I h
 refine Compare_chain (jK (ha pins s σ H _ I h) fun v s1 ⟨x,H1,I1,r1,q1⟩=>chain_link (jK (hb pins s1 σ H1 _ I1 q1) fun u s2 ⟨y,H2,I2,r2,q2⟩=>
  jK (ho pins s2 σ H2 x y v u _ I2 r1 r2 q2) fun d s3 ⟨z,H3,I3,r3,k,e,q3⟩=>?_)) hm
 subst e
 cases r3
 refine wpAny_truthy_bool ?_
 cases k with
 |false=>exact ite_ff ⟨.bl false,H3,I3,rfl,q3⟩
 |true=>exact ite_tt (chain_last (jK (hc pins s3 σ H3 _ I3 q3) fun w' s4 ⟨z',H4,I4,r4,q4⟩=>ho' pins s4 σ H4 y z' u w' Q I4 r2 r4 q4))
theorem Vv:(sizeLine:Nat)<2^63:=by rw[sizeLine_eq];decide
theorem vals1{x:V}{us:List Value}(r:Vals [x] us):∃u,us=[u]/\RelV x u:=by
 cases r with
 |cons r1 r2=>cases r2;exact⟨_,rfl,r1⟩
theorem nH:Xl X (.builtin "abs") (fun xs H Q=>∃i,xs=[.int i]/\Q (.int (if i<0 then -i else i)) H):=by
 intro pins s σ H xs us Q I r h
 obtain⟨i,rfl,q⟩:=h
 obtain⟨u,rfl,t,rfl⟩:=vals1 r
 exact call_abs_int fun u tk=>⟨.int (if i<0 then -i else i),H,I.tok _,⟨_,rfl⟩,q⟩
end
end L2
namespace L2
open PySem PySem.Spec PyProof.Rows
structure Vw(h:Heap)(x dx C:Addr)(mA:Str->Option Value):Prop where
 obj:h.get? x=some (W.instObj C dx)
 ns:h.Ns1 dx mA
 ne:dx≠x
theorem Zb{h:Heap}{dx:Addr}{mA:Str->Option Value}(n:h.Ns1 dx mA):∃od,h.get? dx=some od/\∀name,W.lookIn name od=some (mA name):=by
 obtain⟨o,es,ep,ho,hd,hk,_,hm⟩:=n
 refine⟨o,ho,fun name=>?_⟩
 have e:=hm name
 unfold nsFind findBy at e
 rw[<-Array.find?_toList]at e
 unfold W.lookIn
 rw[hd]
 dsimp only
 split
 ·rename_i y q
  rw[q]at e
  exact congrArg some e
 ·rename_i q
  rw[q]at e
  have a:es.toList.any (·.refKey)=false:=by
   rw[List.any_eq_false]
   intro y hy
   obtain⟨z,t,hkey⟩:=hk y (Array.mem_toList_iff.mp hy)
   simp[DictEntry.refKey,hkey]
  have a':¬es.toList.any (·.refKey)=true:=by rw[a];exact Bool.false_ne_true
  rw[if_neg a']
  exact congrArg some e
theorem Vw.look{h:Heap}{x dx C:Addr}{mA:Str->Option Value}(I:Vw h x dx C mA):∃od,W.InstAt h x (W.instObj C dx) C (some od)/\∀name,W.lookIn name od=some (mA name):=
 let⟨od,ho,hl⟩:=Zb I.ns
 ⟨od,⟨I.obj,rfl,rfl,ho⟩,hl⟩
section
variable{prog:Program}{w:World}{A:Around}{E:Value->Shared->Prop}{s:Shared}{K:W.Frag}{x dx C f:Addr}{mA:Str->Option Value}{name:Str}{v:Value}
theorem get_map{expr:Bool}{Q:Value->Shared->Prop}(X:K.In s.heap)(I:Vw s.heap x dx C mA)(hg:W.plainGet K C name=true)(hh:W.hasDictIn K C=true)
 (ha:W.findIn K (.ref C) name=some none)(hv:mA name=some v)(hv':W.handedIn v=true)(h:Q v { s with toks:=s.toks+1 }):
 wpAny (model prog w) A (getAttr (.ref x) name expr) Q E s:=by
 obtain⟨od,J,hl⟩:=I.look
 exact W.get_value X J (W.plainGet_of hg).1 (W.findObj_own hh ha rfl (by rw[hl,hv])) hv' h
theorem abt{pl:Sem Bool}{Q:Value×List Value->Shared->Prop}(X:K.In s.heap)(I:Vw s.heap x dx C mA)(hg:W.plainGet K C name=true)
 (hf:W.findIn K (.ref C) name=some (some (.ref f)))(ht:W.isFn K (.ref f)=true)(hv:mA name=none)(h:Q (.ref f,[.ref x]) s):
 wpAny (model prog w) A (getMethod (.ref x) name pl) Q E s:=by
 obtain⟨od,J,hl⟩:=I.look
 exact W.method_fn X J (W.plainGet_of hg).1 (W.plainGet_of hg).2 hf (beq_iff_eq.mp ht) (by show(W.lookIn name od).map (·.isSome)=some false;rw[hl,hv];rfl) h
theorem aec{ns:List Str}{Q:Unit->Shared->Prop}(X:K.In s.heap)(I:Vw s.heap x dx C mA)
 (hs:W.findIn K (.ref C) "__setattr__"=some (some (.builtin "object.__setattr__")))(hp:W.plainOver K C=true)(ht:W.takerIn K C name=some none)(hh:W.hasDictIn K C=true)
 (hw:PySem.Within mA ns)(hsz:ns.length<=sizeLine)
 (h:∀h',Vw h' x dx C (fun y=>if y=name then some v else mA y)->Heap.SameBut dx s.heap h'->Q () { s with heap:=h',toks:=s.toks+2 }):
 wpAny (model prog w) A (setAttr (.ref x) name v) Q E s:=by
 obtain⟨od,J,hl⟩:=I.look
 refine W.set_plain X J hs (W.osa_open (s:={ s with toks:=s.toks+1 }) (r:=none) X J hp ht fun b=>?_)
 obtain⟨cd,hc,hd'⟩:=W.any_some hh
 have hx:s.heap.get? x=some ⟨.ref C,some dx,.plain,#[]⟩:=I.obj
 refine wpAny_bind (wpAny_pure (wpAny_bind (wpAny_bind (wpAny_loadPart hx (wpAny_bind (W.Looks.here (s:={ s with toks:=s.toks+1 }) (W.looks_clsIn X hc) ?_))))))
 rw[hd']
 refine wpAny_pure (a:=some dx) (wpAny_bind (wpAny_pure (wpAny_bind ?_)))
 refine wpAny_nsSet1 (s:={ s with toks:=s.toks+1 }) I.ns fun h' hn2 hs2=>?_
 obtain⟨oD,esD,epD,hoD,hdD,hcD⟩:=hn2.count (PySem.Within.cons name v hw)
 refine wpAny_bind (wpAny_lookBehind hoD (by rw[hdD];exact pastItsLine_dict (Nat.le_trans hcD (by rw[List.length_cons];omega))) ?_)
 exact wpAny_pure (h _ ⟨(hs2.2 _ (Ne.symm I.ne)).trans I.obj,hn2,I.ne⟩ hs2)
theorem abu{R:Result->Shared->Prop}{vs:List Value}{kw:List (Str×Value)}(X:K.In s.heap)(hm:W.makesIn K C=true)
 (hi:W.findIn K (.ref C) "__init__"=some (some (.ref f)))(hf:W.typeIn K (.ref f)=some (.type "function"))
 (h:codeAny (model prog w) (A.under (.builtin "type.__call__" ⟨.ref C::vs,kw⟩)) (.call (.ref f) ⟨.ref (s.heap.objs.size+1)::vs,kw⟩) (W.InitBack (s.heap.objs.size+1) R)
   { s with heap:=(s.heap.push W.emptyDict).push (W.instObj C s.heap.objs.size) }):
 codeAny (model prog w) A (.call (.ref C) ⟨vs,kw⟩) R s:=by
 obtain⟨hh,g,d,t,os⟩:=s
 exact W.make_core (W.makes_of X hm) (W.looks_findIn X hi) (fun self=>W.bind_fn X self hf) (.inl rfl) h
end
noncomputable def o9(f:Str)(v:V):List (Str×V)->List (Str×V)
 |[]=>[(f,v)]
 |(g,x)::r=>if g=f then(g,v)::r else(g,x)::o9 f v r
theorem Gq(f g:Str)(v:V):∀fs:List (Str×V),(o9 f v fs).lookup g=if g=f then some v else fs.lookup g
 |[]=>by
  show List.lookup g [(f,v)]=_
  by_cases h:g=f
  ·have hb:(g==f)=true:=beq_iff_eq.mpr h
   simp only[List.lookup,hb,if_pos h]
  ·have hb:(g==f)=false:=beq_eq_false_iff_ne.mpr h
   simp only[List.lookup,hb,if_neg h]
 |(k,x)::r=>by
  have ih:=Gq f g v r
  rw[show o9 f v ((k,x)::r)=(if k=f then(k,v)::r else(k,x)::o9 f v r)from rfl]
  by_cases hk:k=f
  ·rw[if_pos hk]
   by_cases h:g=k
   ·have hb:(g==k)=true:=beq_iff_eq.mpr h
    simp only[List.lookup,hb,if_pos (h.trans hk)]
   ·have hb:(g==k)=false:=beq_eq_false_iff_ne.mpr h
    simp only[List.lookup,hb,if_neg (fun e:g=f=>h (e.trans hk.symm))]
  ·rw[if_neg hk]
   by_cases h:g=k
   ·have hb:(g==k)=true:=beq_iff_eq.mpr h
    simp only[List.lookup,hb,if_neg (fun e:g=f=>hk (h.symm.trans e))]
   ·have hb:(g==k)=false:=beq_eq_false_iff_ne.mpr h
    simp only[List.lookup,hb]
    exact ih
theorem Ed(f:Str)(v:V):∀fs:List (Str×V),f∈(o9 f v fs).map (·.1)/\∀g,g∈fs.map (·.1)->g∈(o9 f v fs).map (·.1)
 |[]=>⟨by simp[o9],fun g h=>by simp at h⟩
 |(k,x)::r=>by
  obtain⟨i1,i2⟩:=Ed f v r
  rw[show o9 f v ((k,x)::r)=(if k=f then(k,v)::r else(k,x)::o9 f v r)from rfl]
  by_cases hk:k=f
  ·rw[if_pos hk]
   subst hk
   exact⟨by simp,fun g h=>by simpa using h⟩
  ·rw[if_neg hk]
   refine⟨?_,fun g h=>?_⟩
   ·rw[List.map_cons]
    exact List.mem_cons_of_mem _ i1
   ·rw[List.map_cons]at h⊢
    rcases List.mem_cons.mp h with e|e
    ·exact List.mem_cons.mpr (.inl e)
    ·exact List.mem_cons_of_mem _ (i2 g e)
theorem Gs(f:Str)(v:V):∀fs:List (Str×V),(o9 f v fs).length<=fs.length+1
 |[]=>by simp[o9]
 |(k,x)::r=>by
  have ih:=Gs f v r
  rw[show o9 f v ((k,x)::r)=(if k=f then(k,v)::r else(k,x)::o9 f v r)from rfl]
  by_cases hk:k=f
  ·rw[if_pos hk,List.length_cons,List.length_cons];omega
  ·rw[if_neg hk,List.length_cons,List.length_cons];omega
theorem wM.some_of{v:V}{o:Option Value}(r:wM (some v) o):∃u,o=some u/\RelV v u:=by
 cases o with
 |none=>exact(show False from r).elim
 |some u=>exact⟨u,rfl,r⟩
theorem wM.none_of{o:Option Value}(r:wM none o):o=none:=by
 cases o with
 |none=>rfl
 |some u=>exact(show False from r).elim
theorem Zc{v:V}{u:Value}(r:RelV v u):W.handedIn u=true:=by
 cases v with
 |non=>cases(show u=Value.none from r);rfl
 |bl b=>cases(show u=Value.bool b from r);rfl
 |int i=>obtain⟨t,e⟩:=(show∃t,u=Value.int i t from r);cases e;rfl
 |str x=>obtain⟨t,e⟩:=(show∃t,u=Value.str x t from r);cases e;rfl
 |Sw b=>obtain⟨t,e⟩:=(show∃t,u=Value.bytes b t from r);cases e;rfl
 |flt b=>obtain⟨t,e⟩:=(show∃t,u=Value.float b t from r);cases e;rfl
 |ref a=>cases(show u=Value.ref a from r);rfl
 |ty n=>cases(show u=Value.type n from r);rfl
section
variable{P:Program}{w:World}{H H':Hp}{h h':Heap}{a C dx:Addr}{fs fs':List (Str×V)}
theorem QL(hok:wV P w H h)(e:H a=some (.ins C dx fs)):∃mA,Vw h a dx C mA/\(∀f,wM (fs.lookup f) (mA f))/\PySem.Within mA (fs.map (·.1))/\fs.length<=1000/\H dx=some (.own a):=by
 obtain⟨d,z,ne,ob,mA,n,r,q⟩:=(show jQ P w H h a (.ins C dx fs)from hok a _ e)
 exact⟨mA,⟨ob,n,ne⟩,r,q,z,d⟩
end
structure Cls(K:W.Frag)(C:Addr):Prop where
 pg:W.plainGet K C Str.empty=true
 hd:W.hasDictIn K C=true
 po:W.plainOver K C=true
 sa:W.findIn K (.ref C) "__setattr__"=some (some (.builtin "object.__setattr__"))
theorem Cls.get{K:W.Frag}{C:Addr}(c:Cls K C)(f:Str):W.plainGet K C f=true:=c.pg
def jU(K:W.Frag)(C:Addr)(f:Str):Prop:=W.findIn K (.ref C) f=some none
theorem jU.taker{K:W.Frag}{C:Addr}{f:Str}(n:jU K C f):W.takerIn K C f=some none:=by
 unfold W.takerIn
 rw[show W.findIn K (.ref C) f=some none from n]
 rfl
structure Meth(K:W.Frag)(C:Addr)(m:Str)(f:Addr):Prop where
 at_:W.findIn K (.ref C) m=some (some (.ref f))
 fn:W.isFn K (.ref f)=true
 kp:W.keepIn K (.ref f)=true
section
variable{X:Cx}{pins:List (Addr×Obj)}{σ:St}{H:Hp}{s:Shared}{a C dx:Addr}{fs:List (Str×V)}{f:Str}{v:V}{A:Around}{E:Value->Shared->Prop}
theorem Aq{b:Bool}{Q:Value->Shared->Prop}(I:Inv X pins σ H s)(e:H a=some (.ins C dx fs))(c:Cls X.K C)(n:jU X.K C f)(l:fs.lookup f=some v)
 (h:∀u s',Inv X pins σ H s'->RelV v u->Q u s'):wpAny (model X.prog X.w) A (getAttr (.ref a) f b) Q E s:=by
 obtain⟨mA,O,r,_,_,_⟩:=QL I.hok e
 obtain⟨u,hu,ru⟩:=wM.some_of (v:=v) (o:=mA f) (by rw[<-l];exact r f)
 exact get_map I.RN O (c.get f) c.hd n hu (Zc ru) (h u _ (I.tok _) ru)
theorem Jx{m:Str}{g:Addr}{pl:Sem Bool}{Q:Value×List Value->Shared->Prop}(I:Inv X pins σ H s)(e:H a=some (.ins C dx fs))(c:Cls X.K C)(k:Meth X.K C m g)(l:fs.lookup m=none)
 (h:Q (.ref g,[.ref a]) s):wpAny (model X.prog X.w) A (getMethod (.ref a) m pl) Q E s:=by
 obtain⟨mA,O,r,_,_,_⟩:=QL I.hok e
 have hn:mA m=none:=wM.none_of (by rw[<-l];exact r m)
 exact abt I.RN O (c.get m) k.at_ k.fn hn h
theorem Vx{y:V}{u:Value}{Q:Unit->Shared->Prop}(I:Inv X pins σ H s)(e:H a=some (.ins C dx fs))(c:Cls X.K C)(n:jU X.K C f)(hl:fs.length<1000)(ry:RelV y u)
 (h:∀s',Inv X pins σ (upd H a (.ins C dx (o9 f y fs))) s'->Q () s'):wpAny (model X.prog X.w) A (setAttr (.ref a) f u) Q E s:=by
 obtain⟨mA,O,r,wi,_,ho⟩:=QL I.hok e
 have hz:(fs.map (·.1)).length<=sizeLine:=by rw[List.length_map,sizeLine_eq];omega
 refine aec I.RN O c.sa c.po n.taker c.hd wi hz fun h' O' sb=>h _ ?_
 have hd:∃o,h'.get? dx=some o:=let⟨o,_,_,e',_⟩:=O'.ns;⟨o,e'⟩
 refine I.write (x:=a) (e:=dx) (by rw[e];exact True.intro) (.inr ho) (fun b q hb z=>(sb.2 b hb).trans z) hd ?_
 refine⟨by rw[aH O.ne];exact ho,?_,O.ne,O'.obj,_,O'.ns,fun g=>?_,fun g hg=>?_⟩
 ·have:=Gs f y fs;omega
 ·show wM ((o9 f y fs).lookup g) (if g=f then some u else mA g)
  rw[Gq]
  by_cases q:g=f
  ·rw[if_pos q,if_pos q];exact ry
  ·rw[if_neg q,if_neg q];exact r g
 ·by_cases q:g=f
  ·rw[q];exact(Ed f y fs).1
  ·refine(Ed f y fs).2 g (wi g fun z=>hg ?_)
   show(if g=f then some u else mA g)=none
   rw[if_neg q];exact z
theorem Inv.made(I:Inv X pins σ H s):Inv X pins σ (upd (upd H s.heap.objs.size (.own (s.heap.objs.size+1))) (s.heap.objs.size+1) (.ins C s.heap.objs.size []))
 { s with heap:=(s.heap.push W.emptyDict).push (W.instObj C s.heap.objs.size) }:=by
 have e1:(s.heap.push W.emptyDict).get? s.heap.objs.size=some W.emptyDict:=Heap.get?_push_size s.heap rfl
 have e2:((s.heap.push W.emptyDict).push (W.instObj C s.heap.objs.size)).get? (s.heap.objs.size+1)=some (W.instObj C s.heap.objs.size):=by
  have:=Heap.get?_push_size (s.heap.push W.emptyDict) (o:=W.instObj C s.heap.objs.size) rfl
  rwa[Heap.size_push]at this
 have e3:(s.heap.push W.emptyDict).Ns s.heap.objs.size (fun _=>none):=⟨W.emptyDict,#[],_,e1,rfl,(fun e he=>absurd he (by simp)),fun _=>rfl⟩
 have I1:=I.laid (a:=s.heap.objs.size) (o:=.own (s.heap.objs.size+1)) (h':=s.heap.push W.emptyDict) (t':=s.toks) (fun b u q=>Heap.get?_push_of_some _ q) (Nat.le_refl _) ⟨_,e1⟩
 refine I1.laid (a:=s.heap.objs.size+1) (o:=.ins C s.heap.objs.size []) (t':=s.toks) (fun b u q=>Heap.get?_push_of_some _ q) (Nat.le_of_eq (Heap.size_push _ _)) ?_
 have ne:s.heap.objs.size≠s.heap.objs.size+1:=Nat.ne_of_lt (Nat.lt_succ_self _)
 refine⟨by rw[aH ne,aG],Nat.zero_le _,ne,e2,fun _=>none,(Heap.Ns1.of_empty e3).at fun o q=>Heap.get?_push_of_some _ q,fun _=>True.intro,fun y hy=>absurd rfl hy⟩
theorem QM{prog:Program}{w:World}{env:Env}{e:Expr}{f:Str}{pos:Pos}{s:Shared}{Q:Value->Shared->Prop}(hb:attributeBase e f env (eval e env)=eval e env)
 (h:wpAny (model prog w) A (eval e env) (fun o s₁=>wpAny (model prog w) A (getAttr o f true) Q E s₁) E s):wpAny (model prog w) A (eval (.Attribute e f pos) env) Q E s:=
 Attribute_any_ h (by rw[arm_eval_Attribute,hb])
end
def aj5(K:W.Frag)(ta tv:TE)(f:Str):TS:=fun D σ H=>tv σ H fun y H1=>ta σ H1 fun x H2=>∃a C dx fs,x=.ref a/\H2 a=some (.ins C dx fs)/\Cls K C/\jU K C f/\fs.length<1000/\
 D.nx σ (upd H2 a (.ins C dx (o9 f y fs)))
section
variable{X:Cx}{o e value:Expr}{f:Str}{pos pos' tpos:Pos}{ta tv:TE}
theorem lY(ha:PE X o ta)(hv:PE X value tv)(hs:swapsWith value (some (.Attribute o f pos')) pos.line X.env=pure false):PS X (.Assign [.Attribute o f pos'] value pos) (aj5 X.K ta tv f):=by
 intro pins s σ H D I h
 refine plainObj_wpAny_Assign_Attribute (jK (hv pins s σ H _ I h) fun u s1 ⟨y,H1,I1,ry,q⟩=>jK (ha pins s1 σ H1 _ I1 q) fun ov s2 ⟨x,H2,I2,rx,a,C,dx,fs,ex,ea,c,n,l,q2⟩=>?_) hs
 subst ex
 obtain rfl:ov=Value.ref a:=rx
 exact Vx I2 ea c n l ry fun s3 I3=>⟨σ,_,I3,q2⟩
end
section
variable{X:Cx}{pins:List (Addr×Obj)}{σ:St}{H:Hp}{s:Shared}{A:Around}{E:Value->Shared->Prop}{Q:Value->Shared->Prop}{c:Value}{b:Bool}
end
end L2
namespace L2
open PySem PySem.Spec PyProof.Rows
structure lU(k:Nat)(A:Around):Prop where
 hd:A.handled=none
 dp:A.depth+3*k+5<recursionLimit
 un:A.units+16*k+200<cLine
theorem lU.mono{j k:Nat}{A:Around}(r:lU k A)(h:j<=k):lU j A:=⟨r.hd,by have:=r.dp;omega,by have:=r.un;omega⟩
theorem lU.deeper{k:Nat}{A:Around}(r:lU (k+1) A)(env:Env):lU k (A.deeper env):=
 ⟨r.hd,by have:=r.dp;show A.depth+1+3*k+5<_;omega,by have:=r.un;show A.units+3+16*k+200<_;omega⟩
theorem lU.in1{k:Nat}{A:Around}(r:lU (k+1) A):lU k A.in1:=
 ⟨r.hd,by have:=r.dp;show A.depth+3*k+5<_;omega,by have:=r.un;show A.units+1+16*k+200<_;omega⟩
theorem Vy{A:Around}{C:Addr}{us:List Value}{kw:List (Str×Value)}:(A.under (.builtin "type.__call__" ⟨.ref C::us,kw⟩)).depth=A.depth+1:=by
 first|rfl|simp[Around.under,Code.weight,Code.isCreation,Code.isGuard,Code.isCaller,Code.frames,Code.isFrame,guardIds]
theorem Vz{A:Around}{C:Addr}{us:List Value}{kw:List (Str×Value)}:(A.under (.builtin "type.__call__" ⟨.ref C::us,kw⟩)).units=A.units+1:=by
 first|rfl|simp[Around.under,Code.cUnits,Code.frames,Code.isFrame]
theorem lU.make{k:Nat}{A:Around}(r:lU (k+1) A)(C:Addr)(us:List Value)(kw:List (Str×Value)):lU k (A.under (.builtin "type.__call__" ⟨.ref C::us,kw⟩)):=
 ⟨r.hd,by have:=r.dp;rw[Vy];omega,by have:=r.un;rw[Vz];omega⟩
theorem lU.depth{k:Nat}{A:Around}(r:lU k A):A.depth<recursionLimit:=by have:=r.dp;omega
theorem lU.units{k:Nat}{A:Around}(r:lU k A):A.units+64<cLine:=by have:=r.un;omega
def VB:TA:=fun _ H Q=>Q [] H
def Gu(ta:TE)(tr:TA):TA:=fun σ H Q=>ta σ H fun x H1=>tr σ H1 fun xs H2=>Q (x::xs) H2
section
variable{X:Cx}{e:Expr}{es:List Expr}{te:TE}{t:TA}{pos:Pos}
theorem lZ:PA X [] VB:=fun _ _ _ _ H Q I h=>Calls.spliced_nil ⟨[],H,I,.nil,h⟩
theorem cU(ha:PE X e te)(hr:PA X es t)(hs:starEach (e::es) X.env=(false,eval e X.env)::starEach es X.env:=by rfl):PA X (e::es) (Gu te t):=by
 intro pos pins s σ H Q I h
 rw[hs]
 show wpAny _ _ (spliced ((false,eval e X.env)::backTo pos (starEach es X.env))) _ _ s
 refine Calls.spliced_cons (jK (ha pins s σ H _ I h) fun u s1 ⟨x,H1,I1,r1,q1⟩=>?_)
 exact jK (hr pos pins s1 σ H1 _ I1 q1) fun us s2 ⟨xs,H2,I2,r2,q2⟩=>⟨x::xs,H2,I2,.cons r1 r2,q2⟩
def aj6(t:TA):TE:=fun σ H Q=>t σ H fun xs H1=>xs.length<=sizeLine/\∀p,H1 p=none->Q (.ref p) (upd H1 p (.tup xs))
def aj7(t:TA):TE:=fun σ H Q=>t σ H fun xs H1=>xs.length<=sizeLine/\∀p,H1 p=none->Q (.ref p) (upd H1 p (.lst xs))
theorem VD{x1}(h:PA X es t):PE X (.Tuple es x1 pos) (aj6 t):=by
 intro pins s σ H Q I hq
 refine wpAny_Tuple_spliced (jK (h pos pins s σ H _ I hq) fun us s1 ⟨xs,H1,I1,r,z,q⟩=>⟨by rw[<-r.length];exact z,?_⟩)
 have hf:H1 s1.heap.objs.size=none:=I1.hok.fresh (Nat.le_refl _)
 refine⟨.ref s1.heap.objs.size,upd H1 s1.heap.objs.size (.tup xs),I1.laid (t':=s1.toks) (fun b u e=>Heap.get?_push_of_some _ e) (Nat.le_refl _) ?_,rfl,q _ hf⟩
 exact⟨z,us,r,⟨_,Heap.get?_push_size _ rfl,rfl,_,rfl⟩⟩
theorem aO(h:PA X es t):PE X (.List es pos) (aj7 t):=by
 intro pins s σ H Q I hq
 refine wpAny_List_spliced (jK (h pos pins s σ H _ I hq) fun us s1 ⟨xs,H1,I1,r,z,q⟩=>⟨by rw[<-r.length];exact z,?_⟩)
 have hf:H1 s1.heap.objs.size=none:=I1.hok.fresh (Nat.le_refl _)
 refine⟨.ref s1.heap.objs.size,upd H1 s1.heap.objs.size (.lst xs),I1.laid (t':=s1.toks) (fun b u e=>Heap.get?_push_of_some _ e) (Nat.le_refl _) ?_,rfl,q _ hf⟩
 exact⟨z,us,0,r,Heap.get?_push_size _ rfl⟩
end
abbrev Sp:=List V->Hp->VK->XK->Prop
abbrev CXT:=List Env->Hp->Shared->XK->Value->Shared->Prop
structure Mv(P:Program)(w:World)(K:W.Frag)(mg:Str->Option Value)(base:Heap)(A:Around)(outer:List Env)(s:Shared)(H:Hp):Prop where
 frames:A.frames=some outer
 mod:Mod K mg base
 bs:∀b o,base.get? b=some o->s.heap.get? b=some o/\H b=none
 Y8:base.objs.size<=s.heap.objs.size
 Cg:s.heap.FunFrames base outer
 frf:∀b∈frs outer,H b=none
 hok:wV P w H s.heap
 bare:AllBare s.gens
def CE(outer:List Env)(P:Program)(w:World)(H:Hp)(s:Shared)(Q:VK)(u:Value)(s':Shared):Prop:=
 ∃v H',s'.os=s.os/\AllBare s'.gens/\Un (frs outer) [] H H' s.heap s'.heap/\wV P w H' s'.heap/\RelV v u/\Q v H'
def CR(CX:CXT)(outer:List Env)(P:Program)(w:World)(H:Hp)(s:Shared)(Q:VK)(E:XK)(r:Result)(s':Shared):Prop:=
 match r with
 |.ok (.ret u)=>CE outer P w H s Q u s'
 |.ok _=>False
 |.error e=>CX outer H s E e s'
structure bf(P:Program)(w:World)(K:W.Frag)(mg:Str->Option Value)(base:Heap)(CX:CXT)(k:Nat)(f:Addr)(fd:FuncData)(ps:List Str)(sp:Sp):Prop where
 len:∀vs H Q E,sp vs H Q E->vs.length=ps.length
 run:∀(A:Around)(outer:List Env)(s:Shared)(H:Hp)(args:Args)(us:List Value)(vs:List V)(Q:VK)(E:XK),lU k A->Mv P w K mg base A outer s H->BindsTo s fd args (ps.zip us)->Vals vs us->sp vs H Q E->
  codeAny (model P w) A (.call (.ref f) args) (CR CX outer P w H s Q E) s
theorem bf.mono{P:Program}{w:World}{K:W.Frag}{mg:Str->Option Value}{base:Heap}{CX:CXT}{j k:Nat}{f:Addr}{fd:FuncData}{ps:List Str}{sp:Sp}(F:bf P w K mg base CX j f fd ps sp)(h:j<=k):
 bf P w K mg base CX k f fd ps sp:=⟨F.len,fun A outer s H args us vs Q E hr=>F.run A outer s H args us vs Q E (hr.mono h)⟩
theorem bf.imp{P:Program}{w:World}{K:W.Frag}{mg:Str->Option Value}{base:Heap}{CX:CXT}{k:Nat}{f:Addr}{fd:FuncData}{ps:List Str}{sp sp':Sp}(F:bf P w K mg base CX k f fd ps sp)
 (h:∀vs H Q E,sp' vs H Q E->sp vs H Q E):bf P w K mg base CX k f fd ps sp':=
 ⟨fun vs H Q E q=>F.len vs H Q E (h _ _ _ _ q),fun A outer s H args us vs Q E hr he hb hv hs=>F.run A outer s H args us vs Q E hr he hb hv (h _ _ _ _ hs)⟩
theorem Mv.make{P:Program}{w:World}{K:W.Frag}{mg:Str->Option Value}{base:Heap}{A:Around}{outer:List Env}{s:Shared}{H:Hp}(e:Mv P w K mg base A outer s H)(C:Addr)(us:List Value)(kw:List (Str×Value)):
 Mv P w K mg base (A.under (.builtin "type.__call__" ⟨.ref C::us,kw⟩)) outer s H:=⟨by first|exact e.frames|(simpa[Around.under,Code.envs,Code.isFrame,pushEnvs]using e.frames),e.mod,e.bs,e.Y8,e.Cg,e.frf,e.hok,e.bare⟩
theorem Mv.in1{P:Program}{w:World}{K:W.Frag}{mg:Str->Option Value}{base:Heap}{A:Around}{outer:List Env}{s:Shared}{H:Hp}(e:Mv P w K mg base A outer s H):
 Mv P w K mg base A.in1 outer s H:=⟨e.frames,e.mod,e.bs,e.Y8,e.Cg,e.frf,e.hok,e.bare⟩
section
variable{X:Cx}{pins:List (Addr×Obj)}{σ:St}{H:Hp}{s s':Shared}
theorem Inv.env0(I:Inv X pins σ H s):Mv X.prog X.w X.K X.mg X.base X.A X.stack s H:=
 ⟨I.ok.frames,I.ok.mod,I.bs,Nat.le_trans I.ok.Y8 I.sz,I.stack,I.QF,I.hok,I.bare⟩
theorem Inv.after{Q:VK}{u:Value}(I:Inv X pins σ H s)(h:CE X.stack X.prog X.w H s Q u s'):EP X pins σ Q u s':=by
 obtain⟨v,H',os,bare,un,hok,r,q⟩:=h
 obtain⟨hh,g,d,t,os'⟩:=s'
 obtain rfl:os'=s.os:=os
 exact⟨v,H',I.call (h':=hh) (g':=g) (d':=d) (t':=t) (ch:=[]) un hok bare (fun b z=>absurd z (by simp)),r,q⟩
end
def abw(sp:Sp)(wj:List V)(E:XK)(t:TA):TE:=fun σ H Q=>t σ H fun vs H1=>sp (vs++wj) H1 Q E
def abx(C:Addr)(m:Str)(sp:Sp)(wj:List V)(E:XK)(ta:TE)(t:TA):TE:=fun σ H Q=>ta σ H fun x H1=>∃a dx fs,x=.ref a/\H1 a=some (.ins C dx fs)/\fs.lookup m=none/\
 t σ H1 fun vs H2=>sp (x::(vs++wj)) H2 Q E
def Ow(C:Addr)(sp:Sp)(wj:List V)(E:XK)(t:TA):TE:=fun σ H Q=>t σ H fun vs H1=>∀x dx,H1 x=none->H1 dx=none->dx≠x->
 sp (.ref x::(vs++wj)) (upd (upd H1 dx (.own x)) x (.ins C dx [])) (fun v H2=>v=.non/\Q (.ref x) H2) E
def Binds(K:W.Frag)(fd:FuncData)(ps:List Str)(ds:List Value):Prop:=
 ∀(s:Shared)(us:List Value),K.In s.heap->(us++ds).length=ps.length->BindsTo s fd ⟨us,[]⟩ (ps.zip (us++ds))
theorem Binds.all{K:W.Frag}{fd:FuncData}{ps:List Str}(h:∀us:List Value,us.length=ps.length->bindArgs fd ⟨us,[]⟩=pure (ps.zip us)):Binds K fd ps []:=fun s us _ hl=>by
 rw[List.append_nil]at hl⊢
 exact .of_eq (h us hl)
def Passes(CX:CXT)(X:Cx)(E:XK):Prop:=∀(pins:List (Addr×Obj))(σ:St)(H:Hp)(s:Shared)(e:Value)(s':Shared),Inv X pins σ H s->CX X.stack H s E e s'->X.xe e s'
section
variable{X:Cx}{CX:CXT}{k:Nat}{f C:Addr}{fd:FuncData}{ps:List Str}{sp:Sp}{wj:List V}{ds:List Value}{E:XK}{x m:Str}{p pos apos:Pos}{e o:Expr}{es:List Expr}{ta:TE}{t:TA}
theorem QS{pins:List (Addr×Obj)}{σ:St}{H:Hp}{s:Shared}{Q:VK}{us:List Value}{vs:List V}(F:bf X.prog X.w X.K X.mg X.base CX k f fd ps sp)(hr:lU k X.A)(hb:Binds X.K fd ps ds)(hd:Vals wj ds)(hx:Passes CX X E)
 (I:Inv X pins σ H s)(r:Vals vs us)(h:sp (vs++wj) H Q E):wpAny (model X.prog X.w) X.A (call (.ref f) us) (EP X pins σ Q) X.xe s:=by
 have r2:Vals (vs++wj) (us++ds):=r.append hd
 have hl:(us++ds).length=ps.length:=by rw[<-r2.length];exact F.len _ _ _ _ h
 refine wpAny_call (codeAny_mono (F.run X.A X.stack s H ⟨us,[]⟩ (us++ds) (vs++wj) Q E hr I.env0 (hb s us I.RN hl) r2 h) fun r s' hq=>?_)
 cases r with
 |error e=>exact hx pins σ H s e s' I hq
 |ok fl=>
  cases fl with
  |ret u=>exact I.after hq
  |next=>exact False.elim hq
  |brk=>exact False.elim hq
  |cont=>exact False.elim hq
theorem Ci(F:bf X.prog X.w X.K X.mg X.base CX k f fd ps sp)(hr:lU k X.A)(hg:Gl X x)(hm:X.mg x=some (.ref f))(hk:W.keepIn X.K (.ref f)=true)(hb:Binds X.K fd ps ds)(hd:Vals wj ds)(hx:Passes CX X E)
 (ha:PA X (e::es) t)(hdb:(x==("__debug__":Str))=false:=by decide)(he:starEach (e::es) X.env=(false,eval e X.env)::starEach es X.env:=by rfl)(hpl:(backTo pos (starEach es X.env)).any (·.1)=false:=by rfl):
 PE X (.Call (.Name x p) (e::es) [] pos) (abw sp wj E t):=by
 intro pins s σ H Q I h
 refine wpAny_Call_Name_kw (Ih I hg hm ?_ hdb)
 refine W.callWith_K (h₀:=X.base) I.ok.mod.kin hk (jK (ha pos pins s σ H _ I h) fun us s1 ⟨vs,H1,I1,r,q⟩=>⟨I1.RN,?_⟩) he hpl
 exact QS F hr hb hd hx I1 r q
theorem qY{pl:Sem Bool}(he:PE X o ta)(c:Cls X.K C)(hm:Meth X.K C m f)(F:bf X.prog X.w X.K X.mg X.base CX k f fd ps sp)(hr:lU k X.A)(hb:Binds X.K fd ps ds)(hd:Vals wj ds)(hx:Passes CX X E)(ha:PA X (e::es) t)
 (hst:starEach (e::es) X.env=(false,eval e X.env)::starEach es X.env:=by rfl)(hpl:(backTo pos (starEach es X.env)).any (·.1)=false:=by rfl)
 (ht:eval (.Call (.Attribute o m apos) (e::es) [] pos) X.env=(do
   let ov <-eval o X.env
   standAt apos.atName
   let(f,first) <-holding [ov] (getMethod ov m pl)
   callWith pos f first (backTo pos (starEach (e::es) X.env)) (backToKw pos (keywordEach [] X.env))):=by rfl):
 PE X (.Call (.Attribute o m apos) (e::es) [] pos) (abx C m sp wj E ta t):=by
 intro pins s σ H Q I h
 refine W.methodCall_KW (pl:=pl) (jK (he pins s σ H _ I h) fun u s1 ⟨x,H1,I1,rx,a,dx,fs,ex,ea,l,q⟩=>?_) ht
 subst ex
 obtain rfl:u=Value.ref a:=rx
 refine Jx I1 ea c hm l ?_
 refine W.callWith_K (first:=[.ref a]) (h₀:=X.base) I.ok.mod.kin hm.kp (jK (ha pos pins s1 σ H1 _ I1 q) fun us s2 ⟨vs,H2,I2,r,q2⟩=>⟨I2.RN,?_⟩) hst hpl
 exact QS (us:=.ref a::us) (vs:=.ref a::vs) F hr hb hd hx I2 (.cons rfl r) q2
theorem aby{pl:Sem Bool}(he:PE X o ta)(c:Cls X.K C)(hm:Meth X.K C m f)(F:bf X.prog X.w X.K X.mg X.base CX k f fd ps sp)(hr:lU k X.A)(hb:Binds X.K fd ps ds)(hd:Vals wj ds)(hx:Passes CX X E)
 (ht:eval (.Call (.Attribute o m apos) [] [] pos) X.env=(do
   let ov <-eval o X.env
   standAt apos.atName
   let(f,first) <-holding [ov] (getMethod ov m pl)
   callWith pos f first (backTo pos (starEach [] X.env)) (backToKw pos (keywordEach [] X.env))):=by rfl):
 PE X (.Call (.Attribute o m apos) [] [] pos) (abx C m sp wj E ta VB):=by
 intro pins s σ H Q I h
 refine W.methodCall_KW (pl:=pl) (jK (he pins s σ H _ I h) fun u s1 ⟨x,H1,I1,rx,a,dx,fs,ex,ea,l,q⟩=>?_) ht
 subst ex
 obtain rfl:u=Value.ref a:=rx
 refine Jx I1 ea c hm l ?_
 exact W.callWith_K0 (first:=[.ref a]) I1.RN hm.kp (QS (us:=[.ref a]) (vs:=[.ref a]) F hr hb hd hx I1 (.cons rfl .nil) q)
structure Mk(K:W.Frag)(C f:Addr):Prop where
 makes:W.makesIn K C=true
 init:W.findIn K (.ref C) "__init__"=some (some (.ref f))
 fn:W.isFn K (.ref f)=true
 kp:W.keepIn K (.ref C)=true
theorem SQ{pins:List (Addr×Obj)}{σ:St}{H:Hp}{s:Shared}{Q:VK}{us:List Value}{vs:List V}(M:Mk X.K C f)(F:bf X.prog X.w X.K X.mg X.base CX k f fd ps sp)(hr:lU (k+1) X.A)(hb:Binds X.K fd ps ds)(hd:Vals wj ds)
 (hx:Passes CX X E)(I:Inv X pins σ H s)(r:Vals vs us)
 (h:∀x dx,H x=none->H dx=none->dx≠x->sp (.ref x::(vs++wj)) (upd (upd H dx (.own x)) x (.ins C dx [])) (fun v H2=>v=.non/\Q (.ref x) H2) E):
 wpAny (model X.prog X.w) X.A (call (.ref C) us) (EP X pins σ Q) X.xe s:=by
 have hq:=h (s.heap.objs.size+1) s.heap.objs.size (I.hok.fresh (Nat.le_succ _)) (I.hok.fresh (Nat.le_refl _)) (Nat.ne_of_lt (Nat.lt_succ_self _))
 have I2:=Inv.made (C:=C) I
 have r2:Vals (V.ref (s.heap.objs.size+1)::(vs++wj)) (Value.ref (s.heap.objs.size+1)::(us++ds)):=.cons rfl (r.append hd)
 have hl:(Value.ref (s.heap.objs.size+1)::us++ds).length=ps.length:=by
  have e:=r2.length
  rw[F.len _ _ _ _ hq]at e
  exact e.symm
 refine wpAny_call (abu (f:=f) I.RN M.makes M.init (beq_iff_eq.mp M.fn) (codeAny_mono (F.run _ X.stack _ _ ⟨Value.ref (s.heap.objs.size+1)::us,[]⟩ (Value.ref (s.heap.objs.size+1)::(us++ds)) _ _ E (hr.make C us [])
  (I2.env0.make C us []) (hb _ (Value.ref (s.heap.objs.size+1)::us) I2.RN hl) r2 hq) fun r s' hq'=>?_))
 cases r with
 |error e=>exact hx pins σ _ _ e s' I2 hq'
 |ok fl=>
  cases fl with
  |ret u=>
   obtain⟨v,H',I3,rv,ev,q3⟩:=I2.after hq'
   subst ev
   exact⟨rv,⟨V.ref (s.heap.objs.size+1),H',I3,rfl,q3⟩⟩
  |next=>exact False.elim hq'
  |brk=>exact False.elim hq'
  |cont=>exact False.elim hq'
theorem aed(M:Mk X.K C f)(F:bf X.prog X.w X.K X.mg X.base CX k f fd ps sp)(hr:lU (k+1) X.A)(hg:Gl X x)(hm:X.mg x=some (.ref C))(hb:Binds X.K fd ps ds)(hd:Vals wj ds)(hx:Passes CX X E)
 (ha:PA X (e::es) t)(hdb:(x==("__debug__":Str))=false:=by decide)(he:starEach (e::es) X.env=(false,eval e X.env)::starEach es X.env:=by rfl)(hpl:(backTo pos (starEach es X.env)).any (·.1)=false:=by rfl):
 PE X (.Call (.Name x p) (e::es) [] pos) (Ow C sp wj E t):=by
 intro pins s σ H Q I h
 refine wpAny_Call_Name_kw (Ih I hg hm ?_ hdb)
 refine W.callWith_K (h₀:=X.base) I.ok.mod.kin M.kp (jK (ha pos pins s σ H _ I h) fun us s1 ⟨vs,H1,I1,r,q⟩=>⟨I1.RN,?_⟩) he hpl
 exact SQ M F hr hb hd hx I1 r q
theorem abz(M:Mk X.K C f)(F:bf X.prog X.w X.K X.mg X.base CX k f fd ps sp)(hr:lU (k+1) X.A)(hg:Gl X x)(hm:X.mg x=some (.ref C))(hb:Binds X.K fd ps ds)(hd:Vals wj ds)(hx:Passes CX X E)
 (hdb:(x==("__debug__":Str))=false:=by decide):PE X (.Call (.Name x p) [] [] pos) (Ow C sp wj E VB):=by
 intro pins s σ H Q I h
 refine wpAny_Call_Name_kw (Ih I hg hm ?_ hdb)
 exact W.callWith_K0 I.RN M.kp (SQ (us:=[]) M F hr hb hd hx I .nil h)
end
section
variable{X:Cx}{CX:CXT}{k:Nat}{f C:Addr}{fd:FuncData}{ps ks:List Str}{sp:Sp}{E:XK}{x m:Str}{p pos apos kpos:Pos}{e o:Expr}{es:List Expr}{kws:List Keyword}{te ta:TE}{t tk:TA}{nm:Option Str}
variable{g:List Value->List Value->List Value}{gV:List V->List V->List V}
end
structure aD(N P:List Str)(sc:Scope):Prop where
 kind:sc.kind=.function
 co:sc.isCoroutine=false
 gen:sc.isGenerator=false
 nd:N.Nodup
 pre:N.take P.length=P
 par:∀x∈P,sc.names.lookup x=some .local\/sc.names.lookup x=some .cell
 ah9:∀y∈sc.names,y.2≠.free
theorem Ox{kindOf:Str->Option NameKind}{x:Str}:∀{binds:List (Str×Value)}{m:Str->Option Value},(∀v,(x,v)∉binds)->bindL kindOf binds m x=m x
 |[],_,_=>rfl
 |(n,v)::r,m,h=>by
  unfold bindL
  rw[Ox fun w hw=>h w (List.mem_cons_of_mem _ hw)]
  split
  ·have:x≠n:=by rintro rfl;exact h v List.mem_cons_self
   simp[this]
  ·rfl
theorem Oz{kindOf:Str->Option NameKind}{x:Str}:∀{binds:List (Str×Value)}{m:Str->Option Value},(∀v,(x,v)∉binds)->bindC kindOf binds m x=m x
 |[],_,_=>rfl
 |(n,v)::r,m,h=>by
  unfold bindC
  rw[Oz fun w hw=>h w (List.mem_cons_of_mem _ hw)]
  split
  ·rfl
  ·have:x≠n:=by rintro rfl;exact h v List.mem_cons_self
   simp[this]
theorem OD{kindOf:Str->Option NameKind}{x:Str}{v:Value}:∀{P:List Str}{vs:List Value}{i:Nat}{m:Str->Option Value},P.Nodup->P[i]?=some x->vs[i]?=some v->kindOf x=some .local->
 bindL kindOf (P.zip vs) m x=some v
 |[],_,_,_,_,h,_,_=>by simp at h
 |_::_,[],_,_,_,_,h,_=>by simp at h
 |p::P,w::vs,0,m,nd,h1,h2,hk=>by
  simp at h1 h2;subst h1;subst h2
  show bindL kindOf ((p,w)::P.zip vs) m p=_
  unfold bindL
  rw[Ox fun v hv=>(List.nodup_cons.mp nd).1 (List.of_mem_zip hv).1,if_pos hk]
  simp
 |p::P,w::vs,i+1,m,nd,h1,h2,hk=>by
  show bindL kindOf ((p,w)::P.zip vs) m x=_
  unfold bindL
  exact OD (i:=i) (List.nodup_cons.mp nd).2 (by simpa using h1) (by simpa using h2) hk
theorem OJ{kindOf:Str->Option NameKind}{x:Str}{v:Value}:∀{P:List Str}{vs:List Value}{i:Nat}{m:Str->Option Value},P.Nodup->P[i]?=some x->vs[i]?=some v->kindOf x≠some .local->
 bindC kindOf (P.zip vs) m x=some v
 |[],_,_,_,_,h,_,_=>by simp at h
 |_::_,[],_,_,_,_,h,_=>by simp at h
 |p::P,w::vs,0,m,nd,h1,h2,hk=>by
  simp at h1 h2;subst h1;subst h2
  show bindC kindOf ((p,w)::P.zip vs) m p=_
  unfold bindC
  rw[Oz fun v hv=>(List.nodup_cons.mp nd).1 (List.of_mem_zip hv).1,if_neg hk]
  simp
 |p::P,w::vs,i+1,m,nd,h1,h2,hk=>by
  show bindC kindOf ((p,w)::P.zip vs) m x=_
  unfold bindC
  exact OJ (i:=i) (List.nodup_cons.mp nd).2 (by simpa using h1) (by simpa using h2) hk
noncomputable def start(N:List Str)(vs:List V):St:=vs.map some++List.replicate (N.length-vs.length) none
noncomputable def SX(CX:CXT)(P:Program)(w:World)(K:W.Frag)(mg:Str->Option Value)(base:Heap)(N:List Str)(qual:Str)(scope:Scope)(f:Addr)(cd:Value)(A:Around)(outer:List Env)(s:Shared)(H:Hp)(E:XK):Cx where
 prog:=P
 w:=w
 K:=K
 mg:=mg
 base:=base
 A:=A.deeper (envOfC qual scope s.heap.objs.size f cd)
 N:=N
 s_0:=s
 H_0:=H
 env:=envOfC qual scope s.heap.objs.size f cd
 outer:=outer
 stack:=envOfC qual scope s.heap.objs.size f cd::outer
 ex:=[]
 calm:=true
 fn:=fun _=>true
 pn:=[]
 xe:=fun e s'=>wpAny (model P w) (A.deeper (envOfC qual scope s.heap.objs.size f cd)) (leaving (envOfC qual scope s.heap.objs.size f cd) e) (fun _ s''=>CX outer H s E e s'') (fun e' s''=>CX outer H s E e' s'') s'
theorem S5{sc:Scope}{n:Nat}{x:Str}(h:sc.names.lookup x=some .cell):∃c,(cellsFrom n sc.names []).lookup x=some c:=by
 have q:=W.cellsFrom_some sc.names n [] (.inl h)
 exact Option.isSome_iff_exists.mp q
theorem Zd{CX:CXT}{P:Program}{w:World}{K:W.Frag}{mg:Str->Option Value}{base:Heap}{N ps:List Str}{qual:Str}{scope:Scope}{f:Addr}{cd:Value}{A:Around}{outer:List Env}{s s1:Shared}{H:Hp}{E:XK}{us:List Value}{vs:List V}
 (S:aD N ps scope)(hd:A.handled=none)(e0:Mv P w K mg base A outer s H)(hl:vs.length=ps.length)(r:Vals vs us)
 (x:InCallC s s.heap.objs.size (bindL (envOfC qual scope s.heap.objs.size f cd).kindOf (ps.zip us) fun _=>none) (cellsFrom (s.heap.objs.size+1) scope.names []) (bindC (envOfC qual scope s.heap.objs.size f cd).kindOf (ps.zip us) fun _=>none) s1):
 Inv (SX CX P w K mg base N qual scope f cd A outer s H E) [] (start N vs) H s1:=by
 have hpl:ps.length<=N.length:=by have:=congrArg List.length S.pre;rw[List.length_take]at this;omega
 obtain⟨h1,tk,rfl,hk⟩:=x.done
 have noA:∀b:Addr,b∉(SX CX P w K mg base N qual scope f cd A outer s H E).ex:=fun b z=>absurd (show b∈([]:List Addr)from z) (by simp)
 refine⟨⟨e0.mod,S.kind,rfl,rfl,Nat.le_refl _,fun y z c h1 h2=>?_,fun y hy=>?_,fun y c _ h=>?_,fun _=>hd,Around.frames_deeper e0.frames,.inr ⟨rfl,rfl⟩,fun b z=>absurd z (noA b),e0.bs,e0.Y8,fun b _ _=>noA b,fun b z=>absurd z (noA b),e0.Cg,e0.frf⟩,
  rfl,e0.bare,Un.kept hk,⟨_,x.toInCall.ns,fun i y v h1 h2 h3=>?_⟩,fun y c h=>⟨_,x.cell y c h⟩,e0.hok.fresh (Nat.le_refl _),fun y c h=>?_,fun p hp=>absurd (show p∈([]:List (Addr×Obj))from hp) (by simp),e0.hok.kept hk,?_⟩
 ·exact name_of_addr x.apart (PySem.mem_of_lookup h1) (PySem.mem_of_lookup h2)
 ·have hy:scope.names.lookup y=some .cell\/scope.names.lookup y=some .free:=hy
  rcases hy with hy|hy
  ·exact S5 hy
  ·exact absurd rfl (S.ah9 _ (PySem.mem_of_lookup hy))
 ·exact Nat.le_of_lt (x.above y c (PySem.mem_of_lookup h))
 ·have hi:i<vs.length:=by
   unfold start at h2
   by_cases hi:i<vs.length
   ·exact hi
   ·rw[List.getElem?_append_right (by simpa using hi)]at h2
    rw[List.getElem?_replicate]at h2
    split at h2<;>cases h2
  have ha:vs[i]?=some v:=by
   unfold start at h2
   rw[List.getElem?_append_left (by simpa using hi),List.getElem?_map]at h2
   cases e:vs[i]? with
   |none=>rw[e]at h2;cases h2
   |some a=>rw[e]at h2;cases h2;rfl
  obtain⟨u,hu,rv⟩:=r.get ha
  have hp:ps[i]?=some y:=by
   rw[<-S.pre,List.getElem?_take_of_lt (by omega)];exact h1
  have ndP:ps.Nodup:=by rw[<-S.pre];exact S.nd.sublist (List.take_sublist _ _)
  refine⟨u,rv,?_⟩
  rcases S.par y (List.mem_of_getElem? hp)with k|k
  ·exact .inl ⟨k,OD ndP hp hu k⟩
  ·obtain⟨c,e⟩:=S5 (n:=s.heap.objs.size+1) k
   refine .inr ⟨.inl k,c,e,?_⟩
   have q:=x.cell y c e
   rw[OJ ndP hp hu (by show scope.names.lookup y≠_;rw[k];decide)]at q
   exact q
 ·exact e0.hok.fresh (Nat.le_of_lt (x.above y c (PySem.mem_of_lookup h)))
 ·unfold start
  show _=N.length
  rw[List.length_append,List.length_map,List.length_replicate]
  omega
theorem ahg{CX:CXT}{P:Program}{w:World}{K:W.Frag}{mg:Str->Option Value}{base:Heap}{k:Nat}{f:Addr}{name qual:Str}{params:Arguments}{body:List Stmt}{scope:Scope}{dV kV doc pm cdv ct oc:Value}{an od:Option Addr}
 {osl:Array (Option Value)}{N ps:List Str}{sp:Sp}(lk:K.lookup f=some ⟨oc,od,.func (W.fnOf name qual params body scope dV kV doc pm an cdv ct),osl⟩)(hcd:W.codeIn K cdv qual=true)(S:aD N ps scope)
 (len:∀vs H Q E,sp vs H Q E->vs.length=ps.length)
 (hbody:∀(A:Around)(outer:List Env)(s:Shared)(H:Hp)(vs:List V)(Q:VK)(E:XK),lU k (A.deeper (envOfC qual scope s.heap.objs.size f cdv))->sp vs H Q E->
   ∃t,Vr (SX CX P w K mg base N qual scope f cdv A outer s H E) body t/\t { nx:=fun _ H'=>Q .non H',rt:=Q } (start N vs) H):
 bf P w K mg base CX (k+1) f (W.fnOf name qual params body scope dV kV doc pm an cdv ct) ps sp:=by
 refine⟨len,fun A outer s H args us vs Q E hr e0 hb r hsp=>?_⟩
 have hl:=len _ _ _ _ hsp
 have KX:K.In s.heap:=e0.mod.kin.keeps fun b o e=>(e0.bs b o e).1
 have lim:s.heap.NoLimit:=e0.mod.nolimit.keeps fun b o e=>(e0.bs b o e).1
 have hkind:∀y∈ps.zip us,scope.names.lookup y.1=some .local\/(scope.names.lookup y.1=some .cell/\((cellsFrom (s.heap.objs.size+1) scope.names []).lookup y.1).isSome=true):=fun⟨n,v⟩ hy=>by
  rcases S.par n (List.of_mem_zip hy).1 with q|q
  ·exact .inl q
  ·exact .inr ⟨q,W.cellsFrom_some _ _ _ (.inl q)⟩
 refine codeAny_call_function hr.depth (KX _ _ lk) rfl S.co S.gen rfl (W.codeRec_of KX hcd) (hb _ _ _ _ ?_)
 refine wpAny_newFunctionEnv_cells S.kind hkind fun env he s1 x=>?_
 subst he
 refine⟨lim.keeps x.toInCall.keep,codeAny_func ?_⟩
 obtain⟨t,ht,hq⟩:=hbody A outer s H vs Q E (hr.deeper _) hsp
 have I:Inv (SX CX P w K mg base N qual scope f cdv A outer s H E) [] (start N vs) H s1:=Zd S hr.hd e0 hl r x
 refine wpAny_mono (ht [] s1 (start N vs) H _ I hq) (fun fl s' hs=>?_) fun e s' hs=>hs
 have fin:∀{σ':St}{H':Hp}{v:V}{u:Value},Inv (SX CX P w K mg base N qual scope f cdv A outer s H E) [] σ' H' s'->RelV v u->Q v H'->CE outer P w H s Q u s':=
  fun{σ' H' v u} J rv q=>⟨v,H',J.os,J.bare,J.base,J.hok,rv,q⟩
 cases fl with
 |ret u=>
  obtain⟨v,σ',H',J,rv,q⟩:=hs
  exact fin J rv q
 |next=>
  obtain⟨σ',H',J,q⟩:=hs
  exact fin (v:=V.non) (u:=Value.none) J rfl q
 |brk=>
  obtain⟨_,_,_,q⟩:=hs
  exact False.elim q
 |cont=>
  obtain⟨_,_,_,q⟩:=hs
  exact False.elim q
end L2
namespace L2
open PySem PySem.Spec PyProof.Rows
section
variable{X:Cx}{x:Str}{p pos:Pos}{e:Expr}{es:List Expr}{t:TA}{id T:String}{r:List V->Hp->VK->Prop}
def tCB(r:List V->Hp->VK->Prop)(t:TA):TE:=fun σ H Q=>t σ H fun vs H1=>r vs H1 Q
theorem bK(hc:Xl X (.builtin id) r)(hg:Gl X x)(hm:X.mg x=none)(hv:bootBuiltins x=some (.builtin id))(ha:PA X (e::es) t)(hn:x≠"__name__":=by decide)(hdb:(x==("__debug__":Str))=false:=by decide)
 (he:starEach (e::es) X.env=(false,eval e X.env)::starEach es X.env:=by rfl)(hpl:(backTo pos (starEach es X.env)).any (·.1)=false:=by rfl):PE X (.Call (.Name x p) (e::es) [] pos) (tCB r t):=by
 intro pins s σ H Q I h
 refine wpAny_Call_Name_kw (Am I hg hm hv ?_ hn hdb)
 exact PyProof.Rows.callWith_builtin1 (jK (ha pos pins s σ H _ I h) fun us s1 ⟨vs,H1,I1,r1,q1⟩=>hc pins s1 σ H1 vs us Q I1 r1 q1) he hpl
end
end L2
namespace HT
open PySem PyProof.Rows
section
open PySem.SeqAt
open PySem.AutoSeq1 (wpAny_loadPart')
open PySem.MeetsSeq PySem.MeetsSeq2 PySem.MeetsSeq3
end
section
variable{prog:Program}{w:World}{A:Around}{E:Value->Shared->Prop}{s:Shared}
noncomputable def RP(n d:Nat):Option Int->Nat
 |none=>d
 |some v=>if v<0 then(v+(n:Int)).toNat else min v.toNat n
theorem abA(n d:Nat):RP n d none=d:=rfl
theorem Xp(n d k:Nat):RP n d (some (k:Int))=min k n:=by
 show(if(k:Int)<0 then((k:Int)+(n:Int)).toNat else min (k:Int).toNat n)=min k n
 rw[if_neg (by omega),Int.toNat_natCast]
end
end HT
namespace L2
open PySem PySem.Spec PyProof.Rows
abbrev TO:=St->Hp->(Option Int->Hp->Prop)->Prop
def PO(X:Cx)(e:Option Expr)(t:TO):Prop:=
 ∀(pins:List (Addr×Obj))(s:Shared)(σ:St)(H:Hp)(Q:Option Int->Hp->Prop),Inv X pins σ H s->t σ H Q->
  wpAny (model X.prog X.w) X.A (evalPart e X.env) (fun u s'=>∃o H',Inv X pins σ H' s'/\IsPart u o/\Q o H') X.xe s
def Xq:TO:=fun _ H Q=>Q none H
def ahh(t:TE):TO:=fun σ H Q=>t σ H fun x H1=>∃i,x=.int i/\Q (some i) H1
section
variable{X:Cx}{e:Expr}{te:TE}{lo hi:Option Expr}{tl th:TO}{pos p2:Pos}
theorem aee:PO X none Xq:=by
 intro pins s σ H Q I h
 rw[evalPart_none]
 exact wpAny_pure ⟨none,H,I,.none,h⟩
theorem QT(h:PE X e te):PO X (some e) (ahh te):=by
 intro pins s σ H Q I hw
 rw[evalPart_some]
 refine jK (h pins s σ H _ I hw) fun u s1 ⟨x,H1,I1,r1,q1⟩=>?_
 obtain⟨i,rfl,q⟩:=q1
 obtain⟨t,rfl⟩:=r1
 exact⟨some i,H1,I1,.int i t,q⟩
def SlR(X:Cx)(r:V->Option Int->Option Int->Hp->VK->Prop):Prop:=
 ∀(pins:List (Addr×Obj))(s:Shared)(σ:St)(H:Hp)(x:V)(v vl vu:Value)(lo hi:Option Int)(sl:Addr)(Q:VK),Inv X pins σ H s->RelV x v->s.heap.IsSliceOf sl vl vu .none->IsPart vl lo->IsPart vu hi->r x lo hi H Q->
  ∃T id,typeLookup (.type T) "__getitem__"=pure (some (.builtin id))/\s.TypeIs v T/\wpAny (model X.prog X.w) X.A (getItem v (.ref sl)) (EP X pins σ Q) X.xe s
def tSl(r:V->Option Int->Option Int->Hp->VK->Prop)(te:TE)(tl th:TO):TE:=fun σ H Q=>te σ H fun x H1=>tl σ H1 fun l H2=>th σ H2 fun u H3=>r x l u H3 Q
theorem S6{r:V->Option Int->Option Int->Hp->VK->Prop}(hr:SlR X r)(he:PE X e te)(hl:PO X lo tl)(hu:PO X hi th):PE X (.Subscript e (.Slice lo hi none p2) pos) (tSl r te tl th):=by
 intro pins s σ H Q I h
 refine Subscript_ (jK (he pins s σ H _ I h) fun v s1 ⟨x,H1,I1,r1,q1⟩=>?_)
 refine wpAny_Slice (jK (hl pins s1 σ H1 _ I1 q1) fun vl s2 ⟨l,H2,I2,pl,q2⟩=>jK (hu pins s2 σ H2 _ I2 q2) fun vu s3 ⟨u,H3,I3,pu,q3⟩=>?_)
 rw[evalPart_none]
 refine wpAny_pure ?_
 have I4:Inv X pins σ H3 { s3 with heap:=s3.heap.push { cls:=.type "slice",data:=.fields #[vl,vu,.none] } }:=I3.kept (t':=s3.toks) fun b ob q=>Heap.get?_push_of_some _ q
 obtain⟨T,id,hT,ht,hg⟩:=hr pins { s3 with heap:=s3.heap.push { cls:=.type "slice",data:=.fields #[vl,vu,.none] } } σ H3 x v vl vu l u s3.heap.objs.size Q I4 r1 (Heap.IsSliceOf.new ..) pl pu q3
 show wpAny (model X.prog X.w) X.A (subscriptTail e (.Slice lo hi none p2) v (.ref s3.heap.objs.size)) (EP X pins σ Q) X.xe { s3 with heap:=s3.heap.push { cls:=.type "slice",data:=.fields #[vl,vu,.none] } }
 exact tail_any (ops:=[.ref s3.heap.objs.size,v]) ht hT hg (by with_unfolding_all rfl)
noncomputable def Mw(xs:List V)(lo hi:Option Int):List V:=(xs.drop (HT.RP xs.length 0 lo)).take (HT.RP xs.length xs.length hi-HT.RP xs.length 0 lo)
theorem S7(xs:List V)(lo hi:Option Int):(Mw xs lo hi).length<=xs.length:=by
 unfold Mw
 rw[List.length_take,List.length_drop]
 omega
end
end L2
namespace L2
open PySem PySem.Spec PyProof.Rows
noncomputable def ixN(n:Nat)(i:Int):Option Nat:=if 0<=i then(if i<n then some i.toNat else none)else if -(n:Int)<=i then some (i+n).toNat else none
noncomputable def atI{α:Type}(xs:List α)(i:Int):Option α:=(ixN xs.length i).bind fun j=>xs[j]?
theorem aef{n:Nat}{i:Int}{j:Nat}(h:ixN n i=some j):seqIndex? i n=some j/\j<n/\-(n:Int)<=i/\i<n:=by
 unfold ixN at h
 by_cases h0:0<=i
 ·rw[if_pos h0]at h
  by_cases h1:i<n
  ·rw[if_pos h1]at h
   have e:i.toNat=j:=Option.some.inj h
   exact⟨by rw[seqIndex_of h0 h1,e],by omega,by omega,h1⟩
  ·rw[if_neg h1]at h;cases h
 ·rw[if_neg h0]at h
  by_cases h1:-(n:Int)<=i
  ·rw[if_pos h1]at h
   have e:(i+n).toNat=j:=Option.some.inj h
   exact⟨by rw[seqIndex_neg (by omega) h1,e],by omega,h1,by omega⟩
  ·rw[if_neg h1]at h;cases h
theorem Xr{α:Type}{xs:List α}{i:Int}{v:α}(h:atI xs i=some v):∃j,seqIndex? i xs.length=some j/\xs[j]?=some v/\j<xs.length/\-(xs.length:Int)<=i/\i<xs.length:=by
 unfold atI at h
 cases e:ixN xs.length i with
 |none=>rw[e]at h;cases h
 |some j=>
  rw[e]at h
  obtain⟨h1,h2,h3,h4⟩:=aef e
  exact⟨j,h1,h,h2,h3,h4⟩
theorem gq{α:Type}{xs:List α}{j:Nat}{v:α}(h:xs[j]?=some v):atI xs (j:Int)=some v:=by
 have hj:j<xs.length:=(List.getElem?_eq_some_iff.mp h).1
 have e:ixN xs.length (j:Int)=some j:=by
  unfold ixN
  rw[if_pos (by omega),if_pos (by omega)];simp
 unfold atI;rw[e];exact h
theorem qm{α:Type}(xs:List α)(v:α):atI (xs++[v]) (-1)=some v:=by
 have hl:(xs++[v]).length=xs.length+1:=by simp
 have e:ixN (xs++[v]).length (-1)=some xs.length:=by
  unfold ixN
  rw[hl,if_neg (by decide),if_pos (by omega)]
  congr 1
  omega
 unfold atI
 rw[e]
 show(xs++[v])[xs.length]?=some v
 simp
def aeg(b:Expr):Prop:=∀o i,subscripted b false o i=operate [o,i] (getItem o i)
def IxR(X:Cx)(r:R2):Prop:=
 ∀(value slice:Expr)(pins:List (Addr×Obj))(s:Shared)(σ:St)(H:Hp)(x y:V)(v u:Value)(Q:VK),Inv X pins σ H s->RelV x v->RelV y u->r x y H Q->
  subscripted slice false v u=operate [v,u] (getItem v u)->wpAny (model X.prog X.w) X.A (subscriptTail value slice v u) (EP X pins σ Q) X.xe s
def MtR(X:Cx)(id:String)(r:V->List V->Hp->VK->Prop):Prop:=
 ∀(pins:List (Addr×Obj))(s:Shared)(σ:St)(H:Hp)(x:V)(xs:List V)(v:Value)(us:List Value)(Q:VK),Inv X pins σ H s->RelV x v->Vals xs us->r x xs H Q->
  wpAny (model X.prog X.w) X.A (call (.builtin id) (v::us)) (EP X pins σ Q) X.xe s
section
variable{X:Cx}{a b:Expr}{ta tb:TE}{pos:Pos}
theorem iz{r:R2}(hr:IxR X r)(ha:PE X a ta)(hb:PE X b tb)(hs:aeg b):PE X (.Subscript a b pos) (tOp r ta tb):=by
 intro pins s σ H Q I h
 exact Subscript_ (ah8 ha hb I h fun v u s2 x y H2 I2 rx ry q=>hr a b pins s2 σ H2 x y v u Q I2 rx ry q (hs _ _))
def aj8(K:W.Frag):R2:=fun x y H Q=>∃p xs i v,x=.ref p/\y=.int i/\cY K H p xs/\atI xs i=some v/\Q v H
def aj9(K:W.Frag):R2:=fun x y H Q=>∃p xs i v,x=.ref p/\y=.int i/\Ov K H p xs/\atI xs i=some v/\Q v H
theorem eG:IxR X (aj8 X.K):=by
 intro value slice pins s σ H x y v u Q I rx ry h hs
 obtain⟨p,xs,i,z,rfl,rfl,hq,he,q⟩:=h
 cases rx
 obtain⟨t,rfl⟩:=ry
 obtain⟨its,r,pl,hz⟩:=I.list hq
 obtain⟨j,h1,h2,h3,h4,h5⟩:=Xr he
 obtain⟨w,ew,VF⟩:=r.get h2
 have hl:=r.length
 have hn:=Vv
 have fin:EP X pins σ Q w s:=⟨z,H,I,VF,q⟩
 by_cases h0:0<=i
 ·have hj:i.toNat=j:=by
   rw[seqIndex_of h0 h5]at h1
   exact Option.some.inj h1
  exact item_listR pl.isList h0 (by omega) (by rw[hj];simpa using ew) fin hs
 ·have hj:(i+(its.toArray.size:Int)).toNat=j:=by
   rw[seqIndex_neg (by omega) h4]at h1
   rw[List.size_toArray,<-hl]
   exact Option.some.inj h1
  exact subscriptTail_builtinR (x:=w) pl.isList.typeIs slot_list_getitem.lookup
   (wpAny_getItem_list_neg (Q:=fun r s'=>r=w/\EP X pins σ Q r s') pl.isList (by omega) (by rw[List.size_toArray]<;>omega) (by omega) (by rw[hj];simpa using ew) ⟨rfl,fin⟩) hs
theorem xG:IxR X (aj9 X.K):=by
 intro value slice pins s σ H x y v u Q I rx ry h hs
 obtain⟨p,xs,i,z,rfl,rfl,hq,he,q⟩:=h
 cases rx
 obtain⟨t,rfl⟩:=ry
 obtain⟨its,r,pl,hz⟩:=I.tuple hq
 obtain⟨j,h1,h2,h3,h4,h5⟩:=Xr he
 obtain⟨w,ew,VF⟩:=r.get h2
 have hl:=r.length
 have hn:=Vv
 have fin:EP X pins σ Q w s:=⟨z,H,I,VF,q⟩
 exact subscriptTail_builtinR (x:=w) pl.typeIs slot_tuple_getitem.lookup
  (getItem_tuple (j:=j) (Q:=fun r s'=>r=w/\EP X pins σ Q r s') pl (by omega) (by omega) (by rw[List.size_toArray,<-hl];exact h1) (by simpa using ew) ⟨rfl,fin⟩) hs
theorem Inv.lst{pins:List (Addr×Obj)}{σ:St}{H:Hp}{s:Shared}{p:Addr}{xs:List V}(I:Inv X pins σ H s)(h:H p=some (.lst xs)):
 ∃(its:List Value)(n:Nat),Vals xs its/\s.heap.get? p=some { cls:=.type "list",data:=.seq its.toArray n }/\xs.length<=sizeLine:=by
 obtain⟨z,its,n,r,e⟩:=I.hok p _ h
 exact⟨its,n,r,e,z⟩
theorem QV(lo hi:Option Int)(n:Nat):(sliceBounds lo hi none n).1=((HT.RP n 0 lo:Nat):Int)/\(sliceBounds lo hi none n).2.1=((HT.RP n n hi:Nat):Int)/\(sliceBounds lo hi none n).2.2=1:=by
 refine⟨?_,?_,rfl⟩
 ·cases lo with
  |none=>simp[sliceBounds,HT.RP]
  |some i=>
   simp only[sliceBounds,HT.RP,Option.getD_none,show(1:Int)>0 by decide,if_true]
   by_cases h:i<0
   ·simp only[h,if_true]<;>omega
   ·simp only[h,if_false]<;>omega
 ·cases hi with
  |none=>simp[sliceBounds,HT.RP]
  |some i=>
   simp only[sliceBounds,HT.RP,Option.getD_none,show(1:Int)>0 by decide,if_true]
   by_cases h:i<0
   ·simp only[h,if_true]<;>omega
   ·simp only[h,if_false]<;>omega
theorem Mx(its:List Value)(lo hi:Option Int):slicePick its.toArray lo hi none=((its.drop (HT.RP its.length 0 lo)).take (HT.RP its.length its.length hi-HT.RP its.length 0 lo)).toArray:=by
 obtain⟨h1,h2,h3⟩:=QV lo hi its.toArray.size
 unfold slicePick
 rw[h1,h2,h3]
 simp only[sliceRange_one,pick_run,List.size_toArray]<;>rfl
def akb(K:W.Frag):V->Option Int->Option Int->Hp->VK->Prop:=fun x lo hi H Q=>∃a xs,x=.ref a/\cY K H a xs/\∀p,H p=none->Q (.ref p) (upd H p (.lst (Mw xs lo hi)))
theorem Xu:SlR X (akb X.K):=by
 intro pins s σ H x v vl vu lo hi sl Q I rx hs pl pu h
 obtain⟨a,xs,rfl,hx,q⟩:=h
 cases rx
 obtain⟨its,r,ht,hz⟩:=I.list hx
 have hlen:=r.length
 refine⟨"list",_,slot_list_getitem.lookup,ht.isList.typeIs,?_⟩
 refine wpAny_getItem_list_slice ht.isList hs pl pu .none (by simp) ?_ (by rw[List.size_toArray]<;>omega)
 rw[Mx,<-hlen]
 refine⟨.ref s.heap.objs.size,_,I.laid (t':=s.toks) (o:=.lst (Mw xs lo hi)) (fun b ob q=>Heap.get?_push_of_some _ q) (Nat.le_refl _) ?_,rfl,q _ (I.hok.fresh (Nat.le_refl _))⟩
 exact⟨Nat.le_trans (S7 xs lo hi) hz,_,0,(r.drop (HT.RP xs.length 0 lo)).take (HT.RP xs.length xs.length hi-HT.RP xs.length 0 lo),Heap.get?_push_size _ rfl⟩
noncomputable def Cj:V->Bool
 |.non=>true
 |.bl _=>true
 |.int _=>true
 |.str _=>true
 |_=>false
noncomputable def eqV:V->V->Bool
 |.non,.non=>true
 |.bl a,.bl b=>a==b
 |.bl a,.int b=>(if a then 1 else 0)==b
 |.int a,.bl b=>a==(if b then 1 else 0)
 |.int a,.int b=>a==b
 |.str a,.str b=>a==b
 |_,_=>false
theorem aia{A:Around}{s:Shared}{y x:V}{u v:Value}(ry:RelV y u)(rx:RelV x v)(fy:Cj y=true)(fx:Cj x=true):SeqAt.EqAt A s u v (eqV y x):=by
 cases y with
 |non=>
  cases ry
  cases x with
  |non=>cases rx;exact SeqAt.EqAt.same _
  |bl b=>cases rx;exact SeqAt.EqAt.none_bool b
  |int b=>obtain⟨t,rfl⟩:=rx;exact SeqAt.EqAt.none_int b t
  |str b=>obtain⟨t,rfl⟩:=rx;exact SeqAt.EqAt.none_str b t
  |_=>exact absurd (show false=true from fx) Bool.false_ne_true
 |bl a=>
  cases ry
  cases x with
  |non=>cases rx;exact SeqAt.EqAt.bool_none a
  |bl b=>cases rx;exact SeqAt.EqAt.bool_bool a b
  |int b=>obtain⟨t,rfl⟩:=rx;exact SeqAt.EqAt.bool_int a b t
  |str b=>obtain⟨t,rfl⟩:=rx;exact SeqAt.EqAt.bool_str a b t
  |_=>exact absurd (show false=true from fx) Bool.false_ne_true
 |int a=>
  obtain⟨t',rfl⟩:=ry
  cases x with
  |non=>cases rx;exact SeqAt.EqAt.int_none a t'
  |bl b=>cases rx;exact SeqAt.EqAt.int_bool a t' b
  |int b=>obtain⟨t,rfl⟩:=rx;exact SeqAt.EqAt.int_int a t' b t
  |str b=>obtain⟨t,rfl⟩:=rx;exact SeqAt.EqAt.int_str a t' b t
  |_=>exact absurd (show false=true from fx) Bool.false_ne_true
 |str a=>
  obtain⟨t',rfl⟩:=ry
  cases x with
  |non=>cases rx;exact SeqAt.EqAt.str_none a t'
  |bl b=>cases rx;exact SeqAt.EqAt.str_bool a t' b
  |int b=>obtain⟨t,rfl⟩:=rx;exact SeqAt.EqAt.str_int a t' b t
  |str b=>obtain⟨t,rfl⟩:=rx;exact SeqAt.EqAt.str_str a t' b t
  |_=>exact absurd (show false=true from fx) Bool.false_ne_true
 |_=>exact absurd (show false=true from fy) Bool.false_ne_true
noncomputable def eqU(x:V)(u:Value):Bool:=match u with
 |.none=>eqV .non x
 |.bool b=>eqV (.bl b) x
 |.int i _=>eqV (.int i) x
 |.str z _=>eqV (.str z) x
 |_=>false
theorem abC{x y:V}{u:Value}(r:RelV y u)(f:Cj y=true):eqU x u=eqV y x:=by
 cases y with
 |non=>cases r;rfl
 |bl b=>cases r;rfl
 |int i=>obtain⟨t,rfl⟩:=r;rfl
 |str z=>obtain⟨t,rfl⟩:=r;rfl
 |_=>exact absurd (show false=true from f) Bool.false_ne_true
theorem QW{x:V}:∀{xs:List V}{us:List Value},Vals xs us->xs.all Cj=true->us.any (eqU x)=xs.any fun y=>eqV y x
 |_,_,.nil,_=>rfl
 |y::xs,u::us,.cons r t,f=>by
  rw[List.all_cons,Bool.and_eq_true]at f
  rw[List.any_cons,List.any_cons,abC r f.1,QW t f.2]
theorem Jy{A:Around}{s:Shared}{x:V}{v:Value}(rx:RelV x v)(fx:Cj x=true):∀{xs:List V}{us:List Value},Vals xs us->xs.all Cj=true->∀u∈us,SeqAt.EqAt A s u v (eqU x u)
 |_,_,.nil,_=>fun u hu=>by cases hu
 |y::xs,u::us,.cons r t,f=>fun u' hu=>by
  rw[List.all_cons,Bool.and_eq_true]at f
  rcases List.mem_cons.mp hu with rfl|hu
  ·rw[abC r f.1];exact aia r rx f.1 fx
  ·exact Jy rx fx t f.2 u' hu
noncomputable def inV(x:V)(xs:List V):Bool:=xs.any fun y=>eqV y x
def rIn(K:W.Frag)(neg:Bool):R2:=fun x y H Q=>∃p xs,y=.ref p/\(cY K H p xs\/Ov K H p xs)/\Cj x=true/\xs.all Cj=true/\Q (.bl (if neg then !inV x xs else inV x xs)) H
theorem Ze:Jw X (compareOp .In) (rIn X.K false):=by
 intro pins s σ H x y v u Q I rx ry h
 obtain⟨p,xs,rfl,hq,fx,fs,q⟩:=h
 cases ry
 rcases hq with hq|hq
 ·obtain⟨its,r,pl,hz⟩:=I.list hq
  refine SeqAt.in_listAt (eqU x) pl.isList (fun w hw=>Jy rx fx r fs w (by simpa using hw)) ⟨.bl _,H,I,rfl,?_⟩
  rw[show its.toArray.any (eqU x)=its.any (eqU x) by simp,QW r fs]
  exact q
 ·obtain⟨its,r,pl,hz⟩:=I.tuple hq
  refine SeqAt.in_tupleAt (eqU x) pl (fun w hw=>Jy rx fx r fs w (by simpa using hw)) ⟨.bl _,H,I,rfl,?_⟩
  rw[show its.toArray.any (eqU x)=its.any (eqU x) by simp,QW r fs]
  exact q
theorem bH:Xl X (.builtin "len") (fun xs H Q=>∃p ys,xs=[.ref p]/\(cY X.K H p ys\/Ov X.K H p ys)/\Q (.int ys.length) H):=by
 intro pins s σ H xs us Q I r h
 obtain⟨p,ys,rfl,hq,q⟩:=h
 obtain⟨u,rfl,rx⟩:=vals1 r
 cases rx
 have hn:=Vv
 rcases hq with hq|hq
 ·obtain⟨its,r',pl,hz⟩:=I.list hq
  have hlen:=r'.length
  exact Calls.call_len_list pl.isList (by simp only[List.size_toArray]<;>omega) ⟨.int ys.length,H,I.tok _,⟨s.toks+1,by rw[List.size_toArray,hlen]⟩,q⟩
 ·obtain⟨its,r',pl,hz⟩:=I.tuple hq
  have hlen:=r'.length
  exact len_tuple pl (by simp only[List.size_toArray]<;>omega) ⟨.int ys.length,H,I.tok _,⟨s.toks+1,by rw[List.size_toArray,hlen]⟩,q⟩
def tyV(K:W.Frag)(T:String)(x:V)(H:Hp):Prop:=match x with
 |.str _=>T="str"
 |.int _=>T="int"
 |.ref p=>(T="list"/\∃xs,cY K H p xs)\/(T="tuple"/\∃o,K.lookup p=some o/\o.cls=.type "tuple"/\o.dict=none)\/
   (T="dict"/\((∃kvs,H p=some (.dK kvs))\/∃kvs,H p=some (.dT kvs)))\/(T="set"/\∃S n,H p=some (.set S n))
 |_=>False
theorem abD{pins:List (Addr×Obj)}{σ:St}{H:Hp}{s:Shared}{T:String}{x:V}{v:Value}(I:Inv X pins σ H s)(r:RelV x v)(ty:tyV X.K T x H):
 s.TypeIs v T/\∀a,v=.ref a->∃ob,s.heap.get? a=some ob/\ob.dict=none:=by
 cases x with
 |str z=>
  obtain⟨t,rfl⟩:=r
  cases(show T="str" from ty)
  exact⟨typeIs_str s z t,fun _ e=>nomatch e⟩
 |int i=>
  obtain⟨t,rfl⟩:=r
  cases(show T="int" from ty)
  exact⟨typeIs_int s i t,fun _ e=>nomatch e⟩
 |ref p=>
  cases r
  rcases ty with⟨rfl,xs,hq⟩|⟨rfl,o,hk,hc,hd⟩|⟨rfl,hk⟩|⟨rfl,S,n,hk⟩
  ·obtain⟨its,_,pl,_⟩:=I.list hq
   refine⟨pl.isList.typeIs,fun a e=>?_⟩
   cases e
   obtain⟨o,n,e,c,hd,_⟩:=pl
   exact⟨o,e,hd⟩
  ·refine⟨⟨o,I.RN p o hk,hc⟩,fun a e=>?_⟩
   cases e
   exact⟨o,I.RN _ o hk,hd⟩
  ·have z:∃o,s.heap.get? p=some o/\o.ExactDict:=by
    rcases hk with⟨kvs,hk⟩|⟨kvs,hk⟩
    ·obtain⟨_,_,_,_,o,_,_,e,ex,_⟩:=I.hok p _ hk
     exact⟨o,e,ex⟩
    ·obtain⟨_,_,_,_,o,_,_,e,ex,_⟩:=I.hok p _ hk
     exact⟨o,e,ex⟩
   obtain⟨o,e,ex⟩:=z
   refine⟨⟨o,e,ex.1⟩,fun a e2=>?_⟩
   cases e2
   exact⟨o,e,ex.2.1⟩
  ·obtain⟨o,_,_,_,e,ex,_⟩:=I.hok p _ hk
   refine⟨⟨o,e,ex.1⟩,fun a e2=>?_⟩
   cases e2
   exact⟨o,e,ex.2.1⟩
 |_=>exact False.elim ty
def akd(K:W.Frag)(T:String)(r:V->List V->Hp->VK->Prop)(to:TE):TE:=fun σ H Q=>to σ H fun x H1=>tyV K T x H1/\r x [] H1 Q
def tBM(K:W.Frag)(T:String)(r:V->List V->Hp->VK->Prop)(to:TE)(t:TA):TE:=fun σ H Q=>to σ H fun x H1=>tyV K T x H1/\t σ H1 fun xs H2=>r x xs H2 Q
variable{o e:Expr}{es:List Expr}{to:TE}{t:TA}{name:Str}{apos cpos:Pos}{T id:String}{r:V->List V->Hp->VK->Prop}
theorem aib(pa:PlainAttrs T)(slot:Slot T name id)(hty:typeOf (.builtin id)=pure (.type "method_descriptor"))(hm:MtR X id r)(ho:PE X o to)
 (hbase:attributeBase o name X.env (eval o X.env)=eval o X.env:=by rfl)(hline:(apos.endLine==cpos.line)=true:=by rfl):PE X (.Call (.Attribute o name apos) [] [] cpos) (akd X.K T r to):=by
 intro pins s σ H Q I h
 refine wpAny_Call_method0_late hbase hline (jK (ho pins s σ H _ I h) fun v s1 ⟨x,H1,I1,r1,ty,q1⟩=>?_)
 obtain⟨h1,h2⟩:=abD I1 r1 ty
 exact⟨T,id,pa,slot,hty,h1,h2,Calls.callWith_builtin rfl (PySem.evalArgs_none (hm pins s1 σ H1 x [] v [] Q I1 r1 .nil q1))⟩
theorem zM(pa:PlainAttrs T)(slot:Slot T name id)(hty:typeOf (.builtin id)=pure (.type "method_descriptor"))(hm:MtR X id r)(ho:PE X o to)(ha:PA X (e::es) t)
 (hbase:attributeBase o name X.env (eval o X.env)=eval o X.env:=by rfl)
 (hfew:((backTo cpos (starEach (e::es) X.env)).all (fun x=> !x.1) && (backToKw cpos (keywordEach [] X.env)).all (fun x=>x.1.isSome)
   && decide ((e::es).length+([]:List Keyword).length+(if([]:List Keyword).isEmpty then 0 else 1)<30))=true:=by rfl)
 (hline:(apos.endLine==cpos.line)=true:=by rfl)(hs:starEach (e::es) X.env=(false,eval e X.env)::starEach es X.env:=by rfl)(hplain:(backTo cpos (starEach es X.env)).any (·.1)=false:=by rfl):
 PE X (.Call (.Attribute o name apos) (e::es) [] cpos) (tBM X.K T r to t):=by
 intro pins s σ H Q I h
 refine wpAny_Call_method_late hbase hfew hline rfl (jK (ho pins s σ H _ I h) fun v s1 ⟨x,H1,I1,r1,ty,q1⟩=>?_)
 obtain⟨h1,h2⟩:=abD I1 r1 ty
 refine⟨T,id,pa,slot,hty,h1,h2,?_⟩
 have hA:=ha cpos pins s1 σ H1 _ I1 q1
 rw[hs]at hA⊢
 refine Calls.callWith_builtin (by show(false||(backTo cpos (starEach es X.env)).any (·.1))=false;rw[hplain]<;>rfl) (Calls.evalArgs_plain ?_)
 exact jK hA fun us s2 ⟨vs,H2,I2,r2,q2⟩=>hm pins s2 σ H2 x vs v us Q I2 r1 r2 q2
end
end L2
namespace L2
open PySem PySem.Spec PyProof.Rows
def MtM(X:Cx)(id:String)(r:V->List V->Hp->VK->Prop):Prop:=
 ∀(pins:List (Addr×Obj))(s:Shared)(σ:St)(H:Hp)(x:V)(xs:List V)(v:Value)(us:List Value)(Q:VK),Inv X pins σ H s->RelV x v->Vals xs us->r x xs H Q->
  wpAny (model X.prog X.w) X.A (call (.builtin id) (v::us)) (EP X pins σ Q) X.xe s
theorem Vals.one{x:V}{us:List Value}(h:Vals [x] us):∃u,us=[u]/\RelV x u:=by
 cases h with|cons r t=>cases t;exact⟨_,rfl,r⟩
theorem Vals.two{x y:V}{us:List Value}(h:Vals [x,y] us):∃u v,us=[u,v]/\RelV x u/\RelV y v:=by
 cases h with|cons r t=>cases t with|cons q t=>cases t;exact⟨_,_,rfl,r,q⟩
theorem Vals.zero:∀{us:List Value},Vals [] us->us=[]
 |_,.nil=>rfl
theorem Vals.dropLast{xs:List V}{us:List Value}(h:Vals xs us):Vals xs.dropLast us.dropLast:=by
 induction h with
 |nil=>exact .nil
 |cons r t ih=>
  cases t with
  |nil=>exact .nil
  |cons q t'=>exact .cons r ih
theorem Vals.eraseIdx:∀{xs:List V}{us:List Value}(i:Nat),Vals xs us->Vals (xs.eraseIdx i) (us.eraseIdx i)
 |_,_,_,.nil=> .nil
 |_,_,0,.cons _ t=>t
 |_,_,i+1,.cons r t=> .cons r (Vals.eraseIdx i t)
theorem Vals.reverse{xs:List V}{us:List Value}(h:Vals xs us):Vals xs.reverse us.reverse:=by
 induction h with
 |nil=>exact .nil
 |cons r t ih=>rw[List.reverse_cons,List.reverse_cons];exact Vals.append ih (.cons r .nil)
theorem VG{α:Type}(l:List α):l.eraseIdx (l.length-1)=l.dropLast:=by
 induction l with
 |nil=>rfl
 |cons a r ih=>
  cases r with
  |nil=>rfl
  |cons b r=>
   have e:(a::b::r).length-1=((b::r).length-1)+1:=by
    have h1:(a::b::r).length=r.length+2:=rfl
    have h2:(b::r).length=r.length+1:=rfl
    omega
   rw[e,List.eraseIdx_cons_succ,ih]
   all_goals rfl
theorem O1{α:Type}:∀(l:List α)(i:Nat),(l.eraseIdx i).length<=l.length
 |[],_=>Nat.le_refl _
 |_::_,0=>Nat.le_succ _
 |_::r,i+1=>Nat.succ_le_succ (O1 r i)
section
variable{X:Cx}{pins:List (Addr×Obj)}{σ:St}{H:Hp}{s:Shared}{l b:Addr}{xs ys zs:List V}
theorem Inv.aei{its its':List Value}{n:Nat}{f:Array Value->Array Value}{t':Nat}(I:Inv X pins σ H s)(hH:H l=some (.lst xs))
 (e:s.heap.get? l=some { cls:=.type "list",data:=.seq its.toArray n })(hf:f its.toArray=its'.toArray)(hv:Vals ys its')(hz:ys.length<=sizeLine):
 Inv X pins σ (upd H l (.lst ys)) { s with heap:=s.heap.update l (Obj.mapSeq f),toks:=t' }:=by
 have q:=PySem.IsL.update e f
 rw[hf]at q
 refine I.write (x:=l) (e:=l) (by rw[hH];exact trivial) (.inl rfl) (fun b' u hb hu=>(Heap.get?_update_other s.heap (Obj.mapSeq f) (Ne.symm hb)).trans hu) ⟨_,q⟩ ?_
 exact⟨hz,its',_,hv,q⟩
theorem Inv.amV{its:List Value}{t':Nat}(I:Inv X pins σ H s)(hv:Vals ys its)(hz:ys.length<=sizeLine):
 Inv X pins σ (upd H s.heap.objs.size (.lst ys)) { s with heap:=s.heap.push { cls:=.type "list",data:=.seq its.toArray },toks:=t' }:=
 I.laid (fun _ _ q=>Heap.get?_push_of_some _ q) (Nat.le_refl _) ⟨hz,its,0,hv,Heap.get?_push_size _ rfl⟩
theorem Inv.fresh(I:Inv X pins σ H s):H s.heap.objs.size=none:=I.hok.fresh (Nat.le_refl _)
theorem Inv.VH(I:Inv X pins σ H s)(hH:H l=some (.lst xs)):xs.length<=sizeLine/\∃(its:List Value)(n:Nat),Vals xs its/\xs.length=its.length/\s.heap.get? l=some { cls:=.type "list",data:=.seq its.toArray n }:=by
 obtain⟨z,its,n,r,e⟩:=I.hok l _ hH
 exact⟨z,its,n,r,r.length,e⟩
theorem abE{n:Nat}(h:n<=sizeLine):Builtin.List.listTooLong n=false:=by
 unfold Builtin.List.listTooLong
 exact decide_eq_false (by omega)
end
section
variable{X:Cx}
def Xv:V->List V->Hp->VK->Prop:=fun x vs H Q=>∃l xs y,x=.ref l/\vs=[y]/\H l=some (.lst xs)/\xs.length<sizeLine/\Q .non (upd H l (.lst (xs++[y])))
theorem uR:MtM X "list.append" Xv:=by
 intro pins s σ H x vs v us Q I rx rv h
 obtain⟨l,xs,y,rfl,rfl,hH,hz,q⟩:=h
 cases rx
 obtain⟨u,rfl,ru⟩:=rv.one
 obtain⟨z,its,n,r,hl,e⟩:=I.VH hH
 refine call_meets F.slot_list_append ⟨_,e,rfl⟩ F.entry_list_append (F.args_list_append_2 _ _) (PySem.list_append l its.toArray n u (by rw[List.size_toArray];omega)) ⟨e,?_⟩
 refine⟨.non,_,I.aei (its':=its++[u]) hH e (by simp) (r.append (.cons ru .nil)) ?_,rfl,q⟩
 rw[List.length_append,List.length_singleton]
 omega
def Xw:V->List V->Hp->VK->Prop:=fun x vs H Q=>∃l b xs zs,x=.ref l/\vs=[.ref b]/\H l=some (.lst xs)/\H b=some (.lst zs)/\xs.length+zs.length<=sizeLine/\Q .non (upd H l (.lst (xs++zs)))
theorem Ef:MtM X "list.extend" Xw:=by
 intro pins s σ H x vs v us Q I rx rv h
 obtain⟨l,b,xs,zs,rfl,rfl,hH,hB,hz,q⟩:=h
 cases rx
 obtain⟨u,rfl,ru⟩:=rv.one
 cases ru
 obtain⟨z,its,n,r,hl,e⟩:=I.VH hH
 obtain⟨z2,its2,n2,r2,hl2,e2⟩:=I.VH hB
 have hsz:its.toArray.size+its2.toArray.size<=sizeLine:=by rw[List.size_toArray,List.size_toArray];omega
 have ake:¬(!its.toArray.isEmpty && Builtin.List.listTooLong (its.toArray.size+its2.toArray.size))=true:=by
  rw[abE hsz,Bool.and_false]
  exact Bool.false_ne_true
 refine call_meets F.slot_list_extend ⟨_,e,rfl⟩ F.entry_list_extend (F.args_list_extend_2 _ _)
  (AutoSeq1.list_extend_list_list_0 l its.toArray n b its2.toArray n2 ake (by rw[List.size_toArray];omega) (by omega)) ⟨e,e2,?_⟩
 refine⟨.non,_,I.aei (its':=its++its2) hH e (by simp) (r.append r2) ?_,rfl,q⟩
 rw[List.length_append]
 omega
def amW:V->List V->Hp->VK->Prop:=fun x vs H Q=>∃l xs y,x=.ref l/\vs=[]/\H l=some (.lst xs)/\xs[xs.length-1]?=some y/\Q y (upd H l (.lst xs.dropLast))
theorem aic:MtM X "list.pop" amW:=by
 intro pins s σ H x vs v us Q I rx rv h
 obtain⟨l,xs,y,rfl,rfl,hH,hy,q⟩:=h
 cases rx
 have hus:=rv.zero
 subst hus
 obtain⟨z,its,n,r,hl,e⟩:=I.VH hH
 obtain⟨u,hu,ru⟩:=r.get hy
 have hy':its.toArray[its.toArray.size-1]?=some u:=by
  show its.toArray[its.length-1]?=some u
  rw[<-Array.getElem?_toList,<-hl]
  exact hu
 refine call_meets F.slot_list_pop ⟨_,e,rfl⟩ F.entry_list_pop (F.args_list_pop_1 _) (MeetsSeq.list_pop_last l its.toArray n u hy' (by rw[List.size_toArray];omega)) ⟨e,?_⟩
 refine⟨y,_,I.aei (its':=its.dropLast) hH e ?_ r.dropLast ?_,ru,q⟩
 ·show its.toArray.eraseIdxIfInBounds (its.toArray.size-1)=its.dropLast.toArray
  rw[List.size_toArray,List.eraseIdxIfInBounds_toArray,VG]
 ·rw[List.length_dropLast]
  omega
def aie:V->List V->Hp->VK->Prop:=fun x vs H Q=>∃l xs i k y,x=.ref l/\vs=[.int i]/\H l=some (.lst xs)/\-(2^63)<=i/\i<2^63/\seqIndex? i xs.length=some k/\xs[k]?=some y/\Q y (upd H l (.lst (xs.eraseIdx k)))
theorem abF:MtM X "list.pop" aie:=by
 intro pins s σ H x vs v us Q I rx rv h
 obtain⟨l,xs,i,k,y,rfl,rfl,hH,h1,h2,hk,hy,q⟩:=h
 cases rx
 obtain⟨u,rfl,ru⟩:=rv.one
 obtain⟨t,rfl⟩:=ru
 obtain⟨z,its,n,r,hl,e⟩:=I.VH hH
 obtain⟨w,hw,VF⟩:=r.get hy
 refine call_meets F.slot_list_pop ⟨_,e,rfl⟩ F.entry_list_pop (F.args_list_pop_2 _ _)
  (MeetsSeq.list_pop_at l its.toArray n i t k w (fitsIndex_both h1 h2) (by rw[List.size_toArray,<-hl];exact hk) (by rw[<-Array.getElem?_toList];exact hw) (by rw[List.size_toArray];omega)) ⟨e,?_⟩
 refine⟨y,_,I.aei (its':=its.eraseIdx k) hH e ?_ (r.eraseIdx k) ?_,VF,q⟩
 ·show its.toArray.eraseIdxIfInBounds k=(its.eraseIdx k).toArray
  rw[List.eraseIdxIfInBounds_toArray]
 ·have:=O1 xs k
  omega
def akf:R2:=fun x y H Q=>∃l b xs zs,x=.ref l/\y=.ref b/\H l=some (.lst xs)/\H b=some (.lst zs)/\xs.length+zs.length<=sizeLine/\∀p,H p=none->Q (.ref p) (upd H p (.lst (xs++zs)))
theorem Ar:Jw X (binaryOp .Add) akf:=by
 intro pins s σ H x y v u Q I rx ry h
 obtain⟨l,b,xs,zs,rfl,rfl,hH,hB,hz,q⟩:=h
 cases rx
 cases ry
 obtain⟨z,its,n,r,hl,e⟩:=I.VH hH
 obtain⟨z2,its2,n2,r2,hl2,e2⟩:=I.VH hB
 refine PySem.P.add_list e e2 ?_ (by rw[List.size_toArray,List.size_toArray];omega)
 have ea:its.toArray++its2.toArray=(its++its2).toArray:=by simp
 rw[ea]
 exact⟨.ref _,_,I.amV (t':=s.toks) (r.append r2) (by rw[List.length_append];omega),rfl,q _ I.fresh⟩
end
section
variable{prog:Program}{w:World}{A:Around}{E:Value->Shared->Prop}{s:Shared}
end
section
variable{X:Cx}
end
end L2
namespace L2
open PySem PySem.Spec PyProof.Rows
theorem Vals.aif{a:Addr}{us:List Value}(r:Vals [V.ref a] us):us=[Value.ref a]:=by
 cases r with
 |cons r t=>
  cases t
  cases r
  rfl
section
variable{prog:Program}{w:World}{A:Around}{E:Value->Shared->Prop}{s:Shared}{l:Addr}{its:List Value}{ns:List Int}{Q:Value->Shared->Prop}
end
section
variable{X:Cx}
end
section
variable{X:Cx}
end
section
variable{X:Cx}
end
section
variable{X:Cx}
end
mutual
inductive Dp (K:W.Frag) (H:Hp):V->PyData->Prop
 |non:Dp K H .non .none
 |bl (b:Bool):Dp K H (.bl b) (.bool b)
 |int (i:Int):Dp K H (.int i) (.int i)
 |str (x:Str):Dp K H (.str x) (.str x)
 |lst {a:Addr} {xs:List V} {ds:List PyData}:cY K H a xs->Gv K H xs ds->Dp K H (.ref a) (.list ds)
 |tup {a:Addr} {xs:List V} {ds:List PyData}:Ov K H a xs->Gv K H xs ds->Dp K H (.ref a) (.tuple ds)
inductive Gv (K:W.Frag) (H:Hp):List V->List PyData->Prop
 |nil:Gv K H [] []
 |cons {v:V} {vs:List V} {d:PyData} {ds:List PyData}:Dp K H v d->Gv K H vs ds->Gv K H (v::vs) (d::ds)
end
section
variable{X:Cx}{pins:List (Addr×Obj)}{σ:St}{H:Hp}{s:Shared}
mutual
theorem Dp.reads (I:Inv X pins σ H s):∀(d:PyData)(v:V)(u:Value),Dp X.K H v d->RelV v u->∃as,Reads s.heap u d as
 |.none,_,_,h,r=>by
  cases h
  cases r
  exact⟨_,Reads.none⟩
 |.bool b,_,_,h,r=>by
  cases h
  cases r
  exact⟨_,Reads.bool b⟩
 |.int i,_,_,h,r=>by
  cases h
  obtain⟨t,rfl⟩:=r
  exact⟨_,Reads.int i t⟩
 |.str x,_,_,h,r=>by
  cases h
  obtain⟨t,rfl⟩:=r
  exact⟨_,Reads.str x t⟩
 |.list ds,_,_,h,r=>by
  cases h with
  |lst hs ha=>
   cases r
   obtain⟨its,rv,⟨o,n,ho,hc,_,hd⟩,_⟩:=I.list hs
   obtain⟨as,hr⟩:=Dp.readsAll I ds _ its ha rv
   exact⟨_,Reads.list ho hc hd hr⟩
 |.tuple ds,_,_,h,r=>by
  cases h with
  |tup hs ha=>
   cases r
   obtain⟨its,rv,⟨o,ho,hc,n,hd⟩,_⟩:=I.tuple hs
   obtain⟨as,hr⟩:=Dp.readsAll I ds _ its ha rv
   exact⟨_,Reads.tuple ho hc hd hr⟩
 |.dict _,_,_,h,_=>by cases h
theorem Dp.readsAll (I:Inv X pins σ H s):∀(ds:List PyData)(vs:List V)(us:List Value),Gv X.K H vs ds->Vals vs us->∃as,ReadsAll s.heap us ds as
 |[],_,_,h,r=>by
  cases h
  cases r
  exact⟨_,ReadsAll.nil⟩
 |d::ds,_,_,h,r=>by
  cases h with
  |cons h1 h2=>
   cases r with
   |cons r1 r2=>
    obtain⟨as,q1⟩:=Dp.reads I d _ _ h1 r1
    obtain⟨bs,q2⟩:=Dp.readsAll I ds _ _ h2 r2
    exact⟨_,ReadsAll.cons q1 q2⟩
end
end
section
variable{X:Cx}
def amX(K:W.Frag):R2:=fun x y H Q=>∃d e,Dp K H x d/\Dp K H y e/\SeqAt.shaped d=true/\SeqAt.shaped e=true/\Q (.bl (PyData.eqv d e)) H
theorem aii(hu:X.A.units+64<cLine):Jw X (compareOp .Eq) (amX X.K):=by
 intro pins s σ H x y v u Q I rx ry h
 obtain⟨d,e,hd,he,sd,se,q⟩:=h
 obtain⟨as,r1⟩:=Dp.reads I d x v hd rx
 obtain⟨bs,r2⟩:=Dp.reads I e y u he ry
 exact SeqAt.compareEq_shaped r1 r2 sd se hu ⟨.bl _,H,I,rfl,q⟩
end
end L2
namespace L2
open PySem PySem.Spec PyProof.Rows
abbrev abG(h:Heap)(c:Addr)(v:Option Value):Prop:=h.IsCell c v
noncomputable def amY(scope sc:Scope):Scope:=
 { scope with names:=scope.names.map fun(n,k)=>if(k==.free && sc.kind==.function && sc.names.lookup n==some .cell)then(n,.cell)else(n,k) }
noncomputable def dO(cells:List (Str×Addr)):List (Str×NameKind)->List (Str×Addr)->List (Str×Addr)
 |[],acc=>acc
 |(n,k)::r,acc=>if k==.free then dO cells r ((n,(cells.lookup n).getD 0)::acc)else dO cells r acc
theorem Ck(env:Env)(f:Str×NameKind->List (Str×Addr)->Sem (ForInStep (List (Str×Addr))))
 (hf:∀n k c,f (n,k) c=if k==.free then(do let a <-cellOf env n;pure (.yield ((n,a)::c)))else pure (.yield c)):
 ∀(names:List (Str×NameKind))(acc:List (Str×Addr)),(∀y∈names,y.2=.free->∃c,env.cells.lookup y.1=some c)->forIn names acc f=pure (dO env.cells names acc)
 |[],acc,_=>by rw[List.forIn_nil];rfl
 |(n,k)::r,acc,h=>by
  rw[List.forIn_cons,hf]
  have ih:=fun acc=>Ck env f hf r acc fun y hy=>h y (List.mem_cons_of_mem _ hy)
  unfold dO
  by_cases hk:(k==NameKind.free)=true
  ·rw[if_pos hk,if_pos hk]
   obtain⟨c,hc⟩:=h (n,k) List.mem_cons_self (by simpa using hk)
   have e:cellOf env n=pure c:=by unfold cellOf;rw[hc]
   rw[e]
   have e2:(env.cells.lookup n).getD 0=c:=by rw[hc];rfl
   rw[e2]
   exact ih _
  ·rw[if_neg hk,if_neg hk]
   exact ih _
theorem Jz{scope:Scope}{env:Env}(h:∀y∈scope.names,y.2=.free->∃c,env.cells.lookup y.1=some c):closureFor scope env=pure (dO env.cells scope.names []):=by
 simp only[closureFor]
 rw[Ck env _ (fun n k c=>rfl) scope.names [] h]
 rfl
theorem mem_lookup{α:Type}:∀{l:List (Str×α)}{n:Str}{c:α},(n,c)∈l->∃c',l.lookup n=some c'
 |(k,v)::r,n,c,h=>by
  rw[List.lookup_cons]
  cases hb:n==k with
  |true=>exact⟨_,rfl⟩
  |false=>
   rcases List.mem_cons.mp h with e|h
   ·cases e;simp at hb
   ·exact mem_lookup h
theorem qp{cells:List (Str×Addr)}:∀{names:List (Str×NameKind)}{acc:List (Str×Addr)}{n:Str}{c:Addr},(n,c)∈dO cells names acc->(n,c)∈acc\/((n,.free)∈names/\c=(cells.lookup n).getD 0)
 |[],_,_,_,h=> .inl h
 |(m,k)::r,acc,n,c,h=>by
  unfold dO at h
  split at h
  ·rename_i hk
   have hk:k=.free:=by simpa using hk
   rcases qp h with h|⟨h1,h2⟩
   ·rcases List.mem_cons.mp h with e|h
    ·cases e;exact .inr ⟨hk▸List.mem_cons_self,rfl⟩
    ·exact .inl h
   ·exact .inr ⟨List.mem_cons_of_mem _ h1,h2⟩
  ·rcases qp h with h|⟨h1,h2⟩
   ·exact .inl h
   ·exact .inr ⟨List.mem_cons_of_mem _ h1,h2⟩
theorem xH{cells:List (Str×Addr)}:∀{names:List (Str×NameKind)}{acc:List (Str×Addr)}{p:Str×Addr},p∈acc->p∈dO cells names acc
 |[],_,_,h=>h
 |(m,k)::r,acc,p,h=>by
  unfold dO
  split
  ·exact xH (List.mem_cons_of_mem _ h)
  ·exact xH h
theorem tM{cells:List (Str×Addr)}:∀{names:List (Str×NameKind)}{acc:List (Str×Addr)}{n:Str},(n,.free)∈names->(n,(cells.lookup n).getD 0)∈dO cells names acc
 |(m,k)::r,acc,n,h=>by
  unfold dO
  rcases List.mem_cons.mp h with e|h
  ·cases e
   exact xH List.mem_cons_self
  ·split
   ·exact tM h
   ·exact tM h
theorem uT:∀{names:List (Str×NameKind)}{h:Heap}{acc:List (Str×Addr)}{x:Str}{c:Addr},(x,c)∈cellsFrom h.objs.size names acc->
 (x,c)∈acc\/((x,.cell)∈names/\h.objs.size<=c/\abG (pushCells h names) c none)
 |[],_,_,_,_,h=> .inl h
 |(n,k)::r,h,acc,x,c,hm=>by
  unfold cellsFrom at hm
  unfold pushCells
  split at hm
  ·rename_i hk
   rw[if_pos hk]
   have hk:k=.cell:=by simpa using hk
   rw[<-Heap.size_push h { cls:=.type "cell",data:=.cell none }]at hm
   rcases uT hm with hm|⟨h1,h2,h3⟩
   ·rcases List.mem_cons.mp hm with e|hm
    ·cases e
     exact .inr ⟨hk▸List.mem_cons_self,Nat.le_refl _,_,pushCells_keeps r _ _ _ (Heap.get?_push_size _ rfl),rfl⟩
    ·exact .inl hm
   ·rw[Heap.size_push]at h2
    exact .inr ⟨List.mem_cons_of_mem _ h1,Nat.le_of_succ_le h2,h3⟩
  ·rename_i hk
   rw[if_neg hk]
   rcases uT hm with hm|⟨h1,h2,h3⟩
   ·exact .inl hm
   ·exact .inr ⟨List.mem_cons_of_mem _ h1,h2,h3⟩
theorem zp:∀{names:List (Str×NameKind)}{n:Nat}{acc:List (Str×Addr)}{p:Str×Addr},p∈acc->p∈cellsFrom n names acc
 |[],_,_,_,h=>h
 |(m,k)::r,n,acc,p,h=>by
  unfold cellsFrom
  split
  ·exact zp (List.mem_cons_of_mem _ h)
  ·exact zp h
theorem Eh:∀{names:List (Str×NameKind)}{n:Nat}{acc:List (Str×Addr)}{x:Str},(x,.cell)∈names->∃c,(x,c)∈cellsFrom n names acc
 |(m,k)::r,n,acc,x,h=>by
  unfold cellsFrom
  rcases List.mem_cons.mp h with e|h
  ·cases e
   exact⟨n,zp List.mem_cons_self⟩
  ·split
   ·exact Eh h
   ·exact Eh h
theorem Ei:∀{names:List (Str×NameKind)}{h:Heap}{acc:List (Str×Addr)}{x y:Str}{c:Addr},(∀p∈acc,p.2<h.objs.size)->(∀x y c,(x,c)∈acc->(y,c)∈acc->x=y)->
 (x,c)∈cellsFrom h.objs.size names acc->(y,c)∈cellsFrom h.objs.size names acc->x=y
 |[],_,_,_,_,_,_,hi,h1,h2=>hi _ _ _ h1 h2
 |(n,k)::r,h,acc,x,y,c,hl,hi,h1,h2=>by
  unfold cellsFrom at h1 h2
  split at h1
  ·rename_i hk
   rw[if_pos hk]at h2
   rw[<-Heap.size_push h { cls:=.type "cell",data:=.cell none }]at h1 h2
   refine Ei (h:=h.push _) (fun p hp=>?_) (fun x y c a b=>?_) h1 h2
   ·rw[Heap.size_push]
    rcases List.mem_cons.mp hp with rfl|hp
    ·exact Nat.lt_succ_self _
    ·exact Nat.lt_succ_of_lt (hl p hp)
   ·rcases List.mem_cons.mp a with e|a<;>rcases List.mem_cons.mp b with e'|b
    ·cases e;cases e';rfl
    ·cases e;exact absurd (hl _ b) (Nat.lt_irrefl _)
    ·cases e';exact absurd (hl _ a) (Nat.lt_irrefl _)
    ·exact hi _ _ _ a b
  ·rename_i hk
   rw[if_neg hk]at h2
   exact Ei hl hi h1 h2
theorem S8{M:Model}{A:Around}{E:Value->Shared->Prop}{s:Shared}{scope:Scope}{globals:Addr}{closure:List (Str×Addr)}{qual:Str}{func:Option Addr}{code:Value}{around:Env}{builtins:Addr}{Q:Env->Shared->Prop}
 (h:Q (newEnv scope s.heap.objs.size globals (cellsFrom (s.heap.objs.size+1) scope.names closure) qual func code (some around) builtins)
   { s with heap:=pushCells (s.heap.push { cls:=.type "dict",data:=.dict #[] }) scope.names }):
 wpAny M A (newFunctionEnv scope globals closure [] qual func code (some around) builtins) Q E s:=by
 simp only[newFunctionEnv,Option.isSome_some,if_true]
 refine wpAny_bind (wpAny_alloc ?_)
 refine wpAny_bind (wpAny_layCells _ (fun n k c=>rfl) scope.names closure _ _ ?_)
 rw[show({ s with heap:=s.heap.push { cls:=.type "dict",data:=.dict #[] } }:Shared).heap.objs.size=s.heap.objs.size+1 from Heap.size_push ..]
 rw[List.forIn_nil]
 exact wpAny_bind (wpAny_pure (wpAny_pure h))
theorem xJ{sc:Scope}:∀{names:List (Str×NameKind)}{x:Str}{k:NameKind},
 (names.map fun(n,k)=>if(k==NameKind.free && sc.kind==.function && sc.names.lookup n==some .cell)then(n,NameKind.cell)else(n,k)).lookup x=some k->
 ∃k',names.lookup x=some k'/\(k=k'\/(k'=.free/\k=.cell))
 |[],_,_,h=>by simp at h
 |(n,k₀)::r,x,k,h=>by
  have ih:=@xJ sc r x k
  have h':List.lookup x ((if(k₀==NameKind.free && sc.kind==.function && sc.names.lookup n==some .cell)=true then(n,NameKind.cell)else(n,k₀))::(r.map _))=some k:=h
  cases hx:x==n with
  |true=>
   simp only[List.lookup_cons,hx]
   by_cases hc:(k₀==NameKind.free && sc.kind==.function && sc.names.lookup n==some .cell)=true
   ·rw[if_pos hc]at h'
    simp only[List.lookup_cons,hx]at h'
    cases h'
    simp only[Bool.and_eq_true,beq_iff_eq]at hc
    exact⟨k₀,rfl,.inr ⟨hc.1.1,rfl⟩⟩
   ·rw[if_neg hc]at h'
    simp only[List.lookup_cons,hx]at h'
    cases h'
    exact⟨_,rfl,.inl rfl⟩
  |false=>
   simp only[List.lookup_cons,hx]
   by_cases hc:(k₀==NameKind.free && sc.kind==.function && sc.names.lookup n==some .cell)=true
   ·rw[if_pos hc]at h'
    simp only[List.lookup_cons,hx]at h'
    exact ih h'
   ·rw[if_neg hc]at h'
    simp only[List.lookup_cons,hx]at h'
    exact ih h'
structure O2(N:List Str)(sc scope:Scope)(own:List (Str×Nat)):Prop where
 kind:scope.kind=.function
 uniq:∀y∈scope.names,scope.names.lookup y.1=some y.2
 ix:∀p∈own,N[p.2]?=some p.1
 free:∀y∈scope.names,y.2=.free->sc.names.lookup y.1=some .cell\/sc.names.lookup y.1=some .free
 own:∀y∈scope.names,y.2=.local\/y.2=.cell->y.1∈own.map (·.1)\/y.1∉N
noncomputable def wipe(σ:St):List Nat->St
 |[]=>σ
 |v::vs=>(wipe σ vs).set v none
theorem xK(σ:St):∀vs:List Nat,(wipe σ vs).length=σ.length
 |[]=>rfl
 |v::vs=>by unfold wipe;rw[List.length_set,xK σ vs]
theorem Ej{σ:St}{i:Nat}{x:V}:∀{vs:List Nat},(wipe σ vs)[i]?=some (some x)->σ[i]?=some (some x)/\i∉vs
 |[],h=>⟨h,by simp⟩
 |v::vs,h=>by
  unfold wipe at h
  by_cases hi:v=i
  ·subst hi
   by_cases hv:v<(wipe σ vs).length
   ·rw[List.getElem?_set_self hv]at h;cases h
   ·rw[List.getElem?_eq_none (by simpa using hv)]at h;cases h
  ·rw[List.getElem?_set_ne hi]at h
   obtain⟨h1,h2⟩:=Ej h
   exact⟨h1,by simp only[List.mem_cons,not_or];exact⟨fun e=>hi e.symm,h2⟩⟩
noncomputable abbrev Cx.blk(X:Cx)(s:Shared)(H:Hp)(scope:Scope)(cenv:Env)(fp:List Addr):Cx:={ X with s_0:=s,H_0:=H,env:=cenv,outer:=X.stack,ex:=fp,fn:=fun x=>scope.names.lookup x==some .cell,pn:=[],xe:=fun _ _=>False }
section
variable{X:Cx}{pins:List (Addr×Obj)}{σ:St}{H:Hp}{s:Shared}
theorem S9{scope:Scope}{own:List (Str×Nat)}{fp:List Addr}(I:Inv X pins σ H s)(ok:O2 X.N X.env.scope scope own)(hN:X.N.Nodup)(hfp:∀b∈fp,qK X pins H b/\b<s.heap.objs.size):
 Inv (X.blk s H scope (compEnvC scope (cellsFrom (s.heap.objs.size+1) scope.names (dO X.env.cells scope.names [])) s.heap.objs.size X.env) fp) [] (wipe σ (own.map (·.2))) H { s with heap:=pushCells (s.heap.push { cls:=.type "dict",data:=.dict #[] }) scope.names }:=by
 have hfree:∀y∈scope.names,y.2=.free->∃c,X.env.cells.lookup y.1=some c:=fun y hy e=>by
  rcases ok.free y hy e with k|k
  ·exact I.ok.has _ (.inl k)
  ·exact I.ok.has _ (.inr k)
 generalize Tc:compEnvC scope (cellsFrom (s.heap.objs.size+1) scope.names (dO X.env.cells scope.names [])) s.heap.objs.size X.env=cenv
 have kp:∀b o,s.heap.get? b=some o->(pushCells (s.heap.push { cls:=.type "dict",data:=.dict #[] }) scope.names).get? b=some o:=fun b o e=>pushCells_keeps _ _ _ _ (Heap.get?_push_of_some _ e)
 have hL:cenv.locals=s.heap.objs.size:=by rw[<-Tc];rfl
 have hcl:cenv.cells=cellsFrom (s.heap.objs.size+1) scope.names (dO X.env.cells scope.names []):=by rw[<-Tc];rfl
 have hsc:cenv.scope=amY scope X.env.scope:=by rw[<-Tc];rfl
 rw[<-Heap.size_push s.heap { cls:=.type "dict",data:=.dict #[] }]at hcl
 have cm:∀{y c},(y,c)∈dO X.env.cells scope.names []->X.env.cells.lookup y=some c/\c<s.heap.objs.size:=fun{y c} hm=>by
  rcases qp hm with hm|⟨h1,rfl⟩
  ·cases hm
  ·obtain⟨c,hc⟩:=hfree _ h1 rfl
   rw[hc]
   obtain⟨w,z⟩:=I.cell _ _ hc
   exact⟨rfl,z.lt⟩
 have mem:∀{y c},cenv.cells.lookup y=some c->(X.env.cells.lookup y=some c/\c<s.heap.objs.size)\/(s.heap.objs.size+1<=c/\abG (pushCells (s.heap.push { cls:=.type "dict",data:=.dict #[] }) scope.names) c none):=fun{y c} e=>by
  rw[hcl]at e
  rcases uT (PySem.mem_of_lookup e)with hm|⟨_,h2,h3⟩
  ·exact .inl (cm hm)
  ·rw[Heap.size_push]at h2;exact .inr ⟨h2,h3⟩
 have look:∀{y},scope.names.lookup y=some .free->∃c,cenv.cells.lookup y=some c/\X.env.cells.lookup y=some c:=fun{y} hl=>by
  have hy:(y,NameKind.free)∈scope.names:=PySem.mem_of_lookup hl
  obtain⟨c',e'⟩:=mem_lookup (zp (names:=scope.names) (n:=(s.heap.push { cls:=.type "dict",data:=.dict #[] }).objs.size) (tM (cells:=X.env.cells) (acc:=[]) hy))
  rw[<-hcl]at e'
  refine⟨c',e',?_⟩
  rw[hcl]at e'
  rcases uT (PySem.mem_of_lookup e')with hm|⟨h1,_,_⟩
  ·exact(cm hm).1
  ·have:=ok.uniq _ h1
   rw[hl]at this;cases this
 have okB:(X.blk s H scope cenv fp).Ok:=by
  refine⟨I.ok.mod,by show cenv.scope.kind=_;rw[hsc];exact ok.kind,by show cenv.globals=_;rw[<-Tc];exact I.ok.glob,by show cenv.builtins=_;rw[<-Tc];exact I.ok.blt,by show s.heap.objs.size<=cenv.locals;rw[hL];exact Nat.le_refl _,
   fun y z c e1 e2=>?_,fun y hy=>?_,fun y c z e=>?_,I.ok.hd,I.ok.frames,.inl rfl,fun b hb=>⟨?_,fun y c e z=>?_⟩,I.bs,Nat.le_trans I.ok.Y8 I.sz,fun b o e hb=>?_,fun b hb z=>?_,I.stack,I.QF⟩
  ·have e1:cenv.cells.lookup y=some c:=e1
   have e2:cenv.cells.lookup z=some c:=e2
   rw[hcl]at e1 e2
   refine Ei (fun p hp=>?_) (fun y z c a b=>I.ok.inj y z c (cm a).1 (cm b).1) (PySem.mem_of_lookup e1) (PySem.mem_of_lookup e2)
   rw[Heap.size_push]
   exact Nat.lt_succ_of_lt (cm (y:=p.1) (c:=p.2) hp).2
  ·show∃c,cenv.cells.lookup y=some c
   have key:∀k,cenv.kindOf y=some k->(k=.cell\/k=.free)->∃c,cenv.cells.lookup y=some c:=fun k hk hk'=>by
     unfold Env.kindOf at hk
     rw[hsc]at hk
     obtain⟨k',e,r⟩:=xJ hk
     have:k'=.cell\/k'=.free:=by
      rcases r with rfl|⟨rfl,_⟩
      ·exact hk'
      ·exact .inr rfl
     rcases this with rfl|rfl
     ·obtain⟨c,hm⟩:=Eh (n:=(s.heap.push { cls:=.type "dict",data:=.dict #[] }).objs.size) (acc:=dO X.env.cells scope.names []) (PySem.mem_of_lookup e)
      obtain⟨c',e'⟩:=mem_lookup hm
      exact⟨c',by rw[hcl];exact e'⟩
     ·obtain⟨c,h1,_⟩:=look e
      exact⟨c,h1⟩
   rcases hy with hy|hy
   ·exact key _ hy (.inl rfl)
   ·exact key _ hy (.inr rfl)
  ·have z:(scope.names.lookup y==some NameKind.cell)=true:=z
   have z:scope.names.lookup y=some .cell:=by simpa using z
   have e:cenv.cells.lookup y=some c:=e
   rw[hcl]at e
   rcases uT (PySem.mem_of_lookup e)with hm|⟨_,h2,_⟩
   ·rcases qp hm with hm|⟨h1,_⟩
    ·cases hm
    ·have q:=ok.uniq _ h1
     rw[z]at q;cases q
   ·rw[Heap.size_push]at h2
    exact Nat.le_of_succ_le h2
  ·show b≠cenv.locals
   rw[hL];exact Nat.ne_of_lt (hfp b hb).2
  ·have e:cenv.cells.lookup y=some c:=e
   rcases mem e with⟨h1,_⟩|⟨h1,_⟩
   ·exact(hfp b hb).1.2.2.2.2.1 y c h1 z
   ·have h2:s.heap.objs.size+1<=b:=by rw[<-z];exact h1
    exact absurd (Nat.lt_of_lt_of_le (hfp b hb).2 (Nat.le_of_succ_le h2)) (Nat.lt_irrefl _)
  ·rcases(hfp b hb).1.2.2.2.1 with z|z
   ·exact I.ok.abb b o e z
   ·exact absurd (Nat.lt_of_lt_of_le (Heap.lt_size e) (Nat.le_trans I.ok.Y8 z)) (Nat.lt_irrefl _)
  ·rcases List.mem_cons.mp (I.Vq b z)with z|z
   ·exact(hfp b hb).1.2.1 z
   ·exact(hfp b hb).1.2.2.1 z
 refine⟨okB,rfl,I.bare,Un.kept kp,⟨fun _=>none,?_,fun i y av e1 e2 e3=>?_⟩,fun y c e=>?_,?_,fun y c e=>?_,fun p hp=>?_,I.hok.kept kp,by rw[xK];exact I.len⟩
 ·show Heap.Ns _ cenv.locals _
  rw[hL]
  exact Heap.Ns.keeps (Heap.Ns.new ..) fun b o e=>pushCells_keeps _ _ _ _ e
 ·obtain⟨e2,hne⟩:=Ej e2
  have hfr:scope.names.lookup y=some .free/\(cenv.kindOf y=some .cell\/cenv.kindOf y=some .free):=by
   have key:∀k,cenv.scope.names.lookup y=some k->k=.local\/k=.cell\/k=.free->scope.names.lookup y=some .free/\(cenv.kindOf y=some .cell\/cenv.kindOf y=some .free):=fun k hk hk'=>by
     have hk0:=hk
     rw[hsc]at hk
     obtain⟨k',e,r⟩:=xJ hk
     have no:¬(k'=.local\/k'=.cell):=fun hh=>by
      rcases ok.own _ (PySem.mem_of_lookup e) hh with e'|e'
      ·obtain⟨p,hp,hpy⟩:=List.mem_map.mp e'
       have e3:=ok.ix p hp
       have:p.1=y:=hpy
       rw[this]at e3
       exact hne (List.mem_map.mpr ⟨p,hp,Ju hN e3 e1⟩)
      ·exact e' (List.mem_of_getElem? e1)
     rcases r with rfl|⟨rfl,rfl⟩
     ·rcases hk' with rfl|rfl|rfl
      ·exact absurd (.inl rfl) no
      ·exact absurd (.inr rfl) no
      ·exact⟨e,.inr hk0⟩
     ·exact⟨e,.inl hk0⟩
   have e3:Vis cenv.scope y:=e3
   rcases e3 with e3|e3|e3
   ·exact key _ e3 (.inl rfl)
   ·exact key _ e3 (.inr (.inl rfl))
   ·exact key _ e3 (.inr (.inr rfl))
  obtain⟨m,hn,hl⟩:=I.loc
  have amZ:Vis X.env.scope y:=(ok.free _ (PySem.mem_of_lookup hfr.1) rfl).elim (fun k=> .inr (.inl k)) (fun k=> .inr (.inr k))
  obtain⟨w,r,q⟩:=hl i y av e1 e2 amZ
  refine⟨w,r,.inr ⟨hfr.2,?_⟩⟩
  obtain⟨c,h1,h2⟩:=look hfr.1
  rcases q with⟨k,_⟩|⟨_,c',e',z⟩
  ·have k:X.env.scope.names.lookup y=some .local:=k
   rcases ok.free _ (PySem.mem_of_lookup hfr.1) rfl with k'|k'<;>rw[show X.env.scope.names.lookup y=_ from k']at k<;>cases k
  ·rw[h2]at e';cases e'
   exact⟨c,h1,z.keeps kp⟩
 ·have e:cenv.cells.lookup y=some c:=e
  rcases mem e with⟨h1,_⟩|⟨_,z⟩
  ·obtain⟨w,z⟩:=I.cell y c h1
   exact⟨w,z.keeps kp⟩
  ·exact⟨_,z⟩
 ·show H cenv.locals=none
  rw[hL];exact I.hok.fresh (Nat.le_refl _)
 ·have e:cenv.cells.lookup y=some c:=e
  rcases mem e with⟨h1,_⟩|⟨h1,_⟩
  ·exact I.tL y c h1
  ·exact I.hok.fresh (Nat.le_of_succ_le h1)
 ·exact absurd (show p∈([]:List (Addr×Obj))++[]from hp) (by simp)
theorem aij{E:Value->Shared->Prop}{D:Addr}{xs:List V}{y:V}{v:Value}{Q:Value->Shared->Prop}(I:Inv X pins σ H s)(hD:H D=some (.lst xs))(hz:xs.length<sizeLine)(r:RelV y v)
 (h:∀s',Inv X pins σ (upd H D (.lst (xs++[y]))) s'->Q .none s'):wpAny (model X.prog X.w) X.A (call (.builtin "list.append") [.ref D,v]) Q E s:=by
 obtain⟨hz',its,n,ri,e⟩:=I.hok D _ hD
 have hl:=ri.length
 refine append_at (hsz:=by rw[List.size_toArray];omega) e fun h' sb ho'=>?_
 refine h { s with heap:=h' } (I.write (t':=s.toks) (by rw[hD];trivial) (.inl rfl) (fun b u hb q=>(sb.2 b hb).trans q) ⟨_,ho'⟩ ⟨by rw[List.length_append];exact hz,its++[v],n+1,ri.append (.cons r .nil),?_⟩)
 rw[ho']
 simp
def PTs(X:Cx)(ifs:List Expr)(t:TT):Prop:=
 ∀(pins:List (Addr×Obj))(s:Shared)(σ:St)(H:Hp)(Q:Bool->Hp->Prop),Inv X pins σ H s->t σ H Q->
  wpAny (model X.prog X.w) X.A (forIn ifs true fun c r=>if r=true then do let ok <-isTrue c X.env (eval c X.env);pure (ForInStep.yield ok)else pure (ForInStep.yield r)) (TP X pins σ Q) X.xe s
def akh:TT:=fun _ H Q=>Q true H
theorem zq:PTs X [] akh:=fun _ _ _ H _ I h=>wpAny_tests_nil ⟨H,I,h⟩
theorem zu{c:Expr}{t:TT}(h:PT X c t):PTs X [c] t:=fun pins s σ H Q I hw=>wpAny_tests_one (h pins s σ H Q I hw)
end
theorem Zf{α:Type}{t:Sem α}{Q Q':α->Shared->Prop}{M:Model}{A:Around}{E:Value->Shared->Prop}{s:Shared}(h:wpAny M A t Q (fun _ _=>False) s)(hQ:∀a s,Q a s->Q' a s):wpAny M A t Q' E s:=wpAny_mono h hQ fun _ _ z=>False.elim z
theorem QX{prog:Program}{w:World}{A:Around}{R:Result->Shared->Prop}{s:Shared}{elt target iter:Expr}{ifs:List Expr}{scope:Scope}{pos:Pos}{it acc:Value}{env:Env}(I:Nat->Shared->Prop)
 (turn:∀n s,I n s->wpAny (model prog w) A (pyNext it) (fun r s₁=>match r with
   |none=>R (.ok .next) s₁
   |some v=>wpAny (model prog w) A (letOwnedTupleGo target it v) (fun _ s₁'=>wpAny (model prog w) A (assign target env v) (fun _ s₂=>
     wpAny (model prog w) A (forIn ifs true fun c r=>if r=true then do let ok <-isTrue c env (eval c env);pure (ForInStep.yield ok)else pure (ForInStep.yield r)) (fun ok s₃=>
      if ok=true then wpAny (model prog w) A (eval elt env) (fun x s₄=>
       wpAny (model prog w) A (call (.builtin "list.append") [acc,x]) (fun _ s₅=>∃m,m<n/\I m s₅) (notedBy (model prog w) A env fun e s'=>R (.error e) s') s₄) (notedBy (model prog w) A env fun e s'=>R (.error e) s') s₃
      else∃m,m<n/\I m s₃) (notedBy (model prog w) A env fun e s'=>R (.error e) s') s₂) (notedBy (model prog w) A env fun e s'=>R (.error e) s') s₁') (notedBy (model prog w) A env fun e s'=>R (.error e) s') s₁) (notedBy (model prog w) A env fun e s'=>R (.error e) s') s)
 (n:Nat)(h:I n s):
 codeAny (model prog w) A (.compLoop (.ListComp elt [⟨target,iter,ifs,0⟩] scope pos) 0 it acc env) R s:=by
 refine codeAny_loop rfl I (fun n s hI=>?_) n h
 show wpAny _ A ((compTurn (.ListComp elt [⟨target,iter,ifs,0⟩] scope pos) 0 it acc env).onRaise (fun x=>do noteFrame x env;theTreesLotGoes x)) _ _ s
 refine wpAny_noted ?_
 rw[compTurn_list]
 refine wpAny_bind (wpAny_standAt (wpAny_bind (wpAny_mono (turn n s hI) (fun r s₁ h₁=>?_) fun _ _ h'=>h')))
 cases r with
 |none=>exact wpAny_pure h₁
 |some v=>
  refine wpAny_bind (wpAny_mono h₁ (fun _ s₁' h₁'=>?_) fun _ _ h'=>h')
  refine wpAny_bind (wpAny_mono h₁' (fun _ s₂ h₂=>wpAny_bind (wpAny_mono h₂ (fun ok s₃ h₃=>?_) fun _ _ h'=>h')) fun _ _ h'=>h')
  cases ok with
  |false=>exact wpAny_pure ⟨rfl,h₃⟩
  |true=>
   exact wpAny_bind (wpAny_bind (wpAny_mono h₃ (fun x s₄ h₄=>wpAny_bind (wpAny_mono h₄ (fun _ s₅ h₅=>wpAny_pure (wpAny_pure ⟨rfl,h₅⟩)) fun _ _ h'=>h')) fun _ _ h'=>h'))
section
variable{X:Cx}
def tLc(wi:TI)(g:TG)(tt:TT)(te:TE)(vs:List Nat):TE:=fun σ H Q=>wi σ H fun J H1=>∀D,H1 D=none->∃W:Nat->Nat->Hp->Prop,(∃m,W 0 m (upd H1 D (.lst [])))/\∀i m H,W i m H->
 (J.stop i H/\Q (.ref D) H)\/(J.go i H/\∃Nx:Hp->Prop,(∀H',Nx H'->∃m',m'<m/\W (i+1) m' H')/\∀x H',J.yld i H x H'->g x (wipe σ vs) H' fun σ2 H2=>wipe σ2 vs=wipe σ vs/\tt σ2 H2 fun b H3=>
   if b=true then te σ2 H3 fun y H4=>∃acc,H4 D=some (.lst acc)/\acc.length<sizeLine/\Nx (upd H4 D (.lst (acc++[y])))else Nx H3)
theorem Xx{pins:List (Addr×Obj)}{s:Shared}{σ:St}{H:Hp}{Q:VK}{elt tg iter:Expr}{ifs:List Expr}{scope:Scope}{own:List (Str×Nat)}{pos pos':Pos}{wi:TI}{g:TG}{tt:TT}{te:TE}{use:Option (Value->Sem Unit)}{Qf:Value->Shared->Prop}
 (hc:X.calm=true)(hN:X.N.Nodup)(I:Inv X pins σ H s)(hi:PI X tg iter wi)(ok:O2 X.N X.env.scope scope own)
 (hg:∀(s:Shared)(H:Hp)(C:Addr)(cl:List (Str×Addr))(fp:List Addr),PG (X.blk s H scope (compEnvC scope cl C X.env) fp) tg g)(ht:∀(s:Shared)(H:Hp)(C:Addr)(cl:List (Str×Addr))(fp:List Addr),PTs (X.blk s H scope (compEnvC scope cl C X.env) fp) ifs tt)
 (he:∀(s:Shared)(H:Hp)(C:Addr)(cl:List (Str×Addr))(fp:List Addr),PE (X.blk s H scope (compEnvC scope cl C X.env) fp) elt te)(hs:∀x,foldedSetIterable iter X.env x=pure x)
 (h:tLc wi g tt te (own.map (·.2)) σ H Q)
 (hRR:∀D C s' m H',Inv X pins σ H' s'->Q (.ref D) H'->s'.heap.Ns C m->qK X pins H' C->compPost (model X.prog X.w) X.A X.xe use Qf (.ref D) C (.ok .next) s'):
 wpAny (model X.prog X.w) X.A (comprehension (.ListComp elt [⟨tg,iter,ifs,0⟩] scope pos) scope X.env pos' (newList []) false (eval iter X.env) use) Qf X.xe s:=by
 have hfree:∀y∈scope.names,y.2=.free->∃c,X.env.cells.lookup y.1=some c:=fun y hy e=>by
  rcases ok.free y hy e with k|k
  ·exact I.ok.has _ (.inl k)
  ·exact I.ok.has _ (.inr k)
 refine wpAny_comprehension_free (use:=use) rfl hs (Jz hfree) ok.kind (fun y hy e=>by rw[ok.uniq y hy,e])
  (jK (hi pins s σ H _ I h) fun xv s1 hx=>jK hx fun itv s2 h2=>?_)
 obtain⟨it,fp,tn,J,H2,e,I2,T,st2,f2,q⟩:=h2
 subst e
 refine wpAny_newObj_type (S8 ?_) (by show 0<=sizeLine;decide)
 generalize hD:s2.heap.objs.size=D
 have hDn:H2 D=none:=I2.hok.fresh (Nat.le_of_eq hD)
 obtain⟨W,⟨m0,w0⟩,turn⟩:=q D hDn
 generalize hs3:({ s2 with heap:=s2.heap.push { cls:=.type "list",data:=.seq ([]:List Value).toArray } }:Shared)=s3
 have I3:Inv X pins σ (upd H2 D (.lst [])) s3:=by
  rw[<-hs3]
  refine I2.laid (t':=s2.toks) (fun b o e=>Heap.get?_push_of_some _ e) (Nat.le_of_eq hD) ⟨Nat.zero_le _,[],0,.nil,?_⟩
  rw[<-hD]
  exact Heap.get?_push_size _ rfl
 have h3:s3.heap=s2.heap.push { cls:=.type "list",data:=.seq ([]:List Value).toArray }:=by rw[<-hs3]
 have sz:∀b∈fp,b<s2.heap.objs.size:=fun b hb=>by
  obtain⟨o,e,_⟩:=T.obj _ _ st2 b hb
  exact Heap.lt_size e
 have f3:∀b∈fp,qK X pins (upd H2 D (.lst [])) b/\b<s3.heap.objs.size:=fun b hb=>by
  have hlt:=sz b hb
  refine⟨⟨?_,(f2 b hb).2⟩,by rw[h3,Heap.size_push];exact Nat.lt_succ_of_lt hlt⟩
  rw[aH (by rw[<-hD];exact Nat.ne_of_lt hlt)]
  exact(f2 b hb).1
 have st3:tn 0 s3.heap:=T.keep _ _ _ st2 fun b _ o e=>by rw[h3];exact Heap.get?_push_of_some _ e
 have I4:=S9 I3 ok hN f3
 have pg:=hg s3 (upd H2 D (.lst [])) s3.heap.objs.size (cellsFrom (s3.heap.objs.size+1) scope.names (dO X.env.cells scope.names [])) fp
 have pt:=ht s3 (upd H2 D (.lst [])) s3.heap.objs.size (cellsFrom (s3.heap.objs.size+1) scope.names (dO X.env.cells scope.names [])) fp
 have pe:=he s3 (upd H2 D (.lst [])) s3.heap.objs.size (cellsFrom (s3.heap.objs.size+1) scope.names (dO X.env.cells scope.names [])) fp
 show codeAny _ _ (.compStart (.ListComp elt [⟨tg,iter,ifs,0⟩] scope pos) 0 (.ref it) (.ref D) (compEnvC scope (cellsFrom (s3.heap.objs.size+1) scope.names (dO X.env.cells scope.names [])) s3.heap.objs.size X.env)) (compPost (model X.prog X.w) X.A X.xe use Qf (.ref D) s3.heap.objs.size) { s3 with heap:=pushCells (s3.heap.push { cls:=.type "dict",data:=.dict #[] }) scope.names }
 have nfp:∀b∈fp,(upd H2 D (.lst [])) b=none:=fun b hb=>(f3 b hb).1.1
 generalize hce:compEnvC scope (cellsFrom (s3.heap.objs.size+1) scope.names (dO X.env.cells scope.names [])) s3.heap.objs.size X.env=ce at I4 pg pt pe⊢
 have cL:ce.locals=s3.heap.objs.size:=by subst hce;rfl
 generalize hH3:upd H2 D (.lst [])=H3 at I3 I4 pg pt pe w0 nfp f3
 generalize hs4:({ s3 with heap:=pushCells (s3.heap.push { cls:=.type "dict",data:=.dict #[] }) scope.names }:Shared)=s4 at I4⊢
 have st4:tn 0 s4.heap:=T.keep _ _ _ st3 fun b _ o e=>by rw[<-hs4];exact pushCells_keeps _ _ _ _ (Heap.get?_push_of_some _ e)
 have stat:∀{σ':St}{H':Hp}{s':Shared},Inv (X.blk s3 H3 scope ce fp) [] σ' H' s'->(∀b∈fp,H' b=none)->∀b∈fp,qK (X.blk s3 H3 scope ce fp) [] H' b:=fun{σ' H' s'} I' hn b hb=>
  ⟨hn b hb,(I'.ok.exf b hb).1,I'.ok.abd b hb,.inl hb,fun x c e=>(I'.ok.exf b hb).2 x c e,fun p hp=>absurd (show p∈([]:List (Addr×Obj))++[]from hp) (by simp)⟩
 have loop:codeAny (model X.prog X.w) X.A (.compLoop (.ListComp elt [⟨tg,iter,ifs,0⟩] scope pos) 0 (.ref it) (.ref D) ce) (compPost (model X.prog X.w) X.A X.xe use Qf (.ref D) s3.heap.objs.size) s4:=by
  refine QX (fun n s'=>∃i H',Inv (X.blk s3 H3 scope ce fp) [] (wipe σ (own.map (·.2))) H' s'/\tn i s'.heap/\(∀b∈fp,H' b=none)/\W i n H') ?_ m0 ⟨0,H3,I4,st4,nfp,w0⟩
  rintro n s5 ⟨i,H5,I5,st5,n5,w5⟩
  rcases turn i n H5 w5 with⟨stop,qq⟩|⟨go,Nx,hNx,step⟩
  ·have td:=T.done (X.blk s3 H3 scope ce fp) rfl rfl rfl hc i [] s5 _ H5 (fun _ _=>False) I5 (stat I5 n5) st5 stop
   refine Zf td fun r s6 ⟨hr,I6⟩=>?_
   subst hr
   have I7:Inv X pins σ H5 s6:=I3.call' (ch:=fp) I6.os I6.base I6.hok I6.bare fun b hb=>⟨(f3 b hb).1.2.2.2.1,(f3 b hb).1.2.1,(f3 b hb).1.2.2.2.2.1,(f3 b hb).1.2.2.2.2.2⟩
   have nC:H5 s3.heap.objs.size=none:=by
    have z:H5 ce.locals=none:=I6.free
    rw[cL]at z
    exact z
   obtain⟨m,hn,_⟩:=I6.loc
   have hn:s6.heap.Ns ce.locals m:=hn
   rw[cL]at hn
   exact hRR D s3.heap.objs.size s6 m H5 I7 qq hn (I3.QJ (Nat.le_refl _) nC)
  ·have ti:=T.item (X.blk s3 H3 scope ce fp) rfl rfl rfl hc i [] s5 _ H5 (fun _ _=>False) I5 (stat I5 n5) st5 go
   refine Zf ti fun r s6 ⟨u,hr,h6⟩=>?_
   subst hr
   refine Zf h6 fun _ s7 ⟨x,H7,I7,r7,y7,st7,n7⟩=>?_
   have I7':=I7.pinned (stat I7 n7) (T.obj _ _ st7)
   refine Zf (pg _ s7 _ H7 x u _ I7' r7 (step x H7 y7)) fun _ s8 ⟨σ8,H8,I8,hw8,q8⟩=>?_
   refine Zf (pt _ s8 σ8 H8 _ I8 q8) fun b s9 ⟨H9,I9,q9⟩=>?_
   have fin:∀{s':Shared}{H':Hp},Inv (X.blk s3 H3 scope ce fp) ([]++Jv fp s7.heap) σ8 H' s'->Nx H'->∃m,m<n/\∃i H',Inv (X.blk s3 H3 scope ce fp) [] (wipe σ (own.map (·.2))) H' s'/\tn i s'.heap/\(∀b∈fp,H' b=none)/\W i m H':=fun{s' H'} I' nx=>by
    obtain⟨m',hm,w'⟩:=hNx H' nx
    have akj:∀b∈fp,∀o,s7.heap.get? b=some o->s'.heap.get? b=some o/\H' b=none:=fun b hb o e=>
     let z:=I'.pin (b,o) (List.mem_append_right _ (List.mem_append_right _ (Ao hb e)))
     ⟨z.1,z.2.1⟩
    have hl:(wipe σ (own.map (·.2))).length=σ8.length:=by rw[<-hw8,xK]
    refine⟨m',hm,i+1,H',(I'.rY (pins:=[])).weak hl (fun j v e=>?_),T.keep _ _ _ st7 fun b hb o e=>(akj b hb o e).1,fun b hb=>?_,w'⟩
    ·rw[<-hw8]at e
     exact(Ej e).1
    ·obtain⟨o,e,_⟩:=T.obj _ _ st7 b hb
     exact(akj b hb o e).2
   cases b with
   |false=>
    simp only[Bool.false_eq_true,if_false]at q9⊢
    exact fin I9 q9
   |true=>
    simp only[if_true]at q9⊢
    refine Zf (pe _ s9 σ8 H9 _ I9 q9) fun z s10 ⟨yv,H10,I10,r10,acc,am1,am2,nx⟩=>?_
    exact aij (X:=X.blk s3 H3 scope ce fp) I10 am1 am2 r10 fun s11 I11=>fin I11 nx
 exact codeAny_compStart_list loop (T.self X.A 0 _ _ _ st4 loop)
theorem Td{elt tg iter:Expr}{ifs:List Expr}{scope:Scope}{own:List (Str×Nat)}{pos:Pos}{wi:TI}{g:TG}{tt:TT}{te:TE}(hc:X.calm=true)(hN:X.N.Nodup)(hi:PI X tg iter wi)(ok:O2 X.N X.env.scope scope own)
 (hg:∀(s:Shared)(H:Hp)(C:Addr)(cl:List (Str×Addr))(fp:List Addr),PG (X.blk s H scope (compEnvC scope cl C X.env) fp) tg g)(ht:∀(s:Shared)(H:Hp)(C:Addr)(cl:List (Str×Addr))(fp:List Addr),PTs (X.blk s H scope (compEnvC scope cl C X.env) fp) ifs tt)
 (he:∀(s:Shared)(H:Hp)(C:Addr)(cl:List (Str×Addr))(fp:List Addr),PE (X.blk s H scope (compEnvC scope cl C X.env) fp) elt te)(hs:∀x,foldedSetIterable iter X.env x=pure x:=by intro _;rfl):
 PE X (.ListComp elt [⟨tg,iter,ifs,0⟩] scope pos) (tLc wi g tt te (own.map (·.2))):=by
 intro pins s σ H Q I h
 rw[eval_ListComp]
 refine Xx hc hN I hi ok hg ht he hs h fun D C s' m H' I' q hn f=>⟨m,hn,fun h'' sb=>?_⟩
 obtain⟨f0,f1,f2,f3,f4,f5⟩:=f
 exact⟨.ref D,H',I'.turned (t':=s'.toks) (fun b o hb e=>(sb.2 b hb).trans e) f0 f1 f3 f4 f5,rfl,q⟩
theorem su{i:Nat}{y:Str}{py:Pos}{elt tg iter:Expr}{ifs:List Expr}{scope:Scope}{own:List (Str×Nat)}{pos spos:Pos}{wi:TI}{g:TG}{tt:TT}{te:TE}(hc:X.calm=true)(hN:X.N.Nodup)(hy:X.N[i]?=some y)(hyl:X.env.scope.names.lookup y=some .local)
 (hsw:swapsWith (.ListComp elt [⟨tg,iter,ifs,0⟩] scope pos) (some (.Name y py)) spos.line X.env=pure true)(hi:PI X tg iter wi)(ok:O2 X.N X.env.scope scope own)
 (hg:∀(s:Shared)(H:Hp)(C:Addr)(cl:List (Str×Addr))(fp:List Addr),PG (X.blk s H scope (compEnvC scope cl C X.env) fp) tg g)(ht:∀(s:Shared)(H:Hp)(C:Addr)(cl:List (Str×Addr))(fp:List Addr),PTs (X.blk s H scope (compEnvC scope cl C X.env) fp) ifs tt)
 (he:∀(s:Shared)(H:Hp)(C:Addr)(cl:List (Str×Addr))(fp:List Addr),PE (X.blk s H scope (compEnvC scope cl C X.env) fp) elt te)(hs:∀x,foldedSetIterable iter X.env x=pure x:=by intro _;rfl):
 PS X (.Assign [.Name y py] (.ListComp elt [⟨tg,iter,ifs,0⟩] scope pos) spos) (ad7 (tLc wi g tt te (own.map (·.2))) (zK i)):=by
 intro pins s σ H D I h
 rw[exec_Assign_Name_used _ _ _ _ hsw]
 refine wpAny_bind (wpAny_standAt (wpAny_bind ?_))
 show wpAny _ X.A (do let _ <-comprehension (.ListComp elt [⟨tg,iter,ifs,0⟩] scope pos) scope X.env (firstIterPos [⟨tg,iter,ifs,0⟩] pos) (newList []) false (eval iter X.env) (some (assign (.Name y py) X.env))) _ _ s
 have h:tLc wi g tt te (own.map (·.2)) σ H (fun x H1=>zK i x σ H1 D.nx):=h
 refine wpAny_bind (jK (Xx (Qf:=fun _ s'=>SP X pins D .next s') hc hN I hi ok hg ht he hs h fun L C s' m H' I' q hn f=>?_) fun _ s' hq=>wpAny_pure (wpAny_pure hq))
 show wpAny _ _ (assign (.Name y py) X.env (.ref L)) _ _ _
 refine wpAny_assign_Name (Ou (v:=V.ref L) I' hN hy (.inl hyl) rfl (fun s2 I2 ⟨a,sb,ha⟩=>?_) (.inr hyl))
 obtain⟨f0,f1,f2,f3,f4,f5⟩:=f
 have haC:C≠a:=by
  rcases ha with z|z
  ·rw[z];exact f1
  ·exact fun e=>f4 y a z e.symm
 refine⟨m,hn.sameBut sb haC,fun h3 sb3=>?_⟩
 exact⟨_,H',I2.turned (t':=s2.toks) (fun b o hb e=>(sb3.2 b hb).trans e) f0 f1 f3 f4 f5,q⟩
end
theorem sE{lo:Int}{n:Nat}{g:TG}{tt:TT}{te:TE}{vs:List Nat}{σ:St}{H1:Hp}{D:Addr}{Qd:Hp->Prop}(Pv:Nat->Hp->Prop)(h0:Pv 0 (upd H1 D (.lst [])))
 (hs:∀i H,i<n->Pv i H->g (.int (lo+i)) (wipe σ vs) H fun σ2 H2=>wipe σ2 vs=wipe σ vs/\tt σ2 H2 fun b H3=>
   if b=true then te σ2 H3 fun y H4=>∃acc,H4 D=some (.lst acc)/\acc.length<sizeLine/\Pv (i+1) (upd H4 D (.lst (acc++[y])))else Pv (i+1) H3)(hd:∀H,Pv n H->Qd H):
 ∃W:Nat->Nat->Hp->Prop,(∃m,W 0 m (upd H1 D (.lst [])))/\∀i m H,W i m H->
  ((Ve lo n).stop i H/\Qd H)\/((Ve lo n).go i H/\∃Nx:Hp->Prop,(∀H',Nx H'->∃m',m'<m/\W (i+1) m' H')/\∀x H',(Ve lo n).yld i H x H'->g x (wipe σ vs) H' fun σ2 H2=>wipe σ2 vs=wipe σ vs/\tt σ2 H2 fun b H3=>
    if b=true then te σ2 H3 fun y H4=>∃acc,H4 D=some (.lst acc)/\acc.length<sizeLine/\Nx (upd H4 D (.lst (acc++[y])))else Nx H3):=by
 refine⟨fun i m H=>m=n-i/\i<=n/\Pv i H,⟨n,by simp,Nat.zero_le _,h0⟩,?_⟩
 rintro i m H ⟨rfl,hi,p⟩
 by_cases hlt:i<n
 ·refine .inr ⟨hlt,Pv (i+1),fun H' p'=>⟨n-(i+1),by omega,rfl,hlt,p'⟩,fun x H' y=>?_⟩
  obtain⟨e,y⟩:=y
  subst e y
  exact hs i _ hlt p
 ·have e:i=n:=by omega
  subst e
  exact .inl ⟨Nat.le_refl _,hd H p⟩
end L2
namespace L2
open PySem PySem.Spec PyProof.Rows
section
variable{prog:Program}{w:World}{A:Around}{R:Result->Shared->Prop}{s:Shared}{elt t0 i0 t1 i1:Expr}{aqE aqF:List Expr}{scope:Scope}{pos:Pos}{it acc:Value}{env:Env}
end
section
variable{X:Cx}
end
end L2
namespace L2
open PySem PySem.Spec PyProof.Rows
section
variable{κ:Type} [DecidableEq κ]
noncomputable def Cm(kvs:List (κ×V))(k:κ):Option V:=(kvs.find? fun kv=>decide (kv.1=k)).map (·.2)
noncomputable def putK(kvs:List (κ×V))(k:κ)(v:V):List (κ×V):=
 if(kvs.any fun kv=>decide (kv.1=k))=true then kvs.map (fun kv=>if kv.1=k then(kv.1,v)else kv)else kvs++[(k,v)]
noncomputable def ahk(kvs:List (κ×V))(k:κ):List (κ×V):=kvs.filter fun kv=>decide (kv.1≠k)
theorem JB{p:κ×V}{r:List (κ×V)}{k:κ}(e:p.1=k):Cm (p::r) k=some p.2:=by simp[Cm,List.find?_cons,e]
theorem JC{p:κ×V}{r:List (κ×V)}{k:κ}(e:¬p.1=k):Cm (p::r) k=Cm r k:=by simp[Cm,List.find?_cons,e]
theorem Te(k:κ):∀kvs:List (κ×V),(kvs.any fun kv=>decide (kv.1=k))=(Cm kvs k).isSome
 |[]=>rfl
 |p::r=>by
  rw[List.any_cons]
  by_cases e:p.1=k
  ·simp only[JB e,decide_eq_true e,Bool.true_or,Option.isSome_some]
  ·rw[JC e,decide_eq_false e,Bool.false_or];exact Te k r
theorem Gw(kvs:List (κ×V))(k:κ)(v:V):(putK kvs k v).length<=kvs.length+1:=by
 unfold putK
 split
 ·rw[List.length_map];omega
 ·rw[List.length_append,List.length_cons,List.length_nil];omega
theorem wM.Zg{o:Option V}{u:Option Value}(r:wM o u):o.isSome=u.isSome:=by
 cases o with
 |none=>cases u with
  |none=>rfl
  |some _=>exact(show False from r).elim
 |some _=>cases u with
  |none=>exact(show False from r).elim
  |some _=>rfl
theorem wM.getD{o:Option V}{u:Option Value}{d:V}{d':Value}(r:wM o u)(rd:RelV d d'):RelV (o.getD d) (u.getD d'):=by
 cases o with
 |none=>cases u with
  |none=>exact rd
  |some _=>exact(show False from r).elim
 |some _=>cases u with
  |none=>exact(show False from r).elim
  |some _=>exact r
theorem KV.val{kvs:List (κ×V)}{vs:List (κ×Value)}(r:KV kvs vs)(k:κ):wM (Cm kvs k) (valueAt vs k):=by
 unfold KV at r
 induction r with
 |nil=>exact True.intro
 |@cons p q ps qs h t ih=>
  obtain⟨h1,h2⟩:=h
  by_cases e:p.1=k
  ·have e':q.1=k:=h1.symm.trans e
   have b:valueAt (q::qs) k=some q.2:=by simp[valueAt,List.find?_cons,e']
   rw[JB e,b];exact h2
  ·have e':¬q.1=k:=fun z=>e (h1.trans z)
   have b:valueAt (q::qs) k=valueAt qs k:=by simp[valueAt,List.find?_cons,e']
   rw[JC e,b];exact ih
theorem KV.any{kvs:List (κ×V)}{vs:List (κ×Value)}(r:KV kvs vs)(k:κ):(kvs.any fun kv=>decide (kv.1=k))=vs.any fun kv=>decide (kv.1=k):=by
 unfold KV at r
 induction r with
 |nil=>rfl
 |cons h t ih=>rw[List.any_cons,List.any_cons,ih,h.1]
theorem KV.repl{kvs:List (κ×V)}{vs:List (κ×Value)}(r:KV kvs vs)(k:κ){y:V}{u:Value}(ry:RelV y u):
 KV (kvs.map fun kv=>if kv.1=k then(kv.1,y)else kv) (vs.map fun kv=>if kv.1=k then(kv.1,u)else kv):=by
 unfold KV at r⊢
 induction r with
 |nil=>exact .nil
 |@cons p q ps qs h t ih=>
  rw[List.map_cons,List.map_cons]
  refine .cons ?_ ih
  obtain⟨h1,h2⟩:=h
  by_cases e:p.1=k
  ·rw[if_pos e,if_pos (h1.symm.trans e)];exact⟨h1,ry⟩
  ·rw[if_neg e,if_neg (fun z=>e (h1.trans z))];exact⟨h1,h2⟩
theorem KV.put{kvs:List (κ×V)}{vs:List (κ×Value)}(r:KV kvs vs)(k:κ){y:V}{u:Value}(ry:RelV y u):KV (putK kvs k y) (stored vs k u):=by
 unfold putK stored
 rw[r.any k]
 by_cases e:(vs.any fun kv=>decide (kv.1=k))=true
 ·rw[if_pos e,if_pos e];exact r.repl k ry
 ·rw[if_neg e,if_neg e];exact Paired.snoc r ⟨rfl,ry⟩
theorem KV.drop{kvs:List (κ×V)}{vs:List (κ×Value)}(r:KV kvs vs)(k:κ):KV (ahk kvs k) (without vs k):=by
 unfold KV at r⊢
 unfold ahk without
 induction r with
 |nil=>exact .nil
 |@cons p q ps qs h t ih=>
  obtain⟨h1,h2⟩:=h
  rw[List.filter_cons,List.filter_cons]
  by_cases e:p.1=k
  ·have a:¬decide (p.1≠k)=true:=by simp[e]
   have b:¬decide (q.1≠k)=true:=by simp[h1.symm.trans e]
   rw[if_neg a,if_neg b];exact ih
  ·have e':¬q.1=k:=fun z=>e (h1.trans z)
   have a:decide (p.1≠k)=true:=by simp[e]
   have b:decide (q.1≠k)=true:=by simp[e']
   rw[if_pos a,if_pos b];exact .cons ⟨h1,h2⟩ ih
theorem KV.keys{kvs:List (κ×V)}{vs:List (κ×Value)}(r:KV kvs vs):kvs.map (·.1)=vs.map (·.1):=by
 unfold KV at r
 induction r with
 |nil=>rfl
 |cons h t ih=>rw[List.map_cons,List.map_cons,ih,h.1]
theorem KV.length{kvs:List (κ×V)}{vs:List (κ×Value)}(r:KV kvs vs):kvs.length=vs.length:=Paired.length r
end
theorem Xy{P:Program}{w:World}{k:Key}{u:Value}(r:RelV (kV k) u):(jR P w).is k u=true:=by
 cases k with
 |inl i=>obtain⟨t,e⟩:=(show∃t,u=Value.int i t from r);subst e;exact Ss P w i t
 |inr x=>obtain⟨t,e⟩:=(show∃t,u=Value.str x t from r);subst e;exact Sv P w x t
theorem O4{P:Program}{w:World}:∀{ks:List Key}{us:List Value},Vals (ks.map kV) us->ItemsAre (jR P w) ks us
 |[],_,r=>by rw[List.map_nil]at r;cases r;exact .nil
 |k::ks,_,r=>by
  rw[List.map_cons]at r
  cases r with
  |cons h t=>exact .cons (Xy h) (O4 t)
abbrev KT(H:Hp):List (List Key×V)->List (List Key×Addr×Value)->Prop:=Paired fun p q=>p.1=q.1/\H q.2.1=some (.tup (p.1.map kV))/\RelV p.2 q.2.2
theorem KT.val{H:Hp}{kvs:List (List Key×V)}{xs:List (List Key×Addr×Value)}(r:KT H kvs xs)(k:List Key):wM (Cm kvs k) ((atKey xs k).map (·.2)):=by
 induction r with
 |nil=>exact True.intro
 |@cons p q ps qs h t ih=>
  obtain⟨h1,_,h2⟩:=h
  by_cases e:p.1=k
  ·have e':q.1=k:=h1.symm.trans e
   have b:atKey (q::qs) k=some q.2:=by simp[atKey,List.find?_cons,e']
   rw[JB e,b];exact h2
  ·have e':¬q.1=k:=fun z=>e (h1.trans z)
   have b:atKey (q::qs) k=atKey qs k:=by simp[atKey,List.find?_cons,e']
   rw[JC e,b];exact ih
theorem KT.repl{H:Hp}{kvs:List (List Key×V)}{xs:List (List Key×Addr×Value)}(r:KT H kvs xs)(k:List Key){y:V}{u:Value}(ry:RelV y u):
 KT H (kvs.map fun kv=>if kv.1=k then(kv.1,y)else kv) (xs.map (putAt k u)):=by
 induction r with
 |nil=>exact .nil
 |@cons p q ps qs h t ih=>
  rw[List.map_cons,List.map_cons]
  refine .cons ?_ ih
  obtain⟨h1,h2,h3⟩:=h
  unfold putAt
  by_cases e:p.1=k
  ·rw[if_pos e,if_pos (h1.symm.trans e)];exact⟨h1,h2,ry⟩
  ·rw[if_neg e,if_neg (fun z=>e (h1.trans z))];exact⟨h1,h2,h3⟩
theorem KT.put{H:Hp}{kvs:List (List Key×V)}{xs:List (List Key×Addr×Value)}(r:KT H kvs xs)(k:List Key){b:Addr}{y:V}{u:Value}(hb:H b=some (.tup (k.map kV)))(ry:RelV y u):
 KT H (putK kvs k y) (storedH xs k b u):=by
 have e:(kvs.any fun kv=>decide (kv.1=k))=(atKey xs k).isSome:=by
  rw[Te,(r.val k).Zg,Option.isSome_map]
 unfold putK storedH
 rw[e]
 by_cases q:(atKey xs k).isSome=true
 ·rw[if_pos q,if_pos q];exact r.repl k ry
 ·rw[if_neg q,if_neg q];exact Paired.snoc r ⟨rfl,hb,ry⟩
theorem KT.keeps{H H':Hp}{kvs:List (List Key×V)}{xs:List (List Key×Addr×Value)}(r:KT H kvs xs)(ht:∀b ys,H b=some (.tup ys)->H' b=some (.tup ys)):KT H' kvs xs:=
 Paired.ah1 r fun _ _ z=>⟨z.1,ht _ _ z.2.1,z.2.2⟩
section
variable{P:Program}{w:World}{H:Hp}{h:Heap}{a:Addr}
theorem ahl{u:HO}(ok:wV P w H h)(e:Rd H a u):jQ P w H h a u:=e.ok ok
theorem Tf{kvs:List (Key×V)}(ok:wV P w H h)(e:Rd H a (.dK kvs)):kvs.length<=sizeLine/\(a==sysModules)=false/\∃vs,KV kvs vs/\h.DictOf (jR P w) a vs:=
 show jQ P w H h a (.dK kvs)from ahl ok e
theorem akk{kvs:List (Key×V)}(ok:wV P w H h)(e:H a=some (.dK kvs)):kvs.length<=sizeLine/\(a==sysModules)=false/\∃vs,KV kvs vs/\h.DictOf (jR P w) a vs:=Tf ok (.inl e)
theorem QZ{ks:List Key}(ok:wV P w H h)(e:H a=some (.tup (ks.map kV))):(tupleKind (jR P w)).is h ks a:=by
 obtain⟨_,its,r,o,h1,h2,n,h3⟩:=(show jQ P w H h a (.tup (ks.map kV))from ok a _ e)
 exact⟨o,its.toArray,n,h1,h2,h3,by simpa using O4 r⟩
theorem Tg{kvs:List (List Key×V)}(ok:wV P w H h)(e:Rd H a (.dT kvs)):kvs.length<=sizeLine/\(a==sysModules)=false/\
 ∃xs,KT H kvs xs/\h.DictOfH (tupleKind (jR P w)) a xs:=by
 obtain⟨z,y,xs,r,o,es,ep,h1,h2,h3,h4,h5⟩:=(show jQ P w H h a (.dT kvs)from ahl ok e)
 refine⟨z,y,xs,r,o,es,ep,h1,h2,h3,h4,fun x hx=>?_,h5⟩
 have all:∀{l:List (List Key×V)}{m:List (List Key×Addr×Value)},KT H l m->∀x∈m,(tupleKind (jR P w)).is h x.1 x.2.1:=by
  intro l m q
  induction q with
  |nil=>intro x hx;exact nomatch hx
  |@cons p q ps qs hq t ih=>
   intro x hx
   rcases List.mem_cons.mp hx with e|hx
   ·subst e
    exact QZ ok (by rw[<-hq.1];exact hq.2.1)
   ·exact ih x hx
 exact all r x hx
theorem akl{kvs:List (List Key×V)}(ok:wV P w H h)(e:H a=some (.dT kvs)):kvs.length<=sizeLine/\(a==sysModules)=false/\
 ∃xs,KT H kvs xs/\h.DictOfH (tupleKind (jR P w)) a xs:=Tg ok (.inl e)
end
def Hl(H:Hp)(a:Addr)(y:V)(r:Option V):Prop:=
 (∃kvs k,Rd H a (.dK kvs)/\y=kV k/\r=Cm kvs k)\/∃kvs k b,Rd H a (.dT kvs)/\y=.ref b/\H b=some (.tup (k.map kV))/\r=Cm kvs k
def Ti(H:Hp)(a:Addr)(y v:V)(H':Hp):Prop:=
 (∃kvs k,H a=some (.dK kvs)/\y=kV k/\kvs.length<sizeLine/\H'=upd H a (.dK (putK kvs k v)))\/
 ∃kvs k b,H a=some (.dT kvs)/\y=.ref b/\H b=some (.tup (k.map kV))/\kvs.length<sizeLine/\H'=upd H a (.dT (putK kvs k v))
theorem Hl.k{H:Hp}{a:Addr}{kvs:List (Key×V)}{k:Key}(e:H a=some (.dK kvs)):Hl H a (kV k) (Cm kvs k):=.inl ⟨kvs,k,.inl e,rfl,rfl⟩
theorem Hl.t{H:Hp}{a b:Addr}{kvs:List (List Key×V)}{k:List Key}(e:H a=some (.dT kvs))(eb:H b=some (.tup (k.map kV))):Hl H a (.ref b) (Cm kvs k):=.inr ⟨kvs,k,b,.inl e,rfl,eb,rfl⟩
theorem Ti.k{H:Hp}{a:Addr}{kvs:List (Key×V)}{k:Key}{v:V}(e:H a=some (.dK kvs))(hl:kvs.length<sizeLine):Ti H a (kV k) v (upd H a (.dK (putK kvs k v))):=.inl ⟨kvs,k,e,rfl,hl,rfl⟩
theorem Ti.t{H:Hp}{a b:Addr}{kvs:List (List Key×V)}{k:List Key}{v:V}(e:H a=some (.dT kvs))(eb:H b=some (.tup (k.map kV)))(hl:kvs.length<sizeLine):
 Ti H a (.ref b) v (upd H a (.dT (putK kvs k v))):=.inr ⟨kvs,k,b,e,rfl,eb,hl,rfl⟩
section
variable{X:Cx}{pins:List (Addr×Obj)}{σ:St}{H:Hp}{s:Shared}{a:Addr}{y v:V}{u r:Value}{o:Option V}{A:Around}{E:Value->Shared->Prop}
theorem Inv.big(I:Inv X pins σ H s):sysModules<s.heap.objs.size:=by
 have h:mainGlobals<s.heap.objs.size:=(I.mod.glob.keeps I.bk).lt
 exact Nat.lt_trans (by decide) h
theorem Zh{Q:Value->Shared->Prop}(hu:A.units+1<cLine)(I:Inv X pins σ H s)(g:Hl H a y (some v))(ry:RelV y u)(h:∀w' s',Inv X pins σ H s'->RelV v w'->Q w' s'):
 wpAny (model X.prog X.w) A (getItem (.ref a) u) Q E s:=by
 rcases g with⟨kvs,k,e,ey,l⟩|⟨kvs,k,b,e,ey,eb,l⟩
 ·subst ey
  obtain⟨z,hd,vs,rel,dd⟩:=Tf I.hok e
  obtain⟨w',hw,VF⟩:=wM.some_of (v:=v) (o:=valueAt vs k) (by rw[l];exact rel.val k)
  exact wpAny_getItem_of (Xy ry) dd.mapOf hw (h w' _ (I.tok _) VF)
 ·subst ey
  cases(show u=Value.ref b from ry)
  obtain⟨z,hd,xs,rel,dd⟩:=Tg I.hok e
  obtain⟨w',hw,VF⟩:=wM.some_of (v:=v) (o:=(atKey xs k).map (·.2)) (by rw[l];exact rel.val k)
  obtain⟨p,hp,hp2⟩:=Option.map_eq_some_iff.mp hw
  refine wpAny_getItem_heap (tupleKind_room_in1 hu) (QZ I.hok eb) dd hp ?_
  rw[hp2]
  exact h w' _ (I.tok _) VF
theorem Xz{h':Heap}{t':Nat}{ob:HO}(I:Inv X pins σ H s)(mu:Mut (H a))(hs:Heap.SameBut a s.heap h')(he:∃q,h'.get? a=some q)(new:jQ X.prog X.w (upd H a ob) h' a ob):
 Inv X pins σ (upd H a ob) { s with heap:=h',toks:=t' }:=
 I.write (x:=a) (e:=a) mu (.inl rfl) (fun b q hb z=>(hs.2 b hb).trans z) he new
theorem aik{P:Program}{w:World}{H':Hp}{h':Heap}{kvs:List (Key×V)}{vs:List (Key×Value)}(z:kvs.length<=sizeLine)(hd:(a==sysModules)=false)(rel:KV kvs vs)(dd:h'.DictOf (jR P w) a vs):
 jQ P w H' h' a (.dK kvs):=⟨z,hd,vs,rel,dd⟩
theorem Zi{H':Hp}{Q:Unit->Shared->Prop}(hu:A.units+1<cLine)(I:Inv X pins σ H s)(g:Ti H a y v H')(ry:RelV y u)(rv:RelV v r)(h:∀s',Inv X pins σ H' s'->Q () s'):
 wpAny (model X.prog X.w) A (setItem (.ref a) u r) Q E s:=by
 rcases g with⟨kvs,k,e,ey,l,eH⟩|⟨kvs,k,b,e,ey,eb,l,eH⟩
 ·subst ey eH
  obtain⟨z,hd,vs,rel,dd⟩:=akk I.hok e
  have hz:vs.length<=sizeLine:=by rw[<-rel.length];exact z
  have hl:(putK kvs k v).length<=sizeLine:=by have:=Gw kvs k v;omega
  refine wpAny_setItem_pairs (hsz:=hz) (Xy ry) dd fun h' dd' hs=>h _ ?_
  have he:∃q,h'.get? a=some q:=let⟨q,_,_,hq,_⟩:=dd';⟨q,hq⟩
  exact Xz I (by rw[e];exact True.intro) hs he (aik hl hd (rel.put k rv) dd')
 ·subst ey eH
  cases(show u=Value.ref b from ry)
  obtain⟨z,hd,xs,rel,dd⟩:=akl I.hok e
  have hz:xs.length<=sizeLine:=by rw[<-Paired.length rel];exact z
  have hl:(putK kvs k v).length<=sizeLine:=by have:=Gw kvs k v;omega
  refine wpAny_setItem_heap (hsz:=hz) (tupleKind_room_in1 hu) (QZ I.hok eb) dd fun h' dd' hs=>h _ ?_
  obtain⟨q,es,ep,hq,h2,h3,h4,_,h5⟩:=dd'
  refine Xz I (by rw[e];exact True.intro) hs ⟨q,hq⟩ ⟨hl,hd,_,(rel.put k eb rv).keeps fun c ys ec=>?_,q,es,ep,hq,h2,h3,h4,h5⟩
  rw[aH (Js ec e (fun z=>nomatch z))]
  exact ec
end
section
variable{X:Cx}{pins:List (Addr×Obj)}{σ:St}{H:Hp}{s:Shared}{a:Addr}{kvs:List (Key×V)}{k:Key}{u:Value}{A:Around}{E:Value->Shared->Prop}
end
def ail(i:Expr):Prop:=∀ov iv,subscripted i false ov iv=operate [ov,iv] (getItem ov iv)
theorem XC{prog:Program}{w:World}{A:Around}{E:Value->Shared->Prop}{s:Shared}{env:Env}{value slice:Expr}{pos:Pos}{T id:String}{Q:Value->Shared->Prop}
 (hl:typeLookup (.type T) "__getitem__"=pure (some (.builtin id)))(hs:ail slice)
 (h:wpAny (model prog w) A (eval value env) (fun o s₁=>wpAny (model prog w) A (eval slice env) (fun i s₂=>s₂.TypeIs o T/\wpAny (model prog w) A (getItem o i) Q E s₂) E s₁) E s):
 wpAny (model prog w) A (eval (.Subscript value slice pos) env) Q E s:=by
 refine Subscript_ (wpAny_mono h (fun o s₁ h₁=>wpAny_mono h₁ (fun i s₂ h₂=>?_) fun _ _ x=>x) fun _ _ x=>x)
 obtain⟨hT,h₂⟩:=h₂
 unfold subscriptTail
 refine wpAny_bind ?_
 rw[getitemInPython_of_ne hT.not_modules]
 refine wpAny_bind (wpAny_specialOf hT hl ?_)
 have fin:wpAny (model prog w) A (subscripted slice false o i) (fun r s₃=>wpAny (model prog w) A (letTemporaryGo value o r >>= fun _=>pure r) Q E s₃) E s₂:=by
  rw[hs o i]
  exact wpAny_operating (wpAny_mono h₂ (fun r s₃ h₃=>wpAny_bind (wpAny_letTemporaryGo (wpAny_pure h₃))) fun _ _ x=>x)
 first
  |exact wpAny_pure (wpAny_bind fin)
  |exact wpAny_bind (wpAny_pure (wpAny_bind fin))
  |exact wpAny_bind fin
theorem Tj{X:Cx}{pins:List (Addr×Obj)}{σ:St}{H:Hp}{s:Shared}{a:Addr}{y:V}{o:Option V}(I:Inv X pins σ H s)(g:Hl H a y o):s.TypeIs (.ref a) "dict":=by
 rcases g with⟨kvs,k,e,_,_⟩|⟨kvs,k,b,e,_,_,_⟩
 ·obtain⟨_,_,vs,_,dd⟩:=Tf I.hok e
  exact dd.typeIs
 ·obtain⟨_,_,xs,_,dd⟩:=Tg I.hok e
  exact dd.typeIs
def ahm(td ty:TE):TE:=fun σ H Q=>td σ H fun x H1=>ty σ H1 fun y H2=>∃a v,x=.ref a/\Hl H2 a y (some v)/\Q v H2
def ahn(td ty tv:TE):TS:=fun D σ H=>tv σ H fun v H1=>td σ H1 fun x H2=>ty σ H2 fun y H3=>∃a H4,x=.ref a/\Ti H3 a y v H4/\D.nx σ H4
section
variable{X:Cx}{o i e value:Expr}{pos pos' tpos:Pos}{td ty tv:TE}
theorem aej(hu:X.A.units+1<cLine)(ho:PE X o td)(hi:PE X i ty)(hs:ail i):PE X (.Subscript o i pos) (ahm td ty):=by
 intro pins s σ H Q I h
 refine XC PySem.F.slot_dict_getitem.lookup hs (jK (ho pins s σ H _ I h) fun u s1 ⟨x,H1,I1,rx,q1⟩=>jK (hi pins s1 σ H1 _ I1 q1) fun iv s2 ⟨y,H2,I2,ry,a,v,ex,g,q2⟩=>?_)
 subst ex
 obtain rfl:u=Value.ref a:=rx
 exact⟨Tj I2 g,Zh hu I2 g ry fun w' s3 I3 VF=>⟨v,H2,I3,VF,q2⟩⟩
theorem aek(hu:X.A.units+1<cLine)(ho:PE X o td)(hi:PE X i ty)(hv:PE X value tv)(hs:swapsWith value (some (.Subscript o i pos')) pos.line X.env=pure false):
 PS X (.Assign [.Subscript o i pos'] value pos) (ahn td ty tv):=by
 intro pins s σ H D I h
 refine wpAny_Assign_Subscript (jK (hv pins s σ H _ I h) fun r s1 ⟨v,H1,I1,rv,q1⟩=>jK (ho pins s1 σ H1 _ I1 q1) fun u s2 ⟨x,H2,I2,rx,q2⟩=>jK (hi pins s2 σ H2 _ I2 q2) fun iv s3 ⟨y,H3,I3,ry,a,H4,ex,g,q3⟩=>?_) hs
 subst ex
 obtain rfl:u=Value.ref a:=rx
 exact Zi hu I3 g ry rv fun s4 I4=>⟨σ,H4,I4,q3⟩
end
theorem abH{P:Program}{w:World}{H:Hp}(h:Heap)(hb:sysModules<h.objs.size):jQ P w H (h.push { cls:=.type "dict",data:=.dict #[] }) h.objs.size (.dT []):=
 ⟨Nat.zero_le _,beq_eq_false_iff_ne.mpr (Ne.symm (Nat.ne_of_lt hb)),[],.nil,_,#[],0,Heap.get?_push_size _ rfl,⟨rfl,rfl,rfl⟩,rfl,rfl,List.nodup_nil⟩
def ain:TE:=fun _ H Q=>∀p,H p=none->Q (.ref p) (upd H p (.dT []))
section
variable{X:Cx}{pos:Pos}
theorem abI:PE X (.Dict [] [] pos) ain:=fun pins s σ H Q I h=>
 wpAny_Dict_empty ⟨.ref s.heap.objs.size,_,I.laid (a:=s.heap.objs.size) (o:=.dT []) (t':=s.toks) (fun _ _ q=>Heap.get?_push_of_some _ q) (Nat.le_refl _) (abH s.heap I.big),rfl,h _ (I.hok.fresh (Nat.le_refl _))⟩
end
structure M2(X:Cx)(o:Expr)(m:Str)(apos:Pos)(e f:Expr)(cpos:Pos):Prop where
 base:attributeBase o m X.env (eval o X.env)=eval o X.env
 few:((backTo cpos (starEach [e,f] X.env)).all (fun x=> !x.1) && (backToKw cpos (keywordEach [] X.env)).all (fun x=>x.1.isSome)
  && decide (([e,f]:List Expr).length+([]:List Keyword).length+(if([]:List Keyword).isEmpty then 0 else 1)<30))=true
 line:(apos.endLine==cpos.line)=true
 trees:backTo cpos (starEach [e,f] X.env)=[(false,eval e X.env),(false,eval f X.env)]
def IsD(H:Hp)(a:Addr):Prop:=(∃kvs,Rd H a (.dK kvs))\/∃kvs,Rd H a (.dT kvs)
theorem aio{X:Cx}{pins:List (Addr×Obj)}{σ:St}{H:Hp}{s:Shared}{a:Addr}(I:Inv X pins σ H s)(d:IsD H a):
 s.TypeIs (.ref a) "dict"/\(∀b,Value.ref a=.ref b->∃ob,s.heap.get? b=some ob/\ob.dict=none)/\(a==sysModules)=false:=by
 rcases d with⟨kvs,e⟩|⟨kvs,e⟩
 ·obtain⟨_,hd,vs,_,dd⟩:=Tf I.hok e
  refine⟨dd.typeIs,fun b q=>?_,hd⟩
  cases q
  obtain⟨ob,_,_,h1,h2,_⟩:=dd
  exact⟨ob,h1,h2.2.1⟩
 ·obtain⟨_,hd,xs,_,dd⟩:=Tg I.hok e
  refine⟨dd.typeIs,fun b q=>?_,hd⟩
  cases q
  obtain⟨ob,_,_,h1,h2,_⟩:=dd
  exact⟨ob,h1,h2.2.1⟩
section
variable{X:Cx}{pins:List (Addr×Obj)}{σ:St}{H:Hp}{s:Shared}{a:Addr}{y d:V}{u r:Value}{o:Option V}{A:Around}{E:Value->Shared->Prop}
theorem aip{Q:Value->Shared->Prop}(hu:A.units+1<cLine)(I:Inv X pins σ H s)(g:Hl H a y o)(ry:RelV y u)(rd:RelV d r)(h:∀w' s',Inv X pins σ H s'->RelV (o.getD d) w'->Q w' s'):
 wpAny (model X.prog X.w) A (call (.builtin "dict.get") [.ref a,u,r]) Q E s:=by
 rcases g with⟨kvs,k,e,ey,l⟩|⟨kvs,k,b,e,ey,eb,l⟩
 ·subst ey
  obtain⟨z,hd,vs,rel,dd⟩:=Tf I.hok e
  refine call_meetsIn PySem.F.slot_dict_get dd.typeIs PySem.F.entry_dict_get (PySem.F.args_dict_get_3 _ _ _) (meets_dict_get_default (jR X.prog X.w) a (Xy ry) hd r) ⟨_,dd.mapOf,h _ _ (I.tok _) ?_⟩
  rw[l]
  exact(rel.val k).getD rd
 ·subst ey
  cases(show u=Value.ref b from ry)
  obtain⟨z,hd,xs,rel,dd⟩:=Tg I.hok e
  refine call_meetsIn PySem.F.slot_dict_get dd.typeIs PySem.F.entry_dict_get (PySem.F.args_dict_get_3 _ _ _) (meetsH_dict_get_default (tupleKind (jR X.prog X.w)) a b hd r) ⟨tupleKind_room_in1 hu,k,xs,QZ I.hok eb,dd,h _ _ (I.tok _) ?_⟩
  rw[l]
  exact(rel.val k).getD rd
end
def abJ(td ty tx:TE):TE:=fun σ H Q=>td σ H fun x H1=>∃a,x=.ref a/\IsD H1 a/\ty σ H1 fun y H2=>tx σ H2 fun z H3=>∃o,Hl H3 a y o/\Q (o.getD z) H3
section
variable{X:Cx}{o e f:Expr}{apos cpos:Pos}{td ty tx:TE}
theorem abK(hu:X.A.units+1<cLine)(ho:PE X o td)(he:PE X e ty)(hf:PE X f tx)(m:M2 X o "get" apos e f cpos):PE X (.Call (.Attribute o "get" apos) [e,f] [] cpos) (abJ td ty tx):=by
 intro pins s σ H Q I h
 refine wpAny_Call_method m.base m.few m.line PySem.F.plainAttrs_dict PySem.F.slot_dict_get PySem.F.type_dict_get (jK (ho pins s σ H _ I h) fun u s1 ⟨x,H1,I1,rx,a,ex,d,q1⟩=>?_)
 subst ex
 obtain rfl:u=Value.ref a:=rx
 obtain⟨t1,t2,_⟩:=aio I1 d
 refine⟨t1,t2,?_⟩
 rw[m.trees]
 refine Calls.callWith_builtin rfl (Calls.evalArgs_plain (Calls.spliced_cons (jK (he pins s1 σ H1 _ I1 q1) fun iv s2 ⟨y,H2,I2,ry,q2⟩=>
  Calls.spliced_cons (jK (hf pins s2 σ H2 _ I2 q2) fun fv s3 ⟨z,H3,I3,rz,ov,g,q3⟩=>Calls.spliced_nil ?_))))
 exact aip hu I3 g ry rz fun w' s4 I4 VF=>⟨_,H3,I4,VF,q3⟩
end
section
variable{X:Cx}{pins:List (Addr×Obj)}{σ:St}{H:Hp}{s:Shared}{a:Addr}{kvs:List (Key×V)}{A:Around}{E:Value->Shared->Prop}
end
section
variable{X:Cx}{pins:List (Addr×Obj)}{σ:St}{H:Hp}{s:Shared}{a:Addr}{y:V}{u:Value}{A:Around}{E:Value->Shared->Prop}
end
end L2
namespace L2
open PySem PySem.Spec PyProof.Rows
section
variable{prog:Program}{w:World}{A:Around}{E:Value->Shared->Prop}
end
section
variable{X:Cx}
end
end L2
namespace L2
open PySem PySem.Spec PyProof.Rows
section
variable{X:Cx}{pins:List (Addr×Obj)}{σ:St}{H:Hp}{s:Shared}{h':Heap}
theorem Inv.Zj{t':Nat}{ch:List Addr}{T:Addr}{ob:HO}(I:Inv X pins σ H s)(k:∀b o,b∉ch->s.heap.get? b=some o->h'.get? b=some o)(hf:∀b∈ch,qK X pins H b)(hT:s.heap.objs.size<=T)
 (new:jQ X.prog X.w (upd H T ob) h' T ob):Inv X pins σ (upd H T ob) { s with heap:=h',toks:=t' }:=by
 have hn:H T=none:=I.hok.fresh hT
 have nit:∀b u,H b=some u->b∉ch:=fun b u e z=>by
  have q:=(hf b z).1
  rw[q]at e;cases e
 refine I.step (g':=s.gens) (d':=s.drawn) (ch:=ch) (fun b hb=>⟨(hf b hb).2.2.2.1,(hf b hb).2.1,(hf b hb).2.2.2.2.1,(hf b hb).2.2.2.2.2⟩) (fun b o _ _ hc e _=>k b o hc e) (fun b o _ _ hc e _=>⟨o.slots,k b o hc e⟩)
  (fun b o _ e n=>?_) (fun b o hc e=>⟨o,k b o hc e⟩) (fun b xs e=>?_) (fun b o u e=>?_) (fun b ps e=>⟨#[],?_⟩) (fun m hm=>?_) (fun b u e=>?_) I.bare
 ·rw[aH (Nat.ne_of_lt (Nat.lt_of_lt_of_le (Heap.lt_size e) hT))];exact n
 ·rw[aH (aW e hn)];exact e
 ·rw[aH (aW e hn)];exact e
 ·rw[aH (aW e hn),e];simp
 ·obtain⟨o,es,ep,ho,r⟩:=hm
  exact⟨o,es,ep,k _ o (fun z=>(hf _ z).2.1 rfl) ho,r⟩
 ·by_cases hb:b=T
  ·subst hb
   rw[aG]at e
   cases e
   exact new
  ·rw[aH hb]at e
   refine(I.hok b u e).stay (fun c v hc q=>k c v ?_ q) (fun c q=>by rw[aH (aW q hn)];exact q) fun c xs q=>by rw[aH (aW q hn)];exact q
   rcases hc with z|z
   ·rw[z];exact nit b u e
   ·exact nit c _ z
theorem Inv.lock{d:Addr}{u:HO}(I:Inv X pins σ H s)(h:H d=some u)(mu:Mut (some u)):∃od,Inv X pins σ (upd H d (.nG od u)) s:=by
 have x:=I.hok d u h
 have ex:∃od,s.heap.get? d=some od:=by
  cases u with
  |lst xs=>obtain⟨_,_,_,_,e⟩:=x;exact⟨_,e⟩
  |dK kvs=>obtain⟨_,_,_,_,o,_,_,e,_⟩:=x;exact⟨o,e⟩
  |dT kvs=>obtain⟨_,_,_,_,o,_,_,e,_⟩:=x;exact⟨o,e⟩
  |set S n=>obtain⟨o,_,_,_,e,_⟩:=x;exact⟨o,e⟩
  |ins C dx fs=>obtain⟨_,_,_,e,_⟩:=x;exact⟨_,e⟩
  |ext φ=>obtain⟨_,⟨_,e⟩,_⟩:=x;exact⟨_,e⟩
  |_=>exact False.elim mu
 obtain⟨od,e⟩:=ex
 have new:jQ X.prog X.w (upd H d (.nG od u)) s.heap d (.nG od u):=by
  refine⟨e,x.stay (fun b v _ q=>q) (fun b q=>?_) fun b xs q=>?_⟩
  ·rw[aH (fun z=>by rw[z,h]at q;cases q;exact mu)];exact q
  ·rw[aH (fun z=>by rw[z,h]at q;cases q;exact mu)];exact q
 exact⟨od,I.write (x:=d) (e:=d) (t':=s.toks) (h':=s.heap) (by rw[h];exact mu) (.inl rfl) (fun b v _ q=>q) ⟨od,e⟩ new⟩
theorem Inv.XD{d:Addr}{u:HO}(I:Inv X pins σ H s)(h:H d=some u)(mu:Mut (some u)):∀o' u',X.H_0 d≠some (.nG o' u'):=fun o' u' e=>by
 have q:=I.base.Al d o' u' e
 rw[h]at q
 cases q
 exact mu
theorem Inv.unlock{d:Addr}{od:Obj}{u:HO}(I:Inv X pins σ H s)(h:H d=some (.nG od u))(hn:∀o' u',X.H_0 d≠some (.nG o' u')):Inv X pins σ (upd H d u) s:=by
 have neH:∀b o,H b=some o->(∀o' u',o≠.nG o' u')->b≠d:=fun b o e hne z=>by
  rw[z,h]at e
  cases e
  exact hne _ _ rfl
 have neN:∀b,H b=none->b≠d:=fun b e z=>by rw[z,h]at e;cases e
 refine⟨I.ok,I.os,I.bare,⟨I.base.keep,I.base.slot,fun b o e n hx=>?_,I.base.there,fun b xs e=>?_,fun b o x e=>?_,fun b ps e=>?_⟩,I.loc,I.cell,?_,fun x c e=>?_,fun p hp=>?_,fun b o e=>?_,I.len⟩
 ·rw[aH (neN b (I.base.free b o e n hx))];exact I.base.free b o e n hx
 ·have q:=I.base.tups b xs e
  rw[aH (neH b _ q (fun _ _ z=>nomatch z))];exact q
 ·have q:=I.base.Al b o x e
  rw[aH (fun z=>by rw[z]at e;exact hn _ _ e)];exact q
 ·obtain⟨m,q⟩:=I.base.Ce b ps e
  exact⟨m,by rw[aH (neH b _ q (fun _ _ z=>nomatch z))];exact q⟩
 ·rw[aH (neN _ I.free)];exact I.free
 ·rw[aH (neN c (I.tL x c e))];exact I.tL x c e
 ·obtain⟨e,n,r⟩:=I.pin p hp
  exact⟨e,by rw[aH (neN _ n)];exact n,r⟩
 ·by_cases hb:b=d
  ·rw[hb,aG]at e
   cases e
   rw[hb]
   obtain⟨_,x⟩:=I.hok d _ h
   exact x.stay (fun c v _ q=>q) (fun c q=>by rw[aH (neH c _ q (fun _ _ z=>nomatch z))];exact q) fun c xs q=>by rw[aH (neH c _ q (fun _ _ z=>nomatch z))];exact q
  ·rw[aH hb]at e
   exact(I.hok b o e).stay (fun c v _ q=>q) (fun c q=>by rw[aH (neH c _ q (fun _ _ z=>nomatch z))];exact q) fun c xs q=>by rw[aH (neH c _ q (fun _ _ z=>nomatch z))];exact q
end
def abL(t:TS):TS:=fun D σ H=>∃d u,H d=some u/\Mut (some u)/\∀od,t ⟨fun σ' H'=>H' d=some (.nG od u)/\D.nx σ' (upd H' d u),fun v H'=>H' d=some (.nG od u)/\D.rt v (upd H' d u),fun σ' H'=>H' d=some (.nG od u)/\D.bk σ' (upd H' d u),fun σ' H'=>H' d=some (.nG od u)/\D.ct σ' (upd H' d u)⟩ σ (upd H d (.nG od u))
section
variable{X:Cx}
theorem XF{st:Stmt}{t:TS}(h:PS X st t):PS X st (abL t):=by
 intro pins s σ H D I hw
 obtain⟨d,u,hd,mu,hw⟩:=hw
 obtain⟨od,I1⟩:=I.lock hd mu
 refine jK (h pins s σ _ _ I1 (hw od)) fun f s1 q=>?_
 cases f with
 |next=>obtain⟨σ',H',I2,e,q⟩:=q;exact⟨σ',_,I2.unlock e (I.XD hd mu),q⟩
 |brk=>obtain⟨σ',H',I2,e,q⟩:=q;exact⟨σ',_,I2.unlock e (I.XD hd mu),q⟩
 |cont=>obtain⟨σ',H',I2,e,q⟩:=q;exact⟨σ',_,I2.unlock e (I.XD hd mu),q⟩
 |ret v=>obtain⟨x,σ',H',I2,r,e,q⟩:=q;exact⟨x,σ',_,I2.unlock e (I.XD hd mu),r,q⟩
theorem abM{tg:Expr}{pins:List (Addr×Obj)}{σ:St}{H:Hp}{s:Shared}{R:It->Hp->Prop}{J:It}{tn:Nat->Heap->Prop}{tk:Nat}(I:Inv X pins σ H s)(o:Obj)
 (T:Turn X.prog X.w X.K tg J [s.heap.objs.size] s.heap.objs.size tn)(st:tn 0 (s.heap.push o))(q:R J H):PIE X pins σ tg R (.ref s.heap.objs.size) { s with heap:=s.heap.push o,toks:=tk }:=by
 refine⟨s.heap.objs.size,[s.heap.objs.size],tn,J,H,rfl,I.kept fun b ob e=>Heap.get?_push_of_some _ e,T,st,fun b hb=>?_,q⟩
 have e:b=s.heap.objs.size:=by simpa using hb
 subst e
 exact I.QJ (Nat.le_refl _) (I.hok.fresh (Nat.le_refl _))
end
noncomputable def Itc(lo c:Int)(n:Nat):It:=⟨fun i _=>i<n,fun i H x H'=>H'=H/\x=.int (lo+(i:Nat)*c),fun i _=>n<=i⟩
def RgC(i j c:Int)(n:Nat):Prop:=c≠0/\c.natAbs<1073741824/\Builtin.Range.small i j c=true/\Builtin.Range.rangeSize i j c=n
theorem RgC.neg{i j:Int}(ha:-(2^62)<=i)(ha':i<2^62)(hb:-(2^62)<=j)(hb':j<2^62):RgC i j (-1) (i-j).toNat:=
 ⟨by decide,by decide,W.small_down ha ha' hb hb',W.rangeSize_downNat i j⟩
section
variable{X:Cx}{tg:Expr}
end
theorem JD{lo c:Int}{n:Nat}{g:TG}{tb:TS}{D:Ends}{σ:St}{H:Hp}(Pv:Nat->St->Hp->Prop)(h0:Pv 0 σ H)
 (hs:∀i σ H,i<n->Pv i σ H->g (.int (lo+(i:Nat)*c)) σ H fun σ2 H2=>tb { D with nx:=Pv (i+1),ct:=Pv (i+1),bk:=D.nx } σ2 H2)(hd:∀σ H,Pv n σ H->D.nx σ H):
 ∃W:Nat->Nat->St->Hp->Prop,(∃m,W 0 m σ H)/\∀i m σ H,W i m σ H->
  ((Itc lo c n).stop i H/\D.nx σ H)\/((Itc lo c n).go i H/\∃N:St->Hp->Prop,(∀σ' H',N σ' H'->∃m',m'<m/\W (i+1) m' σ' H')/\∀x H',(Itc lo c n).yld i H x H'->g x σ H' fun σ2 H2=>tb { D with nx:=N,ct:=N,bk:=D.nx } σ2 H2):=by
 refine⟨fun i m σ H=>m=n-i/\i<=n/\Pv i σ H,⟨n,by simp,Nat.zero_le _,h0⟩,?_⟩
 rintro i m σ H ⟨rfl,hi,p⟩
 by_cases hlt:i<n
 ·refine .inr ⟨hlt,Pv (i+1),fun σ' H' p'=>⟨n-(i+1),by omega,rfl,hlt,p'⟩,fun x H' y=>?_⟩
  obtain⟨e,y⟩:=y
  subst e y
  exact hs i σ _ hlt p
 ·have e:i=n:=by omega
  subst e
  exact .inl ⟨Nat.le_refl _,hd σ H p⟩
section
variable{X:Cx}{tg:Expr}
end
section
variable{prog:Program}{w:World}{A:Around}{E:Value->Shared->Prop}{s:Shared}
theorem O5{d:Addr}{o:Obj}{es:Array DictEntry}{ep:Nat}{Q:Value->Shared->Prop}(hd:(d==sysModules)=false)(ho:s.heap.get? d=some o)(hc:o.ExactDict)(hdat:o.data=.dict es ep)
 (hQ:Q (.ref s.heap.objs.size) { s with heap:=s.heap.push { cls:=.type "dict_keyiterator",data:=.fields #[.ref d,.int 0 0,.int es.size 0,.int ep 0] } }):
 wpAny (model prog w) A (pyIter (.ref d)) Q E s:=by
 have hT:s.TypeIs (.ref d) "dict":=⟨o,ho,hc.1⟩
 refine wpAny_pyIter_slot hT F.slot_dict_iter (wpAny_call_entry F.slot_dict_iter hT F.entry_dict_iter ?_ (F.args_dict_iter_1 _))
 unfold Builtin.«dict.__iter__»
 refine wpAny_bind ?_
 unfold Builtin.Dict.dictSlotNone
 refine wpAny_bind (wpAny_notOrdered_dict hT ?_)
 show wpAny _ _ (pure (Value.ref d)) _ _ s
 refine wpAny_pure ?_
 show wpAny _ _ (Builtin.Dict.showsAll d >>= _) _ _ s
 unfold Builtin.Dict.showsAll
 rw[if_neg (by rw[hd];exact Bool.false_ne_true)]
 refine wpAny_bind (wpAny_pure ?_)
 refine wpAny_bind (wpAny_dictEntries ho hdat ?_)
 refine wpAny_bind (wpAny_dictEpoch ho hdat ?_)
 refine wpAny_bind (wpAny_newObj_type (wpAny_pure ⟨_,rfl,"dict_keyiterator",_,⟨_,Heap.get?_push_size _ rfl,rfl⟩,F.slot_dict_keyiterator_next.lookup,?_⟩))
 simpa[rawInt]using hQ
theorem Mz{it d:Addr}{i n ep:Nat}{od:Obj}{es:Array DictEntry}{en:DictEntry}{Q:Option Value->Shared->Prop}(hit:s.heap.IsKeyIter it d i n ep)(hod:s.heap.get? d=some od)(hdd:od.data=.dict es ep)
 (hsz:es.size=n)(hx:es[i]?=some en)(hQ:∀h',h'.IsKeyIter it d (i+1) n ep->Heap.SameBut it s.heap h'->Q (some en.key) { s with heap:=h' }):wpAny (model prog w) A (pyNext (.ref it)) Q E s:=by
 obtain⟨o,ho,hc,hd⟩:=id hit
 unfold pyNext
 refine wpAny_bind (wpAny_attempt (wpAny_callSpecial?_slot (name:=Str.ofString "__next__") hit.typeIs F.slot_dict_keyiterator_next
  (wpAny_call_entry F.slot_dict_keyiterator_next hit.typeIs F.entry_dict_keyiterator_next ?_ (F.args_dict_keyiterator_next_1 _))))
 refine wpAny_bind (wpAny_pure ?_)
 refine wpAny_bind ?_
 refine wpAny_bind ?_
 first|refine wpAny_bind (wpAny_typeNameOfWhole_keyiter hit.typeIs (wpAny_pure ?_))|refine wpAny_bind (wpAny_typeNameOf_keyiter hit.typeIs (wpAny_pure ?_))
 refine wpAny_bind (wpAny_fieldsOf ho hd ?_)
 have hown:Builtin.Dict_items.ownsTuple "dict_keyiterator"=false:=by decide
 simp only[hown,Bool.false_eq_true,if_false]
 show wpAny _ _ (if(Value.ref d==Value.none)=true then _ else _) _ _ s
 rw[if_neg (show¬((Value.ref d==Value.none)=true)from Bool.false_ne_true)]
 refine wpAny_bind (wpAny_pure ?_)
 refine wpAny_bind (wpAny_dictEntries hod hdd ?_)
 rw[if_neg (by rw[hsz];simp)]
 refine wpAny_bind (wpAny_pure ?_)
 refine wpAny_bind (wpAny_dictEpoch hod hdd ?_)
 rw[if_neg (by simp)]
 refine wpAny_pure ?_
 obtain⟨hlt',hen⟩:=Array.getElem?_eq_some_iff.mp hx
 simp only[show¬((i:Int)<0)from by omega,if_false,Int.toNat_natCast,Array.getElem?_eq_getElem hlt']
 refine wpAny_bind ?_
 first|refine wpAny_bind (wpAny_typeNameOfWhole_keyiter hit.typeIs (wpAny_pure ?_))|refine wpAny_bind (wpAny_typeNameOf_keyiter hit.typeIs (wpAny_pure ?_))
 refine wpAny_bind (wpAny_isOneOf_keyiter hit.typeIs ?_)
 show wpAny _ _ (setField (.ref it) 1 (rawInt ((i:Int)+1)) >>= _) _ _ s
 refine wpAny_bind (wpAny_setField ho hd (by simp) ?_)
 have hit':(s.heap.update it (Obj.mapFields (·.setIfInBounds 1 (rawInt ((i:Int)+1))))).IsKeyIter it d (i+1) n ep:=
  ⟨_,Heap.get?_update_self _ ho (Obj.isFreed_of_fields (Obj.data_mapFields hd _)),(Obj.cls_mapFields ..).trans hc,by rw[Obj.data_mapFields hd];simp[rawInt]⟩
 refine wpAny_bind (wpAny_holding ?_)
 refine wpAny_bind (wpAny_isOneOf_keyiter (s:={ s with heap:=s.heap.update it (Obj.mapFields (·.setIfInBounds 1 (rawInt ((i:Int)+1)))) }) hit'.typeIs ?_)
 show wpAny _ _ (pure es[i].key) _ _ _
 rw[hen]
 exact wpAny_pure (wpAny_pure ⟨_,rfl,wpAny_pure (hQ _ hit' (Heap.SameBut.update ..))⟩)
theorem Cp{it d:Addr}{i n ep:Nat}{od:Obj}{es:Array DictEntry}{Q:Option Value->Shared->Prop}(hh:A.handled=none)(hit:s.heap.IsKeyIter it d i n ep)(hod:s.heap.get? d=some od)(hdd:od.data=.dict es ep)
 (hsz:es.size=n)(hge:n<=i)(hQ:∀h',Heap.ExtBut it s.heap h'->Q none { s with heap:=h' }):wpAny (model prog w) A (pyNext (.ref it)) Q E s:=by
 obtain⟨o,ho,hc,hd⟩:=id hit
 unfold pyNext
 refine wpAny_bind (wpAny_attempt (wpAny_callSpecial?_slot (name:=Str.ofString "__next__") hit.typeIs F.slot_dict_keyiterator_next
  (wpAny_call_entry F.slot_dict_keyiterator_next hit.typeIs F.entry_dict_keyiterator_next ?_ (F.args_dict_keyiterator_next_1 _))))
 refine wpAny_bind (wpAny_pure ?_)
 refine wpAny_bind ?_
 refine wpAny_bind ?_
 first|refine wpAny_bind (wpAny_typeNameOfWhole_keyiter hit.typeIs (wpAny_pure ?_))|refine wpAny_bind (wpAny_typeNameOf_keyiter hit.typeIs (wpAny_pure ?_))
 refine wpAny_bind (wpAny_fieldsOf ho hd ?_)
 have hown:Builtin.Dict_items.ownsTuple "dict_keyiterator"=false:=by decide
 simp only[hown,Bool.false_eq_true,if_false]
 show wpAny _ _ (if(Value.ref d==Value.none)=true then _ else _) _ _ s
 rw[if_neg (show¬((Value.ref d==Value.none)=true)from Bool.false_ne_true)]
 refine wpAny_bind (wpAny_pure ?_)
 refine wpAny_bind (wpAny_dictEntries hod hdd ?_)
 rw[if_neg (by rw[hsz];simp)]
 refine wpAny_bind (wpAny_pure ?_)
 refine wpAny_bind (wpAny_dictEpoch hod hdd ?_)
 rw[if_neg (by simp)]
 refine wpAny_pure ?_
 have hge':es.size<=i:=by rw[hsz];exact hge
 simp only[show¬((i:Int)<0)from by omega,if_false,Int.toNat_natCast,Array.getElem?_eq_none hge']
 refine wpAny_bind ?_
 first|refine wpAny_bind (wpAny_typeNameOfWhole_keyiter hit.typeIs (wpAny_pure ?_))|refine wpAny_bind (wpAny_typeNameOf_keyiter hit.typeIs (wpAny_pure ?_))
 show wpAny _ _ (setField (.ref it) 0 .none >>= _) _ _ s
 refine wpAny_bind (wpAny_setField ho hd (by simp) ?_)
 show wpAny _ _ (newExc (.type "StopIteration") [] >>= _) _ _ _
 refine wpAny_bind ?_
 simp only[newExc,newTuple]
 refine wpAny_bind (wpAny_newObj_type ?_ (by size_fits))
 refine wpAny_bind (m:=firstArgMember _ _) (wpAny_of_eq (a:=Value.none) (by first|rfl|(simp only[firstArgMember];rfl)) ?_)
 refine wpAny_newObj_type ?_ (by size_fits)
 simp only[raiseNew]
 refine wpAny_bind (wpAny_handled ?_)
 rw[show A.in1.handled=none from hh]
 refine wpAny_bind (wpAny_pure (wpAny_throw ?_))
 refine wpAny_bind (wpAny_isInstance (T:="StopIteration") (b:=true) ⟨_,Heap.get?_push_size _ rfl,rfl⟩ isSubtype_stop ?_)
 exact wpAny_pure (hQ _ (((Heap.SameBut.update ..).extBut.push _).push _))
end
theorem aiq{κ:Type}{kvs:List (κ×V)}{vs:List (κ×Value)}(h:KV kvs vs):∀{i:Nat}{k:κ}{v:V},kvs[i]?=some (k,v)->∃u,vs[i]?=some (k,u)/\RelV v u:=by
 unfold KV at h
 induction h with
 |nil=>intro i k v e;simp at e
 |@cons a b l₁ l₂ r t ih=>
  intro i k v e
  cases i with
  |zero=>
   simp only[List.getElem?_cons_zero,Option.some.injEq]at e
   subst e
   refine⟨b.2,?_,r.2⟩
   simp only[List.getElem?_cons_zero]
   exact congrArg some (Prod.ext r.1.symm rfl)
  |succ j=>
   simp only[List.getElem?_cons_succ]at e⊢
   exact ih e
theorem VJ{α β:Type}{G:α->β->Prop}{l₁:List α}{l₂:List β}(h:Paired G l₁ l₂):∀{i:Nat}{a:α},l₁[i]?=some a->∃b,l₂[i]?=some b/\G a b:=by
 induction h with
 |nil=>intro i a e;simp at e
 |@cons a b l₁ l₂ r t ih=>
  intro i a' e
  cases i with
  |zero=>
   simp only[List.getElem?_cons_zero,Option.some.injEq]at e
   subst e
   exact⟨b,rfl,r⟩
  |succ j=>
   simp only[List.getElem?_cons_succ]at e⊢
   exact ih e
theorem abN{k:Key}{u:Value}(h:Gp k u=true):RelV (kV k) u:=by
 rcases iC h with⟨i,t,rfl,rfl⟩|⟨x,t,rfl,rfl⟩
 ·exact⟨t,rfl⟩
 ·exact⟨t,rfl⟩
section
variable{X:Cx}{pins:List (Addr×Obj)}{σ:St}{H:Hp}{s:Shared}{d:Addr}{o:Obj}
theorem Inv.air{kvs:List (Key×V)}(I:Inv X pins σ H s)(h:H d=some (.nG o (.dK kvs))):
 (d==sysModules)=false/\s.heap.get? d=some o/\o.ExactDict/\∃(es:Array DictEntry)(ep:Nat)(vs:List (Key×Value)),o.data=.dict es ep/\es.size=kvs.length/\KV kvs vs/\s.heap.DictAt (jR X.prog X.w) d vs ep:=by
 obtain⟨hd,z,hs,vs,kv,o',es,ep,ho,hx,hdt,r⟩:=I.hok d _ h
 rw[hd]at ho
 cases ho
 refine⟨hs,hd,hx,es,ep,vs,hdt,?_,kv,o,es,hd,hx,hdt,r⟩
 have l1:=r.2.1.length
 have l2:kvs.length=vs.length:=Paired.length kv
 rw[Array.length_toList]at l1
 omega
theorem Inv.ais{kvs:List (List Key×V)}(I:Inv X pins σ H s)(h:H d=some (.nG o (.dT kvs))):
 (d==sysModules)=false/\s.heap.get? d=some o/\o.ExactDict/\∃(es:Array DictEntry)(ep:Nat),o.data=.dict es ep/\es.size=kvs.length/\
   ∀(i:Nat)(k:List Key)(v:V),kvs[i]?=some (k,v)->∃(en:DictEntry)(q:Addr),es[i]?=some en/\en.key=.ref q/\H q=some (.tup (k.map kV)):=by
 obtain⟨hd,z,hs,xs,pr,o',es,ep,ho,hx,hdt,he,_⟩:=I.hok d _ h
 rw[hd]at ho
 cases ho
 refine⟨hs,hd,hx,es,ep,hdt,?_,fun i k v e=>?_⟩
 ·have l1:es.size=xs.length:=size_of_entries he
  have l2:kvs.length=xs.length:=Paired.length pr
  omega
 ·obtain⟨b,hb,e1,e2,_⟩:=VJ pr e
  have q:=entry_at he i
  rw[hb]at q
  exact⟨_,b.2.1,q,rfl,e2⟩
end
noncomputable def Itk(d:Addr)(o:Obj)(kvs:List (Key×V)):It:=
 ⟨fun i H=>H d=some (.nG o (.dK kvs))/\i<kvs.length,fun i H x H'=>H'=H/\∃k v,kvs[i]?=some (k,v)/\x=kV k,fun i H=>H d=some (.nG o (.dK kvs))/\kvs.length<=i⟩
noncomputable def abO(d:Addr)(o:Obj)(kvs:List (List Key×V)):It:=
 ⟨fun i H=>H d=some (.nG o (.dT kvs))/\i<kvs.length,fun i H x H'=>H'=H/\∃(k:List Key)(v:V)(q:Addr),kvs[i]?=some (k,v)/\x=.ref q/\H q=some (.tup (k.map kV)),fun i H=>H d=some (.nG o (.dT kvs))/\kvs.length<=i⟩
theorem Ij{o:Obj}{es es':Array DictEntry}{ep ep':Nat}(h:o.data=.dict es ep)(h':o.data=.dict es' ep'):es'=es/\ep'=ep:=by
 rw[h]at h'
 cases h'
 exact⟨rfl,rfl⟩
section
variable{P:Program}{w:World}{K:W.Frag}{tg:Expr}{d:Addr}{o:Obj}{es:Array DictEntry}{ep:Nat}
theorem Zk{kvs:List (Key×V)}(it:Addr)(hod:o.data=.dict es ep):Turn P w K tg (Itk d o kvs) [it] it (fun i h=>h.IsKeyIter it d i kvs.length ep) where
 mem:=by simp
 obj:=fun i h st b hb=>by
  have e:b=it:=by simpa using hb
  subst e
  obtain⟨oi,e,c,dd⟩:=st
  exact⟨oi,e,fun v z=>by rw[dd]at z;cases z⟩
 keep:=fun i h h' st k=>st.at fun oi e=>k it (by simp) oi e
 item:=by
  intro X hP hw hK hc i pins s σ H E I hf st hg
  subst hP hw hK
  obtain⟨hd,hi⟩:=hg
  obtain⟨f0,f1,f2,f3,f4,f5⟩:=hf it (by simp)
  obtain⟨hs,hgd,hx,es',ep',vs,hdt,hsz,kv,hm⟩:=I.air hd
  obtain⟨rfl,rfl⟩:=Ij hod hdt
  obtain⟨⟨k,v⟩,hkv⟩:∃p,kvs[i]?=some p:=⟨kvs[i],List.getElem?_eq_getElem hi⟩
  obtain⟨u,hu,ru⟩:=aiq kv hkv
  have hl:kvs.length=vs.length:=Paired.length kv
  rw[hl]at st
  refine wpAny_pyNext_dict_item st hm hu fun key h' hkey st' sb=>?_
  have I1:Inv X pins σ H { s with heap:=h' }:=I.turned (t':=s.toks) (fun b ob hb e=>(sb.2 b hb).trans e) f0 f1 f3 f4 f5
  obtain⟨oi,e,c,dd⟩:=id st'
  refine⟨key,rfl,Xk (s:={ s with heap:=h' }) e c dd (by decide) ⟨kV k,H,I1,abN (show Gp k key=true from hkey),⟨rfl,k,v,hkv,rfl⟩,?_,fun b hb=>(hf b hb).1⟩⟩
  show h'.IsKeyIter it d (i+1) kvs.length _
  rw[hl]
  exact st'
 done:=by
  intro X hP hw hK hc i pins s σ H E I hf st hg
  subst hP hw hK
  obtain⟨hd,hi⟩:=hg
  obtain⟨f0,f1,f2,f3,f4,f5⟩:=hf it (by simp)
  obtain⟨hs,hgd,hx,es',ep',vs,hdt,hsz,kv,hm⟩:=I.air hd
  obtain⟨rfl,rfl⟩:=Ij hod hdt
  exact Cp (I.ok.hd hc) st hgd hdt hsz hi fun h' eb=>⟨rfl,I.turned (t':=s.toks) (fun b ob hb e=>eb b ob hb e) f0 f1 f3 f4 f5⟩
 self:=fun A i s Q E st h=>wpAny_pyIter_keyiter st h
theorem VL{kvs:List (List Key×V)}(it:Addr)(hod:o.data=.dict es ep):Turn P w K tg (abO d o kvs) [it] it (fun i h=>h.IsKeyIter it d i kvs.length ep) where
 mem:=by simp
 obj:=fun i h st b hb=>by
  have e:b=it:=by simpa using hb
  subst e
  obtain⟨oi,e,c,dd⟩:=st
  exact⟨oi,e,fun v z=>by rw[dd]at z;cases z⟩
 keep:=fun i h h' st k=>st.at fun oi e=>k it (by simp) oi e
 item:=by
  intro X hP hw hK hc i pins s σ H E I hf st hg
  subst hP hw hK
  obtain⟨hd,hi⟩:=hg
  obtain⟨f0,f1,f2,f3,f4,f5⟩:=hf it (by simp)
  obtain⟨hs,hgd,hx,es',ep',hdt,hsz,ent⟩:=I.ais hd
  obtain⟨rfl,rfl⟩:=Ij hod hdt
  obtain⟨⟨k,v⟩,hkv⟩:∃p,kvs[i]?=some p:=⟨kvs[i],List.getElem?_eq_getElem hi⟩
  obtain⟨en,q,hen,hkey,hq⟩:=ent i k v hkv
  refine Mz st hgd hdt hsz hen fun h' st' sb=>?_
  have I1:Inv X pins σ H { s with heap:=h' }:=I.turned (t':=s.toks) (fun b ob hb e=>(sb.2 b hb).trans e) f0 f1 f3 f4 f5
  obtain⟨oi,e,c,dd⟩:=id st'
  exact⟨en.key,rfl,Xk (s:={ s with heap:=h' }) e c dd (by decide) ⟨.ref q,H,I1,hkey,⟨rfl,k,v,q,hkv,rfl,hq⟩,st',fun b hb=>(hf b hb).1⟩⟩
 done:=by
  intro X hP hw hK hc i pins s σ H E I hf st hg
  subst hP hw hK
  obtain⟨hd,hi⟩:=hg
  obtain⟨f0,f1,f2,f3,f4,f5⟩:=hf it (by simp)
  obtain⟨hs,hgd,hx,es',ep',hdt,hsz,ent⟩:=I.ais hd
  obtain⟨rfl,rfl⟩:=Ij hod hdt
  exact Cp (I.ok.hd hc) st hgd hdt hsz hi fun h' eb=>⟨rfl,I.turned (t':=s.toks) (fun b ob hb e=>eb b ob hb e) f0 f1 f3 f4 f5⟩
 self:=fun A i s Q E st h=>by
  refine wpAny_pyIter_slot st.typeIs F.slot_dict_keyiterator_iter (wpAny_call_entry F.slot_dict_keyiterator_iter st.typeIs F.entry_dict_keyiterator_iter ?_ (F.args_dict_keyiterator_iter_1 _))
  show wpAny _ _ (ret (.ref it)) _ _ s
  exact wpAny_pure ⟨_,rfl,"dict_keyiterator",_,st.typeIs,F.slot_dict_keyiterator_next.lookup,h⟩
end
def aho(td:TE):TI:=fun σ H R=>td σ H fun x H1=>∃d o,x=.ref d/\((∃kvs,H1 d=some (.nG o (.dK kvs))/\R (Itk d o kvs) H1)\/∃kvs,H1 d=some (.nG o (.dT kvs))/\R (abO d o kvs) H1)
section
variable{X:Cx}{tg e:Expr}{td:TE}{apos cpos:Pos}
theorem ael(he:PE X e td):PI X tg e (aho td):=by
 intro pins s σ H R I h
 refine jK (he pins s σ H _ I h) fun u s1 ⟨x,H1,I1,rx,d,o,ex,q⟩=>?_
 subst ex
 obtain rfl:u=Value.ref d:=rx
 rcases q with⟨kvs,hd,q⟩|⟨kvs,hd,q⟩
 ·obtain⟨hs,hgd,hx,es,ep,vs,hdt,hsz,kv,hm⟩:=I1.air hd
  refine O5 hs hgd hx hdt (abM (tk:=s1.toks) I1 _ (Zk _ hdt) ⟨_,Heap.get?_push_size _ rfl,rfl,?_⟩ q)
  rw[hsz]<;>rfl
 ·obtain⟨hs,hgd,hx,es,ep,hdt,hsz,ent⟩:=I1.ais hd
  refine O5 hs hgd hx hdt (abM (tk:=s1.toks) I1 _ (VL _ hdt) ⟨_,Heap.get?_push_size _ rfl,rfl,?_⟩ q)
  rw[hsz]<;>rfl
end
def Ite(K:W.Frag)(a:Addr):It:=
 ⟨fun i H=>∃(xs:List V)(x:V),cY K H a xs/\xs[i]?=some x,fun i H v H'=>∃T x,v=.ref T/\H T=none/\H'=upd H T (.tup [.int (i:Nat),x])/\∀xs,cY K H a xs->xs[i]?=some x,fun i H=>∃xs:List V,cY K H a xs/\xs.length<=i⟩
theorem Zm{P:Program}{w:World}{K:W.Frag}{elts:List Expr}{kk:Nat}{tpos:Pos}(a e it:Addr):
 Turn P w K (.Tuple elts kk tpos) (Ite K a) [e,it] e (fun i h=>(∃old,IsEnum h e it ((i:Nat):Int) old)/\h.IsListIter it a i/\e≠it) where
 mem:=by simp
 obj:=fun i h st b hb=>by
  obtain⟨⟨old,he⟩,⟨o,ho,hc,hd⟩,_⟩:=st
  have e':b=e\/b=it:=by simpa using hb
  rcases e' with z|z
  ·rw[z];exact⟨_,he,fun v q=>nomatch q⟩
  ·rw[z];exact⟨o,ho,fun v q=>by rw[hd]at q;cases q⟩
 keep:=fun i h h' st k=>let⟨⟨old,he⟩,hi,hne⟩:=st;⟨⟨old,k e (by simp) _ he⟩,hi.at fun o q=>k it (by simp) o q,hne⟩
 item:=by
  intro X hP hw hK hc i pins s σ H E I hf st hg
  subst hP hw hK
  obtain⟨⟨old,he⟩,hit,hne⟩:=st
  obtain⟨xs,x,hq,hx⟩:=hg
  obtain⟨its,rv,p,hz⟩:=I.list hq
  obtain⟨u,hu,ru⟩:=rv.get hx
  have hel:e<s.heap.objs.size:=Heap.lt_size he
  have hil:it<s.heap.objs.size:=by obtain⟨_,q,_⟩:=hit;exact Heap.lt_size q
  refine wpAny_pyNext_enum_item he hit p.isList (x:=u) (by simpa using hu) hne fun h' ho hit' hT hsz hk=>?_
  refine⟨_,rfl,wpAny_letOwnedTupleGo_enum (s:={ s with heap:=h',toks:=s.toks+1 }) ho fun h'' he' sb=>?_⟩
  have hT2:h''.get? s.heap.objs.size=some { cls:=.type "tuple",data:=.seq #[.int i s.toks,u] }:=(sb.2 _ (Nat.ne_of_gt hel)).trans hT
  have new:jQ X.prog X.w (upd H s.heap.objs.size (.tup [.int (i:Nat),x])) h'' s.heap.objs.size (.tup [.int (i:Nat),x]):=
   ⟨by show 2<=sizeLine;decide,[.int i s.toks,u],.cons ⟨_,rfl⟩ (.cons ru .nil),⟨_,hT2,rfl,_,rfl⟩⟩
  have I1:Inv X pins σ (upd H s.heap.objs.size (.tup [.int (i:Nat),x])) { s with heap:=h'',toks:=s.toks+1 }:=
   I.Zj (ch:=[e,it]) (fun b ob hb q=>(sb.2 b (fun z=>hb (by simp[z]))).trans (hk b ob (fun z=>hb (by simp[z])) (fun z=>hb (by simp[z])) q)) hf (Nat.le_refl _) new
  refine⟨.ref s.heap.objs.size,_,I1,rfl,⟨_,x,rfl,I.hok.fresh (Nat.le_refl _),rfl,fun ys hy=>by rw[I.SJ hy hq];exact hx⟩,⟨⟨u,?_⟩,hit'.at fun o q=>(sb.2 it (Ne.symm hne)).trans q,hne⟩,fun b hb=>?_⟩
  ·have e1:((i+1:Nat):Int)=(i:Int)+1:=by omega
   rw[e1];exact he'
  ·have hb':b<s.heap.objs.size:=by
    have e':b=e\/b=it:=by simpa using hb
    rcases e' with z|z
    ·rw[z];exact hel
    ·rw[z];exact hil
   rw[aH (Nat.ne_of_lt hb')]
   exact(hf b hb).1
 done:=by
  intro X hP hw hK hc i pins s σ H E I hf st hg
  subst hP hw hK
  obtain⟨⟨old,he⟩,hit,hne⟩:=st
  obtain⟨xs,hq,hx⟩:=hg
  obtain⟨its,rv,p,hz⟩:=I.list hq
  obtain⟨f0,f1,f2,f3,f4,f5⟩:=hf it (by simp)
  have hl:=rv.length
  exact wpAny_pyNext_enum_end (I.ok.hd hc) he hit p.isList (by simp;omega) fun h' eb=>⟨rfl,I.turned (t':=s.toks) (fun b o hb q=>eb b o hb q) f0 f1 f3 f4 f5⟩
 self:=fun A i s Q E st h=>let⟨⟨_,he⟩,_⟩:=st;wpAny_pyIter_enum he h
def ahp(K:W.Frag)(ta:TA):TI:=fun σ H R=>ta σ H fun vs H1=>∃a xs,vs=[.ref a]/\cY K H1 a xs/\R (Ite K a) H1
theorem aem{X:Cx}{e:Expr}{ta:TA}{p pos tpos:Pos}{elts:List Expr}{kk:Nat}(hg:Gl X "enumerate")(hm:X.mg "enumerate"=none)(ha:PA X [e] ta)(hs:starEach [e] X.env=[(false,eval e X.env)]:=by rfl):
 PI X (.Tuple elts kk tpos) (.Call (.Name "enumerate" p) [e] [] pos) (ahp X.K ta):=by
 intro pins s σ H R I h
 refine Call_ (Am I hg hm boot_enumerate (PyProof.Rows.callWith_type1 (jK (ha pos pins s σ H _ I h) fun us s1 ⟨vs,H1,I1,r1,q1⟩=>?_) hs rfl))
 obtain⟨a,xs,ex,hq,q⟩:=q1
 subst ex
 cases r1 with
 |cons r rr=>
  cases rr
  cases r
  obtain⟨its,rv,p',hz⟩:=I1.list hq
  refine call_enumerate_list p'.isList fun h' he hit hsz hk=>wpAny_pyIter_enum he ?_
  have I2:Inv X pins σ H1 { s1 with heap:=h' }:=I1.kept (t':=s1.toks) hk
  refine⟨s1.heap.objs.size+1,[s1.heap.objs.size+1,s1.heap.objs.size],_,_,H1,rfl,I2,Zm a (s1.heap.objs.size+1) s1.heap.objs.size,⟨⟨.none,he⟩,hit,Nat.succ_ne_self _⟩,fun b hb=>?_,q⟩
  have e':b=s1.heap.objs.size+1\/b=s1.heap.objs.size:=by simpa using hb
  have hle:s1.heap.objs.size<=b:=by
   rcases e' with z|z
   ·rw[z];exact Nat.le_add_right _ _
   ·rw[z];exact Nat.le_refl _
  exact I1.QJ hle (I1.hok.fresh hle)
end L2
section
namespace am6
open PySem PyProof.Rows
end am6
end
section
namespace TL
open PySem PySem.Builtin PySem.Builtin.Str PySem.StrLaws
abbrev tl(x:Str):List Nat:=x.cps.toList
theorem ait(x:Str):x.length=(tl x).length:=by simp[tl,Str.length]
noncomputable def pre(S l:List Nat):Bool:=l.take S.length==S
noncomputable def par(S:List Nat):List Nat->List Nat->Option (List Nat×List Nat)
 |_,[]=>none
 |acc,c::r=>if pre S (c::r)=true then some (acc,(c::r).drop S.length)else par S (acc++[c]) r
theorem len1{y:Str}(hy:tl y≠[]):1<=y.length:=by
 have e2:0<(tl y).length:=List.length_pos_iff.mpr hy
 rw[ait y]
 exact e2
theorem QD{x y:Str}(h:y.cps.all (·<256)=true):¬Builtin.Str.strKind x<Builtin.Str.strKind y:=by
 have e:Builtin.Str.strKind y=1:=by unfold PySem.Builtin.Str.strKind;rw[if_pos h]
 rw[e]
 unfold PySem.Builtin.Str.strKind
 split
 ·omega
 ·split<;>omega
end TL
end
namespace L2
open PySem PySem.Spec PyProof.Rows
section
variable{X:Cx}{pins:List (Addr×Obj)}{σ:St}{H:Hp}{s:Shared}{Q:VK}
end
section
variable{X:Cx}
end
section
variable{X:Cx}{o e:Expr}{to te:TE}
end
end L2
namespace L2
open PySem PySem.Spec PyProof.Rows
section
variable{X:Cx}
end
end L2
namespace Att
open PySem PySem.W PySem.Calls PyProof.Rows
section
variable{prog:Program}{w:World}{A:Around}{E:Value->Shared->Prop}{s:Shared}{K:Frag}
end
end Att
namespace L2
open PySem PySem.Spec PyProof.Rows
end L2
namespace L2
open PySem PySem.Spec PyProof.Rows
end L2
namespace L2
open PySem PySem.Spec PyProof.Rows
noncomputable def inClass(s:Stmt)(j:Nat):Stmt:=match s with
 |.ClassDef _ _ _ body _ _ _ _ _ _ _=>body.getD j (.Pass ⟨0,0,0,0⟩)
 |_=> .Pass ⟨0,0,0,0⟩
noncomputable def zx(s:Stmt):Arguments:=match s with
 |.FunctionDef _ a _ _ _ _ _ _ _ _=>a
 |_=>{ posonlyargs:=[],args:=[],vararg:=none,kwonlyargs:=[],kw_defaults:=[],kwarg:=none,defaults:=[] }
noncomputable def qZ(s:Stmt):List Stmt:=match s with
 |.FunctionDef _ _ b _ _ _ _ _ _ _=>b
 |_=>[]
noncomputable def ao(s:Stmt):Scope:=match s with
 |.FunctionDef _ _ _ _ _ _ sc _ _ _=>sc
 |_=>{ kind:=.function,names:=[],isGenerator:=false,isCoroutine:=false }
abbrev cV:CXT:=fun _ _ _ _ _ _=>False
abbrev E0:XK:=fun _ _ _=>False
theorem pA{X:Cx}:Passes cV X E0:=fun _ _ _ _ _ _ _ h=>h.elim
structure Fun(K:W.Frag)(x qual:Str)(st:Stmt)(f:Addr)(fd:FuncData):Prop where
 ex:∃(oc:Value)(od:Option Addr)(kV doc pm:Value)(an:Option Addr)(cdv ct:Value)(osl:Array (Option Value)),
  fd=W.fnOf x qual (zx st) (qZ st) (ao st) .none kV doc pm an cdv ct/\K.lookup f=some ⟨oc,od,.func fd,osl⟩/\W.codeIn K cdv qual=true
 kp:W.keepIn K (.ref f)=true
section
variable{P:Program}{w:World}{K:W.Frag}{mg:Str->Option Value}{base:Heap}
theorem Fun.ok{x qual:Str}{st:Stmt}{f:Addr}{fd:FuncData}{N ps:List Str}{k:Nat}{sp:Sp}(F:Fun K x qual st f fd)(S:aD N ps (ao st))(len:∀vs H Q E,sp vs H Q E->vs.length=ps.length)
 (hbody:∀(cdv:Value)(A:Around)(outer:List Env)(s:Shared)(H:Hp)(vs:List V)(Q:VK)(E:XK),lU k (A.deeper (envOfC qual (ao st) s.heap.objs.size f cdv))->sp vs H Q E->
   ∃t,Vr (SX cV P w K mg base N qual (ao st) f cdv A outer s H E).nox (qZ st) t/\t { nx:=fun _ H'=>Q .non H',rt:=Q } (start N vs) H):bf P w K mg base cV (k+1) f fd ps sp:=by
 obtain⟨oc,od,kV,doc,pm,an,cdv,ct,osl,rfl,lk,hcd⟩:=F.ex
 refine ahg lk hcd S len fun A outer s H vs Q E hr hsp=>?_
 obtain⟨t,h,q⟩:=hbody cdv A outer s H vs Q E hr hsp
 exact⟨t,h.nox,q⟩
theorem Fun.binds{x qual:Str}{st:Stmt}{f:Addr}{fd:FuncData}{ps:List Str}(F:Fun K x qual st f fd)
 (h:∀(kV doc pm:Value)(an:Option Addr)(cdv ct:Value)(us:List Value),us.length=ps.length->bindArgs (W.fnOf x qual (zx st) (qZ st) (ao st) .none kV doc pm an cdv ct) ⟨us,[]⟩=pure (ps.zip us)):Binds K fd ps []:=by
 obtain⟨oc,od,kV,doc,pm,an,cdv,ct,osl,rfl,lk,hcd⟩:=F.ex
 exact .all (h kV doc pm an cdv ct)
theorem abP{x qual:Str}{st:Stmt}{f:Addr}{oc:Value}{od an:Option Addr}{osl:Array (Option Value)}{kV doc pm cdv ct:Value}(l:K.lookup f=some ⟨oc,od,.func (W.fnOf x qual (zx st) (qZ st) (ao st) .none kV doc pm an cdv ct),osl⟩)
 (c:W.codeIn K cdv qual=true)(k:W.keepIn K (.ref f)=true):Fun K x qual st f (W.fnOf x qual (zx st) (qZ st) (ao st) .none kV doc pm an cdv ct):=⟨⟨oc,od,kV,doc,pm,an,cdv,ct,osl,rfl,l,c⟩,k⟩
end
theorem abQ{A:Around}{k:Nat}(hr:lU k A):A.units+1<cLine:=Nat.lt_of_le_of_lt (Nat.add_le_add_left (by decide:1<=64) _) hr.units
section
variable{X:Cx}
theorem pv(i:Nat){x:Str}{pos:Pos}(hN:X.N[i]?=some x:=by rfl)(hv:Vis X.env.scope x:=by first|exact Or.inl rfl|exact Or.inr (Or.inl rfl)|exact Or.inr (Or.inr rfl))(hd:(x==("__debug__":Str))=false:=by decide)
 (hcd:(x==("__classdict__":Str))=false:=by decide):PE X (.Name x pos) (ah4 i):=abe hN hv hd hcd
end
theorem cR{A B:Prop}(h:B):if false=true then A else B:=by
 rw[if_neg Bool.false_ne_true]
 exact h
theorem bJ{A B:Prop}(h:A):if true=true then A else B:=by
 rw[if_pos rfl]
 exact h
theorem cO{c A B:Prop} [Decidable c](h1:c->A)(h2:¬c->B):if c then A else B:=by
 by_cases h:c
 ·rw[if_pos h]
  exact h1 h
 ·rw[if_neg h]
  exact h2 h
def Same(H H':Hp):Prop:=∀b o,H b=some o->H' b=some o
theorem Same.refl(H:Hp):Same H H:=fun _ _ h=>h
theorem Same.trans{H H1 H2:Hp}(a:Same H H1)(b:Same H1 H2):Same H H2:=fun c o h=>b c o (a c o h)
theorem Same.free{H H':Hp}(e:Same H H'){l:Addr}(h:H' l=Option.none):H l=Option.none:=by
 cases q:H l with
 |none=>rfl
 |some o=>
  rw[e l o q]at h
  cases h
theorem Same.seq{K:W.Frag}{H H':Hp}{a:Addr}{xs:List V}(e:Same H H')(h:cY K H a xs):cY K H' a xs:=by
 rcases h with(h|⟨o,h⟩)|h
 ·exact .inl (.inl (e _ _ h))
 ·exact .inl (.inr ⟨o,e _ _ h⟩)
 ·exact .inr h
section
variable{κ:Type} [DecidableEq κ]
end
theorem Same.made{H H1:Hp}{x dx C:Addr}(nx:H x=Option.none)(nd:H dx=Option.none)(k:∀b o,(upd (upd H dx (.own x)) x (.ins C dx [])) b=some o->b≠x->H1 b=some o):Same H H1:=fun b o e=>
 k b o (by rw[aH (aW e nx),aH (aW e nd)];exact e) (aW e nx)
end L2
end
section
namespace L2
open PySem PySem.Spec PyProof.Rows
def Bd(k:Nat)(i:Int):Prop:=i.natAbs<2^k
theorem Bd.mono{j k:Nat}{i:Int}(h:Bd j i)(hjk:j<=k):Bd k i:=Nat.lt_of_lt_of_le h (Nat.pow_le_pow_right (by decide) hjk)
theorem Bd.add{j k:Nat}{a b:Int}(h:Bd j a)(g:Bd k b):Bd (max j k+1) (a+b):=by
 have h1:=h.mono (Nat.le_max_left j k)
 have h2:=g.mono (Nat.le_max_right j k)
 unfold Bd at*
 rw[Nat.pow_succ]
 omega
theorem Bd.sub{j k:Nat}{a b:Int}(h:Bd j a)(g:Bd k b):Bd (max j k+1) (a-b):=by
 have h1:=h.mono (Nat.le_max_left j k)
 have h2:=g.mono (Nat.le_max_right j k)
 unfold Bd at*
 rw[Nat.pow_succ]
 omega
theorem Bd.mul{j k:Nat}{a b:Int}(h:Bd j a)(g:Bd k b):Bd (j+k) (a*b):=by
 unfold Bd at*
 rw[Int.natAbs_mul,Nat.pow_add]
 exact Nat.mul_lt_mul'' h g
theorem Bd.nat{k n:Nat}(h:n<2^k):Bd k (n:Int):=by
 unfold Bd
 omega
def XH(i j:Int):Prop:=∃a b:Nat,Bd a i/\Bd b j/\a+b<=134217728
section
variable{X:Cx}
theorem bh:Jw X (binaryOp .Mult) (rI XH fun i j=> .int (i*j)):=opI fun _ _ _ _ _ _ _ hc q=>by
 obtain⟨a,b,h1,h2,h3⟩:=hc
 exact mul_int q (PySem.IntMulOk.of_le (PySem.intBits_le_iff.mpr h1) (PySem.intBits_le_iff.mpr h2) h3)
theorem aiu{j:Int}(h:Bd 9000 j):j.natAbs.log2<9000:=by
 rcases Nat.eq_zero_or_pos j.natAbs with z|z
 ·rw[z];decide
 ·exact(Nat.log2_lt (Nat.ne_of_gt z)).mpr h
theorem cP:Jw X (binaryOp .FloorDiv) (rI (fun _ j=>j≠0/\Bd 9000 j) fun i j=> .int (i.fdiv j)):=
 opI fun _ _ _ _ _ _ _ hc q=>floordiv_int hc.1 q (.inl (PyProof.noPylong_of_log2 (aiu hc.2)))
end
end L2
end
section
namespace L2
open PySem PySem.Spec PyProof.Rows
section
variable{X:Cx}{pins:List (Addr×Obj)}{σ:St}{H:Hp}{s:Shared}
theorem MF{c:Addr}{q:Str}{h1 h2:Heap}(x:h1.CodeRec (.ref c) q)(k:∀o,h1.get? c=some o->h2.get? c=some o):h2.CodeRec (.ref c) q:=by
 obtain⟨c1,o,vs,t,e,g,r⟩:=x
 cases e
 exact⟨c,o,vs,t,rfl,k o g,r⟩
theorem MJ{c:Addr}{q:Str}{h1:Heap}(x:h1.CodeRec (.ref c) q):∃o,h1.get? c=some o:=by
 obtain⟨c1,o,vs,t,e,g,r⟩:=x
 cases e
 exact⟨o,g⟩
abbrev qU(c:Addr)(q:Str):HO:=.ext fun h=>h.CodeRec (.ref c) q
theorem Inv.grown{P c:Addr}{ps more:Array Value}{q:Str}{h':Heap}{t':Nat}(I:Inv X pins σ H s)(hP:H P=some (.Ot ps))(hx:Heap.ExtBut P s.heap h')(hc:s.heap.objs.size<=c)
 (hrec:h'.CodeRec (.ref c) q)(hn:h'.get? P=some { cls:=.none,data:=.fields (ps++more) }):
 Inv X pins σ (upd (upd H P (.Ot (ps++more))) c (qU c q)) { s with heap:=h',toks:=t' }:=by
 have fr:H c=none:=I.hok.fresh hc
 have neP:∀b,H b=none->b≠P:=fun b n z=>by subst z;rw[n]at hP;cases hP
 have neK:∀b u,H b=some u->(∀ps,u≠.Ot ps)->b≠P:=fun b u e n z=>by subst z;rw[hP]at e;cases e;exact n _ rfl
 have neC:∀b u,H b=some u->b≠c:=fun b u e=>aW e fr
 have at_:∀b u,H b=some u->b≠P->(upd (upd H P (.Ot (ps++more))) c (qU c q)) b=some u:=fun b u e n=>by
  rw[aH (neC b u e),aH n];exact e
 refine I.un ⟨fun b o e n _ _=>hx b o (neP b n) e,fun b o e n _ _=>⟨o.slots,hx b o (neP b n) e⟩,fun b o e n _=>?_,fun b o e _=>?_,fun b xs e=>?_,fun b o u e=>?_,fun b qs e=>?_⟩ fun b u e=>?_
 ·rw[aH (Nat.ne_of_lt (Nat.lt_of_lt_of_le (Heap.lt_size e) hc)),aH (neP b n)];exact n
 ·by_cases z:b=P
  ·subst z;exact⟨_,hn⟩
  ·exact⟨o,hx b o z e⟩
 ·exact at_ b _ e (neK b _ e fun _ z=>nomatch z)
 ·exact at_ b _ e (neK b _ e fun _ z=>nomatch z)
 ·by_cases z:b=P
  ·subst z
   rw[hP]at e
   cases e
   exact⟨more,by rw[aH (neC b _ hP),aG]⟩
  ·exact⟨#[],by rw[at_ b _ e z];simp⟩
 ·by_cases z:b=c
  ·subst z
   rw[aG]at e
   cases e
   exact⟨hrec,MJ hrec,fun h1 h2=>MF⟩
  ·rw[aH z]at e
   by_cases z2:b=P
   ·subst z2
    rw[aG]at e
    cases e
    exact hn
   ·rw[aH z2]at e
    refine(I.hok b u e).stay (fun d v hd g=>hx d v ?_ g) (fun d g=>at_ d _ g (neK d _ g fun _ z=>nomatch z)) fun d xs g=>at_ d _ g (neK d _ g fun _ z=>nomatch z)
    rcases hd with z3|z3
    ·rw[z3];exact z2
    ·exact neK d _ z3 fun _ z=>nomatch z
noncomputable abbrev JF(X:Cx)(params:Arguments)(body:Expr)(scope:Scope)(cd ct:Value):Obj:=
 { cls:=.type "function",data:=.func (W.kla_fn "<lambda>" (X.env.qual++"<lambda>") params body scope (dO X.env.cells scope.names []) ((X.mg "__name__").getD .none) cd ct) }
theorem Inv.abR{f:Addr}{o:Obj}{h':Heap}{t':Nat}(I:Inv X pins σ H { s with heap:=h',toks:=t' })(hf:f=h'.objs.size)(hfr:o.isFreed=false)(hd:∀v,o.data≠.cell v):
 Inv X (pins++[(f,o)]) σ H { s with heap:=h'.push o,toks:=t' }:=by
 subst hf
 have J:Inv X pins σ H { s with heap:=h'.push o,toks:=t' }:=I.kept (t':=t') fun b u e=>Heap.get?_push_of_some _ e
 refine J.Ig fun p hp=>?_
 rcases List.mem_append.mp hp with z|z
 ·exact J.pin p (List.mem_append_right _ z)
 ·have e:p=(h'.objs.size,o):=List.mem_singleton.mp z
  subst e
  exact⟨Heap.get?_push_size _ hfr,I.hok.fresh (Nat.le_refl _),Nat.ne_of_gt I.lt,I.ajP (Nat.le_refl _),hd⟩
theorem Cq{params:Arguments}{body:Expr}{scope:Scope}{pos:Pos}{c P:Addr}{ps:Array Value}{Q:Value->Shared->Prop}{E:Value->Shared->Prop}(I:Inv X pins σ H s)(hcode:X.env.code=.ref c)(C:W.CodeHd X.base c P)
 (hP:H P=some (.Ot ps))(ht:TriplesOk ps.toList)(hfree:∀y∈scope.names,y.2=.free->∃d,X.env.cells.lookup y.1=some d)(hb:X.base.BuiltinsAt X.mg P)(hdef:defaultsOf params X.env=([],[]))
 (h1:∀f d ct s',codeAmong pos ps.toList=none->H d=none->Inv X (pins++[(f,JF X params body scope (.ref d) ct)]) σ (upd (upd H P (.Ot (ps++#[rawInt pos.line,rawInt pos.col,.ref d]))) d (qU d (X.env.qual++"<lambda>"))) s'->Q (.ref f) s')
 (h2:∀f cv ct s',codeAmong pos ps.toList=some cv->Inv X (pins++[(f,JF X params body scope cv ct)]) σ H s'->Q (.ref f) s'):
 wpAny (model X.prog X.w) X.A (eval (.Lambda params body scope pos) X.env) Q E s:=by
 have hPo:s.heap.get? P=some (W.tabObj ps):=I.hok P _ hP
 have hg:s.heap.Ns mainGlobals X.mg:=I.mod.glob.keeps I.bk
 have hcl:=Jz hfree
 refine W.kla_eval hdef ?_
 cases hc:codeAmong pos ps.toList with
 |none=>
  refine W.kla_makeFunction (mg:=X.mg) hcl I.ok.glob hg hcode (C.keeps I.bk) hPo ht hc ?_ (hb.keeps I.bk) fun d ct h' tk hx hge hlt hrec htb=>?_
  ·intro z
   obtain⟨o,es,ep,e,dd,_⟩:=hg
   rw[z,hPo]at e
   cases e
   cases dd
  ·have J:=I.grown (t':=tk) hP hx hge hrec htb
   exact h1 _ d ct _ hc (I.hok.fresh hge) (J.abR rfl rfl fun v z=>nomatch z)
 |some cv=>
  refine W.kla_makeFunctionHit (mg:=X.mg) hcl I.ok.glob hg hcode (C.keeps I.bk) hPo ht hc (hb.keeps I.bk) fun ct h' tk hk hsz=>?_
  have J:Inv X pins σ H { s with heap:=h',toks:=tk }:=I.kept hk
  exact h2 _ cv ct _ hc (J.abR rfl rfl fun v z=>nomatch z)
end
structure O6(N:List Str)(sc scope:Scope)(x:Str)(caps:List (Str×Nat)):Prop where
 kind:scope.kind=.function
 co:scope.isCoroutine=false
 gen:scope.isGenerator=false
 abS:∀y∈scope.names,y.2≠.cell
 loc:scope.names.lookup x=some .local
 uniq:∀y∈scope.names,scope.names.lookup y.1=some y.2
 free:∀y∈scope.names,y.2=.free->sc.names.lookup y.1=some .cell\/sc.names.lookup y.1=some .free
 caps:∀p∈caps,N[p.2]?=some p.1/\scope.names.lookup p.1=some .free
noncomputable abbrev JG(scope:Scope)(L:Addr)(cl:List (Str×Addr))(q:Str)(f:Addr)(cd:Value):Env:=newEnv scope L mainGlobals cl (q++".<locals>.") (some f) cd none builtinsNs
noncomputable abbrev Cx.lam(X:Cx)(s:Shared)(H:Hp)(N:List Str)(le:Env):Cx:=
 { X with A:=X.A.in1.deeper le,N:=N,s_0:=s,H_0:=H,env:=le,outer:=X.stack,stack:=le::X.stack,ex:=[],fn:=fun _=>false,calm:=true,pn:=[],xe:=fun _ _=>False }
noncomputable def xM(σ:St)(caps:List (Str×Nat)):St:=caps.map fun p=>(σ[p.2]?).getD none
section
variable{X:Cx}{pins:List (Addr×Obj)}{σ:St}{H:Hp}{s:Shared}
theorem Zn{scope:Scope}{x:Str}{caps:List (Str×Nat)}{q:Str}{f:Addr}{cd:Value}{v:V}{u:Value}{h1:Heap}{tk:Nat}(I:Inv X pins σ H s)(hc:X.calm=true)(ok:O6 X.N X.env.scope scope x caps)
 (ru:RelV v u)(hns:h1.Ns s.heap.objs.size (fun y=>([(x,u)]:List (Str×Value)).reverse.lookup y))(hk:∀b o,s.heap.get? b=some o->h1.get? b=some o):
 Inv (X.lam s H (x::caps.map (·.1)) (JG scope s.heap.objs.size (dO X.env.cells scope.names []) q f cd)) [] (some v::xM σ caps) H { s with heap:=h1,toks:=tk }:=by
 have hfree:∀y∈scope.names,y.2=.free->∃d,X.env.cells.lookup y.1=some d:=fun y hy e=>by
  rcases ok.free y hy e with k|k
  ·exact I.ok.has _ (.inl k)
  ·exact I.ok.has _ (.inr k)
 generalize hle:JG scope s.heap.objs.size (dO X.env.cells scope.names []) q f cd=le
 have eL:le.locals=s.heap.objs.size:=by rw[<-hle];rfl
 have eC:le.cells=dO X.env.cells scope.names []:=by rw[<-hle];rfl
 have eS:le.scope=scope:=by rw[<-hle];rfl
 have eK:∀y,le.kindOf y=scope.names.lookup y:=fun y=>by rw[<-hle];rfl
 have cm:∀{y d},le.cells.lookup y=some d->X.env.cells.lookup y=some d:=fun{y d} e=>by
  rw[eC]at e
  rcases qp (PySem.mem_of_lookup e)with hm|⟨g1,rfl⟩
  ·cases hm
  ·obtain⟨d,hd⟩:=hfree _ g1 rfl
   rw[hd]
   rfl
 have look:∀{y},scope.names.lookup y=some .free->∃d,le.cells.lookup y=some d/\X.env.cells.lookup y=some d:=fun{y} e=>by
  obtain⟨d,hd⟩:=mem_lookup (tM (cells:=X.env.cells) (acc:=[]) (PySem.mem_of_lookup e))
  rw[<-eC]at hd
  exact⟨d,hd,cm hd⟩
 have okL:(X.lam s H (x::caps.map (·.1)) le).Ok:=by
  refine⟨I.ok.mod,by show le.scope.kind=_;rw[eS];exact ok.kind,by show le.globals=_;rw[<-hle];rfl,by show le.builtins=_;rw[<-hle];rfl,by show s.heap.objs.size<=le.locals;rw[eL];exact Nat.le_refl _,
   fun y z d e1 e2=>I.ok.inj y z d (cm e1) (cm e2),fun y hy=>?_,fun y d z _=>(nomatch z),fun _=>I.ok.hd hc,Around.frames_deeper (A:=X.A.in1) I.ok.frames,.inr ⟨rfl,by show le.frame=some le.locals;rw[<-hle];rfl⟩,
   fun b hb=>(nomatch hb),I.bs,Nat.le_trans I.ok.Y8 I.sz,fun b o _ hb=>(nomatch hb),fun b hb=>(nomatch hb),I.stack,I.QF⟩
  have hy:scope.names.lookup y=some .cell\/scope.names.lookup y=some .free:=by
   rcases hy with z|z
   ·exact .inl ((eK y).symm.trans z)
   ·exact .inr ((eK y).symm.trans z)
  rcases hy with z|z
  ·exact absurd rfl (ok.abS _ (PySem.mem_of_lookup z))
  ·obtain⟨d,e,_⟩:=look z
   exact⟨d,e⟩
 refine⟨okL,rfl,I.bare,Un.kept hk,⟨_,by show Heap.Ns _ le.locals _;rw[eL];exact hns,fun i y w e1 e2 e3=>?_⟩,fun y d e=>?_,?_,fun y d e=>I.tL y d (cm e),fun p hp=>(nomatch hp),I.hok.kept hk,?_⟩
 ·cases i with
  |zero=>
   have e1:x=y:=Option.some.inj e1
   have e2:v=w:=Option.some.inj (Option.some.inj e2)
   subst e1 e2
   refine⟨u,ru,.inl ⟨(eK x).trans ok.loc,?_⟩⟩
   simp[List.lookup]
  |succ i=>
   have e1:(caps.map (·.1))[i]?=some y:=e1
   have e2:(xM σ caps)[i]?=some (some w):=e2
   unfold xM at e2
   rw[List.getElem?_map]at e1 e2
   cases hp:caps[i]? with
   |none=>rw[hp]at e1;cases e1
   |some p=>
    rw[hp]at e1 e2
    have e1:p.1=y:=Option.some.inj e1
    have e2:(σ[p.2]?).getD none=some w:=Option.some.inj e2
    obtain⟨g1,g2⟩:=ok.caps p (List.mem_of_getElem? hp)
    rw[e1]at g1 g2
    have e4:σ[p.2]?=some (some w):=by
     cases hz:σ[p.2]? with
     |none=>rw[hz]at e2;cases e2
     |some z=>rw[hz]at e2;have e2:z=some w:=e2;rw[e2]
    obtain⟨m,_,hl⟩:=I.loc
    have hfr:=ok.free _ (PySem.mem_of_lookup g2) rfl
    obtain⟨w',r,lk⟩:=hl p.2 y w g1 e4 (hfr.elim (fun k=> .inr (.inl k)) fun k=> .inr (.inr k))
    refine⟨w',r,.inr ⟨.inr ((eK y).trans g2),?_⟩⟩
    obtain⟨d,d1,d2⟩:=look g2
    rcases lk with⟨k,_⟩|⟨_,d',e',z⟩
    ·have k:X.env.scope.names.lookup y=some .local:=k
     rcases hfr with k'|k'<;>rw[show X.env.scope.names.lookup y=_ from k']at k<;>cases k
    ·rw[d2]at e'
     cases e'
     exact⟨d,d1,z.keeps hk⟩
 ·obtain⟨w,z⟩:=I.cell y d (cm e)
  exact⟨w,z.keeps hk⟩
 ·show H le.locals=none
  rw[eL]
  exact I.hok.fresh (Nat.le_refl _)
 ·show(some v::xM σ caps).length=(x::caps.map (·.1)).length
  unfold xM
  simp
theorem Tn{params:Arguments}{body:Expr}{scope:Scope}{x:Str}{caps:List (Str×Nat)}{f:Addr}{cd ct:Value}{v:V}{u:Value}{te:TE}{Q:VK}(I:Inv X pins σ H s)(hc:X.calm=true)(hr:X.A.depth<recursionLimit)
 (ok:O6 X.N X.env.scope scope x caps)(hf:(f,JF X params body scope cd ct)∈pins)(hrec:s.heap.CodeRec cd (X.env.qual++"<lambda>"))
 (hbind:∀(pm:Value)(cl:List (Str×Addr))(u:Value),bindArgs (W.kla_fn "<lambda>" (X.env.qual++"<lambda>") params body scope cl pm cd ct) ⟨[u],[]⟩=pure [(x,u)])
 (he:∀(s:Shared)(H:Hp)(L:Addr)(cl:List (Str×Addr)),PE (X.lam s H (x::caps.map (·.1)) (JG scope L cl (X.env.qual++"<lambda>") f cd)) body te)
 (ru:RelV v u)(h:te (some v::xM σ caps) H Q):
 wpAny (model X.prog X.w) X.A.in1 (call (.ref f) [u]) (EP X pins σ Q) (fun _ _=>False) s:=by
 have lim:s.heap.NoLimit:=I.nolimit
 refine wpAny_call (W.kla_callFunE hr (I.pin _ (List.mem_append_right _ hf)).1 rfl ok.co ok.gen rfl hrec ?_)
 rw[hbind]
 refine wpAny_pure (wpAny_newFunctionEnv ok.abS (fun y hy=>?_) (fun h1 hns hsb=>?_) ok.kind)
 ·have e:y=(x,u):=List.mem_singleton.mp hy
  subst e
  exact ok.loc
 ·have hk:∀b o,s.heap.get? b=some o->h1.get? b=some o:=fun b o e=>hsb.extBut b o (Nat.ne_of_lt (Heap.lt_size e)) (Heap.get?_push_of_some _ e)
  refine⟨lim.keeps hk,W.kla_codeExpr ?_⟩
  have J:=Zn (q:=X.env.qual++"<lambda>") (f:=f) (cd:=cd) (tk:=s.toks+1) I hc ok ru hns hk
  refine wpAny_mono (he s H s.heap.objs.size (dO X.env.cells scope.names []) [] _ _ H Q J h) (fun r s2 hq=>?_) fun _ _ z=>z.elim
  obtain⟨w,H',I2,VF,q⟩:=hq
  exact I.after ⟨w,H',I2.os,I2.bare,I2.base,I2.hok,VF,q⟩
end
end L2
end
section
set_option maxHeartbeats 4000000
namespace L2
open PySem PySem.Spec PyProof.Rows
def Q0(kf:Nat->Int)(n i:Nat):Prop:=∀j,j<n->kf i<=kf j/\(j<i->kf i<kf j)
section
variable{X:Cx}{pins:List (Addr×Obj)}{σ:St}{H:Hp}
theorem Inv.xO{s:Shared}{a b:Addr×Obj}(I:Inv X (pins++[a,b]) σ H s):Inv X pins σ H s:=I.rY
theorem Inv.Tp{s:Shared}{S It:Addr}{oS oI:Obj}(I:Inv X pins σ H s)(fS:qK X pins H S)(fI:qK X pins H It)(eS:s.heap.get? S=some oS)(eI:s.heap.get? It=some oI)(dS:∀v,oS.data≠.cell v)(dI:∀v,oI.data≠.cell v):
 Inv X (pins++[(S,oS),(It,oI)]) σ H s:=I.Ig fun p hp=>by
 rcases List.mem_append.mp hp with z|z
 ·exact I.pin p (List.mem_append_right _ z)
 ·rcases List.mem_cons.mp z with e|z
  ·subst e;exact⟨eS,fS.1,fS.2.1,fS.2.2.1,dS⟩
  ·have e:=List.mem_singleton.mp z
   subst e;exact⟨eI,fI.1,fI.2.1,fI.2.2.1,dI⟩
theorem Inv.wu{s:Shared}{it:Addr}{h':Heap}{tk:Nat}(I:Inv X pins σ H s)(f:qK X pins H it)(k:∀b o,b≠it->s.heap.get? b=some o->h'.get? b=some o):Inv X pins σ H { s with heap:=h',toks:=tk }:=
 I.turned k f.1 f.2.1 f.2.2.2.1 f.2.2.2.2.1 f.2.2.2.2.2
theorem Zo{l S It q:Addr}{xs:List V}{R:Result->Shared->Prop}(kf:Nat->Int)(hc:X.calm=true)(hs:cY X.K H l xs)(fS:qK X pins H S)(fI:qK X pins H It)(hSI:S≠It)(hlI:l≠It)(hlS:l≠S)
 (turn:∀(i:Nat)(x:V),xs[i]?=some x->∀(more:List (Addr×Obj))(s:Shared)(u:Value),Inv X (pins++more) σ H s->RelV x u->
   wpAny (model X.prog X.w) X.A.in1 (call (.ref q) [u]) (EP X (pins++more) σ fun r H'=>r=.int (kf i)/\H'=H) (fun _ _=>False) s)
 (hR:∀(i:Nat)(x:V)(u:Value)(s:Shared),xs[i]?=some x->RelV x u->Q0 kf xs.length i->Inv X pins σ H s->R (.ok (.ret u)) s):
 ∀(r j i:Nat)(s:Shared)(xb:V)(vb:Value)(tb:Tok)(n:Nat)(oI:Obj),xs.length-(j+1)=r->j+1<=xs.length->Inv X (pins++[(S,seqObj "list" #[vb,.int (kf i) tb] n),(It,oI)]) σ H s->
  s.heap.IsListIter It l (j+1)->xs[i]?=some xb->RelV xb vb->i<=j->Q0 kf (j+1) i->codeAny (model X.prog X.w) X.A (.builtin "min.loop" ⟨[.ref It,.ref q,.ref S],[]⟩) R s:=by
 have nm:(toString "min"++toString ".loop":String)="min.loop":=by decide
 intro r
 induction r with
 |zero=>
  intro j i s xb vb tb n oI hr hj I hit hxb rb hij best
  have hin:j+1=xs.length:=by omega
  have pS:=(I.pin (S,seqObj "list" #[vb,.int (kf i) tb] n) (List.mem_append_right _ (List.mem_append_right _ (.head _)))).1
  have I0:=I.xO
  obtain⟨its,rv,pl,_⟩:=I0.list hs
  have len:=rv.length
  have W:=Walks.list (prog:=X.prog) (w:=X.w) (A:=X.A.in1) (I.ok.hd hc) It l hlI its.toArray
  refine codeAny_builtin PySem.F.entry_min_loop ?_
  rw[Around.under_plainId PySem.F.plain_min_loop _]
  show wpAny _ X.A.in1 (seqItems? (.ref S) >>= _) _ _ _
  refine wpAny_bind (wpAny_seqItems pS rfl ?_)
  show wpAny _ X.A.in1 (tryCatch (pyNext (.ref It)) _ >>= _) _ _ _
  refine wpAny_bind (wpAny_tryCatch (W.done _ _ _ ⟨by rw[List.size_toArray,<-len,<-hin];exact hit,pl.isList⟩ fun h' tk' hk=>?_))
  have I1:Inv X pins σ H { s with heap:=h',toks:=tk' }:=I0.wu fI fun b o hb e=>hk b o (by simpa using hb) e
  have pS':=hk S _ (by simpa using hSI) pS
  have sb:=Heap.SameBut.update h' S (Obj.mapSeq fun _=>(#[]:Array Value))
  show wpAny _ X.A.in1 (updateSeq S (fun _=>#[]) >>= _) _ _ _
  refine wpAny_bind ?_
  refine wpAny_updateSeq pS' rfl (wpAny_bind (wpAny_letGo (wpAny_pure ?_)))
  exact hR i xb vb _ hxb rb (hin▸best) (I1.wu fS fun b o hb e=>(sb.2 b hb).trans e)
 |succ r ih=>
  intro j i s xb vb tb n oI hr hj I hit hxb rb hij best
  have hlt:j+1<xs.length:=by omega
  have pS:=(I.pin (S,seqObj "list" #[vb,.int (kf i) tb] n) (List.mem_append_right _ (List.mem_append_right _ (.head _)))).1
  have I0:=I.xO
  obtain⟨its,rv,pl,_⟩:=I0.list hs
  have len:=rv.length
  have W:=Walks.list (prog:=X.prog) (w:=X.w) (A:=X.A.in1) (I.ok.hd hc) It l hlI its.toArray
  refine codeAny_builtin PySem.F.entry_min_loop ?_
  rw[Around.under_plainId PySem.F.plain_min_loop _]
  show wpAny _ X.A.in1 (seqItems? (.ref S) >>= _) _ _ _
  refine wpAny_bind (wpAny_seqItems pS rfl ?_)
  show wpAny _ X.A.in1 (tryCatch (pyNext (.ref It)) _ >>= _) _ _ _
  refine wpAny_bind (wpAny_tryCatch (W.item (j+1) _ _ _ (by rw[List.size_toArray,<-len];exact hlt) ⟨hit,pl.isList⟩ fun v h' tk' hv hst hk=>?_))
  obtain⟨y,hy⟩:∃y,xs[j+1]?=some y:=⟨_,List.getElem?_eq_getElem hlt⟩
  have ry:RelV y v:=by
   obtain⟨u,hu,ru⟩:=rv.get hy
   have hv':its[j+1]?=some v:=by simpa using hv
   rw[hu]at hv'
   cases hv'
   exact ru
  obtain⟨oI',hoI,hoc,hod⟩:=id hst.1
  have I1:Inv X pins σ H { s with heap:=h',toks:=tk' }:=I0.wu fI fun b o hb e=>hk b o (by simpa using hb) e
  have pS':=hk S _ (by simpa using hSI) pS
  have I2:=I1.Tp fS fI pS' hoI (fun v z=>nomatch z) (fun v z=>by rw[hod]at z;cases z)
  show wpAny _ X.A.in1 (tryCatch (holding [v] (call (.ref q) [v])) _ >>= _) _ _ _
  refine wpAny_bind (wpAny_tryCatch (wpAny_holding (wpAny_mono (turn (j+1) y hy _ _ v I2 ry) (fun a s2 he=>?_) fun _ _ hF=>hF.elim)))
  obtain⟨rv',H2,I3,ra,e1,e2⟩:=he
  subst e1 e2
  obtain⟨t2,rfl⟩:=ra
  have pS2:=(I3.pin (S,seqObj "list" #[vb,.int (kf i) tb] n) (List.mem_append_right _ (List.mem_append_right _ (.head _)))).1
  have pI2:=(I3.pin (It,oI') (List.mem_append_right _ (List.mem_append_right _ (.tail _ (.head _))))).1
  have hit2:s2.heap.IsListIter It l (j+1+1):=⟨oI',pI2,hoc,hod⟩
  show wpAny _ X.A.in1 (tryCatch (holding [v,.int (kf (j+1)) t2] (richCompare .Lt (.int (kf (j+1)) t2) (.int (kf i) tb) >>= _)) _ >>= _) _ _ _
  refine wpAny_bind (wpAny_tryCatch (wpAny_holding (wpAny_bind (CmpOf.ints_lt (prog:=X.prog) (w:=X.w) (A:=X.A.in1) (P:=fun i v=>∃t,v=.int (kf i) t) kf (fun i v h=>h) (j+1) i _ _ _ _ _ ⟨t2,rfl⟩ ⟨tb,rfl⟩ ?_))))
  refine wpAny_bind (wpAny_holding (wpAny_truthy_bool ?_))
  refine wpAny_bind (wpAny_letGo (wpAny_pure ?_))
  by_cases lt:kf (j+1)<kf i
  ·have sb:=Heap.SameBut.update s2.heap S (Obj.mapSeq fun _=>#[v,.int (kf (j+1)) t2])
   obtain⟨n2,hn2⟩:∃n2,(s2.heap.update S (Obj.mapSeq fun _=>#[v,.int (kf (j+1)) t2])).get? S=some (seqObj "list" #[v,.int (kf (j+1)) t2] n2):=⟨_,get?_update_seq pS2 fun _=>#[v,.int (kf (j+1)) t2]⟩
   have I4:Inv X pins σ H2 { s2 with heap:=s2.heap.update S (Obj.mapSeq fun _=>#[v,.int (kf (j+1)) t2]),toks:=s2.toks }:=I3.xO.wu fS fun b o hb e=>(sb.2 b hb).trans e
   have pI4:=(sb.2 It hSI.symm).trans pI2
   simp only[lt,decide_true,if_true]
   refine wpAny_bind ?_
   refine wpAny_updateSeq pS2 rfl (wpAny_bind (wpAny_letGo ?_))
   rw[nm]
   refine wpAny_pure ⟨plainId_quiet PySem.F.plain_min_loop _,ih (j+1) (j+1) _ y v t2 n2 oI' (by omega) hlt (I4.Tp fS fI hn2 pI4 (fun v z=>nomatch z) (fun v z=>by rw[hod]at z;cases z)) ⟨oI',pI4,hoc,hod⟩ hy ry (Nat.le_refl _) fun k hk'=>?_⟩
   by_cases e:k=j+1
   ·subst e;exact⟨by omega,fun _=>by omega⟩
   ·have b:=(best k (by omega)).1
    exact⟨by omega,fun _=>by omega⟩
  ·simp only[lt,decide_false,Bool.false_eq_true,if_false]
   refine wpAny_bind (wpAny_letGo ?_)
   rw[nm]
   refine wpAny_pure ⟨plainId_quiet PySem.F.plain_min_loop _,ih (j+1) i _ xb vb tb n oI' (by omega) hlt I3 hit2 hxb rb (by omega) fun k hk'=>?_⟩
   by_cases e:k=j+1
   ·subst e;exact⟨by omega,fun _=>by omega⟩
   ·exact best k (by omega)
theorem aiv{s:Shared}{l q:Addr}{xs:List V}{Q:Value->Shared->Prop}{E:Value->Shared->Prop}(kf:Nat->Int)(hc:X.calm=true)(I:Inv X pins σ H s)(hs:cY X.K H l xs)(hne:0<xs.length)
 (turn:∀(i:Nat)(x:V),xs[i]?=some x->∀(more:List (Addr×Obj))(s:Shared)(u:Value),Inv X (pins++more) σ H s->RelV x u->
   wpAny (model X.prog X.w) X.A.in1 (call (.ref q) [u]) (EP X (pins++more) σ fun r H'=>r=.int (kf i)/\H'=H) (fun _ _=>False) s)
 (hQ:∀(i:Nat)(x:V)(u:Value)(s:Shared),xs[i]?=some x->RelV x u->Q0 kf xs.length i->Inv X pins σ H s->Q u s):
 wpAny (model X.prog X.w) X.A (call (.builtin "min") [.ref l] [(Str.ofString "key",.ref q)]) Q E s:=by
 have nm:(toString "min"++toString ".loop":String)="min.loop":=by decide
 obtain⟨am9,rv0,pl0,_⟩:=I.list hs
 have hll:l<s.heap.objs.size:=by obtain⟨_,_,e,_⟩:=pl0;exact Heap.lt_size e
 refine kmk_tree PySem.F.kind_min PySem.F.plain_min PySem.F.entry_min (kmk_min_key _ _) ?_
 show wpAny _ X.A.in1 (Builtin.Builtins.bindParams "min" ["key","default"] 0 ⟨[],[(Str.ofString "key",.ref q)]⟩ >>= _) _ _ s
 refine wpAny_bind (wpAny_of_eq (show Builtin.Builtins.bindParams "min" ["key","default"] 0 ⟨[],[(Str.ofString "key",.ref q)]⟩=pure [some (.ref q),none]from rfl) ?_)
 refine wpAny_bind (wpAny_pure (wpAny_bind (wpAny_pyIter_list pl0.isList (wpAny_bind (wpAny_newList ?_ (Nat.zero_le _))))))
 rw[nm]
 generalize hIt:s.heap.objs.size=It at hll
 generalize hh1:s.heap.push { cls:=.type "list_iterator",data:=.fields #[.ref l,.int 0 0] }=h1
 have e1:h1.objs.size=It+1:=by rw[<-hh1,Heap.size_push,hIt]
 generalize hS:h1.objs.size=S
 have eSI:S=It+1:=hS.symm.trans e1
 have k1:∀b o,s.heap.get? b=some o->h1.get? b=some o:=fun b o e=>by rw[<-hh1];exact Heap.get?_push_of_some _ e
 have gI:h1.get? It=some { cls:=.type "list_iterator",data:=.fields #[.ref l,.int 0 0] }:=by rw[<-hh1,<-hIt];exact Heap.get?_push_size _ rfl
 have gS:(h1.push (seqObj "list" #[] 0)).get? S=some (seqObj "list" #[] 0):=by rw[<-hS];exact Heap.get?_push_size _ rfl
 have fI:qK X pins H It:=I.QJ (Nat.le_of_eq hIt) (I.hok.fresh (Nat.le_of_eq hIt))
 have fS:qK X pins H S:=I.QJ (by omega) (I.hok.fresh (by omega))
 have hSI:S≠It:=by omega
 have hlI:l≠It:=Nat.ne_of_lt hll
 have hlS:l≠S:=by rw[eSI];exact Nat.ne_of_lt (Nat.lt_succ_of_lt hll)
 have IH:Inv X pins σ H { s with heap:=h1.push (seqObj "list" #[] 0) }:=I.kept (t':=s.toks) fun b o e=>Heap.get?_push_of_some _ (k1 b o e)
 refine wpAny_pure ⟨plainId_quiet PySem.F.plain_min_loop _,?_⟩
 obtain⟨its,rv,pl,_⟩:=IH.list hs
 have len:=rv.length
 have W:=Walks.list (prog:=X.prog) (w:=X.w) (A:=X.A.in1) (I.ok.hd hc) It l hlI its.toArray
 refine codeAny_builtin PySem.F.entry_min_loop ?_
 rw[Around.under_plainId PySem.F.plain_min_loop _]
 show wpAny _ X.A.in1 (seqItems? (.ref S) >>= _) _ _ _
 refine wpAny_bind (wpAny_seqItems gS rfl ?_)
 show wpAny _ X.A.in1 (tryCatch (pyNext (.ref It)) _ >>= _) _ _ _
 refine wpAny_bind (wpAny_tryCatch (W.item 0 _ _ _ (by rw[List.size_toArray,<-len];exact hne) ⟨⟨_,Heap.get?_push_of_some _ gI,rfl,rfl⟩,pl.isList⟩ fun v h' tk' hv hst hk=>?_))
 obtain⟨y,hy⟩:∃y,xs[0]?=some y:=⟨_,List.getElem?_eq_getElem hne⟩
 have ry:RelV y v:=by
  obtain⟨u,hu,ru⟩:=rv.get hy
  have hv':its[0]?=some v:=by simpa using hv
  rw[hu]at hv'
  cases hv'
  exact ru
 obtain⟨oI',hoI,hoc,hod⟩:=id hst.1
 have I1:Inv X pins σ H { s with heap:=h',toks:=tk' }:=IH.wu (h':=h') (tk:=tk') fI fun b o hb e=>hk b o (by simpa using hb) e
 have pS':=hk S _ (by simpa using hSI) gS
 have I2:=I1.Tp fS fI pS' hoI (fun v z=>nomatch z) (fun v z=>by rw[hod]at z;cases z)
 show wpAny _ X.A.in1 (tryCatch (holding [v] (call (.ref q) [v])) _ >>= _) _ _ _
 refine wpAny_bind (wpAny_tryCatch (wpAny_holding (wpAny_mono (turn 0 y hy _ _ v I2 ry) (fun a s2 he=>?_) fun _ _ hF=>hF.elim)))
 obtain⟨rv',H2,I3,ra,e1',e2⟩:=he
 subst e1' e2
 obtain⟨t2,rfl⟩:=ra
 have pS2:=(I3.pin (S,seqObj "list" #[] 0) (List.mem_append_right _ (List.mem_append_right _ (.head _)))).1
 have pI2:=(I3.pin (It,oI') (List.mem_append_right _ (List.mem_append_right _ (.tail _ (.head _))))).1
 have sb:=Heap.SameBut.update s2.heap S (Obj.mapSeq fun _=>#[v,.int (kf 0) t2])
 obtain⟨n2,hn2⟩:∃n2,(s2.heap.update S (Obj.mapSeq fun _=>#[v,.int (kf 0) t2])).get? S=some (seqObj "list" #[v,.int (kf 0) t2] n2):=⟨_,get?_update_seq pS2 fun _=>#[v,.int (kf 0) t2]⟩
 have I4:Inv X pins σ H2 { s2 with heap:=s2.heap.update S (Obj.mapSeq fun _=>#[v,.int (kf 0) t2]),toks:=s2.toks }:=I3.xO.wu fS fun b o hb e=>(sb.2 b hb).trans e
 have pI4:=(sb.2 It hSI.symm).trans pI2
 show wpAny _ X.A.in1 (updateSeq S (fun _=>#[v,.int (kf 0) t2]) >>= _) _ _ _
 refine wpAny_bind (wpAny_updateSeq pS2 rfl ?_)
 rw[nm]
 refine wpAny_pure ⟨plainId_quiet PySem.F.plain_min_loop _,Zo kf hc hs fS fI hSI hlI hlS turn (fun i x u s h1 h2 h3 h4=>hQ i x u s h1 h2 h3 h4) _ 0 0 _ y v t2 n2 oI' rfl hne (I4.Tp fS fI hn2 pI4 (fun v z=>nomatch z) (fun v z=>by rw[hod]at z;cases z)) ⟨oI',pI4,hoc,hod⟩ hy ry (Nat.le_refl _) fun k hk'=>?_⟩
 have e:k=0:=by omega
 subst e
 exact⟨Int.le_refl _,fun z=>absurd z (Nat.lt_irrefl _)⟩
end
def xP(H:Hp)(P:Addr)(pos:Pos)(q:Str):Prop:=H P=some (.Ot #[])\/∃d,H P=some (.Ot #[rawInt pos.line,rawInt pos.col,.ref d])/\H d=some (qU d q)
def Cr(P:Addr)(H H':Hp):Prop:=∀b o,H b=some o->b≠P->H' b=some o
def aer(K:W.Frag)(P:Addr)(pos:Pos)(q:Str)(caps:List (Str×Nat))(tb:TE)(σ:St)(Q:VK)(x:V)(H1:Hp):Prop:=∃(l:Addr)(xs:List V)(kf:Nat->Int),x=.ref l/\cY K H1 l xs/\0<xs.length/\xP H1 P pos q/\
 ∀H2,xP H2 P pos q->Cr P H1 H2->cY K H2 l xs/\(∀(i:Nat)(y:V),xs[i]?=some y->tb (some y::xM σ caps) H2 fun r H'=>r=.int (kf i)/\H'=H2)/\∀(i:Nat)(y:V),xs[i]?=some y->Q0 kf xs.length i->Q y H2
def XJ(K:W.Frag)(P:Addr)(pos:Pos)(q:Str)(caps:List (Str×Nat))(te tb:TE):TE:=fun σ H Q=>te σ H (aer K P pos q caps tb σ Q)
section
variable{X:Cx}
theorem O7{e:Expr}{te tb:TE}{params:Arguments}{body:Expr}{scope:Scope}{x:Str}{caps:List (Str×Nat)}{uG kp p pos:Pos}{c P:Addr}(hc:X.calm=true)(hr:X.A.depth<recursionLimit)(he:PE X e te)
 (hg:Gl X "min")(hm:X.mg "min"=none)(hcode:X.env.code=.ref c)(C:W.CodeHd X.base c P)(hb:X.base.BuiltinsAt X.mg P)(hdef:defaultsOf params X.env=([],[]))
 (ok:O6 X.N X.env.scope scope x caps)
 (hbind:∀(pm cd ct:Value)(cl:List (Str×Addr))(u:Value),bindArgs (W.kla_fn "<lambda>" (X.env.qual++"<lambda>") params body scope cl pm cd ct) ⟨[u],[]⟩=pure [(x,u)])
 (hbody:∀(s:Shared)(H:Hp)(L f:Addr)(cd:Value)(cl:List (Str×Addr)),PE (X.lam s H (x::caps.map (·.1)) (JG scope L cl (X.env.qual++"<lambda>") f cd)) body tb)
 (h1:starEach [e] X.env=(false,eval e X.env)::starEach [] X.env:=by rfl)(h2:backTo pos (starEach [e] X.env)=(false,eval e X.env)::backTo pos (starEach [] X.env):=by rfl)(h3:(backTo pos (starEach [e] X.env)).any (·.1)=false:=by rfl):
 PE X (.Call (.Name "min" p) [e] [⟨some "key",.Lambda params body scope uG,kp⟩] pos) (XJ X.K P uG (X.env.qual++"<lambda>") caps te tb):=by
 intro pins s σ H Q I h
 refine wpAny_Call_Name_kw (Am I hg hm (by decide+kernel:bootBuiltins "min"=some (.builtin "min")) ?_)
 refine callWith_kw (he:=h2) (hplain:=h3) (jK ((cU he lZ h1) pos pins s σ H (fun vs H1=>match vs with|[x]=>aer X.K P uG (X.env.qual++"<lambda>") caps tb σ Q x H1|_=>False) I h) fun us s1 ⟨vs,H1,I1,r1,q1⟩=>kws_cons ?_)
 match vs,r1,q1 with
 |[],_,q1=>exact q1.elim
 |_::_::_,_,q1=>exact q1.elim
 |[w0],r1,q1=>
 obtain⟨l,xs,kf,rfl,hs,hne,tb0,rest⟩:=(show aer X.K P uG (X.env.qual++"<lambda>") caps tb σ Q w0 H1 from q1)
 have eus:=Vals.aif r1
 subst eus
 have hfree:∀y∈scope.names,y.2=.free->∃d,X.env.cells.lookup y.1=some d:=fun y hy e=>by
  rcases ok.free y hy e with k|k
  ·exact I1.ok.has _ (.inl k)
  ·exact I1.ok.has _ (.inr k)
 have fin:∀(f:Addr)(d:Addr)(ct:Value)(H2:Hp)(s2:Shared),xP H2 P uG (X.env.qual++"<lambda>")->Cr P H1 H2->H2 d=some (qU d (X.env.qual++"<lambda>"))->Inv X (pins++[(f,JF X params body scope (.ref d) ct)]) σ H2 s2->
    wpAny (model X.prog X.w) X.A (call (.builtin "min") [.ref l] [(Str.ofString "key",.ref f)]) (EP X pins σ Q) X.xe s2:=fun f d ct H2 s2 t2 g2 hd I2=>by
  obtain⟨hs2,hk2,hq2⟩:=rest H2 t2 g2
  refine aiv kf hc I2 hs2 hne (fun i y hy more s3 u I3 ru=>?_) fun i y u s3 hy ru fm I3=>⟨y,H2,I3.rY,ru,hq2 i y hy fm⟩
  obtain⟨hrec,_⟩:=(show jQ X.prog X.w H2 s3.heap d (qU d (X.env.qual++"<lambda>"))from I3.hok d _ hd)
  exact Tn (f:=f) (ct:=ct) (cd:=.ref d) I3 hc hr ok (List.mem_append_left _ (List.mem_append_right _ (List.mem_singleton.mpr rfl))) hrec (fun pm cl u=>hbind pm (.ref d) ct cl u) (fun s H L cl=>hbody s H L f (.ref d) cl) ru (hk2 i y hy)
 have key:(backToKw pos (keywordEach [⟨some "key",Expr.Lambda params body scope uG,kp⟩] X.env)).filterMap (·.1)=[Str.ofString "key"]:=rfl
 rcases tb0 with e0|⟨d,e0,ed⟩
 ·refine Cq I1 hcode C e0 True.intro hfree hb hdef (fun f d ct s2 _ hn I2=>kws_nil ?_) (fun f cv ct s2 hcv _=>nomatch hcv)
  rw[key]
  refine fin f d ct _ s2 (.inr ⟨d,?_,aG⟩) (fun b o eb nb=>?_) aG I2
  ·rw[aH (aW e0 hn),aG]
   rfl
  ·rw[aH (aW eb hn),aH nb]
   exact eb
 ·have hit:codeAmong uG (#[rawInt uG.line,rawInt uG.col,Value.ref d]:Array Value).toList=some (.ref d):=codeAmong_snoc (pos:=uG) (c:=.ref d) [] True.intro rfl
  refine Cq I1 hcode C e0 (TriplesOk_snoc _ _ _ [] True.intro) hfree hb hdef (fun f d2 ct s2 hcv _ _=>?_) (fun f cv ct s2 hcv I2=>kws_nil ?_)
  ·rw[hit]at hcv
   cases hcv
  ·rw[hit]at hcv
   cases hcv
   rw[key]
   exact fin f d ct H1 s2 (.inr ⟨d,e0,ed⟩) (fun _ _ eb _=>eb) ed I2
end
end L2
end
section
set_option maxHeartbeats 4000000
namespace L2
open PySem PySem.Spec PyProof.Rows
def JH(kf:Nat->Int)(n i:Nat):Prop:=∀j,j<n->kf j<=kf i/\(j<i->kf j<kf i)
section
variable{X:Cx}{pins:List (Addr×Obj)}{σ:St}
theorem qK.at{H H':Hp}{b:Addr}(f:qK X pins H b)(h:H' b=none):qK X pins H' b:=⟨h,f.2⟩
theorem Zq{H0:Hp}{l S It q:Addr}{xs:List V}{R:Result->Shared->Prop}(Iv:Hp->Prop)(kf:Nat->Int)(hc:X.calm=true)(hs:∀H,Iv H->cY X.K H l xs)(fS0:qK X pins H0 S)(fI0:qK X pins H0 It)(hSI:S≠It)(hlI:l≠It)(hlS:l≠S)
 (turn:∀(i:Nat)(x:V),xs[i]?=some x->∀(more:List (Addr×Obj))(s:Shared)(u:Value)(H:Hp),Iv H->Inv X (pins++more) σ H s->RelV x u->
   wpAny (model X.prog X.w) X.A.in1 (call (.ref q) [u]) (EP X (pins++more) σ fun r H'=>r=.int (kf i)/\Iv H') (fun _ _=>False) s)
 (hR:∀(i:Nat)(x:V)(u:Value)(s:Shared)(H:Hp),xs[i]?=some x->RelV x u->JH kf xs.length i->Iv H->Inv X pins σ H s->R (.ok (.ret u)) s):
 ∀(r j i:Nat)(s:Shared)(H:Hp)(xb:V)(vb:Value)(tb:Tok)(n:Nat)(oI:Obj),xs.length-(j+1)=r->j+1<=xs.length->Iv H->Inv X (pins++[(S,seqObj "list" #[vb,.int (kf i) tb] n),(It,oI)]) σ H s->
  s.heap.IsListIter It l (j+1)->xs[i]?=some xb->RelV xb vb->i<=j->JH kf (j+1) i->codeAny (model X.prog X.w) X.A (.builtin "max.loop" ⟨[.ref It,.ref q,.ref S],[]⟩) R s:=by
 have nm:(toString "max"++toString ".loop":String)="max.loop":=by decide
 have hdS:∀{vs:Array Value}{n:Nat}{oI:Obj},(S,seqObj "list" vs n)∈X.pn++(pins++[(S,seqObj "list" vs n),(It,oI)]):=List.mem_append_right _ (List.mem_append_right _ (.head _))
 have hdI:∀{a:Addr×Obj}{oI:Obj},(It,oI)∈X.pn++(pins++[a,(It,oI)]):=List.mem_append_right _ (List.mem_append_right _ (.tail _ (.head _)))
 intro r
 induction r with
 |zero=>
  intro j i s H xb vb tb n oI hr hj hv I hit hxb rb hij best
  have hin:j+1=xs.length:=by omega
  have pS:=(I.pin _ hdS).1
  have fS:=fS0.at (I.pin _ hdS).2.1
  have fI:=fI0.at (I.pin _ hdI).2.1
  have I0:=I.xO
  obtain⟨its,rv,pl,_⟩:=I0.list (hs H hv)
  have len:=rv.length
  have W:=Walks.list (prog:=X.prog) (w:=X.w) (A:=X.A.in1) (I.ok.hd hc) It l hlI its.toArray
  refine codeAny_builtin PySem.F.entry_max_loop ?_
  rw[Around.under_plainId PySem.F.plain_max_loop _]
  show wpAny _ X.A.in1 (seqItems? (.ref S) >>= _) _ _ _
  refine wpAny_bind (wpAny_seqItems pS rfl ?_)
  show wpAny _ X.A.in1 (tryCatch (pyNext (.ref It)) _ >>= _) _ _ _
  refine wpAny_bind (wpAny_tryCatch (W.done _ _ _ ⟨by rw[List.size_toArray,<-len,<-hin];exact hit,pl.isList⟩ fun h' tk' hk=>?_))
  have I1:Inv X pins σ H { s with heap:=h',toks:=tk' }:=I0.wu fI fun b o hb e=>hk b o (by simpa using hb) e
  have pS':=hk S _ (by simpa using hSI) pS
  have sb:=Heap.SameBut.update h' S (Obj.mapSeq fun _=>(#[]:Array Value))
  show wpAny _ X.A.in1 (updateSeq S (fun _=>#[]) >>= _) _ _ _
  refine wpAny_bind ?_
  refine wpAny_updateSeq pS' rfl (wpAny_bind (wpAny_letGo (wpAny_pure ?_)))
  exact hR i xb vb _ H hxb rb (hin▸best) hv (I1.wu fS fun b o hb e=>(sb.2 b hb).trans e)
 |succ r ih=>
  intro j i s H xb vb tb n oI hr hj hiv I hit hxb rb hij best
  have hlt:j+1<xs.length:=by omega
  have pS:=(I.pin _ hdS).1
  have fS:=fS0.at (I.pin _ hdS).2.1
  have fI:=fI0.at (I.pin _ hdI).2.1
  have I0:=I.xO
  obtain⟨its,rv,pl,_⟩:=I0.list (hs H hiv)
  have len:=rv.length
  have W:=Walks.list (prog:=X.prog) (w:=X.w) (A:=X.A.in1) (I.ok.hd hc) It l hlI its.toArray
  refine codeAny_builtin PySem.F.entry_max_loop ?_
  rw[Around.under_plainId PySem.F.plain_max_loop _]
  show wpAny _ X.A.in1 (seqItems? (.ref S) >>= _) _ _ _
  refine wpAny_bind (wpAny_seqItems pS rfl ?_)
  show wpAny _ X.A.in1 (tryCatch (pyNext (.ref It)) _ >>= _) _ _ _
  refine wpAny_bind (wpAny_tryCatch (W.item (j+1) _ _ _ (by rw[List.size_toArray,<-len];exact hlt) ⟨hit,pl.isList⟩ fun v h' tk' hv hst hk=>?_))
  obtain⟨y,hy⟩:∃y,xs[j+1]?=some y:=⟨_,List.getElem?_eq_getElem hlt⟩
  have ry:RelV y v:=by
   obtain⟨u,hu,ru⟩:=rv.get hy
   have hv':its[j+1]?=some v:=by simpa using hv
   rw[hu]at hv'
   cases hv'
   exact ru
  obtain⟨oI',hoI,hoc,hod⟩:=id hst.1
  have I1:Inv X pins σ H { s with heap:=h',toks:=tk' }:=I0.wu fI fun b o hb e=>hk b o (by simpa using hb) e
  have pS':=hk S _ (by simpa using hSI) pS
  have I2:=I1.Tp fS fI pS' hoI (fun v z=>nomatch z) (fun v z=>by rw[hod]at z;cases z)
  show wpAny _ X.A.in1 (tryCatch (holding [v] (call (.ref q) [v])) _ >>= _) _ _ _
  refine wpAny_bind (wpAny_tryCatch (wpAny_holding (wpAny_mono (turn (j+1) y hy _ _ v H hiv I2 ry) (fun a s2 he=>?_) fun _ _ hF=>hF.elim)))
  obtain⟨rv',H2,I3,ra,e1,aes⟩:=he
  subst e1
  obtain⟨t2,rfl⟩:=ra
  have pS2:=(I3.pin _ hdS).1
  have pI2:=(I3.pin _ hdI).1
  have fS2:=fS0.at (I3.pin _ hdS).2.1
  have fI2:=fI0.at (I3.pin _ hdI).2.1
  have hit2:s2.heap.IsListIter It l (j+1+1):=⟨oI',pI2,hoc,hod⟩
  show wpAny _ X.A.in1 (tryCatch (holding [v,.int (kf (j+1)) t2] (richCompare .Gt (.int (kf (j+1)) t2) (.int (kf i) tb) >>= _)) _ >>= _) _ _ _
  refine wpAny_bind (wpAny_tryCatch (wpAny_holding (wpAny_bind (CmpOf.ints_gt (prog:=X.prog) (w:=X.w) (A:=X.A.in1) (P:=fun i v=>∃t,v=.int (kf i) t) kf (fun i v h=>h) (j+1) i _ _ _ _ _ ⟨t2,rfl⟩ ⟨tb,rfl⟩ ?_))))
  refine wpAny_bind (wpAny_holding (wpAny_truthy_bool ?_))
  refine wpAny_bind (wpAny_letGo (wpAny_pure ?_))
  by_cases lt:kf i<kf (j+1)
  ·have sb:=Heap.SameBut.update s2.heap S (Obj.mapSeq fun _=>#[v,.int (kf (j+1)) t2])
   obtain⟨n2,hn2⟩:∃n2,(s2.heap.update S (Obj.mapSeq fun _=>#[v,.int (kf (j+1)) t2])).get? S=some (seqObj "list" #[v,.int (kf (j+1)) t2] n2):=⟨_,get?_update_seq pS2 fun _=>#[v,.int (kf (j+1)) t2]⟩
   have I4:Inv X pins σ H2 { s2 with heap:=s2.heap.update S (Obj.mapSeq fun _=>#[v,.int (kf (j+1)) t2]),toks:=s2.toks }:=I3.xO.wu fS2 fun b o hb e=>(sb.2 b hb).trans e
   have pI4:=(sb.2 It hSI.symm).trans pI2
   simp only[lt,decide_true,if_true]
   refine wpAny_bind ?_
   refine wpAny_updateSeq pS2 rfl (wpAny_bind (wpAny_letGo ?_))
   rw[nm]
   refine wpAny_pure ⟨plainId_quiet PySem.F.plain_max_loop _,ih (j+1) (j+1) _ H2 y v t2 n2 oI' (by omega) hlt aes (I4.Tp fS2 fI2 hn2 pI4 (fun v z=>nomatch z) (fun v z=>by rw[hod]at z;cases z)) ⟨oI',pI4,hoc,hod⟩ hy ry (Nat.le_refl _) fun k hk'=>?_⟩
   by_cases e:k=j+1
   ·subst e;exact⟨by omega,fun _=>by omega⟩
   ·have b:=(best k (by omega)).1
    exact⟨by omega,fun _=>by omega⟩
  ·simp only[lt,decide_false,Bool.false_eq_true,if_false]
   refine wpAny_bind (wpAny_letGo ?_)
   rw[nm]
   refine wpAny_pure ⟨plainId_quiet PySem.F.plain_max_loop _,ih (j+1) i _ H2 xb vb tb n oI' (by omega) hlt aes I3 hit2 hxb rb (by omega) fun k hk'=>?_⟩
   by_cases e:k=j+1
   ·subst e;exact⟨by omega,fun _=>by omega⟩
   ·exact best k (by omega)
theorem abW{H:Hp}{s:Shared}{l q:Addr}{xs:List V}{Q:Value->Shared->Prop}{E:Value->Shared->Prop}(Iv:Hp->Prop)(kf:Nat->Int)(hc:X.calm=true)(I:Inv X pins σ H s)(hv0:Iv H)(hs:∀H,Iv H->cY X.K H l xs)(hne:0<xs.length)
 (turn:∀(i:Nat)(x:V),xs[i]?=some x->∀(more:List (Addr×Obj))(s:Shared)(u:Value)(H:Hp),Iv H->Inv X (pins++more) σ H s->RelV x u->
   wpAny (model X.prog X.w) X.A.in1 (call (.ref q) [u]) (EP X (pins++more) σ fun r H'=>r=.int (kf i)/\Iv H') (fun _ _=>False) s)
 (hQ:∀(i:Nat)(x:V)(u:Value)(s:Shared)(H:Hp),xs[i]?=some x->RelV x u->JH kf xs.length i->Iv H->Inv X pins σ H s->Q u s):
 wpAny (model X.prog X.w) X.A (call (.builtin "max") [.ref l] [(Str.ofString "key",.ref q)]) Q E s:=by
 have nm:(toString "max"++toString ".loop":String)="max.loop":=by decide
 obtain⟨am9,rv0,pl0,_⟩:=I.list (hs H hv0)
 have hll:l<s.heap.objs.size:=by obtain⟨_,_,e,_⟩:=pl0;exact Heap.lt_size e
 refine kmk_tree PySem.F.kind_max PySem.F.plain_max PySem.F.entry_max (kmk_max_key _ _) ?_
 show wpAny _ X.A.in1 (Builtin.Builtins.bindParams "max" ["key","default"] 0 ⟨[],[(Str.ofString "key",.ref q)]⟩ >>= _) _ _ s
 refine wpAny_bind (wpAny_of_eq (show Builtin.Builtins.bindParams "max" ["key","default"] 0 ⟨[],[(Str.ofString "key",.ref q)]⟩=pure [some (.ref q),none]from rfl) ?_)
 refine wpAny_bind (wpAny_pure (wpAny_bind (wpAny_pyIter_list pl0.isList (wpAny_bind (wpAny_newList ?_ (Nat.zero_le _))))))
 rw[nm]
 generalize hIt:s.heap.objs.size=It at hll
 generalize hh1:s.heap.push { cls:=.type "list_iterator",data:=.fields #[.ref l,.int 0 0] }=h1
 have e1:h1.objs.size=It+1:=by rw[<-hh1,Heap.size_push,hIt]
 generalize hS:h1.objs.size=S
 have eSI:S=It+1:=hS.symm.trans e1
 have k1:∀b o,s.heap.get? b=some o->h1.get? b=some o:=fun b o e=>by rw[<-hh1];exact Heap.get?_push_of_some _ e
 have gI:h1.get? It=some { cls:=.type "list_iterator",data:=.fields #[.ref l,.int 0 0] }:=by rw[<-hh1,<-hIt];exact Heap.get?_push_size _ rfl
 have gS:(h1.push (seqObj "list" #[] 0)).get? S=some (seqObj "list" #[] 0):=by rw[<-hS];exact Heap.get?_push_size _ rfl
 have fI:qK X pins H It:=I.QJ (Nat.le_of_eq hIt) (I.hok.fresh (Nat.le_of_eq hIt))
 have fS:qK X pins H S:=I.QJ (by omega) (I.hok.fresh (by omega))
 have hSI:S≠It:=by omega
 have hlI:l≠It:=Nat.ne_of_lt hll
 have hlS:l≠S:=by rw[eSI];exact Nat.ne_of_lt (Nat.lt_succ_of_lt hll)
 have IH:Inv X pins σ H { s with heap:=h1.push (seqObj "list" #[] 0) }:=I.kept (t':=s.toks) fun b o e=>Heap.get?_push_of_some _ (k1 b o e)
 refine wpAny_pure ⟨plainId_quiet PySem.F.plain_max_loop _,?_⟩
 obtain⟨its,rv,pl,_⟩:=IH.list (hs H hv0)
 have len:=rv.length
 have W:=Walks.list (prog:=X.prog) (w:=X.w) (A:=X.A.in1) (I.ok.hd hc) It l hlI its.toArray
 refine codeAny_builtin PySem.F.entry_max_loop ?_
 rw[Around.under_plainId PySem.F.plain_max_loop _]
 show wpAny _ X.A.in1 (seqItems? (.ref S) >>= _) _ _ _
 refine wpAny_bind (wpAny_seqItems gS rfl ?_)
 show wpAny _ X.A.in1 (tryCatch (pyNext (.ref It)) _ >>= _) _ _ _
 refine wpAny_bind (wpAny_tryCatch (W.item 0 _ _ _ (by rw[List.size_toArray,<-len];exact hne) ⟨⟨_,Heap.get?_push_of_some _ gI,rfl,rfl⟩,pl.isList⟩ fun v h' tk' hv hst hk=>?_))
 obtain⟨y,hy⟩:∃y,xs[0]?=some y:=⟨_,List.getElem?_eq_getElem hne⟩
 have ry:RelV y v:=by
  obtain⟨u,hu,ru⟩:=rv.get hy
  have hv':its[0]?=some v:=by simpa using hv
  rw[hu]at hv'
  cases hv'
  exact ru
 obtain⟨oI',hoI,hoc,hod⟩:=id hst.1
 have I1:Inv X pins σ H { s with heap:=h',toks:=tk' }:=IH.wu (h':=h') (tk:=tk') fI fun b o hb e=>hk b o (by simpa using hb) e
 have pS':=hk S _ (by simpa using hSI) gS
 have I2:=I1.Tp fS fI pS' hoI (fun v z=>nomatch z) (fun v z=>by rw[hod]at z;cases z)
 show wpAny _ X.A.in1 (tryCatch (holding [v] (call (.ref q) [v])) _ >>= _) _ _ _
 refine wpAny_bind (wpAny_tryCatch (wpAny_holding (wpAny_mono (turn 0 y hy _ _ v H hv0 I2 ry) (fun a s2 he=>?_) fun _ _ hF=>hF.elim)))
 obtain⟨rv',H2,I3,ra,e1',aes⟩:=he
 subst e1'
 obtain⟨t2,rfl⟩:=ra
 have mS:(S,seqObj "list" #[] 0)∈X.pn++(pins++[(S,seqObj "list" #[] 0),(It,oI')]):=List.mem_append_right _ (List.mem_append_right _ (.head _))
 have mI:(It,oI')∈X.pn++(pins++[(S,seqObj "list" #[] 0),(It,oI')]):=List.mem_append_right _ (List.mem_append_right _ (.tail _ (.head _)))
 have pS2:=(I3.pin _ mS).1
 have pI2:=(I3.pin _ mI).1
 have fS2:=fS.at (I3.pin _ mS).2.1
 have fI2:=fI.at (I3.pin _ mI).2.1
 have sb:=Heap.SameBut.update s2.heap S (Obj.mapSeq fun _=>#[v,.int (kf 0) t2])
 obtain⟨n2,hn2⟩:∃n2,(s2.heap.update S (Obj.mapSeq fun _=>#[v,.int (kf 0) t2])).get? S=some (seqObj "list" #[v,.int (kf 0) t2] n2):=⟨_,get?_update_seq pS2 fun _=>#[v,.int (kf 0) t2]⟩
 have I4:Inv X pins σ H2 { s2 with heap:=s2.heap.update S (Obj.mapSeq fun _=>#[v,.int (kf 0) t2]),toks:=s2.toks }:=I3.xO.wu fS2 fun b o hb e=>(sb.2 b hb).trans e
 have pI4:=(sb.2 It hSI.symm).trans pI2
 show wpAny _ X.A.in1 (updateSeq S (fun _=>#[v,.int (kf 0) t2]) >>= _) _ _ _
 refine wpAny_bind (wpAny_updateSeq pS2 rfl ?_)
 rw[nm]
 refine wpAny_pure ⟨plainId_quiet PySem.F.plain_max_loop _,Zq Iv kf hc hs fS fI hSI hlI hlS turn (fun i x u s H h1 h2 h3 h4 h5=>hQ i x u s H h1 h2 h3 h4 h5) _ 0 0 _ H2 y v t2 n2 oI' rfl hne aes (I4.Tp fS2 fI2 hn2 pI4 (fun v z=>nomatch z) (fun v z=>by rw[hod]at z;cases z)) ⟨oI',pI4,hoc,hod⟩ hy ry (Nat.le_refl _) fun k hk'=>?_⟩
 have e:k=0:=by omega
 subst e
 exact⟨Int.le_refl _,fun z=>absurd z (Nat.lt_irrefl _)⟩
theorem aeu{H:Hp}{s:Shared}{Q:VK}{k:Nat}{f:Addr}{fd:FuncData}{ps:List Str}{sp:Sp}{us:List Value}{vs:List V}(F:bf X.prog X.w X.K X.mg X.base cV k f fd ps sp)(hr:lU k X.A.in1)(hb:Binds X.K fd ps [])
 (I:Inv X pins σ H s)(r:Vals vs us)(h:sp vs H Q E0):wpAny (model X.prog X.w) X.A.in1 (call (.ref f) us) (EP X pins σ Q) (fun _ _=>False) s:=by
 have hl:us.length=ps.length:=by rw[<-r.length];exact F.len _ _ _ _ h
 have hb':=hb s us I.RN (by rw[List.append_nil];exact hl)
 rw[List.append_nil]at hb'
 have e0:=I.env0
 refine wpAny_call (codeAny_mono (F.run X.A.in1 X.stack s H ⟨us,[]⟩ us vs Q E0 hr ⟨e0.frames,e0.mod,e0.bs,e0.Y8,e0.Cg,e0.frf,e0.hok,e0.bare⟩ hb' r h) fun r s' hq=>?_)
 cases r with
 |error e=>exact hq.elim
 |ok fl=>
  cases fl with
  |ret u=>exact I.after hq
  |next=>exact False.elim hq
  |brk=>exact False.elim hq
  |cont=>exact False.elim hq
end
def akq(K:W.Frag)(Iv:Hp->Prop)(kf:Nat->Int)(xs:List V)(sp:V->Hp->VK->Prop)(Q:VK)(l:Addr):Prop:=0<xs.length/\(∀H,Iv H->cY K H l xs)/\
 (∀(i:Nat)(y:V)(H:Hp),xs[i]?=some y->Iv H->sp y H fun r H'=>r=.int (kf i)/\Iv H')/\∀(i:Nat)(y:V)(H:Hp),xs[i]?=some y->JH kf xs.length i->Iv H->Q y H
def aev(K:W.Frag)(sp:Sp)(Q:VK)(x:V)(H1:Hp):Prop:=∃(l:Addr)(xs:List V)(kf:Nat->Int)(Iv:Hp->Prop),x=.ref l/\Iv H1/\akq K Iv kf xs (fun y H R=>sp [y] H R E0) Q l
def abX(K:W.Frag)(sp:Sp)(te:TE):TE:=fun σ H Q=>te σ H (aev K sp Q)
def aew(K:W.Frag)(P:Addr)(pos:Pos)(q:Str)(caps:List (Str×Nat))(tb:TE)(σ:St)(Q:VK)(x:V)(H1:Hp):Prop:=∃l:Addr,x=.ref l/\xP H1 P pos q/\
 ∀H2,xP H2 P pos q->Cr P H1 H2->∃(xs:List V)(kf:Nat->Int)(Iv:Hp->Prop),Iv H2/\(∀(d:Addr)(H:Hp),H2 d=some (qU d q)->Iv H->H d=some (qU d q))/\akq K Iv kf xs (fun y H R=>tb (some y::xM σ caps) H R) Q l
def XM(K:W.Frag)(P:Addr)(pos:Pos)(q:Str)(caps:List (Str×Nat))(te tb:TE):TE:=fun σ H Q=>te σ H (aew K P pos q caps tb σ Q)
section
variable{X:Cx}
theorem abY{e:Expr}{te:TE}{x:Str}{k:Nat}{f:Addr}{fd:FuncData}{ps:List Str}{sp:Sp}{kp kp2 p pos:Pos}(hc:X.calm=true)(F:bf X.prog X.w X.K X.mg X.base cV k f fd ps sp)(hr:lU (k+1) X.A)(he:PE X e te)
 (hg:Gl X "max")(hm:X.mg "max"=none)(hgx:Gl X x)(hmx:X.mg x=some (.ref f))(hb:Binds X.K fd ps [])(hd:(x==("__debug__":Str))=false:=by decide)
 (h1:starEach [e] X.env=(false,eval e X.env)::starEach [] X.env:=by rfl)(h2:backTo pos (starEach [e] X.env)=(false,eval e X.env)::backTo pos (starEach [] X.env):=by rfl)(h3:(backTo pos (starEach [e] X.env)).any (·.1)=false:=by rfl):
 PE X (.Call (.Name "max" p) [e] [⟨some "key",.Name x kp2,kp⟩] pos) (abX X.K sp te):=by
 intro pins s σ H Q I h
 refine wpAny_Call_Name_kw (Am I hg hm (by decide+kernel:bootBuiltins "max"=some (.builtin "max")) ?_)
 refine callWith_kw (he:=h2) (hplain:=h3) (jK ((cU he lZ h1) pos pins s σ H (fun vs H1=>match vs with|[x]=>aev X.K sp Q x H1|_=>False) I h) fun us s1 ⟨vs,H1,I1,r1,q1⟩=>kws_cons ?_)
 match vs,r1,q1 with
 |[],_,q1=>exact q1.elim
 |_::_::_,_,q1=>exact q1.elim
 |[w0],r1,q1=>
 obtain⟨l,xs,kf,Iv,rfl,hv,hne,hs,hk,hq⟩:=(show aev X.K sp Q w0 H1 from q1)
 have eus:=Vals.aif r1
 subst eus
 refine jK ((iZ hgx hmx (v:=V.ref f) rfl hd) pins s1 σ H1 (fun v H'=>v=.ref f/\H'=H1) I1 ⟨rfl,rfl⟩) fun u s2 ⟨v,H',I2,rv,e1,e2⟩=>?_
 subst e1 e2
 obtain rfl:u=Value.ref f:=rv
 refine kws_nil ?_
 have key:(backToKw pos (keywordEach [⟨some "key",Expr.Name x kp2,kp⟩] X.env)).filterMap (·.1)=[Str.ofString "key"]:=rfl
 rw[key]
 refine abW Iv kf hc I2 hv hs hne (fun i y hy more s3 u H3 hv3 I3 ru=>?_) fun i y u s3 H3 hy ru fm hv3 I3=>⟨y,H3,I3,ru,hq i y H3 hy fm hv3⟩
 exact aeu F hr.in1 hb I3 (.cons ru .nil) (hk i y H3 hy hv3)
theorem Zr{e:Expr}{te tb:TE}{params:Arguments}{body:Expr}{scope:Scope}{x:Str}{caps:List (Str×Nat)}{uG kp p pos:Pos}{c P:Addr}(hc:X.calm=true)(hr:X.A.depth<recursionLimit)(he:PE X e te)
 (hg:Gl X "max")(hm:X.mg "max"=none)(hcode:X.env.code=.ref c)(C:W.CodeHd X.base c P)(hb:X.base.BuiltinsAt X.mg P)(hdef:defaultsOf params X.env=([],[]))
 (ok:O6 X.N X.env.scope scope x caps)
 (hbind:∀(pm cd ct:Value)(cl:List (Str×Addr))(u:Value),bindArgs (W.kla_fn "<lambda>" (X.env.qual++"<lambda>") params body scope cl pm cd ct) ⟨[u],[]⟩=pure [(x,u)])
 (hbody:∀(s:Shared)(H:Hp)(L f:Addr)(cd:Value)(cl:List (Str×Addr)),PE (X.lam s H (x::caps.map (·.1)) (JG scope L cl (X.env.qual++"<lambda>") f cd)) body tb)
 (h1:starEach [e] X.env=(false,eval e X.env)::starEach [] X.env:=by rfl)(h2:backTo pos (starEach [e] X.env)=(false,eval e X.env)::backTo pos (starEach [] X.env):=by rfl)(h3:(backTo pos (starEach [e] X.env)).any (·.1)=false:=by rfl):
 PE X (.Call (.Name "max" p) [e] [⟨some "key",.Lambda params body scope uG,kp⟩] pos) (XM X.K P uG (X.env.qual++"<lambda>") caps te tb):=by
 intro pins s σ H Q I h
 refine wpAny_Call_Name_kw (Am I hg hm (by decide+kernel:bootBuiltins "max"=some (.builtin "max")) ?_)
 refine callWith_kw (he:=h2) (hplain:=h3) (jK ((cU he lZ h1) pos pins s σ H (fun vs H1=>match vs with|[x]=>aew X.K P uG (X.env.qual++"<lambda>") caps tb σ Q x H1|_=>False) I h) fun us s1 ⟨vs,H1,I1,r1,q1⟩=>kws_cons ?_)
 match vs,r1,q1 with
 |[],_,q1=>exact q1.elim
 |_::_::_,_,q1=>exact q1.elim
 |[w0],r1,q1=>
 obtain⟨l,rfl,tb0,rest⟩:=(show aew X.K P uG (X.env.qual++"<lambda>") caps tb σ Q w0 H1 from q1)
 have eus:=Vals.aif r1
 subst eus
 have hfree:∀y∈scope.names,y.2=.free->∃d,X.env.cells.lookup y.1=some d:=fun y hy e=>by
  rcases ok.free y hy e with k|k
  ·exact I1.ok.has _ (.inl k)
  ·exact I1.ok.has _ (.inr k)
 have fin:∀(f:Addr)(d:Addr)(ct:Value)(H2:Hp)(s2:Shared),xP H2 P uG (X.env.qual++"<lambda>")->Cr P H1 H2->H2 d=some (qU d (X.env.qual++"<lambda>"))->Inv X (pins++[(f,JF X params body scope (.ref d) ct)]) σ H2 s2->
    wpAny (model X.prog X.w) X.A (call (.builtin "max") [.ref l] [(Str.ofString "key",.ref f)]) (EP X pins σ Q) X.xe s2:=fun f d ct H2 s2 t2 g2 hd I2=>by
  obtain⟨xs,kf,Iv,hv,hkeep,hne,hs2,hk2,hq2⟩:=rest H2 t2 g2
  refine abW Iv kf hc I2 hv hs2 hne (fun i y hy more s3 u H3 hv3 I3 ru=>?_) fun i y u s3 H3 hy ru fm hv3 I3=>⟨y,H3,I3.rY,ru,hq2 i y H3 hy fm hv3⟩
  obtain⟨hrec,_⟩:=(show jQ X.prog X.w H3 s3.heap d (qU d (X.env.qual++"<lambda>"))from I3.hok d _ (hkeep d H3 hd hv3))
  exact Tn (f:=f) (ct:=ct) (cd:=.ref d) I3 hc hr ok (List.mem_append_left _ (List.mem_append_right _ (List.mem_singleton.mpr rfl))) hrec (fun pm cl u=>hbind pm (.ref d) ct cl u) (fun s H L cl=>hbody s H L f (.ref d) cl) ru (hk2 i y H3 hy hv3)
 have key:(backToKw pos (keywordEach [⟨some "key",Expr.Lambda params body scope uG,kp⟩] X.env)).filterMap (·.1)=[Str.ofString "key"]:=rfl
 rcases tb0 with e0|⟨d,e0,ed⟩
 ·refine Cq I1 hcode C e0 True.intro hfree hb hdef (fun f d ct s2 _ hn I2=>kws_nil ?_) (fun f cv ct s2 hcv _=>nomatch hcv)
  rw[key]
  refine fin f d ct _ s2 (.inr ⟨d,?_,aG⟩) (fun b o eb nb=>?_) aG I2
  ·rw[aH (aW e0 hn),aG]
   rfl
  ·rw[aH (aW eb hn),aH nb]
   exact eb
 ·have hit:codeAmong uG (#[rawInt uG.line,rawInt uG.col,Value.ref d]:Array Value).toList=some (.ref d):=codeAmong_snoc (pos:=uG) (c:=.ref d) [] True.intro rfl
  refine Cq I1 hcode C e0 (TriplesOk_snoc _ _ _ [] True.intro) hfree hb hdef (fun f d2 ct s2 hcv _ _=>?_) (fun f cv ct s2 hcv I2=>kws_nil ?_)
  ·rw[hit]at hcv
   cases hcv
  ·rw[hit]at hcv
   cases hcv
   rw[key]
   exact fin f d ct H1 s2 (.inr ⟨d,e0,ed⟩) (fun _ _ eb _=>eb) ed I2
end
end L2
end
section
namespace L2
open PySem PySem.Spec PyProof.Rows
section
variable{X:Cx}
def aex(K:W.Frag):V->List V->Hp->VK->Prop:=fun x xs H Q=>∃(a:Addr)(ys:List V)(y:V)(ds:List PyData)(d:PyData)(j:Nat)(e:PyData),x=.ref a/\xs=[y]/\cY K H a ys/\Gv K H ys ds/\Dp K H y d/\
 PyData.canLayAll0 ds=true/\d.canLay0=true/\d.depth<=32/\ds[j]?=some e/\PyData.eqv e d=true/\(∀(m:Nat)(e':PyData),m<j->ds[m]?=some e'->PyData.eqv e' d=false)/\Q (.int (j:Nat)) H
theorem Zt(hu:X.A.units+64<cLine):MtR X "list.index" (aex X.K):=by
 intro pins s σ H x xs v us Q I rx rxs h
 obtain⟨a,ys,y,ds,d,j,e,rfl,rfl,hs,hds,hd,cs,c,dp,he,heq,hno,q⟩:=h
 cases rx
 cases rxs with
 |cons ry rt=>
  rename_i uy ut
  cases rt
  obtain⟨its,rv,⟨⟨cls,dd,data,sl⟩,n,ho,hc,hdn,hdt⟩,hlen⟩:=I.list hs
  simp only at hc hdt
  subst hc hdt
  obtain⟨as,r1⟩:=Dp.readsAll I ds ys its hds rv
  obtain⟨bs,r2⟩:=Dp.reads I d y uy hd ry
  have hm:=SeqAt.readsAll_map ds its as cs r1
  have at_:∀(m:Nat)(u:Value),its[m]?=some u->ds[m]?=some (SeqAt.readOf s.heap u):=fun m u hu=>by
   rw[<-hm,List.getElem?_map,hu]
   rfl
  have hl:its.length=ds.length:=by rw[<-hm,List.length_map]
  obtain⟨hjd,_⟩:=List.getElem?_eq_some_iff.mp he
  have hj:j<its.toArray.size:=by rw[List.size_toArray,hl];exact hjd
  have hsl:=sizeLine_eq
  have hvl:=rv.length
  refine call_meets PySem.F.slot_list_index ⟨_,ho,rfl⟩ PySem.F.entry_list_index (PySem.F.args_list_index_2 _ _)
   (SeqAt.list_indexAt a its.toArray n dd sl uy (fun u=>PyData.eqv (SeqAt.readOf s.heap u) d) j hj (by rw[List.size_toArray]at hj;omega) ?_ ?_) ⟨ho,SeqAt.items_eqAt (by simpa using r1) r2 cs c (by
     have:=Nat.min_le_right (PyData.depthAll ds) d.depth
     omega),?_⟩
  ·have hj':j<its.length:=by simpa using hj
   have e1:=at_ j its[j] (List.getElem?_eq_getElem hj')
   rw[he]at e1
   have e1:=Option.some.inj e1
   show PyData.eqv (SeqAt.readOf s.heap its.toArray[j]) d=true
   have e2:its.toArray[j]=its[j]:=by simp
   rw[e2,<-e1]
   exact heq
  ·intro m hm' hmj
   have hm2:m<its.length:=by simpa using hm'
   have e1:=at_ m its[m] (List.getElem?_eq_getElem hm2)
   show PyData.eqv (SeqAt.readOf s.heap its.toArray[m]) d=false
   have e2:its.toArray[m]=its[m]:=by simp
   rw[e2]
   exact hno m _ hmj e1
  ·exact⟨.int (j:Nat),H,I.tok _,⟨_,rfl⟩,q⟩
theorem aey{prog:Program}{w:World}{A:Around}{E:Value->Shared->Prop}{s:Shared}{d:Addr}{o:Obj}{es:Array DictEntry}{ep:Nat}{Q:Value->Shared->Prop}(hd:(d==sysModules)=false)(ho:s.heap.get? d=some o)(hc:o.ExactDict)(hdat:o.data=.dict es ep)(hfit:(es.size:Int)<2^63)
 (h:Q (.int es.size (s.toks+1)) { s with toks:=s.toks+1+1 }):wpAny (model prog w) A (call (.builtin "len") [.ref d]) Q E s:=by
 refine Calls.call_function_entry kind_len plain_len entry_len (args_len1 _) ?_
 unfold Builtin.«len»
 refine wpAny_bind (m:=oneArg "len" _) (wpAny_pure ?_)
 have ty:s.TypeIs (.ref d) "dict":=⟨o,ho,hc.1⟩
 have meets:MeetsIn prog w (Builtin.«dict.__len__» ⟨[.ref d],[]⟩) (fun _ R s=>s.heap.get? d=some o/\R (.ok (.ret (.int es.size s.toks))) { s with toks:=s.toks+1 }):=
  .of_wp fun A R s ⟨ho,h⟩=>by
   show wpAny _ _ (dictSize d >>= _) _ _ s
   unfold dictSize
   refine wpAny_bind (wpAny_bind (wpAny_dictEntries ho hdat (wpAny_pure ?_)))
   show wpAny _ _ (Builtin.Dict.pendingCount d >>= _) _ _ s
   refine wpAny_bind (wpAny_pendingCount_other hd ?_)
   refine wpAny_ret_mkInt ?_
   rw[Nat.add_zero];exact h
 refine wpAny_bind (m:=callSpecial? (.ref d) (Str.ofString "__len__")) (wpAny_callSpecial?_slot (name:=Str.ofString "__len__") ty PySem.F.slot_dict_len
  (call_meetsIn PySem.F.slot_dict_len ty PySem.F.entry_dict_len (PySem.F.args_dict_len_1 _) meets ⟨ho,?_⟩))
 show wpAny _ _ _ _ _ { s with toks:=s.toks+1 }
 refine wpAny_bind (wpAny_holding (wpAny_pure ?_))
 refine wpAny_bind (wpAny_letGo ?_)
 show wpAny _ _ (if((es.size:Nat):Int)<0 then _ else _) _ _ _
 rw[if_neg (by omega)]
 show wpAny _ _ (if((es.size:Nat):Int)≥2^63 then _ else _) _ _ _
 rw[if_neg (by omega)]
 exact wpAny_bind (wpAny_mkInt (wpAny_pure ⟨_,rfl,h⟩))
theorem Zu:Xl X (.builtin "len") (fun xs H Q=>∃a kvs,xs=[V.ref a]/\H a=some (.dT kvs)/\Q (.int kvs.length) H):=by
 intro pins s σ H xs us Q I r h
 obtain⟨a,kvs,rfl,ha,q⟩:=h
 obtain⟨u,rfl,ru⟩:=vals1 r
 cases ru
 obtain⟨z,y,xs,r,o,es,ep,h1,h2,h3,h4,h5⟩:=(show jQ X.prog X.w H s.heap a (.dT kvs)from I.hok a _ ha)
 have e:es.size=kvs.length:=by
  rw[<-Array.length_toList,h4,List.length_map,<-Paired.length r]
 refine aey y h1 h2 h3 (by rw[e];rw[sizeLine_eq]at z;omega) ?_
 rw[e]
 exact⟨.int kvs.length,H,(I.tok _),⟨_,rfl⟩,q⟩
end
end L2
end
section
namespace Nq
open PySem PySem.Spec PyProof.Rows L2
abbrev Pr:=Kp279.Pair
structure Tab where
 c:Addr
 P:Addr
 pos:Pos
 q:Str
def dJ(Ts:List Tab)(H:Hp):Prop:=∀t∈Ts,xP H t.P t.pos t.q
def Gr(Ts:List Tab)(H H':Hp):Prop:=dJ Ts H'/\∀b o,H b=some o->(∀t∈Ts,b≠t.P)->H' b=some o
def abZ:HO->Prop
 |.Ot _=>False
 |_=>True
section
variable{Ts:List Tab}{H H1 H2:Hp}
theorem dJ.ne(tb:dJ Ts H){b:Addr}{o:HO}(e:H b=some o)(n:abZ o):∀t∈Ts,b≠t.P:=fun t ht z=>by
 subst z
 rcases tb t ht with h|⟨d,h,_⟩<;>rw[h]at e<;>cases e<;>exact n
theorem Gr.at(tb:dJ Ts H)(g:Gr Ts H H1){b:Addr}{o:HO}(e:H b=some o)(n:abZ o):H1 b=some o:=g.2 b o e (tb.ne e n)
theorem Gr.refl(tb:dJ Ts H):Gr Ts H H:=⟨tb,fun _ _ e _=>e⟩
theorem Gr.trans(a:Gr Ts H H1)(b:Gr Ts H1 H2):Gr Ts H H2:=⟨b.1,fun c o e n=>b.2 c o (a.2 c o e n) n⟩
theorem dJ.same(tb:dJ Ts H)(s:Same H H1):dJ Ts H1:=fun t ht=>by
 rcases tb t ht with h|⟨d,h,g⟩
 ·exact .inl (s _ _ h)
 ·exact .inr ⟨d,s _ _ h,s _ _ g⟩
theorem Gr.same(tb:dJ Ts H)(s:Same H H1):Gr Ts H H1:=⟨tb.same s,fun b o e _=>s b o e⟩
theorem Gr.none(g:Gr Ts H H1)(tb:dJ Ts H){b:Addr}(e:H1 b=Option.none):H b=Option.none:=by
 cases q:H b with
 |none=>rfl
 |some o=>
  by_cases n:∀t∈Ts,b≠t.P
  ·rw[g.2 b o q n]at e;cases e
  ·have⟨t,ht,z⟩:∃t∈Ts,b=t.P:=Classical.byContradiction fun w=>n fun t ht z=>w ⟨t,ht,z⟩
   subst z
   rcases g.1 t ht with h|⟨d,h,_⟩<;>rw[h]at e<;>cases e
theorem Same.upd(H:Hp){a:Addr}(o:HO)(h:H a=Option.none):Same H (upd H a o):=fun b u e=>by
 rw[aH (aW e h)];exact e
end
noncomputable def pF(x y:Int):List (Str×V):=[("x",.int x),("y",.int y)]
def aP(C:Addr)(H:Hp)(a:Addr)(z:Pr):Prop:=∃dx,H a=some (.ins C dx (pF z.x z.y))
theorem ang(x y:Int):(pF x y).lookup ("x":Str)=some (.int x):=by rfl
theorem anh(x y:Int):(pF x y).lookup ("y":Str)=some (.int y):=by
 show List.lookup ("y":Str) [(("x":Str),V.int x),("y",V.int y)]=_
 rw[List.lookup_cons,show(("y":Str)=="x")=false from by decide+kernel]
 rfl
theorem aP.gr{Ts:List Tab}{C:Addr}{H H1:Hp}{a:Addr}{z:Pr}(h:aP C H a z)(tb:dJ Ts H)(g:Gr Ts H H1):aP C H1 a z:=by
 obtain⟨dx,e⟩:=h
 exact⟨dx,g.at tb e True.intro⟩
def Sm(k:Nat)(z:Pr):Prop:=z.x<2^k/\z.y<2^k
theorem Sm.x{k:Nat}{z:Pr}(h:Sm k z):Bd k (z.x:Int):=Bd.nat h.1
theorem Sm.y{k:Nat}{z:Pr}(h:Sm k z):Bd k (z.y:Int):=Bd.nat h.2
theorem Sm.mono{j k:Nat}{z:Pr}(h:Sm j z)(hjk:j<=k):Sm k z:=⟨Nat.lt_of_lt_of_le h.1 (Nat.pow_le_pow_right (by decide) hjk),Nat.lt_of_lt_of_le h.2 (Nat.pow_le_pow_right (by decide) hjk)⟩
section
variable{X:Cx}{e:Expr}{te:TE}{pos:Pos}
def pxC(C:Addr)(Q:VK):VK:=fun v H1=>∃p z,v=.ref p/\aP C H1 p z/\Q (.int z.x) H1
def pyC(C:Addr)(Q:VK):VK:=fun v H1=>∃p z,v=.ref p/\aP C H1 p z/\Q (.int z.y) H1
def tPx(C:Addr)(te:TE):TE:=fun σ H Q=>te σ H (pxC C Q)
def tPy(C:Addr)(te:TE):TE:=fun σ H Q=>te σ H (pyC C Q)
theorem cC{C:Addr}(c:Cls X.K C)(n:jU X.K C "x")(he:PE X e te)(hb:attributeBase e "x" X.env (eval e X.env)=eval e X.env:=by rfl):PE X (.Attribute e "x" pos) (tPx C te):=by
 intro pins s σ H Q I h
 refine QM hb (jK (he pins s σ H _ I h) fun u s1 ⟨x,H1,I1,rx,p,z,ex,⟨dx,ea⟩,q⟩=>?_)
 subst ex
 obtain rfl:u=Value.ref p:=rx
 exact Aq I1 ea c n (ang _ _) fun u' s2 I2 ru=>⟨_,H1,I2,ru,q⟩
theorem cF{C:Addr}(c:Cls X.K C)(n:jU X.K C "y")(he:PE X e te)(hb:attributeBase e "y" X.env (eval e X.env)=eval e X.env:=by rfl):PE X (.Attribute e "y" pos) (tPy C te):=by
 intro pins s σ H Q I h
 refine QM hb (jK (he pins s σ H _ I h) fun u s1 ⟨x,H1,I1,rx,p,z,ex,⟨dx,ea⟩,q⟩=>?_)
 subst ex
 obtain rfl:u=Value.ref p:=rx
 exact Aq I1 ea c n (anh _ _) fun u' s2 I2 ru=>⟨_,H1,I2,ru,q⟩
end
def Q5(C:Addr):Sp:=fun vs H Q _=>∃(p dx:Addr)(x y:Int),vs=[.ref p,.int x,.int y]/\H p=some (.ins C dx [])/\∀H':Hp,H' p=some (.ins C dx (pF x y))->(∀b o,H b=some o->b≠p->H' b=some o)->Q .non H'
theorem aez{C:Addr}{H:Hp}{Q:VK}{z:Pr}(h:∀p H',Same H H'->H p=none->aP C H' p z->Q (.ref p) H'):
 ∀x dx,H x=none->H dx=none->dx≠x->Q5 C (.ref x::([.int z.x,.int z.y]++[])) (upd (upd H dx (.own x)) x (.ins C dx [])) (fun v H2=>v=.non/\Q (.ref x) H2) E0:=by
 intro x dx nx nd ne
 refine⟨x,dx,z.x,z.y,rfl,aG,fun H' e k=>⟨rfl,h x H' (Same.made nx nd k) nx ⟨dx,e⟩⟩⟩
section
variable{σ:L2.St}{H:Hp}{Q:VK}
theorem jf{i:Nat}{v:V}(e:σ[i]?=some (some v))(h:Q v H):ah4 i σ H Q:=⟨v,e,h⟩
theorem tE{v:V}(h:Q v H):tC v σ H Q:=h
theorem mj{r:R2}{ta tb:TE}(h:ta σ H fun x H1=>tb σ H1 fun y H2=>r x y H2 Q):tOp r ta tb σ H Q:=h
theorem m6{g:Int->Int->V}{i j:Int}(h:Q (g i j) H):rI0 g (.int i) (.int j) H Q:=⟨i,j,rfl,rfl,h⟩
theorem lJ{C:Int->Int->Prop}{g:Int->Int->V}{i j:Int}(c:C i j)(h:Q (g i j) H):rI C g (.int i) (.int j) H Q:=⟨i,j,rfl,rfl,c,h⟩
theorem jg{C a:Addr}{z:Pr}(p:aP C H a z)(h:Q (.int z.x) H):pxC C Q (.ref a) H:=⟨a,z,rfl,p,h⟩
theorem jh{C a:Addr}{z:Pr}(p:aP C H a z)(h:Q (.int z.y) H):pyC C Q (.ref a) H:=⟨a,z,rfl,p,h⟩
end
end Nq
end
section
namespace Nq
open PySem PySem.Spec PyProof.Rows L2
section
variable{σ:L2.St}{H:Hp}{Q:VK}{D:Ends}
theorem dj{t u:TS}(h:t { D with nx:=u D } σ H):ajW t u D σ H:=h
theorem gB{te:TE}{g:TG}(h:te σ H fun x H1=>g x σ H1 D.nx):ad7 te g D σ H:=h
theorem dw{i:Nat}{v:V}{Q:L2.St->Hp->Prop}(h:Q (σ.set i (some v)) H):zK i v σ H Q:=h
theorem iT{te:TE}(h:te σ H D.rt):ajX te D σ H:=h
theorem gJ{te:TE}(h:te σ H fun _ H1=>D.nx σ H1):aha te D σ H:=h
theorem m7{c:TT}{t u:TS}(h:c σ H fun b H1=>if b=true then t D σ H1 else u D σ H1):ajY c t u D σ H:=h
theorem fH(h:D.nx σ H):ag9 D σ H:=h
theorem eZ{t:TE}{Q:Bool->Hp->Prop}(h:t σ H fun x H'=>∃k,x=.bl k/\Q k H'):abp t σ H Q:=h
theorem m8{t:TE}{Q:Bool->Hp->Prop}(h:t σ H fun x H'=>∃k,x=.bl k/\Q k H'):tB t σ H Q:=h
theorem fj{t u:TT}{Q:Bool->Hp->Prop}(h:t σ H fun c H1=>if c=true then u σ H1 Q else Q false H1):ajT t u σ H Q:=h
theorem ji{t u:TT}{Q:Bool->Hp->Prop}(h:t σ H fun c H1=>if c=true then Q true H1 else u σ H1 Q):tOr t u σ H Q:=h
theorem fJ{t:TT}{Q:Bool->Hp->Prop}(h:t σ H fun c H1=>Q (!c) H1):ajU t σ H Q:=h
theorem fK{ta tb:TE}(h:ta σ H fun x H1=>∃c,x=.bl c/\if c=true then tb σ H1 Q else Q (.bl false) H1):ag8 ta tb σ H Q:=h
theorem jj{ta tb:TE}(h:ta σ H fun x H1=>∃c,x=.bl c/\if c=true then Q (.bl true) H1 else tb σ H1 Q):ajV ta tb σ H Q:=h
theorem dM{r r':R2}{ta tb tc:TE}(h:ta σ H fun x H1=>tb σ H1 fun y H2=>r x y H2 fun z H3=>∃k,z=.bl k/\(if k=true then tc σ H3 fun w' H4=>r' y w' H4 Q else Q (.bl false) H3)):abq r r' ta tb tc σ H Q:=h
theorem fL{i j:Int}(c:XH i j)(h:Q (.int (i*j)) H):rI XH (fun i j=> .int (i*j)) (.int i) (.int j) H Q:=⟨i,j,rfl,rfl,c,h⟩
theorem tG{i j:Int}{a b:Nat}(h1:Bd a i)(h2:Bd b j)(h3:a+b<=134217728):XH i j:=⟨a,b,h1,h2,h3⟩
theorem m9{r:V->Hp->VK->Prop}{ta:TE}(h:ta σ H fun x H1=>r x H1 Q):tUn r ta σ H Q:=h
theorem tH{g:Int->V}{i:Int}(h:Q (g i) H):rU g (.int i) H Q:=⟨i,rfl,h⟩
theorem nj{r:List V->Hp->VK->Prop}{t:TA}(h:t σ H fun vs H1=>r vs H1 Q):tCB r t σ H Q:=h
theorem fM{ta:TE}{tr:TA}{Q:List V->Hp->Prop}(h:ta σ H fun x H1=>tr σ H1 fun xs H2=>Q (x::xs) H2):Gu ta tr σ H Q:=h
theorem jk{Q:List V->Hp->Prop}(h:Q [] H):VB σ H Q:=h
theorem fO{sp:Sp}{wj:List V}{E:XK}{t:TA}(h:t σ H fun vs H1=>sp (vs++wj) H1 Q E):abw sp wj E t σ H Q:=h
theorem aeA{C:Addr}{sp:Sp}{wj:List V}{E:XK}{t:TA}(h:t σ H fun vs H1=>∀x dx,H1 x=none->H1 dx=none->dx≠x->sp (.ref x::(vs++wj)) (upd (upd H1 dx (.own x)) x (.ins C dx [])) (fun v H2=>v=.non/\Q (.ref x) H2) E):Ow C sp wj E t σ H Q:=h
def mkC(C:Addr)(Q:VK):List V->Hp->Prop:=fun vs H=>∀x dx,H x=none->H dx=none->dx≠x->Q5 C (.ref x::(vs++[])) (upd (upd H dx (.own x)) x (.ins C dx [])) (fun v H2=>v=.non/\Q (.ref x) H2) E0
theorem jl{C:Addr}{t:TA}(h:t σ H (mkC C Q)):Ow C (Q5 C) [] E0 t σ H Q:=h
theorem cG{C:Addr}{a b:Int}(z:Pr)(ea:a=z.x)(eb:b=z.y)(h:∀p H',Same H H'->H p=none->aP C H' p z->Q (.ref p) H'):mkC C Q [.int a,.int b] H:=by
 subst ea eb
 exact aez h
theorem jm{C:Addr}{te:TE}(h:te σ H (pxC C Q)):tPx C te σ H Q:=h
theorem jo{C:Addr}{te:TE}(h:te σ H (pyC C Q)):tPy C te σ H Q:=h
theorem jq{i j:Int}(h:Q (.bl (decide (i=j))) H):rEq (.int i) (.int j) H Q:=⟨rfl,by
 have e:decide (V.int i=V.int j)=decide (i=j):=by
  rw[decide_eq_decide]
  exact⟨fun z=>by injection z,fun z=>by rw[z]⟩
 rw[e];exact h⟩
theorem jr{i j:Int}(h:Q (.bl (!decide (i=j))) H):rNe (.int i) (.int j) H Q:=⟨rfl,by
 have e:decide (V.int i=V.int j)=decide (i=j):=by
  rw[decide_eq_decide]
  exact⟨fun z=>by injection z,fun z=>by rw[z]⟩
 rw[e];exact h⟩
theorem XQ(a b:Nat):(if(a:Int)-(b:Int)<0 then -((a:Int)-(b:Int))else(a:Int)-(b:Int))=((Kp279.gap a b:Nat):Int):=by
 unfold Kp279.gap
 split<;>split<;>omega
theorem aiw(z:Pr):(!Kp284.ok z)=(decide ((1000000:Int)<(z.x:Int))||decide ((1000000:Int)<(z.y:Int))):=by
 have e:Kp284.ok z=(decide (z.x<=1000000) && decide (z.y<=1000000)):=rfl
 rw[e,Bool.eq_iff_iff]
 simp only[Bool.not_eq_true',Bool.and_eq_false_iff,decide_eq_false_iff_not,Bool.or_eq_true,decide_eq_true_iff]
 omega
theorem abs_eq(a:Int):(if a<0 then -a else a)=(a.natAbs:Int):=by split<;>omega
theorem cH{i:Int}(h:i.natAbs<2^64):Bd 64 i:=h
theorem aL{a b c:Nat}(h:a<2^b)(g:b<=c):a<2^c:=Nat.lt_of_lt_of_le h (Nat.pow_le_pow_right (by decide) g)
theorem uU{n a b:Nat}{y z:Pr}(hn:n<=60)(hy:Sm a y)(hz:Sm b z):Sm (a+b+7) (Kp279.times n y z):=by
 have e:(2:Nat)^(a+b+7)=128*(2^a*2^b):=by rw[Nat.pow_add,Nat.pow_add];omega
 have h1:y.x*z.x<=2^a*2^b:=Nat.mul_le_mul (Nat.le_of_lt hy.1) (Nat.le_of_lt hz.1)
 have h2:y.y*z.y<=2^a*2^b:=Nat.mul_le_mul (Nat.le_of_lt hy.2) (Nat.le_of_lt hz.2)
 have h3:y.x*z.y<=2^a*2^b:=Nat.mul_le_mul (Nat.le_of_lt hy.1) (Nat.le_of_lt hz.2)
 have h4:y.y*z.x<=2^a*2^b:=Nat.mul_le_mul (Nat.le_of_lt hy.2) (Nat.le_of_lt hz.1)
 have h5:n*y.y*z.y<=60*(2^a*2^b):=by
  rw[Nat.mul_assoc]
  exact Nat.mul_le_mul hn h2
 have h6:0<(2:Nat)^a*2^b:=Nat.mul_pos (Nat.pow_pos (by decide)) (Nat.pow_pos (by decide))
 generalize (2:Nat)^a*2^b=w at*
 refine⟨?_,?_⟩
 ·show y.x*z.x+n*y.y*z.y<_
  omega
 ·show y.x*z.y+y.y*z.x<_
  omega
theorem Cu{n b:Nat}{z:Pr}(hn:n<=60)(hz:Sm b z):∀j:Nat,Sm ((b+7)*j+1) (Kp279.power n z j)
 |0=>by
  rw[Nat.mul_zero]
  exact⟨(by decide:1<2^(0+1)),(by decide:0<2^(0+1))⟩
 |j+1=>by
  have e:(b+7)*(j+1)+1=((b+7)*j+1)+b+7:=by rw[Nat.mul_succ];omega
  rw[e]
  exact uU hn (Cu hn hz j) hz
theorem aP.same{C:Addr}{H H1:Hp}{a:Addr}{z:Pr}(h:aP C H a z)(s:Same H H1):aP C H1 a z:=let⟨dx,e⟩:=h;⟨dx,s _ _ e⟩
end
end Nq
end
section
namespace Nq
open PySem PySem.Spec PyProof.Rows L2
def lcN(Pv:Addr->Nat->List V->Hp->Prop)(D:Addr)(i:Nat):Hp->Prop:=fun H=>∃acc,acc.length<=i/\H D=some (.lst acc)/\Pv D i acc H
def lcA(Pv:Addr->Nat->List V->Hp->Prop)(D:Addr)(i:Nat):VK:=fun y H4=>∃acc,H4 D=some (.lst acc)/\acc.length<sizeLine/\lcN Pv D (i+1) (upd H4 D (.lst (acc++[y])))
theorem qL{Pv:Addr->Nat->List V->Hp->Prop}{D:Addr}{i:Nat}{acc:List V}{y:V}{H4:Hp}(hi:i<=1000000)(hl:acc.length<=i)(e:H4 D=some (.lst acc))(p:Pv D (i+1) (acc++[y]) (upd H4 D (.lst (acc++[y])))):lcA Pv D i y H4:=
 ⟨acc,e,by rw[sizeLine_eq];omega,acc++[y],by rw[List.length_append];exact Nat.succ_le_succ hl,aG,p⟩
def ahr(R:It->Hp->Prop):List V->Hp->Prop:=fun vs H1=>∃j:Int,vs=[.int j]/\-(2^62)<=j/\j<2^62/\R (Ve 0 j.toNat) H1
def ahs(R:It->Hp->Prop):List V->Hp->Prop:=fun vs H1=>∃i j:Int,vs=[.int i,.int j]/\(-(2^62)<=i/\i<2^62/\-(2^62)<=j/\j<2^62)/\R (Ve i (j-i).toNat) H1
def lcC(g:TG)(tt:TT)(te:TE)(vs:List Nat)(σ:L2.St)(Q:VK):It->Hp->Prop:=fun J H1=>∀D,H1 D=none->∃W:Nat->Nat->Hp->Prop,(∃m,W 0 m (upd H1 D (.lst [])))/\∀i m H,W i m H->
 (J.stop i H/\Q (.ref D) H)\/(J.go i H/\∃Nx:Hp->Prop,(∀H',Nx H'->∃m',m'<m/\W (i+1) m' H')/\∀x H',J.yld i H x H'->g x (wipe σ vs) H' fun σ2 H2=>wipe σ2 vs=wipe σ vs/\tt σ2 H2 fun b H3=>
   if b=true then te σ2 H3 fun y H4=>∃acc,H4 D=some (.lst acc)/\acc.length<sizeLine/\Nx (upd H4 D (.lst (acc++[y])))else Nx H3)
def aeB(g:TG)(tb:TS)(D:Ends)(σ:L2.St):It->Hp->Prop:=fun J H1=>∃W:Nat->Nat->L2.St->Hp->Prop,(∃m,W 0 m σ H1)/\∀i m σ H,W i m σ H->
 (J.stop i H/\D.nx σ H)\/(J.go i H/\∃N:L2.St->Hp->Prop,(∀σ' H',N σ' H'->∃m',m'<m/\W (i+1) m' σ' H')/\∀x H',J.yld i H x H'->g x σ H' fun σ2 H2=>tb { D with nx:=N,ct:=N,bk:=D.nx } σ2 H2)
section
variable{σ:L2.St}{H:Hp}{Q:VK}{D:Ends}{R:It->Hp->Prop}
theorem wz{wi:TI}{g:TG}{tt:TT}{te:TE}{vs:List Nat}(h:wi σ H (lcC g tt te vs σ Q)):tLc wi g tt te vs σ H Q:=h
theorem Ek{Q:Bool->Hp->Prop}(h:Q true H):akh σ H Q:=h
theorem ab0{K:W.Frag}{P:Addr}{pos:Pos}{q:Str}{caps:List (Str×Nat)}{te tb:TE}(h:te σ H (aer K P pos q caps tb σ Q)):XJ K P pos q caps te tb σ H Q:=h
theorem Av{wi:TI}{g:TG}{tb:TS}(h:wi σ H (aeB g tb D σ)):aj1 wi g tb D σ H:=h
theorem XR{ta:TA}(h:ta σ H (ahr R)):ahd ta σ H R:=h
theorem Cv{ta:TA}(h:ta σ H (ahs R)):ahe ta σ H R:=h
theorem Tq{j:Int}(h1:-(2^62)<=j)(h2:j<2^62)(h:R (Ve 0 j.toNat) H):ahr R [.int j] H:=⟨j,rfl,h1,h2,h⟩
theorem xQ{i j:Int}(h1:-(2^62)<=i/\i<2^62/\-(2^62)<=j/\j<2^62)(h:R (Ve i (j-i).toNat) H):ahs R [.int i,.int j] H:=⟨i,j,rfl,h1,h⟩
end
theorem sE{lo:Int}{n j:Nat}{tt:TT}{te:TE}{vs:List Nat}{σ:L2.St}{H1:Hp}{Q:VK}(Pv:Addr->Nat->List V->Hp->Prop)(hw:∀v,wipe ((wipe σ vs).set j (some v)) vs=wipe σ vs)
 (h0:∀D,H1 D=none->Pv D 0 [] (upd H1 D (.lst [])))
 (hs:∀D i acc H,i<n->acc.length<=i->H D=some (.lst acc)->Pv D i acc H->tt ((wipe σ vs).set j (some (.int (lo+i)))) H fun b H3=>if b=true then te ((wipe σ vs).set j (some (.int (lo+i)))) H3 (lcA Pv D i)else lcN Pv D (i+1) H3)
 (hd:∀D acc H,acc.length<=n->H D=some (.lst acc)->Pv D n acc H->Q (.ref D) H):lcC (zK j) tt te vs σ Q (Ve lo n) H1:=by
 intro D hD
 refine⟨fun i m H=>m=n-i/\i<=n/\lcN Pv D i H,⟨n,by simp,Nat.zero_le _,[],Nat.le_refl _,aG,h0 D hD⟩,?_⟩
 rintro i m H ⟨rfl,hi,acc,hl,e,p⟩
 by_cases c:i<n
 ·refine .inr ⟨c,lcN Pv D (i+1),fun H' q=>⟨n-(i+1),by omega,rfl,c,q⟩,fun x H' y=>?_⟩
  obtain⟨e1,e2⟩:=y
  subst e1 e2
  exact⟨hw _,hs D i acc _ c hl e p⟩
 ·have ei:i=n:=by omega
  subst ei
  exact .inl ⟨Nat.le_refl _,hd D acc H hl e p⟩
theorem ab1{Ts:List Tab}{t:Tab}{H H' H2:Hp}(ht:t∈Ts)(hu:∀t'∈Ts,t'.P=t.P->t'=t)(tb:dJ Ts H)(s:Same H H')(t2:xP H2 t.P t.pos t.q)(g:Cr t.P H' H2):Gr Ts H H2:=by
 have tb':=tb.same s
 refine⟨fun t' ht'=>?_,fun b o e n=>g b o (s b o e) (n t ht)⟩
 by_cases c:t'.P=t.P
 ·rw[hu t' ht' c];exact t2
 ·rcases tb' t' ht' with h|⟨d,h,e⟩
  ·exact .inl (g _ _ h c)
  ·exact .inr ⟨d,g _ _ h c,g _ _ e (tb'.ne e True.intro t ht)⟩
theorem Aw{n y:Nat}(hn:n<=60)(hy:y<=1000):Sm 64 (Kp279.nearest n y):=by
 obtain⟨r,hr⟩:=Ns.vf (n*y*y)
 have hle:n*y*y<=60*1000*1000:=Nat.mul_le_mul (Nat.mul_le_mul hn hy) hy
 have h1:=hr.qW
 rw[Ns.Ah hr (by omega)]
 split
 ·exact⟨aL (b:=26) (by show r<_;omega) (by decide),aL (b:=10) (by show y<_;omega) (by decide)⟩
 ·exact⟨aL (b:=27) (by show r+1<_;omega) (by decide),aL (b:=10) (by show y<_;omega) (by decide)⟩
end Nq
end
section
namespace Nq
open PySem PySem.Spec PyProof.Rows L2
structure Cw(K:W.Frag)(a:Addr)(es:List DictEntry):Prop where
 at_:∃(ep:Nat),K.lookup a=some { cls:=.type "dict",data:=.dict es.toArray ep }
 ne:(a==sysModules)=false
 keysOk:∀e∈es,∃i t,e.key=.int i t/\e.hash=hashInt i
noncomputable def xR(es:List DictEntry)(i:Int):Option Value:=(es.find? fun e=>Value.isInt i e.key).map (·.val)
section
variable{X:Cx}{pins:List (Addr×Obj)}{σ:L2.St}{H:Hp}{s:Shared}
theorem Cw.mapOf{a:Addr}{es:List DictEntry}(d:Cw X.K a es)(I:Inv X pins σ H s):s.heap.MapOf (intKind X.prog X.w) a (xR es):=by
 obtain⟨ep,e⟩:=d.at_
 refine⟨_,es.toArray,ep,I.RN a _ e,⟨rfl,rfl,rfl⟩,rfl,fun en hen=>?_,fun k=>?_⟩
 ·obtain⟨i,t,h1,h2⟩:=d.keysOk en (by simpa using hen)
  exact⟨i,by rw[h1];simp[intKind,Value.isInt],h2⟩
 ·unfold findBy xR
  rw[List.find?_toArray]
  rfl
end
def dgK(K:W.Frag)(Q:VK)(x y:V):Hp->Prop:=fun H2=>∃a es i v u,x=.ref a/\Cw K a es/\y=.int i/\xR es i=some u/\RelV v u/\Q v H2
def aeC(K:W.Frag)(Q:VK)(x y:V):Hp->Prop:=fun H2=>∃a es i,x=.ref a/\Cw K a es/\y=.int i/\Q (.bl (xR es i).isSome) H2
def ab2(K:W.Frag)(td ty:TE):TE:=fun σ H Q=>td σ H fun x H1=>ty σ H1 fun y H2=>dgK K Q x y H2
def aht(K:W.Frag)(ty td:TE):TE:=fun σ H Q=>ty σ H fun y H1=>td σ H1 fun x H2=>aeC K Q x y H2
section
variable{X:Cx}{o i:Expr}{td ty:TE}{pos:Pos}
theorem nJ(ho:PE X o td)(hi:PE X i ty)(hs:ail i):PE X (.Subscript o i pos) (ab2 X.K td ty):=by
 intro pins s σ H Q I h
 refine XC PySem.F.slot_dict_getitem.lookup hs (jK (ho pins s σ H _ I h) fun u s1 ⟨x,H1,I1,rx,q1⟩=>jK (hi pins s1 σ H1 _ I1 q1) fun iv s2 ⟨y,H2,I2,ry,a,es,j,v,u2,ex,d,ey,l,rv,q2⟩=>?_)
 subst ex ey
 obtain rfl:u=Value.ref a:=rx
 obtain⟨t,rfl⟩:=(show∃t,iv=Value.int j t from ry)
 have m:=d.mapOf I2
 exact⟨m.typeIs,wpAny_getItem_of (knd:=intKind X.prog X.w) (by simp[intKind,Value.isInt]) m l ⟨v,H2,I2.tok _,rv,q2⟩⟩
theorem zy(hi:PE X i ty)(ho:PE X o td):PC X .In i o (aht X.K ty td):=by
 intro pins s σ H Q I h
 refine jK (hi pins s σ H _ I h) fun iv s1 ⟨y,H1,I1,ry,q1⟩=>jK (ho pins s1 σ H1 _ I1 q1) fun u s2 ⟨x,H2,I2,rx,a,es,j,ex,d,ey,q2⟩=>?_
 subst ex ey
 obtain rfl:u=Value.ref a:=rx
 obtain⟨t,rfl⟩:=(show∃t,iv=Value.int j t from ry)
 exact wpAny_in_of (knd:=intKind X.prog X.w) (by simp[intKind,Value.isInt]) d.ne (d.mapOf I2) ⟨.bl _,H2,I2.tok _,rfl,q2⟩
end
structure FnAt(X:Cx)(f:Addr)(sp:Sp):Prop where
 ok:∃k fd ps,bf X.prog X.w X.K X.mg X.base cV k f fd ps sp/\lU k X.A/\Binds X.K fd ps []
 kp:W.keepIn X.K (.ref f)=true
def aix(X:Cx)(i:Nat)(t:TA):TE:=fun σ H Q=>∃f sp,σ[i]?=some (some (.ref f))/\FnAt X f sp/\t σ H fun vs H1=>sp vs H1 Q E0
section
variable{X:Cx}{e:Expr}{es:List Expr}{t:TA}{x:Str}{p pos:Pos}
theorem uV(i:Nat)(hN:X.N[i]?=some x)(hv:Vis X.env.scope x)(ha:PA X (e::es) t)(hd:(x==("__debug__":Str))=false:=by decide)(hcd:(x==("__classdict__":Str))=false:=by decide)
 (he:starEach (e::es) X.env=(false,eval e X.env)::starEach es X.env:=by rfl)(hpl:(backTo pos (starEach es X.env)).any (·.1)=false:=by rfl):PE X (.Call (.Name x p) (e::es) [] pos) (aix X i t):=by
 intro pins s σ H Q I h
 obtain⟨f,sp,hf,F,h⟩:=h
 obtain⟨k,fd,ps,ok,hr,hb⟩:=F.ok
 refine wpAny_Call_Name_kw (jK ((abe (i:=i) hN hv hd hcd) pins s σ H (fun v H'=>v=.ref f/\H'=H) I ⟨.ref f,hf,rfl,rfl⟩) fun u s0 ⟨v,H',I0,rv,e1,e2⟩=>?_)
 subst e1 e2
 obtain rfl:u=Value.ref f:=rv
 refine W.callWith_K (h₀:=X.base) I.ok.mod.kin F.kp (jK (ha pos pins s0 σ H' _ I0 h) fun us s1 ⟨vs,H1,I1,r,q⟩=>⟨I1.RN,?_⟩) he hpl
 exact QS (wj:=[]) (ds:=[]) ok hr hb .nil pA I1 r (by rw[List.append_nil];exact q)
end
def TupIn(K:W.Frag)(a:Addr)(xs:List V):Prop:=∃(o:Obj)(its:Array Value)(n:Nat),K.lookup a=some o/\o.cls=.type "tuple"/\o.data=.seq its n/\its.size<=sizeLine/\Vals xs its.toList
theorem TupIn.sq{K:W.Frag}{a:Addr}{xs:List V}(h:TupIn K a xs)(H:Hp):Ov K H a xs:=.inr h
def cI(K:W.Frag)(tp:List Addr)(q:Nat)(xs:List V):Prop:=∃a,tp[q]?=some a/\TupIn K a xs
def jD(K:W.Frag)(d:Addr)(lo:Nat)(tp:List Addr):Prop:=∃es,Cw K d es/\∀i:Nat,xR es (i:Int)=if lo<=i then(tp[i-lo]?).map Value.ref else none
noncomputable def aks(k:Int)(t:Tok)(a:Addr):DictEntry:={ hash:=hashInt k,key:=.int k t,val:=.ref a }
inductive Cy:Nat->List DictEntry->List Addr->Prop
 |nil (lo:Nat):Cy lo [] []
 |cons {lo:Nat} {t:Tok} {a:Addr} {es:List DictEntry} {tp:List Addr}:Cy (lo+1) es tp->Cy lo (aks (lo:Int) t a::es) (a::tp)
theorem Cy.look{lo:Nat}{es:List DictEntry}{tp:List Addr}(h:Cy lo es tp):∀i:Nat,xR es (i:Int)=if lo<=i then(tp[i-lo]?).map Value.ref else none:=by
 induction h with
 |nil lo=>
  intro i
  split<;>rfl
 |@cons lo t a es tp _ ih=>
  intro i
  unfold xR at ih⊢
  by_cases c:i=lo
  ·subst c
   rw[List.find?_cons_of_pos (by show Value.isInt (i:Int) (.int (i:Int) t)=true;simp[Value.isInt])]
   simp[aks]
  ·rw[List.find?_cons_of_neg (by show¬Value.isInt (i:Int) (.int (lo:Int) t)=true;simp[Value.isInt];omega),ih i]
   by_cases c2:lo<=i
   ·rw[if_pos (by omega),if_pos c2]
    obtain⟨m,hm⟩:∃m,i-lo=m+1:=⟨i-lo-1,by omega⟩
    rw[hm,show i-(lo+1)=m by omega]
    rfl
   ·rw[if_neg (by omega),if_neg c2]
theorem Cy.keys{lo:Nat}{es:List DictEntry}{tp:List Addr}(h:Cy lo es tp):∀e∈es,∃i t,e.key=.int i t/\e.hash=hashInt i:=by
 induction h with
 |nil=>intro e he;cases he
 |cons _ ih=>
  intro e he
  rcases List.mem_cons.mp he with z|z
  ·subst z
   exact⟨_,_,rfl,rfl⟩
  ·exact ih e z
theorem jD.mk'{K:W.Frag}{d lo:Nat}{es:List DictEntry}{tp:List Addr}{ep:Nat}(l:K.lookup d=some { cls:=.type "dict",data:=.dict es.toArray ep })(n:(d==sysModules)=false)(h:Cy lo es tp):jD K d lo tp:=
 ⟨es,⟨⟨ep,l⟩,n,h.keys⟩,h.look⟩
end Nq
end
section
namespace Nq
open PySem PySem.Spec PyProof.Rows L2
structure ab3(mg:Str->Option Value)(base:Heap)(fd:FuncData)(t:Tab):Prop where
 code:fd.code=.ref t.c
 hd:W.CodeHd base t.c t.P
 bm:base.BuiltinsAt mg t.P
section
variable{P:Program}{w:World}{K:W.Frag}{mg:Str->Option Value}{base:Heap}
theorem okC{x qual:Str}{st:Stmt}{f c:Addr}{fd:FuncData}{N ps:List Str}{k:Nat}{sp:Sp}(F:Fun K x qual st f fd)(hc:fd.code=.ref c)(S:aD N ps (ao st))(len:∀vs H Q E,sp vs H Q E->vs.length=ps.length)
 (hbody:∀(A:Around)(outer:List Env)(s:Shared)(H:Hp)(vs:List V)(Q:VK)(E:XK),lU k (A.deeper (envOfC qual (ao st) s.heap.objs.size f (.ref c)))->sp vs H Q E->
   ∃t,Vr (SX cV P w K mg base N qual (ao st) f (.ref c) A outer s H E).nox (qZ st) t/\t { nx:=fun _ H'=>Q .non H',rt:=Q } (start N vs) H):bf P w K mg base cV (k+1) f fd ps sp:=by
 obtain⟨oc,od,kV,doc,pm,an,cdv,ct,osl,rfl,lk,hcd⟩:=F.ex
 have e:cdv=.ref c:=hc
 subst e
 refine ahg lk hcd S len fun A outer s H vs Q E hr hsp=>?_
 obtain⟨t,h,q⟩:=hbody A outer s H vs Q E hr hsp
 exact⟨t,h.nox,q⟩
theorem blk{N:List Str}{sc scope:Scope}{own:List (Str×Nat)}(h:O2 N sc scope own):O2 N sc scope own:=h
theorem aiy{N:List Str}{sc scope:Scope}{x:Str}{caps:List (Str×Nat)}(h:O6 N sc scope x caps):O6 N sc scope x caps:=h
end
end Nq
end
section
namespace Nq
open PySem PySem.Spec PyProof.Rows L2
def whC(Pv:L2.St->Hp->Prop)(μ:L2.St->Hp->Nat)(tb:TS)(D:Ends)(σ0:L2.St)(H0:Hp):Bool->Hp->Prop:=fun b H1=>
 if b=true then∃N:L2.St->Hp->Prop,(∀σ' H',N σ' H'->∃m',m'<μ σ0 H0/\(m'=μ σ' H'/\Pv σ' H'))/\tb { D with nx:=N,ct:=N,bk:=D.nx } σ0 H1 else D.nx σ0 H1
theorem vq{c:TT}{tb:TS}{D:Ends}{σ:L2.St}{H:Hp}(Pv:L2.St->Hp->Prop)(μ:L2.St->Hp->Nat)(h0:Pv σ H)(hs:∀σ H,Pv σ H->c σ H (whC Pv μ tb D σ H)):Vt c tb D σ H:=by
 refine⟨fun m σ H=>m=μ σ H/\Pv σ H,⟨_,rfl,h0⟩,?_⟩
 rintro m σ H ⟨rfl,p⟩
 exact hs σ H p
theorem VN{Pv:L2.St->Hp->Prop}{μ:L2.St->Hp->Nat}{tb:TS}{D:Ends}{σ0:L2.St}{H0 H1:Hp}(h:tb { D with nx:=fun σ' H'=>Pv σ' H'/\μ σ' H'<μ σ0 H0,ct:=fun σ' H'=>Pv σ' H'/\μ σ' H'<μ σ0 H0,bk:=D.nx } σ0 H1):whC Pv μ tb D σ0 H0 true H1:=by
 unfold whC
 rw[if_pos rfl]
 exact⟨_,fun σ' H' ⟨p,l⟩=>⟨_,l,rfl,p⟩,h⟩
theorem Tr{Pv:L2.St->Hp->Prop}{μ:L2.St->Hp->Nat}{tb:TS}{D:Ends}{σ0:L2.St}{H0 H1:Hp}(h:D.nx σ0 H1):whC Pv μ tb D σ0 H0 false H1:=by
 unfold whC
 rw[if_neg (by decide)]
 exact h
def ab4(Q:VK):List V->Hp->Prop:=fun xs H1=>xs.length<=sizeLine/\∀p,H1 p=none->Q (.ref p) (upd H1 p (.lst xs))
theorem jL{t:TA}{σ:L2.St}{H:Hp}{Q:VK}(h:t σ H (ab4 Q)):aj7 t σ H Q:=h
theorem cJ{xs:List V}{H:Hp}{Q:VK}(z:xs.length<=sizeLine)(h:∀p,H p=none->Q (.ref p) (upd H p (.lst xs))):ab4 Q xs H:=⟨z,h⟩
theorem gQ{K:W.Frag}{H:Hp}{Q:VK}{p:Addr}{xs:List V}{i:Int}{v:V}(h:cY K H p xs)(e:atI xs i=some v)(q:Q v H):aj8 K (.ref p) (.int i) H Q:=⟨p,xs,i,v,rfl,rfl,h,e,q⟩
def bmC(K:W.Frag)(T:String)(r:V->List V->Hp->VK->Prop)(t:TA)(σ:L2.St)(Q:VK):VK:=fun x H1=>tyV K T x H1/\t σ H1 fun xs H2=>r x xs H2 Q
theorem nW{K:W.Frag}{T:String}{r:V->List V->Hp->VK->Prop}{to:TE}{t:TA}{σ:L2.St}{H:Hp}{Q:VK}(h:to σ H (bmC K T r t σ Q)):tBM K T r to t σ H Q:=h
theorem oN{K:W.Frag}{r:V->List V->Hp->VK->Prop}{t:TA}{σ:L2.St}{H:Hp}{Q:VK}{l:Addr}{xs:List V}(e:cY K H l xs)(h:t σ H fun ys H2=>r (.ref l) ys H2 Q):bmC K "list" r t σ Q (.ref l) H:=⟨.inl ⟨rfl,_,e⟩,h⟩
theorem Ax{H:Hp}{Q:VK}{l:Addr}{xs:List V}{y:V}(e:H l=some (.lst xs))(z:xs.length<sizeLine)(h:Q .non (upd H l (.lst (xs++[y])))):Xv (.ref l) [y] H Q:=⟨l,xs,y,rfl,rfl,e,z,h⟩
end Nq
end
section
namespace Nq
theorem rm{a k:Nat}(h:a<2^k):a/2<2^k:=Nat.lt_of_le_of_lt (Nat.div_le_self _ _) h
theorem mul_pow{a b j k:Nat}(h:a<2^j)(g:b<2^k):a*b<2^(j+k):=by
 rw[Nat.pow_add]
 exact Nat.mul_lt_mul'' h g
theorem aiz{n:Nat}{z x:Pr}(hn:n<=60)(hz:Sm 20 z)(h:Kp279.one n z=some x):Sm 200 x:=by
 obtain⟨h1,h2⟩:=hz
 have s1:z.x*z.x<2^40:=mul_pow h1 h1
 have s2:z.x*z.y<2^40:=mul_pow h1 h2
 have s3:z.y*z.y<2^40:=mul_pow h2 h2
 have s4:n*z.y*z.y<2^46:=by
  rw[Nat.mul_assoc]
  exact mul_pow (j:=6) (by omega) s3
 have s5:(z.x*z.x+1)<2^41:=by omega
 have s6:(z.x*z.x+3)<2^41:=by omega
 have s7:(z.x*z.x+2)<2^41:=by omega
 have s8:(z.x*z.x+1)*(z.x*z.x+3)<2^82:=mul_pow s5 s6
 have s9:(z.x*z.x+2)*((z.x*z.x+1)*(z.x*z.x+3)-2)<2^(41+82):=mul_pow s7 (by omega)
 have s10:z.x*z.y*(z.x*z.x+1)*(z.x*z.x+3)<2^(40+41+41):=mul_pow (mul_pow s2 s5) s6
 have s11:z.x*(z.x*z.x-3)<2^(20+40):=mul_pow h1 (by omega)
 have s12:z.y*(z.x*z.x-1)<2^(20+40):=mul_pow h2 (by omega)
 have up:∀{a k:Nat},a<2^k->k<=200->a<2^200:=fun h g=>aL h g
 unfold Kp279.one at h
 simp only at h
 split at h
 ·have e:=Option.some.inj h
  subst e
  exact⟨up h1 (by decide),up h2 (by decide)⟩
 ·split at h
  ·have e:=Option.some.inj h
   subst e
   exact(uU hn ⟨h1,h2⟩ ⟨h1,h2⟩).mono (by decide)
  ·split at h
   ·have e:=Option.some.inj h
    subst e
    exact⟨up (k:=47) (rm (by omega)) (by decide),up s2 (by decide)⟩
   ·split at h
    ·split at h
     ·have e:=Option.some.inj h
      subst e
      exact⟨up (rm h1) (by decide),up (rm h2) (by decide)⟩
     ·split at h
      ·have e:=Option.some.inj h
       subst e
       exact⟨up (k:=40) (rm (by omega)) (by decide),up (rm s2) (by decide)⟩
      ·have e:=Option.some.inj h
       subst e
       exact⟨up (rm s11) (by decide),up (rm s12) (by decide)⟩
    ·split at h
     ·have e:=Option.some.inj h
      subst e
      exact⟨up (rm s9) (by decide),up (rm s10) (by decide)⟩
     ·cases h
theorem XS{u d:Int}(hd:d≠0)(h:u%d=0):(u/d).natAbs<=u.natAbs:=by
 have e:d*(u/d)=u:=Int.mul_ediv_cancel_of_emod_eq_zero h
 have e2:d.natAbs*(u/d).natAbs=u.natAbs:=by rw[<-Int.natAbs_mul,e]
 rw[<-e2]
 exact Nat.le_mul_of_pos_left _ (by omega)
theorem Zv{n:Nat}{a b x:Pr}(hn:n<=60)(ha:Sm 20 a)(hb:Sm 20 b)(h:Kp279.parted n a b=some x):Sm 100 x:=by
 obtain⟨a1,a2⟩:=ha
 obtain⟨b1,b2⟩:=hb
 have s1:a.x*b.x<2^40:=mul_pow a1 b1
 have s2:n*a.y*b.y<2^46:=mul_pow (mul_pow (j:=6) (by omega) a2) b2
 have s3:a.y*b.x<2^40:=mul_pow a2 b1
 have s4:a.x*b.y<2^40:=mul_pow a1 b2
 have e1:(a.x:Int)*(b.x:Int)=((a.x*b.x:Nat):Int):=by push_cast;rfl
 have e2:(n:Int)*(a.y:Int)*(b.y:Int)=((n*a.y*b.y:Nat):Int):=by push_cast;rfl
 have e3:(a.y:Int)*(b.x:Int)=((a.y*b.x:Nat):Int):=by push_cast;rfl
 have e4:(a.x:Int)*(b.y:Int)=((a.x*b.y:Nat):Int):=by push_cast;rfl
 unfold Kp279.parted at h
 simp only[e1,e2,e3,e4]at h
 generalize hu:((a.x*b.x:Nat):Int)-((n*a.y*b.y:Nat):Int)=u at h
 generalize hv:((a.y*b.x:Nat):Int)-((a.x*b.y:Nat):Int)=v at h
 generalize Kp279.diff n b=d at h
 have p:(2:Nat)^47<2^100:=by decide
 split at h
 ·cases h
 ·rename_i hd
  split at h
  ·rename_i c
   have e:=Option.some.inj h
   subst e
   have d1:=XS hd c.1
   have d2:=XS hd c.2.1
   exact⟨by show(u/d).toNat<_;omega,by show(v/d).toNat<_;omega⟩
  ·cases h
end Nq
end
section
namespace Nq
open PySem PySem.Spec PyProof.Rows L2
def cA(C:Addr)(H:Hp)(as:List Addr)(zs:List Pr):Prop:=as.length=zs.length/\∀(i:Nat)(a:Addr)(z:Pr),as[i]?=some a->zs[i]?=some z->aP C H a z
section
variable{C:Addr}{H H':Hp}{as bs:List Addr}{zs ws:List Pr}
theorem cA.nil:cA C H [] []:=⟨rfl,fun i a z e=>by simp at e⟩
theorem cA.imp(h:cA C H as zs)(f:∀a z,aP C H a z->aP C H' a z):cA C H' as zs:=⟨h.1,fun i a z e1 e2=>f a z (h.2 i a z e1 e2)⟩
theorem cA.get(h:cA C H as zs){i:Nat}{z:Pr}(e:zs[i]?=some z):∃a,as[i]?=some a/\aP C H a z:=by
 have h1:=(List.getElem?_eq_some_iff.mp e).1
 have h2:i<as.length:=by rw[h.1];exact h1
 exact⟨as[i],List.getElem?_eq_getElem h2,h.2 i _ z (List.getElem?_eq_getElem h2) e⟩
theorem cA.of(h:cA C H as zs){i:Nat}{a:Addr}(e:as[i]?=some a):∃z,zs[i]?=some z/\aP C H a z:=by
 have h1:=(List.getElem?_eq_some_iff.mp e).1
 have h2:i<zs.length:=by rw[<-h.1];exact h1
 exact⟨zs[i],List.getElem?_eq_getElem h2,h.2 i a _ e (List.getElem?_eq_getElem h2)⟩
theorem cA.append(h:cA C H as zs)(g:cA C H bs ws):cA C H (as++bs) (zs++ws):=by
 refine⟨by rw[List.length_append,List.length_append,h.1,g.1],fun i a z e1 e2=>?_⟩
 rcases Nat.lt_or_ge i as.length with c|c
 ·rw[List.getElem?_append_left c]at e1
  rw[List.getElem?_append_left (by rw[<-h.1];exact c)]at e2
  exact h.2 i a z e1 e2
 ·rw[List.getElem?_append_right c]at e1
  rw[List.getElem?_append_right (by rw[<-h.1];exact c),<-h.1]at e2
  exact g.2 _ a z e1 e2
theorem cA.one{a:Addr}{z:Pr}(p:aP C H a z):cA C H [a] [z]:=⟨rfl,fun i b w e1 e2=>by
 have hi:i=0:=by
  have:=(List.getElem?_eq_some_iff.mp e1).1
  simpa using this
 subst hi
 have e1:a=b:=Option.some.inj e1
 have e2:z=w:=Option.some.inj e2
 subst e1 e2
 exact p⟩
theorem cA.snoc{a:Addr}{z:Pr}(h:cA C H as zs)(p:aP C H a z):cA C H (as++[a]) (zs++[z]):=h.append (.one p)
theorem cA.drop(h:cA C H as zs)(n:Nat):cA C H (as.drop n) (zs.drop n):=⟨by rw[List.length_drop,List.length_drop,h.1],fun i a z e1 e2=>by
 rw[List.getElem?_drop]at e1 e2
 exact h.2 _ a z e1 e2⟩
theorem cA.take(h:cA C H as zs)(n:Nat):cA C H (as.take n) (zs.take n):=⟨by rw[List.length_take,List.length_take,h.1],fun i a z e1 e2=>by
 have c:i<n:=by
  have:=(List.getElem?_eq_some_iff.mp e1).1
  rw[List.length_take]at this
  omega
 rw[List.getElem?_take_of_lt c]at e1 e2
 exact h.2 _ a z e1 e2⟩
end
noncomputable def pq(n o h k e:V):List (Str×V):=[("n",n),("one",o),("hand",h),("kept",k),("earlier",e)]
theorem lk1{x:Str}{v:V}{r:List (Str×V)}:List.lookup x ((x,v)::r)=some v:=by simp[List.lookup]
theorem Vf{x y:Str}{v:V}{r:List (Str×V)}(h:(x==y)=false):List.lookup x ((y,v)::r)=List.lookup x r:=by rw[List.lookup_cons,h]
section
variable(n o h k e:V)
theorem aku:(pq n o h k e).lookup ("n":Str)=some n:=lk1
theorem aeD:(pq n o h k e).lookup ("one":Str)=some o:=(Vf (by decide+kernel)).trans lk1
theorem ab5:(pq n o h k e).lookup ("hand":Str)=some h:=(Vf (by decide+kernel)).trans ((Vf (by decide+kernel)).trans lk1)
theorem ab6:(pq n o h k e).lookup ("kept":Str)=some k:=(Vf (by decide+kernel)).trans ((Vf (by decide+kernel)).trans ((Vf (by decide+kernel)).trans lk1))
theorem Tt:(pq n o h k e).lookup ("earlier":Str)=some e:=(Vf (by decide+kernel)).trans ((Vf (by decide+kernel)).trans ((Vf (by decide+kernel)).trans ((Vf (by decide+kernel)).trans lk1)))
end
structure Wf(D:Kp284.Desk):Prop where
 n:Kp279.okN D.n=true
 a:Kp284.ok D.a=true
 kept:∀z∈D.kept,Kp284.ok z=true
 before:∀z∈D.before,Kp284.ok z=true
 kl:D.kept.length<=8
 bl:D.before.length<=12
theorem ahu{z:Pr}(h:Kp284.ok z=true):z.x<=1000000/\z.y<=1000000:=by
 unfold Kp284.ok at h
 rw[Bool.and_eq_true,decide_eq_true_iff,decide_eq_true_iff]at h
 exact h
theorem gC{z:Pr}(h:Kp284.ok z=true):Sm 20 z:=by
 have:=ahu h
 exact⟨Nat.lt_of_le_of_lt this.1 (by decide),Nat.lt_of_le_of_lt this.2 (by decide)⟩
theorem Wf.start{n:Nat}(h:Kp279.okN n=true):Wf ⟨n,⟨1,0⟩,[],[]⟩:=⟨h,(by decide+kernel:Kp284.ok (⟨1,0⟩:Pr)=true),(fun z hz=>by cases hz),(fun z hz=>by cases hz),Nat.zero_le _,Nat.zero_le _⟩
theorem Wf.to{D:Kp284.Desk}(h:Wf D){b:Pr}(hb:Kp284.ok b=true):Wf (Kp284.to D b):=by
 refine⟨h.n,hb,h.kept,fun z hz=>?_,h.kl,?_⟩
 ·have hz:z∈(D.a::D.before).take 12:=hz
  rcases List.mem_cons.mp (List.mem_of_mem_take hz)with e|e
  ·rw[e];exact h.a
  ·exact h.before z e
 ·show((D.a::D.before).take 12).length<=12
  rw[List.length_take]
  omega
theorem Wf.keep{D:Kp284.Desk}(h:Wf D)(hl:¬8<=D.kept.length):Wf { D with kept:=D.kept++[D.a] }:=by
 refine⟨h.n,h.a,fun z hz=>?_,h.before,?_,h.bl⟩
 ·rcases List.mem_append.mp hz with e|e
  ·exact h.kept z e
  ·rw[List.mem_singleton.mp e];exact h.a
 ·show(D.kept++[D.a]).length<=8
  rw[List.length_append]
  show D.kept.length+1<=8
  omega
theorem Wf.drop{D:Kp284.Desk}(h:Wf D)(i:Nat):Wf { D with kept:=D.kept.take i++D.kept.drop (i+1) }:=by
 refine⟨h.n,h.a,fun z hz=>?_,h.before,?_,h.bl⟩
 ·rcases List.mem_append.mp hz with e|e
  ·exact h.kept z (List.mem_of_mem_take e)
  ·exact h.kept z (List.mem_of_mem_drop e)
 ·show(D.kept.take i++D.kept.drop (i+1)).length<=8
  have:=h.kl
  rw[List.length_append,List.length_take,List.length_drop]
  omega
theorem Wf.back{D:Kp284.Desk}(h:Wf D){b:Pr}{r:List Pr}(e:D.before=b::r):Wf { D with a:=b,before:=r }:=by
 have hb:=h.before
 have hl:=h.bl
 rw[e]at hb hl
 exact⟨h.n,hb b (List.mem_cons_self ..),h.kept,fun z hz=>hb z (List.mem_cons_of_mem _ hz),h.kl,by
  show r.length<=12
  simp only[List.length_cons]at hl
  omega⟩
theorem Wf.keptAt{D:Kp284.Desk}(h:Wf D){i:Nat}(hi:i<D.kept.length):D.kept[i]?=some (Kp284.keptAt D i)/\Kp284.ok (Kp284.keptAt D i)=true:=by
 have e:D.kept[i]?=some (Kp284.keptAt D i):=by
  unfold Kp284.keptAt
  rw[List.getD_eq_getElem?_getD,List.getElem?_eq_getElem hi]
  rfl
 exact⟨e,h.kept _ (List.mem_of_getElem? e)⟩
structure gW(C CD:Addr)(H:Hp)(d:Addr)(D:Kp284.Desk)(lk le dx po ph:Addr)(ks es:List Addr):Prop where
 ins:H d=some (.ins CD dx (pq (.int D.n) (.ref po) (.ref ph) (.ref lk) (.ref le)))
 one:aP C H po (Kp280.least D.n)
 hand:aP C H ph D.a
 kept:H lk=some (.lst (ks.map V.ref))
 jE:cA C H ks D.kept
 xT:H le=some (.lst (es.map V.ref))
 zN:cA C H es D.before.reverse
 ne:lk≠le
 wf:Wf D
def nR(C CD:Addr)(H:Hp)(d:Addr)(D:Kp284.Desk)(lk le:Addr):Prop:=∃dx po ph ks es,gW C CD H d D lk le dx po ph ks es
theorem gW.gr{Ts:List Tab}{C CD:Addr}{H H':Hp}{d lk le dx po ph:Addr}{D:Kp284.Desk}{ks es:List Addr}(h:gW C CD H d D lk le dx po ph ks es)(tb:dJ Ts H)(g:Gr Ts H H'):gW C CD H' d D lk le dx po ph ks es:=
 ⟨g.at tb h.ins True.intro,h.one.gr tb g,h.hand.gr tb g,g.at tb h.kept True.intro,h.jE.imp fun _ _ p=>p.gr tb g,g.at tb h.xT True.intro,h.zN.imp fun _ _ p=>p.gr tb g,h.ne,h.wf⟩
theorem nR.gr{Ts:List Tab}{C CD:Addr}{H H':Hp}{d lk le:Addr}{D:Kp284.Desk}(h:nR C CD H d D lk le)(tb:dJ Ts H)(g:Gr Ts H H'):nR C CD H' d D lk le:=
 let⟨dx,po,ph,ks,es,q⟩:=h
 ⟨dx,po,ph,ks,es,q.gr tb g⟩
def Fr(Ts:List Tab)(O:List Addr)(H H':Hp):Prop:=dJ Ts H'/\∀b o,H b=some o->b∉O->(∀t∈Ts,b≠t.P)->H' b=some o
theorem Gr.fr{Ts:List Tab}{O:List Addr}{H H':Hp}(g:Gr Ts H H'):Fr Ts O H H':=⟨g.1,fun b o e _ n=>g.2 b o e n⟩
theorem Gr.then{Ts:List Tab}{O:List Addr}{H H1 H2:Hp}(g:Gr Ts H H1)(f:Fr Ts O H1 H2):Fr Ts O H H2:=⟨f.1,fun b o e m n=>f.2 b o (g.2 b o e n) m n⟩
theorem Fr.then{Ts:List Tab}{O:List Addr}{H H1 H2:Hp}(f:Fr Ts O H H1)(g:Gr Ts H1 H2):Fr Ts O H H2:=⟨g.1,fun b o e m n=>g.2 b o (f.2 b o e m n) n⟩
def fdC(C:Addr)(f:Str)(Q:VK):VK:=fun v H1=>∃p dx fs w,v=.ref p/\H1 p=some (.ins C dx fs)/\fs.lookup f=some w/\Q w H1
def akv(C:Addr)(f:Str)(te:TE):TE:=fun σ H Q=>te σ H (fdC C f Q)
section
variable{X:Cx}{e:Expr}{te:TE}{pos:Pos}
theorem aK{C:Addr}{f:Str}(c:Cls X.K C)(n:jU X.K C f)(he:PE X e te)(hb:attributeBase e f X.env (eval e X.env)=eval e X.env:=by rfl):PE X (.Attribute e f pos) (akv C f te):=by
 intro pins s σ H Q I h
 refine QM hb (jK (he pins s σ H _ I h) fun u s1 ⟨x,H1,I1,rx,p,dx,fs,w,ex,ea,lk,q⟩=>?_)
 subst ex
 obtain rfl:u=Value.ref p:=rx
 exact Aq I1 ea c n lk fun u' s2 I2 ru=>⟨_,H1,I2,ru,q⟩
end
section
variable{σ:L2.St}{H:Hp}{Q:VK}
theorem lK{C:Addr}{f:Str}{te:TE}(h:te σ H (fdC C f Q)):akv C f te σ H Q:=h
theorem Ay{C p dx:Addr}{f:Str}{fs:List (Str×V)}{w:V}(e:H p=some (.ins C dx fs))(l:fs.lookup f=some w)(h:Q w H):fdC C f Q (.ref p) H:=⟨p,dx,fs,w,rfl,e,l,h⟩
theorem pB{C p dx:Addr}{n o h k e:V}(ea:H p=some (.ins C dx (pq n o h k e)))(q:Q n H):fdC C "n" Q (.ref p) H:=Ay ea (aku n o h k e) q
theorem jc{C p dx:Addr}{n o h k e:V}(ea:H p=some (.ins C dx (pq n o h k e)))(q:Q o H):fdC C "one" Q (.ref p) H:=Ay ea (aeD n o h k e) q
theorem fU{C p dx:Addr}{n o h k e:V}(ea:H p=some (.ins C dx (pq n o h k e)))(q:Q h H):fdC C "hand" Q (.ref p) H:=Ay ea (ab5 n o h k e) q
theorem fV{C p dx:Addr}{n o h k e:V}(ea:H p=some (.ins C dx (pq n o h k e)))(q:Q k H):fdC C "kept" Q (.ref p) H:=Ay ea (ab6 n o h k e) q
theorem fW{C p dx:Addr}{n o h k e:V}(ea:H p=some (.ins C dx (pq n o h k e)))(q:Q e H):fdC C "earlier" Q (.ref p) H:=Ay ea (Tt n o h k e) q
theorem lM{ta:TE}(h:ta σ H fun x H1=>Q (.bl (decide (x=.non))) H1):ajS ta σ H Q:=h
theorem jd{ta:TE}(h:ta σ H fun x H1=>Q (.bl (!decide (x=.non))) H1):ag7 ta σ H Q:=h
theorem lO{t:TT}{ta tb:TE}(h:t σ H fun c H1=>if c=true then ta σ H1 Q else tb σ H1 Q):tIf t ta tb σ H Q:=h
def mtC(C:Addr)(m:Str)(sp:Sp)(wj:List V)(E:XK)(t:TA)(σ:L2.St)(Q:VK):VK:=fun x H1=>∃a dx fs,x=.ref a/\H1 a=some (.ins C dx fs)/\fs.lookup m=none/\t σ H1 fun vs H2=>sp (x::(vs++wj)) H2 Q E
theorem je{C:Addr}{m:Str}{sp:Sp}{wj:List V}{E:XK}{ta:TE}{t:TA}(h:ta σ H (mtC C m sp wj E t σ Q)):abx C m sp wj E ta t σ H Q:=h
theorem X3{n o h k e:V}{m:Str}(h1:(m==("n":Str))=false)(h2:(m==("one":Str))=false)(h3:(m==("hand":Str))=false)(h4:(m==("kept":Str))=false)(h5:(m==("earlier":Str))=false):(pq n o h k e).lookup m=none:=
 (Vf h1).trans ((Vf h2).trans ((Vf h3).trans ((Vf h4).trans ((Vf h5).trans rfl))))
theorem uH{C p dx:Addr}{m:Str}{sp:Sp}{wj:List V}{E:XK}{t:TA}{n o h k e:V}(ea:H p=some (.ins C dx (pq n o h k e)))(hm:(pq n o h k e).lookup m=none)(q:t σ H fun vs H2=>sp (.ref p::(vs++wj)) H2 Q E):mtC C m sp wj E t σ Q (.ref p) H:=⟨p,dx,_,rfl,ea,hm,q⟩
end
section
variable(C CD:Addr)(Ts:List Tab)
def nu(f:Kp284.Desk->List Int):Sp:=fun vs H Q _=>∃(d lk le dx po ph:Addr)(D:Kp284.Desk)(ks es:List Addr),vs=[.ref d]/\gW C CD H d D lk le dx po ph ks es/\dJ Ts H/\
 ∀l H',Gr Ts H H'->H' l=some (.lst ((f D).map V.int))->Q (.ref l) H'
def nA(f:Kp284.Desk->Nat->List Int):Sp:=fun vs H Q _=>∃(d lk le dx po ph:Addr)(D:Kp284.Desk)(ks es:List Addr)(a:Nat),vs=[.ref d,.int a]/\a<2^32/\gW C CD H d D lk le dx po ph ks es/\dJ Ts H/\
 ∀l H',Gr Ts H H'->H' l=some (.lst ((f D a).map V.int))->Q (.ref l) H'
def gY(f:Kp284.Desk->Nat->Nat->List Int):Sp:=fun vs H Q _=>∃(d lk le dx po ph:Addr)(D:Kp284.Desk)(ks es:List Addr)(a b:Nat),vs=[.ref d,.int a,.int b]/\a<2^32/\b<2^32/\gW C CD H d D lk le dx po ph ks es/\dJ Ts H/\
 ∀l H',Gr Ts H H'->H' l=some (.lst ((f D a b).map V.int))->Q (.ref l) H'
def Q6(f:Kp284.Desk->Nat->Nat->Nat->List Int):Sp:=fun vs H Q _=>∃(d lk le dx po ph:Addr)(D:Kp284.Desk)(ks es:List Addr)(a b c:Nat),vs=[.ref d,.int a,.int b,.int c]/\a<2^32/\b<2^32/\c<2^32/\gW C CD H d D lk le dx po ph ks es/\dJ Ts H/\
 ∀l H',Gr Ts H H'->H' l=some (.lst ((f D a b c).map V.int))->Q (.ref l) H'
def ab7(f:Kp284.Desk->Nat->Nat->Nat->Nat->List Int):Sp:=fun vs H Q _=>∃(d lk le dx po ph:Addr)(D:Kp284.Desk)(ks es:List Addr)(a b c e:Nat),vs=[.ref d,.int a,.int b,.int c,.int e]/\a<2^32/\b<2^32/\c<2^32/\e<2^32/\gW C CD H d D lk le dx po ph ks es/\dJ Ts H/\
 ∀l H',Gr Ts H H'->H' l=some (.lst ((f D a b c e).map V.int))->Q (.ref l) H'
end
theorem bY{k:Nat}(h:Nat.ble k 1000=true:=by rfl):k<=sizeLine:=by
 have:=Nat.le_of_ble_eq_true h
 rw[sizeLine_eq];omega
theorem aQ{Ts:List Tab}{H:Hp}{Q:VK}{xs:List V}{ns:List Int}(tb:dJ Ts H)(e:xs=ns.map V.int)(hl:Nat.ble ns.length 1000=true)(k:∀l H',Gr Ts H H'->H' l=some (.lst (ns.map V.int))->Q (.ref l) H'):ab4 Q xs H:=by
 subst e
 refine cJ (by rw[List.length_map];exact bY hl) fun l hl=>?_
 exact k l _ (Gr.same tb (Same.upd H _ hl)) aG
theorem bN{Ts:List Tab}{H H1:Hp}{Q:VK}{xs:List V}{ns:List Int}(g:Gr Ts H H1)(e:xs=ns.map V.int)(hl:Nat.ble ns.length 1000=true)(k:∀l H',Gr Ts H H'->H' l=some (.lst (ns.map V.int))->Q (.ref l) H'):ab4 Q xs H1:=
 aQ g.1 e hl fun l H' g' e'=>k l H' (g.trans g') e'
end Nq
end
section
namespace Nq
open PySem PySem.Spec PyProof.Rows L2
def ab8(K:W.Frag)(R:It->Hp->Prop):VK:=fun x H1=>∃a,x=.ref a/\(∃xs,cY K H1 a xs)/\R (Itl K a) H1
def ab9(K:W.Frag)(R:It->Hp->Prop):List V->Hp->Prop:=fun vs H1=>∃a xs,vs=[.ref a]/\cY K H1 a xs/\R (Ite K a) H1
section
variable{K:W.Frag}{σ:L2.St}{H:Hp}{Q:VK}{R:It->Hp->Prop}{D:Ends}
theorem zO{tl:TE}(h:tl σ H (ab8 K R)):ahc K tl σ H R:=h
theorem uI{a:Addr}{xs:List V}(e:cY K H a xs)(h:R (Itl K a) H):ab8 K R (.ref a) H:=⟨a,rfl,⟨xs,e⟩,h⟩
theorem akx{ta:TA}(h:ta σ H (ab9 K R)):ahp K ta σ H R:=h
theorem aiB{a:Addr}{xs:List V}(e:cY K H a xs)(h:R (Ite K a) H):ab9 K R [.ref a] H:=⟨a,xs,rfl,e,h⟩
theorem uW{a:Addr}{xs:List V}{g:TG}{tb:TS}(Pv:Nat->L2.St->Hp->Prop)(h0:Pv 0 σ H)(hl:∀i σ H,i<=xs.length->Pv i σ H->cY K H a xs)
 (hs:∀i x σ H,xs[i]?=some x->Pv i σ H->g x σ H fun σ2 H2=>tb { D with nx:=Pv (i+1),ct:=Pv (i+1),bk:=D.nx } σ2 H2)(hd:∀σ H,Pv xs.length σ H->D.nx σ H):aeB g tb D σ (Itl K a) H:=abl Pv h0 hl hs hd
theorem JD{lo:Int}{n:Nat}{g:TG}{tb:TS}(Pv:Nat->L2.St->Hp->Prop)(h0:Pv 0 σ H)
 (hs:∀i σ H,i<n->Pv i σ H->g (.int (lo+i)) σ H fun σ2 H2=>tb { D with nx:=Pv (i+1),ct:=Pv (i+1),bk:=D.nx } σ2 H2)(hd:∀σ H,Pv n σ H->D.nx σ H):aeB g tb D σ (Ve lo n) H:=Ec Pv h0 hs hd
theorem Az{l b:Addr}{xs zs:List V}(e1:H l=some (.lst xs))(e2:H b=some (.lst zs))(z:xs.length+zs.length<=sizeLine)(h:∀p,H p=none->Q (.ref p) (upd H p (.lst (xs++zs)))):akf (.ref l) (.ref b) H Q:=⟨l,b,xs,zs,rfl,rfl,e1,e2,z,h⟩
theorem JK{l b:Addr}{xs zs:List V}(e1:H l=some (.lst xs))(e2:H b=some (.lst zs))(z:xs.length+zs.length<=sizeLine)(h:Q .non (upd H l (.lst (xs++zs)))):Xw (.ref l) [.ref b] H Q:=⟨l,b,xs,zs,rfl,rfl,e1,e2,z,h⟩
def aky(Q:VK):List V->Hp->Prop:=fun xs H1=>xs.length<=sizeLine/\∀p,H1 p=none->Q (.ref p) (upd H1 p (.tup xs))
theorem lQ{t:TA}(h:t σ H (aky Q)):aj6 t σ H Q:=h
theorem Q7{xs:List V}(z:xs.length<=sizeLine)(h:∀p,H p=none->Q (.ref p) (upd H p (.tup xs))):aky Q xs H:=⟨z,h⟩
end
theorem xU{K:W.Frag}{a:Addr}{xs:List V}{j:Nat}{tt:TT}{te:TE}{vs:List Nat}{σ:L2.St}{H1:Hp}{Q:VK}(Pv:Addr->Nat->List V->Hp->Prop)(hw:∀v,wipe ((wipe σ vs).set j (some v)) vs=wipe σ vs)
 (h0:∀D,H1 D=none->Pv D 0 [] (upd H1 D (.lst [])))(hl:∀D i acc H,H D=some (.lst acc)->Pv D i acc H->cY K H a xs)
 (hs:∀D i x acc H,xs[i]?=some x->acc.length<=i->H D=some (.lst acc)->Pv D i acc H->tt ((wipe σ vs).set j (some x)) H fun b H3=>if b=true then te ((wipe σ vs).set j (some x)) H3 (lcA Pv D i)else lcN Pv D (i+1) H3)
 (hd:∀D acc H,acc.length<=xs.length->H D=some (.lst acc)->Pv D xs.length acc H->Q (.ref D) H):lcC (zK j) tt te vs σ Q (Itl K a) H1:=by
 intro D hD
 refine⟨fun i m H=>m=xs.length-i/\i<=xs.length/\lcN Pv D i H,⟨xs.length,by simp,Nat.zero_le _,[],Nat.le_refl _,aG,h0 D hD⟩,?_⟩
 rintro i m H ⟨rfl,hi,acc,hla,e,p⟩
 have q:=hl D i acc H e p
 by_cases c:i<xs.length
 ·refine .inr ⟨⟨xs,xs[i],q,by simp[c]⟩,lcN Pv D (i+1),fun H' z=>⟨xs.length-(i+1),by omega,rfl,c,z⟩,fun x H' y=>?_⟩
  obtain⟨e1,e2⟩:=y
  subst e1
  exact⟨hw _,hs D i x acc _ (e2 xs q) hla e p⟩
 ·have ei:i=xs.length:=by omega
  subst ei
  exact .inl ⟨⟨xs,q,Nat.le_refl _⟩,hd D acc H hla e p⟩
theorem acd{K:W.Frag}{a:Addr}{xs:List V}{j k:Nat}{tt:TT}{te:TE}{vs:List Nat}{σ:L2.St}{H1:Hp}{Q:VK}(Pv:Addr->Nat->List V->Hp->Prop)(hw:∀v w,wipe (((wipe σ vs).set j (some v)).set k (some w)) vs=wipe σ vs)
 (h0:∀D,H1 D=none->Pv D 0 [] (upd H1 D (.lst [])))(hl:∀D i acc H,H D=some (.lst acc)->Pv D i acc H->cY K H a xs)
 (hs:∀D i x acc H T,xs[i]?=some x->acc.length<=i->H D=some (.lst acc)->Pv D i acc H->H T=none->tt (((wipe σ vs).set j (some (.int (i:Nat)))).set k (some x)) (upd H T (.tup [.int (i:Nat),x])) fun b H3=>if b=true then te (((wipe σ vs).set j (some (.int (i:Nat)))).set k (some x)) H3 (lcA Pv D i)else lcN Pv D (i+1) H3)
 (hd:∀D acc H,acc.length<=xs.length->H D=some (.lst acc)->Pv D xs.length acc H->Q (.ref D) H):lcC (ah6 K 2 (abj (zK j) (abj (zK k) aj0))) tt te vs σ Q (Ite K a) H1:=by
 intro D hD
 refine⟨fun i m H=>m=xs.length-i/\i<=xs.length/\lcN Pv D i H,⟨xs.length,by simp,Nat.zero_le _,[],Nat.le_refl _,aG,h0 D hD⟩,?_⟩
 rintro i m H ⟨rfl,hi,acc,hla,e,p⟩
 have q:=hl D i acc H e p
 by_cases c:i<xs.length
 ·refine .inr ⟨⟨xs,xs[i],q,by simp[c]⟩,lcN Pv D (i+1),fun H' z=>⟨xs.length-(i+1),by omega,rfl,c,z⟩,fun v H' y=>?_⟩
  obtain⟨T,x,e1,e2,e3,e4⟩:=y
  subst e1 e3
  refine⟨T,_,rfl,Ov.of aG,rfl,_,_,rfl,_,_,rfl,rfl,hw _ _,?_⟩
  exact hs D i x acc _ T (e4 xs q) hla e p e2
 ·have ei:i=xs.length:=by omega
  subst ei
  exact .inl ⟨⟨xs,q,Nat.le_refl _⟩,hd D acc H hla e p⟩
end Nq
end
section
section
set_option maxHeartbeats 2000000
namespace L2
open PySem PySem.Spec PyProof.Rows
open PySem.W (WData Codec OpenSpec Well WellAll ReadsW ReadsAllW)
mutual
inductive Dw (K:W.Frag) (H:Hp):V->WData->Prop
 |non:Dw K H .non .none
 |bl (b:Bool):Dw K H (.bl b) (.bool b)
 |int (i:Int):Dw K H (.int i) (.int i)
 |str (x:Str):Dw K H (.str x) (.str x)
 |Sw (b:Array UInt8):Dw K H (.Sw b) (.bytes b.toList)
 |lst {a:Addr} {xs:List V} {ds:List WData}:cY K H a xs->wA K H xs ds->Dw K H (.ref a) (.list ds)
 |tup {a:Addr} {xs:List V} {ds:List WData}:Ov K H a xs->wA K H xs ds->Dw K H (.ref a) (.tuple ds)
inductive wA (K:W.Frag) (H:Hp):List V->List WData->Prop
 |nil:wA K H [] []
 |cons {v:V} {vs:List V} {d:WData} {ds:List WData}:Dw K H v d->wA K H vs ds->wA K H (v::vs) (d::ds)
end
theorem X4{K:W.Frag}{H:Hp}:∀ns:List Int,wA K H (ns.map V.int) (ns.map WData.int)
 |[]=> .nil
 |n::r=> .cons (.int n) (X4 r)
theorem X5{K:W.Frag}{H:Hp}:∀(ns:List Int)(xs:List V),wA K H xs (ns.map WData.int)->xs=ns.map V.int
 |[],xs,h=>by
  cases h
  rfl
 |n::r,xs,h=>by
  cases h with
  |cons h1 h2=>
   cases h1
   rw[X5 r _ h2]<;>rfl
section
variable{P:Program}{w:World}{K:W.Frag}{H:Hp}{h:Heap}{R:W.WRecords}{cl:Str->Option Addr}
theorem aiC{a:Addr}{xs:List V}(hok:wV P w H h)(KX:K.In h)(q:cY K H a xs):∃(its:List Value)(o:Obj)(n:Nat),Vals xs its/\h.get? a=some o/\o.cls=.type "list"/\o.data=.seq its.toArray n:=by
 rcases q with q|⟨o,its,n,e,hc,_,hd,_,hv⟩
 ·obtain⟨_,its,n,hv,e⟩:=(show jQ P w H h a (.lst xs)from q.ok hok)
  exact⟨its,_,n,hv,e,rfl,rfl⟩
 ·exact⟨its.toList,o,n,hv,KX _ _ e,hc,by simp[hd]⟩
theorem aiD{a:Addr}{xs:List V}(hok:wV P w H h)(KX:K.In h)(q:Ov K H a xs):∃(its:List Value)(o:Obj)(n:Nat),Vals xs its/\h.get? a=some o/\o.cls=.type "tuple"/\o.data=.seq its.toArray n:=by
 rcases q with q|⟨o,its,n,e,hc,hd,_,hv⟩
 ·obtain⟨_,its,hv,o,e,hc,n,hd⟩:=(show jQ P w H h a (.tup xs)from q.ok hok)
  exact⟨its,o,n,hv,e,hc,hd⟩
 ·exact⟨its.toList,o,n,hv,KX _ _ e,hc,by simp[hd]⟩
mutual
theorem Dw.reads (hok:wV P w H h) (KX:K.In h):∀(d:WData)(v:V)(u:Value),Dw K H v d->RelV v u->∃as,ReadsW R cl h u d as
 |.none,_,_,x,r=>by
  cases x
  cases r
  exact⟨_,ReadsW.none⟩
 |.bool b,_,_,x,r=>by
  cases x
  cases r
  exact⟨_,ReadsW.bool b⟩
 |.int i,_,_,x,r=>by
  cases x
  obtain⟨t,rfl⟩:=r
  exact⟨_,ReadsW.int i t⟩
 |.str s,_,_,x,r=>by
  cases x
  obtain⟨t,rfl⟩:=r
  exact⟨_,ReadsW.str s t⟩
 |.bytes b,_,_,x,r=>by
  cases x
  obtain⟨t,rfl⟩:=r
  exact⟨_,ReadsW.bytes _ t⟩
 |.list ds,_,_,x,r=>by
  cases x with
  |lst hs ha=>
   cases r
   obtain⟨its,o,n,rv,ho,hc,hd⟩:=aiC hok KX hs
   obtain⟨as,hr⟩:=Dw.readsAll hok KX ds _ its ha rv
   exact⟨_,ReadsW.list ho hc hd hr⟩
 |.tuple ds,_,_,x,r=>by
  cases x with
  |tup hs ha=>
   cases r
   obtain⟨its,o,n,rv,ho,hc,hd⟩:=aiD hok KX hs
   obtain⟨as,hr⟩:=Dw.readsAll hok KX ds _ its ha rv
   exact⟨_,ReadsW.tuple ho hc hd hr⟩
 |.float _,_,_,x,_=>by cases x
 |.dict _,_,_,x,_=>by cases x
 |.bytearray _,_,_,x,_=>by cases x
 |.set _,_,_,x,_=>by cases x
 |.frozenset _,_,_,x,_=>by cases x
 |.obj _ _,_,_,x,_=>by cases x
theorem Dw.readsAll (hok:wV P w H h) (KX:K.In h):∀(ds:List WData)(vs:List V)(us:List Value),wA K H vs ds->Vals vs us->∃as,ReadsAllW R cl h us ds as
 |[],_,_,x,r=>by
  cases x
  cases r
  exact⟨_,ReadsAllW.nil⟩
 |d::ds,_,_,x,r=>by
  cases x with
  |cons h1 h2=>
   cases r with
   |cons r1 r2=>
    obtain⟨as,q1⟩:=Dw.reads hok KX d _ _ h1 r1
    obtain⟨bs,q2⟩:=Dw.readsAll hok KX ds _ _ h2 r2
    exact⟨_,ReadsAllW.cons q1 q2⟩
end
end
mutual
noncomputable def X6:WData->Bool
 |.none=>true
 |.bool _=>true
 |.int _=>true
 |.str _=>true
 |.bytes _=>true
 |.list xs=>Ho xs
 |.tuple xs=>Ho xs
 |_=>false
noncomputable def Ho:List WData->Bool
 |[]=>true
 |x::r=>X6 x && Ho r
end
theorem Tv{α:Type}{f:α->WData}(h:∀a,X6 (f a)=true):∀l:List α,Ho (l.map f)=true
 |[]=>rfl
 |x::r=>by
  show(X6 (f x) && Ho (r.map f))=true
  rw[h x,Tv h r]<;>rfl
theorem xV:∀(c:Codec)(a:c.denote),X6 (c.enc a)=true
 |.unit,_=>rfl
 |.bool,_=>rfl
 |.int _ _,_=>rfl
 |.nat _ _,_=>rfl
 |.u8,_=>rfl
 |.bytes _ _,_=>rfl
 |.text _ _ _ _,_=>rfl
 |.list _ _ c,a=>Tv (fun x=>xV c x) a
 |.pair c d,a=>by
  show(X6 (c.enc a.1) && (X6 (d.enc a.2) && true))=true
  rw[xV c a.1,xV d a.2]<;>rfl
 |.triple c d e,a=>by
  show(X6 (c.enc a.1) && (X6 (d.enc a.2.1) && (X6 (e.enc a.2.2) && true)))=true
  rw[xV c a.1,xV d a.2.1,xV e a.2.2]<;>rfl
 |.option c,none=>rfl
 |.option c,some x=>xV c x
theorem O8:∀(cs:List Codec)(a:Codec.denoteAll cs),Ho (Codec.encAll cs a)=true
 |[],_=>rfl
 |c::cs,a=>by
  show(X6 (c.enc a.1) && Ho (Codec.encAll cs a.2))=true
  rw[xV c a.1,O8 cs a.2]<;>rfl
theorem Ba:∀{xs:List WData}{d:WData},d∈xs->d.weight<=WData.weightAll xs
 |[],d,h=>absurd h (by simp)
 |x::r,d,h=>by
  show d.weight<=x.weight+1+WData.weightAll r
  rcases List.mem_cons.mp h with e|m
  ·rw[e]
   omega
  ·have z:=Ba m
   omega
noncomputable def toV:Value->V
 |.none=> .non
 |.bool b=> .bl b
 |.int i _=> .int i
 |.str x _=> .str x
 |.bytes b _=> .Sw b
 |.ref a=> .ref a
 |_=> .non
def Zw(A:List Addr):Value->Prop
 |.none=>True
 |.bool _=>True
 |.int _ _=>True
 |.str _ _=>True
 |.bytes _ _=>True
 |.ref a=>a∈A
 |_=>False
theorem Zw.mono{A B:List Addr}(h:∀a∈A,a∈B):∀{u:Value},Zw A u->Zw B u:=fun{u} x=>by
 cases u with
 |ref a=>exact h a x
 |none=>trivial
 |bool b=>trivial
 |int i t=>trivial
 |str s t=>trivial
 |bytes b t=>trivial
 |_=>exact False.elim x
theorem ace{A:List Addr}{u:Value}(x:Zw A u):RelV (toV u) u:=by
 cases u with
 |ref a=>rfl
 |none=>rfl
 |bool b=>rfl
 |int i t=>exact⟨t,rfl⟩
 |str s t=>exact⟨t,rfl⟩
 |bytes b t=>exact⟨t,rfl⟩
 |_=>exact False.elim x
theorem uX{A:List Addr}:∀{vs:List Value},(∀u∈vs,Zw A u)->Vals (vs.map toV) vs
 |[],_=> .nil
 |u::r,h=> .cons (ace (h u (List.mem_cons_self ..))) (uX fun x hx=>h x (List.mem_cons_of_mem _ hx))
def wB(h:Heap)(A:List Addr)(a:Addr):Prop:=∃vs:List Value,vs.length<=sizeLine/\(∀u∈vs,Zw A u)/\
 (h.get? a=some { cls:=.type "list",data:=.seq vs.toArray }\/h.get? a=some { cls:=.type "tuple",data:=.seq vs.toArray })
theorem wB.mono{h:Heap}{A B:List Addr}{a:Addr}(k:∀a∈A,a∈B)(x:wB h A a):wB h B a:=by
 obtain⟨vs,h1,h2,h3⟩:=x
 exact⟨vs,h1,fun u hu=>(h2 u hu).mono k,h3⟩
theorem tO{P:Params}{h:Heap}:∀{vs:List Value}{ds:List WData},WellAll P h vs ds->vs.length=ds.length
 |_,_,.nil=>rfl
 |_,_,.cons _ b=>by
  show _+1=_+1
  rw[tO b]
theorem O9{P:Params}{h:Heap}{v:Value}{ds:List WData}(x:Well P h v (.list ds)):∃(a:Addr)(vs:List Value),v=.ref a/\h.get? a=some { cls:=.type "list",data:=.seq vs.toArray }/\WellAll P h vs ds:=by
 cases x with
 |list ho hall=>exact⟨_,_,rfl,ho,hall⟩
theorem JL{P:Params}{h:Heap}{v:Value}{ds:List WData}(x:Well P h v (.tuple ds)):∃(a:Addr)(vs:List Value),v=.ref a/\h.get? a=some { cls:=.type "tuple",data:=.seq vs.toArray }/\WellAll P h vs ds:=by
 cases x with
 |tuple ho hall=>exact⟨_,_,rfl,ho,hall⟩
theorem Pa{P:Params}{h:Heap}{us:List Value}{d:WData}{ds:List WData}(x:WellAll P h us (d::ds)):∃(v:Value)(vs:List Value),us=v::vs/\Well P h v d/\WellAll P h vs ds:=by
 cases x with
 |cons a b=>exact⟨_,_,rfl,a,b⟩
theorem X7{n:Nat}(h:n<=1048576):n<=sizeLine:=Nat.le_trans h (by decide)
section
variable{P:Params}{h:Heap}
mutual
theorem acf:∀(d:WData)(v:Value),Well P h v d->X6 d=true->d.weight<=1048576->∃A:List Addr,Zw A v/\∀a∈A,wB h A a
 |.none,_,x,_,_=>by
  cases x
  exact⟨[],trivial,fun a m=>absurd m (by simp)⟩
 |.bool b,_,x,_,_=>by
  cases x
  exact⟨[],trivial,fun a m=>absurd m (by simp)⟩
 |.int i,_,x,_,_=>by
  cases x
  exact⟨[],trivial,fun a m=>absurd m (by simp)⟩
 |.str s,_,x,_,_=>by
  cases x
  exact⟨[],trivial,fun a m=>absurd m (by simp)⟩
 |.bytes b,_,x,_,_=>by
  cases x
  exact⟨[],trivial,fun a m=>absurd m (by simp)⟩
 |.list ds,_,x,p,z=>by
  obtain⟨a,vs,rfl,ho,hall⟩:=O9 x
  have z2:WData.weightAll ds<=1048576:=z
  obtain⟨A,h1,h2⟩:=Cz ds _ hall p fun d hd=>Nat.le_trans (Ba hd) z2
  have k:∀b∈A,b∈a::A:=fun b hb=>List.mem_cons_of_mem _ hb
  refine⟨a::A,List.mem_cons_self ..,fun b hb=>?_⟩
  rcases List.mem_cons.mp hb with e|m
  ·rw[e]
   exact⟨vs,X7 (by rw[tO hall];exact Nat.le_trans (W.length_le_weightAllW ds) z2),fun u hu=>(h1 u hu).mono k,.inl ho⟩
  ·exact(h2 b m).mono k
 |.tuple ds,_,x,p,z=>by
  obtain⟨a,vs,rfl,ho,hall⟩:=JL x
  have z2:WData.weightAll ds<=1048576:=z
  obtain⟨A,h1,h2⟩:=Cz ds _ hall p fun d hd=>Nat.le_trans (Ba hd) z2
  have k:∀b∈A,b∈a::A:=fun b hb=>List.mem_cons_of_mem _ hb
  refine⟨a::A,List.mem_cons_self ..,fun b hb=>?_⟩
  rcases List.mem_cons.mp hb with e|m
  ·rw[e]
   exact⟨vs,X7 (by rw[tO hall];exact Nat.le_trans (W.length_le_weightAllW ds) z2),fun u hu=>(h1 u hu).mono k,.inr ho⟩
  ·exact(h2 b m).mono k
 |.float _,_,_,p,_=>Bool.noConfusion (show false=true from p)
 |.dict _,_,_,p,_=>Bool.noConfusion (show false=true from p)
 |.bytearray _,_,_,p,_=>Bool.noConfusion (show false=true from p)
 |.set _,_,_,p,_=>Bool.noConfusion (show false=true from p)
 |.frozenset _,_,_,p,_=>Bool.noConfusion (show false=true from p)
 |.obj _ _,_,_,p,_=>Bool.noConfusion (show false=true from p)
theorem Cz:∀(ds:List WData)(vs:List Value),WellAll P h vs ds->Ho ds=true->(∀d∈ds,d.weight<=1048576)->∃A:List Addr,(∀u∈vs,Zw A u)/\∀a∈A,wB h A a
 |[],_,x,_,_=>by
  cases x
  exact⟨[],fun u m=>absurd m (by simp),fun a m=>absurd m (by simp)⟩
 |d::ds,_,x,p,z=>by
  obtain⟨v,vs,rfl,x1,x2⟩:=Pa x
  have q:X6 d=true/\Ho ds=true:=Bool.and_eq_true_iff.mp p
  obtain⟨A,a1,a2⟩:=acf d v x1 q.1 (z d (List.mem_cons_self ..))
  obtain⟨B,b1,b2⟩:=Cz ds vs x2 q.2 fun e he=>z e (List.mem_cons_of_mem _ he)
  have kA:∀b∈A,b∈A++B:=fun b hb=>List.mem_append.mpr (.inl hb)
  have kB:∀b∈B,b∈A++B:=fun b hb=>List.mem_append.mpr (.inr hb)
  refine⟨A++B,fun u hu=>?_,fun b hb=>?_⟩
  ·rcases List.mem_cons.mp hu with e|m
   ·rw[e]
    exact a1.mono kA
   ·exact(b1 u m).mono kB
  ·rcases List.mem_append.mp hb with m|m
   ·exact(a2 b m).mono kA
   ·exact(b2 b m).mono kB
end
end
noncomputable def aeE(o:Obj):Option HO:=match o.data with
 |.seq vs _=>if(o.cls==Value.type "list")=true then some (.nG o (.lst (vs.toList.map toV)))else some (.nG o (.tup (vs.toList.map toV)))
 |_=>none
noncomputable def xW(K:W.Frag)(h:Heap)(A:List Addr):Hp:=fun b=>if b∈A then(if(K.lookup b).isNone=true then(h.get? b).bind aeE else none)else none
def X8(H:Hp):Prop:=∀b,H b=none\/∃o u,H b=some (.nG o u)
theorem Tw(vs:List Value):aeE { cls:=.type "list",data:=.seq vs.toArray }=some (.nG { cls:=.type "list",data:=.seq vs.toArray } (.lst (vs.map toV))):=by
 show(if(Value.type "list"==Value.type "list")=true then some (HO.nG { cls:=.type "list",data:=.seq vs.toArray } (.lst (vs.toArray.toList.map toV)))else some (HO.nG { cls:=.type "list",data:=.seq vs.toArray } (.tup (vs.toArray.toList.map toV))))=_
 rw[if_pos (beq_self_eq_true _)]
theorem Tz(vs:List Value):aeE { cls:=.type "tuple",data:=.seq vs.toArray }=some (.nG { cls:=.type "tuple",data:=.seq vs.toArray } (.tup (vs.map toV))):=by
 show(if(Value.type "tuple"==Value.type "list")=true then some (HO.nG { cls:=.type "tuple",data:=.seq vs.toArray } (.lst (vs.toArray.toList.map toV)))else some (HO.nG { cls:=.type "tuple",data:=.seq vs.toArray } (.tup (vs.toArray.toList.map toV))))=_
 rw[if_neg (by decide)]
section
variable{P:Program}{w:World}{K:W.Frag}{h:Heap}{A:List Addr}
theorem Ik{b:Addr}{o:Obj}(hb:b∈A)(hk:K.lookup b=none)(e:h.get? b=some o):xW K h A b=aeE o:=by
 unfold xW
 rw[if_pos hb,hk,if_pos (show(none:Option Obj).isNone=true from rfl),e]<;>rfl
theorem aeF{b:Addr}{u:HO}(q:xW K h A b=some u):b∈A/\K.lookup b=none:=by
 unfold xW at q
 by_cases hb:b∈A
 ·rw[if_pos hb]at q
  cases hk:K.lookup b with
  |none=>exact⟨hb,rfl⟩
  |some o=>
   rw[hk,if_neg (by simp)]at q
   cases q
 ·rw[if_neg hb]at q
  cases q
theorem Q8(ar:∀a∈A,wB h A a){b:Addr}{u:HO}(q:xW K h A b=some u):K.lookup b=none/\∃vs:List Value,vs.length<=sizeLine/\(∀u∈vs,Zw A u)/\
 ((h.get? b=some { cls:=.type "list",data:=.seq vs.toArray }/\u=.nG { cls:=.type "list",data:=.seq vs.toArray } (.lst (vs.map toV)))\/
  (h.get? b=some { cls:=.type "tuple",data:=.seq vs.toArray }/\u=.nG { cls:=.type "tuple",data:=.seq vs.toArray } (.tup (vs.map toV)))):=by
 obtain⟨hb,hk⟩:=aeF q
 obtain⟨vs,h1,h2,h3⟩:=ar b hb
 refine⟨hk,vs,h1,h2,?_⟩
 rcases h3 with e|e
 ·rw[Ik hb hk e,Tw]at q
  exact .inl ⟨e,(Option.some.inj q).symm⟩
 ·rw[Ik hb hk e,Tz]at q
  exact .inr ⟨e,(Option.some.inj q).symm⟩
theorem Zx(ar:∀a∈A,wB h A a):X8 (xW K h A):=fun b=>by
 cases q:xW K h A b with
 |none=>exact .inl rfl
 |some u=>
  obtain⟨_,vs,_,_,⟨_,e⟩|⟨_,e⟩⟩:=Q8 ar q
  ·exact .inr ⟨_,_,by rw[e]⟩
  ·exact .inr ⟨_,_,by rw[e]⟩
theorem aeG(ar:∀a∈A,wB h A a):wV P w (xW K h A) h:=fun b u q=>by
 obtain⟨_,vs,h1,h2,⟨e,rfl⟩|⟨e,rfl⟩⟩:=Q8 ar q
 ·exact⟨e,by rw[List.length_map];exact h1,vs,_,uX h2,e⟩
 ·exact⟨e,by rw[List.length_map];exact h1,vs,uX h2,_,e,rfl,_,rfl⟩
theorem Il{c c':Value}{vs us:List Value}(e:(some { cls:=c,data:=.seq vs.toArray }:Option Obj)=some { cls:=c',data:=.seq us.toArray }):c=c'/\vs=us:=by
 have e1:=Option.some.inj e
 have e2:c=c':=congrArg Obj.cls e1
 have e3:Data.seq vs.toArray=Data.seq us.toArray:=congrArg Obj.data e1
 injection e3 with e4
 refine⟨e2,?_⟩
 have e5:=congrArg Array.toList e4
 simpa using e5
theorem anl(KX:K.In h)(ar:∀a∈A,wB h A a){a:Addr}{vs:List Value}(ha:a∈A)(e:h.get? a=some { cls:=.type "list",data:=.seq vs.toArray }):(∀u∈vs,Zw A u)/\cY K (xW K h A) a (vs.map toV):=by
 obtain⟨us,h1,h2,h3⟩:=ar a ha
 have hu:us=vs:=by
  rcases h3 with q|q
  ·rw[e]at q
   exact(Il q).2.symm
  ·rw[e]at q
   exact absurd (Value.type.inj (Il q).1) (by decide)
 subst hu
 refine⟨h2,?_⟩
 cases hk:K.lookup a with
 |none=>exact .inl (.inr ⟨_,by rw[Ik ha hk e,Tw]⟩)
 |some o=>
  have e2:=KX a o hk
  rw[e]at e2
  obtain rfl:=Option.some.inj e2
  exact .inr ⟨_,us.toArray,_,hk,rfl,rfl,rfl,by rw[List.size_toArray];exact h1,by simpa using uX h2⟩
theorem anm(KX:K.In h)(ar:∀a∈A,wB h A a){a:Addr}{vs:List Value}(ha:a∈A)(e:h.get? a=some { cls:=.type "tuple",data:=.seq vs.toArray }):(∀u∈vs,Zw A u)/\Ov K (xW K h A) a (vs.map toV):=by
 obtain⟨us,h1,h2,h3⟩:=ar a ha
 have hu:us=vs:=by
  rcases h3 with q|q
  ·rw[e]at q
   exact absurd (Value.type.inj (Il q).1) (by decide)
  ·rw[e]at q
   exact(Il q).2.symm
 subst hu
 refine⟨h2,?_⟩
 cases hk:K.lookup a with
 |none=>exact .inl (.inr ⟨_,by rw[Ik ha hk e,Tz]⟩)
 |some o=>
  have e2:=KX a o hk
  rw[e]at e2
  obtain rfl:=Option.some.inj e2
  exact .inr ⟨_,us.toArray,_,hk,rfl,rfl,by rw[List.size_toArray];exact h1,by simpa using uX h2⟩
mutual
theorem aiE {Pm:Params} (KX:K.In h) (ar:∀a∈A,wB h A a):∀(d:WData)(v:Value),Well Pm h v d->X6 d=true->Zw A v->Dw K (xW K h A) (toV v) d
 |.none,_,x,_,_=>by
  cases x
  exact .non
 |.bool b,_,x,_,_=>by
  cases x
  exact .bl b
 |.int i,_,x,_,_=>by
  cases x
  exact .int i
 |.str s,_,x,_,_=>by
  cases x
  exact .str s
 |.bytes b,_,x,_,_=>by
  cases x
  have z:=Dw.Sw (K:=K) (H:=xW K h A) b.toArray
  exact z
 |.list ds,_,x,p,hu=>by
  obtain⟨a,vs,rfl,ho,hall⟩:=O9 x
  obtain⟨h2,hs⟩:=anl KX ar hu ho
  exact .lst hs (Q9 KX ar ds _ hall p h2)
 |.tuple ds,_,x,p,hu=>by
  obtain⟨a,vs,rfl,ho,hall⟩:=JL x
  obtain⟨h2,hs⟩:=anm KX ar hu ho
  exact .tup hs (Q9 KX ar ds _ hall p h2)
 |.float _,_,_,p,_=>Bool.noConfusion (show false=true from p)
 |.dict _,_,_,p,_=>Bool.noConfusion (show false=true from p)
 |.bytearray _,_,_,p,_=>Bool.noConfusion (show false=true from p)
 |.set _,_,_,p,_=>Bool.noConfusion (show false=true from p)
 |.frozenset _,_,_,p,_=>Bool.noConfusion (show false=true from p)
 |.obj _ _,_,_,p,_=>Bool.noConfusion (show false=true from p)
theorem Q9 {Pm:Params} (KX:K.In h) (ar:∀a∈A,wB h A a):∀(ds:List WData)(vs:List Value),WellAll Pm h vs ds->Ho ds=true->(∀u∈vs,Zw A u)->wA K (xW K h A) (vs.map toV) ds
 |[],_,x,_,_=>by
  cases x
  exact .nil
 |d::ds,_,x,p,hu=>by
  obtain⟨v,vs,rfl,x1,x2⟩:=Pa x
  have q:X6 d=true/\Ho ds=true:=Bool.and_eq_true_iff.mp p
  exact .cons (aiE KX ar d v x1 q.1 (hu _ (List.mem_cons_self ..))) (Q9 KX ar ds vs x2 q.2 fun u m=>hu u (List.mem_cons_of_mem _ m))
end
end
theorem JM{ds:List WData}(h:WData.layableAll ds=true):∀d∈ds,d.weight<=1048576:=fun d hd=>
 (W.layableW_iff.mp (List.all_eq_true.mp h d hd)).2.2
theorem JN:∀(cs:List Codec)(a:Codec.denoteAll cs),(Codec.encAll cs a).length=cs.length
 |[],_=>rfl
 |c::cs,a=>by
  show(Codec.encAll cs a.2).length+1=cs.length+1
  rw[JN cs a.2]
end L2
end
end
section
set_option maxHeartbeats 2000000
namespace Nq
open PySem PySem.Spec PyProof.Rows L2
open PySem.W (WData Codec OpenSpec Well WellAll ReadsW ReadsAllW)
noncomputable def Hq(Ts:List Tab)(H0:Hp):Hp:=fun b=>if(Ts.any fun t=>t.P==b)=true then some (.Ot #[])else H0 b
theorem Ra{Ts:List Tab}{H0:Hp}{t:Tab}(ht:t∈Ts):Hq Ts H0 t.P=some (.Ot #[]):=by
 unfold Hq
 rw[if_pos (List.any_eq_true.mpr ⟨t,ht,by simp⟩)]
theorem JQ{Ts:List Tab}{H0:Hp}{b:Addr}(h:∀t∈Ts,t.P≠b):Hq Ts H0 b=H0 b:=by
 unfold Hq
 rw[if_neg]
 intro z
 obtain⟨t,ht,e⟩:=List.any_eq_true.mp z
 exact h t ht (beq_iff_eq.mp e)
theorem Bb(Ts:List Tab)(H0:Hp)(b:Addr):(∃t∈Ts,t.P=b/\Hq Ts H0 b=some (.Ot #[]))\/((∀t∈Ts,t.P≠b)/\Hq Ts H0 b=H0 b):=by
 by_cases h:∃t∈Ts,t.P=b
 ·obtain⟨t,ht,e⟩:=h
  subst e
  exact .inl ⟨t,ht,rfl,Ra ht⟩
 ·have h':∀t∈Ts,t.P≠b:=fun t ht e=>h ⟨t,ht,e⟩
  exact .inr ⟨h',JQ h'⟩
theorem VP{P:Program}{w:World}{K:W.Frag}{mg mb:Str->Option Value}{k:Nat}{fa:Addr}{fd:FuncData}{ps:List Str}{sp:Sp}{s1:Shared}{vals:List Value}{ds:List WData}{R:W.WRecords}{cl:Str->Option Addr}{d0:WData}(Ts:List Tab)
 (KX:K.In s1.heap)(hns:s1.heap.Ns mainGlobals mg)(hb:s1.heap.Ns builtinsNs mb)(hbb:∀x:Str,x≠"__name__"->mb x=bootBuiltins x)(hlim:s1.heap.NoLimit)(hg:s1.gens=#[])
 (hwl:WellAll w.params s1.heap vals ds)(hpl:Ho ds=true)(hwt:∀d∈ds,d.weight<=1048576)(hr:lU k callerA)
 (hT:∀t∈Ts,W.CodeHd s1.heap t.c t.P/\s1.heap.get? t.P=some (W.tabObj #[])/\K.lookup t.P=none/\(K.lookup t.c).isSome=true)
 (hbm:∃bm ob,mg "__builtins__"=some (.ref bm)/\bm≠builtinsNs/\s1.heap.get? bm=some ob/\ob.cls=.type "module"/\ob.dict=some builtinsNs/\ob.data=.plain)
 (F:∀base:Heap,K.In base->base.Ns mainGlobals mg->(∀t∈Ts,W.CodeHd base t.c t.P/\base.BuiltinsAt mg t.P)->bf P w K mg base cV k fa fd ps sp)(hbind:∀(s:Shared)(us:List Value),us.length=ps.length->BindsTo s fd ⟨us,[]⟩ (ps.zip us))(hlen:ds.length=ps.length)
 (hsp:∀(H0 H:Hp)(xs:List V),X8 H0->wA K H0 xs ds->Same H0 H->dJ Ts H->sp xs H (fun v H'=>Dw K H' v d0) fun _ _ _=>False):
 codeAny (model P w) callerA (.call (.ref fa) ⟨vals,[]⟩) (fun r s'=>∃u as,r=.ok (.ret u)/\ReadsW R cl s'.heap u d0 as/\OldK s1.heap s'.heap/\s'.os=s1.os/\AllBare s'.gens) s1:=by
 obtain⟨A,ho,ar⟩:=Cz ds vals hwl hpl hwt
 have hO:X8 (xW K s1.heap A):=Zx ar
 have akz:wV P w (xW K s1.heap A) s1.heap:=aeG ar
 have hS:=Q9 KX ar ds vals hwl hpl ho
 have hV:=uX ho
 have isA:∀b u,xW K s1.heap A b=some u->K.lookup b=none/\∃vs:List Value,s1.heap.get? b=some { cls:=.type "list",data:=.seq vs.toArray }\/s1.heap.get? b=some { cls:=.type "tuple",data:=.seq vs.toArray }:=fun b u q=>by
  obtain⟨g1,vs,_,_,⟨g2,_⟩|⟨g2,_⟩⟩:=Q8 ar q
  ·exact⟨g1,vs,.inl g2⟩
  ·exact⟨g1,vs,.inr g2⟩
 generalize xW K s1.heap A=H0 at hO akz hS isA
 have noA:∀{b:Addr}{o:Obj},s1.heap.get? b=some o->(∀vs:Array Value,∀n,o.data≠.seq vs n)->H0 b=none:=fun{b o} e n=>by
  cases q:H0 b with
  |none=>rfl
  |some u=>
   obtain⟨_,vs,g|g⟩:=isA b u q
   ·rw[g]at e;cases e;exact(n _ _ rfl).elim
   ·rw[g]at e;cases e;exact(n _ _ rfl).elim
 have aeH:∀t∈Ts,H0 t.P=none:=fun t ht=>noA (hT t ht).2.1 fun _ _ z=>nomatch z
 have Yb:Same H0 (Hq Ts H0):=fun b o e=>by
  rw[JQ fun t ht z=>by subst z;rw[aeH t ht]at e;cases e]
  exact e
 have hTb:dJ Ts (Hq Ts H0):=fun t ht=> .inl (Ra ht)
 have hok:wV P w (Hq Ts H0) s1.heap:=fun b u e=>by
  rcases Bb Ts H0 b with⟨t,ht,rfl,q⟩|⟨n,q⟩
  ·rw[q]at e
   cases e
   exact(hT t ht).2.1
  ·rw[q]at e
   exact(akz b u e).stay (fun c v _ g=>g) (fun c g=>Yb c _ g) fun c xs g=>Yb c _ g
 have noT:∀{b:Addr}{o:Obj},s1.heap.get? b=some o->(∀vs:Array Value,∀n,o.data≠.seq vs n)->o≠W.tabObj #[]->Hq Ts H0 b=none:=fun{b o} e n nt=>by
  rcases Bb Ts H0 b with⟨t,ht,z,q⟩|⟨_,q⟩
  ·subst z
   have g:=(hT t ht).2.1
   rw[e]at g
   exact(nt (Option.some.inj g)).elim
  ·rw[q];exact noA e n
 have nK:∀b o,K.lookup b=some o->Hq Ts H0 b=none:=fun b o e=>by
  rcases Bb Ts H0 b with⟨t,ht,z,q⟩|⟨_,q⟩
  ·subst z
   rw[(hT t ht).2.2.1]at e
   cases e
  ·rw[q]
   cases q2:H0 b with
   |none=>rfl
   |some u=>rw[(isA b u q2).1]at e;cases e
 generalize hH:Hq Ts H0=H at Yb hTb hok noT nK
 have Im:∀{b:Addr}{o:Obj},s1.heap.get? b=some o->H b=none->(Jt s1.heap H).get? b=some o:=fun e n=>aa9 e n
 have nsK:∀{b:Addr}{m:Str->Option Value},s1.heap.Ns b m->(Jt s1.heap H).Ns b m:=fun{b m} ⟨o,es,ep,e,d,r⟩=>⟨o,es,ep,Im e (noT e (fun vs n z=>by rw[d]at z;cases z) fun z=>by rw[z]at d;cases d),d,r⟩
 have hKb:K.In (Jt s1.heap H):=fun b o e=>Im (KX b o e) (nK b o e)
 have hM:Mod K mg (Jt s1.heap H):=⟨hKb,nsK hns,⟨mb,nsK hb,hbb⟩,let⟨mc,h1,h2⟩:=hlim;⟨mc,nsK h1,h2⟩⟩
 have e0:Mv P w K mg (Jt s1.heap H) callerA [] s1 H:=⟨rfl,hM,fun b o e=>ad3 e,Nat.le_of_eq (Y7 _ _),trivial,fun b hb=>absurd (show b∈([]:List Addr)from hb) (by simp),hok,.of_eq hg⟩
 have hl:vals.length=ps.length:=by rw[tO hwl];exact hlen
 have anp:∀t∈Ts,W.CodeHd (Jt s1.heap H) t.c t.P/\(Jt s1.heap H).BuiltinsAt mg t.P:=fun t ht=>by
  obtain⟨C,gP,_,kc⟩:=hT t ht
  refine⟨?_,?_⟩
  ·obtain⟨o,vs,file,tf,flags,tg,inF,text,tt,e,r⟩:=C
   obtain⟨oc,hoc⟩:=Option.isSome_iff_exists.mp kc
   exact⟨o,vs,file,tf,flags,tg,inF,text,tt,Im e (nK _ _ hoc),r⟩
  ·obtain⟨bm,ob,g1,g2,g3,g4,g5,g6⟩:=hbm
   have nt:ob≠W.tabObj #[]:=fun z=>by rw[z]at g6;cases g6
   refine⟨bm,ob,g1,g2,fun z=>?_,fun z=>?_,Im g3 (noT g3 (fun vs n z=>by rw[g6]at z;cases z) nt),g4,g5,g6⟩
   ·obtain⟨o,es,ep,e,d,_⟩:=hns
    rw[<-z,g3]at e
    cases e
    rw[g6]at d
    cases d
   ·rw[z,gP]at g3
    exact nt (Option.some.inj g3).symm
 refine codeAny_mono ((F _ hKb (nsK hns) anp).run callerA [] s1 H ⟨vals,[]⟩ vals (vals.map toV) _ _ hr e0 (hbind s1 vals hl) hV (hsp H0 H _ hO hS Yb hTb)) fun r s' x=>?_
 cases r with
 |error e=>exact(show False from x).elim
 |ok fl=>
  cases fl with
  |next=>exact False.elim x
  |brk=>exact False.elim x
  |cont=>exact False.elim x
  |ret u=>
   obtain⟨v,H',os,bare,un,hok',r',q⟩:=x
   have kept:∀b o,s1.heap.get? b=some o->(∀t∈Ts,t.P≠b)->s'.heap.get? b=some o:=fun b o e nb=>by
    cases q2:H b with
    |none=>exact un.keep b o e q2 (by intro z;exact absurd (show b∈([]:List Addr)from z) (by simp)) (by simp)
    |some u2=>
     have q3:=q2
     rw[<-hH,JQ nb]at q3
     rcases hO b with z|⟨ob,u3,z⟩
     ·rw[q3]at z;cases z
     ·have z1:H b=some (.nG ob u3):=by rw[q2,<-q3];exact z
      have z2:=un.Al b ob _ z1
      obtain⟨e1,_⟩:=hok b _ z1
      obtain⟨e2,_⟩:=hok' b _ z2
      rw[e]at e1
      cases e1
      exact e2
   have KX':K.In s'.heap:=fun b o e=>kept b o (KX b o e) fun t ht z=>by
    subst z
    rw[(hT t ht).2.2.1]at e
    cases e
   obtain⟨as,hrd⟩:=Dw.reads (R:=R) (cl:=cl) hok' KX' d0 v u q r'
   refine⟨u,as,rfl,hrd,⟨fun b o e=>?_,fun b o e=>un.there b o e (by simp)⟩,os,bare⟩
   by_cases nb:∀t∈Ts,t.P≠b
   ·exact .inl (kept b o e nb)
   ·have⟨t,ht,z⟩:∃t∈Ts,t.P=b:=Classical.byContradiction fun w=>nb fun t ht z=>w ⟨t,ht,z⟩
    subst z
    have g:=(hT t ht).2.1
    rw[e]at g
    cases g
    obtain⟨more,z2⟩:=un.Ce t.P #[] (by rw[<-hH];exact Ra ht)
    have z3:s'.heap.get? t.P=some { cls:=.none,data:=.fields (#[]++more) }:=hok' _ _ z2
    exact .inr (.inl ⟨((hT t ht).1.tab (hT t ht).2.1).isCodeTable,rfl,#[],more,rfl,z3⟩)
end Nq
namespace Nq
open PySem PySem.Spec PyProof.Rows L2
open PySem.W (WData Codec OpenSpec Well WellAll ReadsW ReadsAllW)
end Nq
end
section
set_option genInjectivity false
set_option genSizeOf false
set_option genSizeOfSpec false
namespace Nq
open PySem PySem.Spec PyProof.Rows L2
local macro_rules | `(tactic| walk_at "sc") => `(tactic| exact ⟨rfl, rfl, rfl, by decide +kernel, rfl, by decide +kernel, by decide +kernel⟩)
theorem us1{x0:Str}{P:List Value->Prop}(h:∀a0,P [a0]):∀us:List Value,us.length=[x0].length->P us
 |[_],_=>h _
local macro_rules | `(tactic| walk_at "b1") => `(tactic| exact fun _ _ _ _ _ _ => us1 fun _ => rfl)
theorem us2{x0 x1:Str}{P:List Value->Prop}(h:∀a0 a1,P [a0,a1]):∀us:List Value,us.length=[x0,x1].length->P us
 |[_,_],_=>h _ _
local macro_rules | `(tactic| walk_at "b2") => `(tactic| exact fun _ _ _ _ _ _ => us2 fun _ _ => rfl)
theorem us3{x0 x1 x2:Str}{P:List Value->Prop}(h:∀a0 a1 a2,P [a0,a1,a2]):∀us:List Value,us.length=[x0,x1,x2].length->P us
 |[_,_,_],_=>h _ _ _
local macro_rules | `(tactic| walk_at "b3") => `(tactic| exact fun _ _ _ _ _ _ => us3 fun _ _ _ => rfl)
theorem us4{x0 x1 x2 x3:Str}{P:List Value->Prop}(h:∀a0 a1 a2 a3,P [a0,a1,a2,a3]):∀us:List Value,us.length=[x0,x1,x2,x3].length->P us
 |[_,_,_,_],_=>h _ _ _ _
local macro_rules | `(tactic| walk_at "b4") => `(tactic| exact fun _ _ _ _ _ _ => us4 fun _ _ _ _ => rfl)
theorem us5{x0 x1 x2 x3 x4:Str}{P:List Value->Prop}(h:∀a0 a1 a2 a3 a4,P [a0,a1,a2,a3,a4]):∀us:List Value,us.length=[x0,x1,x2,x3,x4].length->P us
 |[_,_,_,_,_],_=>h _ _ _ _ _
local macro_rules | `(tactic| walk_at "b5") => `(tactic| exact fun _ _ _ _ _ _ => us5 fun _ _ _ _ _ => rfl)
local macro_rules | `(tactic| walk_at "b0") => `(tactic| exact fun _ _ _ _ _ _ us hl => match us, hl with | [], _ => rfl)
def top(i:Nat):Stmt:=PySem.Challenge.pw_nearsquares_s01_answers.main.body.getD i (.Pass ⟨0,0,0,0⟩)
noncomputable abbrev wC:Stmt:=inClass (top 4) 0
theorem El:aD ["self","x","y"] ["self","x","y"] (ao wC):=by walk_at"sc"
abbrev CG:Stmt:=top 5
theorem uJ:aD ["m","root"] ["m"] (ao CG):=by walk_at"sc"
abbrev Pb:Stmt:=top 6
theorem VR:aD ["n"] ["n"] (ao Pb):=by walk_at"sc"
abbrev Gx:Stmt:=top 7
theorem Rb:aD ["pair"] ["pair"] (ao Gx):=by walk_at"sc"
abbrev CJ:Stmt:=top 8
theorem MK:aD ["n","pair"] ["n","pair"] (ao CJ):=by walk_at"sc"
abbrev TF:Stmt:=top 9
theorem Zy:aD ["n","pair","other"] ["n","pair","other"] (ao TF):=by walk_at"sc"
abbrev Pg:Stmt:=top 10
theorem V0:aD ["n","pair","other"] ["n","pair","other"] (ao Pg):=by walk_at"sc"
abbrev Ph:Stmt:=top 11
theorem vA:aD ["n","pair","k","power","turn"] ["n","pair","k"] (ao Ph):=by walk_at"sc"
abbrev zP:Stmt:=top 12
theorem oO:aD ["n","pair","other","divisor","x","y"] ["n","pair","other"] (ao zP):=by walk_at"sc"
abbrev wD:Stmt:=top 13
theorem uY:aD ["pair","square"] ["pair"] (ao wD):=by walk_at"sc"
abbrev pC:Stmt:=top 14
theorem kO:aD ["pair","square","middle"] ["pair"] (ao pC):=by walk_at"sc"
abbrev JR:Stmt:=top 15
theorem Gy:aD ["n","pair","gap"] ["n","pair"] (ao JR):=by walk_at"sc"
abbrev xX:Stmt:=top 16
theorem qM:aD ["n","y","below","above"] ["n","y"] (ao xX):=by walk_at"sc"
abbrev oR:Stmt:=top 17
theorem qN:aD ["n","b","candidates","y"] ["n","b"] (ao oR):=by walk_at"sc"
abbrev Pj:Stmt:=top 20
theorem V3:aD ["n","one","pair"] ["n","one","pair"] (ao Pj):=by walk_at"sc"
abbrev Gz:Stmt:=top 21
theorem Rc:aD ["n","one","pair"] ["n","one","pair"] (ao Gz):=by walk_at"sc"
abbrev JT:Stmt:=top 22
theorem TJ:aD ["n","one","pair"] ["n","one","pair"] (ao JT):=by walk_at"sc"
abbrev Pk:Stmt:=top 23
theorem JV:aD ["n","one","pair","passed"] ["n","one","pair"] (ao Pk):=by walk_at"sc"
abbrev zQ:Stmt:=top 24
theorem mq:aD ["n","one","b","number","reached"] ["n","one","b"] (ao zQ):=by walk_at"sc"
abbrev tQ:Stmt:=top 33
theorem Bc:aD ["n","pair"] ["n","pair"] (ao tQ):=by walk_at"sc"
abbrev qt:Stmt:=top 34
theorem wN:aD ["pair"] ["pair"] (ao qt):=by walk_at"sc"
abbrev Pn:Stmt:=top 35
theorem Bf:aD ["pairs","row","pair"] ["pairs"] (ao Pn):=by walk_at"sc"
abbrev GC:Stmt:=top 38
theorem CK:aD ["desk","pair","end"] ["desk","pair"] (ao GC):=by walk_at"sc"
abbrev JW:Stmt:=top 39
theorem nY:aD ["desk","whole","product","pair"] ["desk"] (ao JW):=by walk_at"sc"
abbrev ahv:Stmt:=top 40
theorem aiF:aD ["desk","i","j"] ["desk","i","j"] (ao ahv):=by walk_at"sc"
abbrev Bg:Stmt:=top 41
theorem mz:aD ["desk","ends","pair","sizes","end","row"] ["desk"] (ao Bg):=by walk_at"sc"
abbrev Rf:Stmt:=top 42
theorem oU:aD ["desk","s","k","wanted","products","pair","gap","product","found","place"] ["desk","s","k"] (ao Rf):=by walk_at"sc"
abbrev acg:Stmt:=top 43
theorem aeI:aD ["desk"] ["desk"] (ao acg):=by walk_at"sc"
abbrev GD:Stmt:=top 44
theorem Rg:aD ["desk"] ["desk"] (ao GD):=by walk_at"sc"
abbrev JX:Stmt:=top 45
theorem GF:aD ["desk","passed"] ["desk"] (ao JX):=by walk_at"sc"
abbrev ach:Stmt:=top 46
theorem aeJ:aD ["desk"] ["desk"] (ao ach):=by walk_at"sc"
abbrev aci:Stmt:=top 47
theorem aeK:aD ["desk"] ["desk"] (ao aci):=by walk_at"sc"
abbrev zR:Stmt:=top 50
theorem sG:aD ["n","gap","y","square","x"] ["n","gap","y"] (ao zR):=by walk_at"sc"
abbrev pY:Stmt:=top 51
theorem mC:aD ["n","gap","b","candidates","y","pair"] ["n","gap","b"] (ao pY):=by walk_at"sc"
abbrev JZ:Stmt:=top 52
theorem TQ:aD ["one","k"] ["one","k"] (ao JZ):=by walk_at"sc"
abbrev xY:Stmt:=top 53
theorem qO:aD ["n","one","gap","y","pair"] ["n","one","gap"] (ao xY):=by walk_at"sc"
abbrev xZ:Stmt:=top 54
theorem rA:aD ["n","one","gap","small","pair"] ["n","one","gap"] (ao xZ):=by walk_at"sc"
abbrev yc:Stmt:=top 60
theorem Hr:aD ["s","k"] ["s","k"] (ao yc):=by walk_at"sc"
abbrev TV:Stmt:=top 61
theorem Zz:aD ["s","k"] ["s","k"] (ao TV):=by walk_at"sc"
abbrev yd:Stmt:=top 62
theorem Hs:aD ["pair"] ["pair"] (ao yd):=by walk_at"sc"
abbrev Yc:Stmt:=top 63
theorem acj:aD ["desk"] ["desk"] (ao Yc):=by walk_at"sc"
abbrev Pq:Stmt:=top 64
theorem V4:aD ["desk"] ["desk"] (ao Pq):=by walk_at"sc"
abbrev TX:Stmt:=top 65
theorem ZC:aD ["desk","s","k"] ["desk","s","k"] (ao TX):=by walk_at"sc"
abbrev ahw:Stmt:=top 66
theorem aiG:aD ["desk","s","k"] ["desk","s","k"] (ao ahw):=by walk_at"sc"
abbrev Yd:Stmt:=top 67
theorem acn:aD ["desk","s","k"] ["desk","s","k"] (ao Yd):=by walk_at"sc"
abbrev aco:Stmt:=top 68
theorem aeL:aD ["desk","s","k","b"] ["desk","s","k","b"] (ao aco):=by walk_at"sc"
abbrev J0:Stmt:=top 69
theorem TY:aD ["desk","s","k","b"] ["desk","s","k","b"] (ao J0):=by walk_at"sc"
abbrev Ye:Stmt:=top 70
theorem acp:aD ["desk","k"] ["desk","k"] (ao Ye):=by walk_at"sc"
abbrev Rh:Stmt:=top 71
theorem J1:aD ["desk","s","b","found","k"] ["desk","s","b"] (ao Rh):=by walk_at"sc"
abbrev Yg:Stmt:=top 72
theorem acq:aD ["desk","s","k","y"] ["desk","s","k","y"] (ao Yg):=by walk_at"sc"
abbrev Yh:Stmt:=top 73
theorem acr:aD ["desk"] ["desk"] (ao Yh):=by walk_at"sc"
abbrev Yi:Stmt:=top 77
theorem acs:aD ["desk","pair"] ["desk","pair"] (ao Yi):=by walk_at"sc"
abbrev Yj:Stmt:=top 78
theorem acu:aD ["desk","n"] ["desk","n"] (ao Yj):=by walk_at"sc"
abbrev yg:Stmt:=top 79
theorem wF:aD ["desk","x","y","asked"] ["desk","x","y"] (ao yg):=by walk_at"sc"
abbrev acv:Stmt:=top 80
theorem aeM:aD ["desk"] ["desk"] (ao acv):=by walk_at"sc"
abbrev acw:Stmt:=top 81
theorem aeN:aD ["desk","i"] ["desk","i"] (ao acw):=by walk_at"sc"
abbrev acy:Stmt:=top 82
theorem aeO:aD ["desk","i"] ["desk","i"] (ao acy):=by walk_at"sc"
abbrev GJ:Stmt:=top 83
theorem Ri:aD ["desk","i"] ["desk","i"] (ao GJ):=by walk_at"sc"
abbrev GK:Stmt:=top 84
theorem CN:aD ["desk","i","found"] ["desk","i"] (ao GK):=by walk_at"sc"
abbrev Pu:Stmt:=top 85
theorem V5:aD ["desk","i"] ["desk","i"] (ao Pu):=by walk_at"sc"
abbrev akA:Stmt:=top 86
theorem akB:aD ["desk"] ["desk"] (ao akA):=by walk_at"sc"
abbrev acz:Stmt:=top 87
theorem aeP:aD ["desk"] ["desk"] (ao acz):=by walk_at"sc"
abbrev Px:Stmt:=top 88
theorem J2:aD ["desk","made"] ["desk"] (ao Px):=by walk_at"sc"
abbrev acA:Stmt:=top 89
theorem aeQ:aD ["desk"] ["desk"] (ao acA):=by walk_at"sc"
abbrev tR:Stmt:=top 92
theorem kW:aD ["a","b","rest"] ["a","b"] (ao tR):=by walk_at"sc"
abbrev Py:Stmt:=top 93
theorem Bh:aD ["n","one","k","before","earlier"] ["n","one","k"] (ao Py):=by walk_at"sc"
abbrev Pz:Stmt:=top 94
theorem V6:aD ["pair","m"] ["pair","m"] (ao Pz):=by walk_at"sc"
abbrev zT:Stmt:=top 95
theorem jV:aD ["n","one","m","start","reached","turns"] ["n","one","m"] (ao zT):=by walk_at"sc"
abbrev yh:Stmt:=top 97
theorem Ht:aD ["n"] ["n"] (ao yh):=by walk_at"sc"
abbrev Io:Stmt:=top 98
theorem CP:aD ["n","pair","gap","fitting","m"] ["n","pair"] (ao Io):=by walk_at"sc"
abbrev zU:Stmt:=top 99
theorem sH:aD ["n","pair","m","divisor"] ["n","pair"] (ao zU):=by walk_at"sc"
abbrev zV:Stmt:=top 100
theorem oV:aD ["n","j","pair","turn"] ["n","j"] (ao zV):=by walk_at"sc"
abbrev GP:Stmt:=top 101
theorem CQ:aD ["n","pairs"] ["n"] (ao GP):=by walk_at"sc"
abbrev GQ:Stmt:=top 102
theorem Rj:aD ["n"] ["n"] (ao GQ):=by walk_at"sc"
abbrev CT:Stmt:=top 103
theorem MN:aD ["n"] ["n"] (ao CT):=by walk_at"sc"
abbrev J3:Stmt:=top 109
theorem T3:aD ["desk","k"] ["desk","k"] (ao J3):=by walk_at"sc"
abbrev ahx:Stmt:=top 110
theorem aiH:aD ["desk","n","k"] ["desk","n","k"] (ao ahx):=by walk_at"sc"
abbrev T4:Stmt:=top 111
theorem ZD:aD ["desk","x","y"] ["desk","x","y"] (ao T4):=by walk_at"sc"
abbrev PB:Stmt:=top 112
theorem V7:aD ["desk","x","y"] ["desk","x","y"] (ao PB):=by walk_at"sc"
abbrev Yk:Stmt:=top 113
theorem J4:aD ["desk","b","k","found"] ["desk","b"] (ao Yk):=by walk_at"sc"
abbrev acB:Stmt:=top 114
theorem aeR:aD ["desk","b"] ["desk","b"] (ao acB):=by walk_at"sc"
abbrev PJ:Stmt:=top 115
theorem V8:aD ["desk","j","k"] ["desk","j","k"] (ao PJ):=by walk_at"sc"
abbrev T5:Stmt:=top 116
theorem ZF:aD ["desk","j","k"] ["desk","j","k"] (ao T5):=by walk_at"sc"
abbrev J5:Stmt:=top 117
theorem T6:aD ["desk","j","k"] ["desk","j","k"] (ao J5):=by walk_at"sc"
abbrev acC:Stmt:=top 118
theorem aeS:aD ["desk","k"] ["desk","k"] (ao acC):=by walk_at"sc"
abbrev T7:Stmt:=top 119
theorem PK:aD ["desk","k","b","pair"] ["desk","k","b"] (ao T7):=by walk_at"sc"
abbrev T8:Stmt:=top 120
theorem ZG:aD ["desk","m","k"] ["desk","m","k"] (ao T8):=by walk_at"sc"
abbrev J6:Stmt:=top 121
theorem T9:aD ["desk","m"] ["desk","m"] (ao J6):=by walk_at"sc"
abbrev Ua:Stmt:=top 128
theorem ZJ:aD ["desk"] ["desk"] (ao Ua):=by walk_at"sc"
abbrev Yl:Stmt:=top 129
theorem acD:aD ["desk","k"] ["desk","k"] (ao Yl):=by walk_at"sc"
abbrev Ub:Stmt:=top 130
theorem Em:aD ["desk","u","v","other","found"] ["desk","u","v"] (ao Ub):=by walk_at"sc"
abbrev ahy:Stmt:=top 131
theorem acE:aD ["desk","made"] ["desk"] (ao ahy):=by walk_at"sc"
abbrev PL:Stmt:=top 132
theorem V9:aD ["desk","y"] ["desk","y"] (ao PL):=by walk_at"sc"
abbrev PN:Stmt:=top 133
theorem Wa:aD ["desk","b"] ["desk","b"] (ao PN):=by walk_at"sc"
abbrev akC:Stmt:=top 134
theorem ahz:aD ["desk","u","v","pair"] ["desk","u","v"] (ao akC):=by walk_at"sc"
abbrev acF:Stmt:=top 135
theorem Rk:aD ["desk","u","v","s","t","pair","other"] ["desk","u","v","s","t"] (ao acF):=by walk_at"sc"
abbrev acG:Stmt:=top 136
theorem Ym:aD ["desk","m","whole"] ["desk","m"] (ao acG):=by walk_at"sc"
noncomputable abbrev tU:Stmt:=inClass (top 139) 0
theorem Bj:aD ["self","value","row"] ["self","value","row"] (ao tU):=by walk_at"sc"
abbrev pD:Stmt:=top 140
theorem oW:aD ["pair","r"] ["pair"] (ao pD):=by walk_at"sc"
abbrev Yn:Stmt:=top 141
theorem Uc:aD ["pair","v"] ["pair"] (ao Yn):=by walk_at"sc"
abbrev acH:Stmt:=top 142
theorem Yo:aD ["pair","v"] ["pair"] (ao acH):=by walk_at"sc"
abbrev Yp:Stmt:=top 143
theorem Ud:aD ["pair","v"] ["pair"] (ao Yp):=by walk_at"sc"
abbrev acI:Stmt:=top 144
theorem Yq:aD ["pair","v"] ["pair"] (ao acI):=by walk_at"sc"
abbrev sI:Stmt:=top 147
theorem jT:aD ["c","k","kind","n","make"] ["c","k"] (ao sI):=by walk_at"sc"
abbrev uZ:Stmt:=top 148
theorem oX:aD ["c","k","before","earlier"] ["c","k"] (ao uZ):=by walk_at"sc"
abbrev zW:Stmt:=top 149
theorem sJ:aD ["c","b","k"] ["c","b"] (ao zW):=by walk_at"sc"
abbrev qP:Stmt:=top 150
theorem pH:aD ["c","b","k"] ["c","b"] (ao qP):=by walk_at"sc"
abbrev GR:Stmt:=top 151
theorem Rm:aD ["c","v"] ["c","v"] (ao GR):=by walk_at"sc"
abbrev Ue:Stmt:=top 158
theorem ZK:aD ["desk","c","k"] ["desk","c","k"] (ao Ue):=by walk_at"sc"
abbrev J7:Stmt:=top 159
theorem Ug:aD ["desk","c","v"] ["desk","c","v"] (ao J7):=by walk_at"sc"
abbrev yj:Stmt:=top 160
theorem Hu:aD ["desk","c","v"] ["desk","c","v"] (ao yj):=by walk_at"sc"
abbrev zX:Stmt:=top 161
theorem yp:aD ["desk","c","b","k"] ["desk","c","b"] (ao zX):=by walk_at"sc"
abbrev zY:Stmt:=top 162
theorem J8:aD ["desk","c","b"] ["desk","c","b"] (ao zY):=by walk_at"sc"
abbrev zZ:Stmt:=top 163
theorem yq:aD ["desk","c","b","found"] ["desk","c","b"] (ao zZ):=by walk_at"sc"
abbrev CV:Stmt:=top 164
theorem MP:aD ["desk","c","k"] ["desk","c","k"] (ao CV):=by walk_at"sc"
abbrev J9:Stmt:=top 165
theorem GX:aD ["desk","c","v","k"] ["desk","c","v"] (ao J9):=by walk_at"sc"
noncomputable abbrev wG:Stmt:=inClass (top 169) 0
theorem En:aD ["self"] ["self"] (ao wG):=by walk_at"sc"
noncomputable abbrev CW:Stmt:=inClass (top 169) 1
theorem M4:aD ["self","n"] ["self","n"] (ao CW):=by walk_at"sc"
noncomputable abbrev yr:Stmt:=inClass (top 169) 2
theorem Hv:aD ["self","pair"] ["self","pair"] (ao yr):=by walk_at"sc"
noncomputable abbrev u0:Stmt:=inClass (top 169) 3
theorem CZ:aD ["self"] ["self"] (ao u0):=by walk_at"sc"
noncomputable abbrev wH:Stmt:=inClass (top 169) 4
theorem Eo:aD ["self","i"] ["self","i"] (ao wH):=by walk_at"sc"
abbrev qQ:Stmt:=top 172
theorem pI:aD ["b","n"] ["b"] (ao qQ):=by walk_at"sc"
abbrev Dc:Stmt:=top 173
theorem z8:aD ["n","gaps","pair"] ["n","gaps"] (ao Dc):=by walk_at"sc"
abbrev Yr:Stmt:=top 174
theorem acJ:aD ["desk","j"] ["desk","j"] (ao Yr):=by walk_at"sc"
abbrev ahA:Stmt:=top 175
theorem aiI:aD ["desk"] ["desk"] (ao ahA):=by walk_at"sc"
abbrev Rn:Stmt:=top 176
theorem Ka:aD ["desk","gaps","pair"] ["desk"] (ao Rn):=by walk_at"sc"
abbrev PX:Stmt:=top 177
theorem Wb:aD ["desk","n"] ["desk","n"] (ao PX):=by walk_at"sc"
abbrev acK:Stmt:=top 178
theorem aeT:aD ["desk","n"] ["desk","n"] (ao acK):=by walk_at"sc"
abbrev Ys:Stmt:=top 179
theorem acL:aD ["desk"] ["desk"] (ao Ys):=by walk_at"sc"
abbrev P0:Stmt:=top 180
theorem Kc:aD ["desk","b","found"] ["desk","b"] (ao P0):=by walk_at"sc"
abbrev Bk:Stmt:=top 181
theorem GZ:aD ["desk","b","found"] ["desk","b"] (ao Bk):=by walk_at"sc"
abbrev Yt:Stmt:=top 182
theorem Uh:aD ["desk","n","found"] ["desk","n"] (ao Yt):=by walk_at"sc"
abbrev Qa:Stmt:=top 186
theorem Wc:aD ["number"] ["number"] (ao Qa):=by walk_at"sc"
abbrev Kd:Stmt:=top 187
theorem Ui:aD ["action","desk","row"] ["action","desk","row"] (ao Kd):=by walk_at"sc"
abbrev Qc:Stmt:=top 188
theorem jM:aD ["calls","desk","told","place","number","call","behind","answer"] ["calls"] (ao Qc):=by walk_at"sc"
structure DM(K:W.Frag)(x q:Str)(st:Stmt) where
 a:Addr
 fd:FuncData
 F:Fun K x q st a fd
structure DF(K:W.Frag)(mg:Str->Option Value)(x:Str)(st:Stmt) extends DM K x x st where
 m:mg x=some (.ref a)
structure aiJ(K:W.Frag)(mg:Str->Option Value) where
 jt:DM K "__init__" "Pair.__init__" wC
 eO:DF K mg "whole_root" CG
 jW:DF K mg "allowed" Pb
 gD:DF K mg "too_great" Gx
 bG:DF K mg "difference" CJ
 iU:DF K mg "joined" TF
 pJ:DF K mg "crossed" Pg
 jX:DF K mg "powered" Ph
 jN:DF K mg "parted_from" zP
 ju:DF K mg "one_from_four" wD
 dR:DF K mg "one_from_minus_four" pC
 nT:DF K mg "made_one" JR
 fu:DF K mg "nearest_pair" xX
 dY:DF K mg "closest_pair" oR
 pK:DF K mg "step_up" Pj
 jF:DF K mg "step_down" Gz
 kY:DF K mg "is_first" JT
 pL:DF K mg "descent" Pk
 gw:DF K mg "number_from" zQ
 bA:DF K mg "with_difference" tQ
 bF:DF K mg "without_difference" qt
 mU:DF K mg "counted" Pn
 j7:DF K mg "end_below" GC
 mD:DF K mg "all_kept" JW
 G3:DF K mg "kin" ahv
 mF:DF K mg "families" Bg
 yt:DF K mg "sets" Rf
 yu:DF K mg "kept" acg
 j8:DF K mg "itsnumber" GD
 kZ:DF K mg "itsfirst" JX
 yw:DF K mg "here" ach
 yx:DF K mg "told" aci
 iD:DF K mg "pair_with_y" zR
 iG:DF K mg "pairs_up_to" pY
 mG:DF K mg "bound_of" JZ
 gF:DF K mg "least_of_gap" xY
 nZ:DF K mg "firsts_of" xZ
 dD:DF K mg "told_wrongly" yc
 lB:DF K mg "gap_by" TV
 iV:DF K mg "told_or_none" yd
 tV:DF K mg "first" Yc
 n6:DF K mg "isfirst" Pq
 qu:DF K mg "firsts" TX
 G4:DF K mg "can" ahw
 tW:DF K mg "least" Yd
 yC:DF K mg "upto" aco
 mH:DF K mg "manyupto" J0
 f_bound:DF K mg "bound" Ye
 tX:DF K mg "which" Rh
 tY:DF K mg "withy" Yg
 tZ:DF K mg "other" Yh
 mV:DF K mg "moved" Yi
 uc:DF K mg "begin" Yj
 gG:DF K mg "pair_at_hand" yg
 yD:DF K mg "keep" acv
 yE:DF K mg "drop" acw
 yF:DF K mg "take" acy
 j9:DF K mg "with_kept" GJ
 kh:DF K mg "from_kept" GK
 n8:DF K mg "against" Pu
 Uj:DF K mg "up" akA
 yG:DF K mg "down" acz
 oh:DF K mg "makeone" Px
 f_back:DF K mg "back" acA
 gK:DF K mg "greatest_common" tR
 rH:DF K mg "by_rule" Py
 mW:DF K mg "left_of" Pz
 lC:DF K mg "turns_round" zT
 iW:DF K mg "first_of_way" yh
 pZ:DF K mg "taken" Io
structure aiK(K:W.Frag)(mg:Str->Option Value) where
 jO:DF K mg "next_of_way" zU
 lD:DF K mg "after_steps" zV
 iH:DF K mg "whole_way" GP
 kj:DF K mg "way_steps" GQ
 eU:DF K mg "least_pair" CT
 fB:DF K mg "numbered" J3
 G5:DF K mg "nth" ahx
 qw:DF K mg "number" T4
 ou:DF K mg "is_pair" PB
 ud:DF K mg "above" Yk
 yH:DF K mg "many" acB
 oA:DF K mg "divides" PJ
 qx:DF K mg "common" T5
 mJ:DF K mg "together" J5
 yI:DF K mg "rule" acC
 qy:DF K mg "rootby" T7
 qz:DF K mg "leftof" T8
 mK:DF K mg "round_by" J6
 qC:DF K mg "square" Ua
 uf:DF K mg "power" Yl
 qD:DF K mg "parted" Ub
 G6:DF K mg "one" ahy
 oE:DF K mg "nearest" PL
 oF:DF K mg "closest" PN
 Uk:DF K mg "of" akC
 f_both:DF K mg "both" acF
 yJ:DF K mg "root" acG
 gM:DM K "__init__" "Answer.__init__" tU
 cX:DF K mg "square_and_triangle" pD
 vB:DF K mg "house" Yn
 Bl:DF K mg "legs" acH
 vC:DF K mg "sides" Yp
 Bm:DF K mg "draw" acI
 bI:DF K mg "answer_by_number" sI
 iQ:DF K mg "answer_by_rule" uZ
 eY:DF K mg "answer_from" zW
 gZ:DF K mg "answers_up_to" qP
 kE:DF K mg "is_answer" GR
 qF:DF K mg "answer" Ue
 mL:DF K mg "isanswer" J7
 gH:DF K mg "answernumber" yj
 iI:DF K mg "answerabove" zX
 iJ:DF K mg "manyanswers" zY
 iK:DF K mg "all_answers" zZ
 jG:DF K mg "answerrule" CV
 mO:DF K mg "answerof" J9
 jw:DM K "__init__" "Desk.__init__" wG
 mX:DM K "begin" "Desk.begin" CW
 jY:DM K "move_to" "Desk.move_to" yr
 iR:DM K "move_back" "Desk.move_back" u0
 jx:DM K "has_kept" "Desk.has_kept" wH
 g8:DF K mg "allowed_up_to" qQ
 lg:DF K mg "first_with" Dc
 ug:DF K mg "steps" Yr
 G7:DF K mg "way" ahA
 uh:DF K mg "diffs" Rn
 oG:DF K mg "leastof" PX
 yK:DF K mg "long" acK
 f_short:DF K mg "short" Ys
 oH:DF K mg "longest" P0
 ig:DF K mg "greatest" Bk
 um:DF K mg "minus" Yt
 rJ:DF K mg "call_of" Qa
 pN:DF K mg "answered" Kd
 rK:DF K mg "answers" Qc
structure aiL(K:W.Frag)(mg:Str->Option Value) where
 ZL:Tok
 zA:mg "LEAST_N"=some (.int 2 ZL)
 Ro:Tok
 vD:mg "GREATEST_N"=some (.int 60 Ro)
 ZM:Tok
 Qe:mg "LARGEST"=some (.int 1000000 ZM)
 Dd:Tok
 Df:mg "MOST_STEPS_DOWN"=some (.int 100 Dd)
 Ke:Tok
 jZ:mg "NO_SUCH_KEPT"=some (.int (-2) Ke)
 vG:Tok
 vH:mg "NO_MOVE_TO_TAKE_BACK"=some (.int (-6) vG)
 Ul:Tok
 Um:mg "NOT_BEGUN"=some (.int (-11) Ul)
 Hw:Tok
 Hx:mg "ALREADY_FIRST"=some (.int (-16) Hw)
 Kf:Tok
 aN:mg "WRONG_NUMBER"=some (.int (-22) Kf)
 Wd:Tok
 Kg:mg "TOO_MUCH"=some (.int (-28) Wd)
 Kh:Tok
 dZ:mg "NO_SUCH_PAIR"=some (.int (-33) Kh)
 Bo:Tok
 Bp:mg "GREATEST_PRODUCT"=some (.int 1000000 Bo)
 Rp:Tok
 vI:mg "GREATEST_K"=some (.int 60 Rp)
 Hy:Tok
 Hz:mg "GREATEST_TOLD"=some (.int 300 Hy)
 Bq:Tok
 Br:mg "GREATEST_COUNTED"=some (.int 2000 Bq)
 wO:Tok
 wQ:mg "GREATEST_Y_gapcalls"=some (.int 1000000 wO)
 Uo:Tok
 Uq:mg "MOST_KEPT"=some (.int 8 Uo)
 Dg:Tok
 cM:mg "GREATEST_NUMBER"=some (.int 12 Dg)
 Ep:Tok
 Er:mg "GREATEST_TIMES"=some (.int 1000000 Ep)
 Bs:Tok
 Bt:mg "GREATEST_DIVISOR"=some (.int 1000 Bs)
 Es:Tok
 Et:mg "GREATEST_ROUND"=some (.int 100 Es)
 Eu:Tok
 Ew:mg "GREATEST_POWER"=some (.int 12 Eu)
 vJ:Tok
 vK:mg "GREATEST_Y_paircalls"=some (.int 1000 vJ)
 Ey:Tok
 Ez:mg "GREATEST_BOUND"=some (.int 60 Ey)
 Dh:Tok
 Di:mg "GREATEST_SQUARE"=some (.int 10000 Dh)
 Ur:Tok
 kI:mg "LAST_KIND"=some (.int 4 Ur)
 M5:Tok
 z9:mg "LAST_NUMBER"=some (.int 12 M5)
 HB:Tok
 HD:mg "LEAST_BY_RULE"=some (.int 3 HB)
 EY:Tok
 j4:mg "GREATEST_ASKED"=some (.int 1000000000 EY)
 Dj:Tok
 Dk:mg "GREATEST_LISTED"=some (.int 2000 Dj)
 Dl:Tok
 Dm:mg "MOST_MOVES_BACK"=some (.int 12 Dl)
 Rq:Tok
 Rr:mg "MOST_STEPS"=some (.int 60 Rq)
 aeU:Tok
 aeV:mg "BEGIN"=some (.int 0 aeU)
 Aa:mg "abs"=none
 Us:mg "enumerate"=none
 lR:mg "len"=none
 ahB:mg "max"=none
 ahC:mg "min"=none
 rB:mg "range"=none
structure aiM(K:W.Frag)(mg:Str->Option Value) extends aiJ K mg,aiK K mg,aiL K mg where
 aq:Addr
 aJ:Cls K aq
 fY:mg "Pair"=some (.ref aq)
 fZ:Mk K aq jt.a
 aV:jU K aq "x"
 aX:jU K aq "y"
 iB:Addr
 lE:Cls K iB
 yL:mg "Answer"=some (.ref iB)
 yM:Mk K iB gM.a
 uK:jU K iB "row"
 iu:jU K iB "value"
 aA:Addr
 aB:Cls K aA
 aiN:mg "Desk"=some (.ref aA)
 aiO:Mk K aA jw.a
 fC:jU K aA "earlier"
 bx:jU K aA "hand"
 bR:jU K aA "kept"
 aR:jU K aA "n"
 bT:jU K aA "one"
 Rt:Meth K aA "begin" mX.a
 Kl:Meth K aA "move_to" jY.a
 Fb:Meth K aA "move_back" iR.a
 iw:Meth K aA "has_kept" jx.a
structure Facts(K:W.Frag)(mg:Str->Option Value) extends aiM K mg where
 rC:Addr
 Dn:mg "DESK_CALLS"=some (.ref rC)
 dG:List Addr
 vL:jD K rC 12 dG
 Km:cI K dG 0 [V.ref mD.a,V.int (0)]
 Ko:cI K dG 1 [V.ref G3.a,V.int (2)]
 Kr:cI K dG 2 [V.ref mF.a,V.int (0)]
 Ks:cI K dG 3 [V.ref yt.a,V.int (2)]
 Ku:cI K dG 4 [V.ref yu.a,V.int (0)]
 Kv:cI K dG 5 [V.ref j8.a,V.int (0)]
 Kw:cI K dG 6 [V.ref kZ.a,V.int (0)]
 Ky:cI K dG 7 [V.ref yw.a,V.int (0)]
 Kz:cI K dG 8 [V.ref yx.a,V.int (0)]
 uo:Addr
 G8:mg "GAP_CALLS"=some (.ref uo)
 dg:List Addr
 yN:jD K uo 51 dg
 M6:cI K dg 0 [V.ref tV.a,V.int (0)]
 M7:cI K dg 1 [V.ref n6.a,V.int (0)]
 M8:cI K dg 2 [V.ref qu.a,V.int (2)]
 M9:cI K dg 3 [V.ref G4.a,V.int (2)]
 Nb:cI K dg 4 [V.ref tW.a,V.int (2)]
 Nf:cI K dg 5 [V.ref yC.a,V.int (3)]
 Ng:cI K dg 6 [V.ref mH.a,V.int (3)]
 Ni:cI K dg 7 [V.ref f_bound.a,V.int (1)]
 Nj:cI K dg 8 [V.ref tX.a,V.int (2)]
 Nk:cI K dg 9 [V.ref tY.a,V.int (3)]
 KC:cI K dg 10 [V.ref tZ.a,V.int (0)]
 rD:Addr
 Dq:mg "MOVE_CALLS"=some (.ref rD)
 cu:List Addr
 vM:jD K rD 0 cu
 KD:cI K cu 0 [V.ref uc.a,V.int (1)]
 KH:cI K cu 1 [V.ref gG.a,V.int (2)]
 KJ:cI K cu 2 [V.ref yD.a,V.int (0)]
 KN:cI K cu 3 [V.ref yE.a,V.int (1)]
 KQ:cI K cu 4 [V.ref yF.a,V.int (1)]
 KR:cI K cu 5 [V.ref j9.a,V.int (1)]
 KY:cI K cu 6 [V.ref kh.a,V.int (1)]
 K4:cI K cu 7 [V.ref n8.a,V.int (1)]
 K5:cI K cu 8 [V.ref Uj.a,V.int (0)]
 K6:cI K cu 9 [V.ref yG.a,V.int (0)]
 HJ:cI K cu 10 [V.ref oh.a,V.int (0)]
 HN:cI K cu 11 [V.ref f_back.a,V.int (0)]
 oY:Addr
 yO:mg "NUMBER_CALLS"=some (.ref oY)
 bL:List Addr
 sO:jD K oY 39 bL
 Fd:cI K bL 0 [V.ref G5.a,V.int (2)]
 Fe:cI K bL 1 [V.ref qw.a,V.int (2)]
 Fg:cI K bL 2 [V.ref ou.a,V.int (2)]
 Fi:cI K bL 3 [V.ref ud.a,V.int (1)]
 Fj:cI K bL 4 [V.ref yH.a,V.int (1)]
 Fl:cI K bL 5 [V.ref oA.a,V.int (2)]
 Fo:cI K bL 6 [V.ref qx.a,V.int (2)]
 Fp:cI K bL 7 [V.ref mJ.a,V.int (2)]
 Fq:cI K bL 8 [V.ref yI.a,V.int (1)]
 Ft:cI K bL 9 [V.ref qy.a,V.int (2)]
 Dr:cI K bL 10 [V.ref qz.a,V.int (2)]
 Ds:cI K bL 11 [V.ref mK.a,V.int (1)]
 rE:Addr
 Dt:mg "PAIR_CALLS"=some (.ref rE)
 dH:List Addr
 vN:jD K rE 21 dH
 K7:cI K dH 0 [V.ref qC.a,V.int (0)]
 K8:cI K dH 1 [V.ref uf.a,V.int (1)]
 K9:cI K dH 2 [V.ref qD.a,V.int (2)]
 La:cI K dH 3 [V.ref G6.a,V.int (0)]
 Lb:cI K dH 4 [V.ref oE.a,V.int (1)]
 Ld:cI K dH 5 [V.ref oF.a,V.int (1)]
 Le:cI K dH 6 [V.ref Uk.a,V.int (2)]
 Lf:cI K dH 7 [V.ref f_both.a,V.int (4)]
 Lg:cI K dH 8 [V.ref yJ.a,V.int (1)]
 Ip:Addr
 aeW:mg "KINDS"=some (.ref Ip)
 u5:List Addr
 Du:jD K Ip 0 u5
 ZP:cI K u5 0 [V.int (2),V.int (1),V.int (0),V.ref cX.a]
 ZQ:cI K u5 1 [V.int (2),V.int (1),V.int (0),V.ref vB.a]
 ZR:cI K u5 2 [V.int (2),V.int (1),V.int (1),V.ref Bl.a]
 ZS:cI K u5 3 [V.int (3),V.int (1),V.int (0),V.ref vC.a]
 ZV:cI K u5 4 [V.int (2),V.int (1),V.int (1),V.ref Bm.a]
 Dv:Addr
 Yu:mg "RULES"=some (.ref Dv)
 u6:List Addr
 Dy:jD K Dv 0 u6
 ZW:cI K u6 0 [V.int (34),V.int (2)]
 ZX:cI K u6 1 [V.int (6),V.int (0)]
 Z0:cI K u6 2 [V.int (6),V.int (2)]
 Z1:cI K u6 3 [V.int (4),V.int (0)]
 Z2:cI K u6 4 [V.int (6),V.int (-2)]
 sS:Addr
 Lh:mg "RIDDLE_CALLS"=some (.ref sS)
 cT:List Addr
 Li:jD K sS 62 cT
 Fv:cI K cT 0 [V.ref qF.a,V.int (2)]
 Fw:cI K cT 1 [V.ref mL.a,V.int (2)]
 Fx:cI K cT 2 [V.ref gH.a,V.int (2)]
 Fy:cI K cT 3 [V.ref iI.a,V.int (2)]
 Fz:cI K cT 4 [V.ref iJ.a,V.int (2)]
 FJ:cI K cT 5 [V.ref iK.a,V.int (2)]
 FN:cI K cT 6 [V.ref jG.a,V.int (2)]
 FP:cI K cT 7 [V.ref mO.a,V.int (2)]
 uq:Addr
 G9:mg "WAY_CALLS"=some (.ref uq)
 eV:List Addr
 yP:jD K uq 30 eV
 Nm:cI K eV 0 [V.ref ug.a,V.int (1)]
 Np:cI K eV 1 [V.ref G7.a,V.int (0)]
 Nr:cI K eV 2 [V.ref uh.a,V.int (0)]
 Nt:cI K eV 3 [V.ref oG.a,V.int (1)]
 Nu:cI K eV 4 [V.ref yK.a,V.int (1)]
 Nv:cI K eV 5 [V.ref f_short.a,V.int (0)]
 Ny:cI K eV 6 [V.ref oH.a,V.int (1)]
 Nz:cI K eV 7 [V.ref ig.a,V.int (1)]
 NK:cI K eV 8 [V.ref um.a,V.int (1)]
section
variable{K:W.Frag}{mg:Str->Option Value}(M:Facts K mg)
theorem aZ:Binds K M.jt.fd ["self","x","y"] []:=M.jt.F.binds (by walk_at"b3")
theorem lq:Binds K M.eO.fd ["m"] []:=M.eO.F.binds (by walk_at"b1")
theorem rM:Binds K M.jW.fd ["n"] []:=M.jW.F.binds (by walk_at"b1")
theorem oJ:Binds K M.gD.fd ["pair"] []:=M.gD.F.binds (by walk_at"b1")
theorem bZ:Binds K M.bG.fd ["n","pair"] []:=M.bG.F.binds (by walk_at"b2")
theorem nM:Binds K M.iU.fd ["n","pair","other"] []:=M.iU.F.binds (by walk_at"b3")
theorem Qg:Binds K M.pJ.fd ["n","pair","other"] []:=M.pJ.F.binds (by walk_at"b3")
theorem rN:Binds K M.jX.fd ["n","pair","k"] []:=M.jX.F.binds (by walk_at"b3")
theorem Ab:Binds K M.jN.fd ["n","pair","other"] []:=M.jN.F.binds (by walk_at"b3")
theorem HS:Binds K M.ju.fd ["pair"] []:=M.ju.F.binds (by walk_at"b1")
theorem wR:Binds K M.dR.fd ["pair"] []:=M.dR.F.binds (by walk_at"b1")
theorem Lj:Binds K M.nT.fd ["n","pair"] []:=M.nT.F.binds (by walk_at"b2")
theorem sV:Binds K M.fu.fd ["n","y"] []:=M.fu.F.binds (by walk_at"b2")
theorem Lk:Binds K M.dY.fd ["n","b"] []:=M.dY.F.binds (by walk_at"b2")
theorem Qh:Binds K M.pK.fd ["n","one","pair"] []:=M.pK.F.binds (by walk_at"b3")
theorem ur:Binds K M.jF.fd ["n","one","pair"] []:=M.jF.F.binds (by walk_at"b3")
theorem vO:Binds K M.kY.fd ["n","one","pair"] []:=M.kY.F.binds (by walk_at"b3")
theorem Qi:Binds K M.pL.fd ["n","one","pair"] []:=M.pL.F.binds (by walk_at"b3")
theorem qb:Binds K M.gw.fd ["n","one","b"] []:=M.gw.F.binds (by walk_at"b3")
theorem bW:Binds K M.bA.fd ["n","pair"] []:=M.bA.F.binds (by walk_at"b2")
theorem cQ:Binds K M.bF.fd ["pair"] []:=M.bF.F.binds (by walk_at"b1")
theorem zB:Binds K M.mU.fd ["pairs"] []:=M.mU.F.binds (by walk_at"b1")
theorem yQ:Binds K M.j7.fd ["desk","pair"] []:=M.j7.F.binds (by walk_at"b2")
theorem Wg:Binds K M.mD.fd ["desk"] []:=M.mD.F.binds (by walk_at"b1")
theorem akD:Binds K M.G3.fd ["desk","i","j"] []:=M.G3.F.binds (by walk_at"b3")
theorem Wh:Binds K M.mF.fd ["desk"] []:=M.mF.F.binds (by walk_at"b1")
theorem aiP:Binds K M.yt.fd ["desk","s","k"] []:=M.yt.F.binds (by walk_at"b3")
theorem aiQ:Binds K M.yu.fd ["desk"] []:=M.yu.F.binds (by walk_at"b1")
theorem Ut:Binds K M.j8.fd ["desk"] []:=M.j8.F.binds (by walk_at"b1")
theorem Ln:Binds K M.kZ.fd ["desk"] []:=M.kZ.F.binds (by walk_at"b1")
theorem aiR:Binds K M.yw.fd ["desk"] []:=M.yw.F.binds (by walk_at"b1")
theorem aiS:Binds K M.yx.fd ["desk"] []:=M.yx.F.binds (by walk_at"b1")
theorem uL:Binds K M.iD.fd ["n","gap","y"] []:=M.iD.F.binds (by walk_at"b3")
theorem uM:Binds K M.iG.fd ["n","gap","b"] []:=M.iG.F.binds (by walk_at"b3")
theorem Bu:Binds K M.mG.fd ["one","k"] []:=M.mG.F.binds (by walk_at"b2")
theorem sW:Binds K M.gF.fd ["n","one","gap"] []:=M.gF.F.binds (by walk_at"b3")
theorem Uu:Binds K M.nZ.fd ["n","one","gap"] []:=M.nZ.F.binds (by walk_at"b3")
theorem j5:Binds K M.dD.fd ["s","k"] []:=M.dD.F.binds (by walk_at"b2")
theorem sX:Binds K M.lB.fd ["s","k"] []:=M.lB.F.binds (by walk_at"b2")
theorem yR:Binds K M.iV.fd ["pair"] []:=M.iV.F.binds (by walk_at"b1")
theorem aeX:Binds K M.tV.fd ["desk"] []:=M.tV.F.binds (by walk_at"b1")
theorem Z4:Binds K M.n6.fd ["desk"] []:=M.n6.F.binds (by walk_at"b1")
theorem acM:Binds K M.qu.fd ["desk","s","k"] []:=M.qu.F.binds (by walk_at"b3")
theorem akE:Binds K M.G4.fd ["desk","s","k"] []:=M.G4.F.binds (by walk_at"b3")
theorem aeY:Binds K M.tW.fd ["desk","s","k"] []:=M.tW.F.binds (by walk_at"b3")
theorem aiT:Binds K M.yC.fd ["desk","s","k","b"] []:=M.yC.F.binds (by walk_at"b4")
theorem Wi:Binds K M.mH.fd ["desk","s","k","b"] []:=M.mH.F.binds (by walk_at"b4")
theorem aeZ:Binds K M.f_bound.fd ["desk","k"] []:=M.f_bound.F.binds (by walk_at"b2")
theorem ae0:Binds K M.tX.fd ["desk","s","b"] []:=M.tX.F.binds (by walk_at"b3")
theorem ae1:Binds K M.tY.fd ["desk","s","k","y"] []:=M.tY.F.binds (by walk_at"b4")
theorem ae2:Binds K M.tZ.fd ["desk"] []:=M.tZ.F.binds (by walk_at"b1")
theorem uw:Binds K M.mV.fd ["desk","pair"] []:=M.mV.F.binds (by walk_at"b2")
theorem ae3:Binds K M.uc.fd ["desk","n"] []:=M.uc.F.binds (by walk_at"b2")
theorem Lp:Binds K M.gG.fd ["desk","x","y"] []:=M.gG.F.binds (by walk_at"b3")
theorem aiU:Binds K M.yD.fd ["desk"] []:=M.yD.F.binds (by walk_at"b1")
theorem aiV:Binds K M.yE.fd ["desk","i"] []:=M.yE.F.binds (by walk_at"b2")
theorem aiW:Binds K M.yF.fd ["desk","i"] []:=M.yF.F.binds (by walk_at"b2")
theorem Uv:Binds K M.j9.fd ["desk","i"] []:=M.j9.F.binds (by walk_at"b2")
theorem Uw:Binds K M.kh.fd ["desk","i"] []:=M.kh.F.binds (by walk_at"b2")
theorem Z5:Binds K M.n8.fd ["desk","i"] []:=M.n8.F.binds (by walk_at"b2")
theorem anq:Binds K M.Uj.fd ["desk"] []:=M.Uj.F.binds (by walk_at"b1")
theorem aiX:Binds K M.yG.fd ["desk"] []:=M.yG.F.binds (by walk_at"b1")
theorem Z6:Binds K M.oh.fd ["desk"] []:=M.oh.F.binds (by walk_at"b1")
theorem aiY:Binds K M.f_back.fd ["desk"] []:=M.f_back.F.binds (by walk_at"b1")
theorem Dz:Binds K M.gK.fd ["a","b"] []:=M.gK.F.binds (by walk_at"b2")
theorem Z7:Binds K M.rH.fd ["n","one","k"] []:=M.rH.F.binds (by walk_at"b3")
theorem zE:Binds K M.mW.fd ["pair","m"] []:=M.mW.F.binds (by walk_at"b2")
theorem NP:Binds K M.lC.fd ["n","one","m"] []:=M.lC.F.binds (by walk_at"b3")
theorem yS:Binds K M.iW.fd ["n"] []:=M.iW.F.binds (by walk_at"b1")
theorem ae4:Binds K M.pZ.fd ["n","pair"] []:=M.pZ.F.binds (by walk_at"b2")
theorem Ac:Binds K M.jO.fd ["n","pair"] []:=M.jO.F.binds (by walk_at"b2")
theorem NQ:Binds K M.lD.fd ["n","j"] []:=M.lD.F.binds (by walk_at"b2")
theorem qG:Binds K M.iH.fd ["n"] []:=M.iH.F.binds (by walk_at"b1")
theorem yU:Binds K M.kj.fd ["n"] []:=M.kj.F.binds (by walk_at"b1")
theorem mY:Binds K M.eU.fd ["n"] []:=M.eU.F.binds (by walk_at"b1")
theorem lu:Binds K M.fB.fd ["desk","k"] []:=M.fB.F.binds (by walk_at"b2")
theorem akF:Binds K M.G5.fd ["desk","n","k"] []:=M.G5.F.binds (by walk_at"b3")
theorem acN:Binds K M.qw.fd ["desk","x","y"] []:=M.qw.F.binds (by walk_at"b3")
theorem Z8:Binds K M.ou.fd ["desk","x","y"] []:=M.ou.F.binds (by walk_at"b3")
theorem ae5:Binds K M.ud.fd ["desk","b"] []:=M.ud.F.binds (by walk_at"b2")
theorem aiZ:Binds K M.yH.fd ["desk","b"] []:=M.yH.F.binds (by walk_at"b2")
theorem Z9:Binds K M.oA.fd ["desk","j","k"] []:=M.oA.F.binds (by walk_at"b3")
theorem acO:Binds K M.qx.fd ["desk","j","k"] []:=M.qx.F.binds (by walk_at"b3")
theorem Wj:Binds K M.mJ.fd ["desk","j","k"] []:=M.mJ.F.binds (by walk_at"b3")
theorem ai0:Binds K M.yI.fd ["desk","k"] []:=M.yI.F.binds (by walk_at"b2")
theorem acP:Binds K M.qy.fd ["desk","k","b"] []:=M.qy.F.binds (by walk_at"b3")
theorem acQ:Binds K M.qz.fd ["desk","m","k"] []:=M.qz.F.binds (by walk_at"b3")
theorem Wk:Binds K M.mK.fd ["desk","m"] []:=M.mK.F.binds (by walk_at"b2")
theorem acR:Binds K M.qC.fd ["desk"] []:=M.qC.F.binds (by walk_at"b1")
theorem ae6:Binds K M.uf.fd ["desk","k"] []:=M.uf.F.binds (by walk_at"b2")
theorem acS:Binds K M.qD.fd ["desk","u","v"] []:=M.qD.F.binds (by walk_at"b3")
theorem akG:Binds K M.G6.fd ["desk"] []:=M.G6.F.binds (by walk_at"b1")
theorem aac:Binds K M.oE.fd ["desk","y"] []:=M.oE.F.binds (by walk_at"b2")
theorem aad:Binds K M.oF.fd ["desk","b"] []:=M.oF.F.binds (by walk_at"b2")
theorem anr:Binds K M.Uk.fd ["desk","u","v"] []:=M.Uk.F.binds (by walk_at"b3")
theorem ai1:Binds K M.f_both.fd ["desk","u","v","s","t"] []:=M.f_both.F.binds (by walk_at"b5")
theorem ai2:Binds K M.yJ.fd ["desk","m"] []:=M.yJ.F.binds (by walk_at"b2")
theorem jH:Binds K M.gM.fd ["self","value","row"] []:=M.gM.F.binds (by walk_at"b3")
theorem wU:Binds K M.cX.fd ["pair"] []:=M.cX.F.binds (by walk_at"b1")
theorem ae7:Binds K M.vB.fd ["pair"] []:=M.vB.F.binds (by walk_at"b1")
theorem ai3:Binds K M.Bl.fd ["pair"] []:=M.Bl.F.binds (by walk_at"b1")
theorem ae8:Binds K M.vC.fd ["pair"] []:=M.vC.F.binds (by walk_at"b1")
theorem ai4:Binds K M.Bm.fd ["pair"] []:=M.Bm.F.binds (by walk_at"b1")
theorem dF:Binds K M.bI.fd ["c","k"] []:=M.bI.F.binds (by walk_at"b2")
theorem FQ:Binds K M.iQ.fd ["c","k"] []:=M.iQ.F.binds (by walk_at"b2")
theorem nO:Binds K M.eY.fd ["c","b"] []:=M.eY.F.binds (by walk_at"b2")
theorem wI:Binds K M.gZ.fd ["c","b"] []:=M.gZ.F.binds (by walk_at"b2")
theorem yV:Binds K M.kE.fd ["c","v"] []:=M.kE.F.binds (by walk_at"b2")
theorem acT:Binds K M.qF.fd ["desk","c","k"] []:=M.qF.F.binds (by walk_at"b3")
theorem Wm:Binds K M.mL.fd ["desk","c","v"] []:=M.mL.F.binds (by walk_at"b3")
theorem Lq:Binds K M.gH.fd ["desk","c","v"] []:=M.gH.F.binds (by walk_at"b3")
theorem NT:Binds K M.iI.fd ["desk","c","b"] []:=M.iI.F.binds (by walk_at"b3")
theorem NZ:Binds K M.iJ.fd ["desk","c","b"] []:=M.iJ.F.binds (by walk_at"b3")
theorem N5:Binds K M.iK.fd ["desk","c","b"] []:=M.iK.F.binds (by walk_at"b3")
theorem Ru:Binds K M.jG.fd ["desk","c","k"] []:=M.jG.F.binds (by walk_at"b3")
theorem Wn:Binds K M.mO.fd ["desk","c","v"] []:=M.mO.F.binds (by walk_at"b3")
theorem HW:Binds K M.jw.fd ["self"] []:=M.jw.F.binds (by walk_at"b1")
theorem Rv:Binds K M.mX.fd ["self","n"] []:=M.mX.F.binds (by walk_at"b2")
theorem Lr:Binds K M.jY.fd ["self","pair"] []:=M.jY.F.binds (by walk_at"b2")
theorem FT:Binds K M.iR.fd ["self"] []:=M.iR.F.binds (by walk_at"b1")
theorem iy:Binds K M.jx.fd ["self","i"] []:=M.jx.F.binds (by walk_at"b2")
theorem wJ:Binds K M.g8.fd ["b"] []:=M.g8.F.binds (by walk_at"b1")
theorem DG:Binds K M.lg.fd ["n","gaps"] []:=M.lg.F.binds (by walk_at"b2")
theorem ae9:Binds K M.ug.fd ["desk","j"] []:=M.ug.F.binds (by walk_at"b2")
theorem akH:Binds K M.G7.fd ["desk"] []:=M.G7.F.binds (by walk_at"b1")
theorem afa:Binds K M.uh.fd ["desk"] []:=M.uh.F.binds (by walk_at"b1")
theorem aae:Binds K M.oG.fd ["desk","n"] []:=M.oG.F.binds (by walk_at"b2")
theorem ai5:Binds K M.yK.fd ["desk","n"] []:=M.yK.F.binds (by walk_at"b2")
theorem afb:Binds K M.f_short.fd ["desk"] []:=M.f_short.F.binds (by walk_at"b1")
theorem aaf:Binds K M.oH.fd ["desk","b"] []:=M.oH.F.binds (by walk_at"b2")
theorem Wo:Binds K M.ig.fd ["desk","b"] []:=M.ig.F.binds (by walk_at"b2")
theorem afc:Binds K M.um.fd ["desk","n"] []:=M.um.F.binds (by walk_at"b2")
theorem aag:Binds K M.rJ.fd ["number"] []:=M.rJ.F.binds (by walk_at"b1")
theorem Wq:Binds K M.pN.fd ["action","desk","row"] []:=M.pN.F.binds (by walk_at"b3")
end
structure bU{K:W.Frag}(mg:Str->Option Value)(base:Heap)(M:Facts K mg)(Ts:List Tab) where
 t1:Tab
 L1:ab3 mg base M.dY.fd t1
 h1:t1∈Ts
 p1:t1.pos=⟨73,31,73,68⟩
 q1:t1.q=("closest_pair":Str)++".<locals>."++"<lambda>"
 u1:∀t'∈Ts,t'.P=t1.P->t'=t1
 t2:Tab
 L2:ab3 mg base M.pZ.fd t2
 h2:t2∈Ts
 p2:t2.pos=⟨328,28,328,52⟩
 q2:t2.q=("taken":Str)++".<locals>."++"<lambda>"
 u2:∀t'∈Ts,t'.P=t2.P->t'=t2
 t3:Tab
 L3:ab3 mg base M.ig.fd t3
 h3:t3∈Ts
 p3:t3.pos=⟨600,38,600,63⟩
 q3:t3.q=("greatest":Str)++".<locals>."++"<lambda>"
 u3:∀t'∈Ts,t'.P=t3.P->t'=t3
theorem jy{P:Program}{w:World}{K:W.Frag}{mg:Str->Option Value}{base:Heap}{x qual:Str}{st:Stmt}{f:Addr}{fd:FuncData}{N ps:List Str}{k:Nat}{sp:Sp}(F:Fun K x qual st f fd)(S:aD N ps (ao st))
 (hb:∀(vs:List V)(H:Hp)(Q:VK)(E:XK),sp vs H Q E->vs.length=ps.length/\∀(cdv:Value)(A:Around)(outer:List Env)(s:Shared),lU k (A.deeper (envOfC qual (ao st) s.heap.objs.size f cdv))->
   ∃t,Vr (SX cV P w K mg base N qual (ao st) f cdv A outer s H E).nox (qZ st) t/\t { nx:=fun _ H'=>Q .non H',rt:=Q } (start N vs) H):bf P w K mg base cV (k+1) f fd ps sp:=
 F.ok S (fun vs H Q E h=>(hb vs H Q E h).1) (fun cdv A outer s H vs Q E hr h=>(hb vs H Q E h).2 cdv A outer s hr)
section
variable{X:Cx}{x:Str}{st:Stmt}{k m:Nat}{ps:List Str}{sp:Sp}{e:Expr}{es:List Expr}{t:TA}{p pos:Pos}{C f:Addr}{fd:FuncData}
theorem bQ(g:DF X.K X.mg x st)(F:bf X.prog X.w X.K X.mg X.base cV k g.a g.fd ps sp)(hr:lU m X.A)(hb:Binds X.K g.fd ps [])(ha:PA X (e::es) t)(hk:k<=m:=by decide)(hg:Gl X x:=by exact rfl)(hdb:(x==("__debug__":Str))=false:=by decide)(he:starEach (e::es) X.env=(false,eval e X.env)::starEach es X.env:=by rfl)(hpl:(backTo pos (starEach es X.env)).any (·.1)=false:=by rfl):PE X (.Call (.Name x p) (e::es) [] pos) (abw sp [] E0 t):=
 Ci F (hr.mono hk) hg g.m g.F.kp hb .nil pA ha hdb he hpl
theorem Ad(M:Mk X.K C f)(F:bf X.prog X.w X.K X.mg X.base cV k f fd ps sp)(hr:lU m X.A)(hm:X.mg x=some (.ref C))(hb:Binds X.K fd ps [])(ha:PA X (e::es) t)(hk:k+1<=m:=by decide)(hg:Gl X x:=by exact rfl)(hdb:(x==("__debug__":Str))=false:=by decide)(he:starEach (e::es) X.env=(false,eval e X.env)::starEach es X.env:=by rfl)(hpl:(backTo pos (starEach es X.env)).any (·.1)=false:=by rfl):PE X (.Call (.Name x p) (e::es) [] pos) (Ow C sp [] E0 t):=
 aed M F (hr.mono hk) hg hm hb .nil pA ha hdb he hpl
variable{a b c:Expr}{ta tb tc:TE}
theorem bO(ha:PE X a ta)(h1:starEach [a] X.env=(false,eval a X.env)::starEach [] X.env:=by rfl):PA X [a] (Gu ta VB):=cU ha lZ h1
theorem dh(ha:PE X a ta)(hb:PE X b tb)(h1:starEach [b] X.env=(false,eval b X.env)::starEach [] X.env:=by rfl)(h2:starEach [a,b] X.env=(false,eval a X.env)::starEach [b] X.env:=by rfl):PA X [a,b] (Gu ta (Gu tb VB)):=cU ha (bO hb h1) h2
theorem nU(ha:PE X a ta)(hb:PE X b tb)(hc:PE X c tc)(h1:starEach [c] X.env=(false,eval c X.env)::starEach [] X.env:=by rfl)(h2:starEach [b,c] X.env=(false,eval b X.env)::starEach [c] X.env:=by rfl)(h3:starEach [a,b,c] X.env=(false,eval a X.env)::starEach [b,c] X.env:=by rfl):PA X [a,b,c] (Gu ta (Gu tb (Gu tc VB))):=cU ha (dh hb hc h1 h2) h3
theorem fD{i:Int}{tk:Tok}(h:X.mg x=some (.int i tk))(hg:Gl X x:=by exact rfl)(hd:(x==("__debug__":Str))=false:=by decide):PE X (.Name x pos) (tC (.int i)):=iZ hg h (v:=.int i) ⟨_,rfl⟩ hd
theorem iM{a b:Expr}{ta tb:TE}{op:CmpOp}{r:R2}(ho:Jw X (compareOp op) r)(ha:PE X a ta)(hb:PE X b tb)(h:op≠.In:=by decide)(h2:op≠.NotIn:=by decide):PT X (.Compare a [op] [b] pos) (abp (tOp r ta tb)):=QK ho ha hb (rZ _ h h2)
theorem jz(i:Nat){te:TE}{pos':Pos}(hN:X.N.Nodup)(he:PE X e te)(hi:X.N[i]?=some x:=by rfl)(hx:Loc X.env.scope x:=by first|exact Or.inl rfl|exact Or.inr rfl)(hs:swapsWith e (some (.Name x pos')) pos.line X.env=pure false:=by rfl)(hf:X.fn x=true\/X.env.scope.names.lookup x=some .local:=by first|exact .inl rfl|exact .inr rfl|assumption):PS X (.Assign [.Name x pos'] e pos) (ad7 te (zK i)):=abk hN hi hx he hs hf
end
end Nq
end
namespace Ns
theorem adB{j:Nat}(hj:j<70){args:List Int}(h:args.length=argc.getD j 0):(∃a,[(j:Int)::args]=[[0,a]])\/Kp284Neutral.step none [(j:Int)::args]=(none,[-11]):=
 Xf (P:=fun c=>(∃a,c=[[0,a]])\/Kp284Neutral.step none c=(none,[-11])) (fun a=> .inl ⟨a,rfl⟩) (fun _ _=> .inr rfl) (.inr rfl) (fun _=> .inr rfl) (fun _=> .inr rfl) (fun _=> .inr rfl) (fun _=> .inr rfl) (fun _=> .inr rfl) (.inr rfl) (.inr rfl) (.inr rfl) (.inr rfl) (.inr rfl) (fun _ _=> .inr rfl) (.inr rfl) (fun _ _=> .inr rfl) (.inr rfl) (.inr rfl) (.inr rfl) (.inr rfl) (.inr rfl) (.inr rfl) (fun _=> .inr rfl) (fun _ _=> .inr rfl) (.inr rfl) (fun _=> .inr rfl) (fun _=> .inr rfl) (fun _ _=> .inr rfl) (fun _ _ _ _=> .inr rfl) (fun _=> .inr rfl) (fun _=> .inr rfl) (.inr rfl) (.inr rfl) (fun _=> .inr rfl) (fun _=> .inr rfl) (.inr rfl) (fun _=> .inr rfl) (fun _=> .inr rfl) (fun _=> .inr rfl) (fun _ _=> .inr rfl) (fun _ _=> .inr rfl) (fun _ _=> .inr rfl) (fun _=> .inr rfl) (fun _=> .inr rfl) (fun _ _=> .inr rfl) (fun _ _=> .inr rfl) (fun _ _=> .inr rfl) (fun _=> .inr rfl) (fun _ _=> .inr rfl) (fun _ _=> .inr rfl) (fun _=> .inr rfl) (.inr rfl) (.inr rfl) (fun _ _=> .inr rfl) (fun _ _=> .inr rfl) (fun _ _=> .inr rfl) (fun _ _ _=> .inr rfl) (fun _ _ _=> .inr rfl) (fun _=> .inr rfl) (fun _ _=> .inr rfl) (fun _ _ _=> .inr rfl) (.inr rfl) (fun _ _=> .inr rfl) (fun _ _=> .inr rfl) (fun _ _=> .inr rfl) (fun _ _=> .inr rfl) (fun _ _=> .inr rfl) (fun _ _=> .inr rfl) (fun _ _=> .inr rfl) (fun _ _=> .inr rfl) j hj args h
theorem af0{j:Nat}(hj:j<70)(h0:j≠0){args:List Int}(h:args.length=argc.getD j 0):Kp284Neutral.step none [(j:Int)::args]=(none,[-11]):=by
 rcases adB hj h with⟨a,e⟩|e
 ·simp only[List.cons.injEq,and_true]at e
  omega
 ·exact e
theorem Qo:∀(f:Nat)(l:List Int)(cs:List (List (List Int))),PyFlat.calls PyKp284.shape f l=some cs->cs.map PyKp284.whole=cs
 |f,[],cs,h=>by
  have:cs=[]:=by
   cases f<;>exact(Option.some.inj h).symm
  subst this
  rfl
 |f,p::r,cs,h=>by
  obtain⟨g,j,cs',e1,e2,e3,e4,e5,e6⟩:=Jd h
  subst e5
  rw[List.map_cons,Qo g _ cs' e6,e3,aa0 e2 (by rw[List.length_take];omega)]
theorem YG(j:Nat):argc.getD j 0<=4:=by
 by_cases h:j<70
 ·have:∀k:Fin 70,argc.getD k.val 0<=4:=by decide+kernel
  exact this ⟨j,h⟩
 ·rw[List.getD_eq_getElem?_getD,List.getElem?_eq_none_iff.mpr (by show 70<=j;omega)]
  exact Nat.zero_le _
end Ns
namespace Nq
open PySem PySem.Spec PyProof.Rows L2
local macro_rules | `(tactic| walk_at "bd") => `(tactic| first
  | exact Bd.nat (by assumption) | exact Sm.x (by assumption) | exact Sm.y (by assumption) | assumption
  | exact Bd.mul (by walk_at "bd") (by walk_at "bd") | exact Bd.add (by walk_at "bd") (by walk_at "bd") | exact Bd.sub (by walk_at "bd") (by walk_at "bd") | exact cH (by decide))
local macro_rules | `(tactic| walk_at "rd") => `(tactic| repeat (first
  | with_reducible (first
  | refine dj ?_ | refine gB ?_ | refine dw ?_ | refine iT ?_ | refine m7 ?_ | refine fH ?_
  | refine eZ ?_ | refine m8 ?_ | refine fj ?_ | refine ji ?_ | refine fJ ?_ | refine fK ?_ | refine jj ?_
  | refine dM ?_ | refine m9 ?_ | refine tH ?_ | refine nj ?_ | refine fM ?_ | refine jk ?_ | refine fO ?_ | refine jl ?_
  | refine mj ?_ | refine m6 ?_ | refine tE ?_ | refine jm ?_ | refine jo ?_ | refine jq ?_ | refine jr ?_
  | refine jf rfl ?_ | refine jg (by with_reducible assumption) ?_ | refine jh (by with_reducible assumption) ?_ | refine Exists.intro _ (And.intro rfl ?_))
  | (with_reducible refine fL ?_ ?_; focus exact tG (by walk_at "bd") (by walk_at "bd") (by decide))))
local macro_rules | `(tactic| rfl') => `(tactic| walk_at "rd")
section
variable{P:Program}{w:World}{K:W.Frag}{mg:Str->Option Value}{base:Heap}
theorem aY(M:Facts K mg):bf P w K mg base cV 1 M.jt.a M.jt.fd ["self","x","y"] (Q5 M.aq):=by
 refine M.jt.F.ok El (fun vs H Q E h=>?_) (fun cdv A outer s H vs Q E hr h=>?_)
 ·obtain⟨p,dx,x,y,rfl,_⟩:=h
  rfl
 ·obtain⟨p,dx,x,y,rfl,hp,k⟩:=h
  refine⟨_,(aj (lY (pv 0) (pv 1) rfl) (ak (lY (pv 0) (pv 2) rfl))),?_⟩
  refine⟨_,rfl,_,rfl,p,M.aq,dx,[],rfl,hp,M.aJ,M.aV,(by show 0<1000;decide),_,rfl,_,rfl,p,M.aq,dx,_,rfl,aG,M.aJ,M.aX,(by show 1<1000;decide),?_⟩
  refine k _ (Eq.trans aG (congrArg (fun q=>some (HO.ins M.aq dx q)) ?_)) fun b o e hb=>by rw[aH hb,aH hb];exact e
  show o9 "y" (V.int y) [(("x":Str),V.int x)]=_
  show(if("x":Str)="y" then _ else _)=_
  rw[if_neg (by decide+kernel)]
  rfl
def ai6(C:Addr):Sp:=fun vs H Q _=>∃(n:Nat)(p:Addr)(z:Pr),vs=[.int n,.ref p]/\aP C H p z/\Sm 2000 z/\n<2^64/\Q (.int (Kp279.diff n z)) H
theorem bV(M:Facts K mg):bf P w K mg base cV 1 M.bG.a M.bG.fd ["n","pair"] (ai6 M.aq):=by
 refine M.bG.F.ok MK (fun vs H Q E h=>?_) (fun cdv A outer s H vs Q E hr h=>?_)
 ·obtain⟨n,p,z,rfl,_⟩:=h
  rfl
 ·obtain⟨n,p,z,rfl,hp,hz,hn,k⟩:=h
  refine⟨_,(ak (au (aM gA (aM bh (cC M.aJ M.aV (pv 1)) (cC M.aJ M.aV (pv 1))) (aM bh (aM bh (pv 0) (cF M.aJ M.aX (pv 1))) (cF M.aJ M.aX (pv 1)))))),?_⟩
  rfl'
  exact k
def ahD(C:Addr)(f:Nat->Pr->Pr->Pr):Sp:=fun vs H Q _=>∃(n:Nat)(p q:Addr)(y z:Pr),vs=[.int n,.ref p,.ref q]/\aP C H p y/\aP C H q z/\Sm 1000 y/\Sm 1000 z/\n<2^64/\
 ∀r H',Same H H'->H r=none->aP C H' r (f n y z)->Q (.ref r) H'
theorem lF(M:Facts K mg):bf P w K mg base cV 3 M.iU.a M.iU.fd ["n","pair","other"] (ahD M.aq Kp279.times):=by
 refine M.iU.F.ok Zy (fun vs H Q E h=>?_) (fun cdv A outer s H vs Q E hr h=>?_)
 ·obtain⟨n,p,q,y,z,rfl,_⟩:=h
  rfl
 ·obtain⟨n,p,q,y,z,rfl,hp,hq,hy,hz,hn,k⟩:=h
  refine⟨_,(ak (au (Ad M.fZ (aY M) hr M.fY (aZ M) (dh (aM dX (aM bh (cC M.aJ M.aV (pv 1)) (cC M.aJ M.aV (pv 2))) (aM bh (aM bh (pv 0) (cF M.aJ M.aX (pv 1))) (cF M.aJ M.aX (pv 2)))) (aM dX (aM bh (cC M.aJ M.aV (pv 1)) (cF M.aJ M.aX (pv 2))) (aM bh (cF M.aJ M.aX (pv 1)) (cC M.aJ M.aV (pv 2)))))))),?_⟩
  rfl'
  refine cG (Kp279.times n y z) (by unfold Kp279.times;push_cast;rfl) (by unfold Kp279.times;push_cast;rfl) k
def afd(C:Addr):Sp:=fun vs H Q _=>∃(p:Addr)(z:Pr),vs=[.ref p]/\aP C H p z/\Q (.bl (!Kp284.ok z)) H
theorem mZ(M:Facts K mg):bf P w K mg base cV 1 M.gD.a M.gD.fd ["pair"] (afd M.aq):=by
 refine M.gD.F.ok Rb (fun vs H Q E h=>?_) (fun cdv A outer s H vs Q E hr h=>?_)
 ·obtain⟨p,z,rfl,_⟩:=h
  rfl
 ·obtain⟨p,z,rfl,hp,k⟩:=h
  rw[aiw]at k
  refine⟨_,(ak (au (abg (qX cZ (cC M.aJ M.aV (pv 0)) (fD M.Qe) (rZ _)) (Vs (qX cZ (cF M.aJ M.aX (pv 0)) (fD M.Qe) (rZ _)))))),?_⟩
  generalize hL:(1000000:Int)=L at k⊢
  rfl'
  refine cO (fun c=>?_) (fun c=>?_)
  ·rw[c,Bool.true_or]at k
   exact k
  ·rfl'
   have c:decide (L<z.x)=false:=by simpa using c
   rw[c,Bool.false_or]at k
   exact k
theorem Ls(M:Facts K mg):bf P w K mg base cV 3 M.pJ.a M.pJ.fd ["n","pair","other"] (ahD M.aq Kp279.against):=by
 refine M.pJ.F.ok V0 (fun vs H Q E h=>?_) (fun cdv A outer s H vs Q E hr h=>?_)
 ·obtain⟨n,p,q,y,z,rfl,_⟩:=h
  rfl
 ·obtain⟨n,p,q,y,z,rfl,hp,hq,hy,hz,hn,k⟩:=h
  refine⟨_,(ak (au (Ad M.fZ (aY M) hr M.fY (aZ M) (dh (bK nH rfl M.Aa (by decide+kernel) (bO (aM gA (aM bh (cC M.aJ M.aV (pv 1)) (cC M.aJ M.aV (pv 2))) (aM bh (aM bh (pv 0) (cF M.aJ M.aX (pv 1))) (cF M.aJ M.aX (pv 2)))))) (bK nH rfl M.Aa (by decide+kernel) (bO (aM gA (aM bh (cC M.aJ M.aV (pv 1)) (cF M.aJ M.aX (pv 2))) (aM bh (cF M.aJ M.aX (pv 1)) (cC M.aJ M.aV (pv 2)))))))))),?_⟩
  rfl'
  refine cG (Kp279.against n y z) ?_ ?_ k
  ·have e:=XQ (y.x*z.x) (n*y.y*z.y)
   push_cast at e
   exact e
  ·have e:=XQ (y.x*z.y) (y.y*z.x)
   push_cast at e
   exact e
def ai7:Sp:=fun vs H Q _=>∃m:Nat,vs=[.int m]/\m<2^400/\∀r:Nat,Ns.fX m r->Q (.int r) H
theorem jP(M:Facts K mg):bf P w K mg base cV 1 M.eO.a M.eO.fd ["m"] ai7:=by
 refine M.eO.F.ok uJ (fun vs H Q E h=>?_) (fun cdv A outer s H vs Q E hr h=>?_)
 ·obtain⟨m,rfl,_⟩:=h
  rfl
 ·obtain⟨m,rfl,hm,k⟩:=h
  obtain⟨r,pG⟩:=Ns.vf m
  refine⟨_,(aj (jz 1 uJ.nd (pv 0)) (aj (qj PassesOwn.never (iM cZ (aM bh (pv 1) (pv 1)) (pv 0)) (ak (jz 1 uJ.nd (aM cP (aM dX (pv 1) (aM cP (pv 0) (pv 1))) aC)))) (ak (au (pv 1))))),?_⟩
  rfl'
  refine abm (fun σ H'=>H'=H/\∃t:Nat,σ=[some (.int m),some (.int t)]/\r<=t/\t<=m) (fun σ _=>match σ with|[_,some (.int t)]=>t.toNat|_=>0) ⟨rfl,m,rfl,pG.qW,Nat.le_refl _⟩ ?_ ?_
  ·rintro σ H' ⟨rfl,t,rfl,h1,h2⟩
   have ht:t<2^400:=Nat.lt_of_le_of_lt h2 hm
   rfl'
   refine cO (fun c=>?_) (fun c=>?_)
   ·have c:(m:Int)<(t:Int)*(t:Int):=of_decide_eq_true c
    have c':m<t*t:=by exact_mod_cast c
    have hlt:r<t:=by
     rcases Nat.lt_or_ge r t with z|z
     ·exact z
     ·have e:t=r:=by omega
      have:=pG.le
      subst e
      omega
    have h0:(t:Int)≠0:=by omega
    rfl'
    refine lJ ⟨h0,(Bd.nat ht).mono (by decide)⟩ ?_
    rfl'
    refine lJ ⟨by decide,(by show(2:Int).natAbs<2^9000;exact Nat.lt_of_lt_of_le (by decide:2<2^2) (Nat.pow_le_pow_right (by decide) (by decide)))⟩ ?_
    rfl'
    have e1:(((t:Int)+((m:Int).fdiv (t:Int))).fdiv 2)=(((t+m/t)/2:Nat):Int):=by
     rw[Ns.oK,Int.fdiv_eq_ediv_of_nonneg _ (by decide)]
     rfl
    rw[e1]
    have g1:=Ns.Xb pG (show 0<t by omega)
    have g2:=Ns.adR pG hlt
    refine⟨⟨rfl,(t+m/t)/2,rfl,g1,by omega⟩,?_⟩
    show(((t+m/t)/2:Nat):Int).toNat<((t:Nat):Int).toNat
    omega
   ·have c:¬((m:Int)<(t:Int)*(t:Int)):=fun z=>c (decide_eq_true z)
    have c':t*t<=m:=by
     have:¬m<t*t:=fun z=>c (by exact_mod_cast z)
     omega
    have e:t=r:=(Ns.wW pG h1).mp c'
    subst e
    rfl'
    exact k t pG
  ·intro σ H' Q1 Q2 hQ h
   obtain⟨v,e,v2,e2,i,j,rfl,rfl,c,v3,e3,i3,j3,h5,rfl,kk,h6,h7⟩:=h
   exact⟨_,e,_,e2,i,j,rfl,rfl,c,_,e3,i3,j3,h5,rfl,kk,h6,hQ _ _ h7⟩
def aah:Sp:=fun vs H Q _=>∃n:Nat,vs=[.int n]/\n<2^64/\Q (.bl (Kp279.okN n)) H
theorem pO(M:Facts K mg):bf P w K mg base cV 2 M.jW.a M.jW.fd ["n"] aah:=by
 refine M.jW.F.ok VR (fun vs H Q E h=>?_) (fun cdv A outer s H vs Q E hr h=>?_)
 ·obtain⟨n,rfl,_⟩:=h
  rfl
 ·obtain⟨n,rfl,hn,k⟩:=h
  refine⟨_,(ak (au (ah5 (abr abo abo (fD M.zA) (pv 0) (fD M.vD)) (Vs (qX xu (aM bh (bQ M.eO (jP M) hr (lq M) (bO (pv 0))) (bQ M.eO (jP M) hr (lq M) (bO (pv 0)))) (pv 0) (rZ _)))))),?_⟩
  rfl'
  refine cO (fun c=>?_) (fun c=>?_)
  ·have c:(2:Int)<=(n:Int):=of_decide_eq_true c
   rfl'
   refine cO (fun c2=>?_) (fun c2=>?_)
   ·have c2:(n:Int)<=60:=of_decide_eq_true c2
    rfl'
    refine⟨n,rfl,Nat.lt_of_lt_of_le hn (Nat.pow_le_pow_right (by decide) (by decide)),fun r hr1=>?_⟩
    rfl'
    refine⟨n,rfl,Nat.lt_of_lt_of_le hn (Nat.pow_le_pow_right (by decide) (by decide)),fun r2 hr2=>?_⟩
    have e:=hr1.uniq hr2
    subst e
    have hb:r<2^64:=Nat.lt_of_le_of_lt hr1.qW hn
    rfl'
    have e:Kp279.okN n= !decide ((r:Int)*(r:Int)=(n:Int)):=by
     rw[Bool.eq_iff_iff,Ns.bD]
     simp only[Bool.not_eq_true',decide_eq_false_iff_not]
     constructor
     ·rintro ⟨_,_,h⟩ z
      exact h r hr1 (by exact_mod_cast z)
     ·intro z
      refine⟨by omega,by omega,fun t ht q=>z ?_⟩
      rw[hr1.uniq ht]
      exact_mod_cast q
    rw[e]at k
    exact k
   ·have c2:¬(n:Int)<=60:=fun z=>c2 (decide_eq_true z)
    have e:Kp279.okN n=false:=by
     rw[Bool.eq_false_iff]
     intro z
     have:=(Ns.bD.mp z).2.1
     omega
    rw[e]at k
    exact k
  ·have c:¬(2:Int)<=(n:Int):=fun z=>c (decide_eq_true z)
   have e:Kp279.okN n=false:=by
    rw[Bool.eq_false_iff]
    intro z
    have:=(Ns.bD.mp z).1
    omega
   rw[e]at k
   rfl'
   exact k
def ai8(C:Addr):Sp:=fun vs H Q _=>∃(n:Nat)(p q:Addr)(y z:Pr),vs=[.int n,.ref p,.ref q]/\aP C H p y/\aP C H q z/\Sm 1000 y/\Sm 1000 z/\n<2^64/\
 match Kp279.parted n y z with
 |none=>Q .non H
 |some x=>∀r H',Same H H'->H r=none->aP C H' r x->Q (.ref r) H'
theorem yW(M:Facts K mg):bf P w K mg base cV 3 M.jN.a M.jN.fd ["n","pair","other"] (ai8 M.aq):=by
 refine M.jN.F.ok oO (fun vs H Q E h=>?_) (fun cdv A outer s H vs Q E hr h=>?_)
 ·obtain⟨n,p,q,y,z,rfl,_⟩:=h
  rfl
 ·obtain⟨n,p,q,y,z,rfl,hp,hq,hy,hz,hn,k⟩:=h
  refine⟨_,(aj (jz 3 oO.nd (bQ M.bG (bV M) hr (bZ M) (dh (pv 0) (pv 2)))) (aj (bC (iM lA (pv 3) aC) (ak (au rT)) aU) (aj (jz 4 oO.nd (aM gA (aM bh (cC M.aJ M.aV (pv 1)) (cC M.aJ M.aV (pv 2))) (aM bh (aM bh (pv 0) (cF M.aJ M.aX (pv 1))) (cF M.aJ M.aX (pv 2))))) (aj (jz 5 oO.nd (aM gA (aM bh (cF M.aJ M.aX (pv 1)) (cC M.aJ M.aV (pv 2))) (aM bh (cC M.aJ M.aV (pv 1)) (cF M.aJ M.aX (pv 2))))) (aj (bC (PW.pt (fQ (iM xu (aM pX (pv 4) (pv 3)) aC) (dW (iM xu (aM pX (pv 5) (pv 3)) aC)))) (ak (au rT)) aU) (aj (bC (PW.pt (fQ (iM oM (aM cP (pv 4) (pv 3)) aC) (dW (iM oM (aM cP (pv 5) (pv 3)) aC)))) (ak (au rT)) aU) (ak (au (Ad M.fZ (aY M) hr M.fY (aZ M) (dh (aM cP (pv 4) (pv 3)) (aM cP (pv 5) (pv 3)))))))))))),?_⟩
  rfl'
  refine⟨n,q,z,rfl,hq,hz.mono (by decide),hn,?_⟩
  rfl'
  have hd:Bd 2100 (Kp279.diff n z):=by
   unfold Kp279.diff
   exact Bd.mono (by walk_at"bd") (by decide)
  generalize hD:Kp279.diff n z=d at*
  unfold Kp279.parted at k
  simp only[hD]at k
  refine cO (fun c=>?_) (fun c=>?_)
  ·have c:d=0:=of_decide_eq_true c
   rfl'
   rw[if_pos c]at k
   exact k
  ·have c:¬d=0:=fun q=>c (decide_eq_true q)
   rw[if_neg c]at k
   rfl'
   refine lJ c ?_
   rfl'
   generalize hU:(y.x:Int)*(z.x:Int)-(n:Int)*(y.y:Int)*(z.y:Int)=u at*
   generalize hW:(y.y:Int)*(z.x:Int)-(y.x:Int)*(z.y:Int)=v at*
   have fin:¬(u%d=0/\v%d=0/\0<=u/d/\0<=v/d)->Q .non H:=fun q=>by
    rw[if_neg q]at k
    exact k
   refine cO (fun c1=>?_) (fun c1=>?_)
   ·have c1:¬u.fmod d=0:=by simpa using c1
    refine bJ ?_
    rfl'
    exact fin fun q=>c1 (Ns.fmod_zero.mpr q.1)
   ·have c1:u.fmod d=0:=by simpa using c1
    have m1:=Ns.fmod_zero.mp c1
    rfl'
    refine lJ c ?_
    rfl'
    refine cO (fun c2=>?_) (fun c2=>?_)
    ·have c2:¬v.fmod d=0:=by simpa using c2
     rfl'
     exact fin fun q=>c2 (Ns.fmod_zero.mpr q.2.1)
    ·have c2:v.fmod d=0:=by simpa using c2
     have m2:=Ns.fmod_zero.mp c2
     have hd9:d≠0/\Bd 9000 d:=⟨c,hd.mono (by decide)⟩
     rfl'
     refine lJ hd9 ?_
     rfl'
     rw[Ns.BW m1]
     refine cO (fun c3=>?_) (fun c3=>?_)
     ·have c3:u/d<0:=of_decide_eq_true c3
      refine bJ ?_
      rfl'
      exact fin fun q=>by omega
     ·have c3:¬u/d<0:=fun q=>c3 (decide_eq_true q)
      rfl'
      refine lJ hd9 ?_
      rfl'
      rw[Ns.BW m2]
      refine cO (fun c4=>?_) (fun c4=>?_)
      ·have c4:v/d<0:=of_decide_eq_true c4
       rfl'
       exact fin fun q=>by omega
      ·have c4:¬v/d<0:=fun q=>c4 (decide_eq_true q)
       rfl'
       refine lJ hd9 ?_
       rfl'
       refine lJ hd9 ?_
       rfl'
       rw[if_pos ⟨m1,m2,by omega,by omega⟩]at k
       rw[Ns.BW m1,Ns.BW m2]
       refine cG ⟨(u/d).toNat,(v/d).toNat⟩ ?_ ?_ k
       ·show u/d=((u/d).toNat:Int)
        omega
       ·show v/d=((v/d).toNat:Int)
        omega
def afe(C:Addr):Sp:=fun vs H Q _=>∃(n:Nat)(p:Addr)(z:Pr)(j b:Nat),vs=[.int n,.ref p,.int j]/\aP C H p z/\Sm b z/\n<=60/\(b+7)*j+1<=1000/\b<=1000/\∀r H',Same H H'->aP C H' r (Kp279.power n z j)->Q (.ref r) H'
theorem pP(M:Facts K mg):bf P w K mg base cV 4 M.jX.a M.jX.fd ["n","pair","k"] (afe M.aq):=by
 refine M.jX.F.ok vA (fun vs H Q E h=>?_) (fun cdv A outer s H vs Q E hr h=>?_)
 ·obtain⟨n,p,z,j,b,rfl,_⟩:=h
  rfl
 ·obtain⟨n,p,z,j,b,rfl,hp,hz,hn,hjb,hb,k⟩:=h
  have hj:j<=(b+7)*j:=Nat.le_mul_of_pos_left j (by omega)
  refine⟨_,(aj (jz 3 vA.nd (Ad M.fZ (aY M) hr M.fY (aZ M) (dh aC aC))) (aj (vp PassesOwn.never rfl (zm rfl M.rB (bO (pv 2))) (fG (i:=4) vA.nd rfl (by first|exact Or.inl rfl|exact Or.inr rfl)) (ak (jz 3 vA.nd (bQ M.iU (lF M) hr (nM M) (nU (pv 0) (pv 3) (pv 1)))))) (ak (au (pv 3))))),?_⟩
  rfl'
  refine cG ⟨1,0⟩ rfl rfl fun r0 H0 s0 n0 p0=>?_
  rfl'
  refine⟨_,rfl,(j:Int),rfl,by omega,by omega,Ec (fun i σ H'=>∃(r:Addr)(v:Option V),σ=[some (.int n),some (.ref p),some (.int j),some (.ref r),v]/\Same H H'/\aP M.aq H' r (Kp279.power n z i)) ⟨r0,none,rfl,s0,p0⟩ ?_ ?_⟩
  ·rintro i σ H' hi ⟨r,v,rfl,s1,p1⟩
   have hi:i<j:=by
    have:i<((j:Nat):Int).toNat:=hi
    omega
   have hi2:(b+7)*i<=(b+7)*j:=Nat.mul_le_mul_left _ (by omega)
   rfl'
   refine⟨n,r,p,_,z,rfl,p1,hp.same s1,(Cu hn hz i).mono (by omega),hz.mono hb,aL (b:=6) (by omega) (by decide),fun r2 H2 s2 _ p2=>?_⟩
   rfl'
   exact⟨r2,some (.int (0+i)),rfl,s1.trans s2,p2⟩
  ·rintro σ H' ⟨r,v,rfl,s1,p1⟩
   rfl'
   exact k r H' s1 p1
def aai(C:Addr):Sp:=fun vs H Q _=>∃(n y:Nat),vs=[.int n,.int y]/\n<=60/\y<=1000/\∀r H',Same H H'->aP C H' r (Kp279.nearest n y)->Q (.ref r) H'
theorem qR(M:Facts K mg):bf P w K mg base cV 3 M.fu.a M.fu.fd ["n","y"] (aai M.aq):=by
 refine M.fu.F.ok qM (fun vs H Q E h=>?_) (fun cdv A outer s H vs Q E hr h=>?_)
 ·obtain⟨n,y,rfl,_⟩:=h
  rfl
 ·obtain⟨n,y,rfl,hn,hy,k⟩:=h
  have hnB:n<2^64:=aL (b:=6) (by omega) (by decide)
  have hyB:y<2^64:=aL (b:=10) (by omega) (by decide)
  refine⟨_,(aj (jz 2 qM.nd (Ad M.fZ (aY M) hr M.fY (aZ M) (dh (bQ M.eO (jP M) hr (lq M) (bO (aM bh (aM bh (pv 0) (pv 1)) (pv 1)))) (pv 1)))) (aj (jz 3 qM.nd (Ad M.fZ (aY M) hr M.fY (aZ M) (dh (aM dX (cC M.aJ M.aV (pv 2)) aC) (pv 1)))) (aj (bC (iM oM (bK nH rfl M.Aa (by decide+kernel) (bO (bQ M.bG (bV M) hr (bZ M) (dh (pv 0) (pv 2))))) (bK nH rfl M.Aa (by decide+kernel) (bO (bQ M.bG (bV M) hr (bZ M) (dh (pv 0) (pv 3)))))) (ak (au (pv 2))) aU) (ak (au (pv 3)))))),?_⟩
  rfl'
  have e0:(n:Int)*(y:Int)*(y:Int)=((n*y*y:Nat):Int):=by push_cast;rfl
  have hle:n*y*y<=60*1000*1000:=Nat.mul_le_mul (Nat.mul_le_mul hn hy) hy
  refine⟨n*y*y,by rw[e0];rfl,aL (b:=26) (by omega) (by decide),fun r pG=>?_⟩
  have hrB:r<2^64:=by
   have:=pG.qW
   exact aL (b:=26) (by omega) (by decide)
  rfl'
  refine cG ⟨r,y⟩ rfl rfl fun p1 H1 s1 n1 q1=>?_
  rfl'
  refine cG ⟨r+1,y⟩ (by show(r:Int)+1=((r+1:Nat):Int);omega) rfl fun p2 H2 s2 n2 q2=>?_
  have q1':=q1.same s2
  rfl'
  refine⟨n,p1,⟨r,y⟩,rfl,q1',⟨aL hrB (by decide),aL hyB (by decide)⟩,hnB,?_⟩
  rfl'
  refine⟨n,p2,⟨r+1,y⟩,rfl,q2,⟨aL (b:=27) (by have:=pG.qW;show r+1<_;omega) (by decide),aL hyB (by decide)⟩,hnB,?_⟩
  rfl'
  rw[abs_eq,abs_eq]
  rw[Ns.Ah pG (by omega)]at k
  refine cO (fun c=>?_) (fun c=>?_)
  ·have c:=of_decide_eq_true c
   rfl'
   rw[if_pos (by omega)]at k
   exact k p1 H2 (s1.trans s2) q1'
  ·have c:¬_:=fun z=>c (decide_eq_true z)
   rfl'
   rw[if_neg (by omega)]at k
   exact k p2 H2 (s1.trans s2) q2
def akJ(C:Addr)(A:Pr->Prop)(f:Pr->Pr):Sp:=fun vs H Q _=>∃(p:Addr)(z:Pr),vs=[.ref p]/\aP C H p z/\Sm 100 z/\A z/\∀r H',Same H H'->aP C H' r (f z)->Q (.ref r) H'
noncomputable def four(a:Pr):Pr:=if a.x%2=0/\a.y%2=0 then⟨a.x/2,a.y/2⟩else if a.x%2=0 then⟨(a.x*a.x-2)/2,a.x*a.y/2⟩else⟨a.x*(a.x*a.x-3)/2,a.y*(a.x*a.x-1)/2⟩
noncomputable def Qj(a:Pr):Pr:=⟨(a.x*a.x+2)*((a.x*a.x+1)*(a.x*a.x+3)-2)/2,a.x*a.y*(a.x*a.x+1)*(a.x*a.x+3)/2⟩
theorem j6:(2:Int)≠0/\Bd 9000 2:=⟨by decide,by
 show(2:Int).natAbs<2^9000
 exact Nat.lt_of_lt_of_le (by decide:2<2^2) (Nat.pow_le_pow_right (by decide) (by decide))⟩
theorem DK(a:Nat):((a:Int).fdiv 2)=((a/2:Nat):Int):=Ns.oK a 2
theorem Yv(a:Nat):((a:Int).fmod 2)=((a%2:Nat):Int):=Ns.wY a 2
theorem FW(M:Facts K mg):bf P w K mg base cV 3 M.ju.a M.ju.fd ["pair"] (akJ M.aq (fun z=>2<=z.x) four):=by
 refine M.ju.F.ok uY (fun vs H Q E h=>?_) (fun cdv A outer s H vs Q E hr h=>?_)
 ·obtain⟨p,z,rfl,_⟩:=h
  rfl
 ·obtain⟨p,z,rfl,hp,hz,hA,k⟩:=h
  have hsq:4<=z.x*z.x:=Nat.mul_le_mul hA hA
  refine⟨_,(aj (jz 1 uY.nd (aM bh (cC M.aJ M.aV (pv 0)) (cC M.aJ M.aV (pv 0)))) (aj (bC (PW.pt (QH (iM lA (aM pX (cC M.aJ M.aV (pv 0)) aC) aC) (Ii (iM lA (aM pX (cF M.aJ M.aX (pv 0)) aC) aC)))) (ak (au (Ad M.fZ (aY M) hr M.fY (aZ M) (dh (aM cP (cC M.aJ M.aV (pv 0)) aC) (aM cP (cF M.aJ M.aX (pv 0)) aC))))) aU) (aj (bC (iM lA (aM pX (cC M.aJ M.aV (pv 0)) aC) aC) (ak (au (Ad M.fZ (aY M) hr M.fY (aZ M) (dh (aM cP (aM gA (pv 1) aC) aC) (aM cP (aM bh (cC M.aJ M.aV (pv 0)) (cF M.aJ M.aX (pv 0))) aC))))) aU) (ak (au (Ad M.fZ (aY M) hr M.fY (aZ M) (dh (aM cP (aM bh (cC M.aJ M.aV (pv 0)) (aM gA (pv 1) aC)) aC) (aM cP (aM bh (cF M.aJ M.aX (pv 0)) (aM gA (pv 1) aC)) aC)))))))),?_⟩
  rfl'
  refine lJ j6.1 ?_
  rfl'
  rw[Yv]
  have aqU:z.x%2=0\/¬z.x%2=0:=Classical.em _
  refine cO (fun c=>?_) (fun c=>?_)
  ·have c:((z.x%2:Nat):Int)=0:=of_decide_eq_true c
   rfl'
   refine lJ j6.1 ?_
   rfl'
   rw[Yv]
   refine cO (fun c2=>?_) (fun c2=>?_)
   ·have c2:((z.y%2:Nat):Int)=0:=of_decide_eq_true c2
    rfl'
    refine lJ j6 ?_
    rfl'
    refine lJ j6 ?_
    rfl'
    refine cG ⟨z.x/2,z.y/2⟩ (DK _) (DK _) fun r H' s1 _ p1=>k r H' s1 ?_
    unfold four
    rw[if_pos (by omega)]
    exact p1
   ·have c2:¬((z.y%2:Nat):Int)=0:=fun q=>c2 (decide_eq_true q)
    rfl'
    refine lJ j6.1 ?_
    rfl'
    rw[Yv]
    refine cO (fun c3=>?_) (fun c3=>?_)
    ·rfl'
     refine lJ j6 ?_
     rfl'
     refine lJ j6 ?_
     rfl'
     refine cG ⟨(z.x*z.x-2)/2,z.x*z.y/2⟩ ?_ ?_ fun r H' s1 _ p1=>k r H' s1 ?_
     ·have e:=DK (z.x*z.x-2)
      rw[Int.natCast_sub (by omega)]at e
      push_cast at e
      exact e
     ·have e:=DK (z.x*z.y)
      push_cast at e
      exact e
     ·unfold four
      rw[if_neg (by omega),if_pos (by omega)]
      exact p1
    ·exact(c3 (decide_eq_true c)).elim
  ·have c:¬((z.x%2:Nat):Int)=0:=fun q=>c (decide_eq_true q)
   refine cR ?_
   rfl'
   refine lJ j6.1 ?_
   rfl'
   rw[Yv]
   refine cO (fun c3=>?_) (fun c3=>?_)
   ·exact(c (of_decide_eq_true c3)).elim
   ·rfl'
    refine lJ j6 ?_
    rfl'
    refine lJ j6 ?_
    rfl'
    refine cG ⟨z.x*(z.x*z.x-3)/2,z.y*(z.x*z.x-1)/2⟩ ?_ ?_ fun r H' s1 _ p1=>k r H' s1 ?_
    ·have e:=DK (z.x*(z.x*z.x-3))
     rw[Int.natCast_mul,Int.natCast_sub (by omega)]at e
     push_cast at e
     exact e
    ·have e:=DK (z.y*(z.x*z.x-1))
     rw[Int.natCast_mul,Int.natCast_sub (by omega)]at e
     push_cast at e
     exact e
    ·unfold four
     rw[if_neg (by omega),if_neg (by omega)]
     exact p1
theorem vP(M:Facts K mg):bf P w K mg base cV 3 M.dR.a M.dR.fd ["pair"] (akJ M.aq (fun _=>True) Qj):=by
 refine M.dR.F.ok kO (fun vs H Q E h=>?_) (fun cdv A outer s H vs Q E hr h=>?_)
 ·obtain⟨p,z,rfl,_⟩:=h
  rfl
 ·obtain⟨p,z,rfl,hp,hz,hA,k⟩:=h
  refine⟨_,(aj (jz 1 kO.nd (aM bh (cC M.aJ M.aV (pv 0)) (cC M.aJ M.aV (pv 0)))) (aj (jz 2 kO.nd (aM bh (aM dX (pv 1) aC) (aM dX (pv 1) aC))) (ak (au (Ad M.fZ (aY M) hr M.fY (aZ M) (dh (aM cP (aM bh (aM dX (pv 1) aC) (aM gA (pv 2) aC)) aC) (aM cP (aM bh (aM bh (cC M.aJ M.aV (pv 0)) (cF M.aJ M.aX (pv 0))) (pv 2)) aC))))))),?_⟩
  rfl'
  refine lJ j6 ?_
  rfl'
  refine lJ j6 ?_
  rfl'
  have h3:2<=(z.x*z.x+1)*(z.x*z.x+3):=Nat.le_trans (by decide:2<=1*3) (Nat.mul_le_mul (by omega) (by omega))
  refine cG (Qj z) ?_ ?_ fun r H' s1 _ p1=>k r H' s1 p1
  ·have e:=DK ((z.x*z.x+2)*((z.x*z.x+1)*(z.x*z.x+3)-2))
   rw[Int.natCast_mul,Int.natCast_sub h3]at e
   push_cast at e
   exact e
  ·show Int.fdiv _ 2=((z.x*z.y*(z.x*z.x+1)*(z.x*z.x+3)/2:Nat):Int)
   rw[<-DK]
   congr 1
   push_cast
   grind
def ai9(C:Addr):Sp:=fun vs H Q _=>∃(n:Nat)(p:Addr)(z:Pr),vs=[.int n,.ref p]/\aP C H p z/\Sm 100 z/\n<=60/\match Kp279.one n z with
 |none=>Q .non H
 |some x=>∀r H',Same H H'->aP C H' r x->Q (.ref r) H'
theorem Hf(M:Facts K mg):bf P w K mg base cV 4 M.nT.a M.nT.fd ["n","pair"] (ai9 M.aq):=by
 refine M.nT.F.ok Gy (fun vs H Q E h=>?_) (fun cdv A outer s H vs Q E hr h=>?_)
 ·obtain⟨n,p,z,rfl,_⟩:=h
  rfl
 ·obtain⟨n,p,z,rfl,hp,hz,hn,k⟩:=h
  have hnB:n<2^64:=aL (b:=6) (by omega) (by decide)
  refine⟨_,(aj (jz 2 Gy.nd (bQ M.bG (bV M) hr (bZ M) (dh (pv 0) (pv 1)))) (aj (bC (iM lA (pv 2) aC) (ak (au (pv 1))) aU) (aj (bC (iM lA (pv 2) (ql lX aC)) (ak (au (bQ M.iU (lF M) hr (nM M) (nU (pv 0) (pv 1) (pv 1))))) aU) (aj (bC (iM lA (bK nH rfl M.Aa (by decide+kernel) (bO (pv 2))) aC) (ak (au (Ad M.fZ (aY M) hr M.fY (aZ M) (dh (aM cP (aM dX (aM bh (cC M.aJ M.aV (pv 1)) (cC M.aJ M.aV (pv 1))) (aM bh (aM bh (pv 0) (cF M.aJ M.aX (pv 1))) (cF M.aJ M.aX (pv 1)))) aC) (aM bh (cC M.aJ M.aV (pv 1)) (cF M.aJ M.aX (pv 1))))))) aU) (aj (bC (iM lA (pv 2) aC) (ak (au (bQ M.ju (FW M) hr (HS M) (bO (pv 1))))) aU) (aj (bC (iM lA (pv 2) (ql lX aC)) (ak (au (bQ M.dR (vP M) hr (wR M) (bO (pv 1))))) aU) (ak (au rT)))))))),?_⟩
  rfl'
  refine⟨n,p,z,rfl,hp,hz.mono (by decide),hnB,?_⟩
  rfl'
  generalize hD:Kp279.diff n z=d at*
  unfold Kp279.one at k
  simp only[hD]at k
  refine cO (fun c=>?_) (fun c=>?_)
  ·have c:d=1:=of_decide_eq_true c
   rfl'
   rw[if_pos c]at k
   exact k p H (Same.refl H) hp
  ·have c:¬d=1:=fun q=>c (decide_eq_true q)
   rw[if_neg c]at k
   rfl'
   refine cO (fun c1=>?_) (fun c1=>?_)
   ·have c1:d=-1:=of_decide_eq_true c1
    rfl'
    rw[if_pos c1]at k
    exact⟨n,p,p,z,z,rfl,hp,hp,hz.mono (by decide),hz.mono (by decide),hnB,fun r H' s1 _ p1=>k r H' s1 p1⟩
   ·have c1:¬d=-1:=fun q=>c1 (decide_eq_true q)
    rw[if_neg c1]at k
    rfl'
    rw[abs_eq]
    refine cO (fun c2=>?_) (fun c2=>?_)
    ·have c2:((d.natAbs:Nat):Int)=2:=of_decide_eq_true c2
     rw[if_pos (by omega)]at k
     rfl'
     refine lJ j6 ?_
     rfl'
     refine cG ⟨(z.x*z.x+n*z.y*z.y)/2,z.x*z.y⟩ ?_ ?_ fun r H' s1 _ p1=>k r H' s1 p1
     ·have e:=DK (z.x*z.x+n*z.y*z.y)
      push_cast at e
      exact e
     ·push_cast
      rfl
    ·have c2:¬((d.natAbs:Nat):Int)=2:=fun q=>c2 (decide_eq_true q)
     rw[if_neg (by omega)]at k
     rfl'
     refine cO (fun c3=>?_) (fun c3=>?_)
     ·have c3:d=4:=of_decide_eq_true c3
      rw[if_pos c3]at k
      have hx:2<=z.x:=by
          have h4:(z.x:Int)*z.x-n*z.y*z.y=4:=by rw[<-c3,<-hD];rfl
          apply Nat.le_of_not_lt
          intro q
          have q1:z.x*z.x<=1*1:=Nat.mul_le_mul (by omega) (by omega)
          have q2:(z.x:Int)*z.x=((z.x*z.x:Nat):Int):=by push_cast;rfl
          have q3:(n:Int)*z.y*z.y=((n*z.y*z.y:Nat):Int):=by push_cast;rfl
          omega
      rfl'
      refine⟨p,z,rfl,hp,hz,hx,fun r H' s1 p1=>?_⟩
      unfold four at p1
      by_cases e1:z.x%2=0/\z.y%2=0
      ·rw[if_pos e1]at p1 k
       exact k r H' s1 p1
      ·rw[if_neg e1]at p1 k
       by_cases e2:z.x%2=0
       ·rw[if_pos e2]at p1 k
        exact k r H' s1 p1
       ·rw[if_neg e2]at p1 k
        exact k r H' s1 p1
     ·have c3:¬d=4:=fun q=>c3 (decide_eq_true q)
      rw[if_neg c3]at k
      rfl'
      refine cO (fun c4=>?_) (fun c4=>?_)
      ·have c4:d=-4:=of_decide_eq_true c4
       rw[if_pos c4]at k
       rfl'
       exact⟨p,z,rfl,hp,hz,True.intro,fun r H' s1 p1=>k r H' s1 p1⟩
      ·have c4:¬d=-4:=fun q=>c4 (decide_eq_true q)
       rw[if_neg c4]at k
       rfl'
       exact k
end
section
variable{P:Program}{w:World}{K:W.Frag}{mg:Str->Option Value}{base:Heap}
def aaj(C:Addr)(Ts:List Tab):Sp:=fun vs H Q _=>∃(n b:Nat),vs=[.int n,.int b]/\n<=60/\0<b/\b<=60/\dJ Ts H/\∀r H',Gr Ts H H'->aP C H' r (Kp279.nearest n (Kp279.closest n b))->Q (.ref r) H'
theorem HX(M:Facts K mg){Ts:List Tab}(L:bU mg base M Ts):bf P w K mg base cV 7 M.dY.a M.dY.fd ["n","b"] (aaj M.aq Ts):=by
 refine okC M.dY.F L.L1.code qN (fun vs H Q E h=>?_) (fun A outer s H vs Q E hr h=>?_)
 ·obtain⟨n,b,rfl,_⟩:=h
  rfl
 ·obtain⟨n,b,rfl,hn,hb0,hb,tb,k⟩:=h
  have ht:=L.h1
  have hpos:=L.p1
  have hq:=L.q1
  have hu:=L.u1
  refine⟨_,aj (su (i:=2) rfl qN.nd rfl rfl rfl (uQ rfl M.rB (cU aC (cU (aM dX (pv 1) aC) lZ))) (blk (N:=["n","b","candidates","y"]) (sc:=ao oR) (own:=[("y",3)]) ⟨rfl,by decide+kernel,by decide+kernel,by decide+kernel,by decide+kernel⟩)
   (fun _ _ _ _ _=>fG (i:=3) qN.nd rfl (Or.inl rfl)) (fun _ _ _ _ _=>zq)
   (fun _ _ _ _ _=>Ci (qR M) (hr.mono (by decide)) rfl M.fu.m M.fu.F.kp (sV M) .nil pA (cU (pv 0) (cU (pv 3) lZ))))
   (ak (au (O7 (x:="pair") (caps:=[("n",0)]) rfl hr.depth (pv 2) rfl M.ahC rfl L.L1.hd L.L1.bm rfl (aiy (N:=["n","b","candidates","y"]) (sc:=ao oR) ⟨rfl,rfl,rfl,by decide+kernel,rfl,by decide+kernel,by decide+kernel,by decide+kernel⟩)
     (fun _ _ _ _ _=>rfl)
     (fun _ _ _ _ _ _=>bK nH rfl M.Aa (by decide+kernel) (cU (Ci (bV M) ((hr.in1.deeper _).mono (by decide)) rfl M.bG.m M.bG.F.kp (bZ M) .nil pA (cU (pv 1) (cU (pv 0) lZ))) lZ))))),?_⟩
  have hnB:n<2^64:=aL (b:=6) (by omega) (by decide)
  refine dj (gB (wz (Cv ?_)))
  rfl'
  refine xQ ⟨by omega,by omega,by omega,by omega⟩ ?_
  refine sE (fun D i acc H'=>Same H H'/\H D=none/\∃as:List Addr,acc=as.map V.ref/\as.length=i/\∀(m:Nat)(a:Addr),as[m]?=some a->aP M.aq H' a (Kp279.nearest n (m+1))) ?_ ?_ ?_ ?_
  ·intro v
   rfl
  ·intro D hD
   exact⟨Same.upd H _ hD,hD,[],rfl,rfl,fun m a e=>by simp at e⟩
  ·rintro D i acc H' hi hl eD ⟨s1,hD,as,rfl,hlen,pa⟩
   have hi:i<b:=by
    have:i<(((b:Int)+1)-1).toNat:=hi
    omega
   refine Ek (bJ ?_)
   rfl'
   refine⟨n,i+1,by show [V.int (n:Int),V.int (1+(i:Int))]=[V.int n,V.int ((i+1:Nat):Int)];congr 3;omega,hn,by omega,fun r H2 s2 p2=>?_⟩
   refine qL (by omega) hl (s2 _ _ eD) ⟨?_,hD,as++[r],by rw[List.map_append];rfl,by rw[List.length_append,hlen];rfl,?_⟩
   ·exact fun c o e=>by rw[aH (aW e hD)];exact s2 c o (s1 c o e)
   ·intro m a e
    have up:∀{a z},aP M.aq H2 a z->aP M.aq (upd H2 D (.lst (as.map V.ref++[V.ref r]))) a z:=fun{a z} ⟨dx,q⟩=>
     ⟨dx,by rw[aH (fun z=>by rw[z,s2 _ _ eD]at q;cases q)];exact q⟩
    rcases Nat.lt_or_ge m as.length with z|z
    ·rw[List.getElem?_append_left z]at e
     exact up ((pa m a e).same s2)
    ·rw[List.getElem?_append_right z]at e
     have:m=i:=by
      have:=(List.getElem?_eq_some_iff.mp e).1
      simp at this
      omega
     subst this
     have:r=a:=by
      rw[hlen]at e
      simpa using e
     subst this
     exact up p2
  ·rintro D acc H' hl eD ⟨s1,hD,as,rfl,hlen,pa⟩
   have hlen:as.length=b:=by
    have:as.length=(((b:Int)+1)-1).toNat:=hlen
    omega
   have tb':=tb.same s1
   have tt:=tb' L.t1 ht
   rw[hpos,hq]at tt
   rfl'
   refine ab0 ?_
   rfl'
   refine⟨D,as.map V.ref,fun i=>((Kp279.diff n (Kp279.nearest n (i+1))).natAbs:Int),rfl,cY.of eD,by rw[List.length_map,hlen];exact hb0,tt,fun H2 t2 g2=>⟨cY.of (g2 D _ eD (tb'.ne eD True.intro L.t1 ht)),fun i y hy=>?_,fun i y hy fm=>?_⟩⟩
   ·obtain⟨a,ha,rfl⟩:∃a,as[i]?=some a/\y=V.ref a:=by
     rw[List.getElem?_map]at hy
     obtain⟨a,ha,e⟩:=Option.map_eq_some_iff.mp hy
     exact⟨a,ha,e.symm⟩
    have hi:i<b:=by
     have:=(List.getElem?_eq_some_iff.mp ha).1
     omega
    obtain⟨dx,e⟩:=pa i a ha
    have e2:=g2 a _ e (tb'.ne e True.intro L.t1 ht)
    rfl'
    refine⟨n,a,_,rfl,⟨dx,e2⟩,(Aw hn (by omega)).mono (by decide),hnB,?_⟩
    rfl'
    rw[abs_eq]
    exact⟨rfl,rfl⟩
   ·obtain⟨a,ha,rfl⟩:∃a,as[i]?=some a/\y=V.ref a:=by
     rw[List.getElem?_map]at hy
     obtain⟨a,ha,e⟩:=Option.map_eq_some_iff.mp hy
     exact⟨a,ha,e.symm⟩
    obtain⟨dx,e⟩:=pa i a ha
    have e2:=g2 a _ e (tb'.ne e True.intro L.t1 ht)
    have hi:i<b:=by
     have:=(List.getElem?_eq_some_iff.mp ha).1
     omega
    have at_:∀j,j<b->((List.range' 1 b).map (Kp279.nearest n))[j]?=some (Kp279.nearest n (j+1)):=fun j hj=>by
     rw[List.getElem?_map,List.getElem?_range' hj]
     simp[Nat.add_comm]
    have f1:Ns.fP (fun a=>((Kp279.diff n a).natAbs:Int)) ((List.range' 1 b).map (Kp279.nearest n)) i (Kp279.nearest n (i+1)):=by
     rw[List.length_map,hlen]at fm
     have ahE:∀j c,((List.range' 1 b).map (Kp279.nearest n))[j]?=some c->j<b/\c=Kp279.nearest n (j+1):=fun j c hj=>by
       have h1:=(List.getElem?_eq_some_iff.mp hj).1
       rw[List.length_map,List.length_range']at h1
       rw[at_ j h1]at hj
       exact⟨h1,(Option.some.inj hj).symm⟩
     refine⟨at_ i hi,fun j c hj=>?_,fun j c hji hj=>?_⟩
     ·obtain⟨h1,h2⟩:=ahE j c hj
      subst h2
      exact(fm j h1).1
     ·obtain⟨h1,h2⟩:=ahE j c hj
      subst h2
      exact(fm j h1).2 hji
    obtain⟨i',f2,e3⟩:=Ns.Gk (n:=n) b hb0
    have e4:=(f1.uniq f2).1
    rw[e3,<-e4]at k
    have t2:xP H2 L.t1.P L.t1.pos L.t1.q:=by
     rw[hpos,hq]
     exact t2
    exact k a H2 (ab1 ht hu tb s1 t2 g2) ⟨dx,e2⟩
end
section
variable{P:Program}{w:World}{K:W.Frag}{mg:Str->Option Value}{base:Heap}
def acU(C:Addr)(f:Nat->Pr->Pr->Pr):Sp:=fun vs H Q _=>∃(n:Nat)(p q:Addr)(o z:Pr),vs=[.int n,.ref p,.ref q]/\aP C H p o/\aP C H q z/\Sm 1000 o/\Sm 1000 z/\n<2^64/\
 ∀r H',Same H H'->H r=none->aP C H' r (f n z o)->Q (.ref r) H'
theorem Lw(M:Facts K mg):bf P w K mg base cV 4 M.pK.a M.pK.fd ["n","one","pair"] (acU M.aq Kp279.times):=by
 refine M.pK.F.ok V3 (fun vs H Q E h=>?_) (fun cdv A outer s H vs Q E hr h=>?_)
 ·obtain⟨n,p,q,o,z,rfl,_⟩:=h
  rfl
 ·obtain⟨n,p,q,o,z,rfl,hp,hq,ho,hz,hn,k⟩:=h
  refine⟨_,(ak (au (bQ M.iU (lF M) hr (nM M) (nU (pv 0) (pv 2) (pv 1))))),?_⟩
  rfl'
  exact⟨n,q,p,z,o,rfl,hq,hp,hz,ho,hn,k⟩
theorem rF(M:Facts K mg):bf P w K mg base cV 4 M.jF.a M.jF.fd ["n","one","pair"] (acU M.aq Kp279.against):=by
 refine M.jF.F.ok Rc (fun vs H Q E h=>?_) (fun cdv A outer s H vs Q E hr h=>?_)
 ·obtain⟨n,p,q,o,z,rfl,_⟩:=h
  rfl
 ·obtain⟨n,p,q,o,z,rfl,hp,hq,ho,hz,hn,k⟩:=h
  refine⟨_,(ak (au (bQ M.pJ (Ls M) hr (Qg M) (nU (pv 0) (pv 2) (pv 1))))),?_⟩
  rfl'
  exact⟨n,q,p,z,o,rfl,hq,hp,hz,ho,hn,k⟩
def afg(C:Addr):Sp:=fun vs H Q _=>∃(n:Nat)(p q:Addr)(o z:Pr),vs=[.int n,.ref p,.ref q]/\aP C H p o/\aP C H q z/\Sm 1000 o/\Sm 1000 z/\n<2^64/\
 ∀H',Same H H'->Q (.bl (decide (z.y<=(Kp279.against n z o).y))) H'
theorem ux(M:Facts K mg):bf P w K mg base cV 5 M.kY.a M.kY.fd ["n","one","pair"] (afg M.aq):=by
 refine M.kY.F.ok TJ (fun vs H Q E h=>?_) (fun cdv A outer s H vs Q E hr h=>?_)
 ·obtain⟨n,p,q,o,z,rfl,_⟩:=h
  rfl
 ·obtain⟨n,p,q,o,z,rfl,hp,hq,ho,hz,hn,k⟩:=h
  refine⟨_,(ak (au (qX ahf (cF M.aJ M.aX (bQ M.jF (rF M) hr (ur M) (nU (pv 0) (pv 1) (pv 2)))) (cF M.aJ M.aX (pv 2)) (rZ _)))),?_⟩
  rfl'
  refine⟨n,p,q,o,z,rfl,hp,hq,ho,hz,hn,fun r H' s1 _ p1=>?_⟩
  have hq':=hq.same s1
  rfl'
  have e:decide ((z.y:Int)<=((Kp279.against n z o).y:Int))=decide (z.y<=(Kp279.against n z o).y):=by
   rw[decide_eq_decide]
   omega
  rw[e]
  exact k H' s1
def aja(C:Addr):Sp:=fun vs H Q _=>∃(n:Nat)(p:Addr)(z:Pr),vs=[.int n,.ref p]/\aP C H p z/\Sm 2000 z/\n<2^64/\
 ∀l H',Same H H'->H l=none->H' l=some (.lst [.int 0,.int z.x,.int z.y,.int (Kp279.diff n z)])->Q (.ref l) H'
theorem bM(M:Facts K mg):bf P w K mg base cV 2 M.bA.a M.bA.fd ["n","pair"] (aja M.aq):=by
 refine M.bA.F.ok Bc (fun vs H Q E h=>?_) (fun cdv A outer s H vs Q E hr h=>?_)
 ·obtain⟨n,p,z,rfl,_⟩:=h
  rfl
 ·obtain⟨n,p,z,rfl,hp,hz,hn,k⟩:=h
  refine⟨_,(ak (au (aO (cU aC (nU (cC M.aJ M.aV (pv 1)) (cF M.aJ M.aX (pv 1)) (bQ M.bG (bV M) hr (bZ M) (dh (pv 0) (pv 1)))))))),?_⟩
  refine iT ?_
  refine jL ?_
  rfl'
  refine⟨n,p,z,rfl,hp,hz,hn,?_⟩
  rfl'
  exact cJ (by show 4<=sizeLine;rw[sizeLine_eq];decide) fun l hl=>k l _ (Same.upd H _ hl) hl aG
theorem ajb{n j:Nat}(h:Kp279.okN n=true)(hy:(Kp281.nth n j).y<2^33):Sm 64 (Kp281.nth n j):=by
 have e:=Ns.jC.mp (Ns.pU h j)
 have hn:=(Ns.bD.mp h).2.1
 generalize Kp281.nth n j=z at*
 have h1:z.y*z.y<=2^33*2^33:=Nat.mul_le_mul (Nat.le_of_lt hy) (Nat.le_of_lt hy)
 have h2:n*z.y*z.y<=60*(2^33*2^33):=by
  rw[Nat.mul_assoc]
  exact Nat.mul_le_mul hn h1
 have h3:z.x<2^40:=Ns.jB (by rw[e];omega)
 exact⟨aL h3 (by decide),aL hy (by decide)⟩
theorem Lx{n:Nat}(h:Kp279.okN n=true):Sm 251 (Kp280.least n):=by
 rw[Ns.IW h]
 have g:=Ns.tK h (j:=Ns.lengthOf n) (by have:=(Ns.qI h).len;omega)
 exact⟨Nat.lt_of_lt_of_le g.a (Nat.pow_le_pow_right (by decide) (by decide)),Nat.lt_of_lt_of_le g.b (Nat.pow_le_pow_right (by decide) (by decide))⟩
def acV(C:Addr):Sp:=fun vs H Q _=>∃(n:Nat)(p:Addr)(b j:Nat),vs=[.int n,.ref p,.int b]/\Kp279.okN n=true/\aP C H p (Kp280.least n)/\b<=2^33/\Ns.d9 (Ns.yOf n) 0 b j/\∀H',Same H H'->Q (.int j) H'
theorem oZ(M:Facts K mg):bf P w K mg base cV 5 M.gw.a M.gw.fd ["n","one","b"] (acV M.aq):=by
 refine M.gw.F.ok mq (fun vs H Q E h=>?_) (fun cdv A outer s H vs Q E hr h=>?_)
 ·obtain⟨n,p,b,j,rfl,_⟩:=h
  rfl
 ·obtain⟨n,p,b,j,rfl,hN,hp,hb,hf,k⟩:=h
  have anv:=(Ns.bD.mp hN).2.1
  have hnB:n<2^64:=aL (b:=6) (by omega) (by decide)
  refine⟨_,(aj (jz 3 mq.nd aC) (aj (jz 4 mq.nd (Ad M.fZ (aY M) hr M.fY (aZ M) (dh aC aC))) (aj (qj PassesOwn.never (iM oM (cF M.aJ M.aX (pv 4)) (pv 2)) (aj (jz 4 mq.nd (bQ M.pK (Lw M) hr (Qh M) (nU (pv 0) (pv 1) (pv 4)))) (ak (jz 3 mq.nd (aM dX (pv 3) aC))))) (ak (au (pv 3)))))),?_⟩
  rfl'
  refine cG ⟨1,0⟩ rfl rfl fun r0 H0 s0 n0 p0=>?_
  rfl'
  refine vq (fun σ H'=>∃(i:Nat)(r:Addr),σ=[some (.int n),some (.ref p),some (.int b),some (.int i),some (.ref r)]/\i<=j/\Same H H'/\aP M.aq H' r (Kp281.nth n i)) (fun σ _=>match σ with|[_,_,_,some (.int i),_]=>j-i.toNat|_=>0) ⟨0,r0,rfl,Nat.zero_le _,s0,p0⟩ ?_
  rintro σ H' ⟨i,r,rfl,hij,s1,p1⟩
  have hp':=hp.same s1
  rfl'
  by_cases c:i<j
  ·have lt:(Kp281.nth n i).y<b:=hf.lt i (Nat.zero_le _) c
   rw[decide_eq_true (by omega:((Kp281.nth n i).y:Int)<(b:Int))]
   refine VN ?_
   rfl'
   refine⟨n,p,r,_,_,rfl,hp',p1,(Lx hN).mono (by decide),(ajb hN (by omega)).mono (by decide),hnB,fun r2 H2 s2 _ p2=>?_⟩
   rfl'
   refine⟨⟨i+1,r2,?_,c,s1.trans s2,p2⟩,?_⟩
   ·show [some (V.int n),some (V.ref p),some (V.int b),some (V.int ((i:Int)+1)),some (V.ref r2)]=_
    push_cast
    rfl
   ·show j-((i:Int)+1).toNat<j-(i:Int).toNat
    omega
  ·have e:i=j:=by omega
   subst e
   have ge:b<=(Kp281.nth n i).y:=hf.le
   rw[decide_eq_false (by omega:¬((Kp281.nth n i).y:Int)<(b:Int))]
   refine Tr ?_
   rfl'
   exact k H' s1
def aak(C:Addr):Sp:=fun vs H Q _=>∃(n:Nat)(p q:Addr)(z:Pr),vs=[.int n,.ref p,.ref q]/\Kp279.okN n=true/\aP C H p (Kp280.least n)/\aP C H q z/\(∀i,(∀j,j<i->Kp282.isFirst n (Ns.downs n z j)=false)->Sm 1000 (Ns.downs n z i))/\
 ∀l H' (as:List Addr)(r:Addr),Same H H'->H l=none->H' l=some (.lst ((as++[r]).map V.ref))->as.length=(Kp282.downAll n 100 0 z).1->aP C H' r (Kp282.downAll n 100 0 z).2->Q (.ref l) H'
theorem Ly(M:Facts K mg):bf P w K mg base cV 6 M.pL.a M.pL.fd ["n","one","pair"] (aak M.aq):=by
 refine M.pL.F.ok JV (fun vs H Q E h=>?_) (fun cdv A outer s H vs Q E hr h=>?_)
 ·obtain⟨n,p,q,z,rfl,_⟩:=h
  rfl
 ·obtain⟨n,p,q,z,rfl,hN,hp,hq,hz,k⟩:=h
  have anv:=(Ns.bD.mp hN).2.1
  have hnB:n<2^64:=aL (b:=6) (by omega) (by decide)
  refine⟨_,(aj (jz 3 JV.nd (aO (bO (pv 2)))) (aj (qj PassesOwn.never (PW.pt (QH (iM abo (bK bH rfl M.lR (by decide+kernel) (bO (pv 3))) (fD M.Df)) (Ii (nQ (dU (bQ M.kY (ux M) hr (vO M) (nU (pv 0) (pv 1) (iz eG (pv 3) (ql lX aC) (fun _ _=>rfl))))))))) (ak (nP (zM PySem.F.plainAttrs_list PySem.F.slot_list_append PySem.F.type_list_append uR (pv 3) (bO (bQ M.jF (rF M) hr (ur M) (nU (pv 0) (pv 1) (iz eG (pv 3) (ql lX aC) (fun _ _=>rfl))))))))) (ak (au (pv 3))))),?_⟩
  refine dj (gB (jL ?_))
  rfl'
  refine cJ (by show 1<=sizeLine;rw[sizeLine_eq];decide) fun D hD=>?_
  rfl'
  refine vq (fun σ H'=>σ=[some (.int n),some (.ref p),some (.ref q),some (.ref D)]/\Same H H'/\∃(as:List Addr)(r:Addr),H' D=some (.lst ((as++[r]).map V.ref))/\as.length<=100/\aP M.aq H' r (Ns.downs n z as.length)/\Kp282.downAll n (100-as.length) as.length (Ns.downs n z as.length)=Kp282.downAll n 100 0 z/\∀j,j<as.length->Kp282.isFirst n (Ns.downs n z j)=false)
   (fun _ H'=>match H' D with|some (.lst xs)=>200-xs.length|_=>0) ⟨rfl,Same.upd H _ hD,[],q,aG,Nat.zero_le _,hq.same (Same.upd H _ hD),rfl,fun j hj=>absurd hj (Nat.not_lt_zero j)⟩ ?_
  rintro σ H' ⟨rfl,s1,as,r,eD,hl,p1,hda,hno⟩
  have hp':=hp.same s1
  have smz:=hz as.length hno
  refine fj (eZ ?_)
  rfl'
  refine⟨D,_,rfl,.inl (cY.of eD),?_⟩
  rfl'
  have anw:(((as++[r]).map V.ref).length:Int)=(as.length:Int)+1:=by simp
  rw[anw]
  refine cO (fun c=>?_) (fun c=>?_)
  ·have c:(as.length:Int)+1<=100:=of_decide_eq_true c
   rfl'
   refine gQ (cY.of eD) (by rw[List.map_append];exact qm _ _) ?_
   rfl'
   refine⟨n,p,r,_,_,rfl,hp',p1,(Lx hN).mono (by decide),smz,hnB,fun H2 s2=>?_⟩
   rfl'
   have p2:=p1.same s2
   have hp2:=hp'.same s2
   have eD2:=s2 _ _ eD
   obtain⟨f,hf⟩:∃f,100-as.length=f+1:=⟨99-as.length,by omega⟩
   rw[hf]at hda
   generalize hzi:(Ns.downs n z as.length)=zi at*
   have step:Kp282.downAll n (f+1) as.length zi=if Kp282.isFirst n zi then(as.length,zi)else Kp282.downAll n f (as.length+1) (Kp282.down n zi):=rfl
   rw[step]at hda
   have eF:decide (zi.y<=(Kp279.against n zi (Kp280.least n)).y)=Kp282.isFirst n zi:=rfl
   rw[eF]
   cases hF:Kp282.isFirst n zi with
   |true=>
    rw[hF,if_pos rfl]at hda
    refine Tr ?_
    rfl'
    exact k D H2 as r (s1.trans s2) hD eD2 (by rw[<-hda]) (by rw[<-hda];exact p2)
   |false=>
    rw[hF,if_neg (by decide)]at hda
    refine VN (gJ (nW ?_))
    rfl'
    refine oN (cY.of eD2) ?_
    rfl'
    refine gQ (cY.of eD2) (by rw[List.map_append];exact qm _ _) ?_
    rfl'
    refine⟨n,p,r,_,_,rfl,hp2,p2,(Lx hN).mono (by decide),smz,hnB,fun r3 H3 s3 n3 p3=>?_⟩
    rfl'
    have eD3:=s3 _ _ eD2
    have len2:((as++[r]).map V.ref).length=as.length+1:=by simp
    refine Ax eD3 (by rw[len2,sizeLine_eq];omega) ?_
    refine⟨⟨rfl,fun b o e=>?_,as++[r],r3,?_,?_,?_,?_,fun j hj=>?_⟩,?_⟩
    ·rw[aH (aW e hD)]
     exact s3 b o (s2 b o (s1 b o e))
    ·rw[aG,List.map_append (l₁:=as++[r])]
     rfl
    ·rw[List.length_append]
     show as.length+1<=100
     omega
    ·rw[List.length_append]
     show aP _ _ r3 (Kp282.down n (Ns.downs n z as.length))
     rw[hzi]
     obtain⟨dx,e⟩:=p3
     exact⟨dx,by rw[aH (fun q=>by rw[q,eD3]at e;cases e)];exact e⟩
    ·rw[List.length_append]
     show Kp282.downAll n (100-(as.length+1)) (as.length+1) (Kp282.down n (Ns.downs n z as.length))=_
     rw[hzi,show 100-(as.length+1)=f by omega]
     exact hda
    ·rw[List.length_append]at hj
     have hj:j<as.length+1:=hj
     rcases Nat.lt_or_ge j as.length with q|q
     ·exact hno j q
     ·have e:j=as.length:=by omega
      subst e
      rw[hzi]
      exact hF
    ·show(match upd H3 D (.lst ((as++[r]).map V.ref++[V.ref r3])) D with|some (.lst xs)=>200-xs.length|_=>0)<(match H' D with|some (.lst xs)=>200-xs.length|_=>0)
     rw[aG,eD]
     show 200-((as++[r]).map V.ref++[V.ref r3]).length<200-((as++[r]).map V.ref).length
     rw[List.length_append,len2]
     show 200-(as.length+1+1)<200-(as.length+1)
     omega
  ·have c:¬(as.length:Int)+1<=100:=fun z=>c (decide_eq_true z)
   have e:as.length=100:=by omega
   refine Tr ?_
   rfl'
   rw[e]at p1 hda
   have hd:Kp282.downAll n 100 0 z=(100,Ns.downs n z 100):=hda.symm
   exact k D H' as r s1 hD eD (by rw[hd];exact e) (by rw[hd];exact p1)
end
section
variable{P:Program}{w:World}{K:W.Frag}{mg:Str->Option Value}{base:Heap}
def afh(C:Addr)(Ts:List Tab):Sp:=fun vs H Q _=>∃(n:Nat)(p:Addr)(tr:Kp280.Triple),vs=[.int n,.ref p]/\n<=60/\aP C H p ⟨tr.a,tr.b⟩/\Ns.Good n tr/\dJ Ts H/\∀H',Gr Ts H H'->Q (.int (Kp280.taken n tr:Nat)) H'
theorem acX(M:Facts K mg){Ts:List Tab}(L:bU mg base M Ts):bf P w K mg base cV 5 M.pZ.a M.pZ.fd ["n","pair"] (afh M.aq Ts):=by
 refine okC M.pZ.F L.L2.code CP (fun vs H Q E h=>?_) (fun A outer s H vs Q E hr h=>?_)
 ·obtain⟨n,p,tr,rfl,_⟩:=h
  rfl
 ·obtain⟨n,p,tr,rfl,hn,hp,g,tb,k⟩:=h
  have ht:=L.h2
  have hpos:=L.p2
  have hq:=L.q2
  have hu:=L.u2
  have hnB:n<2^64:=aL (b:=6) (by omega) (by decide)
  have haB:Sm 2000 ⟨tr.a,tr.b⟩:=⟨aL (b:=250) g.a (by decide),aL (b:=250) g.b (by decide)⟩
  refine⟨_,aj (abk (i:=2) CP.nd rfl (by first|exact Or.inl rfl|exact Or.inr rfl) (Ci (bV M) (hr.mono (by decide)) rfl M.bG.m M.bG.F.kp (bZ M) .nil pA (cU (pv 0) (cU (pv 1) lZ))))
   (aj (su (i:=3) rfl CP.nd rfl rfl rfl (uQ rfl M.rB (cU aC (cU (aM dX (aM bh aC (pv 0)) aC) lZ))) (blk (N:=["n","pair","gap","fitting","m"]) (sc:=ao Io) (own:=[("m",4)]) ⟨rfl,by decide+kernel,by decide+kernel,by decide+kernel,by decide+kernel⟩)
     (fun _ _ _ _ _=>fG (i:=4) CP.nd rfl (Or.inl rfl)) (fun _ _ _ _ _=>zu (QK lA (aM pX (aM dX (cC M.aJ M.aV (pv 1)) (aM bh (pv 4) (cF M.aJ M.aX (pv 1)))) (pv 2)) aC (rZ _)))
     (fun _ _ _ _ _=>pv 4))
   (ak (au (O7 (x:="m") (caps:=[("n",0)]) rfl hr.depth (pv 3) rfl M.ahC rfl L.L2.hd L.L2.bm rfl (aiy (N:=["n","pair","gap","fitting","m"]) (sc:=ao Io) ⟨rfl,rfl,rfl,by decide+kernel,rfl,by decide+kernel,by decide+kernel,by decide+kernel⟩)
     (fun _ _ _ _ _=>rfl)
     (fun _ _ _ _ _ _=>bK nH rfl M.Aa (by decide+kernel) (cU (aM gA (aM bh (pv 0) (pv 0)) (pv 1)) lZ)))))),?_⟩
  rfl'
  refine⟨n,p,⟨tr.a,tr.b⟩,rfl,hp,haB,hnB,?_⟩
  rfl'
  refine wz (Cv ?_)
  rfl'
  refine xQ ⟨by omega,by omega,by omega,by omega⟩ ?_
  refine sE (fun D i acc H'=>Same H H'/\H D=none/\acc=((List.range' 1 i).filter (Kp280.fits tr)).map fun m=>V.int (m:Nat)) ?_ ?_ ?_ ?_
  ·intro v
   rfl
  ·intro D hD
   exact⟨Same.upd H _ hD,hD,rfl⟩
  ·rintro D i acc H' hi hl eD ⟨s1,hD,rfl⟩
   have hi:i<2*n:=by
    have:i<((2*(n:Int)+1)-1).toNat:=hi
    omega
   have hp':=hp.same s1
   have hiB:1+i<2^64:=aL (b:=7) (by omega) (by decide)
   have e1:(1:Int)+(i:Int)=((1+i:Nat):Int):=by push_cast;rfl
   rw[e1]
   rfl'
   have k0:Kp279.diff n ⟨tr.a,tr.b⟩≠0:=by rw[<-g.k];exact g.k0
   refine lJ k0 ?_
   rfl'
   have ef:decide ((((tr.a:Nat):Int)+((1+i:Nat):Int)*((tr.b:Nat):Int)).fmod (Kp279.diff n ⟨tr.a,tr.b⟩)=0)=Kp280.fits tr (1+i):=by
    rw[Bool.eq_iff_iff,decide_eq_true_iff,Ns.fmod_zero,<-g.k]
    unfold Kp280.fits
    rw[beq_iff_eq]
   rw[ef]
   have er:List.range' 1 (i+1)=List.range' 1 i++[1+i]:=by rw[List.range'_concat];simp
   cases hf:Kp280.fits tr (1+i)with
   |true=>
    refine bJ ?_
    rfl'
    refine qL (by omega) hl eD ⟨?_,hD,?_⟩
    ·exact fun c o e=>by rw[aH (aW e hD)];exact s1 c o e
    ·rw[er,List.filter_append,List.map_append]
     simp[hf]
   |false=>
    refine cR ⟨_,by omega,eD,s1,hD,?_⟩
    rw[er,List.filter_append]
    simp[hf]
  ·rintro D acc H' hl eD ⟨s1,hD,rfl⟩
   have Lz:((2*(n:Int)+1)-1).toNat=2*n:=by omega
   rw[Lz]at eD
   have tb':=tb.same s1
   have tt:=tb' L.t2 ht
   rw[hpos,hq]at tt
   have anA:((List.range (2*n+1)).drop 1).filter (Kp280.fits tr)=(List.range' 1 (2*n)).filter (Kp280.fits tr):=by
    rw[List.range_eq_range',List.drop_range']
    congr 2
   obtain⟨i0,fm0⟩:=Ns.Og (n:=n) g.tk
   rw[anA]at fm0
   generalize hF:(List.range' 1 (2*n)).filter (Kp280.fits tr)=ms at*
   have hms:∀(i m:Nat),ms[i]?=some m->m<2^64:=fun i m e=>by
    have h1:m∈ms:=List.mem_of_getElem? e
    rw[<-hF]at h1
    have h2:=(List.mem_filter.mp h1).1
    rw[List.mem_range'_1]at h2
    exact aL (b:=7) (by omega) (by decide)
   rfl'
   refine ab0 ?_
   rfl'
   refine⟨D,_,fun i=>((((ms.getD i 0:Nat):Int)*((ms.getD i 0:Nat):Int)-(n:Int)).natAbs:Int),rfl,cY.of eD,?_,tt,fun H2 t2 g2=>⟨cY.of (g2 D _ eD (tb'.ne eD True.intro L.t2 ht)),fun i y hy=>?_,fun i y hy fm=>?_⟩⟩
   ·rw[List.length_map]
    have:=(List.getElem?_eq_some_iff.mp fm0.at_).1
    omega
   ·obtain⟨m,hm,rfl⟩:∃m,ms[i]?=some m/\y=V.int (m:Nat):=by
     rw[List.getElem?_map]at hy
     obtain⟨a,ha,e⟩:=Option.map_eq_some_iff.mp hy
     exact⟨a,ha,e.symm⟩
    have hmB:=hms i m hm
    have eg:ms.getD i 0=m:=by rw[List.getD_eq_getElem?_getD,hm];rfl
    rfl'
    rw[abs_eq]
    refine⟨?_,rfl⟩
    show V.int _=V.int ((((ms.getD i 0:Nat):Int)*((ms.getD i 0:Nat):Int)-(n:Int)).natAbs:Int)
    rw[eg]
   ·obtain⟨m,hm,rfl⟩:∃m,ms[i]?=some m/\y=V.int (m:Nat):=by
     rw[List.getElem?_map]at hy
     obtain⟨a,ha,e⟩:=Option.map_eq_some_iff.mp hy
     exact⟨a,ha,e.symm⟩
    rw[List.length_map]at fm
    have gd:∀(j c:Nat),ms[j]?=some c->ms.getD j 0=c/\j<ms.length:=fun j c e=>⟨by rw[List.getD_eq_getElem?_getD,e];rfl,(List.getElem?_eq_some_iff.mp e).1⟩
    have f1:Ns.fP (fun(m:Nat)=>(((m:Int)*(m:Int)-(n:Int)).natAbs:Int)) ms i m:=by
     refine⟨hm,fun j c hj=>?_,fun j c hji hj=>?_⟩
     ·have h1:=(fm j (gd j c hj).2).1
      simp only[(gd i m hm).1,(gd j c hj).1]at h1
      exact h1
     ·have h1:=(fm j (gd j c hj).2).2 hji
      simp only[(gd i m hm).1,(gd j c hj).1]at h1
      exact h1
    have e4:=(f1.uniq fm0).2
    subst e4
    have t2:xP H2 L.t2.P L.t2.pos L.t2.q:=by
     rw[hpos,hq]
     exact t2
    exact k H2 (ab1 ht hu tb s1 t2 g2)
def ajc(C:Addr)(Ts:List Tab):Sp:=fun vs H Q _=>∃(n:Nat)(p:Addr)(tr:Kp280.Triple),vs=[.int n,.ref p]/\n<=60/\aP C H p ⟨tr.a,tr.b⟩/\Ns.Good n tr/\dJ Ts H/\∀r H',Gr Ts H H'->aP C H' r ⟨(Kp280.next n tr).a,(Kp280.next n tr).b⟩->Q (.ref r) H'
theorem acY{n:Nat}{tr:Kp280.Triple}(h:Kp280.taken n tr≠0):Kp280.taken n tr<=2*n:=by
 obtain⟨i,f⟩:=Ns.Og (n:=n) h
 have h1:=List.mem_of_getElem? f.at_
 have h2:=(List.mem_filter.mp h1).1
 rw[List.range_eq_range',List.drop_range',List.mem_range'_1]at h2
 omega
theorem yX(M:Facts K mg){Ts:List Tab}(L:bU mg base M Ts):bf P w K mg base cV 6 M.jO.a M.jO.fd ["n","pair"] (ajc M.aq Ts):=by
 refine M.jO.F.ok sH (fun vs H Q E h=>?_) (fun cdv A outer s H vs Q E hr h=>?_)
 ·obtain⟨n,p,tr,rfl,_⟩:=h
  rfl
 ·obtain⟨n,p,tr,rfl,hn,hp,g,tb,k⟩:=h
  have hnB:n<2^64:=aL (b:=6) (by omega) (by decide)
  have haB:Sm 2000 ⟨tr.a,tr.b⟩:=⟨aL (b:=250) g.a (by decide),aL (b:=250) g.b (by decide)⟩
  have hmB:Kp280.taken n tr<2^64:=by
   have:=acY g.tk
   exact aL (b:=7) (by omega) (by decide)
  refine⟨_,(aj (jz 2 sH.nd (bQ M.pZ (acX M L) hr (ae4 M) (dh (pv 0) (pv 1)))) (aj (jz 3 sH.nd (bK nH rfl M.Aa (by decide+kernel) (bO (bQ M.bG (bV M) hr (bZ M) (dh (pv 0) (pv 1)))))) (ak (au (Ad M.fZ (aY M) hr M.fY (aZ M) (dh (aM cP (aM dX (aM bh (cC M.aJ M.aV (pv 1)) (pv 2)) (aM bh (pv 0) (cF M.aJ M.aX (pv 1)))) (pv 3)) (aM cP (aM dX (cC M.aJ M.aV (pv 1)) (aM bh (cF M.aJ M.aX (pv 1)) (pv 2))) (pv 3)))))))),?_⟩
  rfl'
  refine⟨n,p,tr,rfl,hn,hp,g,tb,fun H1 g1=>?_⟩
  have hp1:=hp.gr tb g1
  rfl'
  refine⟨n,p,⟨tr.a,tr.b⟩,rfl,hp1,haB,hnB,?_⟩
  rfl'
  rw[abs_eq,<-g.k]
  rfl'
  have hk0:(tr.k.natAbs:Int)≠0:=by
   have:=g.k0
   omega
  have hkB:Bd 9000 ((tr.k.natAbs:Nat):Int):=by
   have h1:Bd 4100 tr.k:=by
    rw[g.k]
    unfold Kp279.diff
    exact Bd.mono (by walk_at"bd") (by decide)
   have h2:Bd 4100 ((tr.k.natAbs:Nat):Int):=by
    unfold L2.Bd at h1⊢
    omega
   exact h2.mono (by decide)
  refine lJ ⟨hk0,hkB⟩ ?_
  rfl'
  refine lJ ⟨hk0,hkB⟩ ?_
  rfl'
  refine cG ⟨(Kp280.next n tr).a,(Kp280.next n tr).b⟩ ?_ ?_ fun r H2 s2 _ p2=>k r H2 (g1.trans (Gr.same g1.1 s2)) p2
  ·have e:=Ns.oK (tr.a*Kp280.taken n tr+n*tr.b) tr.k.natAbs
   push_cast at e
   exact e
  ·have e:=Ns.oK (tr.a+tr.b*Kp280.taken n tr) tr.k.natAbs
   push_cast at e
   exact e
noncomputable abbrev wp(n i:Nat):Pr:=⟨(Kp280.walk n i (Kp280.first n)).a,(Kp280.walk n i (Kp280.first n)).b⟩
theorem N6{n:Nat}(hn:n<=60):Kp279.nearest n 1=wp n 0:=by
 have hy:(Kp279.nearest n 1).y=1:=by
  unfold Kp279.nearest
  simp only
  split<;>rfl
 rcases Ns.aaZ (n:=n)with e|e
 ·show _=(⟨(Kp280.first n).a,(Kp280.first n).b⟩:Pr)
  rw[e]
  show _=(⟨(Kp279.nearest n 1).x,1⟩:Pr)
  generalize Kp279.nearest n 1=z at*
  obtain⟨x,y⟩:=z
  simp only at hy
  rw[hy]
 ·omega
def Wr(C:Addr):Sp:=fun vs H Q _=>∃n:Nat,vs=[.int n]/\n<=60/\∀r H',Same H H'->aP C H' r (wp n 0)->Q (.ref r) H'
theorem wK(M:Facts K mg):bf P w K mg base cV 4 M.iW.a M.iW.fd ["n"] (Wr M.aq):=by
 refine M.iW.F.ok Ht (fun vs H Q E h=>?_) (fun cdv A outer s H vs Q E hr h=>?_)
 ·obtain⟨n,rfl,_⟩:=h
  rfl
 ·obtain⟨n,rfl,hn,k⟩:=h
  refine⟨_,(ak (au (bQ M.fu (qR M) hr (sV M) (dh (pv 0) aC)))),?_⟩
  rfl'
  refine⟨n,1,rfl,hn,by decide,fun r H' s1 p1=>k r H' s1 ?_⟩
  rw[<-N6 hn]
  exact p1
def afi(C:Addr)(Ts:List Tab):Sp:=fun vs H Q _=>∃n j:Nat,vs=[.int n,.int j]/\Kp279.okN n=true/\j<=60/\dJ Ts H/\∀r H',Gr Ts H H'->aP C H' r (wp n j)->Q (.ref r) H'
theorem LC(M:Facts K mg){Ts:List Tab}(L:bU mg base M Ts):bf P w K mg base cV 7 M.lD.a M.lD.fd ["n","j"] (afi M.aq Ts):=by
 refine M.lD.F.ok oV (fun vs H Q E h=>?_) (fun cdv A outer s H vs Q E hr h=>?_)
 ·obtain⟨n,j,rfl,_⟩:=h
  rfl
 ·obtain⟨n,j,rfl,hN,hj,tb,k⟩:=h
  have hn:=(Ns.bD.mp hN).2.1
  refine⟨_,(aj (jz 2 oV.nd (bQ M.iW (wK M) hr (yS M) (bO (pv 0)))) (aj (vp PassesOwn.never rfl (zm rfl M.rB (bO (pv 1))) (fG (i:=3) oV.nd rfl (by first|exact Or.inl rfl|exact Or.inr rfl)) (ak (jz 2 oV.nd (bQ M.jO (yX M L) hr (Ac M) (dh (pv 0) (pv 2)))))) (ak (au (pv 2))))),?_⟩
  rfl'
  refine⟨n,rfl,hn,fun r0 H0 s0 p0=>?_⟩
  rfl'
  refine⟨_,rfl,(j:Int),rfl,by omega,by omega,Ec (fun i σ H'=>∃(r:Addr)(v:Option V),σ=[some (.int n),some (.int j),some (.ref r),v]/\Gr Ts H H'/\aP M.aq H' r (wp n i)) ⟨r0,none,rfl,Gr.same tb s0,p0⟩ ?_ ?_⟩
  ·rintro i σ H' hi ⟨r,v,rfl,g1,p1⟩
   have hi:i<j:=by
    have:i<((j:Nat):Int).toNat:=hi
    omega
   rfl'
   refine⟨n,r,Kp280.walk n i (Kp280.first n),rfl,hn,p1,Ns.tK hN (by omega),g1.1,fun r2 H2 g2 p2=>?_⟩
   rfl'
   refine⟨r2,some (.int (0+i)),rfl,g1.trans g2,?_⟩
   show aP _ _ _ (⟨(Kp280.walk n (i+1) (Kp280.first n)).a,(Kp280.walk n (i+1) (Kp280.first n)).b⟩:Pr)
   rw[Ns.DY]
   exact p2
  ·rintro σ H' ⟨r,v,rfl,g1,p1⟩
   rfl'
   exact k r H' g1 p1
def akK(C:Addr)(Ts:List Tab):Sp:=fun vs H Q _=>∃n:Nat,vs=[.int n]/\Kp279.okN n=true/\dJ Ts H/\
 ∀l H' (as:List Addr),Gr Ts H H'->H l=none->H' l=some (.lst (as.map V.ref))->as.length=Ns.lengthOf n+1->(∀(m:Nat)(a:Addr),as[m]?=some a->aP C H' a (wp n m))->Q (.ref l) H'
theorem o7(M:Facts K mg){Ts:List Tab}(L:bU mg base M Ts):bf P w K mg base cV 7 M.iH.a M.iH.fd ["n"] (akK M.aq Ts):=by
 refine M.iH.F.ok CQ (fun vs H Q E h=>?_) (fun cdv A outer s H vs Q E hr h=>?_)
 ·obtain⟨n,rfl,_⟩:=h
  rfl
 ·obtain⟨n,rfl,hN,tb,k⟩:=h
  have hn:=(Ns.bD.mp hN).2.1
  have hnB:n<2^64:=aL (b:=6) (by omega) (by decide)
  have way:=Ns.qI hN
  refine⟨_,(aj (jz 1 CQ.nd (aO (bO (bQ M.iW (wK M) hr (yS M) (bO (pv 0)))))) (aj (qj PassesOwn.never (iM xu (bQ M.bG (bV M) hr (bZ M) (dh (pv 0) (iz eG (pv 1) (ql lX aC) (fun _ _=>rfl)))) aC) (ak (nP (zM PySem.F.plainAttrs_list PySem.F.slot_list_append PySem.F.type_list_append uR (pv 1) (bO (bQ M.jO (yX M L) hr (Ac M) (dh (pv 0) (iz eG (pv 1) (ql lX aC) (fun _ _=>rfl))))))))) (ak (au (pv 1))))),?_⟩
  refine dj (gB (jL ?_))
  rfl'
  refine⟨n,rfl,hn,fun r0 H0 s0 p0=>?_⟩
  rfl'
  refine cJ (by show 1<=sizeLine;rw[sizeLine_eq];decide) fun D hD0=>?_
  have hD:H D=none:=s0.free hD0
  rfl'
  have sU:Same H0 (upd H0 D (.lst [V.ref r0])):=Same.upd H0 _ hD0
  refine vq (fun σ H'=>σ=[some (.int n),some (.ref D)]/\Gr Ts H H'/\∃(as:List Addr)(r:Addr),H' D=some (.lst ((as++[r]).map V.ref))/\as.length<=Ns.lengthOf n/\∀(m:Nat)(a:Addr),(as++[r])[m]?=some a->aP M.aq H' a (wp n m))
   (fun _ H'=>match H' D with|some (.lst xs)=>200-xs.length|_=>0) ⟨rfl,Gr.same tb (s0.trans sU),[],r0,aG,Nat.zero_le _,?_⟩ ?_
  ·intro m a e
   have hm:m=0:=by
    have:=(List.getElem?_eq_some_iff.mp e).1
    simpa using this
   subst hm
   have:r0=a:=Option.some.inj e
   subst this
   exact p0.same sU
  rintro σ H' ⟨rfl,g1,as,r,eD,hl,pa⟩
  have pr:aP M.aq H' r (wp n as.length):=pa as.length r (by simp)
  have good:=Ns.tK hN (j:=as.length) (by have:=way.len;omega)
  rfl'
  refine gQ (cY.of eD) (by rw[List.map_append];exact qm _ _) ?_
  rfl'
  refine⟨n,r,_,rfl,pr,⟨aL (b:=250) good.a (by decide),aL (b:=250) good.b (by decide)⟩,hnB,?_⟩
  rw[show Kp279.diff n (wp n as.length)=(Kp280.walk n as.length (Kp280.first n)).k from good.k.symm]
  rfl'
  by_cases c:as.length=Ns.lengthOf n
  ·have e1:=(way.one as.length hl).mpr c
   rw[e1]
   refine Tr ?_
   rfl'
   exact k D H' (as++[r]) g1 hD eD (by rw[List.length_append,c];rfl) pa
  ·have e1:¬(Kp280.walk n as.length (Kp280.first n)).k=1:=fun z=>c ((way.one as.length hl).mp z)
   rw[decide_eq_false e1]
   refine VN (gJ (nW ?_))
   rfl'
   refine oN (cY.of eD) ?_
   rfl'
   refine gQ (cY.of eD) (by rw[List.map_append];exact qm _ _) ?_
   rfl'
   refine⟨n,r,Kp280.walk n as.length (Kp280.first n),rfl,hn,pr,good,g1.1,fun r2 H2 g2 p2=>?_⟩
   have eD2:=g2.at g1.1 eD True.intro
   have len2:((as++[r]).map V.ref).length=as.length+1:=by simp
   have hlen:=way.len
   rfl'
   refine Ax eD2 (by rw[len2,sizeLine_eq];omega) ?_
   have up:∀{a z},aP M.aq H2 a z->aP M.aq (upd H2 D (.lst ((as++[r]).map V.ref++[V.ref r2]))) a z:=fun{a z} ⟨dx,q⟩=>⟨dx,by rw[aH (fun z=>by rw[z,eD2]at q;cases q)];exact q⟩
   have g12:=g1.trans g2
   refine⟨⟨rfl,⟨fun t' ht'=>?_,fun b o e nb=>?_⟩,as++[r],r2,?_,?_,fun m a e=>?_⟩,?_⟩
   ·have nD:∀{b o},H2 b=some o->(∀xs,o≠.lst xs)->b≠D:=fun{b o} e n z=>by
      rw[z,eD2]at e
      cases e
      exact n _ rfl
    rcases g12.1 t' ht' with e|⟨d,e,e'⟩
    ·exact .inl (by rw[aH (nD e fun _ z=>nomatch z)];exact e)
    ·exact .inr ⟨d,by rw[aH (nD e fun _ z=>nomatch z)];exact e,by rw[aH (nD e' fun _ z=>nomatch z)];exact e'⟩
   ·rw[aH (aW e hD)]
    exact g12.2 b o e nb
   ·rw[aG,List.map_append (l₁:=as++[r])]
    rfl
   ·rw[List.length_append]
    show as.length+1<=_
    omega
   ·rcases Nat.lt_or_ge m (as++[r]).length with z|z
    ·rw[List.getElem?_append_left z]at e
     exact up ((pa m a e).gr g1.1 g2)
    ·rw[List.getElem?_append_right z]at e
     have hm:m=as.length+1:=by
       have:=(List.getElem?_eq_some_iff.mp e).1
       simp at this z
       omega
     subst hm
     have:r2=a:=by simpa using e
     subst this
     show aP _ _ _ (⟨(Kp280.walk n (as.length+1) (Kp280.first n)).a,(Kp280.walk n (as.length+1) (Kp280.first n)).b⟩:Pr)
     rw[Ns.DY]
     exact up p2
   ·show(match upd H2 D (.lst ((as++[r]).map V.ref++[V.ref r2])) D with|some (.lst xs)=>200-xs.length|_=>0)<(match H' D with|some (.lst xs)=>200-xs.length|_=>0)
    rw[aG,eD]
    show 200-((as++[r]).map V.ref++[V.ref r2]).length<200-((as++[r]).map V.ref).length
    rw[List.length_append,len2]
    show 200-(as.length+1+1)<200-(as.length+1)
    omega
def afj(C:Addr)(Ts:List Tab):Sp:=fun vs H Q _=>∃n:Nat,vs=[.int n]/\Kp279.okN n=true/\dJ Ts H/\∀r H',Gr Ts H H'->aP C H' r (Kp280.least n)->Q (.ref r) H'
theorem lG(M:Facts K mg){Ts:List Tab}(L:bU mg base M Ts):bf P w K mg base cV 8 M.eU.a M.eU.fd ["n"] (afj M.aq Ts):=by
 refine M.eU.F.ok MN (fun vs H Q E h=>?_) (fun cdv A outer s H vs Q E hr h=>?_)
 ·obtain⟨n,rfl,_⟩:=h
  rfl
 ·obtain⟨n,rfl,hN,tb,k⟩:=h
  refine⟨_,(ak (au (iz eG (bQ M.iH (o7 M L) hr (qG M) (bO (pv 0))) (ql lX aC) (fun _ _=>rfl)))),?_⟩
  rfl'
  refine⟨n,rfl,hN,tb,fun l H' as g1 hl el hlen pa=>?_⟩
  rfl'
  rcases Ns.snoc_cases as with z|⟨bs,r,rfl⟩
  ·subst z
   simp at hlen
  ·refine gQ (cY.of el) (by rw[List.map_append];exact qm _ _) ?_
   refine k r H' g1 ?_
   rw[Ns.IW hN]
   have hb:bs.length=Ns.lengthOf n:=by simpa using hlen
   rw[<-hb]
   exact pa bs.length r (by simp)
end
local macro_rules | `(tactic| walk_at "rd") => `(tactic| repeat (first
  | with_reducible (first
  | refine dj ?_ | refine gB ?_ | refine dw ?_ | refine iT ?_ | refine m7 ?_ | refine fH ?_
  | refine eZ ?_ | refine m8 ?_ | refine fj ?_ | refine ji ?_ | refine fJ ?_ | refine fK ?_ | refine jj ?_
  | refine dM ?_ | refine m9 ?_ | refine tH ?_ | refine nj ?_ | refine fM ?_ | refine jk ?_ | refine fO ?_ | refine jl ?_
  | refine mj ?_ | refine m6 ?_ | refine tE ?_ | refine jm ?_ | refine jo ?_ | refine jq ?_ | refine jr ?_
  | refine gJ ?_ | refine nW ?_ | refine je ?_ | refine jL ?_ | refine lQ ?_ | refine lK ?_ | refine lM ?_ | refine jd ?_ | refine lO ?_
  | refine pB (by with_reducible assumption) ?_ | refine jc (by with_reducible assumption) ?_ | refine fU (by with_reducible assumption) ?_ | refine fV (by with_reducible assumption) ?_ | refine fW (by with_reducible assumption) ?_
  | refine jf rfl ?_ | refine jg (by with_reducible assumption) ?_ | refine jh (by with_reducible assumption) ?_ | refine Exists.intro _ (And.intro rfl ?_))
  | (with_reducible refine fL ?_ ?_; focus exact tG (by walk_at "bd") (by walk_at "bd") (by decide))))
set_option hygiene false in
local macro_rules | `(tactic| walk_at "hd") => `(tactic| (have hI := hD.ins; have hN := hD.wf.n; have hn := (Ns.bD.mp hN).2.1; have hnB : D.n < 2 ^ 64 := aL (b := 6) (by omega) (by decide); have hz := gC hD.wf.a; have hh := hD.hand; have ho := hD.one))
set_option hygiene false in
local macro_rules | `(tactic| exists $f, $c, $t, $T) => `(tactic| (refine jy $f $c (fun vs H Q E h => ?_); obtain ⟨d, lk, le, dx, po, ph, D, ks, es, rfl, hD, tb, k⟩ := h; refine ⟨rfl, fun cdv A outer _ hr => ?_⟩; simp only [$t:term] at k; walk_at "hd"; refine ⟨_, $T, ?_⟩; walk_at "rd"))
set_option hygiene false in
local macro_rules | `(tactic| exists $f, $c, $t, $T, $a0:ident, $b0:ident) => `(tactic| (refine jy $f $c (fun vs H Q E h => ?_); obtain ⟨d, lk, le, dx, po, ph, D, ks, es, $a0:ident, rfl, $b0:ident, hD, tb, k⟩ := h; refine ⟨rfl, fun cdv A outer _ hr => ?_⟩; simp only [$t:term] at k; walk_at "hd"; refine ⟨_, $T, ?_⟩; walk_at "rd"))
set_option hygiene false in
local macro_rules | `(tactic| exists $f, $c, $t, $T, $a0:ident, $b0:ident, $a1:ident, $b1:ident) => `(tactic| (refine jy $f $c (fun vs H Q E h => ?_); obtain ⟨d, lk, le, dx, po, ph, D, ks, es, $a0:ident, $a1:ident, rfl, $b0:ident, $b1:ident, hD, tb, k⟩ := h; refine ⟨rfl, fun cdv A outer _ hr => ?_⟩; simp only [$t:term] at k; walk_at "hd"; refine ⟨_, $T, ?_⟩; walk_at "rd"))
set_option hygiene false in
local macro_rules | `(tactic| exists $f, $c, $t, $T, $a0:ident, $b0:ident, $a1:ident, $b1:ident, $a2:ident, $b2:ident) => `(tactic| (refine jy $f $c (fun vs H Q E h => ?_); obtain ⟨d, lk, le, dx, po, ph, D, ks, es, $a0:ident, $a1:ident, $a2:ident, rfl, $b0:ident, $b1:ident, $b2:ident, hD, tb, k⟩ := h; refine ⟨rfl, fun cdv A outer _ hr => ?_⟩; simp only [$t:term] at k; walk_at "hd"; refine ⟨_, $T, ?_⟩; walk_at "rd"))
set_option hygiene false in
local macro_rules | `(tactic| exists $f, $c, $t, $T, $a0:ident, $b0:ident, $a1:ident, $b1:ident, $a2:ident, $b2:ident, $a3:ident, $b3:ident) => `(tactic| (refine jy $f $c (fun vs H Q E h => ?_); obtain ⟨d, lk, le, dx, po, ph, D, ks, es, $a0:ident, $a1:ident, $a2:ident, $a3:ident, rfl, $b0:ident, $b1:ident, $b2:ident, $b3:ident, hD, tb, k⟩ := h; refine ⟨rfl, fun cdv A outer _ hr => ?_⟩; simp only [$t:term] at k; walk_at "hd"; refine ⟨_, $T, ?_⟩; walk_at "rd"))
theorem uz{as:List Addr}{i:Nat}{y:V}(h:(as.map V.ref)[i]?=some y):∃a,as[i]?=some a/\y=V.ref a:=by
 rw[List.getElem?_map]at h
 obtain⟨a,ha,e⟩:=Option.map_eq_some_iff.mp h
 exact⟨a,ha,e.symm⟩
theorem Ir{ns:List Nat}{i:Nat}{y:V}(h:(ns.map fun(m:Nat)=>V.int (m:Nat))[i]?=some y):∃m:Nat,ns[i]?=some m/\y=V.int (m:Nat):=by
 rw[List.getElem?_map]at h
 obtain⟨a,ha,e⟩:=Option.map_eq_some_iff.mp h
 exact⟨a,ha,e.symm⟩
theorem take_snoc{α:Type}:∀{l:List α}{i:Nat}{x:α},l[i]?=some x->l.take (i+1)=l.take i++[x]
 |[],i,x,h=>by simp at h
 |a::l,0,x,h=>by
  have e:a=x:=Option.some.inj h
  subst e
  rfl
 |a::l,i+1,x,h=>by
  have ih:=take_snoc (l:=l) (i:=i) (x:=x) h
  show a::l.take (i+1)=a::l.take i++[x]
  rw[ih]
  rfl
theorem afk(zs:List Pr):(Ns.xys zs).length=2*zs.length:=by
 unfold Ns.xys
 induction zs with
 |nil=>rfl
 |cons z zs ih=>
  rw[List.flatMap_cons,List.length_append,ih]
  show 2+2*zs.length=2*(zs.length+1)
  omega
section
variable{P:Program}{w:World}{K:W.Frag}{mg:Str->Option Value}{base:Heap}
def afl(C:Addr):Sp:=fun vs H Q _=>∃(p:Addr)(z:Pr),vs=[.ref p]/\aP C H p z/\∀l H',Same H H'->H l=none->H' l=some (.lst ((Ns.Cd z).map V.int))->Q (.ref l) H'
theorem cD(M:Facts K mg):bf P w K mg base cV 1 M.bF.a M.bF.fd ["pair"] (afl M.aq):=by
 refine M.bF.F.ok wN (fun vs H Q E h=>?_) (fun cdv A outer s H vs Q E hr h=>?_)
 ·obtain⟨p,z,rfl,_⟩:=h
  rfl
 ·obtain⟨p,z,rfl,hp,k⟩:=h
  refine⟨_,(ak (au (aO (nU aC (cC M.aJ M.aV (pv 0)) (cF M.aJ M.aX (pv 0)))))),?_⟩
  rfl'
  exact cJ bY fun l hl=>k l _ (Same.upd H _ hl) hl aG
def aal(C:Addr):Sp:=fun vs H Q _=>∃(l:Addr)(as:List Addr)(zs:List Pr),vs=[.ref l]/\H l=some (.lst (as.map V.ref))/\cA C H as zs/\zs.length<=10000/\∀r H',Same H H'->H' r=some (.lst ((Ns.flat zs).map V.int))->Q (.ref r) H'
theorem vQ(M:Facts K mg):bf P w K mg base cV 1 M.mU.a M.mU.fd ["pairs"] (aal M.aq):=by
 refine M.mU.F.ok Bf (fun vs H Q E h=>?_) (fun cdv A outer s H vs Q E hr h=>?_)
 ·obtain⟨l,as,zs,rfl,_⟩:=h
  rfl
 ·obtain⟨l,as,zs,rfl,hl,hp,hz,k⟩:=h
  refine⟨_,(aj (jz 1 Bf.nd (aO (bO (bK bH rfl M.lR (by decide+kernel) (bO (pv 0)))))) (aj (vp PassesOwn.never rfl (pW (pv 0)) (fG (i:=2) Bf.nd rfl (by first|exact Or.inl rfl|exact Or.inr rfl)) (ak (nP (zM PySem.F.plainAttrs_list PySem.F.slot_list_extend PySem.F.type_list_extend Ef (pv 1) (bO (aO (dh (cC M.aJ M.aV (pv 2)) (cF M.aJ M.aX (pv 2))))))))) (ak (au (pv 1))))),?_⟩
  rfl'
  refine⟨_,_,rfl,.inl (cY.of hl),?_⟩
  rfl'
  refine cJ bY fun r hr0=>?_
  rfl'
  refine Av (zO ?_)
  rfl'
  have sU:Same H (upd H r (.lst [V.int ((as.map V.ref).length:Nat)])):=Same.upd H _ hr0
  refine uI (cY.of (sU _ _ hl)) ?_
  refine uW (xs:=as.map V.ref) (fun i σ H'=>∃v:Option V,σ=[some (.ref l),some (.ref r),v]/\Same H H'/\H' r=some (.lst (((zs.length:Int)::Ns.xys (zs.take i)).map V.int))) ⟨none,rfl,sU,?_⟩ ?_ ?_ ?_
  ·rw[aG,List.length_map,hp.1]
   rfl
  ·rintro i σ H' _ ⟨v,rfl,s1,e1⟩
   exact cY.of (s1 _ _ hl)
  ·rintro i x σ H' hx ⟨v,rfl,s1,e1⟩
   obtain⟨a,ha,rfl⟩:=uz hx
   obtain⟨z,hz',pz⟩:=hp.of ha
   have pz':=pz.same s1
   have hlen:i<=zs.length:=by
    have:=(List.getElem?_eq_some_iff.mp hz').1
    omega
   rfl'
   refine oN (cY.of e1) ?_
   rfl'
   refine cJ bY fun q hq=>?_
   rfl'
   have hrq:r≠q:=aW e1 hq
   refine JK (by rw[aH hrq];exact e1) aG ?_ ?_
   ·rw[List.length_map,List.length_cons,afk,List.length_take,sizeLine_eq]
    show _+2<=_
    omega
   ·refine⟨some (.ref a),rfl,fun b o e=>?_,?_⟩
    ·rw[aH (aW e hr0),aH (aW (s1 b o e) hq)]
     exact s1 b o e
    ·rw[aG,take_snoc hz']
     unfold Ns.xys
     rw[List.flatMap_append,List.map_cons,List.map_cons,List.map_append]
     rfl
  ·rintro σ H' ⟨v,rfl,s1,e1⟩
   rfl'
   rw[List.length_map,hp.1,List.take_length]at e1
   exact k r H' s1 e1
def ajd(Ts:List Tab):Sp:=fun vs H Q _=>∃n:Nat,vs=[.int n]/\Kp279.okN n=true/\dJ Ts H/\∀H',Gr Ts H H'->Q (.int (Ns.lengthOf n:Nat)) H'
theorem vR(M:Facts K mg){Ts:List Tab}(L:bU mg base M Ts):bf P w K mg base cV 8 M.kj.a M.kj.fd ["n"] (ajd Ts):=by
 refine M.kj.F.ok Rj (fun vs H Q E h=>?_) (fun cdv A outer s H vs Q E hr h=>?_)
 ·obtain⟨n,rfl,_⟩:=h
  rfl
 ·obtain⟨n,rfl,hN,tb,k⟩:=h
  refine⟨_,(ak (au (aM gA (bK bH rfl M.lR (by decide+kernel) (bO (bQ M.iH (o7 M L) hr (qG M) (bO (pv 0))))) aC))),?_⟩
  rfl'
  refine⟨n,rfl,hN,tb,fun l H' as g1 hl el hlen pa=>?_⟩
  rfl'
  refine⟨_,_,rfl,.inl (cY.of el),?_⟩
  rfl'
  have e:(((as.map V.ref).length:Nat):Int)-1=(Ns.lengthOf n:Nat):=by
   rw[List.length_map,hlen]
   omega
  rw[e]
  exact k H' g1
end
section
variable{P:Program}{w:World}{K:W.Frag}{mg:Str->Option Value}{base:Heap}
theorem b32{a:Nat}(h:a<2^32):a<2^64:=aL h (by decide)
theorem qd{a:Addr}:decide (V.ref a=V.non)=false:=decide_eq_false (by intro z;cases z)
theorem o8:decide (V.non=V.non)=true:=by decide
theorem aam(M:Facts K mg){Ts:List Tab}(L:bU mg base M Ts):bf P w K mg base cV 4 M.qC.a M.qC.fd ["desk"] (nu M.aq M.aA Ts fun D=>(Kp284Neutral.step (some D) [[21]]).2):=by
 exists M.qC.F,ZJ,Ns.agh,(ak (au (bQ M.bA (bM M) hr (bW M) (dh (aK M.aB M.aR (pv 0)) (bQ M.iU (lF M) hr (nM M) (nU (aK M.aB M.aR (pv 0)) (aK M.aB M.bx (pv 0)) (aK M.aB M.bx (pv 0))))))))
 refine⟨D.n,ph,ph,D.a,D.a,rfl,hh,hh,hz.mono (by decide),hz.mono (by decide),hnB,fun r H1 s1 _ p1=>?_⟩
 rfl'
 exact⟨D.n,r,_,rfl,p1,(uU hn hz hz).mono (by decide),hnB,fun l H2 s2 _ e=>k l H2 (Gr.same tb (s1.trans s2)) e⟩
theorem acZ(M:Facts K mg){Ts:List Tab}(L:bU mg base M Ts):bf P w K mg base cV 5 M.uf.a M.uf.fd ["desk","k"] (nA M.aq M.aA Ts fun D j=>(Kp284Neutral.step (some D) [[22,(j:Nat)]]).2):=by
 exists M.uf.F,acD,Ns.agi,(aj (bC (iM cZ (pv 1) (fD M.Ew)) (ak (au (aO (bO (fD M.aN))))) aU) (ak (au (bQ M.bA (bM M) hr (bW M) (dh (aK M.aB M.aR (pv 0)) (bQ M.jX (pP M) hr (rN M) (nU (aK M.aB M.aR (pv 0)) (aK M.aB M.bx (pv 0)) (pv 1)))))))),j,hj
 refine cO (fun c=>?_) (fun c=>?_)
 ·have c:12<j:=by have:=of_decide_eq_true c;omega
  rfl'
  rw[if_pos c]at k
  exact aQ tb rfl rfl k
 ·have c:¬12<j:=fun q=>c (decide_eq_true (by omega))
  rw[if_neg c]at k
  rfl'
  refine⟨D.n,ph,D.a,j,20,rfl,hh,hz,hn,by omega,by decide,fun r H1 s1 p1=>?_⟩
  rfl'
  exact⟨D.n,r,_,rfl,p1,(Cu hn hz j).mono (by omega),hnB,fun l H2 s2 _ e=>k l H2 (Gr.same tb (s1.trans s2)) e⟩
theorem aan(M:Facts K mg){Ts:List Tab}(L:bU mg base M Ts):bf P w K mg base cV 4 M.qD.a M.qD.fd ["desk","u","v"] (gY M.aq M.aA Ts fun D u v=>(Kp284Neutral.step (some D) [[23,(u:Nat),(v:Nat)]]).2):=by
 exists M.qD.F,Em,Ns.agj,(aj (jz 3 Em.nd (Ad M.fZ (aY M) hr M.fY (aZ M) (dh (pv 1) (pv 2)))) (aj (bC (dU (bQ M.gD (mZ M) hr (oJ M) (bO (pv 3)))) (ak (au (aO (bO (fD M.aN))))) aU) (aj (jz 4 Em.nd (bQ M.jN (yW M) hr (Ab M) (nU (aK M.aB M.aR (pv 0)) (aK M.aB M.bx (pv 0)) (pv 3)))) (aj (bC (lW (xr (pv 4))) (ak (au (aO (bO (fD M.dZ))))) aU) (ak (au (bQ M.bA (bM M) hr (bW M) (dh (aK M.aB M.aR (pv 0)) (pv 4))))))))),u,hu,v,hv
 refine cG ⟨u,v⟩ rfl rfl fun p1 H1 s1 n1 q1=>?_
 have hI1:=s1 _ _ hI
 have hh1:=hh.same s1
 rfl'
 refine⟨p1,⟨u,v⟩,rfl,q1,?_⟩
 cases hk:Kp284.ok ⟨u,v⟩with
 |false=>
  rw[if_pos (show Kp279.ok u v=false from hk)]at k
  rfl'
  refine bJ ?_
  rfl'
  exact bN (Gr.same tb s1) rfl rfl k
 |true=>
  have hk':¬Kp279.ok u v=false:=fun q=>by rw[show Kp279.ok u v=true from hk]at q;cases q
  rw[if_neg hk']at k
  have hs:=gC hk
  rfl'
  refine cR ?_
  rfl'
  refine⟨D.n,ph,p1,D.a,⟨u,v⟩,rfl,hh1,q1,hz.mono (by decide),hs.mono (by decide),hnB,?_⟩
  cases hp:Kp279.parted D.n D.a ⟨u,v⟩with
  |none=>
   rw[hp]at k
   dsimp only
   rfl'
   rw[o8]
   refine bJ ?_
   rfl'
   exact bN (Gr.same tb s1) rfl rfl k
  |some b=>
   rw[hp]at k
   dsimp only
   intro r H2 s2 _ p2
   have hI2:=s2 _ _ hI1
   rfl'
   rw[qd]
   refine cR ?_
   rfl'
   exact⟨D.n,r,b,rfl,p2,(Zv hn hz hs hp).mono (by decide),hnB,fun l H3 s3 _ e=>k l H3 (Gr.same tb ((s1.trans s2).trans s3)) e⟩
theorem aje(M:Facts K mg){Ts:List Tab}(L:bU mg base M Ts):bf P w K mg base cV 5 M.G6.a M.G6.fd ["desk"] (nu M.aq M.aA Ts fun D=>(Kp284Neutral.step (some D) [[24]]).2):=by
 exists M.G6.F,acE,Ns.agk,(aj (jz 1 acE.nd (bQ M.nT (Hf M) hr (Lj M) (dh (aK M.aB M.aR (pv 0)) (aK M.aB M.bx (pv 0))))) (aj (bC (lW (xr (pv 1))) (ak (au (aO (bO (fD M.dZ))))) aU) (ak (au (bQ M.bA (bM M) hr (bW M) (dh (aK M.aB M.aR (pv 0)) (pv 1)))))))
 refine⟨D.n,ph,D.a,rfl,hh,hz.mono (by decide),hn,?_⟩
 cases hp:Kp279.one D.n D.a with
 |none=>
  rw[hp]at k
  dsimp only
  rfl'
  rw[o8]
  refine bJ ?_
  rfl'
  exact aQ tb rfl rfl k
 |some b=>
  rw[hp]at k
  dsimp only
  intro r H1 s1 p1
  have hI1:=s1 _ _ hI
  rfl'
  rw[qd]
  refine cR ?_
  rfl'
  exact⟨D.n,r,b,rfl,p1,(aiz hn hz hp).mono (by decide),hnB,fun l H3 s3 _ e=>k l H3 (Gr.same tb (s1.trans s3)) e⟩
theorem Ws(M:Facts K mg){Ts:List Tab}(L:bU mg base M Ts):bf P w K mg base cV 4 M.oE.a M.oE.fd ["desk","y"] (nA M.aq M.aA Ts fun D y=>(Kp284Neutral.step (some D) [[25,(y:Nat)]]).2):=by
 exists M.oE.F,V9,Ns.agl,(aj (bC (PW.pt (fQ (iM oM (pv 1) aC) (dW (iM cZ (pv 1) (fD M.vK))))) (ak (au (aO (bO (fD M.aN))))) aU) (ak (au (bQ M.bA (bM M) hr (bW M) (dh (aK M.aB M.aR (pv 0)) (bQ M.fu (qR M) hr (sV M) (dh (aK M.aB M.aR (pv 0)) (pv 1)))))))),y,hy
 refine cO (fun c=>?_) (fun c=>?_)
 ·have c:y<1:=by have:=of_decide_eq_true c;omega
  refine bJ ?_
  rfl'
  rw[if_pos (by omega)]at k
  exact aQ tb rfl rfl k
 ·have c:¬y<1:=fun q=>c (decide_eq_true (by omega))
  rfl'
  refine cO (fun c2=>?_) (fun c2=>?_)
  ·have c2:1000<y:=by have:=of_decide_eq_true c2;omega
   rfl'
   rw[if_pos (by omega)]at k
   exact aQ tb rfl rfl k
  ·have c2:¬1000<y:=fun q=>c2 (decide_eq_true (by omega))
   rfl'
   rw[if_neg (by omega)]at k
   refine⟨D.n,y,rfl,hn,by omega,fun r H1 s1 p1=>?_⟩
   rfl'
   exact⟨D.n,r,_,rfl,p1,(Aw hn (by omega)).mono (by decide),hnB,fun l H3 s3 _ e=>k l H3 (Gr.same tb (s1.trans s3)) e⟩
theorem Wt(M:Facts K mg){Ts:List Tab}(L:bU mg base M Ts):bf P w K mg base cV 8 M.oF.a M.oF.fd ["desk","b"] (nA M.aq M.aA Ts fun D b=>(Kp284Neutral.step (some D) [[26,(b:Nat)]]).2):=by
 exists M.oF.F,Wa,Ns.agm,(aj (bC (PW.pt (fQ (iM oM (pv 1) aC) (dW (iM cZ (pv 1) (fD M.Ez))))) (ak (au (aO (bO (fD M.aN))))) aU) (ak (au (bQ M.bA (bM M) hr (bW M) (dh (aK M.aB M.aR (pv 0)) (bQ M.dY (HX M L) hr (Lk M) (dh (aK M.aB M.aR (pv 0)) (pv 1)))))))),b,hb
 refine cO (fun c=>?_) (fun c=>?_)
 ·have c:b<1:=by have:=of_decide_eq_true c;omega
  refine bJ ?_
  rfl'
  rw[if_pos (by omega)]at k
  exact aQ tb rfl rfl k
 ·have c:¬b<1:=fun q=>c (decide_eq_true (by omega))
  rfl'
  refine cO (fun c2=>?_) (fun c2=>?_)
  ·have c2:60<b:=by have:=of_decide_eq_true c2;omega
   rfl'
   rw[if_pos (by omega)]at k
   exact aQ tb rfl rfl k
  ·have c2:¬60<b:=fun q=>c2 (decide_eq_true (by omega))
   rfl'
   rw[if_neg (by omega)]at k
   refine⟨D.n,b,rfl,hn,by omega,by omega,tb,fun r H1 g1 p1=>?_⟩
   have hc:Kp279.closest D.n b<=60:=by
    obtain⟨i,f,e⟩:=Ns.Gk (n:=D.n) b (by omega)
    have:=(List.getElem?_eq_some_iff.mp f.at_).1
    rw[List.length_map,List.length_range']at this
    omega
   rfl'
   exact⟨D.n,r,_,rfl,p1,(Aw hn (by omega)).mono (by decide),hnB,fun l H3 s3 _ e=>k l H3 (g1.trans (Gr.same g1.1 s3)) e⟩
theorem akM(M:Facts K mg){Ts:List Tab}(L:bU mg base M Ts):bf P w K mg base cV 3 M.Uk.a M.Uk.fd ["desk","u","v"] (gY M.aq M.aA Ts fun D u v=>(Kp284Neutral.step (some D) [[27,(u:Nat),(v:Nat)]]).2):=by
 exists M.Uk.F,ahz,Ns.agn,(aj (jz 3 ahz.nd (Ad M.fZ (aY M) hr M.fY (aZ M) (dh (pv 1) (pv 2)))) (aj (bC (dU (bQ M.gD (mZ M) hr (oJ M) (bO (pv 3)))) (ak (au (aO (bO (fD M.aN))))) aU) (ak (au (aO (dh aC (bQ M.bG (bV M) hr (bZ M) (dh (aK M.aB M.aR (pv 0)) (pv 3))))))))),u,hu,v,hv
 refine cG ⟨u,v⟩ rfl rfl fun p1 H1 s1 n1 q1=>?_
 have hI1:=s1 _ _ hI
 rfl'
 refine⟨p1,⟨u,v⟩,rfl,q1,?_⟩
 cases hk:Kp284.ok ⟨u,v⟩with
 |false=>
  have hk':¬Kp279.ok u v=true:=fun q=>by rw[show Kp279.ok u v=false from hk]at q;cases q
  rw[if_neg hk']at k
  rfl'
  refine bJ ?_
  rfl'
  exact bN (Gr.same tb s1) rfl rfl k
 |true=>
  rw[if_pos (show Kp279.ok u v=true from hk)]at k
  have hs:=gC hk
  rfl'
  refine cR ?_
  rfl'
  refine⟨D.n,p1,⟨u,v⟩,rfl,q1,hs.mono (by decide),hnB,?_⟩
  rfl'
  exact bN (Gr.same tb s1) rfl rfl k
theorem afm(M:Facts K mg){Ts:List Tab}(L:bU mg base M Ts):bf P w K mg base cV 4 M.f_both.a M.f_both.fd ["desk","u","v","s","t"] (ab7 M.aq M.aA Ts fun D u v s t=>(Kp284Neutral.step (some D) [[28,(u:Nat),(v:Nat),(s:Nat),(t:Nat)]]).2):=by
 exists M.f_both.F,Rk,Ns.ago,(aj (jz 5 Rk.nd (Ad M.fZ (aY M) hr M.fY (aZ M) (dh (pv 1) (pv 2)))) (aj (jz 6 Rk.nd (Ad M.fZ (aY M) hr M.fY (aZ M) (dh (pv 3) (pv 4)))) (aj (bC (PW.pt (fQ (dU (bQ M.gD (mZ M) hr (oJ M) (bO (pv 5)))) (dW (dU (bQ M.gD (mZ M) hr (oJ M) (bO (pv 6))))))) (ak (au (aO (bO (fD M.aN))))) aU) (ak (au (bQ M.bA (bM M) hr (bW M) (dh (aK M.aB M.aR (pv 0)) (bQ M.iU (lF M) hr (nM M) (nU (aK M.aB M.aR (pv 0)) (pv 5) (pv 6)))))))))),u,hu,v,hv,s,hs,t,ht
 refine cG ⟨u,v⟩ rfl rfl fun p1 H1 s1 n1 q1=>?_
 rfl'
 refine cG ⟨s,t⟩ rfl rfl fun p2 H2 s2 n2 q2=>?_
 have q1':=q1.same s2
 have hI2:=s2 _ _ (s1 _ _ hI)
 have g2:=Gr.same tb (s1.trans s2)
 rfl'
 refine⟨p1,⟨u,v⟩,rfl,q1',?_⟩
 cases hk:Kp284.ok ⟨u,v⟩with
 |false=>
  rw[if_pos (show Kp279.ok u v=false\/Kp279.ok s t=false from Or.inl hk)]at k
  rfl'
  refine bJ (bJ ?_)
  rfl'
  exact bN g2 rfl rfl k
 |true=>
  have hk1:Kp279.ok u v=true:=hk
  rfl'
  refine cR ?_
  rfl'
  refine⟨p2,⟨s,t⟩,rfl,q2,?_⟩
  cases hk2:Kp284.ok ⟨s,t⟩with
  |false=>
   rw[if_pos (show Kp279.ok u v=false\/Kp279.ok s t=false from Or.inr hk2)]at k
   rfl'
   refine bJ ?_
   rfl'
   exact bN g2 rfl rfl k
  |true=>
   have hk3:Kp279.ok s t=true:=hk2
   rw[if_neg (by rw[hk1,hk3];decide)]at k
   rfl'
   refine cR ?_
   rfl'
   refine⟨D.n,p1,p2,_,_,rfl,q1',q2,(gC hk).mono (by decide),(gC hk2).mono (by decide),hnB,fun r H3 s3 _ p3=>?_⟩
   have hI3:=s3 _ _ hI2
   rfl'
   exact⟨D.n,r,_,rfl,p3,(uU hn (gC hk) (gC hk2)).mono (by decide),hnB,fun l H4 s4 _ e=>k l H4 (Gr.same tb (((s1.trans s2).trans s3).trans s4)) e⟩
theorem afn(M:Facts K mg){Ts:List Tab}(L:bU mg base M Ts):bf P w K mg base cV 2 M.yJ.a M.yJ.fd ["desk","m"] (nA M.aq M.aA Ts fun D m=>(Kp284Neutral.step (some D) [[29,(m:Nat)]]).2):=by
 exists M.yJ.F,Ym,Ns.agp,(aj (bC (iM cZ (pv 1) (fD M.Di)) (ak (au (aO (bO (fD M.aN))))) aU) (aj (jz 2 Ym.nd (bQ M.eO (jP M) hr (lq M) (bO (pv 1)))) (ak (au (aO (dh (pv 2) (aM gA (pv 1) (aM bh (pv 2) (pv 2))))))))),m,hm
 refine cO (fun c=>?_) (fun c=>?_)
 ·have c:10000<m:=by have:=of_decide_eq_true c;omega
  rfl'
  rw[if_pos c]at k
  exact aQ tb rfl rfl k
 ·have c:¬10000<m:=fun q=>c (decide_eq_true (by omega))
  rw[if_neg c]at k
  rfl'
  refine⟨m,rfl,aL (b:=14) (by omega) (by decide),fun r pG=>?_⟩
  have e:=pG.uniq (Ns.Ib m)
  have hrB:r<2^64:=by
   have:=pG.qW
   exact aL (b:=14) (by omega) (by decide)
  rfl'
  rw[<-e]at k
  exact aQ tb rfl rfl k
end
section
variable{P:Program}{w:World}{K:W.Frag}{mg:Str->Option Value}{base:Heap}
theorem ac0(M:Facts K mg){Ts:List Tab}(L:bU mg base M Ts):bf P w K mg base cV 8 M.ug.a M.ug.fd ["desk","j"] (nA M.aq M.aA Ts fun D j=>(Kp284Neutral.step (some D) [[30,(j:Nat)]]).2):=by
 exists M.ug.F,acJ,Ns.agq,(aj (bC (iM cZ (pv 1) (fD M.Rr)) (ak (au (aO (bO (fD M.aN))))) aU) (ak (au (bQ M.bA (bM M) hr (bW M) (dh (aK M.aB M.aR (pv 0)) (bQ M.lD (LC M L) hr (NQ M) (dh (aK M.aB M.aR (pv 0)) (pv 1)))))))),j,hj
 refine cO (fun c=>?_) (fun c=>?_)
 ·have c:60<j:=by have:=of_decide_eq_true c;omega
  rfl'
  rw[if_pos c]at k
  exact aQ tb rfl rfl k
 ·have c:¬60<j:=fun q=>c (decide_eq_true (by omega))
  rw[if_neg c]at k
  rfl'
  refine⟨D.n,j,rfl,hN,by omega,tb,fun r H1 g1 p1=>?_⟩
  have good:=Ns.tK hN (j:=j) (by omega)
  rfl'
  refine⟨D.n,r,_,rfl,p1,⟨aL (b:=250) good.a (by decide),aL (b:=250) good.b (by decide)⟩,hnB,fun l H2 s2 _ e=>k l H2 (g1.trans (Gr.same g1.1 s2)) ?_⟩
  rw[e]
  unfold Ns.aa4
  rw[good.k]
  rfl
theorem aap{n:Nat}{C:Addr}{H:Hp}{as:List Addr}(hlen:as.length=Ns.lengthOf n+1)(pa:∀(m:Nat)(a:Addr),as[m]?=some a->aP C H a (wp n m)):cA C H as ((List.range (Ns.lengthOf n+1)).map (wp n)):=by
 refine⟨by rw[List.length_map,List.length_range,hlen],fun i a z e1 e2=>?_⟩
 have hi:i<Ns.lengthOf n+1:=by
  have:=(List.getElem?_eq_some_iff.mp e1).1
  omega
 rw[List.getElem?_map,List.getElem?_range hi]at e2
 have e2:wp n i=z:=Option.some.inj e2
 subst e2
 exact pa i a e1
theorem ajf(M:Facts K mg){Ts:List Tab}(L:bU mg base M Ts):bf P w K mg base cV 8 M.G7.a M.G7.fd ["desk"] (nu M.aq M.aA Ts fun D=>(Kp284Neutral.step (some D) [[31]]).2):=by
 exists M.G7.F,aiI,Ns.agr,(ak (au (bQ M.mU (vQ M) hr (zB M) (bO (bQ M.iH (o7 M L) hr (qG M) (bO (aK M.aB M.aR (pv 0))))))))
 refine⟨D.n,rfl,hN,tb,fun l H1 as g1 hl el hlen pa=>?_⟩
 have way:=Ns.qI hN
 rfl'
 refine⟨l,as,_,rfl,el,aap hlen pa,by have:=way.len;rw[List.length_map,List.length_range];omega,fun r H2 s2 e=>k r H2 (g1.trans (Gr.same g1.1 s2)) ?_⟩
 rw[e]
 congr 3
 rw[way.all]
 unfold Ns.flat Ns.xys
 rw[List.length_map,List.length_map,List.flatMap_map,List.flatMap_map]
theorem ac1(M:Facts K mg){Ts:List Tab}(L:bU mg base M Ts):bf P w K mg base cV 8 M.uh.a M.uh.fd ["desk"] (nu M.aq M.aA Ts fun D=>(Kp284Neutral.step (some D) [[32]]).2):=by
 exists M.uh.F,Ka,Ns.ags,(aj (su (i:=1) rfl Ka.nd rfl rfl rfl (pW (bQ M.iH (o7 M L) hr (qG M) (bO (aK M.aB M.aR (pv 0))))) (blk (N:=["desk","gaps","pair"]) (sc:=ao Rn) (own:=[("pair",2)]) ⟨rfl,by decide+kernel,by decide+kernel,by decide+kernel,by decide+kernel⟩) (fun _ _ _ _ _=>(fG (i:=2) Ka.nd rfl (Or.inl rfl))) (fun _ _ _ _ _=>zq) (fun _ _ _ _ _=>(bQ M.bG (bV M) hr (bZ M) (dh (aK M.aB M.aR (pv 0)) (pv 2))))) (ak (au (aM Ar (aO (bO (bK bH rfl M.lR (by decide+kernel) (bO (pv 1))))) (pv 1)))))
 refine wz (zO ?_)
 rfl'
 refine⟨D.n,rfl,hN,tb,fun l H1 as g1 hl el hlen pa=>?_⟩
 have way:=Ns.qI hN
 have wl:=way.len
 have hI1:=g1.at tb hI True.intro
 refine uI (cY.of el) ?_
 refine xU (xs:=as.map V.ref) (fun E i acc H'=>Same H1 H'/\H1 E=none/\acc=((List.range i).map fun j=>V.int (Kp280.walk D.n j (Kp280.first D.n)).k)) ?_ ?_ ?_ ?_ ?_
 ·intro v
  rfl
 ·intro E hE
  exact⟨Same.upd H1 _ hE,hE,rfl⟩
 ·rintro E i acc H' _ ⟨s1,hE,_⟩
  exact cY.of (s1 _ _ el)
 ·rintro E i x acc H' hx hla eE ⟨s1,hE,rfl⟩
  obtain⟨a,ha,rfl⟩:=uz hx
  have hi:i<Ns.lengthOf D.n+1:=by
   have:=(List.getElem?_eq_some_iff.mp ha).1
   omega
  have good:=Ns.tK hN (j:=i) (by omega)
  have pz:=(pa i a ha).same s1
  have hI':=s1 _ _ hI1
  refine Ek (bJ ?_)
  rfl'
  refine⟨D.n,a,_,rfl,pz,⟨aL (b:=250) good.a (by decide),aL (b:=250) good.b (by decide)⟩,hnB,?_⟩
  refine qL (by omega) hla eE ⟨?_,hE,?_⟩
  ·exact fun c o e=>by rw[aH (aW e hE)];exact s1 c o e
  ·rw[List.range_succ,List.map_append,show Kp279.diff D.n (wp D.n i)=(Kp280.walk D.n i (Kp280.first D.n)).k from good.k.symm]
   rfl
 ·rintro E acc H' hla eE ⟨s1,hE,rfl⟩
  rw[List.length_map,hlen]at eE
  rfl'
  refine⟨_,_,rfl,.inl (cY.of eE),?_⟩
  rfl'
  refine cJ bY fun q hq=>?_
  rfl'
  have hEq:E≠q:=aW eE hq
  refine Az aG (by rw[aH hEq];exact eE) ?_ fun r hr1=>?_
  ·rw[List.length_map,List.length_range,sizeLine_eq]
   show 1+_<=_
   omega
  ·refine k r _ (g1.trans (Gr.same g1.1 ?_)) ?_
   ·exact(s1.trans (Same.upd H' _ hq)).trans (Same.upd _ _ hr1)
   ·rw[aG,way.all]
    simp[Function.comp]
theorem Wu(M:Facts K mg){Ts:List Tab}(L:bU mg base M Ts):bf P w K mg base cV 9 M.oG.a M.oG.fd ["desk","n"] (nA M.aq M.aA Ts fun D m=>(Kp284Neutral.step (some D) [[33,(m:Nat)]]).2):=by
 exists M.oG.F,Wb,Ns.agt,(aj (bC (nQ (dU (bQ M.jW (pO M) hr (rM M) (bO (pv 1))))) (ak (au (aO (bO (fD M.aN))))) aU) (ak (au (bQ M.bF (cD M) hr (cQ M) (bO (bQ M.eU (lG M L) hr (mY M) (bO (pv 1)))))))),m,hm
 refine⟨m,rfl,b32 hm,?_⟩
 rfl'
 cases hk:Kp279.okN m with
 |false=>
  rw[if_neg (by rw[hk];decide)]at k
  refine bJ ?_
  rfl'
  exact aQ tb rfl rfl k
 |true=>
  rw[if_pos hk]at k
  refine cR ?_
  rfl'
  refine⟨m,rfl,hk,tb,fun r H1 g1 p1=>?_⟩
  rfl'
  exact⟨r,_,rfl,p1,fun l H2 s2 _ e=>k l H2 (g1.trans (Gr.same g1.1 s2)) e⟩
theorem afo(M:Facts K mg){Ts:List Tab}(L:bU mg base M Ts):bf P w K mg base cV 9 M.yK.a M.yK.fd ["desk","n"] (nA M.aq M.aA Ts fun D m=>(Kp284Neutral.step (some D) [[34,(m:Nat)]]).2):=by
 exists M.yK.F,aeT,Ns.agu,(aj (bC (nQ (dU (bQ M.jW (pO M) hr (rM M) (bO (pv 1))))) (ak (au (aO (bO (fD M.aN))))) aU) (ak (au (aO (bO (bQ M.kj (vR M L) hr (yU M) (bO (pv 1)))))))),m,hm
 refine⟨m,rfl,b32 hm,?_⟩
 rfl'
 cases hk:Kp279.okN m with
 |false=>
  rw[if_neg (by rw[hk];decide)]at k
  refine bJ ?_
  rfl'
  exact aQ tb rfl rfl k
 |true=>
  rw[if_pos hk,Ns.Ak hk]at k
  refine cR ?_
  rfl'
  refine⟨m,rfl,hk,tb,fun H1 g1=>?_⟩
  rfl'
  exact bN g1 rfl rfl k
def ajg:Sp:=fun vs H Q _=>∃b:Nat,vs=[.int b]/\2<=b/\b<=60/\∀l H',Same H H'->H l=none->H' l=some (.lst ((Kp280.nons b).map fun(m:Nat)=>V.int (m:Nat)))->Q (.ref l) H'
theorem u9(M:Facts K mg):bf P w K mg base cV 3 M.g8.a M.g8.fd ["b"] ajg:=by
 refine M.g8.F.ok pI (fun vs H Q E h=>?_) (fun cdv A outer s H vs Q E hr h=>?_)
 ·obtain⟨b,rfl,_⟩:=h
  rfl
 ·obtain⟨b,rfl,h2,h60,k⟩:=h
  refine⟨_,(ak (au (Td rfl pI.nd (uQ rfl M.rB (dh (fD M.zA) (aM dX (pv 0) aC))) (blk (N:=["b","n"]) (sc:=ao qQ) (own:=[("n",1)]) ⟨rfl,by decide+kernel,by decide+kernel,by decide+kernel,by decide+kernel⟩) (fun _ _ _ _ _=>(fG (i:=1) pI.nd rfl (Or.inl rfl))) (fun _ _ _ _ _=>(zu (dU (bQ M.jW (pO M) hr (rM M) (bO (pv 1)))))) (fun _ _ _ _ _=>(pv 1))))),?_⟩
  rfl'
  refine wz (Cv ?_)
  rfl'
  refine xQ ⟨by omega,by omega,by omega,by omega⟩ ?_
  refine sE (fun D i acc H'=>Same H H'/\H D=none/\acc=((List.range' 2 i).filter Kp279.okN).map fun(m:Nat)=>V.int (m:Nat)) ?_ ?_ ?_ ?_
  ·intro v
   rfl
  ·intro D hD
   exact⟨Same.upd H _ hD,hD,rfl⟩
  ·rintro D i acc H' hi hl eD ⟨s1,hD,rfl⟩
   have hi:i<b-1:=by
    have:i<(((b:Int)+1)-2).toNat:=hi
    omega
   have e1:(2:Int)+(i:Int)=((2+i:Nat):Int):=by push_cast;rfl
   rw[e1]
   rfl'
   refine⟨2+i,rfl,aL (b:=7) (by omega) (by decide),?_⟩
   rfl'
   have er:List.range' 2 (i+1)=List.range' 2 i++[2+i]:=by rw[List.range'_concat];simp
   cases hf:Kp279.okN (2+i)with
   |true=>
    refine bJ ?_
    rfl'
    refine qL (by omega) hl eD ⟨?_,hD,?_⟩
    ·exact fun c o e=>by rw[aH (aW e hD)];exact s1 c o e
    ·rw[er,List.filter_append,List.map_append]
     simp[hf]
   |false=>
    refine cR ⟨_,by omega,eD,s1,hD,?_⟩
    rw[er,List.filter_append]
    simp[hf]
  ·rintro D acc H' hl eD ⟨s1,hD,rfl⟩
   have Lz:(((b:Int)+1)-2).toNat=b-1:=by omega
   rw[Lz,<-Ns.ad1 h2]at eD
   exact k D H' s1 hD eD
theorem afp(a:Int)(gs:List Int):inV (.int a) (gs.map V.int)=decide (a∈gs):=by
 unfold inV
 rw[List.any_map,Bool.eq_iff_iff,List.any_eq_true,decide_eq_true_iff]
 constructor
 ·rintro ⟨y,hy,e⟩
  have e:(y==a)=true:=e
  rw[<-beq_iff_eq.mp e]
  exact hy
 ·intro h
  exact⟨a,h,by show(a==a)=true;exact beq_self_eq_true a⟩
theorem aaq(gs:List Int):(gs.map V.int).all Cj=true:=by
 rw[List.all_map]
 exact List.all_eq_true.mpr fun x _=>rfl
abbrev wk(n i:Nat):Int:=(Kp280.walk n i (Kp280.first n)).k
def ajh(C:Addr)(Ts:List Tab):Sp:=fun vs H Q _=>∃(n:Nat)(g:Addr)(gs:List Int),vs=[.int n,.ref g]/\Kp279.okN n=true/\H g=some (.tup (gs.map V.int))/\dJ Ts H/\
 (∀j r H',j<=Ns.lengthOf n->wk n j∈gs->(∀i,i<j->wk n i∉gs)->Gr Ts H H'->aP C H' r (wp n j)->Q (.ref r) H')/\((∀i,i<=Ns.lengthOf n->wk n i∉gs)->∀H',Gr Ts H H'->Q .non H')
theorem Ae(M:Facts K mg){Ts:List Tab}(L:bU mg base M Ts):bf P w K mg base cV 8 M.lg.a M.lg.fd ["n","gaps"] (ajh M.aq Ts):=by
 refine M.lg.F.ok z8 (fun vs H Q E h=>?_) (fun cdv A outer s H vs Q E hr h=>?_)
 ·obtain⟨n,g,gs,rfl,_⟩:=h
  rfl
 ·obtain⟨n,g,gs,rfl,hN,hg,tb,k1,k2⟩:=h
  have hn:=(Ns.bD.mp hN).2.1
  have hnB:n<2^64:=aL (b:=6) (by omega) (by decide)
  have way:=Ns.qI hN
  have wl:=way.len
  refine⟨_,(aj (vp PassesOwn.never rfl (pW (bQ M.iH (o7 M L) hr (qG M) (bO (pv 0)))) (fG (i:=2) z8.nd rfl (by first|exact Or.inl rfl|exact Or.inr rfl)) (ak (bC (QK Ze (bQ M.bG (bV M) hr (bZ M) (dh (pv 0) (pv 2))) (pv 1) rfl) (ak (au (pv 2))) aU))) (ak (au rT))),?_⟩
  rfl'
  refine Av (zO ?_)
  rfl'
  refine⟨n,rfl,hN,tb,fun l H1 as g1 hl el hlen pa=>?_⟩
  refine uI (cY.of el) ?_
  refine uW (xs:=as.map V.ref) (fun i σ H'=>H'=H1/\(∃v:Option V,σ=[some (.int n),some (.ref g),v])/\∀j,j<i->wk n j∉gs) ⟨rfl,⟨none,rfl⟩,fun j hj=>absurd hj (Nat.not_lt_zero j)⟩ ?_ ?_ ?_
  ·rintro i σ H' _ ⟨rfl,_,_⟩
   exact cY.of el
  ·rintro i x σ H' hx ⟨rfl,⟨v,rfl⟩,hno⟩
   obtain⟨a,ha,rfl⟩:=uz hx
   have hi:i<Ns.lengthOf n+1:=by
    have:=(List.getElem?_eq_some_iff.mp ha).1
    omega
   have good:=Ns.tK hN (j:=i) (by omega)
   have pz:=pa i a ha
   have hg1:=g1.at tb hg True.intro
   rfl'
   refine⟨n,a,_,rfl,pz,⟨aL (b:=250) good.a (by decide),aL (b:=250) good.b (by decide)⟩,hnB,?_⟩
   rfl'
   refine⟨g,gs.map V.int,rfl,.inr (Ov.of hg1),rfl,aaq gs,?_⟩
   rw[afp,<-good.k]
   rfl'
   by_cases c:wk n i∈gs
   ·rw[decide_eq_true c]
    refine bJ ?_
    rfl'
    exact k1 i a H' (by omega) c hno g1 pz
   ·rw[decide_eq_false c]
    refine cR ?_
    rfl'
    refine⟨rfl,⟨_,rfl⟩,fun j hj=>?_⟩
    rcases Nat.lt_or_ge j i with q|q
    ·exact hno j q
    ·have:j=i:=by omega
     subst this
     exact c
  ·rintro σ H' ⟨rfl,⟨v,rfl⟩,hno⟩
   rw[List.length_map,hlen]at hno
   rfl'
   exact k2 (fun i hi=>hno i (by omega)) H' g1
theorem Yw{n i:Nat}(hN:Kp279.okN n=true)(hi:i<=Ns.lengthOf n):Kp279.diff n (wp n i)=wk n i:=(Ns.Y0 hN hi).symm
theorem ac2(M:Facts K mg){Ts:List Tab}(L:bU mg base M Ts):bf P w K mg base cV 9 M.f_short.a M.f_short.fd ["desk"] (nu M.aq M.aA Ts fun D=>(Kp284Neutral.step (some D) [[35]]).2):=by
 exists M.f_short.F,acL,Ns.agv,(ak (au (bQ M.bA (bM M) hr (bW M) (dh (aK M.aB M.aR (pv 0)) (bQ M.lg (Ae M L) hr (DG M) (dh (aK M.aB M.aR (pv 0)) (VD (cU aC (cU (ql lX aC) (cU aC (nU (ql lX aC) aC (ql lX aC))))))))))))
 refine Q7 (by show 6<=sizeLine;rw[sizeLine_eq];decide) fun g hg=>?_
 have sU:Same H (upd H g (.tup [.int 1,.int (-1),.int 2,.int (-2),.int 4,.int (-4)])):=Same.upd H _ hg
 have gU:=Gr.same tb sU
 refine⟨D.n,g,[1,-1,2,-2,4,-4],rfl,hN,aG,gU.1,fun j r H1 hj hm hno g1 p1=>?_,fun hno=>?_⟩
 ·have good:=Ns.tK hN (j:=j) (by have:=(Ns.qI hN).len;omega)
  have e:Kp280.short D.n=some (Kp280.walk D.n j (Kp280.first D.n)):=by
   unfold Kp280.short
   refine Ns.Jm hN hj ((Ns.Sh _).mpr ?_) fun i hi=>?_
   ·rw[Yw hN hj]
    exact hm
   ·rw[Bool.eq_false_iff]
    intro q
    have q:=(Ns.Sh _).mp q
    rw[Yw hN (by omega)]at q
    exact hno i hi q
  rw[e]at k
  have g2:=gU.trans g1
  rfl'
  refine⟨D.n,r,_,rfl,p1,⟨aL (b:=250) good.a (by decide),aL (b:=250) good.b (by decide)⟩,hnB,fun l H2 s2 _ e=>k l H2 (g2.trans (Gr.same g2.1 s2)) ?_⟩
  rw[e,show Kp279.diff D.n (wp D.n j)=(Kp280.walk D.n j (Kp280.first D.n)).k from good.k.symm]
  rfl
 ·exfalso
  have:=hno (Ns.lengthOf D.n) (Nat.le_refl _)
  rw[show wk D.n (Ns.lengthOf D.n)=1 from((Ns.qI hN).one _ (Nat.le_refl _)).mpr rfl]at this
  exact this (by decide)
theorem ac3(M:Facts K mg){Ts:List Tab}(L:bU mg base M Ts):bf P w K mg base cV 9 M.um.a M.um.fd ["desk","n"] (nA M.aq M.aA Ts fun D m=>(Kp284Neutral.step (some D) [[38,(m:Nat)]]).2):=by
 exists M.um.F,Uh,Ns.agy,(aj (bC (nQ (dU (bQ M.jW (pO M) hr (rM M) (bO (pv 1))))) (ak (au (aO (bO (fD M.aN))))) aU) (aj (jz 2 Uh.nd (bQ M.lg (Ae M L) hr (DG M) (dh (pv 1) (VD (bO (ql lX aC)))))) (aj (bC (lW (xr (pv 2))) (ak (au (aO (bO (fD M.dZ))))) aU) (ak (au (bQ M.bF (cD M) hr (cQ M) (bO (pv 2)))))))),m,hm
 refine⟨m,rfl,b32 hm,?_⟩
 rfl'
 cases hk:Kp279.okN m with
 |false=>
  rw[if_pos hk]at k
  refine bJ ?_
  rfl'
  exact aQ tb rfl rfl k
 |true=>
  rw[if_neg (by rw[hk];decide)]at k
  refine cR ?_
  rfl'
  refine Q7 (by show 1<=sizeLine;rw[sizeLine_eq];decide) fun g hg=>?_
  have sU:Same H (upd H g (.tup [.int (-1)])):=Same.upd H _ hg
  have gU:=Gr.same tb sU
  refine⟨m,g,[-1],rfl,hk,aG,gU.1,fun j r H1 hj hm hno g1 p1=>?_,fun hno H1 g1=>?_⟩
  ·have e:Kp280.minus m=some (Kp280.walk m j (Kp280.first m)):=by
    unfold Kp280.minus
    refine Ns.Jm hk hj (beq_iff_eq.mpr (List.mem_singleton.mp hm)) fun i hi=>?_
    rw[beq_eq_false_iff_ne]
    exact fun q=>hno i hi (List.mem_singleton.mpr q)
   rw[e]at k
   have g2:=gU.trans g1
   rfl'
   rw[qd]
   refine cR ?_
   rfl'
   exact⟨r,_,rfl,p1,fun l H2 s2 _ e=>k l H2 (g2.trans (Gr.same g2.1 s2)) e⟩
  ·have e:Kp280.minus m=none:=by
    unfold Kp280.minus
    refine Ns.find_none hk fun i hi=>?_
    rw[beq_eq_false_iff_ne]
    exact fun q=>hno i hi (List.mem_singleton.mpr q)
   rw[e]at k
   rfl'
   rw[o8]
   refine bJ ?_
   rfl'
   exact bN (gU.trans g1) rfl rfl k
theorem Yx{g:Nat->Nat}{ns:List Nat}{i m i' z:Nat}(hm:ns[i]?=some m)(fm:JH (fun i=>((g (ns.getD i 0):Nat):Int)) ns.length i)(f:Ns.fP (fun(m:Nat)=>-((g m:Nat):Int)) ns i' z):m=z:=by
 have gd:∀(j c:Nat),ns[j]?=some c->ns.getD j 0=c/\j<ns.length:=fun j c e=>⟨by rw[List.getD_eq_getElem?_getD,e];rfl,(List.getElem?_eq_some_iff.mp e).1⟩
 have f1:Ns.fP (fun(m:Nat)=>-((g m:Nat):Int)) ns i m:=by
  refine⟨hm,fun j c hj=>?_,fun j c hji hj=>?_⟩
  ·have h1:=(fm j (gd j c hj).2).1
   simp only[(gd i m hm).1,(gd j c hj).1]at h1
   omega
  ·have h1:=(fm j (gd j c hj).2).2 hji
   simp only[(gd i m hm).1,(gd j c hj).1]at h1
   omega
 exact(f1.uniq f).2
end
section
variable{P:Program}{w:World}{K:W.Frag}{mg:Str->Option Value}{base:Heap}
theorem afq{K:W.Frag}{sp:Sp}{te:TE}{σ:L2.St}{H:Hp}{Q:VK}(h:te σ H (aev K sp Q)):abX K sp te σ H Q:=h
theorem afr{K:W.Frag}{P:Addr}{pos:Pos}{q:Str}{caps:List (Str×Nat)}{te tb:TE}{σ:L2.St}{H:Hp}{Q:VK}(h:te σ H (aew K P pos q caps tb σ Q)):XM K P pos q caps te tb σ H Q:=h
theorem Wv(M:Facts K mg){Ts:List Tab}(L:bU mg base M Ts):bf P w K mg base cV 12 M.oH.a M.oH.fd ["desk","b"] (nA M.aq M.aA Ts fun D b=>(Kp284Neutral.step (some D) [[36,(b:Nat)]]).2):=by
 exists M.oH.F,Kc,Ns.agw,(aj (bC (PW.pt (fQ (iM oM (pv 1) (fD M.zA)) (dW (iM cZ (pv 1) (fD M.vD))))) (ak (au (aO (bO (fD M.aN))))) aU) (aj (jz 2 Kc.nd (abY rfl (vR M L) (hr.mono (by decide)) (bQ M.g8 (u9 M) hr (wJ M) (bO (pv 1))) rfl M.ahB rfl M.kj.m (yU M))) (ak (au (aO (dh (pv 2) (bQ M.kj (vR M L) hr (yU M) (bO (pv 2))))))))),b,hb
 refine cO (fun c=>?_) (fun c=>?_)
 ·have c:b<2:=by have:=of_decide_eq_true c;omega
  refine bJ ?_
  rw[if_pos (Or.inl c)]at k
  rfl'
  exact aQ tb rfl rfl k
 ·have c:¬b<2:=fun q=>c (decide_eq_true (by omega))
  rfl'
  refine cO (fun c1=>?_) (fun c1=>?_)
  ·have c1:60<b:=by have:=of_decide_eq_true c1;omega
   rw[if_pos (Or.inr c1)]at k
   rfl'
   exact aQ tb rfl rfl k
  ·have c1:¬60<b:=fun q=>c1 (decide_eq_true (by omega))
   rw[if_neg (by omega)]at k
   rfl'
   refine afq ?_
   rfl'
   refine⟨b,rfl,by omega,by omega,fun l H1 s1 hl el=>?_⟩
   have g1:=Gr.same tb s1
   obtain⟨hok,i',fm'⟩:=Ns.Sg (b:=b) (by omega)
   have hne:=Ns.Ie (b:=b) (by omega)
   have hall:∀m∈Kp280.nons b,Kp279.okN m=true:=fun m hm=>Ns.zj hm
   generalize hL:Kp280.nons b=ns at*
   refine⟨l,_,fun i=>((Ns.lengthOf (ns.getD i 0):Nat):Int),fun H'=>Gr Ts H1 H',rfl,Gr.refl g1.1,?_,fun H' g=>cY.of (g.at g1.1 el True.intro),fun i y H' hy g=>?_,fun i y H' hy fm g=>?_⟩
   ·rw[List.length_map]
    exact List.length_pos_iff.mpr hne
   ·obtain⟨m,hm,rfl⟩:=Ir hy
    have eg:ns.getD i 0=m:=by rw[List.getD_eq_getElem?_getD,hm];rfl
    refine⟨m,rfl,hall m (List.mem_of_getElem? hm),g.1,fun H2 g2=>⟨?_,g.trans g2⟩⟩
    show _=V.int ((Ns.lengthOf (ns.getD i 0):Nat):Int)
    rw[eg]
   ·obtain⟨m,hm,rfl⟩:=Ir hy
    rw[List.length_map]at fm
    have e:m=Kp280.longest b:=by
     refine Yx (g:=fun m=>(Kp280.all m).length) hm (fun j hj=>?_) fm'
     have q:=fm j hj
     have o:∀j,j<ns.length->(Kp280.all (ns.getD j 0)).length=Ns.lengthOf (ns.getD j 0)+1:=fun j hj=>by
       refine Ns.Ak (hall _ ?_)
       rw[List.getD_eq_getElem?_getD,List.getElem?_eq_getElem hj]
       exact List.getElem_mem hj
     have hi:=(List.getElem?_eq_some_iff.mp hm).1
     simp only[o i hi,o j hj]at q⊢
     exact⟨by have:=q.1;omega,fun h=>by have:=q.2 h;omega⟩
    subst e
    rw[Ns.Ak hok]at k
    rfl'
    refine⟨_,rfl,hok,g.1,fun H2 g2=>?_⟩
    rfl'
    exact bN (g1.trans (g.trans g2)) rfl rfl k
theorem Ux(M:Facts K mg){Ts:List Tab}(L:bU mg base M Ts):bf P w K mg base cV 12 M.ig.a M.ig.fd ["desk","b"] (nA M.aq M.aA Ts fun D b=>(Kp284Neutral.step (some D) [[37,(b:Nat)]]).2):=by
 refine okC M.ig.F L.L3.code GZ (fun vs H Q E h=>?_) (fun A outer s H vs Q E hr h=>?_)
 (obtain⟨d,lk,le,dx,po,ph,D,ks,es,b,rfl,_⟩:=h;rfl)
 obtain⟨d,lk,le,dx,po,ph,D,ks,es,b,rfl,hb,hD,tb,k⟩:=h
 simp only[Ns.agx]at k
 walk_at"hd"
 refine⟨_,(aj (bC (PW.pt (fQ (iM oM (pv 1) (fD M.zA)) (dW (iM cZ (pv 1) (fD M.vD))))) (ak (au (aO (bO (fD M.aN))))) aU) (aj (jz 2 GZ.nd (Zr (x:="n") (caps:=[]) rfl hr.depth (bQ M.g8 (u9 M) hr (wJ M) (bO (pv 1))) rfl M.ahB rfl L.L3.hd L.L3.bm rfl (aiy (N:=["desk","b","found"]) (sc:=ao Bk) ⟨rfl,rfl,rfl,by decide+kernel,rfl,by decide+kernel,by decide+kernel,by decide+kernel⟩) (fun _ _ _ _ _=>rfl) (fun _ _ _ _ _ _=>cC M.aJ M.aV (Ci (lG M L) ((hr.in1.deeper _).mono (by decide)) rfl M.eU.m M.eU.F.kp (mY M) .nil pA (cU (pv 0) lZ))))) (ak (au (aO (dh (pv 2) (cC M.aJ M.aV (bQ M.eU (lG M L) hr (mY M) (bO (pv 2)))))))))),?_⟩
 rfl'
 refine cO (fun c=>?_) (fun c=>?_)
 ·have c:b<2:=by have:=of_decide_eq_true c;omega
  refine bJ ?_
  rw[if_pos (Or.inl c)]at k
  rfl'
  exact aQ tb rfl rfl k
 ·have c:¬b<2:=fun q=>c (decide_eq_true (by omega))
  rfl'
  refine cO (fun c1=>?_) (fun c1=>?_)
  ·have c1:60<b:=by have:=of_decide_eq_true c1;omega
   rw[if_pos (Or.inr c1)]at k
   rfl'
   exact aQ tb rfl rfl k
  ·have c1:¬60<b:=fun q=>c1 (decide_eq_true (by omega))
   rw[if_neg (by omega)]at k
   rfl'
   refine afr ?_
   rfl'
   refine⟨b,rfl,by omega,by omega,fun l H1 s1 hl el=>?_⟩
   have g1:=Gr.same tb s1
   have ht:=L.h3
   have tt:=g1.1 L.t3 ht
   rw[L.p3,L.q3]at tt
   obtain⟨hok,i',fm'⟩:=Ns.Qz (b:=b) (by omega)
   have hne:=Ns.Ie (b:=b) (by omega)
   have hall:∀m∈Kp280.nons b,Kp279.okN m=true:=fun m hm=>Ns.zj hm
   generalize hL:Kp280.nons b=ns at*
   refine⟨l,rfl,tt,fun H2 t2 g2=>?_⟩
   have t2':xP H2 L.t3.P L.t3.pos L.t3.q:=by
    rw[L.p3,L.q3]
    exact t2
   have g12:Gr Ts H H2:=ab1 ht L.u3 tb s1 t2' g2
   have el2:=g2 l _ el (g1.1.ne el True.intro L.t3 ht)
   refine⟨(ns.map fun(m:Nat)=>V.int (m:Nat)),fun i=>(((Kp280.least (ns.getD i 0)).x:Nat):Int),fun H'=>Gr Ts H2 H',Gr.refl g12.1,fun dd H' e g=>g.at g12.1 e True.intro,?_,fun H' g=>cY.of (g.at g12.1 el2 True.intro),fun i y H' hy g=>?_,fun i y H' hy fm g=>?_⟩
   ·rw[List.length_map]
    exact List.length_pos_iff.mpr hne
   ·obtain⟨m,hm,rfl⟩:=Ir hy
    have eg:ns.getD i 0=m:=by rw[List.getD_eq_getElem?_getD,hm];rfl
    rfl'
    refine⟨m,rfl,hall m (List.mem_of_getElem? hm),g.1,fun r H3 g3 p3=>?_⟩
    rfl'
    refine⟨?_,g.trans g3⟩
    show _=V.int (((Kp280.least (ns.getD i 0)).x:Nat):Int)
    rw[eg]
   ·obtain⟨m,hm,rfl⟩:=Ir hy
    rw[List.length_map]at fm
    have e:m=Kp280.greatest b:=Yx (g:=fun m=>(Kp280.least m).x) hm fm fm'
    subst e
    rfl'
    refine⟨_,rfl,hok,g.1,fun r H3 g3 p3=>?_⟩
    rfl'
    exact bN (g12.trans (g.trans g3)) rfl rfl k
end
section
variable{P:Program}{w:World}{K:W.Frag}{mg:Str->Option Value}{base:Heap}
theorem gb{n:Nat}(h:Kp279.okN n=true):Sm 20 (Kp280.least n):=Ns.Gm h
theorem vU{n:Nat}(h:Kp279.okN n=true)(j:Nat):Sm (27*j+1) (Kp281.nth n j):=Cu (Ns.bD.mp h).2.1 (gb h) j
def akN:Sp:=fun vs H Q _=>∃a b:Nat,vs=[.int a,.int b]/\Q (.int (Nat.gcd a b:Nat)) H
theorem Bv(M:Facts K mg):bf P w K mg base cV 1 M.gK.a M.gK.fd ["a","b"] akN:=by
 refine M.gK.F.ok kW (fun vs H Q E h=>?_) (fun cdv A outer s H vs Q E hr h=>?_)
 ·obtain⟨a,b,rfl,_⟩:=h
  rfl
 ·obtain⟨a,b,rfl,k⟩:=h
  refine⟨_,(aj (qj PassesOwn.never (iM xu (pv 1) aC) (aj (jz 2 kW.nd (aM pX (pv 0) (pv 1))) (aj (jz 0 kW.nd (pv 1)) (ak (jz 1 kW.nd (pv 2)))))) (ak (au (pv 0)))),?_⟩
  rfl'
  refine vq (fun σ H'=>H'=H/\∃(x y:Nat)(r:Option V),σ=[some (.int x),some (.int y),r]/\Nat.gcd x y=Nat.gcd a b) (fun σ _=>match σ with|[_,some (.int y),_]=>y.toNat|_=>0) ⟨rfl,a,b,none,rfl,rfl⟩ ?_
  rintro σ H' ⟨rfl,x,y,r,rfl,hg⟩
  rfl'
  by_cases c:y=0
  ·subst c
   rw[decide_eq_true (by rfl:((0:Nat):Int)=0)]
   refine Tr ?_
   rfl'
   rw[Nat.gcd_zero_right]at hg
   rw[hg]
   exact k
  ·rw[decide_eq_false (by omega:¬(y:Int)=0)]
   refine VN ?_
   have hy:(y:Int)≠0:=by omega
   rfl'
   refine lJ hy ?_
   rfl'
   rw[Ns.wY]
   refine⟨⟨rfl,y,x%y,_,rfl,?_⟩,?_⟩
   ·rw[<-hg,Nat.gcd_comm x y,Nat.gcd_rec y x,Nat.gcd_comm]
   ·show((x%y:Nat):Int).toNat<((y:Nat):Int).toNat
    have:=Nat.mod_lt x (show 0<y by omega)
    omega
def aji(C:Addr):Sp:=fun vs H Q _=>∃(p:Addr)(z:Pr)(m:Nat),vs=[.ref p,.int m]/\aP C H p z/\1<=m/\∀r H',Same H H'->aP C H' r ⟨z.x%m,z.y%m⟩->Q (.ref r) H'
theorem vV(M:Facts K mg):bf P w K mg base cV 3 M.mW.a M.mW.fd ["pair","m"] (aji M.aq):=by
 refine M.mW.F.ok V6 (fun vs H Q E h=>?_) (fun cdv A outer s H vs Q E hr h=>?_)
 ·obtain⟨p,z,m,rfl,_⟩:=h
  rfl
 ·obtain⟨p,z,m,rfl,hp,hm,k⟩:=h
  have h0:(m:Int)≠0:=by omega
  refine⟨_,(ak (au (Ad M.fZ (aY M) hr M.fY (aZ M) (dh (aM pX (cC M.aJ M.aV (pv 0)) (pv 1)) (aM pX (cF M.aJ M.aX (pv 0)) (pv 1)))))),?_⟩
  rfl'
  refine lJ h0 ?_
  rfl'
  refine lJ h0 ?_
  rfl'
  exact cG ⟨z.x%m,z.y%m⟩ (Ns.wY _ _) (Ns.wY _ _) fun r H' s1 _ p1=>k r H' s1 p1
def ajj(C:Addr):Sp:=fun vs H Q _=>∃(n:Nat)(p:Addr)(j:Nat),vs=[.int n,.ref p,.int j]/\Kp279.okN n=true/\aP C H p (Kp280.least n)/\2<=j/\j<=12/\∀r H',Same H H'->aP C H' r (Kp281.nth n j)->Q (.ref r) H'
theorem Ww(M:Facts K mg):bf P w K mg base cV 5 M.rH.a M.rH.fd ["n","one","k"] (ajj M.aq):=by
 refine M.rH.F.ok Bh (fun vs H Q E h=>?_) (fun cdv A outer s H vs Q E hr h=>?_)
 ·obtain⟨n,p,j,rfl,_⟩:=h
  rfl
 ·obtain⟨n,p,j,rfl,hN,hp,h2,h12,k⟩:=h
  have hn:=(Ns.bD.mp hN).2.1
  have ls:=gb hN
  refine⟨_,(aj (jz 3 Bh.nd (bQ M.jX (pP M) hr (rN M) (nU (pv 0) (pv 1) (aM gA (pv 2) aC)))) (aj (jz 4 Bh.nd (bQ M.jX (pP M) hr (rN M) (nU (pv 0) (pv 1) (aM gA (pv 2) aC)))) (ak (au (Ad M.fZ (aY M) hr M.fY (aZ M) (dh (aM gA (aM bh (aM bh aC (cC M.aJ M.aV (pv 1))) (cC M.aJ M.aV (pv 3))) (cC M.aJ M.aV (pv 4))) (aM gA (aM bh (aM bh aC (cC M.aJ M.aV (pv 1))) (cF M.aJ M.aX (pv 3))) (cF M.aJ M.aX (pv 4))))))))),?_⟩
  rfl'
  refine⟨n,p,_,j-1,20,by show [V.int n,V.ref p,V.int ((j:Int)-1)]=[V.int n,V.ref p,V.int ((j-1:Nat):Int)];rw[show(j:Int)-1=((j-1:Nat):Int) by omega],hp,ls,hn,by omega,by decide,fun r1 H1 s1 p1=>?_⟩
  have hp1:=hp.same s1
  rfl'
  refine⟨n,p,_,j-2,20,by show [V.int n,V.ref p,V.int ((j:Int)-2)]=[V.int n,V.ref p,V.int ((j-2:Nat):Int)];rw[show(j:Int)-2=((j-2:Nat):Int) by omega],hp1,ls,hn,by omega,by decide,fun r2 H2 s2 p2=>?_⟩
  have hp2:=hp1.same s2
  have p12:=p1.same s2
  have e1:Kp279.power n (Kp280.least n) (j-1)=Kp281.nth n (j-1):=rfl
  have e2:Kp279.power n (Kp280.least n) (j-2)=Kp281.nth n (j-2):=rfl
  rw[e1]at p12
  rw[e2]at p2
  have m1:=vU hN (j-1)
  have m2:=vU hN (j-2)
  have m1:=m1.mono (show 27*(j-1)+1<=500 by omega)
  have m2:=m2.mono (show 27*(j-2)+1<=500 by omega)
  rfl'
  obtain⟨g1,g2⟩:=Ns.R4 hN (j-2)
  rw[show j-2+1=j-1 by omega,show j-2+2=j by omega]at g1 g2
  refine cG (Kp281.nth n j) ?_ ?_ fun r H' s3 _ p3=>k r H' ((s1.trans s2).trans s3) p3
  ·have e:(2:Int)*((Kp280.least n).x:Int)*((Kp281.nth n (j-1)).x:Int)=((2*(Kp280.least n).x*(Kp281.nth n (j-1)).x:Nat):Int):=by push_cast;rfl
   rw[e,g1]
   omega
  ·have e:(2:Int)*((Kp280.least n).x:Int)*((Kp281.nth n (j-1)).y:Int)=((2*(Kp280.least n).x*(Kp281.nth n (j-1)).y:Nat):Int):=by push_cast;rfl
   rw[e,g2]
   omega
def afs(C:Addr):Sp:=fun vs H Q _=>∃(n:Nat)(p:Addr)(m j:Nat),vs=[.int n,.ref p,.int m]/\Kp279.okN n=true/\aP C H p (Kp280.least n)/\1<=m/\m<=100/\1<=j/\Ns.bB n m j=⟨1%m,0⟩/\(∀i,1<=i->i<j->Ns.bB n m i≠⟨1%m,0⟩)/\∀H',Same H H'->Q (.int j) H'
theorem LK(M:Facts K mg):bf P w K mg base cV 4 M.lC.a M.lC.fd ["n","one","m"] (afs M.aq):=by
 refine M.lC.F.ok jV (fun vs H Q E h=>?_) (fun cdv A outer s H vs Q E hr h=>?_)
 ·obtain⟨n,p,m,j,rfl,_⟩:=h
  rfl
 ·obtain⟨n,p,m,j,rfl,hN,hp,h1,h100,hj,hat,hno,k⟩:=h
  have hn:=(Ns.bD.mp hN).2.1
  have hnB:n<2^64:=aL (b:=6) (by omega) (by decide)
  have ls:=gb hN
  refine⟨_,(aj (jz 3 jV.nd (bQ M.mW (vV M) hr (zE M) (dh (Ad M.fZ (aY M) hr M.fY (aZ M) (dh aC aC)) (pv 2)))) (aj (jz 4 jV.nd (bQ M.mW (vV M) hr (zE M) (dh (pv 1) (pv 2)))) (aj (jz 5 jV.nd aC) (aj (qj PassesOwn.never (PW.pt (fQ (iM xu (cC M.aJ M.aV (pv 4)) (cC M.aJ M.aV (pv 3))) (dW (iM xu (cF M.aJ M.aX (pv 4)) (cF M.aJ M.aX (pv 3)))))) (aj (jz 4 jV.nd (bQ M.mW (vV M) hr (zE M) (dh (bQ M.iU (lF M) hr (nM M) (nU (pv 0) (pv 4) (pv 1))) (pv 2)))) (ak (jz 5 jV.nd (aM dX (pv 5) aC))))) (ak (au (pv 5))))))),?_⟩
  rfl'
  refine cG ⟨1,0⟩ rfl rfl fun r0 H0 s0 n0 p0=>?_
  rfl'
  refine⟨r0,_,m,rfl,p0,h1,fun r1 H1 s1 p1=>?_⟩
  have hp1:=hp.same (s0.trans s1)
  rfl'
  refine⟨p,_,m,rfl,hp1,h1,fun r2 H2 s2 p2=>?_⟩
  rfl'
  have p12:=p1.same s2
  rw[<-Ns.R5]at p2
  have e0:(⟨1%m,0%m⟩:Pr)=⟨1%m,0⟩:=by rw[Nat.zero_mod]
  rw[show(⟨(⟨1,0⟩:Pr).x%m,(⟨1,0⟩:Pr).y%m⟩:Pr)=⟨1%m,0⟩from e0]at p12
  refine vq (fun σ H'=>∃(i:Nat)(r:Addr),σ=[some (.int n),some (.ref p),some (.int m),some (.ref r1),some (.ref r),some (.int i)]/\1<=i/\i<=j/\Same H2 H'/\aP M.aq H' r (Ns.bB n m i)) (fun σ _=>match σ with|[_,_,_,_,_,some (.int i)]=>j-i.toNat|_=>0) ⟨1,r2,rfl,Nat.le_refl _,hj,fun _ _ e=>e,p2⟩ ?_
  rintro σ H' ⟨i,r,rfl,hi1,hij,s3,p3⟩
  have q1:=p12.same s3
  have hp3:=(hp1.same s2).same s3
  have sm:=Ns.Mu (n:=n) h1 i
  have sm':Sm 20 (Ns.bB n m i):=⟨Nat.lt_of_lt_of_le sm.1 (by omega),Nat.lt_of_lt_of_le sm.2 (by omega)⟩
  rfl'
  by_cases c:Ns.bB n m i=⟨1%m,0⟩
  ·have eij:i=j:=by
    rcases Nat.lt_or_ge i j with q|q
    ·exact absurd c (hno i hi1 q)
    ·omega
   rw[c,decide_eq_true (by rfl:(((⟨1%m,0⟩:Pr).x:Nat):Int)=(((⟨1%m,0⟩:Pr).x:Nat):Int))]
   refine cR ?_
   rw[c]at p3
   rfl'
   rw[decide_eq_true (by rfl:(((⟨1%m,0⟩:Pr).y:Nat):Int)=(((⟨1%m,0⟩:Pr).y:Nat):Int))]
   refine Tr ?_
   rfl'
   subst eij
   exact k H' ((s0.trans s1).trans (s2.trans s3))
  ·have lt:i<j:=by
    rcases Nat.lt_or_ge i j with q|q
    ·exact q
    ·have:i=j:=by omega
     subst this
     exact absurd hat c
   rcases Classical.em ((Ns.bB n m i).x=1%m)with cx|cx
   case' inl=>
    have cy:¬(((Ns.bB n m i).y:Nat):Int)=(((⟨1%m,0⟩:Pr).y:Nat):Int):=fun q=>c (by
      have q:(Ns.bB n m i).y=0:=by
       have:(((Ns.bB n m i).y:Nat):Int)=((0:Nat):Int):=q
       omega
      generalize Ns.bB n m i=z at*
      obtain⟨x,y⟩:=z
      simp only at cx q
      rw[cx,q])
    rw[decide_eq_true (by rw[cx]:(((Ns.bB n m i).x:Nat):Int)=(((⟨1%m,0⟩:Pr).x:Nat):Int))]
    refine cR ?_
    rfl'
    rw[decide_eq_false cy]
   case' inr=>
    rw[decide_eq_false (fun q=>cx (by have q:(((Ns.bB n m i).x:Nat):Int)=((1%m:Nat):Int):=q;omega):¬(((Ns.bB n m i).x:Nat):Int)=(((⟨1%m,0⟩:Pr).x:Nat):Int))]
    refine bJ ?_
   all_goals
    refine VN ?_
    rfl'
    refine⟨n,r,p,_,_,rfl,p3,hp3,sm'.mono (by decide),ls.mono (by decide),hnB,fun r4 H4 s4 _ p4=>?_⟩
    rfl'
    refine⟨r4,_,m,rfl,p4,h1,fun r5 H5 s5 p5=>?_⟩
    rfl'
    refine⟨⟨i+1,r5,?_,by omega,lt,(s3.trans s4).trans s5,p5⟩,?_⟩
    ·show [some (V.int n),some (V.ref p),some (V.int m),some (V.ref r1),some (V.ref r5),some (V.int ((i:Int)+1))]=_
     push_cast
     rfl
    ·show j-((i:Int)+1).toNat<j-(i:Int).toNat
     omega
def Wx(C CD:Addr):Sp:=fun vs H Q _=>∃(d lk le dx po ph:Addr)(D:Kp284.Desk)(ks es:List Addr)(j:Nat),vs=[.ref d,.int j]/\gW C CD H d D lk le dx po ph ks es/\j<=30/\∀r H',Same H H'->aP C H' r (Kp281.nth D.n j)->Q (.ref r) H'
theorem jJ(M:Facts K mg){Ts:List Tab}(L:bU mg base M Ts):bf P w K mg base cV 5 M.fB.a M.fB.fd ["desk","k"] (Wx M.aq M.aA):=by
 refine M.fB.F.ok T3 (fun vs H Q E h=>?_) (fun cdv A outer s H vs Q E hr h=>?_)
 ·obtain⟨d,lk,le,dx,po,ph,D,ks,es,j,rfl,_⟩:=h
  rfl
 ·obtain⟨d,lk,le,dx,po,ph,D,ks,es,j,rfl,hD,hj,k⟩:=h
  have hI:=hD.ins
  have hN:=hD.wf.n
  have hn:=(Ns.bD.mp hN).2.1
  refine⟨_,(ak (au (bQ M.jX (pP M) hr (rN M) (nU (aK M.aB M.aR (pv 0)) (aK M.aB M.bT (pv 0)) (pv 1))))),?_⟩
  rfl'
  exact⟨D.n,po,_,j,20,rfl,hD.one,gb hN,hn,by omega,by decide,k⟩
theorem gW.same{C CD:Addr}{H H':Hp}{d lk le dx po ph:Addr}{D:Kp284.Desk}{ks es:List Addr}(h:gW C CD H d D lk le dx po ph ks es)(s:Same H H'):gW C CD H' d D lk le dx po ph ks es:=
 ⟨s _ _ h.ins,h.one.same s,h.hand.same s,s _ _ h.kept,h.jE.imp fun _ _ p=>p.same s,s _ _ h.xT,h.zN.imp fun _ _ p=>p.same s,h.ne,h.wf⟩
theorem ajk(M:Facts K mg){Ts:List Tab}(L:bU mg base M Ts):bf P w K mg base cV 9 M.G5.a M.G5.fd ["desk","n","k"] (gY M.aq M.aA Ts fun D m j=>(Kp284Neutral.step (some D) [[39,(m:Nat),(j:Nat)]]).2):=by
 exists M.G5.F,aiH,Ns.agz,(aj (bC (PW.pt (fQ (nQ (dU (bQ M.jW (pO M) hr (rM M) (bO (pv 1))))) (dW (iM cZ (pv 2) (fD M.cM))))) (ak (au (aO (bO (fD M.aN))))) aU) (ak (au (bQ M.bF (cD M) hr (cQ M) (bO (bQ M.jX (pP M) hr (rN M) (nU (pv 1) (bQ M.eU (lG M L) hr (mY M) (bO (pv 1))) (pv 2)))))))),m,hm,j,hj
 refine⟨m,rfl,b32 hm,?_⟩
 rfl'
 cases hk:Kp279.okN m with
 |false=>
  rw[if_pos (Or.inl hk)]at k
  refine bJ (bJ ?_)
  rfl'
  exact aQ tb rfl rfl k
 |true=>
  refine cR ?_
  rfl'
  refine cO (fun c=>?_) (fun c=>?_)
  ·have c:12<j:=by have:=of_decide_eq_true c;omega
   rw[if_pos (Or.inr c)]at k
   rfl'
   exact aQ tb rfl rfl k
  ·have c:¬12<j:=fun q=>c (decide_eq_true (by omega))
   rw[if_neg (by rintro (q|q); ·rw[hk]at q;cases q
                 ·exact c q)]at k
   rfl'
   refine⟨m,rfl,hk,tb,fun r H1 g1 p1=>?_⟩
   rfl'
   refine⟨m,r,_,j,20,rfl,p1,gb hk,(Ns.bD.mp hk).2.1,by omega,by decide,fun r2 H2 s2 p2=>?_⟩
   rfl'
   exact⟨r2,_,rfl,p2,fun l H3 s3 _ e=>k l H3 (g1.trans (Gr.same g1.1 (s2.trans s3))) e⟩
theorem aar(M:Facts K mg){Ts:List Tab}(L:bU mg base M Ts):bf P w K mg base cV 6 M.qw.a M.qw.fd ["desk","x","y"] (gY M.aq M.aA Ts fun D x y=>(Kp284Neutral.step (some D) [[40,(x:Nat),(y:Nat)]]).2):=by
 exists M.qw.F,ZD,Ns.agA,(aj (bC (iM xu (bQ M.bG (bV M) hr (bZ M) (dh (aK M.aB M.aR (pv 0)) (Ad M.fZ (aY M) hr M.fY (aZ M) (dh (pv 1) (pv 2))))) aC) (ak (au (aO (bO (fD M.dZ))))) aU) (ak (au (aO (bO (bQ M.gw (oZ M) hr (qb M) (nU (aK M.aB M.aR (pv 0)) (aK M.aB M.bT (pv 0)) (pv 2)))))))),x,hx,y,hy
 refine cG ⟨x,y⟩ rfl rfl fun p1 H1 s1 n1 q1=>?_
 have hI1:=s1 _ _ hI
 have ho1:=ho.same s1
 rfl'
 refine⟨D.n,p1,⟨x,y⟩,rfl,q1,⟨aL hx (by decide),aL hy (by decide)⟩,hnB,?_⟩
 rfl'
 by_cases c:Kp279.diff D.n ⟨x,y⟩=1
 ·rw[decide_eq_true c]
  refine cR ?_
  obtain⟨j,hj,e1,hf,e2⟩:=Ns.Oi hN c (by show y<2^33;omega)
  rw[e2]at k
  rfl'
  refine⟨D.n,po,y,j,rfl,hN,ho1,by omega,hf,fun H2 s2=>?_⟩
  rfl'
  exact bN (Gr.same tb (s1.trans s2)) rfl rfl k
 ·rw[decide_eq_false c]
  refine bJ ?_
  rw[Ns.uE hN c]at k
  rfl'
  exact bN (Gr.same tb s1) rfl rfl k
theorem Wy(M:Facts K mg){Ts:List Tab}(L:bU mg base M Ts):bf P w K mg base cV 3 M.ou.a M.ou.fd ["desk","x","y"] (gY M.aq M.aA Ts fun D x y=>(Kp284Neutral.step (some D) [[41,(x:Nat),(y:Nat)]]).2):=by
 exists M.ou.F,V7,Ns.agB,(ak (au (aO (bO (rW (iM lA (bQ M.bG (bV M) hr (bZ M) (dh (aK M.aB M.aR (pv 0)) (Ad M.fZ (aY M) hr M.fY (aZ M) (dh (pv 1) (pv 2))))) aC) aC aC))))),x,hx,y,hy
 refine cG ⟨x,y⟩ rfl rfl fun p1 H1 s1 n1 q1=>?_
 have hI1:=s1 _ _ hI
 rfl'
 refine⟨D.n,p1,⟨x,y⟩,rfl,q1,⟨aL hx (by decide),aL hy (by decide)⟩,hnB,?_⟩
 rfl'
 unfold Kp281.isOne at k
 by_cases c:Kp279.diff D.n ⟨x,y⟩=1
 ·rw[decide_eq_true c]
  refine bJ ?_
  rw[if_pos (beq_iff_eq.mpr c)]at k
  rfl'
  exact bN (Gr.same tb s1) rfl rfl k
 ·rw[decide_eq_false c]
  refine cR ?_
  rw[if_neg (fun q=>c (beq_iff_eq.mp q))]at k
  rfl'
  exact bN (Gr.same tb s1) rfl rfl k
theorem ac4(M:Facts K mg){Ts:List Tab}(L:bU mg base M Ts):bf P w K mg base cV 6 M.ud.a M.ud.fd ["desk","b"] (nA M.aq M.aA Ts fun D b=>(Kp284Neutral.step (some D) [[42,(b:Nat)]]).2):=by
 exists M.ud.F,J4,Ns.agC,(aj (jz 2 J4.nd (bQ M.gw (oZ M) hr (qb M) (nU (aK M.aB M.aR (pv 0)) (aK M.aB M.bT (pv 0)) (pv 1)))) (aj (jz 3 J4.nd (bQ M.fB (jJ M L) hr (lu M) (dh (pv 0) (pv 2)))) (ak (au (aO (nU (pv 2) (cC M.aJ M.aV (pv 3)) (cF M.aJ M.aX (pv 3)))))))),b,hb
 obtain⟨j,hj,hf⟩:=Ns.Xg hN (b:=b) (by omega)
 rw[Ns.R3 hN hf 40 0 (Nat.zero_le _) (by omega)]at k
 refine⟨D.n,po,b,j,rfl,hN,ho,by omega,hf,fun H1 s1=>?_⟩
 have hD1:=hD.same s1
 rfl'
 refine⟨d,lk,le,dx,po,ph,D,ks,es,j,rfl,hD1,by omega,fun r H2 s2 p2=>?_⟩
 rfl'
 exact bN (Gr.same tb (s1.trans s2)) rfl rfl k
theorem aft(M:Facts K mg){Ts:List Tab}(L:bU mg base M Ts):bf P w K mg base cV 6 M.yH.a M.yH.fd ["desk","b"] (nA M.aq M.aA Ts fun D b=>(Kp284Neutral.step (some D) [[43,(b:Nat)]]).2):=by
 exists M.yH.F,aeR,Ns.agD,(ak (au (aO (bO (bQ M.gw (oZ M) hr (qb M) (nU (aK M.aB M.aR (pv 0)) (aK M.aB M.bT (pv 0)) (aM dX (pv 1) aC))))))),b,hb
 obtain⟨j,hj,hf⟩:=Ns.Xg hN (b:=b+1) (by omega)
 rw[Ns.ad0 hN hf (by omega)]at k
 refine⟨D.n,po,b+1,j,by show [V.int _,V.ref _,V.int ((b:Int)+1)]=_;push_cast;rfl,hN,ho,by omega,hf,fun H1 s1=>?_⟩
 rfl'
 exact bN (Gr.same tb s1) rfl rfl k
theorem Wz(M:Facts K mg){Ts:List Tab}(L:bU mg base M Ts):bf P w K mg base cV 6 M.oA.a M.oA.fd ["desk","j","k"] (gY M.aq M.aA Ts fun D i j=>(Kp284Neutral.step (some D) [[44,(i:Nat),(j:Nat)]]).2):=by
 exists M.oA.F,V8,Ns.agE,(aj (bC (PW.pt (fQ (iM lA (pv 1) aC) (fQ (iM cZ (pv 1) (fD M.cM)) (dW (iM cZ (pv 2) (fD M.cM)))))) (ak (au (aO (bO (fD M.aN))))) aU) (ak (au (aO (bO (rW (iM lA (aM pX (cF M.aJ M.aX (bQ M.fB (jJ M L) hr (lu M) (dh (pv 0) (pv 2)))) (cF M.aJ M.aX (bQ M.fB (jJ M L) hr (lu M) (dh (pv 0) (pv 1))))) aC) aC aC)))))),i,hi,j,hj
 refine cO (fun c=>?_) (fun c=>?_)
 ·have c:i=0:=by have:=of_decide_eq_true c;omega
  refine bJ ?_
  rw[if_pos (Or.inr (Or.inr c))]at k
  rfl'
  exact aQ tb rfl rfl k
 ·have c:¬i=0:=fun q=>c (decide_eq_true (by omega))
  rfl'
  refine cO (fun c1=>?_) (fun c1=>?_)
  ·have c1:12<i:=by have:=of_decide_eq_true c1;omega
   refine bJ ?_
   rw[if_pos (Or.inl c1)]at k
   rfl'
   exact aQ tb rfl rfl k
  ·have c1:¬12<i:=fun q=>c1 (decide_eq_true (by omega))
   rfl'
   refine cO (fun c2=>?_) (fun c2=>?_)
   ·have c2:12<j:=by have:=of_decide_eq_true c2;omega
    rw[if_pos (Or.inr (Or.inl c2))]at k
    rfl'
    exact aQ tb rfl rfl k
   ·have c2:¬12<j:=fun q=>c2 (decide_eq_true (by omega))
    rw[if_neg (by omega)]at k
    rfl'
    refine⟨d,lk,le,dx,po,ph,D,ks,es,j,rfl,hD,by omega,fun r1 H1 s1 p1=>?_⟩
    have hD1:=hD.same s1
    rfl'
    refine⟨d,lk,le,dx,po,ph,D,ks,es,i,rfl,hD1,by omega,fun r2 H2 s2 p2=>?_⟩
    have y0:0<(Kp281.nth D.n i).y:=by
     have:=(Ns.nq hN (i-1)).1
     rw[show i-1+1=i by omega]at this
     exact this
    have y1:((Kp281.nth D.n i).y:Int)≠0:=by omega
    rfl'
    refine lJ y1 ?_
    rw[Ns.wY]
    rfl'
    by_cases q:(Kp281.nth D.n j).y%(Kp281.nth D.n i).y=0
    ·rw[decide_eq_true (by rw[q];rfl)]
     refine bJ ?_
     rw[if_pos q]at k
     rfl'
     exact bN (Gr.same tb (s1.trans s2)) rfl rfl k
    ·rw[decide_eq_false (by omega)]
     refine cR ?_
     rw[if_neg q]at k
     rfl'
     exact bN (Gr.same tb (s1.trans s2)) rfl rfl k
theorem aas(M:Facts K mg){Ts:List Tab}(L:bU mg base M Ts):bf P w K mg base cV 6 M.qx.a M.qx.fd ["desk","j","k"] (gY M.aq M.aA Ts fun D i j=>(Kp284Neutral.step (some D) [[45,(i:Nat),(j:Nat)]]).2):=by
 exists M.qx.F,ZF,Ns.agF,(aj (bC (PW.pt (fQ (iM cZ (pv 1) (fD M.cM)) (dW (iM cZ (pv 2) (fD M.cM))))) (ak (au (aO (bO (fD M.aN))))) aU) (ak (au (aO (dh aC (bQ M.gK (Bv M) hr (Dz M) (dh (cF M.aJ M.aX (bQ M.fB (jJ M L) hr (lu M) (dh (pv 0) (pv 1)))) (cF M.aJ M.aX (bQ M.fB (jJ M L) hr (lu M) (dh (pv 0) (pv 2))))))))))),i,hi,j,hj
 refine cO (fun c1=>?_) (fun c1=>?_)
 ·have c1:12<i:=by have:=of_decide_eq_true c1;omega
  refine bJ ?_
  rw[if_pos (Or.inl c1)]at k
  rfl'
  exact aQ tb rfl rfl k
 ·have c1:¬12<i:=fun q=>c1 (decide_eq_true (by omega))
  rfl'
  refine cO (fun c2=>?_) (fun c2=>?_)
  ·have c2:12<j:=by have:=of_decide_eq_true c2;omega
   rw[if_pos (Or.inr c2)]at k
   rfl'
   exact aQ tb rfl rfl k
  ·have c2:¬12<j:=fun q=>c2 (decide_eq_true (by omega))
   rw[if_neg (by omega)]at k
   rfl'
   refine⟨d,lk,le,dx,po,ph,D,ks,es,i,rfl,hD,by omega,fun r1 H1 s1 p1=>?_⟩
   have hD1:=hD.same s1
   rfl'
   refine⟨d,lk,le,dx,po,ph,D,ks,es,j,rfl,hD1,by omega,fun r2 H2 s2 p2=>?_⟩
   rfl'
   refine⟨_,_,rfl,?_⟩
   rfl'
   exact bN (Gr.same tb (s1.trans s2)) rfl rfl k
theorem Uy(M:Facts K mg){Ts:List Tab}(L:bU mg base M Ts):bf P w K mg base cV 6 M.mJ.a M.mJ.fd ["desk","j","k"] (gY M.aq M.aA Ts fun D i j=>(Kp284Neutral.step (some D) [[46,(i:Nat),(j:Nat)]]).2):=by
 exists M.mJ.F,T6,Ns.agG,(aj (bC (PW.pt (fQ (iM cZ (pv 1) (fD M.cM)) (dW (iM cZ (pv 2) (fD M.cM))))) (ak (au (aO (bO (fD M.aN))))) aU) (ak (au (bQ M.bF (cD M) hr (cQ M) (bO (bQ M.iU (lF M) hr (nM M) (nU (aK M.aB M.aR (pv 0)) (bQ M.fB (jJ M L) hr (lu M) (dh (pv 0) (pv 1))) (bQ M.fB (jJ M L) hr (lu M) (dh (pv 0) (pv 2)))))))))),i,hi,j,hj
 refine cO (fun c1=>?_) (fun c1=>?_)
 ·have c1:12<i:=by have:=of_decide_eq_true c1;omega
  refine bJ ?_
  rw[if_pos (Or.inl c1)]at k
  rfl'
  exact aQ tb rfl rfl k
 ·have c1:¬12<i:=fun q=>c1 (decide_eq_true (by omega))
  rfl'
  refine cO (fun c2=>?_) (fun c2=>?_)
  ·have c2:12<j:=by have:=of_decide_eq_true c2;omega
   rw[if_pos (Or.inr c2)]at k
   rfl'
   exact aQ tb rfl rfl k
  ·have c2:¬12<j:=fun q=>c2 (decide_eq_true (by omega))
   rw[if_neg (by omega)]at k
   rfl'
   refine⟨d,lk,le,dx,po,ph,D,ks,es,i,rfl,hD,by omega,fun r1 H1 s1 p1=>?_⟩
   have hD1:=hD.same s1
   rfl'
   refine⟨d,lk,le,dx,po,ph,D,ks,es,j,rfl,hD1,by omega,fun r2 H2 s2 p2=>?_⟩
   have p12:=p1.same s2
   rfl'
   refine⟨D.n,r1,r2,_,_,rfl,p12,p2,(vU hN i).mono (by omega),(vU hN j).mono (by omega),hnB,fun r3 H3 s3 _ p3=>?_⟩
   rfl'
   exact⟨r3,_,rfl,p3,fun l H4 s4 _ e=>k l H4 (Gr.same tb ((s1.trans s2).trans (s3.trans s4))) e⟩
theorem afu(M:Facts K mg){Ts:List Tab}(L:bU mg base M Ts):bf P w K mg base cV 6 M.yI.a M.yI.fd ["desk","k"] (nA M.aq M.aA Ts fun D j=>(Kp284Neutral.step (some D) [[47,(j:Nat)]]).2):=by
 exists M.yI.F,aeS,Ns.agH,(aj (bC (PW.pt (fQ (iM oM (pv 1) aC) (dW (iM cZ (pv 1) (fD M.cM))))) (ak (au (aO (bO (fD M.aN))))) aU) (ak (au (bQ M.bF (cD M) hr (cQ M) (bO (bQ M.rH (Ww M) hr (Z7 M) (nU (aK M.aB M.aR (pv 0)) (aK M.aB M.bT (pv 0)) (pv 1)))))))),j,hj
 refine cO (fun c1=>?_) (fun c1=>?_)
 ·have c1:j<2:=by have:=of_decide_eq_true c1;omega
  refine bJ ?_
  rw[if_pos (Or.inr c1)]at k
  rfl'
  exact aQ tb rfl rfl k
 ·have c1:¬j<2:=fun q=>c1 (decide_eq_true (by omega))
  rfl'
  refine cO (fun c2=>?_) (fun c2=>?_)
  ·have c2:12<j:=by have:=of_decide_eq_true c2;omega
   rw[if_pos (Or.inl c2)]at k
   rfl'
   exact aQ tb rfl rfl k
  ·have c2:¬12<j:=fun q=>c2 (decide_eq_true (by omega))
   rw[if_neg (by omega)]at k
   rfl'
   refine⟨D.n,po,j,rfl,hN,ho,by omega,by omega,fun r1 H1 s1 p1=>?_⟩
   rfl'
   obtain⟨g1,g2⟩:=Ns.R4 hN (j-2)
   rw[show j-2+1=j-1 by omega,show j-2+2=j by omega]at g1 g2
   have a1:((2*(Kp280.least D.n).x*(Kp281.nth D.n (j-1)).x:Nat):Int)-((Kp281.nth D.n (j-2)).x:Int)=((Kp281.nth D.n j).x:Int):=by rw[g1];omega
   have a2:((2*(Kp280.least D.n).x*(Kp281.nth D.n (j-1)).y:Nat):Int)-((Kp281.nth D.n (j-2)).y:Int)=((Kp281.nth D.n j).y:Int):=by rw[g2];omega
   rw[a1,a2]at k
   exact⟨r1,_,rfl,p1,fun l H2 s2 _ e=>k l H2 (Gr.same tb (s1.trans s2)) e⟩
theorem aat(M:Facts K mg){Ts:List Tab}(L:bU mg base M Ts):bf P w K mg base cV 6 M.qy.a M.qy.fd ["desk","k","b"] (gY M.aq M.aA Ts fun D j b=>(Kp284Neutral.step (some D) [[48,(j:Nat),(b:Nat)]]).2):=by
 exists M.qy.F,PK,Ns.agI,(aj (bC (PW.pt (fQ (iM lA (pv 1) aC) (fQ (iM cZ (pv 1) (fD M.cM)) (dW (iM cZ (pv 2) (fD M.Er)))))) (ak (au (aO (bO (fD M.aN))))) aU) (aj (jz 3 PK.nd (bQ M.fB (jJ M L) hr (lu M) (dh (pv 0) (pv 1)))) (ak (au (aO (nU aC (aM cP (aM bh (pv 2) (cC M.aJ M.aV (pv 3))) (cF M.aJ M.aX (pv 3))) (bQ M.eO (jP M) hr (lq M) (bO (aM bh (aM bh (aK M.aB M.aR (pv 0)) (pv 2)) (pv 2)))))))))),j,hj,b,hb
 refine cO (fun c=>?_) (fun c=>?_)
 ·have c:j=0:=by have:=of_decide_eq_true c;omega
  refine bJ ?_
  rw[if_pos (Or.inr (Or.inl c))]at k
  rfl'
  exact aQ tb rfl rfl k
 ·have c:¬j=0:=fun q=>c (decide_eq_true (by omega))
  rfl'
  refine cO (fun c1=>?_) (fun c1=>?_)
  ·have c1:12<j:=by have:=of_decide_eq_true c1;omega
   refine bJ ?_
   rw[if_pos (Or.inl c1)]at k
   rfl'
   exact aQ tb rfl rfl k
  ·have c1:¬12<j:=fun q=>c1 (decide_eq_true (by omega))
   generalize hM:(1000000:Nat)=T at k
   generalize Uz:(1000000:Int)=T2
   have hTT:T2=(T:Int):=by rw[<-hM,<-Uz];rfl
   rfl'
   refine cO (fun c2=>?_) (fun c2=>?_)
   ·have c2:T<b:=by have:=of_decide_eq_true c2;omega
    rw[if_pos (Or.inr (Or.inr c2))]at k
    rfl'
    exact aQ tb rfl rfl k
   ·have c2:¬T<b:=fun q=>c2 (decide_eq_true (by omega))
    rw[if_neg (by omega)]at k
    have hbB:b<2^20:=by omega
    rfl'
    refine⟨d,lk,le,dx,po,ph,D,ks,es,j,rfl,hD,by omega,fun r1 H1 s1 p1=>?_⟩
    have hI1:=s1 _ _ hI
    have y0:0<(Kp281.nth D.n j).y:=by
     have:=(Ns.nq hN (j-1)).1
     rw[show j-1+1=j by omega]at this
     exact this
    have sm:=(vU hN j).mono (show 27*j+1<=400 by omega)
    have y1:((Kp281.nth D.n j).y:Int)≠0:=by omega
    have yB:Bd 9000 ((Kp281.nth D.n j).y:Int):=sm.y.mono (by decide)
    have aqZ:b<2^64:=aL hbB (by decide)
    rfl'
    refine lJ ⟨y1,yB⟩ ?_
    rfl'
    have e0:(D.n:Int)*(b:Int)*(b:Int)=((D.n*b*b:Nat):Int):=by push_cast;rfl
    have v1:b*b<2^40:=mul_pow hbB hbB
    have v2:D.n*b*b<2^46:=by
     rw[Nat.mul_assoc]
     exact mul_pow (j:=6) (by omega) v1
    refine⟨D.n*b*b,by rw[e0];rfl,aL v2 (by decide),fun q hq=>?_⟩
    have eq:=hq.uniq (Ns.uO (m:=D.n*b*b) (by
     have:(2:Nat)^46+1<2^200:=by decide
     omega))
    rw[<-eq]at k
    rfl'
    refine bN (Gr.same tb s1) ?_ rfl k
    have e1:((b:Int)*((Kp281.nth D.n j).x:Int)).fdiv ((Kp281.nth D.n j).y:Int)=(((Kp281.nth D.n j).x*b/(Kp281.nth D.n j).y:Nat):Int):=by
     rw[<-Ns.oK]
     push_cast
     rw[Int.mul_comm]
    rw[e1]
    rfl
theorem aau(M:Facts K mg){Ts:List Tab}(L:bU mg base M Ts):bf P w K mg base cV 6 M.qz.a M.qz.fd ["desk","m","k"] (gY M.aq M.aA Ts fun D m j=>(Kp284Neutral.step (some D) [[49,(m:Nat),(j:Nat)]]).2):=by
 exists M.qz.F,ZG,Ns.agJ,(aj (bC (PW.pt (fQ (iM oM (pv 1) aC) (fQ (iM cZ (pv 1) (fD M.Bt)) (dW (iM cZ (pv 2) (fD M.cM)))))) (ak (au (aO (bO (fD M.aN))))) aU) (ak (au (bQ M.bF (cD M) hr (cQ M) (bO (bQ M.mW (vV M) hr (zE M) (dh (bQ M.fB (jJ M L) hr (lu M) (dh (pv 0) (pv 2))) (pv 1)))))))),m,hm,j,hj
 refine cO (fun c=>?_) (fun c=>?_)
 ·have c:m<1:=by have:=of_decide_eq_true c;omega
  refine bJ ?_
  rw[if_pos (Or.inl (by omega))]at k
  rfl'
  exact aQ tb rfl rfl k
 ·have c:¬m<1:=fun q=>c (decide_eq_true (by omega))
  rfl'
  refine cO (fun c1=>?_) (fun c1=>?_)
  ·have c1:1000<m:=by have:=of_decide_eq_true c1;omega
   refine bJ ?_
   rw[if_pos (Or.inr (Or.inl c1))]at k
   rfl'
   exact aQ tb rfl rfl k
  ·have c1:¬1000<m:=fun q=>c1 (decide_eq_true (by omega))
   rfl'
   refine cO (fun c2=>?_) (fun c2=>?_)
   ·have c2:12<j:=by have:=of_decide_eq_true c2;omega
    rw[if_pos (Or.inr (Or.inr c2))]at k
    rfl'
    exact aQ tb rfl rfl k
   ·have c2:¬12<j:=fun q=>c2 (decide_eq_true (by omega))
    rw[if_neg (by omega)]at k
    rfl'
    refine⟨d,lk,le,dx,po,ph,D,ks,es,j,rfl,hD,by omega,fun r1 H1 s1 p1=>?_⟩
    rfl'
    refine⟨r1,_,m,rfl,p1,by omega,fun r2 H2 s2 p2=>?_⟩
    rfl'
    exact⟨r2,_,rfl,p2,fun l H3 s3 _ e=>k l H3 (Gr.same tb ((s1.trans s2).trans s3)) e⟩
theorem UG(M:Facts K mg){Ts:List Tab}(L:bU mg base M Ts):bf P w K mg base cV 5 M.mK.a M.mK.fd ["desk","m"] (nA M.aq M.aA Ts fun D m=>(Kp284Neutral.step (some D) [[50,(m:Nat)]]).2):=by
 exists M.mK.F,T9,Ns.agK,(aj (bC (PW.pt (fQ (iM oM (pv 1) aC) (dW (iM cZ (pv 1) (fD M.Et))))) (ak (au (aO (bO (fD M.aN))))) aU) (ak (au (aO (bO (bQ M.lC (LK M) hr (NP M) (nU (aK M.aB M.aR (pv 0)) (aK M.aB M.bT (pv 0)) (pv 1)))))))),m,hm
 refine cO (fun c=>?_) (fun c=>?_)
 ·have c:m<1:=by have:=of_decide_eq_true c;omega
  refine bJ ?_
  rw[if_pos (Or.inl (by omega))]at k
  rfl'
  exact aQ tb rfl rfl k
 ·have c:¬m<1:=fun q=>c (decide_eq_true (by omega))
  rfl'
  refine cO (fun c1=>?_) (fun c1=>?_)
  ·have c1:100<m:=by have:=of_decide_eq_true c1;omega
   rw[if_pos (Or.inr c1)]at k
   rfl'
   exact aQ tb rfl rfl k
  ·have c1:¬100<m:=fun q=>c1 (decide_eq_true (by omega))
   rw[if_neg (by omega)]at k
   obtain⟨j,h1,_,h3,h4,h5⟩:=Ns.aa1 (m:=m) hN (by omega) (by omega)
   rw[h5]at k
   rfl'
   refine⟨D.n,po,m,j,rfl,hN,ho,by omega,by omega,h1,h3,h4,fun H1 s1=>?_⟩
   rfl'
   exact bN (Gr.same tb s1) rfl rfl k
end
section
variable{P:Program}{w:World}{K:W.Frag}{mg:Str->Option Value}{base:Heap}
def afv(C:Addr):Sp:=fun vs H Q _=>∃(n:Nat)(g:Int)(y:Nat),vs=[.int n,.int g,.int y]/\n<=60/\y<=1000000/\g.natAbs<=60/\match Kp282.withY n g y with
 |none=>Q .non H
 |some z=>∀r H',Same H H'->aP C H' r z->Q (.ref r) H'
theorem sY(M:Facts K mg):bf P w K mg base cV 3 M.iD.a M.iD.fd ["n","gap","y"] (afv M.aq):=by
 refine M.iD.F.ok sG (fun vs H Q E h=>?_) (fun cdv A outer s H vs Q E hr h=>?_)
 ·obtain⟨n,g,y,rfl,_⟩:=h
  rfl
 ·obtain⟨n,g,y,rfl,hn,hy,hg,k⟩:=h
  have hnB:n<2^64:=aL (b:=6) (by omega) (by decide)
  have hyB:y<2^64:=aL (b:=20) (by omega) (by decide)
  have hv:=Ns.Qy hn hy hg
  refine⟨_,(aj (jz 3 sG.nd (aM dX (aM bh (aM bh (pv 0) (pv 2)) (pv 2)) (pv 1))) (aj (bC (iM oM (pv 3) aC) (ak (au rT)) aU) (aj (jz 4 sG.nd (bQ M.eO (jP M) hr (lq M) (bO (pv 3)))) (aj (bC (iM xu (aM bh (pv 4) (pv 4)) (pv 3)) (ak (au rT)) aU) (ak (au (Ad M.fZ (aY M) hr M.fY (aZ M) (dh (pv 4) (pv 2))))))))),?_⟩
  rfl'
  generalize hV:(n:Int)*(y:Int)*(y:Int)+g=v at*
  unfold Kp282.withY at k
  simp only[hV]at k
  refine cO (fun c=>?_) (fun c=>?_)
  ·have c:v<0:=of_decide_eq_true c
   rw[if_pos c]at k
   rfl'
   exact k
  ·have c:¬v<0:=fun q=>c (decide_eq_true q)
   rw[if_neg c]at k
   have ev:v=((v.toNat:Nat):Int):=by omega
   rfl'
   refine⟨v.toNat,by rw[<-ev];rfl,aL hv (by decide),fun r pG=>?_⟩
   have e:=pG.uniq (Ns.uO (m:=v.toNat) (by
    have:(2:Nat)^46+1<2^200:=by decide
    omega))
   rw[<-e]at k
   have hrB:r<2^64:=by
    have:=pG.qW
    exact aL (b:=46) (by omega) (by decide)
   rfl'
   by_cases q:r*r=v.toNat
   ·have q':(r:Int)*(r:Int)=v:=by
     rw[ev,<-q]
     push_cast
     rfl
    rw[decide_eq_true q']
    refine cR ?_
    rw[if_pos q]at k
    rfl'
    exact cG ⟨r,y⟩ rfl rfl fun p H' s1 _ p1=>k p H' s1 p1
   ·have q':¬(r:Int)*(r:Int)=v:=fun z=>q (by
     have:((r*r:Nat):Int)=v:=by push_cast;exact z
     omega)
    rw[decide_eq_false q']
    refine bJ ?_
    rw[if_neg q]at k
    rfl'
    exact k
def LQ(C:Addr)(H:Hp)(v:V):Option Pr->Prop
 |none=>v=.non
 |some z=>∃a,v=.ref a/\aP C H a z
theorem LQ.imp{C:Addr}{H H':Hp}{v:V}{o:Option Pr}(h:LQ C H v o)(f:∀a z,aP C H a z->aP C H' a z):LQ C H' v o:=by
 cases o with
 |none=>exact h
 |some z=>
  obtain⟨a,e,p⟩:=h
  exact⟨a,e,f a z p⟩
theorem Rw{C D:Addr}{H:Hp}{xs ys:List V}{a:Addr}{z:Pr}(e:H D=some (.lst xs))(p:aP C H a z):aP C (upd H D (.lst ys)) a z:=by
 obtain⟨dx,q⟩:=p
 exact⟨dx,by rw[aH (fun z=>by rw[z,e]at q;cases q)];exact q⟩
def akO(C:Addr):Sp:=fun vs H Q _=>∃(n:Nat)(g:Int)(b:Nat),vs=[.int n,.int g,.int b]/\n<=60/\b<=10000/\g.natAbs<=60/\∀l H' as,Same H H'->H' l=some (.lst (as.map V.ref))->cA C H' as (Kp282.upTo n g b)->Q (.ref l) H'
theorem tu(M:Facts K mg):bf P w K mg base cV 4 M.iG.a M.iG.fd ["n","gap","b"] (akO M.aq):=by
 refine M.iG.F.ok mC (fun vs H Q E h=>?_) (fun cdv A outer s H vs Q E hr h=>?_)
 ·obtain⟨n,g,b,rfl,_⟩:=h
  rfl
 ·obtain⟨n,g,b,rfl,hn,hb,hg,k⟩:=h
  refine⟨_,(aj (su (i:=3) rfl mC.nd rfl rfl rfl (zm rfl M.rB (bO (aM dX (pv 2) aC))) (blk (N:=["n","gap","b","candidates","y","pair"]) (sc:=ao pY) (own:=[("y",4)]) ⟨rfl,by decide+kernel,by decide+kernel,by decide+kernel,by decide+kernel⟩) (fun _ _ _ _ _=>(fG (i:=4) mC.nd rfl (Or.inl rfl))) (fun _ _ _ _ _=>zq) (fun _ _ _ _ _=>(bQ M.iD (sY M) hr (uL M) (nU (pv 0) (pv 1) (pv 4))))) (ak (au (Td rfl mC.nd (pW (pv 3)) (blk (N:=["n","gap","b","candidates","y","pair"]) (sc:=ao pY) (own:=[("pair",5)]) ⟨rfl,by decide+kernel,by decide+kernel,by decide+kernel,by decide+kernel⟩) (fun _ _ _ _ _=>(fG (i:=5) mC.nd rfl (Or.inl rfl))) (fun _ _ _ _ _=>(zu (lW (QG (pv 5))))) (fun _ _ _ _ _=>(pv 5)))))),?_⟩
  rfl'
  refine wz (XR ?_)
  rfl'
  refine Tq (by omega) (by omega) ?_
  have Lz:((b:Int)+1).toNat=b+1:=by omega
  rw[Lz]
  refine sE (fun D i acc H'=>Same H H'/\H D=none/\acc.length=i/\∀(m:Nat)(v:V),acc[m]?=some v->LQ M.aq H' v (Kp282.withY n g m)) ?_ ?_ ?_ ?_
  ·intro v
   rfl
  ·intro D hD
   exact⟨Same.upd H _ hD,hD,rfl,fun m v e=>by simp at e⟩
  ·rintro D i acc H' hi hl eD ⟨s1,hD,hlen,pa⟩
   rw[show(0:Int)+(i:Int)=(i:Int) by omega]
   refine Ek (bJ ?_)
   rfl'
   have fin:∀(v:V)(H2:Hp),Same H' H2->LQ M.aq H2 v (Kp282.withY n g i)->lcA (fun D i acc H'=>Same H H'/\H D=none/\acc.length=i/\∀(m:Nat)(v:V),acc[m]?=some v->LQ M.aq H' v (Kp282.withY n g m)) D i v H2:=fun v H2 s2 ov=>by
    have eD2:=s2 _ _ eD
    refine qL (by omega) (by omega) eD2 ⟨fun c o e=>?_,hD,by rw[List.length_append,hlen];rfl,fun m u e=>?_⟩
    ·rw[aH (aW e hD)]
     exact s2 c o (s1 c o e)
    ·have up:∀a z,aP M.aq H2 a z->aP M.aq (upd H2 D (.lst (acc++[v]))) a z:=fun a z p=>Rw eD2 p
     rcases Nat.lt_or_ge m acc.length with q|q
     ·rw[List.getElem?_append_left q]at e
      exact((pa m u e).imp fun a z p=>p.same s2).imp up
     ·rw[List.getElem?_append_right q]at e
      have hm:m=i:=by
          have:=(List.getElem?_eq_some_iff.mp e).1
          simp at this
          omega
      subst hm
      have ev:v=u:=by
          rw[hlen]at e
          simpa using e
      subst ev
      exact ov.imp up
   refine⟨n,g,i,rfl,hn,by omega,hg,?_⟩
   cases hw:Kp282.withY n g i with
   |none=>
    exact fin _ _ (fun _ _ e=>e) (by rw[hw];rfl)
   |some z=>
    intro r H2 s2 p2
    exact fin _ _ s2 (by rw[hw];exact⟨r,rfl,p2⟩)
  ·rintro D acc H' hl eD ⟨s1,hD,hlen,pa⟩
   rfl'
   refine wz (zO ?_)
   rfl'
   refine uI (cY.of eD) ?_
   refine xU (xs:=acc) (fun E i Rx H2=>Same H' H2/\H' E=none/\∃as:List Addr,Rx=as.map V.ref/\cA M.aq H2 as ((List.range i).filterMap (Kp282.withY n g))) ?_ ?_ ?_ ?_ ?_
   ·intro v
    rfl
   ·intro E hE
    exact⟨Same.upd H' _ hE,hE,[],rfl,.nil⟩
   ·rintro E i Rx H2 _ ⟨s2,hE,_⟩
    exact cY.of (s2 _ _ eD)
   ·rintro E i x Rx H2 hx hla eE ⟨s2,hE,as,rfl,ps⟩
    have ox:=(pa i x hx).imp fun a z p=>p.same s2
    rfl'
    have hi:i<=10001:=by
      have:=(List.getElem?_eq_some_iff.mp hx).1
      omega
    have er:(List.range (i+1)).filterMap (Kp282.withY n g)=(List.range i).filterMap (Kp282.withY n g)++(match Kp282.withY n g i with|none=>[]|some z=>[z]):=by
      rw[List.range_succ,List.filterMap_append]
      congr 1
      cases hw:Kp282.withY n g i<;>simp[hw]
    cases hw:Kp282.withY n g i with
    |none=>
     rw[hw]at ox er
     have ox:x=.non:=ox
     subst ox
     rw[o8]
     refine cR ⟨_,by omega,eE,s2,hE,as,rfl,?_⟩
     rw[er,List.append_nil]
     exact ps
    |some z=>
     rw[hw]at ox er
     obtain⟨a,rfl,pz⟩:=ox
     rw[qd]
     refine bJ ?_
     rfl'
     refine qL (by omega) hla eE ⟨fun c o e=>?_,hE,as++[a],by rw[List.map_append];rfl,?_⟩
     ·rw[aH (aW e hE)]
      exact s2 c o e
     ·rw[er]
      exact(ps.snoc pz).imp fun a z p=>Rw eE p
   ·rintro E Rx H2 hla eE ⟨s2,hE,as,rfl,ps⟩
    rw[hlen]at ps
    exact k E H2 as (s1.trans s2) eE ps
def afw(C:Addr):Sp:=fun vs H Q _=>∃(p:Addr)(n j:Nat),vs=[.ref p,.int j]/\Kp279.okN n=true/\aP C H p (Kp280.least n)/\j<=60/\Q (.int (Kp282.bound n j:Nat)) H
theorem yZ(M:Facts K mg):bf P w K mg base cV 2 M.mG.a M.mG.fd ["one","k"] (afw M.aq):=by
 refine M.mG.F.ok TQ (fun vs H Q E h=>?_) (fun cdv A outer s H vs Q E hr h=>?_)
 ·obtain⟨p,n,j,rfl,_⟩:=h
  rfl
 ·obtain⟨p,n,j,rfl,hN,hp,hj,k⟩:=h
  have ls:=gb hN
  have two:=(Ns.lV hN).two (Ns.bD.mp hN).1
  have hjB:j<2^64:=aL (b:=6) (by omega) (by decide)
  obtain⟨pG,_⟩:=Ns.rQ hN hj
  refine⟨_,(ak (au (bQ M.eO (jP M) hr (lq M) (bO (aM cP (aM bh (aM bh (cF M.aJ M.aX (pv 0)) (cF M.aJ M.aX (pv 0))) (pv 1)) (aM bh aC (aM gA (cC M.aJ M.aV (pv 0)) aC))))))),?_⟩
  rfl'
  generalize Kp280.least n=l at*
  have e1:(l.x:Int)-1=((l.x-1:Nat):Int):=by omega
  have d0:(2:Int)*((l.x:Int)-1)≠0:=by omega
  have dB:Bd 9000 ((2:Int)*((l.x:Int)-1)):=by
   have:Bd 64 ((2:Int)*((l.x:Int)-1)):=by
    unfold L2.Bd
    have h1:=ls.1
    have:(2:Nat)^20*2<2^64:=by decide
    omega
   exact this.mono (by decide)
  refine lJ ⟨d0,dB⟩ ?_
  rfl'
  have e2:((l.y:Int)*(l.y:Int)*(j:Int)).fdiv ((2:Int)*((l.x:Int)-1))=((l.y*l.y*j/(2*(l.x-1)):Nat):Int):=by
   rw[<-Ns.oK,e1]
   push_cast
   rfl
  refine⟨_,by rw[e2];rfl,?_,fun r hr1=>?_⟩
  ·have h1:l.y*l.y*j<2^(20+20+6):=mul_pow (mul_pow ls.2 ls.2) (by omega)
   exact aL (Nat.lt_of_le_of_lt (Nat.div_le_self _ _) h1) (by decide)
  ·rw[hr1.uniq pG]
   exact k
theorem LR{s j:Nat}(h:Kp282.okD s j=true):s<=1/\1<=j/\j<=60/\(Kp282.signed s j).natAbs<=60:=by
 unfold Kp282.okD at h
 rw[Bool.and_eq_true,Bool.and_eq_true,decide_eq_true_iff,decide_eq_true_iff,decide_eq_true_iff]at h
 have h60:j<=60:=h.2
 refine⟨h.1.1,h.1.2,h60,?_⟩
 unfold Kp282.signed
 split<;>omega
def ac5(C:Addr):Sp:=fun vs H Q _=>∃(n:Nat)(p:Addr)(g:Int),vs=[.int n,.ref p,.int g]/\Kp279.okN n=true/\aP C H p (Kp280.least n)/\g.natAbs<=60/\match(Kp282.firsts n g).head? with
 |none=>∀H',Same H H'->Q .non H'
 |some z=>∀r H',Same H H'->aP C H' r z->Q (.ref r) H'
theorem qT(M:Facts K mg):bf P w K mg base cV 4 M.gF.a M.gF.fd ["n","one","gap"] (ac5 M.aq):=by
 refine M.gF.F.ok qO (fun vs H Q E h=>?_) (fun cdv A outer s H vs Q E hr h=>?_)
 ·obtain⟨n,p,g,rfl,_⟩:=h
  rfl
 ·obtain⟨n,p,g,rfl,hN,hp,hg,k⟩:=h
  have hn:=(Ns.bD.mp hN).2.1
  obtain⟨_,hb⟩:=Ns.rQ hN hg
  refine⟨_,(aj (vp PassesOwn.never rfl (zm rfl M.rB (bO (aM dX (bQ M.mG (yZ M) hr (Bu M) (dh (pv 1) (bK nH rfl M.Aa (by decide+kernel) (bO (pv 2))))) aC))) (fG (i:=3) qO.nd rfl (by first|exact Or.inl rfl|exact Or.inr rfl)) (aj (jz 4 qO.nd (bQ M.iD (sY M) hr (uL M) (nU (pv 0) (pv 2) (pv 3)))) (ak (bC (lW (QG (pv 4))) (ak (au (pv 4))) aU)))) (ak (au rT))),?_⟩
  rfl'
  refine Av (XR ?_)
  rfl'
  rw[abs_eq]
  refine⟨p,n,g.natAbs,rfl,hN,hp,hg,?_⟩
  rfl'
  refine Tq (by omega) (by omega) ?_
  have Lz:((Kp282.bound n g.natAbs:Int)+1).toNat=Kp282.bound n g.natAbs+1:=by omega
  rw[Lz]
  refine JD (fun i σ H'=>H'=H/\(∃v u:Option V,σ=[some (.int n),some (.ref p),some (.int g),v,u])/\∀j,j<i->Kp282.withY n g j=none) ⟨rfl,⟨none,none,rfl⟩,fun j hj=>absurd hj (Nat.not_lt_zero j)⟩ ?_ ?_
  ·rintro i σ H' hi ⟨rfl,⟨v,u,rfl⟩,hno⟩
   rw[show(0:Int)+(i:Int)=(i:Int) by omega]
   rfl'
   refine⟨n,g,i,rfl,hn,by omega,hg,?_⟩
   cases hw:Kp282.withY n g i with
   |none=>
    dsimp only
    rfl'
    rw[o8]
    refine cR ?_
    rfl'
    refine⟨rfl,⟨_,_,rfl⟩,fun j hj=>?_⟩
    rcases Nat.lt_or_ge j i with q|q
    ·exact hno j q
    ·have:j=i:=by omega
     subst this
     exact hw
   |some z=>
    dsimp only
    intro r H2 s2 p2
    obtain⟨l,e⟩:=Ns.R9 hN hg (show i<=Kp282.bound n g.natAbs by omega) hw hno
    rw[e]at k
    rfl'
    rw[qd]
    refine bJ ?_
    rfl'
    exact k r H2 s2 p2
  ·rintro σ H' ⟨rfl,⟨v,u,rfl⟩,hno⟩
   rw[Ns.Sd hno]at k
   rfl'
   exact k H' fun _ _ e=>e
def ac6(C:Addr):Sp:=fun vs H Q _=>∃(n:Nat)(p:Addr)(g:Int),vs=[.int n,.ref p,.int g]/\Kp279.okN n=true/\aP C H p (Kp280.least n)/\g.natAbs<=60/\∀l H' as,Same H H'->H' l=some (.lst (as.map V.ref))->cA C H' as (Kp282.firsts n g)->Q (.ref l) H'
theorem Ry(M:Facts K mg):bf P w K mg base cV 6 M.nZ.a M.nZ.fd ["n","one","gap"] (ac6 M.aq):=by
 refine M.nZ.F.ok rA (fun vs H Q E h=>?_) (fun cdv A outer s H vs Q E hr h=>?_)
 ·obtain⟨n,p,g,rfl,_⟩:=h
  rfl
 ·obtain⟨n,p,g,rfl,hN,hp,hg,k⟩:=h
  have hn:=(Ns.bD.mp hN).2.1
  have hnB:n<2^64:=aL (b:=6) (by omega) (by decide)
  obtain⟨_,hb⟩:=Ns.rQ hN hg
  refine⟨_,(aj (jz 3 rA.nd (bQ M.iG (tu M) hr (uM M) (nU (pv 0) (pv 2) (bQ M.mG (yZ M) hr (Bu M) (dh (pv 1) (bK nH rfl M.Aa (by decide+kernel) (bO (pv 2)))))))) (ak (au (Td rfl rA.nd (pW (pv 3)) (blk (N:=["n","one","gap","small","pair"]) (sc:=ao xZ) (own:=[("pair",4)]) ⟨rfl,by decide+kernel,by decide+kernel,by decide+kernel,by decide+kernel⟩) (fun _ _ _ _ _=>(fG (i:=4) rA.nd rfl (Or.inl rfl))) (fun _ _ _ _ _=>(zu (dU (bQ M.kY (ux M) hr (vO M) (nU (pv 0) (pv 1) (pv 4)))))) (fun _ _ _ _ _=>(pv 4)))))),?_⟩
  rfl'
  rw[abs_eq]
  refine⟨p,n,g.natAbs,rfl,hN,hp,hg,?_⟩
  rfl'
  refine⟨n,g,Kp282.bound n g.natAbs,rfl,hn,by omega,hg,fun l1 H1 as s1 el ps=>?_⟩
  rfl'
  refine wz (zO ?_)
  rfl'
  refine uI (cY.of el) ?_
  have hp1:=hp.same s1
  have aq0:(Kp282.upTo n g (Kp282.bound n g.natAbs)).length<=8193:=by
   unfold Kp282.upTo
   have:=List.length_filterMap_le (Kp282.withY n g) (List.range (Kp282.bound n g.natAbs+1))
   rw[List.length_range]at this
   omega
  have smz:∀z∈Kp282.upTo n g (Kp282.bound n g.natAbs),Sm 1000 z:=fun z hz=>by
   obtain⟨y,hy,e⟩:=List.mem_filterMap.mp hz
   have hy:=List.mem_range.mp hy
   obtain⟨h1,h2⟩:=Ns.aa2 hn (by omega) hg e
   exact⟨aL h1 (by decide),aL (b:=20) (by omega) (by decide)⟩
  generalize hU:Kp282.upTo n g (Kp282.bound n g.natAbs)=zs at*
  refine xU (xs:=as.map V.ref) (fun E i Rx H2=>Same H1 H2/\H1 E=none/\∃bs:List Addr,Rx=bs.map V.ref/\cA M.aq H2 bs ((zs.take i).filter (Kp282.isFirst n))) ?_ ?_ ?_ ?_ ?_
  ·intro v
   rfl
  ·intro E hE
   exact⟨Same.upd H1 _ hE,hE,[],rfl,.nil⟩
  ·rintro E i Rx H2 _ ⟨s2,hE,_⟩
   exact cY.of (s2 _ _ el)
  ·rintro E i x Rx H2 hx hla eE ⟨s2,hE,bs,rfl,qs⟩
   obtain⟨a,ha,rfl⟩:=uz hx
   obtain⟨z,hz,pz⟩:=ps.of ha
   have pz2:=pz.same s2
   have hi:i<zs.length:=(List.getElem?_eq_some_iff.mp hz).1
   rfl'
   refine⟨n,p,a,_,z,rfl,hp1.same s2,pz2,(gb hN).mono (by decide),smz z (List.mem_of_getElem? hz),hnB,fun H3 s3=>?_⟩
   rfl'
   have eF:decide (z.y<=(Kp279.against n z (Kp280.least n)).y)=Kp282.isFirst n z:=rfl
   rw[eF]
   have eE3:=s3 _ _ eE
   have qs3:=qs.imp fun a z p=>p.same s3
   have et:(zs.take (i+1)).filter (Kp282.isFirst n)=(zs.take i).filter (Kp282.isFirst n)++[z].filter (Kp282.isFirst n):=by rw[take_snoc hz,List.filter_append]
   cases hF:Kp282.isFirst n z with
   |true=>
    refine bJ ?_
    rfl'
    refine qL (by omega) hla eE3 ⟨fun c o e=>?_,hE,bs++[a],by rw[List.map_append];rfl,?_⟩
    ·rw[aH (aW e hE)]
     exact s3 c o (s2 c o e)
    ·rw[et,show [z].filter (Kp282.isFirst n)=[z] by simp[hF]]
     exact(qs3.snoc (pz2.same s3)).imp fun a z p=>Rw eE3 p
   |false=>
    refine cR ⟨_,by omega,eE3,s2.trans s3,hE,bs,rfl,?_⟩
    rw[et,show [z].filter (Kp282.isFirst n)=[] by simp[hF],List.append_nil]
    exact qs3
  ·rintro E Rx H2 hla eE ⟨s2,hE,bs,rfl,qs⟩
   rw[List.length_map,ps.1,List.take_length,<-hU]at qs
   exact k E H2 bs (s1.trans s2) eE qs
def afx:Sp:=fun vs H Q _=>∃s j:Nat,vs=[.int s,.int j]/\Q (.bl (!Kp282.okD s j)) H
theorem afy(s j:Nat):(!Kp282.okD s j)=(decide ((1:Int)<(s:Int))||(decide ((j:Int)<1)||decide ((60:Int)<(j:Int)))):=by
 have e:Kp282.okD s j=(decide (s<=1) && decide (1<=j) && decide (j<=60)):=rfl
 rw[e,Bool.eq_iff_iff]
 simp only[Bool.not_eq_true',Bool.and_eq_false_iff,decide_eq_false_iff_not,Bool.or_eq_true,decide_eq_true_iff]
 omega
theorem jA(M:Facts K mg):bf P w K mg base cV 1 M.dD.a M.dD.fd ["s","k"] afx:=by
 refine M.dD.F.ok Hr (fun vs H Q E h=>?_) (fun cdv A outer s H vs Q E hr h=>?_)
 ·obtain⟨s,j,rfl,_⟩:=h
  rfl
 ·obtain⟨t,j,rfl,k⟩:=h
  rw[afy]at k
  refine⟨_,(ak (au (abg (qX cZ (pv 0) aC (rZ _)) (abg (qX oM (pv 1) aC (rZ _)) (Vs (qX cZ (pv 1) (fD M.vI) (rZ _))))))),?_⟩
  rfl'
  refine cO (fun c=>?_) (fun c=>?_)
  ·rw[c,Bool.true_or]at k
   exact k
  ·have c:decide ((1:Int)<(t:Int))=false:=by simpa using c
   rw[c,Bool.false_or]at k
   rfl'
   refine cO (fun c2=>?_) (fun c2=>?_)
   ·rw[c2,Bool.true_or]at k
    exact k
   ·have c2:decide ((j:Int)<1)=false:=by simpa using c2
    rw[c2,Bool.false_or]at k
    rfl'
    exact k
def akP:Sp:=fun vs H Q _=>∃s j:Nat,vs=[.int s,.int j]/\Q (.int (Kp282.signed s j)) H
theorem pQ(M:Facts K mg):bf P w K mg base cV 1 M.lB.a M.lB.fd ["s","k"] akP:=by
 refine M.lB.F.ok Zz (fun vs H Q E h=>?_) (fun cdv A outer s H vs Q E hr h=>?_)
 ·obtain⟨s,j,rfl,_⟩:=h
  rfl
 ·obtain⟨t,j,rfl,k⟩:=h
  refine⟨_,(ak (au (rW (iM lA (pv 0) aC) (pv 1) (ql lX (pv 1))))),?_⟩
  rfl'
  unfold Kp282.signed at k
  refine cO (fun c=>?_) (fun c=>?_)
  ·have c:t=0:=by have:=of_decide_eq_true c;omega
   rw[if_pos c]at k
   rfl'
   exact k
  ·have c:¬t=0:=fun q=>c (decide_eq_true (by omega))
   rw[if_neg c]at k
   rfl'
   exact k
def anE(C:Addr):Sp:=fun vs H Q _=>∃(v:V)(o:Option Pr),vs=[v]/\LQ C H v o/\∀l H',Same H H'->H' l=some (.lst ((Ns.ahW o).map V.int))->Q (.ref l) H'
theorem wL(M:Facts K mg):bf P w K mg base cV 2 M.iV.a M.iV.fd ["pair"] (anE M.aq):=by
 refine M.iV.F.ok Hs (fun vs H Q E h=>?_) (fun cdv A outer s H vs Q E hr h=>?_)
 ·obtain⟨v,o,rfl,_⟩:=h
  rfl
 ·obtain⟨v,o,rfl,ho,k⟩:=h
  refine⟨_,(aj (bC (lW (xr (pv 0))) (ak (au (aO (bO (fD M.dZ))))) aU) (ak (au (bQ M.bF (cD M) hr (cQ M) (bO (pv 0)))))),?_⟩
  rfl'
  cases o with
  |none=>
   have ho:v=.non:=ho
   subst ho
   rw[o8]
   refine bJ ?_
   rfl'
   exact cJ bY fun l hl=>k l _ (Same.upd H _ hl) aG
  |some z=>
   obtain⟨a,rfl,p⟩:=ho
   rw[qd]
   refine cR ?_
   rfl'
   exact⟨a,z,rfl,p,fun l H' s1 _ e=>k l H' s1 e⟩
end
section
variable{P:Program}{w:World}{K:W.Frag}{mg:Str->Option Value}{base:Heap}
theorem UJ{n:Nat}(hN:Kp279.okN n=true){z:Pr}(hz:Kp284.ok z=true)(i:Nat)(h:∀j,j<i->Kp282.isFirst n (Ns.downs n z j)=false):Sm 1000 (Ns.downs n z i):=by
 obtain⟨h1,h2⟩:=ahu hz
 obtain⟨g1,g2⟩:=Ns.Vp hN h1 h2 i h
 exact⟨aL g1 (by decide),aL (b:=20) (by omega) (by decide)⟩
def akQ(C CD:Addr):Sp:=fun vs H Q _=>∃(d lk le dx po ph:Addr)(D:Kp284.Desk)(ks es:List Addr)(i:Nat),vs=[.ref d,.int i]/\gW C CD H d D lk le dx po ph ks es/\Q (.bl (decide (i<D.kept.length))) H
theorem gj(M:Facts K mg):bf P w K mg base cV 1 M.jx.a M.jx.fd ["self","i"] (akQ M.aq M.aA):=by
 refine M.jx.F.ok Eo (fun vs H Q E h=>?_) (fun cdv A outer s H vs Q E hr h=>?_)
 ·obtain⟨d,lk,le,dx,po,ph,D,ks,es,i,rfl,_⟩:=h
  rfl
 ·obtain⟨d,lk,le,dx,po,ph,D,ks,es,i,rfl,hD,k⟩:=h
  have hI:=hD.ins
  refine⟨_,(ak (au (qX oM (pv 1) (bK bH rfl M.lR (by decide+kernel) (bO (aK M.aB M.bR (pv 0)))) (rZ _)))),?_⟩
  rfl'
  refine⟨_,_,rfl,.inl (cY.of hD.kept),?_⟩
  rfl'
  have e:decide ((i:Int)<(((ks.map V.ref).length:Nat):Int))=decide (i<D.kept.length):=by
   rw[decide_eq_decide,List.length_map,hD.jE.1]
   omega
  rw[e]
  exact k
def akR(C CD:Addr):Sp:=fun vs H Q _=>∃(d lk le dx po ph:Addr)(D:Kp284.Desk)(ks es:List Addr)(p:Addr)(z:Pr),vs=[.ref d,.ref p]/\gW C CD H d D lk le dx po ph ks es/\aP C H p z/\Kp284.ok z=true/\
 ∀t H',Same H H'->H t=none->H' t=some (.tup [.int (Kp284.firstOf D z).x,.int (Kp284.firstOf D z).y])->Q (.ref t) H'
theorem vW(M:Facts K mg){Ts:List Tab}(L:bU mg base M Ts):bf P w K mg base cV 7 M.j7.a M.j7.fd ["desk","pair"] (akR M.aq M.aA):=by
 refine M.j7.F.ok CK (fun vs H Q E h=>?_) (fun cdv A outer s H vs Q E hr h=>?_)
 ·obtain⟨d,lk,le,dx,po,ph,D,ks,es,p,z,rfl,_⟩:=h
  rfl
 ·obtain⟨d,lk,le,dx,po,ph,D,ks,es,p,z,rfl,hD,hp,hz,k⟩:=h
  have hI:=hD.ins
  have hN:=hD.wf.n
  refine⟨_,(aj (jz 2 CK.nd (iz eG (bQ M.pL (Ly M) hr (Qi M) (nU (aK M.aB M.aR (pv 0)) (aK M.aB M.bT (pv 0)) (pv 1))) (ql lX aC) (fun _ _=>rfl))) (ak (au (VD (dh (cC M.aJ M.aV (pv 2)) (cF M.aJ M.aX (pv 2))))))),?_⟩
  rfl'
  refine⟨D.n,po,p,z,rfl,hN,hD.one,hp,fun i h=>UJ hN hz i h,fun l H1 as r s1 hl el hlen pr=>?_⟩
  rfl'
  refine gQ (cY.of el) (by rw[List.map_append];exact qm _ _) ?_
  rfl'
  refine Q7 bY fun t ht=>?_
  exact k t _ (s1.trans (Same.upd H1 _ ht)) (s1.free ht) aG
theorem Hg(M:Facts K mg){Ts:List Tab}(L:bU mg base M Ts):bf P w K mg base cV 7 M.kZ.a M.kZ.fd ["desk"] (nu M.aq M.aA Ts fun D=>(Kp284Neutral.step (some D) [[18]]).2):=by
 exists M.kZ.F,GF,Ns.aa5,(aj (jz 1 GF.nd (bQ M.pL (Ly M) hr (Qi M) (nU (aK M.aB M.aR (pv 0)) (aK M.aB M.bT (pv 0)) (aK M.aB M.bx (pv 0))))) (ak (au (aO (nU (aM gA (bK bH rfl M.lR (by decide+kernel) (bO (pv 1))) aC) (cC M.aJ M.aV (iz eG (pv 1) (ql lX aC) (fun _ _=>rfl))) (cF M.aJ M.aX (iz eG (pv 1) (ql lX aC) (fun _ _=>rfl))))))))
 refine⟨D.n,po,ph,D.a,rfl,hN,ho,hh,fun i h=>UJ hN hD.wf.a i h,fun l H1 as r s1 hl el hlen pr=>?_⟩
 rfl'
 refine⟨_,_,rfl,.inl (cY.of el),?_⟩
 rfl'
 refine gQ (cY.of el) (by rw[List.map_append];exact qm _ _) ?_
 rfl'
 refine gQ (cY.of el) (by rw[List.map_append];exact qm _ _) ?_
 rfl'
 refine bN (Gr.same tb s1) ?_ rfl k
 have e:((((as++[r]).map V.ref).length:Nat):Int)-1=((Kp282.downAll D.n 100 0 D.a).1:Int):=by
  rw[<-hlen]
  simp
 rw[e]
 rfl
theorem afz(M:Facts K mg){Ts:List Tab}(L:bU mg base M Ts):bf P w K mg base cV 3 M.yw.a M.yw.fd ["desk"] (nu M.aq M.aA Ts fun D=>(Kp284Neutral.step (some D) [[19]]).2):=by
 exists M.yw.F,aeJ,Ns.agf,(ak (au (bQ M.bA (bM M) hr (bW M) (dh (aK M.aB M.aR (pv 0)) (aK M.aB M.bx (pv 0))))))
 exact⟨D.n,ph,D.a,rfl,hh,hz.mono (by decide),hnB,fun l H2 s2 _ e=>k l H2 (Gr.same tb s2) e⟩
theorem afA(M:Facts K mg){Ts:List Tab}(L:bU mg base M Ts):bf P w K mg base cV 1 M.yx.a M.yx.fd ["desk"] (nu M.aq M.aA Ts fun D=>(Kp284Neutral.step (some D) [[20]]).2):=by
 exists M.yx.F,aeK,Ns.agg,(ak (au (aO (cU (aK M.aB M.aR (pv 0)) (cU (cC M.aJ M.aV (aK M.aB M.bx (pv 0))) (nU (cF M.aJ M.aX (aK M.aB M.bx (pv 0))) (bK bH rfl M.lR (by decide+kernel) (bO (aK M.aB M.bR (pv 0)))) (bK bH rfl M.lR (by decide+kernel) (bO (aK M.aB M.fC (pv 0))))))))))
 refine⟨_,_,rfl,.inl (cY.of hD.kept),?_⟩
 rfl'
 refine⟨_,_,rfl,.inl (cY.of hD.xT),?_⟩
 rfl'
 refine aQ tb ?_ rfl k
 rw[List.length_map,List.length_map,hD.jE.1,hD.zN.1,List.length_reverse]
 rfl
theorem afB(M:Facts K mg){Ts:List Tab}(L:bU mg base M Ts):bf P w K mg base cV 2 M.yu.a M.yu.fd ["desk"] (nu M.aq M.aA Ts fun D=>(Kp284Neutral.step (some D) [[16]]).2):=by
 exists M.yu.F,aeI,Ns.agc,(ak (au (bQ M.mU (vQ M) hr (zB M) (bO (aK M.aB M.bR (pv 0))))))
 exact⟨lk,ks,D.kept,rfl,hD.kept,hD.jE,by have:=hD.wf.kl;omega,fun r H1 s1 e=>k r H1 (Gr.same tb s1) e⟩
theorem Rz(M:Facts K mg){Ts:List Tab}(L:bU mg base M Ts):bf P w K mg base cV 6 M.j8.a M.j8.fd ["desk"] (nu M.aq M.aA Ts fun D=>(Kp284Neutral.step (some D) [[17]]).2):=by
 exists M.j8.F,Rg,Ns.agd,(aj (bC (iM xu (bQ M.bG (bV M) hr (bZ M) (dh (aK M.aB M.aR (pv 0)) (aK M.aB M.bx (pv 0)))) aC) (ak (au (aO (bO (fD M.dZ))))) aU) (ak (au (aO (bO (bQ M.gw (oZ M) hr (qb M) (nU (aK M.aB M.aR (pv 0)) (aK M.aB M.bT (pv 0)) (cF M.aJ M.aX (aK M.aB M.bx (pv 0))))))))))
 refine⟨D.n,ph,D.a,rfl,hh,hz.mono (by decide),hnB,?_⟩
 rfl'
 by_cases c:Kp279.diff D.n D.a=1
 ·rw[decide_eq_true c]
  refine cR ?_
  have hy:=hz.2
  obtain⟨j,hj,e1,hf,e2⟩:=Ns.Oi hN c (by
   have:(2:Nat)^20<2^33:=by decide
   omega)
  rw[e2]at k
  rfl'
  refine⟨D.n,po,D.a.y,j,rfl,hN,ho,by
   have:(2:Nat)^20<2^33:=by decide
   omega,hf,fun H2 s2=>?_⟩
  rfl'
  exact bN (Gr.same tb s2) rfl rfl k
 ·rw[decide_eq_false c]
  refine bJ ?_
  rw[Ns.uE hN c]at k
  rfl'
  exact aQ tb rfl rfl k
noncomputable def allOf(n:Nat)(zs:List Pr):Pr:=zs.foldl (fun(b:Pr)(c:Pr)=>Kp279.times n b c) ⟨1,0⟩
noncomputable def FZ(n:Nat)(zs:List Pr):Int:=zs.foldl (fun(v:Int)(c:Pr)=>v*Kp279.diff n c) 1
theorem Ma(n:Nat)(zs:List Pr)(z:Pr):allOf n (zs++[z])=Kp279.times n (allOf n zs) z:=by
 unfold allOf
 rw[List.foldl_append,List.foldl_cons,List.foldl_nil]
theorem Hh(n:Nat)(zs:List Pr)(z:Pr):FZ n (zs++[z])=FZ n zs*Kp279.diff n z:=by
 unfold FZ
 rw[List.foldl_append,List.foldl_cons,List.foldl_nil]
theorem Iu{n:Nat}{z:Pr}(hn:n<=60)(hz:Sm 20 z):Bd 47 (Kp279.diff n z):=by
 obtain⟨h1,h2⟩:=hz
 have s1:z.x*z.x<2^40:=mul_pow h1 h1
 have s2:n*z.y*z.y<2^46:=by
  rw[Nat.mul_assoc]
  exact mul_pow (j:=6) (by omega) (mul_pow h2 h2)
 unfold L2.Bd Kp279.diff
 have e1:(z.x:Int)*(z.x:Int)=((z.x*z.x:Nat):Int):=by push_cast;rfl
 have e2:(n:Int)*(z.y:Int)*(z.y:Int)=((n*z.y*z.y:Nat):Int):=by push_cast;rfl
 rw[e1,e2]
 omega
theorem ac7{n:Nat}(hn:n<=60):∀(i:Nat)(zs:List Pr),zs.length=i->(∀z∈zs,Sm 20 z)->Sm (27*i+1) (allOf n zs)/\Bd (47*i+1) (FZ n zs)
 |0,zs,h,_=>by
  have:zs=[]:=List.eq_nil_of_length_eq_zero h
  subst this
  exact⟨⟨(by decide:1<2^(27*0+1)),(by decide:0<2^(27*0+1))⟩,(by decide:(1:Int).natAbs<2^(47*0+1))⟩
 |i+1,zs,h,hs=>by
  rcases Ns.snoc_cases zs with e|⟨ws,z,rfl⟩
  ·subst e;simp at h
  have hw:ws.length=i:=by simpa using h
  obtain⟨h1,h2⟩:=ac7 hn i ws hw fun z hz=>hs z (List.mem_append_left _ hz)
  have hz:=hs z (List.mem_append_right _ (List.mem_singleton.mpr rfl))
  rw[Ma,Hh]
  refine⟨(uU hn h1 hz).mono (by omega),?_⟩
  have:=Bd.mul h2 (Iu hn hz)
  exact this.mono (by omega)
theorem UL(M:Facts K mg){Ts:List Tab}(L:bU mg base M Ts):bf P w K mg base cV 4 M.mD.a M.mD.fd ["desk"] (nu M.aq M.aA Ts fun D=>(Kp284Neutral.step (some D) [[12]]).2):=by
 exists M.mD.F,nY,Ns.af8,(aj (jz 1 nY.nd (Ad M.fZ (aY M) hr M.fY (aZ M) (dh aC aC))) (aj (jz 2 nY.nd aC) (aj (vp PassesOwn.never rfl (pW (aK M.aB M.bR (pv 0))) (fG (i:=3) nY.nd rfl (by first|exact Or.inl rfl|exact Or.inr rfl)) (aj (jz 1 nY.nd (bQ M.iU (lF M) hr (nM M) (nU (aK M.aB M.aR (pv 0)) (pv 1) (pv 3)))) (ak (jz 2 nY.nd (aM bh (pv 2) (bQ M.bG (bV M) hr (bZ M) (dh (aK M.aB M.aR (pv 0)) (pv 3)))))))) (ak (au (aO (cU aC (nU (cC M.aJ M.aV (pv 1)) (cF M.aJ M.aX (pv 1)) (pv 2)))))))))
 refine cG ⟨1,0⟩ rfl rfl fun r0 H0 s0 n0 p0=>?_
 have hI0:=s0 _ _ hI
 rfl'
 refine Av (zO ?_)
 rfl'
 refine uI (cY.of (s0 _ _ hD.kept)) ?_
 have kl:=hD.wf.kl
 have hzs:∀i,∀z∈D.kept.take i,Sm 20 z:=fun i z hz=>gC (hD.wf.kept z (List.mem_of_mem_take hz))
 refine uW (xs:=ks.map V.ref) (fun i σ H'=>∃(r:Addr)(v:Option V),σ=[some (.ref d),some (.ref r),some (.int (FZ D.n (D.kept.take i))),v]/\Same H H'/\aP M.aq H' r (allOf D.n (D.kept.take i))) ⟨r0,none,rfl,s0,p0⟩ ?_ ?_ ?_
 ·rintro i σ H' _ ⟨r,v,rfl,s1,p1⟩
  exact cY.of (s1 _ _ hD.kept)
 ·rintro i x σ H' hx ⟨r,v,rfl,s1,p1⟩
  obtain⟨a,ha,rfl⟩:=uz hx
  obtain⟨z,hz',pz⟩:=hD.jE.of ha
  have hi:i<D.kept.length:=(List.getElem?_eq_some_iff.mp hz').1
  obtain⟨b1,b2⟩:=ac7 hn i (D.kept.take i) (by rw[List.length_take];omega) (hzs i)
  have sz:=gC (hD.wf.kept z (List.mem_of_getElem? hz'))
  have hI':=s1 _ _ hI
  have pz':=pz.same s1
  rfl'
  refine⟨D.n,r,a,_,z,rfl,p1,pz',b1.mono (by omega),sz.mono (by decide),hnB,fun r2 H2 s2 _ p2=>?_⟩
  have hI2:=s2 _ _ hI'
  rfl'
  refine⟨D.n,a,z,rfl,pz'.same s2,sz.mono (by decide),hnB,?_⟩
  have db:=Iu hn sz
  have b2':Bd 500 (FZ D.n (D.kept.take i)):=b2.mono (by omega)
  rfl'
  refine⟨r2,some (.ref a),?_,s1.trans s2,?_⟩
  ·rw[take_snoc hz',Hh]
   rfl
  ·rw[take_snoc hz',Ma]
   exact p2
 ·rintro σ H' ⟨r,v,rfl,s1,p1⟩
  rw[List.length_map,hD.jE.1,List.take_length]at p1
  rw[List.length_map,hD.jE.1,List.take_length]
  rfl'
  exact bN (Gr.same tb s1) rfl rfl k
end
section
variable{P:Program}{w:World}{K:W.Frag}{mg:Str->Option Value}{base:Heap}
theorem ac8(M:Facts K mg){Ts:List Tab}(L:bU mg base M Ts):bf P w K mg base cV 8 M.tV.a M.tV.fd ["desk"] (nu M.aq M.aA Ts fun D=>(Kp284Neutral.step (some D) [[51]]).2):=by
 exists M.tV.F,acj,Ns.agL,(ak (au (bQ M.kZ (Hg M L) hr (Ln M) (bO (pv 0)))))
 refine⟨d,lk,le,dx,po,ph,D,ks,es,rfl,hD,tb,?_⟩
 simp only[Ns.aa5]
 exact k
theorem smx{z:Pr}(h:Kp284.ok z=true):Sm 1000 z:=(gC h).mono (by decide)
theorem WD(M:Facts K mg){Ts:List Tab}(L:bU mg base M Ts):bf P w K mg base cV 6 M.n6.a M.n6.fd ["desk"] (nu M.aq M.aA Ts fun D=>(Kp284Neutral.step (some D) [[52]]).2):=by
 exists M.n6.F,V4,Ns.agM,(ak (au (aO (bO (rW (dU (bQ M.kY (ux M) hr (vO M) (nU (aK M.aB M.aR (pv 0)) (aK M.aB M.bT (pv 0)) (aK M.aB M.bx (pv 0))))) aC aC)))))
 refine⟨D.n,po,ph,_,D.a,rfl,ho,hh,(gb hN).mono (by decide),smx hD.wf.a,hnB,fun H1 s1=>?_⟩
 rfl'
 have eF:decide (D.a.y<=(Kp279.against D.n D.a (Kp280.least D.n)).y)=Kp282.isFirst D.n D.a:=rfl
 rw[eF]
 cases hF:Kp282.isFirst D.n D.a with
 |true=>
  rw[hF,if_pos rfl]at k
  refine bJ ?_
  rfl'
  exact bN (Gr.same tb s1) rfl rfl k
 |false=>
  rw[hF,if_neg (by decide)]at k
  refine cR ?_
  rfl'
  exact bN (Gr.same tb s1) rfl rfl k
theorem ac9(M:Facts K mg){Ts:List Tab}(L:bU mg base M Ts):bf P w K mg base cV 5 M.tZ.a M.tZ.fd ["desk"] (nu M.aq M.aA Ts fun D=>(Kp284Neutral.step (some D) [[61]]).2):=by
 exists M.tZ.F,acr,Ns.agV,(ak (au (bQ M.bF (cD M) hr (cQ M) (bO (bQ M.jF (rF M) hr (ur M) (nU (aK M.aB M.aR (pv 0)) (aK M.aB M.bT (pv 0)) (aK M.aB M.bx (pv 0))))))))
 refine⟨D.n,po,ph,_,D.a,rfl,ho,hh,(gb hN).mono (by decide),smx hD.wf.a,hnB,fun r H1 s1 _ p1=>?_⟩
 rfl'
 exact⟨r,_,rfl,p1,fun l H2 s2 _ e=>k l H2 (Gr.same tb (s1.trans s2)) e⟩
theorem aav(M:Facts K mg){Ts:List Tab}(L:bU mg base M Ts):bf P w K mg base cV 7 M.qu.a M.qu.fd ["desk","s","k"] (gY M.aq M.aA Ts fun D s j=>(Kp284Neutral.step (some D) [[53,(s:Nat),(j:Nat)]]).2):=by
 exists M.qu.F,ZC,Ns.agN,(aj (bC (dU (bQ M.dD (jA M) hr (j5 M) (dh (pv 1) (pv 2)))) (ak (au (aO (bO (fD M.aN))))) aU) (ak (au (bQ M.mU (vQ M) hr (zB M) (bO (bQ M.nZ (Ry M) hr (Uu M) (nU (aK M.aB M.aR (pv 0)) (aK M.aB M.bT (pv 0)) (bQ M.lB (pQ M) hr (sX M) (dh (pv 1) (pv 2)))))))))),s,hs,j,hj
 refine⟨s,j,rfl,?_⟩
 rfl'
 cases hk:Kp282.okD s j with
 |false=>
  rw[if_pos hk]at k
  refine bJ ?_
  rfl'
  exact aQ tb rfl rfl k
 |true=>
  rw[if_neg (by rw[hk];decide)]at k
  obtain⟨_,_,_,h4⟩:=LR hk
  refine cR ?_
  rfl'
  refine⟨s,j,rfl,?_⟩
  rfl'
  refine⟨D.n,po,_,rfl,hN,ho,h4,fun l H1 as s1 el ps=>?_⟩
  rfl'
  refine⟨l,as,_,rfl,el,ps,?_,fun r H2 s2 e=>k r H2 (Gr.same tb (s1.trans s2)) e⟩
  have h1:=List.length_filter_le (Kp282.isFirst D.n) ((List.range (Kp282.bound D.n (Kp282.signed s j).natAbs+1)).filterMap (Kp282.withY D.n (Kp282.signed s j)))
  have h2:=List.length_filterMap_le (Kp282.withY D.n (Kp282.signed s j)) (List.range (Kp282.bound D.n (Kp282.signed s j).natAbs+1))
  rw[List.length_range]at h2
  have h3:=(Ns.rQ hN h4).2
  unfold Kp282.firsts
  omega
theorem ajl(M:Facts K mg){Ts:List Tab}(L:bU mg base M Ts):bf P w K mg base cV 5 M.G4.a M.G4.fd ["desk","s","k"] (gY M.aq M.aA Ts fun D s j=>(Kp284Neutral.step (some D) [[54,(s:Nat),(j:Nat)]]).2):=by
 exists M.G4.F,aiG,Ns.agO,(aj (bC (dU (bQ M.dD (jA M) hr (j5 M) (dh (pv 1) (pv 2)))) (ak (au (aO (bO (fD M.aN))))) aU) (ak (au (aO (bO (rW (lW (xr (bQ M.gF (qT M) hr (sW M) (nU (aK M.aB M.aR (pv 0)) (aK M.aB M.bT (pv 0)) (bQ M.lB (pQ M) hr (sX M) (dh (pv 1) (pv 2))))))) aC aC)))))),s,hs,j,hj
 refine⟨s,j,rfl,?_⟩
 rfl'
 cases hk:Kp282.okD s j with
 |false=>
  rw[if_pos hk]at k
  refine bJ ?_
  rfl'
  exact aQ tb rfl rfl k
 |true=>
  rw[if_neg (by rw[hk];decide)]at k
  obtain⟨_,_,_,h4⟩:=LR hk
  refine cR ?_
  rfl'
  refine⟨s,j,rfl,?_⟩
  rfl'
  refine⟨D.n,po,_,rfl,hN,ho,h4,?_⟩
  cases hf:Kp282.firsts D.n (Kp282.signed s j)with
  |nil=>
   rw[hf]at k
   intro H1 s1
   rfl'
   rw[o8]
   refine bJ ?_
   rfl'
   exact bN (Gr.same tb s1) rfl rfl k
  |cons z r=>
   rw[hf]at k
   intro p H1 s1 p1
   rfl'
   rw[qd]
   refine cR ?_
   rfl'
   exact bN (Gr.same tb s1) rfl rfl k
theorem ada(M:Facts K mg){Ts:List Tab}(L:bU mg base M Ts):bf P w K mg base cV 5 M.tW.a M.tW.fd ["desk","s","k"] (gY M.aq M.aA Ts fun D s j=>(Kp284Neutral.step (some D) [[55,(s:Nat),(j:Nat)]]).2):=by
 exists M.tW.F,acn,Ns.agP,(aj (bC (dU (bQ M.dD (jA M) hr (j5 M) (dh (pv 1) (pv 2)))) (ak (au (aO (bO (fD M.aN))))) aU) (ak (au (bQ M.iV (wL M) hr (yR M) (bO (bQ M.gF (qT M) hr (sW M) (nU (aK M.aB M.aR (pv 0)) (aK M.aB M.bT (pv 0)) (bQ M.lB (pQ M) hr (sX M) (dh (pv 1) (pv 2)))))))))),s,hs,j,hj
 refine⟨s,j,rfl,?_⟩
 rfl'
 cases hk:Kp282.okD s j with
 |false=>
  rw[if_pos hk]at k
  refine bJ ?_
  rfl'
  exact aQ tb rfl rfl k
 |true=>
  rw[if_neg (by rw[hk];decide)]at k
  obtain⟨_,_,_,h4⟩:=LR hk
  refine cR ?_
  rfl'
  refine⟨s,j,rfl,?_⟩
  rfl'
  refine⟨D.n,po,_,rfl,hN,ho,h4,?_⟩
  cases hf:(Kp282.firsts D.n (Kp282.signed s j)).head? with
  |none=>
   rw[hf]at k
   intro H1 s1
   rfl'
   exact⟨.non,none,rfl,rfl,fun l H2 s2 e=>k l H2 (Gr.same tb (s1.trans s2)) e⟩
  |some z=>
   rw[hf]at k
   intro p H1 s1 p1
   rfl'
   exact⟨.ref p,some z,rfl,⟨p,rfl,p1⟩,fun l H2 s2 e=>k l H2 (Gr.same tb (s1.trans s2)) e⟩
theorem afC(M:Facts K mg){Ts:List Tab}(L:bU mg base M Ts):bf P w K mg base cV 5 M.yC.a M.yC.fd ["desk","s","k","b"] (Q6 M.aq M.aA Ts fun D s j b=>(Kp284Neutral.step (some D) [[56,(s:Nat),(j:Nat),(b:Nat)]]).2):=by
 exists M.yC.F,aeL,Ns.agQ,(aj (bC (PW.pt (fQ (dU (bQ M.dD (jA M) hr (j5 M) (dh (pv 1) (pv 2)))) (dW (iM cZ (pv 3) (fD M.Hz))))) (ak (au (aO (bO (fD M.aN))))) aU) (ak (au (bQ M.mU (vQ M) hr (zB M) (bO (bQ M.iG (tu M) hr (uM M) (nU (aK M.aB M.aR (pv 0)) (bQ M.lB (pQ M) hr (sX M) (dh (pv 1) (pv 2))) (pv 3)))))))),s,hs,j,hj,b,hb
 refine⟨s,j,rfl,?_⟩
 rfl'
 cases hk:Kp282.okD s j with
 |false=>
  rw[if_pos (Or.inl hk)]at k
  refine bJ (bJ ?_)
  rfl'
  exact aQ tb rfl rfl k
 |true=>
  obtain⟨_,_,_,h4⟩:=LR hk
  refine cR ?_
  rfl'
  refine cO (fun c=>?_) (fun c=>?_)
  ·have c:300<b:=by have:=of_decide_eq_true c;omega
   rw[if_pos (Or.inr c)]at k
   rfl'
   exact aQ tb rfl rfl k
  ·have c:¬300<b:=fun q=>c (decide_eq_true (by omega))
   rw[if_neg (by rintro (q|q); ·rw[hk]at q;cases q
                 ·exact c q)]at k
   rfl'
   refine⟨s,j,rfl,?_⟩
   rfl'
   refine⟨D.n,_,b,rfl,hn,by omega,h4,fun l H1 as s1 el ps=>?_⟩
   rfl'
   refine⟨l,as,_,rfl,el,ps,?_,fun r H2 s2 e=>k r H2 (Gr.same tb (s1.trans s2)) e⟩
   have h2:=List.length_filterMap_le (Kp282.withY D.n (Kp282.signed s j)) (List.range (b+1))
   rw[List.length_range]at h2
   unfold Kp282.upTo
   omega
theorem UW(M:Facts K mg){Ts:List Tab}(L:bU mg base M Ts):bf P w K mg base cV 5 M.mH.a M.mH.fd ["desk","s","k","b"] (Q6 M.aq M.aA Ts fun D s j b=>(Kp284Neutral.step (some D) [[57,(s:Nat),(j:Nat),(b:Nat)]]).2):=by
 exists M.mH.F,TY,Ns.agR,(aj (bC (PW.pt (fQ (dU (bQ M.dD (jA M) hr (j5 M) (dh (pv 1) (pv 2)))) (dW (iM cZ (pv 3) (fD M.Br))))) (ak (au (aO (bO (fD M.aN))))) aU) (ak (au (aO (bO (bK bH rfl M.lR (by decide+kernel) (bO (bQ M.iG (tu M) hr (uM M) (nU (aK M.aB M.aR (pv 0)) (bQ M.lB (pQ M) hr (sX M) (dh (pv 1) (pv 2))) (pv 3)))))))))),s,hs,j,hj,b,hb
 refine⟨s,j,rfl,?_⟩
 rfl'
 cases hk:Kp282.okD s j with
 |false=>
  rw[if_pos (Or.inl hk)]at k
  refine bJ (bJ ?_)
  rfl'
  exact aQ tb rfl rfl k
 |true=>
  obtain⟨_,_,_,h4⟩:=LR hk
  refine cR ?_
  rfl'
  refine cO (fun c=>?_) (fun c=>?_)
  ·have c:2000<b:=by have:=of_decide_eq_true c;omega
   rw[if_pos (Or.inr c)]at k
   rfl'
   exact aQ tb rfl rfl k
  ·have c:¬2000<b:=fun q=>c (decide_eq_true (by omega))
   rw[if_neg (by rintro (q|q); ·rw[hk]at q;cases q
                 ·exact c q)]at k
   rfl'
   refine⟨s,j,rfl,?_⟩
   rfl'
   refine⟨D.n,_,b,rfl,hn,by omega,h4,fun l H1 as s1 el ps=>?_⟩
   refine⟨_,_,rfl,.inl (cY.of el),?_⟩
   rfl'
   refine bN (Gr.same tb s1) ?_ rfl k
   rw[List.length_map,ps.1]
   rfl
theorem adb(M:Facts K mg){Ts:List Tab}(L:bU mg base M Ts):bf P w K mg base cV 3 M.f_bound.a M.f_bound.fd ["desk","k"] (nA M.aq M.aA Ts fun D j=>(Kp284Neutral.step (some D) [[58,(j:Nat)]]).2):=by
 exists M.f_bound.F,acp,Ns.agS,(aj (bC (PW.pt (fQ (iM oM (pv 1) aC) (dW (iM cZ (pv 1) (fD M.vI))))) (ak (au (aO (bO (fD M.aN))))) aU) (ak (au (aO (bO (bQ M.mG (yZ M) hr (Bu M) (dh (aK M.aB M.bT (pv 0)) (pv 1)))))))),j,hj
 refine cO (fun c=>?_) (fun c=>?_)
 ·have c:j<1:=by have:=of_decide_eq_true c;omega
  refine bJ ?_
  rw[if_pos (Or.inl (by omega))]at k
  rfl'
  exact aQ tb rfl rfl k
 ·have c:¬j<1:=fun q=>c (decide_eq_true (by omega))
  rfl'
  refine cO (fun c1=>?_) (fun c1=>?_)
  ·have c1:60<j:=by have:=of_decide_eq_true c1;omega
   rw[if_pos (Or.inr c1)]at k
   rfl'
   exact aQ tb rfl rfl k
  ·have c1:¬60<j:=fun q=>c1 (decide_eq_true (by omega))
   rw[if_neg (by omega)]at k
   rfl'
   refine⟨po,D.n,j,rfl,hN,ho,by omega,?_⟩
   rfl'
   exact aQ tb rfl rfl k
theorem ade(M:Facts K mg){Ts:List Tab}(L:bU mg base M Ts):bf P w K mg base cV 4 M.tY.a M.tY.fd ["desk","s","k","y"] (Q6 M.aq M.aA Ts fun D s j y=>(Kp284Neutral.step (some D) [[60,(s:Nat),(j:Nat),(y:Nat)]]).2):=by
 exists M.tY.F,acq,Ns.agU,(aj (bC (PW.pt (fQ (dU (bQ M.dD (jA M) hr (j5 M) (dh (pv 1) (pv 2)))) (dW (iM cZ (pv 3) (fD M.wQ))))) (ak (au (aO (bO (fD M.aN))))) aU) (ak (au (bQ M.iV (wL M) hr (yR M) (bO (bQ M.iD (sY M) hr (uL M) (nU (aK M.aB M.aR (pv 0)) (bQ M.lB (pQ M) hr (sX M) (dh (pv 1) (pv 2))) (pv 3)))))))),s,hs,j,hj,y,hy
 refine⟨s,j,rfl,?_⟩
 rfl'
 cases hk:Kp282.okD s j with
 |false=>
  rw[if_pos (Or.inl hk)]at k
  refine bJ (bJ ?_)
  rfl'
  exact aQ tb rfl rfl k
 |true=>
  obtain⟨_,_,_,h4⟩:=LR hk
  generalize hM:(1000000:Nat)=T at k
  generalize Uz:(1000000:Int)=T2
  have hTT:T2=(T:Int):=by rw[<-hM,<-Uz];rfl
  refine cR ?_
  rfl'
  refine cO (fun c=>?_) (fun c=>?_)
  ·have c:T<y:=by have:=of_decide_eq_true c;omega
   rw[if_pos (Or.inr c)]at k
   rfl'
   exact aQ tb rfl rfl k
  ·have c:¬T<y:=fun q=>c (decide_eq_true (by omega))
   rw[if_neg (by rintro (q|q); ·rw[hk]at q;cases q
                 ·exact c q)]at k
   rfl'
   refine⟨s,j,rfl,?_⟩
   rfl'
   refine⟨D.n,_,y,rfl,hn,by omega,h4,?_⟩
   cases hw:Kp282.withY D.n (Kp282.signed s j) y with
   |none=>
    rw[hw]at k
    dsimp only
    rfl'
    exact⟨.non,none,rfl,rfl,fun l H2 s2 e=>k l H2 (Gr.same tb s2) e⟩
   |some z=>
    rw[hw]at k
    intro p H1 s1 p1
    rfl'
    exact⟨.ref p,some z,rfl,⟨p,rfl,p1⟩,fun l H2 s2 e=>k l H2 (Gr.same tb (s1.trans s2)) e⟩
theorem adf(M:Facts K mg){Ts:List Tab}(L:bU mg base M Ts):bf P w K mg base cV 5 M.tX.a M.tX.fd ["desk","s","b"] (gY M.aq M.aA Ts fun D s b=>(Kp284Neutral.step (some D) [[59,(s:Nat),(b:Nat)]]).2):=by
 exists M.tX.F,J1,Ns.agT,(aj (bC (PW.pt (fQ (iM cZ (pv 1) aC) (dW (iM cZ (pv 2) (fD M.vI))))) (ak (au (aO (bO (fD M.aN))))) aU) (aj (su (i:=3) rfl J1.nd rfl rfl rfl (uQ rfl M.rB (dh aC (aM dX (pv 2) aC))) (blk (N:=["desk","s","b","found","k"]) (sc:=ao Rh) (own:=[("k",4)]) ⟨rfl,by decide+kernel,by decide+kernel,by decide+kernel,by decide+kernel⟩) (fun _ _ _ _ _=>(fG (i:=4) J1.nd rfl (Or.inl rfl))) (fun _ _ _ _ _=>(zu (lW (QG (bQ M.gF (qT M) hr (sW M) (nU (aK M.aB M.aR (pv 0)) (aK M.aB M.bT (pv 0)) (bQ M.lB (pQ M) hr (sX M) (dh (pv 1) (pv 4))))))))) (fun _ _ _ _ _=>(pv 4))) (ak (au (aM Ar (aO (bO (bK bH rfl M.lR (by decide+kernel) (bO (pv 3))))) (pv 3)))))),s,hs,b,hb
 refine cO (fun c=>?_) (fun c=>?_)
 ·have c:1<s:=by have:=of_decide_eq_true c;omega
  refine bJ ?_
  rw[if_pos (Or.inl c)]at k
  rfl'
  exact aQ tb rfl rfl k
 ·have c:¬1<s:=fun q=>c (decide_eq_true (by omega))
  rfl'
  refine cO (fun c1=>?_) (fun c1=>?_)
  ·have c1:60<b:=by have:=of_decide_eq_true c1;omega
   rw[if_pos (Or.inr c1)]at k
   rfl'
   exact aQ tb rfl rfl k
  ·have c1:¬60<b:=fun q=>c1 (decide_eq_true (by omega))
   rw[if_neg (by omega)]at k
   rfl'
   refine wz (Cv ?_)
   rfl'
   refine xQ ⟨by omega,by omega,by omega,by omega⟩ ?_
   have Lz:(((b:Int)+1)-1).toNat=b:=by omega
   rw[Lz]
   have ed:(List.range (b+1)).drop 1=List.range' 1 b:=by
    rw[List.range_eq_range',List.drop_range']
    congr 1
   rw[ed]at k
   refine sE (fun E i acc H'=>Same H H'/\H E=none/\acc=((List.range' 1 i).filter fun j=> !(Kp282.firsts D.n (Kp282.signed s j)).isEmpty).map fun(m:Nat)=>V.int (m:Nat)) ?_ ?_ ?_ ?_
   ·intro v
    rfl
   ·intro E hE
    exact⟨Same.upd H _ hE,hE,rfl⟩
   ·rintro E i acc H' hi hl eE ⟨s1,hE,rfl⟩
    have e1:(1:Int)+(i:Int)=((1+i:Nat):Int):=by push_cast;rfl
    rw[e1]
    have hI':=s1 _ _ hI
    rfl'
    refine⟨s,1+i,rfl,?_⟩
    rfl'
    have hk:Kp282.okD s (1+i)=true:=by
     unfold Kp282.okD Kp282.DIFF
     rw[Bool.and_eq_true,Bool.and_eq_true,decide_eq_true_iff,decide_eq_true_iff,decide_eq_true_iff]
     omega
    obtain⟨_,_,_,h4⟩:=LR hk
    refine⟨D.n,po,_,rfl,hN,ho.same s1,h4,?_⟩
    have er:List.range' 1 (i+1)=List.range' 1 i++[1+i]:=by rw[List.range'_concat];simp
    cases hf:Kp282.firsts D.n (Kp282.signed s (1+i))with
    |nil=>
     intro H2 s2
     rfl'
     rw[o8]
     refine cR ⟨_,by omega,s2 _ _ eE,s1.trans s2,hE,?_⟩
     rw[er,List.filter_append]
     simp[hf]
    |cons z r=>
     intro p H2 s2 p2
     rfl'
     rw[qd]
     refine bJ ?_
     rfl'
     refine qL (by omega) hl (s2 _ _ eE) ⟨?_,hE,?_⟩
     ·exact fun c o e=>by rw[aH (aW e hE)];exact s2 c o (s1 c o e)
     ·rw[er,List.filter_append,List.map_append]
      simp[hf]
   ·rintro E acc H' hl eE ⟨s1,hE,rfl⟩
    generalize hF:(List.range' 1 b).filter (fun j=> !(Kp282.firsts D.n (Kp282.signed s j)).isEmpty)=ns at*
    have hlen:ns.length<=60:=by
     rw[List.length_map]at hl
     omega
    rfl'
    refine⟨_,_,rfl,.inl (cY.of eE),?_⟩
    rfl'
    refine cJ bY fun q hq=>?_
    rfl'
    have hEq:E≠q:=aW eE hq
    refine Az aG (by rw[aH hEq];exact eE) ?_ fun r hr1=>?_
    ·rw[List.length_map,sizeLine_eq]
     show 1+_<=_
     omega
    ·refine k r _ (Gr.same tb ((s1.trans (Same.upd H' _ hq)).trans (Same.upd _ _ hr1))) ?_
     rw[aG]
     unfold Ns.nums Ns.zs
     simp[Function.comp]
end
section
variable{P:Program}{w:World}{K:W.Frag}{mg:Str->Option Value}{base:Heap}
theorem afD{X:Cx}{K:W.Frag}{es:List Expr}{k n:Nat}{t:TGs}{pos:Pos}(hK:X.K=K)(hc:X.calm=true)(h:PGs X es t)(hn:(assignEach es X.env).length=n:=by rfl)(hst:(assignEach es X.env).findIdx? (·.1)=none:=by rfl):PG X (.Tuple es k pos) (ah6 K n t):=by
 subst hK
 exact ah7 hc h hn hst
theorem Bw{n o h k e:V}:(pq n o h k e).lookup ("has_kept":Str)=none:=X3 (by decide+kernel) (by decide+kernel) (by decide+kernel) (by decide+kernel) (by decide+kernel)
theorem zF{C:Addr}{H:Hp}{D:Kp284.Desk}{ks:List Addr}(h:cA C H ks D.kept)(wf:Wf D){i:Nat}(hi:i<D.kept.length):∃a,atI (ks.map V.ref) (i:Int)=some (.ref a)/\aP C H a (Kp284.keptAt D i):=by
 obtain⟨e,_⟩:=wf.keptAt hi
 obtain⟨a,ha,p⟩:=h.get e
 exact⟨a,gq (by rw[List.getElem?_map,ha];rfl),p⟩
theorem Yy(a b c e:Int):PyData.eqv (.tuple [.int a,.int b]) (.tuple [.int c,.int e])=(decide (a=c) && decide (b=e)):=by
 show(a==c && (b==e && true))=_
 rw[Bool.and_true,Bool.beq_eq_decide_eq,Bool.beq_eq_decide_eq]
theorem ahF(y z:Pr):(decide ((y.x:Int)=(z.x:Int)) && decide ((y.y:Int)=(z.y:Int)))=decide (y=z):=by
 rw[Bool.eq_iff_iff,Bool.and_eq_true,decide_eq_true_iff,decide_eq_true_iff,decide_eq_true_iff]
 obtain⟨a,b⟩:=y
 obtain⟨c,e⟩:=z
 simp only[Kp279.Pair.mk.injEq]
 omega
theorem ajm(M:Facts K mg){Ts:List Tab}(L:bU mg base M Ts):bf P w K mg base cV 8 M.G3.a M.G3.fd ["desk","i","j"] (gY M.aq M.aA Ts fun D i j=>(Kp284Neutral.step (some D) [[13,(i:Nat),(j:Nat)]]).2):=by
 exists M.G3.F,aiF,Ns.af9,(aj (bC (PW.pt (fQ (nQ (dU (qY (pv 0) M.aB M.iw (gj M) (hr.mono (by decide)) (iy M) .nil pA (bO (pv 1))))) (dW (nQ (dU (qY (pv 0) M.aB M.iw (gj M) (hr.mono (by decide)) (iy M) .nil pA (bO (pv 2)))))))) (ak (au (aO (bO (fD M.jZ))))) aU) (aj (bC (iM (aii hr.units) (bQ M.j7 (vW M L) hr (yQ M) (dh (pv 0) (iz eG (aK M.aB M.bR (pv 0)) (pv 1) (fun _ _=>rfl)))) (bQ M.j7 (vW M L) hr (yQ M) (dh (pv 0) (iz eG (aK M.aB M.bR (pv 0)) (pv 2) (fun _ _=>rfl))))) (ak (au (aO (bO aC)))) aU) (ak (au (aO (bO aC)))))),i,hi,j,hj
 refine uH hI Bw ?_
 rfl'
 refine⟨d,lk,le,dx,po,ph,D,ks,es,i,rfl,hD,?_⟩
 rfl'
 by_cases c:i<D.kept.length
 ·rw[decide_eq_true c]
  refine cR ?_
  rfl'
  refine uH hI Bw ?_
  rfl'
  refine⟨d,lk,le,dx,po,ph,D,ks,es,j,rfl,hD,?_⟩
  rfl'
  by_cases c2:j<D.kept.length
  ·rw[decide_eq_true c2]
   refine cR ?_
   rw[if_neg (by omega)]at k
   obtain⟨a,ea,pa⟩:=zF hD.jE hD.wf c
   rfl'
   refine gQ (cY.of hD.kept) ea ?_
   rfl'
   refine⟨d,lk,le,dx,po,ph,D,ks,es,a,_,rfl,hD,pa,(hD.wf.keptAt c).2,fun t1 H1 s1 n1 e1=>?_⟩
   have hD1:=hD.same s1
   have hI1:=hD1.ins
   obtain⟨b,eb,pb⟩:=zF hD1.jE hD1.wf c2
   rfl'
   refine gQ (cY.of hD1.kept) eb ?_
   rfl'
   refine⟨d,lk,le,dx,po,ph,D,ks,es,b,_,rfl,hD1,pb,(hD.wf.keptAt c2).2,fun t2 H2 s2 n2 e2=>?_⟩
   refine⟨_,_,.tup (Ov.of (s2 _ _ e1)) (.cons (.int _) (.cons (.int _) .nil)),.tup (Ov.of e2) (.cons (.int _) (.cons (.int _) .nil)),rfl,rfl,?_⟩
   rw[Yy,ahF,<-Ns.Qw hN]
   rfl'
   cases hk:Kp284.kin D (Kp284.keptAt D i) (Kp284.keptAt D j)with
   |true=>
    rw[hk,if_pos rfl]at k
    refine bJ ?_
    rfl'
    exact bN (Gr.same tb (s1.trans s2)) rfl rfl k
   |false=>
    rw[hk,if_neg (by decide)]at k
    refine cR ?_
    rfl'
    exact bN (Gr.same tb (s1.trans s2)) rfl rfl k
  ·rw[decide_eq_false c2]
   refine bJ ?_
   rw[if_pos (by omega)]at k
   rfl'
   exact aQ tb rfl rfl k
 ·rw[decide_eq_false c]
  refine bJ (bJ ?_)
  rw[if_pos (by omega)]at k
  rfl'
  exact aQ tb rfl rfl k
theorem U0{n:Nat}(hn:n<=60):∀(i:Nat)(zs:List Pr),zs.length=i->(∀z∈zs,Sm 20 z)->∀p∈Ns.prods (zs.map (Kp279.diff n)),Bd (47*i+1) p
 |0,zs,h,_=>by
  have:zs=[]:=List.eq_nil_of_length_eq_zero h
  subst this
  intro p hp
  have:p=1:=by simpa[Ns.prods]using hp
  subst this
  exact(by decide:(1:Int).natAbs<2^(47*0+1))
 |i+1,zs,h,hs=>by
  rcases Ns.snoc_cases zs with e|⟨ws,z,rfl⟩
  ·subst e;simp at h
  have hw:ws.length=i:=by simpa using h
  have ih:=U0 hn i ws hw fun z hz=>hs z (List.mem_append_left _ hz)
  have hz:=hs z (List.mem_append_right _ (List.mem_singleton.mpr rfl))
  rw[List.map_append,show [z].map (Kp279.diff n)=[Kp279.diff n z]from rfl,Ns.Ai]
  intro p hp
  rcases List.mem_append.mp hp with e|e
  ·exact(ih p e).mono (by omega)
  ·obtain⟨q,hq,rfl⟩:=List.mem_map.mp e
   exact(Bd.mul (ih q hq) (Iu hn hz)).mono (by omega)
theorem afE(M:Facts K mg){Ts:List Tab}(L:bU mg base M Ts):bf P w K mg base cV 2 M.yt.a M.yt.fd ["desk","s","k"] (gY M.aq M.aA Ts fun D s j=>(Kp284Neutral.step (some D) [[15,(s:Nat),(j:Nat)]]).2):=by
 exists M.yt.F,oU,Ns.agb,(aj (bC (PW.pt (fQ (iM cZ (pv 1) aC) (dW (iM cZ (pv 2) (fD M.Bp))))) (ak (au (aO (bO (fD M.aN))))) aU) (aj (jz 3 oU.nd (rW (iM lA (pv 1) aC) (pv 2) (ql lX (pv 2)))) (aj (jz 4 oU.nd (aO (bO aC))) (aj (vp PassesOwn.never rfl (pW (aK M.aB M.bR (pv 0))) (fG (i:=5) oU.nd rfl (by first|exact Or.inl rfl|exact Or.inr rfl)) (aj (jz 6 oU.nd (bQ M.bG (bV M) hr (bZ M) (dh (aK M.aB M.aR (pv 0)) (pv 5)))) (ak (jz 4 oU.nd (aM Ar (pv 4) (Td rfl oU.nd (pW (pv 4)) (blk (N:=["desk","s","k","wanted","products","pair","gap","product","found","place"]) (sc:=ao Rf) (own:=[("product",7)]) ⟨rfl,by decide+kernel,by decide+kernel,by decide+kernel,by decide+kernel⟩) (fun _ _ _ _ _=>(fG (i:=7) oU.nd rfl (Or.inl rfl))) (fun _ _ _ _ _=>zq) (fun _ _ _ _ _=>(aM bh (pv 7) (pv 6))))))))) (aj (su (i:=8) rfl oU.nd rfl rfl rfl (aem rfl M.Us (bO (pv 4))) (blk (N:=["desk","s","k","wanted","products","pair","gap","product","found","place"]) (sc:=ao Rf) (own:=[("place",9),("product",7)]) ⟨rfl,by decide+kernel,by decide+kernel,by decide+kernel,by decide+kernel⟩) (fun _ _ _ _ _=>(afD (K:=K) (n:=2) rfl rfl (SM (fG (i:=9) oU.nd rfl (Or.inl rfl) (Or.inr rfl)) (SM (fG (i:=7) oU.nd rfl (Or.inl rfl) (Or.inr rfl)) ad6)))) (fun _ _ _ _ _=>(zu (iM lA (pv 7) (pv 3)))) (fun _ _ _ _ _=>(pv 9))) (ak (au (aM Ar (aO (bO (bK bH rfl M.lR (by decide+kernel) (bO (pv 8))))) (pv 8))))))))),s,hs,j,hj
 refine cO (fun c=>?_) (fun c=>?_)
 ·have c:1<s:=by have:=of_decide_eq_true c;omega
  refine bJ ?_
  rw[if_pos (Or.inl c)]at k
  rfl'
  exact aQ tb rfl rfl k
 ·have c:¬1<s:=fun q=>c (decide_eq_true (by omega))
  generalize hM:(1000000:Nat)=T at k
  generalize Uz:(1000000:Int)=T2
  have hTT:T2=(T:Int):=by rw[<-hM,<-Uz];rfl
  rfl'
  refine cO (fun c1=>?_) (fun c1=>?_)
  ·have c1:T<j:=by have:=of_decide_eq_true c1;omega
   rw[if_pos (Or.inr c1)]at k
   rfl'
   exact aQ tb rfl rfl k
  ·have c1:¬T<j:=fun q=>c1 (decide_eq_true (by omega))
   rw[if_neg (by omega)]at k
   have kl:=hD.wf.kl
   have hzs:∀i,∀z∈D.kept.take i,Sm 20 z:=fun i z hz=>gC (hD.wf.kept z (List.mem_of_mem_take hz))
   rfl'
   obtain⟨v,hv⟩:∃v:Int,v=Kp282.signed s j:=⟨_,rfl⟩
   rw[<-hv]at k
   rcases Classical.em (s=0)with c2|c2
   case' inl=>
    rw[decide_eq_true (show(s:Int)=0 by omega)]
    refine bJ ?_
    have hw:v=(j:Int):=by rw[hv];unfold Kp282.signed;rw[if_pos c2]
   case' inr=>
    rw[decide_eq_false (show¬(s:Int)=0 by omega)]
    refine cR ?_
    have hw:v=-(j:Int):=by rw[hv];unfold Kp282.signed;rw[if_neg c2]
   all_goals
    rfl'
    refine cJ bY fun l0 hl0=>?_
    have anG:(upd H l0 (.lst [.int 1])) lk=some (.lst (ks.map V.ref)):=by rw[aH (aW hD.kept hl0)];exact hD.kept
    have sU:Same H (upd H l0 (.lst [.int 1])):=Same.upd H _ hl0
    have hI0:=sU _ _ hI
    rfl'
    refine Av (zO ?_)
    rfl'
    refine uI (cY.of anG) ?_
    refine uW (xs:=ks.map V.ref) (fun i σ H'=>∃(l:Addr)(a b:Option V),σ=[some (.ref d),some (.int s),some (.int j),some (.int v),some (.ref l),a,b,none,none,none]/\Same H H'/\H' l=some (.lst ((Ns.prods ((D.kept.take i).map (Kp279.diff D.n))).map V.int))) ⟨l0,none,none,(by rw[hw];rfl),sU,aG⟩ ?_ ?_ ?_
    ·rintro i σ H' _ ⟨l,a,b,rfl,s1,e1⟩
     exact cY.of (s1 _ _ hD.kept)
    ·rintro i x σ H' hx ⟨l,a0,b0,rfl,s1,e1⟩
     obtain⟨a,ha,rfl⟩:=uz hx
     obtain⟨z,hz',pz⟩:=hD.jE.of ha
     have hi:i<D.kept.length:=(List.getElem?_eq_some_iff.mp hz').1
     have sz:=gC (hD.wf.kept z (List.mem_of_getElem? hz'))
     have hI':=s1 _ _ hI
     have pz':=pz.same s1
     have lt:(D.kept.take i).length=i:=by rw[List.length_take];omega
     have bds:=U0 hn i (D.kept.take i) lt (hzs i)
     have aq2:(Ns.prods ((D.kept.take i).map (Kp279.diff D.n))).length<=256:=by
       rw[(Ns.BX i _ (by rw[List.length_map];exact lt)).1]
       exact Nat.pow_le_pow_right (by decide) (by omega:i<=8)
     have et:Ns.prods ((D.kept.take (i+1)).map (Kp279.diff D.n))=Ns.prods ((D.kept.take i).map (Kp279.diff D.n))++(Ns.prods ((D.kept.take i).map (Kp279.diff D.n))).map fun p=>p*Kp279.diff D.n z:=by
       rw[take_snoc hz',List.map_append]
       exact Ns.Ai _ _
     generalize Ns.prods ((D.kept.take i).map (Kp279.diff D.n))=ps at*
     rfl'
     refine⟨D.n,a,z,rfl,pz',sz.mono (by decide),hnB,?_⟩
     have db:=Iu hn sz
     generalize Kp279.diff D.n z=g at*
     rfl'
     refine wz (zO ?_)
     rfl'
     refine uI (cY.of e1) ?_
     refine xU (xs:=ps.map V.int) (fun E m acc H2=>Same H' H2/\H' E=none/\acc=((ps.take m).map fun p=>p*g).map V.int) ?_ ?_ ?_ ?_ ?_
     ·intro v
      rfl
     ·intro E hE
      exact⟨Same.upd H' _ hE,hE,rfl⟩
     ·rintro E m acc H2 _ ⟨s2,hE,_⟩
      exact cY.of (s2 _ _ e1)
     ·rintro E m x acc H2 hx hla eE ⟨s2,hE,rfl⟩
      rw[List.getElem?_map]at hx
      obtain⟨p,hp,rfl⟩:=Option.map_eq_some_iff.mp hx
      have pb:Bd 500 p:=(bds p (List.mem_of_getElem? hp)).mono (by omega)
      have hm:m<ps.length:=(List.getElem?_eq_some_iff.mp hp).1
      refine Ek (bJ ?_)
      rfl'
      refine qL (by omega) hla eE ⟨?_,hE,?_⟩
      ·exact fun c o e=>by rw[aH (aW e hE)];exact s2 c o e
      ·rw[take_snoc hp,List.map_append,List.map_append]
       rfl
     ·rintro E acc H2 hla eE ⟨s2,hE,rfl⟩
      rw[List.length_map,List.take_length]at eE
      refine Az (s2 _ _ e1) eE ?_ fun r hr1=>?_
      ·rw[List.length_map,List.length_map,List.length_map,sizeLine_eq]
       omega
      ·rfl'
       refine⟨r,_,_,rfl,(s1.trans s2).trans (Same.upd _ _ hr1),?_⟩
       rw[aG,et,List.map_append]
    ·rintro σ H' ⟨l,a0,b0,rfl,s1,e1⟩
     rw[List.length_map,hD.jE.1,List.take_length]at e1
     have pl:=(Ns.BX D.kept.length (D.kept.map (Kp279.diff D.n)) (by rw[List.length_map])).1
     have pl2:2^D.kept.length<=256:=Nat.pow_le_pow_right (by decide) (by omega:D.kept.length<=8)
     rw[Ns.adZ]at k
     generalize Ns.prods (D.kept.map (Kp279.diff D.n))=ps at*
     rfl'
     refine wz (akx ?_)
     rfl'
     refine aiB (cY.of e1) ?_
     refine acd (xs:=ps.map V.int) (fun E m acc H2=>Same H' H2/\H' E=none/\acc=((List.range m).filter fun q=>decide (ps[q]?=some v)).map fun(q:Nat)=>V.int (q:Nat)) ?_ ?_ ?_ ?_ ?_
     ·intro v w
      rfl
     ·intro E hE
      exact⟨Same.upd H' _ hE,hE,rfl⟩
     ·rintro E m acc H2 _ ⟨s2,hE,_⟩
      exact cY.of (s2 _ _ e1)
     ·rintro E m x acc H2 T hx hla eE ⟨s2,hE,rfl⟩ hT
      rw[List.getElem?_map]at hx
      obtain⟨p,hp,rfl⟩:=Option.map_eq_some_iff.mp hx
      have hm:m<ps.length:=(List.getElem?_eq_some_iff.mp hp).1
      have sT:=s2.trans (Same.upd H2 (.tup [.int (m:Nat),.int p]) hT)
      have eE2:(upd H2 T (.tup [.int (m:Nat),.int p])) E=_:=Same.upd H2 (.tup [.int (m:Nat),.int p]) hT _ _ eE
      rfl'
      have ef:(List.range (m+1)).filter (fun q=>decide (ps[q]?=some v))=(List.range m).filter (fun q=>decide (ps[q]?=some v))++(if p=v then [m]else []):=by
       rw[List.range_succ,List.filter_append]
       congr 1
       by_cases q:p=v
       ·simp[hp,q]
       ·simp[hp,q]
      by_cases q:p=v
      ·rw[decide_eq_true q]
       refine bJ ?_
       rfl'
       refine qL (by omega) hla eE2 ⟨?_,hE,?_⟩
       ·exact fun c o e=>by rw[aH (aW e hE)];exact sT c o e
       ·rw[ef,if_pos q,List.map_append]
        rfl
      ·rw[decide_eq_false q]
       refine cR ⟨_,by omega,eE2,sT,hE,?_⟩
       rw[ef,if_neg q,List.append_nil]
     ·rintro E acc H2 hla eE ⟨s2,hE,rfl⟩
      rw[List.length_map,pl]at eE
      generalize hF:(List.range (2^D.kept.length)).filter (fun q=>decide (ps[q]?=some v))=ns at*
      have hlen:ns.length<=256:=by
       rw[<-hF]
       have:=List.length_filter_le (fun q=>decide (ps[q]?=some v)) (List.range (2^D.kept.length))
       rw[List.length_range]at this
       omega
      rfl'
      refine⟨_,_,rfl,.inl (cY.of eE),?_⟩
      rfl'
      refine cJ bY fun q hq=>?_
      rfl'
      have hEq:E≠q:=aW eE hq
      refine Az aG (by rw[aH hEq];exact eE) ?_ fun r hr1=>?_
      ·rw[List.length_map,sizeLine_eq]
       show 1+_<=_
       omega
      ·refine k r _ (Gr.same tb (((s1.trans s2).trans (Same.upd H2 _ hq)).trans (Same.upd _ _ hr1))) ?_
       rw[aG]
       unfold Ns.nums Ns.zs
       simp[Function.comp]
end
noncomputable def kz(z:Pr):List Key:=[.inl (z.x:Int),.inl (z.y:Int)]
theorem Mf{y z:Pr}:kz y=kz z↔y=z:=by
 constructor
 ·intro h
  obtain⟨a,b⟩:=y
  obtain⟨c,d⟩:=z
  unfold kz at h
  simp only[List.cons.injEq,Sum.inl.injEq,and_true]at h
  rw[Kp279.Pair.mk.injEq]
  omega
 ·intro h
  rw[h]
noncomputable abbrev tf(p:Pr×Int):List Key×V:=(kz p.1,V.int p.2)
noncomputable def cnt(l:List Pr)(z:Pr):Int:=((l.filter fun x=>decide (x=z)).length:Int)
theorem rO{l:List Pr}{p:Pr×Int}(h:p∈Ns.tally l):p.2=cnt l p.1/\p.1∈l:=by
 obtain⟨ks,_,h2,_,h4⟩:=Ns.uP l.length l rfl
 rw[h4]at h
 obtain⟨k,hk,rfl⟩:=List.mem_map.mp h
 exact⟨rfl,(h2 k).mp hk⟩
theorem aaw(l:List Pr)(z:Pr):((Ns.tally l).map tf).any (fun kv=>decide (kv.1=kz z))=(Ns.tally l).any fun p=>decide (p.1=z):=by
 rw[List.any_map]
 congr 1
 funext p
 show decide (kz p.1=kz z)=_
 rw[decide_eq_decide]
 exact Mf
theorem Qk(l:List Pr)(z:Pr):Cm ((Ns.tally l).map tf) (kz z)=if z∈l then some (.int (cnt l z))else none:=by
 unfold Cm
 by_cases c:z∈l
 ·rw[if_pos c]
  obtain⟨ks,_,h2,_,h4⟩:=Ns.uP l.length l rfl
  have hz:=(h2 z).mpr c
  cases hf:((Ns.tally l).map tf).find? fun kv=>decide (kv.1=kz z)with
  |none=>
   have q:=List.find?_eq_none.mp hf (kz z,.int (cnt l z)) (by
    rw[h4]
    exact List.mem_map.mpr ⟨(z,cnt l z),List.mem_map.mpr ⟨z,hz,rfl⟩,rfl⟩)
   simp at q
  |some kv=>
   have q1:=List.find?_some hf
   have q2:=List.mem_of_find?_eq_some hf
   obtain⟨p,hp,rfl⟩:=List.mem_map.mp q2
   have q1:p.1=z:=Mf.mp (of_decide_eq_true q1)
   show some (V.int p.2)=_
   rw[(rO hp).1,q1]
 ·rw[if_neg c]
  have:((Ns.tally l).map tf).find? (fun kv=>decide (kv.1=kz z))=none:=by
   rw[List.find?_eq_none]
   intro kv hkv
   obtain⟨p,hp,rfl⟩:=List.mem_map.mp hkv
   intro q
   have q:p.1=z:=Mf.mp (of_decide_eq_true q)
   exact c (by rw[<-q];exact(rO hp).2)
  rw[this]
  rfl
theorem aax(l:List Pr)(z:Pr):putK ((Ns.tally l).map tf) (kz z) (.int ((if z∈l then cnt l z else 0)+1))=(Ns.tally (l++[z])).map tf:=by
 rw[Ns.Je]
 unfold putK
 rw[aaw]
 by_cases c:(Ns.tally l).any (fun p=>decide (p.1=z))=true
 ·rw[if_pos c,if_pos c,List.map_map,List.map_map]
  obtain⟨p,hp,e⟩:=List.any_eq_true.mp c
  have e:p.1=z:=of_decide_eq_true e
  have hz:z∈l:=by rw[<-e];exact(rO hp).2
  rw[if_pos hz]
  apply List.map_congr_left
  intro q hq
  show(if kz q.1=kz z then(kz q.1,V.int (cnt l z+1))else tf q)=tf (if q.1=z then(q.1,q.2+1)else q)
  by_cases d:q.1=z
  ·rw[if_pos (Mf.mpr d),if_pos d]
   show(kz q.1,V.int (cnt l z+1))=(kz q.1,V.int (q.2+1))
   rw[(rO hq).1,d]
  ·rw[if_neg (fun w=>d (Mf.mp w)),if_neg d]
 ·rw[if_neg c,if_neg c,List.map_append]
  have hz:¬z∈l:=fun h=>c (by
   obtain⟨ks,_,h2,_,h4⟩:=Ns.uP l.length l rfl
   refine List.any_eq_true.mpr ⟨(z,cnt l z),?_,by simp⟩
   rw[h4]
   exact List.mem_map.mpr ⟨z,(h2 z).mpr h,rfl⟩)
  rw[if_neg hz]
  rfl
theorem Ql(l:List Pr):(Ns.tally l).length=(Ns.kJ l).length/\(Ns.tally l).length<=l.length:=by
 obtain⟨ks,h1,_,_,h4⟩:=Ns.uP l.length l rfl
 have e:(Ns.tally l).length=(Ns.kJ l).length:=by
  rw[h4,List.length_map]
  have:=congrArg List.length h1
  rw[List.length_map,List.length_map]at this
  exact this
 refine⟨e,?_⟩
 rw[e]
 unfold Ns.kJ
 have:=List.length_filter_le (fun i=>decide (l[i]?∉(l.take i).map some)) (List.range l.length)
 rw[List.length_range]at this
 exact this
theorem ajn{zs:List Pr}{i:Nat}{z:Pr}{c:Int}(h:(Ns.tally zs)[i]?=some (z,c)):∃j,(Ns.kJ zs)[i]?=some j/\zs[j]?=some z/\(∀(m:Nat)(y:Pr),m<j->zs[m]?=some y->y≠z)/\c=((zs.filter fun x=>decide (some x=zs[j]?)).length:Int):=by
 obtain⟨ks,h1,_,_,h4⟩:=Ns.uP zs.length zs rfl
 have hv:=rO (List.mem_of_getElem? h)
 rw[h4,List.getElem?_map]at h
 obtain⟨k,hk,e⟩:=Option.map_eq_some_iff.mp h
 have ez:k=z:=congrArg Prod.fst e
 subst ez
 have h5:(ks.map some)[i]?=some (some k):=by rw[List.getElem?_map,hk];rfl
 rw[h1,List.getElem?_map]at h5
 obtain⟨j,hj,ej⟩:=Option.map_eq_some_iff.mp h5
 refine⟨j,hj,ej,fun m y hm hy q=>?_,?_⟩
 ·have hf:=(List.mem_filter.mp (List.mem_of_getElem? hj)).2
  have hf:=of_decide_eq_true hf
  apply hf
  rw[ej]
  refine List.mem_map.mpr ⟨k,?_,rfl⟩
  apply List.mem_of_getElem? (i:=m)
  rw[List.getElem?_take_of_lt hm,hy,q]
 ·have hv1:c=cnt zs k:=hv.1
  rw[ej,hv1]
  unfold cnt
  congr 2
  apply List.filter_congr
  intro x _
  simp
noncomputable def aay(zs:List Pr):List (Nat×Nat):=(Ns.kJ zs).map fun i=>(i,(zs.filter fun x=>decide (some x=zs[i]?)).length)
noncomputable def afF(l:List (Nat×Nat)):List Int:=l.flatMap fun z=>[(z.1:Int),(z.2:Int)]
theorem adg(l:List (Nat×Nat)):(afF l).length=2*l.length:=by
 unfold afF
 induction l with
 |nil=>rfl
 |cons z zs ih=>
  rw[List.flatMap_cons,List.length_append,ih]
  show 2+2*zs.length=2*(zs.length+1)
  omega
section
variable{σ:L2.St}{H:Hp}{D:Ends}{Q:VK}
theorem afG{td ty tv:TE}(h:tv σ H fun v H1=>td σ H1 fun x H2=>ty σ H2 fun y H3=>∃a H4,x=.ref a/\Ti H3 a y v H4/\D.nx σ H4):ahn td ty tv D σ H:=h
theorem ajo{td ty tx:TE}(h:td σ H fun x H1=>∃a,x=.ref a/\IsD H1 a/\ty σ H1 fun y H2=>tx σ H2 fun z H3=>∃o,Hl H3 a y o/\Q (o.getD z) H3):abJ td ty tx σ H Q:=h
theorem akS{td ty:TE}(h:td σ H fun x H1=>ty σ H1 fun y H2=>∃a v,x=.ref a/\Hl H2 a y (some v)/\Q v H2):ahm td ty σ H Q:=h
theorem afH{t:TS}(h:∃d u,H d=some u/\Mut (some u)/\∀od,t ⟨fun σ' H'=>H' d=some (.nG od u)/\D.nx σ' (upd H' d u),fun v H'=>H' d=some (.nG od u)/\D.rt v (upd H' d u),fun σ' H'=>H' d=some (.nG od u)/\D.bk σ' (upd H' d u),fun σ' H'=>H' d=some (.nG od u)/\D.ct σ' (upd H' d u)⟩ σ (upd H d (.nG od u))):abL t D σ H:=h
def ahG(R:It->Hp->Prop):VK:=fun x H1=>∃d o,x=.ref d/\((∃kvs,H1 d=some (.nG o (.dK kvs))/\R (Itk d o kvs) H1)\/∃kvs,H1 d=some (.nG o (.dT kvs))/\R (abO d o kvs) H1)
theorem afI{td:TE}{R:It->Hp->Prop}(h:td σ H (ahG R)):aho td σ H R:=h
theorem afJ{S:Addr}{o:Obj}{kvs:List (List Key×V)}{R:It->Hp->Prop}(e:H S=some (.nG o (.dT kvs)))(h:R (abO S o kvs) H):ahG R (.ref S) H:=⟨S,o,rfl,.inr ⟨kvs,e,h⟩⟩
theorem aaz{S:Addr}{o:Obj}{kvs:List (List Key×V)}{g:TG}{tb:TS}(Pv:Nat->L2.St->Hp->Prop)(h0:Pv 0 σ H)(hl:∀i σ H,Pv i σ H->H S=some (.nG o (.dT kvs)))
 (hs:∀i k v q σ H,kvs[i]?=some (k,v)->H q=some (.tup (k.map kV))->Pv i σ H->g (.ref q) σ H fun σ2 H2=>tb { D with nx:=Pv (i+1),ct:=Pv (i+1),bk:=D.nx } σ2 H2)(hd:∀σ H,Pv kvs.length σ H->D.nx σ H):aeB g tb D σ (abO S o kvs) H:=by
 refine⟨fun i m σ H=>m=kvs.length-i/\i<=kvs.length/\Pv i σ H,⟨kvs.length,by simp,Nat.zero_le _,h0⟩,?_⟩
 rintro i m σ H ⟨rfl,hi,p⟩
 have q:=hl i σ H p
 by_cases hlt:i<kvs.length
 ·refine .inr ⟨⟨q,hlt⟩,Pv (i+1),fun σ' H' p'=>⟨kvs.length-(i+1),by omega,rfl,hlt,p'⟩,fun x H' y=>?_⟩
  obtain⟨e,k,v,q2,h1,h2,h3⟩:=y
  subst e h2
  exact hs i k v q2 σ _ h1 h3 p
 ·have e:i=kvs.length:=by omega
  subst e
  exact .inl ⟨⟨q,Nat.le_refl _⟩,hd σ H p⟩
end
section
variable{P:Program}{w:World}{K:W.Frag}{mg:Str->Option Value}{base:Heap}
noncomputable def N7(z:Pr):PyData:=.tuple [.int z.x,.int z.y]
theorem adh{H:Hp}{t:Addr}{z:Pr}(e:H t=some (.tup [.int z.x,.int z.y])):Dp K H (.ref t) (N7 z):=.tup (Ov.of e) (.cons (.int _) (.cons (.int _) .nil))
theorem adi{H:Hp}:∀{ts:List Addr}{zs:List Pr},ts.length=zs.length->(∀(i:Nat)(t:Addr)(z:Pr),ts[i]?=some t->zs[i]?=some z->H t=some (.tup [.int z.x,.int z.y]))->Gv K H (ts.map V.ref) (zs.map N7)
 |[],[],_,_=> .nil
 |t::ts,z::zs,h,f=> .cons (adh (f 0 t z rfl rfl)) (adi (by simpa using h) fun i a b e1 e2=>f (i+1) a b e1 e2)
theorem Yz:∀zs:List Pr,PyData.canLayAll0 (zs.map N7)=true
 |[]=>rfl
 |z::zs=>by
  have ih:=Yz zs
  simp only[List.map_cons,PyData.canLayAll0,ih,Bool.and_true]
  rfl
theorem aaA(z:Pr):(N7 z).depth<=32:=Nat.le_of_ble_eq_true rfl
theorem YB(y z:Pr):PyData.eqv (N7 y) (N7 z)=decide (y=z):=by
 unfold N7
 rw[Yy,ahF]
theorem U3(M:Facts K mg){Ts:List Tab}(L:bU mg base M Ts):bf P w K mg base cV 8 M.mF.a M.mF.fd ["desk"] (nu M.aq M.aA Ts fun D=>(Kp284Neutral.step (some D) [[14]]).2):=by
 exists M.mF.F,mz,Ns.aga,(aj (su (i:=1) rfl mz.nd rfl rfl rfl (pW (aK M.aB M.bR (pv 0))) (blk (N:=["desk","ends","pair","sizes","end","row"]) (sc:=ao Bg) (own:=[("pair",2)]) ⟨rfl,by decide+kernel,by decide+kernel,by decide+kernel,by decide+kernel⟩) (fun _ _ _ _ _=>(fG (i:=2) mz.nd rfl (Or.inl rfl))) (fun _ _ _ _ _=>zq) (fun _ _ _ _ _=>(bQ M.j7 (vW M L) hr (yQ M) (dh (pv 0) (pv 2))))) (aj (jz 3 mz.nd abI) (aj (vp PassesOwn.never rfl (pW (pv 1)) (fG (i:=4) mz.nd rfl (by first|exact Or.inl rfl|exact Or.inr rfl)) (ak (aek (abQ hr) (pv 3) (pv 4) (aM dX (abK (abQ hr) (pv 3) (pv 4) aC ⟨rfl,rfl,rfl,rfl⟩) aC) rfl))) (aj (jz 5 mz.nd (aO (bO (bK Zu rfl M.lR (by decide+kernel) (bO (pv 3)))))) (aj (XF (vp PassesOwn.never rfl (ael (pv 3)) (fG (i:=4) mz.nd rfl (by first|exact Or.inl rfl|exact Or.inr rfl)) (ak (nP (zM PySem.F.plainAttrs_list PySem.F.slot_list_extend PySem.F.type_list_extend Ef (pv 5) (bO (aO (dh (zM PySem.F.plainAttrs_list PySem.F.slot_list_index PySem.F.type_list_index (Zt hr.units) (pv 1) (bO (pv 4))) (aej (abQ hr) (pv 3) (pv 4) (fun _ _=>rfl)))))))))) (ak (au (pv 5))))))))
 refine wz (zO ?_)
 rfl'
 refine uI (cY.of hD.kept) ?_
 have kl:=hD.wf.kl
 rw[Ns.R0 hN]at k
 have hzl:(D.kept.map (Kp284.firstOf D)).length=D.kept.length:=List.length_map ..
 have anH:∀(i:Nat)(y:Pr),D.kept[i]?=some y->(D.kept.map (Kp284.firstOf D))[i]?=some (Kp284.firstOf D y):=fun i y e=>by rw[List.getElem?_map,e];rfl
 generalize hZ:D.kept.map (Kp284.firstOf D)=zs at*
 refine xU (xs:=ks.map V.ref) (fun E i acc H'=>Same H H'/\H E=none/\∃ts:List Addr,acc=ts.map V.ref/\ts.length=i/\∀(m:Nat)(t:Addr)(z:Pr),ts[m]?=some t->zs[m]?=some z->H' t=some (.tup [.int z.x,.int z.y])) ?_ ?_ ?_ ?_ ?_
 ·intro v
  rfl
 ·intro E hE
  exact⟨Same.upd H _ hE,hE,[],rfl,rfl,fun m t z e=>by simp at e⟩
 ·rintro E i acc H' _ ⟨s1,hE,_⟩
  exact cY.of (s1 _ _ hD.kept)
 ·rintro E i x acc H' hx hla eE ⟨s1,hE,ts,rfl,hlen,pt⟩
  obtain⟨a,ha,rfl⟩:=uz hx
  obtain⟨y,hy,py⟩:=hD.jE.of ha
  have hi:i<D.kept.length:=(List.getElem?_eq_some_iff.mp hy).1
  have hD1:=hD.same s1
  refine Ek (bJ ?_)
  rfl'
  refine⟨d,lk,le,dx,po,ph,D,ks,es,a,y,rfl,hD1,py.same s1,hD.wf.kept y (List.mem_of_getElem? hy),fun t H2 s2 nt e2=>?_⟩
  have eE2:=s2 _ _ eE
  refine qL (by omega) hla eE2 ⟨?_,hE,ts++[t],by rw[List.map_append];rfl,by rw[List.length_append,hlen];rfl,fun m u z e3 e4=>?_⟩
  ·exact fun c o e=>by rw[aH (aW e hE)];exact s2 c o (s1 c o e)
  ·rcases Nat.lt_or_ge m ts.length with q|q
   ·rw[List.getElem?_append_left q]at e3
    have h3:=s2 _ _ (pt m u z e3 e4)
    rw[aH (fun w=>by rw[w,eE2]at h3;cases h3)]
    exact h3
   ·rw[List.getElem?_append_right q]at e3
    have hm:m=i:=by
     have:=(List.getElem?_eq_some_iff.mp e3).1
     simp at this
     omega
    subst hm
    have et:t=u:=by
     rw[hlen]at e3
     simpa using e3
    subst et
    rw[anH m y hy]at e4
    have e4:=Option.some.inj e4
    subst e4
    rw[aH (fun w=>by rw[w,eE2]at e2;cases e2)]
    exact e2
 ·rintro E acc H' hla eE ⟨s1,hE,ts,rfl,hlen,pt⟩
  rw[List.length_map,hD.jE.1]at hlen
  have tl8:ts.length<=8:=by omega
  have tz:ts.length=zs.length:=by rw[hlen,hzl]
  rfl'
  intro S hS
  have sU:=Same.upd H' (.dT []) hS
  rfl'
  refine Av (zO ?_)
  rfl'
  refine uI (cY.of (sU _ _ eE)) ?_
  refine uW (xs:=ts.map V.ref) (fun i σ H2=>∃v:Option V,σ=[some (.ref d),some (.ref E),none,some (.ref S),v,none]/\Same H' H2/\H2 S=some (.dT ((Ns.tally (zs.take i)).map tf))) ⟨none,rfl,sU,aG⟩ ?_ ?_ ?_
  ·rintro i σ H2 _ ⟨v,rfl,s2,e2⟩
   exact cY.of (s2 _ _ eE)
  ·rintro i x σ H2 hx ⟨v,rfl,s2,e2⟩
   obtain⟨t,ht,rfl⟩:=uz hx
   have hi:i<zs.length:=by rw[<-tz];exact(List.getElem?_eq_some_iff.mp ht).1
   obtain⟨z,hz'⟩:∃z,zs[i]?=some z:=⟨_,List.getElem?_eq_getElem hi⟩
   have et:=s2 _ _ (pt i t z ht hz')
   with_reducible refine dw ?_
   with_reducible refine afG ?_
   with_reducible refine mj ?_
   with_reducible refine ajo ?_
   rfl'
   refine⟨.inr ⟨_,.inl e2⟩,?_⟩
   rfl'
   refine⟨_,Hl.t (k:=kz z) e2 et,?_⟩
   rw[Qk]
   have eg:(if z∈zs.take i then some (V.int (cnt (zs.take i) z))else none).getD (V.int 0)=V.int (if z∈zs.take i then cnt (zs.take i) z else 0):=by split<;>rfl
   rw[eg]
   rfl'
   have tl:=(Ql (zs.take i)).2
   refine⟨S,_,rfl,Ti.t (k:=kz z) e2 et (by rw[List.length_map,sizeLine_eq];rw[List.length_take]at tl;omega),?_⟩
   refine⟨some (.ref t),rfl,fun b o e=>?_,?_⟩
   ·rw[aH (aW e hS)]
    exact s2 b o e
   ·rw[aG,take_snoc hz',aax]
  ·rintro σ H2 ⟨v,rfl,s2,e2⟩
   rw[List.length_map,tz,List.take_length]at e2
   rfl'
   refine⟨S,_,rfl,e2,?_⟩
   rfl'
   obtain⟨tl1,tl2⟩:=Ql zs
   have fl:(aay zs).length=(Ns.tally zs).length:=by rw[tl1];exact List.length_map ..
   refine cJ bY fun R hR=>?_
   rfl'
   have sR:=Same.upd H2 (.lst [V.int (((Ns.tally zs).map tf).length:Nat)]) hR
   have nRS:R≠S:=fun q=>by rw[q,e2]at hR;cases hR
   have nES:E≠S:=fun q=>by rw[q]at eE;rw[eE]at hS;cases hS
   have nER:E≠R:=fun q=>by rw[<-q,s2 _ _ eE]at hR;cases hR
   refine afH ⟨S,.dT ((Ns.tally zs).map tf),by rw[aH nRS.symm];exact e2,True.intro,fun od=>?_⟩
   refine Av (afI ?_)
   rfl'
   refine afJ aG ?_
   have akT:∀b o,H' b=some o->(upd (upd H2 R (.lst [V.int (((Ns.tally zs).map tf).length:Nat)])) S (.nG od (.dT ((Ns.tally zs).map tf)))) b=some o:=fun b o e=>by
     rw[aH (aW e hS)]
     exact sR _ _ (s2 b o e)
   refine aaz (kvs:=(Ns.tally zs).map tf) (fun i σ H3=>∃v:Option V,σ=[some (.ref d),some (.ref E),none,some (.ref S),v,some (.ref R)]/\Same H' H3/\H3 S=some (.nG od (.dT ((Ns.tally zs).map tf)))/\H3 R=some (.lst ((((aay zs).length:Int)::afF ((aay zs).take i)).map V.int))) ⟨_,rfl,akT,aG,?_⟩ ?_ ?_ ?_
   ·rw[aH nRS,aG,List.length_map,fl]
    rfl
   ·rintro i σ H3 ⟨v,rfl,s3,eS3,eR3⟩
    exact eS3
   ·rintro i kk v q σ H3 hkv hq ⟨v0,rfl,s3,eS3,eR3⟩
    rw[List.getElem?_map]at hkv
    obtain⟨⟨z,c⟩,hzc,e⟩:=Option.map_eq_some_iff.mp hkv
    have e1:kz z=kk:=congrArg Prod.fst e
    have e3:V.int c=v:=congrArg Prod.snd e
    subst e1 e3
    obtain⟨j,hj,hzj,hno,hc⟩:=ajn hzc
    have hi:i<(aay zs).length:=by rw[fl];exact(List.getElem?_eq_some_iff.mp hzc).1
    have hfi:(aay zs)[i]?=some (j,(zs.filter fun x=>decide (some x=zs[j]?)).length):=by
      unfold aay
      rw[List.getElem?_map,hj]
      rfl
    rfl'
    refine oN (cY.of eR3) ?_
    rfl'
    refine oN (cY.of (s3 _ _ eE)) ?_
    rfl'
    refine⟨E,ts.map V.ref,.ref q,zs.map N7,N7 z,j,N7 z,rfl,rfl,cY.of (s3 _ _ eE),adi tz (fun m t y h1 h2=>s3 _ _ (pt m t y h1 h2)),adh hq,Yz zs,rfl,aaA z,by rw[List.getElem?_map,hzj];rfl,by rw[YB];exact decide_eq_true rfl,fun m e' hm he'=>?_,?_⟩
    ·rw[List.getElem?_map]at he'
     obtain⟨y,hy,rfl⟩:=Option.map_eq_some_iff.mp he'
     rw[YB]
     exact decide_eq_false (hno m y hm hy)
    ·rfl'
     with_reducible refine akS ?_
     rfl'
     have zin:z∈zs:=List.mem_of_getElem? hzj
     have hcn:c=cnt zs z:=(rO (List.mem_of_getElem? hzc)).1
     refine⟨S,V.int c,rfl,.inr ⟨_,kz z,q,.inr ⟨od,eS3⟩,rfl,hq,?_⟩,?_⟩
     ·rw[Qk,if_pos zin,hcn]
     ·rfl'
      refine cJ bY fun T hT=>?_
      rfl'
      have nRT:R≠T:=aW eR3 hT
      have nST:S≠T:=aW eS3 hT
      refine JK (by rw[aH nRT];exact eR3) aG ?_ ?_
      ·rw[List.length_map,List.length_cons,adg,List.length_take,sizeLine_eq]
       show _+2<=_
       omega
      ·refine⟨_,rfl,fun b o e=>?_,?_,?_⟩
       ·rw[aH (fun w=>by
             rw[w]at e
             exact absurd (s2 _ _ e) (by rw[hR];intro w;cases w)),aH (aW (s3 b o e) hT)]
        exact s3 b o e
       ·rw[aH nRS.symm,aH nST]
        exact eS3
       ·rw[aG,take_snoc hfi]
        unfold afF
        rw[List.flatMap_append,List.map_cons,List.map_cons,List.map_append,hc]
        rfl
   ·rintro σ H3 ⟨v0,rfl,s3,eS3,eR3⟩
    rw[List.length_map,<-fl,List.take_length]at eR3
    refine⟨eS3,?_⟩
    rfl'
    refine k R _ (Gr.same tb fun b o e=>?_) ?_
    ·have e':=s1 b o e
     rw[aH (aW e' hS)]
     exact s3 b o e'
    ·rw[aH nRS]
     exact eR3
end
noncomputable def anF(v:Int)(r:Addr):List (Str×V):=[("value",.int v),("row",.ref r)]
theorem aaB(v:Int)(r:Addr):(anF v r).lookup ("value":Str)=some (.int v):=lk1
theorem afK(v:Int)(r:Addr):(anF v r).lookup ("row":Str)=some (.ref r):=(Vf (by decide+kernel)).trans lk1
structure Hi(CA:Addr)(H:Hp)(a:Addr)(v:Nat)(r:Addr)(ns:List Nat):Prop where
 ins:∃dx,H a=some (.ins CA dx (anF v r))
 row:H r=some (.lst ((Ns.zs ns).map V.int))
theorem Hi.gr{Ts:List Tab}{CA:Addr}{H H':Hp}{a r:Addr}{v:Nat}{ns:List Nat}(h:Hi CA H a v r ns)(tb:dJ Ts H)(g:Gr Ts H H'):Hi CA H' a v r ns:=
 let⟨dx,e⟩:=h.ins
 ⟨⟨dx,g.at tb e True.intro⟩,g.at tb h.row True.intro⟩
section
variable{P:Program}{w:World}{K:W.Frag}{mg:Str->Option Value}{base:Heap}
def WK(CA:Addr):Sp:=fun vs H Q _=>∃(p dx r:Addr)(v:Int),vs=[.ref p,.int v,.ref r]/\H p=some (.ins CA dx [])/\∀H':Hp,H' p=some (.ins CA dx (anF v r))->(∀b o,H b=some o->b≠p->H' b=some o)->Q .non H'
theorem iY(M:Facts K mg):bf P w K mg base cV 1 M.gM.a M.gM.fd ["self","value","row"] (WK M.iB):=by
 refine M.gM.F.ok Bj (fun vs H Q E h=>?_) (fun cdv A outer s H vs Q E hr h=>?_)
 ·obtain⟨p,dx,r,v,rfl,_⟩:=h
  rfl
 ·obtain⟨p,dx,r,v,rfl,hp,k⟩:=h
  refine⟨_,(aj (lY (pv 0) (pv 1) rfl) (ak (lY (pv 0) (pv 2) rfl))),?_⟩
  refine⟨_,rfl,_,rfl,p,M.iB,dx,[],rfl,hp,M.lE,M.iu,(by show 0<1000;decide),_,rfl,_,rfl,p,M.iB,dx,_,rfl,aG,M.lE,M.uK,(by show 1<1000;decide),?_⟩
  refine k _ (Eq.trans aG (congrArg (fun q=>some (HO.ins M.iB dx q)) ?_)) fun b o e hb=>by rw[aH hb,aH hb];exact e
  show o9 "row" (V.ref r) [(("value":Str),V.int v)]=_
  show(if("value":Str)="row" then _ else _)=_
  rw[if_neg (by decide+kernel)]
  rfl
def mkA(CA:Addr)(Q:VK):List V->Hp->Prop:=fun vs H=>∀x dx,H x=none->H dx=none->dx≠x->WK CA (.ref x::(vs++[])) (upd (upd H dx (.own x)) x (.ins CA dx [])) (fun v H2=>v=.non/\Q (.ref x) H2) E0
theorem Mg{CA:Addr}{t:TA}{σ:L2.St}{H:Hp}{Q:VK}(h:t σ H (mkA CA Q)):Ow CA (WK CA) [] E0 t σ H Q:=h
theorem DN{CA r:Addr}{i:Int}{H:Hp}{Q:VK}(v:Nat)(ns:List Nat)(ei:i=(v:Int))(er:H r=some (.lst ((Ns.zs ns).map V.int)))(h:∀a H',Same H H'->Hi CA H' a v r ns->Q (.ref a) H'):mkA CA Q [.int i,.ref r] H:=by
 subst ei
 intro x dx nx nd ne
 refine⟨x,dx,r,(v:Int),rfl,aG,fun H' e k=>⟨rfl,?_⟩⟩
 have s:=Same.made nx nd k
 exact h x H' s ⟨⟨dx,e⟩,s _ _ er⟩
def aaC(C CA:Addr)(c:Nat):Sp:=fun vs H Q _=>∃(p:Addr)(z:Pr),vs=[.ref p]/\aP C H p z/\Sm 900 z/\1<=z.x/\∀a r H',Same H H'->Hi CA H' a (Ns.Jq c z) r (Ns.Jr c z)->Q (.ref a) H'
theorem adk{x:Nat}(h:1<=x):((x:Int)-1).fdiv 2=(((x-1)/2:Nat):Int):=by
 have:=Ns.oK (x-1) 2
 rw[Int.natCast_sub h]at this
 exact this
theorem ahH(x:Nat):((x:Int)+1).fdiv 2=(((x+1)/2:Nat):Int):=by
 have:=Ns.oK (x+1) 2
 push_cast at this
 exact this
theorem ahI(x:Nat):(x:Int).fdiv 2=((x/2:Nat):Int):=Ns.oK x 2
theorem vX(M:Facts K mg):bf P w K mg base cV 3 M.cX.a M.cX.fd ["pair"] (aaC M.aq M.iB 0):=by
 refine M.cX.F.ok oW (fun vs H Q E h=>?_) (fun cdv A outer s H vs Q E hr h=>?_)
 ·obtain⟨p,z,rfl,_⟩:=h
  rfl
 ·obtain⟨p,z,rfl,hp,hz,hx,k⟩:=h
  refine⟨_,(aj (jz 1 oW.nd (aM cP (cF M.aJ M.aX (pv 0)) aC)) (ak (au (Ad M.yM (iY M) hr M.yL (jH M) (dh (aM bh (pv 1) (pv 1)) (aO (nU (aM bh (pv 1) (pv 1)) (pv 1) (aM cP (aM gA (cC M.aJ M.aV (pv 0)) aC) aC)))))))),?_⟩
  rfl'
  refine lJ j6 ?_
  rfl'
  rw[ahI]
  have hB:z.y/2<2^900:=Nat.lt_of_le_of_lt (Nat.div_le_self _ _) hz.2
  refine Mg ?_
  rfl'
  refine lJ j6 ?_
  rfl'
  refine cJ bY fun r hr1=>?_
  rfl'
  refine DN (Ns.Jq 0 z) (Ns.Jr 0 z) (by show _=(((z.y/2)*(z.y/2):Nat):Int);push_cast;rfl) ?_ fun a H' s1 an=>k a r H' ((Same.upd H _ hr1).trans s1) an
  rw[aG,adk hx]
  show _=some (HO.lst ([(((z.y/2)*(z.y/2):Nat):Int),((z.y/2:Nat):Int),(((z.x-1)/2:Nat):Int)].map V.int))
  push_cast
  rfl
theorem adl(M:Facts K mg):bf P w K mg base cV 3 M.vB.a M.vB.fd ["pair"] (aaC M.aq M.iB 1):=by
 refine M.vB.F.ok Uc (fun vs H Q E h=>?_) (fun cdv A outer s H vs Q E hr h=>?_)
 ·obtain⟨p,z,rfl,_⟩:=h
  rfl
 ·obtain⟨p,z,rfl,hp,hz,hx,k⟩:=h
  refine⟨_,(aj (jz 1 Uc.nd (aM cP (cF M.aJ M.aX (pv 0)) aC)) (ak (au (Ad M.yM (iY M) hr M.yL (jH M) (dh (pv 1) (aO (dh (pv 1) (aM cP (aM gA (cC M.aJ M.aV (pv 0)) aC) aC)))))))),?_⟩
  rfl'
  refine lJ j6 ?_
  rfl'
  rw[ahI]
  refine Mg ?_
  rfl'
  refine lJ j6 ?_
  rfl'
  refine cJ bY fun r hr1=>?_
  rfl'
  refine DN (Ns.Jq 1 z) (Ns.Jr 1 z) rfl ?_ fun a H' s1 an=>k a r H' ((Same.upd H _ hr1).trans s1) an
  rw[aG,adk hx]
  rfl
theorem afL(M:Facts K mg):bf P w K mg base cV 3 M.Bl.a M.Bl.fd ["pair"] (aaC M.aq M.iB 2):=by
 refine M.Bl.F.ok Yo (fun vs H Q E h=>?_) (fun cdv A outer s H vs Q E hr h=>?_)
 ·obtain⟨p,z,rfl,_⟩:=h
  rfl
 ·obtain⟨p,z,rfl,hp,hz,hx,k⟩:=h
  refine⟨_,(aj (jz 1 Yo.nd (aM cP (aM gA (cC M.aJ M.aV (pv 0)) aC) aC)) (ak (au (Ad M.yM (iY M) hr M.yL (jH M) (dh (pv 1) (aO (nU (pv 1) (aM dX (pv 1) aC) (cF M.aJ M.aX (pv 0))))))))),?_⟩
  rfl'
  refine lJ j6 ?_
  rfl'
  rw[adk hx]
  refine Mg ?_
  rfl'
  refine cJ bY fun r hr1=>?_
  rfl'
  refine DN (Ns.Jq 2 z) (Ns.Jr 2 z) rfl ?_ fun a H' s1 an=>k a r H' ((Same.upd H _ hr1).trans s1) an
  rw[aG]
  show _=some (HO.lst ([(((z.x-1)/2:Nat):Int),(((z.x-1)/2+1:Nat):Int),(z.y:Int)].map V.int))
  push_cast
  rfl
theorem adn(M:Facts K mg):bf P w K mg base cV 3 M.vC.a M.vC.fd ["pair"] (aaC M.aq M.iB 3):=by
 refine M.vC.F.ok Ud (fun vs H Q E h=>?_) (fun cdv A outer s H vs Q E hr h=>?_)
 ·obtain⟨p,z,rfl,_⟩:=h
  rfl
 ·obtain⟨p,z,rfl,hp,hz,hx,k⟩:=h
  refine⟨_,(aj (jz 1 Ud.nd (aM bh aC (cC M.aJ M.aV (pv 0)))) (ak (au (Ad M.yM (iY M) hr M.yL (jH M) (dh (pv 1) (aO (cU (aM gA (pv 1) aC) (nU (pv 1) (aM dX (pv 1) aC) (aM bh (aM bh aC (cC M.aJ M.aV (pv 0))) (cF M.aJ M.aX (pv 0))))))))))),?_⟩
  rfl'
  refine Mg ?_
  rfl'
  refine cJ bY fun r hr1=>?_
  rfl'
  refine DN (Ns.Jq 3 z) (Ns.Jr 3 z) (by show(2:Int)*(z.x:Int)=((2*z.x:Nat):Int);push_cast;rfl) ?_ fun a H' s1 an=>k a r H' ((Same.upd H _ hr1).trans s1) an
  rw[aG]
  show _=some (HO.lst ([((2*z.x-1:Nat):Int),((2*z.x:Nat):Int),((2*z.x+1:Nat):Int),((3*z.x*z.y:Nat):Int)].map V.int))
  rw[Int.natCast_sub (by omega)]
  push_cast
  rfl
theorem afM(M:Facts K mg):bf P w K mg base cV 3 M.Bm.a M.Bm.fd ["pair"] (aaC M.aq M.iB 4):=by
 refine M.Bm.F.ok Yq (fun vs H Q E h=>?_) (fun cdv A outer s H vs Q E hr h=>?_)
 ·obtain⟨p,z,rfl,_⟩:=h
  rfl
 ·obtain⟨p,z,rfl,hp,hz,hx,k⟩:=h
  refine⟨_,(aj (jz 1 Yq.nd (aM cP (aM dX (cF M.aJ M.aX (pv 0)) aC) aC)) (ak (au (Ad M.yM (iY M) hr M.yL (jH M) (dh (pv 1) (aO (dh (pv 1) (aM cP (aM dX (cC M.aJ M.aV (pv 0)) aC) aC)))))))),?_⟩
  rfl'
  refine lJ j6 ?_
  rfl'
  rw[ahH]
  refine Mg ?_
  rfl'
  refine lJ j6 ?_
  rfl'
  refine cJ bY fun r hr1=>?_
  rfl'
  refine DN (Ns.Jq 4 z) (Ns.Jr 4 z) rfl ?_ fun a H' s1 an=>k a r H' ((Same.upd H _ hr1).trans s1) an
  rw[aG,ahH]
  rfl
end
section
variable{σ:L2.St}{H:Hp}{Q:VK}
theorem uN{K:W.Frag}{td ty:TE}(h:td σ H fun x H1=>ty σ H1 fun y H2=>dgK K Q x y H2):ab2 K td ty σ H Q:=h
theorem zG{K:W.Frag}{ty td:TE}(h:ty σ H fun y H1=>td σ H1 fun x H2=>aeC K Q x y H2):aht K ty td σ H Q:=h
theorem RB{K:W.Frag}{d tp:Addr}{es:List DictEntry}{i:Int}(h:Cw K d es)(l:xR es i=some (.ref tp))(q:Q (.ref tp) H):dgK K Q (.ref d) (.int i) H:=⟨d,es,i,.ref tp,.ref tp,rfl,h,rfl,l,rfl,q⟩
theorem vY{K:W.Frag}{p:Addr}{xs:List V}{i:Int}{v:V}(h:Ov K H p xs)(e:atI xs i=some v)(q:Q v H):aj9 K (.ref p) (.int i) H Q:=⟨p,xs,i,v,rfl,rfl,h,e,q⟩
end
section
variable{P:Program}{w:World}{K:W.Frag}{mg:Str->Option Value}{base:Heap}
structure ajr(P:Program)(w:World)(base:Heap)(M:Facts K mg)(c:Nat)(tp f:Addr)(fd:FuncData):Prop where
 sq:∀H,Ov K H tp [.int (Ns.Oq c:Nat),.int ((Ns.kindS c).x:Nat),.int ((Ns.kindS c).y:Nat),.ref f]
 look:∃es,Cw K M.Ip es/\xR es (c:Int)=some (.ref tp)
 ok:bf P w K mg base cV 4 f fd ["pair"] (aaC M.aq M.iB c)
 bd:Binds K fd ["pair"] []
 kp:W.keepIn K (.ref f)=true
theorem qe{d lo:Nat}{tp:List Addr}{q:Nat}{a:Addr}(D:jD K d lo tp)(h:tp[q]?=some a):∃es,Cw K d es/\xR es ((lo+q:Nat):Int)=some (.ref a):=by
 obtain⟨es,hd,hl⟩:=D
 refine⟨es,hd,?_⟩
 rw[hl,if_pos (by omega),show lo+q-lo=q by omega,h]
 rfl
theorem afN(M:Facts K mg){c:Nat}(hc:c<5):∃tp f fd,ajr P w base M c tp f fd:=by
 match c,hc with
 |0,_=>
  obtain⟨a,h1,h2⟩:=M.ZP
  exact⟨a,_,_,⟨fun H=>h2.sq H,qe M.Du h1,(vX M).mono (by decide),wU M,M.cX.F.kp⟩⟩
 |1,_=>
  obtain⟨a,h1,h2⟩:=M.ZQ
  exact⟨a,_,_,⟨fun H=>h2.sq H,qe M.Du h1,(adl M).mono (by decide),ae7 M,M.vB.F.kp⟩⟩
 |2,_=>
  obtain⟨a,h1,h2⟩:=M.ZR
  exact⟨a,_,_,⟨fun H=>h2.sq H,qe M.Du h1,(afL M).mono (by decide),ai3 M,M.Bl.F.kp⟩⟩
 |3,_=>
  obtain⟨a,h1,h2⟩:=M.ZS
  exact⟨a,_,_,⟨fun H=>h2.sq H,qe M.Du h1,(adn M).mono (by decide),ae8 M,M.vC.F.kp⟩⟩
 |4,_=>
  obtain⟨a,h1,h2⟩:=M.ZV
  exact⟨a,_,_,⟨fun H=>h2.sq H,qe M.Du h1,(afM M).mono (by decide),ai4 M,M.Bm.F.kp⟩⟩
def akU(CA:Addr)(Ts:List Tab):Sp:=fun vs H Q _=>∃c j:Nat,vs=[.int c,.int j]/\c<5/\j<=30/\dJ Ts H/\∀a r H',Gr Ts H H'->Hi CA H' a (Kp283.value c j) r (Kp283.nth c j)->Q (.ref a) H'
theorem cW(M:Facts K mg){Ts:List Tab}(L:bU mg base M Ts):bf P w K mg base cV 12 M.bI.a M.bI.fd ["c","k"] (akU M.iB Ts):=by
 refine M.bI.F.ok jT (fun vs H Q E h=>?_) (fun cdv A outer s H vs Q E hr h=>?_)
 ·obtain⟨c,j,rfl,_⟩:=h
  rfl
 ·obtain⟨c,j,rfl,hc,hj,tb,k⟩:=h
  obtain⟨tp,f,fd,KA⟩:=afN (P:=P) (w:=w) (base:=base) M hc
  obtain⟨es,hd,hl⟩:=KA.look
  have hN:=Ns.QD hc
  have hn:=(Ns.bD.mp hN).2.1
  have hnB:Ns.Oq c<2^64:=aL (b:=6) (by omega) (by decide)
  have ss:Sm 20 (Ns.kindS c):=by
   unfold Ns.kindS
   split
   ·exact⟨by decide,by decide⟩
   ·exact⟨by decide,by decide⟩
  refine⟨_,(aj (jz 2 jT.nd (nJ (iZ rfl M.aeW (v:=.ref M.Ip) rfl) (pv 0) (fun _ _=>rfl))) (aj (jz 3 jT.nd (iz xG (pv 2) aC (fun _ _=>rfl))) (aj (jz 4 jT.nd (iz xG (pv 2) aC (fun _ _=>rfl))) (ak (au (uV 4 rfl (by first|exact Or.inl rfl|exact Or.inr (Or.inl rfl)) (bO (bQ M.iU (lF M) hr (nM M) (nU (pv 3) (Ad M.fZ (aY M) hr M.fY (aZ M) (dh (iz xG (pv 2) aC (fun _ _=>rfl)) (iz xG (pv 2) aC (fun _ _=>rfl)))) (bQ M.jX (pP M) hr (rN M) (nU (pv 3) (bQ M.eU (lG M L) hr (mY M) (bO (pv 3))) (pv 1)))))))))))),?_⟩
  rfl'
  refine uN ?_
  rfl'
  refine RB hd hl ?_
  rfl'
  refine vY (KA.sq _) (gq (j:=0) rfl) ?_
  rfl'
  refine vY (KA.sq _) (gq (j:=3) rfl) ?_
  rfl'
  refine⟨f,_,rfl,⟨⟨4,fd,_,KA.ok,hr.mono (by decide),KA.bd⟩,KA.kp⟩,?_⟩
  rfl'
  refine vY (KA.sq _) (gq (j:=1) rfl) ?_
  rfl'
  refine vY (KA.sq _) (gq (j:=2) rfl) ?_
  rfl'
  refine cG (Ns.kindS c) rfl rfl fun p1 H1 s1 n1 q1=>?_
  have g1:=Gr.same tb s1
  rfl'
  refine⟨_,rfl,hN,g1.1,fun r2 H2 g2 p2=>?_⟩
  rfl'
  refine⟨_,r2,_,j,20,rfl,p2,gb hN,hn,by omega,by decide,fun r3 H3 s3 p3=>?_⟩
  rfl'
  have q3:=(q1.gr g1.1 g2).same s3
  refine⟨_,p1,r3,_,_,rfl,q3,p3,ss.mono (by decide),(vU hN j).mono (by omega),hnB,fun r4 H4 s4 _ p4=>?_⟩
  rfl'
  refine⟨r4,_,rfl,p4,(uU hn ss (vU hN j)).mono (by omega),Ns.Y4 hc j,fun a r H5 s5 an=>?_⟩
  have g2':=g1.trans g2
  refine k a r H5 (g2'.trans (Gr.same g2'.1 ((s3.trans s4).trans s5))) ?_
  rw[<-Ns.aa6 hc,<-Ns.aa7 hc]
  exact an
theorem Gd{CA a:Addr}{H:Hp}{Q:VK}{v:Nat}{r:Addr}{ns:List Nat}(h:Hi CA H a v r ns)(q:Q (.int v) H):fdC CA "value" Q (.ref a) H:=let⟨_,e⟩:=h.ins;Ay e (aaB _ _) q
theorem ado{CA a:Addr}{H:Hp}{Q:VK}{v:Nat}{r:Addr}{ns:List Nat}(h:Hi CA H a v r ns)(q:Q (.ref r) H):fdC CA "row" Q (.ref a) H:=let⟨_,e⟩:=h.ins;Ay e (afK _ _) q
def ajs(Ts:List Tab):Sp:=fun vs H Q _=>∃c b j:Nat,vs=[.int c,.int b]/\c<5/\j<=20/\Ns.d9 (Kp283.value c) 1 b j/\dJ Ts H/\∀H',Gr Ts H H'->Q (.int j) H'
theorem mQ(M:Facts K mg){Ts:List Tab}(L:bU mg base M Ts):bf P w K mg base cV 13 M.eY.a M.eY.fd ["c","b"] (ajs Ts):=by
 refine M.eY.F.ok sJ (fun vs H Q E h=>?_) (fun cdv A outer s H vs Q E hr h=>?_)
 ·obtain⟨c,b,j,rfl,_⟩:=h
  rfl
 ·obtain⟨c,b,j,rfl,hc,hj,hf,tb,k⟩:=h
  refine⟨_,(aj (jz 2 sJ.nd aC) (aj (qj PassesOwn.never (iM oM (aK M.lE M.iu (bQ M.bI (cW M L) hr (dF M) (dh (pv 0) (pv 2)))) (pv 1)) (ak (jz 2 sJ.nd (aM dX (pv 2) aC)))) (ak (au (pv 2))))),?_⟩
  rfl'
  refine vq (fun σ H'=>∃i:Nat,σ=[some (.int c),some (.int b),some (.int i)]/\1<=i/\i<=j/\Gr Ts H H') (fun σ _=>match σ with|[_,_,some (.int i)]=>j-i.toNat|_=>0) ⟨1,rfl,Nat.le_refl _,hf.ge,Gr.refl tb⟩ ?_
  rintro σ H' ⟨i,rfl,h1,hij,g1⟩
  rfl'
  refine⟨c,i,rfl,hc,by omega,g1.1,fun a r H2 g2 an=>?_⟩
  rfl'
  refine Gd an ?_
  rfl'
  by_cases q:i<j
  ·have lt:=hf.lt i h1 q
   rw[decide_eq_true (by omega:((Kp283.value c i:Nat):Int)<(b:Int))]
   refine VN ?_
   rfl'
   refine⟨⟨i+1,?_,by omega,q,g1.trans g2⟩,?_⟩
   ·show [some (V.int c),some (V.int b),some (V.int ((i:Int)+1))]=_
    push_cast
    rfl
   ·show j-((i:Int)+1).toNat<j-(i:Int).toNat
    omega
  ·have e:i=j:=by omega
   subst e
   have ge:=hf.le
   rw[decide_eq_false (by omega:¬((Kp283.value c i:Nat):Int)<(b:Int))]
   refine Tr ?_
   rfl'
   exact k H2 (g1.trans g2)
def anJ(Ts:List Tab):Sp:=fun vs H Q _=>∃c v:Nat,vs=[.int c,.int v]/\c<5/\v<=1000000000/\dJ Ts H/\∀H',Gr Ts H H'->Q (.bl (Kp283.isOf c v)) H'
theorem vZ(M:Facts K mg){Ts:List Tab}(L:bU mg base M Ts):bf P w K mg base cV 14 M.kE.a M.kE.fd ["c","v"] (anJ Ts):=by
 refine M.kE.F.ok Rm (fun vs H Q E h=>?_) (fun cdv A outer s H vs Q E hr h=>?_)
 ·obtain⟨c,v,rfl,_⟩:=h
  rfl
 ·obtain⟨c,v,rfl,hc,hv,tb,k⟩:=h
  obtain⟨j,hj,hf⟩:=Ns.first_value hc (b:=v) (by omega)
  refine⟨_,(ak (au (qX lA (aK M.lE M.iu (bQ M.bI (cW M L) hr (dF M) (dh (pv 0) (bQ M.eY (mQ M L) hr (nO M) (dh (pv 0) (pv 1)))))) (pv 1) (rZ _)))),?_⟩
  rfl'
  refine⟨c,v,j,rfl,hc,hj,hf,tb,fun H1 g1=>?_⟩
  rfl'
  refine⟨c,j,rfl,hc,by omega,g1.1,fun a r H2 g2 an=>?_⟩
  rfl'
  refine Gd an ?_
  rfl'
  have e:decide (((Kp283.value c j:Nat):Int)=(v:Int))=Kp283.isOf c v:=by
   rw[Ns.Xh hc (by omega) hf,decide_eq_decide]
   omega
  rw[e]
  exact k H2 (g1.trans g2)
def akV(Ts:List Tab):Sp:=fun vs H Q _=>∃c b j:Nat,vs=[.int c,.int b]/\c<5/\j<=20/\Ns.d9 (Kp283.value c) 1 (b+1) j/\dJ Ts H/\∀l H',Gr Ts H H'->H' l=some (.lst ((Ns.zs ((List.range' 1 (j-1)).map (Kp283.value c))).map V.int))->Q (.ref l) H'
theorem dJ.put{Ts:List Tab}{H:Hp}(tb:dJ Ts H){D:Addr}{xs ys:List V}(e:H D=some (.lst xs)):dJ Ts (upd H D (.lst ys)):=fun t ht=>by
 rcases tb t ht with h|⟨d,h,g⟩
 ·exact .inl (by rw[aH (fun z=>by rw[z,e]at h;cases h)];exact h)
 ·exact .inr ⟨d,by rw[aH (fun z=>by rw[z,e]at h;cases h)];exact h,by rw[aH (fun z=>by rw[z,e]at g;cases g)];exact g⟩
theorem Gr.put{Ts:List Tab}{H H1:Hp}(g:Gr Ts H H1){D:Addr}{xs ys:List V}(e:H1 D=some (.lst xs))(n:H D=Option.none):Gr Ts H (upd H1 D (.lst ys)):=⟨g.1.put e,fun b o eb nb=>by
 rw[aH (aW eb n)]
 exact g.2 b o eb nb⟩
theorem vd(M:Facts K mg){Ts:List Tab}(L:bU mg base M Ts):bf P w K mg base cV 14 M.gZ.a M.gZ.fd ["c","b"] (akV Ts):=by
 refine M.gZ.F.ok pH (fun vs H Q E h=>?_) (fun cdv A outer s H vs Q E hr h=>?_)
 ·obtain⟨c,b,j,rfl,_⟩:=h
  rfl
 ·obtain⟨c,b,j,rfl,hc,hj,hf,tb,k⟩:=h
  refine⟨_,(ak (au (Td rfl pH.nd (uQ rfl M.rB (dh aC (bQ M.eY (mQ M L) hr (nO M) (dh (pv 0) (aM dX (pv 1) aC))))) (blk (N:=["c","b","k"]) (sc:=ao qP) (own:=[("k",2)]) ⟨rfl,by decide+kernel,by decide+kernel,by decide+kernel,by decide+kernel⟩) (fun _ _ _ _ _=>(fG (i:=2) pH.nd rfl (Or.inl rfl))) (fun _ _ _ _ _=>zq) (fun _ _ _ _ _=>(aK M.lE M.iu (bQ M.bI (cW M L) hr (dF M) (dh (pv 0) (pv 2)))))))),?_⟩
  rfl'
  refine wz (Cv ?_)
  rfl'
  refine⟨c,b+1,j,by show [V.int c,V.int ((b:Int)+1)]=_;push_cast;rfl,hc,hj,hf,tb,fun H1 g1=>?_⟩
  rfl'
  refine xQ ⟨by omega,by omega,by omega,by omega⟩ ?_
  have Lz:((j:Int)-1).toNat=j-1:=by omega
  rw[Lz]
  refine sE (fun E i acc H'=>Gr Ts H1 H'/\H1 E=none/\acc=(Ns.zs ((List.range' 1 i).map (Kp283.value c))).map V.int) ?_ ?_ ?_ ?_
  ·intro v
   rfl
  ·intro E hE
   exact⟨Gr.same g1.1 (Same.upd H1 _ hE),hE,rfl⟩
  ·rintro E i acc H' hi hl eE ⟨g2,hE,rfl⟩
   have e1:(1:Int)+(i:Int)=((1+i:Nat):Int):=by push_cast;rfl
   rw[e1]
   refine Ek (bJ ?_)
   rfl'
   refine⟨c,1+i,rfl,hc,by omega,g2.1,fun a r H3 g3 an=>?_⟩
   have eE3:=g3.at g2.1 eE True.intro
   rfl'
   refine Gd an ?_
   refine qL (by omega) hl eE3 ⟨(g2.trans g3).put eE3 hE,hE,?_⟩
   have er:List.range' 1 (i+1)=List.range' 1 i++[1+i]:=by rw[List.range'_concat];simp
   rw[er]
   unfold Ns.zs
   rw[List.map_append,List.map_append,List.map_append]
   rfl
  ·rintro E acc H' hl eE ⟨g2,hE,rfl⟩
   exact k E H' (g1.trans g2) eE
theorem aaD(M:Facts K mg){Ts:List Tab}(L:bU mg base M Ts):bf P w K mg base cV 13 M.qF.a M.qF.fd ["desk","c","k"] (gY M.aq M.aA Ts fun D c j=>(Kp284Neutral.step (some D) [[62,(c:Nat),(j:Nat)]]).2):=by
 exists M.qF.F,ZK,Ns.agW,(aj (bC (PW.pt (fQ (iM cZ (pv 1) (fD M.kI)) (fQ (iM oM (pv 2) aC) (dW (iM cZ (pv 2) (fD M.z9)))))) (ak (au (aO (bO (fD M.aN))))) aU) (ak (au (aM Ar (aO (bO aC)) (aK M.lE M.uK (bQ M.bI (cW M L) hr (dF M) (dh (pv 1) (pv 2)))))))),c,hc,j,hj
 refine cO (fun q=>?_) (fun q=>?_)
 ·have q:5<=c:=by have:=of_decide_eq_true q;omega
  refine bJ ?_
  rw[if_pos q]at k
  rfl'
  exact aQ tb rfl rfl k
 ·have q:¬5<=c:=fun z=>q (decide_eq_true (by omega))
  rw[if_neg q]at k
  rfl'
  refine cO (fun q1=>?_) (fun q1=>?_)
  ·have q1:j<1:=by have:=of_decide_eq_true q1;omega
   refine bJ ?_
   rw[if_pos (Or.inl (by omega))]at k
   rfl'
   exact aQ tb rfl rfl k
  ·have q1:¬j<1:=fun z=>q1 (decide_eq_true (by omega))
   rfl'
   refine cO (fun q2=>?_) (fun q2=>?_)
   ·have q2:12<j:=by have:=of_decide_eq_true q2;omega
    rw[if_pos (Or.inr q2)]at k
    rfl'
    exact aQ tb rfl rfl k
   ·have q2:¬12<j:=fun z=>q2 (decide_eq_true (by omega))
    rw[if_neg (by omega)]at k
    rfl'
    refine cJ bY fun l0 hl0=>?_
    have g0:=Gr.same tb (Same.upd H (.lst [.int 0]) hl0)
    rfl'
    refine⟨c,j,rfl,by omega,by omega,g0.1,fun a r H2 g2 an=>?_⟩
    have e0:=g2.at g0.1 aG True.intro
    rfl'
    refine ado an ?_
    refine Az e0 an.row ?_ fun p hp=>?_
    ·have hlen:(Kp283.nth c j).length<=4:=by
      match c,(show c<5 by omega)with
      |0,_=>show 3<=4;decide
      |1,_=>show 2<=4;decide
      |2,_=>show 3<=4;decide
      |3,_=>show 4<=4;decide
      |4,_=>show 2<=4;decide
     rw[List.length_map,sizeLine_eq]
     unfold Ns.zs
     rw[List.length_map]
     show 1+_<=_
     omega
    ·have g02:=g0.trans g2
     refine k p _ (g02.trans (Gr.same g02.1 (Same.upd H2 _ hp))) ?_
     rw[aG]
     rfl
theorem afO{c j:Nat}(hc:c<5):(Kp283.nth c j).length<=4:=by
 match c,hc with
 |0,_=>show 3<=4;decide
 |1,_=>show 2<=4;decide
 |2,_=>show 3<=4;decide
 |3,_=>show 4<=4;decide
 |4,_=>show 2<=4;decide
end
section
variable{P:Program}{w:World}{K:W.Frag}{mg:Str->Option Value}{base:Heap}
theorem U4(M:Facts K mg){Ts:List Tab}(L:bU mg base M Ts):bf P w K mg base cV 15 M.mL.a M.mL.fd ["desk","c","v"] (gY M.aq M.aA Ts fun D c v=>(Kp284Neutral.step (some D) [[63,(c:Nat),(v:Nat)]]).2):=by
 exists M.mL.F,Ug,Ns.agX,(aj (bC (PW.pt (fQ (iM cZ (pv 1) (fD M.kI)) (dW (iM cZ (pv 2) (fD M.j4))))) (ak (au (aO (bO (fD M.aN))))) aU) (ak (au (aO (bO (rW (dU (bQ M.kE (vZ M L) hr (yV M) (dh (pv 1) (pv 2)))) aC aC)))))),c,hc,v,hv
 refine cO (fun q=>?_) (fun q=>?_)
 ·have q:5<=c:=by have:=of_decide_eq_true q;omega
  refine bJ ?_
  rw[if_pos q]at k
  rfl'
  exact aQ tb rfl rfl k
 ·have q:¬5<=c:=fun z=>q (decide_eq_true (by omega))
  rw[if_neg q]at k
  have hc':c<5:=by omega
  generalize hM:(1000000000:Nat)=T at k
  generalize Uz:(1000000000:Int)=T2
  have hTT:T2=(T:Int):=by rw[<-hM,<-Uz];rfl
  rfl'
  refine cO (fun q1=>?_) (fun q1=>?_)
  ·have q1:T<v:=by have:=of_decide_eq_true q1;omega
   rw[if_pos q1]at k
   rfl'
   exact aQ tb rfl rfl k
  ·have q1:¬T<v:=fun z=>q1 (decide_eq_true (by omega))
   rw[if_neg q1]at k
   rfl'
   refine⟨c,v,rfl,hc',by omega,tb,fun H1 g1=>?_⟩
   rfl'
   cases hk:Kp283.isOf c v with
   |true=>
    rw[hk,if_pos rfl]at k
    refine bJ ?_
    rfl'
    exact bN g1 rfl rfl k
   |false=>
    rw[hk,if_neg (by decide)]at k
    refine cR ?_
    rfl'
    exact bN g1 rfl rfl k
theorem HY(M:Facts K mg){Ts:List Tab}(L:bU mg base M Ts):bf P w K mg base cV 15 M.gH.a M.gH.fd ["desk","c","v"] (gY M.aq M.aA Ts fun D c v=>(Kp284Neutral.step (some D) [[64,(c:Nat),(v:Nat)]]).2):=by
 exists M.gH.F,Hu,Ns.agY,(aj (bC (PW.pt (fQ (iM cZ (pv 1) (fD M.kI)) (dW (iM cZ (pv 2) (fD M.j4))))) (ak (au (aO (bO (fD M.aN))))) aU) (aj (bC (nQ (dU (bQ M.kE (vZ M L) hr (yV M) (dh (pv 1) (pv 2))))) (ak (au (aO (bO (fD M.dZ))))) aU) (ak (au (aO (bO (bQ M.eY (mQ M L) hr (nO M) (dh (pv 1) (pv 2))))))))),c,hc,v,hv
 refine cO (fun q=>?_) (fun q=>?_)
 ·have q:5<=c:=by have:=of_decide_eq_true q;omega
  refine bJ ?_
  rw[if_pos q]at k
  rfl'
  exact aQ tb rfl rfl k
 ·have q:¬5<=c:=fun z=>q (decide_eq_true (by omega))
  rw[if_neg q]at k
  have hc':c<5:=by omega
  generalize hM:(1000000000:Nat)=T at k
  generalize Uz:(1000000000:Int)=T2
  have hTT:T2=(T:Int):=by rw[<-hM,<-Uz];rfl
  rfl'
  refine cO (fun q1=>?_) (fun q1=>?_)
  ·have q1:T<v:=by have:=of_decide_eq_true q1;omega
   rw[if_pos q1]at k
   rfl'
   exact aQ tb rfl rfl k
  ·have q1:¬T<v:=fun z=>q1 (decide_eq_true (by omega))
   rw[if_neg q1]at k
   rfl'
   obtain⟨j,hj,hf⟩:=Ns.first_value hc' (b:=v) (by omega)
   have hnum:Kp283.number c v=if Kp283.value c j=v then some j else none:=Ns.vo hc' hf 40 1 (Nat.le_refl _) hf.ge (by omega)
   rw[hnum]at k
   refine⟨c,v,rfl,hc',by omega,tb,fun H1 g1=>?_⟩
   rfl'
   have he:=Ns.Xh hc' (by omega) hf
   cases hk:Kp283.isOf c v with
   |false=>
    have ne:¬Kp283.value c j=v:=fun z=>by rw[he,decide_eq_true z]at hk;cases hk
    rw[if_neg ne]at k
    refine bJ ?_
    rfl'
    exact bN g1 rfl rfl k
   |true=>
    have eq:Kp283.value c j=v:=by
      rw[he]at hk
      exact of_decide_eq_true hk
    rw[if_pos eq]at k
    refine cR ?_
    rfl'
    refine⟨c,v,j,rfl,hc',hj,hf,g1.1,fun H2 g2=>?_⟩
    have g12:=g1.trans g2
    rfl'
    exact bN g12 rfl rfl k
theorem Mh(M:Facts K mg){Ts:List Tab}(L:bU mg base M Ts):bf P w K mg base cV 14 M.iI.a M.iI.fd ["desk","c","b"] (gY M.aq M.aA Ts fun D c b=>(Kp284Neutral.step (some D) [[65,(c:Nat),(b:Nat)]]).2):=by
 exists M.iI.F,yp,Ns.agZ,(aj (bC (PW.pt (fQ (iM cZ (pv 1) (fD M.kI)) (dW (iM cZ (pv 2) (fD M.j4))))) (ak (au (aO (bO (fD M.aN))))) aU) (aj (jz 3 yp.nd (bQ M.eY (mQ M L) hr (nO M) (dh (pv 1) (pv 2)))) (ak (au (aO (dh (pv 3) (aK M.lE M.iu (bQ M.bI (cW M L) hr (dF M) (dh (pv 1) (pv 3)))))))))),c,hc,b,hb
 refine cO (fun q=>?_) (fun q=>?_)
 ·have q:5<=c:=by have:=of_decide_eq_true q;omega
  refine bJ ?_
  rw[if_pos q]at k
  rfl'
  exact aQ tb rfl rfl k
 ·have q:¬5<=c:=fun z=>q (decide_eq_true (by omega))
  rw[if_neg q]at k
  have hc':c<5:=by omega
  generalize hM:(1000000000:Nat)=T at k
  generalize Uz:(1000000000:Int)=T2
  have hTT:T2=(T:Int):=by rw[<-hM,<-Uz];rfl
  rfl'
  refine cO (fun q1=>?_) (fun q1=>?_)
  ·have q1:T<b:=by have:=of_decide_eq_true q1;omega
   rw[if_pos q1]at k
   rfl'
   exact aQ tb rfl rfl k
  ·have q1:¬T<b:=fun z=>q1 (decide_eq_true (by omega))
   rw[if_neg q1]at k
   rfl'
   obtain⟨j,hj,hf⟩:=Ns.first_value hc' (b:=b) (by omega)
   rw[Ns.Gn hc' hf 40 1 (Nat.le_refl _) hf.ge (by omega)]at k
   refine⟨c,b,j,rfl,hc',hj,hf,tb,fun H1 g1=>?_⟩
   rfl'
   refine⟨c,j,rfl,hc',by omega,g1.1,fun a r H2 g2 an=>?_⟩
   rfl'
   refine Gd an ?_
   rfl'
   exact bN (g1.trans g2) rfl rfl k
theorem Mi(M:Facts K mg){Ts:List Tab}(L:bU mg base M Ts):bf P w K mg base cV 15 M.iJ.a M.iJ.fd ["desk","c","b"] (gY M.aq M.aA Ts fun D c b=>(Kp284Neutral.step (some D) [[66,(c:Nat),(b:Nat)]]).2):=by
 exists M.iJ.F,J8,Ns.ag0,(aj (bC (PW.pt (fQ (iM cZ (pv 1) (fD M.kI)) (dW (iM cZ (pv 2) (fD M.j4))))) (ak (au (aO (bO (fD M.aN))))) aU) (ak (au (aO (bO (bK bH rfl M.lR (by decide+kernel) (bO (bQ M.gZ (vd M L) hr (wI M) (dh (pv 1) (pv 2)))))))))),c,hc,b,hb
 refine cO (fun q=>?_) (fun q=>?_)
 ·have q:5<=c:=by have:=of_decide_eq_true q;omega
  refine bJ ?_
  rw[if_pos q]at k
  rfl'
  exact aQ tb rfl rfl k
 ·have q:¬5<=c:=fun z=>q (decide_eq_true (by omega))
  rw[if_neg q]at k
  have hc':c<5:=by omega
  generalize hM:(1000000000:Nat)=T at k
  generalize Uz:(1000000000:Int)=T2
  have hTT:T2=(T:Int):=by rw[<-hM,<-Uz];rfl
  rfl'
  refine cO (fun q1=>?_) (fun q1=>?_)
  ·have q1:T<b:=by have:=of_decide_eq_true q1;omega
   rw[if_pos q1]at k
   rfl'
   exact aQ tb rfl rfl k
  ·have q1:¬T<b:=fun z=>q1 (decide_eq_true (by omega))
   rw[if_neg q1]at k
   rfl'
   obtain⟨j,hj,hf⟩:=Ns.first_value hc' (b:=b+1) (by omega)
   rw[Ns.Vo hc' hf (by omega)]at k
   refine⟨c,b,j,rfl,hc',hj,hf,tb,fun l H1 g1 el=>?_⟩
   refine⟨_,_,rfl,.inl (cY.of el),?_⟩
   rfl'
   refine bN g1 ?_ rfl k
   rw[List.length_map]
   unfold Ns.zs
   rw[List.length_map,List.length_map,List.length_range']
   rfl
theorem Mj(M:Facts K mg){Ts:List Tab}(L:bU mg base M Ts):bf P w K mg base cV 15 M.iK.a M.iK.fd ["desk","c","b"] (gY M.aq M.aA Ts fun D c b=>(Kp284Neutral.step (some D) [[67,(c:Nat),(b:Nat)]]).2):=by
 exists M.iK.F,yq,Ns.ag1,(aj (bC (PW.pt (fQ (iM cZ (pv 1) (fD M.kI)) (dW (iM cZ (pv 2) (fD M.Dk))))) (ak (au (aO (bO (fD M.aN))))) aU) (aj (jz 3 yq.nd (bQ M.gZ (vd M L) hr (wI M) (dh (pv 1) (pv 2)))) (ak (au (aM Ar (aO (bO (bK bH rfl M.lR (by decide+kernel) (bO (pv 3))))) (pv 3)))))),c,hc,b,hb
 refine cO (fun q=>?_) (fun q=>?_)
 ·have q:5<=c:=by have:=of_decide_eq_true q;omega
  refine bJ ?_
  rw[if_pos q]at k
  rfl'
  exact aQ tb rfl rfl k
 ·have q:¬5<=c:=fun z=>q (decide_eq_true (by omega))
  rw[if_neg q]at k
  have hc':c<5:=by omega
  generalize hM:(2000:Nat)=T at k
  generalize Uz:(2000:Int)=T2
  have hTT:T2=(T:Int):=by rw[<-hM,<-Uz];rfl
  rfl'
  refine cO (fun q1=>?_) (fun q1=>?_)
  ·have q1:T<b:=by have:=of_decide_eq_true q1;omega
   rw[if_pos q1]at k
   rfl'
   exact aQ tb rfl rfl k
  ·have q1:¬T<b:=fun z=>q1 (decide_eq_true (by omega))
   rw[if_neg q1]at k
   rfl'
   obtain⟨j,hj,hf⟩:=Ns.first_value hc' (b:=b+1) (by omega)
   rw[Ns.YZ hc' (by omega) hf]at k
   refine⟨c,b,j,rfl,hc',hj,hf,tb,fun l H1 g1 el=>?_⟩
   generalize hns:(List.range' 1 (j-1)).map (Kp283.value c)=ns at*
   have hlen:ns.length<=20:=by
    rw[<-hns,List.length_map,List.length_range']
    omega
   have hlen2:((Ns.zs ns).map V.int).length=ns.length:=by
    unfold Ns.zs
    rw[List.length_map,List.length_map]
   rfl'
   refine⟨_,_,rfl,.inl (cY.of el),?_⟩
   rfl'
   refine cJ bY fun q hq=>?_
   rfl'
   have hlq:l≠q:=aW el hq
   refine Az aG (by rw[aH hlq];exact el) ?_ fun r hr1=>?_
   ·rw[hlen2,sizeLine_eq]
    show 1+_<=_
    omega
   ·refine k r _ (g1.trans (Gr.same g1.1 ((Same.upd H1 _ hq).trans (Same.upd _ _ hr1)))) ?_
    rw[aG,hlen2]
    rfl
theorem afP(M:Facts K mg){c:Nat}(hc:c<5):∃tp,(∀H,Ov K H tp [.int (Ns.aa8 c),.int (Ns.ag4 c)])/\∃es,Cw K M.Dv es/\xR es (c:Int)=some (.ref tp):=by
 match c,hc with
 |0,_=>
  obtain⟨a,h1,h2⟩:=M.ZW
  exact⟨a,fun H=>h2.sq H,qe M.Dy h1⟩
 |1,_=>
  obtain⟨a,h1,h2⟩:=M.ZX
  exact⟨a,fun H=>h2.sq H,qe M.Dy h1⟩
 |2,_=>
  obtain⟨a,h1,h2⟩:=M.Z0
  exact⟨a,fun H=>h2.sq H,qe M.Dy h1⟩
 |3,_=>
  obtain⟨a,h1,h2⟩:=M.Z1
  exact⟨a,fun H=>h2.sq H,qe M.Dy h1⟩
 |4,_=>
  obtain⟨a,h1,h2⟩:=M.Z2
  exact⟨a,fun H=>h2.sq H,qe M.Dy h1⟩
def akW(Ts:List Tab):Sp:=fun vs H Q _=>∃c j:Nat,vs=[.int c,.int j]/\c<5/\3<=j/\j<=12/\dJ Ts H/\∀H',Gr Ts H H'->Q (.int (Kp283.ruleOf c j)) H'
theorem adp{c j:Nat}(hc:c<5)(hj:j<=12):Bd 2000 ((Kp283.value c j:Nat):Int):=by
 have h1:Kp283.value c j<=Kp283.value c 20:=Nat.le_of_lt (Ns.Jj hc (by omega))
 have h2:Kp283.value c 20<2^200:=by
  match c,hc with
  |0,_=>decide+kernel
  |1,_=>decide+kernel
  |2,_=>decide+kernel
  |3,_=>decide+kernel
  |4,_=>decide+kernel
 exact Bd.nat (aL (Nat.lt_of_le_of_lt h1 h2) (by decide))
theorem adq{c:Nat}(hc:c<5):Bd 64 (Ns.aa8 c):=by
 match c,hc with
 |0,_=>exact cH (by decide)
 |1,_=>exact cH (by decide)
 |2,_=>exact cH (by decide)
 |3,_=>exact cH (by decide)
 |4,_=>exact cH (by decide)
theorem DP(M:Facts K mg){Ts:List Tab}(L:bU mg base M Ts):bf P w K mg base cV 13 M.iQ.a M.iQ.fd ["c","k"] (akW Ts):=by
 refine M.iQ.F.ok oX (fun vs H Q E h=>?_) (fun cdv A outer s H vs Q E hr h=>?_)
 ·obtain⟨c,j,rfl,_⟩:=h
  rfl
 ·obtain⟨c,j,rfl,hc,h3,h12,tb,k⟩:=h
  obtain⟨tp,sq,es,hd,hl⟩:=afP M hc
  have b1:=adp (j:=j-1) hc (by omega)
  have b2:=adq hc
  refine⟨_,(aj (jz 2 oX.nd (aK M.lE M.iu (bQ M.bI (cW M L) hr (dF M) (dh (pv 0) (aM gA (pv 1) aC))))) (aj (jz 3 oX.nd (aK M.lE M.iu (bQ M.bI (cW M L) hr (dF M) (dh (pv 0) (aM gA (pv 1) aC))))) (ak (au (aM dX (aM gA (aM bh (iz xG (nJ (iZ rfl M.Yu (v:=.ref M.Dv) rfl) (pv 0) (fun _ _=>rfl)) aC (fun _ _=>rfl)) (pv 2)) (pv 3)) (iz xG (nJ (iZ rfl M.Yu (v:=.ref M.Dv) rfl) (pv 0) (fun _ _=>rfl)) aC (fun _ _=>rfl))))))),?_⟩
  rfl'
  refine⟨c,j-1,by show [V.int c,V.int ((j:Int)-1)]=[V.int c,V.int ((j-1:Nat):Int)];rw[show(j:Int)-1=((j-1:Nat):Int) by omega],hc,by omega,tb,fun a1 r1 H1 g1 an1=>?_⟩
  rfl'
  refine Gd an1 ?_
  rfl'
  refine⟨c,j-2,by show [V.int c,V.int ((j:Int)-2)]=[V.int c,V.int ((j-2:Nat):Int)];rw[show(j:Int)-2=((j-2:Nat):Int) by omega],hc,by omega,g1.1,fun a2 r2 H2 g2 an2=>?_⟩
  rfl'
  refine Gd an2 ?_
  rfl'
  refine uN ?_
  rfl'
  refine RB hd hl ?_
  rfl'
  refine vY (sq _) (gq (j:=0) rfl) ?_
  rfl'
  refine uN ?_
  rfl'
  refine RB hd hl ?_
  rfl'
  refine vY (sq _) (gq (j:=1) rfl) ?_
  rfl'
  rw[Ns.ad2 hc]
  exact k H2 (g1.trans g2)
theorem N8(M:Facts K mg){Ts:List Tab}(L:bU mg base M Ts):bf P w K mg base cV 14 M.jG.a M.jG.fd ["desk","c","k"] (gY M.aq M.aA Ts fun D c j=>(Kp284Neutral.step (some D) [[68,(c:Nat),(j:Nat)]]).2):=by
 exists M.jG.F,MP,Ns.ag2,(aj (bC (PW.pt (fQ (iM cZ (pv 1) (fD M.kI)) (fQ (iM oM (pv 2) (fD M.HD)) (dW (iM cZ (pv 2) (fD M.z9)))))) (ak (au (aO (bO (fD M.aN))))) aU) (ak (au (aO (dh aC (bQ M.iQ (DP M L) hr (FQ M) (dh (pv 1) (pv 2)))))))),c,hc,j,hj
 refine cO (fun q=>?_) (fun q=>?_)
 ·have q:5<=c:=by have:=of_decide_eq_true q;omega
  refine bJ ?_
  rw[if_pos q]at k
  rfl'
  exact aQ tb rfl rfl k
 ·have q:¬5<=c:=fun z=>q (decide_eq_true (by omega))
  rw[if_neg q]at k
  rfl'
  refine cO (fun q1=>?_) (fun q1=>?_)
  ·have q1:j<3:=by have:=of_decide_eq_true q1;omega
   refine bJ ?_
   rw[if_pos (Or.inl q1)]at k
   rfl'
   exact aQ tb rfl rfl k
  ·have q1:¬j<3:=fun z=>q1 (decide_eq_true (by omega))
   rfl'
   refine cO (fun q2=>?_) (fun q2=>?_)
   ·have q2:12<j:=by have:=of_decide_eq_true q2;omega
    rw[if_pos (Or.inr q2)]at k
    rfl'
    exact aQ tb rfl rfl k
   ·have q2:¬12<j:=fun z=>q2 (decide_eq_true (by omega))
    rw[if_neg (by omega)]at k
    rfl'
    refine⟨c,j,rfl,by omega,by omega,by omega,tb,fun H1 g1=>?_⟩
    rfl'
    exact bN g1 rfl rfl k
theorem U5(M:Facts K mg){Ts:List Tab}(L:bU mg base M Ts):bf P w K mg base cV 15 M.mO.a M.mO.fd ["desk","c","v"] (gY M.aq M.aA Ts fun D c v=>(Kp284Neutral.step (some D) [[69,(c:Nat),(v:Nat)]]).2):=by
 exists M.mO.F,GX,Ns.ag3,(aj (bC (PW.pt (fQ (iM cZ (pv 1) (fD M.kI)) (dW (iM cZ (pv 2) (fD M.j4))))) (ak (au (aO (bO (fD M.aN))))) aU) (aj (bC (nQ (dU (bQ M.kE (vZ M L) hr (yV M) (dh (pv 1) (pv 2))))) (ak (au (aO (bO (fD M.dZ))))) aU) (aj (jz 3 GX.nd (bQ M.eY (mQ M L) hr (nO M) (dh (pv 1) (pv 2)))) (ak (au (aM Ar (aO (bO (pv 3))) (aK M.lE M.uK (bQ M.bI (cW M L) hr (dF M) (dh (pv 1) (pv 3)))))))))),c,hc,v,hv
 refine cO (fun q=>?_) (fun q=>?_)
 ·have q:5<=c:=by have:=of_decide_eq_true q;omega
  refine bJ ?_
  rw[if_pos q]at k
  rfl'
  exact aQ tb rfl rfl k
 ·have q:¬5<=c:=fun z=>q (decide_eq_true (by omega))
  rw[if_neg q]at k
  have hc':c<5:=by omega
  generalize hM:(1000000000:Nat)=T at k
  generalize Uz:(1000000000:Int)=T2
  have hTT:T2=(T:Int):=by rw[<-hM,<-Uz];rfl
  rfl'
  refine cO (fun q1=>?_) (fun q1=>?_)
  ·have q1:T<v:=by have:=of_decide_eq_true q1;omega
   rw[if_pos q1]at k
   rfl'
   exact aQ tb rfl rfl k
  ·have q1:¬T<v:=fun z=>q1 (decide_eq_true (by omega))
   rw[if_neg q1]at k
   rfl'
   obtain⟨j,hj,hf⟩:=Ns.first_value hc' (b:=v) (by omega)
   have hnum:Kp283.number c v=if Kp283.value c j=v then some j else none:=Ns.vo hc' hf 40 1 (Nat.le_refl _) hf.ge (by omega)
   rw[hnum]at k
   refine⟨c,v,rfl,hc',by omega,tb,fun H1 g1=>?_⟩
   rfl'
   have he:=Ns.Xh hc' (by omega) hf
   cases hk:Kp283.isOf c v with
   |false=>
    have ne:¬Kp283.value c j=v:=fun z=>by rw[he,decide_eq_true z]at hk;cases hk
    rw[if_neg ne]at k
    refine bJ ?_
    rfl'
    exact bN g1 rfl rfl k
   |true=>
    have eq:Kp283.value c j=v:=by
      rw[he]at hk
      exact of_decide_eq_true hk
    rw[if_pos eq]at k
    refine cR ?_
    rfl'
    refine⟨c,v,j,rfl,hc',hj,hf,g1.1,fun H2 g2=>?_⟩
    have g12:=g1.trans g2
    rfl'
    refine cJ bY fun l0 hl0=>?_
    have g0:=g12.trans (Gr.same g12.1 (Same.upd H2 (.lst [.int (j:Nat)]) hl0))
    rfl'
    refine⟨c,j,rfl,hc',by omega,g0.1,fun a r H3 g3 an=>?_⟩
    have e0:=g3.at g0.1 aG True.intro
    rfl'
    refine ado an ?_
    refine Az e0 an.row ?_ fun p hp=>?_
    ·have hlen:=afO (j:=j) hc'
     rw[List.length_map,sizeLine_eq]
     unfold Ns.zs
     rw[List.length_map]
     show 1+_<=_
     omega
    ·have g03:=g0.trans g3
     refine k p _ (g03.trans (Gr.same g03.1 (Same.upd H3 _ hp))) ?_
     rw[aG]
     rfl
end
theorem DQ{f:Str}{v u:V}{r:List (Str×V)}:o9 f v ((f,u)::r)=(f,v)::r:=by
 show(if f=f then _ else _)=_
 rw[if_pos rfl]
theorem gO{f g:Str}{v u:V}{r:List (Str×V)}(h:¬g=f):o9 f v ((g,u)::r)=(g,u)::o9 f v r:=by
 show(if g=f then _ else _)=_
 rw[if_neg h]
section
variable(n o h k e v:V)
theorem anK:o9 "n" v (pq n o h k e)=pq v o h k e:=DQ
theorem ajt:o9 "one" v (pq n o h k e)=pq n v h k e:=(gO (by decide+kernel)).trans (congrArg _ DQ)
theorem RD:o9 "hand" v (pq n o h k e)=pq n o v k e:=(gO (by decide+kernel)).trans (congrArg _ ((gO (by decide+kernel)).trans (congrArg _ DQ)))
theorem afQ:o9 "kept" v (pq n o h k e)=pq n o h v e:=(gO (by decide+kernel)).trans (congrArg _ ((gO (by decide+kernel)).trans (congrArg _ ((gO (by decide+kernel)).trans (congrArg _ DQ)))))
theorem YC:o9 "earlier" v (pq n o h k e)=pq n o h k v:=(gO (by decide+kernel)).trans (congrArg _ ((gO (by decide+kernel)).trans (congrArg _ ((gO (by decide+kernel)).trans (congrArg _ ((gO (by decide+kernel)).trans (congrArg _ DQ)))))))
end
def sfC(K:W.Frag)(f:Str)(D:Ends)(σ:L2.St)(y:V):VK:=fun x H2=>∃a C dx fs,x=.ref a/\H2 a=some (.ins C dx fs)/\Cls K C/\jU K C f/\fs.length<1000/\D.nx σ (upd H2 a (.ins C dx (o9 f y fs)))
section
variable{K:W.Frag}{σ:L2.St}{H:Hp}{D:Ends}
theorem m5{ta tv:TE}{f:Str}(h:tv σ H fun y H1=>ta σ H1 (sfC K f D σ y)):aj5 K ta tv f D σ H:=h
theorem pR{C p dx:Addr}{f:Str}{fs fs':List (Str×V)}{y:V}(c:Cls K C)(na:jU K C f)(e:H p=some (.ins C dx fs))(hl:fs.length<1000)(ef:o9 f y fs=fs')(h:D.nx σ (upd H p (.ins C dx fs'))):sfC K f D σ y (.ref p) H:=by
 subst ef
 exact⟨p,C,dx,fs,rfl,e,c,na,hl,h⟩
end
def Plain:HO->Prop
 |.Ot _=>False
 |.ext _=>False
 |_=>True
theorem dJ.upd{Ts:List Tab}{H:Hp}(tb:dJ Ts H){a:Addr}{o o':HO}(e:H a=some o)(n:Plain o):dJ Ts (upd H a o'):=fun t ht=>by
 rcases tb t ht with h|⟨d,h,g⟩
 ·exact .inl (by rw[aH (fun z=>by rw[z,e]at h;cases h;exact n)];exact h)
 ·exact .inr ⟨d,by rw[aH (fun z=>by rw[z,e]at h;cases h;exact n)];exact h,by rw[aH (fun z=>by rw[z,e]at g;cases g;exact n)];exact g⟩
theorem Fr.refl{Ts:List Tab}{O:List Addr}{H:Hp}(tb:dJ Ts H):Fr Ts O H H:=⟨tb,fun _ _ e _ _=>e⟩
theorem Fr.put{Ts:List Tab}{O:List Addr}{H H1:Hp}(f:Fr Ts O H H1){a:Addr}{o o':HO}(e:H1 a=some o)(n:Plain o)(m:a∈O\/H a=none):Fr Ts O H (upd H1 a o'):=
 ⟨f.1.upd e n,fun b q eb nb nt=>by
   rw[aH (fun z=>by
    subst z
    rcases m with m|m
    ·exact nb m
    ·rw[m]at eb;cases eb)]
   exact f.2 b q eb nb nt⟩
theorem Fr.new{Ts:List Tab}{O:List Addr}{H H1:Hp}(f:Fr Ts O H H1){a:Addr}{o':HO}(e:H1 a=none):Fr Ts O H (upd H1 a o'):=f.then (Gr.same f.1 (Same.upd H1 _ e))
theorem Fr.mono{Ts:List Tab}{O O':List Addr}{H H1:Hp}(f:Fr Ts O H H1)(h:∀a∈O,a∈O'):Fr Ts O' H H1:=⟨f.1,fun b o e n t=>f.2 b o e (fun z=>n (h b z)) t⟩
section
variable{P:Program}{w:World}{K:W.Frag}{mg:Str->Option Value}{base:Heap}
def afR(CD:Addr):Sp:=fun vs H Q _=>∃(p dx:Addr),vs=[.ref p]/\H p=some (.ins CD dx [])/\∀(H':Hp)(lk le:Addr),H' p=some (.ins CD dx (pq .non .non .non (.ref lk) (.ref le)))->H' lk=some (.lst [])->H' le=some (.lst [])->lk≠le->H lk=none->H le=none->(∀b o,H b=some o->b≠p->H' b=some o)->Q .non H'
theorem Ge(M:Facts K mg):bf P w K mg base cV 1 M.jw.a M.jw.fd ["self"] (afR M.aA):=by
 refine M.jw.F.ok En (fun vs H Q E h=>?_) (fun cdv A outer s H vs Q E hr h=>?_)
 ·obtain⟨p,dx,rfl,_⟩:=h
  rfl
 ·obtain⟨p,dx,rfl,hp,k⟩:=h
  refine⟨_,(aj (lY (pv 0) rT rfl) (aj (lY (pv 0) rT rfl) (aj (lY (pv 0) rT rfl) (aj (lY (pv 0) (aO lZ) rfl) (ak (lY (pv 0) (aO lZ) rfl)))))),?_⟩
  with_reducible refine dj ?_
  with_reducible refine m5 ?_
  rfl'
  refine pR M.aB M.aR hp (by decide) rfl ?_
  with_reducible refine dj ?_
  with_reducible refine m5 ?_
  rfl'
  refine pR M.aB M.bT aG (by decide) (gO (by decide+kernel)) ?_
  with_reducible refine dj ?_
  with_reducible refine m5 ?_
  rfl'
  refine pR M.aB M.bx aG (by decide) ((gO (by decide+kernel)).trans (congrArg _ (gO (by decide+kernel)))) ?_
  with_reducible refine dj ?_
  with_reducible refine m5 ?_
  rfl'
  rw[Xj,Xj]
  refine cJ (Nat.zero_le _) fun lk hlk=>?_
  have nlk:lk≠p:=fun z=>by rw[z,aG]at hlk;cases hlk
  rw[aH nlk]at hlk
  rfl'
  refine pR M.aB M.bR (by rw[aH nlk.symm];exact aG) (by decide) ((gO (by decide+kernel)).trans (congrArg _ ((gO (by decide+kernel)).trans (congrArg _ (gO (by decide+kernel)))))) ?_
  with_reducible refine m5 ?_
  rfl'
  refine cJ (Nat.zero_le _) fun le hle=>?_
  have U6:le≠p:=fun z=>by rw[z,aG]at hle;cases hle
  rw[aH U6]at hle
  have nkl:lk≠le:=fun z=>by rw[<-z,aG]at hle;cases hle
  rw[aH nkl.symm,aH U6]at hle
  rfl'
  refine pR M.aB M.fC (by rw[aH U6.symm];exact aG) (by show 4<1000;decide) ((gO (by decide+kernel)).trans (congrArg _ ((gO (by decide+kernel)).trans (congrArg _ ((gO (by decide+kernel)).trans (congrArg _ (gO (by decide+kernel)))))))) ?_
  refine k _ lk le aG ?_ ?_ nkl hlk hle fun b o e nb=>?_
  ·rw[aH nlk,aH nkl,aH nlk,aG]
  ·rw[aH U6,aG]
  ·rw[aH nb,aH (aW e hle),aH nb,aH (aW e hlk),aH nb]
   exact e
theorem aP.put{C CD d dx:Addr}{H:Hp}{fs fs':List (Str×V)}{a:Addr}{z:Pr}(p:aP C H a z)(e:H d=some (.ins CD dx fs))(hl:fs.length=5):aP C (upd H d (.ins CD dx fs')) a z:=by
 obtain⟨dy,q⟩:=p
 refine⟨dy,?_⟩
 rw[aH (fun z=>?_)]
 ·exact q
 ·rw[z,e]at q
  cases q
  cases hl
def adu(C CD:Addr)(Ts:List Tab):Sp:=fun vs H Q _=>∃(d dx:Addr)(v1 v2 v3 v4 v5:V)(n:Nat),vs=[.ref d,.int n]/\H d=some (.ins CD dx (pq v1 v2 v3 v4 v5))/\Kp279.okN n=true/\dJ Ts H/\
 ∀H' lk le,nR C CD H' d ⟨n,⟨1,0⟩,[],[]⟩ lk le->H lk=none->H le=none->Fr Ts [d] H H'->Q .non H'
theorem Oa(M:Facts K mg){Ts:List Tab}(L:bU mg base M Ts):bf P w K mg base cV 9 M.mX.a M.mX.fd ["self","n"] (adu M.aq M.aA Ts):=by
 refine M.mX.F.ok M4 (fun vs H Q E h=>?_) (fun cdv A outer s H vs Q E hr h=>?_)
 ·obtain⟨d,dx,v1,v2,v3,v4,v5,n,rfl,_⟩:=h
  rfl
 ·obtain⟨d,dx,v1,v2,v3,v4,v5,n,rfl,hd,hN,tb,k⟩:=h
  refine⟨_,(aj (lY (pv 0) (pv 1) rfl) (aj (lY (pv 0) (bQ M.eU (lG M L) hr (mY M) (bO (pv 1))) rfl) (aj (lY (pv 0) (Ad M.fZ (aY M) hr M.fY (aZ M) (dh aC aC)) rfl) (aj (lY (pv 0) (aO lZ) rfl) (ak (lY (pv 0) (aO lZ) rfl)))))),?_⟩
  with_reducible refine dj ?_
  with_reducible refine m5 ?_
  rfl'
  refine pR M.aB M.aR hd (by show 5<1000;decide) (anK ..) ?_
  have f1:Fr Ts [d] H (upd H d (.ins M.aA dx (pq (.int n) v2 v3 v4 v5))):=(Fr.refl tb).put hd True.intro (.inl (List.mem_singleton.mpr rfl))
  with_reducible refine dj ?_
  with_reducible refine m5 ?_
  rfl'
  refine⟨n,rfl,hN,f1.1,fun po H2 g2 p2=>?_⟩
  have d2:=g2.at f1.1 aG True.intro
  have f2:=f1.then g2
  rfl'
  refine pR M.aB M.bT d2 (by show 5<1000;decide) (ajt ..) ?_
  have f3:=f2.put (o':=.ins M.aA dx (pq (.int n) (.ref po) v3 v4 v5)) d2 True.intro (.inl (List.mem_singleton.mpr rfl))
  have p3:=p2.put (fs':=pq (.int n) (.ref po) v3 v4 v5) d2 rfl
  with_reducible refine dj ?_
  with_reducible refine m5 ?_
  rfl'
  refine cG ⟨1,0⟩ rfl rfl fun ph H4 s4 n4 q4=>?_
  have d4:=s4 _ _ aG
  have f4:=f3.then (Gr.same f3.1 s4)
  have p4:=p3.same s4
  rfl'
  refine pR M.aB M.bx d4 (by show 5<1000;decide) (RD ..) ?_
  have f5:=f4.put (o':=.ins M.aA dx (pq (.int n) (.ref po) (.ref ph) v4 v5)) d4 True.intro (.inl (List.mem_singleton.mpr rfl))
  have p5:=p4.put (fs':=pq (.int n) (.ref po) (.ref ph) v4 v5) d4 rfl
  have q5:=q4.put (fs':=pq (.int n) (.ref po) (.ref ph) v4 v5) d4 rfl
  with_reducible refine dj ?_
  with_reducible refine m5 ?_
  rfl'
  refine cJ (Nat.zero_le _) fun lk hlk=>?_
  have s6:=Same.upd _ (.lst []) hlk
  have d6:=s6 _ _ (aG (a:=d))
  have f6:=f5.then (Gr.same f5.1 s6)
  have p6:=p5.same s6
  have q6:=q5.same s6
  rfl'
  refine pR M.aB M.bR d6 (by show 5<1000;decide) (afQ ..) ?_
  have nlk:lk≠d:=fun z=>by rw[z,aG]at hlk;cases hlk
  have f7:=f6.put (o':=.ins M.aA dx (pq (.int n) (.ref po) (.ref ph) (.ref lk) v5)) d6 True.intro (.inl (List.mem_singleton.mpr rfl))
  have p7:=p6.put (fs':=pq (.int n) (.ref po) (.ref ph) (.ref lk) v5) d6 rfl
  have q7:=q6.put (fs':=pq (.int n) (.ref po) (.ref ph) (.ref lk) v5) d6 rfl
  have k7:upd (upd (upd H4 d (.ins M.aA dx (pq (.int n) (.ref po) (.ref ph) v4 v5))) lk (.lst [])) d (.ins M.aA dx (pq (.int n) (.ref po) (.ref ph) (.ref lk) v5)) lk=some (.lst []):=by rw[aH nlk,aG]
  generalize hH7:upd (upd (upd H4 d (.ins M.aA dx (pq (.int n) (.ref po) (.ref ph) v4 v5))) lk (.lst [])) d (.ins M.aA dx (pq (.int n) (.ref po) (.ref ph) (.ref lk) v5))=H7 at*
  have d7:H7 d=some (.ins M.aA dx (pq (.int n) (.ref po) (.ref ph) (.ref lk) v5)):=by rw[<-hH7];exact aG
  with_reducible refine m5 ?_
  rfl'
  refine cJ (Nat.zero_le _) fun le hle=>?_
  have s8:=Same.upd _ (.lst []) hle
  have d8:=s8 _ _ d7
  have f8:=f7.then (Gr.same f7.1 s8)
  have p8:=p7.same s8
  have q8:=q7.same s8
  have k8:=s8 _ _ k7
  rfl'
  refine pR M.aB M.fC d8 (by show 5<1000;decide) (YC ..) ?_
  have U6:le≠d:=fun z=>by rw[z,d7]at hle;cases hle
  have nkl:lk≠le:=fun z=>by rw[<-z,k7]at hle;cases hle
  have hfree:∀a,H4 a=none->H a=none:=fun a ha=>by
   cases q:H a with
   |none=>rfl
   |some o=>
    exfalso
    by_cases e:a=d
    ·subst e
     rw[d4]at ha
     cases ha
    ·by_cases nt:∀t∈Ts,a≠t.P
     ·rw[f4.2 a o q (fun z=>e (List.mem_singleton.mp z)) nt]at ha
      cases ha
     ·have⟨t,ht,z⟩:∃t∈Ts,a=t.P:=Classical.byContradiction fun w=>nt fun t ht z=>w ⟨t,ht,z⟩
      subst z
      rcases f4.1 t ht with y|⟨_,y,_⟩<;>rw[y]at ha<;>cases ha
  refine k _ lk le ⟨dx,po,ph,[],[],aG,p8.put d8 rfl,q8.put d8 rfl,?_,.nil,?_,.nil,nkl,Wf.start hN⟩ ?_ ?_ (f8.put d8 True.intro (.inl (List.mem_singleton.mpr rfl)))
  ·rw[aH nlk]
   exact k8
  ·rw[aH U6,aG]
   rfl
  ·rw[aH nlk]at hlk
   exact hfree lk hlk
  ·have:H7 le=none:=hle
   rw[<-hH7,aH U6,aH nkl.symm,aH U6]at this
   exact hfree le this
end
def MvK(C CD:Addr)(Ts:List Tab)(H:Hp)(d lk le:Addr)(res:Kp284.State×List Int)(Q:VK):Prop:=∀l H' D' lk' le',res.1=some D'->nR C CD H' d D' lk' le'->(lk'=lk\/H lk'=none)->(le'=le\/H le'=none)->Fr Ts [d,lk,le] H H'->H' l=some (.lst (res.2.map V.int))->Q (.ref l) H'
theorem MvK.same{C CD:Addr}{Ts:List Tab}{H H':Hp}{d lk le l:Addr}{D:Kp284.Desk}{ns:List Int}{Q:VK}(k:MvK C CD Ts H d lk le (some D,ns) Q)(hD:nR C CD H d D lk le)(tb:dJ Ts H)(g:Gr Ts H H')(e:H' l=some (.lst (ns.map V.int))):Q (.ref l) H':=
 k l H' D lk le rfl (hD.gr tb g) (.inl rfl) (.inl rfl) g.fr e
theorem MvK.told{C CD:Addr}{Ts:List Tab}{H H1:Hp}{d lk le:Addr}{D:Kp284.Desk}{ns:List Int}{xs:List V}{Q:VK}(k:MvK C CD Ts H d lk le (some D,ns) Q)(hD:nR C CD H d D lk le)(tb:dJ Ts H)(g:Gr Ts H H1)(e:xs=ns.map V.int)(hl:Nat.ble ns.length 1000=true):ab4 Q xs H1:=
 bN g e hl fun l H' g' e'=>k.same hD tb g' e'
theorem MvK.gr{C CD:Addr}{Ts:List Tab}{H H1:Hp}{d lk le:Addr}{res:Kp284.State×List Int}{Q:VK}(k:MvK C CD Ts H d lk le res Q)(tb:dJ Ts H)(g:Gr Ts H H1):MvK C CD Ts H1 d lk le res Q:=
 fun l H' D' lk' le' e1 e2 e3 e4 e5 e6=>k l H' D' lk' le' e1 e2 (e3.imp id fun z=>g.none tb z) (e4.imp id fun z=>g.none tb z) (g.then e5) e6
section
variable(C CD:Addr)(Ts:List Tab)
def Qm(f:Kp284.Desk->Kp284.State×List Int):Sp:=fun vs H Q _=>∃(d lk le dx po ph:Addr)(D:Kp284.Desk)(ks es:List Addr),vs=[.ref d]/\gW C CD H d D lk le dx po ph ks es/\dJ Ts H/\MvK C CD Ts H d lk le (f D) Q
def Qn(f:Kp284.Desk->Nat->Kp284.State×List Int):Sp:=fun vs H Q _=>∃(d lk le dx po ph:Addr)(D:Kp284.Desk)(ks es:List Addr)(a:Nat),vs=[.ref d,.int a]/\a<2^32/\gW C CD H d D lk le dx po ph ks es/\dJ Ts H/\MvK C CD Ts H d lk le (f D a) Q
def ahJ(f:Kp284.Desk->Nat->Nat->Kp284.State×List Int):Sp:=fun vs H Q _=>∃(d lk le dx po ph:Addr)(D:Kp284.Desk)(ks es:List Addr)(a b:Nat),vs=[.ref d,.int a,.int b]/\a<2^32/\b<2^32/\gW C CD H d D lk le dx po ph ks es/\dJ Ts H/\MvK C CD Ts H d lk le (f D a b) Q
end
theorem gW.at_{C CD:Addr}{H:Hp}{d lk le dx po ph:Addr}{D:Kp284.Desk}{ks es:List Addr}(h:gW C CD H d D lk le dx po ph ks es):nR C CD H d D lk le:=⟨dx,po,ph,ks,es,h⟩
theorem aP.lst{C D:Addr}{H:Hp}{xs ys:List V}{a:Addr}{z:Pr}(p:aP C H a z)(e:H D=some (.lst xs)):aP C (upd H D (.lst ys)) a z:=Rw e p
def slD(r:V->Option Int->Option Int->Hp->VK->Prop)(tl th:TO)(σ:L2.St)(Q:VK):VK:=fun x H1=>tl σ H1 fun l H2=>th σ H2 fun u H3=>r x l u H3 Q
theorem Ml{r:V->Option Int->Option Int->Hp->VK->Prop}{te:TE}{tl th:TO}{σ:L2.St}{H:Hp}{Q:VK}(h:te σ H (slD r tl th σ Q)):tSl r te tl th σ H Q:=h
theorem akX(xs:List V):Mw xs (some (-12)) none=xs.drop (xs.length-12):=by
 have e:HT.RP xs.length 0 (some (-12))=xs.length-12:=by
  show(if(-12:Int)<0 then((-12:Int)+(xs.length:Int)).toNat else min (-12:Int).toNat xs.length)=_
  rw[if_pos (by decide)]
  omega
 unfold Mw
 rw[e,HT.abA]
 exact List.take_of_length_le (by rw[List.length_drop];exact Nat.le_refl _)
theorem WL{r:V->Option Int->Option Int->Hp->VK->Prop}{tl th:TO}{σ:L2.St}{H:Hp}{Q:VK}{x:V}(h:tl σ H fun l H2=>th σ H2 fun u H3=>r x l u H3 Q):slD r tl th σ Q x H:=h
theorem DR{t:TE}{σ:L2.St}{H:Hp}{Q:Option Int->Hp->Prop}(h:t σ H fun x H1=>∃i,x=.int i/\Q (some i) H1):ahh t σ H Q:=h
theorem aaG{σ:L2.St}{H:Hp}{Q:Option Int->Hp->Prop}(h:Q none H):Xq σ H Q:=h
theorem WM{K:W.Frag}{H:Hp}{Q:VK}{a:Addr}{xs:List V}{lo hi:Option Int}(e:cY K H a xs)(h:∀p,H p=none->Q (.ref p) (upd H p (.lst (Mw xs lo hi)))):akb K (.ref a) lo hi H Q:=⟨a,xs,rfl,e,h⟩
def akY(K:W.Frag)(T:String)(r:V->List V->Hp->VK->Prop)(Q:VK):VK:=fun x H1=>tyV K T x H1/\r x [] H1 Q
theorem aju{K:W.Frag}{T:String}{r:V->List V->Hp->VK->Prop}{to:TE}{σ:L2.St}{H:Hp}{Q:VK}(h:to σ H (akY K T r Q)):akd K T r to σ H Q:=h
theorem afS{K:W.Frag}{r:V->List V->Hp->VK->Prop}{H:Hp}{Q:VK}{l:Addr}{xs:List V}(e:cY K H l xs)(h:r (.ref l) [] H Q):akY K "list" r Q (.ref l) H:=⟨.inl ⟨rfl,_,e⟩,h⟩
theorem afT{d lk le:Addr}:d∈[d,lk,le]:=List.mem_cons_self ..
theorem akZ{d lk le:Addr}:lk∈[d,lk,le]:=List.mem_cons_of_mem _ (List.mem_cons_self ..)
theorem ak0{d lk le:Addr}:le∈[d,lk,le]:=List.mem_cons_of_mem _ (List.mem_cons_of_mem _ (List.mem_cons_self ..))
section
variable{P:Program}{w:World}{K:W.Frag}{mg:Str->Option Value}{base:Heap}
def anL(C CD:Addr)(Ts:List Tab):Sp:=fun vs H Q _=>∃(d lk le dx po ph:Addr)(D:Kp284.Desk)(ks es:List Addr)(p:Addr)(z:Pr),vs=[.ref d,.ref p]/\gW C CD H d D lk le dx po ph ks es/\aP C H p z/\Kp284.ok z=true/\dJ Ts H/\
 ∀H' le',nR C CD H' d (Kp284.to D z) lk le'->H le'=none->Fr Ts [d,lk,le] H H'->Q .non H'
theorem Gf(M:Facts K mg)(Ts:List Tab):bf P w K mg base cV 1 M.jY.a M.jY.fd ["self","pair"] (anL M.aq M.aA Ts):=by
 refine M.jY.F.ok Hv (fun vs H Q E h=>?_) (fun cdv A outer s H vs Q E hr h=>?_)
 ·obtain⟨d,lk,le,dx,po,ph,D,ks,es,p,z,rfl,_⟩:=h
  rfl
 ·obtain⟨d,lk,le,dx,po,ph,D,ks,es,p,z,rfl,hD,hp,hz,tb,k⟩:=h
  have hI:=hD.ins
  have hbl:=hD.wf.bl
  have hel:es.length=D.before.length:=by rw[hD.zN.1,List.length_reverse]
  refine⟨_,(aj (nP (zM PySem.F.plainAttrs_list PySem.F.slot_list_append PySem.F.type_list_append uR (aK M.aB M.fC (pv 0)) (bO (aK M.aB M.bx (pv 0))))) (aj (lY (pv 0) (S6 Xu (aK M.aB M.fC (pv 0)) (QT (ql lX (fD M.Dm))) aee) rfl) (ak (lY (pv 0) (pv 1) rfl)))),?_⟩
  rfl'
  refine oN (cY.of hD.xT) ?_
  rfl'
  refine Ax hD.xT (by rw[List.length_map,sizeLine_eq];omega) ?_
  have U6:d≠le:=Js hI hD.xT (by intro z;cases z)
  have e1:(upd H le (.lst (es.map V.ref++[V.ref ph]))) le=some (.lst ((es++[ph]).map V.ref)):=by rw[aG,List.map_append];rfl
  have d1:(upd H le (.lst (es.map V.ref++[V.ref ph]))) d=some (.ins M.aA dx (pq (.int D.n) (.ref po) (.ref ph) (.ref lk) (.ref le))):=by rw[aH U6];exact hI
  have k1:(upd H le (.lst (es.map V.ref++[V.ref ph]))) lk=some (.lst (ks.map V.ref)):=by rw[aH hD.ne];exact hD.kept
  have up1:∀a z,aP M.aq H a z->aP M.aq (upd H le (.lst (es.map V.ref++[V.ref ph]))) a z:=fun a z q=>q.lst hD.xT
  have f1:Fr Ts [d,lk,le] H (upd H le (.lst (es.map V.ref++[V.ref ph]))):=(Fr.refl tb).put hD.xT True.intro (.inl ak0)
  have fr1:∀a,(upd H le (.lst (es.map V.ref++[V.ref ph]))) a=none->H a=none:=fun a ha=>by
   by_cases q:a=le
   ·subst q
    rw[aG]at ha
    cases ha
   ·rw[aH q]at ha
    exact ha
  generalize upd H le (.lst (es.map V.ref++[V.ref ph]))=H1 at*
  with_reducible refine dj ?_
  with_reducible refine m5 ?_
  with_reducible refine Ml ?_
  rfl'
  refine WL ?_
  with_reducible refine DR ?_
  rfl'
  with_reducible refine aaG ?_
  refine WM (cY.of e1) fun le2 aaH=>?_
  rw[akX]
  have s2:=Same.upd H1 (.lst (((es++[ph]).map V.ref).drop (((es++[ph]).map V.ref).length-12))) aaH
  have e2:(upd H1 le2 (.lst (((es++[ph]).map V.ref).drop (((es++[ph]).map V.ref).length-12)))) le2=some (.lst (((es++[ph]).drop ((es++[ph]).length-12)).map V.ref)):=by rw[aG,List.length_map,List.map_drop]
  have f2:=f1.then (Gr.same f1.1 s2)
  generalize upd H1 le2 (.lst (((es++[ph]).map V.ref).drop (((es++[ph]).map V.ref).length-12)))=H2 at*
  have d2:=s2 _ _ d1
  rfl'
  refine pR M.aB M.fC d2 (by show 5<1000;decide) (YC ..) ?_
  have f3:=f2.put (o':=.ins M.aA dx (pq (.int D.n) (.ref po) (.ref ph) (.ref lk) (.ref le2))) d2 True.intro (.inl afT)
  with_reducible refine m5 ?_
  rfl'
  refine pR M.aB M.bx aG (by show 5<1000;decide) (RD ..) ?_
  have f4:=f3.put (o':=.ins M.aA dx (pq (.int D.n) (.ref po) (.ref p) (.ref lk) (.ref le2))) aG True.intro (.inl afT)
  have up:∀a z,aP M.aq H a z->aP M.aq (upd (upd H2 d (.ins M.aA dx (pq (.int D.n) (.ref po) (.ref ph) (.ref lk) (.ref le2)))) d (.ins M.aA dx (pq (.int D.n) (.ref po) (.ref p) (.ref lk) (.ref le2)))) a z:=fun a z q=>((((up1 a z q).same s2).put d2 rfl).put aG rfl)
  have nlk:lk≠d:=(Js hI hD.kept (by intro z;cases z)).symm
  have nl2:le2≠d:=fun q=>by rw[q,d1]at aaH;cases aaH
  have nkl:lk≠le2:=fun q=>by rw[<-q,k1]at aaH;cases aaH
  refine k _ le2 ⟨dx,po,p,ks,(es++[ph]).drop ((es++[ph]).length-12),aG,up _ _ hD.one,up _ _ hp,?_,hD.jE.imp up,?_,?_,nkl,hD.wf.to hz⟩ (fr1 le2 aaH) f4
  ·rw[aH nlk,aH nlk]
   exact s2 _ _ k1
  ·rw[aH nl2,aH nl2]
   exact e2
  ·have q:=((hD.zN.snoc hD.hand).imp up).drop ((es++[ph]).length-12)
   have el:(es++[ph]).length=(D.before.reverse++[D.a]).length:=by rw[List.length_append,List.length_append,hel,List.length_reverse];rfl
   have et:(Kp284.to D z).before.reverse=(D.before.reverse++[D.a]).drop ((es++[ph]).length-12):=by
    have h1:=Ns.Qv (D.before.reverse++[D.a]) 12
    rw[List.reverse_append,List.reverse_reverse]at h1
    have h2:(Kp284.to D z).before=((D.before.reverse++[D.a]).drop ((D.before.reverse++[D.a]).length-12)).reverse:=h1.symm
    rw[h2,List.reverse_reverse,el]
   rw[et]
   exact q
def ajv(C CD:Addr)(Ts:List Tab):Sp:=fun vs H Q _=>∃(d lk le dx po ph:Addr)(D:Kp284.Desk)(ks es:List Addr)(b:Pr)(r:List Pr),vs=[.ref d]/\gW C CD H d D lk le dx po ph ks es/\D.before=b::r/\dJ Ts H/\
 ∀H',nR C CD H' d { D with a:=b,before:=r } lk le->Fr Ts [d,lk,le] H H'->Q .non H'
theorem Bx(M:Facts K mg)(Ts:List Tab):bf P w K mg base cV 1 M.iR.a M.iR.fd ["self"] (ajv M.aq M.aA Ts):=by
 refine M.iR.F.ok CZ (fun vs H Q E h=>?_) (fun cdv A outer s H vs Q E hr h=>?_)
 ·obtain⟨d,lk,le,dx,po,ph,D,ks,es,b,r,rfl,_⟩:=h
  rfl
 ·obtain⟨d,lk,le,dx,po,ph,D,ks,es,b,r,rfl,hD,hb,tb,k⟩:=h
  have hI:=hD.ins
  have hE:=hD.zN
  rw[hb,List.reverse_cons]at hE
  obtain⟨es',e0,rfl⟩:∃es' e0,es=es'++[e0]:=by
   rcases Ns.snoc_cases es with z|z
   ·subst z
    have:=hE.1
    simp at this
   ·exact z
  have hlen:es'.length=r.reverse.length:=by
   have:=hE.1
   simpa using this
  have pe:aP M.aq H e0 b:=hE.2 es'.length e0 b (by simp) (by rw[hlen];simp)
  have pes:cA M.aq H es' r.reverse:=by
   have q:=hE.take es'.length
   rw[List.take_left']at q
   ·rw[hlen,List.take_left']at q
    ·exact q
    ·rfl
   ·rfl
  refine⟨_,(ak (lY (pv 0) (aib PySem.F.plainAttrs_list PySem.F.slot_list_pop PySem.F.type_list_pop aic (aK M.aB M.fC (pv 0))) rfl)),?_⟩
  with_reducible refine m5 ?_
  with_reducible refine aju ?_
  rfl'
  refine afS (cY.of hD.xT) ?_
  refine⟨le,_,.ref e0,rfl,rfl,hD.xT,by rw[List.map_append];simp,?_⟩
  have U6:d≠le:=Js hI hD.xT (by intro z;cases z)
  have d1:(upd H le (.lst ((es'++[e0]).map V.ref).dropLast)) d=some (.ins M.aA dx (pq (.int D.n) (.ref po) (.ref ph) (.ref lk) (.ref le))):=by rw[aH U6];exact hI
  have f1:Fr Ts [d,lk,le] H (upd H le (.lst ((es'++[e0]).map V.ref).dropLast)):=(Fr.refl tb).put hD.xT True.intro (.inl ak0)
  rfl'
  refine pR M.aB M.bx d1 (by show 5<1000;decide) (RD ..) ?_
  have up:∀a z,aP M.aq H a z->aP M.aq (upd (upd H le (.lst ((es'++[e0]).map V.ref).dropLast)) d (.ins M.aA dx (pq (.int D.n) (.ref po) (.ref e0) (.ref lk) (.ref le)))) a z:=fun a z q=>(q.lst hD.xT).put d1 rfl
  have nlk:lk≠d:=(Js hI hD.kept (by intro z;cases z)).symm
  refine k _ ⟨dx,po,e0,ks,es',aG,up _ _ hD.one,up _ _ pe,?_,hD.jE.imp up,?_,pes.imp up,hD.ne,hD.wf.back hb⟩ (f1.put d1 True.intro (.inl afT))
  ·rw[aH nlk,aH hD.ne]
   exact hD.kept
  ·rw[aH U6.symm,aG,List.map_append]
   simp
def YD(C CD:Addr)(Ts:List Tab):Sp:=fun vs H Q _=>∃(d lk le dx po ph:Addr)(D:Kp284.Desk)(ks es:List Addr)(p:Addr)(z:Pr),vs=[.ref d,.ref p]/\gW C CD H d D lk le dx po ph ks es/\aP C H p z/\dJ Ts H/\MvK C CD Ts H d lk le (Ns.mv D z) Q
theorem ak1{n o h k e:V}:(pq n o h k e).lookup ("move_to":Str)=none:=X3 (by decide+kernel) (by decide+kernel) (by decide+kernel) (by decide+kernel) (by decide+kernel)
theorem afU{n o h k e:V}:(pq n o h k e).lookup ("move_back":Str)=none:=X3 (by decide+kernel) (by decide+kernel) (by decide+kernel) (by decide+kernel) (by decide+kernel)
theorem adv{n o h k e:V}:(pq n o h k e).lookup ("begin":Str)=none:=X3 (by decide+kernel) (by decide+kernel) (by decide+kernel) (by decide+kernel) (by decide+kernel)
theorem qH(M:Facts K mg){Ts:List Tab}(L:bU mg base M Ts):bf P w K mg base cV 3 M.mV.a M.mV.fd ["desk","pair"] (YD M.aq M.aA Ts):=by
 refine M.mV.F.ok acs (fun vs H Q E h=>?_) (fun cdv A outer s H vs Q E hr h=>?_)
 ·obtain⟨d,lk,le,dx,po,ph,D,ks,es,p,z,rfl,_⟩:=h
  rfl
 ·obtain⟨d,lk,le,dx,po,ph,D,ks,es,p,z,rfl,hD,hp,tb,k⟩:=h
  have hI:=hD.ins
  have hn:=(Ns.bD.mp hD.wf.n).2.1
  have hnB:D.n<2^64:=aL (b:=6) (by omega) (by decide)
  refine⟨_,(aj (bC (dU (bQ M.gD (mZ M) hr (oJ M) (bO (pv 1)))) (ak (au (aO (bO (fD M.Kg))))) aU) (aj (nP (qY (pv 0) M.aB M.Kl (Gf M Ts) (hr.mono (by decide)) (Lr M) .nil pA (bO (pv 1)))) (ak (au (bQ M.bA (bM M) hr (bW M) (dh (aK M.aB M.aR (pv 0)) (aK M.aB M.bx (pv 0)))))))),?_⟩
  rfl'
  refine⟨p,z,rfl,hp,?_⟩
  rfl'
  unfold Ns.mv at k
  cases hk:Kp284.ok z with
  |false=>
   rw[if_neg (by rw[hk];decide)]at k
   refine bJ ?_
   rfl'
   exact k.told hD.at_ tb (Gr.refl tb) rfl rfl
  |true=>
   rw[if_pos hk]at k
   refine cR ?_
   rfl'
   refine uH hI ak1 ?_
   rfl'
   refine⟨d,lk,le,dx,po,ph,D,ks,es,p,z,rfl,hD,hp,hk,tb,fun H1 le1 hD1 anM f1=>?_⟩
   obtain⟨dx1,po1,ph1,ks1,es1,adw⟩:=id hD1
   have hI1:=adw.ins
   have hh1:=adw.hand
   have eN:(Kp284.to D z).n=D.n:=rfl
   rw[eN]at hI1
   rfl'
   exact⟨D.n,ph1,z,rfl,hh1,(gC hk).mono (by decide),hnB,fun l H2 s2 _ e=>k l H2 _ lk le1 rfl (hD1.gr f1.1 (Gr.same f1.1 s2)) (.inl rfl) (.inr anM) (f1.then (Gr.same f1.1 s2)) e⟩
end
section
variable{P:Program}{w:World}{K:W.Frag}{mg:Str->Option Value}{base:Heap}
theorem ahK{D:Kp284.Desk}{z:Pr}(h:Kp284.ok z=true):Ns.mv D z=(some (Kp284.to D z),Ns.wg D.n z):=by
 unfold Ns.mv
 rw[if_pos h]
theorem Ia(M:Facts K mg){Ts:List Tab}(L:bU mg base M Ts):bf P w K mg base cV 4 M.gG.a M.gG.fd ["desk","x","y"] (ahJ M.aq M.aA Ts (fun D x y=>(Kp284Neutral.step (some D) [[1,(x:Nat),(y:Nat)]]))):=by
 exists M.gG.F,wF,Ns.amD,(aj (jz 3 wF.nd (Ad M.fZ (aY M) hr M.fY (aZ M) (dh (pv 1) (pv 2)))) (aj (bC (PW.pt (fQ (dU (bQ M.gD (mZ M) hr (oJ M) (bO (pv 3)))) (dW (PW.pt (QH (iM lA (pv 1) aC) (Ii (iM lA (pv 2) aC))))))) (ak (au (aO (bO (fD M.aN))))) aU) (ak (au (bQ M.mV (qH M L) hr (uw M) (dh (pv 0) (pv 3))))))),x,hx,y,hy
 refine cG ⟨x,y⟩ rfl rfl fun p1 H1 s1 n1 q1=>?_
 have g1:=Gr.same tb s1
 have hD1:=hD.same s1
 rfl'
 refine⟨p1,⟨x,y⟩,rfl,q1,?_⟩
 rfl'
 cases hk:Kp284.ok ⟨x,y⟩with
 |false=>
  rw[if_pos (Or.inl hk)]at k
  refine bJ (bJ ?_)
  rfl'
  exact k.told hD.at_ tb g1 rfl rfl
 |true=>
  refine cR ?_
  have fin:¬(x=0/\y=0)->YD M.aq M.aA Ts [.ref d,.ref p1] H1 Q E0:=fun q=>by
   rw[if_neg (by rintro (z|z); ·rw[hk]at z;cases z
                 ·exact q z),<-ahK hk]at k
   exact⟨d,lk,le,dx,po,ph,D,ks,es,p1,⟨x,y⟩,rfl,hD1,q1,g1.1,k.gr tb g1⟩
  rfl'
  by_cases c:x=0
  ·rw[decide_eq_true (by omega:(x:Int)=0)]
   refine bJ ?_
   rfl'
   by_cases c2:y=0
   ·rw[decide_eq_true (by omega:(y:Int)=0)]
    refine bJ ?_
    rw[if_pos (Or.inr ⟨c,c2⟩)]at k
    rfl'
    exact k.told hD.at_ tb g1 rfl rfl
   ·rw[decide_eq_false (by omega:¬(y:Int)=0)]
    refine cR ?_
    rfl'
    exact fin fun q=>c2 q.2
  ·rw[decide_eq_false (by omega:¬(x:Int)=0)]
   refine cR (cR ?_)
   rfl'
   exact fin fun q=>c q.1
theorem afV(M:Facts K mg){Ts:List Tab}(L:bU mg base M Ts):bf P w K mg base cV 1 M.yD.a M.yD.fd ["desk"] (Qm M.aq M.aA Ts (fun D=>(Kp284Neutral.step (some D) [[2]]))):=by
 exists M.yD.F,aeM,Ns.amE,(aj (bC (iM ahf (bK bH rfl M.lR (by decide+kernel) (bO (aK M.aB M.bR (pv 0)))) (fD M.Uq)) (ak (au (aO (bO (fD M.Kg))))) aU) (aj (nP (zM PySem.F.plainAttrs_list PySem.F.slot_list_append PySem.F.type_list_append uR (aK M.aB M.bR (pv 0)) (bO (aK M.aB M.bx (pv 0))))) (ak (au (aO (bO (aM gA (bK bH rfl M.lR (by decide+kernel) (bO (aK M.aB M.bR (pv 0)))) aC)))))))
 refine⟨_,_,rfl,.inl (cY.of hD.kept),?_⟩
 rfl'
 rw[List.length_map,hD.jE.1]
 have U6:d≠lk:=Js hI hD.kept (by intro z;cases z)
 refine cO (fun c=>?_) (fun c=>?_)
 ·have c:8<=D.kept.length:=by have:=of_decide_eq_true c;omega
  rw[if_pos c]at k
  rfl'
  exact k.told hD.at_ tb (Gr.refl tb) rfl rfl
 ·have c:¬8<=D.kept.length:=fun q=>c (decide_eq_true (by omega))
  rw[if_neg c]at k
  rfl'
  refine oN (cY.of hD.kept) ?_
  rfl'
  refine Ax hD.kept (by rw[List.length_map,hD.jE.1,sizeLine_eq];omega) ?_
  have k1:(upd H lk (.lst (ks.map V.ref++[V.ref ph]))) lk=some (.lst ((ks++[ph]).map V.ref)):=by rw[aG,List.map_append];rfl
  have d1:(upd H lk (.lst (ks.map V.ref++[V.ref ph]))) d=some (.ins M.aA dx (pq (.int D.n) (.ref po) (.ref ph) (.ref lk) (.ref le))):=by rw[aH U6];exact hI
  have e1:(upd H lk (.lst (ks.map V.ref++[V.ref ph]))) le=some (.lst (es.map V.ref)):=by rw[aH hD.ne.symm];exact hD.xT
  have up:∀a z,aP M.aq H a z->aP M.aq (upd H lk (.lst (ks.map V.ref++[V.ref ph]))) a z:=fun a z q=>q.lst hD.kept
  have f1:Fr Ts [d,lk,le] H (upd H lk (.lst (ks.map V.ref++[V.ref ph]))):=(Fr.refl tb).put hD.kept True.intro (.inl akZ)
  generalize upd H lk (.lst (ks.map V.ref++[V.ref ph]))=H1 at*
  have hD1:nR M.aq M.aA H1 d { D with kept:=D.kept++[D.a] } lk le:=⟨dx,po,ph,ks++[ph],es,d1,up _ _ hD.one,up _ _ hD.hand,k1,(hD.jE.snoc hD.hand).imp up,e1,hD.zN.imp up,hD.ne,hD.wf.keep c⟩
  rfl'
  refine⟨_,_,rfl,.inl (cY.of k1),?_⟩
  rfl'
  refine cJ bY fun l hl=>?_
  have s2:=Same.upd H1 (.lst [V.int ((((ks++[ph]).map V.ref).length:Nat)-1)]) hl
  refine k l _ _ lk le rfl (hD1.gr f1.1 (Gr.same f1.1 s2)) (.inl rfl) (.inl rfl) (f1.then (Gr.same f1.1 s2)) ?_
  rw[aG]
  have e:((((ks++[ph]).map V.ref).length:Nat):Int)-1=(D.kept.length:Int):=by
   rw[List.length_map,List.length_append,hD.jE.1]
   show((D.kept.length+1:Nat):Int)-1=_
   omega
  rw[e]
  rfl
theorem afW(M:Facts K mg){Ts:List Tab}(L:bU mg base M Ts):bf P w K mg base cV 2 M.yE.a M.yE.fd ["desk","i"] (Qn M.aq M.aA Ts (fun D i=>(Kp284Neutral.step (some D) [[3,(i:Nat)]]))):=by
 exists M.yE.F,aeN,Ns.amF,(aj (bC (nQ (dU (qY (pv 0) M.aB M.iw (gj M) (hr.mono (by decide)) (iy M) .nil pA (bO (pv 1))))) (ak (au (aO (bO (fD M.jZ))))) aU) (aj (nP (zM PySem.F.plainAttrs_list PySem.F.slot_list_pop PySem.F.type_list_pop abF (aK M.aB M.bR (pv 0)) (bO (pv 1)))) (ak (au (aO (bO (bK bH rfl M.lR (by decide+kernel) (bO (aK M.aB M.bR (pv 0)))))))))),i,hi
 refine uH hI Bw ?_
 rfl'
 refine⟨d,lk,le,dx,po,ph,D,ks,es,i,rfl,hD,?_⟩
 rfl'
 by_cases c:i<D.kept.length
 case' neg=>
  rw[decide_eq_false c]
  refine bJ ?_
  rw[if_pos (by omega)]at k
  rfl'
  exact k.told hD.at_ tb (Gr.refl tb) rfl rfl
 rw[decide_eq_true c]
 refine cR ?_
 rw[if_neg (by omega)]at k
 rfl'
 refine oN (cY.of hD.kept) ?_
 rfl'
 have U6:d≠lk:=Js hI hD.kept (by intro z;cases z)
 have hks:i<ks.length:=by rw[hD.jE.1];exact c
 have kl:=hD.wf.kl
 refine⟨lk,ks.map V.ref,(i:Int),i,.ref ks[i],rfl,rfl,hD.kept,by omega,by omega,?_,by rw[List.getElem?_map,List.getElem?_eq_getElem hks];rfl,?_⟩
 ·have hl:i<(ks.map V.ref).length:=by rw[List.length_map];exact hks
  unfold seqIndex?
  rw[if_neg (by omega:¬(i:Int)<0)]
  have q:(decide (0<=(i:Int)) && decide ((i:Int)<((ks.map V.ref).length:Int)))=true:=by
   rw[Bool.and_eq_true,decide_eq_true_iff,decide_eq_true_iff]
   omega
  show(if(decide (0<=(i:Int)) && decide ((i:Int)<((ks.map V.ref).length:Int)))=true then some (i:Int).toNat else none)=some i
  rw[if_pos q]
  rfl
 ·have ek:(ks.map V.ref).eraseIdx i=(ks.take i++ks.drop (i+1)).map V.ref:=by rw[List.eraseIdx_eq_take_drop_succ,List.map_append,List.map_take,List.map_drop]
  rw[ek]
  have d1:(upd H lk (.lst ((ks.take i++ks.drop (i+1)).map V.ref))) d=some (.ins M.aA dx (pq (.int D.n) (.ref po) (.ref ph) (.ref lk) (.ref le))):=by rw[aH U6];exact hI
  have e1:(upd H lk (.lst ((ks.take i++ks.drop (i+1)).map V.ref))) le=some (.lst (es.map V.ref)):=by rw[aH hD.ne.symm];exact hD.xT
  have up:∀a z,aP M.aq H a z->aP M.aq (upd H lk (.lst ((ks.take i++ks.drop (i+1)).map V.ref))) a z:=fun a z q=>q.lst hD.kept
  have f1:Fr Ts [d,lk,le] H (upd H lk (.lst ((ks.take i++ks.drop (i+1)).map V.ref))):=(Fr.refl tb).put hD.kept True.intro (.inl akZ)
  have k1:(upd H lk (.lst ((ks.take i++ks.drop (i+1)).map V.ref))) lk=_:=aG
  generalize upd H lk (.lst ((ks.take i++ks.drop (i+1)).map V.ref))=H1 at*
  have kp:=(hD.jE.take i).append (hD.jE.drop (i+1))
  have hD1:nR M.aq M.aA H1 d { D with kept:=D.kept.take i++D.kept.drop (i+1) } lk le:=⟨dx,po,ph,ks.take i++ks.drop (i+1),es,d1,up _ _ hD.one,up _ _ hD.hand,k1,kp.imp up,e1,hD.zN.imp up,hD.ne,hD.wf.drop i⟩
  rfl'
  refine⟨_,_,rfl,.inl (cY.of k1),?_⟩
  rfl'
  refine cJ bY fun l hl=>?_
  have s2:=Same.upd H1 (.lst [V.int ((((ks.take i++ks.drop (i+1)).map V.ref).length:Nat))]) hl
  refine k l _ _ lk le rfl (hD1.gr f1.1 (Gr.same f1.1 s2)) (.inl rfl) (.inl rfl) (f1.then (Gr.same f1.1 s2)) ?_
  rw[aG]
  have e:((ks.take i++ks.drop (i+1)).map V.ref).length=D.kept.length-1:=by
   rw[List.length_map,List.length_append,List.length_take,List.length_drop,hD.jE.1]
   omega
  rw[e]
  rfl
theorem afX(M:Facts K mg){Ts:List Tab}(L:bU mg base M Ts):bf P w K mg base cV 4 M.yF.a M.yF.fd ["desk","i"] (Qn M.aq M.aA Ts (fun D i=>(Kp284Neutral.step (some D) [[4,(i:Nat)]]))):=by
 exists M.yF.F,aeO,Ns.amG,(aj (bC (nQ (dU (qY (pv 0) M.aB M.iw (gj M) (hr.mono (by decide)) (iy M) .nil pA (bO (pv 1))))) (ak (au (aO (bO (fD M.jZ))))) aU) (ak (au (bQ M.mV (qH M L) hr (uw M) (dh (pv 0) (iz eG (aK M.aB M.bR (pv 0)) (pv 1) (fun _ _=>rfl))))))),i,hi
 refine uH hI Bw ?_
 rfl'
 refine⟨d,lk,le,dx,po,ph,D,ks,es,i,rfl,hD,?_⟩
 rfl'
 by_cases c:i<D.kept.length
 case' neg=>
  rw[decide_eq_false c]
  refine bJ ?_
  rw[if_pos (by omega)]at k
  rfl'
  exact k.told hD.at_ tb (Gr.refl tb) rfl rfl
 rw[decide_eq_true c]
 refine cR ?_
 rw[if_neg (by omega)]at k
 obtain⟨a,ea,pa⟩:=zF hD.jE hD.wf c
 have oka:=(hD.wf.keptAt c).2
 have sa:=gC oka
 rfl'
 rw[<-ahK oka]at k
 refine gQ (cY.of hD.kept) ea ?_
 rfl'
 exact⟨d,lk,le,dx,po,ph,D,ks,es,a,_,rfl,hD,pa,tb,k⟩
theorem RG(M:Facts K mg){Ts:List Tab}(L:bU mg base M Ts):bf P w K mg base cV 4 M.j9.a M.j9.fd ["desk","i"] (Qn M.aq M.aA Ts (fun D i=>(Kp284Neutral.step (some D) [[5,(i:Nat)]]))):=by
 exists M.j9.F,Ri,Ns.amH,(aj (bC (nQ (dU (qY (pv 0) M.aB M.iw (gj M) (hr.mono (by decide)) (iy M) .nil pA (bO (pv 1))))) (ak (au (aO (bO (fD M.jZ))))) aU) (ak (au (bQ M.mV (qH M L) hr (uw M) (dh (pv 0) (bQ M.iU (lF M) hr (nM M) (nU (aK M.aB M.aR (pv 0)) (aK M.aB M.bx (pv 0)) (iz eG (aK M.aB M.bR (pv 0)) (pv 1) (fun _ _=>rfl))))))))),i,hi
 refine uH hI Bw ?_
 rfl'
 refine⟨d,lk,le,dx,po,ph,D,ks,es,i,rfl,hD,?_⟩
 rfl'
 by_cases c:i<D.kept.length
 case' neg=>
  rw[decide_eq_false c]
  refine bJ ?_
  rw[if_pos (by omega)]at k
  rfl'
  exact k.told hD.at_ tb (Gr.refl tb) rfl rfl
 rw[decide_eq_true c]
 refine cR ?_
 rw[if_neg (by omega)]at k
 obtain⟨a,ea,pa⟩:=zF hD.jE hD.wf c
 have oka:=(hD.wf.keptAt c).2
 have sa:=gC oka
 rfl'
 refine gQ (cY.of hD.kept) ea ?_
 rfl'
 refine⟨D.n,ph,a,_,_,rfl,hh,pa,hz.mono (by decide),sa.mono (by decide),hnB,fun r H1 s1 _ p1=>?_⟩
 have g1:=Gr.same tb s1
 exact⟨d,lk,le,dx,po,ph,D,ks,es,r,_,rfl,hD.same s1,p1,g1.1,k.gr tb g1⟩
theorem WQ(M:Facts K mg){Ts:List Tab}(L:bU mg base M Ts):bf P w K mg base cV 4 M.n8.a M.n8.fd ["desk","i"] (Qn M.aq M.aA Ts (fun D i=>(Kp284Neutral.step (some D) [[7,(i:Nat)]]))):=by
 exists M.n8.F,V5,Ns.amJ,(aj (bC (nQ (dU (qY (pv 0) M.aB M.iw (gj M) (hr.mono (by decide)) (iy M) .nil pA (bO (pv 1))))) (ak (au (aO (bO (fD M.jZ))))) aU) (ak (au (bQ M.mV (qH M L) hr (uw M) (dh (pv 0) (bQ M.pJ (Ls M) hr (Qg M) (nU (aK M.aB M.aR (pv 0)) (aK M.aB M.bx (pv 0)) (iz eG (aK M.aB M.bR (pv 0)) (pv 1) (fun _ _=>rfl))))))))),i,hi
 refine uH hI Bw ?_
 rfl'
 refine⟨d,lk,le,dx,po,ph,D,ks,es,i,rfl,hD,?_⟩
 rfl'
 by_cases c:i<D.kept.length
 case' neg=>
  rw[decide_eq_false c]
  refine bJ ?_
  rw[if_pos (by omega)]at k
  rfl'
  exact k.told hD.at_ tb (Gr.refl tb) rfl rfl
 rw[decide_eq_true c]
 refine cR ?_
 rw[if_neg (by omega)]at k
 obtain⟨a,ea,pa⟩:=zF hD.jE hD.wf c
 have oka:=(hD.wf.keptAt c).2
 have sa:=gC oka
 rfl'
 refine gQ (cY.of hD.kept) ea ?_
 rfl'
 refine⟨D.n,ph,a,_,_,rfl,hh,pa,hz.mono (by decide),sa.mono (by decide),hnB,fun r H1 s1 _ p1=>?_⟩
 have g1:=Gr.same tb s1
 exact⟨d,lk,le,dx,po,ph,D,ks,es,r,_,rfl,hD.same s1,p1,g1.1,k.gr tb g1⟩
theorem RJ(M:Facts K mg){Ts:List Tab}(L:bU mg base M Ts):bf P w K mg base cV 4 M.kh.a M.kh.fd ["desk","i"] (Qn M.aq M.aA Ts (fun D i=>(Kp284Neutral.step (some D) [[6,(i:Nat)]]))):=by
 exists M.kh.F,CN,Ns.amI,(aj (bC (nQ (dU (qY (pv 0) M.aB M.iw (gj M) (hr.mono (by decide)) (iy M) .nil pA (bO (pv 1))))) (ak (au (aO (bO (fD M.jZ))))) aU) (aj (jz 2 CN.nd (bQ M.jN (yW M) hr (Ab M) (nU (aK M.aB M.aR (pv 0)) (aK M.aB M.bx (pv 0)) (iz eG (aK M.aB M.bR (pv 0)) (pv 1) (fun _ _=>rfl))))) (aj (bC (lW (xr (pv 2))) (ak (au (aO (bO (fD M.dZ))))) aU) (ak (au (bQ M.mV (qH M L) hr (uw M) (dh (pv 0) (pv 2)))))))),i,hi
 refine uH hI Bw ?_
 rfl'
 refine⟨d,lk,le,dx,po,ph,D,ks,es,i,rfl,hD,?_⟩
 rfl'
 by_cases c:i<D.kept.length
 case' neg=>
  rw[decide_eq_false c]
  refine bJ ?_
  rw[if_pos (by omega)]at k
  rfl'
  exact k.told hD.at_ tb (Gr.refl tb) rfl rfl
 rw[decide_eq_true c]
 refine cR ?_
 rw[if_neg (by omega)]at k
 obtain⟨a,ea,pa⟩:=zF hD.jE hD.wf c
 have oka:=(hD.wf.keptAt c).2
 have sa:=gC oka
 rfl'
 refine gQ (cY.of hD.kept) ea ?_
 rfl'
 refine⟨D.n,ph,a,_,_,rfl,hh,pa,hz.mono (by decide),sa.mono (by decide),hnB,?_⟩
 cases hp:Kp279.parted D.n D.a (Kp284.keptAt D i)with
 |none=>
  rw[hp]at k
  dsimp only
  rfl'
  rw[o8]
  refine bJ ?_
  rfl'
  exact k.told hD.at_ tb (Gr.refl tb) rfl rfl
 |some b=>
  rw[hp]at k
  intro r H1 s1 _ p1
  have g1:=Gr.same tb s1
  rfl'
  rw[qd]
  refine cR ?_
  rfl'
  exact⟨d,lk,le,dx,po,ph,D,ks,es,r,_,rfl,hD.same s1,p1,g1.1,k.gr tb g1⟩
theorem ak3(M:Facts K mg){Ts:List Tab}(L:bU mg base M Ts):bf P w K mg base cV 5 M.Uj.a M.Uj.fd ["desk"] (Qm M.aq M.aA Ts (fun D=>(Kp284Neutral.step (some D) [[8]]))):=by
 exists M.Uj.F,akB,Ns.amK,(ak (au (bQ M.mV (qH M L) hr (uw M) (dh (pv 0) (bQ M.pK (Lw M) hr (Qh M) (nU (aK M.aB M.aR (pv 0)) (aK M.aB M.bT (pv 0)) (aK M.aB M.bx (pv 0))))))))
 refine⟨D.n,po,ph,_,D.a,rfl,ho,hh,(gb hN).mono (by decide),hz.mono (by decide),hnB,fun r H1 s1 _ p1=>?_⟩
 have g1:=Gr.same tb s1
 exact⟨d,lk,le,dx,po,ph,D,ks,es,r,_,rfl,hD.same s1,p1,g1.1,k.gr tb g1⟩
theorem afY(M:Facts K mg){Ts:List Tab}(L:bU mg base M Ts):bf P w K mg base cV 6 M.yG.a M.yG.fd ["desk"] (Qm M.aq M.aA Ts (fun D=>(Kp284Neutral.step (some D) [[9]]))):=by
 exists M.yG.F,aeP,Ns.amL,(aj (bC (dU (bQ M.kY (ux M) hr (vO M) (nU (aK M.aB M.aR (pv 0)) (aK M.aB M.bT (pv 0)) (aK M.aB M.bx (pv 0))))) (ak (au (aO (bO (fD M.Hx))))) aU) (ak (au (bQ M.mV (qH M L) hr (uw M) (dh (pv 0) (bQ M.jF (rF M) hr (ur M) (nU (aK M.aB M.aR (pv 0)) (aK M.aB M.bT (pv 0)) (aK M.aB M.bx (pv 0)))))))))
 refine⟨D.n,po,ph,_,D.a,rfl,ho,hh,(gb hN).mono (by decide),hz.mono (by decide),hnB,fun H1 s1=>?_⟩
 have g1:=Gr.same tb s1
 have hD1:=hD.same s1
 have hI1:=hD1.ins
 rfl'
 have eF:decide (D.a.y<=(Kp279.against D.n D.a (Kp280.least D.n)).y)=Kp282.isFirst D.n D.a:=rfl
 rw[eF]
 cases hF:Kp282.isFirst D.n D.a with
 |true=>
  rw[if_pos hF]at k
  refine bJ ?_
  rfl'
  exact k.told hD.at_ tb g1 rfl rfl
 |false=>
  rw[if_neg (by rw[hF];decide)]at k
  refine cR ?_
  rfl'
  refine⟨D.n,po,ph,_,D.a,rfl,hD1.one,hD1.hand,(gb hN).mono (by decide),hz.mono (by decide),hnB,fun r H2 s2 _ p2=>?_⟩
  have g2:=Gr.same tb (s1.trans s2)
  exact⟨d,lk,le,dx,po,ph,D,ks,es,r,_,rfl,hD1.same s2,p2,g2.1,k.gr tb g2⟩
theorem WR(M:Facts K mg){Ts:List Tab}(L:bU mg base M Ts):bf P w K mg base cV 5 M.oh.a M.oh.fd ["desk"] (Qm M.aq M.aA Ts (fun D=>(Kp284Neutral.step (some D) [[10]]))):=by
 exists M.oh.F,J2,Ns.ajM,(aj (jz 1 J2.nd (bQ M.nT (Hf M) hr (Lj M) (dh (aK M.aB M.aR (pv 0)) (aK M.aB M.bx (pv 0))))) (aj (bC (lW (xr (pv 1))) (ak (au (aO (bO (fD M.dZ))))) aU) (ak (au (bQ M.mV (qH M L) hr (uw M) (dh (pv 0) (pv 1)))))))
 refine⟨D.n,ph,D.a,rfl,hh,hz.mono (by decide),hn,?_⟩
 cases hp:Kp279.one D.n D.a with
 |none=>
  rw[hp]at k
  dsimp only
  rfl'
  rw[o8]
  refine bJ ?_
  rfl'
  exact k.told hD.at_ tb (Gr.refl tb) rfl rfl
 |some b=>
  rw[hp]at k
  intro r H1 s1 p1
  have g1:=Gr.same tb s1
  rfl'
  rw[qd]
  refine cR ?_
  rfl'
  exact⟨d,lk,le,dx,po,ph,D,ks,es,r,_,rfl,hD.same s1,p1,g1.1,k.gr tb g1⟩
theorem afZ(M:Facts K mg){Ts:List Tab}(L:bU mg base M Ts):bf P w K mg base cV 3 M.f_back.a M.f_back.fd ["desk"] (Qm M.aq M.aA Ts (fun D=>(Kp284Neutral.step (some D) [[11]]))):=by
 exists M.f_back.F,aeQ,Ns.ajN,(aj (bC (iM lA (bK bH rfl M.lR (by decide+kernel) (bO (aK M.aB M.fC (pv 0)))) aC) (ak (au (aO (bO (fD M.vH))))) aU) (aj (nP (aby (pv 0) M.aB M.Fb (Bx M Ts) (hr.mono (by decide)) (FT M) .nil pA)) (ak (au (bQ M.bA (bM M) hr (bW M) (dh (aK M.aB M.aR (pv 0)) (aK M.aB M.bx (pv 0))))))))
 refine⟨_,_,rfl,.inl (cY.of hD.xT),?_⟩
 rfl'
 rw[List.length_map,hD.zN.1,List.length_reverse]
 cases hb:D.before with
 |nil=>
  rw[hb]at k
  refine bJ ?_
  rfl'
  exact k.told hD.at_ tb (Gr.refl tb) rfl rfl
 |cons b r=>
  rw[hb]at k
  rw[decide_eq_false (by show¬(((b::r).length:Nat):Int)=0;simp only[List.length_cons];omega)]
  refine cR ?_
  rfl'
  refine uH hI afU ?_
  rfl'
  refine⟨d,lk,le,dx,po,ph,D,ks,es,b,r,rfl,hD,hb,tb,fun H1 hD1 f1=>?_⟩
  obtain⟨dx1,po1,ph1,ks1,es1,adw⟩:=id hD1
  have hI1:H1 d=some (.ins M.aA dx1 (pq (.int D.n) (.ref po1) (.ref ph1) (.ref lk) (.ref le))):=adw.ins
  have hh1:aP M.aq H1 ph1 b:=adw.hand
  have okb:Kp284.ok b=true:=hD.wf.before b (by rw[hb];exact List.mem_cons_self ..)
  rfl'
  exact⟨D.n,ph1,b,rfl,hh1,(gC okb).mono (by decide),hnB,fun l H2 s2 _ e=>k l H2 _ lk le rfl (hD1.gr f1.1 (Gr.same f1.1 s2)) (.inl rfl) (.inl rfl) (f1.then (Gr.same f1.1 s2)) e⟩
def YF(C CD:Addr)(Ts:List Tab):Sp:=fun vs H Q _=>∃(d dx:Addr)(v1 v2 v3 v4 v5:V)(n:Nat),vs=[.ref d,.int n]/\H d=some (.ins CD dx (pq v1 v2 v3 v4 v5))/\n<2^32/\dJ Ts H/\
 (Kp279.okN n=false->∀l H',Gr Ts H H'->H' l=some (.lst [.int (-22)])->Q (.ref l) H')/\
 (Kp279.okN n=true->∀l H' lk le,nR C CD H' d ⟨n,⟨1,0⟩,[],[]⟩ lk le->H lk=none->H le=none->Fr Ts [d] H H'->H' l=some (.lst [.int 0])->Q (.ref l) H')
theorem adx(M:Facts K mg){Ts:List Tab}(L:bU mg base M Ts):bf P w K mg base cV 10 M.uc.a M.uc.fd ["desk","n"] (YF M.aq M.aA Ts):=by
 refine M.uc.F.ok acu (fun vs H Q E h=>?_) (fun cdv A outer s H vs Q E hr h=>?_)
 ·obtain⟨d,dx,v1,v2,v3,v4,v5,n,rfl,_⟩:=h
  rfl
 ·obtain⟨d,dx,v1,v2,v3,v4,v5,n,rfl,hd,hn,tb,k1,k2⟩:=h
  refine⟨_,(aj (bC (nQ (dU (bQ M.jW (pO M) hr (rM M) (bO (pv 1))))) (ak (au (aO (bO (fD M.aN))))) aU) (aj (nP (qY (pv 0) M.aB M.Rt (Oa M L) (hr.mono (by decide)) (Rv M) .nil pA (bO (pv 1)))) (ak (au (aO (bO aC)))))),?_⟩
  rfl'
  refine⟨n,rfl,b32 hn,?_⟩
  rfl'
  cases hk:Kp279.okN n with
  |false=>
   refine bJ ?_
   rfl'
   exact cJ bY fun l hl=>k1 hk l _ (Gr.same tb (Same.upd H _ hl)) aG
  |true=>
   refine cR ?_
   rfl'
   refine uH hd adv ?_
   rfl'
   refine⟨d,dx,v1,v2,v3,v4,v5,n,rfl,hd,hk,tb,fun H1 lk le hD1 h1 h2 f1=>?_⟩
   rfl'
   refine cJ bY fun l hl=>?_
   have s2:=Same.upd H1 (.lst [.int 0]) hl
   exact k2 hk l _ lk le (hD1.gr f1.1 (Gr.same f1.1 s2)) h1 h2 (f1.then (Gr.same f1.1 s2)) aG
end
def BJ(C CD:Addr)(H:Hp)(d:Addr)(st:Kp284.State)(lk le:Addr):Prop:=match st with
 |none=>∃dx,H d=some (.ins CD dx (pq .non .non .non (.ref lk) (.ref le)))/\H lk=some (.lst [])/\H le=some (.lst [])/\lk≠le
 |some D=>nR C CD H d D lk le
noncomputable abbrev vn(as:List Nat):List V:=as.map fun(a:Nat)=>V.int (a:Nat)
abbrev zn(as:List Nat):List Int:=as.map fun(a:Nat)=>(a:Int)
def ady(C CD:Addr)(Ts:List Tab)(H:Hp)(d lk le:Addr)(res:Kp284.State×List Int)(Q:VK):Prop:=∀l H' lk' le',BJ C CD H' d res.1 lk' le'->(lk'=lk\/H lk'=none)->(le'=le\/H le'=none)->Fr Ts [d,lk,le] H H'->H' l=some (.lst (res.2.map V.int))->Q (.ref l) H'
def tD(C CD:Addr)(Ts:List Tab)(j:Nat):Sp:=fun vs H Q _=>∃(d lk le:Addr)(st:Kp284.State)(as:List Nat),vs=.ref d::vn as/\as.length=Ns.argc.getD j 0/\(∀a∈as,a<2^32)/\BJ C CD H d st lk le/\(j=0\/st.isSome=true)/\dJ Ts H/\
 ady C CD Ts H d lk le (Kp284Neutral.step st [(j:Int)::zn as]) Q
structure Handler(P:Program)(w:World)(K:W.Frag)(mg:Str->Option Value)(base:Heap)(C CD:Addr)(Ts:List Tab)(j:Nat)(f:Addr):Prop where
 ex:∃k fd ps,k<=15/\bf P w K mg base cV k f fd ps (tD C CD Ts j)/\Binds K fd ps []
 kp:W.keepIn K (.ref f)=true
theorem bw{st:Kp284.State}{c:List (List Int)}{D:Kp284.Desk}{x:List Int}(h:Kp284Neutral.step st c=(some D,x)):Kp284Neutral.step st c=(some D,(Kp284Neutral.step st c).2):=by rw[h]
theorem len0{as:List Nat}(h:as.length=0):as=[]:=List.eq_nil_of_length_eq_zero h
theorem len1{as:List Nat}(h:as.length=1):∃a,as=[a]:=match as,h with|[a],_=>⟨a,rfl⟩
theorem len2{as:List Nat}(h:as.length=2):∃a b,as=[a,b]:=match as,h with|[a,b],_=>⟨a,b,rfl⟩
theorem anN{as:List Nat}(h:as.length=3):∃a b c,as=[a,b,c]:=match as,h with|[a,b,c],_=>⟨a,b,c,rfl⟩
theorem anO{as:List Nat}(h:as.length=4):∃a b c e,as=[a,b,c,e]:=match as,h with|[a,b,c,e],_=>⟨a,b,c,e,rfl⟩
section
variable{C CD:Addr}{Ts:List Tab}{j:Nat}
theorem uD{H:Hp}{d lk le:Addr}{st:Kp284.State}(h:BJ C CD H d st lk le)(h0:j≠0)(hs:j=0\/st.isSome=true):∃D dx po ph ks es,st=some D/\gW C CD H d D lk le dx po ph ks es:=by
 cases st with
 |none=>
  rcases hs with z|z
  ·exact absurd z h0
  ·cases z
 |some D=>
  obtain⟨dx,po,ph,ks,es,q⟩:=h
  exact⟨D,dx,po,ph,ks,es,rfl,q⟩
theorem U7{H:Hp}{d lk le dx po ph:Addr}{D:Kp284.Desk}{ks es:List Addr}{res:Kp284.State×List Int}{Q:VK}(hD:gW C CD H d D lk le dx po ph ks es)(tb:dJ Ts H)(hf:res=(some D,res.2))(k:ady C CD Ts H d lk le res Q):∀l H',Gr Ts H H'->H' l=some (.lst (res.2.map V.int))->Q (.ref l) H':=fun l H' g e=>
 k l H' lk le (by rw[hf];exact hD.at_.gr tb g) (.inl rfl) (.inl rfl) g.fr e
theorem ajw{H:Hp}{d lk le:Addr}{res:Kp284.State×List Int}{Q:VK}(k:ady C CD Ts H d lk le res Q):MvK C CD Ts H d lk le res Q:=fun l H' D' lk' le' e1 e2 e3 e4 e5 e6=>
 k l H' lk' le' (by rw[e1];exact e2) e3 e4 e5 e6
theorem gk{f:Kp284.Desk->List Int}(ha:Ns.argc.getD j 0=0)(h0:j≠0)(hf:∀D,Kp284Neutral.step (some D) [[(j:Int)]]=(some D,f D)):∀vs H Q E,tD C CD Ts j vs H Q E->nu C CD Ts f vs H Q E:=by
 rintro vs H Q E ⟨d,lk,le,st,as,rfl,hl,hb,hs,hj,tb,k⟩
 obtain⟨D,dx,po,ph,ks,es,rfl,hD⟩:=uD hs h0 hj
 obtain rfl:=len0 (hl.trans ha)
 refine⟨d,lk,le,dx,po,ph,D,ks,es,rfl,hD,tb,?_⟩
 have q:=U7 hD tb (by rw[show Kp284Neutral.step (some D) [(j:Int)::zn []]=(some D,f D)from hf D]) k
 rw[show Kp284Neutral.step (some D) [(j:Int)::zn []]=(some D,f D)from hf D]at q
 exact q
theorem gn{f:Kp284.Desk->Nat->List Int}(ha:Ns.argc.getD j 0=1)(h0:j≠0)(hf:∀D (a:Nat),Kp284Neutral.step (some D) [[(j:Int),(a:Int)]]=(some D,f D a)):∀vs H Q E,tD C CD Ts j vs H Q E->nA C CD Ts f vs H Q E:=by
 rintro vs H Q E ⟨d,lk,le,st,as,rfl,hl,hb,hs,hj,tb,k⟩
 obtain⟨D,dx,po,ph,ks,es,rfl,hD⟩:=uD hs h0 hj
 obtain⟨a,rfl⟩:=len1 (hl.trans ha)
 refine⟨d,lk,le,dx,po,ph,D,ks,es,a,rfl,hb a (by simp),hD,tb,?_⟩
 have e:Kp284Neutral.step (some D) [(j:Int)::zn [a]]=(some D,f D a):=hf D a
 have q:=U7 hD tb (by rw[e]) k
 rw[e]at q
 exact q
theorem cB{f:Kp284.Desk->Nat->Nat->List Int}(ha:Ns.argc.getD j 0=2)(h0:j≠0)(hf:∀D (a b:Nat),Kp284Neutral.step (some D) [[(j:Int),(a:Int),(b:Int)]]=(some D,f D a b)):∀vs H Q E,tD C CD Ts j vs H Q E->gY C CD Ts f vs H Q E:=by
 rintro vs H Q E ⟨d,lk,le,st,as,rfl,hl,hb,hs,hj,tb,k⟩
 obtain⟨D,dx,po,ph,ks,es,rfl,hD⟩:=uD hs h0 hj
 obtain⟨a,b,rfl⟩:=len2 (hl.trans ha)
 refine⟨d,lk,le,dx,po,ph,D,ks,es,a,b,rfl,hb a (by simp),hb b (by simp),hD,tb,?_⟩
 have e:Kp284Neutral.step (some D) [(j:Int)::zn [a,b]]=(some D,f D a b):=hf D a b
 have q:=U7 hD tb (by rw[e]) k
 rw[e]at q
 exact q
theorem Gg{f:Kp284.Desk->Nat->Nat->Nat->List Int}(ha:Ns.argc.getD j 0=3)(h0:j≠0)(hf:∀D (a b c:Nat),Kp284Neutral.step (some D) [[(j:Int),(a:Int),(b:Int),(c:Int)]]=(some D,f D a b c)):∀vs H Q E,tD C CD Ts j vs H Q E->Q6 C CD Ts f vs H Q E:=by
 rintro vs H Q E ⟨d,lk,le,st,as,rfl,hl,hb,hs,hj,tb,k⟩
 obtain⟨D,dx,po,ph,ks,es,rfl,hD⟩:=uD hs h0 hj
 obtain⟨a,b,c,rfl⟩:=anN (hl.trans ha)
 refine⟨d,lk,le,dx,po,ph,D,ks,es,a,b,c,rfl,hb a (by simp),hb b (by simp),hb c (by simp),hD,tb,?_⟩
 have e:Kp284Neutral.step (some D) [(j:Int)::zn [a,b,c]]=(some D,f D a b c):=hf D a b c
 have q:=U7 hD tb (by rw[e]) k
 rw[e]at q
 exact q
theorem aaI{f:Kp284.Desk->Nat->Nat->Nat->Nat->List Int}(ha:Ns.argc.getD j 0=4)(h0:j≠0)(hf:∀D (a b c e:Nat),Kp284Neutral.step (some D) [[(j:Int),(a:Int),(b:Int),(c:Int),(e:Int)]]=(some D,f D a b c e)):∀vs H Q E,tD C CD Ts j vs H Q E->ab7 C CD Ts f vs H Q E:=by
 rintro vs H Q E ⟨d,lk,le,st,as,rfl,hl,hb,hs,hj,tb,k⟩
 obtain⟨D,dx,po,ph,ks,es,rfl,hD⟩:=uD hs h0 hj
 obtain⟨a,b,c,e,rfl⟩:=anO (hl.trans ha)
 refine⟨d,lk,le,dx,po,ph,D,ks,es,a,b,c,e,rfl,hb a (by simp),hb b (by simp),hb c (by simp),hb e (by simp),hD,tb,?_⟩
 have ee:Kp284Neutral.step (some D) [(j:Int)::zn [a,b,c,e]]=(some D,f D a b c e):=hf D a b c e
 have q:=U7 hD tb (by rw[ee]) k
 rw[ee]at q
 exact q
theorem za{f:Kp284.Desk->Kp284.State×List Int}(ha:Ns.argc.getD j 0=0)(h0:j≠0)(hf:∀D,Kp284Neutral.step (some D) [[(j:Int)]]=f D):∀vs H Q E,tD C CD Ts j vs H Q E->Qm C CD Ts f vs H Q E:=by
 rintro vs H Q E ⟨d,lk,le,st,as,rfl,hl,hb,hs,hj,tb,k⟩
 obtain⟨D,dx,po,ph,ks,es,rfl,hD⟩:=uD hs h0 hj
 obtain rfl:=len0 (hl.trans ha)
 refine⟨d,lk,le,dx,po,ph,D,ks,es,rfl,hD,tb,?_⟩
 rw[<-hf D]
 exact ajw k
theorem zc{f:Kp284.Desk->Nat->Kp284.State×List Int}(ha:Ns.argc.getD j 0=1)(h0:j≠0)(hf:∀D (a:Nat),Kp284Neutral.step (some D) [[(j:Int),(a:Int)]]=f D a):∀vs H Q E,tD C CD Ts j vs H Q E->Qn C CD Ts f vs H Q E:=by
 rintro vs H Q E ⟨d,lk,le,st,as,rfl,hl,hb,hs,hj,tb,k⟩
 obtain⟨D,dx,po,ph,ks,es,rfl,hD⟩:=uD hs h0 hj
 obtain⟨a,rfl⟩:=len1 (hl.trans ha)
 refine⟨d,lk,le,dx,po,ph,D,ks,es,a,rfl,hb a (by simp),hD,tb,?_⟩
 rw[<-hf D a]
 exact ajw k
theorem adz{f:Kp284.Desk->Nat->Nat->Kp284.State×List Int}(ha:Ns.argc.getD j 0=2)(h0:j≠0)(hf:∀D (a b:Nat),Kp284Neutral.step (some D) [[(j:Int),(a:Int),(b:Int)]]=f D a b):∀vs H Q E,tD C CD Ts j vs H Q E->ahJ C CD Ts f vs H Q E:=by
 rintro vs H Q E ⟨d,lk,le,st,as,rfl,hl,hb,hs,hj,tb,k⟩
 obtain⟨D,dx,po,ph,ks,es,rfl,hD⟩:=uD hs h0 hj
 obtain⟨a,b,rfl⟩:=len2 (hl.trans ha)
 refine⟨d,lk,le,dx,po,ph,D,ks,es,a,b,rfl,hb a (by simp),hb b (by simp),hD,tb,?_⟩
 rw[<-hf D a b]
 exact ajw k
theorem BJ.gr{H H':Hp}{d lk le:Addr}{st:Kp284.State}(h:BJ C CD H d st lk le)(tb:dJ Ts H)(g:Gr Ts H H'):BJ C CD H' d st lk le:=by
 cases st with
 |none=>
  obtain⟨dx,h1,h2,h3,h4⟩:=h
  exact⟨dx,g.at tb h1 True.intro,g.at tb h2 True.intro,g.at tb h3 True.intro,h4⟩
 |some D=>exact nR.gr h tb g
theorem BJ.ins{H:Hp}{d lk le:Addr}{st:Kp284.State}(h:BJ C CD H d st lk le):∃dx v1 v2 v3,H d=some (.ins CD dx (pq v1 v2 v3 (.ref lk) (.ref le))):=by
 cases st with
 |none=>
  obtain⟨dx,h1,_⟩:=h
  exact⟨dx,_,_,_,h1⟩
 |some D=>
  obtain⟨dx,po,ph,ks,es,q⟩:=h
  exact⟨dx,_,_,_,q.ins⟩
theorem WT:∀vs H Q E,tD C CD Ts 0 vs H Q E->YF C CD Ts vs H Q E:=by
 rintro vs H Q E ⟨d,lk,le,st,as,rfl,hl,hb,hs,hj,tb,k⟩
 obtain⟨n,rfl⟩:=len1 hl
 obtain⟨dx,v1,v2,v3,hd⟩:=hs.ins
 have e:Kp284Neutral.step st [((0:Nat):Int)::zn [n]]=if Kp279.okN n=true then(some ⟨n,⟨1,0⟩,[],[]⟩,[0])else(st,[-22]):=Ns.amC st n
 rw[e]at k
 refine⟨d,dx,v1,v2,v3,_,_,n,rfl,hd,hb n (by simp),tb,fun hk l H' g el=>?_,fun hk l H' lk' le' hD h1 h2 f el=>?_⟩
 ·rw[if_neg (by rw[hk];decide)]at k
  exact k l H' lk le (hs.gr tb g) (.inl rfl) (.inl rfl) g.fr el
 ·rw[if_pos hk]at k
  exact k l H' lk' le' hD (.inr h1) (.inr h2) (f.mono fun a ha=>by rw[List.mem_singleton.mp ha];exact afT) el
end
section
variable{P:Program}{w:World}{K:W.Frag}{mg:Str->Option Value}{base:Heap}
variable(M:Facts K mg){Ts:List Tab}(L:bU mg base M Ts)
include L
theorem anP:Handler P w K mg base M.aq M.aA Ts 0 M.uc.a:=⟨⟨_,_,_,by decide,(adx M L).imp WT,ae3 M⟩,M.uc.F.kp⟩
theorem anQ:Handler P w K mg base M.aq M.aA Ts 1 M.gG.a:=⟨⟨_,_,_,by decide,(Ia M L).imp (adz (j:=1) rfl (by decide) (fun D _ _=>rfl)),Lp M⟩,M.gG.F.kp⟩
theorem anR:Handler P w K mg base M.aq M.aA Ts 2 M.yD.a:=⟨⟨_,_,_,by decide,(afV M L).imp (za (j:=2) rfl (by decide) (fun D=>rfl)),aiU M⟩,M.yD.F.kp⟩
theorem anS:Handler P w K mg base M.aq M.aA Ts 3 M.yE.a:=⟨⟨_,_,_,by decide,(afW M L).imp (zc (j:=3) rfl (by decide) (fun D _=>rfl)),aiV M⟩,M.yE.F.kp⟩
theorem anT:Handler P w K mg base M.aq M.aA Ts 4 M.yF.a:=⟨⟨_,_,_,by decide,(afX M L).imp (zc (j:=4) rfl (by decide) (fun D _=>rfl)),aiW M⟩,M.yF.F.kp⟩
theorem anU:Handler P w K mg base M.aq M.aA Ts 5 M.j9.a:=⟨⟨_,_,_,by decide,(RG M L).imp (zc (j:=5) rfl (by decide) (fun D _=>rfl)),Uv M⟩,M.j9.F.kp⟩
theorem anV:Handler P w K mg base M.aq M.aA Ts 6 M.kh.a:=⟨⟨_,_,_,by decide,(RJ M L).imp (zc (j:=6) rfl (by decide) (fun D _=>rfl)),Uw M⟩,M.kh.F.kp⟩
theorem anW:Handler P w K mg base M.aq M.aA Ts 7 M.n8.a:=⟨⟨_,_,_,by decide,(WQ M L).imp (zc (j:=7) rfl (by decide) (fun D _=>rfl)),Z5 M⟩,M.n8.F.kp⟩
theorem anY:Handler P w K mg base M.aq M.aA Ts 8 M.Uj.a:=⟨⟨_,_,_,by decide,(ak3 M L).imp (za (j:=8) rfl (by decide) (fun D=>rfl)),anq M⟩,M.Uj.F.kp⟩
theorem anZ:Handler P w K mg base M.aq M.aA Ts 9 M.yG.a:=⟨⟨_,_,_,by decide,(afY M L).imp (za (j:=9) rfl (by decide) (fun D=>rfl)),aiX M⟩,M.yG.F.kp⟩
theorem ak4:Handler P w K mg base M.aq M.aA Ts 10 M.oh.a:=⟨⟨_,_,_,by decide,(WR M L).imp (za (j:=10) rfl (by decide) (fun D=>rfl)),Z6 M⟩,M.oh.F.kp⟩
theorem ak5:Handler P w K mg base M.aq M.aA Ts 11 M.f_back.a:=⟨⟨_,_,_,by decide,(afZ M L).imp (za (j:=11) rfl (by decide) (fun D=>rfl)),aiY M⟩,M.f_back.F.kp⟩
theorem ak6:Handler P w K mg base M.aq M.aA Ts 12 M.mD.a:=⟨⟨_,_,_,by decide,(UL M L).imp (gk (j:=12) rfl (by decide) (fun D=>bw (Ns.af8 D))),Wg M⟩,M.mD.F.kp⟩
theorem ak7:Handler P w K mg base M.aq M.aA Ts 13 M.G3.a:=⟨⟨_,_,_,by decide,(ajm M L).imp (cB (j:=13) rfl (by decide) (fun D x0 x1=>bw (Ns.af9 D x0 x1))),akD M⟩,M.G3.F.kp⟩
theorem ak8:Handler P w K mg base M.aq M.aA Ts 14 M.mF.a:=⟨⟨_,_,_,by decide,(U3 M L).imp (gk (j:=14) rfl (by decide) (fun D=>bw (Ns.aga D))),Wh M⟩,M.mF.F.kp⟩
theorem ak9:Handler P w K mg base M.aq M.aA Ts 15 M.yt.a:=⟨⟨_,_,_,by decide,(afE M L).imp (cB (j:=15) rfl (by decide) (fun D x0 x1=>bw (Ns.agb D x0 x1))),aiP M⟩,M.yt.F.kp⟩
theorem ala:Handler P w K mg base M.aq M.aA Ts 16 M.yu.a:=⟨⟨_,_,_,by decide,(afB M L).imp (gk (j:=16) rfl (by decide) (fun D=>bw (Ns.agc D))),aiQ M⟩,M.yu.F.kp⟩
theorem alb:Handler P w K mg base M.aq M.aA Ts 17 M.j8.a:=⟨⟨_,_,_,by decide,(Rz M L).imp (gk (j:=17) rfl (by decide) (fun D=>bw (Ns.agd D))),Ut M⟩,M.j8.F.kp⟩
theorem alc:Handler P w K mg base M.aq M.aA Ts 18 M.kZ.a:=⟨⟨_,_,_,by decide,(Hg M L).imp (gk (j:=18) rfl (by decide) (fun D=>bw (Ns.aa5 D))),Ln M⟩,M.kZ.F.kp⟩
theorem ald:Handler P w K mg base M.aq M.aA Ts 19 M.yw.a:=⟨⟨_,_,_,by decide,(afz M L).imp (gk (j:=19) rfl (by decide) (fun D=>bw (Ns.agf D))),aiR M⟩,M.yw.F.kp⟩
theorem ale:Handler P w K mg base M.aq M.aA Ts 20 M.yx.a:=⟨⟨_,_,_,by decide,(afA M L).imp (gk (j:=20) rfl (by decide) (fun D=>bw (Ns.agg D))),aiS M⟩,M.yx.F.kp⟩
theorem alf:Handler P w K mg base M.aq M.aA Ts 21 M.qC.a:=⟨⟨_,_,_,by decide,(aam M L).imp (gk (j:=21) rfl (by decide) (fun D=>bw (Ns.agh D))),acR M⟩,M.qC.F.kp⟩
theorem alg:Handler P w K mg base M.aq M.aA Ts 22 M.uf.a:=⟨⟨_,_,_,by decide,(acZ M L).imp (gn (j:=22) rfl (by decide) (fun D x0=>bw (Ns.agi D x0))),ae6 M⟩,M.uf.F.kp⟩
theorem alh:Handler P w K mg base M.aq M.aA Ts 23 M.qD.a:=⟨⟨_,_,_,by decide,(aan M L).imp (cB (j:=23) rfl (by decide) (fun D x0 x1=>bw (Ns.agj D x0 x1))),acS M⟩,M.qD.F.kp⟩
theorem ali:Handler P w K mg base M.aq M.aA Ts 24 M.G6.a:=⟨⟨_,_,_,by decide,(aje M L).imp (gk (j:=24) rfl (by decide) (fun D=>bw (Ns.agk D))),akG M⟩,M.G6.F.kp⟩
theorem alj:Handler P w K mg base M.aq M.aA Ts 25 M.oE.a:=⟨⟨_,_,_,by decide,(Ws M L).imp (gn (j:=25) rfl (by decide) (fun D x0=>bw (Ns.agl D x0))),aac M⟩,M.oE.F.kp⟩
theorem alk:Handler P w K mg base M.aq M.aA Ts 26 M.oF.a:=⟨⟨_,_,_,by decide,(Wt M L).imp (gn (j:=26) rfl (by decide) (fun D x0=>bw (Ns.agm D x0))),aad M⟩,M.oF.F.kp⟩
theorem alm:Handler P w K mg base M.aq M.aA Ts 27 M.Uk.a:=⟨⟨_,_,_,by decide,(akM M L).imp (cB (j:=27) rfl (by decide) (fun D x0 x1=>bw (Ns.agn D x0 x1))),anr M⟩,M.Uk.F.kp⟩
theorem aln:Handler P w K mg base M.aq M.aA Ts 28 M.f_both.a:=⟨⟨_,_,_,by decide,(afm M L).imp (aaI (j:=28) rfl (by decide) (fun D x0 x1 x2 x3=>bw (Ns.ago D x0 x1 x2 x3))),ai1 M⟩,M.f_both.F.kp⟩
theorem alo:Handler P w K mg base M.aq M.aA Ts 29 M.yJ.a:=⟨⟨_,_,_,by decide,(afn M L).imp (gn (j:=29) rfl (by decide) (fun D x0=>bw (Ns.agp D x0))),ai2 M⟩,M.yJ.F.kp⟩
theorem alp:Handler P w K mg base M.aq M.aA Ts 30 M.ug.a:=⟨⟨_,_,_,by decide,(ac0 M L).imp (gn (j:=30) rfl (by decide) (fun D x0=>bw (Ns.agq D x0))),ae9 M⟩,M.ug.F.kp⟩
theorem alq:Handler P w K mg base M.aq M.aA Ts 31 M.G7.a:=⟨⟨_,_,_,by decide,(ajf M L).imp (gk (j:=31) rfl (by decide) (fun D=>bw (Ns.agr D))),akH M⟩,M.G7.F.kp⟩
theorem alr:Handler P w K mg base M.aq M.aA Ts 32 M.uh.a:=⟨⟨_,_,_,by decide,(ac1 M L).imp (gk (j:=32) rfl (by decide) (fun D=>bw (Ns.ags D))),afa M⟩,M.uh.F.kp⟩
theorem als:Handler P w K mg base M.aq M.aA Ts 33 M.oG.a:=⟨⟨_,_,_,by decide,(Wu M L).imp (gn (j:=33) rfl (by decide) (fun D x0=>bw (Ns.agt D x0))),aae M⟩,M.oG.F.kp⟩
theorem alu:Handler P w K mg base M.aq M.aA Ts 34 M.yK.a:=⟨⟨_,_,_,by decide,(afo M L).imp (gn (j:=34) rfl (by decide) (fun D x0=>bw (Ns.agu D x0))),ai5 M⟩,M.yK.F.kp⟩
theorem alv:Handler P w K mg base M.aq M.aA Ts 35 M.f_short.a:=⟨⟨_,_,_,by decide,(ac2 M L).imp (gk (j:=35) rfl (by decide) (fun D=>bw (Ns.agv D))),afb M⟩,M.f_short.F.kp⟩
theorem alw:Handler P w K mg base M.aq M.aA Ts 36 M.oH.a:=⟨⟨_,_,_,by decide,(Wv M L).imp (gn (j:=36) rfl (by decide) (fun D x0=>bw (Ns.agw D x0))),aaf M⟩,M.oH.F.kp⟩
theorem alx:Handler P w K mg base M.aq M.aA Ts 37 M.ig.a:=⟨⟨_,_,_,by decide,(Ux M L).imp (gn (j:=37) rfl (by decide) (fun D x0=>bw (Ns.agx D x0))),Wo M⟩,M.ig.F.kp⟩
theorem aly:Handler P w K mg base M.aq M.aA Ts 38 M.um.a:=⟨⟨_,_,_,by decide,(ac3 M L).imp (gn (j:=38) rfl (by decide) (fun D x0=>bw (Ns.agy D x0))),afc M⟩,M.um.F.kp⟩
theorem alz:Handler P w K mg base M.aq M.aA Ts 39 M.G5.a:=⟨⟨_,_,_,by decide,(ajk M L).imp (cB (j:=39) rfl (by decide) (fun D x0 x1=>bw (Ns.agz D x0 x1))),akF M⟩,M.G5.F.kp⟩
theorem alA:Handler P w K mg base M.aq M.aA Ts 40 M.qw.a:=⟨⟨_,_,_,by decide,(aar M L).imp (cB (j:=40) rfl (by decide) (fun D x0 x1=>bw (Ns.agA D x0 x1))),acN M⟩,M.qw.F.kp⟩
theorem alB:Handler P w K mg base M.aq M.aA Ts 41 M.ou.a:=⟨⟨_,_,_,by decide,(Wy M L).imp (cB (j:=41) rfl (by decide) (fun D x0 x1=>bw (Ns.agB D x0 x1))),Z8 M⟩,M.ou.F.kp⟩
theorem alC:Handler P w K mg base M.aq M.aA Ts 42 M.ud.a:=⟨⟨_,_,_,by decide,(ac4 M L).imp (gn (j:=42) rfl (by decide) (fun D x0=>bw (Ns.agC D x0))),ae5 M⟩,M.ud.F.kp⟩
theorem alD:Handler P w K mg base M.aq M.aA Ts 43 M.yH.a:=⟨⟨_,_,_,by decide,(aft M L).imp (gn (j:=43) rfl (by decide) (fun D x0=>bw (Ns.agD D x0))),aiZ M⟩,M.yH.F.kp⟩
theorem alE:Handler P w K mg base M.aq M.aA Ts 44 M.oA.a:=⟨⟨_,_,_,by decide,(Wz M L).imp (cB (j:=44) rfl (by decide) (fun D x0 x1=>bw (Ns.agE D x0 x1))),Z9 M⟩,M.oA.F.kp⟩
theorem alF:Handler P w K mg base M.aq M.aA Ts 45 M.qx.a:=⟨⟨_,_,_,by decide,(aas M L).imp (cB (j:=45) rfl (by decide) (fun D x0 x1=>bw (Ns.agF D x0 x1))),acO M⟩,M.qx.F.kp⟩
theorem alG:Handler P w K mg base M.aq M.aA Ts 46 M.mJ.a:=⟨⟨_,_,_,by decide,(Uy M L).imp (cB (j:=46) rfl (by decide) (fun D x0 x1=>bw (Ns.agG D x0 x1))),Wj M⟩,M.mJ.F.kp⟩
theorem alH:Handler P w K mg base M.aq M.aA Ts 47 M.yI.a:=⟨⟨_,_,_,by decide,(afu M L).imp (gn (j:=47) rfl (by decide) (fun D x0=>bw (Ns.agH D x0))),ai0 M⟩,M.yI.F.kp⟩
theorem alI:Handler P w K mg base M.aq M.aA Ts 48 M.qy.a:=⟨⟨_,_,_,by decide,(aat M L).imp (cB (j:=48) rfl (by decide) (fun D x0 x1=>bw (Ns.agI D x0 x1))),acP M⟩,M.qy.F.kp⟩
theorem alJ:Handler P w K mg base M.aq M.aA Ts 49 M.qz.a:=⟨⟨_,_,_,by decide,(aau M L).imp (cB (j:=49) rfl (by decide) (fun D x0 x1=>bw (Ns.agJ D x0 x1))),acQ M⟩,M.qz.F.kp⟩
theorem alK:Handler P w K mg base M.aq M.aA Ts 50 M.mK.a:=⟨⟨_,_,_,by decide,(UG M L).imp (gn (j:=50) rfl (by decide) (fun D x0=>bw (Ns.agK D x0))),Wk M⟩,M.mK.F.kp⟩
theorem alL:Handler P w K mg base M.aq M.aA Ts 51 M.tV.a:=⟨⟨_,_,_,by decide,(ac8 M L).imp (gk (j:=51) rfl (by decide) (fun D=>bw (Ns.agL D))),aeX M⟩,M.tV.F.kp⟩
theorem alM:Handler P w K mg base M.aq M.aA Ts 52 M.n6.a:=⟨⟨_,_,_,by decide,(WD M L).imp (gk (j:=52) rfl (by decide) (fun D=>bw (Ns.agM D))),Z4 M⟩,M.n6.F.kp⟩
theorem alN:Handler P w K mg base M.aq M.aA Ts 53 M.qu.a:=⟨⟨_,_,_,by decide,(aav M L).imp (cB (j:=53) rfl (by decide) (fun D x0 x1=>bw (Ns.agN D x0 x1))),acM M⟩,M.qu.F.kp⟩
theorem alO:Handler P w K mg base M.aq M.aA Ts 54 M.G4.a:=⟨⟨_,_,_,by decide,(ajl M L).imp (cB (j:=54) rfl (by decide) (fun D x0 x1=>bw (Ns.agO D x0 x1))),akE M⟩,M.G4.F.kp⟩
theorem alP:Handler P w K mg base M.aq M.aA Ts 55 M.tW.a:=⟨⟨_,_,_,by decide,(ada M L).imp (cB (j:=55) rfl (by decide) (fun D x0 x1=>bw (Ns.agP D x0 x1))),aeY M⟩,M.tW.F.kp⟩
theorem alQ:Handler P w K mg base M.aq M.aA Ts 56 M.yC.a:=⟨⟨_,_,_,by decide,(afC M L).imp (Gg (j:=56) rfl (by decide) (fun D x0 x1 x2=>bw (Ns.agQ D x0 x1 x2))),aiT M⟩,M.yC.F.kp⟩
theorem alR:Handler P w K mg base M.aq M.aA Ts 57 M.mH.a:=⟨⟨_,_,_,by decide,(UW M L).imp (Gg (j:=57) rfl (by decide) (fun D x0 x1 x2=>bw (Ns.agR D x0 x1 x2))),Wi M⟩,M.mH.F.kp⟩
theorem alS:Handler P w K mg base M.aq M.aA Ts 58 M.f_bound.a:=⟨⟨_,_,_,by decide,(adb M L).imp (gn (j:=58) rfl (by decide) (fun D x0=>bw (Ns.agS D x0))),aeZ M⟩,M.f_bound.F.kp⟩
theorem alT:Handler P w K mg base M.aq M.aA Ts 59 M.tX.a:=⟨⟨_,_,_,by decide,(adf M L).imp (cB (j:=59) rfl (by decide) (fun D x0 x1=>bw (Ns.agT D x0 x1))),ae0 M⟩,M.tX.F.kp⟩
theorem alU:Handler P w K mg base M.aq M.aA Ts 60 M.tY.a:=⟨⟨_,_,_,by decide,(ade M L).imp (Gg (j:=60) rfl (by decide) (fun D x0 x1 x2=>bw (Ns.agU D x0 x1 x2))),ae1 M⟩,M.tY.F.kp⟩
theorem alV:Handler P w K mg base M.aq M.aA Ts 61 M.tZ.a:=⟨⟨_,_,_,by decide,(ac9 M L).imp (gk (j:=61) rfl (by decide) (fun D=>bw (Ns.agV D))),ae2 M⟩,M.tZ.F.kp⟩
theorem alW:Handler P w K mg base M.aq M.aA Ts 62 M.qF.a:=⟨⟨_,_,_,by decide,(aaD M L).imp (cB (j:=62) rfl (by decide) (fun D x0 x1=>bw (Ns.agW D x0 x1))),acT M⟩,M.qF.F.kp⟩
theorem alX:Handler P w K mg base M.aq M.aA Ts 63 M.mL.a:=⟨⟨_,_,_,by decide,(U4 M L).imp (cB (j:=63) rfl (by decide) (fun D x0 x1=>bw (Ns.agX D x0 x1))),Wm M⟩,M.mL.F.kp⟩
theorem alY:Handler P w K mg base M.aq M.aA Ts 64 M.gH.a:=⟨⟨_,_,_,by decide,(HY M L).imp (cB (j:=64) rfl (by decide) (fun D x0 x1=>bw (Ns.agY D x0 x1))),Lq M⟩,M.gH.F.kp⟩
theorem alZ:Handler P w K mg base M.aq M.aA Ts 65 M.iI.a:=⟨⟨_,_,_,by decide,(Mh M L).imp (cB (j:=65) rfl (by decide) (fun D x0 x1=>bw (Ns.agZ D x0 x1))),NT M⟩,M.iI.F.kp⟩
theorem al0:Handler P w K mg base M.aq M.aA Ts 66 M.iJ.a:=⟨⟨_,_,_,by decide,(Mi M L).imp (cB (j:=66) rfl (by decide) (fun D x0 x1=>bw (Ns.ag0 D x0 x1))),NZ M⟩,M.iJ.F.kp⟩
theorem al1:Handler P w K mg base M.aq M.aA Ts 67 M.iK.a:=⟨⟨_,_,_,by decide,(Mj M L).imp (cB (j:=67) rfl (by decide) (fun D x0 x1=>bw (Ns.ag1 D x0 x1))),N5 M⟩,M.iK.F.kp⟩
theorem al2:Handler P w K mg base M.aq M.aA Ts 68 M.jG.a:=⟨⟨_,_,_,by decide,(N8 M L).imp (cB (j:=68) rfl (by decide) (fun D x0 x1=>bw (Ns.ag2 D x0 x1))),Ru M⟩,M.jG.F.kp⟩
theorem al3:Handler P w K mg base M.aq M.aA Ts 69 M.mO.a:=⟨⟨_,_,_,by decide,(U5 M L).imp (cB (j:=69) rfl (by decide) (fun D x0 x1=>bw (Ns.ag3 D x0 x1))),Wn M⟩,M.mO.F.kp⟩
end
theorem mR{K:W.Frag}{tps:List Addr}{q:Nat}{n:Int}{f:Addr}{H:Addr->Prop}(t:cI K tps q [.ref f,.int n])(h:H f):∃tp f,tps[q]?=some tp/\TupIn K tp [.ref f,.int n]/\H f:=let⟨a,h1,h2⟩:=t;⟨a,f,h1,h2,h⟩
structure ajx{K:W.Frag}{mg:Str->Option Value}(M:Facts K mg):Prop where
 RK:M.cu.length=12
 RL:M.dG.length=9
 RM:M.dH.length=9
 U8:M.eV.length=9
 Mp:M.bL.length=12
 U9:M.dg.length=11
 Mq:M.cT.length=8
theorem Mr{P:Program}{w:World}{K:W.Frag}{mg:Str->Option Value}{base:Heap}(M:Facts K mg){Ts:List Tab}(L:bU mg base M Ts):∀q,q<12->∃tp f,M.cu[q]?=some tp/\TupIn K tp [.ref f,.int (Ns.argc.getD (0+q) 0:Nat)]/\Handler P w K mg base M.aq M.aA Ts (0+q) f
 |0,_=>mR M.KD (anP M L)
 |1,_=>mR M.KH (anQ M L)
 |2,_=>mR M.KJ (anR M L)
 |3,_=>mR M.KN (anS M L)
 |4,_=>mR M.KQ (anT M L)
 |5,_=>mR M.KR (anU M L)
 |6,_=>mR M.KY (anV M L)
 |7,_=>mR M.K4 (anW M L)
 |8,_=>mR M.K5 (anY M L)
 |9,_=>mR M.K6 (anZ M L)
 |10,_=>mR M.HJ (ak4 M L)
 |11,_=>mR M.HN (ak5 M L)
 |_+12,h=>absurd h (by omega)
theorem Ms{P:Program}{w:World}{K:W.Frag}{mg:Str->Option Value}{base:Heap}(M:Facts K mg){Ts:List Tab}(L:bU mg base M Ts):∀q,q<9->∃tp f,M.dG[q]?=some tp/\TupIn K tp [.ref f,.int (Ns.argc.getD (12+q) 0:Nat)]/\Handler P w K mg base M.aq M.aA Ts (12+q) f
 |0,_=>mR M.Km (ak6 M L)
 |1,_=>mR M.Ko (ak7 M L)
 |2,_=>mR M.Kr (ak8 M L)
 |3,_=>mR M.Ks (ak9 M L)
 |4,_=>mR M.Ku (ala M L)
 |5,_=>mR M.Kv (alb M L)
 |6,_=>mR M.Kw (alc M L)
 |7,_=>mR M.Ky (ald M L)
 |8,_=>mR M.Kz (ale M L)
 |_+9,h=>absurd h (by omega)
theorem Mt{P:Program}{w:World}{K:W.Frag}{mg:Str->Option Value}{base:Heap}(M:Facts K mg){Ts:List Tab}(L:bU mg base M Ts):∀q,q<9->∃tp f,M.dH[q]?=some tp/\TupIn K tp [.ref f,.int (Ns.argc.getD (21+q) 0:Nat)]/\Handler P w K mg base M.aq M.aA Ts (21+q) f
 |0,_=>mR M.K7 (alf M L)
 |1,_=>mR M.K8 (alg M L)
 |2,_=>mR M.K9 (alh M L)
 |3,_=>mR M.La (ali M L)
 |4,_=>mR M.Lb (alj M L)
 |5,_=>mR M.Ld (alk M L)
 |6,_=>mR M.Le (alm M L)
 |7,_=>mR M.Lf (aln M L)
 |8,_=>mR M.Lg (alo M L)
 |_+9,h=>absurd h (by omega)
theorem Ob{P:Program}{w:World}{K:W.Frag}{mg:Str->Option Value}{base:Heap}(M:Facts K mg){Ts:List Tab}(L:bU mg base M Ts):∀q,q<9->∃tp f,M.eV[q]?=some tp/\TupIn K tp [.ref f,.int (Ns.argc.getD (30+q) 0:Nat)]/\Handler P w K mg base M.aq M.aA Ts (30+q) f
 |0,_=>mR M.Nm (alp M L)
 |1,_=>mR M.Np (alq M L)
 |2,_=>mR M.Nr (alr M L)
 |3,_=>mR M.Nt (als M L)
 |4,_=>mR M.Nu (alu M L)
 |5,_=>mR M.Nv (alv M L)
 |6,_=>mR M.Ny (alw M L)
 |7,_=>mR M.Nz (alx M L)
 |8,_=>mR M.NK (aly M L)
 |_+9,h=>absurd h (by omega)
theorem Gh{P:Program}{w:World}{K:W.Frag}{mg:Str->Option Value}{base:Heap}(M:Facts K mg){Ts:List Tab}(L:bU mg base M Ts):∀q,q<12->∃tp f,M.bL[q]?=some tp/\TupIn K tp [.ref f,.int (Ns.argc.getD (39+q) 0:Nat)]/\Handler P w K mg base M.aq M.aA Ts (39+q) f
 |0,_=>mR M.Fd (alz M L)
 |1,_=>mR M.Fe (alA M L)
 |2,_=>mR M.Fg (alB M L)
 |3,_=>mR M.Fi (alC M L)
 |4,_=>mR M.Fj (alD M L)
 |5,_=>mR M.Fl (alE M L)
 |6,_=>mR M.Fo (alF M L)
 |7,_=>mR M.Fp (alG M L)
 |8,_=>mR M.Fq (alH M L)
 |9,_=>mR M.Ft (alI M L)
 |10,_=>mR M.Dr (alJ M L)
 |11,_=>mR M.Ds (alK M L)
 |_+12,h=>absurd h (by omega)
theorem Oc{P:Program}{w:World}{K:W.Frag}{mg:Str->Option Value}{base:Heap}(M:Facts K mg){Ts:List Tab}(L:bU mg base M Ts):∀q,q<11->∃tp f,M.dg[q]?=some tp/\TupIn K tp [.ref f,.int (Ns.argc.getD (51+q) 0:Nat)]/\Handler P w K mg base M.aq M.aA Ts (51+q) f
 |0,_=>mR M.M6 (alL M L)
 |1,_=>mR M.M7 (alM M L)
 |2,_=>mR M.M8 (alN M L)
 |3,_=>mR M.M9 (alO M L)
 |4,_=>mR M.Nb (alP M L)
 |5,_=>mR M.Nf (alQ M L)
 |6,_=>mR M.Ng (alR M L)
 |7,_=>mR M.Ni (alS M L)
 |8,_=>mR M.Nj (alT M L)
 |9,_=>mR M.Nk (alU M L)
 |10,_=>mR M.KC (alV M L)
 |_+11,h=>absurd h (by omega)
theorem Gi{P:Program}{w:World}{K:W.Frag}{mg:Str->Option Value}{base:Heap}(M:Facts K mg){Ts:List Tab}(L:bU mg base M Ts):∀q,q<8->∃tp f,M.cT[q]?=some tp/\TupIn K tp [.ref f,.int (Ns.argc.getD (62+q) 0:Nat)]/\Handler P w K mg base M.aq M.aA Ts (62+q) f
 |0,_=>mR M.Fv (alW M L)
 |1,_=>mR M.Fw (alX M L)
 |2,_=>mR M.Fx (alY M L)
 |3,_=>mR M.Fy (alZ M L)
 |4,_=>mR M.Fz (al0 M L)
 |5,_=>mR M.FJ (al1 M L)
 |6,_=>mR M.FN (al2 M L)
 |7,_=>mR M.FP (al3 M L)
 |_+8,h=>absurd h (by omega)
section
variable{P:Program}{w:World}{K:W.Frag}{mg:Str->Option Value}{base:Heap}
def adA(P:Program)(w:World)(K:W.Frag)(mg:Str->Option Value)(base:Heap)(C CD:Addr)(Ts:List Tab):Sp:=fun vs H Q _=>∃j:Nat,vs=[.int j]/\j<70/\∀tp f,TupIn K tp [.ref f,.int (Ns.argc.getD j 0:Nat)]->Handler P w K mg base C CD Ts j f->Q (.ref tp) H
theorem in_tab{d lo:Nat}{tp:List Addr}{j:Nat}{H:Hp}{Q:VK}(D:jD K d lo tp)(h:lo<=j)(h2:j<lo+tp.length)(q:Q (.bl true) H):aeC K Q (.ref d) (.int (j:Nat)) H:=by
 obtain⟨es,hd,hl⟩:=D
 refine⟨d,es,(j:Nat),rfl,hd,rfl,?_⟩
 rw[hl,if_pos h,List.getElem?_eq_getElem (show j-lo<tp.length by omega)]
 exact q
theorem zH{d lo:Nat}{tp:List Addr}{j:Nat}{H:Hp}{Q:VK}(D:jD K d lo tp)(h2:lo+tp.length<=j)(q:Q (.bl false) H):aeC K Q (.ref d) (.int (j:Nat)) H:=by
 obtain⟨es,hd,hl⟩:=D
 refine⟨d,es,(j:Nat),rfl,hd,rfl,?_⟩
 rw[hl,if_pos (by omega),List.getElem?_eq_none_iff.mpr (show tp.length<=j-lo by omega)]
 exact q
theorem v8{d lo:Nat}{tp:List Addr}{j:Nat}{a:Addr}{H:Hp}{Q:VK}(D:jD K d lo tp)(h:lo<=j)(e:tp[j-lo]?=some a)(q:Q (.ref a) H):dgK K Q (.ref d) (.int (j:Nat)) H:=by
 obtain⟨es,hd,hl⟩:=D
 refine RB hd ?_ q
 rw[hl,if_pos h,e]
 rfl
theorem WW(M:Facts K mg){Ts:List Tab}(L:bU mg base M Ts)(Z:ajx M):bf P w K mg base cV 1 M.rJ.a M.rJ.fd ["number"] (adA P w K mg base M.aq M.aA Ts):=by
 refine M.rJ.F.ok Wc (fun vs H Q E h=>?_) (fun cdv A outer s H vs Q E hr h=>?_)
 ·obtain⟨j,rfl,_⟩:=h
  rfl
 ·obtain⟨j,rfl,hj,k⟩:=h
  have z1:=Z.RK
  have z2:=Z.RL
  have z3:=Z.RM
  have z4:=Z.U8
  have z5:=Z.Mp
  have z6:=Z.U9
  have z7:=Z.Mq
  refine⟨_,(aj (bC (lW (zy (pv 0) (iZ rfl M.Dq (v:=.ref M.rD) rfl))) (ak (au (nJ (iZ rfl M.Dq (v:=.ref M.rD) rfl) (pv 0) (fun _ _=>rfl)))) aU) (aj (bC (lW (zy (pv 0) (iZ rfl M.Dn (v:=.ref M.rC) rfl))) (ak (au (nJ (iZ rfl M.Dn (v:=.ref M.rC) rfl) (pv 0) (fun _ _=>rfl)))) aU) (aj (bC (lW (zy (pv 0) (iZ rfl M.Dt (v:=.ref M.rE) rfl))) (ak (au (nJ (iZ rfl M.Dt (v:=.ref M.rE) rfl) (pv 0) (fun _ _=>rfl)))) aU) (aj (bC (lW (zy (pv 0) (iZ rfl M.G9 (v:=.ref M.uq) rfl))) (ak (au (nJ (iZ rfl M.G9 (v:=.ref M.uq) rfl) (pv 0) (fun _ _=>rfl)))) aU) (aj (bC (lW (zy (pv 0) (iZ rfl M.yO (v:=.ref M.oY) rfl))) (ak (au (nJ (iZ rfl M.yO (v:=.ref M.oY) rfl) (pv 0) (fun _ _=>rfl)))) aU) (aj (bC (lW (zy (pv 0) (iZ rfl M.G8 (v:=.ref M.uo) rfl))) (ak (au (nJ (iZ rfl M.G8 (v:=.ref M.uo) rfl) (pv 0) (fun _ _=>rfl)))) aU) (ak (au (nJ (iZ rfl M.Lh (v:=.ref M.sS) rfl) (pv 0) (fun _ _=>rfl)))))))))),?_⟩
  rfl'
  with_reducible refine zG ?_
  rfl'
  by_cases c1:j<12
  ·refine in_tab M.vM (Nat.zero_le _) (by omega) ?_
   rfl'
   refine bJ ?_
   rfl'
   with_reducible refine uN ?_
   rfl'
   obtain⟨tp,f,e,t,hn⟩:=Mr (P:=P) (w:=w) M L j c1
   rw[Nat.zero_add]at t hn
   exact v8 M.vM (Nat.zero_le _) (by rw[Nat.sub_zero];exact e) (k tp f t hn)
  ·refine zH M.vM (by omega) ?_
   rfl'
   refine cR ?_
   rfl'
   with_reducible refine zG ?_
   rfl'
   by_cases c2:j<21
   ·refine in_tab M.vL (by omega) (by omega) ?_
    rfl'
    refine bJ ?_
    rfl'
    with_reducible refine uN ?_
    rfl'
    obtain⟨tp,f,e,t,hn⟩:=Ms (P:=P) (w:=w) M L (j-12) (by omega)
    rw[show 12+(j-12)=j by omega]at t hn
    exact v8 M.vL (by omega) e (k tp f t hn)
   ·refine zH M.vL (by omega) ?_
    rfl'
    refine cR ?_
    rfl'
    with_reducible refine zG ?_
    rfl'
    by_cases c3:j<30
    ·refine in_tab M.vN (by omega) (by omega) ?_
     rfl'
     refine bJ ?_
     rfl'
     with_reducible refine uN ?_
     rfl'
     obtain⟨tp,f,e,t,hn⟩:=Mt (P:=P) (w:=w) M L (j-21) (by omega)
     rw[show 21+(j-21)=j by omega]at t hn
     exact v8 M.vN (by omega) e (k tp f t hn)
    ·refine zH M.vN (by omega) ?_
     rfl'
     refine cR ?_
     rfl'
     with_reducible refine zG ?_
     rfl'
     by_cases c4:j<39
     ·refine in_tab M.yP (by omega) (by omega) ?_
      rfl'
      refine bJ ?_
      rfl'
      with_reducible refine uN ?_
      rfl'
      obtain⟨tp,f,e,t,hn⟩:=Ob (P:=P) (w:=w) M L (j-30) (by omega)
      rw[show 30+(j-30)=j by omega]at t hn
      exact v8 M.yP (by omega) e (k tp f t hn)
     ·refine zH M.yP (by omega) ?_
      rfl'
      refine cR ?_
      rfl'
      with_reducible refine zG ?_
      rfl'
      by_cases c5:j<51
      ·refine in_tab M.sO (by omega) (by omega) ?_
       rfl'
       refine bJ ?_
       rfl'
       with_reducible refine uN ?_
       rfl'
       obtain⟨tp,f,e,t,hn⟩:=Gh (P:=P) (w:=w) M L (j-39) (by omega)
       rw[show 39+(j-39)=j by omega]at t hn
       exact v8 M.sO (by omega) e (k tp f t hn)
      ·refine zH M.sO (by omega) ?_
       rfl'
       refine cR ?_
       rfl'
       with_reducible refine zG ?_
       rfl'
       by_cases c6:j<62
       ·refine in_tab M.yN (by omega) (by omega) ?_
        rfl'
        refine bJ ?_
        rfl'
        with_reducible refine uN ?_
        rfl'
        obtain⟨tp,f,e,t,hn⟩:=Oc (P:=P) (w:=w) M L (j-51) (by omega)
        rw[show 51+(j-51)=j by omega]at t hn
        exact v8 M.yN (by omega) e (k tp f t hn)
       ·refine zH M.yN (by omega) ?_
        rfl'
        refine cR ?_
        rfl'
        with_reducible refine uN ?_
        rfl'
        obtain⟨tp,f,e,t,hn⟩:=Gi (P:=P) (w:=w) M L (j-62) (by omega)
        rw[show 62+(j-62)=j by omega]at t hn
        exact v8 M.Li (by omega) e (k tp f t hn)
def WX(P:Program)(w:World)(K:W.Frag)(mg:Str->Option Value)(base:Heap)(C CD:Addr)(Ts:List Tab):Sp:=fun vs H Q _=>∃(j:Nat)(f d row:Addr)(as:List Nat),vs=[.ref f,.ref d,.ref row]/\Handler P w K mg base C CD Ts j f/\H row=some (.lst (vn as))/\as.length<=4/\tD C CD Ts j (.ref d::vn as) H Q E0
theorem Va(M:Facts K mg){Ts:List Tab}(L:bU mg base M Ts):bf P w K mg base cV 16 M.pN.a M.pN.fd ["action","desk","row"] (WX P w K mg base M.aq M.aA Ts):=by
 refine M.pN.F.ok Ui (fun vs H Q E h=>?_) (fun cdv A outer s H vs Q E hr h=>?_)
 ·obtain⟨j,f,d,row,as,rfl,_⟩:=h
  rfl
 ·obtain⟨j,f,d,row,as,rfl,hn,hrow,hlen,hcall⟩:=h
  obtain⟨⟨kk,fd,ps,hk,ok,hb⟩,kp⟩:=hn
  refine⟨_,(aj (bC (iM lA (bK bH rfl M.lR (by decide+kernel) (bO (pv 2))) aC) (ak (au (uV 0 rfl (by first|exact Or.inl rfl|exact Or.inr (Or.inl rfl)) (bO (pv 1))))) aU) (aj (bC (iM lA (bK bH rfl M.lR (by decide+kernel) (bO (pv 2))) aC) (ak (au (uV 0 rfl (by first|exact Or.inl rfl|exact Or.inr (Or.inl rfl)) (dh (pv 1) (iz eG (pv 2) aC (fun _ _=>rfl)))))) aU) (aj (bC (iM lA (bK bH rfl M.lR (by decide+kernel) (bO (pv 2))) aC) (ak (au (uV 0 rfl (by first|exact Or.inl rfl|exact Or.inr (Or.inl rfl)) (nU (pv 1) (iz eG (pv 2) aC (fun _ _=>rfl)) (iz eG (pv 2) aC (fun _ _=>rfl)))))) aU) (aj (bC (iM lA (bK bH rfl M.lR (by decide+kernel) (bO (pv 2))) aC) (ak (au (uV 0 rfl (by first|exact Or.inl rfl|exact Or.inr (Or.inl rfl)) (cU (pv 1) (nU (iz eG (pv 2) aC (fun _ _=>rfl)) (iz eG (pv 2) aC (fun _ _=>rfl)) (iz eG (pv 2) aC (fun _ _=>rfl))))))) aU) (ak (au (uV 0 rfl (by first|exact Or.inl rfl|exact Or.inr (Or.inl rfl)) (cU (pv 1) (cU (iz eG (pv 2) aC (fun _ _=>rfl)) (nU (iz eG (pv 2) aC (fun _ _=>rfl)) (iz eG (pv 2) aC (fun _ _=>rfl)) (iz eG (pv 2) aC (fun _ _=>rfl)))))))))))),?_⟩
  rfl'
  refine⟨_,_,rfl,.inl (cY.of hrow),?_⟩
  rfl'
  match as,hlen with
  |[],_=>
   refine bJ ?_
   rfl'
   refine⟨f,_,rfl,⟨⟨kk,fd,ps,ok,hr.mono (by omega),hb⟩,kp⟩,?_⟩
   rfl'
   exact hcall
  |[a],_=>
   refine cR ?_
   rfl'
   refine⟨_,_,rfl,.inl (cY.of hrow),?_⟩
   rfl'
   refine bJ ?_
   rfl'
   refine⟨f,_,rfl,⟨⟨kk,fd,ps,ok,hr.mono (by omega),hb⟩,kp⟩,?_⟩
   rfl'
   refine gQ (cY.of hrow) (gq (j:=0) rfl) ?_
   rfl'
   exact hcall
  |[a,b],_=>
   refine cR ?_
   rfl'
   refine⟨_,_,rfl,.inl (cY.of hrow),?_⟩
   rfl'
   refine cR ?_
   rfl'
   refine⟨_,_,rfl,.inl (cY.of hrow),?_⟩
   rfl'
   refine bJ ?_
   rfl'
   refine⟨f,_,rfl,⟨⟨kk,fd,ps,ok,hr.mono (by omega),hb⟩,kp⟩,?_⟩
   rfl'
   refine gQ (cY.of hrow) (gq (j:=0) rfl) ?_
   rfl'
   refine gQ (cY.of hrow) (gq (j:=1) rfl) ?_
   rfl'
   exact hcall
  |[a,b,c],_=>
   refine cR ?_
   rfl'
   refine⟨_,_,rfl,.inl (cY.of hrow),?_⟩
   rfl'
   refine cR ?_
   rfl'
   refine⟨_,_,rfl,.inl (cY.of hrow),?_⟩
   rfl'
   refine cR ?_
   rfl'
   refine⟨_,_,rfl,.inl (cY.of hrow),?_⟩
   rfl'
   refine bJ ?_
   rfl'
   refine⟨f,_,rfl,⟨⟨kk,fd,ps,ok,hr.mono (by omega),hb⟩,kp⟩,?_⟩
   rfl'
   refine gQ (cY.of hrow) (gq (j:=0) rfl) ?_
   rfl'
   refine gQ (cY.of hrow) (gq (j:=1) rfl) ?_
   rfl'
   refine gQ (cY.of hrow) (gq (j:=2) rfl) ?_
   rfl'
   exact hcall
  |[a,b,c,e],_=>
   refine cR ?_
   rfl'
   refine⟨_,_,rfl,.inl (cY.of hrow),?_⟩
   rfl'
   refine cR ?_
   rfl'
   refine⟨_,_,rfl,.inl (cY.of hrow),?_⟩
   rfl'
   refine cR ?_
   rfl'
   refine⟨_,_,rfl,.inl (cY.of hrow),?_⟩
   rfl'
   refine cR ?_
   rfl'
   refine⟨f,_,rfl,⟨⟨kk,fd,ps,ok,hr.mono (by omega),hb⟩,kp⟩,?_⟩
   rfl'
   refine gQ (cY.of hrow) (gq (j:=0) rfl) ?_
   rfl'
   refine gQ (cY.of hrow) (gq (j:=1) rfl) ?_
   rfl'
   refine gQ (cY.of hrow) (gq (j:=2) rfl) ?_
   rfl'
   refine gQ (cY.of hrow) (gq (j:=3) rfl) ?_
   rfl'
   exact hcall
  |_::_::_::_::_::_,h=>exact absurd h (by simp)
end
theorem BJ.put{C CD:Addr}{H:Hp}{d lk le t:Addr}{st:Kp284.State}{o o':HO}(h:BJ C CD H d st lk le)(e:H t=some o)(n:∀C dx fs,o≠.ins C dx fs)(n1:t≠lk)(n2:t≠le):BJ C CD (upd H t o') d st lk le:=by
 have up:∀{b C dx fs},H b=some (.ins C dx fs)->(upd H t o') b=some (.ins C dx fs):=fun{b C dx fs} q=>by
  rw[aH (fun z=>by rw[z,e]at q;exact n _ _ _ (Option.some.inj q))]
  exact q
 have upP:∀a z,aP C H a z->aP C (upd H t o') a z:=fun a z ⟨dx,q⟩=>⟨dx,up q⟩
 cases st with
 |none=>
  obtain⟨dx,h1,h2,h3,h4⟩:=h
  exact⟨dx,up h1,by rw[aH n1.symm];exact h2,by rw[aH n2.symm];exact h3,h4⟩
 |some D=>
  obtain⟨dx,po,ph,ks,es,q⟩:=h
  exact⟨dx,po,ph,ks,es,up q.ins,upP _ _ q.one,upP _ _ q.hand,by rw[aH n1.symm];exact q.kept,q.jE.imp upP,by rw[aH n2.symm];exact q.xT,q.zN.imp upP,q.ne,q.wf⟩
theorem ajy{K:W.Frag}{H:Hp}{a:Addr}{xs:List V}(h:cY K H a xs):∃oo:Option HO,(∀H':Hp,(∀o,oo=some o->H' a=some o)->cY K H' a xs)/\∀o,oo=some o->H a=some o/\abZ o/\(∀C dx fs,o≠.ins C dx fs)/\(∀ys,o=.lst ys->ys=xs):=by
 rcases h with(h|⟨oo,h⟩)|h
 ·refine⟨some (.lst xs),fun H' q=> .inl (.inl (q _ rfl)),fun o e=>?_⟩
  cases e
  exact⟨h,True.intro,(fun _ _ _ z=>nomatch z),fun ys z=>by cases z;rfl⟩
 ·refine⟨some (.nG oo (.lst xs)),fun H' q=> .inl (.inr ⟨oo,q _ rfl⟩),fun o e=>?_⟩
  cases e
  exact⟨h,True.intro,(fun _ _ _ z=>nomatch z),(fun ys z=>nomatch z)⟩
 ·exact⟨none,fun H' _=> .inr h,(fun o e=>nomatch e)⟩
theorem adC{t:TS}{σ:L2.St}{H:Hp}{D:Ends}(h:∃d u,H d=some u/\Mut (some u)/\∀od,t ⟨fun σ' H'=>H' d=some (.nG od u)/\D.nx σ' (upd H' d u),fun v H'=>H' d=some (.nG od u)/\D.rt v (upd H' d u),fun σ' H'=>H' d=some (.nG od u)/\D.bk σ' (upd H' d u),fun σ' H'=>H' d=some (.nG od u)/\D.ct σ' (upd H' d u)⟩ σ (upd H d (.nG od u))):abL t D σ H:=h
theorem an0(ms:List Nat)(p q:Nat)(h:p+q<=ms.length):Mw (vn ms) (some ((p:Nat):Int)) (some ((p+q:Nat):Int))=vn ((ms.drop p).take q):=by
 unfold Mw
 rw[HT.Xp,HT.Xp,List.length_map,show min p ms.length=p by omega,show min (p+q) ms.length=p+q by omega,show p+q-p=q by omega]
 show List.take q (List.drop p (ms.map fun(a:Nat)=>V.int (a:Nat)))=((ms.drop p).take q).map fun(a:Nat)=>V.int (a:Nat)
 rw[List.map_take,List.map_drop]
section
variable{P:Program}{w:World}{K:W.Frag}{mg:Str->Option Value}{base:Heap}
noncomputable abbrev lH(st:Kp284.State)(cs:List (List (List Int))):List Int:=PyFlat.told (PyFlat.played Kp284Neutral.step st cs)
def zJ(K:W.Frag)(Ts:List Tab):Sp:=fun vs H Q _=>∃(a:Addr)(ms:List Nat)(cs:List (List (List Int))),vs=[.ref a]/\cY K H a (vn ms)/\ms.length<=1000/\(∀m∈ms,m<2^32)/\PyFlat.calls PyKp284.shape ms.length (zn ms)=some cs/\(lH Kp284Neutral.start cs).length<=10000000/\dJ Ts H/\
 ∀(H':Hp)(l:Addr),H' l=some (.lst ((lH Kp284Neutral.start cs).map V.int))->Q (.ref l) H'
theorem WY(M:Facts K mg){Ts:List Tab}(L:bU mg base M Ts)(Z:ajx M):bf P w K mg base cV 17 M.rK.a M.rK.fd ["calls"] (zJ K Ts):=by
 refine M.rK.F.ok jM (fun vs H Q E h=>?_) (fun cdv A outer s H vs Q E hr h=>?_)
 ·obtain⟨a,ms,cs,rfl,_⟩:=h
  rfl
 ·obtain⟨a,ms,cs,rfl,hS,hlen,hms,hcs,hshort,tb,k⟩:=h
  obtain⟨oo,ha1,ha2⟩:=ajy hS
  refine⟨_,(aj (jz 1 jM.nd (abz M.aiO (Ge M) (hr.mono (by decide)) rfl M.aiN (HW M) .nil pA)) (aj (jz 2 jM.nd (aO lZ)) (aj (jz 3 jM.nd aC) (aj (qj PassesOwn.never (iM oM (pv 3) (bK bH rfl M.lR (by decide+kernel) (bO (pv 0)))) (aj (jz 4 jM.nd (iz eG (pv 0) (pv 3) (fun _ _=>rfl))) (aj (jz 5 jM.nd (bQ M.rJ (WW M L Z) hr (aag M) (bO (pv 4)))) (aj (jz 6 jM.nd (aM dX (aM dX (pv 3) aC) (iz xG (pv 5) aC (fun _ _=>rfl)))) (aj (XF (bC (PW.pt (QH (lW (xr (aK M.aB M.aR (pv 1)))) (Ii (iM xu (pv 4) (fD M.aeV))))) (ak (jz 7 jM.nd (aO (bO (fD M.Um))))) (ak (jz 7 jM.nd (bQ M.pN (Va M L) hr (Wq M) (nU (iz xG (pv 5) aC (fun _ _=>rfl)) (pv 1) (S6 Xu (pv 0) (QT (aM dX (pv 3) aC)) (QT (pv 6))))))))) (aj (nP (zM PySem.F.plainAttrs_list PySem.F.slot_list_append PySem.F.type_list_append uR (pv 2) (bO (bK bH rfl M.lR (by decide+kernel) (bO (pv 7)))))) (aj (nP (zM PySem.F.plainAttrs_list PySem.F.slot_list_extend PySem.F.type_list_extend Ef (pv 2) (bO (pv 7)))) (ak (jz 3 jM.nd (pv 6)))))))))) (ak (au (pv 2))))))),?_⟩
  with_reducible refine dj ?_
  with_reducible refine gB ?_
  refine aeA ?_
  rfl'
  intro d dx nd ndx nne
  refine⟨d,dx,rfl,aG,fun H1 lk le e1 ek ee nkl flk fle k1=>⟨rfl,?_⟩⟩
  have s1:Same H H1:=Same.made nd ndx k1
  have g1:=Gr.same tb s1
  rfl'
  refine cJ (Nat.zero_le _) fun t ht=>?_
  have s2:=Same.upd H1 (.lst []) ht
  have g2:=g1.trans (Gr.same g1.1 s2)
  have n1:t≠lk:=fun z=>by rw[z,ek]at ht;cases ht
  have n2:t≠le:=fun z=>by rw[z,ee]at ht;cases ht
  rfl'
  have hat:∀o,oo=some o->a≠t:=fun o e z=>by
   rw[<-z,s1 _ _ (ha2 o e).1]at ht
   cases ht
  have fd:∀b,(upd (upd H dx (.own d)) d (.ins M.aA dx [])) b=none->H b=none:=fun b hb=>by
   by_cases q:b=d
   ·subst q;exact nd
   ·rw[aH q]at hb
    by_cases q2:b=dx
    ·subst q2;exact ndx
    ·rw[aH q2]at hb
     exact hb
  have al4:∀o,oo=some o->a≠lk:=fun o e z=>by
   have q:=(ha2 o e).1
   rw[z,fd lk flk]at q
   cases q
  have al5:∀o,oo=some o->a≠le:=fun o e z=>by
   have q:=(ha2 o e).1
   rw[z,fd le fle]at q
   cases q
  have st0:BJ M.aq M.aA (upd H1 t (.lst [])) d Kp284Neutral.start lk le:=⟨dx,s2 _ _ e1,s2 _ _ ek,s2 _ _ ee,nkl⟩
  refine vq (fun σ H'=>∃(place f:Nat)(st:Kp284.State)(cs':List (List (List Int)))(acc:List Int)(lk le:Addr)(v4 v5 v6 v7:Option V),σ=[some (.ref a),some (.ref d),some (.ref t),some (.int place),v4,v5,v6,v7]/\place<=ms.length/\PyFlat.calls PyKp284.shape f (zn (ms.drop place))=some cs'/\acc++lH st cs'=lH Kp284Neutral.start cs/\
   BJ M.aq M.aA H' d st lk le/\H' t=some (.lst (acc.map V.int))/\t≠lk/\t≠le/\dJ Ts H'/\∀o,oo=some o->H' a=some o/\a≠lk/\a≠le)
   (fun σ _=>match σ with|[_,_,_,some (.int p),_,_,_,_]=>ms.length-p.toNat|_=>0)
   ⟨0,ms.length,Kp284Neutral.start,cs,[],lk,le,none,none,none,none,rfl,Nat.zero_le _,hcs,rfl,st0,aG,n1,n2,g2.1,fun o e=>⟨s2 _ _ (s1 _ _ (ha2 o e).1),al4 o e,al5 o e⟩⟩ ?_
  clear st0 al4 al5 fd n1 n2 nkl ek ee flk fle e1
  rintro σ H' ⟨place,f,st,cs',acc,lk,le,v4,v5,v6,v7,rfl,hp,af2,hacc,hst,hT,n1,n2,tb',haa⟩
  have sq:=ha1 H' fun o e=>(haa o e).1
  rfl'
  refine⟨_,_,rfl,.inl sq,?_⟩
  rfl'
  rw[List.length_map]
  by_cases c:place<ms.length
  ·rw[decide_eq_true (by omega:(place:Int)<(ms.length:Int))]
   refine VN ?_
   obtain⟨dx',w1,w2,w3,arf⟩:=hst.ins
   have hdrop:ms.drop place=ms[place]::ms.drop (place+1):=List.drop_eq_getElem_cons c
   rw[hdrop]at af2
   obtain⟨g,j,cs2,eg,hj,ej,arh,ecs,al7⟩:=Ns.Jd (p:=((ms[place]:Nat):Int)) (r:=zn (ms.drop (place+1))) af2
   have ej:ms[place]=j:=by omega
   have hr1:(zn (ms.drop (place+1))).take (Ns.argc.getD j 0)=zn ((ms.drop (place+1)).take (Ns.argc.getD j 0)):=by rw[<-List.map_take]
   have hlen2:(zn (ms.drop (place+1))).length=ms.length-(place+1):=by rw[List.length_map,List.length_drop]
   have af3:place+1+Ns.argc.getD j 0<=ms.length:=by omega
   have eas:((ms.drop (place+1)).take (Ns.argc.getD j 0)).length=Ns.argc.getD j 0:=by rw[List.length_take,List.length_drop];omega
   have hb:∀m∈(ms.drop (place+1)).take (Ns.argc.getD j 0),m<2^32:=fun m hm=>hms m (List.mem_of_mem_drop (List.mem_of_mem_take hm))
   have al9:[((ms[place]:Nat):Int)::(zn (ms.drop (place+1))).take (Ns.argc.getD j 0)]=[(j:Int)::zn ((ms.drop (place+1)).take (Ns.argc.getD j 0))]:=by rw[hr1,ej]
   rw[al9]at ecs
   subst ecs
   have hrest:PyFlat.calls PyKp284.shape g (zn (ms.drop (place+1+Ns.argc.getD j 0)))=some cs2:=by
    rw[<-List.drop_drop]
    rw[<-List.map_drop]at al7
    exact al7
   generalize hA:(ms.drop (place+1)).take (Ns.argc.getD j 0)=as at*
   have YH:acc++(((Kp284Neutral.step st [(j:Int)::zn as]).2.length:Int)::(Kp284Neutral.step st [(j:Int)::zn as]).2)++lH (Kp284Neutral.step st [(j:Int)::zn as]).1 cs2=lH Kp284Neutral.start cs:=by
    rw[<-hacc,List.append_assoc]
    rfl
   have hbig:acc.length+(1+(Kp284Neutral.step st [(j:Int)::zn as]).2.length)<=10000000:=by
    have:=congrArg List.length YH
    rw[List.length_append,List.length_append,List.length_cons]at this
    omega
   rfl'
   refine gQ sq (gq (j:=place) (v:=V.int (j:Nat)) (by rw[List.getElem?_map,List.getElem?_eq_getElem c,ej];rfl)) ?_
   rfl'
   refine⟨j,rfl,hj,fun tp fn htp hn=>?_⟩
   rfl'
   refine vY (htp.sq _) (gq (j:=1) rfl) ?_
   rfl'
   refine adC ⟨t,.lst (acc.map V.int),hT,True.intro,fun od=>?_⟩
   have stF:BJ M.aq M.aA (upd H' t (.nG od (.lst (acc.map V.int)))) d st lk le:=hst.put hT (fun _ _ _ z=>nomatch z) n1 n2
   have tbF:dJ Ts (upd H' t (.nG od (.lst (acc.map V.int)))):=tb'.upd hT True.intro
   have aF:∀o,oo=some o->(upd H' t (.nG od (.lst (acc.map V.int)))) a=some o:=fun o e=>by rw[aH (hat o e)];exact(haa o e).1
   have tF:(upd H' t (.nG od (.lst (acc.map V.int)))) t=some (.nG od (.lst (acc.map V.int))):=aG
   generalize upd H' t (.nG od (.lst (acc.map V.int)))=HF at*
   obtain⟨dxF,y1,y2,y3,af4⟩:=stF.ins
   have ama:t∉[d,lk,le]:=fun z=>by
    rcases List.mem_cons.mp z with q|z
    ·rw[q,af4]at tF
     cases tF
    ·rcases List.mem_cons.mp z with q|z
     ·exact n1 q
     ·exact n2 (List.mem_singleton.mp z)
   have amb:∀o,oo=some o->a∉[d,lk,le]:=fun o e z=>by
    rcases List.mem_cons.mp z with q|z
    ·have h1:=aF o e
     rw[q,af4]at h1
     exact(ha2 o e).2.2.1 _ _ _ (Option.some.inj h1).symm
    ·rcases List.mem_cons.mp z with q|z
     ·exact(haa o e).2.1 q
     ·exact(haa o e).2.2 (List.mem_singleton.mp z)
   have ec:Mw (vn ms) (some ((place:Int)+1)) (some ((place:Int)+1+((Ns.argc.getD j 0:Nat):Int)))=vn as:=by
    have:=an0 ms (place+1) (Ns.argc.getD j 0) af3
    push_cast at this
    rw[this,hA]
   have hst2:=hst
   cases st with
   |some D=>
    have hy:y1=.int D.n:=by
      obtain⟨dz,po,ph,ks,es,q⟩:=stF
      have:=q.ins
      rw[af4]at this
      cases this
      rfl
    subst hy
    rfl'
    have ni:decide (V.int (D.n:Nat)=V.non)=false:=decide_eq_false (by intro z;cases z)
    rw[ni]
    refine cR (cR ?_)
    rfl'
    refine vY (htp.sq _) (gq (j:=0) rfl) ?_
    rfl'
    with_reducible refine Ml ?_
    rfl'
    refine WL ?_
    with_reducible refine DR ?_
    rfl'
    with_reducible refine DR ?_
    rfl'
    refine WM (ha1 HF aF) fun r hr0=>?_
    rw[ec]
    have sR:=Same.upd HF (.lst (vn as)) hr0
    have gR:=Gr.same tbF sR
    rfl'
    refine⟨j,fn,d,r,as,rfl,hn,aG,by rw[eas];exact Ns.YG j,d,lk,le,some D,as,rfl,eas,hb,stF.gr tbF gR,.inr rfl,gR.1,fun l H3 Vb Vc st3 clk cle fr el=>?_⟩
    have t3:H3 t=some (.nG od (.lst (acc.map V.int))):=fr.2 t _ (sR _ _ tF) ama (gR.1.ne (sR _ _ tF) True.intro)
    have a3:∀o,oo=some o->H3 a=some o:=fun o e=>fr.2 a _ (sR _ _ (aF o e)) (amb o e) (gR.1.ne (sR _ _ (aF o e)) (ha2 o e).2.1)
    have tb3:=fr.1
    have clk:Vb=lk\/HF Vb=none:=clk.imp id fun z=>sR.free z
    have cle:Vc=le\/HF Vc=none:=cle.imp id fun z=>sR.free z
    rfl'
    refine⟨t3,?_⟩
    have nlt:l≠t:=fun z=>by rw[z,t3]at el;cases el
    have m1:t≠Vb:=fun z=>by
      rcases clk with q|q
      ·exact n1 (z.trans q)
      ·rw[<-z,tF]at q
       cases q
    have m2:t≠Vc:=fun z=>by
      rcases cle with q|q
      ·exact n2 (z.trans q)
      ·rw[<-z,tF]at q
       cases q
    have adD:∀o,oo=some o->a≠Vb:=fun o e z=>by
      rcases clk with q|q
      ·exact(haa o e).2.1 (z.trans q)
      ·rw[<-z,aF o e]at q
       cases q
    have adE:∀o,oo=some o->a≠Vc:=fun o e z=>by
      rcases cle with q|q
      ·exact(haa o e).2.2 (z.trans q)
      ·rw[<-z,aF o e]at q
       cases q
    have s4:=st3.put (o':=.lst (acc.map V.int)) t3 (fun _ _ _ z=>nomatch z) m1 m2
    have el4:(upd H3 t (.lst (acc.map V.int))) l=some (.lst ((Kp284Neutral.step (some D) [(j:Int)::zn as]).2.map V.int)):=by rw[aH nlt];exact el
    have tb4:dJ Ts (upd H3 t (.lst (acc.map V.int))):=tb3.upd t3 True.intro
    have a4:∀o,oo=some o->(upd H3 t (.lst (acc.map V.int))) a=some o:=fun o e=>by rw[aH (hat o e)];exact a3 o e
    have t4:(upd H3 t (.lst (acc.map V.int))) t=some (.lst (acc.map V.int)):=aG
    generalize upd H3 t (.lst (acc.map V.int))=H4 at*
    rfl'
    refine oN (cY.of t4) ?_
    rfl'
    refine⟨_,_,rfl,.inl (cY.of el4),?_⟩
    rfl'
    refine Ax t4 (by rw[List.length_map,sizeLine_eq];omega) ?_
    have s5:=s4.put (o':=.lst (acc.map V.int++[V.int (((Kp284Neutral.step (some D) [(j:Int)::zn as]).2.map V.int).length:Nat)])) t4 (fun _ _ _ z=>nomatch z) m1 m2
    have el5:(upd H4 t (.lst (acc.map V.int++[V.int (((Kp284Neutral.step (some D) [(j:Int)::zn as]).2.map V.int).length:Nat)]))) l=some (.lst ((Kp284Neutral.step (some D) [(j:Int)::zn as]).2.map V.int)):=by rw[aH nlt];exact el4
    have tb5:dJ Ts (upd H4 t (.lst (acc.map V.int++[V.int (((Kp284Neutral.step (some D) [(j:Int)::zn as]).2.map V.int).length:Nat)]))):=tb4.upd t4 True.intro
    have a5:∀o,oo=some o->(upd H4 t (.lst (acc.map V.int++[V.int (((Kp284Neutral.step (some D) [(j:Int)::zn as]).2.map V.int).length:Nat)]))) a=some o:=fun o e=>by rw[aH (hat o e)];exact a4 o e
    have t5:(upd H4 t (.lst (acc.map V.int++[V.int (((Kp284Neutral.step (some D) [(j:Int)::zn as]).2.map V.int).length:Nat)]))) t=some (.lst (acc.map V.int++[V.int (((Kp284Neutral.step (some D) [(j:Int)::zn as]).2.map V.int).length:Nat)])):=aG
    generalize upd H4 t (.lst (acc.map V.int++[V.int (((Kp284Neutral.step (some D) [(j:Int)::zn as]).2.map V.int).length:Nat)]))=H5 at*
    rfl'
    refine oN (cY.of t5) ?_
    rfl'
    refine JK t5 el5 ?_ ?_
    ·rw[List.length_append,List.length_map,List.length_map,sizeLine_eq]
     show _+1+_<=_
     omega
    ·rfl'
     refine⟨⟨place+1+Ns.argc.getD j 0,g,_,cs2,acc++((((Kp284Neutral.step (some D) [(j:Int)::zn as]).2).length:Int)::(Kp284Neutral.step (some D) [(j:Int)::zn as]).2),Vb,Vc,some (.int (j:Nat)),some (.ref tp),some (.int ((place:Int)+1+((Ns.argc.getD j 0:Nat):Int))),some (.ref l),?_,af3,hrest,?_,s5.put t5 (fun _ _ _ z=>nomatch z) m1 m2,?_,m1,m2,tb5.upd t5 True.intro,fun o e=>⟨by rw[aH (hat o e)];exact a5 o e,adD o e,adE o e⟩⟩,?_⟩
     rotate_left 1
     ·exact YH
     ·rw[aG,List.length_map,List.map_append,List.append_assoc]
      rfl
     ·show ms.length-((place:Int)+1+((Ns.argc.getD j 0:Nat):Int)).toNat<ms.length-(place:Int).toNat
      omega
     ·show [some (V.ref a),some (V.ref d),some (V.ref t),some (V.int ((place:Int)+1+((Ns.argc.getD j 0:Nat):Int))),some (V.int (j:Nat)),some (V.ref tp),some (V.int ((place:Int)+1+((Ns.argc.getD j 0:Nat):Int))),some (V.ref l)]=_
      push_cast
      rfl
   |none=>
    have hy:y1=.non:=by
      obtain⟨dz,q,_⟩:=stF
      rw[af4]at q
      cases q
      rfl
    subst hy
    rfl'
    rw[o8]
    refine bJ ?_
    rfl'
    by_cases c0:j=0
    ·rw[decide_eq_true (by omega:(j:Int)=0)]
     refine cR ?_
     rfl'
     refine vY (htp.sq _) (gq (j:=0) rfl) ?_
     rfl'
     with_reducible refine Ml ?_
     rfl'
     refine WL ?_
     with_reducible refine DR ?_
     rfl'
     with_reducible refine DR ?_
     rfl'
     refine WM (ha1 HF aF) fun r hr0=>?_
     rw[ec]
     have sR:=Same.upd HF (.lst (vn as)) hr0
     have gR:=Gr.same tbF sR
     rfl'
     refine⟨j,fn,d,r,as,rfl,hn,aG,by rw[eas];exact Ns.YG j,d,lk,le,none,as,rfl,eas,hb,stF.gr tbF gR,.inl c0,gR.1,fun l H3 Vb Vc st3 clk cle fr el=>?_⟩
     have t3:H3 t=some (.nG od (.lst (acc.map V.int))):=fr.2 t _ (sR _ _ tF) ama (gR.1.ne (sR _ _ tF) True.intro)
     have a3:∀o,oo=some o->H3 a=some o:=fun o e=>fr.2 a _ (sR _ _ (aF o e)) (amb o e) (gR.1.ne (sR _ _ (aF o e)) (ha2 o e).2.1)
     have tb3:=fr.1
     have clk:Vb=lk\/HF Vb=none:=clk.imp id fun z=>sR.free z
     have cle:Vc=le\/HF Vc=none:=cle.imp id fun z=>sR.free z
     rfl'
     refine⟨t3,?_⟩
     have nlt:l≠t:=fun z=>by rw[z,t3]at el;cases el
     have m1:t≠Vb:=fun z=>by
       rcases clk with q|q
       ·exact n1 (z.trans q)
       ·rw[<-z,tF]at q
        cases q
     have m2:t≠Vc:=fun z=>by
       rcases cle with q|q
       ·exact n2 (z.trans q)
       ·rw[<-z,tF]at q
        cases q
     have adD:∀o,oo=some o->a≠Vb:=fun o e z=>by
       rcases clk with q|q
       ·exact(haa o e).2.1 (z.trans q)
       ·rw[<-z,aF o e]at q
        cases q
     have adE:∀o,oo=some o->a≠Vc:=fun o e z=>by
       rcases cle with q|q
       ·exact(haa o e).2.2 (z.trans q)
       ·rw[<-z,aF o e]at q
        cases q
     have s4:=st3.put (o':=.lst (acc.map V.int)) t3 (fun _ _ _ z=>nomatch z) m1 m2
     have el4:(upd H3 t (.lst (acc.map V.int))) l=some (.lst ((Kp284Neutral.step (none) [(j:Int)::zn as]).2.map V.int)):=by rw[aH nlt];exact el
     have tb4:dJ Ts (upd H3 t (.lst (acc.map V.int))):=tb3.upd t3 True.intro
     have a4:∀o,oo=some o->(upd H3 t (.lst (acc.map V.int))) a=some o:=fun o e=>by rw[aH (hat o e)];exact a3 o e
     have t4:(upd H3 t (.lst (acc.map V.int))) t=some (.lst (acc.map V.int)):=aG
     generalize upd H3 t (.lst (acc.map V.int))=H4 at*
     rfl'
     refine oN (cY.of t4) ?_
     rfl'
     refine⟨_,_,rfl,.inl (cY.of el4),?_⟩
     rfl'
     refine Ax t4 (by rw[List.length_map,sizeLine_eq];omega) ?_
     have s5:=s4.put (o':=.lst (acc.map V.int++[V.int (((Kp284Neutral.step (none) [(j:Int)::zn as]).2.map V.int).length:Nat)])) t4 (fun _ _ _ z=>nomatch z) m1 m2
     have el5:(upd H4 t (.lst (acc.map V.int++[V.int (((Kp284Neutral.step (none) [(j:Int)::zn as]).2.map V.int).length:Nat)]))) l=some (.lst ((Kp284Neutral.step (none) [(j:Int)::zn as]).2.map V.int)):=by rw[aH nlt];exact el4
     have tb5:dJ Ts (upd H4 t (.lst (acc.map V.int++[V.int (((Kp284Neutral.step (none) [(j:Int)::zn as]).2.map V.int).length:Nat)]))):=tb4.upd t4 True.intro
     have a5:∀o,oo=some o->(upd H4 t (.lst (acc.map V.int++[V.int (((Kp284Neutral.step (none) [(j:Int)::zn as]).2.map V.int).length:Nat)]))) a=some o:=fun o e=>by rw[aH (hat o e)];exact a4 o e
     have t5:(upd H4 t (.lst (acc.map V.int++[V.int (((Kp284Neutral.step (none) [(j:Int)::zn as]).2.map V.int).length:Nat)]))) t=some (.lst (acc.map V.int++[V.int (((Kp284Neutral.step (none) [(j:Int)::zn as]).2.map V.int).length:Nat)])):=aG
     generalize upd H4 t (.lst (acc.map V.int++[V.int (((Kp284Neutral.step (none) [(j:Int)::zn as]).2.map V.int).length:Nat)]))=H5 at*
     rfl'
     refine oN (cY.of t5) ?_
     rfl'
     refine JK t5 el5 ?_ ?_
     ·rw[List.length_append,List.length_map,List.length_map,sizeLine_eq]
      show _+1+_<=_
      omega
     ·rfl'
      refine⟨⟨place+1+Ns.argc.getD j 0,g,_,cs2,acc++((((Kp284Neutral.step (none) [(j:Int)::zn as]).2).length:Int)::(Kp284Neutral.step (none) [(j:Int)::zn as]).2),Vb,Vc,some (.int (j:Nat)),some (.ref tp),some (.int ((place:Int)+1+((Ns.argc.getD j 0:Nat):Int))),some (.ref l),?_,af3,hrest,?_,s5.put t5 (fun _ _ _ z=>nomatch z) m1 m2,?_,m1,m2,tb5.upd t5 True.intro,fun o e=>⟨by rw[aH (hat o e)];exact a5 o e,adD o e,adE o e⟩⟩,?_⟩
      rotate_left 1
      ·exact YH
      ·rw[aG,List.length_map,List.map_append,List.append_assoc]
       rfl
      ·show ms.length-((place:Int)+1+((Ns.argc.getD j 0:Nat):Int)).toNat<ms.length-(place:Int).toNat
       omega
      ·show [some (V.ref a),some (V.ref d),some (V.ref t),some (V.int ((place:Int)+1+((Ns.argc.getD j 0:Nat):Int))),some (V.int (j:Nat)),some (V.ref tp),some (V.int ((place:Int)+1+((Ns.argc.getD j 0:Nat):Int))),some (V.ref l)]=_
       push_cast
       rfl
    ·rw[decide_eq_false (by omega:¬(j:Int)=0)]
     refine bJ ?_
     have e11:=Ns.af0 hj c0 (args:=zn as) (by rw[List.length_map];exact eas)
     rfl'
     refine cJ bY fun l hl=>?_
     have sL:=Same.upd HF (.lst [.int (-11)]) hl
     have gL:=Gr.same tbF sL
     have st3:BJ M.aq M.aA (upd HF l (.lst [.int (-11)])) d (Kp284Neutral.step none [(j:Int)::zn as]).1 lk le:=by
       rw[e11]
       exact stF.gr tbF gL
     have el:(upd HF l (.lst [.int (-11)])) l=some (.lst ((Kp284Neutral.step none [(j:Int)::zn as]).2.map V.int)):=by
       rw[e11,aG]
       rfl
     have t3:=sL _ _ tF
     have a3:∀o,oo=some o->(upd HF l (.lst [.int (-11)])) a=some o:=fun o e=>sL _ _ (aF o e)
     have tb3:=gL.1
     obtain⟨Vb,elk⟩:∃x,x=lk:=⟨_,rfl⟩
     obtain⟨Vc,ele⟩:∃x,x=le:=⟨_,rfl⟩
     have clk:Vb=lk\/HF Vb=none:=.inl elk
     have cle:Vc=le\/HF Vc=none:=.inl ele
     rw[<-elk,<-ele]at st3
     generalize upd HF l (.lst [.int (-11)])=H3 at*
     rfl'
     refine⟨t3,?_⟩
     have nlt:l≠t:=fun z=>by rw[z,t3]at el;cases el
     have m1:t≠Vb:=fun z=>by
       rcases clk with q|q
       ·exact n1 (z.trans q)
       ·rw[<-z,tF]at q
        cases q
     have m2:t≠Vc:=fun z=>by
       rcases cle with q|q
       ·exact n2 (z.trans q)
       ·rw[<-z,tF]at q
        cases q
     have adD:∀o,oo=some o->a≠Vb:=fun o e z=>by
       rcases clk with q|q
       ·exact(haa o e).2.1 (z.trans q)
       ·rw[<-z,aF o e]at q
        cases q
     have adE:∀o,oo=some o->a≠Vc:=fun o e z=>by
       rcases cle with q|q
       ·exact(haa o e).2.2 (z.trans q)
       ·rw[<-z,aF o e]at q
        cases q
     have s4:=st3.put (o':=.lst (acc.map V.int)) t3 (fun _ _ _ z=>nomatch z) m1 m2
     have el4:(upd H3 t (.lst (acc.map V.int))) l=some (.lst ((Kp284Neutral.step (none) [(j:Int)::zn as]).2.map V.int)):=by rw[aH nlt];exact el
     have tb4:dJ Ts (upd H3 t (.lst (acc.map V.int))):=tb3.upd t3 True.intro
     have a4:∀o,oo=some o->(upd H3 t (.lst (acc.map V.int))) a=some o:=fun o e=>by rw[aH (hat o e)];exact a3 o e
     have t4:(upd H3 t (.lst (acc.map V.int))) t=some (.lst (acc.map V.int)):=aG
     generalize upd H3 t (.lst (acc.map V.int))=H4 at*
     rfl'
     refine oN (cY.of t4) ?_
     rfl'
     refine⟨_,_,rfl,.inl (cY.of el4),?_⟩
     rfl'
     refine Ax t4 (by rw[List.length_map,sizeLine_eq];omega) ?_
     have s5:=s4.put (o':=.lst (acc.map V.int++[V.int (((Kp284Neutral.step (none) [(j:Int)::zn as]).2.map V.int).length:Nat)])) t4 (fun _ _ _ z=>nomatch z) m1 m2
     have el5:(upd H4 t (.lst (acc.map V.int++[V.int (((Kp284Neutral.step (none) [(j:Int)::zn as]).2.map V.int).length:Nat)]))) l=some (.lst ((Kp284Neutral.step (none) [(j:Int)::zn as]).2.map V.int)):=by rw[aH nlt];exact el4
     have tb5:dJ Ts (upd H4 t (.lst (acc.map V.int++[V.int (((Kp284Neutral.step (none) [(j:Int)::zn as]).2.map V.int).length:Nat)]))):=tb4.upd t4 True.intro
     have a5:∀o,oo=some o->(upd H4 t (.lst (acc.map V.int++[V.int (((Kp284Neutral.step (none) [(j:Int)::zn as]).2.map V.int).length:Nat)]))) a=some o:=fun o e=>by rw[aH (hat o e)];exact a4 o e
     have t5:(upd H4 t (.lst (acc.map V.int++[V.int (((Kp284Neutral.step (none) [(j:Int)::zn as]).2.map V.int).length:Nat)]))) t=some (.lst (acc.map V.int++[V.int (((Kp284Neutral.step (none) [(j:Int)::zn as]).2.map V.int).length:Nat)])):=aG
     generalize upd H4 t (.lst (acc.map V.int++[V.int (((Kp284Neutral.step (none) [(j:Int)::zn as]).2.map V.int).length:Nat)]))=H5 at*
     rfl'
     refine oN (cY.of t5) ?_
     rfl'
     refine JK t5 el5 ?_ ?_
     ·rw[List.length_append,List.length_map,List.length_map,sizeLine_eq]
      show _+1+_<=_
      omega
     ·rfl'
      refine⟨⟨place+1+Ns.argc.getD j 0,g,_,cs2,acc++((((Kp284Neutral.step (none) [(j:Int)::zn as]).2).length:Int)::(Kp284Neutral.step (none) [(j:Int)::zn as]).2),Vb,Vc,some (.int (j:Nat)),some (.ref tp),some (.int ((place:Int)+1+((Ns.argc.getD j 0:Nat):Int))),some (.ref l),?_,af3,hrest,?_,s5.put t5 (fun _ _ _ z=>nomatch z) m1 m2,?_,m1,m2,tb5.upd t5 True.intro,fun o e=>⟨by rw[aH (hat o e)];exact a5 o e,adD o e,adE o e⟩⟩,?_⟩
      rotate_left 1
      ·exact YH
      ·rw[aG,List.length_map,List.map_append,List.append_assoc]
       rfl
      ·show ms.length-((place:Int)+1+((Ns.argc.getD j 0:Nat):Int)).toNat<ms.length-(place:Int).toNat
       omega
      ·show [some (V.ref a),some (V.ref d),some (V.ref t),some (V.int ((place:Int)+1+((Ns.argc.getD j 0:Nat):Int))),some (V.int (j:Nat)),some (V.ref tp),some (V.int ((place:Int)+1+((Ns.argc.getD j 0:Nat):Int))),some (V.ref l)]=_
       push_cast
       rfl
  ·rw[decide_eq_false (by omega:¬(place:Int)<(ms.length:Int))]
   refine Tr ?_
   rfl'
   have e0:ms.drop place=[]:=List.drop_eq_nil_of_le (by omega)
   rw[e0]at af2
   have e1:cs'=[]:=by
    cases f<;>exact(Option.some.inj af2).symm
   subst e1
   have e2:acc=lH Kp284Neutral.start cs:=by
    rw[<-hacc]
    show acc=acc++[]
    rw[List.append_nil]
   rw[e2]at hT
   exact k H' t hT
end
end Nq
section
set_option maxHeartbeats 2000000
namespace Nq
open PySem PySem.Spec PyProof.Rows L2
open PySem.W (WData Codec OpenSpec Well WellAll ReadsW ReadsAllW)
def adF(K:W.Frag)(c P:Addr):Prop:=∃o vs,K.lookup c=some o/\o.data=.fields vs/\vs[11]?=some (.ref P)/\K.lookup P=none
theorem W0{q:Program}{loose:List Str}{mean:ExcName->Option Value}{mg mb:Str->Option Value}{h:Heap}{K:W.Frag}(T:Top q loose mean mg mb h)(KX:K.In h){x qual:Str}{st:Stmt}{f c P:Addr}{fd:FuncData}
 (F:Fun K x qual st f fd)(hm:mg x=some (.ref f))(hx:((recsOf q).any fun d=>d.name==x)=true)(hc:fd.code=.ref c)(hk:adF K c P):
 W.CodeHd h c P/\h.get? P=some (W.tabObj #[])/\K.lookup P=none/\(K.lookup c).isSome=true:=by
 obtain⟨d,hd,e⟩:=List.any_eq_true.mp hx
 have e':d.name=x:=beq_iff_eq.mp e
 obtain⟨a,o,fd',c',P',g1,g2,g3,g4,g5,g6⟩:=T.tab d hd
 rw[e',hm]at g1
 cases g1
 obtain⟨oc,od,kV,doc,pm,an,cdv,ct,osl,e2,lk,_⟩:=F.ex
 have g7:=KX _ _ lk
 rw[g2]at g7
 cases g7
 cases g3
 rw[hc]at g4
 cases g4
 obtain⟨ok,vs,k1,k2,k3,k4⟩:=hk
 have k5:=KX _ _ k1
 have hh:=W.CodeHd.of g5 g6
 have hh':=hh
 obtain⟨o2,vs2,file,tf,flags,tg,inF,text,tt,s1,s2,s3,s4,_⟩:=hh'
 rw[s1]at k5
 cases k5
 rw[s3]at k2
 cases k2
 rw[s4]at k3
 cases k3
 refine⟨hh,g6.2,k4,?_⟩
 rw[k1]
 rfl
theorem aaJ{r:OpenSpec}(k:r.args.all Codec.fits=true){a:Codec.denoteAll r.args}(h:Codec.withinAll r.args a=true)(ds:List WData):r.claim.post (Codec.encAll r.args a) (r.ret.enc (Codec.app r.args r.f a)) ds=true:=by
 have e:=Codec.decAll_encAll r.args (Codec.ok_all r.args k) a h
 show(match Codec.decAll r.args (Codec.encAll r.args a)with
  |some b=>W.same (r.ret.enc (Codec.app r.args r.f a)) (r.ret.enc (Codec.app r.args r.f b))
  |none=>false)=true
 rw[e]
 exact W.same_iff.mpr rfl
theorem Xa{r:OpenSpec}{k:Nat}{q:Program}{loose:List Str}{XP:(Str->Option Value)->Heap->Prop}{YP:World->Heap->Prop}{d:DefRec}{K:Params->W.Frag}{ps:List Str}{sp:W.Frag->List Tab->Sp}
 (hfit:r.args.all Codec.fits=true)(hdf:d.params.defaults=[])(hlen:r.args.length=ps.length)(hr:lU k callerA)
 (hY:∀(w:World)(h:Heap),YP w h->(K w.params).In h)
 (F:∀(w:World)(loose':List Str)(mean:ExcName->Option Value)(mg mb:Str->Option Value)(fa:Addr)(h:Heap),Top q loose' mean mg mb h->(K w.params).In h->mg d.name=some (.ref fa)->
   ∃(fd:FuncData)(Ts:List Tab),(∀(s:Shared)(us:List Value),us.length=ps.length->BindsTo s fd ⟨us,[]⟩ (ps.zip us))/\
    (∀t∈Ts,W.CodeHd h t.c t.P/\h.get? t.P=some (W.tabObj #[])/\(K w.params).lookup t.P=none/\((K w.params).lookup t.c).isSome=true)/\
    ∀base:Heap,(K w.params).In base->base.Ns mainGlobals mg->(∀t∈Ts,W.CodeHd base t.c t.P/\base.BuiltinsAt mg t.P)->bf r.prog w (K w.params) mg base cV k fa fd ps (sp (K w.params) Ts))
 (hsp:∀(K:W.Frag)(Ts:List Tab)(H0 H:Hp)(xs:List V)(a:Codec.denoteAll r.args),X8 H0->Codec.withinAll r.args a=true->Codec.app r.args r.asked a=true->wA K H0 xs (Codec.encAll r.args a)->Same H0 H->dJ Ts H->
   sp K Ts xs H (fun v H'=>Dw K H' v (r.ret.enc (Codec.app r.args r.f a))) fun _ _ _=>False):
 W.WalkOS q loose XP YP r d [] (fun f vs=>PySem.call f vs):=by
 intro w s_0 s1 mg mb G Y fa o pm cd doc dV kV ho hd hcd hD hmg hg args vals as hpre hlay hrd hwl hlo
 obtain⟨a,e1,e2⟩:=W.os_pre_some hpre
 obtain⟨e3,hwi⟩:=Codec.encAll_of_decAll r.args args a e1
 subst e3
 have KX:=hY w _ Y
 obtain⟨fd,Ts,hb,hT,hF⟩:=F w _ _ mg mb fa _ G.T KX hmg
 refine W.enter_call (codeAny_mono (VP (R:=[]) (cl:=classAt s_0.heap) (d0:=r.ret.enc (Codec.app r.args r.f a)) Ts KX G.T.g G.T.b G.T.builtins G.T.nolimit hg hwl (O8 _ _) (JM hlay) hr hT G.T.bmain hF hb (by rw[JN];exact hlen)
  (fun H0 H xs hO hS hs ht=>hsp _ _ H0 H xs a hO hwi e2 hS hs ht)) fun r' s' hq=>?_)
 obtain⟨u,as',rfl,h1,h2,h3,h4⟩:=hq
 exact⟨.inl ⟨u,_,as',rfl,fun _=>rfl,h1,aaJ hfit hwi _,fun z=>Bool.noConfusion (show false=true from z)⟩,h2,h3,h4⟩
theorem adG{K:W.Frag}{H H':Hp}{a:Addr}{xs:List V}(s:Same H H')(h:cY K H a xs):cY K H' a xs:=by
 rcases h with(h|⟨o,h⟩)|h
 ·exact .inl (.inl (s _ _ h))
 ·exact .inl (.inr ⟨o,s _ _ h⟩)
 ·exact .inr h
theorem adH:∀l:List Int,(l.all (Codec.inInt 0 4294967295))=true->∃ms:List Nat,l=zn ms/\l.map V.int=vn ms/\ms.length=l.length/\∀m∈ms,m<2^32
 |[],_=>⟨[],rfl,rfl,rfl,fun _ z=>nomatch z⟩
 |x::r,h=>by
  rw[List.all_cons,Bool.and_eq_true]at h
  obtain⟨ms,e1,e2,e3,e4⟩:=adH r h.2
  have hx:=Codec.inInt_iff.mp h.1
  obtain⟨n,rfl⟩:=Int.eq_ofNat_of_zero_le hx.1
  refine⟨n::ms,by rw[e1];rfl,by rw[List.map_cons,e2];rfl,by rw[List.length_cons,List.length_cons,e3],fun m hm=>?_⟩
  rcases List.mem_cons.mp hm with rfl|hm
  ·have:=hx.2
   omega
  ·exact e4 m hm
theorem adI{l:List Int}(h:PyKp284.answers_asked l=true):∃cs,PyFlat.calls PyKp284.shape l.length l=some cs/\PyKp284.answers l=lH Kp284Neutral.start cs/\(lH Kp284Neutral.start cs).length<=10000000:=by
 unfold PyKp284.answers_asked at h
 cases e:PyFlat.calls PyKp284.shape l.length l with
 |none=>rw[e]at h;cases h
 |some cs=>
  rw[e]at h
  have h2:=(Bool.and_eq_true_iff.mp h).2
  have e2:PyKp284.answers l=lH Kp284Neutral.start cs:=by
   unfold PyKp284.answers PyKp284.calls
   rw[e]
   show PyFlat.told (PyFlat.played Kp284Neutral.step Kp284Neutral.start (cs.map PyKp284.whole))=_
   rw[Ns.Qo _ _ _ e]
  refine⟨cs,rfl,e2,?_⟩
  rw[e2]at h2
  exact of_decide_eq_true h2
theorem adJ{K:W.Frag}{Ts:List Tab}{H0 H:Hp}{xs:List V}{l:List Int}(hin:(Codec.inLen 0 1000 l && l.all (Codec.inInt 0 4294967295))=true)(ajz:PyKp284.answers_asked l=true)(hx:wA K H0 xs [.list (l.map WData.int)])(hs:Same H0 H)(tb:dJ Ts H):
 zJ K Ts xs H (fun v H'=>Dw K H' v (.list ((PyKp284.answers l).map WData.int))) fun _ _ _=>False:=by
 cases hx with
 |cons h1 h2=>
  cases h2
  cases h1 with
  |lst hq ha=>
   have e:=L2.X5 l _ ha
   subst e
   rw[Bool.and_eq_true]at hin
   obtain⟨ms,e1,e2,e3,e4⟩:=adH l hin.2
   obtain⟨cs,c1,c2,c3⟩:=adI ajz
   refine⟨_,ms,cs,rfl,?_,?_,e4,?_,c3,tb,fun H' p hp=>?_⟩
   ·rw[<-e2]
    exact adG hs hq
   ·rw[e3]
    exact(Codec.inNat_iff.mp hin.1).2
   ·rw[e3,<-e1]
    exact c1
   ·rw[c2]
    exact .lst (L2.cY.of hp) (L2.X4 _)
def Held(K:W.Frag)(mg:Str->Option Value)(fa:Addr):Prop:=
 ∃c1 c2 c3 P1 P2 P3,(adF K c1 P1/\adF K c2 P2/\adF K c3 P3/\P1≠P2/\P1≠P3/\P2≠P3)/\∃M:Facts K mg,ajx M/\M.rK.a=fa/\M.dY.fd.code=.ref c1/\M.pZ.fd.code=.ref c2/\M.ig.fd.code=.ref c3
theorem ajA{q:Program}{loose:List Str}{mean:ExcName->Option Value}{mg mb:Str->Option Value}{h:Heap}{K:W.Frag}{P:Program}{w:World}{fa:Addr}(T:Top q loose mean mg mb h)(KX:K.In h)
 (x:(((recsOf q).any fun d=>d.name==("closest_pair":Str)) && ((recsOf q).any fun d=>d.name==("taken":Str)) && ((recsOf q).any fun d=>d.name==("greatest":Str)))=true)(hh:Held K mg fa):
 ∃(fd:FuncData)(Ts:List Tab),(∀(s:Shared)(us:List Value),us.length=(["calls"]:List Str).length->BindsTo s fd ⟨us,[]⟩ ((["calls"]:List Str).zip us))/\
    (∀t∈Ts,W.CodeHd h t.c t.P/\h.get? t.P=some (W.tabObj #[])/\K.lookup t.P=none/\(K.lookup t.c).isSome=true)/\
    ∀base:Heap,K.In base->base.Ns mainGlobals mg->(∀t∈Ts,W.CodeHd base t.c t.P/\base.BuiltinsAt mg t.P)->bf P w K mg base cV 17 fa fd ["calls"] (zJ K Ts):=by
 rw[Bool.and_eq_true,Bool.and_eq_true]at x
 obtain⟨c1,c2,c3,P1,P2,P3,⟨k1,k2,k3,n12,n13,n23⟩,M,Z,rfl,e1,e2,e3⟩:=hh
 have g1:=W0 T KX M.dY.F M.dY.m x.1.1 e1 k1
 have g2:=W0 T KX M.pZ.F M.pZ.m x.1.2 e2 k2
 have g3:=W0 T KX M.ig.F M.ig.m x.2 e3 k3
 let t1:Tab:=⟨c1,P1,⟨73,31,73,68⟩,("closest_pair":Str)++".<locals>."++"<lambda>"⟩
 let t2:Tab:=⟨c2,P2,⟨328,28,328,52⟩,("taken":Str)++".<locals>."++"<lambda>"⟩
 let t3:Tab:=⟨c3,P3,⟨600,38,600,63⟩,("greatest":Str)++".<locals>."++"<lambda>"⟩
 have m1:t1∈[t1,t2,t3]:=List.mem_cons_self
 have m2:t2∈[t1,t2,t3]:=List.mem_cons_of_mem _ List.mem_cons_self
 have m3:t3∈[t1,t2,t3]:=List.mem_cons_of_mem _ (List.mem_cons_of_mem _ List.mem_cons_self)
 have each:∀{p:Tab->Prop},p t1->p t2->p t3->∀t∈[t1,t2,t3],p t:=fun{p} h1 h2 h3 t ht=>by
  rcases List.mem_cons.mp ht with e|ht
  ·exact e▸h1
  rcases List.mem_cons.mp ht with e|ht
  ·exact e▸h2
  rcases List.mem_cons.mp ht with e|ht
  ·exact e▸h3
  cases ht
 refine⟨M.rK.fd,[t1,t2,t3],?_,each g1 g2 g3,fun base _ _ hb=>WY M
  { t1:=t1,L1:=⟨e1,(hb t1 m1).1,(hb t1 m1).2⟩,h1:=m1,p1:=rfl,q1:=rfl,u1:=each (p:=fun t=>t.P=P1->t=t1) (fun _=>rfl) (fun z=>(n12 z.symm).elim) (fun z=>(n13 z.symm).elim),
    t2:=t2,L2:=⟨e2,(hb t2 m2).1,(hb t2 m2).2⟩,h2:=m2,p2:=rfl,q2:=rfl,u2:=each (p:=fun t=>t.P=P2->t=t2) (fun z=>(n12 z).elim) (fun _=>rfl) (fun z=>(n23 z.symm).elim),
    t3:=t3,L3:=⟨e3,(hb t3 m3).1,(hb t3 m3).2⟩,h3:=m3,p3:=rfl,q3:=rfl,u3:=each (p:=fun t=>t.P=P3->t=t3) (fun z=>(n13 z).elim) (fun z=>(n23 z).elim) (fun _=>rfl) } Z⟩
 obtain⟨oc,od,kV,doc,pm,an,cdv,ct,osl,e,_⟩:=M.rK.F.ex
 rw[e]
 exact fun s us hu=>match us,hu with|[_],_=> .of_eq rfl
theorem row_end{q:Program}{loose:List Str}{XP:(Str->Option Value)->Heap->Prop}{YP:World->Heap->Prop}{d:DefRec}{K:Params->W.Frag}(hd:d.name=("answers":Str))(hdf:d.params.defaults=[])
 (hY:∀(w:World)(h:Heap),YP w h->(K w.params).In h)
 (x:(((recsOf q).any fun d=>d.name==("closest_pair":Str)) && ((recsOf q).any fun d=>d.name==("taken":Str)) && ((recsOf q).any fun d=>d.name==("greatest":Str)))=true)
 (hh:∀(w:World)(mg:Str->Option Value)(h:Heap)(fa:Addr),(K w.params).In h->h.Ns mainGlobals mg->mg "answers"=some (.ref fa)->Held (K w.params) mg fa):
 W.WalkOS q loose XP YP PySem.Challenge.rw_nearsquares_s01_answers d [] (fun f vs=>PySem.call f vs):=
 Xa (r:=PySem.Challenge.rw_nearsquares_s01_answers) (k:=17) (ps:=["calls"]) (sp:=zJ) rfl hdf rfl ⟨rfl,by decide,by decide⟩ hY
  (fun w loose' mean mg mb fa h T KX hmg=>ajA T KX x (hh w mg h fa KX T.g (hd▸hmg)))
  (fun K Ts H0 H xs a hO hwi ajz hx hs tb=>adJ (l:=a.1) (Bool.and_eq_true_iff.mp hwi).1 ajz hx hs tb)
end Nq
end
section
set_option maxHeartbeats 0
namespace Nh
open PySem PySem.Spec PyProof.Rows L2
open W.Fast
noncomputable def dl:List (Str×Nat×Addr):=("whole_root",5,42)::("allowed",6,49)::("too_great",7,56)::("difference",8,63)::("joined",9,70)::("crossed",10,77)::("powered",11,84)::("parted_from",12,91)::("one_from_four",13,98)::("one_from_minus_four",14,105)::("made_one",15,112)::("nearest_pair",16,119)::("closest_pair",17,124)::("step_up",20,131)::("step_down",21,138)::("is_first",22,145)::("descent",23,152)::("number_from",24,159)::("with_difference",33,166)::("without_difference",34,173)::("counted",35,180)::("end_below",38,187)::("all_kept",39,194)::("kin",40,201)::("families",41,206)::("sets",42,211)::("kept",43,218)::("itsnumber",44,225)::("itsfirst",45,232)::("here",46,239)::("told",47,246)::("pair_with_y",50,263)::("pairs_up_to",51,268)::("bound_of",52,275)::("least_of_gap",53,282)::("firsts_of",54,287)::("told_wrongly",60,294)::("gap_by",61,301)::("told_or_none",62,308)::("first",63,315)::("isfirst",64,322)::("firsts",65,329)::("can",66,336)::("least",67,343)::("upto",68,350)::("manyupto",69,357)::("bound",70,364)::("which",71,369)::("withy",72,376)::("other",73,383)::("moved",77,402)::("begin",78,409)::("pair_at_hand",79,416)::("keep",80,423)::("drop",81,430)::("take",82,437)::("with_kept",83,444)::("from_kept",84,451)::("against",85,458)::("up",86,465)::("down",87,472)::("makeone",88,479)::("back",89,486)::("greatest_common",92,506)::("by_rule",93,513)::("left_of",94,520)::("turns_round",95,527)::("first_of_way",97,534)::("taken",98,539)::("next_of_way",99,546)::("after_steps",100,553)::("whole_way",101,560)::("way_steps",102,567)::("least_pair",103,574)::("numbered",109,581)::("nth",110,588)::("number",111,595)::("is_pair",112,602)::("above",113,609)::("many",114,616)::("divides",115,623)::("common",116,630)::("together",117,637)::("rule",118,644)::("rootby",119,651)::("leftof",120,658)::("round_by",121,665)::("square",128,685)::("power",129,692)::("parted",130,699)::("one",131,706)::("nearest",132,713)::("closest",133,720)::("of",134,727)::("both",135,734)::("root",136,741)::("square_and_triangle",140,779)::("house",141,786)::("legs",142,793)::("sides",143,800)::("draw",144,807)::("answer_by_number",147,826)::("answer_by_rule",148,833)::("answer_from",149,840)::("answers_up_to",150,845)::("is_answer",151,852)::("answer",158,859)::("isanswer",159,866)::("answernumber",160,873)::("answerabove",161,880)::("manyanswers",162,887)::("all_answers",163,894)::("answerrule",164,901)::("answerof",165,908)::("allowed_up_to",172,971)::("first_with",173,978)::("steps",174,985)::("way",175,992)::("diffs",176,997)::("leastof",177,1004)::("long",178,1011)::("short",179,1018)::("longest",180,1025)::("greatest",181,1032)::("minus",182,1039)::("call_of",186,1056)::("answered",187,1063)::("answers",188,1070)::[]
noncomputable def ml:List (Addr×Str×Str×Nat×Nat×Addr):=(31,"__init__","Pair.__init__",4,0,28)::(768,"__init__","Answer.__init__",139,0,765)::(962,"__init__","Desk.__init__",169,0,931)::(962,"begin","Desk.begin",169,1,938)::(962,"move_to","Desk.move_to",169,2,945)::(962,"move_back","Desk.move_back",169,3,952)::(962,"has_kept","Desk.has_kept",169,4,959)::[]
noncomputable def vl:List (Str×Option Value):=("LEAST_N",some (.int 2 189))::("GREATEST_N",some (.int 60 191))::("LARGEST",some (.int 1000000 193))::("MOST_STEPS_DOWN",some (.int 100 341))::("NO_SUCH_KEPT",some (.int (-2) 394))::("NO_MOVE_TO_TAKE_BACK",some (.int (-6) 397))::("NOT_BEGUN",some (.int (-11) 400))::("ALREADY_FIRST",some (.int (-16) 403))::("WRONG_NUMBER",some (.int (-22) 406))::("TOO_MUCH",some (.int (-28) 409))::("NO_SUCH_PAIR",some (.int (-33) 412))::("GREATEST_PRODUCT",some (.int 1000000 440))::("GREATEST_K",some (.int 60 592))::("GREATEST_TOLD",some (.int 300 594))::("GREATEST_COUNTED",some (.int 2000 596))::("GREATEST_Y_gapcalls",some (.int 1000000 598))::("MOST_KEPT",some (.int 8 751))::("GREATEST_NUMBER",some (.int 12 994))::("GREATEST_TIMES",some (.int 1000000 996))::("GREATEST_DIVISOR",some (.int 1000 998))::("GREATEST_ROUND",some (.int 100 1000))::("GREATEST_POWER",some (.int 12 1156))::("GREATEST_Y_paircalls",some (.int 1000 1158))::("GREATEST_BOUND",some (.int 60 1160))::("GREATEST_SQUARE",some (.int 10000 1162))::("LAST_KIND",some (.int 4 1441))::("LAST_NUMBER",some (.int 12 1443))::("LEAST_BY_RULE",some (.int 3 1445))::("GREATEST_ASKED",some (.int 1000000000 1447))::("GREATEST_LISTED",some (.int 2000 1449))::("MOST_MOVES_BACK",some (.int 12 1553))::("MOST_STEPS",some (.int 60 1620))::("BEGIN",some (.int 0 1738))::("abs",none)::("enumerate",none)::("len",none)::("max",none)::("min",none)::("range",none)::("Pair",some (.ref 31))::("Answer",some (.ref 768))::("Desk",some (.ref 962))::("DESK_CALLS",some (.ref 247))::("GAP_CALLS",some (.ref 384))::("MOVE_CALLS",some (.ref 487))::("NUMBER_CALLS",some (.ref 666))::("PAIR_CALLS",some (.ref 742))::("KINDS",some (.ref 808))::("RULES",some (.ref 814))::("RIDDLE_CALLS",some (.ref 909))::("WAY_CALLS",some (.ref 1040))::[]
noncomputable def tl:List (Addr×List Value):=(248,[.ref 194,.int 0 519])::(249,[.ref 201,.int 2 521])::(250,[.ref 206,.int 0 523])::(251,[.ref 211,.int 2 525])::(252,[.ref 218,.int 0 527])::(253,[.ref 225,.int 0 529])::(254,[.ref 232,.int 0 531])::(255,[.ref 239,.int 0 533])::(256,[.ref 246,.int 0 535])::(385,[.ref 315,.int 0 716])::(386,[.ref 322,.int 0 718])::(387,[.ref 329,.int 2 720])::(388,[.ref 336,.int 2 722])::(389,[.ref 343,.int 2 724])::(390,[.ref 350,.int 3 726])::(391,[.ref 357,.int 3 728])::(392,[.ref 364,.int 1 730])::(393,[.ref 369,.int 2 732])::(394,[.ref 376,.int 3 734])::(395,[.ref 383,.int 0 736])::(488,[.ref 409,.int 1 857])::(489,[.ref 416,.int 2 859])::(490,[.ref 423,.int 0 861])::(491,[.ref 430,.int 1 863])::(492,[.ref 437,.int 1 865])::(493,[.ref 444,.int 1 867])::(494,[.ref 451,.int 1 869])::(495,[.ref 458,.int 1 871])::(496,[.ref 465,.int 0 873])::(497,[.ref 472,.int 0 875])::(498,[.ref 479,.int 0 877])::(499,[.ref 486,.int 0 879])::(667,[.ref 588,.int 2 1118])::(668,[.ref 595,.int 2 1120])::(669,[.ref 602,.int 2 1122])::(670,[.ref 609,.int 1 1124])::(671,[.ref 616,.int 1 1126])::(672,[.ref 623,.int 2 1128])::(673,[.ref 630,.int 2 1130])::(674,[.ref 637,.int 2 1132])::(675,[.ref 644,.int 1 1134])::(676,[.ref 651,.int 2 1136])::(677,[.ref 658,.int 2 1138])::(678,[.ref 665,.int 1 1140])::(743,[.ref 685,.int 0 1247])::(744,[.ref 692,.int 1 1249])::(745,[.ref 699,.int 2 1251])::(746,[.ref 706,.int 0 1253])::(747,[.ref 713,.int 1 1255])::(748,[.ref 720,.int 1 1257])::(749,[.ref 727,.int 2 1259])::(750,[.ref 734,.int 4 1261])::(751,[.ref 741,.int 1 1263])::(809,[.int 2 1348,.int 1 1349,.int 0 1350,.ref 779])::(810,[.int 2 1352,.int 1 1353,.int 0 1354,.ref 786])::(811,[.int 2 1356,.int 1 1357,.int 1 1358,.ref 793])::(812,[.int 3 1360,.int 1 1361,.int 0 1362,.ref 800])::(813,[.int 2 1364,.int 1 1365,.int 1 1366,.ref 807])::(815,[.int 34 1374,.int 2 1375])::(816,[.int 6 1377,.int 0 1378])::(817,[.int 6 1380,.int 2 1381])::(818,[.int 4 1383,.int 0 1384])::(819,[.int 6 1386,.int (-2) 1388])::(910,[.ref 859,.int 2 1527])::(911,[.ref 866,.int 2 1529])::(912,[.ref 873,.int 2 1531])::(913,[.ref 880,.int 2 1533])::(914,[.ref 887,.int 2 1535])::(915,[.ref 894,.int 2 1537])::(916,[.ref 901,.int 2 1539])::(917,[.ref 908,.int 2 1541])::(1041,[.ref 985,.int 1 1709])::(1042,[.ref 992,.int 0 1711])::(1043,[.ref 997,.int 0 1713])::(1044,[.ref 1004,.int 1 1715])::(1045,[.ref 1011,.int 1 1717])::(1046,[.ref 1018,.int 0 1719])::(1047,[.ref 1025,.int 1 1721])::(1048,[.ref 1032,.int 1 1723])::(1049,[.ref 1039,.int 1 1725])::[]
noncomputable def dt:List (Addr×Nat×Nat):=(247,12,9)::(384,51,11)::(487,0,12)::(666,39,12)::(742,21,9)::(808,0,5)::(814,0,5)::(909,62,8)::(1040,30,9)::[]
noncomputable def al:List (Addr×Str):=(31,"x")::(31,"y")::(768,"row")::(768,"value")::(962,"earlier")::(962,"hand")::(962,"kept")::(962,"n")::(962,"one")::[]
noncomputable def cl:List Addr:=[31,768,962]
noncomputable def ll:List (Addr×Addr):=[(123,121),(538,536),(1031,1027)]
noncomputable def pyM(K:W.Frag)(a:Addr):Value:=match K.lookup a with|some ⟨_,_,.func f,_⟩=>f.pyModule|_=> .none
noncomputable abbrev fnO(K:W.Frag)(a:Addr)(x q:Str)(s:Stmt):Obj:=⟨.type "function",none,.func (W.fnOf x q (zx s) (qZ s) (ao s) .none .none .none (pyM K a) none (.ref (a-1)) .none),#[]⟩
noncomputable def esD(K:W.Frag)(d:Addr):List DictEntry:=match K.lookup d with|some ⟨_,_,.dict es _,_⟩=>es.toList|_=>[]
noncomputable def YJ:Nat->List DictEntry->List Addr->Bool
 |_,[],tp=>tp.isEmpty
 |lo,e::es,tp=>match e,tp with
  |⟨h,.int i t,.ref b⟩,a::tp=>h==hashInt i && i==(lo:Int) && b==a && YJ (lo+1) es tp
  |_,_=>false
theorem Vd:∀(lo:Nat)(es:List DictEntry)(tp:List Addr),YJ lo es tp=true->Nq.Cy lo es tp
 |lo,[],[],_=> .nil lo
 |_,[],_::_,h=>nomatch h
 |lo,e::es,tp,z=>by
  unfold YJ at z
  split at z
  ·simp only[Bool.and_eq_true]at z
   have h1:=beq_iff_eq.mp z.1.1.1
   have h2:=beq_iff_eq.mp z.1.1.2
   have h3:=beq_iff_eq.mp z.1.2
   subst h3;subst h2;subst h1
   exact .cons (Vd _ _ _ z.2)
  ·cases z
noncomputable def adK(K:W.Frag)(c:Addr):Option Value:=match K.lookup c with|some ⟨_,_,.fields vs,_⟩=>vs[11]?|_=>none
noncomputable def w1(dl:List (Str×Nat×Addr))(kp:W.Frag->Value->Bool)(b:Params->Obj)(p:Program)(P:Params):=dl.map fun e=>(W.nsIn (KZ b p P) mainGlobals e.1,(KZ b p P).lookup e.2.2,W.codeIn (KZ b p P) (.ref (e.2.2-1)) e.1,kp (KZ b p P) (.ref e.2.2))
noncomputable def x1(dl:List (Str×Nat×Addr))(b:Params->Obj)(p:Program)(tp:Nat->Stmt)(P:Params):=dl.map fun e=>(some (some (Value.ref e.2.2)),some (fnO (KZ b p P) e.2.2 e.1 e.1 (tp e.2.1)),true,true)
noncomputable def w2(b:Params->Obj)(p:Program)(P:Params):=ml.map fun e=>(W.findIn (KZ b p P) (.ref e.1) e.2.1,W.isFn (KZ b p P) (.ref e.2.2.2.2.2),(KZ b p P).lookup e.2.2.2.2.2,W.codeIn (KZ b p P) (.ref (e.2.2.2.2.2-1)) e.2.2.1,W.keepIn (KZ b p P) (.ref e.2.2.2.2.2))
noncomputable def x2(b:Params->Obj)(p:Program)(tp:Nat->Stmt)(P:Params):=ml.map fun e=>(some (some (Value.ref e.2.2.2.2.2)),true,some (fnO (KZ b p P) e.2.2.2.2.2 e.2.1 e.2.2.1 (inClass (tp e.2.2.2.1) e.2.2.2.2.1)),true,true)
noncomputable def w3(vl:List (Str×Option Value))(b:Params->Obj)(p:Program)(P:Params):=vl.map fun e=>W.nsIn (KZ b p P) mainGlobals e.1
noncomputable def x3:=vl.map fun e=>some e.2
noncomputable def w4(b:Params->Obj)(p:Program)(P:Params):=tl.map fun e=>(KZ b p P).lookup e.1
noncomputable def x4:=tl.map fun e=>some (Iw e.2)
noncomputable def w5(b:Params->Obj)(p:Program)(P:Params):=dt.map fun e=>((KZ b p P).lookup e.1,e.1==sysModules,YJ e.2.1 (esD (KZ b p P) e.1) (List.range' (e.1+1) e.2.2))
noncomputable def x5(b:Params->Obj)(p:Program)(P:Params):=dt.map fun e=>(some { cls:=.type "dict",data:=.dict (esD (KZ b p P) e.1).toArray e.2.2:Obj },false,true)
noncomputable def w6(b:Params->Obj)(p:Program)(P:Params):=al.map fun e=>W.findIn (KZ b p P) (.ref e.1) e.2
noncomputable def w7(b:Params->Obj)(p:Program)(P:Params):=cl.map fun C=>(W.plainGet (KZ b p P) C Str.empty,W.hasDictIn (KZ b p P) C,W.plainOver (KZ b p P) C,W.findIn (KZ b p P) (.ref C) "__setattr__",W.makesIn (KZ b p P) C,W.keepIn (KZ b p P) (.ref C))
noncomputable def x7:=cl.map fun _=>(true,true,true,some (some (Value.builtin "object.__setattr__")),true,true)
noncomputable def w8(b:Params->Obj)(p:Program)(P:Params):=ll.map fun e=>(adK (KZ b p P) e.1,((KZ b p P).lookup e.2).isNone)
noncomputable def w9(p:Program):=(((recsOf (qv p)).any fun d=>d.name==("closest_pair":Str)) && ((recsOf (qv p)).any fun d=>d.name==("taken":Str)) && ((recsOf (qv p)).any fun d=>d.name==("greatest":Str)))
lay_quick Nh.w1 Nh.x1 Nh.w3 Nh.w4 Nh.w5 Nh.x5 Nh.w8 Nh.w9
theorem W1:w1 dl W.keepIn W.boot_o_0 pg=x1 dl W.boot_o_0 pg Nq.top:=by rw[te5126417796645892173,te12921526207820403167];kernel_rfl
theorem W2:w2 W.boot_o_0 pg=x2 W.boot_o_0 pg Nq.top:=by kernel_rfl
theorem W3:w3 vl W.boot_o_0 pg=fun _=>x3:=by rw[te2256014391230322276];kernel_rfl
theorem W4:w4 W.boot_o_0 pg=fun _=>x4:=by rw[te272778239576449803];kernel_rfl
theorem W5:w5 W.boot_o_0 pg=x5 W.boot_o_0 pg:=by rw[te4722797138849876241,te6367286985100977673];kernel_rfl
theorem W6:w6 W.boot_o_0 pg=fun _=>al.map fun _=>some none:=by kernel_rfl
theorem W7:w7 W.boot_o_0 pg=fun _=>x7:=by kernel_rfl
theorem W8:w8 W.boot_o_0 pg=fun _=>ll.map fun e=>(some (.ref e.2),true):=by rw[te9519243677317483943];kernel_rfl
theorem W9:w9 pg=true:=by rw[te17726141438647432070];kernel_rfl
theorem mget{α β:Type}{f g:α->β}{l:List α}(h:l.map f=l.map g){i:Nat}{e:α}(k:l[i]?=some e):f e=g e:=by
 have z:=congrArg (fun r=>r[i]?) h
 simp only[List.getElem?_map,k,Option.map_some,Option.some.injEq]at z
 exact z
section
variable{P:Params}{h:Heap}{mg:Str->Option Value}
@[reducible] noncomputable def D_(X:(K0 P).In h)(G:h.Ns mainGlobals mg)(k:Nat){x:Str}{i:Nat}{a:Addr}(e:dl[k]?=some (x,i,a):=by rfl):Nq.DF (K0 P) mg x (Nq.top i):=
  have z:=mget (congrFun W1 P) e
  ⟨⟨a,_,abP (st:=Nq.top i) (congrArg (·.2.1) z) (congrArg (·.2.2.1) z) (congrArg (·.2.2.2) z)⟩,W.mg_of X G (congrArg (·.1) z)⟩
@[reducible] noncomputable def E_(k:Nat){C:Addr}{x q:Str}{i j:Nat}{a:Addr}(e:ml[k]?=some (C,x,q,i,j,a):=by rfl):Nq.DM (K0 P) x q (inClass (Nq.top i) j):=
  have z:=mget (congrFun W2 P) e
  ⟨a,_,abP (st:=inClass (Nq.top i) j) (congrArg (·.2.2.1) z) (congrArg (·.2.2.2.1) z) (congrArg (·.2.2.2.2) z)⟩
theorem V_(X:(K0 P).In h)(G:h.Ns mainGlobals mg)(k:Nat){x:Str}{v:Option Value}(e:vl[k]?=some (x,v):=by rfl):mg x=v:=by
 have z:=mget (congrFun W3 P) e
 cases v with
 |none=>exact W.mg_none_of X G z
 |some v=>exact W.mg_of X G z
theorem C_(k:Nat){C:Addr}(e:cl[k]?=some C:=by rfl):Cls (K0 P) C:=by
 have z:=mget (congrFun W7 P) e
 exact⟨congrArg (·.1) z,congrArg (·.2.1) z,congrArg (·.2.2.1) z,congrArg (·.2.2.2.1) z⟩
theorem I_(k j:Nat){C:Addr}{q:Str}{i n:Nat}{a:Addr}(e:cl[k]?=some C:=by rfl)(e2:ml[j]?=some (C,("__init__":Str),q,i,n,a):=by rfl):Mk (K0 P) C a:=by
 have z:=mget (congrFun W7 P) e
 have y:=mget (congrFun W2 P) e2
 exact⟨congrArg (·.2.2.2.2.1) z,congrArg (·.1) y,congrArg (·.2.1) y,congrArg (·.2.2.2.2.2) z⟩
theorem M_(j:Nat){C:Addr}{x q:Str}{i n:Nat}{a:Addr}(e2:ml[j]?=some (C,x,q,i,n,a):=by rfl):Meth (K0 P) C x a:=by
 have y:=mget (congrFun W2 P) e2
 exact⟨congrArg (·.1) y,congrArg (·.2.1) y,congrArg (·.2.2.2.2) y⟩
theorem A_(k:Nat){C:Addr}{x:Str}(e:al[k]?=some (C,x):=by rfl):jU (K0 P) C x:=mget (congrFun W6 P) e
theorem G_(k:Nat){d lo m:Nat}(e:dt[k]?=some (d,lo,m):=by rfl):Nq.jD (K0 P) d lo (List.range' (d+1) m):=by
 have z:=mget (congrFun W5 P) e
 exact Nq.jD.mk' (congrArg (·.1) z) (congrArg (·.2.1) z) (Vd _ _ _ (congrArg (·.2.2) z))
theorem T_(k:Nat){tp:List Addr}{q:Nat}{xs:List V}{a:Addr}{vs:List Value}(v:Vals xs vs)(e:tl[k]?=some (a,vs):=by rfl)(ht:tp[q]?=some a:=by rfl)(hl:Nat.ble vs.length 1000=true:=by rfl):Nq.cI (K0 P) tp q xs:=
 ⟨a,ht,_,_,_,mget (congrFun W4 P) e,rfl,rfl,Nq.bY hl,v⟩
theorem L_(k:Nat){c p:Addr}(e:ll[k]?=some (c,p):=by rfl):Nq.adF (K0 P) c p:=by
 have z:=mget (congrFun W8 P) e
 have z1:adK (K0 P) c=some (.ref p):=congrArg (·.1) z
 have z2:((K0 P).lookup p).isNone=true:=congrArg (·.2) z
 unfold adK at z1
 split at z1
 ·rename_i k
  exact⟨_,_,k,rfl,z1,Option.isNone_iff_eq_none.mp z2⟩
 ·cases z1
end
theorem held{P:Params}{h:Heap}{mg:Str->Option Value}(X:(K0 P).In h)(G:h.Ns mainGlobals mg)(fa:Addr)(hfa:mg "answers"=some (.ref fa)):Nq.Held (K0 P) mg fa:=
 ⟨123,538,1031,121,536,1027,⟨L_ 0,L_ 1,L_ 2,by decide,by decide,by decide⟩,⟨⟨⟨E_ 0,D_ X G 0,D_ X G 1,D_ X G 2,D_ X G 3,D_ X G 4,D_ X G 5,D_ X G 6,D_ X G 7,D_ X G 8,D_ X G 9,D_ X G 10,D_ X G 11,D_ X G 12,D_ X G 13,D_ X G 14,D_ X G 15,D_ X G 16,D_ X G 17,D_ X G 18,D_ X G 19,D_ X G 20,D_ X G 21,D_ X G 22,D_ X G 23,D_ X G 24,D_ X G 25,D_ X G 26,D_ X G 27,D_ X G 28,D_ X G 29,D_ X G 30,D_ X G 31,D_ X G 32,D_ X G 33,D_ X G 34,D_ X G 35,D_ X G 36,D_ X G 37,D_ X G 38,D_ X G 39,D_ X G 40,D_ X G 41,D_ X G 42,D_ X G 43,D_ X G 44,D_ X G 45,D_ X G 46,D_ X G 47,D_ X G 48,D_ X G 49,D_ X G 50,D_ X G 51,D_ X G 52,D_ X G 53,D_ X G 54,D_ X G 55,D_ X G 56,D_ X G 57,D_ X G 58,D_ X G 59,D_ X G 60,D_ X G 61,D_ X G 62,D_ X G 63,D_ X G 64,D_ X G 65,D_ X G 66,D_ X G 67,D_ X G 68⟩,⟨D_ X G 69,D_ X G 70,D_ X G 71,D_ X G 72,D_ X G 73,D_ X G 74,D_ X G 75,D_ X G 76,D_ X G 77,D_ X G 78,D_ X G 79,D_ X G 80,D_ X G 81,D_ X G 82,D_ X G 83,D_ X G 84,D_ X G 85,D_ X G 86,D_ X G 87,D_ X G 88,D_ X G 89,D_ X G 90,D_ X G 91,D_ X G 92,D_ X G 93,D_ X G 94,D_ X G 95,E_ 1,D_ X G 96,D_ X G 97,D_ X G 98,D_ X G 99,D_ X G 100,D_ X G 101,D_ X G 102,D_ X G 103,D_ X G 104,D_ X G 105,D_ X G 106,D_ X G 107,D_ X G 108,D_ X G 109,D_ X G 110,D_ X G 111,D_ X G 112,D_ X G 113,E_ 2,E_ 3,E_ 4,E_ 5,E_ 6,D_ X G 114,D_ X G 115,D_ X G 116,D_ X G 117,D_ X G 118,D_ X G 119,D_ X G 120,D_ X G 121,D_ X G 122,D_ X G 123,D_ X G 124,D_ X G 125,D_ X G 126,D_ X G 127⟩,⟨_,V_ X G 0,_,V_ X G 1,_,V_ X G 2,_,V_ X G 3,_,V_ X G 4,_,V_ X G 5,_,V_ X G 6,_,V_ X G 7,_,V_ X G 8,_,V_ X G 9,_,V_ X G 10,_,V_ X G 11,_,V_ X G 12,_,V_ X G 13,_,V_ X G 14,_,V_ X G 15,_,V_ X G 16,_,V_ X G 17,_,V_ X G 18,_,V_ X G 19,_,V_ X G 20,_,V_ X G 21,_,V_ X G 22,_,V_ X G 23,_,V_ X G 24,_,V_ X G 25,_,V_ X G 26,_,V_ X G 27,_,V_ X G 28,_,V_ X G 29,_,V_ X G 30,_,V_ X G 31,_,V_ X G 32,V_ X G 33,V_ X G 34,V_ X G 35,V_ X G 36,V_ X G 37,V_ X G 38⟩,31,C_ 0,V_ X G 39,I_ 0 0,A_ 0,A_ 1,768,C_ 1,V_ X G 40,I_ 1 1,A_ 2,A_ 3,962,C_ 2,V_ X G 41,I_ 2 2,A_ 4,A_ 5,A_ 6,A_ 7,A_ 8,M_ 3,M_ 4,M_ 5,M_ 6⟩,247,V_ X G 42,_,G_ 0,T_ 0 (.cons rfl (.cons ⟨_,rfl⟩ .nil)),T_ 1 (.cons rfl (.cons ⟨_,rfl⟩ .nil)),T_ 2 (.cons rfl (.cons ⟨_,rfl⟩ .nil)),T_ 3 (.cons rfl (.cons ⟨_,rfl⟩ .nil)),T_ 4 (.cons rfl (.cons ⟨_,rfl⟩ .nil)),T_ 5 (.cons rfl (.cons ⟨_,rfl⟩ .nil)),T_ 6 (.cons rfl (.cons ⟨_,rfl⟩ .nil)),T_ 7 (.cons rfl (.cons ⟨_,rfl⟩ .nil)),T_ 8 (.cons rfl (.cons ⟨_,rfl⟩ .nil)),384,V_ X G 43,_,G_ 1,T_ 9 (.cons rfl (.cons ⟨_,rfl⟩ .nil)),T_ 10 (.cons rfl (.cons ⟨_,rfl⟩ .nil)),T_ 11 (.cons rfl (.cons ⟨_,rfl⟩ .nil)),T_ 12 (.cons rfl (.cons ⟨_,rfl⟩ .nil)),T_ 13 (.cons rfl (.cons ⟨_,rfl⟩ .nil)),T_ 14 (.cons rfl (.cons ⟨_,rfl⟩ .nil)),T_ 15 (.cons rfl (.cons ⟨_,rfl⟩ .nil)),T_ 16 (.cons rfl (.cons ⟨_,rfl⟩ .nil)),T_ 17 (.cons rfl (.cons ⟨_,rfl⟩ .nil)),T_ 18 (.cons rfl (.cons ⟨_,rfl⟩ .nil)),T_ 19 (.cons rfl (.cons ⟨_,rfl⟩ .nil)),487,V_ X G 44,_,G_ 2,T_ 20 (.cons rfl (.cons ⟨_,rfl⟩ .nil)),T_ 21 (.cons rfl (.cons ⟨_,rfl⟩ .nil)),T_ 22 (.cons rfl (.cons ⟨_,rfl⟩ .nil)),T_ 23 (.cons rfl (.cons ⟨_,rfl⟩ .nil)),T_ 24 (.cons rfl (.cons ⟨_,rfl⟩ .nil)),T_ 25 (.cons rfl (.cons ⟨_,rfl⟩ .nil)),T_ 26 (.cons rfl (.cons ⟨_,rfl⟩ .nil)),T_ 27 (.cons rfl (.cons ⟨_,rfl⟩ .nil)),T_ 28 (.cons rfl (.cons ⟨_,rfl⟩ .nil)),T_ 29 (.cons rfl (.cons ⟨_,rfl⟩ .nil)),T_ 30 (.cons rfl (.cons ⟨_,rfl⟩ .nil)),T_ 31 (.cons rfl (.cons ⟨_,rfl⟩ .nil)),666,V_ X G 45,_,G_ 3,T_ 32 (.cons rfl (.cons ⟨_,rfl⟩ .nil)),T_ 33 (.cons rfl (.cons ⟨_,rfl⟩ .nil)),T_ 34 (.cons rfl (.cons ⟨_,rfl⟩ .nil)),T_ 35 (.cons rfl (.cons ⟨_,rfl⟩ .nil)),T_ 36 (.cons rfl (.cons ⟨_,rfl⟩ .nil)),T_ 37 (.cons rfl (.cons ⟨_,rfl⟩ .nil)),T_ 38 (.cons rfl (.cons ⟨_,rfl⟩ .nil)),T_ 39 (.cons rfl (.cons ⟨_,rfl⟩ .nil)),T_ 40 (.cons rfl (.cons ⟨_,rfl⟩ .nil)),T_ 41 (.cons rfl (.cons ⟨_,rfl⟩ .nil)),T_ 42 (.cons rfl (.cons ⟨_,rfl⟩ .nil)),T_ 43 (.cons rfl (.cons ⟨_,rfl⟩ .nil)),742,V_ X G 46,_,G_ 4,T_ 44 (.cons rfl (.cons ⟨_,rfl⟩ .nil)),T_ 45 (.cons rfl (.cons ⟨_,rfl⟩ .nil)),T_ 46 (.cons rfl (.cons ⟨_,rfl⟩ .nil)),T_ 47 (.cons rfl (.cons ⟨_,rfl⟩ .nil)),T_ 48 (.cons rfl (.cons ⟨_,rfl⟩ .nil)),T_ 49 (.cons rfl (.cons ⟨_,rfl⟩ .nil)),T_ 50 (.cons rfl (.cons ⟨_,rfl⟩ .nil)),T_ 51 (.cons rfl (.cons ⟨_,rfl⟩ .nil)),T_ 52 (.cons rfl (.cons ⟨_,rfl⟩ .nil)),808,V_ X G 47,_,G_ 5,T_ 53 (.cons ⟨_,rfl⟩ (.cons ⟨_,rfl⟩ (.cons ⟨_,rfl⟩ (.cons rfl .nil)))),T_ 54 (.cons ⟨_,rfl⟩ (.cons ⟨_,rfl⟩ (.cons ⟨_,rfl⟩ (.cons rfl .nil)))),T_ 55 (.cons ⟨_,rfl⟩ (.cons ⟨_,rfl⟩ (.cons ⟨_,rfl⟩ (.cons rfl .nil)))),T_ 56 (.cons ⟨_,rfl⟩ (.cons ⟨_,rfl⟩ (.cons ⟨_,rfl⟩ (.cons rfl .nil)))),T_ 57 (.cons ⟨_,rfl⟩ (.cons ⟨_,rfl⟩ (.cons ⟨_,rfl⟩ (.cons rfl .nil)))),814,V_ X G 48,_,G_ 6,T_ 58 (.cons ⟨_,rfl⟩ (.cons ⟨_,rfl⟩ .nil)),T_ 59 (.cons ⟨_,rfl⟩ (.cons ⟨_,rfl⟩ .nil)),T_ 60 (.cons ⟨_,rfl⟩ (.cons ⟨_,rfl⟩ .nil)),T_ 61 (.cons ⟨_,rfl⟩ (.cons ⟨_,rfl⟩ .nil)),T_ 62 (.cons ⟨_,rfl⟩ (.cons ⟨_,rfl⟩ .nil)),909,V_ X G 49,_,G_ 7,T_ 63 (.cons rfl (.cons ⟨_,rfl⟩ .nil)),T_ 64 (.cons rfl (.cons ⟨_,rfl⟩ .nil)),T_ 65 (.cons rfl (.cons ⟨_,rfl⟩ .nil)),T_ 66 (.cons rfl (.cons ⟨_,rfl⟩ .nil)),T_ 67 (.cons rfl (.cons ⟨_,rfl⟩ .nil)),T_ 68 (.cons rfl (.cons ⟨_,rfl⟩ .nil)),T_ 69 (.cons rfl (.cons ⟨_,rfl⟩ .nil)),T_ 70 (.cons rfl (.cons ⟨_,rfl⟩ .nil)),1040,V_ X G 50,_,G_ 8,T_ 71 (.cons rfl (.cons ⟨_,rfl⟩ .nil)),T_ 72 (.cons rfl (.cons ⟨_,rfl⟩ .nil)),T_ 73 (.cons rfl (.cons ⟨_,rfl⟩ .nil)),T_ 74 (.cons rfl (.cons ⟨_,rfl⟩ .nil)),T_ 75 (.cons rfl (.cons ⟨_,rfl⟩ .nil)),T_ 76 (.cons rfl (.cons ⟨_,rfl⟩ .nil)),T_ 77 (.cons rfl (.cons ⟨_,rfl⟩ .nil)),T_ 78 (.cons rfl (.cons ⟨_,rfl⟩ .nil)),T_ 79 (.cons rfl (.cons ⟨_,rfl⟩ .nil))⟩,⟨rfl,rfl,rfl,rfl,rfl,rfl,rfl⟩,Value.ref.inj (Option.some.inj ((D_ X G 127).m.symm.trans hfa)),rfl,rfl,rfl⟩
noncomputable def dB(tp:Nat->Stmt):DefRec:=⟨"answers",zx (tp 188),qZ (tp 188),ao (tp 188),⟨636,0,651,15⟩⟩
noncomputable abbrev dA:=dB Nq.top
noncomputable def y1(p:Program):=(W.defOf (qv p) "answers",p.theDef "answers")
noncomputable def y2(tp:Nat->Stmt):Option (DefRec×List (Str×PySem.Expr))×Option (Arguments×List Stmt×Scope):=(some (dB tp,[]),some ((dB tp).params,(dB tp).body,(dB tp).scope))
lay_quick Nh.y1
theorem Y1:y1 pg=y2 Nq.top:=by rw[te17512936742120248083];kernel_rfl
theorem hdef:W.defOf q "answers"=some (dA,[]):=congrArg (·.1) Y1
theorem hp:PySem.Challenge.pw_nearsquares_s01_answers.theDef "answers"=some (dA.params,dA.body,dA.scope):=congrArg (·.2) Y1
theorem hok:(W.chainsOk q && W.opensWell PySem.Challenge.pw_nearsquares_s01_answers)=true:=by kernel_rfl
end Nh
end
open PySem PySem.W PyProof.Rows
set_option maxRecDepth 100000 in
set_option maxHeartbeats 0 in
theorem PySem.Challenge.cw_nearsquares_s01_answers_holds : PySem.Challenge.rw_nearsquares_s01_answers.Holds := by
  refine holds_os (q := Nh.q) (loose := Nh.loose) (Xt := Nh.Xt) (XP := XL Nh.q []) (Yf := Hook.obs Nh.H0) (Ya := Hook.val Nh.H0) (YP := Hook.says Nh.H0) (N := 13366) (d := Nh.dA) (kwd := []) Nh.left (Hook.of Nh.H0) (Hook.keeps Nh.H0) (fun s e => xl_of s (Bool.and_eq_true_iff.mp e).1) XL.keeps Nh.hdef Nh.hp rfl (fun s e => recFacts_of (Bool.and_eq_true_iff.mp e).2) os_shapes Nh.V1 Nh.hok ⟨rfl, rfl, rfl, rfl, rfl, Nh.V2⟩ ⟨[.list [.int 0, .int 2]], by decide +kernel, by decide +kernel⟩ ?_
  exact Nq.row_end rfl rfl (fun w h Y => Y) Nh.W9 (fun w mg h fa X G e => Nh.held X G fa e)
