import PyProof.Rows.All
import Wide.All
import OpenK.AllK
import Wide.FinOn
import PyProof.EqAt
import PyProof.EqKinds
import PyProof.TupleCall
import Open.SpecLaws
import KE.OsHead
import KE.OsGo
import Open.Tops
import PySem.Challenge.RW_squarehouse_s01_answers
set_option Elab.async false
set_option linter.all false
set_option maxRecDepth 1000000
set_option compiler.extract_closed false
set_option maxHeartbeats 0
namespace Sq
open PySem PySem.W PyProof.Rows
noncomputable abbrev PR:=PySem.Challenge.pw_squarehouse_s01_answers
noncomputable abbrev RW:=PySem.Challenge.rw_squarehouse_s01_answers
abbrev nm:Str:=PySem.Challenge.nm_squarehouse_s01_answers
theorem w1:sreFenced PR.main=true:=by kernel_rfl
theorem w2:((moduleNames PR.main.body).isEmpty || lookedIntoSs (moduleNames PR.main.body) PR.main.body)=true:=by kernel_rfl
theorem w3:namesResolve PR=true:=by kernel_rfl
theorem w4:PR.boundNames.all (fun n=>!worldNames.contains n)=true:=by kernel_rfl
theorem w5:noRoadLSs { strict:=!(importedModules PR.main.body).all cThrough.contains, foot:=none, bare:=(["vars", "dir", "locals"]:List Str).filter (readsOut PR PR.main.body) } PR.main.body=true:=by kernel_rfl
theorem w6:(namesMeet PR PR.main.body fun _ n=>attrL n)=true:=by kernel_rfl
theorem w7:PR.boundNames.contains PySem.Challenge.nm_squarehouse_s01_answers=true:=by kernel_rfl
theorem bar:RW.prog.bare:=⟨rfl, rfl, rfl, rfl, rfl, by decide +kernel⟩
theorem w8:(!startupNames.contains nm)=true:=by decide +kernel
theorem w9:specDef PR nm RW.args.length=true:=by decide +kernel
theorem w10:(RW.args.all Codec.fits)=true:=by decide +kernel
theorem w11:RW.ret.ok=true:=by decide +kernel
theorem wit:∃ args, RW.pre args=true∧WData.layableAll args=true:=⟨[.list [.int 4]], by decide +kernel, by decide +kernel⟩
end Sq
namespace Tp
open PySem PySem.W PyProof.Rows
structure Q where
 n:Nat
 t:Nat
 o:List Obj
 e:List (Str×Tok×Value)
 c:List Value
 m:Value
noncomputable def tu(l:List Value):Obj:={cls:=.type "tuple",data:=.seq ⟨l⟩}
noncomputable def ri(i:Nat):Value:=.int i 0
noncomputable def fo(c:String)(l:List Value):Obj:={cls:=.type c,data:=.fields ⟨l⟩}
noncomputable def nf(l:List Value):Obj:={cls:=.none,data:=.fields ⟨l⟩}
noncomputable def sv(x:String)(t:Nat):Value:=.str x t
noncomputable def tx:List Str->Nat->List Value
 | [],_=>[]
 | x::r,t=>.str x t::tx r (t+1)
noncomputable def cdO(x q:Str)(l a f n:Nat)(b:Bool)(t u:Nat)(v:List Value):Obj:=fo "code" ([.str x t,.str q (t+1),sv "/claim/cut.py" (t+2),ri l,ri a,ri 0,ri 0,ri f,.ref n,.bool b,ri 181,.ref (n+1),.none]++v++[ri u,ri l,sv "/claim/cut.py" (u+1)])
noncomputable def dfO(x q:Str)(as:Arguments)(b:List Stmt)(s:Scope)(l:Nat)(m:Value)(n t:Nat):Nat×Nat×List Obj:=
 let fd:FuncData:={name:=x,qualname:=q,params:=as,body:=.stmts b,scope:=s,globals:=0,closure:=[],defaults:=.none,kwdefaults:=.none}
 match localNames as s (.stmts b) with
 | some (v,_)=>(n+7,t+6+v.length,[{cls:=.type "function",data:=.func {fd with globals:=3,pyModule:=m,code:=.ref (n+5)}},cdO x q l as.args.length 3 n true t (t+3+v.length) [.ref (n+2),.ref (n+3),.ref (n+4)],{cls:=.none,data:=.func fd},tu [],tu (tx v (t+3)),nf [],tu []])
 | none=>(n+5,t+6,[{cls:=.type "function",data:=.func {fd with globals:=3,pyModule:=m,code:=.ref (n+3)}},cdO x q l as.args.length 3 n true t (t+3) [.none,.none,.ref (n+2)],{cls:=.none,data:=.func fd},nf [],tu []])
noncomputable def lkE:List (Str×Tok×Value)->Str->Value
 | [],_=>.none
 | (y,_,v)::r,x=>bif y==x then v else lkE r x
noncomputable def tb(e:List (Str×Tok×Value))(k:Nat):List (Option Expr)->List Expr->Nat->Nat->List (DictEntry×Obj)
 | some (.Constant (.int i) _ _)::r,.Tuple [.Name f _,.Constant (.int j) _ _] _ _::s,n,t=>(⟨i,.int i t,.ref n⟩,tu [lkE e f,.int j (t+1)])::tb e k r s (n+1) (t+k)
 | _,_,_,_=>[]
noncomputable def di(l:List DictEntry)(p:Nat):Obj:={cls:=.type "dict",data:=.dict ⟨l⟩ p}
noncomputable def en(P:Params)(x:Str)(t:Nat)(v:Value):DictEntry:=⟨PyData.keyHash P x,.str x t,v⟩
noncomputable def clO(P:Params)(m:Value):List Stmt->Nat->Nat->List Obj->List DictEntry->List Value->Nat×Nat×List Obj×List DictEntry×List Value
 | .FunctionDef x as b _ _ _ s _ _ p::r,n,t,o,e,c=>let d:=dfO x ("House."++x) as b s p.line m n t;clO P m r d.1 d.2.1 (d.2.2++o) (e++[en P x (d.2.1-1) (.ref (d.1-1))]) (c++[ri p.line,ri p.col,.ref (d.1-2)])
 | _,n,t,o,e,c=>(n,t,o,e,c)
noncomputable def st1(P:Params)(q:Q):Stmt->Q
 | .Assign [.Name x _] (.Constant (.int i) _ _) _=>{q with t:=q.t+2,e:=(x,q.t+1,.int i q.t)::q.e}
 | .Assign [.Name x _] (.UnaryOp .USub (.Constant (.int i) _ _) _) _=>{q with t:=q.t+3,e:=(x,q.t+2,.int (-i) (q.t+1))::q.e}
 | .Assign _ (.Constant (.str s) _ _) _=>{q with t:=q.t+2,m:=.str s q.t}
 | .Assign [.Name x _] (.Dict ks vs _) _=>
  let k:=ks.length
  let z:=3*k
  let w:=bif Nat.ble k 15 then tb q.e 2 ks vs (q.n+1) q.t else tb q.e 3 (ks.take 17) (vs.take 17) (q.n+1) q.t++tb q.e 3 (ks.drop 17) (vs.drop 17) (q.n+19) (q.t+51)
  let D:=di (w.map (·.1)) k
  let e':=(x,q.t+z,Value.ref q.n)::q.e
  bif Nat.ble k 17 then{q with n:=q.n+1+k,t:=q.t+z+1,o:=(w.map (·.2)).reverse++D::q.o,e:=e'} else{q with n:=q.n+2+k,t:=q.t+z+1,o:=((w.drop 17).map (·.2)).reverse++di ((w.drop 17).map (·.1)) (k-17)::((w.take 17).map (·.2)).reverse++D::q.o,e:=e'}
 | .FunctionDef x as b _ _ _ s _ _ p=>let d:=dfO x x as b s p.line q.m q.n q.t;{q with n:=d.1,t:=d.2.1,o:=d.2.2++q.o,e:=(x,d.2.1-1,.ref (d.1-1))::q.e,c:=q.c++[ri p.line,ri p.col,.ref (d.1-2)]}
 | .ClassDef x _ _ b _ _ _ _ _ sa p=>
  let n:=q.n
  let t:=q.t
  let m0:=en P "__module__" (t+7) q.m
  let l0:=en P "__firstlineno__" (t+11) (.int p.line (t+10))
  let r:=clO P q.m b (n+7) (t+12) [] [] []
  let a:=r.1
  let u:=r.2.1
  let v:=u+sa.length
  let s0:=en P "__static_attributes__" v (.ref a)
  let es:=r.2.2.2.1
  {q with n:=a+7,t:=v+8,c:=q.c++[ri p.line,ri p.col,.ref (n+5)],e:=(x,v+7,.ref (a+2))::q.e,o:=fo "builtin_function_or_method" [.builtin "object.__init_subclass__",.ref (a+2)]::fo "super" [.ref (a+2),.ref (a+2),.ref (a+2)]::fo "getset_descriptor" [sv "__weakref__" (v+3),.ref (a+2),.builtin "ExceptionGroup.__weakref__",.none]::fo "getset_descriptor" [sv "__dict__" (v+1),.ref (a+2),.builtin "function.__dict__",.builtin "function.__dict__#set"]::{cls:=.type "type",data:=.cls {name:=x,bases:=[.type "object"],mro:=[.ref (a+2),.type "object"],ns:=a+1,qualname:=x},slots:=#[none,none,some (.str x t),some (.str x (t+8)),some (.builtin "object.__new__"),some (.bool true)]}::di (m0::l0::es++[s0,en P "__dict__" (v+2) (.ref (a+3)),en P "__weakref__" (v+4) (.ref (a+4)),en P "__doc__" (v+5) .none]) 4::tu (tx sa u)::r.2.2.1++{cls:=.type "frame",slots:=#[some (.ref (n+5)),some (.ref 3),some (.ref (n+2)),none,some q.m,none,some (.ref 0)]}::cdO x x p.line 0 0 (n+3) false (t+2) (t+5) [.none,.none,.none]::nf r.2.2.2.2::tu []::di (m0::en P "__qualname__" (t+9) (.str x (t+8))::l0::es++[s0]) 8::fo "builtin_function_or_method" [.builtin "type.__prepare__",.type "type"]::tu []::q.o}
 | _=>q
noncomputable def bo(P:Params)(q:Q):List Obj:=
 [boot_o_0 P,boot_o_1 P,boot_o_2 P,di ((match (boot_o_3 P).data with
  | .dict l _=>(match l.toList with
   | x::r=>{x with val:=q.m}::r
   | []=>[])
  | _=>[])++q.e.reverse.map λy=>en P y.1 y.2.1 y.2.2) (9+q.e.length),boot_o_4 P,boot_o_5 P,boot_o_6 P,boot_o_7 P,boot_o_8 P,boot_o_9 P,boot_o_10 P,tu [],nf q.c,cdO "<module>" "<module>" 1 0 0 11 false 182 185 [.none,.none,.none],
  {cls:=.type "frame",slots:=#[some (.ref 13),some (.ref 3),some (.ref 3),none,some (sv "__main__" 164),none,some (.ref 0)]}]++q.o.reverse
noncomputable def mkT:List Obj->Nat->BT->BT
 | [],_,T=>T
 | o::r,n,T=>mkT r (n+1) (T.ins n o)
noncomputable def q0:Q:=⟨15,187,[],[],[],sv "__main__" 164⟩
noncomputable abbrev PR:=PySem.Challenge.pw_squarehouse_s01_answers
noncomputable abbrev bE:List Stmt:=behindTheImports PR
noncomputable def ev:Env:={ scope:=PR.main.scope, locals:=mainNs, globals:=mainNs, cells:=[], code:=.ref 13, frame:=some 14 }
noncomputable abbrev cE:Code:=.body bE ev
noncomputable abbrev P0:Pos:=⟨0, 0, 0, 0⟩
noncomputable abbrev ann0:Option Value:=some (.ref 6)
noncomputable def Qk (P:Params)(k:Nat):Q:=(bE.take k).foldl (st1 P) q0
noncomputable def TR (P:Params)(k:Nat):BT:=mkT (bo P (Qk P k)) 0 .nil
noncomputable def SS (w:World)(os:OsState)(k n t:Nat):SharedT:=⟨TR w.params k, n, {}, #[], {}, t, os⟩
noncomputable def pE:Nat→Pos | 0=>P0 | k+1=>(bE.getD k (.Pass P0)).pos
noncomputable def sl (a b:Nat):List Stmt:=(bE.drop a).take b
def Sg (a b e n t n' t':Nat)(w:World):Prop:=(fun os=>segRunT treeTable PR w 11 ann0 1 6000 (SS w os a n t) (piecesOf (sl a b) ev cE (pE a) [topFrame P0]))=fun os=>some (.next, SS w os e n' t', cE, pE e)
def Sv (a b e n t n' t':Nat)(w:World):Prop:=(fun os=>Fast.tw10110043849684766642 Fast.tw14364793385576792824 PR w 11 ann0 1 6000 (SS w os a n t) ⟨(Fast.tw12563942051412417395 (sl a b) ev).wrap doneF deadEnd id id, cE, pE a, [topFrame P0]⟩)=fun os=>some (.next, SS w os e n' t', cE, pE e)
def Sf (a b e n t n' t':Nat)(c:Bool):Prop:=∀ u:World, Sv a b e n t n' t' (u.withFollow "special-get-raises" c)
theorem sgf {a b e n t n' t'} (h:Sf a b e n t n' t' false)(k:Sf a b e n t n' t' true)(w:World):Sg a b e n t n' t' w:=by
 have:=byRow2 (P:=Sv a b e n t n' t') _ h k w
 unfold Sg piecesOf
 rw [Fast.te10110043849684766642, Fast.te14364793385576792824, Fast.te12563942051412417395]; exact this
theorem s1f:Sf 0 80 80 15 187 449 837 false:=fun u=>by
 show (fun _=>_)=fun _=>_
 kernel_rfl
theorem s1t:Sf 0 80 80 15 187 449 837 true:=fun u=>by
 show (fun _=>_)=fun _=>_
 kernel_rfl
theorem s2f:Sf 80 80 160 449 837 942 1500 false:=fun u=>by
 show (fun _=>_)=fun _=>_
 kernel_rfl
theorem s2t:Sf 80 80 160 449 837 942 1500 true:=fun u=>by
 show (fun _=>_)=fun _=>_
 kernel_rfl
theorem s3f:Sf 160 74 234 942 1500 1413 2196 false:=fun u=>by
 show (fun _=>_)=fun _=>_
 kernel_rfl
theorem s3t:Sf 160 74 234 942 1500 1413 2196 true:=fun u=>by
 show (fun _=>_)=fun _=>_
 kernel_rfl
theorem bEs:sl 0 80 ++ (sl 80 80 ++ (sl 160 74 ++ []))=bE:=by kernel_rfl
end Tp
namespace Sq
open PySem PySem.W PyProof.Rows
noncomputable abbrev bE:List Stmt:=Tp.bE
noncomputable abbrev cE:Code:=Tp.cE
noncomputable abbrev P0:Pos:=Tp.P0
noncomputable abbrev ann0:Option Value:=Tp.ann0
noncomputable abbrev SB (w:World)(os:OsState):Shared:=(Tp.SS w os 0 15 187).abs
noncomputable abbrev SK (w:World)(os:OsState):Shared:=(Tp.SS w os 234 1413 2196).abs
noncomputable def H1 (P:Params):Heap:=absHeap (Tp.TR P 234) 1413 {}
theorem hpre (w:World)(os:OsState):topGo treeTable PR w 11 ann0 12 ⟨boot_heap w.params, Array.mk [], boot_drawn, boot_toks, os⟩ (topStub PR)=some (SB w os, ⟨denote treeTable cE, cE, P0, [topFrame P0]⟩):=by kernel_rfl
theorem hblock (w:World)(os:OsState):segRun treeTable PR w 11 ann0 1 1 (SB w os) (blockOf bE Tp.ev cE P0 [topFrame P0])=some (.next, SB w os, cE, P0):=by kernel_rfl
theorem hfin (w:World)(os:OsState):topRun treeTable PR w 11 ann0 2 (SK w os) (restOf [] Tp.ev cE (Tp.pE 234) [topFrame P0])=some (SK w os):=by kernel_rfl
theorem hsize (w:World):((boot_heap w.params).isNs mainGlobals&&(Array.mk []:Array GenState).size == 0, (boot_heap w.params).objs.size, (boot_heap w.params).nsMap mainGlobals "__annotations__")=(true, 11, ann0):=by kernel_rfl
noncomputable def MM0:Nat:=12+(1+(6000+(6000+(6000+2))))
theorem hrest (w:World)(os:OsState):topRun treeTable PR w 11 ann0 (6000+(6000+(6000+2))) (SB w os) (restOf (Tp.sl 0 80 ++ (Tp.sl 80 80 ++ (Tp.sl 160 74 ++ []))) Tp.ev cE P0 [topFrame P0])=some (SK w os) :=
  piece_app (segRun_of (congrFun (Tp.sgf Tp.s1f Tp.s1t w) os)) (piece_app (segRun_of (congrFun (Tp.sgf Tp.s2f Tp.s2t w) os)) (piece_app (segRun_of (congrFun (Tp.sgf Tp.s3f Tp.s3t w) os)) (hfin w os)))
theorem hres2 (w:World)(os:OsState):topRun treeTable PR w 11 ann0 (6000+(6000+(6000+2))) (SB w os) (restOf Tp.bE Tp.ev cE P0 [topFrame P0])=some (SK w os):=by
  have h:=hrest w os
  rw [Tp.bEs] at h
  exact h
theorem skE (w:World)(os:OsState):SK w os=⟨H1 w.params, #[], {}, 2196, os⟩:=by kernel_rfl
theorem hblk (w:World)(os:OsState):topRun treeTable PR w 11 ann0 (1+(6000+(6000+(6000+2)))) (SB w os) ⟨denote treeTable cE, cE, P0, [topFrame P0]⟩=some (SK w os):=piece_block (b:=Tp.bE) (env:=Tp.ev) (N:=6000+(6000+(6000+2))) (hblock w os) (hres2 w os)
theorem hrun (w:World)(os:OsState):topRun treeTable PR w 11 ann0 MM0 ⟨boot_heap w.params, Array.mk [], boot_drawn, boot_toks, os⟩ (topStub PR)=some ⟨H1 w.params, #[], {}, 2196, os⟩:=by
  rw [← skE]
  exact go_top (hpre w os) (hblk w os)
theorem hopen:∀ w:World, (fencedOpening treeTable PR w 20000).map (fun s=>(s.heap, s.gens, s.drawn, s.toks))=some (boot_heap w.params, Array.mk [], boot_drawn, boot_toks):=boot_open rfl rfl fun _=>rfl
noncomputable def qv:Program:={ PR with main:={ PR.main with body:=[PR.main.body.getD 233 (.Pass P0)] } }
noncomputable def lose:List Str:=PR.boundNames.filter fun n=>!(n == "answers")
theorem hstat (w:World):(fun os=>(staticsOk (importedModules PR.main.body) (boot_heap w.params) (H1 w.params)&&namesBound PR (H1 w.params)&&gensDone ⟨H1 w.params, #[], {}, 2196, os⟩&&laidKept (boot_heap w.params) (H1 w.params)))=fun _=>true:=by kernel_rfl
noncomputable abbrev S1 (w:World)(os:OsState):Shared:=⟨H1 w.params, #[], {}, 2196, os⟩
noncomputable abbrev mods:=importedModules PR.main.body
noncomputable def Xt (s:Shared):Bool:=xlAt qv [] s&&recOk [] s
theorem o1 (w:World)(os:OsState):seen ((recsOf qv).map (·.name)) (ownsOf qv) [] { S1 w os with gens:=#[] }=expectedOf qv:=by kernel_rfl
theorem o2 (w:World):(H1 w.params).bltView=bltViewBooted:=by kernel_rfl
theorem o3 (w:World):(H1 w.params).keysOk (looseW qv lose) ((recsOf qv).map (·.name)) ((litsOf qv).map (·.1)) ((clssOf qv (looseW qv lose)).map (·.name))=true:=by kernel_rfl
theorem o4 (w:World)(os:OsState):((H1 w.params).accountedOkI mods&&(H1 w.params).isNs mainGlobals&&(H1 w.params).isNs builtinsNs&&tablesOk qv (H1 w.params)&&Xt (S1 w os))=true:=by kernel_rfl
theorem o5 (w:World)(os:OsState):tabsOk qv (S1 w os)=true:=by kernel_rfl
theorem o6 (w:World)(os:OsState):pinSeenD qv (drecsOf qv) (S1 w os)=pinGoodD (drecsOf qv):=by kernel_rfl
theorem o7 (w:World)(os:OsState):plainSeenE qv (looseW qv lose) (S1 w os)=plainGoodE qv (looseW qv lose):=by kernel_rfl
theorem o8 (w:World)(os:OsState):plainSeenD qv lose (S1 w os)=plainGoodD qv lose:=by kernel_rfl
theorem o9 (w:World)(os:OsState):wideSeen qv (S1 w os)=wideGood qv:=by kernel_rfl
theorem o10 (w:World)(os:OsState):clsSeenW qv lose (S1 w os)=clsGoodW qv lose:=by kernel_rfl
theorem pair {α β:Type} {a a':α} {b b':β} (x:a=a')(y:b=b'):(a, b)=(a', b'):=by rw [x, y]
theorem and5 {a b c d e f:Bool} {p:Bool} (h1:a=true)(h2:(b&&c&&d&&e&&f)=true)(h3:p=true):(a&&b&&c&&d&&e&&f&&p)=true:=by
  simp only [Bool.and_eq_true] at h2 ⊢
  exact ⟨⟨⟨⟨⟨⟨h1, h2.1.1.1.1⟩, h2.1.1.1.2⟩, h2.1.1.2⟩, h2.1.2⟩, h2.2⟩, h3⟩
theorem oS (w:World)(os:OsState):openSeen qv lose mods Xt true (S1 w os)=openGood qv lose:=by
  unfold openSeen openGood
  refine pair ?_ (pair ?_ (pair ?_ (pair ?_ (pair ?_ (pair ?_ (pair ?_ (pair ?_ ?_)))))))
  · exact o1 w os
  · exact o2 w
  · refine and5 ?_ ?_ ?_
    · exact o3 w
    · exact o4 w os
    · rfl
  · exact o5 w os
  · exact o6 w os
  · exact o7 w os
  · exact o8 w os
  · exact o9 w os
  · exact o10 w os
theorem ok1:(chainsOk qv&&opensWell PR)=true:=by decide +kernel
theorem hleft:LeftO RW.prog qv lose Xt (fun s=>s.heap) (fun w=>H1 w.params) 20000 :=
  LeftO.of_pieces hopen hsize hrun (by decide) fun w=>funext fun os=>Prod.ext (congrFun (hstat w) os) (Prod.ext (oS w os) rfl)
def YP (w:World)(h:Heap):Prop:=∀ a o, (H1 w.params).get? a=some o→h.get? a=some o
theorem said:RW.wellSaid=true:=by
  have e:looksOpen PR=true:=by
    unfold looksOpen
    simp only [Bool.and_eq_true]
    exact ⟨⟨⟨⟨⟨w1, w2⟩, w3⟩, w4⟩, w5⟩, w6⟩
  unfold OpenSpec.wellSaid
  simp only [Bool.and_eq_true]
  exact ⟨⟨⟨⟨⟨e, w7⟩, w8⟩, w9⟩, w10⟩, w11⟩
theorem hd {d:DefRec} (h1:defOf qv RW.name=some (d, []))(h2:RW.prog.theDef RW.name=some (d.params, d.body, d.scope))(h3:kwWritten? d.params.kwonlyargs d.params.kw_defaults=some [])(call:WalkOS qv lose (XL qv []) YP RW d [] fun f vs=>PySem.call f vs):RW.Holds :=
  holds_os (q:=qv) (loose:=lose) (Xt:=Xt) (XP:=XL qv []) (YP:=YP) (N:=20000) (Yf:=fun s=>s.heap) (Ya:=fun w=>H1 w.params) hleft (fun w s e a o h=>by rw [show s.heap=H1 w.params from e]; exact h) (fun w h h' Y k a o e=>k a o (Y a o e))
    (fun s e=>xl_of s (Bool.and_eq_true_iff.mp e).1) XL.keeps h1 h2 h3 (fun s e=>recFacts_of (Bool.and_eq_true_iff.mp e).2) os_shapes said ok1 bar wit call
end Sq
open List renaming length_map->ae,range->af,getElem?_map->ak,mem_cons_of_mem->ao,mem_range->au,map_cons->ax,getElem?_eq_getElem->ay,getElem?_eq_some_iff->az,length_append->aA,length_range->aB,getD_eq_getElem?_getD->aD,mem_cons->aE,mem_map->aH,mem_cons_self->aI,replicate->aJ,size_toArray->aK,mem_of_getElem?->aL,getElem?_range->aS,foldl_cons->aU,length_cons->aV,mem_filter->aX,contains_iff_mem->aY,mem_singleton->aZ,length_singleton->bc,length_replicate->bn,length_filter_le->br,all_eq_true->bw,lookup_cons->bx,getElem?_eq_none->bA,filter->bC,range_succ_eq_map->bM,length_set->bP,map_append->bQ,replicate_succ->bS,map_congr_left->bT,mem_append->bV,sum_cons->bX,mem_append_right->bZ,getElem?_set_self->ci,filter_cons->cp,getElem?_set_ne->cy,map_map->cG,append_nil->cJ,filter_filter->dh,range_succ->dk,append_assoc->dw,all_cons->dz,nodup_cons->dA,find?_eq_none->dH,getElem?_replicate->dN,idxOf_lt_length_of_mem->dO,filter_congr->d6,contains_cons->eL,mem_append_left->eR,flatten_cons->eV,nil_append->fb,filter_eq_self->fh,length_pos_iff->fi,length_drop->fC,drop_eq_getElem_cons->fR,find?_range_eq_some->gc,map_nil->gL,getElem?_drop->gN,length_nil->gZ,pairwise_map->ic,getElem?_append_right->iz,drop_length->iF,getElem?_append_left->iM,getLast?_eq_getElem?->iN,idxOf_cons->jg,zip_cons_cons->ji,getElem_range->jl,lookup->jO,nodup_append->jR,ext_getElem?->jS,eraseIdxIfInBounds_toArray->kv,mem_iff_getElem?->kP,getElem_inj->kU,length_take->kW,countP_cons->kX,getElem_map->kY,map_take->k7,getElem?_zipIdx->lc,mem_of_mem_take->lg,of_mem_zip->lH,find?_cons->lI,filterMap_cons->mi,set_set->mv,getElem_idxOf->mZ,filter_append->m4,mem_of_find?_eq_some->nh,set_comm->oo,length_erase_of_mem->oq,eraseIdx_cons_succ->pF,isEmpty_iff->pG,ext_getElem->pH,getElem?_cons_succ->pI,getElem?_cons_zero->pJ,take_of_length_le->pR,filter_eq_nil_iff->pT,pairwise_lt_range->pU,filter_map->qP,length->sC,replicate_zero->tO,map_drop->uY,Pairwise->uZ,set_cons_zero->u9,set_cons_succ->va,map_set->wC,getElem?_set->wD,contains_nil->wE,getElem_mem->xC,cons_append->xI,eq_nil_of_length_eq_zero->zL,count_cons->zP,countP_eq_length_filter->zR,find?_some->zS,filter_nil->zV,forIn_nil->Bf,drop_zero->Bh,getElem?_zip_eq_some->Do,ne_nil_of_length_pos->Dr,any_cons->DA,cons->FJ,all_nil->F2,count_eq_countP->J1,mem_of_mem_drop->J2,takeWhile_cons->LD,getD_cons_succ->LJ,length_flatMap->LK,mem_filterMap->LO,foldl->LU,length_zipIdx->LW,map_singleton->LX,sum_singleton->LY,take_sublist->Pr,head?_filter->Pw,foldl_append->Py,flatMap_cons->Pz,mem_of_head?->PB,not_mem_nil->PN,take_length->PP,nodup_range->PQ,head?_cons->SZ,countP_map->S6,erase_cons->S7,sum_append->S8,head?_nil->T1,range_one->T3,find?_map->T5,tail_cons->T8,drop_one->XB,map_id'->XV
open Kp303 renaming does->ag,classes->aq,byPrime->cb,foretold->cS,okP->dq,say->dM,step->fZ,onward->gG,fresh->iw,Desk->mJ,keptOf->pP,atNothing->pW,set->sE,Call->u4,Ans->wX,alone->xG,State->xH,ways->Z6,row1->a0d,row2->a0e,form->a0f,ring->a0g,two->a0X
open Kp301 renaming leads->ah,of_->b5,nums->cA,greatest->gq,KEPT->iu,tellAll->i6,who->kQ,group->ni,timed->sk,moved->xE,squares->Dq,common->FK,rounds->FO,inner->Iz,steps->IA,into->LH,step->a0b,say->a0V
open PySem renaming Addr->ai,starEach->aW,model->bF,wpAny->bN,wpAny_bind->bO,mem_of_lookup->bR,sizeLine->bY,eval->b4,PyData->cf,attributeBase->cr,NameKind->cw,Around->cC,compEnvC->cR,wpAny_pure->df,foldedSetIterable->dg,cellsFrom->dv,FuncData->dJ,compareOp->dY,wpAny_truthy_bool->eE,holding->eF,swapsWith->eT,Obj->fB,Scope->fV,wpAny_mono->fW,backTo->gP,wpAny_passesOwn->ip,bootBuiltins->jf,behindInMarks->jQ,wpAny_Call_Name_kw->j8,call_meets->j9,assignEach->mj,standAt->mr,keywordEach->mB,sliceBounds->mC,inplaceOp->oa,pushCells->oh,assign->pz,swapsWithSole->qL,PassesOwn->r9,binaryOp->sf,sysModules->tz,Env->tD,setItem->tE,letOwnedTupleGo->tL,pushCells_keeps->tM,Within->vQ,Operator->vR,backToKw->vS,release->wA,getMethod->wB,codeAny->Ad,codeAny_mono->Ae,seqIndex_neg->Af,DictEntry->Dj,Arguments->Dm,seqIndex?->Dn,cLine->Dv,seqIndex_of->Dy,subscripted->Dz,wpAny_execs_nil->FF,getItem->FU,BindsTo->FV,notedBy->FZ,callerA->F0,isTrue->Io,CmpOp->Ip,methodCallForm->Ir,wpAny_holding->Lu,wpAny_standAt->Lv,swappedStores->Lw,nums_intItems->LA,call->LC,lastMarks->LP,bindL->LR,bindC->LS,intKind->Pp,Keyword->Pq,wpAny_getItem_list_neg->Pu,Sem->PJ,wpAny_isTrue_Compare1->PM,wpAny_loadName_local->SO,sizeLine_eq->SQ,bindArgs->SS,callWith->SU,numAt_eq->SW,getD_mem->SX,Reads->SY,wpAny_loadName_cell->TW,wpAny_Name->Xq,typeIs_int->Xu,hashInt->XN,Model->XO,wpAny_assign_Name->XQ,slot_list_getitem->XR,wpAny_pyIter_enum->XS,storeName->ZP,Data->ZQ,rule->ZR,wpAny_pyIter_zip->Z0,wpAny_Compare1->a2F,augStore->a2G,recursionLimit->a2I,fitsIndex_both->a2J,intItems->a2K,ReadsAll->a2L,newFunctionEnv->a2M,compPost->a2N,intBits_le_64->a3i,evalPart_none->a3j,call_list_seq->a3k,comprehension->a3l,Comprehension->a3m
open Nat renaming mod_eq_of_lt->aj,mod_lt->aN,le_refl->aO,lt_of_lt_of_le->ba,le_trans->bb,zero_add->bJ,add_mod_right->cc,mul_mod->cj,mul_comm->cz,add_sub_cancel->cD,ne_of_lt->cQ,not_lt_zero->cV,zero_le->dj,mod_mod->dm,lt_irrefl->eO,pow_zero->eP,min_eq_left->fg,pow_succ->fA,mul_assoc->fD,reduceDiv->fE,reduceMod->fF,le_of_not_lt->fG,sub_add_cancel->fL,le_antisymm->fY,le_add_right->gz,reduceEqDiff->gB,succ_mul->gQ,zero_mod->gR,pow_one->iC,one_mul->iD,mul_le_mul->iE,lt_or_ge->iO,add_assoc->jh,mod_mul_mod->jn,mul_mod_mod->jo,lt_succ_self->k6,pow_add->lx,mul_one->ly,mod_add_mod->mo,le_of_eq->mz,lt_trans->mD,sub_zero->mE,mod_eq_sub_mod->m9,lt_of_le_of_lt->na,le_of_succ_le->oi,pow_mod->ot,reduceSub->pA,add_comm->qN,le_mul_of_pos_left->qO,le_div_iff_mul_le->si,mul_le_mul_right->tH,pow_mul->tJ,add_sub_cancel'->u0,reduceMul->u7,pos_of_ne_zero->vV,le_of_lt->wS,ne_of_gt->wT,lt_succ_of_lt->wV,zero_mul->wZ,reduceLeDiff->zM,le_succ->zO,add_mod->zT,strongRecOn->Ai,div_add_mod->Aj,add_le_add->Ds,reduceBEq->FP,reduceBNe->FQ,reduceAdd->FS,mul_succ->Is,le_total->Iu,mod_self->Iy,dvd_of_mod_eq_zero->IC,reduceLT->IE,one_pow->LG,mul_add->LI,lt_of_le_of_ne->Px,succ_le_succ->SV,lt_of_not_le->S0,min_eq_right->S5,div_le_self->T0,add_mod_mod->T4,succ->Xy,le_of_dvd->XY,succ_pos->Z1,zero_sub->Z2,zero_max->Z4,sub_sub->a0M,pow_two->a0N,not_lt->a2O
open PySem.W renaming Frag->al,keepIn->cx,emptyDict->dW,findIn->fv,instObj->fM,plainGet->nY,lookIn->qM,plainGet_of->sg,callWith_K->tF,WellAll->tG,methodObj->uV,hasDictIn->uW,fnOf->uX,ReadsW->vT,takerIn->wU,isFn->Dk,cellsFrom_some->Dl,methodCall_KW->Dx,callWith_K0->FW,plainOver->J0,handedIn->Ly,WRecords->LB,makesIn->LQ,ReadsAllW->LV,codeIn->Ps,WalkOS->Pv
open Kp300 renaming counts->am,at_->aR,less->bq,sign->cP,product->di,nums->eY,worth->fq,first->fX,fullCounts->kR,zero->kS,TERMS->k8,is->mF,fewest->pQ,turns->xF,most->Al,sum->DB,paired->FL,never->X1,step->a0a,say->a0U
open Bool renaming and_eq_true->aG,and_eq_true_iff->be,false_ne_true->bj,eq_iff_iff->bH,noConfusion->cK,true_and->dZ,and_false->d5,and_comm->fw,and_true->gb,false_eq_true->gM,false_and->iy,false_or->jc,beq_eq_decide_eq->kO,not_eq_true'->nZ,not_true->ol,or_true->pS,true_or->pV,not_false->sD,or_eq_true->zQ,or_false->DD
open Kp299 renaming long->aM,roundFrom->bm,multiples->cH,okP->dy,upTo->eW,half->eX,place->ir,column->mn,nextBut->n6,pairs->sj,rounds->vU,folds->Iv,is->Iw,tellAll->T2,folded->Xz,turned->XA,under->XZ,dealt->X0,step->Z9,say->a0T
open Kp303Neutral renaming step->aT,callOf->a0Q
open Kp298 renaming squared->a0,round->bI,foot->cO,nums->cX,onRound->dX,tail->eI,heads->iq,trail->nc,depth->ng,is->sh,pow->wY,meet->Ak,root->LF,farthest->S4,powUp->XW,after->XX,many->Z5,step->Z8,say->a0S
open Kp297 renaming kind->a8,all->b9,upTo->dF,okK->dL,okP->iB,run->mw,onward->FG,before->FH,least->Ix,begins->Xx,isSq->Z3,step->Z7,say->a0R
open Option renaming some->bv,isNone_iff_eq_none->m3,getD_none->og,map_some->xD,none->Xv,bind->Xw,map->XT
open Kp302 renaming powers->bD,members->bG,leavesAll->bL,cls->cB,index->cN,differs->cW,row->eJ,leastRoot->eZ,okE->jk,even->kT,powersUp->sn,roots->so,nums->Am,no->IB,times->ID,is->S9,behind->XC,step->a0c,say->a0W
open PySem.F renaming plainAttrs_list->cF,slot_list_pop->pN,type_list_pop->pO,slot_list_append->Ag,type_list_append->Ah,slot_list_index->Be,slot_list_count->Bg
open Int renaming toNat_natCast->cY,natCast_inj->d9,pow_one->gO,mul_comm->gS,emod_nonneg->ml,pow_zero->mG,mul_one->oe,ofNat_sub->u6,le_trans->wW,natCast_emod->zK,fdiv_eq_ediv_of_nonneg->Dg,fmod_eq_emod_of_nonneg->Di,toNat_of_nonneg->LZ,le_antisymm->TZ,natCast_add->T6,natCast_mul->T7,natCast_pow->T9,mul_assoc->X2,le_refl->a0H,one_mul->a0O,neg_mul->a0P
open False renaming elim->dE
open PyKp303 renaming shape->eK,answers->eU,bound->kx,whole->nb,answers_asked->DC
open PyProof.Rows renaming callWith_type1->eS,envOfC->zH,boot_min->zI,boot_max->zJ,AllBare->Ac,IntsAre->FY,subscriptTail->Lz,subscriptTail_builtinR->Pt,Subscript_->Xs,callWith_builtin1->a0G,boot_sum->a0I,boot_list->a0J,boot_tuple->a0K,boot_abs->a0L
open Array renaming length_toList->gm,getElem?_toList->FX,mem_toList_iff->Iq,find?_toList->Lx,toList->Xr
open PyFlat renaming calls->iA,played->Bj,told->F1
open Ne renaming symm->jN
open Sum renaming inl->j7,inr->k9
open Prod renaming fst->lf
open ForInStep renaming yield->oj
open PyInside renaming calls->pX,each->zU,within->LL
open Function renaming comp_def->tN
open PyProof renaming noPylong_small->Dh
open OfNat renaming ofNat->XU
open PySem.EqMixed renaming eq_bool_str->ZS,eq_int_str->ZT,eq_str_bool->ZU,eq_str_int->ZV,ne_bool_str->ZW,ne_int_str->ZX,ne_str_bool->ZY,ne_str_int->ZZ
open PySem.EqNone renaming eq_none_none->a0r,eq_none_bool->a0s,eq_none_int->a0t,eq_none_str->a0u,eq_bool_none->a0v,eq_int_none->a0w,eq_str_none->a0x,ne_none_none->a0y,ne_none_bool->a0z,ne_none_int->a0A,ne_none_str->a0B,ne_bool_none->a0C,ne_int_none->a0D,ne_str_none->a0E
open True renaming intro->a0F
open Decidable renaming byContradiction->a4a
set_option hygiene false in
local macro_rules
  | `(tactic| fail "sp") => `(tactic| (repeat(first | apply vqN' h | apply vqA' h | apply vqC' h | apply vqS' h | apply vqT' h | apply vqM' h | apply vqI' h | apply vqL' h | apply vqs' h | apply vqu' h | apply vqe' h | apply vqr' h | apply vqw' h | apply vqf' h | apply vq0' h | apply vq1' h | apply vq2' h | apply vqc' h | apply vqo' h | apply vqn' h | apply vqk' h | apply vqG' h);clear h;intros;rename_i h))
  | `(tactic| fail "gr") => `(tactic| (refine gr rfl λX sc st C S F h=>?_;fail"sp"))
  | `(tactic| fail "d8") => `(tactic| (refine d8 rfl rfl (λ_ _=>rfl) λX sc ex C S h=>?_;fail"sp"))
  | `(tactic| fail "ve") => `(tactic| (cases e<;>first | (apply m;exact h) | exact(bj h).elim))
  | `(tactic| fail "o") => `(tactic| first | exact .inl rfl | exact .inr rfl | assumption)
  | `(tactic| fail "q") => `(tactic| first | exact nobehind _ (by decide) (by decide) | rfl)
  | `(tactic| fail "a") => `(tactic| (haveI hb:=(a9 g.p).1;haveI hbb:=(a9 g.p).2))
  | `(tactic| fail "b") => `(tactic| (haveI h1:=(aF h).1;haveI h2:=(aF h).2))
  | `(tactic| fail "c") => `(tactic| (haveI h3:=(aF h1).1;haveI h4:=(aF h1).2))
  | `(tactic| fail "d") => `(tactic| (haveI h5:=(aF h3).1;haveI h6:=(aF h3).2))
  | `(tactic| fail "e") => `(tactic| refine aaE e λx e1 f1=>?_)
  | `(tactic| fail "h") => `(tactic| (haveI hb:=(a9 hp).1;haveI hbb:=(a9 hp).2))
  | `(tactic| fail "i") => `(tactic| intro pins s σ H Q I h)
  | `(tactic| fail "j") => `(tactic| (haveI h7:=(aF h5).1;haveI h8:=(aF h5).2))
  | `(tactic| fail "k") => `(tactic| refine aaE f1 λy e2 f2=>?_)
  | `(tactic| fail "m") => `(tactic| (haveI h9:=(aF h7).1;haveI h10:=(aF h7).2))
set_option hygiene false in
local macro_rules
  | `(tactic| cases $x:ident) => `(tactic| first | exact(bj $x).elim | exact(nbE $x).elim | obtain rfl:=bv.inj $x | obtain⟨rfl,rfl⟩:=pqE $x | obtain rfl:=$x | cases ($x))
  | `(tactic| cases $f:ident $x:ident) => `(tactic| first | obtain rfl:=$f $x | cases ($f $x))
  | `(tactic| cases (show $t from $x)) => `(tactic| first | obtain rfl:=bv.inj (show $t from $x) | cases ((show $t from $x)))
local macro_rules | `(command| abbrev $i:declId $s:optDeclSig $v:declVal) => `(command| noncomputable def $i:declId $s:optDeclSig $v:declVal)
noncomputable section
namespace L2
theorem _root_.oD{p:Prop}[Decidable p](h:decide p=true):p:=of_decide_eq_true h
theorem _root_.nbE{α:Type}{k:α}(h:none=some k):False:=nomatch h
theorem _root_.pqE{α β:Type}{a c:α}{b d:β}(h:some (a,b)=some (c,d)):a=c/\b=d:=by
 injection h with h;injection h with h g;exact⟨h,g⟩
open PySem PySem.Spec PyProof.Rows
@[reducible]def Bk:=Sum Int Str
abbrev Ta:Bk->Value->Bool
 | .inl k,v=>Value.isInt k v
 | .inr x,v=>Value.isStrOf x v
abbrev a0Y(w:World):Bk->Int
 | .inl k=>XN k
 | .inr x=>hashStr w x
theorem fN:∀{k:Bk} {v:Value},Ta k v=true->(∃i t,k=j7 i/\v=Value.int i t)\/(∃x t,k=k9 x/\v=Value.str x t)
 | .inl i,v,h=>by
  obtain⟨t,e⟩:=Value.isInt_shape (k:=i) (v:=v) h;exact .inl ⟨i,t,rfl,e⟩
 | .inr x,v,h=>by
  obtain⟨t,e⟩:=Value.isStrOf_shape (x:=x) (v:=v) h;exact .inr ⟨x,t,rfl,e⟩
theorem Ua(a b:Int):decide ((j7 a:Bk)=j7 b)=(a==b):=by
 by_cases e:a=b
 . subst e;simp
 . have h:¬(j7 a:Bk)=j7 b:=λq=>e (j7.inj q);rw[decide_eq_false h];exact(beq_eq_false_iff_ne.mpr e).symm
theorem Ub(a b:Str):decide ((k9 a:Bk)=k9 b)=decide (a=b):=by
 by_cases e:a=b
 . subst e;simp
 . have h:¬(k9 a:Bk)=k9 b:=λq=>e (k9.inj q);rw[decide_eq_false h,decide_eq_false e]
theorem Uc(a:Int)(b:Str):decide ((j7 a:Bk)=k9 b)=false:=decide_eq_false (λq=>nomatch q)
theorem Ud(a:Str)(b:Int):decide ((k9 a:Bk)=j7 b)=false:=decide_eq_false (λq=>nomatch q)
abbrev IF(prog:Program)(w:World):PySem.KeyKind prog w Bk where
 is:=Ta
 hash:=a0Y w
 inj:=λv a b ha hb=>by
  rcases fN ha with⟨i,t,rfl,rfl⟩ | ⟨x,t,rfl,rfl⟩
  . rcases fN hb with⟨j,u,rfl,e⟩ | ⟨y,u,rfl,e⟩
    . injection e with e1 _;rw[e1]
    . exact nomatch e
  . rcases fN hb with⟨j,u,rfl,e⟩ | ⟨y,u,rfl,e⟩
    . exact nomatch e
    . injection e with e1 _;rw[e1]
 byValue:=λk v h=>by
  rcases fN h with⟨i,t,rfl,rfl⟩ | ⟨x,t,rfl,rfl⟩<;>rfl
 pyHash:=λhv h=>by
  rcases fN hv with⟨i,t,rfl,rfl⟩ | ⟨x,t,rfl,rfl⟩
  . exact wpAny_pyHash_int h
  . exact wpAny_pyHash_str h
 eqBool:=λhu hv h=>by
  rcases fN hu with⟨i,t,rfl,rfl⟩ | ⟨x,t,rfl,rfl⟩
  . rcases fN hv with⟨j,u,rfl,rfl⟩ | ⟨y,u,rfl,rfl⟩
    . rw[Ua]at h;exact wpAny_eqBool_int h
    . rw[Uc]at h;exact SeqAt.EqAt.int_str i t y u _ _ _ _ h
  . rcases fN hv with⟨j,u,rfl,rfl⟩ | ⟨y,u,rfl,rfl⟩
    . rw[Ud]at h;exact SeqAt.EqAt.str_int x t j u _ _ _ _ h
    . rw[Ub]at h;exact wpAny_eqBool_str h
 «strs»:=λk x t v h=>by
  rcases fN h with⟨i,u,rfl,e⟩ | ⟨y,u,rfl,e⟩
  . exact nomatch e
  . injection e with e1 _
    subst e1;cases v<;>rfl
inductive V where
 | non | bl (b:Bool) | int (i:Int) | str (x:Str) | byt (b:Array UInt8) | flt (b:UInt64) | ref (a:ai) | ty (n:String)
 deriving DecidableEq
abbrev RelV:V->Value->Prop
 | .non,u=>u=Value.none
 | .bl b,u=>u=Value.bool b
 | .int i,u=>∃t,u=Value.int i t
 | .str x,u=>∃t,u=Value.str x t
 | .byt b,u=>∃t,u=Value.bytes b t
 | .flt b,u=>∃t,u=Value.float b t
 | .ref a,u=>u=Value.ref a
 | .ty n,u=>u=Value.type n
@[reducible]def cv:List V->List Value->Prop:=Paired RelV
theorem cv.length{xs:List V}{us:List Value}(r:cv xs us):xs.length=us.length:=Paired.length r
theorem cv.get:∀{xs:List V} {us:List Value} {i:Nat} {x:V},cv xs us->xs[i]?=some x->∃u,us[i]?=some u/\RelV x u
 | _,_,_,_,.nil,e=>by simp at e
 | _,_,0,_,.cons r _,e=>by simp at e;subst e;exact⟨_,rfl,r⟩
 | _,_,i+1,x,.cons _ t,e=>by
  obtain⟨u,h1,h2⟩:=cv.get (i:=i) (x:=x) t (by simpa using e);exact⟨u,by simpa using h1,h2⟩
theorem cv.set{x:V}{u:Value}(r:RelV x u):∀{xs:List V} {us:List Value} (i:Nat),cv xs us->cv (xs.set i x) (us.set i u)
 | _,_,_,.nil=>.nil
 | _,_,0,.cons _ t=>.cons r t
 | _,_,i+1,.cons q t=>.cons q (cv.set r i t)
theorem cv.append:∀{xs ys:List V} {us ws:List Value},cv xs us->cv ys ws->cv (xs++ys) (us++ws)
 | _,_,_,_,.nil,s=>s
 | _,_,_,_,.cons r t,s=>.cons r (cv.append t s)
theorem cv.take:∀{xs:List V} {us:List Value} (n:Nat),cv xs us->cv (xs.take n) (us.take n)
 | _,_,0,_=>.nil
 | _,_,_+1,.nil=>.nil
 | _,_,n+1,.cons r t=>.cons r (cv.take n t)
theorem cv.drop:∀{xs:List V} {us:List Value} (n:Nat),cv xs us->cv (xs.drop n) (us.drop n)
 | _,_,0,r=>r
 | _,_,_+1,.nil=>.nil
 | _,_,n+1,.cons _ t=>cv.drop n t
abbrev zW:Option V->Option Value->Prop
 | some v,some u=>RelV v u
 | none,none=>True
 | _,_=>False
abbrev KV{κ:Type}:List (κ×V)->List (κ×Value)->Prop:=Paired λ(p:κ×V) (q:κ×Value)=>p.1=q.1/\RelV p.2 q.2
abbrev kV:Bk->V
 | .inl i=>.int i
 | .inr x=>.str x
inductive HO where
 | lst (xs:List V)
 | tup (xs:List V)
 | dK (kvs:List (Bk×V)) | dT (kvs:List (List Bk×V))
 | set (S:Int->Bool) (n:Nat)
 | ins (C dx:ai) (fs:List (Str×V))
 | own (x:ai)
 | xd (fs:List (Str×V))
 | met (f x:ai)
 | rng (lo hi:Int)
 | frz (o:fB) (u:HO)
 | tbl (ps:Array Value)
 | ext (φ:Heap->Prop)
@[reducible]def Hp:=ai->Option HO
abbrev upd(H:Hp)(a:ai)(o:HO):Hp:=λb=>if b=a then some o else H b
theorem bB{H:Hp}{a:ai}{o:HO}:upd H a o a=some o:=by unfold upd;rw[if_pos rfl]
theorem bU{H:Hp}{a b:ai}{o:HO}(h:b≠a):upd H a o b=H b:=by unfold upd;rw[if_neg h]
theorem lJ{H:Hp}{a b:ai}{o u:HO}(h:H a=some o)(h':H b=some u)(d:o≠u):a≠b:=by
 intro e;subst e;rw[h]at h';exact d (bv.inj h')
theorem eh{H:Hp}{a b:ai}{o:HO}(h:H a=some o)(h':H b=none):a≠b:=by
 intro e;subst e;rw[h]at h';cases h'
section
variable (P:Program) (w:World)
abbrev iG(H:Hp)(h:Heap)(a:ai):HO->Prop
 | .lst xs=>xs.length<=bY/\∃(its:List Value) (n:Nat),cv xs its/\h.get? a=some {cls:=.type "list",data:=.seq its.toArray n}
 | .tup xs=>xs.length<=bY/\∃its:List Value,cv xs its/\IsTup h a its.toArray
 | .dK kvs=>kvs.length<=bY/\(a==tz)=false/\∃vs,KV kvs vs/\h.DictOf (IF P w) a vs
 | .dT kvs=>kvs.length<=bY/\(a==tz)=false/\∃xs:List (List Bk×ai×Value),
  Paired (λ(p:List Bk×V) (q:List Bk×ai×Value)=>p.1=q.1/\H q.2.1=some (.tup (p.1.map kV))/\RelV p.2 q.2.2) kvs xs/\
  ∃o es ep,h.get? a=some o/\o.ExactDict/\o.data=.dict es ep/\es.toList=xs.map (entryOfKey (tupleKind (IF P w)))/\(xs.map (·.1)).Nodup
 | .set S n=>h.SetOf (Pp P w) a S n
 | .ins C dx fs=>H dx=some (.own a)/\fs.length<=1000/\dx≠a/\h.get? a=some (fM C dx)/\
  ∃mA,h.Ns1 dx mA/\(∀f,zW (fs.lookup f) (mA f))/\vQ mA (fs.map (·.1))
 | .own _=>∃o,h.get? a=some o
 | .xd fs=>∃mA,h.Ns1 a mA/\∀f,zW (fs.lookup f) (mA f)
 | .rng lo hi=>∃t u v,h.get? a=some {cls:=.type "range",data:=.fields #[.int lo t,.int hi u,.int 1 v]}
 | .frz o u=>h.get? a=some o/\iG H h a u
 | .tbl ps=>h.get? a=some {cls:=.none,data:=.fields ps}
 | .met f x=>h.get? a=some (uV (.ref f) (.ref x))
 | .ext φ=>φ h/\(∃o,h.get? a=some o)/\∀h1 h2:Heap,φ h1->(∀o,h1.get? a=some o->h2.get? a=some o)->φ h2
abbrev tQ(H:Hp)(h:Heap):Prop:=∀a o,H a=some o->iG P w H h a o
end
section
variable {P:Program} {w:World} {H H':Hp} {h h':Heap} {a:ai} {o:HO}
theorem iG.lt(x:iG P w H h a o):a<h.objs.size:=by
 cases o with
 | lst xs=>obtain⟨_,_,_,_,e⟩:=x;exact Heap.lt_size e
 | tup xs=>obtain⟨_,_,_,p⟩:=x;exact p.lt
 | dK kvs=>obtain⟨_,_,_,_,o,_,_,e,_⟩:=x;exact Heap.lt_size e
 | dT kvs=>obtain⟨_,_,_,_,o,_,_,e,_⟩:=x;exact Heap.lt_size e
 | set S n=>obtain⟨o,_,_,_,e,_⟩:=x;exact Heap.lt_size e
 | ins C dx fs=>obtain⟨_,_,_,e,_⟩:=x;exact Heap.lt_size e
 | own y=>obtain⟨_,e⟩:=x;exact Heap.lt_size e
 | xd fs=>obtain⟨_,⟨_,_,_,e,_⟩,_⟩:=x;exact Heap.lt_size e
 | rng lo hi=>obtain⟨_,_,_,e⟩:=x;exact Heap.lt_size e
 | frz ob u=>obtain⟨e,_⟩:=x;exact Heap.lt_size e
 | tbl ps=>exact Heap.lt_size (show h.get? a=some _ from x)
 | met f y=>exact Heap.lt_size (show h.get? a=some _ from x)
 | ext φ=>obtain⟨_,⟨_,e⟩,_⟩:=x;exact Heap.lt_size e
theorem Paired.mapP{α β:Type}{F G:α->β->Prop}:∀{l₁:List α} {l₂:List β},Paired F l₁ l₂->(∀a b,F a b->G a b)->Paired G l₁ l₂
 | _,_,.nil,_=>.nil
 | _,_,.cons r t,f=>.cons (f _ _ r) (Paired.mapP t f)
theorem iG.stay (x:iG P w H h a o) (k:∀b u,(b=a\/H b=some (.own a))->h.get? b=some u->h'.get? b=some u)
 (ho:∀b,H b=some (.own a)->H' b=some (.own a)) (ht:∀b xs,H b=some (.tup xs)->H' b=some (.tup xs)):iG P w H' h' a o:=by
 induction o with
 | lst xs=>obtain⟨z,its,n,r,e⟩:=x;exact⟨z,its,n,r,k _ _ (.inl rfl) e⟩
 | tup xs=>obtain⟨z,its,r,ob,e,c⟩:=x;exact⟨z,its,r,ob,k _ _ (.inl rfl) e,c⟩
 | dK kvs=>obtain⟨z,y,vs,r,ob,es,ep,e,c⟩:=x;exact⟨z,y,vs,r,ob,es,ep,k _ _ (.inl rfl) e,c⟩
 | dT kvs=>
  obtain⟨z,y,xs,r,ob,es,ep,e,c⟩:=x;exact⟨z,y,xs,Paired.mapP r λp q z=>⟨z.1,ht _ _ z.2.1,z.2.2⟩,ob,es,ep,k _ _ (.inl rfl) e,c⟩
 | set S n=>obtain⟨ob,es,ep,t,e,c⟩:=x;exact⟨ob,es,ep,t,k _ _ (.inl rfl) e,c⟩
 | ins C dx fs=>
  obtain⟨d,z,ne,e,mA,⟨od,es,ep,e2,c⟩,r⟩:=x;exact⟨ho _ d,z,ne,k _ _ (.inl rfl) e,mA,⟨od,es,ep,k _ _ (.inr d) e2,c⟩,r⟩
 | own y=>obtain⟨ob,e⟩:=x;exact⟨ob,k _ _ (.inl rfl) e⟩
 | xd fs=>obtain⟨mA,⟨od,es,ep,e,c⟩,r⟩:=x;exact⟨mA,⟨od,es,ep,k _ _ (.inl rfl) e,c⟩,r⟩
 | rng lo hi=>obtain⟨t,u,v,e⟩:=x;exact⟨t,u,v,k _ _ (.inl rfl) e⟩
 | frz ob u ih=>obtain⟨e,q⟩:=x;exact⟨k _ _ (.inl rfl) e,ih q⟩
 | tbl ps=>
  have e:h.get? a=some {cls:=.none,data:=.fields ps}:=x;show h'.get? a=some {cls:=.none,data:=.fields ps};exact k a _ (.inl rfl) e
 | met f y=>
  have e:h.get? a=some (uV (.ref f) (.ref y)):=x;show h'.get? a=some (uV (.ref f) (.ref y));exact k a _ (.inl rfl) e
 | ext φ=>obtain⟨p,⟨o,e⟩,st⟩:=x;exact⟨st _ _ p λo q=>k _ _ (.inl rfl) q,⟨o,k _ _ (.inl rfl) e⟩,st⟩
theorem tQ.lt(x:tQ P w H h)(e:H a=some o):a<h.objs.size:=(x a o e).lt
theorem tQ.fresh(x:tQ P w H h)(e:h.objs.size<=a):H a=none:=by
 cases q:H a with
 | none=>rfl
 | some u=>exact absurd (ba (x.lt q) e) (eO _)
theorem tQ.kept(x:tQ P w H h)(k:∀b u,h.get? b=some u->h'.get? b=some u):tQ P w H h':=λa o e=>
 (x a o e).stay (λb u _ q=>k b u q) (λ_ q=>q) λ_ _ q=>q
theorem tQ.laid(x:tQ P w H h)(k:∀b u,h.get? b=some u->h'.get? b=some u)(hp:h.objs.size<=a)(new:iG P w (upd H a o) h' a o):tQ P w (upd H a o) h':=λb u e=>by
 have hn:=x.fresh hp;by_cases hb:b=a
 . subst hb;rw[bB]at e;cases e;exact new
 . rw[bU hb]at e;exact(x b u e).stay (λc v _ q=>k c v q) (λc q=>by rw[bU (eh q hn)];exact q) λc xs q=>by rw[bU (eh q hn)];exact q
end
abbrev Rd(H:Hp)(a:ai)(u:HO):Prop:=H a=some u\/∃o,H a=some (.frz o u)
theorem Rd.ok{P:Program}{w:World}{H:Hp}{h:Heap}{a:ai}{u:HO}(r:Rd H a u)(x:tQ P w H h):iG P w H h a u:=by
 rcases r with r | ⟨o,r⟩
 . exact x a u r
 . obtain⟨_,q⟩:=x a _ r;exact q
abbrev X3:Option HO->Prop
 | some (.lst _)=>True
 | some (.dK _)=>True
 | some (.dT _)=>True
 | some (.set _ _)=>True
 | some (.ins _ _ _)=>True
 | some (.ext _)=>True
 | _=>False
section
variable {P:Program} {w:World} {H:Hp} {h h':Heap} {x e:ai} {o':HO}
theorem tQ.write (ok:tQ P w H h) (mu:X3 (H x)) (he:e=x\/H e=some (.own x)) (k:∀b u,b≠e->h.get? b=some u->h'.get? b=some u) (heo:∃u,h'.get? e=some u)
 (new:iG P w (upd H x o') h' x o'):tQ P w (upd H x o') h':=λb u q=>by
 have nown:∀c y,H c=some (.own y)->c≠x:=λc y r z=>by subst z;rw[r]at mu;exact mu
 have ntup:∀c xs,H c=some (.tup xs)->c≠x:=λc xs r z=>by subst z;rw[r]at mu;exact mu
 by_cases hb:b=x
 . subst hb;rw[bB]at q;cases q;exact new
 . rw[bU hb]at q;by_cases hbe:b=e
   . have q':H b=some (.own x):=by
      rcases he with z | z
      . exact absurd (hbe.trans z) hb
      . rw[hbe];exact z
     rw[q]at q';cases q';obtain⟨v,hv⟩:=heo;exact⟨v,by rw[hbe];exact hv⟩
   . refine(ok b u q).stay (λc v hc r=>k c v ?_ r) (λc r=>by rw[bU (nown c b r)];exact r) λc xs r=>by rw[bU (ntup c xs r)];exact r
     rcases hc with rfl | hc
     . exact hbe
     . rintro rfl;rcases he with z | z
       . exact nown c b hc z
       . rw[hc]at z;cases z;exact hb rfl
end
structure Un (fs ex:List ai) (H H':Hp) (h h':Heap):Prop where
 keep:∀b o,h.get? b=some o->H b=none->b∉fs->b∉ex->h'.get? b=some o
 slot:∀b o,h.get? b=some o->H b=none->b∈fs->b∉ex->∃sl,h'.get? b=some {o with slots:=sl}
 free:∀b o,h.get? b=some o->H b=none->b∉ex->H' b=none
 there:∀b o,h.get? b=some o->b∉ex->∃o',h'.get? b=some o'
 tups:∀b xs,H b=some (.tup xs)->H' b=some (.tup xs)
 frzs:∀b o u,H b=some (.frz o u)->H' b=some (.frz o u)
 tbls:∀b ps,H b=some (.tbl ps)->∃more,H' b=some (.tbl (ps++more))
section
variable {fs fs' ex ex':List ai} {H H1 H2:Hp} {h h1 h2 h':Heap} {a x e:ai} {o:HO}
theorem Un.any(u:Un fs ex H H1 h h1){b:ai}{ob:fB}(q:h.get? b=some ob)(n:H b=none)(hx:b∉ex):∃sl,h1.get? b=some {ob with slots:=sl}:=by
 by_cases hb:b∈fs
 . exact u.slot b ob q n hb hx
 . exact⟨ob.slots,u.keep b ob q n hb hx⟩
theorem Un.kept(k:∀b u,h.get? b=some u->h'.get? b=some u):Un fs ex H H h h':=
 ⟨λb ob q _ _ _=>k b ob q,λb ob q _ _ _=>⟨ob.slots,k b ob q⟩,λ_ _ _ n _=>n,λb ob q _=>⟨ob,k b ob q⟩,λ_ _ q=>q,λ_ _ _ q=>q,λ_ ps q=>⟨#[],by rw[q];simp⟩⟩
theorem Un.refl:Un fs ex H H h h:=Un.kept λ_ _ q=>q
theorem Un.laid(k:∀b u,h.get? b=some u->h'.get? b=some u)(hp:h.objs.size<=a)(hn:H a=none):Un fs ex H (upd H a o) h h' where
 keep:=λb u q _ _ _=>k b u q
 slot:=λb u q _ _ _=>⟨u.slots,k b u q⟩
 free:=λb u q n _=>by rw[bU (cQ (ba (Heap.lt_size q) hp))];exact n
 there:=λb u q _=>⟨u,k b u q⟩
 tups:=λb xs q=>by rw[bU (eh q hn)];exact q
 frzs:=λb u xs q=>by rw[bU (eh q hn)];exact q
 tbls:=λb ps q=>⟨#[],by rw[bU (eh q hn),q];simp⟩
theorem Un.write(mu:X3 (H x))(he:e=x\/H e=some (.own x))(k:∀b u,b≠e->h.get? b=some u->h'.get? b=some u)(heo:∃u,h'.get? e=some u):Un fs ex H (upd H x o) h h':=by
 have hx:∀b,H b=none->b≠x:=λb n z=>by subst z;rw[n]at mu;exact mu
 have hb:∀b,H b=none->b≠e:=λb n z=>by
  subst z;rcases he with r | r
  . exact hx b n r
  . rw[n]at r;cases r
 have hm:∀b u,H b=some u->¬X3 (some u)->b≠x:=λb u q nm z=>by subst z;rw[q]at mu;exact nm mu
 refine⟨λb u q n _ _=>k b u (hb b n) q,λb u q n _ _=>⟨u.slots,k b u (hb b n) q⟩,λb u q n _=>by rw[bU (hx b n)];exact n,λb u q _=>?_,
  λb xs q=>by rw[bU (hm b _ q λz=>z)];exact q,λb u xs q=>by rw[bU (hm b _ q λz=>z)];exact q,λb ps q=>⟨#[],by rw[bU (hm b _ q λz=>z),q];simp⟩⟩
 by_cases hbe:b=e
 . subst hbe;exact heo
 . exact⟨u,k b u hbe q⟩
end
abbrev trk(h:Heap)(H:Hp):List ai:=(af h.objs.size).filter λa=>(H a).isSome
abbrev Bl(h:Heap)(H:Hp):Heap:=PySem.W.hideAll h (trk h H)
theorem J3(h:Heap)(H:Hp):(Bl h H).objs.size=h.objs.size:=PySem.W.hideAll_size _ _
theorem L0{h:Heap}{H:Hp}{b:ai}{o:fB}(e:h.get? b=some o)(n:H b=none):(Bl h H).get? b=some o:=
 PySem.W.hideAll_get _ e λhm=>by
  have q:(H b).isSome=true:=(aX.mp hm).2;rw[n]at q;simp at q
theorem PU{h:Heap}{H:Hp}{b:ai}{o:fB}(e:(Bl h H).get? b=some o):h.get? b=some o/\H b=none:=by
 have e':h.get? b=some o:=PySem.W.of_hideAll (trk h H) e;refine⟨e',?_⟩;cases q:H b with
 | none=>rfl
 | some x=>
  have hm:b∈trk h H:=aX.mpr ⟨au.mpr (Heap.lt_size e'),by simp [q]⟩;have z:(Bl h H).get? b=none:=PySem.W.hideAll_none (trk h H) hm;rw[z]at e;cases e
structure Mod (K:al) (mg:Str->Option Value) (base:Heap):Prop where
 kin:K.In base
 glob:base.Ns mainGlobals mg
 blt:∃mb,base.Ns builtinsNs mb/\∀x:Str,x≠"__name__"->mb x=jf x
 nolimit:base.NoLimit
structure Cx where
 prog:Program
 w:World
 K:al
 mg:Str->Option Value
 base:Heap
 A:cC
 N:List Str
 s_0:Shared
 H_0:Hp
 env:tD
 outer:List tD
 stack:List tD
 ex:List ai
 fn:Str->Bool
 calm:Bool
 pn:List (ai×fB)
 xe:Value->Shared->Prop
abbrev IG(l:List tD):List ai:=l.filterMap (·.frame)
@[reducible]def Cx.fs(X:Cx):List ai:=IG X.outer
abbrev Tb(sc:fV)(x:Str):Prop:=sc.names.lookup x=some .local\/sc.names.lookup x=some .cell\/sc.names.lookup x=some .free
abbrev Loc(sc:fV)(x:Str):Prop:=sc.names.lookup x=some .local\/sc.names.lookup x=some .cell
abbrev Look(env:tD)(h:Heap)(m:Str->Option Value)(x:Str)(u:Value):Prop:=
 (env.kindOf x=some .local/\m x=some u)\/((env.kindOf x=some .cell\/env.kindOf x=some .free)/\∃c,env.cells.lookup x=some c/\h.IsCell c (some u))
structure Cx.Ok (X:Cx):Prop where
 mod:Mod X.K X.mg X.base
 kind:X.env.scope.kind=.function
 glob:X.env.globals=mainGlobals
 blt:X.env.builtins=builtinsNs
 above:X.s_0.heap.objs.size<=X.env.locals
 inj:∀x y c,X.env.cells.lookup x=some c->X.env.cells.lookup y=some c->x=y
 has:∀x,(X.env.kindOf x=some .cell\/X.env.kindOf x=some .free)->∃c,X.env.cells.lookup x=some c
 cab:∀x c,X.fn x=true->X.env.cells.lookup x=some c->X.s_0.heap.objs.size<=c
 hd:X.calm=true->X.A.handled=none
 frames:X.A.frames=some X.stack
 stk:X.stack=X.outer\/(X.stack=X.env::X.outer/\X.env.frame=some X.env.locals)
 exf:∀b∈X.ex,b≠X.env.locals/\∀x c,X.env.cells.lookup x=some c->c≠b
 bs:∀b o,X.base.get? b=some o->X.s_0.heap.get? b=some o/\X.H_0 b=none
 bsz:X.base.objs.size<=X.s_0.heap.objs.size
 noex:∀b o,X.base.get? b=some o->b∉X.ex
 exfs:∀b∈X.ex,b∉X.fs
 funs:X.s_0.heap.FunFrames X.base X.outer
 frf:∀b∈X.fs,X.H_0 b=none
structure Inv (X:Cx) (pins:List (ai×fB)) (σ:List (Option V)) (H:Hp) (s:Shared):Prop where
 ok:X.Ok
 os:s.os=X.s_0.os
 bare:Ac s.gens
 base:Un X.fs X.ex X.H_0 H X.s_0.heap s.heap
 loc:∃m,s.heap.Ns X.env.locals m/\∀(i:Nat) (x:Str) (v:V),X.N[i]?=some x->σ[i]?=some (some v)->Tb X.env.scope x->∃u,RelV v u/\Look X.env s.heap m x u
 cell:∀x c,X.env.cells.lookup x=some c->∃v,s.heap.IsCell c v
 free:H X.env.locals=none
 freeC:∀x c,X.env.cells.lookup x=some c->H c=none
 pin:∀p∈X.pn++pins,s.heap.get? p.1=some p.2/\H p.1=none/\p.1≠X.env.locals/\p.1∉X.fs/\∀v,p.2.data≠.cell v
 hok:tQ X.prog X.w H s.heap
 len:σ.length=X.N.length
section
variable {X:Cx} {pins:List (ai×fB)} {σ:List (Option V)} {H H':Hp} {s:Shared} {h':Heap}
theorem Cx.Ok.nofr(ok:X.Ok){b:ai}{o:fB}(e:X.base.get? b=some o):b∉X.fs:=λhb=>by
 have:=(ok.funs.mem hb).1;rw[e]at this;cases this
theorem Inv.bs(I:Inv X pins σ H s):∀b o,X.base.get? b=some o->s.heap.get? b=some o/\H b=none:=λb o e=>
 ⟨I.base.keep b o (I.ok.bs b o e).1 (I.ok.bs b o e).2 (I.ok.nofr e) (I.ok.noex b o e),I.base.free b o (I.ok.bs b o e).1 (I.ok.bs b o e).2 (I.ok.noex b o e)⟩
theorem Inv.bk(I:Inv X pins σ H s):∀b o,X.base.get? b=some o->s.heap.get? b=some o:=λb o e=>(I.bs b o e).1
theorem Inv.mod(I:Inv X pins σ H s):Mod X.K X.mg X.base:=I.ok.mod
theorem Inv.kIn(I:Inv X pins σ H s):X.K.In s.heap:=I.ok.mod.kin.keeps I.bk
theorem Inv.lt(I:Inv X pins σ H s):X.env.locals<s.heap.objs.size:=let⟨_,hn,_⟩:=I.loc;hn.lt
theorem Inv.sz(I:Inv X pins σ H s):X.s_0.heap.objs.size<=s.heap.objs.size:=bb I.ok.above (wS I.lt)
theorem Inv.nofs(I:Inv X pins σ H s){a:ai}(h:s.heap.objs.size<=a):a∉X.fs:=λhb=>by
 obtain⟨_,o,ho,_⟩:=I.ok.funs.mem hb;exact absurd (ba (Heap.lt_size ho) (bb I.sz h)) (eO _)
theorem Inv.cne(I:Inv X pins σ H s):∀x c,X.env.cells.lookup x=some c->c≠X.env.locals:=λx c e z=>by
 obtain⟨v,o,ho,hd⟩:=I.cell x c e;obtain⟨m,⟨o',es,ep,ho',hd',_⟩,_⟩:=I.loc;rw[z,ho']at ho;cases ho;rw[hd']at hd;cases hd
theorem Inv.funs(I:Inv X pins σ H s):s.heap.FunFrames X.base X.outer:=by
 have all:∀(l:List tD),(∀b∈IG l,b∈X.fs)->X.s_0.heap.FunFrames X.base l->s.heap.FunFrames X.base l:=by
  intro l;induction l with
  | nil=>intro _ _;trivial
  | cons env r ih=>
   intro hs hl;obtain⟨hk,⟨L,o,hf,hn,ho,hd⟩,hr⟩:=hl;have hL:L∈X.fs:=hs L (by unfold IG;rw[mi,hf];exact aI);obtain⟨sl,e⟩:=I.base.slot L o ho (I.ok.frf L hL) hL λz=>I.ok.exfs L z hL;exact⟨hk,⟨L,_,hf,hn,e,hd⟩,ih (λb hb=>hs b (by unfold IG;rw[mi,hf];exact ao _ hb)) hr⟩
 exact all X.outer (λ_ hb=>hb) I.ok.funs
theorem Inv.stack(I:Inv X pins σ H s):s.heap.FunFrames X.base X.stack:=by
 rcases I.ok.stk with e | ⟨e,hf⟩
 . rw[e];exact I.funs
 . rw[e];obtain⟨m,hn,_⟩:=I.loc;refine .cons (by rw[I.ok.kind];decide) hf hn ?_ I.funs;exact Heap.get?_none_of_le (bb I.ok.bsz I.ok.above)
theorem Inv.stkSub(I:Inv X pins σ H s):∀b∈IG X.stack,b∈X.env.locals::X.fs:=λb hb=>by
 rcases I.ok.stk with e | ⟨e,hf⟩
 . rw[e]at hb;exact ao _ hb
 . rw[e]at hb;unfold IG at hb;rw[mi,hf]at hb;exact hb
theorem Inv.stkFree(I:Inv X pins σ H s):∀b∈IG X.stack,H b=none:=λb hb=>by
 rcases aE.mp (I.stkSub b hb)with e | hb
 . rw[e];exact I.free
 . obtain⟨_,o,ho,_⟩:=I.ok.funs.mem hb;exact I.base.free b o ho (I.ok.frf b hb) λz=>I.ok.exfs b z hb
theorem Inv.step {g':Array GenState} {t':Nat} {d':Drawn} {ch:List ai} (I:Inv X pins σ H s)
 (hch:∀b∈ch,(b∈X.ex\/X.s_0.heap.objs.size<=b)/\b≠X.env.locals/\(∀x c,X.env.cells.lookup x=some c->c≠b)/\∀p∈X.pn++pins,p.1≠b)
 (keep:∀b o,b≠X.env.locals->b∉X.fs->b∉ch->s.heap.get? b=some o->H b=none->h'.get? b=some o)
 (slot:∀b o,b≠X.env.locals->b∈X.fs->b∉ch->s.heap.get? b=some o->H b=none->∃sl,h'.get? b=some {o with slots:=sl}) (free:∀b o,b∉ch->s.heap.get? b=some o->H b=none->H' b=none)
 (there:∀b o,b∉ch->s.heap.get? b=some o->∃o',h'.get? b=some o')
 (tups:∀b xs,H b=some (.tup xs)->H' b=some (.tup xs)) (frzs:∀b o u,H b=some (.frz o u)->H' b=some (.frz o u)) (tbls:∀b ps,H b=some (.tbl ps)->∃more,H' b=some (.tbl (ps++more)))
 (ns:∀m,s.heap.Ns X.env.locals m->h'.Ns X.env.locals m) (hok:tQ X.prog X.w H' h') (hg:Ac g'):
 Inv X pins σ H' {s with heap:=h',gens:=g',drawn:=d',toks:=t'}:=by
 have neL:∀b o,X.s_0.heap.get? b=some o->b≠X.env.locals:=λb o e=>cQ (ba (Heap.lt_size e) I.ok.above);have neC:∀b o,X.s_0.heap.get? b=some o->b∉X.ex->b∉ch:=λb o e hx hb=>by
  rcases(hch b hb).1 with z | z
  . exact hx z
  . exact absurd (ba (Heap.lt_size e) z) (eO _)
 have cellK:∀x c,X.env.cells.lookup x=some c->∀v,s.heap.IsCell c v->h'.IsCell c v:=λx c e v x=>by
  obtain⟨o,ho,hd⟩:=x;have nch:c∉ch:=λz=>(hch c z).2.2.1 x c e rfl;by_cases hc:c∈X.fs
  . obtain⟨sl,q⟩:=slot c o (I.cne x c e) hc nch ho (I.freeC x c e);exact⟨_,q,hd⟩
  . exact⟨o,keep c o (I.cne x c e) hc nch ho (I.freeC x c e),hd⟩
 refine⟨I.ok,I.os,hg,⟨λb o e n hb hx=>?_,λb o e n hb hx=>?_,λb o e n hx=>?_,λb o e hx=>?_,λb xs e=>tups b xs (I.base.tups b xs e),λb o xs e=>frzs b o xs (I.base.frzs b o xs e),λb ps e=>?_⟩,?_,λx c e=>?_,?_,λx c e=>?_,λp hp=>?_,hok,I.len⟩
 . exact keep b o (neL b o e) hb (neC b o e hx) (I.base.keep b o e n hb hx) (I.base.free b o e n hx)
 . obtain⟨sl,e1⟩:=I.base.slot b o e n hb hx;obtain⟨sl',e2⟩:=slot b _ (neL b o e) hb (neC b o e hx) e1 (I.base.free b o e n hx);exact⟨sl',e2⟩
 . obtain⟨o',e1⟩:=I.base.there b o e hx;exact free b o' (neC b o e hx) e1 (I.base.free b o e n hx)
 . obtain⟨o',e1⟩:=I.base.there b o e hx;exact there b o' (neC b o e hx) e1
 . obtain⟨m1,e1⟩:=I.base.tbls b ps e;obtain⟨m2,e2⟩:=tbls b _ e1;exact⟨m1++m2,by rw[e2,Array.append_assoc]⟩
 . obtain⟨m,hn,hl⟩:=I.loc;refine⟨m,ns m hn,λi x v e1 e2 e3=>?_⟩;obtain⟨u,r,l⟩:=hl i x v e1 e2 e3;refine⟨u,r,?_⟩;rcases l with l | ⟨k,c,e,z⟩
   . exact .inl l
   . exact .inr ⟨k,c,e,cellK x c e _ z⟩
 . obtain⟨v,z⟩:=I.cell x c e;exact⟨v,cellK x c e v z⟩
 . obtain⟨m,⟨o,_,_,ho,_⟩,_⟩:=I.loc;exact free _ o (λz=>(hch _ z).2.1 rfl) ho I.free
 . obtain⟨v,o,ho,hd⟩:=I.cell x c e;exact free c o (λz=>(hch c z).2.2.1 x c e rfl) ho (I.freeC x c e)
 . obtain⟨e,n,ne,nf,d⟩:=I.pin p hp;have nch:p.1∉ch:=λz=>(hch p.1 z).2.2.2 p hp rfl;exact⟨keep p.1 p.2 ne nf nch e n,free p.1 p.2 nch e n,ne,nf,d⟩
theorem Inv.un{t':Nat}(I:Inv X pins σ H s)(u:Un X.fs [] H H' s.heap h')(hok:tQ X.prog X.w H' h'):Inv X pins σ H' {s with heap:=h',toks:=t'}:=by
 obtain⟨m,⟨o,es,ep,ho,r⟩,_⟩:=id I.loc;obtain⟨sl,hL⟩:=u.any ho I.free (by simp);exact I.step (g':=s.gens) (d':=s.drawn) (ch:=[]) (λ_ z=>nomatch z) (λb o _ hb _ e n=>u.keep b o e n hb (by simp)) (λb o _ hb _ e n=>u.slot b o e n hb (by simp)) (λb o _ e n=>u.free b o e n (by simp)) (λb o _ e=>u.there b o e (by simp)) u.tups u.frzs u.tbls (λm' hm=>by
  obtain⟨o',es',ep',ho',r'⟩:=hm;rw[ho]at ho';cases ho';exact⟨_,es',ep',hL,r'⟩) hok I.bare
theorem Inv.call {g':Array GenState} {t':Nat} {d':Drawn} {ch:List ai} (I:Inv X pins σ H s) (u:Un (IG X.stack) ch H H' s.heap h') (hok:tQ X.prog X.w H' h') (hg:Ac g')
 (hch:∀b∈ch,(b∈X.ex\/X.s_0.heap.objs.size<=b)/\b≠X.env.locals/\(∀x c,X.env.cells.lookup x=some c->c≠b)/\∀p∈X.pn++pins,p.1≠b):
 Inv X pins σ H' {s with heap:=h',gens:=g',drawn:=d',toks:=t'}:=by
 obtain⟨m,⟨o,es,ep,ho,r⟩,_⟩:=id I.loc;obtain⟨sl,hL⟩:=u.any ho I.free λz=>(hch _ z).2.1 rfl;exact I.step (ch:=ch) hch (λb o hL hb hc e n=>u.keep b o e n (λz=>(aE.mp (I.stkSub b z)).elim hL hb) hc) (λb o _ _ hc e n=>u.any e n hc) (λb o hc e n=>u.free b o e n hc) (λb o hc e=>u.there b o e hc) u.tups u.frzs u.tbls (λm' hm=>by
  obtain⟨o',es',ep',ho',r'⟩:=hm;rw[ho]at ho';cases ho';exact⟨_,es',ep',hL,r'⟩) hok hg
theorem Inv.turned {t':Nat} {it:ai} (I:Inv X pins σ H s) (k:∀b o,b≠it->s.heap.get? b=some o->h'.get? b=some o) (hn:H it=none) (hL:it≠X.env.locals)
 (h1:it∈X.ex\/X.s_0.heap.objs.size<=it) (h2:∀x c,X.env.cells.lookup x=some c->c≠it) (h3:∀p∈X.pn++pins,p.1≠it):Inv X pins σ H {s with heap:=h',toks:=t'}:=by
 have nit:∀b u,H b=some u->b≠it:=λb u e z=>by rw[z,hn]at e;cases e
 refine I.step (g':=s.gens) (d':=s.drawn) (ch:=[it]) (λb hb=>?_) (λb o _ _ hc e _=>k b o (λz=>hc (by simp [z])) e) (λb o _ _ hc e _=>⟨o.slots,k b o (λz=>hc (by simp [z])) e⟩) (λ_ _ _ _ n=>n)
  (λb o hc e=>⟨o,k b o (λz=>hc (by simp [z])) e⟩) (λ_ _ e=>e) (λ_ _ _ e=>e) (λb ps e=>⟨#[],by rw[e];simp⟩) (λm hm=>?_) (λb u e=>?_) I.bare
 . have e:b=it:=by simpa using hb
   subst e;exact⟨h1,hL,h2,h3⟩
 . obtain⟨o,es,ep,ho,r⟩:=hm;exact⟨o,es,ep,k _ o (jN hL) ho,r⟩
 . refine(I.hok b u e).stay (λc v hc q=>k c v ?_ q) (λ_ q=>q) λ_ _ q=>q;rcases hc with z | z
   . rw[z];exact nit b u e
   . exact nit c _ z
theorem Inv.tok(I:Inv X pins σ H s)(t:Nat):Inv X pins σ H {s with toks:=t}:=I.un (h':=s.heap) (t':=t) Un.refl I.hok
theorem Inv.kept{t':Nat}(I:Inv X pins σ H s)(k:∀b u,s.heap.get? b=some u->h'.get? b=some u):Inv X pins σ H {s with heap:=h',toks:=t'}:=I.un (Un.kept k) (I.hok.kept k)
theorem Inv.laid{a:ai}{o:HO}{t':Nat}(I:Inv X pins σ H s)(k:∀b u,s.heap.get? b=some u->h'.get? b=some u)(hp:s.heap.objs.size<=a)(new:iG X.prog X.w (upd H a o) h' a o):
 Inv X pins σ (upd H a o) {s with heap:=h',toks:=t'}:=I.un (Un.laid k hp (I.hok.fresh hp)) (I.hok.laid k hp new)
theorem Inv.write {x e:ai} {o:HO} {t':Nat} (I:Inv X pins σ H s) (mu:X3 (H x)) (he:e=x\/H e=some (.own x)) (k:∀b u,b≠e->s.heap.get? b=some u->h'.get? b=some u) (heo:∃u,h'.get? e=some u)
 (new:iG X.prog X.w (upd H x o) h' x o):Inv X pins σ (upd H x o) {s with heap:=h',toks:=t'}:=I.un (Un.write mu he k heo) (I.hok.write mu he k heo new)
theorem Inv.weak{σ':List (Option V)}(I:Inv X pins σ H s)(hl:σ'.length=σ.length)(w:∀(i:Nat) v,σ'[i]?=some (some v)->σ[i]?=some (some v)):Inv X pins σ' H s:=
 ⟨I.ok,I.os,I.bare,I.base,let⟨m,hn,hl'⟩:=I.loc;⟨m,hn,λi x v e1 e2 e3=>hl' i x v e1 (w i v e2) e3⟩,I.cell,I.free,I.freeC,I.pin,I.hok,hl.trans I.len⟩
theorem Inv.pins_of{pins':List (ai×fB)}(I:Inv X pins σ H s)(h:∀p∈pins',s.heap.get? p.1=some p.2/\H p.1=none/\p.1≠X.env.locals/\p.1∉X.fs/\∀v,p.2.data≠.cell v):Inv X pins' σ H s:=
 ⟨I.ok,I.os,I.bare,I.base,I.loc,I.cell,I.free,I.freeC,λp hp=>(bV.mp hp).elim (λz=>I.pin p (eR _ z)) (h p),I.hok,I.len⟩
theorem xJ{N:List Str}(hN:N.Nodup){i j:Nat}{x:Str}(a:N[i]?=some x)(b:N[j]?=some x):i=j:=by
 obtain⟨h1,e1⟩:=az.mp a;obtain⟨h2,e2⟩:=az.mp b;exact(kU hN).mp (e1.trans e2.symm)
theorem An {M:XO} {A:cC} {E:Value->Shared->Prop} {i:Nat} {x:Str} {v:V} {u:Value} {Q:Unit->Shared->Prop} (I:Inv X pins σ H s) (hN:X.N.Nodup) (hi:X.N[i]?=some x) (hx:Loc X.env.scope x) (r:RelV v u)
 (h:∀s',Inv X pins (σ.set i (some v)) H s'->(∃a,Heap.SameBut a s.heap s'.heap/\(a=X.env.locals\/X.env.cells.lookup x=some a))->Q () s') (hf:X.fn x=true\/X.env.scope.names.lookup x=some .local:=by fail"o"):bN M A (ZP X.env x u) Q E s:=by
 obtain⟨m,hn,hl⟩:=id I.loc;have hcls:(X.env.scope.kind==.class||(X.env.scope.kind==.module&&X.env.locals !=X.env.globals))=false:=by rw[I.ok.kind];rfl
 have hiσ:i<σ.length:=by rw[I.len];exact(az.mp hi).1
 have cne:=I.cne;have tracked:∀{a:ai} {h':Heap},(∃o,s.heap.get? a=some o/\H a=none)->Heap.SameBut a s.heap h'->tQ X.prog X.w H h':=λ{a h'} ha hs b ob e=>by
  obtain⟨_,_,hfree⟩:=ha;refine(I.hok b ob e).stay (λc w' hc q=>(hs.2 c ?_).trans q) (λ_ q=>q) λ_ _ q=>q;rintro rfl;rcases hc with rfl | hc
  . rw[hfree]at e;cases e
  . rw[hfree]at hc;cases hc
 rcases hx with hk | hk
 . refine wpAny_storeName_local hk hn (λh' hn' hs=>?_) hcls;obtain⟨oL,_,_,hoL,_⟩:=id hn;refine h _ ⟨I.ok,I.os,I.bare,⟨λb o e n hb hx=>?_,λb o e n hb hx=>?_,I.base.free,λb o e hx=>?_,I.base.tups,I.base.frzs,I.base.tbls⟩,⟨_,hn',λj y v' e1 e2 e3=>?_⟩,λy c e=>?_,I.free,I.freeC,λp hp=>?_,tracked ⟨oL,hoL,I.free⟩ hs,by simpa using I.len⟩ ⟨_,hs,.inl rfl⟩
   . exact(hs.2 b (cQ (ba (Heap.lt_size e) I.ok.above))).trans (I.base.keep b o e n hb hx)
   . obtain⟨sl,e1⟩:=I.base.slot b o e n hb hx;exact⟨sl,(hs.2 b (cQ (ba (Heap.lt_size e) I.ok.above))).trans e1⟩
   . obtain⟨o',e1⟩:=I.base.there b o e hx;exact⟨o',(hs.2 b (cQ (ba (Heap.lt_size e) I.ok.above))).trans e1⟩
   . by_cases hj:j=i
     . subst hj;rw[hi]at e1;cases e1;rw[ci hiσ]at e2;cases e2;exact⟨u,r,.inl ⟨hk,by simp⟩⟩
     . rw[cy (jN hj)]at e2;obtain⟨u',r',q⟩:=hl j y v' e1 e2 e3;refine⟨u',r',?_⟩;rcases q with⟨k,e⟩ | ⟨k,c,e,z⟩
       . refine .inl ⟨k,?_⟩;have:y≠x:=λe=>hj (xJ hN e1 (e▸hi));simp [this,e]
       . exact .inr ⟨k,c,e,z.sameBut hs (cne y c e)⟩
   . obtain⟨w',z⟩:=I.cell y c e;exact⟨w',z.sameBut hs (cne y c e)⟩
   . obtain⟨e,n,ne,nf,d⟩:=I.pin p hp;exact⟨(hs.2 p.1 ne).trans e,n,ne,nf,d⟩
 . have hfn:X.fn x=true:=by
    rcases hf with z | z
    . exact z
    . rw[z]at hk;cases hk
   obtain⟨c,hc⟩:=I.ok.has x (.inl hk);obtain⟨w',z⟩:=I.cell x c hc;refine wpAny_storeName_cell I.ok.kind hk hc z (λh' hc' hs=>?_);obtain⟨oc,hoc,hocd⟩:=id z;refine h {s with heap:=h'} ⟨I.ok,I.os,I.bare,⟨λb o e n hb hx=>?_,λb o e n hb hx=>?_,I.base.free,λb o e hx=>?_,I.base.tups,I.base.frzs,I.base.tbls⟩,⟨m,hn.sameBut hs (jN (cne x c hc)),λj y v' e1 e2 e3=>?_⟩,λy c' e=>?_,I.free,I.freeC,λp hp=>?_,tracked ⟨oc,hoc,I.freeC x c hc⟩ hs,by simpa using I.len⟩ ⟨c,hs,.inr hc⟩
   . exact(hs.2 b (cQ (ba (Heap.lt_size e) (I.ok.cab x c hfn hc)))).trans (I.base.keep b o e n hb hx)
   . obtain⟨sl,e1⟩:=I.base.slot b o e n hb hx;exact⟨sl,(hs.2 b (cQ (ba (Heap.lt_size e) (I.ok.cab x c hfn hc)))).trans e1⟩
   . obtain⟨o',e1⟩:=I.base.there b o e hx;exact⟨o',(hs.2 b (cQ (ba (Heap.lt_size e) (I.ok.cab x c hfn hc)))).trans e1⟩
   . by_cases hj:j=i
     . subst hj;rw[hi]at e1;cases e1;rw[ci hiσ]at e2;cases e2;exact⟨u,r,.inr ⟨.inl hk,c,hc,hc'⟩⟩
     . rw[cy (jN hj)]at e2;obtain⟨u',r',q⟩:=hl j y v' e1 e2 e3;refine⟨u',r',?_⟩;rcases q with q | ⟨k,c',e,z'⟩
       . exact .inl q
       . refine .inr ⟨k,c',e,z'.sameBut hs ?_⟩;rintro rfl;exact hj (xJ hN e1 (I.ok.inj _ _ _ e hc▸hi))
   . by_cases hcc:c'=c
     . subst hcc;exact⟨_,hc'⟩
     . obtain⟨w2,z2⟩:=I.cell y c' e;exact⟨w2,z2.sameBut hs hcc⟩
   . obtain⟨e,n,ne,nf,d⟩:=I.pin p hp;refine⟨(hs.2 p.1 ?_).trans e,n,ne,nf,d⟩;intro q;rw[q,hoc]at e;have q':oc=p.2:=bv.inj e;exact d w' (by rw[<-q'];exact hocd)
theorem xK {M:XO} {A:cC} {E:Value->Shared->Prop} {i:Nat} {x:Str} {v:V} {u:Value} {Q:Unit->Shared->Prop} (I:Inv X pins σ H s) (hN:X.N.Nodup) (hi:X.N[i]?=some x) (hx:Loc X.env.scope x) (r:RelV v u)
 (h:∀s',Inv X pins (σ.set i (some v)) H s'->Q () s') (hf:X.fn x=true\/X.env.scope.names.lookup x=some .local:=by fail"o"):bN M A (ZP X.env x u) Q E s:=
 An I hN hi hx r (λs' I' _=>h s' I') hf
theorem Inv.call' {s':Shared} {ch:List ai} (I:Inv X pins σ H s) (ho:s'.os=s.os) (u:Un (IG X.stack) ch H H' s.heap s'.heap) (hok:tQ X.prog X.w H' s'.heap) (hg:Ac s'.gens)
 (hch:∀b∈ch,(b∈X.ex\/X.s_0.heap.objs.size<=b)/\b≠X.env.locals/\(∀x c,X.env.cells.lookup x=some c->c≠b)/\∀p∈X.pn++pins,p.1≠b):Inv X pins σ H' s':=by
 obtain⟨h',g',d',t',o'⟩:=s';have e:o'=s.os:=ho;subst e;exact I.call (g':=g') (t':=t') (d':=d') u hok hg hch
end
@[reducible]def XK:=Value->Option ai->Hp->Prop
@[reducible]def St:=List (Option V)
@[reducible]def VK:=V->Hp->Prop
@[reducible]def TE:=St->Hp->VK->Prop
@[reducible]def TT:=St->Hp->(Bool->Hp->Prop)->Prop
@[reducible]def TA:=St->Hp->(List V->Hp->Prop)->Prop
structure DE where
 nx:St->Hp->Prop
 rt:VK
 bk:St->Hp->Prop:=λ_ _=>False
 ct:St->Hp->Prop:=λ_ _=>False
@[reducible]def TS:=DE->St->Hp->Prop
abbrev EP(X:Cx)(pins:List (ai×fB))(σ:St)(Q:VK)(u:Value)(s':Shared):Prop:=∃v H',Inv X pins σ H' s'/\RelV v u/\Q v H'
abbrev TP(X:Cx)(pins:List (ai×fB))(σ:St)(Q:Bool->Hp->Prop)(b:Bool)(s':Shared):Prop:=∃H',Inv X pins σ H' s'/\Q b H'
abbrev AP(X:Cx)(pins:List (ai×fB))(σ:St)(Q:List V->Hp->Prop)(us:List Value)(s':Shared):Prop:=∃vs H',Inv X pins σ H' s'/\cv vs us/\Q vs H'
abbrev SP(X:Cx)(pins:List (ai×fB))(D:DE)(f:Flow)(s':Shared):Prop:=
 match f with
 | .next=>∃σ' H',Inv X pins σ' H' s'/\D.nx σ' H'
 | .brk=>∃σ' H',Inv X pins σ' H' s'/\D.bk σ' H'
 | .cont=>∃σ' H',Inv X pins σ' H' s'/\D.ct σ' H'
 | .ret u=>∃v σ' H',Inv X pins σ' H' s'/\RelV v u/\D.rt v H'
abbrev PE(X:Cx)(e:Expr)(t:TE):Prop:=
 ∀(pins:List (ai×fB)) (s:Shared) (σ:St) (H:Hp) (Q:VK),Inv X pins σ H s->t σ H Q->bN (bF X.prog X.w) X.A (b4 e X.env) (EP X pins σ Q) X.xe s
abbrev PT(X:Cx)(e:Expr)(t:TT):Prop:=
 ∀(pins:List (ai×fB)) (s:Shared) (σ:St) (H:Hp) (Q:Bool->Hp->Prop),Inv X pins σ H s->t σ H Q->bN (bF X.prog X.w) X.A (Io e X.env (b4 e X.env)) (TP X pins σ Q) X.xe s
abbrev PW(X:Cx)(e:Expr)(t:TT):Prop:=
 ∀(whole:PJ Value) (pins:List (ai×fB)) (s:Shared) (σ:St) (H:Hp) (Q:Bool->Hp->Prop),Inv X pins σ H s->t σ H Q->bN (bF X.prog X.w) X.A (Io e X.env whole) (TP X pins σ Q) X.xe s
theorem PW.pt{X:Cx}{e:Expr}{t:TT}(h:PW X e t):PT X e t:=h _
abbrev PA(X:Cx)(es:List Expr)(t:TA):Prop:=
 ∀(pos:Pos) (pins:List (ai×fB)) (s:Shared) (σ:St) (H:Hp) (Q:List V->Hp->Prop),Inv X pins σ H s->t σ H Q->bN (bF X.prog X.w) X.A (spliced (gP pos (aW es X.env))) (AP X pins σ Q) X.xe s
abbrev PS(X:Cx)(st:Stmt)(t:TS):Prop:=
 ∀(pins:List (ai×fB)) (s:Shared) (σ:St) (H:Hp) (D:DE),Inv X pins σ H s->t D σ H->bN (bF X.prog X.w) X.A (exec st X.env) (SP X pins D) X.xe s
abbrev PSs(X:Cx)(st:List Stmt)(t:TS):Prop:=
 ∀(pins:List (ai×fB)) (s:Shared) (σ:St) (H:Hp) (D:DE),Inv X pins σ H s->t D σ H->bN (bF X.prog X.w) X.A (execs st X.env) (SP X pins D) X.xe s
theorem fQ{α:Type}{t:PJ α}{Q Q':α->Shared->Prop}{M:XO}{A:cC}{E:Value->Shared->Prop}{s:Shared}(h:bN M A t Q E s)(hQ:∀a s,Q a s->Q' a s):bN M A t Q' E s:=fW h hQ λ_ _ x=>x
section
variable {X:Cx}
abbrev ou(i:Nat):TE:=λσ H Q=>∃v,σ[i]?=some (some v)/\Q v H
abbrev tC(v:V):TE:=λ_ H Q=>Q v H
theorem F3{i:Nat}{x:Str}{pos:Pos}(hN:X.N[i]?=some x)(hv:Tb X.env.scope x)(hd:(x==("__debug__":Str))=false:=by decide)(hcd:(x==("__classdict__":Str))=false:=by decide):PE X (.Name x pos) (ou i):=by
 fail"i";obtain⟨v,e,h⟩:=h;obtain⟨m,hn,hl⟩:=I.loc;obtain⟨u,r,l⟩:=hl i x v hN e hv;have fin:EP X pins σ Q u s:=⟨v,H,I,r,h⟩;rcases l with⟨hk,hm⟩ | ⟨hk,c,hc,hcell⟩
 . exact Xq (SO I.ok.kind hk hn hm fin) hd
 . rcases hk with hk | hk
   . exact Xq (TW I.ok.kind hk hc hcell fin) hd
   . exact Xq (wpAny_loadName_free I.ok.kind hk hc hcell fin hcd) hd
theorem F4{i j pos}:PE X (.Constant (.int i) j pos) (tC (.int i)):=λ_ _ _ H _ I h=>wpAny_Constant_int ⟨.int i,H,I.tok _,⟨_,rfl⟩,h⟩
theorem X4{b j pos}:PE X (.Constant (.bool b) j pos) (tC (.bl b)):=λ_ _ _ H _ I h=>Constant_bool ⟨.bl b,H,I,rfl,h⟩
theorem Ue{j pos}:PE X (.Constant .none j pos) (tC .non):=λ_ _ _ H _ I h=>Constant_none ⟨.non,H,I,rfl,h⟩
abbrev Gl(X:Cx)(x:Str):Prop:=X.env.kindOf x=some .globalImplicit
theorem tR {E:Value->Shared->Prop} {pins:List (ai×fB)} {s:Shared} {σ:St} {H:Hp} {x:Str} {u:Value} {pos:Pos} {Q:Value->Shared->Prop} (I:Inv X pins σ H s) (hg:Gl X x) (hm:X.mg x=some u) (h:Q u s)
 (hd:(x==("__debug__":Str))=false:=by decide):bN (bF X.prog X.w) X.A (b4 (.Name x pos) X.env) Q E s:=
 Calls.Name_function_global I.ok.kind hg (Calls.loadGlobal_global (by rw[I.ok.glob];exact I.mod.glob.keeps I.bk) hm h) hd
theorem vb {E:Value->Shared->Prop} {pins:List (ai×fB)} {s:Shared} {σ:St} {H:Hp} {x:Str} {u:Value} {pos:Pos} {Q:Value->Shared->Prop} (I:Inv X pins σ H s) (hg:Gl X x) (hm:X.mg x=none) (hv:jf x=some u) (h:Q u s)
 (hn:x≠"__name__":=by decide) (hd:(x==("__debug__":Str))=false:=by decide):bN (bF X.prog X.w) X.A (b4 (.Name x pos) X.env) Q E s:=by
 obtain⟨mb,h1,h2⟩:=I.mod.blt;exact Calls.Name_function_global I.ok.kind hg (Calls.loadGlobal_builtin (by rw[I.ok.glob];exact I.mod.glob.keeps I.bk) hm (by rw[I.ok.blt];exact h1.keeps I.bk) ((h2 x hn).trans hv) h) hd
theorem PX{x:Str}{v:V}{u:Value}{pos:Pos}(hg:Gl X x)(hm:X.mg x=some u)(r:RelV v u)(hd:(x==("__debug__":Str))=false:=by decide):PE X (.Name x pos) (tC v):=
 λ_ _ _ H _ I h=>tR I hg hm ⟨v,H,I,r,h⟩ hd
variable {a b:Expr} {ta tb:TE} {pos:Pos}
abbrev PC(X:Cx)(op:Ip)(a b:Expr)(t:TE):Prop:=
 ∀(pins:List (ai×fB)) (s:Shared) (σ:St) (H:Hp) (Q:VK),Inv X pins σ H s->t σ H Q->
  bN (bF X.prog X.w) X.A (b4 a X.env) (λv s₁=>bN (bF X.prog X.w) X.A (b4 b X.env) (λu s₂=>bN (bF X.prog X.w) X.A (dY op v u) (EP X pins σ Q) X.xe s₂) X.xe s₁) X.xe s
abbrev tB(t:TE):TT:=λσ H Q=>t σ H λx H1=>∃c,x=.bl c/\Q c H1
theorem Uf{op:Ip}{t:TE}(h:PC X op a b t)(h1:jQ op b=false:=by fail"q"):PE X (.Compare a [op] [b] pos) t:=λpins s σ H Q I hw=>a2F (h pins s σ H Q I hw) h1
theorem Ug{op:Ip}{t:TE}(h:PC X op a b t)(h1:jQ op b=false:=by fail"q"):PT X (.Compare a [op] [b] pos) (tB t):=by
 intro pins s σ H Q I hw;refine PM (fQ (h pins s σ H _ I hw) λv s1 h1=>fQ h1 λu s2 h2=>fQ h2 λc s3 hh=>?_) h1;obtain⟨x,H1,I1,r1,q1⟩:=hh;obtain⟨d,rfl,q⟩:=q1;cases r1;exact eE ⟨H1,I1,q⟩
theorem Uh{e:Expr}{t:TE}(h:PE X e t)(he:∀whole,Io e X.env whole=(do let v<-whole;mr e.pos;eF [v] (truthy v)):=by intro _;rfl):PT X e (tB t):=by
 intro pins s σ H Q I hw;refine isTrue_plain (fQ (h pins s σ H _ I hw) λv s1 hh=>?_) (he _);obtain⟨x,H1,I1,r1,q1⟩:=hh;obtain⟨d,rfl,q⟩:=q1;cases r1;exact eE ⟨H1,I1,q⟩
variable {tA tB':TT} {rest:List Expr}
abbrev a0Z(t u:TT):TT:=λσ H Q=>t σ H λc H1=>if c=true then u σ H1 Q else Q false H1
abbrev tOr(t u:TT):TT:=λσ H Q=>t σ H λc H1=>if c=true then Q true H1 else u σ H1 Q
abbrev a1a(t:TT):TT:=λσ H Q=>t σ H λc H1=>Q (!c) H1
theorem PY(ha:PT X a tA):PW X (.BoolOp .And [a] pos) tA:=by
 intro wh pins s σ H Q I h;refine isTrue_and (fQ (ha pins s σ H Q I h) λc s1 e=>?_);cases c with
 | true=>exact isTrue_and_nil e
 | false=>exact e
theorem Ui(ha:PT X a tA):PW X (.BoolOp .Or [a] pos) tA:=by
 intro wh pins s σ H Q I h;refine isTrue_or (fQ (ha pins s σ H Q I h) λc s1 e=>?_);cases c with
 | false=>exact isTrue_or_nil e
 | true=>exact e
theorem Uj(ha:PT X a tA)(hb:PW X (.BoolOp .And (b::rest) pos) tB'):PW X (.BoolOp .And (a::b::rest) pos) (a0Z tA tB'):=by
 intro wh pins s σ H Q I h;refine isTrue_and (fQ (ha pins s σ H _ I h) λc s1 hh=>?_);obtain⟨H1,I1,q1⟩:=hh;cases c with
 | true=>exact hb wh pins s1 σ H1 Q I1 q1
 | false=>exact⟨H1,I1,q1⟩
theorem X5(ha:PT X a tA)(hb:PW X (.BoolOp .Or (b::rest) pos) tB'):PW X (.BoolOp .Or (a::b::rest) pos) (tOr tA tB'):=by
 intro wh pins s σ H Q I h;refine isTrue_or (fQ (ha pins s σ H _ I h) λc s1 hh=>?_);obtain⟨H1,I1,q1⟩:=hh;cases c with
 | true=>exact⟨H1,I1,q1⟩
 | false=>exact hb wh pins s1 σ H1 Q I1 q1
theorem Uk(ha:PT X a tA):PT X (.UnaryOp .Not a pos) (a1a tA):=by
 fail"i";exact isTrue_not (ha pins s σ H (λc H1=>Q (!c) H1) I h)
abbrev X6(ta tb:TE):TE:=λσ H Q=>ta σ H λx H1=>∃c,x=.bl c/\if c=true then tb σ H1 Q else Q (.bl false) H1
abbrev a1b(ta tb:TE):TE:=λσ H Q=>ta σ H λx H1=>∃c,x=.bl c/\if c=true then Q (.bl true) H1 else tb σ H1 Q
abbrev X7(ta:TE):TE:=λσ H Q=>ta σ H λx H1=>∃c,x=.bl c/\Q (.bl (!c)) H1
theorem L1{op}{t:TE}(h:PE X a t):PE X (.BoolOp op [a] pos) t:=λpins s σ H Q I hw=>BoolOp_one (h pins s σ H Q I hw)
theorem Ul(ha:PE X a ta)(hb:PE X (.BoolOp .And (b::rest) pos) tb):PE X (.BoolOp .And (a::b::rest) pos) (X6 ta tb):=by
 fail"i";refine BoolOp_and (fQ (ha pins s σ H _ I h) λv s1 hh=>?_);obtain⟨x,H1,I1,r1,q1⟩:=hh;obtain⟨c,rfl,q1⟩:=q1;cases r1;refine eE ?_;cases c with
 | true=>exact hb pins s1 σ H1 Q I1 q1
 | false=>exact⟨.bl false,H1,I1,rfl,q1⟩
theorem X8(ha:PE X a ta)(hb:PE X (.BoolOp .Or (b::rest) pos) tb):PE X (.BoolOp .Or (a::b::rest) pos) (a1b ta tb):=by
 fail"i";refine BoolOp_or (fQ (ha pins s σ H _ I h) λv s1 hh=>?_);obtain⟨x,H1,I1,r1,q1⟩:=hh;obtain⟨c,rfl,q1⟩:=q1;cases r1;refine eE ?_;cases c with
 | false=>exact hb pins s1 σ H1 Q I1 q1
 | true=>exact⟨.bl true,H1,I1,rfl,q1⟩
theorem Um(ha:PE X a ta):PE X (.UnaryOp .Not a pos) (X7 ta):=by
 fail"i";refine UnaryOp_ (fQ (ha pins s σ H _ I h) λv s1 hh=>?_);obtain⟨x,H1,I1,r1,q1⟩:=hh;obtain⟨c,rfl,q1⟩:=q1;cases r1;exact not_of (eE ⟨.bl (!c),H1,I1,rfl,q1⟩)
abbrev tIf(t:TT)(ta tb:TE):TE:=λσ H Q=>t σ H λc H1=>if c=true then ta σ H1 Q else tb σ H1 Q
theorem L3{c:Expr}(hc:PT X c tA)(ha:PE X a ta)(hb:PE X b tb):PE X (.IfExp c a b pos) (tIf tA ta tb):=by
 fail"i";refine wpAny_IfExp (fQ (hc pins s σ H _ I h) λd s1 hh=>?_);obtain⟨H1,I1,q1⟩:=hh;cases d with
 | true=>exact ha pins s1 σ H1 Q I1 q1
 | false=>exact hb pins s1 σ H1 Q I1 q1
end
abbrev fj(K:al)(H:Hp)(a:ai)(xs:List V):Prop:=
 Rd H a (.lst xs)\/
  ∃(o:fB) (its:Array Value) (n:Nat),K.lookup a=some o/\o.cls=.type "list"/\o.dict=none/\o.data=.seq its n/\its.size<=bY/\cv xs its.toList
abbrev lK(K:al)(H:Hp)(a:ai)(xs:List V):Prop:=
 Rd H a (.tup xs)\/
  ∃(o:fB) (its:Array Value) (n:Nat),K.lookup a=some o/\o.cls=.type "tuple"/\o.data=.seq its n/\its.size<=bY/\cv xs its.toList
abbrev a1c:Value->Option V
 | .none=>some .non
 | .bool b=>some (.bl b)
 | .int i _=>some (.int i)
 | .str x _=>some (.str x)
 | .bytes b _=>some (.byt b)
 | .float b _=>some (.flt b)
 | .ref a=>some (.ref a)
 | .type n=>some (.ty n)
 | _=>none
theorem RelV.abs{x:V}{u:Value}(r:RelV x u):a1c u=some x:=by
 cases x with
 | non=>cases r;rfl
 | bl _=>cases r;rfl
 | int _=>obtain⟨t,rfl⟩:=r;rfl
 | str _=>obtain⟨t,rfl⟩:=r;rfl
 | byt _=>obtain⟨t,rfl⟩:=r;rfl
 | flt _=>obtain⟨t,rfl⟩:=r;rfl
 | ref _=>cases r;rfl
 | ty _=>cases r;rfl
theorem RelV.inj{x y:V}{u:Value}(r:RelV x u)(q:RelV y u):x=y:=bv.inj (r.abs.symm.trans q.abs)
theorem cv.inj:∀{xs ys:List V} {us:List Value},cv xs us->cv ys us->xs=ys
 | _,_,_,.nil,.nil=>rfl
 | _,_,_,.cons r t,.cons r' t'=>by rw[r.inj r',cv.inj t t']
section
variable {X:Cx} {pins:List (ai×fB)} {σ:St} {H:Hp} {s:Shared} {a:ai} {xs ys:List V}
theorem fj.of{K:al}(h:H a=some (.lst xs)):fj K H a xs:=.inl (.inl h)
theorem lK.of{K:al}(h:H a=some (.tup xs)):lK K H a xs:=.inl (.inl h)
theorem Inv.list(I:Inv X pins σ H s)(h:fj X.K H a xs):∃its:List Value,cv xs its/\PlainL s.heap a its.toArray/\xs.length<=bY:=by
 rcases h with h | ⟨o,its,n,hk,hc,hd,hs,hz,r⟩
 . obtain⟨z,its,n,r,e⟩:=h.ok I.hok;exact⟨its,r,⟨_,n,e,rfl,rfl,rfl⟩,z⟩
 . refine⟨its.toList,r,⟨o,n,I.kIn a o hk,hc,hd,by simpa using hs⟩,?_⟩;have e:=r.length;simp only[gm]at e;lia
theorem Inv.tuple(I:Inv X pins σ H s)(h:lK X.K H a xs):∃its:List Value,cv xs its/\IsTup s.heap a its.toArray/\xs.length<=bY:=by
 rcases h with h | ⟨o,its,n,hk,hc,hs,hz,r⟩
 . obtain⟨z,its,r,p⟩:=h.ok I.hok;exact⟨its,r,p,z⟩
 . refine⟨its.toList,r,⟨o,I.kIn a o hk,hc,n,by simpa using hs⟩,?_⟩;have e:=r.length;simp only[gm]at e;lia
theorem Inv.list_inj(I:Inv X pins σ H s)(h:fj X.K H a xs)(h':fj X.K H a ys):xs=ys:=by
 obtain⟨its,r,⟨o,n,e,_,_,d⟩,_⟩:=I.list h;obtain⟨its',r',⟨o',n',e',_,_,d'⟩,_⟩:=I.list h';rw[e]at e';cases e';rw[d]at d';injection d' with d1 _
 have:its=its':=by simpa using congrArg Xr d1
 subst this;exact r.inj r'
end
@[reducible]def Cx.wish(X:Cx)(E:Value->Shared->Prop):Cx:={X with xe:=E}
@[reducible]def Cx.nox(X:Cx):Cx:=X.wish λ_ _=>False
theorem Cx.Ok.wish{X:Cx}(ok:X.Ok)(E:Value->Shared->Prop):(X.wish E).Ok:=
 ⟨ok.mod,ok.kind,ok.glob,ok.blt,ok.above,ok.inj,ok.has,ok.cab,ok.hd,ok.frames,ok.stk,ok.exf,ok.bs,ok.bsz,ok.noex,ok.exfs,ok.funs,ok.frf⟩
theorem Cx.Ok.unwish{X:Cx}{E:Value->Shared->Prop}(ok:(X.wish E).Ok):X.Ok:=
 ⟨ok.mod,ok.kind,ok.glob,ok.blt,ok.above,ok.inj,ok.has,ok.cab,ok.hd,ok.frames,ok.stk,ok.exf,ok.bs,ok.bsz,ok.noex,ok.exfs,ok.funs,ok.frf⟩
section
variable {X:Cx} {pins:List (ai×fB)} {σ:St} {H:Hp} {s:Shared} {E:Value->Shared->Prop}
theorem Inv.wish(I:Inv X pins σ H s)(E:Value->Shared->Prop):Inv (X.wish E) pins σ H s:=⟨I.ok.wish E,I.os,I.bare,I.base,I.loc,I.cell,I.free,I.freeC,I.pin,I.hok,I.len⟩
theorem Inv.unwish(I:Inv (X.wish E) pins σ H s):Inv X pins σ H s:=⟨I.ok.unwish,I.os,I.bare,I.base,I.loc,I.cell,I.free,I.freeC,I.pin,I.hok,I.len⟩
theorem SP.unwish{D:DE}{f:Flow}{s':Shared}(h:SP (X.wish E) pins D f s'):SP X pins D f s':=by
 cases f with
 | next=>obtain⟨σ',H',I,q⟩:=h;exact⟨σ',H',I.unwish,q⟩
 | brk=>obtain⟨σ',H',I,q⟩:=h;exact⟨σ',H',I.unwish,q⟩
 | cont=>obtain⟨σ',H',I,q⟩:=h;exact⟨σ',H',I.unwish,q⟩
 | ret u=>obtain⟨v,σ',H',I,r,q⟩:=h;exact⟨v,σ',H',I.unwish,r,q⟩
theorem PSs.nox{st:List Stmt}{t:TS}(h:PSs X.nox st t):PSs X st t:=λpins s σ H D I hw=>
 fW (h pins s σ H D (I.wish _) hw) (λ_ _ q=>q.unwish) λ_ _ z=>dE z
end
section
variable {X:Cx} {st:Stmt} {rest:List Stmt} {t u:TS} {e:Expr} {te:TE} {pos:Pos}
abbrev Tc:TS:=λD σ H=>D.nx σ H
abbrev a1d(t u:TS):TS:=λD σ H=>t {D with nx:=u D} σ H
theorem IH:PSs X [] Tc:=λ_ _ σ H _ I h=>FF ⟨σ,H,I,h⟩
theorem xL(h1:PS X st t)(h2:PSs X rest u):PSs X (st::rest) (a1d t u):=by
 intro pins s σ H D I h;refine wpAny_execs_cons (fQ (h1 pins s σ H {D with nx:=u D} I h) λf s1 q=>?_);cases f with
 | next=>
  obtain⟨σ',H',I',q⟩:=q;exact h2 pins s1 σ' H' D I' q
 | ret v=>exact q
 | brk=>exact q
 | cont=>exact q
abbrev Uo:TS:=λD σ H=>D.bk σ H
abbrev X9:TS:=λD σ H=>D.ct σ H
theorem PZ:PS X (.Pass pos) Tc:=λ_ _ σ H _ I h=>wpAny_Pass ⟨σ,H,I,h⟩
theorem L4:PS X (.Break pos) Uo:=λ_ _ σ H _ I h=>wpAny_Break ⟨σ,H,I,h⟩
theorem DF:PS X (.Continue pos) X9:=λ_ _ σ H _ I h=>wpAny_Continue ⟨σ,H,I,h⟩
theorem Inv.quiet{pins:List (ai×fB)}{σ:St}{H:Hp}{s:Shared}(I:Inv X pins σ H s):interactive X.env=false:=by simp [interactive,I.ok.kind]
abbrev Td(te:TE):TS:=λD σ H=>te σ H λ_ H1=>D.nx σ H1
theorem lh(he:PE X e te)(hs:eT e none pos.line X.env=pure false:=by rfl):PS X (.Expr e pos) (Td te):=by
 intro pins s σ H D I h;exact wpAny_Expr_any (fQ (he pins s σ H _ I h) λv s1 ⟨x,H1,I1,r1,q1⟩=>⟨σ,H1,I1,q1⟩) I.quiet hs
abbrev a1e(te:TE):TS:=λD σ H=>te σ H D.rt
theorem Bm(he:PE X e te):PS X (.Return (some e) pos) (a1e te):=by
 intro pins s σ H D I h;exact wpAny_Return_some (fQ (he pins s σ H _ I h) λv s1 ⟨x,H1,I1,r1,q1⟩=>⟨x,σ,H1,I1,r1,q1⟩)
abbrev a1f(c:TT)(t u:TS):TS:=λD σ H=>c σ H λb H1=>if b=true then t D σ H1 else u D σ H1
theorem Yb{c:Expr}{a b:List Stmt}{tc:TT}(hc:PT X c tc)(ha:PSs X a t)(hb:PSs X b u):PS X (.If c a b pos) (a1f tc t u):=by
 intro pins s σ H D I h;refine wpAny_If (fQ (hc pins s σ H _ I h) λd s1 hh=>?_);obtain⟨H1,I1,q1⟩:=hh;cases d with
 | true=>exact ha pins s1 σ H1 D I1 q1
 | false=>exact hb pins s1 σ H1 D I1 q1
end
@[reducible]def TG:=V->St->Hp->(St->Hp->Prop)->Prop
@[reducible]def Up:=List V->St->Hp->(St->Hp->Prop)->Prop
abbrev PG(X:Cx)(target:Expr)(t:TG):Prop:=
 ∀(pins:List (ai×fB)) (s:Shared) (σ:St) (H:Hp) (v:V) (u:Value) (Q:St->Hp->Prop),Inv X pins σ H s->RelV v u->t v σ H Q->
  bN (bF X.prog X.w) X.A (pz target X.env u) (λ_ s'=>∃σ' H',Inv X pins σ' H' s'/\Q σ' H') X.xe s
abbrev PGs(X:Cx)(ts:List Expr)(t:Up):Prop:=
 ∀(pins:List (ai×fB)) (s:Shared) (σ:St) (H:Hp) (vs:List V) (us:List Value) (Q:St->Hp->Prop),Inv X pins σ H s->cv vs us->t vs σ H Q->
  bN (bF X.prog X.w) X.A (assignInOrder ((mj ts X.env).map (·.2)) us) (λ_ s'=>∃σ' H',Inv X pins σ' H' s'/\Q σ' H') X.xe s
@[reducible]def L5:=V->V->V->Hp->(Hp->Prop)->Prop
abbrev Uq(X:Cx)(t:L5):Prop:=
 ∀(pins:List (ai×fB)) (s:Shared) (σ:St) (H:Hp) (o i v:V) (ov iv u:Value) (Q:Hp->Prop),Inv X pins σ H s->RelV o ov->RelV i iv->RelV v u->t o i v H Q->
  bN (bF X.prog X.w) X.A (tE ov iv u) (λ_ s'=>∃H',Inv X pins σ H' s'/\Q H') X.xe s
@[reducible]def Yc:=V->V->Hp->VK->Prop
abbrev PIp(X:Cx)(op:vR)(t:Yc):Prop:=
 ∀(pins:List (ai×fB)) (s:Shared) (σ:St) (H:Hp) (x y:V) (v u:Value) (Q:VK),Inv X pins σ H s->RelV x v->RelV y u->t x y H Q->
  bN (bF X.prog X.w) X.A (oa op v u) (EP X pins σ Q) X.xe s
section
variable {X:Cx} {pos:Pos}
abbrev iH(i:Nat):TG:=λv σ H Q=>Q (σ.set i (some v)) H
theorem II{i:Nat}{x:Str}(hN:X.N.Nodup)(hi:X.N[i]?=some x)(hx:Loc X.env.scope x)(hf:X.fn x=true\/X.env.scope.names.lookup x=some .local:=by fail"o"):PG X (.Name x pos) (iH i):=by
 intro pins s σ H v u Q I r h;exact XQ (xK I hN hi hx r (λs' I'=>⟨_,H,I',h⟩) hf)
abbrev L6:Up:=λvs σ H Q=>vs=[]/\Q σ H
abbrev tT(t:TG)(u:Up):Up:=λvs σ H Q=>∃v r,vs=v::r/\t v σ H λσ' H'=>u r σ' H' Q
theorem Bn:PGs X [] L6:=by
 intro pins s σ H vs us Q I r h;obtain⟨e,h⟩:=h;subst e;cases r;exact assignInOrder_nil ⟨σ,H,I,h⟩
theorem nj {e:Expr} {es:List Expr} {t:TG} {u:Up} (h1:PG X e t) (h2:PGs X es u)
 (hs:(mj (e::es) X.env).map (·.2)=pz e X.env::(mj es X.env).map (·.2):=by rfl):PGs X (e::es) (tT t u):=by
 intro pins s σ H vs us Q I r h;obtain⟨v,vr,e1,h⟩:=h;subst e1;cases r with
 | cons r rr=>
  rw[hs];refine assignInOrder_cons (fQ (h1 pins s σ H _ _ _ I r h) λ_ s1 ⟨σ1,H1,I1,q1⟩=>?_);exact h2 pins s1 σ1 H1 _ _ Q I1 rr q1
abbrev L7(K:al)(n:Nat)(t:Up):TG:=λv σ H Q=>∃a xs,v=.ref a/\lK K H a xs/\xs.length=n/\t xs σ H Q
theorem F5 {es:List Expr} {k:Nat} {t:Up} {n:Nat} (hc:X.calm=true) (h:PGs X es t)
 (hn:(mj es X.env).length=n:=by rfl) (hst:(mj es X.env).findIdx? (·.1)=none:=by rfl):PG X (.Tuple es k pos) (L7 X.K n t):=by
 intro pins s σ H v u Q I r hw;obtain⟨a,xs,e1,hq,hl,hw⟩:=hw;subst e1;cases r;obtain⟨its,rv,ht,hz⟩:=I.tuple hq;refine assign_Tuple_tuple (I.ok.hd hc) ht (by simp [hn,<-hl,rv.length]) hst λh' hx=>?_;have I1:Inv X pins σ H {s with heap:=h'}:=I.kept (t':=s.toks) λb o e=>hx b o (cQ (Heap.lt_size e)) e;exact h pins _ σ H xs _ Q I1 (by simpa using rv) hw
abbrev a1g(to ti:TE)(t:L5):TG:=λv σ H Q=>to σ H λo H1=>ti σ H1 λi H2=>t o i v H2 λH3=>Q σ H3
theorem L8 {o i:Expr} {to ti:TE} {t:L5} (ho:PE X o to) (hi:PE X i ti) (hs:Uq X t)
 (ha:∀v,pz (.Subscript o i pos) X.env v=(do
  let ov<-eF [v] (b4 o X.env)
  let iv<-eF [v,ov] (b4 i X.env)
  mr pos
  eF [v,ov,iv] (tE ov iv v)
  wA [v,ov,iv] []):=by intro _;rfl):PG X (.Subscript o i pos) (a1g to ti t):=by
 intro pins s σ H v u Q I r h;rw[ha];refine bO (Lu (fQ (ho pins s σ H _ I h) λov s1 hh=>?_));obtain⟨x,H1,I1,r1,q1⟩:=hh;refine bO (Lu (fQ (hi pins s1 σ H1 _ I1 q1) λiv s2 hh=>?_));obtain⟨y,H2,I2,r2,q2⟩:=hh;refine bO (Lv (bO (Lu (fQ (hs pins s2 σ H2 x y v ov iv u _ I2 r1 r2 r q2) λ_ s3 hh=>?_))));obtain⟨H3,I3,q3⟩:=hh;exact wpAny_release ⟨σ,H3,I3,q3⟩
abbrev J4(te:TE)(g:TG):TS:=λD σ H=>te σ H λx H1=>g x σ H1 D.nx
theorem L9 {tg e:Expr} {te:TE} {g:TG} (he:PE X e te) (hg:PG X tg g) (hs:qL [tg] e pos.line X.env=pure false:=by rfl) (hw:Lw [tg] e X.env=pure none:=by rfl)
 (h1:(mj [tg] X.env).map (·.2)=[pz tg X.env]:=by rfl):PS X (.Assign [tg] e pos) (J4 te g):=by
 intro pins s σ H D I h;refine wpAny_Assign_stores (fQ (he pins s σ H _ I h) λv s1 hh=>?_) hs hw;obtain⟨x,H1,I1,r1,q1⟩:=hh;rw[h1];exact fQ (hg pins s1 σ H1 x v _ I1 r1 q1) λ_ s2 q=>q
theorem F6{i:Nat}{x:Str}{e:Expr}{te:TE}{pos':Pos}(hN:X.N.Nodup)(hi:X.N[i]?=some x)(hx:Loc X.env.scope x)(he:PE X e te)(hs:eT e (some (.Name x pos')) pos.line X.env=pure false:=by rfl)(hf:X.fn x=true\/X.env.scope.names.lookup x=some .local:=by fail"o"):
 PS X (.Assign [.Name x pos'] e pos) (J4 te (iH i)):=by
 intro pins s σ H D I h;refine wpAny_Assign_Name (fQ (he pins s σ H _ I h) λv s1 hh=>?_) hs;obtain⟨y,H1,I1,r1,q1⟩:=hh;exact xK I1 hN hi hx r1 (λs2 I2=>⟨_,H1,I2,q1⟩) hf
abbrev a1h(i:Nat)(te:TE)(ti:Yc):TS:=λD σ H=>∃x,σ[i]?=some (some x)/\te σ H λy H1=>ti x y H1 λz H2=>D.nx (σ.set i (some z)) H2
theorem Ur{i:Nat}{x:Str}{e:Expr}{te:TE}{op:vR}{ti:Yc}{pos':Pos}(hN:X.N.Nodup)(hi:X.N[i]?=some x)(hx:Loc X.env.scope x)(he:PE X e te)(ho:PIp X op ti)(hf:X.fn x=true\/X.env.scope.names.lookup x=some .local:=by fail"o"):
 PS X (.AugAssign (.Name x pos') op e pos) (a1h i te ti):=by
 intro pins s σ H D I h;obtain⟨v,e1,h⟩:=h;obtain⟨m,hn,hl⟩:=I.loc;have vis:Tb X.env.scope x:=by rcases hx with k | k;exact .inl k;exact .inr (.inl k)
 obtain⟨u,r,l⟩:=hl i x v hi e1 vis;refine wpAny_AugAssign_Name ?_;have go:bN (bF X.prog X.w) X.A (b4 e X.env) (λw s₂=>bN (bF X.prog X.w) X.A (oa op u w) (λr s₃=>bN (bF X.prog X.w) X.A (ZP X.env x r) (λ_=>SP X pins D .next) X.xe s₃) X.xe s₂) X.xe s:=by
  refine fQ (he pins s σ H _ I h) λw s1 hh=>?_;obtain⟨y,H1,I1,r1,q1⟩:=hh;refine fQ (ho pins s1 σ H1 v y u w _ I1 r r1 q1) λz s2 hh=>?_;obtain⟨zv,H2,I2,r2,q2⟩:=hh;exact xK I2 hN hi hx r2 (λs3 I3=>⟨_,H2,I3,q2⟩) hf
 rcases l with⟨hk,hm⟩ | ⟨hk,c,hc,hcell⟩
 . exact SO I.ok.kind hk hn hm go
 . rcases hk with hk | hk
   . exact TW I.ok.kind hk hc hcell go
   . rcases hx with k | k
     . have:X.env.scope.names.lookup x=some .free:=hk;rw[k]at this;cases this
     . have:X.env.scope.names.lookup x=some .free:=hk;rw[k]at this;cases this
abbrev Yd(to ti te:TE)(tget:V->V->Hp->VK->Prop)(tip:Yc)(tset:L5):TS:=λD σ H=>to σ H λo H1=>ti σ H1 λi H2=>tget o i H2 λx H3=>te σ H3 λy H4=>tip x y H4 λz H5=>tset o i z H5 λH6=>D.nx σ H6
abbrev Ye(X:Cx)(t:V->V->Hp->VK->Prop):Prop:=
 ∀(pins:List (ai×fB)) (s:Shared) (σ:St) (H:Hp) (o i:V) (ov iv:Value) (Q:VK),Inv X pins σ H s->RelV o ov->RelV i iv->t o i H Q->
  bN (bF X.prog X.w) X.A (FU ov iv) (EP X pins σ Q) X.xe s
theorem P1 {o i e:Expr} {to ti te:TE} {tget:V->V->Hp->VK->Prop} {tip:Yc} {tset:L5} {op:vR} {tpos:Pos} (ho:PE X o to) (hi:PE X i ti) (hg:Ye X tget) (he:PE X e te) (hp:PIp X op tip) (hs:Uq X tset)
 (ha:∀ov iv new,a2G i ov iv new=(do eF [new,ov,iv] (tE ov iv new);wA [new,ov,iv] [];pure .next):=by intros;rfl):PS X (.AugAssign (.Subscript o i tpos) op e pos) (Yd to ti te tget tip tset):=by
 intro pins s σ H D I h;refine wpAny_AugAssign_SubscriptAny (fQ (ho pins s σ H _ I h) λov s1 hh=>?_) ha;obtain⟨x1,H1,I1,r1,q1⟩:=hh;refine fQ (hi pins s1 σ H1 _ I1 q1) λiv s2 hh=>?_;obtain⟨x2,H2,I2,r2,q2⟩:=hh;refine fQ (hg pins s2 σ H2 x1 x2 ov iv _ I2 r1 r2 q2) λold s3 hh=>?_;obtain⟨x3,H3,I3,r3,q3⟩:=hh;refine fQ (he pins s3 σ H3 _ I3 q3) λv s4 hh=>?_;obtain⟨x4,H4,I4,r4,q4⟩:=hh;refine fQ (hp pins s4 σ H4 x3 x4 old v _ I4 r3 r4 q4) λnew s5 hh=>?_;obtain⟨x5,H5,I5,r5,q5⟩:=hh;exact fQ (hs pins s5 σ H5 x1 x2 x5 ov iv new _ I5 r1 r2 r5 q5) λ_ s6 ⟨H6,I6,q6⟩=>⟨σ,H6,I6,q6⟩
end
section
variable {X:Cx} {pos:Pos}
abbrev Us(c:TT)(tb:TS):TS:=λD σ H=>∃W:Nat->St->Hp->Prop,(∃m,W m σ H)/\∀m σ H,W m σ H->
 c σ H λb H1=>if b=true then∃N:St->Hp->Prop,(∀σ' H',N σ' H'->∃m',m'<m/\W m' σ' H')/\tb {D with nx:=N,ct:=N,bk:=D.nx} σ H1 else D.nx σ H1
theorem Ma{c:Expr}{body:List Stmt}{tc:TT}{tb:TS}(hp:r9 (bF X.prog X.w) X.A X.env X.xe)(hc:PT X c tc)(hb:PSs X body tb):PS X (.While c body [] pos) (Us tc tb):=by
 intro pins s σ H D I h;obtain⟨W,⟨m0,w0⟩,turn⟩:=h;refine wpAny_While (codeAny_whileLoop (λn s'=>∃σ' H',Inv X pins σ' H' s'/\W n σ' H') ?_ m0 ⟨σ,H,I,w0⟩);rintro n s1 ⟨σ1,H1,I1,w1⟩;refine ip hp (fQ (hc pins s1 σ1 H1 _ I1 (turn n σ1 H1 w1)) λb s2 hh=>?_);obtain⟨H2,I2,q2⟩:=hh;cases b with
 | true=>
  obtain⟨N,hN,q2⟩:=q2;rw[if_pos rfl];refine ip hp (fQ (hb pins s2 σ1 H2 _ I2 q2) λf s3 q3=>?_);cases f with
  | next=>
   obtain⟨σ3,H3,I3,n3⟩:=q3;obtain⟨m',hm,w3⟩:=hN σ3 H3 n3;exact⟨m',hm,σ3,H3,I3,w3⟩
  | cont=>
   obtain⟨σ3,H3,I3,n3⟩:=q3;obtain⟨m',hm,w3⟩:=hN σ3 H3 n3;exact⟨m',hm,σ3,H3,I3,w3⟩
  | brk=>exact q3
  | ret v=>exact q3
 | false=>
  rw[if_neg bj];exact FF ⟨σ1,H2,I2,q2⟩
end
structure It where
 go:Nat->Hp->Prop
 yld:Nat->Hp->V->Hp->Prop
 stop:Nat->Hp->Prop
abbrev wF(X:Cx)(pins:List (ai×fB))(H:Hp)(b:ai):Prop:=
 H b=none/\b≠X.env.locals/\b∉X.fs/\(b∈X.ex\/X.s_0.heap.objs.size<=b)/\(∀x c,X.env.cells.lookup x=some c->c≠b)/\∀p∈X.pn++pins,p.1≠b
theorem Inv.fpOk{X:Cx}{pins:List (ai×fB)}{σ:St}{H H':Hp}{s:Shared}{b:ai}(I:Inv X pins σ H s)(hb:s.heap.objs.size<=b)(hn:H' b=none):wF X pins H' b:=by
 refine⟨hn,wT (ba I.lt hb),I.nofs hb,.inr (bb I.sz hb),λx c e z=>?_,λp hp z=>?_⟩
 . obtain⟨v,q⟩:=I.cell x c e;exact absurd (ba q.lt (by rw[z];exact hb)) (eO _)
 . exact absurd (ba (Heap.lt_size (I.pin p hp).1) (by rw[z];exact hb)) (eO _)
structure Mb (P:Program) (w:World) (K:al) (tg:Expr) (J:It) (fp:List ai) (it:ai) (tn:Nat->Heap->Prop):Prop where
 mem:it∈fp
 obj:∀i h,tn i h->∀b∈fp,∃o,h.get? b=some o/\∀v,o.data≠.cell v
 keep:∀i h h',tn i h->(∀b∈fp,∀o,h.get? b=some o->h'.get? b=some o)->tn i h'
 item:∀(X:Cx),X.prog=P->X.w=w->X.K=K->X.calm=true->∀(i:Nat) (pins:List (ai×fB)) (s:Shared) (σ:St) (H:Hp) (E:Value->Shared->Prop),Inv X pins σ H s->(∀b∈fp,wF X pins H b)->tn i s.heap->J.go i H->
  bN (bF P w) X.A (pyNext (.ref it)) (λr s1=>∃u,r=some u/\
   bN (bF P w) X.A (tL tg (.ref it) u) (λ_ s2=>∃x H',Inv X pins σ H' s2/\RelV x u/\J.yld i H x H'/\tn (i+1) s2.heap/\∀b∈fp,H' b=none) E s1) E s
 done:∀(X:Cx),X.prog=P->X.w=w->X.K=K->X.calm=true->∀(i:Nat) (pins:List (ai×fB)) (s:Shared) (σ:St) (H:Hp) (E:Value->Shared->Prop),Inv X pins σ H s->(∀b∈fp,wF X pins H b)->tn i s.heap->J.stop i H->
  bN (bF P w) X.A (pyNext (.ref it)) (λr s1=>r=none/\Inv X pins σ H s1) E s
 self:∀(A:cC) (i:Nat) (s:Shared) (Q:Value->Shared->Prop) (E:Value->Shared->Prop),tn i s.heap->Q (.ref it) s->bN (bF P w) A (pyIter (.ref it)) Q E s
@[reducible]def TI:=St->Hp->(It->Hp->Prop)->Prop
abbrev PIE(X:Cx)(pins:List (ai×fB))(σ:St)(tg:Expr)(R:It->Hp->Prop)(itv:Value)(s2:Shared):Prop:=
 ∃(it:ai) (fp:List ai) (tn:Nat->Heap->Prop) (J:It) (H':Hp),itv=.ref it/\Inv X pins σ H' s2/\Mb X.prog X.w X.K tg J fp it tn/\tn 0 s2.heap/\(∀b∈fp,wF X pins H' b)/\R J H'
abbrev PI(X:Cx)(tg iter:Expr)(wi:TI):Prop:=
 ∀(pins:List (ai×fB)) (s:Shared) (σ:St) (H:Hp) (R:It->Hp->Prop),Inv X pins σ H s->wi σ H R->
  bN (bF X.prog X.w) X.A (b4 iter X.env) (λv s1=>bN (bF X.prog X.w) X.A (pyIter v) (PIE X pins σ tg R) X.xe s1) X.xe s
theorem Te {M:XO} {A:cC} {E:Value->Shared->Prop} {s:Shared} {tg:Expr} {it:ai} {u:Value} {o:fB} {n:String} {vs:Array Value} {Q:Unit->Shared->Prop} (ho:s.heap.get? it=some o) (hc:o.cls=.type n) (hd:o.data=.fields vs)
 (hn:["enumerate","zip","dict_itemiterator","dict_reverseitemiterator","odict_iterator","itertools.zip_longest","itertools.pairwise"].contains n=false) (hQ:Q () s):bN M A (tL tg (.ref it) u) Q E s:=by
 unfold tL;cases tg<;>first
  | exact df hQ
  | (cases u<;>first
   | exact df hQ
   | (refine bO (wpAny_load ho ?_);rw[hc,hd];show bN M A (if(["enumerate","zip","dict_itemiterator","dict_reverseitemiterator","odict_iterator","itertools.zip_longest","itertools.pairwise"].contains n&&vs[0]?==some (rawInt _))=true then _ else _) Q E s;rw[if_neg (by intro h;rw[hn,iy]at h;cases h)];exact df hQ))
abbrev Itl(K:al)(a:ai):It:=
 ⟨λi H=>∃xs x,fj K H a xs/\xs[i]?=some x,λi H x H'=>H'=H/\∀xs,fj K H a xs->xs[i]?=some x,λi H=>∃xs,fj K H a xs/\xs.length<=i⟩
abbrev Yg(lo:Int)(n:Nat):It:=⟨λi _=>i<n,λi H x H'=>H'=H/\x=.int (lo+i),λi _=>n<=i⟩
theorem J5{P:Program}{w:World}{K:al}{tg:Expr}(a it:ai):Mb P w K tg (Itl K a) [it] it (λi h=>h.IsListIter it a i) where
 mem:=by simp
 obj:=λi h st b hb=>by
  have e:b=it:=by simpa using hb
  subst e;obtain⟨o,e,c,d⟩:=st;exact⟨o,e,λv z=>by rw[d]at z;cases z⟩
 keep:=λi h h' st k=>st.at λo e=>k it (by simp) o e
 item:=by
  intro X hP hw hK hc i pins s σ H E I hf st hg;subst hP hw hK;obtain⟨xs,x,hq,hx⟩:=hg;obtain⟨its,rv,p,hz⟩:=I.list hq;obtain⟨u,hu,ru⟩:=rv.get hx;obtain⟨f0,f1,f2,f3,f4,f5⟩:=hf it (by simp);refine wpAny_pyNext_list_item st p.isList (x:=u) (by simpa using hu) λh' st' sb=>?_;have I1:Inv X pins σ H {s with heap:=h'}:=I.turned (t':=s.toks) (λb o hb e=>(sb.2 b hb).trans e) f0 f1 f3 f4 f5;obtain⟨o,e,c,d⟩:=id st';exact⟨u,rfl,Te (s:={s with heap:=h'}) e c d (by decide) ⟨x,H,I1,ru,⟨rfl,λys hy=>by rw[I.list_inj hy hq];exact hx⟩,st',λb hb=>(hf b hb).1⟩⟩
 done:=by
  intro X hP hw hK hc i pins s σ H E I hf st hg;subst hP hw hK;obtain⟨xs,hq,hx⟩:=hg;obtain⟨its,rv,p,hz⟩:=I.list hq;obtain⟨f0,f1,f2,f3,f4,f5⟩:=hf it (by simp);have hl:=rv.length;exact wpAny_pyNext_list_end (I.ok.hd hc) st p.isList (by simp;lia) λh' eb=>⟨rfl,I.turned (t':=s.toks) (λb o hb e=>eb b o hb e) f0 f1 f3 f4 f5⟩
 self:=λ_ _ _ _ _ st h=>wpAny_pyIter_listiter st h
theorem F7{P:Program}{w:World}{K:al}{tg:Expr}(it:ai)(lo:Int)(n:Nat):Mb P w K tg (Yg lo n) [it] it (λi h=>IsRangeIter h it (lo+(i:Nat)*1) ((n:Int)-(i:Nat)) 1) where
 mem:=by simp
 obj:=λi h st b hb=>by
  have e:b=it:=by simpa using hb
  subst e;exact⟨_,st,λv z=>by
   have z':ZQ.fields _=ZQ.cell v:=z;cases z'⟩
 keep:=λi h h' st k=>k it (by simp) _ st
 item:=by
  intro X hP hw hK hc i pins s σ H E I hf st hg;subst hP hw hK;obtain⟨f0,f1,f2,f3,f4,f5⟩:=hf it (by simp);have W:=Walks.range (prog:=X.prog) (w:=X.w) (I.ok.hd hc) it lo 1 n;refine W.item i s _ _ hg st λv h' tk hv st' kk=>?_;obtain⟨t,rfl⟩:=hv;have I1:Inv X pins σ H {s with heap:=h',toks:=tk}:=I.turned (λb o hb e=>kk b o (by simpa using hb) e) f0 f1 f3 f4 f5;refine⟨_,rfl,Te (s:={s with heap:=h',toks:=tk}) (n:="range_iterator") st' rfl rfl (by decide) ⟨.int (lo+i),H,I1,⟨t,?_⟩,⟨rfl,rfl⟩,st',λb hb=>(hf b hb).1⟩⟩;rw[oe]
 done:=by
  intro X hP hw hK hc i pins s σ H E I hf st hg;subst hP hw hK;obtain⟨f0,f1,f2,f3,f4,f5⟩:=hf it (by simp);exact wpAny_pyNext_range_end (I.ok.hd hc) st (by have:n<=i:=hg;lia) λh' eb=>⟨rfl,I.turned (t':=s.toks) (λb o hb e=>eb b o hb e) f0 f1 f3 f4 f5⟩
 self:=λ_ _ _ _ _ st h=>wpAny_pyIter_rangeiter st h
section
variable {X:Cx} {tg:Expr}
abbrev Yh(K:al)(tl:TE):TI:=λσ H R=>tl σ H λx H1=>∃a,x=.ref a/\(∃xs,fj K H1 a xs)/\R (Itl K a) H1
theorem Bo{l:Expr}{tl:TE}(hl:PE X l tl):PI X tg l (Yh X.K tl):=by
 intro pins s σ H R I h;refine fQ (hl pins s σ H _ I h) λv s1 hh=>?_;obtain⟨x,H1,I1,r1,q1⟩:=hh;obtain⟨a,e,⟨xs,hq⟩,q⟩:=q1;subst e;cases r1;obtain⟨its,rv,p,hz⟩:=I1.list hq;refine wpAny_pyIter_list p.isList ?_;refine⟨s1.heap.objs.size,[s1.heap.objs.size],_,_,H1,rfl,I1.kept (t':=s1.toks) λb o e=>Heap.get?_push_of_some _ e,J5 a _,⟨_,Heap.get?_push_size _ rfl,rfl,rfl⟩,λb hb=>?_,q⟩;have e:b=s1.heap.objs.size:=by simpa using hb
 subst e;exact I1.fpOk (aO _) (I1.hok.fresh (aO _))
theorem DG {pins:List (ai×fB)} {σ:St} {H:Hp} {s:Shared} {R:It->Hp->Prop} {E:Value->Shared->Prop} {lo hi:Int} {t u v:Tok} {tk:Nat} (I:Inv X pins σ H s) (h1: -(2^62)<=lo) (h2:lo<2^62) (h3: -(2^62)<=hi) (h4:hi<2^62)
 (q:R (Yg lo (hi-lo).toNat) H):bN (bF X.prog X.w) X.A (pyIter (.ref s.heap.objs.size)) (PIE X pins σ tg R) E {s with heap:=s.heap.push {cls:=.type "range",data:=.fields #[.int lo t,.int hi u,.int 1 v]},toks:=tk}:=by
 refine wpAny_pyIter_range (IsRange.new ..) (small_one h1 h2 h3 h4) ?_;have I1:Inv X pins σ H {s with heap:=s.heap.push {cls:=.type "range",data:=.fields #[.int lo t,.int hi u,.int 1 v]},toks:=tk}:=I.kept λb o e=>Heap.get?_push_of_some _ e;refine⟨(s.heap.push {cls:=.type "range",data:=.fields #[.int lo t,.int hi u,.int 1 v]}).objs.size,[(s.heap.push {cls:=.type "range",data:=.fields #[.int lo t,.int hi u,.int 1 v]}).objs.size],_,_,H,rfl,
  I1.kept (t':=tk) λb o e=>Heap.get?_push_of_some _ e,F7 _ lo (hi-lo).toNat,?_,λb hb=>?_,q⟩
 . have e1:lo+((0:Nat):Int)*1=lo:=by simp
   have e2:(((hi-lo).toNat:Nat):Int)-((0:Nat):Int)=Builtin.Range.rangeSize lo hi 1:=by rw[rangeSize_one];split<;>lia
   show IsRangeIter _ _ (lo+((0:Nat):Int)*1) ((((hi-lo).toNat:Nat):Int)-((0:Nat):Int)) 1;rw[e1,e2];exact Heap.get?_push_size _ rfl
 . have e:b=(s.heap.push {cls:=.type "range",data:=.fields #[.int lo t,.int hi u,.int 1 v]}).objs.size:=by simpa using hb
   subst e;exact I1.fpOk (aO _) (I1.hok.fresh (aO _))
abbrev Yi(ta:TA):TI:=λσ H R=>ta σ H λvs H1=>∃j:Int,vs=[.int j]/\ -(2^62)<=j/\j<2^62/\R (Yg 0 j.toNat) H1
abbrev Yj(ta:TA):TI:=λσ H R=>ta σ H λvs H1=>∃i j:Int,vs=[.int i,.int j]/\(-(2^62)<=i/\i<2^62/\ -(2^62)<=j/\j<2^62)/\R (Yg i (j-i).toNat) H1
theorem J6{a:Expr}{ta:TA}{p pos:Pos}(hg:Gl X "range")(hm:X.mg "range"=none)(ha:PA X [a] ta)(hs:aW [a] X.env=[(false,b4 a X.env)]:=by rfl):PI X tg (.Call (.Name "range" p) [a] [] pos) (Yi ta):=by
 intro pins s σ H R I h;refine Call_ (vb I hg hm boot_range (eS (fQ (ha pos pins s σ H _ I h) λus s1 ⟨vs,H1,I1,r1,q1⟩=>?_) hs rfl));obtain⟨j,e,q1,q2,q⟩:=q1;subst e;cases r1 with
 | cons r rr=>
  cases rr;obtain⟨t,rfl⟩:=r;exact call_range_1 (DG I1 (by lia) (by lia) q1 q2 (by simpa using q))
theorem J7{a b:Expr}{ta:TA}{p pos:Pos}(hg:Gl X "range")(hm:X.mg "range"=none)(ha:PA X [a,b] ta)(hs:aW [a,b] X.env=[(false,b4 a X.env),(false,b4 b X.env)]:=by rfl)(hs2:aW [b] X.env=[(false,b4 b X.env)]:=by rfl):
 PI X tg (.Call (.Name "range" p) [a,b] [] pos) (Yj ta):=by
 intro pins s σ H R I h;refine Call_ (vb I hg hm boot_range (eS (fQ (ha pos pins s σ H _ I h) λus s1 ⟨vs,H1,I1,r1,q1⟩=>?_) (by rw[hs,hs2]) (by rw[hs2];rfl)));obtain⟨i,j,e,⟨q1,q2,q3,q4⟩,q⟩:=q1;subst e;cases r1 with
 | cons r rr=>
  cases rr with
  | cons r' rr=>
   cases rr;obtain⟨t,rfl⟩:=r;obtain⟨t',rfl⟩:=r';exact call_range_2 (DG I1 q1 q2 q3 q4 q)
abbrev Yk(wi:TI)(g:TG)(tb:TS):TS:=λD σ H=>wi σ H λJ H1=>∃W:Nat->Nat->St->Hp->Prop,(∃m,W 0 m σ H1)/\∀i m σ H,W i m σ H->
 (J.stop i H/\D.nx σ H)\/(J.go i H/\∃N:St->Hp->Prop,(∀σ' H',N σ' H'->∃m',m'<m/\W (i+1) m' σ' H')/\∀x H',J.yld i H x H'->g x σ H' λσ2 H2=>tb {D with nx:=N,ct:=N,bk:=D.nx} σ2 H2)
abbrev xM(fp:List ai)(h:Heap):List (ai×fB):=fp.filterMap λb=>(h.get? b).map λo=>(b,o)
theorem sF{fp:List ai}{h:Heap}{b:ai}{o:fB}(hb:b∈fp)(e:h.get? b=some o):(b,o)∈xM fp h:=LO.mpr ⟨b,hb,by rw[e];rfl⟩
theorem J8{fp:List ai}{h:Heap}{p:ai×fB}(hp:p∈xM fp h):p.1∈fp/\h.get? p.1=some p.2:=by
 obtain⟨b,hb,e⟩:=LO.mp hp;cases q:h.get? b with
 | none=>rw[q]at e;cases e
 | some o=>
  rw[q]at e;have e':(b,o)=p:=bv.inj e;subst e';exact⟨hb,q⟩
theorem Inv.pinned{pins:List (ai×fB)}{σ:St}{H:Hp}{s:Shared}{fp:List ai}(I:Inv X pins σ H s)(hf:∀b∈fp,wF X pins H b)(ho:∀b∈fp,∃o,s.heap.get? b=some o/\∀v,o.data≠.cell v):Inv X (pins++xM fp s.heap) σ H s:=
 I.pins_of λp hp=>(bV.mp hp).elim (λz=>I.pin p (bZ _ z)) λz=>by
  obtain⟨hb,e⟩:=J8 z;obtain⟨f0,f1,f2,_⟩:=hf p.1 hb;obtain⟨o,e',d⟩:=ho p.1 hb;rw[e]at e';cases e';exact⟨e,f0,f1,f2,d⟩
theorem Inv.unpinned{pins pl:List (ai×fB)}{σ:St}{H:Hp}{s:Shared}(I:Inv X (pins++pl) σ H s):Inv X pins σ H s:=I.pins_of λp hp=>I.pin p (bZ _ (eR _ hp))
theorem Mc {iter:Expr} {body:List Stmt} {wi:TI} {g:TG} {tb:TS} {pos:Pos} (hp:r9 (bF X.prog X.w) X.A X.env X.xe) (hc:X.calm=true) (hi:PI X tg iter wi) (hg:PG X tg g) (hb:PSs X body tb)
 (hs:∀x,dg iter X.env x=pure x:=by intro _;rfl):PS X (.For tg iter body [] pos) (Yk wi g tb):=by
 intro pins s σ H D I h;refine wpAny_For (fQ (hi pins s σ H _ I h) λv s1 h1=>fQ h1 λitv s2 h2=>?_) hs;obtain⟨it,fp,tn,J,H2,e,I2,T,st2,f2,W,⟨m0,w0⟩,turn⟩:=h2;subst e;have stat:∀{H':Hp},(∀b∈fp,H' b=none)->∀b∈fp,wF X pins H' b:=λhn b hb=>⟨hn b hb,(f2 b hb).2⟩;refine codeAny_forLoop_any (λn s'=>∃i σ' H',Inv X pins σ' H' s'/\tn i s'.heap/\(∀b∈fp,H' b=none)/\W i n σ' H') ?_ m0 ⟨0,σ,H2,I2,st2,λb hb=>(f2 b hb).1,w0⟩;rintro n s3 ⟨i,σ3,H3,I3,st3,fr3,w3⟩;rcases turn i n σ3 H3 w3 with⟨stop,qn⟩ | ⟨go,N,hN,step⟩
 . refine ip hp (fQ (T.done X rfl rfl rfl hc i pins s3 σ3 H3 X.xe I3 (stat fr3) st3 stop) λr s4 hh=>?_);obtain⟨hr,I4⟩:=hh;subst hr;exact FF ⟨σ3,H3,I4,qn⟩
 . refine ip hp (fQ (T.item X rfl rfl rfl hc i pins s3 σ3 H3 X.xe I3 (stat fr3) st3 go) λr s4 hh=>?_);obtain⟨u,hr,h4⟩:=hh;subst hr;refine ip hp (fQ h4 λ_ s5 hh=>?_);obtain⟨x,H5,I5,r5,y5,st5,fr5⟩:=hh;have I5':=I5.pinned (stat fr5) (T.obj _ _ st5);refine ip hp (fQ (hg _ s5 σ3 H5 x u _ I5' r5 (step x H5 y5)) λ_ s6 ⟨σ6,H6,I6,q6⟩=>?_);refine ip hp (fQ (hb _ s6 σ6 H6 _ I6 q6) λf s7 q7=>?_);have again:∀{σ7:St} {H7:Hp},Inv X (pins++xM fp s5.heap) σ7 H7 s7->N σ7 H7->∃m,m<n/\∃i σ' H',Inv X pins σ' H' s7/\tn i s7.heap/\(∀b∈fp,H' b=none)/\W i m σ' H':=λ{σ7 H7} I7 n7=>by
    obtain⟨m',hm,w7⟩:=hN σ7 H7 n7;refine⟨m',hm,i+1,σ7,H7,I7.unpinned,T.keep _ _ _ st5 λb hb o e=>(I7.pin (b,o) (bZ _ (bZ _ (sF hb e)))).1,λb hb=>?_,w7⟩;obtain⟨o,e,d⟩:=T.obj _ _ st5 b hb;exact(I7.pin (b,o) (bZ _ (bZ _ (sF hb e)))).2.1
   cases f with
   | next=>obtain⟨σ7,H7,I7,n7⟩:=q7;exact again I7 n7
   | cont=>obtain⟨σ7,H7,I7,n7⟩:=q7;exact again I7 n7
   | brk=>obtain⟨σ7,H7,I7,q7⟩:=q7;exact⟨σ7,H7,I7.unpinned,q7⟩
   | ret v=>obtain⟨x7,σ7,H7,I7,r7,q7⟩:=q7;exact⟨x7,σ7,H7,I7.unpinned,r7,q7⟩
end
@[reducible]def R2:=V->V->Hp->VK->Prop
abbrev n8(X:Cx)(f:Value->Value->PJ Value)(r:R2):Prop:=
 ∀(pins:List (ai×fB)) (s:Shared) (σ:St) (H:Hp) (x y:V) (v u:Value) (Q:VK),Inv X pins σ H s->RelV x v->RelV y u->r x y H Q->
  bN (bF X.prog X.w) X.A (f v u) (EP X pins σ Q) X.xe s
abbrev UnR(X:Cx)(f:Value->PJ Value)(r:V->Hp->VK->Prop):Prop:=
 ∀(pins:List (ai×fB)) (s:Shared) (σ:St) (H:Hp) (x:V) (v:Value) (Q:VK),Inv X pins σ H s->RelV x v->r x H Q->
  bN (bF X.prog X.w) X.A (f v) (EP X pins σ Q) X.xe s
abbrev nk(X:Cx)(f:Value)(r:List V->Hp->VK->Prop):Prop:=
 ∀(pins:List (ai×fB)) (s:Shared) (σ:St) (H:Hp) (xs:List V) (us:List Value) (Q:VK),Inv X pins σ H s->cv xs us->r xs H Q->
  bN (bF X.prog X.w) X.A (call f us) (EP X pins σ Q) X.xe s
abbrev Yl(r:R2)(ta tb:TE):TE:=λσ H Q=>ta σ H λx H1=>tb σ H1 λy H2=>r x y H2 Q
abbrev tUn(r:V->Hp->VK->Prop)(ta:TE):TE:=λσ H Q=>ta σ H λx H1=>r x H1 Q
abbrev rI(C:Int->Int->Prop)(g:Int->Int->V):R2:=λx y H Q=>∃i j,x=.int i/\y=.int j/\C i j/\Q (g i j) H
abbrev PD(g:Int->Int->V):R2:=λx y H Q=>∃i j,x=.int i/\y=.int j/\Q (g i j) H
abbrev rU(g:Int->V):V->Hp->VK->Prop:=λx H Q=>∃i,x=.int i/\Q (g i) H
section
variable {X:Cx} {a b c:Expr} {ta tb tc:TE} {pos:Pos}
theorem Ut (ha:PE X a ta) (hb:PE X b tb) {pins:List (ai×fB)} {s:Shared} {σ:St} {H:Hp} {R:V->V->Hp->Prop} (I:Inv X pins σ H s)
 (h:ta σ H λx H1=>tb σ H1 λy H2=>R x y H2) {Q:Value->Shared->Prop} {f:Value->Value->PJ Value}
 (hf:∀v u s2 x y H2,Inv X pins σ H2 s2->RelV x v->RelV y u->R x y H2->bN (bF X.prog X.w) X.A (f v u) Q X.xe s2):
 bN (bF X.prog X.w) X.A (b4 a X.env) (λv s₁=>bN (bF X.prog X.w) X.A (b4 b X.env) (λu s₂=>bN (bF X.prog X.w) X.A (f v u) Q X.xe s₂) X.xe s₁) X.xe s:=by
 refine fQ (ha pins s σ H _ I h) λv s1 hh=>?_;obtain⟨x,H1,I1,r1,q1⟩:=hh;refine fQ (hb pins s1 σ H1 _ I1 q1) λu s2 hh=>?_;obtain⟨y,H2,I2,r2,q2⟩:=hh;exact hf v u s2 x y H2 I2 r1 r2 q2
theorem DH{op:vR}{r:R2}(ho:n8 X (sf op) r)(ha:PE X a ta)(hb:PE X b tb):PE X (.BinOp a op b pos) (Yl r ta tb):=by
 fail"i";exact wpAny_BinOp (Ut ha hb I h λv u s2 x y H2 I2 rx ry q=>ho pins s2 σ H2 x y v u Q I2 rx ry q)
theorem Ym{op:UnaryOp}{r:V->Hp->VK->Prop}(ho:UnR X (unaryOp op) r)(ha:PE X a ta):PE X (.UnaryOp op a pos) (tUn r ta):=by
 fail"i";exact UnaryOp_ (fQ (ha pins s σ H _ I h) λv s1 ⟨x,H1,I1,r1,q1⟩=>ho pins s1 σ H1 x v Q I1 r1 q1)
theorem XE {f:Value->Value->PJ Value} {C:Int->Int->Prop} {g:Int->Int->Int}
 (ZR:∀(i j:Int) (t u:Tok) (s:Shared) (Q:Value->Shared->Prop) (E:Value->Shared->Prop),C i j->Q (.int (g i j) s.toks) {s with toks:=s.toks+1}->bN (bF X.prog X.w) X.A (f (.int i t) (.int j u)) Q E s):
 n8 X f (rI C λi j=>.int (g i j)):=by
 intro pins s σ H x y v u Q I rx ry h;obtain⟨i,j,rfl,rfl,hc,q⟩:=h;obtain⟨t,rfl⟩:=rx;obtain⟨t',rfl⟩:=ry;exact ZR i j t t' s _ _ hc ⟨.int (g i j),H,I.tok _,⟨_,rfl⟩,q⟩
theorem P2 {f:Value->Value->PJ Value} {g:Int->Int->Int}
 (ZR:∀(i j:Int) (t u:Tok) (s:Shared) (Q:Value->Shared->Prop) (E:Value->Shared->Prop),Q (.int (g i j) s.toks) {s with toks:=s.toks+1}->bN (bF X.prog X.w) X.A (f (.int i t) (.int j u)) Q E s):
 n8 X f (PD λi j=>.int (g i j)):=by
 intro pins s σ H x y v u Q I rx ry h;obtain⟨i,j,rfl,rfl,q⟩:=h;obtain⟨t,rfl⟩:=rx;obtain⟨t',rfl⟩:=ry;exact ZR i j t t' s _ _ ⟨.int (g i j),H,I.tok _,⟨_,rfl⟩,q⟩
theorem P3 {f:Value->Value->PJ Value} {g:Int->Int->Bool}
 (ZR:∀(i j:Int) (t u:Tok) (s:Shared) (Q:Value->Shared->Prop) (E:Value->Shared->Prop),Q (.bool (g i j)) s->bN (bF X.prog X.w) X.A (f (.int i t) (.int j u)) Q E s):
 n8 X f (PD λi j=>.bl (g i j)):=by
 intro pins s σ H x y v u Q I rx ry h;obtain⟨i,j,rfl,rfl,q⟩:=h;obtain⟨t,rfl⟩:=rx;obtain⟨t',rfl⟩:=ry;exact ZR i j t t' s _ _ ⟨.bl (g i j),H,I,rfl,q⟩
abbrev Yn(i j:Int):Prop:=0<j/\j<1073741824
abbrev P4(i j:Int):Prop:=(-(2^64)<i/\i<2^64)\/(-(2^64)<j/\j<2^64)
theorem P4.ok{i j:Int}(h:P4 i j):IntMulOk i j:=by
 rcases h with⟨h1,h2⟩ | ⟨h1,h2⟩
 . exact .of_left (a3i h1 h2)
 . exact .of_right (a3i h1 h2)
theorem Uu:n8 X (sf .Add) (PD λi j=>.int (i+j)):=P2 λ_ _ _ _ _ _ _ q=>add_int q
theorem Uv:n8 X (sf .Sub) (PD λi j=>.int (i-j)):=P2 λ_ _ _ _ _ _ _ q=>sub_int q
theorem Uw:n8 X (sf .Mult) (rI P4 λi j=>.int (i*j)):=XE λ_ _ _ _ _ _ _ hc q=>mul_int q hc.ok
theorem P5:n8 X (sf .FloorDiv) (rI Yn λi j=>.int (i/j)):=XE λi j _ _ _ _ _ hc q=>by
 have h1:(0:Int)<j:=hc.1;have h2:j<1073741824:=hc.2;exact floordiv_int (by lia) (by rw[Dg i (by lia)];exact q) (.inl (Dh (by lia)))
theorem Ux:n8 X (sf .Mod) (rI (λ_ j=>0<j) λi j=>.int (i%j)):=XE λi j _ _ _ _ _ hc q=>by
 have h1:(0:Int)<j:=hc;exact mod_int' (by lia) (by rw[Di i (by lia)];exact q)
theorem P6:n8 X (oa .Add) (PD λi j=>.int (i+j)):=P2 λ_ _ _ _ _ _ _ q=>iadd_int q
theorem P7:n8 X (oa .Sub) (PD λi j=>.int (i-j)):=P2 λ_ _ _ _ _ _ _ q=>isub_int q
theorem P8:n8 X (oa .Mult) (rI P4 λi j=>.int (i*j)):=XE λ_ _ _ _ _ _ _ hc q=>imul_int q hc.ok
theorem Md:n8 X (oa .FloorDiv) (rI Yn λi j=>.int (i/j)):=XE λi j _ _ _ _ _ hc q=>by
 have h1:(0:Int)<j:=hc.1;have h2:j<1073741824:=hc.2;exact ifloordiv_int (by lia) (by rw[Dg i (by lia)];exact q) (.inl (Dh (by lia)))
theorem P9:n8 X (oa .Mod) (rI (λ_ j=>0<j) λi j=>.int (i%j)):=XE λi j _ _ _ _ _ hc q=>by
 have h1:(0:Int)<j:=hc;exact imod_int (by lia) (by rw[Di i (by lia)];exact q)
theorem unI {f:Value->PJ Value} {g:Int->Int}
 (ZR:∀(i:Int) (t:Tok) (s:Shared) (Q:Value->Shared->Prop) (E:Value->Shared->Prop),Q (.int (g i) s.toks) {s with toks:=s.toks+1}->bN (bF X.prog X.w) X.A (f (.int i t)) Q E s):
 UnR X f (rU λi=>.int (g i)):=by
 intro pins s σ H x v Q I rx h;obtain⟨i,rfl,q⟩:=h;obtain⟨t,rfl⟩:=rx;exact ZR i t s _ _ ⟨.int (g i),H,I.tok _,⟨_,rfl⟩,q⟩
theorem Uy:UnR X (unaryOp .USub) (rU λi=>.int (-i)):=unI λ_ _ _ _ _ q=>neg_int q
end
abbrev Yo:V->V->Bool
 | .non,.non=>true | .non,.int _=>true | .int _,.non=>true | .non,.bl _=>true | .bl _,.non=>true | .non,.str _=>true | .str _,.non=>true
 | .int _,.int _=>true | .bl _,.bl _=>true | .str _,.str _=>true | .byt _,.byt _=>true
 | .int _,.str _=>true | .str _,.int _=>true | .bl _,.str _=>true | .str _,.bl _=>true
 | _,_=>false
abbrev rEq:R2:=λx y H Q=>Yo x y=true/\Q (.bl (decide (x=y))) H
abbrev rNe:R2:=λx y H Q=>Yo x y=true/\Q (.bl (!decide (x=y))) H
theorem xa{i j:Int}:decide (V.int i=V.int j)=(i==j):=by
 rw[bH];simp
theorem Bp{i j:Bool}:decide (V.bl i=V.bl j)=(i==j):=by
 rw[bH];simp
theorem IJ{i j:Str}:decide (V.str i=V.str j)=(i==j):=by
 rw[bH];simp
theorem IK{i j:Array UInt8}:decide (V.byt i=V.byt j)=(i.toList==j.toList):=by
 rw[bH];cases i;cases j;simp
section
variable {X:Cx} {a b c:Expr} {ta tb tc:TE} {pos:Pos}
theorem dI{pins:List (ai×fB)}{σ:St}{H:Hp}{s:Shared}{Q:VK}{k k':Bool}(I:Inv X pins σ H s)(q:Q (.bl k) H)(e:k=k'):EP X pins σ Q (.bool k') s:=by
 subst e;exact⟨.bl k,H,I,rfl,q⟩
theorem Tf:n8 X (dY .Eq) rEq:=by
 intro pins s σ H x y v u Q I rx ry h;obtain⟨hs,q⟩:=h;cases x with
 | non=>
  cases rx;cases y with
  | non=>cases ry;exact a0r (dI I q (by simp))
  | bl j=>cases ry;exact a0s (dI I q (by simp))
  | int j=>obtain⟨t',rfl⟩:=ry;exact a0t (dI I q (by simp))
  | str j=>obtain⟨t',rfl⟩:=ry;exact a0u (dI I q (by simp))
  | _=>exact absurd (show false=true from hs) bj
 | bl i=>
  cases rx;cases y with
  | non=>cases ry;exact a0v (dI I q (by simp))
  | bl j=>cases ry;exact eq_bool (dI I q Bp)
  | str j=>obtain⟨t',rfl⟩:=ry;exact ZS (dI I q (by simp))
  | _=>exact absurd (show false=true from hs) bj
 | int i=>
  obtain⟨t,rfl⟩:=rx;cases y with
  | non=>cases ry;exact a0w (dI I q (by simp))
  | int j=>obtain⟨t',rfl⟩:=ry;exact eq_int (dI I q xa)
  | str j=>obtain⟨t',rfl⟩:=ry;exact ZT (dI I q (by simp))
  | _=>exact absurd (show false=true from hs) bj
 | str i=>
  obtain⟨t,rfl⟩:=rx;cases y with
  | non=>cases ry;exact a0x (dI I q (by simp))
  | bl j=>cases ry;exact ZU (dI I q (by simp))
  | int j=>obtain⟨t',rfl⟩:=ry;exact ZV (dI I q (by simp))
  | str j=>obtain⟨t',rfl⟩:=ry;exact eq_str (dI I q IJ)
  | _=>exact absurd (show false=true from hs) bj
 | byt i=>
  obtain⟨t,rfl⟩:=rx;cases y with
  | byt j=>obtain⟨t',rfl⟩:=ry;exact PySem.W.eq_bytes (dI I q IK)
  | _=>exact absurd (show false=true from hs) bj
 | _=>cases y<;>exact absurd (show false=true from hs) bj
theorem Tg:n8 X (dY .NotEq) rNe:=by
 intro pins s σ H x y v u Q I rx ry h;obtain⟨hs,q⟩:=h;cases x with
 | non=>
  cases rx;cases y with
  | non=>cases ry;exact a0y (dI I q (by simp))
  | bl j=>cases ry;exact a0z (dI I q (by simp))
  | int j=>obtain⟨t',rfl⟩:=ry;exact a0A (dI I q (by simp))
  | str j=>obtain⟨t',rfl⟩:=ry;exact a0B (dI I q (by simp))
  | _=>exact absurd (show false=true from hs) bj
 | bl i=>
  cases rx;cases y with
  | non=>cases ry;exact a0C (dI I q (by simp))
  | bl j=>cases ry;exact ne_bool (dI I q (congrArg not Bp))
  | str j=>obtain⟨t',rfl⟩:=ry;exact ZW (dI I q (by simp))
  | _=>exact absurd (show false=true from hs) bj
 | int i=>
  obtain⟨t,rfl⟩:=rx;cases y with
  | non=>cases ry;exact a0D (dI I q (by simp))
  | int j=>obtain⟨t',rfl⟩:=ry;exact ne_int (dI I q (congrArg not xa))
  | str j=>obtain⟨t',rfl⟩:=ry;exact ZX (dI I q (by simp))
  | _=>exact absurd (show false=true from hs) bj
 | str i=>
  obtain⟨t,rfl⟩:=rx;cases y with
  | non=>cases ry;exact a0E (dI I q (by simp))
  | bl j=>cases ry;exact ZY (dI I q (by simp))
  | int j=>obtain⟨t',rfl⟩:=ry;exact ZZ (dI I q (by simp))
  | str j=>obtain⟨t',rfl⟩:=ry;exact ne_str (dI I q (congrArg not IJ))
  | _=>exact absurd (show false=true from hs) bj
 | byt i=>
  obtain⟨t,rfl⟩:=rx;cases y with
  | byt j=>obtain⟨t',rfl⟩:=ry;exact PySem.W.ne_bytes (dI I q (congrArg not IK))
  | _=>exact absurd (show false=true from hs) bj
 | _=>cases y<;>exact absurd (show false=true from hs) bj
theorem Yp:n8 X (dY .Lt) (PD λi j=>.bl (decide (i<j))):=P3 λ_ _ _ _ _ _ _ q=>lt_int q
theorem Yq:n8 X (dY .LtE) (PD λi j=>.bl (decide (i<=j))):=P3 λ_ _ _ _ _ _ _ q=>le_int q
theorem Yr:n8 X (dY .Gt) (PD λi j=>.bl (decide (j<i))):=P3 λ_ _ _ _ _ _ _ q=>gt_int q
theorem Ys:n8 X (dY .GtE) (PD λi j=>.bl (decide (j<=i))):=P3 λ_ _ _ _ _ _ _ q=>ge_int q
theorem n8.or{f:Value->Value->PJ Value}{r r':R2}(h:n8 X f r)(h':n8 X f r'):n8 X f (λx y H Q=>r x y H Q\/r' x y H Q):=by
 intro pins s σ H x y v u Q I rx ry q;rcases q with q | q
 . exact h pins s σ H x y v u Q I rx ry q
 . exact h' pins s σ H x y v u Q I rx ry q
theorem Qa{op:Ip}{r:R2}(ho:n8 X (dY op) r)(ha:PE X a ta)(hb:PE X b tb)(hm:jQ op b=false):PE X (.Compare a [op] [b] pos) (Yl r ta tb):=by
 fail"i";exact a2F (Ut ha hb I h λv u s2 x y H2 I2 rx ry q=>ho pins s2 σ H2 x y v u Q I2 rx ry q) hm
abbrev Th(t:TE):TT:=λσ H Q=>t σ H λx H'=>∃k,x=.bl k/\Q k H'
theorem Qb{op:Ip}{r:R2}(ho:n8 X (dY op) r)(ha:PE X a ta)(hb:PE X b tb)(hm:jQ op b=false):PT X (.Compare a [op] [b] pos) (Th (Yl r ta tb)):=by
 fail"i";refine PM (fQ (ha pins s σ H _ I h) λv s1 ⟨x,H1,I1,r1,q1⟩=>fQ (hb pins s1 σ H1 _ I1 q1) λu s2 ⟨y,H2,I2,r2,q2⟩=>
  fQ (ho pins s2 σ H2 x y v u _ I2 r1 r2 q2) λc s3 ⟨z,H3,I3,r3,k,e,q3⟩=>?_) hm
 subst e;cases r3;exact eE ⟨H3,I3,q3⟩
abbrev F8(r r':R2)(ta tb tc:TE):TE:=λσ H Q=>ta σ H λx H1=>tb σ H1 λy H2=>r x y H2 λz H3=>∃k,z=.bl k/\
 (if k=true then tc σ H3 λw' H4=>r' y w' H4 Q else Q (.bl false) H3)
theorem Me {op op':Ip} {r r':R2} (ho:n8 X (dY op) r) (ho':n8 X (dY op') r') (ha:PE X a ta) (hb:PE X b tb) (hc:PE X c tc)
 (hm:LP [op,op'] [b,c]=false:=by with_unfolding_all rfl):PE X (.Compare a [op,op'] [b,c] pos) (F8 r r' ta tb tc):=by
 fail"i";refine Compare_chain (fQ (ha pins s σ H _ I h) λv s1 ⟨x,H1,I1,r1,q1⟩=>chain_link (fQ (hb pins s1 σ H1 _ I1 q1) λu s2 ⟨y,H2,I2,r2,q2⟩=>
  fQ (ho pins s2 σ H2 x y v u _ I2 r1 r2 q2) λd s3 ⟨z,H3,I3,r3,k,e,q3⟩=>?_)) hm
 subst e;cases r3;refine eE ?_;cases k with
 | false=>exact ite_ff ⟨.bl false,H3,I3,rfl,q3⟩
 | true=>exact ite_tt (chain_last (fQ (hc pins s3 σ H3 _ I3 q3) λw' s4 ⟨z',H4,I4,r4,q4⟩=>ho' pins s4 σ H4 y z' u w' Q I4 r2 r4 q4))
theorem Mf {op op':Ip} {r r':R2} (ho:n8 X (dY op) r) (ho':n8 X (dY op') r') (ha:PE X a ta) (hb:PE X b tb) (hc:PE X c tc)
 (hm:LP [op,op'] [b,c]=false:=by with_unfolding_all rfl):PT X (.Compare a [op,op'] [b,c] pos) (Th (F8 r r' ta tb tc)):=by
 fail"i";refine isTrue_chain (fQ (ha pins s σ H _ I h) λv s1 ⟨x,H1,I1,r1,q1⟩=>test_link (fQ (hb pins s1 σ H1 _ I1 q1) λu s2 ⟨y,H2,I2,r2,q2⟩=>
  fQ (ho pins s2 σ H2 x y v u _ I2 r1 r2 q2) λd s3 ⟨z,H3,I3,r3,k,e,q3⟩=>?_)) hm
 subst e;cases r3;refine eE ?_;cases k with
 | false=>
  obtain⟨k',e',q'⟩:=q3;cases e';exact ite_ff ⟨H3,I3,q'⟩
 | true=>
  refine ite_tt (test_last (fQ (hc pins s3 σ H3 _ I3 q3) λw' s4 ⟨z',H4,I4,r4,q4⟩=>fQ (ho' pins s4 σ H4 y z' u w' _ I4 r2 r4 q4) λd' s5 hh=>?_));obtain⟨z2,H5,I5,r5,k2,e2,q5⟩:=hh;subst e2;cases r5;exact eE ⟨H5,I5,q5⟩
theorem xN:(bY:Nat)<2^63:=by rw[SQ];decide
theorem vals1{x:V}{us:List Value}(r:cv [x] us):∃u,us=[u]/\RelV x u:=by
 cases r with
 | cons r1 r2=>cases r2;exact⟨_,rfl,r1⟩
theorem vals2{x y:V}{us:List Value}(r:cv [x,y] us):∃u w',us=[u,w']/\RelV x u/\RelV y w':=by
 cases r with
 | cons r1 r2=>
  cases r2 with
  | cons r3 r4=>cases r4;exact⟨_,_,rfl,r1,r3⟩
theorem Mg:nk X (.builtin "abs") (λxs H Q=>∃i,xs=[.int i]/\Q (.int (if i<0 then -i else i)) H):=by
 intro pins s σ H xs us Q I r h;obtain⟨i,rfl,q⟩:=h;obtain⟨u,rfl,t,rfl⟩:=vals1 r;exact call_abs_int λu tk=>⟨.int (if i<0 then -i else i),H,I.tok _,⟨_,rfl⟩,q⟩
theorem J9(hc:X.calm=true):nk X (.builtin "max") (λxs H Q=>∃i j,xs=[.int i,.int j]/\Q (.int (if j>i then j else i)) H):=by
 intro pins s σ H xs us Q I r h;obtain⟨i,j,rfl,q⟩:=h;obtain⟨u,w',rfl,⟨t,rfl⟩,⟨t',rfl⟩⟩:=vals2 r;refine max_two_ints (I.ok.hd hc) λh' tk k=>⟨_,H,I.kept k,?_,q⟩;by_cases hj:j>i
 . rw[if_pos hj,if_pos hj];exact⟨_,rfl⟩
 . rw[if_neg hj,if_neg hj];exact⟨_,rfl⟩
theorem Ka(hc:X.calm=true):nk X (.builtin "min") (λxs H Q=>∃i j,xs=[.int i,.int j]/\Q (.int (if j<i then j else i)) H):=by
 intro pins s σ H xs us Q I r h;obtain⟨i,j,rfl,q⟩:=h;obtain⟨u,w',rfl,⟨t,rfl⟩,⟨t',rfl⟩⟩:=vals2 r;refine min_two_ints (I.ok.hd hc) λh' tk k=>⟨_,H,I.kept k,?_,q⟩;by_cases hj:j<i
 . rw[if_pos hj,if_pos hj];exact⟨_,rfl⟩
 . rw[if_neg hj,if_neg hj];exact⟨_,rfl⟩
end
structure F9 (h:Heap) (x dx C:ai) (mA:Str->Option Value):Prop where
 obj:h.get? x=some (fM C dx)
 ns:h.Ns1 dx mA
 ne:dx≠x
theorem Kb{h:Heap}{dx:ai}{mA:Str->Option Value}(n:h.Ns1 dx mA):∃od,h.get? dx=some od/\∀name,qM name od=some (mA name):=by
 obtain⟨o,es,ep,ho,hd,hk,_,hm⟩:=n;refine⟨o,ho,λname=>?_⟩;have e:=hm name;unfold nsFind findBy at e;rw[<-Lx]at e;unfold qM;rw[hd];dsimp only
 split
 . rename_i y q;rw[q]at e;exact congrArg some e
 . rename_i q;rw[q]at e;have a:es.toList.any (·.refKey)=false:=by
    rw[List.any_eq_false];intro y hy;obtain⟨z,t,hkey⟩:=hk y (Iq.mp hy);simp [Dj.refKey,hkey]
   have a':¬es.toList.any (·.refKey)=true:=by rw[a];exact bj
   rw[if_neg a'];exact congrArg some e
theorem F9.look{h:Heap}{x dx C:ai}{mA:Str->Option Value}(I:F9 h x dx C mA):∃od,PySem.W.InstAt h x (fM C dx) C (some od)/\∀name,qM name od=some (mA name):=
 let⟨od,ho,hl⟩:=Kb I.ns
 ⟨od,⟨I.obj,rfl,rfl,ho⟩,hl⟩
section
variable {prog:Program} {w:World} {A:cC} {E:Value->Shared->Prop} {s:Shared} {K:al} {x dx C f:ai} {mA:Str->Option Value} {name:Str} {v:Value}
theorem Qc {expr:Bool} {Q:Value->Shared->Prop} (X:K.In s.heap) (I:F9 s.heap x dx C mA) (hg:nY K C name=true) (hh:uW K C=true)
 (ha:fv K (.ref C) name=some none) (hv:mA name=some v) (hv':Ly v=true) (h:Q v {s with toks:=s.toks+1}):
 bN (bF prog w) A (getAttr (.ref x) name expr) Q E s:=by
 obtain⟨od,J,hl⟩:=I.look;exact PySem.W.get_value X J (sg hg).1 (PySem.W.findObj_own hh ha rfl (by rw[hl,hv])) hv' h
theorem Mh {pl:PJ Bool} {Q:Value×List Value->Shared->Prop} (X:K.In s.heap) (I:F9 s.heap x dx C mA) (hg:nY K C name=true)
 (hf:fv K (.ref C) name=some (some (.ref f))) (ht:Dk K (.ref f)=true) (hv:mA name=none) (h:Q (.ref f,[.ref x]) s):
 bN (bF prog w) A (wB (.ref x) name pl) Q E s:=by
 obtain⟨od,J,hl⟩:=I.look;exact PySem.W.method_fn X J (sg hg).1 (sg hg).2 hf (beq_iff_eq.mp ht) (by show(qM name od).map (·.isSome)=some false;rw[hl,hv];rfl) h
theorem Qd {ns:List Str} {Q:Unit->Shared->Prop} (X:K.In s.heap) (I:F9 s.heap x dx C mA)
 (hs:fv K (.ref C) "__setattr__"=some (some (.builtin "object.__setattr__"))) (hp:J0 K C=true) (ht:wU K C name=some none) (hh:uW K C=true)
 (hw:vQ mA ns) (hsz:ns.length<=bY)
 (h:∀h',F9 h' x dx C (λy=>if y=name then some v else mA y)->Heap.SameBut dx s.heap h'->Q () {s with heap:=h',toks:=s.toks+2}):
 bN (bF prog w) A (setAttr (.ref x) name v) Q E s:=by
 obtain⟨od,J,hl⟩:=I.look;refine PySem.W.set_plain X J hs (PySem.W.osa_open (s:={s with toks:=s.toks+1}) (r:=none) X J hp ht λb=>?_);obtain⟨cd,hc,hd'⟩:=PySem.W.any_some hh;have hx:s.heap.get? x=some ⟨.ref C,some dx,.plain,#[]⟩:=I.obj;refine bO (df (bO (bO (wpAny_loadPart hx (bO (PySem.W.Looks.here (s:={s with toks:=s.toks+1}) (PySem.W.looks_clsIn X hc) ?_))))));rw[hd'];refine df (a:=some dx) (bO (df (bO ?_)));refine wpAny_nsSet1 (s:={s with toks:=s.toks+1}) I.ns λh' hn2 hs2=>?_;obtain⟨oD,esD,epD,hoD,hdD,hcD⟩:=hn2.count (vQ.cons name v hw);refine bO (wpAny_lookBehind hoD (by rw[hdD];exact pastItsLine_dict (bb hcD (by rw[aV];lia))) ?_);exact df (h _ ⟨(hs2.2 _ (jN I.ne)).trans I.obj,hn2,I.ne⟩ hs2)
theorem Mi {R:Result->Shared->Prop} {vs:List Value} {kw:List (Str×Value)} (X:K.In s.heap) (hm:LQ K C=true)
 (hi:fv K (.ref C) "__init__"=some (some (.ref f))) (hf:PySem.W.typeIn K (.ref f)=some (.type "function"))
 (h:Ad (bF prog w) (A.under (.builtin "type.__call__" ⟨.ref C::vs,kw⟩)) (.call (.ref f) ⟨.ref (s.heap.objs.size+1)::vs,kw⟩) (PySem.W.InitBack (s.heap.objs.size+1) R)
  {s with heap:=(s.heap.push dW).push (fM C s.heap.objs.size)}):
 Ad (bF prog w) A (.call (.ref C) ⟨vs,kw⟩) R s:=by
 obtain⟨hh,g,d,t,os⟩:=s;exact PySem.W.make_core (PySem.W.makes_of X hm) (PySem.W.looks_findIn X hi) (λself=>PySem.W.bind_fn X self hf) (.inl rfl) h
end
abbrev jp(f:Str)(v:V):List (Str×V)->List (Str×V)
 | []=>[(f,v)]
 | (g,x)::r=>if g=f then(g,v)::r else(g,x)::jp f v r
theorem cM(f g:Str)(v:V):∀fs:List (Str×V),(jp f v fs).lookup g=if g=f then some v else fs.lookup g
 | []=>by
  show jO g [(f,v)]=_;by_cases h:g=f
  . have hb:(g==f)=true:=beq_iff_eq.mpr h;simp only[jO,hb,if_pos h]
  . have hb:(g==f)=false:=beq_eq_false_iff_ne.mpr h;simp only[jO,hb,if_neg h]
 | (k,x)::r=>by
  have ih:=cM f g v r;rw[show jp f v ((k,x)::r)=(if k=f then(k,v)::r else(k,x)::jp f v r)from rfl];by_cases hk:k=f
  . rw[if_pos hk];by_cases h:g=k
    . have hb:(g==k)=true:=beq_iff_eq.mpr h;simp only[jO,hb,if_pos (h.trans hk)]
    . have hb:(g==k)=false:=beq_eq_false_iff_ne.mpr h;simp only[jO,hb,if_neg (λe:g=f=>h (e.trans hk.symm))]
  . rw[if_neg hk];by_cases h:g=k
    . have hb:(g==k)=true:=beq_iff_eq.mpr h;simp only[jO,hb,if_neg (λe:g=f=>hk (h.symm.trans e))]
    . have hb:(g==k)=false:=beq_eq_false_iff_ne.mpr h;simp only[jO,hb];exact ih
theorem vc(f:Str)(v:V):∀fs:List (Str×V),f∈(jp f v fs).map (·.1)/\∀g,g∈fs.map (·.1)->g∈(jp f v fs).map (·.1)
 | []=>⟨by simp [jp],λg h=>by simp at h⟩
 | (k,x)::r=>by
  obtain⟨i1,i2⟩:=vc f v r;rw[show jp f v ((k,x)::r)=(if k=f then(k,v)::r else(k,x)::jp f v r)from rfl];by_cases hk:k=f
  . rw[if_pos hk];subst hk;exact⟨by simp,λg h=>by simpa using h⟩
  . rw[if_neg hk];refine⟨?_,λg h=>?_⟩
    . rw[ax];exact ao _ i1
    . rw[ax]at h⊢;rcases aE.mp h with e | e
      . exact aE.mpr (.inl e)
      . exact ao _ (i2 g e)
theorem vW(f:Str)(v:V):∀fs:List (Str×V),(jp f v fs).length<=fs.length+1
 | []=>by simp [jp]
 | (k,x)::r=>by
  have ih:=vW f v r;rw[show jp f v ((k,x)::r)=(if k=f then(k,v)::r else(k,x)::jp f v r)from rfl];by_cases hk:k=f
  . rw[if_pos hk,aV,aV];lia
  . rw[if_neg hk,aV,aV];lia
theorem zW.some_of{v:V}{o:Option Value}(r:zW (some v) o):∃u,o=some u/\RelV v u:=by
 cases o with
 | none=>exact(show False from r).elim
 | some u=>exact⟨u,rfl,r⟩
theorem zW.none_of{o:Option Value}(r:zW none o):o=none:=by
 cases o with
 | none=>rfl
 | some u=>exact(show False from r).elim
theorem Kc{v:V}{u:Value}(r:RelV v u):Ly u=true:=by
 cases v with
 | non=>cases(show u=Value.none from r);rfl
 | bl b=>cases(show u=Value.bool b from r);rfl
 | int i=>obtain⟨t,e⟩:=(show∃t,u=Value.int i t from r);cases e;rfl
 | str x=>obtain⟨t,e⟩:=(show∃t,u=Value.str x t from r);cases e;rfl
 | byt b=>obtain⟨t,e⟩:=(show∃t,u=Value.bytes b t from r);cases e;rfl
 | flt b=>obtain⟨t,e⟩:=(show∃t,u=Value.float b t from r);cases e;rfl
 | ref a=>cases(show u=Value.ref a from r);rfl
 | ty n=>cases(show u=Value.type n from r);rfl
section
variable {P:Program} {w:World} {H H':Hp} {h h':Heap} {a C dx:ai} {fs fs':List (Str×V)}
theorem Bq(hok:tQ P w H h)(e:H a=some (.ins C dx fs)):∃mA,F9 h a dx C mA/\(∀f,zW (fs.lookup f) (mA f))/\vQ mA (fs.map (·.1))/\fs.length<=1000/\H dx=some (.own a):=by
 obtain⟨d,z,ne,ob,mA,n,r,q⟩:=(show iG P w H h a (.ins C dx fs)from hok a _ e);exact⟨mA,⟨ob,n,ne⟩,r,q,z,d⟩
end
structure zN (K:al) (C:ai):Prop where
 pg:nY K C Str.empty=true
 hd:uW K C=true
 po:J0 K C=true
 sa:fv K (.ref C) "__setattr__"=some (some (.builtin "object.__setattr__"))
theorem zN.get{K:al}{C:ai}(c:zN K C)(f:Str):nY K C f=true:=c.pg
abbrev gv(K:al)(C:ai)(f:Str):Prop:=fv K (.ref C) f=some none
theorem gv.taker{K:al}{C:ai}{f:Str}(n:gv K C f):wU K C f=some none:=by
 unfold wU;rw[show fv K (.ref C) f=some none from n];rfl
structure vd (K:al) (C:ai) (m:Str) (f:ai):Prop where
 at_:fv K (.ref C) m=some (some (.ref f))
 fn:Dk K (.ref f)=true
 kp:cx K (.ref f)=true
section
variable {X:Cx} {pins:List (ai×fB)} {σ:St} {H:Hp} {s:Shared} {a C dx:ai} {fs:List (Str×V)} {f:Str} {v:V} {A:cC} {E:Value->Shared->Prop}
theorem Ga {b:Bool} {Q:Value->Shared->Prop} (I:Inv X pins σ H s) (e:H a=some (.ins C dx fs)) (c:zN X.K C) (n:gv X.K C f) (l:fs.lookup f=some v)
 (h:∀u s',Inv X pins σ H s'->RelV v u->Q u s'):bN (bF X.prog X.w) A (getAttr (.ref a) f b) Q E s:=by
 obtain⟨mA,O,r,_,_,_⟩:=Bq I.hok e;obtain⟨u,hu,ru⟩:=zW.some_of (v:=v) (o:=mA f) (by rw[<-l];exact r f);exact Qc I.kIn O (c.get f) c.hd n hu (Kc ru) (h u _ (I.tok _) ru)
theorem xO {m:Str} {g:ai} {pl:PJ Bool} {Q:Value×List Value->Shared->Prop} (I:Inv X pins σ H s) (e:H a=some (.ins C dx fs)) (c:zN X.K C) (k:vd X.K C m g) (l:fs.lookup m=none)
 (h:Q (.ref g,[.ref a]) s):bN (bF X.prog X.w) A (wB (.ref a) m pl) Q E s:=by
 obtain⟨mA,O,r,_,_,_⟩:=Bq I.hok e;have hn:mA m=none:=zW.none_of (by rw[<-l];exact r m);exact Mh I.kIn O (c.get m) k.at_ k.fn hn h
theorem Gb {y:V} {u:Value} {Q:Unit->Shared->Prop} (I:Inv X pins σ H s) (e:H a=some (.ins C dx fs)) (c:zN X.K C) (n:gv X.K C f) (hl:fs.length<1000) (ry:RelV y u)
 (h:∀s',Inv X pins σ (upd H a (.ins C dx (jp f y fs))) s'->Q () s'):bN (bF X.prog X.w) A (setAttr (.ref a) f u) Q E s:=by
 obtain⟨mA,O,r,wi,_,ho⟩:=Bq I.hok e;have hz:(fs.map (·.1)).length<=bY:=by rw[ae,SQ];lia
 refine Qd I.kIn O c.sa c.po n.taker c.hd wi hz λh' O' sb=>h _ ?_;have hd:∃o,h'.get? dx=some o:=let⟨o,_,_,e',_⟩:=O'.ns;⟨o,e'⟩;refine I.write (x:=a) (e:=dx) (by rw[e];exact a0F) (.inr ho) (λb q hb z=>(sb.2 b hb).trans z) hd ?_;refine⟨by rw[bU O.ne];exact ho,?_,O.ne,O'.obj,_,O'.ns,λg=>?_,λg hg=>?_⟩
 . have:=vW f y fs;lia
 . show zW ((jp f y fs).lookup g) (if g=f then some u else mA g);rw[cM];by_cases q:g=f
   . rw[if_pos q,if_pos q];exact ry
   . rw[if_neg q,if_neg q];exact r g
 . by_cases q:g=f
   . rw[q];exact(vc f y fs).1
   . refine(vc f y fs).2 g (wi g λz=>hg ?_);show(if g=f then some u else mA g)=none;rw[if_neg q];exact z
theorem Inv.made(I:Inv X pins σ H s):Inv X pins σ (upd (upd H s.heap.objs.size (.own (s.heap.objs.size+1))) (s.heap.objs.size+1) (.ins C s.heap.objs.size []))
 {s with heap:=(s.heap.push dW).push (fM C s.heap.objs.size)}:=by
 have e1:(s.heap.push dW).get? s.heap.objs.size=some dW:=Heap.get?_push_size s.heap rfl;have e2:((s.heap.push dW).push (fM C s.heap.objs.size)).get? (s.heap.objs.size+1)=some (fM C s.heap.objs.size):=by
  have:=Heap.get?_push_size (s.heap.push dW) (o:=fM C s.heap.objs.size) rfl;rwa [Heap.size_push]at this
 have e3:(s.heap.push dW).Ns s.heap.objs.size (λ_=>none):=⟨dW,#[],_,e1,rfl,(λe he=>absurd he (by simp)),λ_=>rfl⟩;have I1:=I.laid (a:=s.heap.objs.size) (o:=.own (s.heap.objs.size+1)) (h':=s.heap.push dW) (t':=s.toks) (λb u q=>Heap.get?_push_of_some _ q) (aO _) ⟨_,e1⟩;refine I1.laid (a:=s.heap.objs.size+1) (o:=.ins C s.heap.objs.size []) (t':=s.toks) (λb u q=>Heap.get?_push_of_some _ q) (mz (Heap.size_push _ _)) ?_;have ne:s.heap.objs.size≠s.heap.objs.size+1:=cQ (k6 _);refine⟨by rw[bU ne,bB],dj _,ne,e2,λ_=>none,(Heap.Ns1.of_empty e3).at λo q=>Heap.get?_push_of_some _ q,λ_=>a0F,λy hy=>absurd rfl hy⟩
theorem Qe {prog:Program} {w:World} {env:tD} {e:Expr} {f:Str} {pos:Pos} {s:Shared} {Q:Value->Shared->Prop} (hb:cr e f env (b4 e env)=b4 e env)
 (h:bN (bF prog w) A (b4 e env) (λo s₁=>bN (bF prog w) A (getAttr o f true) Q E s₁) E s):bN (bF prog w) A (b4 (.Attribute e f pos) env) Q E s:=
 Attribute_any_ h (by rw[arm_eval_Attribute,hb])
end
abbrev Qg(K:al)(ta:TE)(f:Str):TE:=λσ H Q=>ta σ H λx H1=>∃a C dx fs v,x=.ref a/\H1 a=some (.ins C dx fs)/\zN K C/\gv K C f/\fs.lookup f=some v/\Q v H1
abbrev a1k(K:al)(ta tv:TE)(f:Str):TS:=λD σ H=>tv σ H λy H1=>ta σ H1 λx H2=>∃a C dx fs,x=.ref a/\H2 a=some (.ins C dx fs)/\zN K C/\gv K C f/\fs.length<1000/\
 D.nx σ (upd H2 a (.ins C dx (jp f y fs)))
section
variable {X:Cx} {o e value:Expr} {f:Str} {pos pos' tpos:Pos} {ta tv:TE}
theorem pY(he:PE X e ta)(hb:cr e f X.env (b4 e X.env)=b4 e X.env):PE X (.Attribute e f pos) (Qg X.K ta f):=by
 fail"i";refine Qe hb (fQ (he pins s σ H _ I h) λu s1 hh=>?_);obtain⟨x,H1,I1,rx,a,C,dx,fs,v,ex,ea,c,n,l,q⟩:=hh;subst ex;obtain rfl:u=Value.ref a:=rx;exact Ga I1 ea c n l λu' s2 I2 ru=>⟨v,H1,I2,ru,q⟩
theorem Mj(ha:PE X o ta)(hv:PE X value tv)(hs:eT value (some (.Attribute o f pos')) pos.line X.env=pure false):PS X (.Assign [.Attribute o f pos'] value pos) (a1k X.K ta tv f):=by
 intro pins s σ H D I h;refine plainObj_wpAny_Assign_Attribute (fQ (hv pins s σ H _ I h) λu s1 ⟨y,H1,I1,ry,q⟩=>fQ (ha pins s1 σ H1 _ I1 q) λov s2 hh=>?_) hs;obtain⟨x,H2,I2,rx,a,C,dx,fs,ex,ea,c,n,l,q2⟩:=hh;subst ex;obtain rfl:ov=Value.ref a:=rx;exact Gb I2 ea c n l ry λs3 I3=>⟨σ,_,I3,q2⟩
end
section
variable {X:Cx} {pins:List (ai×fB)} {σ:St} {H:Hp} {s:Shared} {A:cC} {E:Value->Shared->Prop} {Q:Value->Shared->Prop} {c:Value} {b:Bool}
end
structure je (k:Nat) (A:cC):Prop where
 hd:A.handled=none
 dp:A.depth+3*k+5<a2I
 un:A.units+16*k+200<Dv
theorem je.mono{j k:Nat}{A:cC}(r:je k A)(h:j<=k):je j A:=⟨r.hd,by have:=r.dp;lia,by have:=r.un;lia⟩
theorem je.deeper{k:Nat}{A:cC}(r:je (k+1) A)(env:tD):je k (A.deeper env):=
 ⟨r.hd,by have:=r.dp;show A.depth+1+3*k+5<_;lia,by have:=r.un;show A.units+3+16*k+200<_;lia⟩
theorem Gc{A:cC}{C:ai}{us:List Value}{kw:List (Str×Value)}:(A.under (.builtin "type.__call__" ⟨.ref C::us,kw⟩)).depth=A.depth+1:=by
 first | rfl | simp [cC.under,Code.weight,Code.isCreation,Code.isGuard,Code.isCaller,Code.frames,Code.isFrame,guardIds]
theorem Gd{A:cC}{C:ai}{us:List Value}{kw:List (Str×Value)}:(A.under (.builtin "type.__call__" ⟨.ref C::us,kw⟩)).units=A.units+1:=by
 first | rfl | simp [cC.under,Code.cUnits,Code.frames,Code.isFrame]
theorem je.make{k:Nat}{A:cC}(r:je (k+1) A)(C:ai)(us:List Value)(kw:List (Str×Value)):je k (A.under (.builtin "type.__call__" ⟨.ref C::us,kw⟩)):=
 ⟨r.hd,by have:=r.dp;rw[Gc];lia,by have:=r.un;rw[Gd];lia⟩
theorem je.depth{k:Nat}{A:cC}(r:je k A):A.depth<a2I:=by have:=r.dp;lia
theorem je.units{k:Nat}{A:cC}(r:je k A):A.units+64<Dv:=by have:=r.un;lia
abbrev Kd:TA:=λ_ H Q=>Q [] H
abbrev IL(ta:TE)(tr:TA):TA:=λσ H Q=>ta σ H λx H1=>tr σ H1 λxs H2=>Q (x::xs) H2
section
variable {X:Cx} {e:Expr} {es:List Expr} {te:TE} {t:TA} {pos:Pos}
theorem gd:PA X [] Kd:=λ_ _ _ _ H Q I h=>Calls.spliced_nil ⟨[],H,I,.nil,h⟩
theorem dG(ha:PE X e te)(hr:PA X es t)(hs:aW (e::es) X.env=(false,b4 e X.env)::aW es X.env:=by rfl):PA X (e::es) (IL te t):=by
 intro pos pins s σ H Q I h;rw[hs];show bN _ _ (spliced ((false,b4 e X.env)::gP pos (aW es X.env))) _ _ s;refine Calls.spliced_cons (fQ (ha pins s σ H _ I h) λu s1 hh=>?_);obtain⟨x,H1,I1,r1,q1⟩:=hh;exact fQ (hr pos pins s1 σ H1 _ I1 q1) λus s2 ⟨xs,H2,I2,r2,q2⟩=>⟨x::xs,H2,I2,.cons r1 r2,q2⟩
abbrev a1l(t:TA):TE:=λσ H Q=>t σ H λxs H1=>xs.length<=bY/\∀p,H1 p=none->Q (.ref p) (upd H1 p (.tup xs))
abbrev a1m(t:TA):TE:=λσ H Q=>t σ H λxs H1=>xs.length<=bY/\∀p,H1 p=none->Q (.ref p) (upd H1 p (.lst xs))
theorem Uz{x1}(h:PA X es t):PE X (.Tuple es x1 pos) (a1l t):=by
 intro pins s σ H Q I hq;refine wpAny_Tuple_spliced (fQ (h pos pins s σ H _ I hq) λus s1 ⟨xs,H1,I1,r,z,q⟩=>⟨by rw[<-r.length];exact z,?_⟩);have hf:H1 s1.heap.objs.size=none:=I1.hok.fresh (aO _);refine⟨.ref s1.heap.objs.size,upd H1 s1.heap.objs.size (.tup xs),I1.laid (t':=s1.toks) (λb u e=>Heap.get?_push_of_some _ e) (aO _) ?_,rfl,q _ hf⟩;exact⟨z,us,r,⟨_,Heap.get?_push_size _ rfl,rfl,_,rfl⟩⟩
theorem Ml(h:PA X es t):PE X (.List es pos) (a1m t):=by
 intro pins s σ H Q I hq;refine wpAny_List_spliced (fQ (h pos pins s σ H _ I hq) λus s1 ⟨xs,H1,I1,r,z,q⟩=>⟨by rw[<-r.length];exact z,?_⟩);have hf:H1 s1.heap.objs.size=none:=I1.hok.fresh (aO _);refine⟨.ref s1.heap.objs.size,upd H1 s1.heap.objs.size (.lst xs),I1.laid (t':=s1.toks) (λb u e=>Heap.get?_push_of_some _ e) (aO _) ?_,rfl,q _ hf⟩;exact⟨z,us,0,r,Heap.get?_push_size _ rfl⟩
end
@[reducible]def Sp:=List V->Hp->VK->XK->Prop
@[reducible]def Ke:=List tD->Hp->Shared->XK->Value->Shared->Prop
structure Ge (P:Program) (w:World) (K:al) (mg:Str->Option Value) (base:Heap) (A:cC) (outer:List tD) (s:Shared) (H:Hp):Prop where
 frames:A.frames=some outer
 mod:Mod K mg base
 bs:∀b o,base.get? b=some o->s.heap.get? b=some o/\H b=none
 bsz:base.objs.size<=s.heap.objs.size
 funs:s.heap.FunFrames base outer
 frf:∀b∈IG outer,H b=none
 hok:tQ P w H s.heap
 bare:Ac s.gens
abbrev CE(outer:List tD)(P:Program)(w:World)(H:Hp)(s:Shared)(Q:VK)(u:Value)(s':Shared):Prop:=
 ∃v H',s'.os=s.os/\Ac s'.gens/\Un (IG outer) [] H H' s.heap s'.heap/\tQ P w H' s'.heap/\RelV v u/\Q v H'
abbrev CR(CX:Ke)(outer:List tD)(P:Program)(w:World)(H:Hp)(s:Shared)(Q:VK)(E:XK)(r:Result)(s':Shared):Prop:=
 match r with
 | .ok (.ret u)=>CE outer P w H s Q u s'
 | .ok _=>False
 | .error e=>CX outer H s E e s'
structure gC (P:Program) (w:World) (K:al) (mg:Str->Option Value) (base:Heap) (CX:Ke) (k:Nat) (f:ai) (fd:dJ) (ps:List Str) (sp:Sp):Prop where
 len:∀vs H Q E,sp vs H Q E->vs.length=ps.length
 run:∀(A:cC) (outer:List tD) (s:Shared) (H:Hp) (args:Args) (us:List Value) (vs:List V) (Q:VK) (E:XK),je k A->Ge P w K mg base A outer s H->FV s fd args (ps.zip us)->cv vs us->sp vs H Q E->
  Ad (bF P w) A (.call (.ref f) args) (CR CX outer P w H s Q E) s
theorem gC.mono{P:Program}{w:World}{K:al}{mg:Str->Option Value}{base:Heap}{CX:Ke}{j k:Nat}{f:ai}{fd:dJ}{ps:List Str}{sp:Sp}(F:gC P w K mg base CX j f fd ps sp)(h:j<=k):
 gC P w K mg base CX k f fd ps sp:=⟨F.len,λA outer s H args us vs Q E hr=>F.run A outer s H args us vs Q E (hr.mono h)⟩
theorem Ge.make{P:Program}{w:World}{K:al}{mg:Str->Option Value}{base:Heap}{A:cC}{outer:List tD}{s:Shared}{H:Hp}(e:Ge P w K mg base A outer s H)(C:ai)(us:List Value)(kw:List (Str×Value)):
 Ge P w K mg base (A.under (.builtin "type.__call__" ⟨.ref C::us,kw⟩)) outer s H:=⟨by first | exact e.frames | (simpa [cC.under,Code.envs,Code.isFrame,pushEnvs]using e.frames),e.mod,e.bs,e.bsz,e.funs,e.frf,e.hok,e.bare⟩
section
variable {X:Cx} {pins:List (ai×fB)} {σ:St} {H:Hp} {s s':Shared}
theorem Inv.env0(I:Inv X pins σ H s):Ge X.prog X.w X.K X.mg X.base X.A X.stack s H:=
 ⟨I.ok.frames,I.ok.mod,I.bs,bb I.ok.bsz I.sz,I.stack,I.stkFree,I.hok,I.bare⟩
theorem Inv.after{Q:VK}{u:Value}(I:Inv X pins σ H s)(h:CE X.stack X.prog X.w H s Q u s'):EP X pins σ Q u s':=by
 obtain⟨v,H',os,bare,un,hok,r,q⟩:=h;obtain⟨hh,g,d,t,os'⟩:=s';obtain rfl:os'=s.os:=os;exact⟨v,H',I.call (h':=hh) (g':=g) (d':=d) (t':=t) (ch:=[]) un hok bare (λb z=>absurd z (by simp)),r,q⟩
end
abbrev vX(sp:Sp)(dvs:List V)(E:XK)(t:TA):TE:=λσ H Q=>t σ H λvs H1=>sp (vs++dvs) H1 Q E
abbrev IM(C:ai)(m:Str)(sp:Sp)(dvs:List V)(E:XK)(ta:TE)(t:TA):TE:=λσ H Q=>ta σ H λx H1=>∃a dx fs,x=.ref a/\H1 a=some (.ins C dx fs)/\fs.lookup m=none/\
 t σ H1 λvs H2=>sp (x::(vs++dvs)) H2 Q E
abbrev Yt(C:ai)(sp:Sp)(dvs:List V)(E:XK)(t:TA):TE:=λσ H Q=>t σ H λvs H1=>∀x dx,H1 x=none->H1 dx=none->dx≠x->
 sp (.ref x::(vs++dvs)) (upd (upd H1 dx (.own x)) x (.ins C dx [])) (λv H2=>v=.non/\Q (.ref x) H2) E
abbrev Binds(K:al)(fd:dJ)(ps:List Str)(ds:List Value):Prop:=
 ∀(s:Shared) (us:List Value),K.In s.heap->(us++ds).length=ps.length->FV s fd ⟨us,[]⟩ (ps.zip (us++ds))
theorem Binds.all{K:al}{fd:dJ}{ps:List Str}(h:∀us:List Value,us.length=ps.length->SS fd ⟨us,[]⟩=pure (ps.zip us)):Binds K fd ps []:=λs us _ hl=>by
 rw[cJ]at hl⊢;exact .of_eq (h us hl)
abbrev sG(CX:Ke)(X:Cx)(E:XK):Prop:=∀(pins:List (ai×fB)) (σ:St) (H:Hp) (s:Shared) (e:Value) (s':Shared),Inv X pins σ H s->CX X.stack H s E e s'->X.xe e s'
section
variable {X:Cx} {CX:Ke} {k:Nat} {f C:ai} {fd:dJ} {ps:List Str} {sp:Sp} {dvs:List V} {ds:List Value} {E:XK} {x m:Str} {p pos apos:Pos} {e o:Expr} {es:List Expr} {ta:TE} {t:TA}
theorem Br {pins:List (ai×fB)} {σ:St} {H:Hp} {s:Shared} {Q:VK} {us:List Value} {vs:List V} (F:gC X.prog X.w X.K X.mg X.base CX k f fd ps sp) (hr:je k X.A) (hb:Binds X.K fd ps ds) (hd:cv dvs ds) (hx:sG CX X E)
 (I:Inv X pins σ H s) (r:cv vs us) (h:sp (vs++dvs) H Q E):bN (bF X.prog X.w) X.A (call (.ref f) us) (EP X pins σ Q) X.xe s:=by
 have r2:cv (vs++dvs) (us++ds):=r.append hd;have hl:(us++ds).length=ps.length:=by rw[<-r2.length];exact F.len _ _ _ _ h
 refine wpAny_call (Ae (F.run X.A X.stack s H ⟨us,[]⟩ (us++ds) (vs++dvs) Q E hr I.env0 (hb s us I.kIn hl) r2 h) λr s' hq=>?_);cases r with
 | error e=>exact hx pins σ H s e s' I hq
 | ok fl=>
  cases fl with
  | ret u=>exact I.after hq
  | next=>exact dE hq
  | brk=>exact dE hq
  | cont=>exact dE hq
theorem IN (F:gC X.prog X.w X.K X.mg X.base CX k f fd ps sp) (hr:je k X.A) (hg:Gl X x) (hm:X.mg x=some (.ref f)) (hk:cx X.K (.ref f)=true) (hb:Binds X.K fd ps ds) (hd:cv dvs ds) (hx:sG CX X E)
 (ha:PA X (e::es) t) (hdb:(x==("__debug__":Str))=false:=by decide) (he:aW (e::es) X.env=(false,b4 e X.env)::aW es X.env:=by rfl) (hpl:(gP pos (aW es X.env)).any (·.1)=false:=by rfl):
 PE X (.Call (.Name x p) (e::es) [] pos) (vX sp dvs E t):=by
 fail"i";refine j8 (tR I hg hm ?_ hdb);refine tF (h₀:=X.base) I.ok.mod.kin hk (fQ (ha pos pins s σ H _ I h) λus s1 ⟨vs,H1,I1,r,q⟩=>⟨I1.kIn,?_⟩) he hpl;exact Br F hr hb hd hx I1 r q
theorem IP {pl:PJ Bool} (he:PE X o ta) (c:zN X.K C) (hm:vd X.K C m f) (F:gC X.prog X.w X.K X.mg X.base CX k f fd ps sp) (hr:je k X.A) (hb:Binds X.K fd ps ds) (hd:cv dvs ds) (hx:sG CX X E) (ha:PA X (e::es) t)
 (hst:aW (e::es) X.env=(false,b4 e X.env)::aW es X.env:=by rfl) (hpl:(gP pos (aW es X.env)).any (·.1)=false:=by rfl)
 (ht:b4 (.Call (.Attribute o m apos) (e::es) [] pos) X.env=(do
  let ov<-b4 o X.env
  mr apos.atName
  let(f,first)<-eF [ov] (wB ov m pl)
  SU pos f first (gP pos (aW (e::es) X.env)) (vS pos (mB [] X.env))):=by rfl):
 PE X (.Call (.Attribute o m apos) (e::es) [] pos) (IM C m sp dvs E ta t):=by
 fail"i";refine Dx (pl:=pl) (fQ (he pins s σ H _ I h) λu s1 hh=>?_) ht;obtain⟨x,H1,I1,rx,a,dx,fs,ex,ea,l,q⟩:=hh;subst ex;obtain rfl:u=Value.ref a:=rx;refine xO I1 ea c hm l ?_;refine tF (first:=[.ref a]) (h₀:=X.base) I.ok.mod.kin hm.kp (fQ (ha pos pins s1 σ H1 _ I1 q) λus s2 ⟨vs,H2,I2,r,q2⟩=>⟨I2.kIn,?_⟩) hst hpl;exact Br (us:=.ref a::us) (vs:=.ref a::vs) F hr hb hd hx I2 (.cons rfl r) q2
theorem Mm {pl:PJ Bool} (he:PE X o ta) (c:zN X.K C) (hm:vd X.K C m f) (F:gC X.prog X.w X.K X.mg X.base CX k f fd ps sp) (hr:je k X.A) (hb:Binds X.K fd ps ds) (hd:cv dvs ds) (hx:sG CX X E)
 (ht:b4 (.Call (.Attribute o m apos) [] [] pos) X.env=(do
  let ov<-b4 o X.env
  mr apos.atName
  let(f,first)<-eF [ov] (wB ov m pl)
  SU pos f first (gP pos (aW [] X.env)) (vS pos (mB [] X.env))):=by rfl):
 PE X (.Call (.Attribute o m apos) [] [] pos) (IM C m sp dvs E ta Kd):=by
 fail"i";refine Dx (pl:=pl) (fQ (he pins s σ H _ I h) λu s1 hh=>?_) ht;obtain⟨x,H1,I1,rx,a,dx,fs,ex,ea,l,q⟩:=hh;subst ex;obtain rfl:u=Value.ref a:=rx;refine xO I1 ea c hm l ?_;exact FW (first:=[.ref a]) I1.kIn hm.kp (Br (us:=[.ref a]) (vs:=[.ref a]) F hr hb hd hx I1 (.cons rfl .nil) q)
structure Mk (K:al) (C f:ai):Prop where
 makes:LQ K C=true
 init:fv K (.ref C) "__init__"=some (some (.ref f))
 fn:Dk K (.ref f)=true
 kp:cx K (.ref C)=true
theorem Mn {pins:List (ai×fB)} {σ:St} {H:Hp} {s:Shared} {Q:VK} {us:List Value} {vs:List V} (M:Mk X.K C f) (F:gC X.prog X.w X.K X.mg X.base CX k f fd ps sp) (hr:je (k+1) X.A) (hb:Binds X.K fd ps ds) (hd:cv dvs ds)
 (hx:sG CX X E) (I:Inv X pins σ H s) (r:cv vs us)
 (h:∀x dx,H x=none->H dx=none->dx≠x->sp (.ref x::(vs++dvs)) (upd (upd H dx (.own x)) x (.ins C dx [])) (λv H2=>v=.non/\Q (.ref x) H2) E):
 bN (bF X.prog X.w) X.A (call (.ref C) us) (EP X pins σ Q) X.xe s:=by
 have hq:=h (s.heap.objs.size+1) s.heap.objs.size (I.hok.fresh (zO _)) (I.hok.fresh (aO _)) (cQ (k6 _));have I2:=Inv.made (C:=C) I;have r2:cv (V.ref (s.heap.objs.size+1)::(vs++dvs)) (Value.ref (s.heap.objs.size+1)::(us++ds)):=.cons rfl (r.append hd);have hl:(Value.ref (s.heap.objs.size+1)::us++ds).length=ps.length:=by
  have e:=r2.length;rw[F.len _ _ _ _ hq]at e;exact e.symm
 refine wpAny_call (Mi (f:=f) I.kIn M.makes M.init (beq_iff_eq.mp M.fn) (Ae (F.run _ X.stack _ _ ⟨Value.ref (s.heap.objs.size+1)::us,[]⟩ (Value.ref (s.heap.objs.size+1)::(us++ds)) _ _ E (hr.make C us [])
  (I2.env0.make C us []) (hb _ (Value.ref (s.heap.objs.size+1)::us) I2.kIn hl) r2 hq) λr s' hq'=>?_))
 cases r with
 | error e=>exact hx pins σ _ _ e s' I2 hq'
 | ok fl=>
  cases fl with
  | ret u=>
   obtain⟨v,H',I3,rv,ev,q3⟩:=I2.after hq';subst ev;exact⟨rv,⟨V.ref (s.heap.objs.size+1),H',I3,rfl,q3⟩⟩
  | next=>exact dE hq'
  | brk=>exact dE hq'
  | cont=>exact dE hq'
theorem Mo (M:Mk X.K C f) (F:gC X.prog X.w X.K X.mg X.base CX k f fd ps sp) (hr:je (k+1) X.A) (hg:Gl X x) (hm:X.mg x=some (.ref C)) (hb:Binds X.K fd ps ds) (hd:cv dvs ds) (hx:sG CX X E)
 (hdb:(x==("__debug__":Str))=false:=by decide):PE X (.Call (.Name x p) [] [] pos) (Yt C sp dvs E Kd):=by
 fail"i";refine j8 (tR I hg hm ?_ hdb);exact FW I.kIn M.kp (Mn (us:=[]) M F hr hb hd hx I .nil h)
end
section
variable {X:Cx} {CX:Ke} {k:Nat} {f C:ai} {fd:dJ} {ps ks:List Str} {sp:Sp} {E:XK} {x m:Str} {p pos apos kpos:Pos} {e o:Expr} {es:List Expr} {kws:List Pq} {te ta:TE} {t tk:TA} {nm:Option Str}
variable {g:List Value->List Value->List Value} {gV:List V->List V->List V}
end
structure jq (N P:List Str) (sc:fV):Prop where
 kind:sc.kind=.function
 co:sc.isCoroutine=false
 gen:sc.isGenerator=false
 nd:N.Nodup
 pre:N.take P.length=P
 par:∀x∈P,sc.names.lookup x=some .local\/sc.names.lookup x=some .cell
 nofree:∀y∈sc.names,y.2≠.free
theorem Ao{kindOf:Str->Option cw}{x:Str}:∀{binds:List (Str×Value)} {m:Str->Option Value},(∀v,(x,v)∉binds)->LR kindOf binds m x=m x
 | [],_,_=>rfl
 | (n,v)::r,m,h=>by
  unfold LR;rw[Ao λw hw=>h w (ao _ hw)];split
  . have:x≠n:=by rintro rfl;exact h v aI
    simp [this]
  . rfl
theorem Ap{kindOf:Str->Option cw}{x:Str}:∀{binds:List (Str×Value)} {m:Str->Option Value},(∀v,(x,v)∉binds)->LS kindOf binds m x=m x
 | [],_,_=>rfl
 | (n,v)::r,m,h=>by
  unfold LS;rw[Ap λw hw=>h w (ao _ hw)];split
  . rfl
  . have:x≠n:=by rintro rfl;exact h v aI
    simp [this]
theorem Aq{kindOf:Str->Option cw}{x:Str}{v:Value}:∀{P:List Str} {vs:List Value} {i:Nat} {m:Str->Option Value},P.Nodup->P[i]?=some x->vs[i]?=some v->kindOf x=some .local->
 LR kindOf (P.zip vs) m x=some v
 | [],_,_,_,_,h,_,_=>by simp at h
 | _::_,[],_,_,_,_,h,_=>by simp at h
 | p::P,w::vs,0,m,nd,h1,h2,hk=>by
  simp at h1 h2;subst h1;subst h2;show LR kindOf ((p,w)::P.zip vs) m p=_;unfold LR;rw[Ao λv hv=>(dA.mp nd).1 (lH hv).1,if_pos hk];simp
 | p::P,w::vs,i+1,m,nd,h1,h2,hk=>by
  show LR kindOf ((p,w)::P.zip vs) m x=_;unfold LR;exact Aq (i:=i) (dA.mp nd).2 (by simpa using h1) (by simpa using h2) hk
theorem Ar{kindOf:Str->Option cw}{x:Str}{v:Value}:∀{P:List Str} {vs:List Value} {i:Nat} {m:Str->Option Value},P.Nodup->P[i]?=some x->vs[i]?=some v->kindOf x≠some .local->
 LS kindOf (P.zip vs) m x=some v
 | [],_,_,_,_,h,_,_=>by simp at h
 | _::_,[],_,_,_,_,h,_=>by simp at h
 | p::P,w::vs,0,m,nd,h1,h2,hk=>by
  simp at h1 h2;subst h1;subst h2;show LS kindOf ((p,w)::P.zip vs) m p=_;unfold LS;rw[Ap λv hv=>(dA.mp nd).1 (lH hv).1,if_neg hk];simp
 | p::P,w::vs,i+1,m,nd,h1,h2,hk=>by
  show LS kindOf ((p,w)::P.zip vs) m x=_;unfold LS;exact Ar (i:=i) (dA.mp nd).2 (by simpa using h1) (by simpa using h2) hk
abbrev start(N:List Str)(vs:List V):St:=vs.map some++aJ (N.length-vs.length) none
abbrev Bs(CX:Ke)(P:Program)(w:World)(K:al)(mg:Str->Option Value)(base:Heap)(N:List Str)(qual:Str)(scope:fV)(f:ai)(cd:Value)(A:cC)(outer:List tD)(s:Shared)(H:Hp)(E:XK):Cx where
 prog:=P
 w:=w
 K:=K
 mg:=mg
 base:=base
 A:=A.deeper (zH qual scope s.heap.objs.size f cd)
 N:=N
 s_0:=s
 H_0:=H
 env:=zH qual scope s.heap.objs.size f cd
 outer:=outer
 stack:=zH qual scope s.heap.objs.size f cd::outer
 ex:=[]
 calm:=true
 fn:=λ_=>true
 pn:=[]
 xe:=λe s'=>bN (bF P w) (A.deeper (zH qual scope s.heap.objs.size f cd)) («leaving» (zH qual scope s.heap.objs.size f cd) e) (λ_ s''=>CX outer H s E e s'') (λe' s''=>CX outer H s E e' s'') s'
theorem DI{sc:fV}{n:Nat}{x:Str}(h:sc.names.lookup x=some .cell):∃c,(dv n sc.names []).lookup x=some c:=by
 have q:=Dl sc.names n [] (.inl h);exact Option.isSome_iff_exists.mp q
theorem Kf {CX:Ke} {P:Program} {w:World} {K:al} {mg:Str->Option Value} {base:Heap} {N ps:List Str} {qual:Str} {scope:fV} {f:ai} {cd:Value} {A:cC} {outer:List tD} {s s1:Shared} {H:Hp} {E:XK} {us:List Value} {vs:List V}
 (S:jq N ps scope) (hd:A.handled=none) (e0:Ge P w K mg base A outer s H) (hl:vs.length=ps.length) (r:cv vs us)
 (x:InCallC s s.heap.objs.size (LR (zH qual scope s.heap.objs.size f cd).kindOf (ps.zip us) λ_=>none) (dv (s.heap.objs.size+1) scope.names []) (LS (zH qual scope s.heap.objs.size f cd).kindOf (ps.zip us) λ_=>none) s1):
 Inv (Bs CX P w K mg base N qual scope f cd A outer s H E) [] (start N vs) H s1:=by
 have hpl:ps.length<=N.length:=by have:=congrArg sC S.pre;rw[kW]at this;lia
 obtain⟨h1,tk,rfl,hk⟩:=x.done;have noA:∀b:ai,b∉(Bs CX P w K mg base N qual scope f cd A outer s H E).ex:=λb z=>absurd (show b∈([]:List ai)from z) (by simp);refine⟨⟨e0.mod,S.kind,rfl,rfl,aO _,λy z c h1 h2=>?_,λy hy=>?_,λy c _ h=>?_,λ_=>hd,cC.frames_deeper e0.frames,.inr ⟨rfl,rfl⟩,λb z=>absurd z (noA b),e0.bs,e0.bsz,λb _ _=>noA b,λb z=>absurd z (noA b),e0.funs,e0.frf⟩,
  rfl,e0.bare,Un.kept hk,⟨_,x.toInCall.ns,λi y v h1 h2 h3=>?_⟩,λy c h=>⟨_,x.cell y c h⟩,e0.hok.fresh (aO _),λy c h=>?_,λp hp=>absurd (show p∈([]:List (ai×fB))from hp) (by simp),e0.hok.kept hk,?_⟩
 . exact name_of_addr x.apart (bR h1) (bR h2)
 . have hy:scope.names.lookup y=some .cell\/scope.names.lookup y=some .free:=hy;rcases hy with hy | hy
   . exact DI hy
   . exact absurd rfl (S.nofree _ (bR hy))
 . exact wS (x.above y c (bR h))
 . have hi:i<vs.length:=by
    unfold start at h2;by_cases hi:i<vs.length
    . exact hi
    . rw[iz (by simpa using hi)]at h2;rw[dN]at h2;split at h2<;>cases h2
   have ha:vs[i]?=some v:=by
    unfold start at h2;rw[iM (by simpa using hi),ak]at h2;cases e:vs[i]? with
    | none=>rw[e]at h2;cases h2
    | some a=>rw[e]at h2;cases h2;rfl
   obtain⟨u,hu,rv⟩:=r.get ha;have hp:ps[i]?=some y:=by
    rw[<-S.pre,List.getElem?_take_of_lt (by lia)];exact h1
   have ndP:ps.Nodup:=by rw[<-S.pre];exact S.nd.sublist (Pr _ _)
   refine⟨u,rv,?_⟩;rcases S.par y (aL hp)with k | k
   . exact .inl ⟨k,Aq ndP hp hu k⟩
   . obtain⟨c,e⟩:=DI (n:=s.heap.objs.size+1) k;refine .inr ⟨.inl k,c,e,?_⟩;have q:=x.cell y c e;rw[Ar ndP hp hu (by show scope.names.lookup y≠_;rw[k];decide)]at q;exact q
 . exact e0.hok.fresh (wS (x.above y c (bR h)))
 . unfold start;show _=N.length;rw[aA,ae,bn];lia
theorem Yu {CX:Ke} {P:Program} {w:World} {K:al} {mg:Str->Option Value} {base:Heap} {k:Nat} {f:ai} {name qual:Str} {params:Dm} {body:List Stmt} {scope:fV} {dV kV doc pm cdv ct oc:Value} {an od:Option ai}
 {osl:Array (Option Value)} {N ps:List Str} {sp:Sp} (lk:K.lookup f=some ⟨oc,od,.func (uX name qual params body scope dV kV doc pm an cdv ct),osl⟩) (hcd:Ps K cdv qual=true) (S:jq N ps scope)
 (len:∀vs H Q E,sp vs H Q E->vs.length=ps.length)
 (hbody:∀(A:cC) (outer:List tD) (s:Shared) (H:Hp) (vs:List V) (Q:VK) (E:XK),je k (A.deeper (zH qual scope s.heap.objs.size f cdv))->sp vs H Q E->
  ∃t,PSs (Bs CX P w K mg base N qual scope f cdv A outer s H E) body t/\t {nx:=λ_ H'=>Q .non H',rt:=Q} (start N vs) H):
 gC P w K mg base CX (k+1) f (uX name qual params body scope dV kV doc pm an cdv ct) ps sp:=by
 refine⟨len,λA outer s H args us vs Q E hr e0 hb r hsp=>?_⟩;have hl:=len _ _ _ _ hsp;have KX:K.In s.heap:=e0.mod.kin.keeps λb o e=>(e0.bs b o e).1;have lim:s.heap.NoLimit:=e0.mod.nolimit.keeps λb o e=>(e0.bs b o e).1;have hkind:∀y∈ps.zip us,scope.names.lookup y.1=some .local\/(scope.names.lookup y.1=some .cell/\((dv (s.heap.objs.size+1) scope.names []).lookup y.1).isSome=true):=λ⟨n,v⟩ hy=>by
  rcases S.par n (lH hy).1 with q | q
  . exact .inl q
  . exact .inr ⟨q,Dl _ _ _ (.inl q)⟩
 refine codeAny_call_function hr.depth (KX _ _ lk) rfl S.co S.gen rfl (PySem.W.codeRec_of KX hcd) (hb _ _ _ _ ?_);refine wpAny_newFunctionEnv_cells S.kind hkind λenv he s1 x=>?_;subst he;refine⟨lim.keeps x.toInCall.keep,codeAny_func ?_⟩;obtain⟨t,ht,hq⟩:=hbody A outer s H vs Q E (hr.deeper _) hsp;have I:Inv (Bs CX P w K mg base N qual scope f cdv A outer s H E) [] (start N vs) H s1:=Kf S hr.hd e0 hl r x;refine fW (ht [] s1 (start N vs) H _ I hq) (λfl s' hs=>?_) λe s' hs=>hs;have fin:∀{σ':St} {H':Hp} {v:V} {u:Value},Inv (Bs CX P w K mg base N qual scope f cdv A outer s H E) [] σ' H' s'->RelV v u->Q v H'->CE outer P w H s Q u s':=
  λ{σ' H' v u} J rv q=>⟨v,H',J.os,J.bare,J.base,J.hok,rv,q⟩
 cases fl with
 | ret u=>
  obtain⟨v,σ',H',J,rv,q⟩:=hs;exact fin J rv q
 | next=>
  obtain⟨σ',H',J,q⟩:=hs;exact fin (v:=V.non) (u:=Value.none) J rfl q
 | brk=>
  obtain⟨_,_,_,q⟩:=hs;exact dE q
 | cont=>
  obtain⟨_,_,_,q⟩:=hs;exact dE q
section
variable {X:Cx} {x:Str} {p pos:Pos} {e:Expr} {es:List Expr} {t:TA} {id T:String} {r:List V->Hp->VK->Prop}
abbrev tCB(r:List V->Hp->VK->Prop)(t:TA):TE:=λσ H Q=>t σ H λvs H1=>r vs H1 Q
theorem xP (hc:nk X (.builtin id) r) (hg:Gl X x) (hm:X.mg x=none) (hv:jf x=some (.builtin id)) (ha:PA X (e::es) t) (hn:x≠"__name__":=by decide) (hdb:(x==("__debug__":Str))=false:=by decide)
 (he:aW (e::es) X.env=(false,b4 e X.env)::aW es X.env:=by rfl) (hpl:(gP pos (aW es X.env)).any (·.1)=false:=by rfl):PE X (.Call (.Name x p) (e::es) [] pos) (tCB r t):=by
 fail"i";refine j8 (vb I hg hm hv ?_ hn hdb);exact a0G (fQ (ha pos pins s σ H _ I h) λus s1 ⟨vs,H1,I1,r1,q1⟩=>hc pins s1 σ H1 vs us Q I1 r1 q1) he hpl
theorem Kg (hc:nk X (.type T) r) (hg:Gl X x) (hm:X.mg x=none) (hv:jf x=some (.type T)) (ha:PA X (e::es) t) (hn:x≠"__name__":=by decide) (hdb:(x==("__debug__":Str))=false:=by decide)
 (he:aW (e::es) X.env=(false,b4 e X.env)::aW es X.env:=by rfl) (hpl:(gP pos (aW es X.env)).any (·.1)=false:=by rfl):PE X (.Call (.Name x p) (e::es) [] pos) (tCB r t):=by
 fail"i";refine j8 (vb I hg hm hv ?_ hn hdb);exact eS (fQ (ha pos pins s σ H _ I h) λus s1 ⟨vs,H1,I1,r1,q1⟩=>hc pins s1 σ H1 vs us Q I1 r1 q1) he hpl
end
end L2
namespace HT
open PySem PyProof.Rows
section
open PySem.SeqAt
open PySem.AutoSeq1 (wpAny_loadPart')
open PySem.MeetsSeq PySem.MeetsSeq2 PySem.MeetsSeq3
end
section
variable {prog:Program} {w:World} {A:cC} {E:Value->Shared->Prop} {s:Shared}
abbrev sIx(n d:Nat):Option Int->Nat
 | none=>d
 | some v=>if v<0 then(v+(n:Int)).toNat else min v.toNat n
end
end HT
namespace L2
open PySem PySem.Spec PyProof.Rows
@[reducible]def TO:=St->Hp->(Option Int->Hp->Prop)->Prop
abbrev PO(X:Cx)(e:Option Expr)(t:TO):Prop:=
 ∀(pins:List (ai×fB)) (s:Shared) (σ:St) (H:Hp) (Q:Option Int->Hp->Prop),Inv X pins σ H s->t σ H Q->
  bN (bF X.prog X.w) X.A (evalPart e X.env) (λu s'=>∃o H',Inv X pins σ H' s'/\IsPart u o/\Q o H') X.xe s
abbrev Qh:TO:=λ_ H Q=>Q none H
abbrev Yv(t:TE):TO:=λσ H Q=>t σ H λx H1=>∃i,x=.int i/\Q (some i) H1
section
variable {X:Cx} {e:Expr} {te:TE} {lo hi:Option Expr} {tl th:TO} {pos p2:Pos}
theorem xb:PO X none Qh:=by
 fail"i";rw[a3j];exact df ⟨none,H,I,.none,h⟩
theorem xc(h:PE X e te):PO X (some e) (Yv te):=by
 intro pins s σ H Q I hw;rw[evalPart_some];refine fQ (h pins s σ H _ I hw) λu s1 hh=>?_;obtain⟨x,H1,I1,r1,q1⟩:=hh;obtain⟨i,rfl,q⟩:=q1;obtain⟨t,rfl⟩:=r1;exact⟨some i,H1,I1,.int i t,q⟩
abbrev SlR(X:Cx)(r:V->Option Int->Option Int->Hp->VK->Prop):Prop:=
 ∀(pins:List (ai×fB)) (s:Shared) (σ:St) (H:Hp) (x:V) (v vl vu:Value) (lo hi:Option Int) (sl:ai) (Q:VK),Inv X pins σ H s->RelV x v->s.heap.IsSliceOf sl vl vu .none->IsPart vl lo->IsPart vu hi->r x lo hi H Q->
  ∃T id,typeLookup (.type T) "__getitem__"=pure (some (.builtin id))/\s.TypeIs v T/\bN (bF X.prog X.w) X.A (FU v (.ref sl)) (EP X pins σ Q) X.xe s
abbrev tSl(r:V->Option Int->Option Int->Hp->VK->Prop)(te:TE)(tl th:TO):TE:=λσ H Q=>te σ H λx H1=>tl σ H1 λl H2=>th σ H2 λu H3=>r x l u H3 Q
theorem tU{r:V->Option Int->Option Int->Hp->VK->Prop}(hr:SlR X r)(he:PE X e te)(hl:PO X lo tl)(hu:PO X hi th):PE X (.Subscript e (.Slice lo hi none p2) pos) (tSl r te tl th):=by
 fail"i";refine Xs (fQ (he pins s σ H _ I h) λv s1 hh=>?_);obtain⟨x,H1,I1,r1,q1⟩:=hh;refine wpAny_Slice (fQ (hl pins s1 σ H1 _ I1 q1) λvl s2 ⟨l,H2,I2,pl,q2⟩=>fQ (hu pins s2 σ H2 _ I2 q2) λvu s3 hh=>?_);obtain⟨u,H3,I3,pu,q3⟩:=hh;rw[a3j];refine df ?_;have I4:Inv X pins σ H3 {s3 with heap:=s3.heap.push {cls:=.type "slice",data:=.fields #[vl,vu,.none]}}:=I3.kept (t':=s3.toks) λb ob q=>Heap.get?_push_of_some _ q;obtain⟨T,id,hT,ht,hg⟩:=hr pins {s3 with heap:=s3.heap.push {cls:=.type "slice",data:=.fields #[vl,vu,.none]}} σ H3 x v vl vu l u s3.heap.objs.size Q I4 r1 (Heap.IsSliceOf.new ..) pl pu q3;show bN (bF X.prog X.w) X.A (Lz e (.Slice lo hi none p2) v (.ref s3.heap.objs.size)) (EP X pins σ Q) X.xe {s3 with heap:=s3.heap.push {cls:=.type "slice",data:=.fields #[vl,vu,.none]}};exact tail_any (ops:=[.ref s3.heap.objs.size,v]) ht hT hg (by with_unfolding_all rfl)
abbrev DJ(xs:List V)(lo hi:Option Int):List V:=(xs.drop (HT.sIx xs.length 0 lo)).take (HT.sIx xs.length xs.length hi-HT.sIx xs.length 0 lo)
theorem DK(xs:List V)(lo hi:Option Int):(DJ xs lo hi).length<=xs.length:=by
 unfold DJ;rw[kW,fC];lia
end
abbrev ixN(n:Nat)(i:Int):Option Nat:=if 0<=i then(if i<n then some i.toNat else none)else if -(n:Int)<=i then some (i+n).toNat else none
abbrev atI{α:Type}(xs:List α)(i:Int):Option α:=(ixN xs.length i).bind λj=>xs[j]?
theorem IQ{n:Nat}{i:Int}{j:Nat}(h:ixN n i=some j):Dn i n=some j/\j<n/\ -(n:Int)<=i/\i<n:=by
 unfold ixN at h;by_cases h0:0<=i
 . rw[if_pos h0]at h;by_cases h1:i<n
   . rw[if_pos h1]at h;have e:i.toNat=j:=bv.inj h;exact⟨by rw[Dy h0 h1,e],by lia,by lia,h1⟩
   . rw[if_neg h1]at h;cases h
 . rw[if_neg h0]at h;by_cases h1: -(n:Int)<=i
   . rw[if_pos h1]at h;have e:(i+n).toNat=j:=bv.inj h;exact⟨by rw[Af (by lia) h1,e],by lia,h1,by lia⟩
   . rw[if_neg h1]at h;cases h
theorem Bt{α:Type}{xs:List α}{i:Int}{v:α}(h:atI xs i=some v):∃j,Dn i xs.length=some j/\xs[j]?=some v/\j<xs.length/\ -(xs.length:Int)<=i/\i<xs.length:=by
 unfold atI at h;cases e:ixN xs.length i with
 | none=>rw[e]at h;cases h
 | some j=>
  rw[e]at h;obtain⟨h1,h2,h3,h4⟩:=IQ e;exact⟨j,h1,h,h2,h3,h4⟩
abbrev xf(b:Expr):Prop:=∀o i,Dz b false o i=operate [o,i] (FU o i)
abbrev Ti(X:Cx)(r:R2):Prop:=
 ∀(value slice:Expr) (pins:List (ai×fB)) (s:Shared) (σ:St) (H:Hp) (x y:V) (v u:Value) (Q:VK),Inv X pins σ H s->RelV x v->RelV y u->r x y H Q->
  Dz slice false v u=operate [v,u] (FU v u)->bN (bF X.prog X.w) X.A (Lz value slice v u) (EP X pins σ Q) X.xe s
abbrev MtR(X:Cx)(id:String)(r:V->List V->Hp->VK->Prop):Prop:=
 ∀(pins:List (ai×fB)) (s:Shared) (σ:St) (H:Hp) (x:V) (xs:List V) (v:Value) (us:List Value) (Q:VK),Inv X pins σ H s->RelV x v->cv xs us->r x xs H Q->
  bN (bF X.prog X.w) X.A (call (.builtin id) (v::us)) (EP X pins σ Q) X.xe s
section
variable {X:Cx} {a b:Expr} {ta tb:TE} {pos:Pos}
theorem Ti.or{r r':R2}(h:Ti X r)(h':Ti X r'):Ti X (λx y H Q=>r x y H Q\/r' x y H Q):=by
 intro value slice pins s σ H x y v u Q I rx ry q hs;rcases q with q | q
 . exact h value slice pins s σ H x y v u Q I rx ry q hs
 . exact h' value slice pins s σ H x y v u Q I rx ry q hs
theorem Yw{r:R2}(hr:Ti X r)(ha:PE X a ta)(hb:PE X b tb)(hs:xf b):PE X (.Subscript a b pos) (Yl r ta tb):=by
 fail"i";exact Xs (Ut ha hb I h λv u s2 x y H2 I2 rx ry q=>hr a b pins s2 σ H2 x y v u Q I2 rx ry q (hs _ _))
abbrev Yx(K:al):R2:=λx y H Q=>∃p xs i v,x=.ref p/\y=.int i/\fj K H p xs/\atI xs i=some v/\Q v H
abbrev a1n(K:al):R2:=λx y H Q=>∃p xs i v,x=.ref p/\y=.int i/\lK K H p xs/\atI xs i=some v/\Q v H
theorem Qi:Ti X (Yx X.K):=by
 intro value slice pins s σ H x y v u Q I rx ry h hs;obtain⟨p,xs,i,z,rfl,rfl,hq,he,q⟩:=h;cases rx;obtain⟨t,rfl⟩:=ry;obtain⟨its,r,pl,hz⟩:=I.list hq;obtain⟨j,h1,h2,h3,h4,h5⟩:=Bt he;obtain⟨w,ew,rw'⟩:=r.get h2;have hl:=r.length;have hn:=xN;have fin:EP X pins σ Q w s:=⟨z,H,I,rw',q⟩;by_cases h0:0<=i
 . have hj:i.toNat=j:=by
    rw[Dy h0 h5]at h1;exact bv.inj h1
   exact item_listR pl.isList h0 (by lia) (by rw[hj];simpa using ew) fin hs
 . have hj:(i+(its.toArray.size:Int)).toNat=j:=by
    rw[Af (by lia) h4]at h1;rw[aK,<-hl];exact bv.inj h1
   exact Pt (x:=w) pl.isList.typeIs XR.lookup
    (Pu (Q:=λr s'=>r=w/\EP X pins σ Q r s') pl.isList (by lia) (by rw[aK]<;>lia) (by lia) (by rw[hj];simpa using ew) ⟨rfl,fin⟩) hs
theorem UA:Ti X (a1n X.K):=by
 intro value slice pins s σ H x y v u Q I rx ry h hs;obtain⟨p,xs,i,z,rfl,rfl,hq,he,q⟩:=h;cases rx;obtain⟨t,rfl⟩:=ry;obtain⟨its,r,pl,hz⟩:=I.tuple hq;obtain⟨j,h1,h2,h3,h4,h5⟩:=Bt he;obtain⟨w,ew,rw'⟩:=r.get h2;have hl:=r.length;have hn:=xN;have fin:EP X pins σ Q w s:=⟨z,H,I,rw',q⟩;exact Pt (x:=w) pl.typeIs slot_tuple_getitem.lookup
  (getItem_tuple (j:=j) (Q:=λr s'=>r=w/\EP X pins σ Q r s') pl (by lia) (by lia) (by rw[aK,<-hl];exact h1) (by simpa using ew) ⟨rfl,fin⟩) hs
theorem Gf(its:List Value)(n j:Nat)(u:Value):fB.mapSeq (·.setIfInBounds j u) {cls:=.type "list",data:=.seq its.toArray n}={cls:=.type "list",data:=.seq (its.set j u).toArray n}:=by
 simp [fB.mapSeq]
theorem Inv.lst{pins:List (ai×fB)}{σ:St}{H:Hp}{s:Shared}{p:ai}{xs:List V}(I:Inv X pins σ H s)(h:H p=some (.lst xs)):
 ∃(its:List Value) (n:Nat),cv xs its/\s.heap.get? p=some {cls:=.type "list",data:=.seq its.toArray n}/\xs.length<=bY:=by
 obtain⟨z,its,n,r,e⟩:=I.hok p _ h;exact⟨its,n,r,e,z⟩
theorem Inv.lstUpd {pins:List (ai×fB)} {σ:St} {H:Hp} {s:Shared} {p:ai} {xs ys:List V} {its its':List Value} {n n':Nat} {f:fB->fB} (I:Inv X pins σ H s) (h:H p=some (.lst xs))
 (ho:s.heap.get? p=some {cls:=.type "list",data:=.seq its.toArray n}) (hf:f {cls:=.type "list",data:=.seq its.toArray n}={cls:=.type "list",data:=.seq its'.toArray n'}) (r:cv ys its') (hz:ys.length<=bY) (t:Nat):
 Inv X pins σ (upd H p (.lst ys)) {s with heap:=s.heap.update p f,toks:=t}:=by
 have e:(s.heap.update p f).get? p=some {cls:=.type "list",data:=.seq its'.toArray n'}:=by
  rw[Heap.get?_update_self f ho (by rw[hf]<;>rfl),hf]
 refine I.write (x:=p) (e:=p) (by rw[h];trivial) (.inl rfl) (λb u hb q=>(Heap.get?_update_other _ _ (jN hb)).trans q) ⟨_,e⟩ ?_;exact⟨hz,its',n',r,e⟩
abbrev Yy:V->V->V->Hp->(Hp->Prop)->Prop:=λo i v H Q=>∃p xs k j,o=.ref p/\i=.int k/\H p=some (.lst xs)/\ixN xs.length k=some j/\Q (upd H p (.lst (xs.set j v)))
theorem xQ:Uq X Yy:=by
 intro pins s σ H o i v ov iv u Q I ro ri rv h;obtain⟨p,xs,k,j,rfl,rfl,hp,hj,q⟩:=h;cases ro;obtain⟨t,rfl⟩:=ri;obtain⟨its,n,r,ho,hz⟩:=I.lst hp;obtain⟨h1,h2,h3,h4⟩:=IQ hj;have hl:=r.length;have hn:=xN;have I':Inv X pins σ (upd H p (.lst (xs.set j v))) {s with heap:=s.heap.update p (fB.mapSeq (·.setIfInBounds j u))}:=
  I.lstUpd hp ho (Gf its n j u) (r.set rv j) (by rw[bP];exact hz) s.toks
 by_cases h0:0<=k
 . have hk:k.toNat=j:=by
    rw[Dy h0 h4]at h1;exact bv.inj h1
   exact PySem.W.ki_setAt ho h0 (by lia) (by rw[aK,<-hl];exact h4) (by rw[hk];exact⟨_,I',q⟩)
 . have hk:(k+(its.toArray.size:Int)).toNat=j:=by
    rw[Af (by lia) h3]at h1;rw[aK,<-hl];exact bv.inj h1
   exact PySem.W.ki_setBack ho (by lia) (by rw[aK,<-hl];exact h3) (by lia) (by rw[hk];exact⟨_,I',q⟩)
theorem Bu(lo hi:Option Int)(n:Nat):(mC lo hi none n).1=((HT.sIx n 0 lo:Nat):Int)/\(mC lo hi none n).2.1=((HT.sIx n n hi:Nat):Int)/\(mC lo hi none n).2.2=1:=by
 refine⟨?_,?_,rfl⟩
 . cases lo with
   | none=>simp [mC,HT.sIx]
   | some i=>
    simp only[mC,HT.sIx,og,show(1:Int)>0 by decide,if_true];by_cases h:i<0
    . simp only[h,if_true]<;>lia
    . simp only[h,if_false]<;>lia
 . cases hi with
   | none=>simp [mC,HT.sIx]
   | some i=>
    simp only[mC,HT.sIx,og,show(1:Int)>0 by decide,if_true];by_cases h:i<0
    . simp only[h,if_true]<;>lia
    . simp only[h,if_false]<;>lia
theorem zX(its:List Value)(lo hi:Option Int):slicePick its.toArray lo hi none=((its.drop (HT.sIx its.length 0 lo)).take (HT.sIx its.length its.length hi-HT.sIx its.length 0 lo)).toArray:=by
 obtain⟨h1,h2,h3⟩:=Bu lo hi its.toArray.size;unfold slicePick;rw[h1,h2,h3];simp only[sliceRange_one,pick_run,aK]<;>rfl
abbrev Yz(K:al):V->Option Int->Option Int->Hp->VK->Prop:=λx lo hi H Q=>∃a xs,x=.ref a/\fj K H a xs/\∀p,H p=none->Q (.ref p) (upd H p (.lst (DJ xs lo hi)))
theorem xg:SlR X (Yz X.K):=by
 intro pins s σ H x v vl vu lo hi sl Q I rx hs pl pu h;obtain⟨a,xs,rfl,hx,q⟩:=h;cases rx;obtain⟨its,r,ht,hz⟩:=I.list hx;have hlen:=r.length;refine⟨"list",_,XR.lookup,ht.isList.typeIs,?_⟩;refine wpAny_getItem_list_slice ht.isList hs pl pu .none (by simp) ?_ (by rw[aK]<;>lia);rw[zX,<-hlen];refine⟨.ref s.heap.objs.size,_,I.laid (t':=s.toks) (o:=.lst (DJ xs lo hi)) (λb ob q=>Heap.get?_push_of_some _ q) (aO _) ?_,rfl,q _ (I.hok.fresh (aO _))⟩;exact⟨bb (DK xs lo hi) hz,_,0,(r.drop (HT.sIx xs.length 0 lo)).take (HT.sIx xs.length xs.length hi-HT.sIx xs.length 0 lo),Heap.get?_push_size _ rfl⟩
abbrev ky:V->Bool
 | .non=>true
 | .bl _=>true
 | .int _=>true
 | .str _=>true
 | _=>false
abbrev Dt:V->V->Bool
 | .non,.non=>true
 | .bl a,.bl b=>a==b
 | .bl a,.int b=>(if a then 1 else 0)==b
 | .int a,.bl b=>a==(if b then 1 else 0)
 | .int a,.int b=>a==b
 | .str a,.str b=>a==b
 | _,_=>false
theorem UB{A:cC}{s:Shared}{y x:V}{u v:Value}(ry:RelV y u)(rx:RelV x v)(fy:ky y=true)(fx:ky x=true):SeqAt.EqAt A s u v (Dt y x):=by
 cases y with
 | non=>
  cases ry;cases x with
  | non=>cases rx;exact SeqAt.EqAt.same _
  | bl b=>cases rx;exact SeqAt.EqAt.none_bool b
  | int b=>obtain⟨t,rfl⟩:=rx;exact SeqAt.EqAt.none_int b t
  | str b=>obtain⟨t,rfl⟩:=rx;exact SeqAt.EqAt.none_str b t
  | _=>exact absurd (show false=true from fx) bj
 | bl a=>
  cases ry;cases x with
  | non=>cases rx;exact SeqAt.EqAt.bool_none a
  | bl b=>cases rx;exact SeqAt.EqAt.bool_bool a b
  | int b=>obtain⟨t,rfl⟩:=rx;exact SeqAt.EqAt.bool_int a b t
  | str b=>obtain⟨t,rfl⟩:=rx;exact SeqAt.EqAt.bool_str a b t
  | _=>exact absurd (show false=true from fx) bj
 | int a=>
  obtain⟨t',rfl⟩:=ry;cases x with
  | non=>cases rx;exact SeqAt.EqAt.int_none a t'
  | bl b=>cases rx;exact SeqAt.EqAt.int_bool a t' b
  | int b=>obtain⟨t,rfl⟩:=rx;exact SeqAt.EqAt.int_int a t' b t
  | str b=>obtain⟨t,rfl⟩:=rx;exact SeqAt.EqAt.int_str a t' b t
  | _=>exact absurd (show false=true from fx) bj
 | str a=>
  obtain⟨t',rfl⟩:=ry;cases x with
  | non=>cases rx;exact SeqAt.EqAt.str_none a t'
  | bl b=>cases rx;exact SeqAt.EqAt.str_bool a t' b
  | int b=>obtain⟨t,rfl⟩:=rx;exact SeqAt.EqAt.str_int a t' b t
  | str b=>obtain⟨t,rfl⟩:=rx;exact SeqAt.EqAt.str_str a t' b t
  | _=>exact absurd (show false=true from fx) bj
 | _=>exact absurd (show false=true from fy) bj
abbrev Du(x:V)(u:Value):Bool:=match u with
 | .none=>Dt .non x
 | .bool b=>Dt (.bl b) x
 | .int i _=>Dt (.int i) x
 | .str z _=>Dt (.str z) x
 | _=>false
theorem xR{x y:V}{u:Value}(r:RelV y u)(f:ky y=true):Du x u=Dt y x:=by
 cases y with
 | non=>cases r;rfl
 | bl b=>cases r;rfl
 | int i=>obtain⟨t,rfl⟩:=r;rfl
 | str z=>obtain⟨t,rfl⟩:=r;rfl
 | _=>exact absurd (show false=true from f) bj
theorem tV{x:V}:∀{xs:List V} {us:List Value},cv xs us->xs.all ky=true->us.any (Du x)=xs.any λy=>Dt y x
 | _,_,.nil,_=>rfl
 | y::xs,u::us,.cons r t,f=>by
  rw[dz,aG]at f;rw[DA,DA,xR r f.1,tV t f.2]
theorem lL{A:cC}{s:Shared}{x:V}{v:Value}(rx:RelV x v)(fx:ky x=true):∀{xs:List V} {us:List Value},cv xs us->xs.all ky=true->∀u∈us,SeqAt.EqAt A s u v (Du x u)
 | _,_,.nil,_=>λu hu=>by cases hu
 | y::xs,u::us,.cons r t,f=>λu' hu=>by
  rw[dz,aG]at f;rcases aE.mp hu with rfl | hu
  . rw[xR r f.1];exact UB r rx f.1 fx
  . exact lL rx fx t f.2 u' hu
abbrev YA(x:V)(xs:List V):Bool:=xs.any λy=>Dt y x
abbrev rIn(K:al)(neg:Bool):R2:=λx y H Q=>∃p xs,y=.ref p/\(fj K H p xs\/lK K H p xs)/\ky x=true/\xs.all ky=true/\Q (.bl (if neg then !YA x xs else YA x xs)) H
theorem As:n8 X (dY .In) (rIn X.K false):=by
 intro pins s σ H x y v u Q I rx ry h;obtain⟨p,xs,rfl,hq,fx,fs,q⟩:=h;cases ry;rcases hq with hq | hq
 . obtain⟨its,r,pl,hz⟩:=I.list hq;refine SeqAt.in_listAt (Du x) pl.isList (λw hw=>lL rx fx r fs w (by simpa using hw)) ⟨.bl _,H,I,rfl,?_⟩;rw[show its.toArray.any (Du x)=its.any (Du x) by simp,tV r fs];exact q
 . obtain⟨its,r,pl,hz⟩:=I.tuple hq;refine SeqAt.in_tupleAt (Du x) pl (λw hw=>lL rx fx r fs w (by simpa using hw)) ⟨.bl _,H,I,rfl,?_⟩;rw[show its.toArray.any (Du x)=its.any (Du x) by simp,tV r fs];exact q
theorem tW:n8 X (dY .NotIn) (rIn X.K true):=by
 intro pins s σ H x y v u Q I rx ry h;obtain⟨p,xs,rfl,hq,fx,fs,q⟩:=h;cases ry;rcases hq with hq | hq
 . obtain⟨its,r,pl,hz⟩:=I.list hq;refine SeqAt.notIn_listAt (Du x) pl.isList (λw hw=>lL rx fx r fs w (by simpa using hw)) ⟨.bl _,H,I,rfl,?_⟩;rw[show its.toArray.any (Du x)=its.any (Du x) by simp,tV r fs];exact q
 . obtain⟨its,r,pl,hz⟩:=I.tuple hq;refine SeqAt.notIn_tupleAt (Du x) pl (λw hw=>lL rx fx r fs w (by simpa using hw)) ⟨.bl _,H,I,rfl,?_⟩;rw[show its.toArray.any (Du x)=its.any (Du x) by simp,tV r fs];exact q
theorem Bv:nk X (.builtin "len") (λxs H Q=>∃p ys,xs=[.ref p]/\(fj X.K H p ys\/lK X.K H p ys)/\Q (.int ys.length) H):=by
 intro pins s σ H xs us Q I r h;obtain⟨p,ys,rfl,hq,q⟩:=h;obtain⟨u,rfl,rx⟩:=vals1 r;cases rx;have hn:=xN;rcases hq with hq | hq
 . obtain⟨its,r',pl,hz⟩:=I.list hq;have hlen:=r'.length;exact Calls.call_len_list pl.isList (by simp only[aK]<;>lia) ⟨.int ys.length,H,I.tok _,⟨s.toks+1,by rw[aK,hlen]⟩,q⟩
 . obtain⟨its,r',pl,hz⟩:=I.tuple hq;have hlen:=r'.length;exact len_tuple pl (by simp only[aK]<;>lia) ⟨.int ys.length,H,I.tok _,⟨s.toks+1,by rw[aK,hlen]⟩,q⟩
theorem Bw:nk X (.type "list") (λxs H Q=>∃p ys,xs=[.ref p]/\(fj X.K H p ys\/lK X.K H p ys)/\∀l,H l=none->Q (.ref l) (upd H l (.lst ys))):=by
 intro pins s σ H xs us Q I r h;obtain⟨p,ys,rfl,hq,q⟩:=h;obtain⟨u,rfl,rx⟩:=vals1 r;cases rx;have fin:∀(its:List Value),cv ys its->ys.length<=bY->∀(h':Heap) (c':Nat),(∀b o',s.heap.get? b=some o'->h'.get? b=some o')->
  h'.get? s.heap.objs.size=some {cls:=.type "list",dict:=none,data:=.seq its.toArray c',slots:=#[]}->EP X pins σ Q (.ref s.heap.objs.size) {s with heap:=h'}:=λits r' hz h' c' kp e=>
  ⟨.ref s.heap.objs.size,_,I.laid (t':=s.toks) kp (aO _) (show iG X.prog X.w _ h' _ (.lst ys)from⟨hz,its,c',r',e⟩),rfl,q _ (I.hok.fresh (aO _))⟩
 rcases hq with hq | hq
 . obtain⟨its,r',pl,hz⟩:=I.list hq;have hlen:=r'.length;obtain⟨o,ho,hc,n,hd⟩:=pl.isList;exact a3k p (.inl rfl) ho hc hd (λh' c' kp e=>fin its r' hz h' c' kp e) (by simp only[aK]<;>lia)
 . obtain⟨its,r',pl,hz⟩:=I.tuple hq;have hlen:=r'.length;obtain⟨o,ho,hc,n,hd⟩:=pl;exact a3k p (.inr rfl) ho hc hd (λh' c' kp e=>fin its r' hz h' c' kp e) (by simp only[aK]<;>lia)
theorem zY:nk X (.type "tuple") (λxs H Q=>∃p ys,xs=[.ref p]/\((fj X.K H p ys/\∀l,H l=none->Q (.ref l) (upd H l (.tup ys)))\/(lK X.K H p ys/\Q (.ref p) H))):=by
 intro pins s σ H xs us Q I r h;obtain⟨p,ys,rfl,h⟩:=h;obtain⟨u,rfl,rx⟩:=vals1 r;cases rx;rcases h with⟨hq,q⟩ | ⟨hq,q⟩
 . obtain⟨its,r',pl,hz⟩:=I.list hq;have hlen:=r'.length;refine call_tuple_list pl.isList (λh' kp=>?_) (by simp only[aK]<;>lia);have I1:Inv X pins σ H {s with heap:=h'}:=I.kept (t':=s.toks) kp;have I2:Inv X pins σ (upd H h'.objs.size (.tup ys)) {s with heap:=h'.push {cls:=.type "tuple",data:=.seq its.toArray}}:=
    I1.laid (t':=s.toks) (λb o e=>Heap.get?_push_of_some _ e) (aO _) (show iG X.prog X.w _ _ _ (.tup ys)from⟨hz,its,r',IsTup.new _ _⟩)
   exact⟨.ref h'.objs.size,_,I2,rfl,q _ (I1.hok.fresh (aO _))⟩
 . obtain⟨its,r',pl,hz⟩:=I.tuple hq;exact call_tuple_same pl ⟨.ref p,H,I,rfl,q⟩
abbrev tyV(K:al)(T:String)(x:V)(H:Hp):Prop:=match x with
 | .str _=>T="str"
 | .int _=>T="int"
 | .ref p=>(T="list"/\∃xs,fj K H p xs)\/(T="tuple"/\∃o,K.lookup p=some o/\o.cls=.type "tuple"/\o.dict=none)\/
  (T="dict"/\((∃kvs,H p=some (.dK kvs))\/∃kvs,H p=some (.dT kvs)))\/(T="set"/\∃S n,H p=some (.set S n))
 | _=>False
theorem Mp{pins:List (ai×fB)}{σ:St}{H:Hp}{s:Shared}{T:String}{x:V}{v:Value}(I:Inv X pins σ H s)(r:RelV x v)(ty:tyV X.K T x H):
 s.TypeIs v T/\∀a,v=.ref a->∃ob,s.heap.get? a=some ob/\ob.dict=none:=by
 cases x with
 | str z=>
  obtain⟨t,rfl⟩:=r;cases(show T="str" from ty)
  exact⟨typeIs_str s z t,λ_ e=>nomatch e⟩
 | int i=>
  obtain⟨t,rfl⟩:=r;cases(show T="int" from ty)
  exact⟨Xu s i t,λ_ e=>nomatch e⟩
 | ref p=>
  cases r;rcases ty with⟨rfl,xs,hq⟩ | ⟨rfl,o,hk,hc,hd⟩ | ⟨rfl,hk⟩ | ⟨rfl,S,n,hk⟩
  . obtain⟨its,_,pl,_⟩:=I.list hq;refine⟨pl.isList.typeIs,λa e=>?_⟩;cases e;obtain⟨o,n,e,c,hd,_⟩:=pl;exact⟨o,e,hd⟩
  . refine⟨⟨o,I.kIn p o hk,hc⟩,λa e=>?_⟩;cases e;exact⟨o,I.kIn _ o hk,hd⟩
  . have z:∃o,s.heap.get? p=some o/\o.ExactDict:=by
     rcases hk with⟨kvs,hk⟩ | ⟨kvs,hk⟩
     . obtain⟨_,_,_,_,o,_,_,e,ex,_⟩:=I.hok p _ hk;exact⟨o,e,ex⟩
     . obtain⟨_,_,_,_,o,_,_,e,ex,_⟩:=I.hok p _ hk;exact⟨o,e,ex⟩
    obtain⟨o,e,ex⟩:=z;refine⟨⟨o,e,ex.1⟩,λa e2=>?_⟩;cases e2;exact⟨o,e,ex.2.1⟩
  . obtain⟨o,_,_,_,e,ex,_⟩:=I.hok p _ hk;refine⟨⟨o,e,ex.1⟩,λa e2=>?_⟩;cases e2;exact⟨o,e,ex.2.1⟩
 | _=>exact dE ty
abbrev YB(K:al)(T:String)(r:V->List V->Hp->VK->Prop)(to:TE):TE:=λσ H Q=>to σ H λx H1=>tyV K T x H1/\r x [] H1 Q
abbrev tBM(K:al)(T:String)(r:V->List V->Hp->VK->Prop)(to:TE)(t:TA):TE:=λσ H Q=>to σ H λx H1=>tyV K T x H1/\t σ H1 λxs H2=>r x xs H2 Q
variable {o e:Expr} {es:List Expr} {to:TE} {t:TA} {name:Str} {apos cpos:Pos} {T id:String} {r:V->List V->Hp->VK->Prop}
theorem UC (pa:PlainAttrs T) (slot:Slot T name id) (hty:typeOf (.builtin id)=pure (.type "method_descriptor")) (hm:MtR X id r) (ho:PE X o to)
 (hbase:cr o name X.env (b4 o X.env)=b4 o X.env:=by rfl) (hline:(apos.endLine==cpos.line)=true:=by rfl):PE X (.Call (.Attribute o name apos) [] [] cpos) (YB X.K T r to):=by
 fail"i";refine wpAny_Call_method0_late hbase hline (fQ (ho pins s σ H _ I h) λv s1 hh=>?_);obtain⟨x,H1,I1,r1,ty,q1⟩:=hh;obtain⟨h1,h2⟩:=Mp I1 r1 ty;exact⟨T,id,pa,slot,hty,h1,h2,Calls.callWith_builtin rfl (PySem.evalArgs_none (hm pins s1 σ H1 x [] v [] Q I1 r1 .nil q1))⟩
theorem vY (pa:PlainAttrs T) (slot:Slot T name id) (hty:typeOf (.builtin id)=pure (.type "method_descriptor")) (hm:MtR X id r) (ho:PE X o to) (ha:PA X (e::es) t)
 (hbase:cr o name X.env (b4 o X.env)=b4 o X.env:=by rfl)
 (hfew:((gP cpos (aW (e::es) X.env)).all (λx=>!x.1)&&(vS cpos (mB [] X.env)).all (λx=>x.1.isSome)
  &&decide ((e::es).length+([]:List Pq).length+(if([]:List Pq).isEmpty then 0 else 1)<30))=true:=by rfl)
 (hline:(apos.endLine==cpos.line)=true:=by rfl) (hs:aW (e::es) X.env=(false,b4 e X.env)::aW es X.env:=by rfl) (hplain:(gP cpos (aW es X.env)).any (·.1)=false:=by rfl):
 PE X (.Call (.Attribute o name apos) (e::es) [] cpos) (tBM X.K T r to t):=by
 fail"i";refine wpAny_Call_method_late hbase hfew hline rfl (fQ (ho pins s σ H _ I h) λv s1 hh=>?_);obtain⟨x,H1,I1,r1,ty,q1⟩:=hh;obtain⟨h1,h2⟩:=Mp I1 r1 ty;refine⟨T,id,pa,slot,hty,h1,h2,?_⟩;have hA:=ha cpos pins s1 σ H1 _ I1 q1;rw[hs]at hA⊢;refine Calls.callWith_builtin (by show(false||(gP cpos (aW es X.env)).any (·.1))=false;rw[hplain]<;>rfl) (Calls.evalArgs_plain ?_);exact fQ hA λus s2 ⟨vs,H2,I2,r2,q2⟩=>hm pins s2 σ H2 x vs v us Q I2 r1 r2 q2
end
abbrev YC(X:Cx)(id:String)(r:V->List V->Hp->VK->Prop):Prop:=
 ∀(pins:List (ai×fB)) (s:Shared) (σ:St) (H:Hp) (x:V) (xs:List V) (v:Value) (us:List Value) (Q:VK),Inv X pins σ H s->RelV x v->cv xs us->r x xs H Q->
  bN (bF X.prog X.w) X.A (call (.builtin id) (v::us)) (EP X pins σ Q) X.xe s
theorem cv.one:∀{x:V} {us:List Value},cv [x] us->∃u,us=[u]/\RelV x u
 | _,_,.cons r .nil=>⟨_,rfl,r⟩
theorem cv.zero:∀{us:List Value},cv [] us->us=[]
 | _,.nil=>rfl
theorem cv.dropLast{xs:List V}{us:List Value}(h:cv xs us):cv xs.dropLast us.dropLast:=by
 induction h with
 | nil=>exact .nil
 | cons r t ih=>
  cases t with
  | nil=>exact .nil
  | cons q t'=>exact .cons r ih
theorem cv.eraseIdx:∀{xs:List V} {us:List Value} (i:Nat),cv xs us->cv (xs.eraseIdx i) (us.eraseIdx i)
 | _,_,_,.nil=>.nil
 | _,_,0,.cons _ t=>t
 | _,_,i+1,.cons r t=>.cons r (cv.eraseIdx i t)
theorem cv.rep{xs:List V}{us:List Value}(h:cv xs us):∀k:Nat,cv (aJ k xs).flatten (aJ k us).flatten
 | 0=>.nil
 | k+1=>by
  rw[bS,bS,eV,eV];exact cv.append h (cv.rep h k)
theorem Gg{α:Type}(l:List α):l.eraseIdx (l.length-1)=l.dropLast:=by
 induction l with
 | nil=>rfl
 | cons a r ih=>
  cases r with
  | nil=>rfl
  | cons b r=>
   have e:(a::b::r).length-1=((b::r).length-1)+1:=by
    have h1:(a::b::r).length=r.length+2:=rfl;have h2:(b::r).length=r.length+1:=rfl;lia
   rw[e,pF,ih];all_goals rfl
theorem ve{α:Type}:∀(l:List α) (i:Nat),(l.eraseIdx i).length<=l.length
 | [],_=>aO _
 | _::_,0=>zO _
 | _::r,i+1=>SV (ve r i)
theorem foldl_rep(its:List Value):∀(k:Nat) (acc:List Value),
 LU (λx1 x2=>x1++x2) acc.toArray (aJ k its.toArray)=(acc++(aJ k its).flatten).toArray
 | 0,acc=>by simp
 | k+1,acc=>by
  have e:acc.toArray++its.toArray=(acc++its).toArray:=by simp
  have e2:(acc++its)++(aJ k its).flatten=acc++(aJ (k+1) its).flatten:=by
   rw[bS,eV,dw]
  rw[<-e2,<-foldl_rep its k (acc++its),<-e,bS,aU]
section
variable {X:Cx} {pins:List (ai×fB)} {σ:St} {H:Hp} {s:Shared} {l b:ai} {xs ys zs:List V}
theorem Inv.lset {its its':List Value} {n:Nat} {f:Array Value->Array Value} {t':Nat} (I:Inv X pins σ H s) (hH:H l=some (.lst xs))
 (e:s.heap.get? l=some {cls:=.type "list",data:=.seq its.toArray n}) (hf:f its.toArray=its'.toArray) (hv:cv ys its') (hz:ys.length<=bY):
 Inv X pins σ (upd H l (.lst ys)) {s with heap:=s.heap.update l (fB.mapSeq f),toks:=t'}:=by
 have q:=PySem.IsL.update e f;rw[hf]at q;refine I.write (x:=l) (e:=l) (by rw[hH];exact trivial) (.inl rfl) (λb' u hb hu=>(Heap.get?_update_other s.heap (fB.mapSeq f) (jN hb)).trans hu) ⟨_,q⟩ ?_;exact⟨hz,its',_,hv,q⟩
theorem Inv.lnew{its:List Value}{t':Nat}(I:Inv X pins σ H s)(hv:cv ys its)(hz:ys.length<=bY):
 Inv X pins σ (upd H s.heap.objs.size (.lst ys)) {s with heap:=s.heap.push {cls:=.type "list",data:=.seq its.toArray},toks:=t'}:=
 I.laid (λ_ _ q=>Heap.get?_push_of_some _ q) (aO _) ⟨hz,its,0,hv,Heap.get?_push_size _ rfl⟩
theorem Inv.fresh(I:Inv X pins σ H s):H s.heap.objs.size=none:=I.hok.fresh (aO _)
theorem Inv.lstM(I:Inv X pins σ H s)(hH:H l=some (.lst xs)):xs.length<=bY/\∃(its:List Value) (n:Nat),cv xs its/\xs.length=its.length/\s.heap.get? l=some {cls:=.type "list",data:=.seq its.toArray n}:=by
 obtain⟨z,its,n,r,e⟩:=I.hok l _ hH;exact⟨z,its,n,r,r.length,e⟩
theorem DL{n:Nat}(h:n<=bY):Builtin.List.listTooLong n=false:=by
 unfold Builtin.List.listTooLong;exact decide_eq_false (by lia)
end
section
variable {X:Cx}
abbrev Qj:V->List V->Hp->VK->Prop:=λx vs H Q=>∃l xs y,x=.ref l/\vs=[y]/\H l=some (.lst xs)/\xs.length<bY/\Q .non (upd H l (.lst (xs++[y])))
theorem At:YC X "list.append" Qj:=by
 intro pins s σ H x vs v us Q I rx rv h;obtain⟨l,xs,y,rfl,rfl,hH,hz,q⟩:=h;cases rx;obtain⟨u,rfl,ru⟩:=rv.one;obtain⟨z,its,n,r,hl,e⟩:=I.lstM hH;refine j9 F.slot_list_append ⟨_,e,rfl⟩ F.entry_list_append (F.args_list_append_2 _ _) (PySem.list_append l its.toArray n u (by rw[aK];lia)) ⟨e,?_⟩;refine⟨.non,_,I.lset (its':=its++[u]) hH e (by simp) (r.append (.cons ru .nil)) ?_,rfl,q⟩;rw[aA,bc];lia
abbrev Ql:V->List V->Hp->VK->Prop:=λx vs H Q=>∃l b xs zs,x=.ref l/\vs=[.ref b]/\H l=some (.lst xs)/\H b=some (.lst zs)/\xs.length+zs.length<=bY/\Q .non (upd H l (.lst (xs++zs)))
theorem Kh:YC X "list.extend" Ql:=by
 intro pins s σ H x vs v us Q I rx rv h;obtain⟨l,b,xs,zs,rfl,rfl,hH,hB,hz,q⟩:=h;cases rx;obtain⟨u,rfl,ru⟩:=rv.one;cases ru;obtain⟨z,its,n,r,hl,e⟩:=I.lstM hH;obtain⟨z2,its2,n2,r2,hl2,e2⟩:=I.lstM hB;have hsz:its.toArray.size+its2.toArray.size<=bY:=by rw[aK,aK];lia
 have hlong:¬(!its.toArray.isEmpty&&Builtin.List.listTooLong (its.toArray.size+its2.toArray.size))=true:=by
  rw[DL hsz,d5];exact bj
 refine j9 F.slot_list_extend ⟨_,e,rfl⟩ F.entry_list_extend (F.args_list_extend_2 _ _)
  (AutoSeq1.list_extend_list_list_0 l its.toArray n b its2.toArray n2 hlong (by rw[aK];lia) (by lia)) ⟨e,e2,?_⟩
 refine⟨.non,_,I.lset (its':=its++its2) hH e (by simp) (r.append r2) ?_,rfl,q⟩;rw[aA];lia
abbrev YD:V->List V->Hp->VK->Prop:=λx vs H Q=>∃l xs y,x=.ref l/\vs=[]/\H l=some (.lst xs)/\xs[xs.length-1]?=some y/\Q y (upd H l (.lst xs.dropLast))
theorem UD:YC X "list.pop" YD:=by
 intro pins s σ H x vs v us Q I rx rv h;obtain⟨l,xs,y,rfl,rfl,hH,hy,q⟩:=h;cases rx;have hus:=rv.zero;subst hus;obtain⟨z,its,n,r,hl,e⟩:=I.lstM hH;obtain⟨u,hu,ru⟩:=r.get hy;have hy':its.toArray[its.toArray.size-1]?=some u:=by
  show its.toArray[its.length-1]?=some u;rw[<-FX,<-hl];exact hu
 refine j9 F.slot_list_pop ⟨_,e,rfl⟩ F.entry_list_pop (F.args_list_pop_1 _) (MeetsSeq.list_pop_last l its.toArray n u hy' (by rw[aK];lia)) ⟨e,?_⟩;refine⟨y,_,I.lset (its':=its.dropLast) hH e ?_ r.dropLast ?_,ru,q⟩
 . show its.toArray.eraseIdxIfInBounds (its.toArray.size-1)=its.dropLast.toArray;rw[aK,kv,Gg]
 . rw[List.length_dropLast];lia
abbrev Gh:V->List V->Hp->VK->Prop:=λx vs H Q=>∃l xs i k y,x=.ref l/\vs=[.int i]/\H l=some (.lst xs)/\ -(2^63)<=i/\i<2^63/\Dn i xs.length=some k/\xs[k]?=some y/\Q y (upd H l (.lst (xs.eraseIdx k)))
theorem DM:YC X "list.pop" Gh:=by
 intro pins s σ H x vs v us Q I rx rv h;obtain⟨l,xs,i,k,y,rfl,rfl,hH,h1,h2,hk,hy,q⟩:=h;cases rx;obtain⟨u,rfl,ru⟩:=rv.one;obtain⟨t,rfl⟩:=ru;obtain⟨z,its,n,r,hl,e⟩:=I.lstM hH;obtain⟨w,hw,rw'⟩:=r.get hy;refine j9 F.slot_list_pop ⟨_,e,rfl⟩ F.entry_list_pop (F.args_list_pop_2 _ _)
  (MeetsSeq.list_pop_at l its.toArray n i t k w (a2J h1 h2) (by rw[aK,<-hl];exact hk) (by rw[<-FX];exact hw) (by rw[aK];lia)) ⟨e,?_⟩
 refine⟨y,_,I.lset (its':=its.eraseIdx k) hH e ?_ (r.eraseIdx k) ?_,rw',q⟩
 . show its.toArray.eraseIdxIfInBounds k=(its.eraseIdx k).toArray;rw[kv]
 . have:=ve xs k;lia
abbrev a1p:R2:=λx y H Q=>∃l k xs,x=.ref l/\y=.int k/\H l=some (.lst xs)/\ -(2^63)<=k/\k<2^63/\xs.length*k.toNat<=bY/\
 ∀p,H p=none->Q (.ref p) (upd H p (.lst (aJ k.toNat xs).flatten))
theorem Qm{α:Type}(xs:List α)(k:Nat):(aJ k xs).flatten.length=k*xs.length:=by
 induction k with
 | zero=>simp
 | succ k ih=>rw[bS,eV,aA,ih,gQ,qN]
theorem UE:n8 X (sf .Mult) a1p:=by
 intro pins s σ H x y v u Q I rx ry h;obtain⟨l,k,xs,rfl,rfl,hH,h1,h2,hz,q⟩:=h;cases rx;obtain⟨t,rfl⟩:=ry;obtain⟨z,its,n,r,hl,e⟩:=I.lstM hH;have hlen:its.toArray.size*k.toNat<=bY:=by rw[aK,<-hl];exact hz
 have hcap:¬its.toArray.size*k.toNat>(2^63-1)/8:=by
  have:(bY:Nat)<=(2^63-1)/8:=by decide
  lia
 have hfit:¬(!Builtin.List.listFitsIndex k)=true:=by
  rw[a2J h1 h2];exact bj
 have hlong:¬Builtin.List.listTooLong (its.toArray.size*k.toNat)=true:=by
  rw[DL hlen];exact bj
 have hnew:LU (λx1 x2=>x1++x2) #[] (aJ (if its.toArray.isEmpty=true then 0 else k.toNat) its.toArray)=(aJ k.toNat its).flatten.toArray:=by
  have f0:∀m:Nat,LU (λx1 x2=>x1++x2) #[] (aJ m its.toArray)=(aJ m its).flatten.toArray:=λm=>by
   have:=foldl_rep its m [];rw[fb]at this;exact this
  rw[f0];cases its with
  | nil=>simp
  | cons a r'=>rw[if_neg (by simp)]
 refine wpAny_binaryOp_repeat_ref (T:="list") (U:="int") (by decide) ⟨_,e,rfl⟩ (λs'=>Xu s' k t) noFill_list_mul F.fills_int_mul F.slot_int_rmul repeat_list F.slot_int_index.lookup
  (j9 F.slot_int_rmul (Xu s k t) F.entry_int_rmul (F.args_int_rmul_2 _ _) (int___rmul___int_list k t l its.toArray n)
   ⟨e,rfl,⟨_,e,rfl⟩,j9 F.slot_list_mul ⟨_,e,rfl⟩ F.entry_list_mul (F.args_list_mul_2 _ _) (AutoListH.list___mul___list_int_3 l its.toArray n k t hfit hcap hlong) ⟨e,?_⟩⟩)
 rw[hnew];exact⟨.ref _,_,I.lnew (t':=s.toks) (r.rep k.toNat) (by rw[Qm,cz];exact hz),rfl,q _ I.fresh⟩
end
section
variable {prog:Program} {w:World} {A:cC} {E:Value->Shared->Prop} {s:Shared}
end
section
variable {X:Cx}
end
theorem cv.ints:∀{ns:List Int} {us:List Value},cv (ns.map V.int) us->FY us ns
 | [],us,h=>by
  rw[gL]at h;cases h;exact FY.nil
 | n::ns,us,h=>by
  rw[ax]at h;cases h with
  | cons r t=>
   obtain⟨k,rfl⟩:=r;exact FY.cons n k (cv.ints t)
theorem cv.ref1{a:ai}{us:List Value}(r:cv [V.ref a] us):us=[Value.ref a]:=by
 cases r with
 | cons r t=>
  cases t;cases r;rfl
section
variable {prog:Program} {w:World} {A:cC} {E:Value->Shared->Prop} {s:Shared} {l:ai} {its:List Value} {ns:List Int} {Q:Value->Shared->Prop}
theorem Qn (hh:A.handled=none) (hl:s.heap.IsList l its.toArray) (hi:FY its ns)
 (h:∀h' tk t',(∀b o,s.heap.get? b=some o->h'.get? b=some o)->Q (.int ns.sum t') {s with heap:=h',toks:=tk}):bN (bF prog w) A (call (.builtin "sum") [.ref l]) Q E s:=by
 obtain⟨xs,e⟩:=hi.allInts.items;have hn:numsOf (a2K xs).toList=ns:=by rw[<-e];exact hi.numsOf
 rw[LA]at hn;rw[e]at hl;refine PySem.sum_intListG hh hl λh' tk t' hk=>?_;have:=h h' tk t' hk;rw[preSum_eq,pR (by simp),hn];exact this
theorem Qo (hh:A.handled=none) (hl:s.heap.IsList l its.toArray) (hi:FY its ns) (hne:0<ns.length)
 (h:∀h' tk M t',(∀b o,s.heap.get? b=some o->h'.get? b=some o)->M∈ns->(∀a,a∈ns->a<=M)->Q (.int M t') {s with heap:=h',toks:=tk}):bN (bF prog w) A (call (.builtin "max") [.ref l]) Q E s:=by
 obtain⟨xs,e⟩:=hi.allInts.items;have hn:numsOf (a2K xs).toList=ns:=by rw[<-e];exact hi.numsOf
 rw[LA]at hn;subst hn;rw[e]at hl;have hsz:0<xs.size:=by simpa using hne
 refine PySem.max_intList hh hl hsz λv h' tk hv hk=>?_;obtain⟨t,rfl⟩:=intItems_at hv;obtain⟨h1,h2⟩:=argBest_gt (numAt xs) (xs.size-1);refine h h' tk _ t hk ?_ λa ha=>?_
 . rw[SW];exact SX (by rw[ae,gm];lia)
 . obtain⟨j,hj,rfl⟩:=mem_getD ha;rw[ae,gm]at hj;rw[<-SW];exact h2 j (by lia)
theorem Qp (hh:A.handled=none) (hl:s.heap.IsList l its.toArray) (hi:FY its ns) (hne:0<ns.length)
 (h:∀h' tk M t',(∀b o,s.heap.get? b=some o->h'.get? b=some o)->M∈ns->(∀a,a∈ns->M<=a)->Q (.int M t') {s with heap:=h',toks:=tk}):bN (bF prog w) A (call (.builtin "min") [.ref l]) Q E s:=by
 obtain⟨xs,e⟩:=hi.allInts.items;have hn:numsOf (a2K xs).toList=ns:=by rw[<-e];exact hi.numsOf
 rw[LA]at hn;subst hn;rw[e]at hl;have hsz:0<xs.size:=by simpa using hne
 refine PySem.min_intList hh hl hsz λv h' tk hv hk=>?_;obtain⟨t,rfl⟩:=intItems_at hv;obtain⟨h1,h2⟩:=argBest_lt (numAt xs) (xs.size-1);refine h h' tk _ t hk ?_ λa ha=>?_
 . rw[SW];exact SX (by rw[ae,gm];lia)
 . obtain⟨j,hj,rfl⟩:=mem_getD ha;rw[ae,gm]at hj;rw[<-SW];exact h2 j (by lia)
end
section
variable {X:Cx}
abbrev YE(K:al):List V->Hp->VK->Prop:=λvs H Q=>∃(a:ai) (ns:List Int),vs=[V.ref a]/\fj K H a (ns.map V.int)/\Q (.int ns.sum) H
abbrev YF(K:al):List V->Hp->VK->Prop:=λvs H Q=>∃(a:ai) (ns:List Int),vs=[V.ref a]/\fj K H a (ns.map V.int)/\0<ns.length/\∀m,m∈ns->(∀y,y∈ns->y<=m)->Q (.int m) H
abbrev YG(K:al):List V->Hp->VK->Prop:=λvs H Q=>∃(a:ai) (ns:List Int),vs=[V.ref a]/\fj K H a (ns.map V.int)/\0<ns.length/\∀m,m∈ns->(∀y,y∈ns->m<=y)->Q (.int m) H
theorem UF(hc:X.calm=true):nk X (.builtin "sum") (YE X.K):=by
 intro pins s σ H vs us Q I r h;obtain⟨a,ns,rfl,hs,q⟩:=h;obtain⟨its,rv,hl,_⟩:=I.list hs;rw[cv.ref1 r];exact Qn (I.ok.hd hc) hl.isList rv.ints λh' tk t' hk=>⟨.int _,H,I.kept hk,⟨_,rfl⟩,q⟩
theorem UG(hc:X.calm=true):nk X (.builtin "max") (YF X.K):=by
 intro pins s σ H vs us Q I r h;obtain⟨a,ns,rfl,hs,hne,q⟩:=h;obtain⟨its,rv,hl,_⟩:=I.list hs;rw[cv.ref1 r];exact Qo (I.ok.hd hc) hl.isList rv.ints hne λh' tk m t' hk h1 h2=>⟨.int _,H,I.kept hk,⟨_,rfl⟩,q m h1 h2⟩
theorem UH(hc:X.calm=true):nk X (.builtin "min") (YG X.K):=by
 intro pins s σ H vs us Q I r h;obtain⟨a,ns,rfl,hs,hne,q⟩:=h;obtain⟨its,rv,hl,_⟩:=I.list hs;rw[cv.ref1 r];exact Qp (I.ok.hd hc) hl.isList rv.ints hne λh' tk m t' hk h1 h2=>⟨.int _,H,I.kept hk,⟨_,rfl⟩,q m h1 h2⟩
end
section
variable {X:Cx}
abbrev UI(K:al):V->List V->Hp->VK->Prop:=λx xs H Q=>∃(a:ai) (ys:List V) (y:V) (j:Nat) (z:V),x=V.ref a/\xs=[y]/\fj K H a ys/\ky y=true/\ys.all ky=true/\ys[j]?=some z/\Dt z y=true/\
 (∀(m:Nat) (z':V),m<j->ys[m]?=some z'->Dt z' y=false)/\Q (.int (j:Nat)) H
theorem IS{ys:List V}(f:ys.all ky=true){j:Nat}{z:V}(h:ys[j]?=some z):ky z=true:=bw.mp f z (aL h)
theorem Mq:MtR X "list.index" (UI X.K):=by
 intro pins s σ H x xs v us Q I rx rxs h;obtain⟨a,ys,y,j,z,rfl,rfl,hs,fy,fys,hz,hzj,hno,q⟩:=h;cases rx;cases rxs with
 | cons ry rt=>
  rename_i uy ut;cases rt;obtain⟨its,rv,⟨⟨cls,dd,data,sl⟩,n,ho,hc,hdn,hd⟩,hlen⟩:=I.list hs;simp only at hc hd;subst hc hd;obtain⟨u,hu,ru⟩:=rv.get hz;obtain⟨hjl,hje⟩:=az.mp hu;have hvl:=rv.length;have hj:j<its.toArray.size:=by simpa using hjl
  have hsl:=SQ;refine j9 Be ⟨_,ho,rfl⟩ PySem.F.entry_list_index (PySem.F.args_list_index_2 _ _)
   (SeqAt.list_indexAt a its.toArray n dd sl uy (Du y) j hj (by lia) ?_ ?_) ⟨ho,λu' hu'=>lL ry fy rv fys u' (by simpa using hu'),?_⟩
  . have e1:its.toArray[j]=u:=by simpa using hje
    rw[e1,xR ru (IS fys hz)];exact hzj
  . intro m hm hmj;have hml:m<its.length:=by simpa using hm
    have hmy:m<ys.length:=by lia
    have hy':ys[m]?=some ys[m]:=ay hmy;obtain⟨u2,hu2,ru2⟩:=rv.get hy';obtain⟨_,hme⟩:=az.mp hu2;have e1:its.toArray[m]=u2:=by simpa using hme
    rw[e1,xR ru2 (IS fys hy')];exact hno m _ hmj hy'
  . exact⟨.int (j:Nat),H,I.tok _,⟨_,rfl⟩,q⟩
end
section
variable {X:Cx}
end
section
variable {X:Cx}
end
mutual
inductive Dp (K:al) (H:Hp):V->cf->Prop
 | non:Dp K H .non .none
 | bl (b:Bool):Dp K H (.bl b) (.bool b)
 | int (i:Int):Dp K H (.int i) (.int i)
 | str (x:Str):Dp K H (.str x) (.str x)
 | lst {a:ai} {xs:List V} {ds:List cf}:fj K H a xs->xS K H xs ds->Dp K H (.ref a) (.list ds)
 | tup {a:ai} {xs:List V} {ds:List cf}:lK K H a xs->xS K H xs ds->Dp K H (.ref a) (.tuple ds)
inductive xS (K:al) (H:Hp):List V->List cf->Prop
 | nil:xS K H [] []
 | cons {v:V} {vs:List V} {d:cf} {ds:List cf}:Dp K H v d->xS K H vs ds->xS K H (v::vs) (d::ds)
end
section
variable {X:Cx} {pins:List (ai×fB)} {σ:St} {H:Hp} {s:Shared}
mutual
theorem Dp.reads(I:Inv X pins σ H s):∀(d:cf) (v:V) (u:Value),Dp X.K H v d->RelV v u->∃as,SY s.heap u d as
 | .none,_,_,h,r=>by
  cases h;cases r;exact⟨_,SY.none⟩
 | .bool b,_,_,h,r=>by
  cases h;cases r;exact⟨_,SY.bool b⟩
 | .int i,_,_,h,r=>by
  cases h;obtain⟨t,rfl⟩:=r;exact⟨_,SY.int i t⟩
 | .str x,_,_,h,r=>by
  cases h;obtain⟨t,rfl⟩:=r;exact⟨_,SY.str x t⟩
 | .list ds,_,_,h,r=>by
  cases h with
  | lst hs ha=>
   cases r;obtain⟨its,rv,⟨o,n,ho,hc,_,hd⟩,_⟩:=I.list hs;obtain⟨as,hr⟩:=Dp.readsAll I ds _ its ha rv;exact⟨_,SY.list ho hc hd hr⟩
 | .tuple ds,_,_,h,r=>by
  cases h with
  | tup hs ha=>
   cases r;obtain⟨its,rv,⟨o,ho,hc,n,hd⟩,_⟩:=I.tuple hs;obtain⟨as,hr⟩:=Dp.readsAll I ds _ its ha rv;exact⟨_,SY.tuple ho hc hd hr⟩
 | .dict _,_,_,h,_=>by cases h
theorem Dp.readsAll(I:Inv X pins σ H s):∀(ds:List cf) (vs:List V) (us:List Value),xS X.K H vs ds->cv vs us->∃as,a2L s.heap us ds as
 | [],_,_,h,r=>by
  cases h;cases r;exact⟨_,a2L.nil⟩
 | d::ds,_,_,h,r=>by
  cases h with
  | cons h1 h2=>
   cases r with
   | cons r1 r2=>
    obtain⟨as,q1⟩:=Dp.reads I d _ _ h1 r1;obtain⟨bs,q2⟩:=Dp.readsAll I ds _ _ h2 r2;exact⟨_,a2L.cons q1 q2⟩
end
end
section
variable {X:Cx}
abbrev a1q(K:al):R2:=λx y H Q=>∃d e,Dp K H x d/\Dp K H y e/\SeqAt.shaped d=true/\SeqAt.shaped e=true/\Q (.bl (cf.eqv d e)) H
abbrev a1r(K:al):R2:=λx y H Q=>∃d e,Dp K H x d/\Dp K H y e/\SeqAt.shaped d=true/\SeqAt.shaped e=true/\Q (.bl (!cf.eqv d e)) H
theorem Mr(hu:X.A.units+64<Dv):n8 X (dY .Eq) (a1q X.K):=by
 intro pins s σ H x y v u Q I rx ry h;obtain⟨d,e,hd,he,sd,se,q⟩:=h;obtain⟨as,r1⟩:=Dp.reads I d x v hd rx;obtain⟨bs,r2⟩:=Dp.reads I e y u he ry;exact SeqAt.compareEq_shaped r1 r2 sd se hu ⟨.bl _,H,I,rfl,q⟩
theorem Ms(hu:X.A.units+64<Dv):n8 X (dY .NotEq) (a1r X.K):=by
 intro pins s σ H x y v u Q I rx ry h;obtain⟨d,e,hd,he,sd,se,q⟩:=h;obtain⟨as,r1⟩:=Dp.reads I d x v hd rx;obtain⟨bs,r2⟩:=Dp.reads I e y u he ry;exact SeqAt.compareNe_shaped r1 r2 sd se hu ⟨.bl _,H,I,rfl,q⟩
end
@[reducible]def Mt(h:Heap)(c:ai)(v:Option Value):Prop:=h.IsCell c v
abbrev a1s(scope sc:fV):fV:=
 {scope with names:=scope.names.map λ(n,k)=>if(k==.free&&sc.kind==.function&&sc.names.lookup n==some .cell)then(n,.cell)else(n,k)}
abbrev eG(cells:List (Str×ai)):List (Str×cw)->List (Str×ai)->List (Str×ai)
 | [],acc=>acc
 | (n,k)::r,acc=>if k==.free then eG cells r ((n,(cells.lookup n).getD 0)::acc)else eG cells r acc
theorem tY (env:tD) (f:Str×cw->List (Str×ai)->PJ (ForInStep (List (Str×ai))))
 (hf:∀n k c,f (n,k) c=if k==.free then(do let a<-cellOf env n;pure (.yield ((n,a)::c)))else pure (.yield c)):
 ∀(names:List (Str×cw)) (acc:List (Str×ai)),(∀y∈names,y.2=.free->∃c,env.cells.lookup y.1=some c)->forIn names acc f=pure (eG env.cells names acc)
 | [],acc,_=>by rw[Bf];rfl
 | (n,k)::r,acc,h=>by
  rw[List.forIn_cons,hf];have ih:=λacc=>tY env f hf r acc λy hy=>h y (ao _ hy);unfold eG;by_cases hk:(k==cw.free)=true
  . rw[if_pos hk,if_pos hk];obtain⟨c,hc⟩:=h (n,k) aI (by simpa using hk);have e:cellOf env n=pure c:=by unfold cellOf;rw[hc]
    rw[e];have e2:(env.cells.lookup n).getD 0=c:=by rw[hc];rfl
    rw[e2];exact ih _
  . rw[if_neg hk,if_neg hk];exact ih _
theorem Gi{scope:fV}{env:tD}(h:∀y∈scope.names,y.2=.free->∃c,env.cells.lookup y.1=some c):closureFor scope env=pure (eG env.cells scope.names []):=by
 simp only[closureFor];rw[tY env _ (λn k c=>rfl) scope.names [] h];rfl
theorem mem_lookup{α:Type}:∀{l:List (Str×α)} {n:Str} {c:α},(n,c)∈l->∃c',l.lookup n=some c'
 | (k,v)::r,n,c,h=>by
  rw[bx];cases hb:n==k with
  | true=>exact⟨_,rfl⟩
  | false=>
   rcases aE.mp h with e | h
   . cases e;simp at hb
   . exact mem_lookup h
theorem mK{cells:List (Str×ai)}:∀{names:List (Str×cw)} {acc:List (Str×ai)} {n:Str} {c:ai},(n,c)∈eG cells names acc->(n,c)∈acc\/((n,.free)∈names/\c=(cells.lookup n).getD 0)
 | [],_,_,_,h=>.inl h
 | (m,k)::r,acc,n,c,h=>by
  unfold eG at h;split at h
  . rename_i hk;have hk:k=.free:=by simpa using hk
    rcases mK h with h | ⟨h1,h2⟩
    . rcases aE.mp h with e | h
      . cases e;exact .inr ⟨hk▸aI,rfl⟩
      . exact .inl h
    . exact .inr ⟨ao _ h1,h2⟩
  . rcases mK h with h | ⟨h1,h2⟩
    . exact .inl h
    . exact .inr ⟨ao _ h1,h2⟩
theorem pZ{cells:List (Str×ai)}:∀{names:List (Str×cw)} {acc:List (Str×ai)} {p:Str×ai},p∈acc->p∈eG cells names acc
 | [],_,_,h=>h
 | (m,k)::r,acc,p,h=>by
  unfold eG;split
  . exact pZ (ao _ h)
  . exact pZ h
theorem p6{cells:List (Str×ai)}:∀{names:List (Str×cw)} {acc:List (Str×ai)} {n:Str},(n,.free)∈names->(n,(cells.lookup n).getD 0)∈eG cells names acc
 | (m,k)::r,acc,n,h=>by
  unfold eG;rcases aE.mp h with e | h
  . cases e;exact pZ aI
  . split
    . exact p6 h
    . exact p6 h
theorem nl:∀{names:List (Str×cw)} {h:Heap} {acc:List (Str×ai)} {x:Str} {c:ai},(x,c)∈dv h.objs.size names acc->
 (x,c)∈acc\/((x,.cell)∈names/\h.objs.size<=c/\Mt (oh h names) c none)
 | [],_,_,_,_,h=>.inl h
 | (n,k)::r,h,acc,x,c,hm=>by
  unfold dv at hm;unfold oh;split at hm
  . rename_i hk;rw[if_pos hk];have hk:k=.cell:=by simpa using hk
    rw[<-Heap.size_push h {cls:=.type "cell",data:=.cell none}]at hm;rcases nl hm with hm | ⟨h1,h2,h3⟩
    . rcases aE.mp hm with e | hm
      . cases e;exact .inr ⟨hk▸aI,aO _,_,tM r _ _ _ (Heap.get?_push_size _ rfl),rfl⟩
      . exact .inl hm
    . rw[Heap.size_push]at h2;exact .inr ⟨ao _ h1,oi h2,h3⟩
  . rename_i hk;rw[if_neg hk];rcases nl hm with hm | ⟨h1,h2,h3⟩
    . exact .inl hm
    . exact .inr ⟨ao _ h1,h2,h3⟩
theorem qQ:∀{names:List (Str×cw)} {n:Nat} {acc:List (Str×ai)} {p:Str×ai},p∈acc->p∈dv n names acc
 | [],_,_,_,h=>h
 | (m,k)::r,n,acc,p,h=>by
  unfold dv;split
  . exact qQ (ao _ h)
  . exact qQ h
theorem vf:∀{names:List (Str×cw)} {n:Nat} {acc:List (Str×ai)} {x:Str},(x,.cell)∈names->∃c,(x,c)∈dv n names acc
 | (m,k)::r,n,acc,x,h=>by
  unfold dv;rcases aE.mp h with e | h
  . cases e;exact⟨n,qQ aI⟩
  . split
    . exact vf h
    . exact vf h
theorem vg:∀{names:List (Str×cw)} {h:Heap} {acc:List (Str×ai)} {x y:Str} {c:ai},(∀p∈acc,p.2<h.objs.size)->(∀x y c,(x,c)∈acc->(y,c)∈acc->x=y)->
 (x,c)∈dv h.objs.size names acc->(y,c)∈dv h.objs.size names acc->x=y
 | [],_,_,_,_,_,_,hi,h1,h2=>hi _ _ _ h1 h2
 | (n,k)::r,h,acc,x,y,c,hl,hi,h1,h2=>by
  unfold dv at h1 h2;split at h1
  . rename_i hk;rw[if_pos hk]at h2;rw[<-Heap.size_push h {cls:=.type "cell",data:=.cell none}]at h1 h2;refine vg (h:=h.push _) (λp hp=>?_) (λx y c a b=>?_) h1 h2
    . rw[Heap.size_push];rcases aE.mp hp with rfl | hp
      . exact k6 _
      . exact wV (hl p hp)
    . rcases aE.mp a with e | a<;>rcases aE.mp b with e' | b
      . cases e;cases e';rfl
      . cases e;exact absurd (hl _ b) (eO _)
      . cases e';exact absurd (hl _ a) (eO _)
      . exact hi _ _ _ a b
  . rename_i hk;rw[if_neg hk]at h2;exact vg hl hi h1 h2
theorem DN {M:XO} {A:cC} {E:Value->Shared->Prop} {s:Shared} {scope:fV} {globals:ai} {closure:List (Str×ai)} {qual:Str} {func:Option ai} {code:Value} {around:tD} {builtins:ai} {Q:tD->Shared->Prop}
 (h:Q (newEnv scope s.heap.objs.size globals (dv (s.heap.objs.size+1) scope.names closure) qual func code (some around) builtins)
  {s with heap:=oh (s.heap.push {cls:=.type "dict",data:=.dict #[]}) scope.names}):
 bN M A (a2M scope globals closure [] qual func code (some around) builtins) Q E s:=by
 simp only[a2M,Option.isSome_some,if_true];refine bO (wpAny_alloc ?_);refine bO (wpAny_layCells _ (λn k c=>rfl) scope.names closure _ _ ?_);rw[show({s with heap:=s.heap.push {cls:=.type "dict",data:=.dict #[]}}:Shared).heap.objs.size=s.heap.objs.size+1 from Heap.size_push ..];rw[Bf];exact bO (df (df h))
theorem p7{sc:fV}:∀{names:List (Str×cw)} {x:Str} {k:cw},
 (names.map λ(n,k)=>if(k==cw.free&&sc.kind==.function&&sc.names.lookup n==some .cell)then(n,cw.cell)else(n,k)).lookup x=some k->
 ∃k',names.lookup x=some k'/\(k=k'\/(k'=.free/\k=.cell))
 | [],_,_,h=>by simp at h
 | (n,k₀)::r,x,k,h=>by
  have ih:= @p7 sc r x k;have h':jO x ((if(k₀==cw.free&&sc.kind==.function&&sc.names.lookup n==some .cell)=true then(n,cw.cell)else(n,k₀))::(r.map _))=some k:=h;cases hx:x==n with
  | true=>
   simp only[bx,hx];by_cases hc:(k₀==cw.free&&sc.kind==.function&&sc.names.lookup n==some .cell)=true
   . rw[if_pos hc]at h';simp only[bx,hx]at h';cases h';simp only[aG,beq_iff_eq]at hc;exact⟨k₀,rfl,.inr ⟨hc.1.1,rfl⟩⟩
   . rw[if_neg hc]at h';simp only[bx,hx]at h';cases h';exact⟨_,rfl,.inl rfl⟩
  | false=>
   simp only[bx,hx];by_cases hc:(k₀==cw.free&&sc.kind==.function&&sc.names.lookup n==some .cell)=true
   . rw[if_pos hc]at h';simp only[bx,hx]at h';exact ih h'
   . rw[if_neg hc]at h';simp only[bx,hx]at h';exact ih h'
structure tZ (N:List Str) (sc scope:fV) (own:List (Str×Nat)):Prop where
 kind:scope.kind=.function
 uniq:∀y∈scope.names,scope.names.lookup y.1=some y.2
 ix:∀p∈own,N[p.2]?=some p.1
 free:∀y∈scope.names,y.2=.free->sc.names.lookup y.1=some .cell\/sc.names.lookup y.1=some .free
 own:∀y∈scope.names,y.2=.local\/y.2=.cell->y.1∈own.map (·.1)\/y.1∉N
abbrev m5(σ:St):List Nat->St
 | []=>σ
 | v::vs=>(m5 σ vs).set v none
theorem p8(σ:St):∀vs:List Nat,(m5 σ vs).length=σ.length
 | []=>rfl
 | v::vs=>by unfold m5;rw[bP,p8 σ vs]
theorem vh{σ:St}{i:Nat}{x:V}:∀{vs:List Nat},(m5 σ vs)[i]?=some (some x)->σ[i]?=some (some x)/\i∉vs
 | [],h=>⟨h,by simp⟩
 | v::vs,h=>by
  unfold m5 at h;by_cases hi:v=i
  . subst hi;by_cases hv:v<(m5 σ vs).length
    . rw[ci hv]at h;cases h
    . rw[bA (by simpa using hv)]at h;cases h
  . rw[cy hi]at h;obtain⟨h1,h2⟩:=vh h;exact⟨h1,by simp only[aE,not_or];exact⟨λe=>hi e.symm,h2⟩⟩
@[reducible]def Cx.blk(X:Cx)(s:Shared)(H:Hp)(scope:fV)(cenv:tD)(fp:List ai):Cx:={X with s_0:=s,H_0:=H,env:=cenv,outer:=X.stack,ex:=fp,fn:=λx=>scope.names.lookup x==some .cell,pn:=[],xe:=λ_ _=>False}
section
variable {X:Cx} {pins:List (ai×fB)} {σ:St} {H:Hp} {s:Shared}
theorem DO{scope:fV}{own:List (Str×Nat)}{fp:List ai}(I:Inv X pins σ H s)(ok:tZ X.N X.env.scope scope own)(hN:X.N.Nodup)(hfp:∀b∈fp,wF X pins H b/\b<s.heap.objs.size):
 Inv (X.blk s H scope (cR scope (dv (s.heap.objs.size+1) scope.names (eG X.env.cells scope.names [])) s.heap.objs.size X.env) fp) [] (m5 σ (own.map (·.2))) H {s with heap:=oh (s.heap.push {cls:=.type "dict",data:=.dict #[]}) scope.names}:=by
 have hfree:∀y∈scope.names,y.2=.free->∃c,X.env.cells.lookup y.1=some c:=λy hy e=>by
  rcases ok.free y hy e with k | k
  . exact I.ok.has _ (.inl k)
  . exact I.ok.has _ (.inr k)
 generalize hcenv:cR scope (dv (s.heap.objs.size+1) scope.names (eG X.env.cells scope.names [])) s.heap.objs.size X.env=cenv;have kp:∀b o,s.heap.get? b=some o->(oh (s.heap.push {cls:=.type "dict",data:=.dict #[]}) scope.names).get? b=some o:=λb o e=>tM _ _ _ _ (Heap.get?_push_of_some _ e);have hL:cenv.locals=s.heap.objs.size:=by rw[<-hcenv];rfl
 have hcl:cenv.cells=dv (s.heap.objs.size+1) scope.names (eG X.env.cells scope.names []):=by rw[<-hcenv];rfl
 have hsc:cenv.scope=a1s scope X.env.scope:=by rw[<-hcenv];rfl
 rw[<-Heap.size_push s.heap {cls:=.type "dict",data:=.dict #[]}]at hcl;have cm:∀{y c},(y,c)∈eG X.env.cells scope.names []->X.env.cells.lookup y=some c/\c<s.heap.objs.size:=λ{y c} hm=>by
  rcases mK hm with hm | ⟨h1,rfl⟩
  . cases hm
  . obtain⟨c,hc⟩:=hfree _ h1 rfl;rw[hc];obtain⟨w,z⟩:=I.cell _ _ hc;exact⟨rfl,z.lt⟩
 have mem:∀{y c},cenv.cells.lookup y=some c->(X.env.cells.lookup y=some c/\c<s.heap.objs.size)\/(s.heap.objs.size+1<=c/\Mt (oh (s.heap.push {cls:=.type "dict",data:=.dict #[]}) scope.names) c none):=λ{y c} e=>by
  rw[hcl]at e;rcases nl (bR e)with hm | ⟨_,h2,h3⟩
  . exact .inl (cm hm)
  . rw[Heap.size_push]at h2;exact .inr ⟨h2,h3⟩
 have look:∀{y},scope.names.lookup y=some .free->∃c,cenv.cells.lookup y=some c/\X.env.cells.lookup y=some c:=λ{y} hl=>by
  have hy:(y,cw.free)∈scope.names:=bR hl;obtain⟨c',e'⟩:=mem_lookup (qQ (names:=scope.names) (n:=(s.heap.push {cls:=.type "dict",data:=.dict #[]}).objs.size) (p6 (cells:=X.env.cells) (acc:=[]) hy));rw[<-hcl]at e';refine⟨c',e',?_⟩;rw[hcl]at e';rcases nl (bR e')with hm | ⟨h1,_,_⟩
  . exact(cm hm).1
  . have:=ok.uniq _ h1;rw[hl]at this;cases this
 have okB:(X.blk s H scope cenv fp).Ok:=by
  refine⟨I.ok.mod,by show cenv.scope.kind=_;rw[hsc];exact ok.kind,by show cenv.globals=_;rw[<-hcenv];exact I.ok.glob,by show cenv.builtins=_;rw[<-hcenv];exact I.ok.blt,by show s.heap.objs.size<=cenv.locals;rw[hL];exact aO _,
   λy z c e1 e2=>?_,λy hy=>?_,λy c z e=>?_,I.ok.hd,I.ok.frames,.inl rfl,λb hb=>⟨?_,λy c e z=>?_⟩,I.bs,bb I.ok.bsz I.sz,λb o e hb=>?_,λb hb z=>?_,I.stack,I.stkFree⟩
  . have e1:cenv.cells.lookup y=some c:=e1;have e2:cenv.cells.lookup z=some c:=e2;rw[hcl]at e1 e2;refine vg (λp hp=>?_) (λy z c a b=>I.ok.inj y z c (cm a).1 (cm b).1) (bR e1) (bR e2);rw[Heap.size_push];exact wV (cm (y:=p.1) (c:=p.2) hp).2
  . show∃c,cenv.cells.lookup y=some c;have key:∀k,cenv.kindOf y=some k->(k=.cell\/k=.free)->∃c,cenv.cells.lookup y=some c:=λk hk hk'=>by
     unfold tD.kindOf at hk;rw[hsc]at hk;obtain⟨k',e,r⟩:=p7 hk;have:k'=.cell\/k'=.free:=by
      rcases r with rfl | ⟨rfl,_⟩
      . exact hk'
      . exact .inr rfl
     rcases this with rfl | rfl
     . obtain⟨c,hm⟩:=vf (n:=(s.heap.push {cls:=.type "dict",data:=.dict #[]}).objs.size) (acc:=eG X.env.cells scope.names []) (bR e);obtain⟨c',e'⟩:=mem_lookup hm;exact⟨c',by rw[hcl];exact e'⟩
     . obtain⟨c,h1,_⟩:=look e;exact⟨c,h1⟩
    rcases hy with hy | hy
    . exact key _ hy (.inl rfl)
    . exact key _ hy (.inr rfl)
  . have z:(scope.names.lookup y==some cw.cell)=true:=z;have z:scope.names.lookup y=some .cell:=by simpa using z
    have e:cenv.cells.lookup y=some c:=e;rw[hcl]at e;rcases nl (bR e)with hm | ⟨_,h2,_⟩
    . rcases mK hm with hm | ⟨h1,_⟩
      . cases hm
      . have q:=ok.uniq _ h1;rw[z]at q;cases q
    . rw[Heap.size_push]at h2;exact oi h2
  . show b≠cenv.locals;rw[hL];exact cQ (hfp b hb).2
  . have e:cenv.cells.lookup y=some c:=e;rcases mem e with⟨h1,_⟩ | ⟨h1,_⟩
    . exact(hfp b hb).1.2.2.2.2.1 y c h1 z
    . have h2:s.heap.objs.size+1<=b:=by rw[<-z];exact h1
      exact absurd (ba (hfp b hb).2 (oi h2)) (eO _)
  . rcases(hfp b hb).1.2.2.2.1 with z | z
    . exact I.ok.noex b o e z
    . exact absurd (ba (Heap.lt_size e) (bb I.ok.bsz z)) (eO _)
  . rcases aE.mp (I.stkSub b z)with z | z
    . exact(hfp b hb).1.2.1 z
    . exact(hfp b hb).1.2.2.1 z
 refine⟨okB,rfl,I.bare,Un.kept kp,⟨λ_=>none,?_,λi y av e1 e2 e3=>?_⟩,λy c e=>?_,?_,λy c e=>?_,λp hp=>?_,I.hok.kept kp,by rw[p8];exact I.len⟩
 . show Heap.Ns _ cenv.locals _;rw[hL];exact Heap.Ns.keeps (Heap.Ns.new ..) λb o e=>tM _ _ _ _ e
 . obtain⟨e2,hne⟩:=vh e2;have hfr:scope.names.lookup y=some .free/\(cenv.kindOf y=some .cell\/cenv.kindOf y=some .free):=by
    have key:∀k,cenv.scope.names.lookup y=some k->k=.local\/k=.cell\/k=.free->scope.names.lookup y=some .free/\(cenv.kindOf y=some .cell\/cenv.kindOf y=some .free):=λk hk hk'=>by
     have hk0:=hk;rw[hsc]at hk;obtain⟨k',e,r⟩:=p7 hk;have no:¬(k'=.local\/k'=.cell):=λhh=>by
      rcases ok.own _ (bR e) hh with e' | e'
      . obtain⟨p,hp,hpy⟩:=aH.mp e';have e3:=ok.ix p hp;have:p.1=y:=hpy;rw[this]at e3;exact hne (aH.mpr ⟨p,hp,xJ hN e3 e1⟩)
      . exact e' (aL e1)
     rcases r with rfl | ⟨rfl,rfl⟩
     . rcases hk' with rfl | rfl | rfl
       . exact absurd (.inl rfl) no
       . exact absurd (.inr rfl) no
       . exact⟨e,.inr hk0⟩
     . exact⟨e,.inl hk0⟩
    have e3:Tb cenv.scope y:=e3;rcases e3 with e3 | e3 | e3
    . exact key _ e3 (.inl rfl)
    . exact key _ e3 (.inr (.inl rfl))
    . exact key _ e3 (.inr (.inr rfl))
   obtain⟨m,hn,hl⟩:=I.loc;have hvis:Tb X.env.scope y:=(ok.free _ (bR hfr.1) rfl).elim (λk=>.inr (.inl k)) (λk=>.inr (.inr k));obtain⟨w,r,q⟩:=hl i y av e1 e2 hvis;refine⟨w,r,.inr ⟨hfr.2,?_⟩⟩;obtain⟨c,h1,h2⟩:=look hfr.1;rcases q with⟨k,_⟩ | ⟨_,c',e',z⟩
   . have k:X.env.scope.names.lookup y=some .local:=k;rcases ok.free _ (bR hfr.1) rfl with k' | k'<;>rw[show X.env.scope.names.lookup y=_ from k']at k<;>cases k
   . rw[h2]at e';cases e';exact⟨c,h1,z.keeps kp⟩
 . have e:cenv.cells.lookup y=some c:=e;rcases mem e with⟨h1,_⟩ | ⟨_,z⟩
   . obtain⟨w,z⟩:=I.cell y c h1;exact⟨w,z.keeps kp⟩
   . exact⟨_,z⟩
 . show H cenv.locals=none;rw[hL];exact I.hok.fresh (aO _)
 . have e:cenv.cells.lookup y=some c:=e;rcases mem e with⟨h1,_⟩ | ⟨h1,_⟩
   . exact I.freeC y c h1
   . exact I.hok.fresh (oi h1)
 . exact absurd (show p∈([]:List (ai×fB))++[]from hp) (by simp)
theorem UJ {E:Value->Shared->Prop} {D:ai} {xs:List V} {y:V} {v:Value} {Q:Value->Shared->Prop} (I:Inv X pins σ H s) (hD:H D=some (.lst xs)) (hz:xs.length<bY) (r:RelV y v)
 (h:∀s',Inv X pins σ (upd H D (.lst (xs++[y]))) s'->Q .none s'):bN (bF X.prog X.w) X.A (call (.builtin "list.append") [.ref D,v]) Q E s:=by
 obtain⟨hz',its,n,ri,e⟩:=I.hok D _ hD;have hl:=ri.length;refine append_at (hsz:=by rw[aK];lia) e λh' sb ho'=>?_;refine h {s with heap:=h'} (I.write (t':=s.toks) (by rw[hD];trivial) (.inl rfl) (λb u hb q=>(sb.2 b hb).trans q) ⟨_,ho'⟩ ⟨by rw[aA];exact hz,its++[v],n+1,ri.append (.cons r .nil),?_⟩);rw[ho'];simp
abbrev Mu(X:Cx)(ifs:List Expr)(t:TT):Prop:=
 ∀(pins:List (ai×fB)) (s:Shared) (σ:St) (H:Hp) (Q:Bool->Hp->Prop),Inv X pins σ H s->t σ H Q->
  bN (bF X.prog X.w) X.A (forIn ifs true λc r=>if r=true then do let ok<-Io c X.env (b4 c X.env);pure (oj ok)else pure (oj r)) (TP X pins σ Q) X.xe s
abbrev a1t:TT:=λ_ H Q=>Q true H
theorem Qq:Mu X [] a1t:=λ_ _ _ H _ I h=>wpAny_tests_nil ⟨H,I,h⟩
theorem Qr{c:Expr}{t:TT}(h:PT X c t):Mu X [c] t:=λpins s σ H Q I hw=>wpAny_tests_one (h pins s σ H Q I hw)
end
theorem Ki{α:Type}{t:PJ α}{Q Q':α->Shared->Prop}{M:XO}{A:cC}{E:Value->Shared->Prop}{s:Shared}(h:bN M A t Q (λ_ _=>False) s)(hQ:∀a s,Q a s->Q' a s):bN M A t Q' E s:=fW h hQ λ_ _ z=>dE z
theorem Bx {prog:Program} {w:World} {A:cC} {R:Result->Shared->Prop} {s:Shared} {elt target iter:Expr} {ifs:List Expr} {scope:fV} {pos:Pos} {it acc:Value} {env:tD} (I:Nat->Shared->Prop)
 (turn:∀n s,I n s->bN (bF prog w) A (pyNext it) (λr s₁=>match r with
  | none=>R (.ok .next) s₁
  | some v=>bN (bF prog w) A (tL target it v) (λ_ s₁'=>bN (bF prog w) A (pz target env v) (λ_ s₂=>
   bN (bF prog w) A (forIn ifs true λc r=>if r=true then do let ok<-Io c env (b4 c env);pure (oj ok)else pure (oj r)) (λok s₃=>
    if ok=true then bN (bF prog w) A (b4 elt env) (λx s₄=>
     bN (bF prog w) A (call (.builtin "list.append") [acc,x]) (λ_ s₅=>∃m,m<n/\I m s₅) (FZ (bF prog w) A env λe s'=>R (.error e) s') s₄) (FZ (bF prog w) A env λe s'=>R (.error e) s') s₃
    else∃m,m<n/\I m s₃) (FZ (bF prog w) A env λe s'=>R (.error e) s') s₂) (FZ (bF prog w) A env λe s'=>R (.error e) s') s₁') (FZ (bF prog w) A env λe s'=>R (.error e) s') s₁) (FZ (bF prog w) A env λe s'=>R (.error e) s') s)
 (n:Nat) (h:I n s):
 Ad (bF prog w) A (.compLoop (.ListComp elt [⟨target,iter,ifs,0⟩] scope pos) 0 it acc env) R s:=by
 refine codeAny_loop rfl I (λn s hI=>?_) n h;show bN _ A ((compTurn (.ListComp elt [⟨target,iter,ifs,0⟩] scope pos) 0 it acc env).onRaise (λx=>do noteFrame x env;theTreesLotGoes x)) _ _ s;refine wpAny_noted ?_;rw[compTurn_list];refine bO (Lv (bO (fW (turn n s hI) (λr s₁ h₁=>?_) λ_ _ h'=>h')));cases r with
 | none=>exact df h₁
 | some v=>
  refine bO (fW h₁ (λ_ s₁' h₁'=>?_) λ_ _ h'=>h');refine bO (fW h₁' (λ_ s₂ h₂=>bO (fW h₂ (λok s₃ h₃=>?_) λ_ _ h'=>h')) λ_ _ h'=>h');cases ok with
  | false=>exact df ⟨rfl,h₃⟩
  | true=>
   exact bO (bO (fW h₃ (λx s₄ h₄=>bO (fW h₄ (λ_ s₅ h₅=>df (df ⟨rfl,h₅⟩)) λ_ _ h'=>h')) λ_ _ h'=>h'))
section
variable {X:Cx}
abbrev UK(wi:TI)(g:TG)(tt:TT)(te:TE)(vs:List Nat):TE:=λσ H Q=>wi σ H λJ H1=>∀D,H1 D=none->∃W:Nat->Nat->Hp->Prop,(∃m,W 0 m (upd H1 D (.lst [])))/\∀i m H,W i m H->
 (J.stop i H/\Q (.ref D) H)\/(J.go i H/\∃Nx:Hp->Prop,(∀H',Nx H'->∃m',m'<m/\W (i+1) m' H')/\∀x H',J.yld i H x H'->g x (m5 σ vs) H' λσ2 H2=>m5 σ2 vs=m5 σ vs/\tt σ2 H2 λb H3=>
  if b=true then te σ2 H3 λy H4=>∃acc,H4 D=some (.lst acc)/\acc.length<bY/\Nx (upd H4 D (.lst (acc++[y])))else Nx H3)
theorem IT {pins:List (ai×fB)} {s:Shared} {σ:St} {H:Hp} {Q:VK} {elt tg iter:Expr} {ifs:List Expr} {scope:fV} {own:List (Str×Nat)} {pos pos':Pos} {wi:TI} {g:TG} {tt:TT} {te:TE} {use:Option (Value->PJ Unit)} {Qf:Value->Shared->Prop}
 (hc:X.calm=true) (hN:X.N.Nodup) (I:Inv X pins σ H s) (hi:PI X tg iter wi) (ok:tZ X.N X.env.scope scope own)
 (hg:∀(s:Shared) (H:Hp) (C:ai) (cl:List (Str×ai)) (fp:List ai),PG (X.blk s H scope (cR scope cl C X.env) fp) tg g) (ht:∀(s:Shared) (H:Hp) (C:ai) (cl:List (Str×ai)) (fp:List ai),Mu (X.blk s H scope (cR scope cl C X.env) fp) ifs tt)
 (he:∀(s:Shared) (H:Hp) (C:ai) (cl:List (Str×ai)) (fp:List ai),PE (X.blk s H scope (cR scope cl C X.env) fp) elt te) (hs:∀x,dg iter X.env x=pure x)
 (h:UK wi g tt te (own.map (·.2)) σ H Q)
 (hRR:∀D C s' m H',Inv X pins σ H' s'->Q (.ref D) H'->s'.heap.Ns C m->wF X pins H' C->a2N (bF X.prog X.w) X.A X.xe use Qf (.ref D) C (.ok .next) s'):
 bN (bF X.prog X.w) X.A (a3l (.ListComp elt [⟨tg,iter,ifs,0⟩] scope pos) scope X.env pos' (newList []) false (b4 iter X.env) use) Qf X.xe s:=by
 have hfree:∀y∈scope.names,y.2=.free->∃c,X.env.cells.lookup y.1=some c:=λy hy e=>by
  rcases ok.free y hy e with k | k
  . exact I.ok.has _ (.inl k)
  . exact I.ok.has _ (.inr k)
 refine wpAny_comprehension_free (use:=use) rfl hs (Gi hfree) ok.kind (λy hy e=>by rw[ok.uniq y hy,e])
  (fQ (hi pins s σ H _ I h) λxv s1 hx=>fQ hx λitv s2 h2=>?_)
 obtain⟨it,fp,tn,J,H2,e,I2,T,st2,f2,q⟩:=h2;subst e;refine wpAny_newObj_type (DN ?_) (by show 0<=bY;decide);generalize hD:s2.heap.objs.size=D;have hDn:H2 D=none:=I2.hok.fresh (mz hD);obtain⟨W,⟨m0,w0⟩,turn⟩:=q D hDn;generalize hs3:({s2 with heap:=s2.heap.push {cls:=.type "list",data:=.seq ([]:List Value).toArray}}:Shared)=s3;have I3:Inv X pins σ (upd H2 D (.lst [])) s3:=by
  rw[<-hs3];refine I2.laid (t':=s2.toks) (λb o e=>Heap.get?_push_of_some _ e) (mz hD) ⟨dj _,[],0,.nil,?_⟩;rw[<-hD];exact Heap.get?_push_size _ rfl
 have h3:s3.heap=s2.heap.push {cls:=.type "list",data:=.seq ([]:List Value).toArray}:=by rw[<-hs3]
 have sz:∀b∈fp,b<s2.heap.objs.size:=λb hb=>by
  obtain⟨o,e,_⟩:=T.obj _ _ st2 b hb;exact Heap.lt_size e
 have f3:∀b∈fp,wF X pins (upd H2 D (.lst [])) b/\b<s3.heap.objs.size:=λb hb=>by
  have hlt:=sz b hb;refine⟨⟨?_,(f2 b hb).2⟩,by rw[h3,Heap.size_push];exact wV hlt⟩;rw[bU (by rw[<-hD];exact cQ hlt)];exact(f2 b hb).1
 have st3:tn 0 s3.heap:=T.keep _ _ _ st2 λb _ o e=>by rw[h3];exact Heap.get?_push_of_some _ e
 have I4:=DO I3 ok hN f3;have pg:=hg s3 (upd H2 D (.lst [])) s3.heap.objs.size (dv (s3.heap.objs.size+1) scope.names (eG X.env.cells scope.names [])) fp;have pt:=ht s3 (upd H2 D (.lst [])) s3.heap.objs.size (dv (s3.heap.objs.size+1) scope.names (eG X.env.cells scope.names [])) fp;have pe:=he s3 (upd H2 D (.lst [])) s3.heap.objs.size (dv (s3.heap.objs.size+1) scope.names (eG X.env.cells scope.names [])) fp;show Ad _ _ (.compStart (.ListComp elt [⟨tg,iter,ifs,0⟩] scope pos) 0 (.ref it) (.ref D) (cR scope (dv (s3.heap.objs.size+1) scope.names (eG X.env.cells scope.names [])) s3.heap.objs.size X.env)) (a2N (bF X.prog X.w) X.A X.xe use Qf (.ref D) s3.heap.objs.size) {s3 with heap:=oh (s3.heap.push {cls:=.type "dict",data:=.dict #[]}) scope.names};have nfp:∀b∈fp,(upd H2 D (.lst [])) b=none:=λb hb=>(f3 b hb).1.1;generalize hce:cR scope (dv (s3.heap.objs.size+1) scope.names (eG X.env.cells scope.names [])) s3.heap.objs.size X.env=ce at I4 pg pt pe⊢;have cL:ce.locals=s3.heap.objs.size:=by subst hce;rfl
 generalize hH3:upd H2 D (.lst [])=H3 at I3 I4 pg pt pe w0 nfp f3;generalize hs4:({s3 with heap:=oh (s3.heap.push {cls:=.type "dict",data:=.dict #[]}) scope.names}:Shared)=s4 at I4⊢;have st4:tn 0 s4.heap:=T.keep _ _ _ st3 λb _ o e=>by rw[<-hs4];exact tM _ _ _ _ (Heap.get?_push_of_some _ e)
 have stat:∀{σ':St} {H':Hp} {s':Shared},Inv (X.blk s3 H3 scope ce fp) [] σ' H' s'->(∀b∈fp,H' b=none)->∀b∈fp,wF (X.blk s3 H3 scope ce fp) [] H' b:=λ{σ' H' s'} I' hn b hb=>
  ⟨hn b hb,(I'.ok.exf b hb).1,I'.ok.exfs b hb,.inl hb,λx c e=>(I'.ok.exf b hb).2 x c e,λp hp=>absurd (show p∈([]:List (ai×fB))++[]from hp) (by simp)⟩
 have loop:Ad (bF X.prog X.w) X.A (.compLoop (.ListComp elt [⟨tg,iter,ifs,0⟩] scope pos) 0 (.ref it) (.ref D) ce) (a2N (bF X.prog X.w) X.A X.xe use Qf (.ref D) s3.heap.objs.size) s4:=by
  refine Bx (λn s'=>∃i H',Inv (X.blk s3 H3 scope ce fp) [] (m5 σ (own.map (·.2))) H' s'/\tn i s'.heap/\(∀b∈fp,H' b=none)/\W i n H') ?_ m0 ⟨0,H3,I4,st4,nfp,w0⟩;rintro n s5 ⟨i,H5,I5,st5,n5,w5⟩;rcases turn i n H5 w5 with⟨stop,qq⟩ | ⟨go,Nx,hNx,step⟩
  . have td:=T.done (X.blk s3 H3 scope ce fp) rfl rfl rfl hc i [] s5 _ H5 (λ_ _=>False) I5 (stat I5 n5) st5 stop;refine Ki td λr s6 hh=>?_;obtain⟨hr,I6⟩:=hh;subst hr;have I7:Inv X pins σ H5 s6:=I3.call' (ch:=fp) I6.os I6.base I6.hok I6.bare λb hb=>⟨(f3 b hb).1.2.2.2.1,(f3 b hb).1.2.1,(f3 b hb).1.2.2.2.2.1,(f3 b hb).1.2.2.2.2.2⟩;have nC:H5 s3.heap.objs.size=none:=by
     have z:H5 ce.locals=none:=I6.free;rw[cL]at z;exact z
    obtain⟨m,hn,_⟩:=I6.loc;have hn:s6.heap.Ns ce.locals m:=hn;rw[cL]at hn;exact hRR D s3.heap.objs.size s6 m H5 I7 qq hn (I3.fpOk (aO _) nC)
  . have ti:=T.item (X.blk s3 H3 scope ce fp) rfl rfl rfl hc i [] s5 _ H5 (λ_ _=>False) I5 (stat I5 n5) st5 go;refine Ki ti λr s6 hh=>?_;obtain⟨u,hr,h6⟩:=hh;subst hr;refine Ki h6 λ_ s7 hh=>?_;obtain⟨x,H7,I7,r7,y7,st7,n7⟩:=hh;have I7':=I7.pinned (stat I7 n7) (T.obj _ _ st7);refine Ki (pg _ s7 _ H7 x u _ I7' r7 (step x H7 y7)) λ_ s8 ⟨σ8,H8,I8,hw8,q8⟩=>?_;refine Ki (pt _ s8 σ8 H8 _ I8 q8) λb s9 hh=>?_;obtain⟨H9,I9,q9⟩:=hh;have fin:∀{s':Shared} {H':Hp},Inv (X.blk s3 H3 scope ce fp) ([]++xM fp s7.heap) σ8 H' s'->Nx H'->∃m,m<n/\∃i H',Inv (X.blk s3 H3 scope ce fp) [] (m5 σ (own.map (·.2))) H' s'/\tn i s'.heap/\(∀b∈fp,H' b=none)/\W i m H':=λ{s' H'} I' nx=>by
     obtain⟨m',hm,w'⟩:=hNx H' nx;have pin':∀b∈fp,∀o,s7.heap.get? b=some o->s'.heap.get? b=some o/\H' b=none:=λb hb o e=>
      let z:=I'.pin (b,o) (bZ _ (bZ _ (sF hb e)))
      ⟨z.1,z.2.1⟩
     have hl:(m5 σ (own.map (·.2))).length=σ8.length:=by rw[<-hw8,p8]
     refine⟨m',hm,i+1,H',(I'.unpinned (pins:=[])).weak hl (λj v e=>?_),T.keep _ _ _ st7 λb hb o e=>(pin' b hb o e).1,λb hb=>?_,w'⟩
     . rw[<-hw8]at e;exact(vh e).1
     . obtain⟨o,e,_⟩:=T.obj _ _ st7 b hb;exact(pin' b hb o e).2
    cases b with
    | false=>
     simp only[gM,if_false]at q9⊢;exact fin I9 q9
    | true=>
     simp only[if_true]at q9⊢;refine Ki (pe _ s9 σ8 H9 _ I9 q9) λz s10 hh=>?_;obtain⟨yv,H10,I10,r10,acc,hD10,hz10,nx⟩:=hh;exact UJ (X:=X.blk s3 H3 scope ce fp) I10 hD10 hz10 r10 λs11 I11=>fin I11 nx
 exact codeAny_compStart_list loop (T.self X.A 0 _ _ _ st4 loop)
theorem Tj {elt tg iter:Expr} {ifs:List Expr} {scope:fV} {own:List (Str×Nat)} {pos:Pos} {wi:TI} {g:TG} {tt:TT} {te:TE} (hc:X.calm=true) (hN:X.N.Nodup) (hi:PI X tg iter wi) (ok:tZ X.N X.env.scope scope own)
 (hg:∀(s:Shared) (H:Hp) (C:ai) (cl:List (Str×ai)) (fp:List ai),PG (X.blk s H scope (cR scope cl C X.env) fp) tg g) (ht:∀(s:Shared) (H:Hp) (C:ai) (cl:List (Str×ai)) (fp:List ai),Mu (X.blk s H scope (cR scope cl C X.env) fp) ifs tt)
 (he:∀(s:Shared) (H:Hp) (C:ai) (cl:List (Str×ai)) (fp:List ai),PE (X.blk s H scope (cR scope cl C X.env) fp) elt te) (hs:∀x,dg iter X.env x=pure x:=by intro _;rfl):
 PE X (.ListComp elt [⟨tg,iter,ifs,0⟩] scope pos) (UK wi g tt te (own.map (·.2))):=by
 fail"i";rw[eval_ListComp];refine IT hc hN I hi ok hg ht he hs h λD C s' m H' I' q hn f=>⟨m,hn,λh'' sb=>?_⟩;obtain⟨f0,f1,f2,f3,f4,f5⟩:=f;exact⟨.ref D,H',I'.turned (t':=s'.toks) (λb o hb e=>(sb.2 b hb).trans e) f0 f1 f3 f4 f5,rfl,q⟩
theorem DP {i:Nat} {y:Str} {py:Pos} {elt tg iter:Expr} {ifs:List Expr} {scope:fV} {own:List (Str×Nat)} {pos spos:Pos} {wi:TI} {g:TG} {tt:TT} {te:TE} (hc:X.calm=true) (hN:X.N.Nodup) (hy:X.N[i]?=some y) (hyl:X.env.scope.names.lookup y=some .local)
 (hsw:eT (.ListComp elt [⟨tg,iter,ifs,0⟩] scope pos) (some (.Name y py)) spos.line X.env=pure true) (hi:PI X tg iter wi) (ok:tZ X.N X.env.scope scope own)
 (hg:∀(s:Shared) (H:Hp) (C:ai) (cl:List (Str×ai)) (fp:List ai),PG (X.blk s H scope (cR scope cl C X.env) fp) tg g) (ht:∀(s:Shared) (H:Hp) (C:ai) (cl:List (Str×ai)) (fp:List ai),Mu (X.blk s H scope (cR scope cl C X.env) fp) ifs tt)
 (he:∀(s:Shared) (H:Hp) (C:ai) (cl:List (Str×ai)) (fp:List ai),PE (X.blk s H scope (cR scope cl C X.env) fp) elt te) (hs:∀x,dg iter X.env x=pure x:=by intro _;rfl):
 PS X (.Assign [.Name y py] (.ListComp elt [⟨tg,iter,ifs,0⟩] scope pos) spos) (J4 (UK wi g tt te (own.map (·.2))) (iH i)):=by
 intro pins s σ H D I h;rw[exec_Assign_Name_used _ _ _ _ hsw];refine bO (Lv (bO ?_));show bN _ X.A (do let _<-a3l (.ListComp elt [⟨tg,iter,ifs,0⟩] scope pos) scope X.env (firstIterPos [⟨tg,iter,ifs,0⟩] pos) (newList []) false (b4 iter X.env) (some (pz (.Name y py) X.env))) _ _ s;have h:UK wi g tt te (own.map (·.2)) σ H (λx H1=>iH i x σ H1 D.nx):=h;refine bO (fQ (IT (Qf:=λ_ s'=>SP X pins D .next s') hc hN I hi ok hg ht he hs h λL C s' m H' I' q hn f=>?_) λ_ s' hq=>df (df hq));show bN _ _ (pz (.Name y py) X.env (.ref L)) _ _ _;refine XQ (An (v:=V.ref L) I' hN hy (.inl hyl) rfl (λs2 I2 ⟨a,sb,ha⟩=>?_) (.inr hyl));obtain⟨f0,f1,f2,f3,f4,f5⟩:=f;have haC:C≠a:=by
  rcases ha with z | z
  . rw[z];exact f1
  . exact λe=>f4 y a z e.symm
 refine⟨m,hn.sameBut sb haC,λh3 sb3=>?_⟩;exact⟨_,H',I2.turned (t':=s2.toks) (λb o hb e=>(sb3.2 b hb).trans e) f0 f1 f3 f4 f5,q⟩
end
section
variable {prog:Program} {w:World} {A:cC} {R:Result->Shared->Prop} {s:Shared} {elt t0 i0 t1 i1:Expr} {ifs0 ifs1:List Expr} {scope:fV} {pos:Pos} {it acc:Value} {env:tD}
end
section
variable {X:Cx}
end
section
variable {κ:Type} [DecidableEq κ]
end
section
variable {P:Program} {w:World} {H:Hp} {h:Heap} {a:ai}
end
section
variable {X:Cx} {pins:List (ai×fB)} {σ:St} {H:Hp} {s:Shared} {a:ai} {y v:V} {u r:Value} {o:Option V} {A:cC} {E:Value->Shared->Prop}
end
section
variable {X:Cx} {pins:List (ai×fB)} {σ:St} {H:Hp} {s:Shared} {a:ai} {kvs:List (Bk×V)} {k:Bk} {u:Value} {A:cC} {E:Value->Shared->Prop}
end
abbrev a1u(i:Expr):Prop:=∀ov iv,Dz i false ov iv=operate [ov,iv] (FU ov iv)
theorem Qs {prog:Program} {w:World} {A:cC} {E:Value->Shared->Prop} {s:Shared} {env:tD} {value slice:Expr} {pos:Pos} {T id:String} {Q:Value->Shared->Prop}
 (hl:typeLookup (.type T) "__getitem__"=pure (some (.builtin id))) (hs:a1u slice)
 (h:bN (bF prog w) A (b4 value env) (λo s₁=>bN (bF prog w) A (b4 slice env) (λi s₂=>s₂.TypeIs o T/\bN (bF prog w) A (FU o i) Q E s₂) E s₁) E s):
 bN (bF prog w) A (b4 (.Subscript value slice pos) env) Q E s:=by
 refine Xs (fW h (λo s₁ h₁=>fW h₁ (λi s₂ h₂=>?_) λ_ _ x=>x) λ_ _ x=>x);obtain⟨hT,h₂⟩:=h₂;unfold Lz;refine bO ?_;rw[getitemInPython_of_ne hT.not_modules];refine bO (wpAny_specialOf hT hl ?_);have fin:bN (bF prog w) A (Dz slice false o i) (λr s₃=>bN (bF prog w) A (letTemporaryGo value o r>>=λ_=>pure r) Q E s₃) E s₂:=by
  rw[hs o i];exact wpAny_operating (fW h₂ (λr s₃ h₃=>bO (wpAny_letTemporaryGo (df h₃))) λ_ _ x=>x)
 first
  | exact df (bO fin)
  | exact bO (df (bO fin))
  | exact bO fin
section
variable {X:Cx} {o i e value:Expr} {pos pos' tpos:Pos} {td ty tv:TE}
end
section
variable {X:Cx} {pos:Pos}
end
section
variable {X:Cx} {pins:List (ai×fB)} {σ:St} {H:Hp} {s:Shared} {a:ai} {y d:V} {u r:Value} {o:Option V} {A:cC} {E:Value->Shared->Prop}
end
section
variable {X:Cx} {o e f:Expr} {apos cpos:Pos} {td ty tx:TE}
end
section
variable {X:Cx} {pins:List (ai×fB)} {σ:St} {H:Hp} {s:Shared} {a:ai} {kvs:List (Bk×V)} {A:cC} {E:Value->Shared->Prop}
end
section
variable {X:Cx} {pins:List (ai×fB)} {σ:St} {H:Hp} {s:Shared} {a:ai} {y:V} {u:Value} {A:cC} {E:Value->Shared->Prop}
end
section
variable {prog:Program} {w:World} {A:cC} {E:Value->Shared->Prop}
end
section
variable {X:Cx}
end
section
variable {X:Cx} {pins:List (ai×fB)} {σ:St} {H:Hp} {s:Shared} {h':Heap}
theorem Inv.turnedL{t':Nat}{ch:List ai}(I:Inv X pins σ H s)(k:∀b o,b∉ch->s.heap.get? b=some o->h'.get? b=some o)(hf:∀b∈ch,wF X pins H b):Inv X pins σ H {s with heap:=h',toks:=t'}:=by
 have nit:∀b u,H b=some u->b∉ch:=λb u e z=>by
  have q:=(hf b z).1;rw[q]at e;cases e
 refine I.step (g':=s.gens) (d':=s.drawn) (ch:=ch) (λb hb=>⟨(hf b hb).2.2.2.1,(hf b hb).2.1,(hf b hb).2.2.2.2.1,(hf b hb).2.2.2.2.2⟩) (λb o _ _ hc e _=>k b o hc e) (λb o _ _ hc e _=>⟨o.slots,k b o hc e⟩)
  (λ_ _ _ _ n=>n) (λb o hc e=>⟨o,k b o hc e⟩) (λ_ _ e=>e) (λ_ _ _ e=>e) (λb ps e=>⟨#[],by rw[e];simp⟩) (λm hm=>?_) (λb u e=>?_) I.bare
 . obtain⟨o,es,ep,ho,r⟩:=hm;exact⟨o,es,ep,k _ o (λz=>(hf _ z).2.1 rfl) ho,r⟩
 . refine(I.hok b u e).stay (λc v hc q=>k c v ?_ q) (λ_ q=>q) λ_ _ q=>q;rcases hc with z | z
   . rw[z];exact nit b u e
   . exact nit c _ z
theorem Inv.turnedNew {t':Nat} {ch:List ai} {T:ai} {ob:HO} (I:Inv X pins σ H s) (k:∀b o,b∉ch->s.heap.get? b=some o->h'.get? b=some o) (hf:∀b∈ch,wF X pins H b) (hT:s.heap.objs.size<=T)
 (new:iG X.prog X.w (upd H T ob) h' T ob):Inv X pins σ (upd H T ob) {s with heap:=h',toks:=t'}:=by
 have hn:H T=none:=I.hok.fresh hT;have nit:∀b u,H b=some u->b∉ch:=λb u e z=>by
  have q:=(hf b z).1;rw[q]at e;cases e
 refine I.step (g':=s.gens) (d':=s.drawn) (ch:=ch) (λb hb=>⟨(hf b hb).2.2.2.1,(hf b hb).2.1,(hf b hb).2.2.2.2.1,(hf b hb).2.2.2.2.2⟩) (λb o _ _ hc e _=>k b o hc e) (λb o _ _ hc e _=>⟨o.slots,k b o hc e⟩)
  (λb o _ e n=>?_) (λb o hc e=>⟨o,k b o hc e⟩) (λb xs e=>?_) (λb o u e=>?_) (λb ps e=>⟨#[],?_⟩) (λm hm=>?_) (λb u e=>?_) I.bare
 . rw[bU (cQ (ba (Heap.lt_size e) hT))];exact n
 . rw[bU (eh e hn)];exact e
 . rw[bU (eh e hn)];exact e
 . rw[bU (eh e hn),e];simp
 . obtain⟨o,es,ep,ho,r⟩:=hm;exact⟨o,es,ep,k _ o (λz=>(hf _ z).2.1 rfl) ho,r⟩
 . by_cases hb:b=T
   . subst hb;rw[bB]at e;cases e;exact new
   . rw[bU hb]at e;refine(I.hok b u e).stay (λc v hc q=>k c v ?_ q) (λc q=>by rw[bU (eh q hn)];exact q) λc xs q=>by rw[bU (eh q hn)];exact q
     rcases hc with z | z
     . rw[z];exact nit b u e
     . exact nit c _ z
theorem Inv.lock{d:ai}{u:HO}(I:Inv X pins σ H s)(h:H d=some u)(mu:X3 (some u)):∃od,Inv X pins σ (upd H d (.frz od u)) s:=by
 have x:=I.hok d u h;have ex:∃od,s.heap.get? d=some od:=by
  cases u with
  | lst xs=>obtain⟨_,_,_,_,e⟩:=x;exact⟨_,e⟩
  | dK kvs=>obtain⟨_,_,_,_,o,_,_,e,_⟩:=x;exact⟨o,e⟩
  | dT kvs=>obtain⟨_,_,_,_,o,_,_,e,_⟩:=x;exact⟨o,e⟩
  | set S n=>obtain⟨o,_,_,_,e,_⟩:=x;exact⟨o,e⟩
  | ins C dx fs=>obtain⟨_,_,_,e,_⟩:=x;exact⟨_,e⟩
  | ext φ=>obtain⟨_,⟨_,e⟩,_⟩:=x;exact⟨_,e⟩
  | _=>exact dE mu
 obtain⟨od,e⟩:=ex;have new:iG X.prog X.w (upd H d (.frz od u)) s.heap d (.frz od u):=by
  refine⟨e,x.stay (λb v _ q=>q) (λb q=>?_) λb xs q=>?_⟩
  . rw[bU (λz=>by rw[z,h]at q;cases q;exact mu)];exact q
  . rw[bU (λz=>by rw[z,h]at q;cases q;exact mu)];exact q
 exact⟨od,I.write (x:=d) (e:=d) (t':=s.toks) (h':=s.heap) (by rw[h];exact mu) (.inl rfl) (λb v _ q=>q) ⟨od,e⟩ new⟩
end
section
variable {X:Cx}
end
section
variable {X:Cx} {tg:Expr}
end
section
variable {X:Cx} {tg:Expr}
end
section
variable {prog:Program} {w:World} {A:cC} {E:Value->Shared->Prop} {s:Shared}
end
section
variable {X:Cx} {pins:List (ai×fB)} {σ:St} {H:Hp} {s:Shared} {d:ai} {o:fB}
end
section
variable {P:Program} {w:World} {K:al} {tg:Expr} {d:ai} {o:fB} {es:Array Dj} {ep:Nat}
end
section
variable {X:Cx} {tg e:Expr} {td:TE} {apos cpos:Pos}
end
abbrev Ite(K:al)(a:ai):It:=
 ⟨λi H=>∃(xs:List V) (x:V),fj K H a xs/\xs[i]?=some x,λi H v H'=>∃T x,v=.ref T/\H T=none/\H'=upd H T (.tup [.int (i:Nat),x])/\∀xs,fj K H a xs->xs[i]?=some x,λi H=>∃xs:List V,fj K H a xs/\xs.length<=i⟩
theorem Kj{P:Program}{w:World}{K:al}{elts:List Expr}{kk:Nat}{tpos:Pos}(a e it:ai):
 Mb P w K (.Tuple elts kk tpos) (Ite K a) [e,it] e (λi h=>(∃old,IsEnum h e it ((i:Nat):Int) old)/\h.IsListIter it a i/\e≠it) where
 mem:=by simp
 obj:=λi h st b hb=>by
  obtain⟨⟨old,he⟩,⟨o,ho,hc,hd⟩,_⟩:=st;have e':b=e\/b=it:=by simpa using hb
  rcases e' with z | z
  . rw[z];exact⟨_,he,λv q=>nomatch q⟩
  . rw[z];exact⟨o,ho,λv q=>by rw[hd]at q;cases q⟩
 keep:=λi h h' st k=>let⟨⟨old,he⟩,hi,hne⟩:=st;⟨⟨old,k e (by simp) _ he⟩,hi.at λo q=>k it (by simp) o q,hne⟩
 item:=by
  intro X hP hw hK hc i pins s σ H E I hf st hg;subst hP hw hK;obtain⟨⟨old,he⟩,hit,hne⟩:=st;obtain⟨xs,x,hq,hx⟩:=hg;obtain⟨its,rv,p,hz⟩:=I.list hq;obtain⟨u,hu,ru⟩:=rv.get hx;have hel:e<s.heap.objs.size:=Heap.lt_size he;have hil:it<s.heap.objs.size:=by obtain⟨_,q,_⟩:=hit;exact Heap.lt_size q
  refine wpAny_pyNext_enum_item he hit p.isList (x:=u) (by simpa using hu) hne λh' ho hit' hT hsz hk=>?_;refine⟨_,rfl,wpAny_letOwnedTupleGo_enum (s:={s with heap:=h',toks:=s.toks+1}) ho λh'' he' sb=>?_⟩;have hT2:h''.get? s.heap.objs.size=some {cls:=.type "tuple",data:=.seq #[.int i s.toks,u]}:=(sb.2 _ (wT hel)).trans hT;have new:iG X.prog X.w (upd H s.heap.objs.size (.tup [.int (i:Nat),x])) h'' s.heap.objs.size (.tup [.int (i:Nat),x]):=
   ⟨by show 2<=bY;decide,[.int i s.toks,u],.cons ⟨_,rfl⟩ (.cons ru .nil),⟨_,hT2,rfl,_,rfl⟩⟩
  have I1:Inv X pins σ (upd H s.heap.objs.size (.tup [.int (i:Nat),x])) {s with heap:=h'',toks:=s.toks+1}:=
   I.turnedNew (ch:=[e,it]) (λb ob hb q=>(sb.2 b (λz=>hb (by simp [z]))).trans (hk b ob (λz=>hb (by simp [z])) (λz=>hb (by simp [z])) q)) hf (aO _) new
  refine⟨.ref s.heap.objs.size,_,I1,rfl,⟨_,x,rfl,I.hok.fresh (aO _),rfl,λys hy=>by rw[I.list_inj hy hq];exact hx⟩,⟨⟨u,?_⟩,hit'.at λo q=>(sb.2 it (jN hne)).trans q,hne⟩,λb hb=>?_⟩
  . have e1:((i+1:Nat):Int)=(i:Int)+1:=by lia
    rw[e1];exact he'
  . have hb':b<s.heap.objs.size:=by
     have e':b=e\/b=it:=by simpa using hb
     rcases e' with z | z
     . rw[z];exact hel
     . rw[z];exact hil
    rw[bU (cQ hb')];exact(hf b hb).1
 done:=by
  intro X hP hw hK hc i pins s σ H E I hf st hg;subst hP hw hK;obtain⟨⟨old,he⟩,hit,hne⟩:=st;obtain⟨xs,hq,hx⟩:=hg;obtain⟨its,rv,p,hz⟩:=I.list hq;obtain⟨f0,f1,f2,f3,f4,f5⟩:=hf it (by simp);have hl:=rv.length;exact wpAny_pyNext_enum_end (I.ok.hd hc) he hit p.isList (by simp;lia) λh' eb=>⟨rfl,I.turned (t':=s.toks) (λb o hb q=>eb b o hb q) f0 f1 f3 f4 f5⟩
 self:=λA i s Q E st h=>let⟨⟨_,he⟩,_⟩:=st;XS he h
abbrev YH(K:al)(ta:TA):TI:=λσ H R=>ta σ H λvs H1=>∃a xs,vs=[.ref a]/\fj K H1 a xs/\R (Ite K a) H1
theorem Qt{X:Cx}{e:Expr}{ta:TA}{p pos tpos:Pos}{elts:List Expr}{kk:Nat}(hg:Gl X "enumerate")(hm:X.mg "enumerate"=none)(ha:PA X [e] ta)(hs:aW [e] X.env=[(false,b4 e X.env)]:=by rfl):
 PI X (.Tuple elts kk tpos) (.Call (.Name "enumerate" p) [e] [] pos) (YH X.K ta):=by
 intro pins s σ H R I h;refine Call_ (vb I hg hm boot_enumerate (eS (fQ (ha pos pins s σ H _ I h) λus s1 ⟨vs,H1,I1,r1,q1⟩=>?_) hs rfl));obtain⟨a,xs,ex,hq,q⟩:=q1;subst ex;cases r1 with
 | cons r rr=>
  cases rr;cases r;obtain⟨its,rv,p',hz⟩:=I1.list hq;refine call_enumerate_list p'.isList λh' he hit hsz hk=>XS he ?_;have I2:Inv X pins σ H1 {s1 with heap:=h'}:=I1.kept (t':=s1.toks) hk;refine⟨s1.heap.objs.size+1,[s1.heap.objs.size+1,s1.heap.objs.size],_,_,H1,rfl,I2,Kj a (s1.heap.objs.size+1) s1.heap.objs.size,⟨⟨.none,he⟩,hit,Nat.succ_ne_self _⟩,λb hb=>?_,q⟩;have e':b=s1.heap.objs.size+1\/b=s1.heap.objs.size:=by simpa using hb
  have hle:s1.heap.objs.size<=b:=by
   rcases e' with z | z
   . rw[z];exact gz _ _
   . rw[z];exact aO _
  exact I1.fpOk hle (I1.hok.fresh hle)
theorem Kk:jf "zip"=some (.type "zip"):=by decide+kernel
abbrev Itz(K:al)(a b:ai):It:=
 ⟨λi H=>∃(xs ys:List V) (x y:V),fj K H a xs/\fj K H b ys/\xs[i]?=some x/\ys[i]?=some y,
  λi H v H'=>∃T x y,v=.ref T/\H T=none/\H'=upd H T (.tup [x,y])/\(∀xs,fj K H a xs->xs[i]?=some x)/\∀ys,fj K H b ys->ys[i]?=some y,
  λi H=>∃xs ys:List V,fj K H a xs/\fj K H b ys/\(xs.length<=i\/ys.length<=i)⟩
theorem Mv{P:Program}{w:World}{K:al}{elts:List Expr}{kk:Nat}{tpos:Pos}{a b z TI TO i1 i2:ai}(D:ZipApart z TI TO i1 i2 a b):
 Mb P w K (.Tuple elts kk tpos) (Itz K a b) [z,TI,TO,i1,i2] z (λi h=>IsZip h z TI TO .none/\IsPair h TI (.ref i1) (.ref i2)/\(∃x y,IsPair h TO x y)/\h.IsListIter i1 a i/\h.IsListIter i2 b i) where
 mem:=by simp
 obj:=λi h st c hc=>by
  obtain⟨hz,hTI,⟨x,y,hTO⟩,⟨o1,e1,_,d1⟩,⟨o2,e2,_,d2⟩⟩:=st;have e':c=z\/c=TI\/c=TO\/c=i1\/c=i2:=by simpa using hc
  rcases e' with q | q | q | q | q
  . rw[q];exact⟨_,hz,λv q=>nomatch q⟩
  . rw[q];exact⟨_,hTI,λv q=>nomatch q⟩
  . rw[q];exact⟨_,hTO,λv q=>nomatch q⟩
  . rw[q];exact⟨o1,e1,λv q=>by rw[d1]at q;cases q⟩
  . rw[q];exact⟨o2,e2,λv q=>by rw[d2]at q;cases q⟩
 keep:=λi h h' st k=>by
  obtain⟨hz,hTI,⟨x,y,hTO⟩,h1,h2⟩:=st;exact⟨k z (by simp) _ hz,k TI (by simp) _ hTI,⟨x,y,k TO (by simp) _ hTO⟩,h1.at λo q=>k i1 (by simp) o q,h2.at λo q=>k i2 (by simp) o q⟩
 item:=by
  intro X hP hw hK hc i pins s σ H E I hf st hg;subst hP hw hK;obtain⟨hz,hTI,⟨x0,y0,hTO⟩,h1,h2⟩:=st;obtain⟨xs,ys,x,y,hqx,hqy,hx,hy⟩:=hg;obtain⟨its,rv,p,_⟩:=I.list hqx;obtain⟨its2,rv2,p2,_⟩:=I.list hqy;obtain⟨u,hu,ru⟩:=rv.get hx;obtain⟨u2,hu2,ru2⟩:=rv2.get hy;have hzl:z<s.heap.objs.size:=Heap.lt_size hz;refine wpAny_pyNext_zip_item D hz hTI hTO h1 h2 p.isList p2.isList (x:=u) (y:=u2) (by simpa using hu) (by simpa using hu2) λh' z' TO' h1' h2' hT hsz hk=>?_;refine⟨_,rfl,wpAny_letOwnedTupleGo_zip (s:={s with heap:=h'}) z' λh'' z'' sb=>?_⟩;have hT2:h''.get? s.heap.objs.size=some {cls:=.type "tuple",data:=.seq #[u,u2]}:=(sb.2 _ (wT hzl)).trans hT;have new:iG X.prog X.w (upd H s.heap.objs.size (.tup [x,y])) h'' s.heap.objs.size (.tup [x,y]):=
   ⟨by show 2<=bY;decide,[u,u2],.cons ru (.cons ru2 .nil),⟨_,hT2,rfl,_,rfl⟩⟩
  have I1:Inv X pins σ (upd H s.heap.objs.size (.tup [x,y])) {s with heap:=h''}:=
   I.turnedNew (t':=s.toks) (ch:=[z,TI,TO,i1,i2]) (λc o hb q=>(sb.2 c (λq'=>hb (by simp [q']))).trans (hk c o (λq'=>hb (by simp [q'])) (λq'=>hb (by simp [q'])) (λq'=>hb (by simp [q'])) (λq'=>hb (by simp [q'])) q)) hf (aO _) new
  refine⟨.ref s.heap.objs.size,_,I1,rfl,⟨_,x,y,rfl,I.hok.fresh (aO _),rfl,λl hl=>by rw[I.list_inj hl hqx];exact hx,λl hl=>by rw[I.list_inj hl hqy];exact hy⟩,⟨z'',?_,⟨u,u2,?_⟩,?_,?_⟩,λc hcm=>?_⟩
  . exact(sb.2 _ D.TIz).trans (hk _ _ D.TIz D.TITO D.TIi1 D.TIi2 hTI)
  . exact(sb.2 _ D.TOz).trans TO'
  . exact h1'.at λo q=>(sb.2 _ D.i1z).trans q
  . exact h2'.at λo q=>(sb.2 _ D.i2z).trans q
  . have hlt:c<s.heap.objs.size:=by
     have e':c=z\/c=TI\/c=TO\/c=i1\/c=i2:=by simpa using hcm
     rcases e' with q | q | q | q | q
     . rw[q];exact hzl
     . rw[q];exact Heap.lt_size hTI
     . rw[q];exact Heap.lt_size hTO
     . rw[q];obtain⟨_,e1,_⟩:=h1;exact Heap.lt_size e1
     . rw[q];obtain⟨_,e2,_⟩:=h2;exact Heap.lt_size e2
    rw[bU (cQ hlt)];exact(hf c hcm).1
 done:=by
  intro X hP hw hK hc i pins s σ H E I hf st hg;subst hP hw hK;obtain⟨hz,hTI,⟨x0,y0,hTO⟩,h1,h2⟩:=st;obtain⟨xs,ys,hqx,hqy,hend⟩:=hg;obtain⟨its,rv,p,_⟩:=I.list hqx;obtain⟨its2,rv2,p2,_⟩:=I.list hqy;have l1:=rv.length;have l2:=rv2.length;have he:its.toArray[i]?=none\/its2.toArray[i]?=none:=by
   rcases hend with q | q
   . exact .inl (by simp;lia)
   . exact .inr (by simp;lia)
  exact wpAny_pyNext_zip_end (I.ok.hd hc) D hz hTI hTO h1 h2 p.isList p2.isList he λh' hk=>⟨rfl,I.turnedL (t':=s.toks) (ch:=[z,TI,TO,i1,i2]) (λc o hb q=>
   hk c o (λq'=>hb (by simp [q'])) (λq'=>hb (by simp [q'])) (λq'=>hb (by simp [q'])) (λq'=>hb (by simp [q'])) q) hf⟩
 self:=λA i s Q E st h=>Z0 st.1 h
abbrev a1v(K:al)(ta:TA):TI:=λσ H R=>ta σ H λvs H1=>∃a b xs ys,vs=[.ref a,.ref b]/\fj K H1 a xs/\fj K H1 b ys/\R (Itz K a b) H1
theorem UL {X:Cx} {e e2:Expr} {ta:TA} {p pos tpos:Pos} {elts:List Expr} {kk:Nat} (hg:Gl X "zip") (hm:X.mg "zip"=none) (ha:PA X [e,e2] ta)
 (hs:aW [e,e2] X.env=(false,b4 e X.env)::aW [e2] X.env:=by rfl) (hpl:(gP pos (aW [e2] X.env)).any (·.1)=false:=by rfl):
 PI X (.Tuple elts kk tpos) (.Call (.Name "zip" p) [e,e2] [] pos) (a1v X.K ta):=by
 intro pins s σ H R I h;refine Call_ (vb I hg hm Kk (eS (fQ (ha pos pins s σ H _ I h) λus s1 ⟨vs,H1,I1,r1,q1⟩=>?_) hs hpl));obtain⟨a,b,xs,ys,ex,hqx,hqy,q⟩:=q1;subst ex;cases r1 with
 | cons r rr=>
  cases rr with
  | cons r' rr=>
   cases rr;cases r;cases r';obtain⟨its,rv,p1,_⟩:=I1.list hqx;obtain⟨its2,rv2,p2,_⟩:=I1.list hqy;have la:a<s1.heap.objs.size:=p1.lt;have lb:b<s1.heap.objs.size:=p2.lt;refine call_zip_2 p1.isList p2.isList λh' hz hTI hTO h1 h2 hsz hk=>Z0 hz ?_;have I2:Inv X pins σ H1 {s1 with heap:=h'}:=I1.kept (t':=s1.toks) hk;refine⟨s1.heap.objs.size+4,[s1.heap.objs.size+4,s1.heap.objs.size+2,s1.heap.objs.size+3,s1.heap.objs.size,s1.heap.objs.size+1],_,_,H1,rfl,I2,Mv (PySem.W.ktu_apart s1.heap.objs.size a b la lb),⟨hz,hTI,⟨_,_,hTO⟩,h1,h2⟩,λc hcm=>?_,q⟩;have e':c=s1.heap.objs.size+4\/c=s1.heap.objs.size+2\/c=s1.heap.objs.size+3\/c=s1.heap.objs.size\/c=s1.heap.objs.size+1:=by simpa using hcm
   have hle:s1.heap.objs.size<=c:=by
    rcases e' with z | z | z | z | z
    . rw[z];exact gz _ _
    . rw[z];exact gz _ _
    . rw[z];exact gz _ _
    . rw[z];exact aO _
    . rw[z];exact gz _ _
   exact I1.fpOk hle (I1.hok.fresh hle)
end L2
section
namespace Bits
open PySem PyProof.Rows
end Bits
end
section
namespace TL
open PySem PySem.Builtin PySem.Builtin.Str PySem.StrLaws
end TL
end
namespace L2
open PySem PySem.Spec PyProof.Rows
section
variable {X:Cx} {pins:List (ai×fB)} {σ:St} {H:Hp} {s:Shared} {Q:VK}
end
section
variable {X:Cx}
end
section
variable {X:Cx} {o e:Expr} {to te:TE}
end
section
variable {X:Cx}
end
end L2
namespace Att
open PySem PySem.W PySem.Calls PyProof.Rows
section
variable {prog:Program} {w:World} {A:cC} {E:Value->Shared->Prop} {s:Shared} {K:Frag}
end
end Att
namespace L2
open PySem PySem.Spec PyProof.Rows
abbrev mL(s:Stmt):Dm:=match s with
 | .FunctionDef _ a _ _ _ _ _ _ _ _=>a
 | _=>{posonlyargs:=[],args:=[],vararg:=none,kwonlyargs:=[],kw_defaults:=[],kwarg:=none,defaults:=[]}
abbrev gT(s:Stmt):List Stmt:=match s with
 | .FunctionDef _ _ b _ _ _ _ _ _ _=>b
 | _=>[]
abbrev bW(s:Stmt):fV:=match s with
 | .FunctionDef _ _ _ _ _ _ sc _ _ _=>sc
 | _=>{kind:=.function,names:=[],isGenerator:=false,isCoroutine:=false}
@[reducible]def sH:Ke:=λ_ _ _ _ _ _=>False
@[reducible]def E0:XK:=λ_ _ _=>False
theorem xT{X:Cx}:sG sH X E0:=λ_ _ _ _ _ _ _ h=>h.elim
structure LM (K:al) (x qual:Str) (st:Stmt) (f:ai) (fd:dJ):Prop where
 ex:∃(oc:Value) (od:Option ai) (kV doc pm:Value) (an:Option ai) (cdv ct:Value) (osl:Array (Option Value)),
  fd=uX x qual (mL st) (gT st) (bW st) .none kV doc pm an cdv ct/\K.lookup f=some ⟨oc,od,.func fd,osl⟩/\Ps K cdv qual=true
 kp:cx K (.ref f)=true
section
variable {P:Program} {w:World} {K:al} {mg:Str->Option Value} {base:Heap}
theorem LM.ok {x qual:Str} {st:Stmt} {f:ai} {fd:dJ} {N ps:List Str} {k:Nat} {sp:Sp} (F:LM K x qual st f fd) (S:jq N ps (bW st)) (len:∀vs H Q E,sp vs H Q E->vs.length=ps.length)
 (hbody:∀(cdv:Value) (A:cC) (outer:List tD) (s:Shared) (H:Hp) (vs:List V) (Q:VK) (E:XK),je k (A.deeper (zH qual (bW st) s.heap.objs.size f cdv))->sp vs H Q E->
  ∃t,PSs (Bs sH P w K mg base N qual (bW st) f cdv A outer s H E).nox (gT st) t/\t {nx:=λ_ H'=>Q .non H',rt:=Q} (start N vs) H):gC P w K mg base sH (k+1) f fd ps sp:=by
 obtain⟨oc,od,kV,doc,pm,an,cdv,ct,osl,rfl,lk,hcd⟩:=F.ex;refine Yu lk hcd S len λA outer s H vs Q E hr hsp=>?_;obtain⟨t,h,q⟩:=hbody cdv A outer s H vs Q E hr hsp;exact⟨t,h.nox,q⟩
theorem LM.binds {x qual:Str} {st:Stmt} {f:ai} {fd:dJ} {ps:List Str} (F:LM K x qual st f fd)
 (h:∀(kV doc pm:Value) (an:Option ai) (cdv ct:Value) (us:List Value),us.length=ps.length->SS (uX x qual (mL st) (gT st) (bW st) .none kV doc pm an cdv ct) ⟨us,[]⟩=pure (ps.zip us)):Binds K fd ps []:=by
 obtain⟨oc,od,kV,doc,pm,an,cdv,ct,osl,rfl,lk,hcd⟩:=F.ex;exact .all (h kV doc pm an cdv ct)
end
section
variable {X:Cx}
end
abbrev cZ(H H':Hp):Prop:=∀b o,H b=some o->H' b=some o
theorem cZ.refl(H:Hp):cZ H H:=λ_ _ h=>h
theorem cZ.trans{H H1 H2:Hp}(a:cZ H H1)(b:cZ H1 H2):cZ H H2:=λc o h=>b c o (a c o h)
theorem cZ.free{H H':Hp}(e:cZ H H'){l:ai}(h:H' l=Xv):H l=Xv:=by
 cases q:H l with
 | none=>rfl
 | some o=>
  rw[e l o q]at h;cases h
section
variable {κ:Type} [DecidableEq κ]
end
theorem Tk{α:Type}{l:List α}(hN:l.Nodup){i j:Nat}{x:α}(a:l[i]?=some x)(b:l[j]?=some x):i=j:=by
 obtain⟨h1,e1⟩:=az.mp a;obtain⟨h2,e2⟩:=az.mp b;exact(kU hN).mp (e1.trans e2.symm)
end L2
namespace Sq
structure jP where
 a:Int
 b:Int
 c:Int
 ts:List Int
 ks:List Int
 e:Int
 g:Int
 deriving DecidableEq
inductive PV where
 | int (i:Int) | bl (b:Bool) | non
 | il (xs:List Int) | bls (bs:List Bool) | tups (ts:List (List Int)) | tup (t:List Int)
 | ent (k:Nat) (n:Int) | fn (k:Nat) | obj | pic (q:jP) | pics (l:List jP)
 | fil (xs:List Int)
 | fzl (xs:List Int) | pr (g f:List Int) | prs (l:List (List Int×List Int))
 deriving DecidableEq
inductive vi where
 | add | sub | mul | mod | fdiv
inductive LN where
 | lt | le | gt | ge | eq | ne | mem | nmem
inductive Ty where
 | I | B | T | P | G
inductive Bi where
 | len | sum | min | max | list | tuple | abs
inductive CE where
 | n (i:Int) | litb (b:Bool) | none_ | v (i:Nat) | g (j:Nat) | fld (v j:Nat)
 | b (o:vi) (a b:CE) | neg (a:CE) | c (o:LN) (a b:CE) | chain (o o':LN) (a b c:CE)
 | and (a b:CE) | or (a b:CE) | not (a:CE) | i (c a b:CE)
 | call (k:Nat) (as:CE) | z | k (a r:CE)
 | bi (f:Bi) (a:CE) | min2 (a b:CE) | max2 (a b:CE)
 | idx (a i:CE) | sl (a:CE) | slLo (a lo:CE) | slHi (a hi:CE) | slBoth (a lo hi:CE)
 | index (a b:CE) | count (a b:CE)
 | lst (ty:Ty) (as:CE) | tpl (as:CE)
 | comp (ty:Ty) (s:Nat) (it c e:CE) | comp2 (ty:Ty) (s s':Nat) (it c e:CE)
 | rng1 (hi:CE) | rng (lo hi:CE) | enum (a:CE) | zip (a b:CE)
 | dget (g:Nat) (a:CE) | din (g:Nat) (a:CE)
 | mth (v k:Nat)
 | fz (a:CE)
def mq:Nat:=16000000
abbrev ixN(n:Nat)(i:Int):Option Nat:=if 0<=i then(if i<n then some i.toNat else none)else if -(n:Int)<=i then some (i+n).toNat else none
abbrev atI{α:Type}(xs:List α)(i:Int):Option α:=(ixN xs.length i).bind λj=>xs[j]?
abbrev sIx(n d:Nat):Option Int->Nat
 | none=>d
 | some v=>if v<0 then(v+(n:Int)).toNat else min v.toNat n
abbrev xU{α:Type}(xs:List α)(lo hi:Option Int):List α:=(xs.drop (sIx xs.length 0 lo)).take (sIx xs.length xs.length hi-sIx xs.length 0 lo)
def vZ:Int:=18446744073709551616
def dr:Int:=4611686018427387904
instance bd0(i:Int):Decidable (-vZ<i/\i<vZ):=decidable_of_iff (i.natAbs<18446744073709551616) (by unfold vZ;lia)
instance bd1(k:Int)(n:Nat):Decidable (k<vZ/2/\ -(vZ/2)<=k/\n<=mq):=decidable_of_iff ((k.toNat<9223372036854775808/\(-k).toNat<=9223372036854775808)/\n<=mq) (by rw[show vZ/2=9223372036854775808 by decide];lia)
instance bd2(j:Int):Decidable (-dr<=j/\j<dr):=decidable_of_iff (j.toNat<4611686018427387904/\(-j).toNat<=4611686018427387904) (by unfold dr;lia)
instance bd3(i j:Int):Decidable (-dr<=i/\i<dr/\ -dr<=j/\j<dr):=decidable_of_iff ((-dr<=i/\i<dr)/\ -dr<=j/\j<dr) and_assoc
instance bd4(j:Int):Decidable (0<j/\j<1073741824):=decidable_of_iff (0<j.toNat/\j.toNat<1073741824) (by lia)
abbrev xV:Int->List Int->Int
 | a,[]=>a
 | a,b::r=>xV (if b<a then b else a) r
abbrev xW:Int->List Int->Int
 | a,[]=>a
 | a,b::r=>xW (if a<b then b else a) r
abbrev sJ:vi->PV->PV->Option PV
 | .add,.int i,.int j=>some (.int (i+j))
 | .add,.il xs,.il ys=>if xs.length+ys.length<=mq then some (.il (xs++ys))else none
 | .add,.fzl xs,.il ys=>if xs.length+ys.length<=mq then some (.il (xs++ys))else none
 | .add,.il xs,.fzl ys=>if xs.length+ys.length<=mq then some (.il (xs++ys))else none
 | .sub,.int i,.int j=>some (.int (i-j))
 | .mul,.int i,.int j=>if(-vZ<i/\i<vZ)\/(-vZ<j/\j<vZ)then some (.int (i*j))else none
 | .mul,.il xs,.int k=>if k<vZ/2/\ -(vZ/2)<=k/\xs.length*k.toNat<=mq then some (.il (aJ k.toNat xs).flatten)else none
 | .mod,.int i,.int j=>if 0<j then some (.int (i%j))else none
 | .fdiv,.int i,.int j=>if 0<j/\j<1073741824 then some (.int (i/j))else none
 | _,_,_=>none
abbrev u5:LN->PV->PV->Option Bool
 | .lt,.int i,.int j=>some (decide (i<j))
 | .le,.int i,.int j=>some (decide (i<=j))
 | .gt,.int i,.int j=>some (decide (j<i))
 | .ge,.int i,.int j=>some (decide (j<=i))
 | .eq,.int i,.int j=>some (decide (i=j))
 | .ne,.int i,.int j=>some (!decide (i=j))
 | .eq,.bl i,.bl j=>some (decide (i=j))
 | .ne,.bl i,.bl j=>some (!decide (i=j))
 | .eq,.il xs,.il ys=>some (decide (xs=ys))
 | .ne,.il xs,.il ys=>some (!decide (xs=ys))
 | .eq,.pic x,.pic y=>some (decide (x=y))
 | .ne,.pic x,.pic y=>some (!decide (x=y))
 | .mem,.int i,.il xs=>some (decide (i∈xs))
 | .nmem,.int i,.il xs=>some (!decide (i∈xs))
 | .mem,.int i,.fzl xs=>some (decide (i∈xs))
 | .nmem,.int i,.fzl xs=>some (!decide (i∈xs))
 | _,_,_=>none
abbrev mx:Bi->PV->Option PV
 | .len,.il xs=>some (.int xs.length)
 | .len,.bls xs=>some (.int xs.length)
 | .len,.tups xs=>some (.int xs.length)
 | .len,.tup xs=>some (.int xs.length)
 | .len,.pics xs=>some (.int xs.length)
 | .len,.fil xs=>some (.int xs.length)
 | .len,.prs xs=>some (.int xs.length)
 | .len,.fzl xs=>some (.int xs.length)
 | .sum,.il xs=>some (.int xs.sum)
 | .min,.il (a::xs)=>some (.int (xV a xs))
 | .max,.il (a::xs)=>some (.int (xW a xs))
 | .list,.il xs=>some (.il xs)
 | .list,.tup xs=>some (.il xs)
 | .tuple,.il xs=>some (.tup xs)
 | .abs,.int i=>some (.int (if i<0 then -i else i))
 | _,_=>none
abbrev iI(x:PV):PV->Option PV
 | .int i=>match x with
  | .il xs=>(atI xs i).map .int
  | .bls xs=>(atI xs i).map .bl
  | .tups xs=>(atI xs i).map .tup
  | .tup xs=>(atI xs i).map .int
  | .fil xs=>(atI xs i).map .int
  | .ent k n=>if i=0 then some (.fn k)else if i=1 then some (.int n)else none
  | .prs xs=>(atI xs i).map λp=>.pr p.1 p.2
  | .pr g f=>if i=0 then some (.fzl g)else if i=1 then some (.fzl f)else none
  | .fzl xs=>(atI xs i).map .int
  | .pic q=>atI [PV.int q.a,.int q.b,.int q.c,.tup q.ts,.tup q.ks,.int q.e,.int q.g] i
  | _=>none
 | _=>none
abbrev xX(lo hi:Option Int):PV->Option PV
 | .il xs=>some (.il (xU xs lo hi))
 | .bls xs=>some (.bls (xU xs lo hi))
 | .tups xs=>some (.tups (xU xs lo hi))
 | .fil xs=>some (.il (xU xs lo hi))
 | _=>none
abbrev By:PV->PV->Option PV
 | .il xs,.int i=>if i∈xs then some (.int (xs.idxOf i))else none
 | _,_=>none
abbrev t8:PV->PV->Option PV
 | .il xs,.int i=>some (.int (xs.count i))
 | .bls xs,.bl b=>some (.int (xs.count b))
 | _,_=>none
abbrev dB:PV->Option Int
 | .int i=>some i
 | _=>none
abbrev gn:PV->Option Bool
 | .bl b=>some b
 | _=>none
abbrev Au:PV->Option (List Int)
 | .tup t=>some t
 | _=>none
abbrev vj:PV->Option jP
 | .pic q=>some q
 | _=>none
abbrev Gj:PV->Option (List Int×List Int)
 | .pr g f=>some (g,f)
 | _=>none
abbrev ow:PV->Option (List Int)
 | .il t=>some t
 | _=>none
abbrev fH{α:Type}(f:PV->Option α):List PV->Option (List α)
 | []=>some []
 | x::r=>(f x).bind λy=>(fH f r).bind λl=>some (y::l)
abbrev nr:Ty->List PV->Option PV
 | .I,l=>(fH dB l).map .il
 | .B,l=>(fH gn l).map .bls
 | .T,l=>(fH Au l).map .tups
 | .P,l=>(fH vj l).map .pics
 | .G,l=>(fH Gj l).map .prs
abbrev fzv:PV->Option (List Int)
 | .fzl x=>some x
 | _=>none
abbrev Tl:List PV->Option PV
 | [a,b,c,t,k,e,g]=>(dB a).bind λa=>(dB b).bind λb=>(dB c).bind λc=>(Au t).bind λt=>(Au k).bind λk=>(dB e).bind λe=>(dB g).map λg=>.pic ⟨a,b,c,t,k,e,g⟩
 | [g,f]=>(fzv g).bind λg=>(fzv f).map λf=>.pr g f
 | _=>none
abbrev xY(vs:List PV):Option PV:=match fH dB vs with
 | some is=>some (.tup is)
 | none=>Tl vs
abbrev items:PV->Option (List PV)
 | .il xs=>some (xs.map .int)
 | .bls xs=>some (xs.map .bl)
 | .tups xs=>some (xs.map .tup)
 | .fzl xs=>some (xs.map .int)
 | .prs xs=>some (xs.map λp=>.pr p.1 p.2)
 | _=>none
abbrev gf(lo:Int)(n:Nat):List Int:=(af n).map λ(k:Nat)=>lo+(k:Int)
abbrev jr(f:PV->Option (Option PV)):List PV->Option (List PV)
 | []=>some []
 | x::r=>(f x).bind λo=>(jr f r).bind λl=>some (match o with
  | some y=>y::l
  | none=>l)
abbrev gg:PV->Option (PV×PV)
 | .tup [a,b]=>some (.int a,.int b)
 | .pr g f=>some (.fzl g,.fzl f)
 | _=>none
abbrev Av:PV->Option PV
 | .il xs=>some (.fzl xs)
 | _=>none
@[reducible]def Loc:=List (Option PV)
abbrev getL(l:Loc)(i:Nat):Option PV:=match l[i]? with
 | some (some v)=>some v
 | _=>none
structure gH where
 fn:Nat->List PV->List PV->Option PV
 c:Nat->Option PV
 fm:Nat->List PV->List PV->Option (PV×List PV)
 d:Nat->Int->Option PV
structure M3 where
 v:Loc->Option PV
 as:Loc->Option (List PV)
 it:Loc->Option (List PV)
abbrev M3.ofV(f:Loc->Option PV):M3:=⟨f,λ_=>none,λl=>(f l).bind items⟩
abbrev M3.ofI(f:Loc->Option (List PV)):M3:=⟨λ_=>none,λ_=>none,f⟩
abbrev M3.ofA(f:Loc->Option (List PV)):M3:=⟨λ_=>none,f,λ_=>none⟩
abbrev b6(G:gH)(hs:List PV):CE->M3
 | .n i=>.ofV λ_=>some (.int i)
 | .litb b=>.ofV λ_=>some (.bl b)
 | .none_=>.ofV λ_=>some .non
 | .v i=>.ofV λl=>getL l i
 | .g j=>.ofV λ_=>G.c j
 | .fld v j=>.ofV λl=>(getL l v).bind λo=>if o=.obj then hs[j]? else none
 | .b o a b=>.ofV λl=>((b6 G hs a).v l).bind λx=>((b6 G hs b).v l).bind λy=>sJ o x y
 | .neg a=>.ofV λl=>((b6 G hs a).v l).bind λx=>(dB x).map λi=>.int (-i)
 | .c o a b=>.ofV λl=>((b6 G hs a).v l).bind λx=>((b6 G hs b).v l).bind λy=>(u5 o x y).map .bl
 | .chain o o' a b c=>.ofV λl=>((b6 G hs a).v l).bind λx=>((b6 G hs b).v l).bind λy=>(u5 o x y).bind λk=>
  if k then((b6 G hs c).v l).bind λz=>(u5 o' y z).map .bl else some (.bl false)
 | .and a b=>.ofV λl=>((b6 G hs a).v l).bind λx=>(gn x).bind λk=>if k then((b6 G hs b).v l).bind λy=>(gn y).map .bl else some (.bl false)
 | .or a b=>.ofV λl=>((b6 G hs a).v l).bind λx=>(gn x).bind λk=>if k then some (.bl true)else((b6 G hs b).v l).bind λy=>(gn y).map .bl
 | .not a=>.ofV λl=>((b6 G hs a).v l).bind λx=>(gn x).map λk=>.bl (!k)
 | .i c a b=>.ofV λl=>((b6 G hs c).v l).bind λx=>(gn x).bind λk=>if k then(b6 G hs a).v l else(b6 G hs b).v l
 | .call k as=>.ofV λl=>((b6 G hs as).as l).bind λvs=>G.fn k vs hs
 | .z=>.ofA λ_=>some []
 | .k a r=>.ofA λl=>((b6 G hs a).v l).bind λx=>((b6 G hs r).as l).bind λxs=>some (x::xs)
 | .bi f a=>.ofV λl=>((b6 G hs a).v l).bind λx=>mx f x
 | .min2 a b=>.ofV λl=>((b6 G hs a).v l).bind λx=>((b6 G hs b).v l).bind λy=>(dB x).bind λi=>(dB y).map λj=>.int (if j<i then j else i)
 | .max2 a b=>.ofV λl=>((b6 G hs a).v l).bind λx=>((b6 G hs b).v l).bind λy=>(dB x).bind λi=>(dB y).map λj=>.int (if j>i then j else i)
 | .idx a i=>.ofV λl=>((b6 G hs a).v l).bind λx=>((b6 G hs i).v l).bind λy=>iI x y
 | .sl a=>.ofV λl=>((b6 G hs a).v l).bind λx=>xX none none x
 | .slLo a lo=>.ofV λl=>((b6 G hs a).v l).bind λx=>((b6 G hs lo).v l).bind λy=>(dB y).bind λi=>xX (some i) none x
 | .slHi a hi=>.ofV λl=>((b6 G hs a).v l).bind λx=>((b6 G hs hi).v l).bind λy=>(dB y).bind λi=>xX none (some i) x
 | .slBoth a lo hi=>.ofV λl=>((b6 G hs a).v l).bind λx=>((b6 G hs lo).v l).bind λy=>((b6 G hs hi).v l).bind λz=>
  (dB y).bind λi=>(dB z).bind λj=>xX (some i) (some j) x
 | .index a b=>.ofV λl=>((b6 G hs a).v l).bind λx=>((b6 G hs b).v l).bind λy=>By x y
 | .count a b=>.ofV λl=>((b6 G hs a).v l).bind λx=>((b6 G hs b).v l).bind λy=>t8 x y
 | .lst ty as=>.ofV λl=>((b6 G hs as).as l).bind λvs=>if vs.length<=mq then nr ty vs else none
 | .tpl as=>.ofV λl=>((b6 G hs as).as l).bind λvs=>if vs.length<=mq then xY vs else none
 | .comp ty s it c e=>.ofV λl=>((b6 G hs it).it l).bind λxs=>if xs.length<=mq then
  (jr (λx=>((b6 G hs c).v (l.set s (some x))).bind λb=>(gn b).bind λk=>if k then((b6 G hs e).v (l.set s (some x))).map some else some none) xs).bind (nr ty)else none
 | .comp2 ty s s' it c e=>.ofV λl=>((b6 G hs it).it l).bind λxs=>if xs.length<=mq then
  (jr (λx=>(gg x).bind λp=>((b6 G hs c).v ((l.set s (some p.1)).set s' (some p.2))).bind λb=>(gn b).bind λk=>
   if k then((b6 G hs e).v ((l.set s (some p.1)).set s' (some p.2))).map some else some none) xs).bind (nr ty)else none
 | .rng1 a=>.ofI λl=>((b6 G hs a).v l).bind λx=>(dB x).bind λj=>if -dr<=j/\j<dr then some ((gf 0 j.toNat).map .int)else none
 | .rng a b=>.ofI λl=>((b6 G hs a).v l).bind λx=>((b6 G hs b).v l).bind λy=>(dB x).bind λi=>(dB y).bind λj=>
  if -dr<=i/\i<dr/\ -dr<=j/\j<dr then some ((gf i (j-i).toNat).map .int)else none
 | .enum a=>.ofI λl=>((b6 G hs a).v l).bind λx=>(ow x).map λxs=>(xs.zipIdx.map λp=>.tup [(p.2:Int),p.1])
 | .zip a b=>.ofI λl=>((b6 G hs a).v l).bind λx=>((b6 G hs b).v l).bind λy=>(ow x).bind λxs=>(ow y).map λys=>(xs.zip ys).map λp=>.tup [p.1,p.2]
 | .dget g a=>.ofV λl=>((b6 G hs a).v l).bind λx=>(dB x).bind λi=>G.d g i
 | .din g a=>.ofV λl=>((b6 G hs a).v l).bind λx=>(dB x).map λi=>.bl (G.d g i).isSome
 | .fz a=>.ofV λl=>((b6 G hs a).v l).bind Av
 | .mth v k=>.ofV λl=>(getL l v).bind λo=>if o=.obj then(hs[0]?).bind λ_=>G.fn k [.obj] hs else none
end Sq
namespace Sq
inductive CS where
 | nil | seq (s r:CS)
 | set (i:Nat) (e:CE) | setIdx (i:Nat) (ix e:CE) | aug (o:vi) (i:Nat) (e:CE) | augIdx (o:vi) (i:Nat) (ix e:CE)
 | app (i:Nat) (e:CE) | ext (i:Nat) (e:CE) | ret (e:CE)
 | i (c:CE) (a b:CS) | whl (c:CE) (b:CS) | for1 (i:Nat) (it:CE) (b:CS) | for2 (i j:Nat) (it:CE) (b:CS)
 | brk | cont | pass
 | setF (v j:Nat) (e:CE) | appF (v j:Nat) (e:CE)
 | exM (k:Nat) (as:CE) | setM (i k:Nat) (as:CE) | retM (k:Nat) (as:CE) | retD (i:Nat) (as:CE)
 | exMm (v k:Nat) (as:CE) | exPop (v k j:Nat) | popF (v j:Nat)
 | popI (v j:Nat) (e:CE) | rmF (v j:Nat) (e:CE) | setI (v j:Nat) (ix e:CE)
structure Sx where
 loc:Loc
 own:List Nat
 hs:List PV
 rw:Bool
inductive Fl where
 | next | ret (v:PV) | brk | cont
abbrev fJ:PV->Bool
 | .il _=>true
 | .bls _=>true
 | .tups _=>true
 | .pics _=>true
 | .prs _=>true
 | _=>false
abbrev jT:CE->Bool
 | .v _=>false
 | .fld _ _=>false
 | .g _=>false
 | .i _ a b=>jT a&&jT b
 | _=>true
abbrev ft:CE->List Nat
 | .v i=>[i]
 | .enum a=>ft a
 | .zip a b=>ft a++ft b
 | _=>[]
abbrev rW:CE->Bool
 | .fld _ _=>true
 | _=>false
abbrev Gk(own:List Nat):CE->Bool
 | .v i=>own.contains i
 | _=>false
abbrev Sx.ev(S:Sx)(G:gH)(c:CE):Option PV:=(b6 G S.hs c).v S.loc
abbrev Sx.evI(S:Sx)(G:gH)(c:CE):Option (List PV):=(b6 G S.hs c).it S.loc
abbrev Sx.evA(S:Sx)(G:gH)(c:CE):Option (List PV):=(b6 G S.hs c).as S.loc
abbrev argsOk:CE->List PV->Bool
 | .k (.v _) r,_::vs=>argsOk r vs
 | .k a r,v::vs=>(!fJ v||jT a)&&argsOk r vs
 | _,_=>true
abbrev Sx.drop(S:Sx)(is:List Nat):Sx:={S with own:=S.own.filter λk=>!is.contains k}
abbrev Sx.put(S:Sx)(i:Nat)(p:PV):Sx:={S with loc:=S.loc.set i (some p),own:=S.own.filter λk=>!(k==i)}
abbrev Sx.putL(S:Sx)(i:Nat)(p:PV):Sx:={S with loc:=S.loc.set i (some p),own:=i::S.own.filter λk=>!(k==i)}
abbrev Sx.upd(S:Sx)(i:Nat)(p:PV):Sx:={S with loc:=S.loc.set i (some p)}
abbrev mM:PV->PV->PV->Option PV
 | .il xs,.int k,.int v=>(ixN xs.length k).map λj=>.il (xs.set j v)
 | .bls xs,.int k,.bl v=>(ixN xs.length k).map λj=>.bls (xs.set j v)
 | .tups xs,.int k,.tup v=>(ixN xs.length k).map λj=>.tups (xs.set j v)
 | _,_,_=>none
abbrev pB:PV->PV->Option PV
 | .il xs,.int v=>if xs.length<mq then some (.il (xs++[v]))else none
 | .bls xs,.bl v=>if xs.length<mq then some (.bls (xs++[v]))else none
 | .tups xs,.tup v=>if xs.length<mq then some (.tups (xs++[v]))else none
 | .pics xs,.pic v=>if xs.length<mq then some (.pics (xs++[v]))else none
 | .prs xs,.pr g f=>if xs.length<mq then some (.prs (xs++[(g,f)]))else none
 | _,_=>none
abbrev DQ:PV->PV->Option PV
 | .il xs,.il ys=>if xs.length+ys.length<=mq then some (.il (xs++ys))else none
 | _,_=>none
abbrev Bz(o:vi)(x y:PV):Option PV:=(dB x).bind λi=>(dB y).bind λj=>sJ o (.int i) (.int j)
abbrev jU(tst:Sx->Option Bool)(body:Sx->Option (Fl×Sx)):Nat->Sx->Option (Fl×Sx)
 | 0,_=>none
 | n+1,S=>(tst S).bind λb=>if b then(body S).bind λr=>match r.1 with
  | .next=>jU tst body n r.2
  | .cont=>jU tst body n r.2
  | .brk=>some (.next,r.2)
  | .ret v=>some (.ret v,r.2)
  else some (.next,S)
abbrev hC(step:PV->Sx->Option Sx)(body:Sx->Option (Fl×Sx)):List PV->Sx->Option (Fl×Sx)
 | [],S=>some (.next,S)
 | x::r,S=>(step x S).bind λS1=>(body S1).bind λo=>match o.1 with
  | .next=>hC step body r o.2
  | .cont=>hC step body r o.2
  | .brk=>some (.next,o.2)
  | .ret v=>some (.ret v,o.2)
abbrev IU:PV->PV->Option PV
 | .il xs,.int i=>if 0<=i/\i<xs.length/\xs.length<=mq then some (.il (xs.eraseIdx i.toNat))else none
 | _,_=>none
abbrev rmv:PV->PV->Option PV
 | .il xs,.int i=>if i∈xs then some (.il (xs.erase i))else none
 | _,_=>none
abbrev Qu:PV->Option PV
 | .pics (_::r)=>some (.pics r)
 | .il (_::r)=>some (.il r)
 | _=>none
abbrev UM:PV->Option (PV×PV)
 | .pics l=>(l[l.length-1]?).map λq=>(.pic q,.pics l.dropLast)
 | _=>none
abbrev exec(G:gH)(n:Nat):CS->Sx->Option (Fl×Sx)
 | .nil,S=>some (.next,S)
 | .seq s r,S=>(exec G n s S).bind λo=>match o.1 with
  | .next=>exec G n r o.2
  | f=>some (f,o.2)
 | .set i e,S=>(S.ev G e).bind λp=>if fJ p then(if jT e then some (.next,S.putL i p)else none)else some (.next,S.put i p)
 | .setIdx i ix e,S=>(S.ev G e).bind λv=>(S.ev G ix).bind λk=>(getL S.loc i).bind λx=>if S.own.contains i then(mM x k v).map λp=>(.next,S.upd i p)else none
 | .aug o i e,S=>(getL S.loc i).bind λx=>(S.ev G e).bind λy=>(Bz o x y).map λp=>(.next,S.put i p)
 | .augIdx o i ix e,S=>(getL S.loc i).bind λx=>(S.ev G ix).bind λk=>(iI x k).bind λold=>(S.ev G e).bind λy=>(Bz o old y).bind λnew=>
  if S.own.contains i then(mM x k new).map λp=>(.next,S.upd i p)else none
 | .app i e,S=>(getL S.loc i).bind λx=>(S.ev G e).bind λv=>if S.own.contains i then(pB x v).map λp=>(.next,S.upd i p)else none
 | .ext i e,S=>(getL S.loc i).bind λx=>(S.ev G e).bind λv=>if S.own.contains i then(DQ x v).map λp=>(.next,S.upd i p)else none
 | .ret e,S=>(S.ev G e).bind λp=>if !fJ p||jT e||Gk S.own e then some (.ret p,S)else none
 | .i c a b,S=>(S.ev G c).bind λp=>(gn p).bind λk=>if k then exec G n a S else exec G n b S
 | .whl c b,S=>jU (λS=>(S.ev G c).bind gn) (exec G n b) n S
 | .for1 i it b,S=>(S.evI G it).bind λps=>if ps.all (λp=>!fJ p)&&!(rW it&&S.rw)then hC (λx S=>some (S.put i x)) (exec G n b) ps (S.drop (ft it))else none
 | .for2 i j it b,S=>(S.evI G it).bind λps=>if rW it&&S.rw then none else hC (λx S=>(gg x).map λp=>(S.put i p.1).put j p.2) (exec G n b) ps (S.drop (ft it))
 | .brk,S=>some (.brk,S)
 | .cont,S=>some (.cont,S)
 | .pass,S=>some (.next,S)
 | .setF v j e,S=>(S.ev G e).bind λp=>(getL S.loc v).bind λo=>if o=.obj/\S.rw=true/\j<S.hs.length/\(fJ p=true->jT e=true)then some (.next,{S with hs:=S.hs.set j p})else none
 | .exM k as,S=>(S.evA G as).bind λvs=>if argsOk as vs&&S.rw then(G.fm k vs S.hs).map λr=>(.next,{S with hs:=r.2})else none
 | .setM i k as,S=>(S.evA G as).bind λvs=>if argsOk as vs&&S.rw then(G.fm k vs S.hs).map λr=>(.next,if fJ r.1 then{S with hs:=r.2}.putL i r.1 else{S with hs:=r.2}.put i r.1)else none
 | .retM k as,S=>(S.evA G as).bind λvs=>if argsOk as vs&&S.rw then(G.fm k vs S.hs).map λr=>(.ret r.1,{S with hs:=r.2})else none
 | .retD i as,S=>(getL S.loc i).bind λf=>(S.evA G as).bind λvs=>match f with
  | .fn k=>if argsOk as vs&&S.rw then(G.fm k vs S.hs).map λr=>(.ret r.1,{S with hs:=r.2})else none
  | _=>none
 | .appF v j e,S=>(getL S.loc v).bind λo=>(S.hs[j]?).bind λx=>(S.ev G e).bind λy=>if o=.obj/\S.rw=true then(pB x y).map λp=>(.next,{S with hs:=S.hs.set j p})else none
 | .exMm v k as,S=>(getL S.loc v).bind λo=>(S.evA G as).bind λvs=>if o=.obj/\S.hs≠[]/\(argsOk as vs&&S.rw)=true then(G.fm k (.obj::vs) S.hs).map λr=>(.next,{S with hs:=r.2})else none
 | .exPop v k j,S=>(getL S.loc v).bind λo=>(S.hs[j]?).bind λx=>(UM x).bind λr=>if o=.obj/\S.rw=true then(G.fm k [.obj,r.1] (S.hs.set j r.2)).map λt=>(.next,{S with hs:=t.2})else none
 | .popF v j,S=>(getL S.loc v).bind λo=>(S.hs[j]?).bind λx=>if o=.obj/\S.rw=true then(Qu x).map λp=>(.next,{S with hs:=S.hs.set j p})else none
 | .popI v j e,S=>(getL S.loc v).bind λo=>(S.hs[j]?).bind λx=>(S.ev G e).bind λy=>if o=.obj/\S.rw=true then(IU x y).map λp=>(.next,{S with hs:=S.hs.set j p})else none
 | .rmF v j e,S=>(getL S.loc v).bind λo=>(S.hs[j]?).bind λx=>(S.ev G e).bind λy=>if o=.obj/\S.rw=true then(rmv x y).map λp=>(.next,{S with hs:=S.hs.set j p})else none
 | .setI v j ix e,S=>(S.ev G e).bind λy=>(getL S.loc v).bind λo=>(S.hs[j]?).bind λx=>(S.ev G ix).bind λk=>if o=.obj/\S.rw=true then(mM x k y).map λp=>(.next,{S with hs:=S.hs.set j p})else none
end Sq
namespace Sq
structure rX where
 ar:Nat
 nn:Nat
 body:CS
abbrev Qv(t:List (Int×Nat×Int))(i:Int):Option PV:=(t.lookup i).map λp=>.ent p.1 p.2
abbrev wa(n:Nat)(ps:List PV):Loc:=ps.map some++aJ (n-ps.length) none
abbrev DR(G:gH)(n:Nat)(d:rX)(ps hs:List PV):Option PV:=
 if ps.length=d.ar then(exec G n d.body ⟨wa d.nn ps,[],hs,false⟩).bind λo=>match o.1 with
  | .ret p=>some p
  | _=>none
 else none
abbrev BB(G:gH)(n:Nat)(d:rX)(ps hs:List PV):Option (PV×List PV):=
 if ps.length=d.ar then(exec G n d.body ⟨wa d.nn ps,[],hs,true⟩).bind λo=>if o.2.rw then match o.1 with
  | .ret p=>some (p,o.2.hs)
  | .next=>some (.non,o.2.hs)
  | _=>none
  else none
 else none
section
variable (cs:Nat->Option PV) (ds:Nat->Int->Option PV) (n:Nat)
abbrev iJ(B:Nat->rX):Nat->Nat->List PV->List PV->Option PV
 | 0=>λ_ _ _=>none
 | j+1=>λk ps hs=>if k=j then DR ⟨iJ B j,cs,λ_ _ _=>none,ds⟩ n (B j) ps hs else iJ B j k ps hs
abbrev js(F:Nat->List PV->List PV->Option PV)(B:Nat->rX):Nat->Nat->List PV->List PV->Option (PV×List PV)
 | 0=>λ_ _ _=>none
 | j+1=>λk ps hs=>if k=j then BB ⟨F,cs,js F B j,ds⟩ n (B j) ps hs else js F B j k ps hs
theorem ox(B:Nat->rX){k:Nat}:∀{j:Nat},k<j->iJ cs ds n B j k=λps hs=>DR ⟨iJ cs ds n B k,cs,λ_ _ _=>none,ds⟩ n (B k) ps hs
 | j+1,h=>by
  funext ps hs
  show(if k=j then _ else _)=_;by_cases e:k=j
  . subst e;rw[if_pos rfl]
  . rw[if_neg e,ox B (by lia)]
theorem oy(F:Nat->List PV->List PV->Option PV)(B:Nat->rX){k:Nat}:∀{j:Nat},k<j->js cs ds n F B j k=λps hs=>BB ⟨F,cs,js cs ds n F B k,ds⟩ n (B k) ps hs
 | j+1,h=>by
  funext ps hs
  show(if k=j then _ else _)=_;by_cases e:k=j
  . subst e;rw[if_pos rfl]
  . rw[if_neg e,oy F B (by lia)]
theorem IV(F:Nat->List PV->List PV->Option PV)(B:Nat->rX){k:Nat}:∀{j:Nat} {as hs:List PV} {r:PV×List PV},js cs ds n F B j k as hs=some r->k<j
 | 0,_,_,_,h=>by cases h
 | j+1,as,hs,r,h=>by
  have h':(if k=j then BB ⟨F,cs,js cs ds n F B j,ds⟩ n (B j) as hs else js cs ds n F B j k as hs)=some r:=h;by_cases e:k=j
  . lia
  . rw[if_neg e]at h';have:=IV F B h';lia
end
end Sq
namespace Sq
abbrev DT:List PV:=[.int 0,.int 0,.int 0,.il [],.il [],.int 0,.int 0,.pics []]
abbrev TAB:List (List (Int×Nat×Int)):=[[(32,0,0),(33,1,0),(34,2,2),(35,3,1),(36,4,1),(37,5,1),(38,6,1),(39,7,2),(40,8,2),(41,9,2),(42,10,1),(43,11,1),(44,12,0),(45,13,0)],[(64,113,1),(65,15,1),(66,16,2),(67,17,2),(68,18,1),(69,19,1),(70,20,1),(71,21,0),(72,22,0),(73,23,0),(74,24,1),(75,25,0),(76,26,0),(77,27,4),(78,28,0),(79,29,2)],[(46,30,0),(47,31,2),(48,32,1),(49,33,1),(50,34,1),(51,35,1),(52,36,0),(53,37,0),(54,38,2),(55,39,2),(56,40,2),(57,41,1),(58,42,1),(59,43,1),(60,44,2),(61,45,1),(62,46,1),(63,47,0)],[(80,114,1),(81,49,1),(82,50,0),(83,51,1),(84,52,1),(85,53,0),(86,54,2),(87,55,1),(88,56,2),(89,57,2),(90,58,1),(91,59,1),(92,60,0),(93,61,0),(94,62,0),(95,63,0),(96,64,2)],[(16,65,1),(17,66,1),(18,67,1),(19,68,0),(20,69,1),(21,70,2),(22,71,2),(23,72,1),(24,73,1),(25,74,1),(26,75,2),(27,76,3),(28,77,1),(29,78,1),(30,79,0),(31,80,1)],[(0,115,1),(1,116,1),(2,119,0),(3,82,0),(4,83,0),(5,84,1),(6,85,1),(7,117,0),(8,118,0),(9,86,0),(10,87,0),(11,88,0),(12,89,1),(13,90,1),(14,91,0),(15,92,0)],[(97,93,1),(98,94,1),(99,95,0),(100,96,0),(101,97,1),(102,98,1),(103,99,1),(104,100,1),(105,101,1),(106,102,2),(107,103,1),(108,104,0),(109,105,2),(110,106,1),(111,107,1),(112,108,1),(113,109,2),(114,110,1)]]
section
set_option hygiene false in
local macro_rules
 | `(⟨$a,*⟩)=>do
  let mut r<- `(CS.nil)
  for x in a.getElems.reverse do r<- `(CS.seq $x $r)
  return r
 | `(#[$a,*])=>do
  let mut r<- `(CE.z)
  for x in a.getElems.reverse do r<- `(CE.k $x $r)
  return r
 | `([$a,*])=>do
  let mut r<- `(CE.z)
  for x in a.getElems.reverse do r<- `(CE.k $x $r)
  `(CE.lst .I $r)
abbrev mN:CS:=⟨.set 2 [],.set 3 (.b .mod (.v 0) (.v 1)),.whl (.c .nmem (.v 3) (.v 2)) ⟨.app 2 (.v 3),.set 3 (.b .mod (.b .mul (.v 3) (.v 3)) (.v 1))⟩,.ret (.v 2)⟩
abbrev lM:CS:=⟨.i (.or (.c .lt (.v 0) (.n 3)) (.c .eq (.b .mod (.v 0) (.n 2)) (.n 0))) ⟨.ret (.litb false)⟩ .nil,.set 1 (.n 3),.whl (.c .le (.b .mul (.v 1) (.v 1)) (.v 0)) ⟨.i (.c .eq (.b .mod (.v 0) (.v 1)) (.n 0)) ⟨.ret (.litb false)⟩ .nil,.aug .add 1 (.n 2)⟩,.ret (.litb true)⟩
abbrev oz:CS:=⟨.set 1 (.b .mul [.g 10] (.v 0)),.setIdx 1 (.n 0) (.g 8),.for1 2 (.rng (.n 1) (.v 0)) ⟨.setIdx 1 (.b .mod (.b .mul (.v 2) (.v 2)) (.v 0)) (.g 9)⟩,.ret (.v 1)⟩
abbrev li:CS:=⟨.set 3 (.n 0),.for2 4 5 (.zip (.v 0) (.v 1)) ⟨.aug .add 3 (.b .mul (.b .mul (.v 4) (.v 5)) (.v 5))⟩,.ret (.b .mod (.v 3) (.v 2))⟩
abbrev gw:CS:=⟨.set 2 (.n 1),.for1 3 (.v 0) ⟨.set 2 (.b .mod (.b .mul (.v 2) (.v 3)) (.v 1))⟩,.ret (.v 2)⟩
abbrev oA:CS:=⟨.set 2 (.n 1),.for1 3 (.rng1 (.v 1)) ⟨.aug .mul 2 (.v 0)⟩,.ret (.v 2)⟩
abbrev lj:CS:=⟨.set 4 (.comp .I 9 (.rng (.v 3) (.v 2)) (.litb true) (.b .mod (.b .mul (.b .mul (.v 1) (.v 9)) (.v 9)) (.v 2))),.set 5 (.b .mul [.n 0] (.v 2)),.for2 6 7 (.enum (.v 0)) ⟨.for1 8 (.v 4) ⟨.augIdx .add 5 (.b .mod (.b .add (.v 6) (.v 8)) (.v 2)) (.v 7)⟩⟩,.ret (.v 5)⟩
abbrev qR:CS:=⟨.ret (.c .lt (.v 0) (.bi .len (.fld 1 3)))⟩
abbrev qS:CS:=⟨.ret (.b .fdiv (.v 0) (.n 2))⟩
abbrev jt:CS:=⟨.ret (.comp .I 2 (.rng (.n 1) (.v 1)) (.litb true) (.b .mod (.b .mul (.v 0) (.v 2)) (.v 1)))⟩
abbrev oB:CS:=⟨.set 3 [.v 1],.set 4 (.b .mod (.b .mul (.v 0) (.v 1)) (.v 2)),.whl (.c .ne (.v 4) (.v 1)) ⟨.app 3 (.v 4),.set 4 (.b .mod (.b .mul (.v 0) (.v 4)) (.v 2))⟩,.ret (.v 3)⟩
abbrev oC:CS:=⟨.ret (.c .lt (.b .mul (.v 1) (.fld 2 0)) (.b .mul (.v 0) (.fld 2 2)))⟩
abbrev qT:CS:=⟨.ret (.c .lt (.v 0) (.b .mul (.fld 1 0) (.fld 1 2)))⟩
abbrev kc:CS:=⟨.ret (.b .fdiv (.b .mul (.v 0) (.b .sub (.v 0) (.n 1))) (.n 2))⟩
abbrev gU:CS:=⟨.ret (.c .eq (.b .mod (.v 0) (.n 4)) (.n 1))⟩
abbrev oE:CS:=⟨.ret (.c .lt (.v 0) (.fld 1 0))⟩
abbrev ju:CS:=⟨.ret (.b .add [.bi .len (.v 0)] (.v 0))⟩
abbrev qU:CS:=⟨.ret (.or (.c .eq (.v 0) (.g 9)) (.c .eq (.v 0) (.g 10)))⟩
abbrev mO:CS:=⟨.set 2 [.n 1],.set 3 (.b .mod (.v 0) (.v 1)),.whl (.c .nmem (.v 3) (.v 2)) ⟨.app 2 (.v 3),.set 3 (.b .mod (.b .mul (.v 3) (.v 0)) (.v 1))⟩,.ret (.v 2)⟩
abbrev i7:CS:=⟨.ret (.and (.chain .le .le (.g 16) (.v 0) (.g 17)) (.c .eq (.b .mod (.b .sub (.v 1) (.n 1)) (.v 0)) (.n 0)))⟩
abbrev f8:CS:=⟨.set 2 (.b .mul [.n 0] (.v 1)),.for1 3 (.v 0) ⟨.for1 4 (.v 0) ⟨.augIdx .add 2 (.b .mod (.b .sub (.v 3) (.v 4)) (.v 1)) (.n 1)⟩⟩,.ret (.slLo (.v 2) (.n 1))⟩
abbrev oF:CS:=⟨.ret (.c .lt (.v 0) (.fld 1 5))⟩
abbrev mP:CS:=⟨.ret (.tpl #[.fld 0 0,.fld 0 1,.fld 0 2,.bi .tuple (.fld 0 3),.bi .tuple (.fld 0 4),.fld 0 5,.fld 0 6])⟩
abbrev sK:CS:=⟨.i (.din 4 (.v 0)) ⟨.ret (.dget 4 (.v 0))⟩ .nil,.i (.din 0 (.v 0)) ⟨.ret (.dget 0 (.v 0))⟩ .nil,.i (.din 2 (.v 0)) ⟨.ret (.dget 2 (.v 0))⟩ .nil,.i (.din 1 (.v 0)) ⟨.ret (.dget 1 (.v 0))⟩ .nil,.i (.din 3 (.v 0)) ⟨.ret (.dget 3 (.v 0))⟩ .nil,.i (.din 6 (.v 0)) ⟨.ret (.dget 6 (.v 0))⟩ .nil,.ret (.dget 5 (.v 0))⟩
abbrev qV:CS:=⟨.set 2 (.call 0 #[.v 0,.v 1]),.ret (.index (.v 2) (.b .mod (.b .mul (.idx (.v 2) (.neg (.n 1))) (.idx (.v 2) (.neg (.n 1)))) (.v 1)))⟩
abbrev nt:CS:=⟨.ret (.idx (.call 2 #[.v 1]) (.b .mod (.v 0) (.v 1)))⟩
abbrev fO:CS:=⟨.set 2 (.call 2 #[.v 1]),.ret (.comp .I 3 (.rng (.n 1) (.v 1)) (.c .eq (.idx (.v 2) (.v 3)) (.v 0)) (.v 3))⟩
abbrev ll:CS:=⟨.set 3 (.b .mul [.n 0] (.v 1)),.setIdx 3 (.n 0) (.n 1),.for1 4 (.v 0) ⟨.set 3 (.call 6 #[.v 3,.v 4,.v 1,.v 2])⟩,.ret (.v 3)⟩
abbrev qW:CS:=⟨.ret (.chain .le .le (.n 1) (.v 0) (.call 8 #[.v 1]))⟩
abbrev mQ:CS:=⟨.ret (.c .gt (.v 0) (.call 8 #[.v 1]))⟩
abbrev fc:CS:=⟨.ret (.slHi (.call 9 #[.v 0,.v 1]) (.call 8 #[.v 1]))⟩
abbrev iP:CS:=⟨.set 2 (.call 9 #[.v 0,.v 1]),.set 3 (.n 0),.for2 4 5 (.enum (.v 2)) ⟨.aug .add 3 (.bi .len (.comp .I 6 (.slLo (.v 2) (.b .add (.v 4) (.n 1))) (.c .lt (.v 6) (.v 5)) (.v 6)))⟩,.ret (.v 3)⟩
abbrev gx:CS:=⟨.set 2 (.comp .I 3 (.rng (.n 1) (.v 1)) (.c .eq (.bi .min (.call 10 #[.v 0,.v 3,.v 1])) (.v 3)) (.v 3)),.ret (.b .sub (.b .sub (.v 1) (.n 1)) (.bi .len (.v 2)))⟩
abbrev oG:CS:=⟨.ret (.bi .len (.comp .I 2 (.rng (.n 1) (.b .add (.call 8 #[.fld 1 2]) (.n 1))) (.call 11 #[.v 0,.v 2,.v 1]) (.v 2)))⟩
abbrev qX:CS:=⟨.ret (.bi .len (.comp .I 2 (.rng (.n 1) (.b .add (.call 8 #[.fld 1 0]) (.n 1))) (.not (.call 11 #[.v 2,.v 0,.v 1])) (.v 2)))⟩
abbrev iQ:CS:=⟨.set 2 (.call 2 #[.v 1]),.ret (.comp .I 3 (.rng1 (.v 1)) (.c .eq (.idx (.v 2) (.b .mod (.b .sub (.v 3) (.v 0)) (.v 1))) (.g 9)) (.v 3))⟩
abbrev ga:CS:=⟨.set 2 (.call 2 #[.v 1]),.ret (.comp .I 3 (.rng1 (.v 1)) (.c .eq (.idx (.v 2) (.b .mod (.b .sub (.v 0) (.v 3)) (.v 1))) (.g 9)) (.v 3))⟩
abbrev eA:CS:=⟨.i (.or (.not (.call 15 #[.v 1,.v 0])) (.not (.call 15 #[.v 2,.v 0]))) ⟨.ret (.g 0)⟩ .nil,.ret (.i (.c .eq (.v 1) (.v 2)) (.g 4) (.g 14))⟩
abbrev jv:CS:=⟨.set 2 (.call 2 #[.v 1]),.set 3 (.lst .T .z),.for1 4 (.rng (.n 1) (.v 1)) ⟨.i (.and (.c .eq (.idx (.v 2) (.v 4)) (.v 0)) (.c .eq (.idx (.v 2) (.b .sub (.v 4) (.n 1))) (.v 0))) ⟨.setIdx 3 (.neg (.n 1)) (.tpl #[.idx (.idx (.v 3) (.neg (.n 1))) (.n 0),.b .add (.idx (.idx (.v 3) (.neg (.n 1))) (.n 1)) (.n 1)])⟩ ⟨.i (.c .eq (.idx (.v 2) (.v 4)) (.v 0)) ⟨.app 3 (.tpl #[.v 4,.n 1])⟩ .nil⟩⟩,.ret (.v 3)⟩
abbrev lm:CS:=⟨.ret (.c .eq (.bi .len (.call 18 #[.v 0,.v 1])) (.b .sub (.v 1) (.n 1)))⟩
abbrev oH:CS:=⟨.ret (.index (.call 18 #[.v 1,.v 2]) (.b .mod (.v 0) (.v 2)))⟩
abbrev fP:CS:=⟨.set 1 (.b .mul [.g 18] (.fld 0 0)),.for2 2 3 (.enum (.call 18 #[.fld 0 6,.fld 0 0])) ⟨.setIdx 1 (.v 3) (.b .mod (.v 2) (.fld 0 5))⟩,.ret (.v 1)⟩
abbrev qY:CS:=⟨.set 2 (.call 20 #[.v 0,.v 1]),.ret (.c .eq (.bi .min (.v 2)) (.bi .max (.v 2)))⟩
abbrev eB:CS:=⟨.ret (.and (.chain .le .le (.g 19) (.v 0) (.g 20)) (.call 1 #[.v 0]))⟩
abbrev jw:CS:=⟨.ret (.slLo (.call 0 #[.v 0,.v 1]) (.call 24 #[.v 0,.v 1]))⟩
abbrev oJ:CS:=⟨.ret (.comp .I 1 (.rng (.n 1) (.v 0)) (.litb true) (.call 24 #[.v 1,.v 0]))⟩
abbrev lz:CS:=⟨.set 2 (.call 25 #[.v 0,.v 1]),.i (.c .eq (.v 2) (.g 8)) ⟨.ret (.n 0)⟩ .nil,.ret (.i (.c .eq (.v 2) (.g 9)) (.n 1) (.neg (.n 1)))⟩
abbrev ig:CS:=⟨.ret (.call 27 #[.v 0,.v 1,.n 0])⟩
abbrev gW:CS:=⟨.ret (.call 27 #[.v 0,.v 1,.n 1])⟩
abbrev p9:CS:=⟨.ret (.i (.call 29 #[.v 0,.v 1]) (.b .sub (.v 1) (.v 0)) (.v 0))⟩
abbrev jx:CS:=⟨.ret (.bi .len (.comp .I 2 (.call 30 #[.v 0,.v 1]) (.call 29 #[.v 2,.v 1]) (.v 2)))⟩
abbrev oK:CS:=⟨.ret (.c .eq (.call 25 #[.b .sub (.v 1) (.v 0),.v 2]) (.g 9))⟩
abbrev gh:CS:=⟨.set 2 (.comp .I 3 (.rng1 (.v 1)) (.c .nmem (.v 3) (.v 0)) (.v 3)),.for1 3 (.v 0) ⟨.set 4 (.call 36 #[.v 3,.v 1]),.set 2 (.comp .I 5 (.v 2) (.c .mem (.v 5) (.v 4)) (.v 5))⟩,.ret (.v 2)⟩
abbrev kf:CS:=⟨.set 2 (.bi .list (.v 0)),.for1 3 (.v 0) ⟨.ext 2 (.comp .I 4 (.call 35 #[.v 3,.v 1]) (.c .nmem (.v 4) (.v 2)) (.v 4))⟩,.ret (.v 2)⟩
abbrev fe:CS:=⟨.set 2 (.lst .G .z),.for2 3 4 (.v 0) ⟨.for1 5 (.v 4) ⟨.set 6 (.call 35 #[.v 5,.v 1]),.app 2 (.tpl #[.fz (.b .add (.v 3) [.v 5]),.fz (.comp .I 7 (.v 4) (.and (.c .gt (.v 7) (.v 5)) (.c .mem (.v 7) (.v 6))) (.v 7))])⟩⟩,.ret (.v 2)⟩
abbrev eQ:CS:=⟨.set 1 (.n 0),.for1 2 (.fld 0 4) ⟨.set 3 (.call 35 #[.v 2,.fld 0 0]),.aug .add 1 (.bi .len (.comp .I 4 (.fld 0 4) (.c .mem (.v 4) (.v 3)) (.v 4)))⟩,.ret (.v 1)⟩
abbrev ln:CS:=⟨.set 1 (.n 1),.whl (.not (.call 39 #[.v 1,.v 0])) ⟨.aug .add 1 (.n 1)⟩,.ret (.v 1)⟩
abbrev mR:CS:=⟨.ret (.comp .I 1 (.rng (.n 1) (.v 0)) (.call 39 #[.v 1,.v 0]) (.v 1))⟩
abbrev lp:CS:=⟨.set 2 (.call 41 #[.v 1]),.ret (.comp .I 3 (.rng (.n 1) (.fld 1 0)) (.c .eq (.idx (.v 2) (.v 3)) (.v 0)) (.v 3))⟩
abbrev jy:CS:=⟨.set 2 (.call 41 #[.v 1]),.set 3 (.b .mul [.n 0] (.fld 1 5)),.for1 4 (.rng (.n 1) (.b .sub (.fld 1 0) (.n 1))) ⟨.i (.c .eq (.idx (.v 2) (.v 4)) (.v 0)) ⟨.augIdx .add 3 (.idx (.v 2) (.b .add (.v 4) (.n 1))) (.n 1)⟩ .nil⟩,.ret (.v 3)⟩
abbrev qZ:CS:=⟨.ret (.idx (.call 44 #[.v 0,.v 1]) (.n 0))⟩
abbrev jz:CS:=⟨.ret (.bi .max (.call 45 #[.v 0]))⟩
abbrev iR:CS:=⟨.set 1 [],.for1 2 (.rng (.n 1) (.v 0)) ⟨.set 3 (.call 44 #[.v 2,.v 0]),.i (.and (.c .eq (.bi .min (.v 3)) (.v 2)) (.c .eq (.call 24 #[.v 2,.v 0]) (.n 0))) ⟨.app 1 (.bi .len (.v 3))⟩ .nil⟩,.ret (.v 1)⟩
abbrev cq:CS:=⟨.set 3 (.bi .len (.v 0)),.i (.c .eq (.v 3) (.n 0)) ⟨.ret (.i (.c .eq (.b .mod (.v 1) (.v 2)) (.n 0)) (.n 1) (.n 0))⟩ .nil,.set 4 (.b .fdiv (.v 3) (.n 2)),.set 5 (.call 4 #[.v 0,.v 2]),.i (.c .eq (.b .mod (.v 4) (.n 2)) (.n 1)) ⟨.set 5 (.b .mul (.v 5) (.b .sub (.v 2) (.n 1)))⟩ .nil,.set 6 (.call 5 #[.v 2,.b .sub (.v 3) (.n 1)]),.i (.c .eq (.b .mod (.v 3) (.n 2)) (.n 1)) ⟨.ret (.b .add (.v 6) (.b .mul (.call 46 #[.b .mul (.v 1) (.v 5),.v 2]) (.call 5 #[.v 2,.v 4])))⟩ .nil,.set 7 (.i (.c .eq (.b .mod (.v 1) (.v 2)) (.n 0)) (.b .sub (.v 2) (.n 1)) (.neg (.n 1))),.ret (.b .add (.v 6) (.b .mul (.b .mul (.call 46 #[.v 5,.v 2]) (.call 5 #[.v 2,.b .sub (.v 4) (.n 1)])) (.v 7)))⟩
abbrev iS:CS:=⟨.set 4 [],.set 5 (.b .mod (.v 1) (.v 3)),.set 6 (.v 2),.for2 7 8 (.enum (.v 0)) ⟨.set 9 (.call 47 #[.slLo (.v 0) (.b .add (.v 7) (.n 1)),.v 3]),.set 10 (.n 0),.set 11 (.v 5),.whl (.c .ge (.v 6) (.idx (.v 9) (.v 11))) ⟨.aug .sub 6 (.idx (.v 9) (.v 11)),.aug .add 10 (.n 1),.set 11 (.b .mod (.b .sub (.v 5) (.b .mul (.b .mul (.v 8) (.v 10)) (.v 10))) (.v 3))⟩,.app 4 (.v 10),.set 5 (.v 11)⟩,.ret (.v 4)⟩
abbrev kg:CS:=⟨.ret (.call 47 #[.fld 0 3,.fld 0 0])⟩
abbrev ff:CS:=⟨.set 2 (.lst .G #[.tpl #[.v 0,.fz (.comp .I 4 (.call 52 #[.v 0,.v 1]) (.c .gt (.v 4) (.idx (.v 0) (.neg (.n 1)))) (.v 4))]]),.set 3 (.v 0),.whl (.c .gt (.bi .len (.v 2)) (.n 0)) ⟨.set 3 (.idx (.idx (.v 2) (.n 0)) (.n 0)),.set 2 (.call 54 #[.v 2,.v 1])⟩,.ret (.v 3)⟩
abbrev kh:CS:=⟨.ret (.idx (.call 41 #[.v 0]) (.b .mod (.b .mul (.idx (.call 58 #[.v 1,.v 0]) (.n 0)) (.v 2)) (.fld 0 0)))⟩
abbrev lN:CS:=⟨.i (.c .eq (.fld 0 1) (.n 0)) ⟨.ret [.g 1]⟩ .nil,.setF 0 1 (.b .mod (.b .mul (.fld 0 1) (.fld 0 1)) (.fld 0 0)),.ret [.fld 0 1]⟩
abbrev hJ:CS:=⟨.i (.c .eq (.fld 0 1) (.n 0)) ⟨.ret [.g 1]⟩ .nil,.set 1 (.comp .I 2 (.rng (.n 1) (.fld 0 0)) (.c .eq (.b .mod (.b .mul (.v 2) (.v 2)) (.fld 0 0)) (.fld 0 1)) (.v 2)),.i (.c .eq (.bi .len (.v 1)) (.n 0)) ⟨.ret [.g 6]⟩ .nil,.setF 0 1 (.idx (.v 1) (.n 0)),.ret [.fld 0 1]⟩
abbrev lA:CS:=⟨.i (.c .eq (.b .mod (.v 1) (.fld 0 0)) (.n 0)) ⟨.ret [.g 4]⟩ .nil,.set 3 (.call 0 #[.v 1,.fld 0 0]),.i (.c .lt (.v 2) (.bi .len (.v 3))) ⟨.ret [.idx (.v 3) (.v 2)]⟩ .nil,.set 4 (.call 44 #[.v 1,.fld 0 0]),.ret [.idx (.v 4) (.b .mod (.b .sub (.v 2) (.call 24 #[.v 1,.fld 0 0])) (.bi .len (.v 4)))]⟩
abbrev qa:CS:=⟨.i (.c .eq (.b .mod (.v 1) (.fld 0 0)) (.n 0)) ⟨.ret [.g 4]⟩ .nil,.ret [.call 24 #[.v 1,.fld 0 0]]⟩
abbrev qb:CS:=⟨.i (.c .eq (.b .mod (.v 1) (.fld 0 0)) (.n 0)) ⟨.ret [.g 4]⟩ .nil,.ret [.call 60 #[.v 1,.fld 0 0]]⟩
abbrev jA:CS:=⟨.i (.c .eq (.b .mod (.v 1) (.fld 0 0)) (.n 0)) ⟨.ret [.g 4]⟩ .nil,.set 2 (.call 44 #[.v 1,.fld 0 0]),.ret (.b .add [.bi .len (.v 2)] (.v 2))⟩
abbrev i8:CS:=⟨.i (.c .eq (.b .mod (.v 1) (.fld 0 0)) (.n 0)) ⟨.ret [.g 4]⟩ .nil,.ret [.i (.c .eq (.call 24 #[.v 1,.fld 0 0]) (.n 0)) (.n 1) (.n 0)]⟩
abbrev nu:CS:=⟨.set 3 (.fld 0 0),.i (.or (.c .eq (.b .mod (.v 1) (.v 3)) (.n 0)) (.c .eq (.b .mod (.v 2) (.v 3)) (.n 0))) ⟨.ret [.g 4]⟩ .nil,.set 4 (.b .mod (.v 1) (.v 3)),.set 5 (.b .mod (.v 2) (.v 3)),.for1 6 (.rng1 (.v 3)) ⟨.i (.c .eq (.v 4) (.v 5)) ⟨.ret [.v 6,.v 4]⟩ .nil,.set 4 (.b .mod (.b .mul (.v 4) (.v 4)) (.v 3)),.set 5 (.b .mod (.b .mul (.v 5) (.v 5)) (.v 3))⟩,.ret [.g 6]⟩
abbrev lO:CS:=⟨.set 3 (.fld 0 0),.i (.or (.c .eq (.b .mod (.v 1) (.v 3)) (.n 0)) (.c .eq (.b .mod (.v 2) (.v 3)) (.n 0))) ⟨.ret [.g 4]⟩ .nil,.ret [.i (.c .mem (.call 60 #[.v 1,.v 3]) (.call 44 #[.v 2,.v 3])) (.n 1) (.n 0)]⟩
abbrev lP:CS:=⟨.set 3 (.fld 0 0),.i (.or (.c .eq (.b .mod (.v 1) (.v 3)) (.n 0)) (.c .gt (.v 2) (.g 7))) ⟨.ret [.g 4]⟩ .nil,.i (.c .ne (.call 24 #[.v 1,.v 3]) (.n 0)) ⟨.ret [.g 6]⟩ .nil,.set 4 (.b .mod (.v 1) (.v 3)),.ret [.bi .len (.comp .I 5 (.rng (.n 1) (.v 3)) (.and (.c .eq (.call 24 #[.v 5,.v 3]) (.v 2)) (.c .eq (.call 60 #[.v 5,.v 3]) (.v 4))) (.v 5))]⟩
abbrev kC:CS:=⟨.set 2 (.b .mod (.v 1) (.fld 0 0)),.i (.c .eq (.v 2) (.n 0)) ⟨.ret [.g 4]⟩ .nil,.ret [.bi .len (.comp .I 3 (.rng (.n 1) (.fld 0 0)) (.c .mem (.v 2) (.call 0 #[.v 3,.fld 0 0])) (.v 3))]⟩
abbrev jB:CS:=⟨.i (.c .ge (.v 1) (.fld 0 0)) ⟨.ret [.g 4]⟩ .nil,.ret [.count (.call 62 #[.fld 0 0]) (.v 1)]⟩
abbrev oM:CS:=⟨.set 1 (.call 62 #[.fld 0 0]),.ret [.bi .len (.v 1),.bi .max (.v 1)]⟩
abbrev rb:CS:=⟨.set 1 (.call 45 #[.fld 0 0]),.set 2 (.bi .max (.v 1)),.ret [.v 2,.b .add (.index (.v 1) (.v 2)) (.n 1)]⟩
abbrev ii:CS:=⟨.set 2 (.b .mod (.v 1) (.fld 0 0)),.i (.c .eq (.v 2) (.n 0)) ⟨.ret [.g 4]⟩ .nil,.i (.c .eq (.bi .len (.fld 0 3)) (.g 11)) ⟨.ret [.g 5]⟩ .nil,.appF 0 3 (.v 2),.ret [.b .sub (.bi .len (.fld 0 3)) (.n 1)]⟩
abbrev t9:CS:=⟨.i (.not (.call 7 #[.v 1,.v 0])) ⟨.ret [.g 0]⟩ .nil,.popI 0 3 (.v 1),.ret [.bi .len (.fld 0 3)]⟩
abbrev lB:CS:=⟨.i (.not (.call 7 #[.v 1,.v 0])) ⟨.ret [.g 0]⟩ .nil,.i (.c .eq (.b .mod (.v 2) (.fld 0 0)) (.n 0)) ⟨.ret [.g 4]⟩ .nil,.setI 0 3 (.v 1) (.b .mod (.b .mul (.b .mul (.idx (.fld 0 3) (.v 1)) (.v 2)) (.v 2)) (.fld 0 0)),.ret [.idx (.fld 0 3) (.v 1)]⟩
abbrev lQ:CS:=⟨.i (.or (.not (.call 7 #[.v 1,.v 0])) (.not (.call 7 #[.v 2,.v 0]))) ⟨.ret [.g 0]⟩ .nil,.i (.c .eq (.v 1) (.v 2)) ⟨.ret [.g 4]⟩ .nil,.setI 0 3 (.v 2) (.b .mod (.b .mul (.idx (.fld 0 3) (.v 1)) (.idx (.fld 0 3) (.v 2))) (.fld 0 0)),.setI 0 3 (.v 1) (.n 1),.ret [.idx (.fld 0 3) (.v 2)]⟩
abbrev ua:CS:=⟨.ret [.idx (.call 65 #[.v 0]) (.b .mod (.v 1) (.fld 0 0))]⟩
abbrev ub:CS:=⟨.ret [.idx (.call 48 #[.fld 0 3,.fld 0 0]) (.b .mod (.v 1) (.fld 0 0))]⟩
abbrev nw:CS:=⟨.i (.c .eq (.idx (.call 65 #[.v 0]) (.b .mod (.v 1) (.fld 0 0))) (.n 0)) ⟨.ret [.g 6]⟩ .nil,.set 2 (.call 64 #[.fld 0 3,.v 1,.n 0,.fld 0 0]),.ret (.b .add [.bi .len (.v 2)] (.v 2))⟩
abbrev qc:CS:=⟨.i (.c .lt (.idx (.call 65 #[.v 0]) (.n 0)) (.n 2)) ⟨.ret [.g 6]⟩ .nil,.set 1 (.call 64 #[.fld 0 3,.n 0,.n 1,.fld 0 0]),.ret (.b .add [.bi .len (.v 1)] (.v 1))⟩
abbrev rc:CS:=⟨.set 1 (.comp2 .I 2 3 (.enum (.call 65 #[.v 0])) (.c .eq (.v 3) (.n 0)) (.v 2)),.ret (.b .add [.bi .len (.v 1)] (.v 1))⟩
abbrev re:CS:=⟨.set 1 (.call 65 #[.v 0]),.set 2 (.idx (.call 26 #[.g 10,.fld 0 0]) (.n 0)),.ret [.n 0,.idx (.v 1) (.n 0),.idx (.v 1) (.n 1),.idx (.v 1) (.v 2)]⟩
abbrev lR:CS:=⟨.i (.and (.c .ne (.v 1) (.g 9)) (.c .ne (.v 1) (.g 10))) ⟨.ret [.g 4]⟩ .nil,.set 2 (.call 65 #[.v 0]),.ret [.bi .sum (.comp .I 3 (.call 26 #[.v 1,.fld 0 0]) (.litb true) (.idx (.v 2) (.v 3)))]⟩
abbrev uc:CS:=⟨.set 1 (.call 65 #[.v 0]),.set 2 (.bi .max (.v 1)),.ret [.v 2,.index (.v 1) (.v 2)]⟩
abbrev gX:CS:=⟨.set 1 (.call 65 #[.v 0]),.set 2 (.bi .min (.v 1)),.ret [.v 2,.index (.v 1) (.v 2)]⟩
abbrev rg:CS:=⟨.ret [.call 3 #[.fld 0 3,[.v 1,.v 2,.v 3,.v 4],.fld 0 0]]⟩
abbrev ki:CS:=⟨.set 1 (.call 4 #[.fld 0 3,.fld 0 0]),.ret [.v 1,.call 25 #[.v 1,.fld 0 0]]⟩
abbrev gJ:CS:=⟨.i (.c .eq (.b .mod (.v 1) (.fld 0 0)) (.n 0)) ⟨.ret [.g 4]⟩ .nil,.i (.c .eq (.bi .len (.fld 0 3)) (.g 11)) ⟨.ret [.g 5]⟩ .nil,.ret [.idx (.call 47 #[.b .add (.fld 0 3) [.b .mod (.v 1) (.fld 0 0)],.fld 0 0]) (.b .mod (.v 2) (.fld 0 0))]⟩
abbrev jC:CS:=⟨.for1 1 (.rng (.b .add (.fld 0 2) (.n 1)) (.g 12)) ⟨.i (.and (.call 1 #[.v 1]) (.c .ne (.v 1) (.fld 0 0))) ⟨.setF 0 2 (.v 1),.ret [.v 1]⟩ .nil⟩,.ret [.g 6]⟩
abbrev kD:CS:=⟨.set 3 (.fld 0 0),.i (.or (.c .eq (.b .mod (.v 1) (.v 3)) (.n 0)) (.not (.call 28 #[.v 2,.v 3]))) ⟨.ret [.g 4]⟩ .nil,.set 4 (.b .mod (.b .mul (.v 1) (.v 2)) (.v 3)),.ret [.call 49 #[.v 4,.v 3],.i (.call 29 #[.v 4,.v 3]) (.n 1) (.n 0)]⟩
abbrev ny:CS:=⟨.i (.c .eq (.b .mod (.v 1) (.fld 0 0)) (.n 0)) ⟨.ret [.g 4]⟩ .nil,.ret [.call 50 #[.v 1,.fld 0 0]]⟩
abbrev iK:CS:=⟨.set 2 (.fld 0 0),.i (.c .eq (.b .mod (.v 1) (.v 2)) (.n 0)) ⟨.ret [.g 4]⟩ .nil,.set 3 (.comp .I 4 (.call 30 #[.v 1,.v 2]) (.litb true) (.call 49 #[.v 4,.v 2])),.ret (.b .add [.bi .len (.v 3)] (.v 3))⟩
abbrev jV:CS:=⟨.i (.not (.call 28 #[.v 1,.fld 0 0])) ⟨.ret [.g 4]⟩ .nil,.ret [.call 33 #[.v 1,.v 0]]⟩
abbrev rh:CS:=⟨.i (.not (.call 28 #[.v 1,.fld 0 2])) ⟨.ret [.g 4]⟩ .nil,.ret [.call 34 #[.v 1,.v 0]]⟩
abbrev rm:CS:=⟨.ret [.bi .sum (.comp .I 1 (.rng (.n 1) (.b .add (.call 8 #[.fld 0 0]) (.n 1))) (.litb true) (.call 33 #[.v 1,.v 0]))]⟩
abbrev ud:CS:=⟨.ret [.bi .sum (.comp .I 1 (.rng (.n 1) (.b .add (.call 8 #[.fld 0 2]) (.n 1))) (.litb true) (.call 34 #[.v 1,.v 0]))]⟩
abbrev iW:CS:=⟨.i (.or (.not (.call 28 #[.v 1,.fld 0 0])) (.not (.call 28 #[.v 2,.fld 0 2]))) ⟨.ret [.g 4]⟩ .nil,.ret [.i (.call 11 #[.v 1,.v 2,.v 0]) (.n 1) (.n 2)]⟩
abbrev gy:CS:=⟨.i (.or (.c .eq (.b .mod (.v 1) (.fld 0 0)) (.n 0)) (.or (.c .lt (.v 2) (.n 1)) (.c .ge (.v 2) (.fld 0 0)))) ⟨.ret [.g 4]⟩ .nil,.ret [.b .mod (.b .mul (.v 1) (.v 2)) (.fld 0 0)]⟩
abbrev lC:CS:=⟨.i (.or (.c .eq (.b .mod (.v 1) (.fld 0 0)) (.n 0)) (.c .eq (.b .mod (.v 2) (.fld 0 0)) (.n 0))) ⟨.ret [.g 4]⟩ .nil,.ret [.b .add (.index (.call 9 #[.v 1,.fld 0 0]) (.b .mod (.v 2) (.fld 0 0))) (.n 1)]⟩
abbrev gD:CS:=⟨.i (.c .eq (.b .mod (.v 1) (.fld 0 0)) (.n 0)) ⟨.ret [.g 4]⟩ .nil,.ret [.call 31 #[.v 1,.fld 0 0]]⟩
abbrev qd:CS:=⟨.i (.c .eq (.b .mod (.v 1) (.fld 0 0)) (.n 0)) ⟨.ret [.g 4]⟩ .nil,.set 2 (.bi .len (.call 10 #[.v 1,.n 1,.fld 0 0])),.ret [.v 2,.b .fdiv (.b .sub (.fld 0 0) (.n 1)) (.v 2)]⟩
abbrev lS:CS:=⟨.i (.c .eq (.b .mod (.v 1) (.fld 0 0)) (.n 0)) ⟨.ret [.g 4]⟩ .nil,.ret [.call 32 #[.v 1,.fld 0 0]]⟩
abbrev i9:CS:=⟨.i (.or (.c .eq (.b .mod (.v 1) (.fld 0 0)) (.n 0)) (.c .eq (.b .mod (.v 2) (.fld 0 0)) (.n 0))) ⟨.ret [.g 4]⟩ .nil,.set 3 (.call 10 #[.v 1,.b .mod (.v 2) (.fld 0 0),.fld 0 0]),.ret (.b .add [.bi .len (.v 3)] (.v 3))⟩
abbrev nz:CS:=⟨.i (.not (.call 12 #[.v 1,.v 0])) ⟨.ret [.g 4]⟩ .nil,.ret [.b .add (.b .mul (.b .mod (.v 1) (.fld 0 0)) (.fld 0 2)) (.b .fdiv (.v 1) (.fld 0 0))]⟩
abbrev kE:CS:=⟨.i (.not (.call 12 #[.v 1,.v 0])) ⟨.ret [.g 4]⟩ .nil,.ret [.b .add (.b .mul (.b .mod (.v 1) (.fld 0 2)) (.fld 0 0)) (.b .fdiv (.v 1) (.fld 0 2))]⟩
abbrev jD:CS:=⟨.ret [.b .mul (.call 13 #[.fld 0 0]) (.call 13 #[.fld 0 2])]⟩
abbrev gi:CS:=⟨.i (.c .mem (.v 1) (.fld 0 4)) ⟨.ret [.g 3]⟩ .nil,.i (.c .eq (.bi .len (.fld 0 4)) (.g 13)) ⟨.ret [.g 5]⟩ .nil,.appF 0 4 (.v 1),.ret [.bi .len (.fld 0 4)]⟩
abbrev qe:CS:=⟨.i (.c .nmem (.v 1) (.fld 0 4)) ⟨.ret [.g 0]⟩ .nil,.rmF 0 4 (.v 1),.ret [.bi .len (.fld 0 4)]⟩
abbrev ue:CS:=⟨.ret (.call 16 #[.fld 0 4])⟩
abbrev ug:CS:=⟨.setF 0 4 (.comp .I 2 (.fld 0 4) (.litb true) (.b .mod (.b .add (.v 2) (.v 1)) (.fld 0 0))),.ret (.call 16 #[.fld 0 4])⟩
abbrev jE:CS:=⟨.i (.c .eq (.b .mod (.v 1) (.fld 0 0)) (.n 0)) ⟨.ret [.g 4]⟩ .nil,.setF 0 4 (.comp .I 2 (.fld 0 4) (.litb true) (.b .mod (.b .mul (.v 2) (.v 1)) (.fld 0 0))),.ret (.call 16 #[.fld 0 4])⟩
abbrev nA:CS:=⟨.i (.c .eq (.bi .len (.fld 0 4)) (.g 13)) ⟨.ret [.g 5]⟩ .nil,.set 1 (.call 52 #[.fld 0 4,.fld 0 0]),.i (.c .eq (.bi .len (.v 1)) (.n 0)) ⟨.ret [.g 6]⟩ .nil,.appF 0 4 (.idx (.v 1) (.n 0)),.ret [.idx (.v 1) (.n 0)]⟩
abbrev jW:CS:=⟨.set 3 (.call 37 #[.v 0,.v 1,.v 2]),.i (.c .ne (.v 3) (.g 14)) ⟨.ret [.v 3]⟩ .nil,.ret [.i (.call 51 #[.v 1,.v 2,.fld 0 0]) (.n 1) (.n 0)]⟩
abbrev xZ:CS:=⟨.i (.not (.call 15 #[.v 1,.v 0])) ⟨.ret [.g 0]⟩ .nil,.ret (.call 16 #[.call 35 #[.v 1,.fld 0 0]])⟩
abbrev jX:CS:=⟨.set 3 (.call 37 #[.v 0,.v 1,.v 2]),.i (.c .ne (.v 3) (.g 14)) ⟨.ret [.v 3]⟩ .nil,.set 4 (.call 35 #[.v 2,.fld 0 0]),.ret (.call 16 #[.comp .I 5 (.call 35 #[.v 1,.fld 0 0]) (.c .mem (.v 5) (.v 4)) (.v 5)])⟩
abbrev nB:CS:=⟨.set 3 (.call 37 #[.v 0,.v 1,.v 2]),.i (.c .ne (.v 3) (.g 14)) ⟨.ret [.v 3]⟩ .nil,.set 4 (.call 36 #[.v 2,.fld 0 0]),.ret (.call 16 #[.comp .I 5 (.call 36 #[.v 1,.fld 0 0]) (.c .mem (.v 5) (.v 4)) (.v 5)])⟩
abbrev gE:CS:=⟨.i (.not (.call 15 #[.v 1,.v 0])) ⟨.ret [.g 0]⟩ .nil,.set 2 (.call 36 #[.v 1,.fld 0 0]),.set 3 (.n 0),.for1 4 (.call 35 #[.v 1,.fld 0 0]) ⟨.aug .add 3 (.bi .len (.comp .I 5 (.call 35 #[.v 4,.fld 0 0]) (.c .mem (.v 5) (.v 2)) (.v 5)))⟩,.ret [.i (.call 14 #[.fld 0 0]) (.b .fdiv (.v 3) (.n 2)) (.v 3)]⟩
abbrev lT:CS:=⟨.i (.c .eq (.b .mod (.v 1) (.fld 0 0)) (.n 0)) ⟨.ret [.g 4]⟩ .nil,.set 2 (.call 26 #[.g 9,.fld 0 0]),.ret [.bi .len (.comp .I 3 (.v 2) (.c .mem (.b .mod (.b .sub (.v 3) (.v 1)) (.fld 0 0)) (.v 2)) (.v 3))]⟩
abbrev xh:CS:=⟨.ret (.call 16 #[.call 52 #[.fld 0 4,.fld 0 0]])⟩
abbrev nD:CS:=⟨.set 1 (.call 55 #[.v 0]),.ret [.i (.call 14 #[.fld 0 0]) (.b .fdiv (.v 1) (.n 2)) (.v 1)]⟩
abbrev lD:CS:=⟨.set 1 (.bi .len (.fld 0 4)),.ret [.i (.c .eq (.call 55 #[.v 0]) (.b .mul (.v 1) (.b .sub (.v 1) (.n 1)))) (.n 1) (.n 0)]⟩
abbrev jF:CS:=⟨.i (.not (.call 14 #[.fld 0 0])) ⟨.ret [.g 6]⟩ .nil,.ret (.call 16 #[.call 66 #[.fz [.n 0,.n 1],.fld 0 0]])⟩
abbrev lE:CS:=⟨.i (.or (.not (.call 15 #[.v 1,.v 0])) (.not (.call 15 #[.v 2,.v 0]))) ⟨.ret [.g 0]⟩ .nil,.set 3 [.v 1],.set 4 (.n 0),.whl (.c .nmem (.v 2) (.v 3)) ⟨.set 3 (.call 53 #[.v 3,.fld 0 0]),.aug .add 4 (.n 1)⟩,.ret [.v 4]⟩
abbrev BC:CS:=⟨.setF 0 1 (.b .mod (.v 1) (.fld 0 0)),.ret [.fld 0 1]⟩
abbrev x6:CS:=⟨.i (.not (.call 17 #[.v 1])) ⟨.ret [.g 4]⟩ .nil,.set 2 (.call 26 #[.v 1,.fld 0 0]),.set 3 (.comp .I 4 (.v 2) (.c .gt (.v 4) (.fld 0 1)) (.v 4)),.setF 0 1 (.i (.c .gt (.bi .len (.v 3)) (.n 0)) (.idx (.v 3) (.n 0)) (.idx (.v 2) (.n 0))),.ret [.fld 0 1]⟩
abbrev lU:CS:=⟨.i (.not (.call 17 #[.v 1])) ⟨.ret [.g 4]⟩ .nil,.set 2 (.call 26 #[.v 1,.fld 0 0]),.set 3 (.comp .I 4 (.v 2) (.c .lt (.v 4) (.fld 0 1)) (.v 4)),.setF 0 1 (.i (.c .gt (.bi .len (.v 3)) (.n 0)) (.idx (.v 3) (.neg (.n 1))) (.idx (.v 2) (.neg (.n 1)))),.ret [.fld 0 1]⟩
abbrev rn:CS:=⟨.ret [.fld 0 1,.call 25 #[.fld 0 1,.fld 0 0]]⟩
abbrev uh:CS:=⟨.ret [.call 25 #[.v 1,.fld 0 0]]⟩
abbrev jY:CS:=⟨.i (.or (.not (.call 17 #[.v 1])) (.c .ge (.v 2) (.fld 0 0))) ⟨.ret [.g 4]⟩ .nil,.ret [.bi .len (.comp .I 3 (.call 26 #[.v 1,.fld 0 0]) (.c .le (.v 3) (.v 2)) (.v 3))]⟩
abbrev rq:CS:=⟨.i (.not (.call 17 #[.v 1])) ⟨.ret [.g 4]⟩ .nil,.set 3 (.call 26 #[.v 1,.fld 0 0]),.i (.c .ge (.v 2) (.bi .len (.v 3))) ⟨.ret [.g 6]⟩ .nil,.ret [.idx (.v 3) (.v 2)]⟩
abbrev nE:CS:=⟨.set 2 (.b .mod (.v 1) (.fld 0 0)),.i (.c .eq (.v 2) (.n 0)) ⟨.ret [.g 4]⟩ .nil,.set 3 (.call 26 #[.call 25 #[.v 2,.fld 0 0],.fld 0 0]),.ret [.index (.v 3) (.v 2)]⟩
abbrev gF:CS:=⟨.i (.not (.call 17 #[.v 1])) ⟨.ret [.g 4]⟩ .nil,.ret [.bi .sum (.call 26 #[.v 1,.fld 0 0])]⟩
abbrev nF:CS:=⟨.i (.or (.c .lt (.v 1) (.n 1)) (.c .gt (.v 1) (.fld 0 0))) ⟨.ret [.g 4]⟩ .nil,.set 2 (.b .fdiv (.fld 0 0) (.v 1)),.set 3 (.comp .I 5 (.call 26 #[.g 9,.fld 0 0]) (.c .le (.v 5) (.v 2)) (.v 5)),.set 4 (.comp .I 5 (.call 26 #[.g 10,.fld 0 0]) (.c .le (.v 5) (.v 2)) (.v 5)),.ret [.n 0,.b .sub (.bi .len (.v 3)) (.bi .len (.v 4))]⟩
abbrev lF:CS:=⟨.i (.or (.not (.call 17 #[.v 1])) (.not (.call 17 #[.v 2]))) ⟨.ret [.g 4]⟩ .nil,.set 3 (.call 2 #[.fld 0 0]),.ret [.bi .len (.comp .I 4 (.rng (.n 1) (.b .sub (.fld 0 0) (.n 1))) (.and (.c .eq (.idx (.v 3) (.v 4)) (.v 1)) (.c .eq (.idx (.v 3) (.b .add (.v 4) (.n 1))) (.v 2))) (.v 4))]⟩
abbrev iX:CS:=⟨.i (.or (.not (.call 17 #[.v 1])) (.or (.not (.call 17 #[.v 2])) (.not (.call 17 #[.v 3])))) ⟨.ret [.g 4]⟩ .nil,.set 4 (.call 2 #[.fld 0 0]),.set 5 [.v 1,.v 2,.v 3],.ret [.bi .len (.comp .I 6 (.rng (.n 1) (.b .sub (.fld 0 0) (.n 2))) (.c .eq (.slBoth (.v 4) (.v 6) (.b .add (.v 6) (.n 3))) (.v 5)) (.v 6))]⟩
abbrev ui:CS:=⟨.i (.not (.call 17 #[.v 1])) ⟨.ret [.g 4]⟩ .nil,.set 2 (.call 38 #[.v 1,.fld 0 0]),.set 3 (.comp .I 5 (.v 2) (.litb true) (.idx (.v 5) (.n 1))),.set 4 (.bi .max (.v 3)),.ret [.v 4,.idx (.idx (.v 2) (.index (.v 3) (.v 4))) (.n 0)]⟩
abbrev qf:CS:=⟨.i (.not (.call 17 #[.v 1])) ⟨.ret [.g 4]⟩ .nil,.ret [.bi .len (.call 38 #[.v 1,.fld 0 0])]⟩
abbrev rz:CS:=⟨.ret [.idx (.call 26 #[.g 10,.fld 0 0]) (.n 0)]⟩
abbrev kF:CS:=⟨.i (.not (.call 17 #[.v 1])) ⟨.ret [.g 4]⟩ .nil,.set 2 (.n 1),.for1 3 (.call 26 #[.v 1,.fld 0 0]) ⟨.set 2 (.b .mod (.b .mul (.v 2) (.v 3)) (.fld 0 0))⟩,.ret [.v 2]⟩
abbrev ij:CS:=⟨.setF 0 5 (.g 15),.setF 0 6 (.call 56 #[.fld 0 0])⟩
abbrev uj:CS:=⟨.ret [.bi .len (.fld 0 7)]⟩
abbrev uk:CS:=⟨.ret [.fld 0 0,.fld 0 1,.fld 0 2,.bi .len (.fld 0 3),.bi .len (.fld 0 4),.fld 0 5,.fld 0 6]⟩
abbrev hU:CS:=⟨.i (.or (.c .ge (.v 1) (.g 12)) (.or (.not (.call 1 #[.v 1])) (.c .eq (.v 1) (.fld 0 0)))) ⟨.ret [.g 4]⟩ .nil,.set 2 (.fld 0 2),.setF 0 2 (.v 1),.ret [.v 2]⟩
abbrev lV:CS:=⟨.i (.c .ge (.v 1) (.bi .len (.fld 0 4))) ⟨.ret [.g 0]⟩ .nil,.setF 0 1 (.idx (.fld 0 4) (.v 1)),.ret [.fld 0 1]⟩
abbrev oN:CS:=⟨.for1 1 (.rng (.n 1) (.fld 0 0)) ⟨.set 2 (.b .mod (.b .add (.fld 0 1) (.v 1)) (.fld 0 0)),.i (.and (.call 51 #[.fld 0 1,.v 2,.fld 0 0]) (.c .nmem (.v 2) (.fld 0 4))) ⟨.setF 0 1 (.v 2),.ret [.v 2]⟩ .nil⟩,.ret [.g 6]⟩
abbrev kj:CS:=⟨.set 1 (.comp .I 3 (.fld 0 4) (.call 51 #[.fld 0 1,.v 3,.fld 0 0]) (.v 3)),.set 2 (.comp .I 3 (.fld 0 4) (.call 51 #[.v 3,.fld 0 1,.fld 0 0]) (.v 3)),.ret [.bi .len (.v 1),.bi .len (.v 2)]⟩
abbrev nG:CS:=⟨.i (.c .lt (.bi .len (.fld 0 4)) (.bi .len (.fld 0 3))) ⟨.ret [.g 6]⟩ .nil,.ret [.call 3 #[.fld 0 3,.slHi (.fld 0 4) (.bi .len (.fld 0 3)),.fld 0 0]]⟩
abbrev nH:CS:=⟨.set 2 (.fld 0 0),.i (.c .eq (.b .mod (.v 1) (.v 2)) (.n 0)) ⟨.ret [.g 4]⟩ .nil,.set 3 (.lst .B #[.c .eq (.call 25 #[.v 1,.v 2]) (.g 9),.c .eq (.b .mod (.call 50 #[.v 1,.v 2]) (.n 2)) (.n 0),.c .eq (.b .mod (.call 31 #[.v 1,.v 2]) (.n 2)) (.n 0),.c .eq (.b .mod (.call 32 #[.v 1,.v 2]) (.n 2)) (.n 0),.c .eq (.b .mod (.call 40 #[.v 1,.fld 0 6,.v 2]) (.n 2)) (.n 0),.c .lt (.call 24 #[.v 1,.v 2]) (.call 61 #[.v 2])]),.ret [.count (.v 3) (.litb true)]⟩
abbrev lq:CS:=⟨.ret [.call 63 #[.fld 0 3,.v 1,.fld 0 0]]⟩
abbrev jG:CS:=⟨.i (.c .eq (.fld 0 1) (.n 0)) ⟨.ret [.g 1]⟩ .nil,.set 1 (.call 40 #[.fld 0 1,.fld 0 6,.fld 0 0]),.ret [.call 25 #[.fld 0 1,.fld 0 0],.call 24 #[.fld 0 1,.fld 0 0],.v 1,.b .mod (.v 1) (.fld 0 5)]⟩
abbrev km:CS:=⟨.set 1 (.comp .I 2 (.fld 0 4) (.litb true) (.call 25 #[.v 2,.fld 0 0])),.ret [.bi .len (.v 1),.count (.v 1) (.g 8),.count (.v 1) (.g 9),.count (.v 1) (.g 10)]⟩
abbrev nI:CS:=⟨.i (.not (.call 19 #[.v 1,.fld 0 0])) ⟨.ret [.g 6]⟩ .nil,.setF 0 5 (.v 1),.ret [.b .fdiv (.b .sub (.fld 0 0) (.n 1)) (.v 1)]⟩
abbrev gK:CS:=⟨.i (.or (.c .eq (.b .mod (.v 1) (.fld 0 0)) (.n 0)) (.not (.call 39 #[.v 1,.fld 0 0]))) ⟨.ret [.g 4]⟩ .nil,.set 2 (.fld 0 6),.setF 0 6 (.b .mod (.v 1) (.fld 0 0)),.ret [.call 40 #[.v 1,.v 2,.fld 0 0]]⟩
abbrev ko:CS:=⟨.ret [.call 56 #[.fld 0 0]]⟩
abbrev rB:CS:=⟨.set 1 (.call 57 #[.fld 0 0]),.ret (.b .add [.bi .len (.v 1)] (.v 1))⟩
abbrev nJ:CS:=⟨.i (.c .eq (.b .mod (.v 1) (.fld 0 0)) (.n 0)) ⟨.ret [.g 4]⟩ .nil,.ret [.call 40 #[.v 1,.fld 0 6,.fld 0 0]]⟩
abbrev jH:CS:=⟨.i (.c .eq (.b .mod (.v 1) (.fld 0 0)) (.n 0)) ⟨.ret [.g 4]⟩ .nil,.ret [.idx (.call 41 #[.v 0]) (.b .mod (.v 1) (.fld 0 0))]⟩
abbrev rD:CS:=⟨.ret [.idx (.call 18 #[.fld 0 6,.fld 0 0]) (.b .mod (.v 1) (.b .sub (.fld 0 0) (.n 1)))]⟩
abbrev kG:CS:=⟨.i (.not (.call 21 #[.v 1,.v 0])) ⟨.ret [.g 0]⟩ .nil,.set 2 (.call 58 #[.v 1,.v 0]),.ret (.b .add [.bi .len (.v 2)] (.v 2))⟩
abbrev kH:CS:=⟨.i (.not (.call 21 #[.v 1,.v 0])) ⟨.ret [.g 0]⟩ .nil,.ret [.idx (.call 58 #[.v 1,.v 0]) (.n 0)]⟩
abbrev jZ:CS:=⟨.i (.or (.not (.call 21 #[.v 1,.v 0])) (.not (.call 21 #[.v 2,.v 0]))) ⟨.ret [.g 0]⟩ .nil,.ret [.idx (.call 59 #[.v 1,.v 0]) (.v 2)]⟩
abbrev nL:CS:=⟨.i (.not (.call 21 #[.v 1,.v 0])) ⟨.ret [.g 0]⟩ .nil,.ret (.b .add [.fld 0 5] (.call 59 #[.v 1,.v 0]))⟩
abbrev rE:CS:=⟨.set 1 [],.for1 2 (.rng1 (.fld 0 5)) ⟨.ext 1 (.call 59 #[.v 2,.v 0])⟩,.ret (.b .add [.bi .len (.v 1)] (.v 1))⟩
abbrev ja:CS:=⟨.i (.not (.call 21 #[.v 1,.v 0])) ⟨.ret [.g 0]⟩ .nil,.i (.c .eq (.b .mod (.v 2) (.fld 0 0)) (.n 0)) ⟨.ret [.g 4]⟩ .nil,.ret [.idx (.call 20 #[.call 58 #[.v 1,.v 0],.fld 0 0]) (.b .sub (.b .mod (.v 2) (.fld 0 0)) (.n 1))]⟩
abbrev nM:CS:=⟨.i (.not (.call 21 #[.v 1,.v 0])) ⟨.ret [.g 0]⟩ .nil,.ret [.i (.call 42 #[.call 58 #[.v 1,.v 0],.fld 0 0]) (.n 1) (.n 0)]⟩
abbrev ik:CS:=⟨.i (.not (.call 21 #[.v 1,.v 0])) ⟨.ret [.g 0]⟩ .nil,.ret [.i (.call 42 #[.b .add [.n 0] (.call 58 #[.v 1,.v 0]),.fld 0 0]) (.n 1) (.n 0)]⟩
abbrev nN:CS:=⟨.i (.not (.call 21 #[.v 1,.v 0])) ⟨.ret [.g 0]⟩ .nil,.ret [.bi .sum (.call 58 #[.v 1,.v 0])]⟩
abbrev gj:CS:=⟨.i (.not (.call 21 #[.v 1,.v 0])) ⟨.ret [.g 0]⟩ .nil,.i (.c .eq (.b .mod (.v 2) (.fld 0 0)) (.n 0)) ⟨.ret [.g 4]⟩ .nil,.ret [.call 67 #[.v 0,.v 1,.v 2]]⟩
abbrev jI:CS:=⟨.i (.not (.call 21 #[.v 1,.v 0])) ⟨.ret [.g 0]⟩ .nil,.ret [.call 67 #[.v 0,.v 1,.b .sub (.fld 0 0) (.n 1)]]⟩
abbrev kq:CS:=⟨.setF 0 0 (.idx (.v 1) (.n 0)),.setF 0 1 (.idx (.v 1) (.n 1)),.setF 0 2 (.idx (.v 1) (.n 2)),.setF 0 3 (.bi .list (.idx (.v 1) (.n 3))),.setF 0 4 (.bi .list (.idx (.v 1) (.n 4))),.setF 0 5 (.idx (.v 1) (.n 5)),.setF 0 6 (.idx (.v 1) (.n 6))⟩
abbrev hW:CS:=⟨.appF 0 7 (.v 1),.i (.c .gt (.bi .len (.fld 0 7)) (.g 22)) ⟨.popF 0 7⟩ .nil⟩
abbrev ul:CS:=⟨.retM 14 #[.v 0,.v 1]⟩
abbrev um:CS:=⟨.i (.not (.call 15 #[.v 1,.v 0])) ⟨.ret [.g 0]⟩ .nil,.retM 48 #[.v 0,.v 1]⟩
abbrev nO:CS:=⟨.i (.not (.call 43 #[.v 1])) ⟨.ret [.g 4]⟩ .nil,.setF 0 0 (.v 1),.setF 0 1 (.n 1),.setF 0 2 (.g 21),.setF 0 3 [],.setF 0 4 [],.setF 0 7 (.lst .P .z),.exM 81 #[.v 0],.ret [.n 0]⟩
abbrev j0:CS:=⟨.i (.not (.call 43 #[.v 1])) ⟨.ret [.g 4]⟩ .nil,.i (.c .eq (.v 1) (.fld 0 0)) ⟨.ret [.g 3]⟩ .nil,.i (.c .eq (.fld 0 2) (.v 1)) ⟨.setF 0 2 (.fld 0 0)⟩ .nil,.setF 0 0 (.v 1),.setF 0 1 (.b .mod (.fld 0 1) (.v 1)),.setF 0 3 (.comp .I 2 (.fld 0 3) (.c .ne (.b .mod (.v 2) (.v 1)) (.n 0)) (.b .mod (.v 2) (.v 1))),.setF 0 4 (.comp .I 3 (.fld 0 4) (.c .lt (.v 3) (.v 1)) (.v 3)),.exM 81 #[.v 0],.ret [.bi .len (.fld 0 3),.bi .len (.fld 0 4)]⟩
abbrev rF:CS:=⟨.retM 48 #[.v 0,.fld 0 1]⟩
abbrev lr:CS:=⟨.retM 14 #[.v 0,.fld 0 1]⟩
abbrev qg:CS:=⟨.i (.c .eq (.bi .len (.fld 0 7)) (.n 0)) ⟨.ret [.g 1]⟩ .nil,.exPop 0 111 7,.ret [.bi .len (.fld 0 7)]⟩
abbrev jJ:CS:=⟨.i (.c .eq (.bi .len (.v 2)) (.n 0)) ⟨.retD 0 #[.v 1]⟩ .nil,.i (.c .eq (.bi .len (.v 2)) (.n 1)) ⟨.retD 0 #[.v 1,.idx (.v 2) (.n 0)]⟩ .nil,.i (.c .eq (.bi .len (.v 2)) (.n 2)) ⟨.retD 0 #[.v 1,.idx (.v 2) (.n 0),.idx (.v 2) (.n 1)]⟩ .nil,.i (.c .eq (.bi .len (.v 2)) (.n 3)) ⟨.retD 0 #[.v 1,.idx (.v 2) (.n 0),.idx (.v 2) (.n 1),.idx (.v 2) (.n 2)]⟩ .nil,.retD 0 #[.v 1,.idx (.v 2) (.n 0),.idx (.v 2) (.n 1),.idx (.v 2) (.n 2),.idx (.v 2) (.n 3)]⟩
abbrev fS:CS:=⟨.i (.and (.c .ne (.v 1) (.g 23)) (.c .eq (.fld 0 0) (.n 0))) ⟨.ret [.g 2]⟩ .nil,.set 3 (.idx (.call 23 #[.v 1]) (.n 0)),.i (.or (.c .eq (.v 1) (.g 23)) (.c .eq (.v 1) (.g 24))) ⟨.retM 120 #[.v 3,.v 0,.v 2]⟩ .nil,.set 4 (.mth 0 22),.setM 5 120 #[.v 3,.v 0,.v 2],.i (.c .ne (.mth 0 22) (.v 4)) ⟨.exMm 0 112 #[.v 4]⟩ .nil,.ret (.v 5)⟩
abbrev kJ:CS:=⟨.set 2 [],.set 3 (.n 0),.whl (.c .lt (.v 3) (.bi .len (.v 0))) ⟨.set 4 (.idx (.v 0) (.v 3)),.set 5 (.b .add (.b .add (.v 3) (.n 1)) (.idx (.call 23 #[.v 4]) (.n 1))),.setM 6 121 #[.v 1,.v 4,.slBoth (.v 0) (.b .add (.v 3) (.n 1)) (.v 5)],.app 2 (.bi .len (.v 6)),.ext 2 (.v 6),.set 3 (.v 5)⟩,.ret (.v 2)⟩
end
abbrev BPL:List rX:=[⟨2,4,mN⟩,⟨1,2,lM⟩,⟨1,3,oz⟩,⟨3,6,li⟩,⟨2,4,gw⟩,⟨2,4,oA⟩,⟨4,10,lj⟩,⟨2,2,qR⟩,⟨1,1,qS⟩,⟨2,3,jt⟩,⟨3,5,oB⟩,⟨3,3,oC⟩,⟨2,2,qT⟩,⟨1,1,kc⟩,⟨1,1,gU⟩,⟨2,2,oE⟩,⟨1,1,ju⟩,⟨1,1,qU⟩,⟨2,4,mO⟩,⟨2,2,i7⟩,⟨2,5,f8⟩,⟨2,2,oF⟩,⟨1,1,mP⟩,⟨1,1,sK⟩,⟨2,3,qV⟩,⟨2,2,nt⟩,⟨2,4,fO⟩,⟨3,5,ll⟩,⟨2,2,qW⟩,⟨2,2,mQ⟩,⟨2,2,fc⟩,⟨2,7,iP⟩,⟨2,4,gx⟩,⟨2,3,oG⟩,⟨2,3,qX⟩,⟨2,4,iQ⟩,⟨2,4,ga⟩,⟨3,3,eA⟩,⟨2,5,jv⟩,⟨2,2,lm⟩,⟨3,3,oH⟩,⟨1,4,fP⟩,⟨2,3,qY⟩,⟨1,1,eB⟩,⟨2,2,jw⟩,⟨1,2,oJ⟩,⟨2,3,lz⟩,⟨2,2,ig⟩,⟨2,2,gW⟩,⟨2,2,p9⟩,⟨2,3,jx⟩,⟨3,3,oK⟩,⟨2,6,gh⟩,⟨2,5,kf⟩,⟨2,8,fe⟩,⟨1,5,eQ⟩,⟨1,2,ln⟩,⟨1,2,mR⟩,⟨2,4,lp⟩,⟨2,5,jy⟩,⟨2,2,qZ⟩,⟨1,1,jz⟩,⟨1,4,iR⟩,⟨3,8,cq⟩,⟨4,12,iS⟩,⟨1,1,kg⟩,⟨2,5,ff⟩,⟨3,3,kh⟩]
abbrev BML:List rX:=[⟨1,1,lN⟩,⟨1,3,hJ⟩,⟨3,5,lA⟩,⟨2,2,qa⟩,⟨2,2,qb⟩,⟨2,3,jA⟩,⟨2,2,i8⟩,⟨3,7,nu⟩,⟨3,4,lO⟩,⟨3,6,lP⟩,⟨2,4,kC⟩,⟨2,2,jB⟩,⟨1,2,oM⟩,⟨1,3,rb⟩,⟨2,3,ii⟩,⟨2,2,t9⟩,⟨3,3,lB⟩,⟨3,3,lQ⟩,⟨2,2,ua⟩,⟨2,2,ub⟩,⟨2,3,nw⟩,⟨1,2,qc⟩,⟨1,4,rc⟩,⟨1,3,re⟩,⟨2,4,lR⟩,⟨1,3,uc⟩,⟨1,3,gX⟩,⟨5,5,rg⟩,⟨1,2,ki⟩,⟨3,3,gJ⟩,⟨1,2,jC⟩,⟨3,5,kD⟩,⟨2,2,ny⟩,⟨2,5,iK⟩,⟨2,2,jV⟩,⟨2,2,rh⟩,⟨1,2,rm⟩,⟨1,2,ud⟩,⟨3,3,iW⟩,⟨3,3,gy⟩,⟨3,3,lC⟩,⟨2,2,gD⟩,⟨2,3,qd⟩,⟨2,2,lS⟩,⟨3,4,i9⟩,⟨2,2,nz⟩,⟨2,2,kE⟩,⟨1,1,jD⟩,⟨2,2,gi⟩,⟨2,2,qe⟩,⟨1,1,ue⟩,⟨2,3,ug⟩,⟨2,3,jE⟩,⟨1,2,nA⟩,⟨3,4,jW⟩,⟨2,2,xZ⟩,⟨3,6,jX⟩,⟨3,6,nB⟩,⟨2,6,gE⟩,⟨2,4,lT⟩,⟨1,1,xh⟩,⟨1,2,nD⟩,⟨1,2,lD⟩,⟨1,1,jF⟩,⟨3,5,lE⟩,⟨2,2,BC⟩,⟨2,5,x6⟩,⟨2,5,lU⟩,⟨1,1,rn⟩,⟨2,2,uh⟩,⟨3,4,jY⟩,⟨3,4,rq⟩,⟨2,4,nE⟩,⟨2,2,gF⟩,⟨2,6,nF⟩,⟨3,5,lF⟩,⟨4,7,iX⟩,⟨2,6,ui⟩,⟨2,2,qf⟩,⟨1,1,rz⟩,⟨2,4,kF⟩,⟨1,1,ij⟩,⟨1,1,uj⟩,⟨1,1,uk⟩,⟨2,3,hU⟩,⟨2,2,lV⟩,⟨1,3,oN⟩,⟨1,4,kj⟩,⟨1,1,nG⟩,⟨2,4,nH⟩,⟨2,2,lq⟩,⟨1,2,jG⟩,⟨1,3,km⟩,⟨2,2,nI⟩,⟨2,3,gK⟩,⟨1,1,ko⟩,⟨1,2,rB⟩,⟨2,2,nJ⟩,⟨2,2,jH⟩,⟨2,2,rD⟩,⟨2,3,kG⟩,⟨2,2,kH⟩,⟨3,3,jZ⟩,⟨2,2,nL⟩,⟨1,3,rE⟩,⟨3,3,ja⟩,⟨2,2,nM⟩,⟨2,2,ik⟩,⟨2,2,nN⟩,⟨3,3,gj⟩,⟨2,2,jI⟩,⟨2,2,kq⟩,⟨2,2,hW⟩,⟨2,2,ul⟩,⟨2,2,um⟩,⟨2,2,nO⟩,⟨2,4,j0⟩,⟨1,1,rF⟩,⟨1,1,lr⟩,⟨1,1,qg⟩,⟨3,3,jJ⟩,⟨3,6,fS⟩]
abbrev BP(k:Nat):rX:=BPL.getD k ⟨0,0,.nil⟩
abbrev BM(k:Nat):rX:=BML.getD k ⟨0,0,.nil⟩
abbrev CSL:List Int:=[-2, -6, -11, -17, -22, -28, -33,20,0,1,2,4,200,12,0,2,2,8, -1,5,97,3,12,0,2]
abbrev ie(i:Nat):Option PV:=(CSL[i]?).map .int
abbrev my(i:Nat):Int->Option PV:=Qv (TAB.getD i [])
abbrev NN:Nat:=1000000
abbrev FN(k:Nat)(ps hs:List PV):Option PV:=iJ ie my NN BP 68 k ps hs
abbrev FM(k:Nat)(ps hs:List PV):Option (PV×List PV):=js ie my NN FN BM 122 k ps hs
abbrev GG:gH:=⟨FN,ie,FM,my⟩
abbrev run(xs:List Int):Option (List Int):=match exec GG NN kJ ⟨(wa 7 [.fil xs]).set 1 (some .obj),[],DT,true⟩with
 | some (.ret (.il ys),_)=>some ys
 | _=>none
theorem uf(k:Nat)(d:rX)(h:BP k=d:=by rfl)(hk:decide (k<68)=true:=by rfl)(ps hs:List PV):FN k ps hs=DR ⟨iJ ie my NN BP k,ie,λ_ _ _=>none,my⟩ NN d ps hs:=by
 subst h;exact congrFun (congrFun (ox ie my NN BP (j:=68) (oD hk)) ps) hs
theorem wf(k:Nat)(d:rX)(h:BM k=d:=by rfl)(hk:decide (k<122)=true:=by rfl)(ps hs:List PV):FM k ps hs=BB ⟨FN,ie,js ie my NN FN BM k,my⟩ NN d ps hs:=by
 subst h;exact congrFun (congrFun (oy ie my NN FN BM (j:=122) (oD hk)) ps) hs
abbrev DU:=uf 0 ⟨2,4,mN⟩
abbrev Gm:=uf 2 ⟨1,3,oz⟩
abbrev BD:=uf 3 ⟨3,6,li⟩
abbrev sL:=uf 4 ⟨2,4,gw⟩
abbrev Gn:=uf 5 ⟨2,4,oA⟩
abbrev BE:=uf 6 ⟨4,10,lj⟩
abbrev Kl:=uf 7 ⟨2,2,qR⟩
abbrev Km:=uf 8 ⟨1,1,qS⟩
abbrev x8:=uf 9 ⟨2,3,jt⟩
abbrev Go:=uf 10 ⟨3,5,oB⟩
abbrev Gp:=uf 11 ⟨3,3,oC⟩
abbrev Kn:=uf 12 ⟨2,2,qT⟩
abbrev zZ:=uf 13 ⟨1,1,kc⟩
abbrev uo:=uf 14 ⟨1,1,gU⟩
abbrev Gq:=uf 15 ⟨2,2,oE⟩
abbrev uq:=uf 16 ⟨1,1,ju⟩
abbrev Ko:=uf 17 ⟨1,1,qU⟩
abbrev DV:=uf 18 ⟨2,4,mO⟩
abbrev qh:=uf 19 ⟨2,2,i7⟩
abbrev rY:=uf 20 ⟨2,5,f8⟩
abbrev Gs:=uf 21 ⟨2,2,oF⟩
abbrev DW:=uf 22 ⟨1,1,mP⟩
abbrev Kq:=uf 24 ⟨2,3,qV⟩
abbrev Aw:=uf 25 ⟨2,2,nt⟩
abbrev qi:=uf 26 ⟨2,4,fO⟩
abbrev BF:=uf 27 ⟨3,5,ll⟩
abbrev Kr:=uf 28 ⟨2,2,qW⟩
abbrev DX:=uf 29 ⟨2,2,mQ⟩
abbrev oO:=uf 30 ⟨2,2,fc⟩
abbrev wG:=uf 31 ⟨2,7,iP⟩
abbrev sM:=uf 32 ⟨2,4,gx⟩
abbrev Gu:=uf 33 ⟨2,3,oG⟩
abbrev Ks:=uf 34 ⟨2,3,qX⟩
abbrev wH:=uf 35 ⟨2,4,iQ⟩
abbrev rZ:=uf 36 ⟨2,4,ga⟩
abbrev im:=uf 37 ⟨3,3,eA⟩
abbrev x9:=uf 38 ⟨2,5,jv⟩
abbrev BG:=uf 39 ⟨2,2,lm⟩
abbrev Gv:=uf 40 ⟨3,3,oH⟩
abbrev qj:=uf 41 ⟨1,4,fP⟩
abbrev Kt:=uf 42 ⟨2,3,qY⟩
abbrev io:=uf 43 ⟨1,1,eB⟩
abbrev ya:=uf 44 ⟨2,2,jw⟩
abbrev Gw:=uf 45 ⟨1,2,oJ⟩
abbrev vk:=uf 46 ⟨2,3,lz⟩
abbrev vm:=uf 47 ⟨2,2,ig⟩
abbrev ur:=uf 48 ⟨2,2,gW⟩
abbrev DY:=uf 49 ⟨2,2,p9⟩
abbrev yb:=uf 50 ⟨2,3,jx⟩
abbrev Gx:=uf 51 ⟨3,3,oK⟩
abbrev nP:=uf 52 ⟨2,6,gh⟩
abbrev z3:=uf 53 ⟨2,5,kf⟩
abbrev oP:=uf 54 ⟨2,8,fe⟩
abbrev nQ:=uf 55 ⟨1,5,eQ⟩
abbrev BH:=uf 56 ⟨1,2,ln⟩
abbrev DZ:=uf 57 ⟨1,2,mR⟩
abbrev BJ:=uf 58 ⟨2,4,lp⟩
abbrev yc:=uf 59 ⟨2,5,jy⟩
abbrev Ku:=uf 60 ⟨2,2,qZ⟩
abbrev yd:=uf 61 ⟨1,1,jz⟩
abbrev wI:=uf 62 ⟨1,4,iR⟩
abbrev db:=uf 63 ⟨3,8,cq⟩
abbrev wJ:=uf 64 ⟨4,12,iS⟩
abbrev z4:=uf 65 ⟨1,1,kg⟩
abbrev oQ:=uf 66 ⟨2,5,ff⟩
abbrev z5:=uf 67 ⟨3,3,kh⟩
abbrev D0:=wf 0 ⟨1,1,lN⟩
abbrev uv:=wf 1 ⟨1,3,hJ⟩
abbrev w_after:=wf 2 ⟨3,5,lA⟩
abbrev Mx:=wf 3 ⟨2,2,qa⟩
abbrev My:=wf 4 ⟨2,2,qb⟩
abbrev ye:=wf 5 ⟨2,3,jA⟩
abbrev vn:=wf 6 ⟨2,2,i8⟩
abbrev Gy:=wf 7 ⟨3,7,nu⟩
abbrev BK:=wf 8 ⟨3,4,lO⟩
abbrev BL:=wf 9 ⟨3,6,lP⟩
abbrev Ax:=wf 10 ⟨2,4,kC⟩
abbrev yf:=wf 11 ⟨2,2,jB⟩
abbrev Mz:=wf 12 ⟨1,2,oM⟩
abbrev Qw:=wf 13 ⟨1,3,rb⟩
abbrev sN:=wf 14 ⟨2,3,ii⟩
abbrev Tn:=wf 15 ⟨2,2,t9⟩
abbrev BN:=wf 16 ⟨3,3,lB⟩
abbrev BO:=wf 17 ⟨3,3,lQ⟩
abbrev UO:=wf 18 ⟨2,2,ua⟩
abbrev UP:=wf 19 ⟨2,2,ub⟩
abbrev IW:=wf 20 ⟨2,3,nw⟩
abbrev MA:=wf 21 ⟨1,2,qc⟩
abbrev Qx:=wf 22 ⟨1,4,rc⟩
abbrev Qy:=wf 23 ⟨1,3,re⟩
abbrev D1:=wf 24 ⟨2,4,lR⟩
abbrev UQ:=wf 25 ⟨1,3,uc⟩
abbrev wK:=wf 26 ⟨1,3,gX⟩
abbrev Qz:=wf 27 ⟨5,5,rg⟩
abbrev D2:=wf 28 ⟨1,2,ki⟩
abbrev qk:=wf 29 ⟨3,3,gJ⟩
abbrev BQ:=wf 30 ⟨1,2,jC⟩
abbrev w_fold:=wf 31 ⟨3,5,kD⟩
abbrev IX:=wf 32 ⟨2,2,ny⟩
abbrev wb:=wf 33 ⟨2,5,iK⟩
abbrev yg:=wf 34 ⟨2,2,jV⟩
abbrev MB:=wf 35 ⟨2,2,rh⟩
abbrev QA:=wf 36 ⟨1,2,rm⟩
abbrev UR:=wf 37 ⟨1,2,ud⟩
abbrev uw:=wf 38 ⟨3,3,iW⟩
abbrev oR:=wf 39 ⟨3,3,gy⟩
abbrev BR:=wf 40 ⟨3,3,lC⟩
abbrev sr:=wf 41 ⟨2,2,gD⟩
abbrev MC:=wf 42 ⟨2,3,qd⟩
abbrev D3:=wf 43 ⟨2,2,lS⟩
abbrev vo:=wf 44 ⟨3,4,i9⟩
abbrev IY:=wf 45 ⟨2,2,nz⟩
abbrev Ay:=wf 46 ⟨2,2,kE⟩
abbrev BS:=wf 47 ⟨1,1,jD⟩
abbrev oT:=wf 48 ⟨2,2,gi⟩
abbrev MD:=wf 49 ⟨2,2,qe⟩
abbrev US:=wf 50 ⟨1,1,ue⟩
abbrev UT:=wf 51 ⟨2,3,ug⟩
abbrev yh:=wf 52 ⟨2,3,jE⟩
abbrev Gz:=wf 53 ⟨1,2,nA⟩
abbrev xi:=wf 54 ⟨3,4,jW⟩
abbrev YI:=wf 55 ⟨2,2,xZ⟩
abbrev yi:=wf 56 ⟨3,6,jX⟩
abbrev GA:=wf 57 ⟨3,6,nB⟩
abbrev ss:=wf 58 ⟨2,6,gE⟩
abbrev D4:=wf 59 ⟨2,4,lT⟩
abbrev YJ:=wf 60 ⟨1,1,xh⟩
abbrev IZ:=wf 61 ⟨1,2,nD⟩
abbrev BU:=wf 62 ⟨1,2,lD⟩
abbrev yj:=wf 63 ⟨1,1,jF⟩
abbrev BV:=wf 64 ⟨3,5,lE⟩
abbrev a1x:=wf 65 ⟨2,2,BC⟩
abbrev YK:=wf 66 ⟨2,5,x6⟩
abbrev D5:=wf 67 ⟨2,5,lU⟩
abbrev QB:=wf 68 ⟨1,1,rn⟩
abbrev UU:=wf 69 ⟨2,2,uh⟩
abbrev yk:=wf 70 ⟨3,4,jY⟩
abbrev ME:=wf 71 ⟨3,4,rq⟩
abbrev I0:=wf 72 ⟨2,4,nE⟩
abbrev su:=wf 73 ⟨2,2,gF⟩
abbrev GB:=wf 74 ⟨2,6,nF⟩
abbrev BW:=wf 75 ⟨3,5,lF⟩
abbrev ux:=wf 76 ⟨4,7,iX⟩
abbrev To:=wf 77 ⟨2,6,ui⟩
abbrev MF:=wf 78 ⟨2,2,qf⟩
abbrev QC:=wf 79 ⟨1,1,rz⟩
abbrev Az:=wf 80 ⟨2,4,kF⟩
abbrev ym:=wf 81 ⟨1,1,ij⟩
abbrev UV:=wf 82 ⟨1,1,uj⟩
abbrev UW:=wf 83 ⟨1,1,uk⟩
abbrev rG:=wf 84 ⟨2,3,hU⟩
abbrev D6:=wf 85 ⟨2,2,lV⟩
abbrev MG:=wf 86 ⟨1,3,oN⟩
abbrev D7:=wf 87 ⟨1,4,kj⟩
abbrev Ja:=wf 88 ⟨1,1,nG⟩
abbrev MH:=wf 89 ⟨2,4,nH⟩
abbrev GC:=wf 90 ⟨2,2,lq⟩
abbrev yn:=wf 91 ⟨1,2,jG⟩
abbrev D8:=wf 92 ⟨1,3,km⟩
abbrev Jb:=wf 93 ⟨2,2,nI⟩
abbrev ql:=wf 94 ⟨2,3,gK⟩
abbrev D9:=wf 95 ⟨1,1,ko⟩
abbrev QD:=wf 96 ⟨1,2,rB⟩
abbrev Jc:=wf 97 ⟨2,2,nJ⟩
abbrev yo:=wf 98 ⟨2,2,jH⟩
abbrev QE:=wf 99 ⟨2,2,rD⟩
abbrev AA:=wf 100 ⟨2,3,kG⟩
abbrev AB:=wf 101 ⟨2,2,kH⟩
abbrev yr:=wf 102 ⟨3,3,jZ⟩
abbrev Jd:=wf 103 ⟨2,2,nL⟩
abbrev QF:=wf 104 ⟨1,3,rE⟩
abbrev vp:=wf 105 ⟨3,3,ja⟩
abbrev GD:=wf 106 ⟨2,2,nM⟩
abbrev sO:=wf 107 ⟨2,2,ik⟩
abbrev Je:=wf 108 ⟨2,2,nN⟩
abbrev oU:=wf 109 ⟨3,3,gj⟩
abbrev yt:=wf 110 ⟨2,2,jI⟩
abbrev Ea:=wf 111 ⟨2,2,kq⟩
abbrev uz:=wf 112 ⟨2,2,hW⟩
abbrev UX:=wf 113 ⟨2,2,ul⟩
abbrev Tp:=wf 114 ⟨2,2,um⟩
abbrev Jf:=wf 115 ⟨2,2,nO⟩
abbrev BX:=wf 116 ⟨2,4,j0⟩
abbrev QG:=wf 117 ⟨1,1,rF⟩
abbrev GE:=wf 118 ⟨1,1,lr⟩
abbrev MI:=wf 119 ⟨1,1,qg⟩
abbrev GH:=wf 120 ⟨3,3,jJ⟩
abbrev Eb:=wf 121 ⟨3,6,fS⟩
theorem MJ{k j:Nat}(h:decide (k<j)=true)(hj:decide (j<=68)=true):iJ ie my NN BP j k=FN k:=by
 have h:=oD h;rw[ox ie my NN BP h];exact(ox ie my NN BP (j:=68) (ba h (oD hj))).symm
theorem Jg{k j:Nat}(h:decide (k<j)=true)(hj:decide (j<=122)=true):js ie my NN FN BM j k=FM k:=by
 have h:=oD h;rw[oy ie my NN FN BM h];exact(oy ie my NN FN BM (j:=122) (ba h (oD hj))).symm
end Sq
namespace Sq
open PySem PySem.Spec PyProof.Rows L2
structure Wd where
 K:al
 fa:Nat->ai
 C:ai
 at_:List Str
abbrev FzL(K:al)(H:Hp)(a:ai)(xs:List V):Prop:=
 (∃o,H a=some (.frz o (.lst xs)))\/
  ∃(o:fB) (its:Array Value) (n:Nat),K.lookup a=some o/\o.cls=.type "list"/\o.dict=none/\o.data=.seq its n/\its.size<=bY/\cv xs its.toList
theorem FzL.sq{K:al}{H:Hp}{a:ai}{xs:List V}(h:FzL K H a xs):fj K H a xs:=h.elim (λ⟨o,e⟩=>.inl (.inr ⟨o,e⟩)) .inr
section
variable (w:Wd) (h0:ai)
abbrev wL(H:Hp)(v:V)(t:List Int):Prop:=∃b,v=.ref b/\lK w.K H b (t.map V.int)
abbrev jK(H:Hp)(v:V)(q:jP):Prop:=∃b bt bk,v=.ref b/\lK w.K H b [.int q.a,.int q.b,.int q.c,.ref bt,.ref bk,.int q.e,.int q.g]/\lK w.K H bt (q.ts.map V.int)/\lK w.K H bk (q.ks.map V.int)
abbrev sP(H:Hp)(v:V)(xs:List Int):Prop:=∃a o,v=.ref a/\H a=some (.frz o (.lst (xs.map V.int)))
abbrev wM(H:Hp)(v:V)(p:List Int×List Int):Prop:=∃b u1 u2,v=.ref b/\lK w.K H b [u1,u2]/\sP H u1 p.1/\sP H u2 p.2
abbrev gk(H:Hp)(v:V):PV->Prop
 | .int i=>v=.int i
 | .bl b=>v=.bl b
 | .non=>v=.non
 | .il xs=>∃a,v=.ref a/\H a=some (.lst (xs.map V.int))
 | .bls xs=>∃a,v=.ref a/\H a=some (.lst (xs.map V.bl))
 | .tups ts=>∃a vs,v=.ref a/\H a=some (.lst vs)/\Paired (wL w H) vs ts
 | .tup t=>wL w H v t
 | .ent k n=>∃b,v=.ref b/\lK w.K H b [.ref (w.fa k),.int n]
 | .fn k=>v=.ref (w.fa k)
 | .obj=>v=.ref h0
 | .pic q=>jK w H v q
 | .pics l=>∃a vs,v=.ref a/\H a=some (.lst vs)/\Paired (jK w H) vs l
 | .fil xs=>∃a,v=.ref a/\FzL w.K H a (xs.map V.int)
 | .fzl xs=>sP H v xs
 | .pr g f=>wM w H v (g,f)
 | .prs l=>∃a vs,v=.ref a/\H a=some (.lst vs)/\Paired (wM w H) vs l
abbrev ls(H:Hp):List V->List PV->Prop:=Paired (λv p=>gk w h0 H v p)
end
section
variable {w:Wd} {h0:ai} {H H':Hp}
theorem Ec{K:al}{a:ai}{xs:List V}(e:cZ H H')(h:lK K H a xs):lK K H' a xs:=by
 rcases h with(h | ⟨o,h⟩) | h
 . exact .inl (.inl (e _ _ h))
 . exact .inl (.inr ⟨o,e _ _ h⟩)
 . exact .inr h
theorem wL.mono{v:V}{t:List Int}(e:cZ H H')(h:wL w H v t):wL w H' v t:=by
 obtain⟨b,e1,h1⟩:=h;exact⟨b,e1,Ec e h1⟩
theorem jK.change{v:V}{q:jP}(t:∀b zs,lK w.K H b zs->lK w.K H' b zs)(h:jK w H v q):jK w H' v q:=by
 obtain⟨b,bt,bk,e,h1,h2,h3⟩:=h;exact⟨b,bt,bk,e,t _ _ h1,t _ _ h2,t _ _ h3⟩
theorem sP.change{v:V}{xs:List Int}(fz:∀b o u,H b=some (.frz o u)->H' b=some (.frz o u))(h:sP H v xs):sP H' v xs:=by
 obtain⟨a,o,e,h⟩:=h;exact⟨a,o,e,fz _ _ _ h⟩
theorem sP.rd{v:V}{xs:List Int}(h:sP H v xs):∃a,v=.ref a/\Rd H a (.lst (xs.map V.int)):=let⟨a,o,e,h⟩:=h;⟨a,e,.inr ⟨o,h⟩⟩
theorem wM.change{v:V}{q:List Int×List Int}(t:∀b zs,lK w.K H b zs->lK w.K H' b zs)(fz:∀b o u,H b=some (.frz o u)->H' b=some (.frz o u))(h:wM w H v q):wM w H' v q:=by
 obtain⟨b,bg,bf,e,h1,h2,h3⟩:=h;exact⟨b,bg,bf,e,t _ _ h1,h2.change fz,h3.change fz⟩
theorem gk.change{v:V}{p:PV}(t:∀b zs,lK w.K H b zs->lK w.K H' b zs)(fz:∀b o u,H b=some (.frz o u)->H' b=some (.frz o u))(l:fJ p=true->∀a us,v=.ref a->H a=some (.lst us)->H' a=some (.lst us))(h:gk w h0 H v p):gk w h0 H' v p:=by
 cases p with
 | int i=>exact h
 | bl i=>exact h
 | non=>exact h
 | il xs=>obtain⟨a,e1,h1⟩:=h;exact⟨a,e1,l rfl a _ e1 h1⟩
 | bls xs=>obtain⟨a,e1,h1⟩:=h;exact⟨a,e1,l rfl a _ e1 h1⟩
 | tups xs=>obtain⟨a,vs,e1,h1,h2⟩:=h;exact⟨a,vs,e1,l rfl a _ e1 h1,Paired.mapP h2 λ_ _ ⟨b,e2,h3⟩=>⟨b,e2,t _ _ h3⟩⟩
 | tup zs=>obtain⟨b,e1,h1⟩:=h;exact⟨b,e1,t _ _ h1⟩
 | ent k n=>obtain⟨b,e1,h1⟩:=h;exact⟨b,e1,t _ _ h1⟩
 | fn k=>exact h
 | obj=>exact h
 | pic q=>exact jK.change t h
 | pics xs=>obtain⟨a,vs,e1,h1,h2⟩:=h;exact⟨a,vs,e1,l rfl a _ e1 h1,Paired.mapP h2 λ_ _=>jK.change t⟩
 | fil xs=>obtain⟨a,e1,h1⟩:=h;exact⟨a,e1,h1.elim (λ⟨o,e⟩=>.inl ⟨o,fz _ _ _ e⟩) .inr⟩
 | fzl xs=>exact sP.change fz h
 | pr g f=>exact wM.change t fz h
 | prs xs=>obtain⟨a,vs,e1,h1,h2⟩:=h;exact⟨a,vs,e1,l rfl a _ e1 h1,Paired.mapP h2 λ_ _=>wM.change t fz⟩
theorem gk.mono{v:V}{p:PV}(e:cZ H H')(h:gk w h0 H v p):gk w h0 H' v p:=gk.change (λ_ _=>Ec e) (λ_ _ _ h=>e _ _ h) (λ_ a us _ h=>e _ _ h) h
theorem ls.mono{vs:List V}{ps:List PV}(e:cZ H H')(h:ls w h0 H vs ps):ls w h0 H' vs ps:=Paired.mapP h λ_ _=>gk.mono e
theorem dP{a:ai}{o:HO}(h:H a=none):cZ H (upd H a o):=λb u e=>by rw[bU (eh e h)];exact e
end
abbrev YL(w:Wd)(h0:ai)(hs:List PV)(H:Hp):Prop:=∀(j:Nat) p,hs[j]?=some p->∃dx fs,H h0=some (.ins w.C dx fs)/\∀m,m∉w.at_->fs.lookup m=none
structure fT (w:Wd) (h0:ai) (H:Hp) (σ:L2.St) (l:Loc) (hs:List PV):Prop where
 len:σ.length=l.length
 loc:∀i p,getL l i=some p->∃v,σ[i]?=some (some v)/\gk w h0 H v p
 fld:∀(j:Nat) p,hs[j]?=some p->∃dx fs a v,H h0=some (.ins w.C dx fs)/\w.at_[j]?=some a/\fs.lookup a=some v/\gk w h0 H v p
 nom:YL w h0 hs H
theorem fT.mono{w:Wd}{h0:ai}{H H':Hp}{σ:L2.St}{l:Loc}{hs:List PV}(e:cZ H H')(h:fT w h0 H σ l hs):fT w h0 H' σ l hs:=
 ⟨h.len,λi p q=>let⟨v,a,b⟩:=h.loc i p q;⟨v,a,b.mono e⟩,λj p q=>let⟨dx,fs,a,v,x1,x2,x3,x4⟩:=h.fld j p q;⟨dx,fs,a,v,e _ _ x1,x2,x3,x4.mono e⟩,λj p q=>let⟨dx,fs,x1,x2⟩:=h.nom j p q;⟨dx,fs,e _ _ x1,x2⟩⟩
abbrev FR(w:Wd)(h0:ai)(hs:List PV)(H:Hp):Prop:=(∀(j:Nat) p,hs[j]?=some p->∃dx fs a v,H h0=some (.ins w.C dx fs)/\w.at_[j]?=some a/\fs.lookup a=some v/\gk w h0 H v p)/\YL w h0 hs H
abbrev fk(H:Hp)(v:V)(p:PV):Prop:=∀a,v=.ref a->fJ p=true->H a=none
theorem fk.flat{H:Hp}{v:V}{p:PV}(h:fJ p=false):fk H v p:=λa _ e=>by rw[h]at e;cases e
theorem fk.of{H:Hp}{a:ai}{p:PV}(h:H a=none):fk H (.ref a) p:=λb e _=>by cases e;exact h
theorem fk.back{H H':Hp}{v:V}{p:PV}(e:cZ H H')(h:fk H' v p):fk H v p:=λa q z=>e.free (h a q z)
section
variable (w:Wd) (G:gH)
abbrev tP(c:CE):TE:=λσ H Q=>∃h0 l hs p,fT w h0 H σ l hs/\(b6 G hs c).v l=some p/\∀v H',cZ H H'->gk w h0 H' v p->(jT c=true->fk H v p)->Q v H'
abbrev tK(c:CE):TT:=λσ H Q=>∃h0 l hs k,fT w h0 H σ l hs/\(b6 G hs c).v l=some (.bl k)/\∀H',cZ H H'->Q k H'
abbrev Tq(c:CE):TA:=λσ H Q=>∃h0 l hs ps,fT w h0 H σ l hs/\(b6 G hs c).as l=some ps/\∀vs H',cZ H H'->ls w h0 H' vs ps->Q vs H'
abbrev Jh(k:Nat):Sp:=λvs H Q _=>∃h0 ps hs p,ls w h0 H vs ps/\FR w h0 hs H/\G.fn k ps hs=some p/\∀v H',cZ H H'->gk w h0 H' v p->fk H v p->Q v H'
end
theorem tPe{w G}{c:CE}{R:TE}(k:∀σ H Q h0 l hs p,fT w h0 H σ l hs->(b6 G hs c).v l=some p->(∀v H',cZ H H'->gk w h0 H' v p->(jT c=true->fk H v p)->Q v H')->R σ H Q):∀σ H Q,tP w G c σ H Q->R σ H Q:=λσ H Q ⟨h0,l,hs,p,E,e,q⟩=>k σ H Q h0 l hs p E e q
theorem tKe{w G}{c:CE}{R:TT}(k:∀σ H Q h0 l hs k,fT w h0 H σ l hs->(b6 G hs c).v l=some (.bl k)->(∀H',cZ H H'->Q k H')->R σ H Q):∀σ H Q,tK w G c σ H Q->R σ H Q:=λσ H Q ⟨h0,l,hs,p,E,e,q⟩=>k σ H Q h0 l hs p E e q
theorem aa{α β:Type}{x:Option α}{f:α->Option β}{y:β}(h:x.bind f=some y):∃a,x=some a/\f a=some y:=by
 cases x with
 | none=>cases h
 | some a=>exact⟨a,rfl,h⟩
theorem aP{α β:Type}{x:Option α}{f:α->β}{y:β}(h:x.map f=some y):∃a,x=some a/\f a=y:=by
 cases x with
 | none=>cases h
 | some a=>exact⟨a,rfl,bv.inj h⟩
theorem aaE{α β:Type}{x:Option α}{f:α->Option β}{y:β}{C:Prop}(h:x.bind f=some y)(k:∀a,x=some a->f a=some y->C):C:=by
 obtain⟨a,u,v⟩:=aa h;exact k a u v
theorem aPE{α β:Type}{x:Option α}{f:α->β}{y:β}{C:Prop}(h:x.map f=some y)(k:∀a,x=some a->f a=y->C):C:=by
 obtain⟨a,u,v⟩:=aP h;exact k a u v
theorem cT{p:PV}{i:Int}(h:dB p=some i):p=.int i:=by
 cases p<;>simp only[dB]at h<;>first | (cases h;rfl) | cases h
theorem dC{p:PV}{i:Bool}(h:gn p=some i):p=.bl i:=by
 cases p<;>simp only[gn]at h<;>first | (cases h;rfl) | cases h
theorem yu{p:PV}{i:List Int}(h:Au p=some i):p=.tup i:=by
 cases p<;>simp only[Au]at h<;>first | (cases h;rfl) | cases h
theorem wc{p:PV}{i:jP}(h:vj p=some i):p=.pic i:=by
 cases p<;>simp only[vj]at h<;>first | (cases h;rfl) | cases h
theorem AC{p:PV}{i:List Int×List Int}(h:Gj p=some i):p=.pr i.1 i.2:=by
 cases p<;>simp only[Gj]at h<;>first | (cases h;rfl) | cases h
theorem GI{p q:PV}(h:Av p=some q):∃xs,p=.il xs/\q=.fzl xs:=by
 cases p<;>simp only[Av]at h<;>first | (cases h;exact⟨_,rfl,rfl⟩) | cases h
theorem qm{p:PV}{i:List Int}(h:ow p=some i):p=.il i:=by
 cases p<;>simp only[ow]at h<;>first | (cases h;rfl) | cases h
theorem lW:mq<=bY:=by decide
theorem _root_.L2.PE.imp{X:Cx}{e:Expr}{t t':TE}(h:PE X e t)(i:∀σ H Q,t' σ H Q->t σ H Q):PE X e t':=λpins s σ H Q I q=>h pins s σ H Q I (i σ H Q q)
theorem _root_.L2.PT.imp{X:Cx}{e:Expr}{t t':TT}(h:PT X e t)(i:∀σ H Q,t' σ H Q->t σ H Q):PT X e t':=λpins s σ H Q I q=>h pins s σ H Q I (i σ H Q q)
theorem _root_.L2.PW.imp{X:Cx}{e:Expr}{t t':TT}(h:PW X e t)(i:∀σ H Q,t' σ H Q->t σ H Q):PW X e t':=λwh pins s σ H Q I q=>h wh pins s σ H Q I (i σ H Q q)
theorem _root_.L2.PA.imp{X:Cx}{e:List Expr}{t t':TA}(h:PA X e t)(i:∀σ H Q,t' σ H Q->t σ H Q):PA X e t':=λpos pins s σ H Q I q=>h pos pins s σ H Q I (i σ H Q q)
section
variable {w:Wd} {G:gH} {X:Cx} {h0:ai} {H:Hp} {σ:L2.St} {l:Loc} {hs:List PV} {Q:VK} {a b c:CE} {x y z:PV} {ea eb ec:Expr} {pos:Pos}
theorem qo {r:R2} (E:fT w h0 H σ l hs) (e1:(b6 G hs a).v l=some x) (e2:(b6 G hs b).v l=some y)
 (k:∀v u H2,cZ H H2->gk w h0 H2 v x->gk w h0 H2 u y->r v u H2 Q):Yl r (tP w G a) (tP w G b) σ H Q:=
 ⟨h0,l,hs,x,E,e1,λv H1 s1 r1 _=>⟨h0,l,hs,y,E.mono s1,e2,λu H2 s2 r2 _=>k v u H2 (s1.trans s2) (r1.mono s2) r2⟩⟩
theorem UY{r:V->Hp->VK->Prop}(E:fT w h0 H σ l hs)(e1:(b6 G hs a).v l=some x)(k:∀v H2,cZ H H2->gk w h0 H2 v x->r v H2 Q):tUn r (tP w G a) σ H Q:=
 ⟨h0,l,hs,x,E,e1,λv H1 s1 r1 _=>k v H1 s1 r1⟩
theorem YM{i:Int}{k:Nat}:PE X (.Constant (.int i) k pos) (tP w G (.n i)):=F4.imp<|tPe λσ H Q h0 l hs p E e q=>by
 cases(show some (PV.int i)=some p from e)
 exact q _ H (cZ.refl H) rfl λ_=>fk.flat rfl
theorem UZ{i:Bool}{k:Nat}:PE X (.Constant (.bool i) k pos) (tP w G (.litb i)):=X4.imp<|tPe λσ H Q h0 l hs p E e q=>by
 cases(show some (PV.bl i)=some p from e)
 exact q _ H (cZ.refl H) rfl λ_=>fk.flat rfl
theorem U0{k:Nat}:PE X (.Constant .none k pos) (tP w G .none_):=Ue.imp<|tPe λσ H Q h0 l hs p E e q=>by
 cases(show some PV.non=some p from e)
 exact q _ H (cZ.refl H) rfl λ_=>fk.flat rfl
theorem YN{i:Nat}{n:Str}(hN:X.N[i]?=some n)(hv:Tb X.env.scope n)(hd:(n==("__debug__":Str))=false)(hcd:(n==("__classdict__":Str))=false):PE X (.Name n pos) (tP w G (.v i)):=
 (F3 hN hv hd hcd).imp<|tPe λσ H Q h0 l hs p E e q=>by
  obtain⟨v,e1,r⟩:=E.loc i p e;exact⟨v,e1,q v H (cZ.refl H) r λz=>nomatch z⟩
theorem QH{j:Nat}{n:Str}{i:Int}{t:Tok}(hg:Gl X n)(hm:X.mg n=some (.int i t))(hc:G.c j=some (.int i))(hd:(n==("__debug__":Str))=false):PE X (.Name n pos) (tP w G (.g j)):=
 (PX hg hm (v:=.int i) ⟨t,rfl⟩ hd).imp<|tPe λσ H Q h0 l hs p E e q=>by
  have f1:G.c j=some p:=e;rw[hc]at f1;cases f1;exact q _ H (cZ.refl H) rfl λ_=>fk.flat rfl
abbrev Tr:R2:=λx y H Q=>∃l b xs zs,x=.ref l/\y=.ref b/\Rd H l (.lst xs)/\Rd H b (.lst zs)/\xs.length+zs.length<=bY/\∀p,H p=none->Q (.ref p) (upd H p (.lst (xs++zs)))
theorem QI:n8 X (sf .Add) Tr:=by
 intro pins s σ H x y v u Q I rx ry h;obtain⟨l,b,xs,zs,rfl,rfl,hH,hB,hz,q⟩:=h;cases rx;cases ry;obtain⟨z,its,n,r,e⟩:=hH.ok I.hok;obtain⟨z2,its2,n2,r2,e2⟩:=hB.ok I.hok;haveI hl:=r.length;haveI hl2:=r2.length;refine PySem.P.add_list e e2 ?_ (by rw[aK,aK];lia);have ea:its.toArray++its2.toArray=(its++its2).toArray:=by simp
 rw[ea];exact⟨.ref _,_,I.lnew (t':=s.toks) (r.append r2) (by rw[aA];lia),rfl,q _ I.fresh⟩
theorem YO(pa:PE X ea (tP w G a))(pb:PE X eb (tP w G b)):PE X (.BinOp ea .Add eb pos) (tP w G (.b .add a b)):=
 (DH (n8.or Uu QI) pa pb).imp<|tPe λσ H Q h0 l hs p E e q=>by
  fail"e";fail"k";refine qo E e1 e2 λv u H2 s2 rv ru=>?_;have cat:∀xs ys:List Int,(if xs.length+ys.length<=mq then some (PV.il (xs++ys))else none)=some p->(∃a,v=.ref a/\Rd H2 a (.lst (xs.map V.int)))->(∃a,u=.ref a/\Rd H2 a (.lst (ys.map V.int)))->Tr v u H2 Q:=λxs ys f3 hv hu=>by
   split at f3
   . rename_i hl;cases f3;obtain⟨a1,rfl,ha⟩:=hv;obtain⟨a2,rfl,hb⟩:=hu;refine⟨a1,a2,_,_,rfl,rfl,ha,hb,by rw[ae,ae];exact bb hl lW,λp' hp=>?_⟩;exact q _ _ (s2.trans (dP hp)) ⟨p',rfl,by rw[bB,bQ]⟩ λ_=>fk.back s2 (fk.of hp)
   . cases f3
  cases x with
  | int i=>
   cases y with
   | int j=>cases(show some (PV.int (i+j))=some p from f2);exact .inl ⟨i,j,rv,ru,q _ _ s2 rfl λ_=>fk.flat rfl⟩
   | _=>exact(nbE f2).elim
  | il xs=>
   have rv':∃a,v=.ref a/\Rd H2 a (.lst (xs.map V.int)):=let⟨a,e,h⟩:=rv;⟨a,e,.inl h⟩;cases y with
   | il ys=>exact .inr (cat xs ys f2 rv' (let⟨a,e,h⟩:=ru;⟨a,e,.inl h⟩))
   | fzl ys=>exact .inr (cat xs ys f2 rv' (sP.rd ru))
   | _=>exact(nbE f2).elim
  | fzl xs=>
   cases y with
   | il ys=>exact .inr (cat xs ys f2 (sP.rd rv) (let⟨a,e,h⟩:=ru;⟨a,e,.inl h⟩))
   | _=>exact(nbE f2).elim
  | _=>exact(nbE f2).elim
theorem YQ(pa:PE X ea (tP w G a))(pb:PE X eb (tP w G b)):PE X (.BinOp ea .Sub eb pos) (tP w G (.b .sub a b)):=
 (DH Uv pa pb).imp<|tPe λσ H Q h0 l hs p E e q=>by
  fail"e";fail"k";refine qo E e1 e2 λv u H2 s2 rv ru=>?_;cases x with
  | int i=>
   cases y with
   | int j=>cases(show some (PV.int (i-j))=some p from f2);exact⟨i,j,rv,ru,q _ _ s2 rfl λ_=>fk.flat rfl⟩
   | _=>exact(nbE f2).elim
  | _=>exact(nbE f2).elim
theorem wd(xs:List Int):∀k:Nat,(aJ k (xs.map V.int)).flatten=(aJ k xs).flatten.map V.int
 | 0=>rfl
 | k+1=>by rw[bS,bS,eV,eV,bQ,wd xs k]
theorem YR(pa:PE X ea (tP w G a))(pb:PE X eb (tP w G b)):PE X (.BinOp ea .Mult eb pos) (tP w G (.b .mul a b)):=
 (DH (n8.or Uw UE) pa pb).imp<|tPe λσ H Q h0 l hs p E e q=>by
  fail"e";fail"k";refine qo E e1 e2 λv u H2 s2 rv ru=>?_;cases x with
  | int i=>
   cases y with
   | int j=>
    have f3:(if(-vZ<i/\i<vZ)\/(-vZ<j/\j<vZ)then some (PV.int (i*j))else none)=some p:=f2;split at f3
    . rename_i hc;cases f3;exact .inl ⟨i,j,rv,ru,hc,q _ _ s2 rfl λ_=>fk.flat rfl⟩
    . cases f3
   | _=>exact(nbE f2).elim
  | il xs=>
   cases y with
   | int k=>
    have f4:(if k<vZ/2/\ -(vZ/2)<=k/\xs.length*k.toNat<=mq then some (PV.il (aJ k.toNat xs).flatten)else none)=some p:=f2;split at f4
    . rename_i hc;cases f4;obtain⟨a1,rfl,ha⟩:=rv;refine .inr ⟨a1,k,_,rfl,ru,ha,hc.2.1,hc.1,by rw[ae];exact bb hc.2.2 lW,λp' hp=>?_⟩;exact q _ _ (s2.trans (dP hp)) ⟨p',rfl,by rw[bB,wd]⟩ λ_=>fk.back s2 (fk.of hp)
    . cases f4
   | _=>exact(nbE f2).elim
  | _=>exact(nbE f2).elim
theorem YS(pa:PE X ea (tP w G a))(pb:PE X eb (tP w G b)):PE X (.BinOp ea .Mod eb pos) (tP w G (.b .mod a b)):=
 (DH Ux pa pb).imp<|tPe λσ H Q h0 l hs p E e q=>by
  fail"e";fail"k";refine qo E e1 e2 λv u H2 s2 rv ru=>?_;cases x with
  | int i=>
   cases y with
   | int j=>
    have f3:(if 0<j then some (PV.int (i%j))else none)=some p:=f2;split at f3
    . rename_i hc;cases f3;exact⟨i,j,rv,ru,hc,q _ _ s2 rfl λ_=>fk.flat rfl⟩
    . cases f3
   | _=>exact(nbE f2).elim
  | _=>exact(nbE f2).elim
theorem U1(pa:PE X ea (tP w G a))(pb:PE X eb (tP w G b)):PE X (.BinOp ea .FloorDiv eb pos) (tP w G (.b .fdiv a b)):=
 (DH P5 pa pb).imp<|tPe λσ H Q h0 l hs p E e q=>by
  fail"e";fail"k";refine qo E e1 e2 λv u H2 s2 rv ru=>?_;cases x with
  | int i=>
   cases y with
   | int j=>
    have f3:(if 0<j/\j<1073741824 then some (PV.int (i/j))else none)=some p:=f2;split at f3
    . rename_i hc;cases f3;exact⟨i,j,rv,ru,hc,q _ _ s2 rfl λ_=>fk.flat rfl⟩
    . cases f3
   | _=>exact(nbE f2).elim
  | _=>exact(nbE f2).elim
theorem YT(pa:PE X ea (tP w G a)):PE X (.UnaryOp .USub ea pos) (tP w G (.neg a)):=
 (Ym Uy pa).imp<|tPe λσ H Q h0 l hs p E e q=>by
  fail"e";refine aPE f1 λi e2 f2=>?_;cases cT e2;cases f2;exact UY E e1 λv H2 s2 rv=>⟨i,rv,q _ _ s2 rfl λ_=>fk.flat rfl⟩
abbrev r6:LN->Ip
 | .lt=>.Lt | .le=>.LtE | .gt=>.Gt | .ge=>.GtE | .eq=>.Eq | .ne=>.NotEq | .mem=>.In | .nmem=>.NotIn
abbrev rC(w:Wd)(o:LN):R2:=λv u H Q=>∃h0 x y k,gk w h0 H v x/\gk w h0 H u y/\u5 o x y=some k/\Q (.bl k) H
theorem qr(i:Int):∀xs:List Int,YA (.int i) (xs.map V.int)=decide (i∈xs)
 | []=>by simp [YA]
 | x::r=>by
  haveI ih:=qr i r;unfold YA at ih⊢;rw[ax,DA,ih];by_cases h:x=i
  . subst h;simp [Dt]
  . have h':¬i=x:=λe=>h e.symm;simp [Dt,h,h']
theorem j1:∀xs:List Int,(xs.map V.int).all ky=true
 | []=>rfl
 | x::r=>by rw[ax,dz,j1 r];rfl
theorem mS:∀xs ys:List Int,cf.eqvAll (xs.map cf.int) (ys.map cf.int)=decide (xs=ys)
 | [],[]=>by simp [cf.eqvAll]
 | [],y::ys=>by simp [cf.eqvAll]
 | x::xs,[]=>by simp [cf.eqvAll]
 | x::xs,y::ys=>by
  haveI ih:=mS xs ys;rw[ax,ax];unfold cf.eqvAll;rw[ih];by_cases h:x=y<;>simp [cf.eqv,h]
theorem Ed(xs ys:List Int):cf.eqv (.list (xs.map cf.int)) (.list (ys.map cf.int))=decide (xs=ys):=by
 unfold cf.eqv;exact mS xs ys
theorem oV{K:al}{H:Hp}:∀xs:List Int,xS K H (xs.map V.int) (xs.map cf.int)
 | []=>.nil
 | x::r=>.cons (.int x) (oV r)
theorem qs:∀xs:List Int,cf.canLayAll0 (xs.map cf.int)=true
 | []=>rfl
 | x::r=>by rw[ax];unfold cf.canLayAll0;rw[qs r];rfl
theorem depthAll_ints:∀xs:List Int,cf.depthAll (xs.map cf.int)<=1
 | []=>dj _
 | x::r=>by
  haveI ih:=depthAll_ints r;rw[ax];unfold cf.depthAll;have:cf.depth (.int x)<=1:=by simp [cf.depth]
  lia
theorem shaped_ints(xs:List Int):SeqAt.shaped (.list (xs.map cf.int))=true:=by
 unfold SeqAt.shaped;have h1:cf.canLay0 (.list (xs.map cf.int))=true:=by unfold cf.canLay0;exact qs xs
 have h2:cf.depth (.list (xs.map cf.int))<=64:=by
  have:=depthAll_ints xs;unfold cf.depth;lia
 rw[h1,decide_eq_true h2];rfl
abbrev BY(q:jP):cf:=.tuple [.int q.a,.int q.b,.int q.c,.tuple (q.ts.map cf.int),.tuple (q.ks.map cf.int),.int q.e,.int q.g]
theorem Ji(x y:jP):cf.eqv (BY x) (BY y)=decide (x=y):=by
 obtain⟨a,b,c,ts,ks,e,g⟩:=x;obtain⟨a',b',c',ts',ks',e',g'⟩:=y;unfold BY;simp only[cf.eqv,cf.eqvAll,mS];rw[bH];simp [jP.mk.injEq]
theorem BZ{K:al}{w:Wd}{H:Hp}{v:V}{q:jP}(hK:w.K=K)(h:jK w H v q):Dp K H v (BY q):=by
 subst hK;obtain⟨b,bt,bk,rfl,h1,h2,h3⟩:=h;exact .tup h1 (.cons (.int _) (.cons (.int _) (.cons (.int _) (.cons (.tup h2 (oV _)) (.cons (.tup h3 (oV _)) (.cons (.int _) (.cons (.int _) .nil)))))))
theorem oW(q:jP):SeqAt.shaped (BY q)=true:=by
 haveI h1:=depthAll_ints q.ts;haveI h2:=depthAll_ints q.ks;have l1:cf.canLay0 (BY q)=true:=by
  unfold BY;simp only[cf.canLay0,cf.canLayAll0,qs,gb]
 have l2:cf.depth (BY q)<=64:=by
  unfold BY;simp only[cf.depth,cf.depthAll];have k:∀a b c:Nat,a<=c->b<=c->max a b<=c:=λa b c h h'=>by lia
  refine bb (SV (m:=63) ?_) (aO _);repeat' (first | lia | apply k)
 unfold SeqAt.shaped;rw[l1,decide_eq_true l2];rfl
theorem Kv(hK:w.K=X.K)(hu:X.A.units+64<Dv):∀o:LN,n8 X (dY (r6 o)) (rC w o):=by
 intro o pins s σ H v u vv uu Q I rv ru h;obtain⟨h0,x,y,k,hx,hy,e,q⟩:=h;cases o with
 | lt=>
  cases x with
  | int i=>
   cases y with
   | int j=>cases(show some (decide (i<j))=some k from e);exact Yp pins s σ H v u vv uu Q I rv ru ⟨i,j,hx,hy,q⟩
   | _=>exact(nbE e).elim
  | _=>exact(nbE e).elim
 | le=>
  cases x with
  | int i=>
   cases y with
   | int j=>cases(show some (decide (i<=j))=some k from e);exact Yq pins s σ H v u vv uu Q I rv ru ⟨i,j,hx,hy,q⟩
   | _=>exact(nbE e).elim
  | _=>exact(nbE e).elim
 | gt=>
  cases x with
  | int i=>
   cases y with
   | int j=>cases(show some (decide (j<i))=some k from e);exact Yr pins s σ H v u vv uu Q I rv ru ⟨i,j,hx,hy,q⟩
   | _=>exact(nbE e).elim
  | _=>exact(nbE e).elim
 | ge=>
  cases x with
  | int i=>
   cases y with
   | int j=>cases(show some (decide (j<=i))=some k from e);exact Ys pins s σ H v u vv uu Q I rv ru ⟨i,j,hx,hy,q⟩
   | _=>exact(nbE e).elim
  | _=>exact(nbE e).elim
 | eq=>
  cases x with
  | int i=>
   cases y with
   | int j=>
    cases(show some (decide (i=j))=some k from e)
    cases hx;cases hy;refine Tf pins s σ H _ _ vv uu Q I rv ru ⟨rfl,?_⟩;rw[xa,kO];exact q
   | _=>exact(nbE e).elim
  | bl i=>
   cases y with
   | bl j=>
    cases(show some (decide (i=j))=some k from e)
    cases hx;cases hy;refine Tf pins s σ H _ _ vv uu Q I rv ru ⟨rfl,?_⟩;rw[Bp,kO];exact q
   | _=>exact(nbE e).elim
  | il xs=>
   cases y with
   | il ys=>
    cases(show some (decide (xs=ys))=some k from e)
    obtain⟨a1,rfl,ha⟩:=hx;obtain⟨a2,rfl,hb⟩:=hy;refine Mr hu pins s σ H _ _ vv uu Q I rv ru ⟨_,_,.lst (fj.of ha) (oV xs),.lst (fj.of hb) (oV ys),shaped_ints xs,shaped_ints ys,?_⟩;rw[Ed];exact q
   | _=>exact(nbE e).elim
  | pic xq=>
   cases y with
   | pic yq=>
    cases(show some (decide (xq=yq))=some k from e)
    refine Mr hu pins s σ H _ _ vv uu Q I rv ru ⟨_,_,BZ hK hx,BZ hK hy,oW xq,oW yq,?_⟩;rw[Ji];exact q
   | _=>exact(nbE e).elim
  | _=>exact(nbE e).elim
 | ne=>
  cases x with
  | int i=>
   cases y with
   | int j=>
    cases(show some (!decide (i=j))=some k from e)
    cases hx;cases hy;refine Tg pins s σ H _ _ vv uu Q I rv ru ⟨rfl,?_⟩;rw[xa,kO];exact q
   | _=>exact(nbE e).elim
  | bl i=>
   cases y with
   | bl j=>
    cases(show some (!decide (i=j))=some k from e)
    cases hx;cases hy;refine Tg pins s σ H _ _ vv uu Q I rv ru ⟨rfl,?_⟩;rw[Bp,kO];exact q
   | _=>exact(nbE e).elim
  | il xs=>
   cases y with
   | il ys=>
    cases(show some (!decide (xs=ys))=some k from e)
    obtain⟨a1,rfl,ha⟩:=hx;obtain⟨a2,rfl,hb⟩:=hy;refine Ms hu pins s σ H _ _ vv uu Q I rv ru ⟨_,_,.lst (fj.of ha) (oV xs),.lst (fj.of hb) (oV ys),shaped_ints xs,shaped_ints ys,?_⟩;rw[Ed];exact q
   | _=>exact(nbE e).elim
  | pic xq=>
   cases y with
   | pic yq=>
    cases(show some (!decide (xq=yq))=some k from e)
    refine Ms hu pins s σ H _ _ vv uu Q I rv ru ⟨_,_,BZ hK hx,BZ hK hy,oW xq,oW yq,?_⟩;rw[Ji];exact q
   | _=>exact(nbE e).elim
  | _=>exact(nbE e).elim
 | mem=>
  cases x with
  | int i=>
   cases y with
   | il ys=>
    cases(show some (decide (i∈ys))=some k from e)
    cases hx;obtain⟨a2,rfl,hb⟩:=hy;refine As pins s σ H _ _ vv uu Q I rv ru ⟨a2,_,rfl,.inl (fj.of hb),rfl,j1 ys,?_⟩;rw[qr];exact q
   | fzl ys=>
    cases(show some (decide (i∈ys))=some k from e)
    cases hx;obtain⟨a2,rfl,hb⟩:=sP.rd hy;refine As pins s σ H _ _ vv uu Q I rv ru ⟨a2,_,rfl,.inl (.inl hb),rfl,j1 ys,?_⟩;rw[qr];exact q
   | _=>exact(nbE e).elim
  | _=>exact(nbE e).elim
 | nmem=>
  cases x with
  | int i=>
   cases y with
   | il ys=>
    cases(show some (!decide (i∈ys))=some k from e)
    cases hx;obtain⟨a2,rfl,hb⟩:=hy;refine tW pins s σ H _ _ vv uu Q I rv ru ⟨a2,_,rfl,.inl (fj.of hb),rfl,j1 ys,?_⟩;rw[qr];exact q
   | fzl ys=>
    cases(show some (!decide (i∈ys))=some k from e)
    cases hx;obtain⟨a2,rfl,hb⟩:=sP.rd hy;refine tW pins s σ H _ _ vv uu Q I rv ru ⟨a2,_,rfl,.inl (.inl hb),rfl,j1 ys,?_⟩;rw[qr];exact q
   | _=>exact(nbE e).elim
  | _=>exact(nbE e).elim
theorem YU(hK:w.K=X.K)(hu:X.A.units+64<Dv){o:LN}(pa:PE X ea (tP w G a))(pb:PE X eb (tP w G b))(hm:jQ (r6 o) eb=false):PE X (.Compare ea [r6 o] [eb] pos) (tP w G (.c o a b)):=
 (Qa (Kv hK hu o) pa pb hm).imp<|tPe λσ H Q h0 l hs p E e q=>by
  fail"e";fail"k";refine aPE f2 λk e3 f3=>?_;cases f3;exact qo E e1 e2 λv u H2 s2 rv ru=>⟨h0,x,y,k,rv,ru,e3,q _ _ s2 rfl λ_=>fk.flat rfl⟩
theorem YV(hK:w.K=X.K)(hu:X.A.units+64<Dv){o:LN}(pa:PE X ea (tP w G a))(pb:PE X eb (tP w G b))(hm:jQ (r6 o) eb=false):PT X (.Compare ea [r6 o] [eb] pos) (tK w G (.c o a b)):=
 (Qb (Kv hK hu o) pa pb hm).imp<|tKe λσ H Q h0 l hs k' E e q=>by
  fail"e";fail"k";refine aPE f2 λk e3 f3=>?_;cases f3;exact qo (Q:=λx H'=>∃k,x=.bl k/\Q k H') E e1 e2 λv u H2 s2 rv ru=>⟨h0,x,y,_,rv,ru,e3,_,rfl,q _ s2⟩
theorem AD{o o':LN}{k:Bool}(E:fT w h0 H σ l hs)(e:(b6 G hs (.chain o o' a b c)).v l=some (.bl k))(q:∀H2,cZ H H2->Q (.bl k) H2):F8 (rC w o) (rC w o') (tP w G a) (tP w G b) (tP w G c) σ H Q:=by
 fail"e";fail"k";refine aaE f2 λk1 e3 f3=>?_;refine⟨h0,l,hs,x,E,e1,λv H1 s1 r1 _=>⟨h0,l,hs,y,E.mono s1,e2,λu H2 s2 r2 _=>⟨h0,x,y,k1,r1.mono s2,r2,e3,k1,rfl,?_⟩⟩⟩;cases k1 with
 | false=>
  rw[if_neg (by decide)]at f3⊢;cases f3;exact q _ (s1.trans s2)
 | true=>
  rw[if_pos rfl]at f3⊢;refine aaE f3 λz e4 f4=>?_;refine aPE f4 λk2 e5 f5=>?_;cases f5;exact⟨h0,l,hs,z,E.mono (s1.trans s2),e4,λu' H3 s3 r3 _=>⟨h0,y,z,_,r2.mono s3,r3,e5,q _ ((s1.trans s2).trans s3)⟩⟩
theorem MK{o o':LN}{p:PV}(e:(b6 G hs (.chain o o' a b c)).v l=some p):∃k,p=.bl k:=by
 fail"e";fail"k";refine aaE f2 λk1 e3 f3=>?_;cases k1 with
 | false=>rw[if_neg (by decide)]at f3;cases f3;exact⟨_,rfl⟩
 | true=>
  rw[if_pos rfl]at f3;refine aaE f3 λz e4 f4=>?_;refine aPE f4 λk2 e5 f5=>?_;exact⟨_,f5.symm⟩
theorem QJ(hK:w.K=X.K)(hu:X.A.units+64<Dv){o o':LN}(pa:PE X ea (tP w G a))(pb:PE X eb (tP w G b))(pc:PE X ec (tP w G c))(hm:LP [r6 o,r6 o'] [eb,ec]=false):
 PE X (.Compare ea [r6 o,r6 o'] [eb,ec] pos) (tP w G (.chain o o' a b c)):=
 (Me (Kv hK hu o) (Kv hK hu o') pa pb pc hm).imp<|tPe λσ H Q h0 l hs p E e q=>by
  obtain⟨k,rfl⟩:=MK e;exact AD E e λH2 s2=>q _ _ s2 rfl λ_=>fk.flat rfl
theorem QK(hK:w.K=X.K)(hu:X.A.units+64<Dv){o o':LN}(pa:PE X ea (tP w G a))(pb:PE X eb (tP w G b))(pc:PE X ec (tP w G c))(hm:LP [r6 o,r6 o'] [eb,ec]=false):
 PT X (.Compare ea [r6 o,r6 o'] [eb,ec] pos) (tK w G (.chain o o' a b c)):=
 (Mf (Kv hK hu o) (Kv hK hu o') pa pb pc hm).imp λσ H Q ⟨h0,l,hs,k,E,e,q⟩=>
  AD (Q:=λx H'=>∃k,x=.bl k/\Q k H') E e λH2 s2=>⟨k,rfl,q _ s2⟩
theorem Ts{rest:List Expr}(pa:PE X ea (tP w G a))(pb:PE X (.BoolOp .And (eb::rest) pos) (tP w G b)):PE X (.BoolOp .And (ea::eb::rest) pos) (tP w G (.and a b)):=
 (Ul pa pb).imp<|tPe λσ H Q h0 l hs p E e q=>by
  fail"e";refine aaE f1 λk e2 f2=>?_;cases dC e2;refine⟨h0,l,hs,_,E,e1,λv H1 s1 r1 _=>⟨k,r1,?_⟩⟩;cases k with
  | true=>
   rw[if_pos rfl]at f2⊢;refine aaE f2 λy e3 f3=>?_;refine aPE f3 λk2 e4 f4=>?_;cases dC e4;cases f4;exact⟨h0,l,hs,_,E.mono s1,e3,λu H2 s2 r2 _=>q _ _ (s1.trans s2) r2 λ_=>fk.flat rfl⟩
  | false=>
   rw[if_neg (by decide)]at f2⊢;cases f2;exact q _ _ s1 rfl λ_=>fk.flat rfl
theorem YW{rest:List Expr}(pa:PE X ea (tP w G a))(pb:PE X (.BoolOp .Or (eb::rest) pos) (tP w G b)):PE X (.BoolOp .Or (ea::eb::rest) pos) (tP w G (.or a b)):=
 (X8 pa pb).imp<|tPe λσ H Q h0 l hs p E e q=>by
  fail"e";refine aaE f1 λk e2 f2=>?_;cases dC e2;refine⟨h0,l,hs,_,E,e1,λv H1 s1 r1 _=>⟨k,r1,?_⟩⟩;cases k with
  | false=>
   rw[if_neg (by decide)]at f2⊢;refine aaE f2 λy e3 f3=>?_;refine aPE f3 λk2 e4 f4=>?_;cases dC e4;cases f4;exact⟨h0,l,hs,_,E.mono s1,e3,λu H2 s2 r2 _=>q _ _ (s1.trans s2) r2 λ_=>fk.flat rfl⟩
  | true=>
   rw[if_pos rfl]at f2⊢;cases f2;exact q _ _ s1 rfl λ_=>fk.flat rfl
theorem YX(pa:PE X ea (tP w G a)):PE X (.UnaryOp .Not ea pos) (tP w G (.not a)):=
 (Um pa).imp<|tPe λσ H Q h0 l hs p E e q=>by
  fail"e";refine aPE f1 λk e2 f2=>?_;cases dC e2;cases f2;exact⟨h0,l,hs,_,E,e1,λv H1 s1 r1 _=>⟨k,r1,q _ _ s1 rfl λ_=>fk.flat rfl⟩⟩
theorem YY(pa:PT X ea (tK w G a)):PT X (.UnaryOp .Not ea pos) (tK w G (.not a)):=
 (Uk pa).imp<|tKe λσ H Q h0 l hs k' E e q=>by
  fail"e";refine aPE f1 λk e2 f2=>?_;cases dC e2;cases f2;exact⟨h0,l,hs,k,E,e1,λH1 s1=>q _ s1⟩
theorem U2(pa:PT X ea (tK w G a)):PW X (.BoolOp .And [ea] pos) (tK w G a):=PY pa
theorem YZ(pa:PT X ea (tK w G a)):PW X (.BoolOp .Or [ea] pos) (tK w G a):=Ui pa
theorem w_and{rest:List Expr}(pa:PT X ea (tK w G a))(pb:PW X (.BoolOp .And (eb::rest) pos) (tK w G b)):PW X (.BoolOp .And (ea::eb::rest) pos) (tK w G (.and a b)):=
 (Uj pa pb).imp<|tKe λσ H Q h0 l hs k' E e q=>by
  fail"e";refine aaE f1 λk e2 f2=>?_;cases dC e2;refine⟨h0,l,hs,k,E,e1,λH1 s1=>?_⟩;cases k with
  | true=>
   rw[if_pos rfl]at f2⊢;refine aaE f2 λy e3 f3=>?_;refine aPE f3 λk2 e4 f4=>?_;cases dC e4;cases f4;exact⟨h0,l,hs,_,E.mono s1,e3,λH2 s2=>q _ (s1.trans s2)⟩
  | false=>
   rw[if_neg (by decide)]at f2⊢;cases f2;exact q _ s1
theorem w_or{rest:List Expr}(pa:PT X ea (tK w G a))(pb:PW X (.BoolOp .Or (eb::rest) pos) (tK w G b)):PW X (.BoolOp .Or (ea::eb::rest) pos) (tK w G (.or a b)):=
 (X5 pa pb).imp<|tKe λσ H Q h0 l hs k' E e q=>by
  fail"e";refine aaE f1 λk e2 f2=>?_;cases dC e2;refine⟨h0,l,hs,k,E,e1,λH1 s1=>?_⟩;cases k with
  | false=>
   rw[if_neg (by decide)]at f2⊢;refine aaE f2 λy e3 f3=>?_;refine aPE f3 λk2 e4 f4=>?_;cases dC e4;cases f4;exact⟨h0,l,hs,_,E.mono s1,e3,λH2 s2=>q _ (s1.trans s2)⟩
  | true=>
   rw[if_pos rfl]at f2⊢;cases f2;exact q _ s1
theorem Jj(pa:PE X ea (tP w G a))(he:∀whole,Io ea X.env whole=(do let v<-whole;mr ea.pos;eF [v] (truthy v))):PT X ea (tK w G a):=
 (Uh pa he).imp λσ H Q ⟨h0,l,hs,k,E,e,q⟩=>⟨h0,l,hs,_,E,e,λv H1 s1 r1 _=>⟨k,r1,q _ s1⟩⟩
theorem Y0(pc:PT X ec (tK w G c))(pa:PE X ea (tP w G a))(pb:PE X eb (tP w G b)):PE X (.IfExp ec ea eb pos) (tP w G (.i c a b)):=
 (L3 pc pa pb).imp<|tPe λσ H Q h0 l hs p E e q=>by
  fail"e";refine aaE f1 λk e2 f2=>?_;cases dC e2;refine⟨h0,l,hs,k,E,e1,λH1 s1=>?_⟩;cases k with
  | true=>
   rw[if_pos rfl]at f2⊢;exact⟨h0,l,hs,_,E.mono s1,f2,λv H2 s2 r2 n2=>q _ _ (s1.trans s2) r2 λz=>fk.back s1 (n2 (be.mp z).1)⟩
  | false=>
   rw[if_neg (by decide)]at f2⊢;exact⟨h0,l,hs,_,E.mono s1,f2,λv H2 s2 r2 n2=>q _ _ (s1.trans s2) r2 λz=>fk.back s1 (n2 (be.mp z).2)⟩
end
section
variable {w:Wd} {G:gH} {X:Cx} {h0:ai} {H:Hp} {σ:L2.St} {l:Loc} {hs:List PV} {Q:VK} {a b c as:CE} {x y z:PV} {ea eb ec:Expr} {es:List Expr} {pos p0:Pos}
theorem Y1:PA X [] (Tq w G .z):=gd.imp λσ H Q x=>by
 obtain⟨h0,l,hs,ps,E,e,q⟩:=x;cases(show some []=some ps from e)
 exact q _ _ (cZ.refl H) .nil
theorem U3{r:CE}(pa:PE X ea (tP w G a))(pr:PA X es (Tq w G r))(hst:aW (ea::es) X.env=(false,b4 ea X.env)::aW es X.env):PA X (ea::es) (Tq w G (.k a r)):=
 (dG pa pr hst).imp λσ H Q x=>by
  obtain⟨h0,l,hs,ps,E,e,q⟩:=x;fail"e";refine aaE f1 λxs e2 f2=>?_;cases f2;exact⟨h0,l,hs,x,E,e1,λv H1 s1 r1 _=>⟨h0,l,hs,xs,E.mono s1,e2,λvs H2 s2 r2=>q _ _ (s1.trans s2) (.cons (r1.mono s2) r2)⟩⟩
theorem U4 {k lv:Nat} {n:Str} {f:ai} {fd:dJ} {ps:List Str} (F:gC X.prog X.w X.K X.mg X.base sH lv f fd ps (Jh w G k)) (hr:je lv X.A) (hg:Gl X n) (hm:X.mg n=some (.ref f)) (hk:cx X.K (.ref f)=true)
 (hb:Binds X.K fd ps []) (ha:PA X (ea::es) (Tq w G as)) (hdb:(n==("__debug__":Str))=false) (he:aW (ea::es) X.env=(false,b4 ea X.env)::aW es X.env) (hpl:(gP pos (aW es X.env)).any (·.1)=false):
 PE X (.Call (.Name n p0) (ea::es) [] pos) (tP w G (.call k as)):=
 (IN F hr hg hm hk hb .nil xT ha hdb he hpl).imp<|tPe λσ H Q h0 l hs p E e q=>by
  refine aaE e λps e1 f1=>?_;refine⟨h0,l,hs,ps,E,e1,λvs H1 s1 r1=>?_⟩;show Jh w G k (vs++[]) H1 Q E0;rw[cJ];exact⟨h0,ps,hs,p,r1,⟨(E.mono s1).fld,(E.mono s1).nom⟩,f1,λv H2 s2 rv nv=>q v H2 (s1.trans s2) rv λ_=>fk.back s1 nv⟩
abbrev B0(w:Wd)(f:Bi)(r:List V->Hp->VK->Prop):Prop:=∀(h0:ai) (H:Hp) (v:V) (x p:PV) (Q:VK),gk w h0 H v x->mx f x=some p->(∀v' H',cZ H H'->gk w h0 H' v' p->fk H v' p->Q v' H')->r [v] H Q
theorem Ee {f:Bi} {n:Str} {id:String} {r:List V->Hp->VK->Prop} (hc:nk X (.builtin id) r) (hb:B0 w f r) (hg:Gl X n) (hm:X.mg n=none) (hv:jf n=some (.builtin id)) (hn:n≠"__name__") (hdb:(n==("__debug__":Str))=false)
 (pa:PE X ea (tP w G a)) (he:aW [ea] X.env=[(false,b4 ea X.env)]):PE X (.Call (.Name n p0) [ea] [] pos) (tP w G (.bi f a)):=
 (xP hc hg hm hv (dG pa gd (by rw[he];rfl)) hn hdb (by rw[he];rfl) rfl).imp<|tPe λσ H Q h0 l hs p E e q=>by
  fail"e";exact⟨h0,l,hs,x,E,e1,λv H1 s1 r1 _=>hb h0 H1 v x p Q r1 f1 λv' H2 s2 r2 n2=>q v' H2 (s1.trans s2) r2 λ_=>fk.back s1 n2⟩
theorem Tt {f:Bi} {n:Str} {id:String} {r:List V->Hp->VK->Prop} (hc:nk X (.type id) r) (hb:B0 w f r) (hg:Gl X n) (hm:X.mg n=none) (hv:jf n=some (.type id)) (hn:n≠"__name__") (hdb:(n==("__debug__":Str))=false)
 (pa:PE X ea (tP w G a)) (he:aW [ea] X.env=[(false,b4 ea X.env)]):PE X (.Call (.Name n p0) [ea] [] pos) (tP w G (.bi f a)):=
 (Kg hc hg hm hv (dG pa gd (by rw[he];rfl)) hn hdb (by rw[he];rfl) rfl).imp<|tPe λσ H Q h0 l hs p E e q=>by
  fail"e";exact⟨h0,l,hs,x,E,e1,λv H1 s1 r1 _=>hb h0 H1 v x p Q r1 f1 λv' H2 s2 r2 n2=>q v' H2 (s1.trans s2) r2 λ_=>fk.back s1 n2⟩
theorem U5(hK:w.K=X.K):B0 w .len (λxs H Q=>∃p ys,xs=[.ref p]/\(fj X.K H p ys\/lK X.K H p ys)/\Q (.int ys.length) H):=by
 intro h0 H v x p Q r e q;cases x with
 | fil xs=>
  cases(show some (PV.int xs.length)=some p from e)
  obtain⟨a1,rfl,ha⟩:=r;rw[hK]at ha;exact⟨a1,_,rfl,.inl ha.sq,by rw[ae];exact q _ _ (cZ.refl H) rfl (fk.flat rfl)⟩
 | il xs=>
  cases(show some (PV.int xs.length)=some p from e)
  obtain⟨a1,rfl,ha⟩:=r;exact⟨a1,_,rfl,.inl (fj.of ha),by rw[ae];exact q _ _ (cZ.refl H) rfl (fk.flat rfl)⟩
 | bls xs=>
  cases(show some (PV.int xs.length)=some p from e)
  obtain⟨a1,rfl,ha⟩:=r;exact⟨a1,_,rfl,.inl (fj.of ha),by rw[ae];exact q _ _ (cZ.refl H) rfl (fk.flat rfl)⟩
 | tups xs=>
  cases(show some (PV.int xs.length)=some p from e)
  obtain⟨a1,vs,rfl,ha,hp⟩:=r;exact⟨a1,_,rfl,.inl (fj.of ha),by rw[Paired.length hp];exact q _ _ (cZ.refl H) rfl (fk.flat rfl)⟩
 | tup xs=>
  cases(show some (PV.int xs.length)=some p from e)
  obtain⟨a1,rfl,ha⟩:=r;rw[hK]at ha;exact⟨a1,_,rfl,.inr ha,by rw[ae];exact q _ _ (cZ.refl H) rfl (fk.flat rfl)⟩
 | pics xs=>
  cases(show some (PV.int xs.length)=some p from e)
  obtain⟨a1,vs,rfl,ha,hp⟩:=r;exact⟨a1,_,rfl,.inl (fj.of ha),by rw[Paired.length hp];exact q _ _ (cZ.refl H) rfl (fk.flat rfl)⟩
 | prs xs=>
  cases(show some (PV.int xs.length)=some p from e)
  obtain⟨a1,vs,rfl,ha,hp⟩:=r;exact⟨a1,_,rfl,.inl (fj.of ha),by rw[Paired.length hp];exact q _ _ (cZ.refl H) rfl (fk.flat rfl)⟩
 | fzl xs=>
  cases(show some (PV.int xs.length)=some p from e)
  obtain⟨a1,rfl,ha⟩:=sP.rd r;exact⟨a1,_,rfl,.inl (.inl ha),by rw[ae];exact q _ _ (cZ.refl H) rfl (fk.flat rfl)⟩
 | _=>exact(nbE e).elim
theorem U6(hK:w.K=X.K):B0 w .sum (YE X.K):=by
 intro h0 H v x p Q r e q;cases x with
 | il xs=>
  cases(show some (PV.int xs.sum)=some p from e)
  obtain⟨a1,rfl,ha⟩:=r;exact⟨a1,xs,rfl,fj.of ha,q _ _ (cZ.refl H) rfl (fk.flat rfl)⟩
 | _=>exact(nbE e).elim
theorem AE:∀(xs:List Int) (a:Int),xV a xs∈a::xs/\∀y∈a::xs,xV a xs<=y
 | [],a=>⟨aI,λy hy=>by cases (aZ.mp hy);exact a0H _⟩
 | b::r,a=>by
  obtain⟨h1,h2⟩:=AE r (if b<a then b else a);haveI h3:=h2 _ aI;refine⟨?_,λy hy=>?_⟩
  . show xV (if b<a then b else a) r∈a::b::r;rcases aE.mp h1 with q | q
    . rw[q];by_cases h:b<a
      . rw[if_pos h];exact ao _ aI
      . rw[if_neg h];exact aI
    . exact ao _ (ao _ q)
  . show xV (if b<a then b else a) r<=y;rcases aE.mp hy with q | q
    . subst q;refine wW h3 ?_;split<;>lia
    . rcases aE.mp q with q | q
      . subst q;refine wW h3 ?_;split<;>lia
      . exact h2 y (ao _ q)
theorem AF:∀(xs:List Int) (a:Int),xW a xs∈a::xs/\∀y∈a::xs,y<=xW a xs
 | [],a=>⟨aI,λy hy=>by cases (aZ.mp hy);exact a0H _⟩
 | b::r,a=>by
  obtain⟨h1,h2⟩:=AF r (if a<b then b else a);haveI h3:=h2 _ aI;refine⟨?_,λy hy=>?_⟩
  . show xW (if a<b then b else a) r∈a::b::r;rcases aE.mp h1 with q | q
    . rw[q];by_cases h:a<b
      . rw[if_pos h];exact ao _ aI
      . rw[if_neg h];exact aI
    . exact ao _ (ao _ q)
  . show y<=xW (if a<b then b else a) r;rcases aE.mp hy with q | q
    . subst q;refine wW ?_ h3;split<;>lia
    . rcases aE.mp q with q | q
      . subst q;refine wW ?_ h3;split<;>lia
      . exact h2 y (ao _ q)
theorem U7(hK:w.K=X.K):B0 w .min (YG X.K):=by
 intro h0 H v x p Q r e q;cases x with
 | il xs=>
  cases xs with
  | nil=>exact(nbE e).elim
  | cons x0 xs=>
   cases(show some (PV.int (xV x0 xs))=some p from e)
   obtain⟨a1,rfl,ha⟩:=r;refine⟨a1,x0::xs,rfl,fj.of ha,Z1 _,λm hm hle=>?_⟩;obtain⟨h1,h2⟩:=AE xs x0;have e1:m=xV x0 xs:=TZ (hle _ h1) (h2 m hm);rw[e1];exact q _ _ (cZ.refl H) rfl (fk.flat rfl)
 | _=>exact(nbE e).elim
theorem U8(hK:w.K=X.K):B0 w .max (YF X.K):=by
 intro h0 H v x p Q r e q;cases x with
 | il xs=>
  cases xs with
  | nil=>exact(nbE e).elim
  | cons x0 xs=>
   cases(show some (PV.int (xW x0 xs))=some p from e)
   obtain⟨a1,rfl,ha⟩:=r;refine⟨a1,x0::xs,rfl,fj.of ha,Z1 _,λm hm hle=>?_⟩;obtain⟨h1,h2⟩:=AF xs x0;have e1:m=xW x0 xs:=TZ (h2 m hm) (hle _ h1);rw[e1];exact q _ _ (cZ.refl H) rfl (fk.flat rfl)
 | _=>exact(nbE e).elim
theorem QL(hK:w.K=X.K):B0 w .list (λxs H Q=>∃p ys,xs=[.ref p]/\(fj X.K H p ys\/lK X.K H p ys)/\∀l,H l=none->Q (.ref l) (upd H l (.lst ys))):=by
 intro h0 H v x p Q r e q;cases x with
 | il xs=>
  cases(show some (PV.il xs)=some p from e)
  obtain⟨a1,rfl,ha⟩:=r;exact⟨a1,_,rfl,.inl (fj.of ha),λl hl=>q _ _ (dP hl) ⟨l,rfl,bB⟩ (fk.of hl)⟩
 | tup xs=>
  cases(show some (PV.il xs)=some p from e)
  obtain⟨a1,rfl,ha⟩:=r;rw[hK]at ha;exact⟨a1,_,rfl,.inr ha,λl hl=>q _ _ (dP hl) ⟨l,rfl,bB⟩ (fk.of hl)⟩
 | _=>exact(nbE e).elim
theorem ML(hK:w.K=X.K):B0 w .tuple (λxs H Q=>∃p ys,xs=[.ref p]/\((fj X.K H p ys/\∀l,H l=none->Q (.ref l) (upd H l (.tup ys)))\/(lK X.K H p ys/\Q (.ref p) H))):=by
 intro h0 H v x p Q r e q;cases x with
 | il xs=>
  cases(show some (PV.tup xs)=some p from e)
  obtain⟨a1,rfl,ha⟩:=r;exact⟨a1,_,rfl,.inl ⟨fj.of ha,λl hl=>q _ _ (dP hl) ⟨l,rfl,lK.of bB⟩ (fk.of hl)⟩⟩
 | _=>exact(nbE e).elim
theorem U9:B0 w .abs (λxs H Q=>∃i,xs=[.int i]/\Q (.int (if i<0 then -i else i)) H):=by
 intro h0 H v x p Q r e q;cases x with
 | int i=>
  cases(show some (PV.int (if i<0 then -i else i))=some p from e)
  cases r;exact⟨i,rfl,q _ _ (cZ.refl H) rfl (fk.flat rfl)⟩
 | _=>exact(nbE e).elim
theorem Va(hc:X.calm=true)(hg:Gl X "min")(hm:X.mg "min"=none)(pa:PE X ea (tP w G a))(pb:PE X eb (tP w G b))(he:aW [ea,eb] X.env=(false,b4 ea X.env)::aW [eb] X.env)(he2:aW [eb] X.env=[(false,b4 eb X.env)]):
 PE X (.Call (.Name "min" p0) [ea,eb] [] pos) (tP w G (.min2 a b)):=
 (xP (Ka hc) hg hm zI (dG pa (dG pb gd (by rw[he2];rfl)) he) (by decide) (by decide) he (by rw[he2];rfl)).imp<|tPe λσ H Q h0 l hs p E e q=>by
  fail"e";fail"k";refine aaE f2 λi e3 f3=>?_;refine aPE f3 λj e4 f4=>?_;cases cT e3;cases cT e4;cases f4;exact⟨h0,l,hs,_,E,e1,λv H1 s1 r1 _=>⟨h0,l,hs,_,E.mono s1,e2,λu H2 s2 r2 _=>⟨i,j,by cases r1;cases r2;rfl,q _ _ (s1.trans s2) rfl λ_=>fk.flat rfl⟩⟩⟩
theorem Vb(hc:X.calm=true)(hg:Gl X "max")(hm:X.mg "max"=none)(pa:PE X ea (tP w G a))(pb:PE X eb (tP w G b))(he:aW [ea,eb] X.env=(false,b4 ea X.env)::aW [eb] X.env)(he2:aW [eb] X.env=[(false,b4 eb X.env)]):
 PE X (.Call (.Name "max" p0) [ea,eb] [] pos) (tP w G (.max2 a b)):=
 (xP (J9 hc) hg hm zJ (dG pa (dG pb gd (by rw[he2];rfl)) he) (by decide) (by decide) he (by rw[he2];rfl)).imp<|tPe λσ H Q h0 l hs p E e q=>by
  fail"e";fail"k";refine aaE f2 λi e3 f3=>?_;refine aPE f3 λj e4 f4=>?_;cases cT e3;cases cT e4;cases f4;exact⟨h0,l,hs,_,E,e1,λv H1 s1 r1 _=>⟨h0,l,hs,_,E.mono s1,e2,λu H2 s2 r2 _=>⟨i,j,by cases r1;cases r2;rfl,q _ _ (s1.trans s2) rfl λ_=>fk.flat rfl⟩⟩⟩
theorem MN(n:Nat)(i:Int):L2.ixN n i=Sq.ixN n i:=rfl
theorem rH{α:Type}(f:α->V)(xs:List α)(i:Int):L2.atI (xs.map f) i=(Sq.atI xs i).map f:=by
 unfold L2.atI Sq.atI;rw[ae,MN];cases Sq.ixN xs.length i with
 | none=>rfl
 | some j=>simp
theorem yw{β:Type}{R:V->β->Prop}{vs:List V}{ts:List β}(h:Paired R vs ts){i:Int}{t:β}(e:Sq.atI ts i=some t):∃v,L2.atI vs i=some v/\R v t:=by
 unfold Sq.atI at e;unfold L2.atI;rw[MN,Paired.length h];cases q:Sq.ixN ts.length i with
 | none=>rw[q]at e;cases e
 | some j=>
  rw[q]at e;have f1:ts[j]?=some t:=e;show∃v,vs[j]?=some v/\R v t;clear q e
  induction h generalizing j with
  | nil=>simp at f1
  | cons r _ ih=>
   cases j with
   | zero=>simp at f1;subst f1;exact⟨_,rfl,r⟩
   | succ j=>exact ih j (by simpa using f1)
theorem Byi{x y p:PV}(e:By x y=some p):∃xs i,x=.il xs/\y=.int i:=by
 unfold By at e;split at e<;>first | exact⟨_,_,rfl,rfl⟩ | cases e
theorem iIi{x y p:PV}(e:iI x y=some p):∃i,y=.int i:=by
 cases y<;>first | exact⟨_,rfl⟩ | cases e
theorem Y2(hK:w.K=X.K)(pa:PE X ea (tP w G a))(pb:PE X eb (tP w G b))(hp:xf eb):PE X (.Subscript ea eb pos) (tP w G (.idx a b)):=
 (Yw (Ti.or Qi UA) pa pb hp).imp<|tPe λσ H Q h0 l hs p E e q=>by
  fail"e";fail"k";refine qo E e1 e2 λv u H2 s2 rv ru=>?_;obtain⟨i,rfl⟩:=iIi f2;cases ru;cases x with
  | fil xs=>
   refine aPE (show(Sq.atI xs i).map PV.int=some p from f2) λz e3 f3=>?_;cases f3;obtain⟨a1,rfl,ha⟩:=rv;rw[hK]at ha;exact .inl ⟨a1,_,i,.int z,rfl,rfl,ha.sq,by rw[rH,e3];rfl,q _ _ s2 rfl λ_=>fk.flat rfl⟩
  | il xs=>
   refine aPE (show(Sq.atI xs i).map PV.int=some p from f2) λz e3 f3=>?_;cases f3;obtain⟨a1,rfl,ha⟩:=rv;exact .inl ⟨a1,_,i,.int z,rfl,rfl,fj.of ha,by rw[rH,e3];rfl,q _ _ s2 rfl λ_=>fk.flat rfl⟩
  | bls xs=>
   refine aPE (show(Sq.atI xs i).map PV.bl=some p from f2) λz e3 f4=>?_;cases f4;obtain⟨a1,rfl,ha⟩:=rv;exact .inl ⟨a1,_,i,.bl z,rfl,rfl,fj.of ha,by rw[rH,e3];rfl,q _ _ s2 rfl λ_=>fk.flat rfl⟩
  | tups xs=>
   refine aPE (show(Sq.atI xs i).map PV.tup=some p from f2) λz e3 f5=>?_;cases f5;obtain⟨a1,vs,rfl,ha,hp⟩:=rv;obtain⟨v,e4,r4⟩:=yw hp e3;exact .inl ⟨a1,_,i,v,rfl,rfl,fj.of ha,e4,q _ _ s2 r4 λ_=>fk.flat rfl⟩
  | tup xs=>
   refine aPE (show(Sq.atI xs i).map PV.int=some p from f2) λz e3 f6=>?_;cases f6;obtain⟨a1,rfl,ha⟩:=rv;rw[hK]at ha;exact .inr ⟨a1,_,i,.int z,rfl,rfl,ha,by rw[rH,e3];rfl,q _ _ s2 rfl λ_=>fk.flat rfl⟩
  | ent k n=>
   have f7:(if i=0 then some (PV.fn k)else if i=1 then some (PV.int n)else none)=some p:=f2;obtain⟨a1,rfl,ha⟩:=rv;rw[hK]at ha;by_cases h0':i=0
   . rw[if_pos h0']at f7;cases f7;subst h0';exact .inr ⟨a1,_,0,_,rfl,rfl,ha,rfl,q _ _ s2 rfl λ_=>fk.flat rfl⟩
   . rw[if_neg h0']at f7;by_cases h1':i=1
     . rw[if_pos h1']at f7;cases f7;subst h1';exact .inr ⟨a1,_,1,_,rfl,rfl,ha,rfl,q _ _ s2 rfl λ_=>fk.flat rfl⟩
     . rw[if_neg h1']at f7;cases f7
  | pic pq=>
   have f9:Sq.atI [PV.int pq.a,.int pq.b,.int pq.c,.tup pq.ts,.tup pq.ks,.int pq.e,.int pq.g] i=some p:=f2;obtain⟨b1,bt,bk,rfl,g1,g2,g3⟩:=rv;have hz:Paired (λv p=>gk w h0 H2 v p) [V.int pq.a,.int pq.b,.int pq.c,.ref bt,.ref bk,.int pq.e,.int pq.g] [PV.int pq.a,.int pq.b,.int pq.c,.tup pq.ts,.tup pq.ks,.int pq.e,.int pq.g]:=
    .cons rfl (.cons rfl (.cons rfl (.cons ⟨bt,rfl,g2⟩ (.cons ⟨bk,rfl,g3⟩ (.cons rfl (.cons rfl .nil))))))
   obtain⟨v,e4,r4⟩:=yw hz f9;rw[hK]at g1;refine .inr ⟨b1,_,i,v,rfl,rfl,g1,e4,q _ _ s2 r4 λ_=>fk.flat ?_⟩;unfold Sq.atI at f9;refine aaE f9 λjj _ h6=>?_;haveI hmem:=aL h6;simp only[aE,PN,or_false]at hmem;rcases hmem with h | h | h | h | h | h | h<;>(subst h;rfl)
  | fzl xs=>
   refine aPE (show(Sq.atI xs i).map PV.int=some p from f2) λz e3 f3=>?_;cases f3;obtain⟨a1,rfl,ha⟩:=sP.rd rv;exact .inl ⟨a1,_,i,.int z,rfl,rfl,.inl ha,by rw[rH,e3];rfl,q _ _ s2 rfl λ_=>fk.flat rfl⟩
  | prs xs=>
   refine aPE (show(Sq.atI xs i).map (λp=>PV.pr p.1 p.2)=some p from f2) λz e3 f5=>?_;cases f5;obtain⟨a1,vs,rfl,ha,hp⟩:=rv;obtain⟨v,e4,r4⟩:=yw hp e3;exact .inl ⟨a1,_,i,v,rfl,rfl,fj.of ha,e4,q _ _ s2 r4 λ_=>fk.flat rfl⟩
  | pr g f=>
   have f7:(if i=0 then some (PV.fzl g)else if i=1 then some (PV.fzl f)else none)=some p:=f2;obtain⟨a1,u1,u2,rfl,ha,r1,r2⟩:=rv;rw[hK]at ha;by_cases h0':i=0
   . rw[if_pos h0']at f7;cases f7;subst h0';exact .inr ⟨a1,_,0,_,rfl,rfl,ha,rfl,q _ _ s2 r1 λ_=>fk.flat rfl⟩
   . rw[if_neg h0']at f7;by_cases h1':i=1
     . rw[if_pos h1']at f7;cases f7;subst h1';exact .inr ⟨a1,_,1,_,rfl,rfl,ha,rfl,q _ _ s2 r2 λ_=>fk.flat rfl⟩
     . rw[if_neg h1']at f7;cases f7
  | _=>exact(nbE f2).elim
theorem B1{α:Type}(f:α->V)(xs:List α)(lo hi:Option Int):DJ (xs.map f) lo hi=(xU xs lo hi).map f:=by
 have e:∀n d (o:Option Int),HT.sIx n d o=Sq.sIx n d o:=λn d o=>by cases o<;>rfl
 unfold DJ xU;rw[ae,e,e,k7,uY]
theorem wj{β:Type}{R:V->β->Prop}:∀{vs:List V} {ts:List β} (n:Nat),Paired R vs ts->Paired R (vs.drop n) (ts.drop n)
 | _,_,0,h=>h
 | _,_,_+1,.nil=>.nil
 | _,_,n+1,.cons _ t=>wj n t
theorem wm{β:Type}{R:V->β->Prop}:∀{vs:List V} {ts:List β} (n:Nat),Paired R vs ts->Paired R (vs.take n) (ts.take n)
 | _,_,0,_=>.nil
 | _,_,_+1,.nil=>.nil
 | _,_,n+1,.cons r t=>.cons r (wm n t)
theorem MO{β:Type}{R:V->β->Prop}{vs:List V}{ts:List β}(h:Paired R vs ts)(lo hi:Option Int):Paired R (DJ vs lo hi) (xU ts lo hi):=by
 have e:∀n d (o:Option Int),HT.sIx n d o=Sq.sIx n d o:=λn d o=>by cases o<;>rfl
 unfold DJ xU;rw[Paired.length h,e,e];exact wm _ (wj _ h)
theorem Jk{lo hi:Option Int}{v:V}{p:PV}(hK:w.K=X.K)(r:gk w h0 H v x)(e:xX lo hi x=some p)(q:∀v' H',cZ H H'->gk w h0 H' v' p->fk H v' p->Q v' H'):Yz X.K v lo hi H Q:=by
 cases x with
 | fil xs=>
  cases(show some (PV.il (xU xs lo hi))=some p from e)
  obtain⟨a1,rfl,ha⟩:=r;rw[hK]at ha;exact⟨a1,_,rfl,ha.sq,λl hl=>q _ _ (dP hl) ⟨l,rfl,by rw[bB,B1]⟩ (fk.of hl)⟩
 | il xs=>
  cases(show some (PV.il (xU xs lo hi))=some p from e)
  obtain⟨a1,rfl,ha⟩:=r;exact⟨a1,_,rfl,fj.of ha,λl hl=>q _ _ (dP hl) ⟨l,rfl,by rw[bB,B1]⟩ (fk.of hl)⟩
 | bls xs=>
  cases(show some (PV.bls (xU xs lo hi))=some p from e)
  obtain⟨a1,rfl,ha⟩:=r;exact⟨a1,_,rfl,fj.of ha,λl hl=>q _ _ (dP hl) ⟨l,rfl,by rw[bB,B1]⟩ (fk.of hl)⟩
 | tups xs=>
  cases(show some (PV.tups (xU xs lo hi))=some p from e)
  obtain⟨a1,vs,rfl,ha,hp⟩:=r;exact⟨a1,_,rfl,fj.of ha,λl hl=>q _ _ (dP hl) ⟨l,_,rfl,bB,Paired.mapP (MO hp lo hi) λ_ _=>wL.mono (dP hl)⟩ (fk.of hl)⟩
 | _=>exact(nbE e).elim
variable {p2:Pos}
theorem a1y(hK:w.K=X.K)(pa:PE X ea (tP w G a)):PE X (.Subscript ea (.Slice none none none p2) pos) (tP w G (.sl a)):=
 (tU xg pa xb xb).imp<|tPe λσ H Q h0 l hs p E e q=>by
  fail"e";exact⟨h0,l,hs,x,E,e1,λv H1 s1 r1 _=>Jk hK r1 f1 λv' H2 s2 r2 n2=>q v' H2 (s1.trans s2) r2 λ_=>fk.back s1 n2⟩
theorem Vc(hK:w.K=X.K)(pa:PE X ea (tP w G a))(pb:PE X eb (tP w G b)):PE X (.Subscript ea (.Slice (some eb) none none p2) pos) (tP w G (.slLo a b)):=
 (tU xg pa (xc pb) xb).imp<|tPe λσ H Q h0 l hs p E e q=>by
  fail"e";fail"k";refine aaE f2 λi e3 f3=>?_;cases cT e3;exact⟨h0,l,hs,x,E,e1,λv H1 s1 r1 _=>⟨h0,l,hs,_,E.mono s1,e2,λu H2 s2 r2 _=>⟨i,r2,Jk hK (r1.mono s2) f3 λv' H3 s3 r3 n3=>q v' H3 ((s1.trans s2).trans s3) r3 λ_=>fk.back (s1.trans s2) n3⟩⟩⟩
theorem Vd(hK:w.K=X.K)(pa:PE X ea (tP w G a))(pb:PE X eb (tP w G b)):PE X (.Subscript ea (.Slice none (some eb) none p2) pos) (tP w G (.slHi a b)):=
 (tU xg pa xb (xc pb)).imp<|tPe λσ H Q h0 l hs p E e q=>by
  fail"e";fail"k";refine aaE f2 λi e3 f3=>?_;cases cT e3;exact⟨h0,l,hs,x,E,e1,λv H1 s1 r1 _=>⟨h0,l,hs,_,E.mono s1,e2,λu H2 s2 r2 _=>⟨i,r2,Jk hK (r1.mono s2) f3 λv' H3 s3 r3 n3=>q v' H3 ((s1.trans s2).trans s3) r3 λ_=>fk.back (s1.trans s2) n3⟩⟩⟩
theorem MQ(hK:w.K=X.K)(pa:PE X ea (tP w G a))(pb:PE X eb (tP w G b))(pc:PE X ec (tP w G c)):PE X (.Subscript ea (.Slice (some eb) (some ec) none p2) pos) (tP w G (.slBoth a b c)):=
 (tU xg pa (xc pb) (xc pc)).imp<|tPe λσ H Q h0 l hs p E e q=>by
  fail"e";fail"k";refine aaE f2 λz e3 f3=>?_;refine aaE f3 λi e4 f4=>?_;refine aaE f4 λj e5 f5=>?_;cases cT e4;cases cT e5;exact⟨h0,l,hs,x,E,e1,λv H1 s1 r1 _=>⟨h0,l,hs,_,E.mono s1,e2,λu H2 s2 r2 _=>⟨i,r2,h0,l,hs,_,E.mono (s1.trans s2),e3,λu' H3 s3 r3 _=>⟨j,r3,
   Jk hK (r1.mono (s2.trans s3)) f5 λv' H4 s4 r4 n4=>q v' H4 (((s1.trans s2).trans s3).trans s4) r4 λ_=>fk.back ((s1.trans s2).trans s3) n4⟩⟩⟩⟩
theorem Ef{i:Int}:∀{xs:List Int},i∈xs->xs[xs.idxOf i]?=some i/\∀(m:Nat) (z:Int),m<xs.idxOf i->xs[m]?=some z->¬z=i
 | x::r,h=>by
  by_cases e:x=i
  . subst e;simp
  . have h':i∈r:=(aE.mp h).resolve_left λz=>e z.symm;obtain⟨h1,h2⟩:=Ef h';have e':(x::r).idxOf i=r.idxOf i+1:=by rw[jg,show(x==i)=false from beq_eq_false_iff_ne.mpr e];rfl
    rw[e'];refine⟨by simpa using h1,λm z hm hz=>?_⟩;cases m with
    | zero=>simp at hz;subst hz;exact e
    | succ m=>exact h2 m z (by lia) (by simpa using hz)
abbrev PF(K:al){H:Hp}{p:ai}{xs:List V}(h:H p=some (.lst xs)):tyV K "list" (.ref p) H:=.inl ⟨rfl,xs,fj.of h⟩
variable {apos:Pos}
theorem QM(hK:w.K=X.K)(pa:PE X ea (tP w G a))(pb:PE X eb (tP w G b))(hbase:cr ea "index" X.env (b4 ea X.env)=b4 ea X.env)(he:aW [eb] X.env=[(false,b4 eb X.env)])(hline:(apos.endLine==pos.line)=true):
 PE X (.Call (.Attribute ea "index" apos) [eb] [] pos) (tP w G (.index a b)):=
 (vY cF Be PySem.F.type_list_index Mq pa (dG pb gd (by rw[he];rfl)) hbase (by rw[he];rfl) hline (by rw[he];rfl) rfl).imp<|tPe λσ H Q h0 l hs p E e q=>by
  fail"e";fail"k";obtain⟨xs,i,rfl,rfl⟩:=Byi f2;have f3:(if i∈xs then some (PV.int (xs.idxOf i))else none)=some p:=f2;split at f3
  . rename_i hi;cases f3;refine⟨h0,l,hs,_,E,e1,λv H1 s1 r1 _=>?_⟩;obtain⟨a1,rfl,ha⟩:=r1;refine⟨PF X.K ha,h0,l,hs,_,E.mono s1,e2,λu H2 s2 r2 _=>?_⟩;cases r2;obtain⟨h1,h2⟩:=Ef hi;refine⟨a1,_,.int i,xs.idxOf i,.int i,rfl,rfl,fj.of (s2 _ _ ha),rfl,j1 xs,by rw[ak,h1];rfl,by simp [Dt],λm z' hm hz=>?_,q _ _ (s1.trans s2) rfl λ_=>fk.flat rfl⟩;rw[ak]at hz;obtain⟨z,hz1,rfl⟩:=aP hz;have:=h2 m z hm hz1;simp [Dt,this]
  . cases f3
abbrev Ve(K:al):V->List V->Hp->VK->Prop:=λx xs H Q=>∃(a:ai) (ys:List V) (y:V),x=V.ref a/\xs=[y]/\fj K H a ys/\ky y=true/\ys.all ky=true/\Q (.int (ys.countP λz=>Dt z y:Nat)) H
theorem yx{x:V}:∀{xs:List V} {us:List Value},cv xs us->xs.all ky=true->us.countP (Du x)=xs.countP λy=>Dt y x
 | _,_,.nil,_=>rfl
 | y::xs,u::us,.cons r t,f=>by
  rw[dz,aG]at f;rw[kX,kX,xR r f.1,yx t f.2]
theorem Kw:MtR X "list.count" (Ve X.K):=by
 intro pins s σ H x xs v us Q I rx rxs h;obtain⟨a,ys,y,rfl,rfl,hs,fy,fys,q⟩:=h;cases rx;cases rxs with
 | cons ry rt=>
  rename_i uy ut;cases rt;obtain⟨its,rv,⟨⟨cls,dd,data,sl⟩,n,ho,hc,hdn,hd⟩,hlen⟩:=I.list hs;simp only at hc hd;subst hc hd;refine j9 Bg ⟨_,ho,rfl⟩ PySem.F.entry_list_count (PySem.F.args_list_count_2 _ _)
   (SeqAt.list_countAt a its.toArray n dd sl uy (Du y)) ⟨ho,λu' hu'=>lL ry fy rv fys u' (by simpa using hu'),?_⟩
  refine⟨.int _,H,I.tok _,⟨_,rfl⟩,?_⟩;rw[show its.toArray.toList=its by simp,yx rv fys];exact q
theorem vq{α:Type} [BEq α] [LawfulBEq α](f:α->V)(hf:∀a b,Dt (f a) (f b)=(a==b))(b:α):∀xs:List α,(xs.map f).countP (λz=>Dt z (f b))=xs.count b
 | []=>rfl
 | x::r=>by rw[ax,kX,vq f hf b r,hf,zP]
theorem Eg:∀xs:List Bool,(xs.map V.bl).all ky=true
 | []=>rfl
 | x::r=>by rw[ax,dz,Eg r];rfl
theorem QN(hK:w.K=X.K)(pa:PE X ea (tP w G a))(pb:PE X eb (tP w G b))(hbase:cr ea "count" X.env (b4 ea X.env)=b4 ea X.env)(he:aW [eb] X.env=[(false,b4 eb X.env)])(hline:(apos.endLine==pos.line)=true):
 PE X (.Call (.Attribute ea "count" apos) [eb] [] pos) (tP w G (.count a b)):=
 (vY cF Bg PySem.F.type_list_count Kw pa (dG pb gd (by rw[he];rfl)) hbase (by rw[he];rfl) hline (by rw[he];rfl) rfl).imp<|tPe λσ H Q h0 l hs p E e q=>by
  fail"e";fail"k";unfold t8 at f2;split at f2
  . rename_i xs i;cases f2;refine⟨h0,l,hs,_,E,e1,λv H1 s1 r1 _=>?_⟩;obtain⟨a1,rfl,ha⟩:=r1;refine⟨PF X.K ha,h0,l,hs,_,E.mono s1,e2,λu H2 s2 r2 _=>?_⟩;cases r2;refine⟨a1,_,.int i,rfl,rfl,fj.of (s2 _ _ ha),rfl,j1 xs,?_⟩;rw[vq V.int (λ_ _=>rfl)];exact q _ _ (s1.trans s2) rfl λ_=>fk.flat rfl
  . rename_i xs i;cases f2;refine⟨h0,l,hs,_,E,e1,λv H1 s1 r1 _=>?_⟩;obtain⟨a1,rfl,ha⟩:=r1;refine⟨PF X.K ha,h0,l,hs,_,E.mono s1,e2,λu H2 s2 r2 _=>?_⟩;cases r2;refine⟨a1,_,.bl i,rfl,rfl,fj.of (s2 _ _ ha),rfl,Eg xs,?_⟩;rw[vq V.bl (λ_ _=>rfl)];exact q _ _ (s1.trans s2) rfl λ_=>fk.flat rfl
  . cases f2
theorem Kx{α:Type}{f:PV->Option α}:∀{ps:List PV} {l:List α},fH f ps=some l->l.length=ps.length
 | [],_,h=>by cases h;rfl
 | x::r,_,h=>by
  refine aaE h λy e1 h=>?_;refine aaE h λl e2 h=>?_;cases h;rw[aV,aV,Kx e2]
theorem vt:∀{vs:List V} {ps:List PV} {is:List Int},ls w h0 H vs ps->fH dB ps=some is->vs=is.map V.int
 | _,_,_,.nil,h=>by cases h;rfl
 | _,_,_,.cons r t,h=>by
  refine aaE h λy e1 h=>?_;refine aaE h λl e2 h=>?_;cases h;cases cT e1;cases r;rw[ax,vt t e2]
theorem Eh:∀{vs:List V} {ps:List PV} {is:List Bool},ls w h0 H vs ps->fH gn ps=some is->vs=is.map V.bl
 | _,_,_,.nil,h=>by cases h;rfl
 | _,_,_,.cons r t,h=>by
  refine aaE h λy e1 h=>?_;refine aaE h λl e2 h=>?_;cases h;cases dC e1;cases r;rw[ax,Eh t e2]
theorem AG:∀{vs:List V} {ps:List PV} {is:List (List Int)},ls w h0 H vs ps->fH Au ps=some is->Paired (wL w H) vs is
 | _,_,_,.nil,h=>by cases h;exact .nil
 | _,_,_,.cons r t,h=>by
  refine aaE h λy e1 h=>?_;refine aaE h λl e2 h=>?_;cases h;cases yu e1;exact .cons r (AG t e2)
theorem AH:∀{vs:List V} {ps:List PV} {is:List jP},ls w h0 H vs ps->fH vj ps=some is->Paired (jK w H) vs is
 | _,_,_,.nil,h=>by cases h;exact .nil
 | _,_,_,.cons r t,h=>by
  refine aaE h λy e1 f1=>?_;refine aaE f1 λl e2 f2=>?_;cases f2;cases wc e1;exact .cons r (AH t e2)
theorem Ei:∀{vs:List V} {ps:List PV} {is:List (List Int×List Int)},ls w h0 H vs ps->fH Gj ps=some is->Paired (wM w H) vs is
 | _,_,_,.nil,h=>by cases h;exact .nil
 | _,_,_,.cons r t,h=>by
  refine aaE h λy e1 f1=>?_;refine aaE f1 λl e2 f2=>?_;cases f2;cases AC e1;exact .cons r (Ei t e2)
theorem Ej{ty:Ty}{a1:ai}{vs:List V}{ps:List PV}{p:PV}(ha:H a1=some (.lst vs))(r:ls w h0 H vs ps)(e:nr ty ps=some p):gk w h0 H (.ref a1) p:=by
 cases ty with
 | I=>
  refine aPE (show(fH dB ps).map PV.il=some p from e) λis e1 f1=>?_;cases f1;exact⟨a1,rfl,by rw[ha,vt r e1]⟩
 | B=>
  refine aPE (show(fH gn ps).map PV.bls=some p from e) λis e1 f2=>?_;cases f2;exact⟨a1,rfl,by rw[ha,Eh r e1]⟩
 | T=>
  refine aPE (show(fH Au ps).map PV.tups=some p from e) λis e1 f3=>?_;cases f3;exact⟨a1,vs,rfl,ha,AG r e1⟩
 | P=>
  refine aPE (show(fH vj ps).map PV.pics=some p from e) λis e1 e2=>?_;cases e2;exact⟨a1,vs,rfl,ha,AH r e1⟩
 | G=>
  refine aPE (show(fH Gj ps).map PV.prs=some p from e) λis e1 e2=>?_;cases e2;exact⟨a1,vs,rfl,ha,Ei r e1⟩
theorem Y3{ty:Ty}(ha:PA X es (Tq w G as)):PE X (.List es pos) (tP w G (.lst ty as)):=
 (Ml ha).imp<|tPe λσ H Q h0 l hs p E e q=>by
  refine aaE e λps e1 f1=>?_;have f2:(if ps.length<=mq then nr ty ps else none)=some p:=f1;split at f2
  . rename_i hl;refine⟨h0,l,hs,ps,E,e1,λvs H1 s1 r1=>⟨by rw[Paired.length r1];exact bb hl lW,λp' hp=>?_⟩⟩;exact q _ _ (s1.trans (dP hp)) (Ej bB (r1.mono (dP hp)) f2) λ_=>fk.back s1 (fk.of hp)
  . cases f2
theorem fzi{p x}(h:fzv p=some x):p=.fzl x:=by
 cases p<;>first | (cases h;rfl) | cases h
theorem Tlr{vs:List V}{ps p b}(r:ls w h0 H vs ps)(f:Tl ps=some p)(hb:H b=some (.tup vs)):gk w h0 H (.ref b) p/\fJ p=false:=by
 cases r with
 | nil=>cases f
 | cons a1 t=>cases t with
  | nil=>cases f
  | cons a2 t=>cases t with
   | nil=>
    refine aaE f λx c1 f=>?_;refine aPE f λy c2 f=>?_;cases f;cases fzi c1;cases fzi c2;exact⟨⟨b,_,_,rfl,lK.of hb,a1,a2⟩,rfl⟩
   | cons a3 t=>cases t with
    | nil=>cases f
    | cons a4 t=>cases t with
     | nil=>cases f
     | cons a5 t=>cases t with
      | nil=>cases f
      | cons a6 t=>cases t with
       | nil=>cases f
       | cons a7 t=>cases t with
        | cons _ _=>cases f
        | nil=>
         refine aaE f λ_ c1 f=>?_;refine aaE f λ_ c2 f=>?_;refine aaE f λ_ c3 f=>?_;refine aaE f λ_ c4 f=>?_;refine aaE f λ_ c5 f=>?_;refine aaE f λ_ c6 f=>?_;refine aPE f λ_ c7 f=>?_;cases f;cases cT c1;cases cT c2;cases cT c3;cases yu c4;cases yu c5;cases cT c6;cases cT c7;cases a1;cases a2;cases a3;cases a6;cases a7;obtain⟨t,rfl,g1⟩:=a4;obtain⟨k,rfl,g2⟩:=a5;exact⟨⟨b,t,k,rfl,lK.of hb,g1,g2⟩,rfl⟩
theorem Y4{k:Nat}(ha:PA X es (Tq w G as)):PE X (.Tuple es k pos) (tP w G (.tpl as)):=
 (Uz ha).imp<|tPe λσ H Q h0 l hs p E e q=>by
  refine aaE e λps e1 f1=>?_;have f2:(if ps.length<=mq then xY ps else none)=some p:=f1;split at f2
  . rename_i hl;refine⟨h0,l,hs,ps,E,e1,λvs H1 s1 r1=>⟨by rw[Paired.length r1];exact bb hl lW,λp' hp=>?_⟩⟩;unfold xY at f2;split at f2
    . rename_i is e2;cases f2;exact q _ _ (s1.trans (dP hp)) ⟨p',rfl,by rw[<-vt r1 e2];exact lK.of bB⟩ λ_=>fk.flat rfl
    . obtain⟨g,j⟩:=Tlr (r1.mono (dP hp (o:=.tup vs))) f2 bB;exact q _ _ (s1.trans (dP hp)) g λ_=>fk.flat j
  . cases f2
theorem Y5{v j:Nat}{f:Str}(hK:w.K=X.K)(pa:PE X ea (tP w G (.v v)))(hat:w.at_[j]?=some f)(hcl:zN X.K w.C)(hno:gv X.K w.C f)(hbase:cr ea f X.env (b4 ea X.env)=b4 ea X.env):PE X (.Attribute ea f pos) (tP w G (.fld v j)):=
 (pY pa hbase).imp<|tPe λσ H Q h0 l hs p E e q=>by
  refine aaE e λo e1 f1=>?_;have f2:(if o=.obj then hs[j]? else none)=some p:=f1;split at f2
  . rename_i ho;subst ho;refine⟨h0,l,hs,_,E,e1,λv H1 s1 r1 _=>?_⟩;obtain⟨dx,fs,a,v',x1,x2,x3,x4⟩:=E.fld j p f2;rw[hat]at x2;cases x2;exact⟨h0,w.C,dx,fs,v',r1,s1 _ _ x1,hcl,hno,x3,q _ _ s1 (x4.mono s1) λz=>nomatch z⟩
  . cases f2
theorem sQ {o:Expr} {m:Str} {apos pos:Pos} {args:List Expr} {env:tD} (hbase:cr o m env (b4 o env)=b4 o env) (hline:(apos.endLine==pos.line)=true)
 (hform:Ir (args.length+([]:List Pq).length) (gP pos (aW args env)) (vS pos (mB [] env))=true):
 b4 (.Call (.Attribute o m apos) args [] pos) env=(do
  let ov<-b4 o env
  mr apos.atName
  let(f,first)<-eF [ov] (wB ov m (do return(<-importBound o env).getD true))
  SU pos f first (gP pos (aW args env)) (vS pos (mB [] env))):=by
 rw[arm_eval_Call,hbase];unfold methodCall calleeOf methodCallPos;simp only[hform,hline,if_true,ol,pS];rfl
theorem Y6 {v k lv:Nat} {m:Str} {f:ai} {fd:dJ} {ps:List Str} {apos:Pos} {pl:PJ Bool} (hK:w.K=X.K) (pa:PE X ea (tP w G (.v v))) (hcl:zN X.K w.C) (hm:vd X.K w.C m f) (hno:m∉w.at_)
 (F:gC X.prog X.w X.K X.mg X.base sH lv f fd ps (Jh w G k)) (hr:je lv X.A) (hb:Binds X.K fd ps [])
 (ht:b4 (.Call (.Attribute ea m apos) [] [] pos) X.env=(do
  let ov<-b4 ea X.env
  mr apos.atName
  let(f,first)<-eF [ov] (wB ov m pl)
  SU pos f first (gP pos (aW [] X.env)) (vS pos (mB [] X.env)))):PE X (.Call (.Attribute ea m apos) [] [] pos) (tP w G (.mth v k)):=
 (Mm pa hcl hm F hr hb .nil xT ht).imp<|tPe λσ H Q h0 l hs p E e q=>by
  refine aaE e λo e1 f1=>?_;have f2:(if o=.obj then(hs[0]?).bind λ_=>G.fn k [.obj] hs else none)=some p:=f1;split at f2
  . rename_i ho;subst ho;refine aaE f2 λp0 g1 g2=>?_;refine⟨h0,l,hs,_,E,e1,λv' H1 s1 r1 _=>?_⟩;obtain⟨dx,fs,x1,x2⟩:=E.nom 0 _ g1;refine⟨h0,dx,fs,r1,s1 _ _ x1,x2 m hno,?_⟩;show Jh w G k [v'] H1 Q E0;exact⟨h0,[.obj],hs,p,.cons r1 .nil,⟨(E.mono s1).fld,(E.mono s1).nom⟩,g2,λu H2 s2 rv nv=>q u H2 (s1.trans s2) rv λ_=>fk.back s1 nv⟩
  . cases f2
structure AI (w:Wd) (X:Cx) (G:gH) (g:Nat) (n:Str):Prop where
 ex:∃a f,X.mg n=some (.ref a)/\(a==tz)=false/\(∀h:Heap,X.K.In h->h.MapOf (Pp X.prog X.w) a f)/\
  (∀i p,G.d g i=some p->fJ p=false/\∃v u,f i=some u/\RelV v u/\∀h0 H,gk w h0 H v p)/\∀i,G.d g i=none->f i=none
theorem Vf{g:Nat}{n:Str}(t:AI w X G g n)(hg:Gl X n)(hd:(n==("__debug__":Str))=false)(pk:PE X ea (tP w G a))(hp:xf ea):PE X (.Subscript (.Name n p0) ea pos) (tP w G (.dget g a)):=by
 obtain⟨ad,f,hm,_,hM,hG,_⟩:=t.ex;intro pins s σ H Q I ⟨h0,l,hs,p,E,e,q⟩;refine aaE e λx e1 e2=>?_;refine aaE e2 λi e3 e4=>?_;haveI hx:=cT e3;subst hx;obtain⟨hl,v,u,g1,g2,g3⟩:=hG i p e4;refine Qs PySem.F.slot_dict_getitem.lookup hp (tR I hg hm ?_ hd);refine fQ (pk pins s σ H (λy H1=>y=.int i/\cZ H H1) I ⟨h0,l,hs,_,E,e1,λy H1 s1 r1 _=>⟨r1,s1⟩⟩) λiv s2 hh=>?_;obtain⟨y,H2,I2,ry,ey,s2'⟩:=hh;subst ey;obtain⟨t',rfl⟩:=ry;haveI m:=hM s2.heap I2.kIn;refine⟨m.typeIs,wpAny_getItem_of (k:=i) (by simp [Pp,Value.isInt]) m g1 ⟨v,H2,I2.tok _,g2,q v H2 s2' (g3 h0 H2) λ_=>fk.flat hl⟩⟩
theorem Vg {g:Nat} {n:Str} (t:AI w X G g n) (hg:Gl X n) (hd:(n==("__debug__":Str))=false) (pk:PE X ea (tP w G a)) {pins:List (ai×fB)} {s:Shared} {σ:L2.St} {H:Hp} {Q:VK} (I:L2.Inv X pins σ H s) {h0:ai} {l:Loc} {hs:List PV} {i:Int}
 (E:fT w h0 H σ l hs) (e1:(b6 G hs a).v l=some (.int i)) (q:∀H',cZ H H'->Q (.bl (G.d g i).isSome) H'):
 bN (bF X.prog X.w) X.A (b4 ea X.env) (λv s₁=>bN (bF X.prog X.w) X.A (b4 (.Name n p0) X.env) (λu s₂=>bN (bF X.prog X.w) X.A (dY .In v u) (EP X pins σ Q) X.xe s₂) X.xe s₁) X.xe s:=by
 obtain⟨ad,f,hm,hsys,hM,hG,hN⟩:=t.ex;refine fQ (pk pins s σ H (λy H1=>y=.int i/\cZ H H1) I ⟨h0,l,hs,_,E,e1,λy H1 s1 r1 _=>⟨r1,s1⟩⟩) λiv s2 hh=>?_;obtain⟨y,H2,I2,ry,ey,s2'⟩:=hh;subst ey;obtain⟨t',rfl⟩:=ry;refine tR I2 hg hm ?_ hd;refine wpAny_in_of (k:=i) (by simp [Pp,Value.isInt]) hsys (hM s2.heap I2.kIn) ⟨.bl (G.d g i).isSome,H2,I2.tok _,?_,q H2 s2'⟩;have:(f i).isSome=(G.d g i).isSome:=by
  cases h:G.d g i with
  | none=>rw[hN i h];rfl
  | some p=>obtain⟨_,v,u,g1,_⟩:=hG i p h;rw[g1];rfl
 rw[this];rfl
theorem Tu{g:Nat}{n:Str}(t:AI w X G g n)(hg:Gl X n)(hd:(n==("__debug__":Str))=false)(pk:PE X ea (tP w G a)):PC X .In ea (.Name n p0) (tP w G (.din g a)):=by
 intro pins s σ H Q I ⟨h0,l,hs,p,E,e,q⟩;refine aaE e λx e1 e2=>?_;refine aPE e2 λi e3 e4=>?_;haveI hx:=cT e3;subst hx e4;exact Vg t hg hd pk I E e1 λH' s'=>q _ H' s' rfl λ_=>fk.flat rfl
theorem Y7{g:Nat}{n:Str}(t:AI w X G g n)(hg:Gl X n)(hd:(n==("__debug__":Str))=false)(pk:PE X ea (tP w G a)):PE X (.Compare ea [.In] [.Name n p0] pos) (tP w G (.din g a)):=Uf (Tu t hg hd pk) rfl
theorem Y8{g:Nat}{n:Str}(t:AI w X G g n)(hg:Gl X n)(hd:(n==("__debug__":Str))=false)(pk:PE X ea (tP w G a)):PT X (.Compare ea [.In] [.Name n p0] pos) (tK w G (.din g a)):=
 (Ug (Tu t hg hd pk) rfl).imp λσ H Q ⟨h0,l,hs,k,E,e,q⟩=>⟨h0,l,hs,_,E,e,λv H' s r _=>⟨k,r,q H' s⟩⟩
end
abbrev fK(ks:List ai)(H:Hp):Hp:=λb=>if b∈ks then H b else match H b with
 | some (.tup xs)=>some (.tup xs)
 | some (.frz o u)=>some (.frz o u)
 | _=>none
abbrev Sub(K H:Hp):Prop:=∀b o,K b=some o->H b=some o
theorem yy{ks:List ai}{H:Hp}:Sub (fK ks H) H:=λb o e=>by
 unfold fK at e;split at e
 . exact e
 . split at e
   . rename_i q;rw[q];exact e
   . rename_i q;rw[q];exact e
   . cases e
theorem oX{ks:List ai}{H:Hp}{a:ai}{o:HO}(ha:a∈ks)(h:H a=some o):fK ks H a=some o:=by
 unfold fK;rw[if_pos ha];exact h
theorem Ek{K:al}{ks:List ai}{H H2:Hp}{a:ai}{xs:List V}(s:Sub (fK ks H) H2)(h:lK K H a xs):lK K H2 a xs:=by
 rcases h with(h | ⟨o,h⟩) | h
 . refine .inl (.inl (s _ _ ?_));unfold fK;split
   . exact h
   . rw[h]
 . refine .inl (.inr ⟨o,s _ _ ?_⟩);unfold fK;split
   . exact h
   . rw[h]
 . exact .inr h
theorem El{ks:List ai}{H H2:Hp}{a:ai}{o:fB}{u:HO}(s:Sub (fK ks H) H2)(h:H a=some (.frz o u)):H2 a=some (.frz o u):=by
 refine s _ _ ?_;unfold fK;split
 . exact h
 . rw[h]
abbrev Wk(w:Wd)(h0:ai)(J:It)(Kp:Hp)(ps:List PV):Prop:=∀i H2,Sub Kp H2->(∀p,ps[i]?=some p->J.go i H2/\∀x H',J.yld i H2 x H'->cZ H2 H'/\gk w h0 H' x p)/\(ps.length<=i->J.stop i H2)
section
variable (w:Wd) (G:gH)
abbrev tI(c:CE):TI:=λσ H R=>∃h0 l hs ps,fT w h0 H σ l hs/\(b6 G hs c).it l=some ps/\∀J H1 ks,cZ H H1->Wk w h0 J (fK ks H1) ps->R J H1
abbrev FT(c:CE):TI:=λσ H R=>∃h0 l hs ps,fT w h0 H σ l hs/\(b6 G hs c).it l=some ps/\∀J H1 ks,cZ H H1->Wk w h0 J (fK ks H1) ps->
 (∀b∈ks,(∃vs,H1 b=some (.lst vs))/\(H b=none\/(∃i∈ft c,σ[i]?=some (some (.ref b))/\∃p,getL l i=some p/\fJ p=true)\/(rW c=true/\∃(j:Nat) (dx:ai) (fs:List (Str×V)) (n:Str) (p:PV),H h0=some (.ins w.C dx fs)/\w.at_[j]?=some n/\fs.lookup n=some (.ref b)/\hs[j]?=some p/\fJ p=true)))->R J H1
abbrev tX(c:CE):TE:=λσ H Q=>∃h0 l hs p,fT w h0 H σ l hs/\(b6 G hs c).v l=some p/\∀v H',cZ H H'->gk w h0 H' v p->(∀b,v=.ref b->fJ p=true->H b=none\/∃i∈ft c,σ[i]?=some (some v)/\∃p,getL l i=some p/\fJ p=true)->Q v H'
end
section
variable {w:Wd} {G:gH} {X:Cx} {h0:ai} {H:Hp} {σ:L2.St} {l:Loc} {hs:List PV} {Q:VK} {a b c as:CE} {x y z:PV} {ea eb ec tg:Expr} {es elts:List Expr} {pos p0 tpos:Pos} {kk:Nat}
theorem _root_.L2.PI.imp{tg e:Expr}{t t':TI}(h:PI X tg e t)(i:∀σ H R,t' σ H R->t σ H R):PI X tg e t':=λpins s σ H R I q=>h pins s σ H R I (i σ H R q)
theorem Y9(h:PI X tg ea (FT w G c)):PI X tg ea (tI w G c):=h.imp λσ H R ⟨h0,l,hs,ps,E,e,q⟩=>⟨h0,l,hs,ps,E,e,λJ H1 ks s k _=>q J H1 ks s k⟩
theorem or3{A B C:Prop}(h:A\/B):A\/B\/C:=h.elim .inl λh=>.inr (.inl h)
theorem Za{i:Nat}{n:Str}(hN:X.N[i]?=some n)(hv:Tb X.env.scope n)(hd:(n==("__debug__":Str))=false)(hcd:(n==("__classdict__":Str))=false):PE X (.Name n pos) (tX w G (.v i)):=
 (F3 hN hv hd hcd).imp λσ H Q x=>by
  obtain⟨h0,l,hs,p,E,e,q⟩:=x;obtain⟨v,e1,r⟩:=E.loc i p e;exact⟨v,e1,q v H (cZ.refl H) r λb _ hl=>.inr ⟨i,aZ.mpr rfl,e1,p,e,hl⟩⟩
theorem MR(pa:PE X ea (tP w G c))(hf:jT c=true):PE X ea (tX w G c):=pa.imp λσ H Q ⟨h0,l,hs,p,E,e,q⟩=>⟨h0,l,hs,p,E,e,λv H' s r n=>q v H' s r λb hb hl=>.inl (n hf b hb hl)⟩
theorem uA{b:ai}{H1:Hp}{ks:List ai}{p:PV}{ps:List PV}(hb:fJ p=true->b∈ks)(r:gk w h0 H1 (.ref b) p)(e:items p=some ps)(K:al)(hK:w.K=K):Wk w h0 (Itl K b) (fK ks H1) ps:=by
 intro i H2 sb;cases p with
 | il xs=>
  cases(show some (xs.map PV.int)=some ps from e)
  obtain⟨b',e',ha⟩:=r;cases e';haveI h2:=sb _ _ (oX (hb rfl) ha);refine⟨λp hp=>?_,λhi=>⟨_,fj.of h2,by simpa using hi⟩⟩;rw[ak]at hp;obtain⟨z,hz,rfl⟩:=aP hp;have hz':(xs.map V.int)[i]?=some (.int z):=by rw[ak,hz];rfl
  refine⟨⟨_,_,fj.of h2,hz'⟩,λx H' y=>?_⟩;obtain⟨e1,y⟩:=y;subst e1;have:=y _ (fj.of h2);rw[hz']at this;cases this;exact⟨cZ.refl _,rfl⟩
 | bls xs=>
  cases(show some (xs.map PV.bl)=some ps from e)
  obtain⟨b',e',ha⟩:=r;cases e';haveI h2:=sb _ _ (oX (hb rfl) ha);refine⟨λp hp=>?_,λhi=>⟨_,fj.of h2,by simpa using hi⟩⟩;rw[ak]at hp;obtain⟨z,hz,rfl⟩:=aP hp;have hz':(xs.map V.bl)[i]?=some (.bl z):=by rw[ak,hz];rfl
  refine⟨⟨_,_,fj.of h2,hz'⟩,λx H' y=>?_⟩;obtain⟨e1,y⟩:=y;subst e1;have:=y _ (fj.of h2);rw[hz']at this;cases this;exact⟨cZ.refl _,rfl⟩
 | tups xs=>
  cases(show some (xs.map PV.tup)=some ps from e)
  obtain⟨b',vs,e',ha,hp⟩:=r;cases e';haveI h2:=sb _ _ (oX (hb rfl) ha);refine⟨λp hpp=>?_,λhi=>⟨_,fj.of h2,by rw[Paired.length hp];simpa using hi⟩⟩;rw[ak]at hpp;obtain⟨z,hz,rfl⟩:=aP hpp;obtain⟨v,hv,rv⟩:∃v,vs[i]?=some v/\wL w H1 v z:=by
   clear ha h2 sb
   induction hp generalizing i with
   | nil=>simp at hz
   | cons r _ ih=>
    cases i with
    | zero=>simp at hz;subst hz;exact⟨_,rfl,r⟩
    | succ i=>exact ih i (λ_=>hb rfl) rfl (by simpa using hpp) (by simpa using hz)
  refine⟨⟨_,_,fj.of h2,hv⟩,λx H' y=>?_⟩;obtain⟨e1,y⟩:=y;subst e1;have:=y _ (fj.of h2);rw[hv]at this;cases this;obtain⟨b2,e2,r2⟩:=rv;exact⟨cZ.refl _,b2,e2,Ek sb r2⟩
 | prs xs=>
  cases(show some (xs.map λp=>PV.pr p.1 p.2)=some ps from e)
  obtain⟨b',vs,e',ha,hp⟩:=r;cases e';haveI h2:=sb _ _ (oX (hb rfl) ha);refine⟨λp hpp=>?_,λhi=>⟨_,fj.of h2,by rw[Paired.length hp];simpa using hi⟩⟩;rw[ak]at hpp;obtain⟨z,hz,rfl⟩:=aP hpp;obtain⟨v,hv,rv⟩:∃v,vs[i]?=some v/\wM w H1 v z:=by
   clear ha h2 sb
   induction hp generalizing i with
   | nil=>simp at hz
   | cons r _ ih=>
    cases i with
    | zero=>simp at hz;subst hz;exact⟨_,rfl,r⟩
    | succ i=>exact ih i (λ_=>hb rfl) rfl (by simpa using hpp) (by simpa using hz)
  refine⟨⟨_,_,fj.of h2,hv⟩,λx H' y=>?_⟩;obtain⟨e1,y⟩:=y;subst e1;have:=y _ (fj.of h2);rw[hv]at this;cases this;exact⟨cZ.refl _,wM.change (λ_ _=>Ek sb) (λ_ _ _=>El sb) rv⟩
 | fzl xs=>
  cases(show some (xs.map PV.int)=some ps from e)
  obtain⟨b',o,e',ha⟩:=r;cases e';have h2:fj K H2 b (xs.map V.int):=.inl (.inr ⟨o,El sb ha⟩);refine⟨λp hp=>?_,λhi=>⟨_,h2,by simpa using hi⟩⟩;rw[ak]at hp;obtain⟨z,hz,rfl⟩:=aP hp;have hz':(xs.map V.int)[i]?=some (.int z):=by rw[ak,hz];rfl
  refine⟨⟨_,_,h2,hz'⟩,λx H' y=>?_⟩;obtain⟨e1,y⟩:=y;subst e1;have:=y _ h2;rw[hz']at this;cases this;exact⟨cZ.refl _,rfl⟩
 | _=>cases(show(none:Option (List PV))=some ps from e)
theorem oY{H1:Hp}{v:V}{p:PV}(r:gk w h0 H1 v p)(hl:fJ p=true):∃b vs,v=.ref b/\H1 b=some (.lst vs):=by
 cases p with
 | il xs=>obtain⟨b,e,h⟩:=r;exact⟨b,_,e,h⟩
 | bls xs=>obtain⟨b,e,h⟩:=r;exact⟨b,_,e,h⟩
 | tups xs=>obtain⟨b,vs,e,h,_⟩:=r;exact⟨b,_,e,h⟩
 | pics xs=>obtain⟨b,vs,e,h,_⟩:=r;exact⟨b,_,e,h⟩
 | prs xs=>obtain⟨b,vs,e,h,_⟩:=r;exact⟨b,_,e,h⟩
 | _=>cases hl
theorem MT{H1:Hp}{v:V}{p:PV}{ps:List PV}(r:gk w h0 H1 v p)(e:items p=some ps):∃b vs,v=.ref b/\fj X.K H1 b vs/\(fJ p=true->H1 b=some (.lst vs)):=by
 by_cases hl:fJ p=true
 . obtain⟨b,vs,e1,h⟩:=oY r hl;exact⟨b,vs,e1,fj.of h,λ_=>h⟩
 . cases p with
   | fzl xs=>obtain⟨b,o,e1,h⟩:=r;exact⟨b,_,e1,.inl (.inr ⟨o,h⟩),λz=>absurd z hl⟩
   | _=>first | (cases(show(none:Option (List PV))=some ps from e);done) | exact absurd rfl hl
theorem qt(hK:w.K=X.K)(hi:∀(G:gH) (hs:List PV),(b6 G hs c).it=λl=>((b6 G hs c).v l).bind items)(pa:PE X ea (tP w G c)):PI X tg ea (tI w G c):=
 (Bo pa).imp λσ H R x=>by
  obtain⟨h0,l,hs,ps,E,e,q⟩:=x;rw[hi]at e;refine aaE e λp e1 f1=>?_;refine⟨h0,l,hs,p,E,e1,λv H1 s1 r1 _=>?_⟩;obtain⟨b,vs,rfl,hb,_⟩:=MT (X:=X) r1 f1;exact⟨b,rfl,⟨vs,hb⟩,q _ _ [b] s1 (uA (λ_=>aZ.mpr rfl) r1 f1 X.K hK)⟩
theorem is_list(hK:w.K=X.K)(hi:∀(G:gH) (hs:List PV),(b6 G hs c).it=λl=>((b6 G hs c).v l).bind items)(pa:PE X ea (tX w G c)):PI X tg ea (FT w G c):=
 (Bo pa).imp λσ H R x=>by
  obtain⟨h0,l,hs,ps,E,e,q⟩:=x;rw[hi]at e;refine aaE e λp e1 f1=>?_;refine⟨h0,l,hs,p,E,e1,λv H1 s1 r1 x1=>?_⟩;obtain⟨b,vs,rfl,hb,hb2⟩:=MT (X:=X) r1 f1;by_cases hl:fJ p=true
  . exact⟨b,rfl,⟨vs,hb⟩,q _ _ [b] s1 (uA (λ_=>aZ.mpr rfl) r1 f1 X.K hK) λb' hb'=>by
     cases (aZ.mp hb');exact⟨⟨vs,hb2 hl⟩,or3 (x1 b rfl hl)⟩⟩
  . exact⟨b,rfl,⟨vs,hb⟩,q _ _ [] s1 (uA (λh=>absurd h hl) r1 f1 X.K hK) λb' hb'=>nomatch hb'⟩
theorem Vh{v j:Nat}{f:Str}(hK:w.K=X.K)(pa:PE X ea (tP w G (.v v)))(hat:w.at_[j]?=some f)(hcl:zN X.K w.C)(hno:gv X.K w.C f)(hbase:cr ea f X.env (b4 ea X.env)=b4 ea X.env):PI X tg (.Attribute ea f pos) (FT w G (.fld v j)):=
 (Bo (pY pa hbase)).imp λσ H R x=>by
  obtain⟨h0,l,hs,ps,E,e,q⟩:=x;refine aaE (show((b6 G hs (.fld v j)).v l).bind items=some ps from e) λp e1 f1=>?_;refine aaE (show(getL l v).bind (λo=>if o=.obj then hs[j]? else none)=some p from e1) λo e2 f2=>?_;have f3:(if o=.obj then hs[j]? else none)=some p:=f2;split at f3
  . rename_i ho;subst ho;refine⟨h0,l,hs,_,E,e2,λv H1 s1 r1 _=>?_⟩;obtain⟨dx,fs,a,v',x1,x2,x3,x4⟩:=E.fld j p f3;rw[hat]at x2;cases x2;haveI x5:=x4.mono s1;obtain⟨b,vs,hv,hb,hb2⟩:=MT (X:=X) x5 f1;subst hv;refine⟨h0,w.C,dx,fs,_,r1,s1 _ _ x1,hcl,hno,x3,b,rfl,⟨vs,hb⟩,?_⟩;by_cases hl:fJ p=true
    . exact q _ _ [b] s1 (uA (λ_=>aZ.mpr rfl) x5 f1 X.K hK) λb' hb'=>by
       cases (aZ.mp hb');exact⟨⟨vs,hb2 hl⟩,.inr (.inr ⟨rfl,j,dx,fs,f,p,x1,hat,x3,f3,hl⟩)⟩
    . exact q _ _ [] s1 (uA (λh=>absurd h hl) x5 f1 X.K hK) λb' hb'=>nomatch hb'
  . cases f3
theorem Em{lo:Int}{n:Nat}{Kp:Hp}:Wk w h0 (Yg lo n) Kp ((gf lo n).map .int):=by
 intro i H2 sb;have hl:((gf lo n).map PV.int).length=n:=by simp [gf]
 refine⟨λp hp=>?_,λhi=>by rw[hl]at hi;exact hi⟩;have hin:i<n:=by
  have:=(az.mp hp).1;lia
 have hp':((gf lo n).map PV.int)[i]?=some (.int (lo+(i:Int))):=by simp [gf,hin]
 rw[hp']at hp;cases hp;refine⟨hin,λx H' y=>?_⟩;obtain⟨e1,e2⟩:=y;subst e1 e2;exact⟨cZ.refl _,rfl⟩
theorem Jl(hg:Gl X "range")(hm:X.mg "range"=none)(pa:PE X ea (tP w G a))(hst:aW [ea] X.env=[(false,b4 ea X.env)]):PI X tg (.Call (.Name "range" p0) [ea] [] pos) (FT w G (.rng1 a)):=
 (J6 hg hm (dG pa gd (by rw[hst];rfl)) hst).imp λσ H R x=>by
  obtain⟨h0,l,hs,ps,E,e,q⟩:=x;fail"e";refine aaE f1 λj e2 f2=>?_;have f3:(if -dr<=j/\j<dr then some ((gf 0 j.toNat).map PV.int)else none)=some ps:=f2;haveI hx:=cT e2;subst hx;split at f3
  . rename_i hj;cases f3;exact⟨h0,l,hs,_,E,e1,λv H1 s1 r1 _=>⟨j,by cases r1;rfl,hj.1,hj.2,q _ _ [] s1 Em λb hb=>nomatch hb⟩⟩
  . cases f3
theorem Vi(hg:Gl X "range")(hm:X.mg "range"=none)(pa:PE X ea (tP w G a))(pb:PE X eb (tP w G b))(hst:aW [ea,eb] X.env=[(false,b4 ea X.env),(false,b4 eb X.env)])(hst2:aW [eb] X.env=[(false,b4 eb X.env)]):
 PI X tg (.Call (.Name "range" p0) [ea,eb] [] pos) (FT w G (.rng a b)):=
 (J7 hg hm (dG pa (dG pb gd (by rw[hst2];rfl)) (by rw[hst,hst2])) hst hst2).imp λσ H R x=>by
  obtain⟨h0,l,hs,ps,E,e,q⟩:=x;fail"e";fail"k";refine aaE f2 λi e3 f3=>?_;refine aaE f3 λj e4 f4=>?_;have f5:(if -dr<=i/\i<dr/\ -dr<=j/\j<dr then some ((gf i (j-i).toNat).map PV.int)else none)=some ps:=f4;haveI hx:=cT e3;haveI hy:=cT e4;subst hx hy;split at f5
  . rename_i hj;cases f5;exact⟨h0,l,hs,_,E,e1,λv H1 s1 r1 _=>⟨h0,l,hs,_,E.mono s1,e2,λu H2 s2 r2 _=>⟨i,j,by cases r1;cases r2;rfl,hj,q _ _ [] (s1.trans s2) Em λb hb=>nomatch hb⟩⟩⟩
  . cases f5
theorem QO(hK:w.K=X.K)(hg:Gl X "enumerate")(hm:X.mg "enumerate"=none)(pa:PE X ea (tX w G a))(hst:aW [ea] X.env=[(false,b4 ea X.env)]):PI X (.Tuple elts kk tpos) (.Call (.Name "enumerate" p0) [ea] [] pos) (FT w G (.enum a)):=
 (Qt hg hm (dG pa gd (by rw[hst];rfl)) hst).imp λσ H R x=>by
  obtain⟨h0,l,hs,ps,E,e,q⟩:=x;fail"e";refine aPE f1 λxs e2 f2=>?_;haveI hx:=qm e2;subst hx f2;refine⟨h0,l,hs,_,E,e1,λv H1 s1 r1 x1=>?_⟩;obtain⟨b,rfl,hb⟩:=r1;refine⟨b,_,rfl,fj.of hb,q _ _ [b] s1 (λi H2 sb=>?_) λb' hb'=>by
   cases (aZ.mp hb');exact⟨⟨_,hb⟩,or3 (x1 b rfl rfl)⟩⟩
  haveI h2:=sb _ _ (oX (aZ.mpr rfl) hb);refine⟨λp hp=>?_,λhi=>⟨_,fj.of h2,by simpa using hi⟩⟩;rw[ak]at hp;obtain⟨⟨z,k⟩,hz,hzp⟩:=aP hp;subst hzp;have hzi:xs[i]?=some z/\k=i:=by
   rw[lc]at hz;refine aPE hz λz' h1 h2=>?_;cases h2;exact⟨h1,by lia⟩
  have hz':(xs.map V.int)[i]?=some (.int z):=by rw[ak,hzi.1];rfl
  refine⟨⟨_,_,fj.of h2,hz'⟩,λx H' y=>?_⟩;obtain⟨T,x',e3,hT,e4,y⟩:=y;subst e3 e4;have:=y _ (fj.of h2);rw[hz']at this;cases this;refine⟨dP hT,T,rfl,lK.of ?_⟩;rw[bB,hzi.2];rfl
theorem Vj(hK:w.K=X.K)(hg:Gl X "zip")(hm:X.mg "zip"=none)(pa:PE X ea (tX w G a))(pb:PE X eb (tX w G b))(hst:aW [ea,eb] X.env=(false,b4 ea X.env)::aW [eb] X.env)(hst2:aW [eb] X.env=[(false,b4 eb X.env)]):
 PI X (.Tuple elts kk tpos) (.Call (.Name "zip" p0) [ea,eb] [] pos) (FT w G (.zip a b)):=
 (UL hg hm (dG pa (dG pb gd (by rw[hst2];rfl)) hst) hst (by rw[hst2];rfl)).imp λσ H R x=>by
  obtain⟨h0,l,hs,ps,E,e,q⟩:=x;fail"e";fail"k";refine aaE f2 λxs e3 f3=>?_;refine aPE f3 λys e4 f4=>?_;haveI hx:=qm e3;haveI hy:=qm e4;subst hx hy f4;refine⟨h0,l,hs,_,E,e1,λv H1 s1 r1 x1=>⟨h0,l,hs,_,E.mono s1,e2,λu H2 s2 r2 x2=>?_⟩⟩;obtain⟨b1,rfl,hb1⟩:=r1;obtain⟨b2,rfl,hb2⟩:=r2;haveI hb1':=s2 _ _ hb1;refine⟨b1,b2,_,_,rfl,fj.of hb1',fj.of hb2,q _ _ [b1,b2] (s1.trans s2) (λi H3 sb=>?_) λb' hb'=>?_⟩
  . haveI h1:=sb _ _ (oX (aI) hb1');haveI h2:=sb _ _ (oX (ao _ (aZ.mpr rfl)) hb2);refine⟨λp hp=>?_,λhi=>⟨_,_,fj.of h1,fj.of h2,?_⟩⟩
    . rw[ak]at hp;obtain⟨⟨z1,z2⟩,hz,hzp⟩:=aP hp;subst hzp;obtain⟨q1,q2⟩:=Do.mp hz;have hz1:(xs.map V.int)[i]?=some (.int z1):=by rw[ak,q1];rfl
      have hz2:(ys.map V.int)[i]?=some (.int z2):=by rw[ak,q2];rfl
      refine⟨⟨_,_,_,_,fj.of h1,fj.of h2,hz1,hz2⟩,λx H' y=>?_⟩;obtain⟨T,x',y',e5,hT,e6,y1,y2⟩:=y;subst e5 e6;haveI t1:=y1 _ (fj.of h1);haveI t2:=y2 _ (fj.of h2);rw[hz1]at t1;rw[hz2]at t2;cases t1;cases t2;exact⟨dP hT,T,rfl,lK.of (by rw[bB];rfl)⟩
    . rw[ae,List.length_zip]at hi;rw[ae,ae];lia
  . rcases aE.mp hb' with e5 | e5
    . subst e5;refine⟨⟨_,hb1'⟩,?_⟩;rcases x1 b' rfl rfl with h | ⟨i,hi,h⟩
      . exact .inl h
      . exact .inr (.inl ⟨i,eR _ hi,h⟩)
    . cases (aZ.mp e5);refine⟨⟨_,hb2⟩,?_⟩;rcases x2 b2 rfl rfl with h | ⟨i,hi,h⟩
      . exact .inl (s1.free h)
      . exact .inr (.inl ⟨i,bZ _ hi,h⟩)
theorem iT{K:al}{H:Hp}{D b:ai}{xs ys zs:List V}(hD:H D=some (.lst xs))(h:lK K H b zs):lK K (upd H D (.lst ys)) b zs:=by
 rcases h with(h | ⟨o,h⟩) | h
 . exact .inl (.inl (by rw[bU (lJ h hD (by intro z;cases z))];exact h))
 . exact .inl (.inr ⟨o,by rw[bU (lJ h hD (by intro z;cases z))];exact h⟩)
 . exact .inr h
theorem gk.upd{H:Hp}{D:ai}{xs ys:List V}{v:V}{p:PV}(hD:H D=some (.lst xs))(hl:fJ p=false)(r:gk w h0 H v p):gk w h0 (upd H D (.lst ys)) v p:=
 gk.change (λ_ _ h=>iT hD h) (λ_ _ _ h=>by rw[bU (lJ h hD (by intro z;cases z))];exact h) (λh=>by rw[hl]at h;cases h) r
theorem ls.upd{H:Hp}{D:ai}{xs ys:List V}{vs:List V}{ps:List PV}(hD:H D=some (.lst xs))(hl:∀p∈ps,fJ p=false)(r:ls w h0 H vs ps):ls w h0 (upd H D (.lst ys)) vs ps:=by
 induction r with
 | nil=>exact .nil
 | cons r t ih=>exact .cons (gk.upd hD (hl _ aI) r) (ih λp hp=>hl p (ao _ hp))
theorem ls.snoc{H:Hp}{vs:List V}{ps:List PV}{v:V}{p:PV}(r:ls w h0 H vs ps)(q:gk w h0 H v p):ls w h0 H (vs++[v]) (ps++[p]):=by
 induction r with
 | nil=>exact .cons q .nil
 | cons r t ih=>exact .cons r ih
theorem j2{α:Type}{f:PV->Option α}(hf:∀p y,f p=some y->fJ p=false):∀{ps:List PV} {l:List α},fH f ps=some l->∀p∈ps,fJ p=false
 | [],_,_,_,h=>nomatch h
 | x::r,_,h,p,hp=>by
  refine aaE h λy e1 f1=>?_;refine aaE f1 λl e2 f2=>?_;rcases aE.mp hp with q | q
  . subst q;exact hf _ _ e1
  . exact j2 hf e2 p q
theorem Ky{ty:Ty}{ps:List PV}{p:PV}(e:nr ty ps=some p):∀x∈ps,fJ x=false:=by
 cases ty with
 | I=>refine aPE (show(fH dB ps).map PV.il=some p from e) λis e1 _=>?_;exact j2 (λp y h=>by rw[cT h];rfl) e1
 | B=>refine aPE (show(fH gn ps).map PV.bls=some p from e) λis e1 _=>?_;exact j2 (λp y h=>by rw[dC h];rfl) e1
 | T=>refine aPE (show(fH Au ps).map PV.tups=some p from e) λis e1 _=>?_;exact j2 (λp y h=>by rw[yu h];rfl) e1
 | P=>refine aPE (show(fH vj ps).map PV.pics=some p from e) λis e1 _=>?_;exact j2 (λp y h=>by rw[wc h];rfl) e1
 | G=>refine aPE (show(fH Gj ps).map PV.prs=some p from e) λis e1 _=>?_;exact j2 (λp y h=>by rw[AC h];rfl) e1
theorem kK{l:Loc}{s i:Nat}{p:PV}{o:Option PV}(h:getL (l.set s o) i=some p):(i=s/\s<l.length/\o=some p)\/(i≠s/\getL l i=some p):=by
 unfold getL at h⊢;by_cases e:i=s
 . subst e;by_cases hl:i<l.length
   . rw[ci hl]at h;cases o with
     | none=>cases h
     | some v=>exact .inl ⟨rfl,hl,h⟩
   . rw[bA (by simpa using hl)]at h;cases h
 . rw[cy (λz=>e z.symm)]at h;exact .inr ⟨e,h⟩
theorem fT.set{s:Nat}{v:V}{p:PV}(E:fT w h0 H σ l hs)(r:gk w h0 H v p):fT w h0 H (σ.set s (some v)) (l.set s (some p)) hs:=by
 refine⟨by rw[bP,bP];exact E.len,λi p' h=>?_,E.fld,E.nom⟩;rcases kK h with⟨e1,hl,e2⟩ | ⟨e1,h⟩
 . subst e1;cases e2;exact⟨v,by rw[ci (by rw[E.len];exact hl)],r⟩
 . obtain⟨v',h1,h2⟩:=E.loc i p' h;exact⟨v',by rw[cy (λz=>e1 z.symm)];exact h1,h2⟩
theorem GJ{f:PV->Option (Option PV)}{ps:List PV}{i:Nat}{p:PV}{rs:List PV}(hp:ps[i]?=some p)(h:jr f (ps.drop i)=some rs):
 ∃o rest,f p=some o/\jr f (ps.drop (i+1))=some rest/\rs=(match o with | some y=>y::rest | none=>rest):=by
 have hd:ps.drop i=p::ps.drop (i+1):=by
  obtain⟨hi,e⟩:=az.mp hp;rw[fR hi,e]
 rw[hd]at h;refine aaE h λo e1 f1=>?_;refine aaE f1 λrest e2 f2=>?_;exact⟨o,rest,e1,e2,(bv.inj f2).symm⟩
theorem Jm {it ce ee:CE} {ty:Ty} {g:TG} {vs:List Nat} {L:PV->Loc->Option Loc} {f:gH->List PV->Loc->PV->Option (Option PV)}
 (hf:∀G hs l x o,f G hs l x=some o->∃l',L x l=some l'/\∃k,(b6 G hs ce).v l'=some (.bl k)/\if k=true then∃y,(b6 G hs ee).v l'=some y/\o=some y else o=none)
 (hg:∀(h0:ai) (σ:L2.St) (l l':Loc) (hs:List PV) (H2:Hp) (v:V) (x:PV) (R:L2.St->Hp->Prop),fT w h0 H2 σ l hs->gk w h0 H2 v x->L x l=some l'->
  (∀σ2,fT w h0 H2 σ2 l' hs->m5 σ2 vs=m5 σ vs->R σ2 H2)->g v (m5 σ vs) H2 R) {p:PV} {ps rs:List PV}
 (E:fT w h0 H σ l hs) (e1:(b6 G hs it).it l=some ps) (hlen:ps.length<=mq) (e2:jr (f G hs l) ps=some rs) (e3:nr ty rs=some p)
 (q:∀v H',cZ H H'->gk w h0 H' v p->fk H v p->Q v H'):UK (tI w G it) g (tK w G ce) (tP w G ee) vs σ H Q:=by
 refine⟨h0,l,hs,ps,E,e1,λJ H1 ks s1 wk=>λD hD=>?_⟩;refine⟨λi m H'=>m=ps.length-i/\i<=ps.length/\∃acc rs1 rest,H' D=some (.lst acc)/\cZ H1 H'/\ls w h0 H' acc rs1/\jr (f G hs l) (ps.drop i)=some rest/\rs1++rest=rs/\rs1.length<=i,
  ⟨ps.length,rfl,dj _,[],[],rs,bB,dP hD,.nil,e2,rfl,aO _⟩,?_⟩
 rintro i m H' ⟨rfl,hi,acc,rs1,rest,hacc,sm,ra,hcd,hrs,hln⟩;have sub:Sub (fK ks H1) H':=λb o hb=>sm b o (yy b o hb);obtain⟨w1,w2⟩:=wk i H' sub;by_cases hlt:i<ps.length
 . have hx:ps[i]?=some ps[i]:=ay hlt;obtain⟨go,yl⟩:=w1 _ hx;obtain⟨o,rest',e4,e5,e6⟩:=GJ hx hcd;refine .inr ⟨go,λH''=>∃acc rs1 rest,H'' D=some (.lst acc)/\cZ H1 H''/\ls w h0 H'' acc rs1/\jr (f G hs l) (ps.drop (i+1))=some rest/\rs1++rest=rs/\rs1.length<=i+1,
    λH'' hN=>⟨ps.length-(i+1),by lia,rfl,hlt,hN⟩,λv H2 y=>?_⟩
   obtain⟨s2,rv⟩:=yl v H2 y;obtain⟨l',e7,k,e8,e9⟩:=hf _ _ _ _ _ e4;refine hg h0 σ l l' hs H2 v _ _ (E.mono (s1.trans (sm.trans s2))) rv e7 λσ2 E2 hw=>⟨hw,h0,l',hs,k,E2,e8,λH3 s3=>?_⟩;cases k with
   | false=>
    rw[if_neg (by decide)]at e9⊢;subst e9;exact⟨acc,rs1,rest',s3 _ _ (s2 _ _ hacc),sm.trans (s2.trans s3),ra.mono (s2.trans s3),e5,by rw[<-hrs,e6],by lia⟩
   | true=>
    rw[if_pos rfl]at e9⊢;obtain⟨y,e10,e11⟩:=e9;subst e11;have hrs':rs1++y::rest'=rs:=by rw[<-hrs,e6]
    have flat:∀x∈rs1++[y],fJ x=false:=λx hx=>Ky e3 x (by
     rw[<-hrs'];rcases bV.mp hx with h | h
     . exact eR _ h
     . cases (aZ.mp h);exact bZ _ aI)
    refine⟨h0,l',hs,y,E2.mono s3,e10,λu H4 s4 r4 _=>?_⟩;have h4:H4 D=some (.lst acc):=s4 _ _ (s3 _ _ (s2 _ _ hacc));have hal:acc.length=rs1.length:=Paired.length ra;refine⟨acc,h4,by have:=lW;lia,acc++[u],rs1++[y],rest',bB,λb o hb=>?_,?_,e5,by rw[<-hrs',dw];rfl,by rw[aA];show rs1.length+1<=i+1;lia⟩
    . rw[bU (eh hb hD)];exact s4 _ _ (s3 _ _ (s2 _ _ (sm _ _ hb)))
    . exact ls.upd h4 flat (ls.snoc (ra.mono (s2.trans (s3.trans s4))) r4)
 . have hie:i=ps.length:=by lia
   subst hie;refine .inl ⟨w2 (aO _),?_⟩;rw[iF]at hcd;cases hcd;rw[cJ]at hrs;subst hrs;exact q _ _ (s1.trans sm) (Ej hacc ra e3) (fk.back s1 (fk.of hD))
variable {scope:fV} {own:List (Str×Nat)} {elt iter:Expr} {ifs:List Expr}
theorem En{ty:Ty}{s:Nat}{it ce ee:CE}:tP w G (.comp ty s it ce ee) σ H Q->UK (tI w G it) (iH s) (tK w G ce) (tP w G ee) [s] σ H Q:=
 λ⟨h0,l,hs',p,E,e,q⟩=>by
  refine aaE e λps e1 f1=>?_;have f2:(if ps.length<=mq then(jr (λx=>((b6 G hs' ce).v (l.set s (some x))).bind λb=>(gn b).bind λk=>if k then((b6 G hs' ee).v (l.set s (some x))).map some else some none) ps).bind (nr ty)else none)=some p:=f1;split at f2
  . rename_i hl;refine aaE f2 λrs e2 e3=>?_;refine Jm (L:=λx l=>some (l.set s (some x))) (f:=λG hs' l x=>((b6 G hs' ce).v (l.set s (some x))).bind λb=>(gn b).bind λk=>if k then((b6 G hs' ee).v (l.set s (some x))).map some else some none)
     (λG hs l x o h=>?_) (λh0 σ l l' hs H2 v x R E r hL hR=>?_) E e1 hl e2 e3 (λv H' s r n=>q v H' s r λ_=>n)
    . refine aaE h λb h1 h2=>?_;refine aaE h2 λk h3 h4=>?_;haveI hb:=dC h3;subst hb;refine⟨_,rfl,k,h1,?_⟩;cases k with
      | true=>
       rw[if_pos rfl]at h4⊢;refine aPE h4 λy h5 h6=>?_;exact⟨y,h5,h6.symm⟩
      | false=>
       rw[if_neg (by decide)]at h4⊢;exact(bv.inj h4).symm
    . cases hL;show R ((m5 σ [s]).set s (some v)) H2;have eσ:(m5 σ [s]).set s (some v)=σ.set s (some v):=by simp [m5,mv]
      rw[eσ];exact hR _ (E.set r) (by simp [m5,mv])
  . cases f2
theorem Vk {ty:Ty} {s:Nat} {it ce ee:CE} (hc:X.calm=true) (hN:X.N.Nodup) (hi:PI X tg iter (tI w G it)) (ok:tZ X.N X.env.scope scope own) (ho:own.map (·.2)=[s])
 (hg:∀(s':Shared) (H:Hp) (C:ai) (cl:List (Str×ai)) (fp:List ai),PG (X.blk s' H scope (cR scope cl C X.env) fp) tg (iH s))
 (ht:∀(s':Shared) (H:Hp) (C:ai) (cl:List (Str×ai)) (fp:List ai),Mu (X.blk s' H scope (cR scope cl C X.env) fp) ifs (tK w G ce))
 (he:∀(s':Shared) (H:Hp) (C:ai) (cl:List (Str×ai)) (fp:List ai),PE (X.blk s' H scope (cR scope cl C X.env) fp) elt (tP w G ee)) (hs:∀x,dg iter X.env x=pure x):
 PE X (.ListComp elt [⟨tg,iter,ifs,0⟩] scope pos) (tP w G (.comp ty s it ce ee)):=
 (Tj hc hN hi ok hg ht he hs).imp λσ H Q h=>by rw[ho];exact En h
theorem Vl {i:Nat} {m:Str} {pm spos:Pos} {ty:Ty} {s:Nat} {it ce ee:CE} (hc:X.calm=true) (hN:X.N.Nodup) (hi:PI X tg iter (tI w G it)) (ok:tZ X.N X.env.scope scope own) (ho:own.map (·.2)=[s])
 (hg:∀(s':Shared) (H:Hp) (C:ai) (cl:List (Str×ai)) (fp:List ai),PG (X.blk s' H scope (cR scope cl C X.env) fp) tg (iH s))
 (ht:∀(s':Shared) (H:Hp) (C:ai) (cl:List (Str×ai)) (fp:List ai),Mu (X.blk s' H scope (cR scope cl C X.env) fp) ifs (tK w G ce))
 (he:∀(s':Shared) (H:Hp) (C:ai) (cl:List (Str×ai)) (fp:List ai),PE (X.blk s' H scope (cR scope cl C X.env) fp) elt (tP w G ee)) (hs:∀x,dg iter X.env x=pure x)
 (hy:X.N[i]?=some m) (hyl:X.env.scope.names.lookup m=some .local) (hsw:eT (.ListComp elt [⟨tg,iter,ifs,0⟩] scope pos) (some (.Name m pm)) spos.line X.env=pure true):PS X (.Assign [.Name m pm] (.ListComp elt [⟨tg,iter,ifs,0⟩] scope pos) spos) (J4 (tP w G (.comp ty s it ce ee)) (iH i)):=
 λpins st σ H D I h=>DP hc hN hy hyl hsw hi ok hg ht he hs pins st σ H D I (by rw[ho];exact En h)
theorem MU{H2:Hp}{v:V}{x:PV}{i j:PV}(hu:gg x=some (i,j))(r:gk w h0 H2 v x):∃b1 u1 u2,v=.ref b1/\lK w.K H2 b1 [u1,u2]/\gk w h0 H2 u1 i/\gk w h0 H2 u2 j:=by
 cases x with
 | tup xs=>
  match xs,hu with
  | [a1,b1],hu=>
   cases hu;obtain⟨b,hv,hb⟩:=r;exact⟨b,_,_,hv,hb,rfl,rfl⟩
 | pr g f=>
  cases hu;obtain⟨b,u1,u2,hv,hb,r1,r2⟩:=r;exact⟨b,u1,u2,hv,hb,r1,r2⟩
 | _=>cases hu
theorem AJ{ty:Ty}{s t:Nat}{it ce ee:CE}(hK:w.K=X.K)(hst:s≠t):tP w G (.comp2 ty s t it ce ee) σ H Q->UK (tI w G it) (L7 X.K 2 (tT (iH s) (tT (iH t) L6))) (tK w G ce) (tP w G ee) [s,t] σ H Q:=
 λ⟨h0,l,hs',p,E,e,q⟩=>by
  refine aaE e λps e1 f1=>?_;have f2:(if ps.length<=mq then(jr (λx=>(gg x).bind λp=>((b6 G hs' ce).v ((l.set s (some p.1)).set t (some p.2))).bind λb=>(gn b).bind λk=>if k then((b6 G hs' ee).v ((l.set s (some p.1)).set t (some p.2))).map some else some none) ps).bind (nr ty)else none)=some p:=f1;split at f2
  . rename_i hl;refine aaE f2 λrs e2 e3=>?_;refine Jm (L:=λx l=>(gg x).map λp=>(l.set s (some p.1)).set t (some p.2)) (f:=λG hs' l x=>(gg x).bind λp=>((b6 G hs' ce).v ((l.set s (some p.1)).set t (some p.2))).bind λb=>(gn b).bind λk=>if k then((b6 G hs' ee).v ((l.set s (some p.1)).set t (some p.2))).map some else some none)
     (λG hs l x o h=>?_) (λh0 σ l l' hs H2 v x R E r hL hR=>?_) E e1 hl e2 e3 (λv H' s r n=>q v H' s r λ_=>n)
    . refine aaE h λpp h0' h=>?_;refine aaE h λb h1 h2=>?_;refine aaE h2 λk h3 h4=>?_;haveI hb:=dC h3;subst hb;refine⟨_,by rw[h0'];rfl,k,h1,?_⟩;cases k with
      | true=>
       rw[if_pos rfl]at h4⊢;refine aPE h4 λy h5 h6=>?_;exact⟨y,h5,h6.symm⟩
      | false=>
       rw[if_neg (by decide)]at h4⊢;exact(bv.inj h4).symm
    . obtain⟨⟨i,j⟩,hu,hL'⟩:=aP hL;subst hL';obtain⟨b1,u1,u2,hv,hb,r1,r2⟩:=MU hu r;subst hv;rw[hK]at hb;refine⟨b1,_,rfl,hb,rfl,_,_,rfl,_,_,rfl,rfl,?_⟩;have eσ:((m5 σ [s,t]).set s (some u1)).set t (some u2)=(σ.set s (some u1)).set t (some u2):=by
       show(((σ.set t none).set s none).set s (some u1)).set t (some u2)=_;rw[mv,oo _ _ hst,mv,oo _ _ (jN hst)]
      rw[eσ];refine hR _ ((E.set r1).set r2) ?_;show((((σ.set s (some u1)).set t (some u2)).set t none).set s none)=(σ.set t none).set s none;rw[mv,oo _ _ hst,mv,oo _ _ (jN hst)]
  . cases f2
theorem QP {ty:Ty} {s t:Nat} {it ce ee:CE} (hK:w.K=X.K) (hst:s≠t) (hc:X.calm=true) (hN:X.N.Nodup) (hi:PI X tg iter (tI w G it)) (ok:tZ X.N X.env.scope scope own) (ho:own.map (·.2)=[s,t])
 (hg:∀(s':Shared) (H:Hp) (C:ai) (cl:List (Str×ai)) (fp:List ai),PG (X.blk s' H scope (cR scope cl C X.env) fp) tg (L7 X.K 2 (tT (iH s) (tT (iH t) L6))))
 (ht:∀(s':Shared) (H:Hp) (C:ai) (cl:List (Str×ai)) (fp:List ai),Mu (X.blk s' H scope (cR scope cl C X.env) fp) ifs (tK w G ce))
 (he:∀(s':Shared) (H:Hp) (C:ai) (cl:List (Str×ai)) (fp:List ai),PE (X.blk s' H scope (cR scope cl C X.env) fp) elt (tP w G ee)) (hs:∀x,dg iter X.env x=pure x):
 PE X (.ListComp elt [⟨tg,iter,ifs,0⟩] scope pos) (tP w G (.comp2 ty s t it ce ee)):=
 (Tj hc hN hi ok hg ht he hs).imp λσ H Q h=>by rw[ho];exact AJ hK hst h
theorem QQ {i:Nat} {m:Str} {pm spos:Pos} {ty:Ty} {s t:Nat} {it ce ee:CE} (hK:w.K=X.K) (hst:s≠t) (hc:X.calm=true) (hN:X.N.Nodup) (hi:PI X tg iter (tI w G it)) (ok:tZ X.N X.env.scope scope own) (ho:own.map (·.2)=[s,t])
 (hg:∀(s':Shared) (H:Hp) (C:ai) (cl:List (Str×ai)) (fp:List ai),PG (X.blk s' H scope (cR scope cl C X.env) fp) tg (L7 X.K 2 (tT (iH s) (tT (iH t) L6))))
 (ht:∀(s':Shared) (H:Hp) (C:ai) (cl:List (Str×ai)) (fp:List ai),Mu (X.blk s' H scope (cR scope cl C X.env) fp) ifs (tK w G ce))
 (he:∀(s':Shared) (H:Hp) (C:ai) (cl:List (Str×ai)) (fp:List ai),PE (X.blk s' H scope (cR scope cl C X.env) fp) elt (tP w G ee)) (hs:∀x,dg iter X.env x=pure x)
 (hy:X.N[i]?=some m) (hyl:X.env.scope.names.lookup m=some .local) (hsw:eT (.ListComp elt [⟨tg,iter,ifs,0⟩] scope pos) (some (.Name m pm)) spos.line X.env=pure true):PS X (.Assign [.Name m pm] (.ListComp elt [⟨tg,iter,ifs,0⟩] scope pos) spos) (J4 (tP w G (.comp2 ty s t it ce ee)) (iH i)):=
 λpins st σ H D I h=>DP hc hN hy hyl hsw hi ok hg ht he hs pins st σ H D I (by rw[ho];exact AJ hK hst h)
theorem Vm:Mu X [] (tK w G (.litb true)):=λpins s σ H Q I x=>by
 obtain⟨h0,l,hs,k,E,e,q⟩:=x;cases(show some (PV.bl true)=some (PV.bl k)from e)
 exact Qq pins s σ H Q I (q H (cZ.refl H))
theorem a1z(pa:PE X ea (tP w G a))(hf:jT a=true):PE X ea (tP w G (.fz a)):=by
 intro pins s σ H Q I hh;obtain⟨h0,l,hs,p,E,e,q⟩:=hh;fail"e";obtain⟨xs,rfl,rfl⟩:=GI f1;refine fQ (pa pins s σ H (λv H1=>∃d,v=.ref d/\H d=none/\cZ H H1/\H1 d=some (.lst (xs.map V.int))) I ⟨h0,l,hs,_,E,e1,λv H' s1 r n=>?_⟩) λv s1 ⟨x,H1,I2,r,d,e2,hn,s2,hd⟩=>?_
 . obtain⟨d,rfl,hd⟩:=r;exact⟨d,rfl,n hf d rfl rfl,s1,hd⟩
 . obtain⟨od,I3⟩:=I2.lock hd trivial;exact⟨x,_,I3,r,q _ _ (λb u hb=>by rw[bU (eh hb hn)];exact s2 b u hb) ⟨d,od,e2,bB⟩ λ_=>fk.flat rfl⟩
end
@[reducible]def Sc:=List (Str×cw)
structure sR where
 fns:List Str
 ms:List Str
 cs:List (Str×Int)
 at_:List Str
 N:List Str
 j:Nat
 jm:Nat
 jd:Bool
 ds:List Str
 mp:List (Str×Nat)
 mm:List (Str×Nat)
abbrev iL(sc:Sc)(n:Str):Bool:=match sc.lookup n with
 | some .local=>true
 | some .cell=>true
 | some .free=>true
 | _=>false
abbrev pK(sc:Sc)(n:Str):Bool:=match sc.lookup n with
 | some .globalImplicit=>true
 | _=>false
abbrev AK(n:Str):Bool:=!(n==("__debug__":Str))&&!(n==("__classdict__":Str))
abbrev MV(n:Str):Bool:=!(n==("__debug__":Str))
abbrev cU:Expr->Bool
 | .Starred _ _=>false
 | _=>true
abbrev GK:Expr->Bool
 | .Name _ _=>true
 | .Attribute _ _ _=>true
 | .Subscript _ _ _=>true
 | .Call _ (_::_) _ _=>true
 | _=>false
abbrev lu:Expr->Bool
 | .Slice _ _ _ _=>false
 | _=>true
abbrev lX:Expr->Bool
 | .Set _ _ _=>false
 | _=>true
abbrev Eo:Expr->Bool
 | .Name _ _=>true
 | .Constant _ _ _=>true
 | .Call _ _ _ _=>true
 | .Subscript _ _ _=>true
 | .Attribute _ _ _=>true
 | _=>false
abbrev a1A:vi->vR->Bool
 | .add,.Add=>true
 | .sub,.Sub=>true
 | .mul,.Mult=>true
 | .mod,.Mod=>true
 | .fdiv,.FloorDiv=>true
 | _,_=>false
abbrev Vn:Bi->Str
 | .len=>"len"
 | .sum=>"sum"
 | .min=>"min"
 | .max=>"max"
 | .list=>"list"
 | .tuple=>"tuple"
 | .abs=>"abs"
abbrev QR(N:List Str)(sc:Sc)(scope:fV)(own:List (Str×Nat)):Bool:=
 (match scope.kind with | .function=>true | _=>false)&&(scope.names.all λy=>decide (scope.names.lookup y.1=some y.2))&&(own.all λp=>decide (N[p.2]?=some p.1))&&
  (scope.names.all λy=>match y.2 with
   | .free=>(match sc.lookup y.1 with | some .cell=>true | some .free=>true | _=>false)
   | .local=>decide (y.1∈own.map (·.1))||decide (y.1∉N)
   | .cell=>decide (y.1∈own.map (·.1))||decide (y.1∉N)
   | _=>true)
structure K3 where
 e:Sc->Expr->Bool
 t:Sc->Expr->Bool
 a:Sc->List Expr->Bool
 i:Bool->Sc->Expr->Bool
 s:Bool->Sc->Expr->Bool
 x:Sc->Expr->Bool
abbrev K3.val(f:Sc->Expr->Bool):K3:=⟨f,λsc e=>Eo e&&f sc e,λ_ _=>false,λ_ sc e=>lX e&&f sc e,λ_ sc e=>lX e&&f sc e,f⟩
abbrev K3.old(f:Sc->Expr->Bool):K3:=⟨f,λsc e=>Eo e&&f sc e,λ_ _=>false,λ_ sc e=>lX e&&f sc e,λ_ _ _=>false,λ_ _=>false⟩
abbrev K3.fld(f:Sc->Expr->Bool):K3:=⟨f,λsc e=>Eo e&&f sc e,λ_ _=>false,λ_ sc e=>lX e&&f sc e,λ_ sc e=>lX e&&f sc e,λ_ _=>false⟩
abbrev K3.tst(f g:Sc->Expr->Bool):K3:=⟨f,g,λ_ _=>false,λ_ _ _=>false,λ_ _ _=>false,λ_ _=>false⟩
abbrev K3.src(f:Bool->Sc->Expr->Bool):K3:=⟨λ_ _=>false,λ_ _=>false,λ_ _=>false,f,f,λ_ _=>false⟩
abbrev K3.args(f:Sc->List Expr->Bool):K3:=⟨λ_ _=>false,λ_ _=>false,f,λ_ _ _=>false,λ_ _ _=>false,λ_ _=>false⟩
abbrev vqt:CE->Bool
 | .litb b=>b
 | _=>false
theorem vqt'{c}(h:vqt c=true):c=.litb true:=by
 cases c<;>first | (cases(show _=true from h);rfl) | exact(bj h).elim
abbrev vqN(e:Expr)(k:Str->Pos->Bool):=match e with
 | .Name a b=>k a b
 | _=>false
theorem vqN'{e}{k:Str->Pos->Bool}{C:Expr->Prop}(h:vqN e k=true)(m:∀a b,k a b=true->C (.Name a b)):C e:=by
 fail"ve"
abbrev vqA(e:Expr)(k:Expr->Str->Pos->Bool):=match e with
 | .Attribute a b c=>k a b c
 | _=>false
theorem vqA'{e}{k:Expr->Str->Pos->Bool}{C:Expr->Prop}(h:vqA e k=true)(m:∀a b c,k a b c=true->C (.Attribute a b c)):C e:=by
 fail"ve"
abbrev vqC(e:Expr)(k:Expr->List Expr->List Pq->Pos->Bool):=match e with
 | .Call a b c d=>k a b c d
 | _=>false
theorem vqC'{e}{k:Expr->List Expr->List Pq->Pos->Bool}{C:Expr->Prop}(h:vqC e k=true)(m:∀a b c d,k a b c d=true->C (.Call a b c d)):C e:=by
 fail"ve"
abbrev vqS(e:Expr)(k:Expr->Expr->Pos->Bool):=match e with
 | .Subscript a b c=>k a b c
 | _=>false
theorem vqS'{e}{k:Expr->Expr->Pos->Bool}{C:Expr->Prop}(h:vqS e k=true)(m:∀a b c,k a b c=true->C (.Subscript a b c)):C e:=by
 fail"ve"
abbrev vqT(e:Expr)(k:List Expr->Nat->Pos->Bool):=match e with
 | .Tuple a b c=>k a b c
 | _=>false
theorem vqT'{e}{k:List Expr->Nat->Pos->Bool}{C:Expr->Prop}(h:vqT e k=true)(m:∀a b c,k a b c=true->C (.Tuple a b c)):C e:=by
 fail"ve"
abbrev vqM(e:Expr)(k:Expr->List Ip->List Expr->Pos->Bool):=match e with
 | .Compare a b c d=>k a b c d
 | _=>false
theorem vqM'{e}{k:Expr->List Ip->List Expr->Pos->Bool}{C:Expr->Prop}(h:vqM e k=true)(m:∀a b c d,k a b c d=true->C (.Compare a b c d)):C e:=by
 fail"ve"
abbrev vqI(e:Expr)(k:Option Expr->Option Expr->Option Expr->Pos->Bool):=match e with
 | .Slice a b c d=>k a b c d
 | _=>false
theorem vqI'{e}{k:Option Expr->Option Expr->Option Expr->Pos->Bool}{C:Expr->Prop}(h:vqI e k=true)(m:∀a b c d,k a b c d=true->C (.Slice a b c d)):C e:=by
 fail"ve"
abbrev vqL(e:Expr)(k:Expr->List a3m->fV->Pos->Bool):=match e with
 | .ListComp a b c d=>k a b c d
 | _=>false
theorem vqL'{e}{k:Expr->List a3m->fV->Pos->Bool}{C:Expr->Prop}(h:vqL e k=true)(m:∀a b c d,k a b c d=true->C (.ListComp a b c d)):C e:=by
 fail"ve"
abbrev vqs(e:Stmt)(k:List Expr->Expr->Pos->Bool):=match e with
 | .Assign a b c=>k a b c
 | _=>false
theorem vqs'{e}{k:List Expr->Expr->Pos->Bool}{C:Stmt->Prop}(h:vqs e k=true)(m:∀a b c,k a b c=true->C (.Assign a b c)):C e:=by
 fail"ve"
abbrev vqu(e:Stmt)(k:Expr->vR->Expr->Pos->Bool):=match e with
 | .AugAssign a b c d=>k a b c d
 | _=>false
theorem vqu'{e}{k:Expr->vR->Expr->Pos->Bool}{C:Stmt->Prop}(h:vqu e k=true)(m:∀a b c d,k a b c d=true->C (.AugAssign a b c d)):C e:=by
 fail"ve"
abbrev vqe(e:Stmt)(k:Expr->Pos->Bool):=match e with
 | .Expr a b=>k a b
 | _=>false
theorem vqe'{e}{k:Expr->Pos->Bool}{C:Stmt->Prop}(h:vqe e k=true)(m:∀a b,k a b=true->C (.Expr a b)):C e:=by
 fail"ve"
abbrev vqr(e:Stmt)(k:Option Expr->Pos->Bool):=match e with
 | .Return a b=>k a b
 | _=>false
theorem vqr'{e}{k:Option Expr->Pos->Bool}{C:Stmt->Prop}(h:vqr e k=true)(m:∀a b,k a b=true->C (.Return a b)):C e:=by
 fail"ve"
abbrev vqw(e:Stmt)(k:Expr->List Stmt->List Stmt->Pos->Bool):=match e with
 | .While a b c d=>k a b c d
 | _=>false
theorem vqw'{e}{k:Expr->List Stmt->List Stmt->Pos->Bool}{C:Stmt->Prop}(h:vqw e k=true)(m:∀a b c d,k a b c d=true->C (.While a b c d)):C e:=by
 fail"ve"
abbrev vqf(e:Stmt)(k:Expr->Expr->List Stmt->List Stmt->Pos->Bool):=match e with
 | .For a b c d x=>k a b c d x
 | _=>false
theorem vqf'{e}{k:Expr->Expr->List Stmt->List Stmt->Pos->Bool}{C:Stmt->Prop}(h:vqf e k=true)(m:∀a b c d x,k a b c d x=true->C (.For a b c d x)):C e:=by
 fail"ve"
abbrev vq0{α:Type}(e:List α)(k:Bool):=match e with
 | []=>k
 | _=>false
theorem vq0'{α:Type}{e k}{C:List α->Prop}(h:vq0 e k=true)(m:k=true->C []):C e:=by
 fail"ve"
abbrev vq1{α:Type}(e:List α)(k:α->Bool):=match e with
 | [a]=>k a
 | _=>false
theorem vq1'{α:Type}{e}{k:α->Bool}{C:List α->Prop}(h:vq1 e k=true)(m:∀a,k a=true->C [a]):C e:=by
 match e with
 | []=>exact(bj h).elim
 | [_]=>exact m _ h
 | _::_::_=>exact(bj h).elim
abbrev vq2{α:Type}(e:List α)(k:α->α->Bool):=match e with
 | [a,b]=>k a b
 | _=>false
theorem vq2'{α:Type}{e}{k:α->α->Bool}{C:List α->Prop}(h:vq2 e k=true)(m:∀a b,k a b=true->C [a,b]):C e:=by
 match e with
 | []=>exact(bj h).elim
 | [_]=>exact(bj h).elim
 | [_,_]=>exact m _ _ h
 | _::_::_::_=>exact(bj h).elim
abbrev vqc{α:Type}(e:List α)(k:α->List α->Bool):=match e with
 | a::b=>k a b
 | _=>false
theorem vqc'{α:Type}{e}{k:α->List α->Bool}{C:List α->Prop}(h:vqc e k=true)(m:∀a b,k a b=true->C (a::b)):C e:=by
 fail"ve"
abbrev vqo(e:Option Expr)(k:Expr->Bool):=match e with
 | some a=>k a
 | _=>false
theorem vqo'{e k}{C:Option Expr->Prop}(h:vqo e k=true)(m:∀a,k a=true->C (some a)):C e:=by
 fail"ve"
abbrev vqn(e:Option Expr)(k:Bool):=match e with
 | none=>k
 | _=>false
theorem vqn'{e k}{C:Option Expr->Prop}(h:vqn e k=true)(m:k=true->C none):C e:=by
 fail"ve"
abbrev vqk(e:Expr)(k:Bool):=match e with
 | .Constant (.int i) _ _=>decide (i=0)&&k
 | _=>false
theorem vqk'{e k}{C:Expr->Prop}(h:vqk e k=true)(m:∀a b,k=true->C (.Constant (.int 0) a b)):C e:=by
 cases e with
 | Constant c a b=>cases c<;>first | (have h:=be.mp h;cases oD h.1;exact m _ _ h.2) | exact(bj h).elim
 | _=>exact(bj h).elim
abbrev vqG(e:a3m)(k:Expr->Expr->List Expr->Bool):=match e with
 | ⟨a,b,c,d⟩=>decide (d=0)&&k a b c
theorem vqG'{e k}{C:a3m->Prop}(h:vqG e k=true)(m:∀a b c,k a b c=true->C ⟨a,b,c,0⟩):C e:=by
 cases e;have h:=be.mp h;cases oD h.1;exact m _ _ _ h.2
abbrev nm3(T:sR)(sc:Sc)(i:Nat)(n:Str):=decide (T.N[i]?=some n)&&iL sc n&&AK n
abbrev ck(T:sR):CE->K3
 | .n i=>.val λ_ e=>match e with
  | .Constant (.int k) _ _=>decide (k=i)
  | _=>false
 | .litb i=>.val λ_ e=>match e with
  | .Constant (.bool k) _ _=>decide (k=i)
  | _=>false
 | .none_=>.val λ_ e=>match e with
  | .Constant .none _ _=>true
  | _=>false
 | .v i=>let f:Sc->Expr->Bool:=λsc e=>match e with
  | .Name n _=>nm3 T sc i n
  | _=>false
  ⟨f,λsc e=>Eo e&&f sc e,λ_ _=>false,λ_ sc e=>lX e&&f sc e,λ_ sc e=>lX e&&f sc e,f⟩
 | .g j=>.old λsc e=>match e with
  | .Name n _=>(match T.cs[j]? with | some (m,_)=>decide (m=n) | none=>false)&&pK sc n&&MV n
  | _=>false
 | .fld v j=>.fld λsc e=>vqA e λy1 f _=>vqN y1 λn _=>nm3 T sc v n&&decide (T.at_[j]?=some f)
 | .b o a b=>.val λsc e=>match e with
  | .BinOp l op r _=>a1A o op&&(ck T a).e sc l&&(ck T b).e sc r
  | _=>false
 | .neg a=>.val λsc e=>match e with
  | .UnaryOp .USub x _=>(ck T a).e sc x
  | _=>false
 | .c o a b=>let f:Sc->Expr->Bool:=λsc e=>vqM e λl y1 y2 _=>vq1 y1 λop=>vq1 y2 λr=>decide (op=r6 o)&&(ck T a).e sc l&&(ck T b).e sc r&&lX r
  .tst f f
 | .chain o o' a b c=>let f:Sc->Expr->Bool:=λsc e=>vqM e λl y1 y2 _=>vq2 y1 λop op'=>vq2 y2 λm r=>decide (op=r6 o)&&decide (op'=r6 o')&&(ck T a).e sc l&&(ck T b).e sc m&&(ck T c).e sc r&&lX r
  .tst f f
 | .and a b=>.tst (λsc e=>match e with
  | .BoolOp .And [x,y] _=>(ck T a).e sc x&&(ck T b).e sc y
  | .BoolOp .And (x::y::z::r) p=>(ck T a).e sc x&&(ck T b).e sc (.BoolOp .And (y::z::r) p)
  | _=>false) (λsc e=>match e with
  | .BoolOp .And [x,y] _=>(ck T a).t sc x&&(ck T b).t sc y
  | .BoolOp .And (x::y::z::r) p=>(ck T a).t sc x&&(ck T b).t sc (.BoolOp .And (y::z::r) p)
  | _=>false)
 | .or a b=>.tst (λsc e=>match e with
  | .BoolOp .Or [x,y] _=>(ck T a).e sc x&&(ck T b).e sc y
  | .BoolOp .Or (x::y::z::r) p=>(ck T a).e sc x&&(ck T b).e sc (.BoolOp .Or (y::z::r) p)
  | _=>false) (λsc e=>match e with
  | .BoolOp .Or [x,y] _=>(ck T a).t sc x&&(ck T b).t sc y
  | .BoolOp .Or (x::y::z::r) p=>(ck T a).t sc x&&(ck T b).t sc (.BoolOp .Or (y::z::r) p)
  | _=>false)
 | .not a=>.tst (λsc e=>match e with
  | .UnaryOp .Not x _=>(ck T a).e sc x
  | _=>false) (λsc e=>match e with
  | .UnaryOp .Not x _=>(ck T a).t sc x
  | _=>false)
 | .i c a b=>.old λsc e=>match e with
  | .IfExp t x y _=>(ck T c).t sc t&&(ck T a).e sc x&&(ck T b).e sc y
  | _=>false
 | .mth v k=>.val λsc e=>vqC e λy1 y2 y3 p=>vqA y1 λy4 m ap=>vqN y4 λn _=>vq0 y2 (vq0 y3 (nm3 T sc v n&&(decide (k<T.j)&&(decide ((m,k)∈T.mp)&&(ap.endLine==p.line))&&decide (m∉T.at_))))
 | .call k as=>.val λsc e=>vqC e λy1 y2 y3 _=>vqN y1 λn _=>vqc y2 λx xs=>vq0 y3 (decide (k<T.j)&&decide (T.fns[k]?=some n/\n≠"")&&pK sc n&&MV n&&cU x&&xs.all cU&&(ck T as).a sc (x::xs))
 | .z=>.args λ_ es=>match es with
  | []=>true
  | _=>false
 | .k a r=>.args λsc es=>match es with
  | x::xs=>cU x&&(ck T a).e sc x&&(ck T r).a sc xs
  | _=>false
 | .bi f a=>.val λsc e=>vqC e λy1 y2 y3 _=>vqN y1 λn _=>vq1 y2 λx=>vq0 y3 (decide (n=Vn f)&&pK sc n&&cU x&&(ck T a).e sc x)
 | .min2 a b=>.val λsc e=>vqC e λy1 y2 y3 _=>vqN y1 λn _=>vq2 y2 λx y=>vq0 y3 (decide (n="min")&&pK sc n&&cU x&&cU y&&(ck T a).e sc x&&(ck T b).e sc y)
 | .max2 a b=>.val λsc e=>vqC e λy1 y2 y3 _=>vqN y1 λn _=>vq2 y2 λx y=>vq0 y3 (decide (n="max")&&pK sc n&&cU x&&cU y&&(ck T a).e sc x&&(ck T b).e sc y)
 | .idx a i=>.val λsc e=>match e with
  | .Subscript x y _=>lu y&&(ck T a).e sc x&&(ck T i).e sc y
  | _=>false
 | .sl a=>.val λsc e=>vqS e λx y1 _=>vqI y1 λy2 y3 y4 _=>vqn y2 (vqn y3 (vqn y4 ((ck T a).e sc x)))
 | .slLo a lo=>.val λsc e=>vqS e λx y1 _=>vqI y1 λy2 y3 y4 _=>vqo y2 λy=>vqn y3 (vqn y4 ((ck T a).e sc x&&(ck T lo).e sc y))
 | .slHi a hi=>.val λsc e=>vqS e λx y1 _=>vqI y1 λy2 y3 y4 _=>vqn y2 (vqo y3 λy=>vqn y4 ((ck T a).e sc x&&(ck T hi).e sc y))
 | .slBoth a lo hi=>.val λsc e=>vqS e λx y1 _=>vqI y1 λy2 y3 y4 _=>vqo y2 λy=>vqo y3 λz=>vqn y4 ((ck T a).e sc x&&(ck T lo).e sc y&&(ck T hi).e sc z)
 | .index a b=>.val λsc e=>vqC e λy1 y2 y3 p=>vqA y1 λx m ap=>vq1 y2 λy=>vq0 y3 (decide (m="index")&&GK x&&cU y&&(ap.endLine==p.line)&&(ck T a).e sc x&&(ck T b).e sc y)
 | .count a b=>.val λsc e=>vqC e λy1 y2 y3 p=>vqA y1 λx m ap=>vq1 y2 λy=>vq0 y3 (decide (m="count")&&GK x&&cU y&&(ap.endLine==p.line)&&(ck T a).e sc x&&(ck T b).e sc y)
 | .lst _ as=>.val λsc e=>match e with
  | .List es _=>(ck T as).a sc es
  | _=>false
 | .tpl as=>.val λsc e=>match e with
  | .Tuple es _ _=>(ck T as).a sc es
  | _=>false
 | .comp _ s it c e=>.val λsc ex=>vqL ex λelt y1 scope _=>vq1 y1 λy2=>vqG y2 λy3 iter ifs=>vqN y3 λn _=>decide (T.N[s]?=some n)&&decide (scope.names.lookup n=some .local)&&QR T.N sc scope [(n,s)]&&lX iter&&(ck T it).i false sc iter&&
   (match ifs with
    | []=>vqt c
    | [t]=>(ck T c).t scope.names t
    | _=>false)&&(ck T e).e scope.names elt
 | .comp2 _ s s' it c e=>.val λsc ex=>vqL ex λelt y1 scope _=>vq1 y1 λy2=>vqG y2 λy3 iter ifs=>vqT y3 λy4 _ _=>vq2 y4 λy5 y6=>vqN y5 λn _=>vqN y6 λn' _=>decide (s≠s')&&decide (T.N[s]?=some n)&&decide (T.N[s']?=some n')&&decide (scope.names.lookup n=some .local)&&decide (scope.names.lookup n'=some .local)&&
   QR T.N sc scope [(n,s),(n',s')]&&lX iter&&(ck T it).i true sc iter&&
   (match ifs with
    | []=>vqt c
    | [t]=>(ck T c).t scope.names t
    | _=>false)&&(ck T e).e scope.names elt
 | .rng1 a=>.src λ_ sc e=>vqC e λy1 y2 y3 _=>vqN y1 λn _=>vq1 y2 λx=>vq0 y3 (decide (n="range")&&pK sc n&&cU x&&(ck T a).e sc x)
 | .rng a b=>.src λ_ sc e=>vqC e λy1 y2 y3 _=>vqN y1 λn _=>vq2 y2 λx y=>vq0 y3 (decide (n="range")&&pK sc n&&cU x&&cU y&&(ck T a).e sc x&&(ck T b).e sc y)
 | .enum a=>.src λtp sc e=>vqC e λy1 y2 y3 _=>vqN y1 λn _=>vq1 y2 λx=>vq0 y3 (tp&&decide (n="enumerate")&&pK sc n&&cU x&&(ck T a).x sc x)
 | .zip a b=>.src λtp sc e=>vqC e λy1 y2 y3 _=>vqN y1 λn _=>vq2 y2 λx y=>vq0 y3 (tp&&decide (n="zip")&&pK sc n&&cU x&&cU y&&(ck T a).x sc x&&(ck T b).x sc y)
 | .dget g a=>.val λsc e=>vqS e λy1 y _=>vqN y1 λn _=>decide (T.ds[g]?=some n)&&pK sc n&&MV n&&lu y&&(ck T a).e sc y
 | .din g a=>let f:Sc->Expr->Bool:=λsc e=>match e with
  | .Compare x [.In] [.Name n _] _=>decide (T.ds[g]?=some n)&&pK sc n&&MV n&&(ck T a).e sc x
  | _=>false
  .tst f f
 | .fz a=>.tst (λsc e=>jT a&&(ck T a).e sc e) (λ_ _=>false)
abbrev lY(sc:Sc)(X:Cx):Prop:=∀x k,sc.lookup x=some k->match k with
 | .local=>X.env.scope.names.lookup x=some .local
 | .cell=>X.env.scope.names.lookup x=some .cell\/X.env.scope.names.lookup x=some .free
 | .free=>X.env.scope.names.lookup x=some .cell\/X.env.scope.names.lookup x=some .free
 | .globalImplicit=>X.env.scope.names.lookup x=some .globalImplicit
 | .globalExplicit=>True
theorem lY.vis{sc:Sc}{X:Cx}(h:lY sc X){n:Str}(hv:iL sc n=true):Tb X.env.scope n:=by
 unfold iL at hv;cases e:sc.lookup n with
 | none=>rw[e]at hv;cases hv
 | some k=>
  rw[e]at hv;have:=h n k e;cases k with
  | «local»=>exact .inl this
  | cell=>exact .inr this
  | free=>exact .inr this
  | globalImplicit=>cases hv
  | globalExplicit=>cases hv
theorem lY.gl{sc:Sc}{X:Cx}(h:lY sc X){n:Str}(hv:pK sc n=true):Gl X n:=by
 unfold pK at hv;cases e:sc.lookup n with
 | none=>rw[e]at hv;cases hv
 | some k=>
  rw[e]at hv;have:=h n k e;cases k with
  | globalImplicit=>exact this
  | _=>cases hv
abbrev MW:List Str:=["len","sum","min","max","list","tuple","abs","range","enumerate","zip"]
structure n9 (T:sR) (w:Wd) (G:gH) (lv:Nat) (X:Cx):Prop where
 K:w.K=X.K
 at_:w.at_=T.at_
 N:X.N=T.N
 calm:X.calm=true
 nd:X.N.Nodup
 room:je lv X.A
 fns:∀k n,k<T.j->T.fns[k]?=some n->n≠""->∃f fd ps,gC X.prog X.w X.K X.mg X.base sH lv f fd ps (Jh w G k)/\X.mg n=some (.ref f)/\cx X.K (.ref f)=true/\Binds X.K fd ps []
 cs:∀i n z,T.cs[i]?=some (n,z)->G.c i=some (.int z)/\∃t,X.mg n=some (.int z t)
 blt:∀n∈MW,X.mg n=none
 cls:zN X.K w.C
 noat:∀f∈T.at_,gv X.K w.C f
 ds:∀g n,T.ds[g]?=some n->AI w X G g n
 mps:∀k m,k<T.j->(m,k)∈T.mp->∃f fd ps,gC X.prog X.w X.K X.mg X.base sH lv f fd ps (Jh w G k)/\vd X.K w.C m f/\Binds X.K fd ps []
theorem n9.blk{T:sR}{w:Wd}{G:gH}{lv:Nat}{X:Cx}(h:n9 T w G lv X)(s:Shared)(H:Hp)(scope:fV)(cenv:tD)(fp:List ai):n9 T w G lv (X.blk s H scope cenv fp):=
 ⟨h.K,h.at_,h.N,h.calm,h.nd,h.room,h.fns,h.cs,h.blt,h.cls,h.noat,λg n e=>⟨(h.ds g n e).ex⟩,h.mps⟩
theorem yz{env:tD}:∀{names:List (Str×cw)} {x:Str} {k:cw},names.lookup x=some k->
 (names.map λ(n,k)=>if(k==cw.free&&env.scope.kind==.function&&env.kindOf n==some .cell)then(n,cw.cell)else(n,k)).lookup x=some k\/
  (k=.free/\(names.map λ(n,k)=>if(k==cw.free&&env.scope.kind==.function&&env.kindOf n==some .cell)then(n,cw.cell)else(n,k)).lookup x=some .cell)
 | [],_,_,h=>by cases h
 | (n,k')::r,x,k,h=>by
  rw[ax];haveI ih:= @yz env r x k;dsimp only at ih⊢
  by_cases c:(k'==cw.free&&env.scope.kind==.function&&env.kindOf n==some .cell)=true
  . rw[if_pos c];cases hx:x==n with
    | true=>
     rw[bx,hx]at h;cases h;rw[bx,hx];refine .inr ⟨?_,rfl⟩;have:=(be.mp (be.mp c).1).1;cases k'<;>first | rfl | cases this
    | false=>
     rw[bx,hx]at h;rw[bx,hx];exact ih h
  . rw[if_neg c];cases hx:x==n with
    | true=>
     rw[bx,hx]at h;cases h;rw[bx,hx];exact .inl rfl
    | false=>
     rw[bx,hx]at h;rw[bx,hx];exact ih h
theorem lY.blk{X:Cx}(s:Shared)(H:Hp)(scope:fV)(cl:List (Str×ai))(C:ai)(fp:List ai):lY scope.names (X.blk s H scope (cR scope cl C X.env) fp):=by
 intro x k h;haveI q:=yz (env:=X.env) h;cases k with
 | «local»=>exact q.elim (λz=>z) λz=>nomatch z.1
 | cell=>exact q.elim .inl λz=>nomatch z.1
 | free=>exact q.elim .inr λz=>.inl z.2
 | globalImplicit=>exact q.elim (λz=>z) λz=>nomatch z.1
 | globalExplicit=>trivial
theorem xj{N:List Str}{sc:Sc}{scope:fV}{own:List (Str×Nat)}{X:Cx}(hS:lY sc X)(h:QR N sc scope own=true):tZ N X.env.scope scope own:=by
 unfold QR at h;simp only[aG,bw,decide_eq_true_eq]at h;obtain⟨⟨⟨h1,h2⟩,h3⟩,h4⟩:=h;refine⟨?_,h2,h3,λy hy e=>?_,λy hy e=>?_⟩
 . split at h1
   . assumption
   . cases h1
 . haveI q:=h4 y hy;simp only[e]at q;split at q
   . rename_i e';exact hS _ _ e'
   . rename_i e';exact hS _ _ e'
   . cases q
 . haveI q:=h4 y hy;rcases e with e | e<;>(simp only[e,zQ,decide_eq_true_eq]at q;exact q)
theorem cg{e:Expr}(h:cU e=true)(es:List Expr)(env:tD):aW (e::es) env=(false,b4 e env)::aW es env:=by
 cases e<;>first | rfl | cases h
theorem qu{es:List Expr}(h:es.all cU=true)(pos:Pos)(env:tD):(gP pos (aW es env)).any (·.1)=false:=by
 induction es with
 | nil=>rfl
 | cons e r ih=>
  rw[dz,aG]at h;rw[cg h.1];show(false||(gP pos (aW r env)).any (·.1))=false;rw[ih h.2];rfl
theorem dQ{e:Expr}(h:GK e=true)(m:Str)(env:tD)(whole:PJ Value):cr e m env whole=whole:=by
 cases e<;>first | rfl | cases h | skip
 rename_i f args kw p;cases args with
 | nil=>cases h
 | cons x xs=>cases f<;>rfl
theorem Ep{e:Expr}(h:lu e=true):xf e:=by
 intro o i;cases e<;>first | rfl | cases h
theorem uB{e:Expr}(h:lX e=true)(op:Ip):jQ op e=false:=by
 cases e<;>first | rfl | cases h
theorem rJ{e:Expr}(h:lX e=true)(env:tD)(x:Value):dg e env x=pure x:=by
 cases e<;>first | rfl | cases h
theorem B2{e:Expr}(h:Eo e=true)(env:tD)(whole:PJ Value):Io e env whole=(do let v<-whole;mr e.pos;eF [v] (truthy v)):=by
 cases e<;>first | rfl | cases h
structure Tv (T:sR) (w:Wd) (G:gH) (lv:Nat) (c:CE):Prop where
 e:∀X sc ex,n9 T w G lv X->lY sc X->(ck T c).e sc ex=true->PE X ex (tP w G c)
 t:∀X sc ex,n9 T w G lv X->lY sc X->(ck T c).t sc ex=true->PT X ex (tK w G c)
 a:∀X sc es,n9 T w G lv X->lY sc X->(ck T c).a sc es=true->PA X es (Tq w G c)
 i:∀X sc ex tg,n9 T w G lv X->lY sc X->(ck T c).i false sc ex=true->PI X tg ex (tI w G c)
 i2:∀X sc ex elts kk tpos,n9 T w G lv X->lY sc X->(ck T c).i true sc ex=true->PI X (.Tuple elts kk tpos) ex (tI w G c)
 s:∀X sc ex tg,n9 T w G lv X->lY sc X->(ck T c).s false sc ex=true->PI X tg ex (FT w G c)
 s2:∀X sc ex elts kk tpos,n9 T w G lv X->lY sc X->(ck T c).s true sc ex=true->PI X (.Tuple elts kk tpos) ex (FT w G c)
 x:∀X sc ex,n9 T w G lv X->lY sc X->(ck T c).x sc ex=true->PE X ex (tX w G c)
section
variable {T:sR} {w:Wd} {G:gH} {lv:Nat}
theorem d8 {c:CE} {f:Sc->Expr->Bool} (hck:ck T c=.val f) (hfr:jT c=true) (hit:∀(G:gH) (hs:List PV),(b6 G hs c).it=λl=>((b6 G hs c).v l).bind items)
 (he:∀X sc ex,n9 T w G lv X->lY sc X->f sc ex=true->PE X ex (tP w G c)):Tv T w G lv c where
 e:=λX sc ex C S h=>he X sc ex C S (by rw[hck]at h;exact h)
 t:=λX sc ex C S h=>by
  rw[hck]at h;obtain⟨h1,h2⟩:=be.mp h;exact Jj (he X sc ex C S h2) (B2 h1 _)
 a:=λX sc es C S h=>by rw[hck]at h;cases h
 i:=λX sc ex tg C S h=>by
  rw[hck]at h;exact qt C.K hit (he X sc ex C S (be.mp h).2)
 i2:=λX sc ex elts kk tpos C S h=>by
  rw[hck]at h;exact qt C.K hit (he X sc ex C S (be.mp h).2)
 s:=λX sc ex tg C S h=>by
  rw[hck]at h;exact Sq.is_list C.K hit (MR (he X sc ex C S (be.mp h).2) hfr)
 s2:=λX sc ex elts kk tpos C S h=>by
  rw[hck]at h;exact Sq.is_list C.K hit (MR (he X sc ex C S (be.mp h).2) hfr)
 x:=λX sc ex C S h=>by rw[hck]at h;exact MR (he X sc ex C S h) hfr
theorem Jn {c:CE} {f:Sc->Expr->Bool} (hck:ck T c=.old f) (hit:∀(G:gH) (hs:List PV),(b6 G hs c).it=λl=>((b6 G hs c).v l).bind items)
 (he:∀X sc ex,n9 T w G lv X->lY sc X->f sc ex=true->PE X ex (tP w G c)):Tv T w G lv c where
 e:=λX sc ex C S h=>he X sc ex C S (by rw[hck]at h;exact h)
 t:=λX sc ex C S h=>by
  rw[hck]at h;obtain⟨h1,h2⟩:=be.mp h;exact Jj (he X sc ex C S h2) (B2 h1 _)
 a:=λX sc es C S h=>by rw[hck]at h;cases h
 i:=λX sc ex tg C S h=>by
  rw[hck]at h;exact qt C.K hit (he X sc ex C S (be.mp h).2)
 i2:=λX sc ex elts kk tpos C S h=>by
  rw[hck]at h;exact qt C.K hit (he X sc ex C S (be.mp h).2)
 s:=λX sc ex tg C S h=>by rw[hck]at h;cases h
 s2:=λX sc ex elts kk tpos C S h=>by rw[hck]at h;cases h
 x:=λX sc ex C S h=>by rw[hck]at h;cases h
theorem QS {c:CE} {f:Sc->Expr->Bool} (hck:ck T c=.fld f) (hit:∀(G:gH) (hs:List PV),(b6 G hs c).it=λl=>((b6 G hs c).v l).bind items)
 (he:∀X sc ex,n9 T w G lv X->lY sc X->f sc ex=true->PE X ex (tP w G c)) (hs:∀X sc ex tg,n9 T w G lv X->lY sc X->f sc ex=true->PI X tg ex (FT w G c)):Tv T w G lv c where
 e:=λX sc ex C S h=>he X sc ex C S (by rw[hck]at h;exact h)
 t:=λX sc ex C S h=>by
  rw[hck]at h;obtain⟨h1,h2⟩:=be.mp h;exact Jj (he X sc ex C S h2) (B2 h1 _)
 a:=λX sc es C S h=>by rw[hck]at h;cases h
 i:=λX sc ex tg C S h=>by
  rw[hck]at h;exact qt C.K hit (he X sc ex C S (be.mp h).2)
 i2:=λX sc ex elts kk tpos C S h=>by
  rw[hck]at h;exact qt C.K hit (he X sc ex C S (be.mp h).2)
 s:=λX sc ex tg C S h=>by rw[hck]at h;exact hs X sc ex _ C S (be.mp h).2
 s2:=λX sc ex elts kk tpos C S h=>by rw[hck]at h;exact hs X sc ex _ C S (be.mp h).2
 x:=λX sc ex C S h=>by rw[hck]at h;cases h
theorem oZ{c:CE}{f g:Sc->Expr->Bool}(hck:ck T c=.tst f g)(he:∀X sc ex,n9 T w G lv X->lY sc X->f sc ex=true->PE X ex (tP w G c))(ht:∀X sc ex,n9 T w G lv X->lY sc X->g sc ex=true->PT X ex (tK w G c)):Tv T w G lv c where
 e:=λX sc ex C S h=>he X sc ex C S (by rw[hck]at h;exact h)
 t:=λX sc ex C S h=>ht X sc ex C S (by rw[hck]at h;exact h)
 a:=λX sc es C S h=>by rw[hck]at h;cases h
 i:=λX sc ex tg C S h=>by rw[hck]at h;cases h
 i2:=λX sc ex elts kk tpos C S h=>by rw[hck]at h;cases h
 s:=λX sc ex tg C S h=>by rw[hck]at h;cases h
 s2:=λX sc ex elts kk tpos C S h=>by rw[hck]at h;cases h
 x:=λX sc ex C S h=>by rw[hck]at h;cases h
theorem Er{c:CE}{f:Sc->List Expr->Bool}(hck:ck T c=.args f)(ha:∀X sc ex,n9 T w G lv X->lY sc X->f sc ex=true->PA X ex (Tq w G c)):Tv T w G lv c where
 e:=λX sc ex C S h=>by rw[hck]at h;cases h
 t:=λX sc ex C S h=>by rw[hck]at h;cases h
 a:=λX sc es C S h=>ha X sc es C S (by rw[hck]at h;exact h)
 i:=λX sc ex tg C S h=>by rw[hck]at h;cases h
 i2:=λX sc ex elts kk tpos C S h=>by rw[hck]at h;cases h
 s:=λX sc ex tg C S h=>by rw[hck]at h;cases h
 s2:=λX sc ex elts kk tpos C S h=>by rw[hck]at h;cases h
 x:=λX sc ex C S h=>by rw[hck]at h;cases h
theorem ckv{c:CE}{f:Sc->Expr->Bool}{sc:Sc}{e:Expr}(h:ck T c=.val f)(k:(ck T c).e sc e=true):f sc e=true:=by rw[h]at k;exact k
theorem cks{c:CE}{f:Bool->Sc->Expr->Bool}{sc:Sc}{e:Expr}(h:ck T c=.src f)(k:(ck T c).s false sc e=true):f false sc e=true:=by rw[h]at k;exact k
theorem xk {c:CE} {f:Bool->Sc->Expr->Bool} (hck:ck T c=.src f) (h1:∀X sc ex tg,n9 T w G lv X->lY sc X->f false sc ex=true->PI X tg ex (FT w G c))
 (h2:∀X sc ex elts kk tpos,n9 T w G lv X->lY sc X->f true sc ex=true->PI X (.Tuple elts kk tpos) ex (FT w G c)):Tv T w G lv c where
 e:=λX sc ex C S h=>by rw[hck]at h;cases h
 t:=λX sc ex C S h=>by rw[hck]at h;cases h
 a:=λX sc es C S h=>by rw[hck]at h;cases h
 i:=λX sc ex tg C S h=>Y9 (h1 X sc ex tg C S (by rw[hck]at h;exact h))
 i2:=λX sc ex elts kk tpos C S h=>Y9 (h2 X sc ex elts kk tpos C S (by rw[hck]at h;exact h))
 s:=λX sc ex tg C S h=>h1 X sc ex tg C S (by rw[hck]at h;exact h)
 s2:=λX sc ex elts kk tpos C S h=>h2 X sc ex elts kk tpos C S (by rw[hck]at h;exact h)
 x:=λX sc ex C S h=>by rw[hck]at h;cases h
theorem aF{a b:Bool}(h:(a&&b)=true):a=true/\b=true:=be.mp h
theorem MX{n:Str}(h:AK n=true):(n==("__debug__":Str))=false/\(n==("__classdict__":Str))=false:=by
 fail"b";exact⟨by simpa using h1,by simpa using h2⟩
theorem sS{n:Str}(h:MV n=true):(n==("__debug__":Str))=false:=by
 unfold MV at h;simpa using h
end
section
variable {T:sR} {w:Wd} {G:gH} {lv:Nat}
theorem n9.hu{X:Cx}(C:n9 T w G lv X):X.A.units+64<Dv:=C.room.units
theorem n9.none{X:Cx}(C:n9 T w G lv X){n:Str}(h:n∈MW):X.mg n=none:=C.blt n h
theorem xl{X:Cx}{sc:Sc}(C:n9 T w G lv X)(S:lY sc X){i:Nat}{n:Str}{p:Pos}(h:(decide (T.N[i]?=some n)&&iL sc n&&AK n)=true):PE X (.Name n p) (tP w G (.v i))/\PE X (.Name n p) (tX w G (.v i)):=by
 fail"b";fail"c";obtain⟨h5,h6⟩:=MX h2;have hN:X.N[i]?=some n:=by rw[C.N];exact oD h3
 exact⟨YN hN (S.vis h4) h5 h6,Za hN (S.vis h4) h5 h6⟩
theorem Jo {c:CE} {sc:Sc} {X:Cx} {ifs:List Expr} (s:Tv T w G lv c) (C:n9 T w G lv X) (S:lY sc X) (h:(match ifs with
 | []=>vqt c
 | [t]=>(ck T c).t sc t
 | _=>false)=true):Mu X ifs (tK w G c):=by
 match ifs,h with
 | [],h=>
  cases vqt' h;exact Vm
 | [t],h=>exact Qr (s.t X sc t C S h)
 | _::_::_,h=>cases h
theorem vw{X:Cx}{scope:fV}{n:Str}{i:Nat}{p:Pos}(C:n9 T w G lv X)(h1:decide (T.N[i]?=some n)=true)(h2:decide (scope.names.lookup n=some .local)=true)(s:Shared)(H:Hp)(Ca:ai)(cl:List (Str×ai))(fp:List ai):
 PG (X.blk s H scope (cR scope cl Ca X.env) fp) (.Name n p) (iH i):=by
 have q:(X.blk s H scope (cR scope cl Ca X.env) fp).env.scope.names.lookup n=some .local:=lY.blk s H scope cl Ca fp n .local (oD h2);exact II C.nd (by show X.N[i]?=some n;rw[C.N];exact oD h1) (.inl q) (.inr q)
theorem dt:∀c:CE,Tv T w G lv c:=by
 intro c;induction c with
 | n i=>
  exact d8 rfl rfl (λ_ _=>rfl) λX sc ex C S h=>by
   split at h
   . have:=oD h;subst this;exact YM
   . cases h
 | litb i=>
  exact d8 rfl rfl (λ_ _=>rfl) λX sc ex C S h=>by
   split at h
   . have:=oD h;subst this;exact UZ
   . cases h
 | none_=>
  exact d8 rfl rfl (λ_ _=>rfl) λX sc ex C S h=>by
   split at h
   . exact U0
   . cases h
 | v i=>
  have key:∀X sc ex,n9 T w G lv X->lY sc X->(ck T (.v i)).e sc ex=true->PE X ex (tP w G (.v i))/\PE X ex (tX w G (.v i)):=λX sc ex C S h=>by
   cases ex<;>first | (cases h;done) | exact xl C S h
  exact⟨λX sc ex C S h=>(key X sc ex C S h).1,λX sc ex C S h=>Jj (key X sc ex C S (aF h).2).1 (B2 (aF h).1 _),λX sc es C S h=>(by cases h),
   λX sc ex tg C S h=>qt C.K (λ_ _=>rfl) (key X sc ex C S (aF h).2).1,λX sc ex _ _ _ C S h=>qt C.K (λ_ _=>rfl) (key X sc ex C S (aF h).2).1,
   λX sc ex tg C S h=>Sq.is_list C.K (λ_ _=>rfl) (key X sc ex C S (aF h).2).2,λX sc ex _ _ _ C S h=>Sq.is_list C.K (λ_ _=>rfl) (key X sc ex C S (aF h).2).2,λX sc ex C S h=>(key X sc ex C S h).2⟩
 | g j=>
  exact Jn rfl (λ_ _=>rfl) λX sc ex C S h=>by
   split at h
   . fail"b";fail"c";split at h3
     . rename_i m z e;have:=oD h3;subst this;obtain⟨g1,t,g2⟩:=C.cs _ _ _ e;exact QH (S.gl h4) g2 g1 (sS h2)
     . cases h3
   . cases h
 | fld v j=>
  refine QS rfl (λ_ _=>rfl) (λX sc ex C S h=>?_) λX sc ex tg C S h=>?_
  . fail"sp";fail"b";haveI h3:=oD h2;exact Y5 C.K (xl C S h1).1 (by rw[C.at_];exact h3) C.cls (C.noat _ (aL h3)) (dQ rfl _ _ _)
  . fail"sp";fail"b";haveI h3:=oD h2;exact Vh C.K (xl C S h1).1 (by rw[C.at_];exact h3) C.cls (C.noat _ (aL h3)) (dQ rfl _ _ _)
 | b o a b iha ihb=>
  exact d8 rfl rfl (λ_ _=>rfl) λX sc ex C S h=>by
   split at h
   . fail"b";fail"c";haveI pa:=iha.e X sc _ C S h4;haveI pb:=ihb.e X sc _ C S h2;rename_i op r p;cases o with
     | add=>cases op<;>first | (cases h3;done) | exact YO pa pb
     | sub=>cases op<;>first | (cases h3;done) | exact YQ pa pb
     | mul=>cases op<;>first | (cases h3;done) | exact YR pa pb
     | mod=>cases op<;>first | (cases h3;done) | exact YS pa pb
     | fdiv=>cases op<;>first | (cases h3;done) | exact U1 pa pb
   . cases h
 | neg a iha=>
  exact d8 rfl rfl (λ_ _=>rfl) λX sc ex C S h=>by
   split at h
   . exact YT (iha.e X sc _ C S h)
   . cases h
 | c o a b iha ihb=>
  exact oZ rfl (λX sc ex C S h=>by
   fail"sp";fail"b";fail"c";fail"d";have:=oD h5;subst this;exact YU C.K C.hu (iha.e X sc _ C S h6) (ihb.e X sc _ C S h4) (uB h2 _)) λX sc ex C S h=>by
   fail"sp";fail"b";fail"c";fail"d";have:=oD h5;subst this;exact YV C.K C.hu (iha.e X sc _ C S h6) (ihb.e X sc _ C S h4) (uB h2 _)
 | chain o o' a b c iha ihb ihc=>
  exact oZ rfl (λX sc ex C S h=>by
   fail"sp";fail"b";fail"c";fail"d";fail"j";fail"m";have e1:=oD h9;haveI e2:=oD h10;subst e1 e2;exact QJ C.K C.hu (iha.e X sc _ C S h8) (ihb.e X sc _ C S h6) (ihc.e X sc _ C S h4) (uB h2 _)) λX sc ex C S h=>by
   fail"sp";fail"b";fail"c";fail"d";fail"j";fail"m";have e1:=oD h9;haveI e2:=oD h10;subst e1 e2;exact QK C.K C.hu (iha.e X sc _ C S h8) (ihb.e X sc _ C S h6) (ihc.e X sc _ C S h4) (uB h2 _)
 | and a b iha ihb=>
  exact oZ rfl (λX sc ex C S h=>by
   split at h
   . exact Ts (iha.e X sc _ C S (aF h).1) (L1 (ihb.e X sc _ C S (aF h).2))
   . exact Ts (iha.e X sc _ C S (aF h).1) (ihb.e X sc _ C S (aF h).2)
   . cases h) λX sc ex C S h=>by
   split at h
   . exact(w_and (iha.t X sc _ C S (aF h).1) (U2 (ihb.t X sc _ C S (aF h).2))).pt
   . refine(w_and (iha.t X sc _ C S (aF h).1) ?_).pt;intro wh;exact ihb.t X sc _ C S (aF h).2
   . cases h
 | or a b iha ihb=>
  exact oZ rfl (λX sc ex C S h=>by
   split at h
   . exact YW (iha.e X sc _ C S (aF h).1) (L1 (ihb.e X sc _ C S (aF h).2))
   . exact YW (iha.e X sc _ C S (aF h).1) (ihb.e X sc _ C S (aF h).2)
   . cases h) λX sc ex C S h=>by
   split at h
   . exact(w_or (iha.t X sc _ C S (aF h).1) (YZ (ihb.t X sc _ C S (aF h).2))).pt
   . refine(w_or (iha.t X sc _ C S (aF h).1) ?_).pt;intro wh;exact ihb.t X sc _ C S (aF h).2
   . cases h
 | not a iha=>
  exact oZ rfl (λX sc ex C S h=>by
   split at h
   . exact YX (iha.e X sc _ C S h)
   . cases h) λX sc ex C S h=>by
   split at h
   . exact YY (iha.t X sc _ C S h)
   . cases h
 | i c a b ihc iha ihb=>
  exact Jn rfl (λ_ _=>rfl) λX sc ex C S h=>by
   split at h
   . fail"b";exact Y0 (ihc.t X sc _ C S (aF h1).1) (iha.e X sc _ C S (aF h1).2) (ihb.e X sc _ C S h2)
   . cases h
 | fz a iha=>
  refine oZ rfl (λX sc ex C S h=>?_) (λX sc ex C S h=>nomatch h);fail"b";exact a1z (iha.e X sc ex C S h2) h1
 | mth v k=>
  fail"d8";fail"b";obtain⟨h3,h4⟩:=aF h2;fail"d";obtain⟨h6,h7⟩:=aF h6;obtain⟨f,fd,ps,F,hm,hb⟩:=C.mps k _ (oD h5) (oD h6);exact Y6 C.K (xl C S h1).1 C.cls hm (by rw[C.at_];exact oD h4) F C.room hb (sQ (dQ rfl _ _ _) h7 rfl)
 | call k as iha=>
  fail"d8";fail"b";fail"c";fail"d";fail"j";fail"m";obtain⟨h11,h12⟩:=aF h9;obtain⟨f,fd,ps,F,hm,hk,hb⟩:=C.fns k _ (oD h11) (oD h12).1 (oD h12).2;exact U4 F C.room (S.gl h10) hm hk hb (iha.a X sc _ C S h2) (sS h8) (cg h6 _ _) (qu h4 _ _)
 | z=>
  exact Er rfl λX sc es C S h=>by
   split at h
   . exact Y1
   . cases h
 | k a r iha ihr=>
  exact Er rfl λX sc es C S h=>by
   split at h
   . fail"b";fail"c";exact U3 (iha.e X sc _ C S h4) (ihr.a X sc _ C S h2) (cg h3 _ _)
   . cases h
 | bi f a iha=>
  fail"d8";fail"b";fail"c";fail"d";haveI e1:=oD h5;subst e1;haveI pa:=iha.e X sc _ C S h2;haveI st:=cg h4 [] X.env;cases f with
  | len=>exact Ee Bv (U5 C.K) (S.gl h6) (C.none (by decide)) PySem.boot_len (by decide) (by decide) pa st
  | sum=>exact Ee (UF C.calm) (U6 C.K) (S.gl h6) (C.none (by decide)) a0I (by decide) (by decide) pa st
  | min=>exact Ee (UH C.calm) (U7 C.K) (S.gl h6) (C.none (by decide)) zI (by decide) (by decide) pa st
  | max=>exact Ee (UG C.calm) (U8 C.K) (S.gl h6) (C.none (by decide)) zJ (by decide) (by decide) pa st
  | list=>exact Tt Bw (QL C.K) (S.gl h6) (C.none (by decide)) a0J (by decide) (by decide) pa st
  | tuple=>exact Tt zY (ML C.K) (S.gl h6) (C.none (by decide)) a0K (by decide) (by decide) pa st
  | abs=>exact Ee Mg U9 (S.gl h6) (C.none (by decide)) a0L (by decide) (by decide) pa st
 | min2 a b iha ihb=>
  fail"d8";fail"b";fail"c";fail"d";fail"j";fail"m";have e1:=oD h9;subst e1;exact Va C.calm (S.gl h10) (C.none (by decide)) (iha.e X sc _ C S h4) (ihb.e X sc _ C S h2) (cg h8 _ _) (cg h6 _ _)
 | max2 a b iha ihb=>
  fail"d8";fail"b";fail"c";fail"d";fail"j";fail"m";have e1:=oD h9;subst e1;exact Vb C.calm (S.gl h10) (C.none (by decide)) (iha.e X sc _ C S h4) (ihb.e X sc _ C S h2) (cg h8 _ _) (cg h6 _ _)
 | idx a i iha ihi=>
  exact d8 rfl rfl (λ_ _=>rfl) λX sc ex C S h=>by
   split at h
   . fail"b";fail"c";exact Y2 C.K (iha.e X sc _ C S h4) (ihi.e X sc _ C S h2) (Ep h3)
   . cases h
 | sl a iha=>
  fail"d8";exact a1y C.K (iha.e X sc _ C S h)
 | slLo a lo iha ihb=>
  fail"d8";exact Vc C.K (iha.e X sc _ C S (aF h).1) (ihb.e X sc _ C S (aF h).2)
 | slHi a hi iha ihb=>
  fail"d8";exact Vd C.K (iha.e X sc _ C S (aF h).1) (ihb.e X sc _ C S (aF h).2)
 | slBoth a lo hi iha ihb ihc=>
  fail"d8";fail"b";exact MQ C.K (iha.e X sc _ C S (aF h1).1) (ihb.e X sc _ C S (aF h1).2) (ihc.e X sc _ C S h2)
 | index a b iha ihb=>
  fail"d8";fail"b";fail"c";fail"d";fail"j";fail"m";have e1:=oD h9;subst e1;exact QM C.K (iha.e X sc _ C S h4) (ihb.e X sc _ C S h2) (dQ h10 _ _ _) (cg h8 _ _) h6
 | count a b iha ihb=>
  fail"d8";fail"b";fail"c";fail"d";fail"j";fail"m";have e1:=oD h9;subst e1;exact QN C.K (iha.e X sc _ C S h4) (ihb.e X sc _ C S h2) (dQ h10 _ _ _) (cg h8 _ _) h6
 | lst ty as iha=>
  exact d8 rfl rfl (λ_ _=>rfl) λX sc ex C S h=>by
   split at h
   . exact Y3 (iha.a X sc _ C S h)
   . cases h
 | tpl as iha=>
  exact d8 rfl rfl (λ_ _=>rfl) λX sc ex C S h=>by
   split at h
   . exact Y4 (iha.a X sc _ C S h)
   . cases h
 | comp ty s it c e ihi ihc ihe=>
  fail"d8";fail"b";fail"c";fail"d";fail"j";fail"m";obtain⟨h11,h12⟩:=aF h9;exact Vk C.calm C.nd (ihi.i X sc _ _ C S h6) (by rw[C.N];exact xj S h10) rfl (λs' H Ca cl fp=>vw C h11 h12 s' H Ca cl fp)
   (λs' H Ca cl fp=>Jo ihc (C.blk s' H _ _ fp) (lY.blk s' H _ cl Ca fp) h4) (λs' H Ca cl fp=>ihe.e _ _ _ (C.blk s' H _ _ fp) (lY.blk s' H _ cl Ca fp) h2) (rJ h8 _)
 | comp2 ty s s' it c e ihi ihc ihe=>
  fail"d8";fail"b";fail"c";fail"d";fail"j";fail"m";obtain⟨h11,h12⟩:=aF h9;obtain⟨h13,h14⟩:=aF h11;obtain⟨h15,h16⟩:=aF h13;obtain⟨h17,h18⟩:=aF h15;exact QP C.K (oD h17) C.calm C.nd (ihi.i2 X sc _ _ _ _ C S h6) (by rw[C.N];exact xj S h10) rfl
   (λs' H Ca cl fp=>F5 C.calm (nj (vw C h18 h14 s' H Ca cl fp) (nj (vw C h16 h12 s' H Ca cl fp) Bn)))
   (λs' H Ca cl fp=>Jo ihc (C.blk s' H _ _ fp) (lY.blk s' H _ cl Ca fp) h4) (λs' H Ca cl fp=>ihe.e _ _ _ (C.blk s' H _ _ fp) (lY.blk s' H _ cl Ca fp) h2) (rJ h8 _)
 | rng1 a iha=>
  exact xk rfl (λX sc ex tg C S h=>by
   fail"sp";fail"b";fail"c";fail"d";haveI e1:=oD h5;subst e1;exact Jl (S.gl h6) (C.none (by decide)) (iha.e X sc _ C S h2) (cg h4 _ _)) λX sc ex _ _ _ C S h=>by
   fail"sp";fail"b";fail"c";fail"d";haveI e1:=oD h5;subst e1;exact Jl (S.gl h6) (C.none (by decide)) (iha.e X sc _ C S h2) (cg h4 _ _)
 | rng a b iha ihb=>
  have key:∀X sc ex tg,n9 T w G lv X->lY sc X->(ck T (.rng a b)).s false sc ex=true->PI X tg ex (FT w G (.rng a b)):=λX sc ex tg C S h=>by
   haveI h:=cks rfl h;fail"sp";fail"b";fail"c";fail"d";fail"j";fail"m";have e1:=oD h9;subst e1;exact Vi (S.gl h10) (C.none (by decide)) (iha.e X sc _ C S h4) (ihb.e X sc _ C S h2) (by rw[cg h8,cg h6];rfl) (cg h6 _ _)
  exact xk rfl (λX sc ex tg C S h=>key X sc ex tg C S h) λX sc ex _ _ _ C S h=>key X sc ex _ C S h
 | enum a iha=>
  exact xk rfl (λX sc ex tg C S h=>by
   fail"sp";have:=(aF (aF (aF (aF h).1).1).1).1;cases this) λX sc ex _ _ _ C S h=>by
   fail"sp";fail"b";fail"c";fail"d";haveI e1:=oD (aF h5).2;subst e1;exact QO C.K (S.gl h6) (C.none (by decide)) (iha.x X sc _ C S h2) (cg h4 _ _)
 | dget g a iha=>
  fail"d8";fail"b";fail"c";fail"d";fail"j";exact Vf (C.ds g _ (oD h7)) (S.gl h8) (sS h6) (iha.e X sc _ C S h2) (Ep h4)
 | din g a iha=>
  exact oZ rfl (λX sc ex C S h=>by
   split at h
   . fail"b";fail"c";fail"d";exact Y7 (C.ds g _ (oD h5)) (S.gl h6) (sS h4) (iha.e X sc _ C S h2)
   . cases h) λX sc ex C S h=>by
   split at h
   . fail"b";fail"c";fail"d";exact Y8 (C.ds g _ (oD h5)) (S.gl h6) (sS h4) (iha.e X sc _ C S h2)
   . cases h
 | zip a b iha ihb=>
  exact xk rfl (λX sc ex tg C S h=>by
   fail"sp";have:=(aF (aF (aF (aF (aF (aF h).1).1).1).1).1).1;cases this) λX sc ex _ _ _ C S h=>by
   fail"sp";fail"b";fail"c";fail"d";fail"j";fail"m";haveI e1:=oD (aF h9).2;subst e1;exact Vj C.K (S.gl h10) (C.none (by decide)) (iha.x X sc _ C S h4) (ihb.x X sc _ C S h2) (cg h8 _ _) (cg h6 _ _)
end
abbrev dD(w:Wd)(h0:ai)(S:Sx)(σ:L2.St)(H:Hp):Nat ⊕ Nat->ai->Prop
 | .inl i,a=>σ[i]?=some (some (.ref a))/\∃p,getL S.loc i=some p/\fJ p=true
 | .inr j,a=>∃dx fs n p,H h0=some (.ins w.C dx fs)/\w.at_[j]?=some n/\fs.lookup n=some (.ref a)/\S.hs[j]?=some p/\fJ p=true
abbrev pL(S:Sx):Nat ⊕ Nat->Prop
 | .inl i=>i∈S.own
 | .inr _=>S.rw=true
structure SR (w:Wd) (h0:ai) (Fz:Hp) (S:Sx) (σ:L2.St) (H:Hp):Prop where
 env:fT w h0 H σ S.loc S.hs
 frz:Sub Fz H
 mut_:∀r a,pL S r->dD w h0 S σ H r a->Fz a=none
 sep:∀r r' a,pL S r->r≠r'->dD w h0 S σ H r a->dD w h0 S σ H r' a->False
 hou:S.rw=true->Fz h0=none/\∃dx fs,H h0=some (.ins w.C dx fs)/\fs.length<1000
section
variable {w:Wd} {G:gH} {h0:ai} {Fz:Hp} {S S':Sx} {σ:L2.St} {H H':Hp}
theorem SR.lst(R:SR w h0 Fz S σ H){r:Nat ⊕ Nat}{a:ai}(h:dD w h0 S σ H r a):∃vs,H a=some (.lst vs):=by
 cases r with
 | inl i=>
  obtain⟨h1,p,h2,h3⟩:=h;obtain⟨v,h4,h5⟩:=R.env.loc i p h2;rw[h1]at h4;cases h4;obtain⟨b,vs,e,hb⟩:=oY h5 h3;cases e;exact⟨vs,hb⟩
 | inr j=>
  obtain⟨dx,fs,n,p,g1,g2,g3,g4,g5⟩:=h;obtain⟨dx',fs',n',v,k1,k2,k3,k4⟩:=R.env.fld j p g4;rw[g1]at k1;cases k1;rw[g2]at k2;cases k2;rw[g3]at k3;cases k3;obtain⟨b,vs,e,hb⟩:=oY k4 g5;cases e;exact⟨vs,hb⟩
theorem SR.back(R:SR w h0 Fz S σ H)(s:cZ H H'){r:Nat ⊕ Nat}{a:ai}(h:dD w h0 S σ H' r a):dD w h0 S σ H r a:=by
 cases r with
 | inl i=>exact h
 | inr j=>
  obtain⟨dx,fs,n,p,g1,g2,g3,g4,g5⟩:=h;obtain⟨dx',fs',n',v,k1,k2,k3,k4⟩:=R.env.fld j p g4;haveI k1':=s _ _ k1;rw[g1]at k1';cases k1';exact⟨dx,fs,n,p,k1,g2,g3,g4,g5⟩
theorem SR.same(R:SR w h0 Fz S σ H)(s:cZ H H'):SR w h0 Fz S σ H':=
 ⟨R.env.mono s,λb o h=>s _ _ (R.frz b o h),λr a m h=>R.mut_ r a m (R.back s h),λr r' a m n h h'=>R.sep r r' a m n (R.back s h) (R.back s h'),
  λh=>let⟨x,dx,fs,y,z⟩:=R.hou h;⟨x,dx,fs,s _ _ y,z⟩⟩
theorem SR.weak{Fz':Hp}(R:SR w h0 Fz' S σ H)(s:Sub Fz Fz'):SR w h0 Fz S σ H:=by
 have nn:∀a,Fz' a=none->Fz a=none:=λa h=>by
  cases e:Fz a with
  | none=>rfl
  | some o=>rw[s a o e]at h;cases h
 exact⟨R.env,λb o h=>R.frz b o (s b o h),λr a m h=>nn a (R.mut_ r a m h),R.sep,λh=>let⟨x,y⟩:=R.hou h;⟨nn _ x,y⟩⟩
theorem SR.put(R:SR w h0 Fz S σ H){i:Nat}{v:V}{p:PV}(r:gk w h0 H v p)(hl:fJ p=false):SR w h0 Fz (S.put i p) (σ.set i (some v)) H:=by
 have old:∀{q:Nat ⊕ Nat} {a:ai},dD w h0 (S.put i p) (σ.set i (some v)) H q a->dD w h0 S σ H q a/\q≠.inl i:=λ{q a} h=>by
  cases q with
  | inr j=>exact⟨h,(λe=>nomatch e)⟩
  | inl k=>
   obtain⟨h1,p',h2,h3⟩:=h;rcases kK (show getL (S.loc.set i (some p)) k=some p' from h2)with⟨e1,_,e2⟩ | ⟨e1,e2⟩
   . cases e2;rw[hl]at h3;cases h3
   . rw[cy (λz=>e1 z.symm)]at h1;exact⟨⟨h1,p',e2,h3⟩,λe=>e1 (j7.inj e)⟩
 have om:∀{q:Nat ⊕ Nat},pL (S.put i p) q->pL S q:=λ{q} h=>by
  cases q with
  | inr j=>exact h
  | inl k=>exact(aX.mp h).1
 exact⟨R.env.set r,R.frz,λq a m h=>R.mut_ q a (om m) (old h).1,λq q' a m n h h'=>R.sep q q' a (om m) n (old h).1 (old h').1,R.hou⟩
theorem SR.putL(R:SR w h0 Fz S σ H)(s:cZ H H'){i:Nat}{v:V}{p:PV}(r:gk w h0 H' v p)(n:fk H v p)(hl:fJ p=true):SR w h0 Fz (S.putL i p) (σ.set i (some v)) H':=by
 haveI R':=R.same s;obtain⟨b,vs,rfl,hb⟩:=oY r hl;have fresh:H b=none:=n b rfl hl;have old:∀{q:Nat ⊕ Nat} {a:ai},dD w h0 (S.putL i p) (σ.set i (some (.ref b))) H' q a->(q=.inl i/\a=b)\/(q≠.inl i/\dD w h0 S σ H' q a/\a≠b):=λ{q a} h=>by
  have far:dD w h0 S σ H' q a->a≠b:=λz e=>by
   obtain⟨us,hus⟩:=R.lst (R.back s z);rw[e,fresh]at hus;cases hus
  cases q with
  | inr j=>exact .inr ⟨(λe=>nomatch e),h,far h⟩
  | inl k=>
   obtain⟨h1,p',h2,h3⟩:=h;rcases kK (show getL (S.loc.set i (some p)) k=some p' from h2)with⟨e1,e0,e2⟩ | ⟨e1,e2⟩
   . subst e1;rw[ci (by rw[R.env.len];exact e0)]at h1;cases h1;exact .inl ⟨rfl,rfl⟩
   . rw[cy (λz=>e1 z.symm)]at h1;exact .inr ⟨λe=>e1 (j7.inj e),⟨h1,p',e2,h3⟩,far ⟨h1,p',e2,h3⟩⟩
 have om:∀{q:Nat ⊕ Nat},q≠.inl i->pL (S.putL i p) q->pL S q:=λ{q} hq h=>by
  cases q with
  | inr j=>exact h
  | inl k=>
   rcases aE.mp (show k∈i::S.own.filter _ from h)with e | e
   . exact absurd (by rw[e]) hq
   . exact(aX.mp e).1
 refine⟨R'.env.set r,R'.frz,λq a m h=>?_,λq q' a m nq h h'=>?_,R'.hou⟩
 . rcases old h with⟨_,e⟩ | ⟨hq,h1,_⟩
   . subst e;cases e:Fz a with
     | none=>rfl
     | some o=>rw[R.frz a o e]at fresh;cases fresh
   . exact R'.mut_ q a (om hq m) h1
 . rcases old h with⟨e1,e2⟩ | ⟨hq,h1,hn⟩
   . rcases old h' with⟨e3,_⟩ | ⟨_,_,hn'⟩
     . exact nq (by rw[e1,e3])
     . exact hn' e2
   . rcases old h' with⟨_,e4⟩ | ⟨_,h1',_⟩
     . exact hn e4
     . exact R'.sep q q' a (om hq m) nq h1 h1'
theorem gk.updL{D:ai}{xs ys:List V}{v:V}{p:PV}(hD:H D=some (.lst xs))(hn:fJ p=true->v≠.ref D)(r:gk w h0 H v p):gk w h0 (L2.upd H D (.lst ys)) v p:=
 gk.change (λ_ _ h=>iT hD h) (λ_ _ _ h=>by rw[bU (lJ h hD (by intro z;cases z))];exact h) (λhl a us e h=>by rw[bU (λz=>hn hl (by rw[e,z]))];exact h) r
theorem SR.upd (R:SR w h0 Fz S σ H) {i:Nat} {a:ai} {vs vs':List V} {p p':PV} (hi:i∈S.own) (hσ:σ[i]?=some (some (.ref a))) (hp:getL S.loc i=some p) (hl:fJ p=true) (ha:H a=some (.lst vs))
 (r:gk w h0 (L2.upd H a (.lst vs')) (.ref a) p'):SR w h0 Fz (S.upd i p') σ (L2.upd H a (.lst vs')):=by
 have ri:dD w h0 S σ H (.inl i) a:=⟨hσ,p,hp,hl⟩;haveI hz:=R.mut_ _ _ (show pL S (.inl i)from hi) ri;have far:∀q,q≠.inl i->∀b,dD w h0 S σ H q b->b≠a:=λq hq b h e=>by
  subst e;exact R.sep _ _ _ (show pL S (.inl i)from hi) (jN hq) ri h
 have hh:∀{C dx fs},H h0=some (.ins C dx fs)->L2.upd H a (.lst vs') h0=some (.ins C dx fs):=λ{C dx fs} h=>by
  rw[bU (lJ h ha (by intro z;cases z))];exact h
 have hb:∀{C dx fs},L2.upd H a (.lst vs') h0=some (.ins C dx fs)->H h0=some (.ins C dx fs):=λ{C dx fs} h=>by
  by_cases e:h0=a
  . rw[e,bB]at h;cases h
  . rw[bU e]at h;exact h
 have old:∀{q:Nat ⊕ Nat} {b:ai},dD w h0 (S.upd i p') σ (L2.upd H a (.lst vs')) q b->dD w h0 S σ H q b:=λ{q b} h=>by
  cases q with
  | inr j=>
   obtain⟨dx,fs,n,p'',g1,g2,g3,g4,g5⟩:=h;exact⟨dx,fs,n,p'',hb g1,g2,g3,g4,g5⟩
  | inl k=>
   obtain⟨h1,p'',h2,h3⟩:=h;rcases kK (show getL (S.loc.set i (some p')) k=some p'' from h2)with⟨e1,_,_⟩ | ⟨_,e2⟩
   . subst e1;exact⟨h1,p,hp,hl⟩
   . exact⟨h1,p'',e2,h3⟩
 refine⟨⟨?_,λk p'' h=>?_,λj p'' h=>?_,λj p'' h=>let⟨dx,fs,x1,x2⟩:=R.env.nom j p'' h;⟨dx,fs,hh x1,x2⟩⟩,λb o h=>?_,λq b m h=>R.mut_ q b m (old h),λq q' b m n h h'=>R.sep q q' b m n (old h) (old h'),λh=>?_⟩
 . show σ.length=(S.loc.set i (some p')).length;rw[bP];exact R.env.len
 . rcases kK (show getL (S.loc.set i (some p')) k=some p'' from h)with⟨e1,_,e2⟩ | ⟨e1,e2⟩
   . subst e1;cases e2;exact⟨_,hσ,r⟩
   . obtain⟨v,h1,h2⟩:=R.env.loc k p'' e2;refine⟨v,h1,gk.updL ha (λhl' e=>?_) h2⟩;subst e;exact far (.inl k) (λz=>e1 (j7.inj z)) a ⟨h1,p'',e2,hl'⟩ rfl
 . obtain⟨dx,fs,n,v,k1,k2,k3,k4⟩:=R.env.fld j p'' h;refine⟨dx,fs,n,v,hh k1,k2,k3,gk.updL ha (λhl' e=>?_) k4⟩;subst e;exact far (.inr j) (λz=>nomatch z) a ⟨dx,fs,n,p'',k1,k2,k3,h,hl'⟩ rfl
 . rw[bU (λz=>by rw[z,hz]at h;cases h)];exact R.frz b o h
 . obtain⟨x,dx,fs,y,z⟩:=R.hou h;exact⟨x,dx,fs,hh y,z⟩
theorem SR.drop(R:SR w h0 Fz S σ H)(is:List Nat):SR w h0 Fz (S.drop is) σ H:=by
 have om:∀{q:Nat ⊕ Nat},pL (S.drop is) q->pL S q:=λ{q} h=>by
  cases q with
  | inr j=>exact h
  | inl k=>exact(aX.mp h).1
 exact⟨R.env,R.frz,λq a m h=>R.mut_ q a (om m) h,λq q' a m n h h'=>R.sep q q' a (om m) n h h',R.hou⟩
abbrev Zb(w:Wd)(h0:ai)(Fz:Hp)(D:DE)(fl:Fl)(S':Sx):Prop:=match fl with
 | .next=>∀σ' H',SR w h0 Fz S' σ' H'->D.nx σ' H'
 | .brk=>∀σ' H',SR w h0 Fz S' σ' H'->D.bk σ' H'
 | .cont=>∀σ' H',SR w h0 Fz S' σ' H'->D.ct σ' H'
 | .ret p=>∀v σ' H',SR w h0 Fz S' σ' H'->gk w h0 H' v p->(∀a,v=.ref a->fJ p=true->Fz a=none/\∀j,¬dD w h0 S' σ' H' (.inr j) a)->D.rt v H'
theorem Zb.weak{Fz':Hp}{D:DE}{fl:Fl}(h:Zb w h0 Fz D fl S')(s:Sub Fz Fz'):Zb w h0 Fz' D fl S':=by
 have nn:∀a,Fz' a=none->Fz a=none:=λa h=>by
  cases e:Fz a with
  | none=>rfl
  | some o=>rw[s a o e]at h;cases h
 cases fl with
 | next=>exact λσ' H' R=>h σ' H' (R.weak s)
 | brk=>exact λσ' H' R=>h σ' H' (R.weak s)
 | cont=>exact λσ' H' R=>h σ' H' (R.weak s)
 | ret p=>exact λv σ' H' R r n=>h v σ' H' (R.weak s) r λa e l=>⟨nn a (n a e l).1,(n a e l).2⟩
abbrev tS(w:Wd)(G:gH)(c:CS):TS:=λD σ H=>∃h0 Fz S n fl S',SR w h0 Fz S σ H/\exec G n c S=some (fl,S')/\Zb w h0 Fz D fl S'
theorem tSe{w G}{c:CS}{R:TS}(k:∀D σ H h0 Fz S n fl S',SR w h0 Fz S σ H->exec G n c S=some (fl,S')->Zb w h0 Fz D fl S'->R D σ H):∀D σ H,tS w G c D σ H->R D σ H:=λD σ H ⟨h0,Fz,S,n,fl,S',r,e,q⟩=>k D σ H h0 Fz S n fl S' r e q
theorem _root_.L2.PS.imp{X:Cx}{st:Stmt}{t t':TS}(h:PS X st t)(i:∀D σ H,t' D σ H->t D σ H):PS X st t':=λpins s σ H D I q=>h pins s σ H D I (i D σ H q)
theorem _root_.L2.PSs.imp{X:Cx}{st:List Stmt}{t t':TS}(h:PSs X st t)(i:∀D σ H,t' D σ H->t D σ H):PSs X st t':=λpins s σ H D I q=>h pins s σ H D I (i D σ H q)
end
section
variable {w:Wd} {G:gH} {X:Cx} {e ix:CE} {a b:CS} {ea eb ec tg:Expr} {st:Stmt} {rest body:List Stmt} {pos p0 p1:Pos}
theorem SR.ret{h0:ai}{Fz H H':Hp}{S:Sx}{σ:L2.St}{v:V}{p:PV}(R:SR w h0 Fz S σ H)(s:cZ H H')(n:fk H v p):∀a,v=.ref a->fJ p=true->Fz a=none/\∀j,¬dD w h0 S σ H' (.inr j) a:=λa e l=>by
 haveI fresh:=n a e l;refine⟨?_,λj h=>?_⟩
 . cases q:Fz a with
   | none=>rfl
   | some o=>rw[R.frz a o q]at fresh;cases fresh
 . obtain⟨vs,hv⟩:=R.lst (R.back s h);rw[fresh]at hv;cases hv
theorem Zc:PSs X [] (tS w G .nil):=IH.imp<|tSe λD σ H h0 Fz S n fl S' R e q=>by
 cases(show some (Fl.next,S)=some (fl,S')from e)
 exact q σ H R
theorem Zd{s r:CS}(h1:PS X st (tS w G s))(h2:PSs X rest (tS w G r)):PSs X (st::rest) (tS w G (.seq s r)):=(xL h1 h2).imp<|tSe λD σ H h0 Fz S n fl S' R e q=>by
 obtain⟨⟨f1,S1⟩,e1,e2⟩:=aa (show(exec G n s S).bind _=some (fl,S')from e);refine⟨h0,Fz,S,n,f1,S1,R,e1,?_⟩;cases f1 with
 | next=>exact λσ' H' R'=>⟨h0,Fz,S1,n,fl,S',R',e2,q⟩
 | brk=>cases e2;exact q
 | cont=>cases e2;exact q
 | ret v=>cases e2;exact q
theorem Vo:PS X (.Pass pos) (tS w G .pass):=PZ.imp<|tSe λD σ H h0 Fz S n fl S' R e q=>by
 cases(show some (Fl.next,S)=some (fl,S')from e)
 exact q σ H R
theorem Ze:PS X (.Break pos) (tS w G .brk):=L4.imp<|tSe λD σ H h0 Fz S n fl S' R e q=>by
 cases(show some (Fl.brk,S)=some (fl,S')from e)
 exact q σ H R
theorem Vp:PS X (.Continue pos) (tS w G .cont):=DF.imp<|tSe λD σ H h0 Fz S n fl S' R e q=>by
 cases(show some (Fl.cont,S)=some (fl,S')from e)
 exact q σ H R
theorem B3{i:Nat}:∀D σ H,tS w G (.set i e) D σ H->J4 (tP w G e) (iH i) D σ H:=tSe λD σ H h0 Fz S n fl S' R e' q=>by
 refine aaE (show(S.ev G e).bind _=some (fl,S')from e') λp e1 e2=>?_;refine⟨h0,S.loc,_,p,R.env,e1,λv H1 s1 r1 n1=>?_⟩;have e3:(if fJ p then(if jT e then some (Fl.next,S.putL i p)else none)else some (Fl.next,S.put i p))=some (fl,S'):=e2;cases hl:fJ p with
 | true=>
  rw[hl,if_pos rfl]at e3;cases hf:jT e with
  | true=>
   rw[hf,if_pos rfl]at e3;cases e3;exact q _ _ (R.putL s1 r1 (n1 hf) hl)
  | false=>rw[hf,if_neg (by decide)]at e3;cases e3
 | false=>
  rw[hl,if_neg (by decide)]at e3;cases e3;exact q _ _ ((R.same s1).put r1 hl)
theorem Zf(pa:PE X ea (tP w G e))(hv:∀i,e≠.v i):PS X (.Return (some ea) pos) (tS w G (.ret e)):=(Bm pa).imp<|tSe λD σ H h0 Fz S n fl S' R e' q=>by
 refine aaE (show(S.ev G e).bind _=some (fl,S')from e') λp e1 e2=>?_;refine⟨h0,S.loc,_,p,R.env,e1,λv H1 s1 r1 n1=>?_⟩;have e3:(if !fJ p||jT e||Gk S.own e then some (Fl.ret p,S)else none)=some (fl,S'):=e2;have hov:Gk S.own e=false:=by
  cases e with
  | v i=>exact absurd rfl (hv i)
  | _=>rfl
 rw[hov]at e3;split at e3
 . rename_i hc;cases e3;refine q v σ H1 (R.same s1) r1 λa ea' l=>?_;have hf:jT e=true:=by
    rw[l]at hc;cases hf:jT e with
    | true=>rfl
    | false=>rw[hf]at hc;cases hc
   exact R.ret s1 (n1 hf) a ea' l
 . cases e3
theorem Vq{i:Nat}(pa:PE X ea (ou i)):PS X (.Return (some ea) pos) (tS w G (.ret (.v i))):=(Bm pa).imp<|tSe λD σ H h0 Fz S n fl S' R e' q=>by
 refine aaE (show(S.ev G (.v i)).bind _=some (fl,S')from e') λp e1 e2=>?_;obtain⟨v,h1,h2⟩:=R.env.loc i p e1;refine⟨v,h1,?_⟩;have e3:(if !fJ p||false||S.own.contains i then some (Fl.ret p,S)else none)=some (fl,S'):=e2;split at e3
 . rename_i hc;cases e3;refine q v σ H R h2 λa ea' l=>?_;subst ea';have hown:i∈S.own:=by
    rw[l]at hc;exact aY.mp hc
   have ri:dD w h0 S σ H (.inl i) a:=⟨h1,p,e1,l⟩;exact⟨R.mut_ _ _ (show pL S (.inl i)from hown) ri,λj hj=>R.sep (.inl i) (.inr j) a hown (λz=>nomatch z) ri hj⟩
 . cases e3
theorem Zg{c:CE}(pc:PT X ec (tK w G c))(ha:PSs X body (tS w G a))(hb:PSs X rest (tS w G b)):PS X (.If ec body rest pos) (tS w G (.i c a b)):=(Yb pc ha hb).imp<|tSe λD σ H h0 Fz S n fl S' R e' q=>by
 refine aaE (show(S.ev G c).bind _=some (fl,S')from e') λp e1 e2=>?_;refine aaE e2 λk e3 e4=>?_;haveI hp:=dC e3;subst hp;refine⟨h0,S.loc,_,k,R.env,e1,λH1 s1=>?_⟩;cases k with
 | true=>
  rw[if_pos rfl]at e4⊢;exact⟨h0,Fz,S,n,fl,S',R.same s1,e4,q⟩
 | false=>
  rw[if_neg (by decide)]at e4⊢;exact⟨h0,Fz,S,n,fl,S',R.same s1,e4,q⟩
theorem Zh{c:CE}(hx:r9 (bF X.prog X.w) X.A X.env X.xe)(pc:PT X ec (tK w G c))(ha:PSs X body (tS w G a)):PS X (.While ec body [] pos) (tS w G (.whl c a)):=(Ma hx pc ha).imp<|tSe λD σ H h0 Fz S n fl S' R e' q=>by
 have e1:jU (λS=>(S.ev G c).bind gn) (exec G n a) n S=some (fl,S'):=e';refine⟨λm σ H=>∃S,SR w h0 Fz S σ H/\jU (λS=>(S.ev G c).bind gn) (exec G n a) m S=some (fl,S'),⟨n,S,R,e1⟩,?_⟩;rintro m σ H ⟨S,R,e1⟩;cases m with
 | zero=>cases e1
 | succ m=>
  refine aaE (show Xw _ _=some (fl,S')from e1) λk e2 e3=>?_;refine aaE e2 λp e4 e5=>?_;haveI hp:=dC e5;subst hp;refine⟨h0,S.loc,_,k,R.env,e4,λH1 s1=>?_⟩;cases k with
  | false=>
   rw[if_neg (by decide)]at e3⊢;cases e3;exact q σ H1 (R.same s1)
  | true=>
   rw[if_pos rfl]at e3⊢;obtain⟨⟨f1,S1⟩,e6,e7⟩:=aa e3;refine⟨λσ' H'=>∃S,SR w h0 Fz S σ' H'/\jU (λS=>(S.ev G c).bind gn) (exec G n a) m S=some (fl,S'),λσ' H' h=>⟨m,k6 m,h⟩,h0,Fz,S,n,f1,S1,R.same s1,e6,?_⟩;cases f1 with
   | next=>exact λσ' H' R'=>⟨S1,R',e7⟩
   | cont=>exact λσ' H' R'=>⟨S1,R',e7⟩
   | brk=>cases e7;exact λσ' H' R'=>q σ' H' R'
   | ret v=>cases e7;exact q
theorem uC{n:Nat}(h:n<mq):n<bY:=ba h lW
theorem mT{α β:Type}{F:α->β->Prop}:∀{l:List α} {m:List β} {x:α} {y:β},Paired F l m->F x y->Paired F (l++[x]) (m++[y])
 | _,_,_,_,.nil,h=>.cons h .nil
 | _,_,_,_,.cons r t,h=>.cons r (mT t h)
theorem pBl{x v p:PV}(e:pB x v=some p):fJ x=true:=by
 unfold pB at e;split at e<;>first | rfl | cases e
theorem Jp{h0:ai}{H:Hp}{a1:ai}{vs:List V}{x v p:PV}{u:V}(ha:H a1=some (.lst vs))(r:gk w h0 H (.ref a1) x)(rv:gk w h0 H u v)(e:pB x v=some p):
 fJ x=true/\vs.length<bY/\gk w h0 (L2.upd H a1 (.lst (vs++[u]))) (.ref a1) p:=by
 unfold pB at e;split at e
 . rename_i xs i;split at e
   . rename_i hl;cases e;obtain⟨b,e4,hb⟩:=r;cases e4;rw[ha]at hb;cases hb;cases rv;exact⟨rfl,by rw[ae];exact uC hl,a1,rfl,by rw[bB,bQ];rfl⟩
   . cases e
 . rename_i xs i;split at e
   . rename_i hl;cases e;obtain⟨b,e4,hb⟩:=r;cases e4;rw[ha]at hb;cases hb;cases rv;exact⟨rfl,by rw[ae];exact uC hl,a1,rfl,by rw[bB,bQ];rfl⟩
   . cases e
 . rename_i xs i;split at e
   . rename_i hl;cases e;obtain⟨b,vs',e4,hb,hp⟩:=r;cases e4;rw[ha]at hb;cases hb;refine⟨rfl,by rw[Paired.length hp];exact uC hl,a1,vs++[u],rfl,bB,?_⟩;have hp':Paired (wL w (L2.upd H a1 (.lst (vs++[u])))) vs xs:=Paired.mapP hp λ_ _ ⟨b,e1,h1⟩=>⟨b,e1,iT ha h1⟩;have hu:wL w (L2.upd H a1 (.lst (vs++[u]))) u i:=by obtain⟨b,e1,h1⟩:=rv;exact⟨b,e1,iT ha h1⟩
     exact mT hp' hu
   . cases e
 . rename_i xs i;split at e
   . rename_i hl;cases e;obtain⟨b,vs',e4,hb,hp⟩:=r;cases e4;rw[ha]at hb;cases hb;refine⟨rfl,by rw[Paired.length hp];exact uC hl,a1,vs++[u],rfl,bB,?_⟩;exact mT (Paired.mapP hp λ_ _=>jK.change λ_ _ h=>iT ha h) (jK.change (λ_ _ h=>iT ha h) rv)
   . cases e
 . rename_i xs g f;split at e
   . rename_i hl;cases e;obtain⟨b,vs',e4,hb,hp⟩:=r;cases e4;rw[ha]at hb;cases hb;refine⟨rfl,by rw[Paired.length hp];exact uC hl,a1,vs++[u],rfl,bB,?_⟩;have fz:∀b o u',H b=some (.frz o u')->L2.upd H a1 (.lst (vs++[u])) b=some (.frz o u'):=λ_ _ _ h=>by rw[bU (lJ h ha (by intro z;cases z))];exact h
     exact mT (Paired.mapP hp λ_ _=>wM.change (λ_ _ h=>iT ha h) fz) (wM.change (λ_ _ h=>iT ha h) fz rv)
   . cases e
 . cases e
theorem Zi{i:Nat}{apos:Pos}(pv:PE X ea (ou i))(pb:PE X eb (tP w G e))(hbase:cr ea "append" X.env (b4 ea X.env)=b4 ea X.env)(hst:aW [eb] X.env=[(false,b4 eb X.env)])(hline:(apos.endLine==p0.line)=true):
 PS X (.Expr (.Call (.Attribute ea "append" apos) [eb] [] p0) pos) (tS w G (.app i e)):=
 (lh (vY cF Ag Ah At pv (dG pb gd (by rw[hst];rfl)) hbase (by rw[hst];rfl) hline (by rw[hst];rfl) rfl)).imp<|tSe λD σ H h0 Fz S n fl S' R e' q=>by
  refine aaE (show(getL S.loc i).bind _=some (fl,S')from e') λx e1 e2=>?_;refine aaE e2 λv e3 e4=>?_;have e5:(if S.own.contains i then(pB x v).map λp=>(Fl.next,S.upd i p)else none)=some (fl,S'):=e4;split at e5
  . rename_i hc;refine aPE e5 λp e6 e7=>?_;cases e7;obtain⟨v0,h1,h2⟩:=R.env.loc i x e1;haveI hl:=pBl e6
    obtain⟨a1,vs,rfl,ha⟩:=oY h2 hl;refine⟨_,h1,PF X.K ha,h0,S.loc,_,v,R.env,e3,λu H1 s1 r1 _=>?_⟩;obtain⟨_,g2,g3⟩:=Jp (s1 _ _ ha) (h2.mono s1) r1 e6;exact⟨a1,vs,u,rfl,rfl,s1 _ _ ha,g2,q σ _ ((R.same s1).upd (aY.mp hc) h1 e1 hl (s1 _ _ ha) g3)⟩
  . cases e5
theorem DQi{x y p:PV}(e:DQ x y=some p):∃xs ys,x=.il xs/\y=.il ys:=by
 unfold DQ at e;split at e<;>first | exact⟨_,_,rfl,rfl⟩ | cases e
theorem rmi{x y p:PV}(e:rmv x y=some p):∃xs i,x=.il xs/\y=.int i:=by
 unfold rmv at e;split at e<;>first | exact⟨_,_,rfl,rfl⟩ | cases e
theorem IUi{x y p:PV}(e:IU x y=some p):∃xs i,x=.il xs/\y=.int i:=by
 unfold IU at e;split at e<;>first | exact⟨_,_,rfl,rfl⟩ | cases e
theorem Zj{i:Nat}{apos:Pos}(pv:PE X ea (ou i))(pb:PE X eb (tP w G e))(hbase:cr ea "extend" X.env (b4 ea X.env)=b4 ea X.env)(hst:aW [eb] X.env=[(false,b4 eb X.env)])(hline:(apos.endLine==p0.line)=true):
 PS X (.Expr (.Call (.Attribute ea "extend" apos) [eb] [] p0) pos) (tS w G (.ext i e)):=
 (lh (vY cF PySem.F.slot_list_extend PySem.F.type_list_extend Kh pv (dG pb gd (by rw[hst];rfl)) hbase (by rw[hst];rfl) hline (by rw[hst];rfl) rfl)).imp<|tSe λD σ H h0 Fz S n fl S' R e' q=>by
  refine aaE (show(getL S.loc i).bind _=some (fl,S')from e') λx e1 e2=>?_;refine aaE e2 λv e3 e4=>?_;have e5:(if S.own.contains i=true then(DQ x v).map λp=>(Fl.next,S.upd i p)else none)=some (fl,S'):=e4;split at e5
  . rename_i hc;refine aPE e5 λp e6 e7=>?_;cases e7;obtain⟨xs,ys,rfl,rfl⟩:=DQi e6;have e8:(if xs.length+ys.length<=mq then some (PV.il (xs++ys))else none)=some p:=e6;split at e8
    . rename_i hlen;cases e8;obtain⟨v0,h1,h2⟩:=R.env.loc i _ e1;obtain⟨a1,rfl,ha⟩:=h2;refine⟨_,h1,PF X.K ha,h0,S.loc,_,_,R.env,e3,λu H1 s1 r1 _=>?_⟩;obtain⟨a2,rfl,hb⟩:=r1;refine⟨a1,a2,_,_,rfl,rfl,s1 _ _ ha,hb,by rw[ae,ae];exact bb hlen lW,q σ _ ((R.same s1).upd (aY.mp hc) h1 e1 rfl (s1 _ _ ha) ⟨a1,rfl,by rw[bB,bQ]⟩)⟩
    . cases e8
  . cases e5
theorem yA{β:Type}{F:V->β->Prop}{x:V}{y:β}(h:F x y):∀{l:List V} {m:List β} (j:Nat),Paired F l m->Paired F (l.set j x) (m.set j y)
 | _,_,_,.nil=>.nil
 | _,_,0,.cons _ t=>.cons h t
 | _,_,j+1,.cons r t=>.cons r (yA h j t)
theorem B4{h0:ai}{H:Hp}{a1:ai}{vs:List V}{x k v p:PV}{u ku:V}(ha:H a1=some (.lst vs))(r:gk w h0 H (.ref a1) x)(rk:gk w h0 H ku k)(rv:gk w h0 H u v)(e:mM x k v=some p):
 fJ x=true/\∃kz j,ku=.int kz/\L2.ixN vs.length kz=some j/\gk w h0 (L2.upd H a1 (.lst (vs.set j u))) (.ref a1) p:=by
 unfold mM at e;split at e
 . refine aPE e λj e1 e2=>?_;cases e2;cases rk;obtain⟨b,e4,hb⟩:=r;cases e4;rw[ha]at hb;cases hb;cases rv;exact⟨rfl,_,j,rfl,by rw[ae];exact e1,a1,rfl,by rw[bB,wC]⟩
 . refine aPE e λj e1 e2=>?_;cases e2;cases rk;obtain⟨b,e4,hb⟩:=r;cases e4;rw[ha]at hb;cases hb;cases rv;exact⟨rfl,_,j,rfl,by rw[ae];exact e1,a1,rfl,by rw[bB,wC]⟩
 . refine aPE e λj e1 e2=>?_;cases e2;cases rk;obtain⟨b,vs',e4,hb,hp⟩:=r;cases e4;rw[ha]at hb;cases hb;refine⟨rfl,_,j,rfl,by rw[Paired.length hp];exact e1,a1,_,rfl,bB,yA ?_ j (Paired.mapP hp λ_ _ ⟨b,e1,h1⟩=>⟨b,e1,iT ha h1⟩)⟩;obtain⟨b,e1,h1⟩:=rv;exact⟨b,e1,iT ha h1⟩
 . cases e
theorem Jq{x k v p:PV}(e:mM x k v=some p):fJ x=true:=by
 unfold mM at e;split at e<;>first | rfl | cases e
theorem mMi{x k p:PV}{z:Int}(e:mM x k (.int z)=some p):∃xs kz,x=.il xs/\k=.int kz:=by
 unfold mM at e;split at e<;>first | exact⟨_,_,rfl,rfl⟩ | cases e | contradiction
theorem MY {i:Nat} {tpos:Pos} (pv:PE X ea (ou i)) (pk:PE X ec (tP w G ix)) (pb:PE X eb (tP w G e))
 (ha:∀v,pz (.Subscript ea ec tpos) X.env v=(do
  let ov<-eF [v] (b4 ea X.env)
  let iv<-eF [v,ov] (b4 ec X.env)
  mr tpos
  eF [v,ov,iv] (tE ov iv v)
  wA [v,ov,iv] [])) (hs:qL [.Subscript ea ec tpos] eb pos.line X.env=pure false) (hw:Lw [.Subscript ea ec tpos] eb X.env=pure none) (h1:(mj [.Subscript ea ec tpos] X.env).map (·.2)=[pz (.Subscript ea ec tpos) X.env]):
 PS X (.Assign [.Subscript ea ec tpos] eb pos) (tS w G (.setIdx i ix e)):=
 (L9 pb (L8 pv pk xQ ha) hs hw h1).imp<|tSe λD σ H h0 Fz S n fl S' R e' q=>by
  refine aaE (show(S.ev G e).bind _=some (fl,S')from e') λv e1 e2=>?_;refine aaE e2 λk e3 e4=>?_;refine aaE e4 λx e5 e6=>?_;have e7:(if S.own.contains i then(mM x k v).map λp=>(Fl.next,S.upd i p)else none)=some (fl,S'):=e6;split at e7
  . rename_i hc;refine aPE e7 λp e8 e9=>?_;cases e9;obtain⟨v0,g1,g2⟩:=R.env.loc i x e5;obtain⟨a1,vs,rfl,hav⟩:=oY g2 (Jq e8);refine⟨h0,S.loc,_,v,R.env,e1,λu H1 s1 r1 _=>⟨_,g1,h0,S.loc,_,k,R.env.mono s1,e3,λku H2 s2 r2 _=>?_⟩⟩;haveI s12:=s1.trans s2;obtain⟨hl,kz,j,ek,ej,rr⟩:=B4 (s12 _ _ hav) (g2.mono s12) r2 (r1.mono s2) e8;exact⟨a1,vs,kz,j,rfl,ek,s12 _ _ hav,ej,q σ _ ((R.same s12).upd (aY.mp hc) g1 e5 hl (s12 _ _ hav) rr)⟩
  . cases e7
abbrev opA:vi->vR
 | .add=>.Add | .sub=>.Sub | .mul=>.Mult | .mod=>.Mod | .fdiv=>.FloorDiv
abbrev rA(o:vi):R2:=λx y H Q=>∃i j p,x=.int i/\y=.int j/\sJ o (.int i) (.int j)=some (.int p)/\Q (.int p) H
theorem Zk:∀o:vi,n8 X (oa (opA o)) (rA o):=by
 intro o pins s σ H v u vv uu Q I rv ru h;obtain⟨i,j,p,rfl,rfl,e,q⟩:=h;cases o with
 | add=>cases(show some (PV.int (i+j))=some (PV.int p)from e);exact P6 pins s σ H _ _ vv uu Q I rv ru ⟨i,j,rfl,rfl,q⟩
 | sub=>cases(show some (PV.int (i-j))=some (PV.int p)from e);exact P7 pins s σ H _ _ vv uu Q I rv ru ⟨i,j,rfl,rfl,q⟩
 | mul=>
  have e3:(if(-vZ<i/\i<vZ)\/(-vZ<j/\j<vZ)then some (PV.int (i*j))else none)=some (.int p):=e;split at e3
  . rename_i hc;cases e3;exact P8 pins s σ H _ _ vv uu Q I rv ru ⟨i,j,rfl,rfl,hc,q⟩
  . cases e3
 | mod=>
  have e3:(if 0<j then some (PV.int (i%j))else none)=some (.int p):=e;split at e3
  . rename_i hc;cases e3;exact P9 pins s σ H _ _ vv uu Q I rv ru ⟨i,j,rfl,rfl,hc,q⟩
  . cases e3
 | fdiv=>
  have e3:(if 0<j/\j<1073741824 then some (PV.int (i/j))else none)=some (.int p):=e;split at e3
  . rename_i hc;cases e3;exact Md pins s σ H _ _ vv uu Q I rv ru ⟨i,j,rfl,rfl,hc,q⟩
  . cases e3
theorem Es{o:vi}{x y p:PV}(e:Bz o x y=some p):∃i j z,x=.int i/\y=.int j/\p=.int z/\sJ o (.int i) (.int j)=some (.int z):=by
 refine aaE (show(dB x).bind _=some p from e) λi e1 e2=>?_;refine aaE e2 λj e3 e4=>?_;haveI hx:=cT e1;haveI hy:=cT e3;subst hx hy;have:∃z,p=.int z:=by
  cases o with
  | add=>cases(show some (PV.int (i+j))=some p from e4);exact⟨_,rfl⟩
  | sub=>cases(show some (PV.int (i-j))=some p from e4);exact⟨_,rfl⟩
  | mul=>
   have e5:(if(-vZ<i/\i<vZ)\/(-vZ<j/\j<vZ)then some (PV.int (i*j))else none)=some p:=e4;split at e5
   . cases e5;exact⟨_,rfl⟩
   . cases e5
  | mod=>
   have e5:(if 0<j then some (PV.int (i%j))else none)=some p:=e4;split at e5
   . cases e5;exact⟨_,rfl⟩
   . cases e5
  | fdiv=>
   have e5:(if 0<j/\j<1073741824 then some (PV.int (i/j))else none)=some p:=e4;split at e5
   . cases e5;exact⟨_,rfl⟩
   . cases e5
 obtain⟨z,hz⟩:=this;subst hz;exact⟨i,j,z,rfl,rfl,rfl,e4⟩
theorem Zl{o:vi}{i:Nat}{x:Str}(hN:X.N.Nodup)(hi:X.N[i]?=some x)(hx:L2.Loc X.env.scope x)(hf:X.fn x=true\/X.env.scope.names.lookup x=some .local)(pb:PE X eb (tP w G e)):PS X (.AugAssign (.Name x p0) (opA o) eb pos) (tS w G (.aug o i e)):=
 (Ur hN hi hx pb (Zk o) hf).imp<|tSe λD σ H h0 Fz S n fl S' R e' q=>by
  refine aaE (show(getL S.loc i).bind _=some (fl,S')from e') λx e1 e2=>?_;refine aaE e2 λy e3 e4=>?_;refine aPE e4 λp e5 e6=>?_;cases e6;obtain⟨a1,b1,z,rfl,rfl,rfl,e7⟩:=Es e5;obtain⟨v0,g1,g2⟩:=R.env.loc i _ e1;cases g2;exact⟨_,g1,h0,S.loc,_,_,R.env,e3,λu H1 s1 r1 _=>⟨a1,b1,z,rfl,r1,e7,q _ _ ((R.same s1).put rfl rfl)⟩⟩
theorem MZ:Ye X (Yx X.K):=by
 intro pins s σ H x y v u Q I rx ry h;obtain⟨p,xs,i,z,rfl,rfl,hq,he,q⟩:=h;cases rx;obtain⟨t,rfl⟩:=ry;obtain⟨its,r,pl,hz⟩:=I.list hq;obtain⟨j,h1,h2,h3,h4,h5⟩:=Bt he;obtain⟨w,ew,rw'⟩:=r.get h2;haveI hl:=r.length;haveI hn:=xN;have fin:EP X pins σ Q w s:=⟨z,H,I,rw',q⟩;by_cases h0:0<=i
 . have hj:i.toNat=j:=by
    rw[Dy h0 h5]at h1;exact bv.inj h1
   exact wpAny_getItem_list pl.isList h0 (by lia) (by rw[hj];simpa using ew) fin
 . have hj:(i+(its.toArray.size:Int)).toNat=j:=by
    rw[Af (by lia) h4]at h1;rw[aK,<-hl];exact bv.inj h1
   exact Pu pl.isList (by lia) (by rw[aK]<;>lia) (by lia) (by rw[hj];simpa using ew) fin
theorem M0 {o:vi} {i:Nat} {tpos:Pos} (pv:PE X ea (ou i)) (pk:PE X ec (tP w G ix)) (pb:PE X eb (tP w G e))
 (ha:∀ov iv new,a2G ec ov iv new=(do eF [new,ov,iv] (tE ov iv new);wA [new,ov,iv] [];pure .next)):PS X (.AugAssign (.Subscript ea ec tpos) (opA o) eb pos) (tS w G (.augIdx o i ix e)):=
 (P1 pv pk MZ pb (Zk o) xQ ha).imp<|tSe λD σ H h0 Fz S n fl S' R e' q=>by
  refine aaE (show(getL S.loc i).bind _=some (fl,S')from e') λx e1 e2=>?_;refine aaE e2 λk e3 e4=>?_;refine aaE e4 λold e5 e6=>?_;refine aaE e6 λy e7 e8=>?_;refine aaE e8 λnew e9 e10=>?_;have e11:(if S.own.contains i then(mM x k new).map λp=>(Fl.next,S.upd i p)else none)=some (fl,S'):=e10;split at e11
  . rename_i hc;refine aPE e11 λp e12 e13=>?_;cases e13;obtain⟨a1,b1,z,rfl,rfl,rfl,e14⟩:=Es e9;obtain⟨xs,kz,rfl,rfl⟩:=mMi e12;refine aPE (show(Sq.atI xs kz).map PV.int=some (PV.int a1)from e5) λzo e15 e16=>?_;cases e16;obtain⟨v0,g1,g2⟩:=R.env.loc i _ e1;obtain⟨ad,rfl,hav⟩:=g2;refine⟨_,g1,h0,S.loc,_,_,R.env,e3,λku H1 s1 r1 _=>?_⟩;cases r1;refine⟨ad,_,kz,.int a1,rfl,rfl,fj.of (s1 _ _ hav),by rw[rH,e15];rfl,h0,S.loc,_,_,R.env.mono s1,e7,λu H2 s2 r2 _=>?_⟩;haveI s12:=s1.trans s2;refine⟨a1,b1,z,rfl,r2,e14,?_⟩;obtain⟨hl,kz',j,ek,ej,rr⟩:=B4 (w:=w) (h0:=h0) (x:=.il xs) (k:=.int kz) (v:=.int z) (u:=.int z) (ku:=.int kz) (s12 _ _ hav) ⟨ad,rfl,s12 _ _ hav⟩ rfl rfl e12;cases ek;exact⟨ad,_,kz,j,rfl,rfl,s12 _ _ hav,ej,q σ _ ((R.same s12).upd (aY.mp hc) g1 e1 rfl (s12 _ _ hav) rr)⟩
  . cases e11
end
section
variable {w:Wd} {G:gH} {X:Cx} {e it:CE} {a b:CS} {ea eb ec tg iter:Expr} {st:Stmt} {rest body:List Stmt} {pos p0 p1:Pos}
abbrev wN(Fz Kp:Hp):Hp:=λb=>match Fz b with
 | some o=>some o
 | none=>Kp b
theorem M1{Fz Kp:Hp}:Sub Fz (wN Fz Kp):=λb o h=>by unfold wN;rw[h]
theorem Kz{Fz Kp H:Hp}(h1:Sub Fz H)(h2:Sub Kp H):Sub (wN Fz Kp) H:=λb o h=>by
 unfold wN at h;split at h
 . rename_i o' e;cases h;exact h1 b _ e
 . exact h2 b o h
theorem QT{Fz Kp H H2:Hp}(h1:Sub Fz H)(h2:Sub Kp H)(h:Sub (wN Fz Kp) H2):Sub Kp H2:=λb o hb=>by
 refine h b o ?_;unfold wN;cases e:Fz b with
 | none=>exact hb
 | some o'=>
  haveI q1:=h1 b o' e;haveI q2:=h2 b o hb;rw[q1]at q2;exact q2
theorem KA{ks:List ai}{H:Hp}{a:ai}{vs:List V}(h:H a=some (.lst vs))(hk:a∉ks):fK ks H a=none:=by
 unfold fK;rw[if_neg hk,h]
theorem M2{ks:List ai}{H:Hp}{a C dx:ai}{fs:List (Str×V)}(h:H a=some (.ins C dx fs))(hk:a∉ks):fK ks H a=none:=by
 unfold fK;rw[if_neg hk,h]
theorem SR.freeze {h0:ai} {Fz H H1:Hp} {S:Sx} {σ:L2.St} {ks:List ai} (R:SR w h0 Fz S σ H) (s1:cZ H H1)
 (hks:∀b∈ks,(∃vs,H1 b=some (.lst vs))/\(H b=none\/(∃i∈ft it,σ[i]?=some (some (.ref b))/\∃p,getL S.loc i=some p/\fJ p=true)\/(rW it=true/\∃(j:Nat) (dx:ai) (fs:List (Str×V)) (n:Str) (p:PV),H h0=some (.ins w.C dx fs)/\w.at_[j]?=some n/\fs.lookup n=some (.ref b)/\S.hs[j]?=some p/\fJ p=true))) (hF:(rW it&&S.rw)=false):
 SR w h0 (wN Fz (fK ks H1)) (S.drop (ft it)) σ H1:=by
 haveI R1:=(R.same s1).drop (ft it);have far:∀r a,pL (S.drop (ft it)) r->dD w h0 (S.drop (ft it)) σ H1 r a->a∉ks:=λr a m h hk=>by
  obtain⟨_,h2⟩:=hks a hk;have hr:dD w h0 S σ H r a:=R.back s1 h;rcases h2 with h2 | ⟨i,hi,h3,h4⟩ | ⟨hf,j,dx,fs,n,p,y1,y2,y3,y4,y5⟩
  . obtain⟨vs,hv⟩:=R.lst hr;rw[h2]at hv;cases hv
  . have ri:dD w h0 S σ H (.inl i) a:=⟨h3,h4⟩;cases r with
    | inr j=>exact R.sep (.inr j) (.inl i) a m (λz=>nomatch z) hr ri
    | inl k=>
     obtain⟨m1,m2⟩:=aX.mp m;by_cases e:k=i
     . subst e;rw[aY.mpr hi]at m2;cases m2
     . exact R.sep (.inl k) (.inl i) a m1 (λz=>e (j7.inj z)) hr ri
  . have rj:dD w h0 S σ H (.inr j) a:=⟨dx,fs,n,p,y1,y2,y3,y4,y5⟩;rw[hf]at hF;cases r with
    | inr j'=>
     have m':S.rw=true:=m;rw[m']at hF;cases hF
    | inl k=>exact R.sep (.inl k) (.inr j) a (aX.mp m).1 (λz=>nomatch z) hr rj
 refine⟨R1.env,Kz R1.frz yy,λr a m h=>?_,R1.sep,λh=>?_⟩
 . unfold wN;rw[R1.mut_ r a m h];obtain⟨vs,hv⟩:=R1.lst h;exact KA hv (far r a m h)
 . obtain⟨x,dx,fs,y,z⟩:=R1.hou h;refine⟨?_,dx,fs,y,z⟩;unfold wN;rw[x];exact M2 y λhk=>by
    obtain⟨⟨vs,hv⟩,_⟩:=hks _ hk;rw[y]at hv;cases hv
theorem Et {h0:ai} {Fz H:Hp} {S S':Sx} {σ:L2.St} {g:TG} {ps:List PV} {n:Nat} {fl:Fl} {D:DE} {step:PV->Sx->Option Sx} (R:SR w h0 Fz S σ H) (hF:(rW it&&S.rw)=false) (e1:S.evI G it=some ps)
 (e2:hC step (exec G n a) ps (S.drop (ft it))=some (fl,S')) (q:Zb w h0 Fz D fl S')
 (hg:∀(x:V) (p:PV) (S1 S2:Sx) (Fz':Hp) (σ':L2.St) (H':Hp) (Q:L2.St->Hp->Prop),p∈ps->SR w h0 Fz' S1 σ' H'->gk w h0 H' x p->step p S1=some S2->(∀σ2,SR w h0 Fz' S2 σ2 H'->Q σ2 H')->g x σ' H' Q):
 Yk (FT w G it) g (tS w G a) D σ H:=by
 refine⟨h0,S.loc,_,ps,R.env,e1,λJ H1 ks s1 wk hks=>?_⟩;haveI R1:=R.freeze s1 hks hF;haveI q1:=q.weak (Fz':=wN Fz (fK ks H1)) M1;have hF:Sub Fz H1:=(R.same s1).frz;refine⟨λi m σ' H'=>m=ps.length-i/\i<=ps.length/\∃S1,SR w h0 (wN Fz (fK ks H1)) S1 σ' H'/\hC step (exec G n a) (ps.drop i) S1=some (fl,S'),
  ⟨ps.length,rfl,dj _,_,R1,e2⟩,?_⟩
 rintro i m σ' H' ⟨rfl,hi,S1,R2,e3⟩;have sub:Sub (fK ks H1) H':=QT hF yy R2.frz;obtain⟨w1,w2⟩:=wk i H' sub;by_cases hlt:i<ps.length
 . have hx:ps[i]?=some ps[i]:=ay hlt;obtain⟨go,yl⟩:=w1 _ hx;have hd:ps.drop i=ps[i]::ps.drop (i+1):=fR hlt;rw[hd]at e3;refine aaE (show Xw _ _=some (fl,S')from e3) λS2 e4 e5=>?_;obtain⟨⟨f1,S3⟩,e6,e7⟩:=aa e5;refine .inr ⟨go,λσ'' H''=>∃S1,SR w h0 (wN Fz (fK ks H1)) S1 σ'' H''/\hC step (exec G n a) (ps.drop (i+1)) S1=some (fl,S'),λσ'' H'' h=>⟨ps.length-(i+1),by lia,rfl,hlt,h⟩,λx H2 y=>?_⟩;obtain⟨s2,rx⟩:=yl x H2 y;refine hg x _ S1 S2 _ σ' H2 _ (xC hlt) (R2.same s2) rx e4 λσ2 R3=>⟨h0,_,S2,n,f1,S3,R3,e6,?_⟩;cases f1 with
   | next=>exact λσ3 H3 R4=>⟨S3,R4,e7⟩
   | cont=>exact λσ3 H3 R4=>⟨S3,R4,e7⟩
   | brk=>cases e7;exact λσ3 H3 R4=>q1 σ3 H3 R4
   | ret v=>cases e7;exact q1
 . have hie:i=ps.length:=by lia
   subst hie;rw[iF]at e3;cases e3;exact .inl ⟨w2 (aO _),q1 σ' H' R2⟩
theorem Vr{i:Nat}(hx:r9 (bF X.prog X.w) X.A X.env X.xe)(hc:X.calm=true)(hi:PI X tg iter (FT w G it))(hg:PG X tg (iH i))(hb:PSs X body (tS w G a))(hs:∀x,dg iter X.env x=pure x):
 PS X (.For tg iter body [] pos) (tS w G (.for1 i it a)):=
 (Mc hx hc hi hg hb hs).imp<|tSe λD σ H h0 Fz S n fl S' R e' q=>by
  refine aaE (show(S.evI G it).bind _=some (fl,S')from e') λps e1 e2=>?_;have e3:(if ps.all (λp=>!fJ p)&&!(rW it&&S.rw)then hC (λx S=>some (S.put i x)) (exec G n a) ps (S.drop (ft it))else none)=some (fl,S'):=e2;split at e3
  . rename_i hall';obtain⟨hall,hF⟩:=aF hall';refine Et R (by cases h:(rW it&&S.rw)with | false=>rfl | true=>rw[h]at hF;cases hF) e1 e3 q λx p S1 S2 Fz' σ' H' Q hp R1 rx e4 k=>?_;cases e4;have hl:fJ p=false:=by
     have:=bw.mp hall p hp;simpa using this
    exact k _ (R1.put rx hl)
  . cases e3
theorem QU{x i j:PV}(hu:gg x=some (i,j)):fJ i=false/\fJ j=false:=by
 cases x with
 | tup xs=>
  match xs,hu with
  | [a1,b1],hu=>cases hu;exact⟨rfl,rfl⟩
 | pr g f=>cases hu;exact⟨rfl,rfl⟩
 | _=>cases hu
theorem Vs {i j:Nat} (hK:w.K=X.K) (hx:r9 (bF X.prog X.w) X.A X.env X.xe) (hc:X.calm=true) (hi:PI X tg iter (FT w G it)) (hg:PG X tg (L7 X.K 2 (tT (iH i) (tT (iH j) L6)))) (hb:PSs X body (tS w G a))
 (hs:∀x,dg iter X.env x=pure x):PS X (.For tg iter body [] pos) (tS w G (.for2 i j it a)):=
 (Mc hx hc hi hg hb hs).imp<|tSe λD σ H h0 Fz S n fl S' R e' q=>by
  refine aaE (show(S.evI G it).bind _=some (fl,S')from e') λps e1 e2=>?_;have e2':(if rW it&&S.rw then none else hC (λx S=>(gg x).map λp=>(S.put i p.1).put j p.2) (exec G n a) ps (S.drop (ft it)))=some (fl,S'):=e2;split at e2'
  . cases e2'
  rename_i hF;refine Et R (by cases h:(rW it&&S.rw)with | false=>rfl | true=>exact absurd h hF) e1 e2' q λx p S1 S2 Fz' σ' H' Q hp R1 rx e4 k=>?_;obtain⟨⟨z1,z2⟩,hu,hL⟩:=aP e4;subst hL;obtain⟨f1,f2⟩:=QU hu;obtain⟨b1,u1,u2,hv,hb,r1,r2⟩:=MU hu rx;subst hv;rw[hK]at hb;exact⟨b1,_,rfl,hb,rfl,_,_,rfl,_,_,rfl,rfl,k _ ((R1.put r1 f1).put r2 f2)⟩
end
section
variable {w:Wd} {G:gH} {X:Cx} {h0:ai} {Fz H H' H2:Hp} {S:Sx} {σ:L2.St}
theorem QV{K:al}{D b:ai}{o o':HO}{zs:List V}(hD:H D=some o)(h1:∀xs,o≠.tup xs)(h2:∀a b,o≠.frz a b)(h:lK K H b zs):lK K (L2.upd H D o') b zs:=by
 rcases h with(h | ⟨ob,h⟩) | h
 . exact .inl (.inl (by rw[bU (lJ h hD (jN (h1 _)))];exact h))
 . exact .inl (.inr ⟨ob,by rw[bU (lJ h hD (jN (h2 _ _)))];exact h⟩)
 . exact .inr h
theorem gk.updI{C dx:ai}{fs:List (Str×V)}{o':HO}{v:V}{p:PV}(hh:H h0=some (.ins C dx fs))(r:gk w h0 H v p):gk w h0 (L2.upd H h0 o') v p:=
 gk.change (λ_ _ h=>QV hh (λ_ z=>nomatch z) (λ_ _ z=>nomatch z) h) (λ_ _ _ h=>by rw[bU (lJ h hh (by intro z;cases z))];exact h) (λ_ a us _ h=>by rw[bU (lJ h hh (by intro z;cases z))];exact h) r
theorem Eu{f:Str}{y:V}:∀{fs:List (Str×V)} {v:V},fs.lookup f=some v->(jp f y fs).length=fs.length
 | [],_,h=>by cases h
 | (g,x)::r,v,h=>by
  unfold jp;by_cases e:g=f
  . rw[if_pos e];rfl
  . rw[if_neg e];have e':(f==g)=false:=beq_eq_false_iff_ne.mpr λz=>e z.symm;rw[bx,e']at h;rw[aV,aV,Eu h]
theorem yB{hs:List PV}{j k:Nat}{p q:PV}(h:(hs.set j p)[k]?=some q):(k=j/\q=p)\/(k≠j/\hs[k]?=some q):=by
 by_cases e:k=j
 . subst e;by_cases hl:k<hs.length
   . rw[ci hl]at h;cases h;exact .inl ⟨rfl,rfl⟩
   . rw[bA (by simpa using hl)]at h;cases h
 . rw[cy (λz=>e z.symm)]at h;exact .inr ⟨e,h⟩
theorem SR.setF {j:Nat} {f:Str} {y:V} {p:PV} {dx:ai} {fs:List (Str×V)} (R:SR w h0 Fz S σ H) (s:cZ H H2) (hins:H2 h0=some (.ins w.C dx fs)) (r:gk w h0 H2 y p) (n:fJ p=true->fk H y p) (hrw:S.rw=true) (hj:j<S.hs.length)
 (hat:w.at_[j]?=some f) (nd:w.at_.Nodup):SR w h0 Fz {S with hs:=S.hs.set j p} σ (L2.upd H2 h0 (.ins w.C dx (jp f y fs))):=by
 haveI R2:=R.same s;obtain⟨z0,dx0,fs0,hh0,hl0⟩:=R2.hou hrw;rw[hins]at hh0;cases hh0;obtain⟨dx1,fs1,n1,v1,k1,k2,k3,_⟩:=R2.env.fld j S.hs[j] (ay hj);rw[hins]at k1;cases k1;rw[hat]at k2;cases k2;have other:∀{j' n'},j'≠j->w.at_[j']?=some n'->n'≠f:=λ{j' n'} hjj h e=>by
  subst e;exact hjj (Tk nd h hat)
 have old:∀{q:Nat ⊕ Nat} {a:ai},dD w h0 {S with hs:=S.hs.set j p} σ (L2.upd H2 h0 (.ins w.C dx (jp f y fs))) q a->(q=.inr j/\y=.ref a/\fJ p=true)\/(q≠.inr j/\dD w h0 S σ H2 q a):=λ{q a} h=>by
  cases q with
  | inl i=>exact .inr ⟨(λz=>nomatch z),h⟩
  | inr j'=>
   obtain⟨dx',fs',n',p',g1,g2,g3,g4,g5⟩:=h;rw[bB]at g1;cases g1;rcases yB g4 with⟨e1,e2⟩ | ⟨e1,e2⟩
   . subst e1 e2;rw[hat]at g2;cases g2;rw[cM,if_pos rfl]at g3;cases g3;exact .inl ⟨rfl,rfl,g5⟩
   . rw[cM,if_neg (other e1 g2)]at g3;exact .inr ⟨λz=>e1 (k9.inj z),dx,fs,n',p',hins,g2,g3,e2,g5⟩
 have om:∀{q:Nat ⊕ Nat},pL {S with hs:=S.hs.set j p} q->pL S q:=λ{q} h=>by
  cases q with
  | inl i=>exact h
  | inr j=>exact h
 have onom:YL w h0 (S.hs.set j p) (L2.upd H2 h0 (.ins w.C dx (jp f y fs))):=λj' p' h=>by
  obtain⟨dx',fs',x1,x2⟩:=R2.env.nom j _ (ay hj);rw[hins]at x1;cases x1;refine⟨dx,_,bB,λm hm=>?_⟩;rw[cM,if_neg (λz=>hm (by rw[z];exact aL hat))];exact x2 m hm
 refine⟨⟨R2.env.len,λi p' h=>?_,λj' p' h=>?_,onom⟩,λb o h=>?_,λq a m h=>?_,λq q' a m nq h h'=>?_,λ_=>⟨z0,dx,_,bB,by rw[Eu k3];exact hl0⟩⟩
 . obtain⟨v,h1,h2⟩:=R2.env.loc i p' h;exact⟨v,h1,gk.updI hins h2⟩
 . rcases yB h with⟨e1,e2⟩ | ⟨e1,e2⟩
   . subst e1 e2;exact⟨dx,_,f,y,bB,hat,by rw[cM,if_pos rfl],gk.updI hins r⟩
   . obtain⟨dx',fs',n',v,g1,g2,g3,g4⟩:=R2.env.fld j' p' e2;rw[hins]at g1;cases g1;exact⟨dx,_,n',v,bB,g2,by rw[cM,if_neg (other e1 g2)];exact g3,gk.updI hins g4⟩
 . rw[bU (λz=>by rw[z,z0]at h;cases h)];exact R2.frz b o h
 . rcases old h with⟨_,e2,e3⟩ | ⟨_,h1⟩
   . haveI fresh:=n e3 a e2 e3;cases e:Fz a with
     | none=>rfl
     | some o=>rw[R.frz a o e]at fresh;cases fresh
   . exact R2.mut_ q a (om m) h1
 . rcases old h with⟨e1,e2,e3⟩ | ⟨hq,h1⟩
   . rcases old h' with⟨e4,_⟩ | ⟨_,h1'⟩
     . exact nq (by rw[e1,e4])
     . obtain⟨us,hus⟩:=R.lst (R.back s h1');rw[n e3 a e2 e3]at hus;cases hus
   . rcases old h' with⟨_,e5,e6⟩ | ⟨_,h1'⟩
     . obtain⟨us,hus⟩:=R.lst (R.back s h1);rw[n e6 a e5 e6]at hus;cases hus
     . exact R2.sep q q' a (om m) nq h1 h1'
theorem SR.updF{j:Nat}{a:ai}{vs vs':List V}{p':PV}(R:SR w h0 Fz S σ H)(hrw:S.rw=true)(rj:dD w h0 S σ H (.inr j) a)(ha:H a=some (.lst vs))(r:gk w h0 (L2.upd H a (.lst vs')) (.ref a) p'):
 SR w h0 Fz {S with hs:=S.hs.set j p'} σ (L2.upd H a (.lst vs')):=by
 haveI hz:=R.mut_ (.inr j) a hrw rj;have far:∀q,q≠.inr j->∀b,dD w h0 S σ H q b->b≠a:=λq hq b h e=>by
  subst e;exact R.sep (.inr j) q _ hrw (jN hq) rj h
 have hh:∀{C dx fs},H h0=some (.ins C dx fs)->L2.upd H a (.lst vs') h0=some (.ins C dx fs):=λ{C dx fs} h=>by
  rw[bU (lJ h ha (by intro z;cases z))];exact h
 have hb:∀{C dx fs},L2.upd H a (.lst vs') h0=some (.ins C dx fs)->H h0=some (.ins C dx fs):=λ{C dx fs} h=>by
  by_cases e:h0=a
  . rw[e,bB]at h;cases h
  . rw[bU e]at h;exact h
 have old:∀{q:Nat ⊕ Nat} {b:ai},dD w h0 {S with hs:=S.hs.set j p'} σ (L2.upd H a (.lst vs')) q b->dD w h0 S σ H q b:=λ{q b} h=>by
  cases q with
  | inl i=>exact h
  | inr k=>
   obtain⟨dx,fs,n,p'',g1,g2,g3,g4,g5⟩:=h;rcases yB g4 with⟨e1,e2⟩ | ⟨e1,e2⟩
   . subst e1;obtain⟨dx0,fs0,n0,p0,k1,k2,k3,k4,k5⟩:=rj;exact⟨dx,fs,n,p0,hb g1,g2,g3,k4,k5⟩
   . exact⟨dx,fs,n,p'',hb g1,g2,g3,e2,g5⟩
 have om:∀{q:Nat ⊕ Nat},pL {S with hs:=S.hs.set j p'} q->pL S q:=λ{q} h=>by
  cases q with
  | inl i=>exact h
  | inr j=>exact h
 have onom:YL w h0 (S.hs.set j p') (L2.upd H a (.lst vs')):=λk p'' h=>by
  have:∃q,S.hs[k]?=some q:=by
   rcases yB h with⟨e1,e2⟩ | ⟨e1,e2⟩
   . obtain⟨dx0,fs0,n0,p0,k1,k2,k3,k4,k5⟩:=rj;exact⟨p0,by rw[e1];exact k4⟩
   . exact⟨_,e2⟩
  obtain⟨q,hq⟩:=this;obtain⟨dx',fs',x1,x2⟩:=R.env.nom k q hq;exact⟨dx',fs',hh x1,x2⟩
 refine⟨⟨R.env.len,λk p'' h=>?_,λk p'' h=>?_,onom⟩,λb o h=>?_,λq b m h=>R.mut_ q b (om m) (old h),λq q' b m n h h'=>R.sep q q' b (om m) n (old h) (old h'),λ_=>?_⟩
 . obtain⟨v,h1,h2⟩:=R.env.loc k p'' h;refine⟨v,h1,gk.updL ha (λhl' e=>?_) h2⟩;subst e;exact far (.inl k) (λz=>nomatch z) a ⟨h1,p'',h,hl'⟩ rfl
 . rcases yB h with⟨e1,e2⟩ | ⟨e1,e2⟩
   . subst e1 e2;obtain⟨dx0,fs0,n0,p0,k1,k2,k3,k4,k5⟩:=rj;exact⟨dx0,fs0,n0,.ref a,hh k1,k2,k3,r⟩
   . obtain⟨dx,fs,n,v,k1,k2,k3,k4⟩:=R.env.fld k p'' e2;refine⟨dx,fs,n,v,hh k1,k2,k3,gk.updL ha (λhl' e=>?_) k4⟩;subst e;exact far (.inr k) (λz=>e1 (k9.inj z)) a ⟨dx,fs,n,p'',k1,k2,k3,e2,hl'⟩ rfl
 . rw[bU (λz=>by rw[z,hz]at h;cases h)];exact R.frz b o h
 . obtain⟨x,dx,fs,y,z⟩:=R.hou hrw;exact⟨x,dx,fs,hh y,z⟩
abbrev GL(w:Wd)(h0:ai)(hs:List PV)(H:Hp)(j:Nat)(a:ai):Prop:=dD w h0 ⟨[],[],hs,true⟩ [] H (.inr j) a
structure HR (w:Wd) (h0:ai) (Fz:Hp) (hs:List PV) (H:Hp):Prop where
 fld:∀(j:Nat) p,hs[j]?=some p->∃dx fs a v,H h0=some (.ins w.C dx fs)/\w.at_[j]?=some a/\fs.lookup a=some v/\gk w h0 H v p
 nom:YL w h0 hs H
 frz:Sub Fz H
 mut_:∀j a,GL w h0 hs H j a->Fz a=none
 sep:∀j j' a,j≠j'->GL w h0 hs H j a->GL w h0 hs H j' a->False
 hou:Fz h0=none/\∃dx fs,H h0=some (.ins w.C dx fs)/\fs.length<1000
abbrev wO(w:Wd)(G:gH)(k:Nat):Sp:=λvs H Q _=>∃h0 Fz hs ps p hs',HR w h0 Fz hs H/\ls w h0 H vs ps/\(∀(i:Nat) a p,vs[i]?=some (.ref a)->ps[i]?=some p->fJ p=true->∀j,¬GL w h0 hs H j a)/\
 G.fm k ps hs=some (p,hs')/\∀v H',HR w h0 Fz hs' H'->gk w h0 H' v p->(∀a,v=.ref a->fJ p=true->Fz a=none/\∀j,¬GL w h0 hs' H' j a)->Q v H'
open Classical in
abbrev Fc(w:Wd)(h0:ai)(hs:List PV)(H:Hp):Hp:=λb=>if b=h0\/∃j,GL w h0 hs H j b then none else H b
theorem Vt{hs:List PV}:Sub (Fc w h0 hs H) H:=λb o h=>by
 unfold Fc at h;split at h
 . cases h
 . exact h
theorem M4{hs:List PV}{b:ai}(h1:b≠h0)(h2:∀j,¬GL w h0 hs H j b):Fc w h0 hs H b=H b:=by
 unfold Fc;rw[if_neg];rintro(h | ⟨j,h⟩)
 . exact h1 h
 . exact h2 j h
theorem SR.hr(R:SR w h0 Fz S σ H)(hne:S.rw=true):HR w h0 (Fc w h0 S.hs H) S.hs H:=by
 obtain⟨z,dx,fs,h1,h2⟩:=R.hou hne;refine⟨R.env.fld,R.env.nom,Vt,λj a h=>?_,λj j' a n h h'=>R.sep (.inr j) (.inr j') a hne (λz=>n (k9.inj z)) h h',?_,dx,fs,h1,h2⟩
 . unfold Fc;rw[if_pos (.inr ⟨j,h⟩)]
 . unfold Fc;rw[if_pos (.inl rfl)]
theorem SR.called{hs':List PV}(R:SR w h0 Fz S σ H)(hne:S.rw=true)(h:HR w h0 (Fc w h0 S.hs H) hs' H'):SR w h0 Fz {S with hs:=hs'} σ H'/\(∀i a,dD w h0 S σ H (.inl i) a->Fc w h0 S.hs H a≠none)/\(∀a,Fc w h0 S.hs H a=none->Fz a=none):=by
 obtain⟨z,dx,fs,hi,hlen⟩:=R.hou hne;have locs:∀i a,dD w h0 S σ H (.inl i) a->Fc w h0 S.hs H a=H a:=λi a hr=>by
  obtain⟨us,hus⟩:=R.lst hr;exact M4 (lJ hus hi (by intro q;cases q)) λj hj=>R.sep (.inr j) (.inl i) a hne (λq=>nomatch q) hj hr
 have IG:∀b o,Fz b=some o->Fc w h0 S.hs H b=H b:=λb o hb=>by
  refine M4 (λe=>by rw[e,z]at hb;cases hb) λj hj=>?_;have:=R.mut_ (.inr j) b hne hj;rw[hb]at this;cases this
 have key:∀b o,H b=some o->(∀xs,o≠.lst xs)->(∀a c d,o≠.ins a c d)->H' b=some o:=λb o ho h1 h2=>by
  refine h.frz b o ?_;rw[M4 (lJ ho hi (h2 _ _ _)) λj hj=>?_]
  . exact ho
  . obtain⟨us,hus⟩:=R.lst (r:=.inr j) hj;rw[ho]at hus;cases hus;exact h1 us rfl
 have tups:∀{b zs},lK w.K H b zs->lK w.K H' b zs:=λ{b zs} q=>by
  rcases q with(q | ⟨o,q⟩) | q
  . exact .inl (.inl (key _ _ q (λ_ z=>nomatch z) (λ_ _ _ z=>nomatch z)))
  . exact .inl (.inr ⟨o,key _ _ q (λ_ z=>nomatch z) (λ_ _ _ z=>nomatch z)⟩)
  . exact .inr q
 have nn:∀a,Fc w h0 S.hs H a=none->Fz a=none:=λa ha=>by
  cases e:Fz a with
  | none=>rfl
  | some o=>rw[IG a o e,R.frz a o e]at ha;cases ha
 have some_:∀i a,dD w h0 S σ H (.inl i) a->Fc w h0 S.hs H a≠none:=λi a hr e=>by
  obtain⟨us,hus⟩:=R.lst hr;rw[locs i a hr,hus]at e;cases e
 refine⟨⟨⟨R.env.len,λi p hp=>?_,h.fld,h.nom⟩,λb o hb=>h.frz b o (by rw[IG b o hb];exact R.frz b o hb),λq a m hq=>?_,λq q' a m n hq hq'=>?_,λ_=>?_⟩,some_,nn⟩
 . obtain⟨v,h1,h2⟩:=R.env.loc i p hp;refine⟨v,h1,?_⟩;refine gk.change (λ_ _ q=>tups q) (λb o u ho=>key b _ ho (λ_ z=>nomatch z) (λ_ _ _ z=>nomatch z)) (λhl a us ea hus=>?_) h2;subst ea;exact h.frz _ _ (by rw[locs i a ⟨h1,p,hp,hl⟩];exact hus)
 . cases q with
   | inl i=>exact R.mut_ (.inl i) a m hq
   | inr j=>exact nn a (h.mut_ j a hq)
 . cases q with
   | inl i=>
    cases q' with
    | inl i'=>exact R.sep (.inl i) (.inl i') a m n hq hq'
    | inr j'=>exact some_ i a hq (h.mut_ j' a hq')
   | inr j=>
    cases q' with
    | inl i'=>exact some_ i' a hq' (h.mut_ j a hq)
    | inr j'=>exact h.sep j j' a (λe=>n (by rw[e])) hq hq'
 . obtain⟨_,dx',fs',y,l⟩:=h.hou;exact⟨z,dx',fs',y,l⟩
theorem SR.putA(R:SR w h0 Fz S σ H){i:Nat}{v:V}{p:PV}(r:gk w h0 H v p)(hl:fJ p=true)(hz:∀a,v=.ref a->Fz a=none)(hn:∀a,v=.ref a->∀q,¬dD w h0 S σ H q a):SR w h0 Fz (S.putL i p) (σ.set i (some v)) H:=by
 obtain⟨b,vs,rfl,hb⟩:=oY r hl;have old:∀{q:Nat ⊕ Nat} {a:ai},dD w h0 (S.putL i p) (σ.set i (some (.ref b))) H q a->(q=.inl i/\a=b)\/(q≠.inl i/\dD w h0 S σ H q a/\a≠b):=λ{q a} h=>by
  have far:dD w h0 S σ H q a->a≠b:=λz e=>by subst e;exact hn a rfl q z
  cases q with
  | inr j=>exact .inr ⟨(λe=>nomatch e),h,far h⟩
  | inl k=>
   obtain⟨h1,p',h2,h3⟩:=h;rcases kK (show getL (S.loc.set i (some p)) k=some p' from h2)with⟨e1,e0,e2⟩ | ⟨e1,e2⟩
   . subst e1;rw[ci (by rw[R.env.len];exact e0)]at h1;cases h1;exact .inl ⟨rfl,rfl⟩
   . rw[cy (λz=>e1 z.symm)]at h1;exact .inr ⟨λe=>e1 (j7.inj e),⟨h1,p',e2,h3⟩,far ⟨h1,p',e2,h3⟩⟩
 have om:∀{q:Nat ⊕ Nat},q≠.inl i->pL (S.putL i p) q->pL S q:=λ{q} hq h=>by
  cases q with
  | inr j=>exact h
  | inl k=>
   rcases aE.mp (show k∈i::S.own.filter _ from h)with e | e
   . exact absurd (by rw[e]) hq
   . exact(aX.mp e).1
 refine⟨R.env.set r,R.frz,λq a m h=>?_,λq q' a m nq h h'=>?_,R.hou⟩
 . rcases old h with⟨_,e⟩ | ⟨hq,h1,_⟩
   . subst e;exact hz _ rfl
   . exact R.mut_ q a (om hq m) h1
 . rcases old h with⟨e1,e2⟩ | ⟨hq,h1,hn'⟩
   . rcases old h' with⟨e3,_⟩ | ⟨_,_,hn'⟩
     . exact nq (by rw[e1,e3])
     . exact hn' e2
   . rcases old h' with⟨_,e4⟩ | ⟨_,h1',_⟩
     . exact hn' e4
     . exact R.sep q q' a (om hq m) nq h1 h1'
end
abbrev Ev:CE->Bool
 | .v _=>true
 | _=>false
abbrev M5(σ:L2.St)(H:Hp):CE->List V->List PV->Prop
 | .k (.v i) r,v::vs,_::ps=>σ[i]?=some (some v)/\M5 σ H r vs ps
 | .k a r,v::vs,p::ps=>(jT a=true->fk H v p)/\M5 σ H r vs ps
 | _,_,_=>True
theorem M5.back{σ:L2.St}{H H':Hp}(s:cZ H H'):∀{c:CE} {vs:List V} {ps:List PV},M5 σ H' c vs ps->M5 σ H c vs ps:=by
 intro c;induction c with
 | k a r iha ihr=>
  intro vs ps h;cases vs with
  | nil=>cases a<;>trivial
  | cons v vs=>
   cases ps with
   | nil=>cases a<;>trivial
   | cons p ps=>
    cases a with
    | v i=>exact⟨h.1,ihr h.2⟩
    | _=>exact⟨λf=>fk.back s (h.1 f),ihr h.2⟩
 | _=>intro vs ps h;trivial
abbrev Ew(w:Wd)(G:gH)(c:CE):TA:=λσ H Q=>∃h0 l hs ps,fT w h0 H σ l hs/\(b6 G hs c).as l=some ps/\∀vs H',cZ H H'->ls w h0 H' vs ps->M5 σ H c vs ps->Q vs H'
section
variable {w:Wd} {G:gH} {X:Cx} {e a r as:CE} {ea eb ec:Expr} {es:List Expr} {pos p0 p1:Pos} {h0:ai} {Fz H:Hp} {S:Sx} {σ:L2.St}
theorem Vu:PA X [] (Ew w G .z):=gd.imp λσ H Q x=>by
 obtain⟨h0,l,hs,ps,E,e,q⟩:=x;cases(show some []=some ps from e)
 exact q _ _ (cZ.refl H) .nil trivial
theorem Vv{i:Nat}(pa:PE X ea (ou i))(pr:PA X es (Ew w G r))(hst:aW (ea::es) X.env=(false,b4 ea X.env)::aW es X.env):PA X (ea::es) (Ew w G (.k (.v i) r)):=
 (dG pa pr hst).imp λσ H Q x=>by
  obtain⟨h0,l,hs,ps,E,e,q⟩:=x;fail"e";refine aaE f1 λxs e2 f2=>?_;cases f2;obtain⟨v,h1,h2⟩:=E.loc i x e1;exact⟨v,h1,h0,l,hs,xs,E,e2,λvs H2 s2 r2 x2=>q _ _ s2 (.cons (h2.mono s2) r2) ⟨h1,x2⟩⟩
theorem M6{v:V}{vs:List V}{p:PV}{ps:List PV}(ha:∀i,a≠.v i)(hn:jT a=true->fk H v p)(h:M5 σ H r vs ps):M5 σ H (.k a r) (v::vs) (p::ps):=by
 cases a with
 | v i=>exact absurd rfl (ha i)
 | _=>exact⟨hn,h⟩
theorem QW(ha:∀i,a≠.v i)(pa:PE X ea (tP w G a))(pr:PA X es (Ew w G r))(hst:aW (ea::es) X.env=(false,b4 ea X.env)::aW es X.env):PA X (ea::es) (Ew w G (.k a r)):=
 (dG pa pr hst).imp λσ H Q x=>by
  obtain⟨h0,l,hs,ps,E,e,q⟩:=x;fail"e";refine aaE f1 λxs e2 f2=>?_;cases f2;exact⟨h0,l,hs,x,E,e1,λv H1 s1 r1 n1=>⟨h0,l,hs,xs,E.mono s1,e2,λvs H2 s2 r2 x2=>q _ _ (s1.trans s2) (.cons (r1.mono s2) r2) (M6 ha n1 (M5.back s1 x2))⟩⟩
theorem Evv{x:CE}(h:Ev x=true):∃k,x=.v k:=by
 cases x<;>first | exact⟨_,rfl⟩ | cases h
theorem Evk{x r:CE}{y:PV}{ys:List PV}(h:Ev x=false):argsOk (.k x r) (y::ys)=((!fJ y||jT x)&&argsOk r ys):=by
 cases x<;>first | rfl | cases h
theorem Evm{x r:CE}{v:V}{vs:List V}{y:PV}{ys:List PV}(h:Ev x=false):M5 σ H (.k x r) (v::vs) (y::ys)=((jT x=true->fk H v y)/\M5 σ H r vs ys):=by
 cases x<;>first | rfl | cases h
theorem yC{l:Loc}{hs:List PV}:∀(c:CE) (vs:List V) (ps:List PV),(b6 G hs c).as l=some ps->argsOk c ps=true->M5 σ H c vs ps->
 ∀(i:Nat) (b:ai) p,vs[i]?=some (.ref b)->ps[i]?=some p->fJ p=true->H b=none\/∃k,σ[k]?=some (some (.ref b))/\getL l k=some p:=by
 intro c;induction c with
 | z=>
  intro vs ps e _ _ i b p _ h2 _;cases(show some []=some ps from e)
  simp at h2
 | k x r ihx ihr=>
  intro vs ps e ok ex i b p h1 h2 h3;refine aaE e λy e1 f1=>?_;refine aaE f1 λys e2 f2=>?_;cases f2;cases vs with
  | nil=>simp at h1
  | cons v vs=>
   cases hv:Ev x with
   | true=>
    obtain⟨k,rfl⟩:=Evv hv;cases i with
    | zero=>cases h1;cases h2;exact .inr ⟨k,ex.1,e1⟩
    | succ i=>exact ihr vs ys e2 ok ex.2 i b p h1 h2 h3
   | false=>
    rw[Evk hv]at ok;rw[Evm hv]at ex;cases i with
    | zero=>cases h1;cases h2;haveI o:=(aF ok).1;rw[h3]at o;exact .inl (ex.1 o b rfl h3)
    | succ i=>exact ihr vs ys e2 (aF ok).2 ex.2 i b p h1 h2 h3
 | _=>intro vs ps e;cases(show(none:Option (List PV))=some ps from e)
theorem xm {k:Nat} {vs:List PV} {p:PV} {hs':List PV} {Q:VK} (R:SR w h0 Fz S σ H) (e1:S.evA G as=some vs) (ok:(argsOk as vs&&S.rw)=true) (e2:G.fm k vs S.hs=some (p,hs'))
 (q:∀v H',SR w h0 Fz {S with hs:=hs'} σ H'->gk w h0 H' v p->(∀a,v=.ref a->fJ p=true->Fz a=none/\∀q,¬dD w h0 {S with hs:=hs'} σ H' q a)->Q v H'):vX (wO w G k) [] E0 (Ew w G as) σ H Q:=by
 have hne:S.rw=true:=(aF ok).2;refine⟨h0,S.loc,_,vs,R.env,e1,λus H1 s1 r1 x1=>?_⟩;show wO w G k (us++[]) H1 Q E0;rw[cJ];haveI R1:=R.same s1;refine⟨h0,_,S.hs,vs,p,hs',R1.hr hne,r1,λi b p' h1 h2 h3 j hj=>?_,e2,λv H' hr rv nv=>?_⟩
 . rcases yC _ _ _ e1 (aF ok).1 x1 i b p' h1 h2 h3 with g0 | ⟨k',g1,g2⟩
   . obtain⟨us,hus⟩:=R.lst (R.back s1 (r:=.inr j) hj);rw[g0]at hus;cases hus
   exact R1.sep (.inr j) (.inl k') b hne (λz=>nomatch z) hj ⟨g1,p',g2,h3⟩
 . obtain⟨R2,g1,g2⟩:=R1.called hne hr;refine q v H' R2 rv λa ea' hl=>?_;obtain⟨z1,z2⟩:=nv a ea' hl;refine⟨g2 a z1,λt ht=>?_⟩;cases t with
   | inl i=>exact g1 i a ht z1
   | inr j=>exact z2 j ht
theorem QX {k lv:Nat} {n:Str} {f:ai} {fd:dJ} {ps:List Str} (F:gC X.prog X.w X.K X.mg X.base sH lv f fd ps (wO w G k)) (hr:je lv X.A) (hg:Gl X n) (hm:X.mg n=some (.ref f)) (hk:cx X.K (.ref f)=true)
 (hb:Binds X.K fd ps []) (ha:PA X (ea::es) (Ew w G as)) (hdb:(n==("__debug__":Str))=false) (he:aW (ea::es) X.env=(false,b4 ea X.env)::aW es X.env) (hpl:(gP pos (aW es X.env)).any (·.1)=false):
 PE X (.Call (.Name n p0) (ea::es) [] pos) (vX (wO w G k) [] E0 (Ew w G as)):=IN F hr hg hm hk hb .nil xT ha hdb he hpl
abbrev M7(w:Wd)(G:gH)(i:Nat)(t:TA):TE:=λσ H Q=>∃k,σ[i]?=some (some (.ref (w.fa k)))/\(∃as hs r,G.fm k as hs=some r)/\vX (wO w G k) [] E0 t σ H Q
theorem QY {i lv:Nat} {n:Str} (Fs:∀k,(∃as hs r,G.fm k as hs=some r)->∃fd ps,gC X.prog X.w X.K X.mg X.base sH lv (w.fa k) fd ps (wO w G k)/\cx X.K (.ref (w.fa k))=true/\Binds X.K fd ps []) (hr:je lv X.A) (pv:PE X (.Name n p0) (ou i))
 (ha:PA X (ea::es) (Ew w G as)) (he:aW (ea::es) X.env=(false,b4 ea X.env)::aW es X.env) (hpl:(gP pos (aW es X.env)).any (·.1)=false):
 PE X (.Call (.Name n p0) (ea::es) [] pos) (M7 w G i (Ew w G as)):=by
 fail"i";obtain⟨k,h1,hsm,h2⟩:=h;obtain⟨fd,ps,F,hk,hb⟩:=Fs k hsm;refine j8 (fQ (pv pins s σ H (λv H1=>v=.ref (w.fa k)/\H1=H) I ⟨_,h1,rfl,rfl⟩) λu s1 hh=>?_);obtain⟨v,H1,I1,rv,e1,e2⟩:=hh;subst e1 e2;cases rv;refine tF (h₀:=X.base) I1.ok.mod.kin hk (fQ (ha pos pins s1 σ H1 _ I1 h2) λus s2 ⟨vs,H2,I2,r,q⟩=>⟨I2.kIn,?_⟩) he hpl;exact Br F hr hb .nil xT I2 r q
theorem Vw{k:Nat}(pc:PE X ea (vX (wO w G k) [] E0 (Ew w G as))):PS X (.Return (some ea) pos) (tS w G (.retM k as)):=(Bm pc).imp<|tSe λD σ H h0 Fz S n fl S' R e' q=>by
 refine aaE (show(S.evA G as).bind _=some (fl,S')from e') λvs e1 e2=>?_;have e3:(if(argsOk as vs&&S.rw)=true then(G.fm k vs S.hs).map λr=>(Fl.ret r.1,{S with hs:=r.2})else none)=some (fl,S'):=e2;split at e3
 . rename_i ok;obtain⟨⟨p,hs'⟩,e4,e5⟩:=aP e3;cases e5;exact xm R e1 ok e4 λv H' R' rv nv=>q v σ H' R' rv λa ea' hl=>⟨(nv a ea' hl).1,λj=>(nv a ea' hl).2 (.inr j)⟩
 . cases e3
theorem Vx{i:Nat}(pc:PE X ea (M7 w G i (Ew w G as))):PS X (.Return (some ea) pos) (tS w G (.retD i as)):=(Bm pc).imp<|tSe λD σ H h0 Fz S n fl S' R e' q=>by
 refine aaE (show(getL S.loc i).bind _=some (fl,S')from e') λf e0 e0'=>?_;refine aaE e0' λvs e1 e2=>?_;cases f with
 | fn k=>
  have e3:(if(argsOk as vs&&S.rw)=true then(G.fm k vs S.hs).map λr=>(Fl.ret r.1,{S with hs:=r.2})else none)=some (fl,S'):=e2;split at e3
  . rename_i ok;obtain⟨⟨p,hs'⟩,e4,e5⟩:=aP e3;cases e5;obtain⟨v0,g1,g2⟩:=R.env.loc i _ e0;cases g2;exact⟨k,g1,⟨_,_,_,e4⟩,xm R e1 ok e4 λv H' R' rv nv=>q v σ H' R' rv λa ea' hl=>⟨(nv a ea' hl).1,λj=>(nv a ea' hl).2 (.inr j)⟩⟩
  . cases e3
 | _=>cases e2
theorem Zm{k:Nat}(pc:PE X ea (vX (wO w G k) [] E0 (Ew w G as)))(hs:eT ea none pos.line X.env=pure false):PS X (.Expr ea pos) (tS w G (.exM k as)):=(lh pc hs).imp<|tSe λD σ H h0 Fz S n fl S' R e' q=>by
 refine aaE (show(S.evA G as).bind _=some (fl,S')from e') λvs e1 e2=>?_;have e3:(if(argsOk as vs&&S.rw)=true then(G.fm k vs S.hs).map λr=>(Fl.next,{S with hs:=r.2})else none)=some (fl,S'):=e2;split at e3
 . rename_i ok;obtain⟨⟨p,hs'⟩,e4,e5⟩:=aP e3;cases e5;exact xm R e1 ok e4 λv H' R' rv nv=>q σ H' R'
 . cases e3
theorem Vy {i k:Nat} {x:Str} (hN:X.N.Nodup) (hi:X.N[i]?=some x) (hx:L2.Loc X.env.scope x) (hf:X.fn x=true\/X.env.scope.names.lookup x=some .local) (pc:PE X ea (vX (wO w G k) [] E0 (Ew w G as)))
 (hs:eT ea (some (.Name x p0)) pos.line X.env=pure false):PS X (.Assign [.Name x p0] ea pos) (tS w G (.setM i k as)):=(F6 hN hi hx pc hs hf).imp<|tSe λD σ H h0 Fz S n fl S' R e' q=>by
 refine aaE (show(S.evA G as).bind _=some (fl,S')from e') λvs e1 e2=>?_;have e3:(if(argsOk as vs&&S.rw)=true then(G.fm k vs S.hs).map λr=>(Fl.next,if fJ r.1 then{S with hs:=r.2}.putL i r.1 else{S with hs:=r.2}.put i r.1)else none)=some (fl,S'):=e2;split at e3
 . rename_i ok;obtain⟨⟨p,hs'⟩,e4,e5⟩:=aP e3;cases e5;refine xm R e1 ok e4 λv H' R' rv nv=>?_;cases hl:fJ p with
   | true=>exact q _ H' (by rw[hl,if_pos rfl];exact R'.putA rv hl (λa ea'=>(nv a ea' hl).1) λa ea'=>(nv a ea' hl).2)
   | false=>exact q _ H' (by rw[hl,if_neg (by decide)];exact R'.put rv hl)
 . cases e3
theorem Vz{v j:Nat}{f:Str}{tp:Pos}(hK:w.K=X.K)(pv:PE X ea (ou v))(pb:PE X eb (tP w G e))(hat:w.at_[j]?=some f)(nd:w.at_.Nodup)(hcl:zN X.K w.C)(hno:gv X.K w.C f)(hs:eT eb (some (.Attribute ea f tp)) pos.line X.env=pure false):
 PS X (.Assign [.Attribute ea f tp] eb pos) (tS w G (.setF v j e)):=(Mj pv pb hs).imp<|tSe λD σ H h0 Fz S n fl S' R e' q=>by
 refine aaE (show(S.ev G e).bind _=some (fl,S')from e') λp e1 e2=>?_;refine aaE e2 λo e3 e4=>?_;have e5:(if o=.obj/\S.rw=true/\j<S.hs.length/\(fJ p=true->jT e=true)then some (Fl.next,{S with hs:=S.hs.set j p})else none)=some (fl,S'):=e4;split at e5
 . rename_i hc;cases e5;obtain⟨ho,hrw,hj,hfr⟩:=hc;subst ho;obtain⟨v0,g1,g2⟩:=R.env.loc v _ e3;cases g2;refine⟨h0,S.loc,_,p,R.env,e1,λy H1 s1 r1 n1=>?_⟩;obtain⟨z0,dx,fs,hi,hl⟩:=(R.same s1).hou hrw;exact⟨_,g1,h0,w.C,dx,fs,rfl,hi,hcl,hno,hl,q σ _ (R.setF s1 hi r1 (λl=>n1 (hfr l)) hrw hj hat nd)⟩
 . cases e5
theorem VA {v j:Nat} {f:Str} {fp apos:Pos} (hK:w.K=X.K) (pv:PE X ea (ou v)) (pb:PE X eb (tP w G e)) (hat:w.at_[j]?=some f) (hcl:zN X.K w.C) (hno:gv X.K w.C f) (hb1:cr ea f X.env (b4 ea X.env)=b4 ea X.env)
 (hbase:cr (.Attribute ea f fp) "append" X.env (b4 (.Attribute ea f fp) X.env)=b4 (.Attribute ea f fp) X.env) (hst:aW [eb] X.env=[(false,b4 eb X.env)]) (hline:(apos.endLine==p0.line)=true):
 PS X (.Expr (.Call (.Attribute (.Attribute ea f fp) "append" apos) [eb] [] p0) pos) (tS w G (.appF v j e)):=
 (lh (vY cF Ag Ah At (pY pv hb1) (dG pb gd (by rw[hst];rfl)) hbase (by rw[hst];rfl) hline (by rw[hst];rfl) rfl)).imp<|tSe λD σ H h0 Fz S n fl S' R e' q=>by
  refine aaE (show(getL S.loc v).bind _=some (fl,S')from e') λo e1 e2=>?_;refine aaE e2 λx e3 e4=>?_;refine aaE e4 λy e5 e6=>?_;have e7:(if o=.obj/\S.rw=true then(pB x y).map λp=>(Fl.next,{S with hs:=S.hs.set j p})else none)=some (fl,S'):=e6;split at e7
  . rename_i hoo;obtain⟨ho,hrw⟩:=hoo;subst ho;refine aPE e7 λp e8 e9=>?_;cases e9;obtain⟨v0,g1,g2⟩:=R.env.loc v _ e1;cases g2;obtain⟨dx,fs,n',u,k1,k2,k3,k4⟩:=R.env.fld j x e3;rw[hat]at k2;cases k2;haveI hl:=pBl e8
    obtain⟨a1,vs,rfl,ha⟩:=oY k4 hl;refine⟨_,g1,h0,w.C,dx,fs,_,rfl,k1,hcl,hno,k3,PF X.K ha,h0,S.loc,_,y,R.env,e5,λu' H1 s1 r1 _=>?_⟩;obtain⟨_,t2,t3⟩:=Jp (s1 _ _ ha) (k4.mono s1) r1 e8;exact⟨a1,vs,u',rfl,rfl,s1 _ _ ha,t2,q σ _ ((R.same s1).updF hrw ⟨dx,fs,f,x,s1 _ _ k1,hat,k3,e3,hl⟩ (s1 _ _ ha) t3)⟩
  . cases e7
end
section
variable {w:Wd} {G:gH} {X:Cx} {e a r as:CE} {ea eb ec:Expr} {es:List Expr} {pos p0 p1:Pos} {h0:ai} {Fz H:Hp} {S:Sx} {σ:L2.St}
theorem SR.nomeths(R:SR w h0 Fz S σ H){m:Str}(hne:S.hs≠[])(hno:m∉w.at_):∃dx fs,H h0=some (.ins w.C dx fs)/\fs.lookup m=none:=by
 cases e:S.hs with
 | nil=>exact absurd e hne
 | cons x r=>
  obtain⟨dx,fs,x1,x2⟩:=R.env.nom 0 x (by rw[e];rfl);exact⟨dx,fs,x1,x2 m hno⟩
theorem Ex {k:Nat} {us:List V} {vs:List PV} {p:PV} {hs':List PV} {Q:VK} (R:SR w h0 Fz S σ H) (hrw:S.rw=true) (r1:ls w h0 H us vs)
 (hroot:∀(i:Nat) (b:ai) p,us[i]?=some (.ref b)->vs[i]?=some p->fJ p=true->(∀j,¬dD w h0 S σ H (.inr j) b)) (e2:G.fm k (.obj::vs) S.hs=some (p,hs'))
 (q:∀v H',SR w h0 Fz {S with hs:=hs'} σ H'->gk w h0 H' v p->(∀a,v=.ref a->fJ p=true->Fz a=none/\∀q,¬dD w h0 {S with hs:=hs'} σ H' q a)->Q v H'):wO w G k (.ref h0::(us++[])) H Q E0:=by
 rw[cJ];refine⟨h0,_,S.hs,.obj::vs,p,hs',R.hr hrw,.cons rfl r1,λi b p' h1 h2 h3 j hj=>?_,e2,λv H' hr rv nv=>?_⟩
 . cases i with
   | zero=>
    cases(show some PV.obj=some p' from h2)
    cases h3
   | succ i=>
    exact hroot i b p' (by simpa using h1) (by simpa using h2) h3 j hj
 . obtain⟨R2,g1,g2⟩:=R.called hrw hr;refine q v H' R2 rv λa ea' hl=>?_;obtain⟨z1,z2⟩:=nv a ea' hl;refine⟨g2 a z1,λt ht=>?_⟩;cases t with
   | inl i=>exact g1 i a ht z1
   | inr j=>exact z2 j ht
theorem VB{v k:Nat}{m:Str}(hno:m∉w.at_)(pc:PE X ea (IM w.C m (wO w G k) [] E0 (ou v) (Ew w G as)))(hs:eT ea none pos.line X.env=pure false):PS X (.Expr ea pos) (tS w G (.exMm v k as)):=
 (lh pc hs).imp<|tSe λD σ H h0 Fz S n fl S' R e' q=>by
  refine aaE (show(getL S.loc v).bind _=some (fl,S')from e') λo e0 e0'=>?_;refine aaE e0' λvs e1 e2=>?_;have e3:(if o=.obj/\S.hs≠[]/\(argsOk as vs&&S.rw)=true then(G.fm k (.obj::vs) S.hs).map λr=>(Fl.next,{S with hs:=r.2})else none)=some (fl,S'):=e2;split at e3
  . rename_i hc;obtain⟨ho,hne,ok⟩:=hc;subst ho;obtain⟨⟨p,hs'⟩,e4,e5⟩:=aP e3;cases e5;obtain⟨v0,g1,g2⟩:=R.env.loc v _ e0;cases g2;obtain⟨dx,fs,x1,x2⟩:=R.nomeths hne hno;refine⟨_,g1,h0,dx,fs,rfl,x1,x2,h0,S.loc,S.hs,vs,R.env,e1,λus H1 s1 r1 ex=>?_⟩;refine Ex (R.same s1) (aF ok).2 r1 (λi b p' h1 h2 h3=>?_) e4 λu H' R' _ _=>q σ H' R';intro j hj;rcases yC _ _ _ e1 (aF ok).1 ex i b p' h1 h2 h3 with t0 | ⟨k',t1,t2⟩
    . obtain⟨us,hus⟩:=R.lst (R.back s1 hj);rw[t0]at hus;cases hus
    . exact(R.same s1).sep (.inr j) (.inl k') b (aF ok).2 (λz=>nomatch z) hj ⟨t1,p',t2,h3⟩
  . cases e3
theorem yD{α β:Type}{R:α->β->Prop}:∀{xs:List α} {ys:List β},Paired R xs ys->xs.length=ys.length
 | _,_,.nil=>rfl
 | _,_,.cons _ t=>congrArg (·+1) (yD t)
theorem AL{α β:Type}{R:α->β->Prop}:∀{xs:List α} {ys:List β} {i:Nat} {y:β},Paired R xs ys->ys[i]?=some y->∃x,xs[i]?=some x/\R x y
 | _,_,_,_,.nil,h=>by simp at h
 | _,_,0,_,.cons r _,h=>by simp at h;subst h;exact⟨_,rfl,r⟩
 | _,_,i+1,y,.cons _ t,h=>by
  obtain⟨x,h1,h2⟩:=AL (i:=i) t (by simpa using h);exact⟨x,by simpa using h1,h2⟩
theorem pC{α β:Type}{R:α->β->Prop}:∀{xs:List α} {ys:List β},Paired R xs ys->Paired R xs.dropLast ys.dropLast
 | _,_,.nil=>.nil
 | _,_,.cons _ .nil=>.nil
 | _,_,.cons r (.cons r' t)=>.cons r (pC (.cons r' t))
theorem QZ {v k j:Nat} {m f:Str} (hno:m∉w.at_) (hat:w.at_[j]?=some f) (hcl:zN X.K w.C) (hnf:gv X.K w.C f)
 (pc:PE X ea (IM w.C m (wO w G k) [] E0 (ou v) (IL (YB X.K "list" YD (Qg X.K (ou v) f)) Kd))) (hs:eT ea none pos.line X.env=pure false):PS X (.Expr ea pos) (tS w G (.exPop v k j)):=
 (lh pc hs).imp<|tSe λD σ H h0 Fz S n fl S' R e' q=>by
  refine aaE (show(getL S.loc v).bind _=some (fl,S')from e') λo e0 e0'=>?_;refine aaE e0' λx e1 e1'=>?_;obtain⟨⟨y,z⟩,e2,e2'⟩:=aa e1';have e3:(if o=.obj/\S.rw=true then(G.fm k [.obj,y] (S.hs.set j z)).map λt=>(Fl.next,{S with hs:=t.2})else none)=some (fl,S'):=e2';split at e3
  . rename_i hc;obtain⟨ho,hrw⟩:=hc;subst ho;obtain⟨⟨p,hs'⟩,e4,e5⟩:=aP e3;cases e5;cases x with
    | pics l=>
     refine aPE (show(l[l.length-1]?).map _=some (y,z)from e2) λpq e6 e7=>?_;cases e7;obtain⟨v0,g1,g2⟩:=R.env.loc v _ e0;cases g2;obtain⟨dx,fs,x1,x2⟩:=R.nomeths (λz=>by rw[z]at e1;cases e1) hno;obtain⟨dx',fs',n',u,k1,k2,k3,k4⟩:=R.env.fld j _ e1;rw[hat]at k2;cases k2;obtain⟨a1,us,ra,ha,rp⟩:=k4;subst ra;haveI hlen:=yD rp;obtain⟨y,hy,ry⟩:=AL rp e6;rw[<-hlen]at hy;have rl:dD w h0 S σ H (.inr j) a1:=⟨dx',fs',f,_,k1,hat,k3,e1,rfl⟩;have ch:∀b zs,lK w.K H b zs->lK w.K (L2.upd H a1 (.lst us.dropLast)) b zs:=λb zs h=>iT ha h;refine⟨_,g1,h0,dx,fs,rfl,x1,x2,_,g1,h0,w.C,dx',fs',_,rfl,k1,hcl,hnf,k3,PF X.K ha,a1,us,y,rfl,rfl,ha,hy,?_⟩;haveI R1:=R.updF (p':=.pics l.dropLast) hrw rl ha ⟨a1,us.dropLast,rfl,bB,Paired.mapP (pC rp) λ_ _=>jK.change ch⟩;exact Ex (us:=[y]) (vs:=[.pic pq]) (S:={S with hs:=S.hs.set j (.pics l.dropLast)}) R1 hrw (.cons (jK.change ch ry) .nil) (λi b p' h1 h2 h3=>by
      cases i with
      | zero=>cases(show some (PV.pic pq)=some p' from h2);cases h3
      | succ i=>simp at h2) e4 λu H' R' _ _=>q σ H' R'
    | _=>cases(show(none:Option (PV×PV))=some (y,z)from e2)
  . cases e3
theorem VC {v j:Nat} {f:Str} (hat:w.at_[j]?=some f) (hcl:zN X.K w.C) (hnf:gv X.K w.C f)
 (pc:PE X ea (tBM X.K "list" Gh (Qg X.K (ou v) f) (IL (tC (.int 0)) Kd))) (hs:eT ea none pos.line X.env=pure false):PS X (.Expr ea pos) (tS w G (.popF v j)):=
 (lh pc hs).imp<|tSe λD σ H h0 Fz S n fl S' R e' q=>by
  refine aaE (show(getL S.loc v).bind _=some (fl,S')from e') λo e0 e0'=>?_;refine aaE e0' λx e1 e1'=>?_;have e3:(if o=.obj/\S.rw=true then(Qu x).map λp=>(Fl.next,{S with hs:=S.hs.set j p})else none)=some (fl,S'):=e1';split at e3
  . rename_i hc;obtain⟨ho,hrw⟩:=hc;subst ho;refine aPE e3 λp e4 e5=>?_;cases e5;obtain⟨v0,g1,g2⟩:=R.env.loc v _ e0;cases g2;obtain⟨dx',fs',n',u,k1,k2,k3,k4⟩:=R.env.fld j _ e1;rw[hat]at k2;cases k2;have fin:∀{a1:ai} {y:V} {us:List V},u=.ref a1->H a1=some (.lst (y::us))->fJ x=true->gk w h0 (L2.upd H a1 (.lst us)) (.ref a1) p->Td (tBM X.K "list" Gh (Qg X.K (ou v) f) (IL (tC (.int 0)) Kd)) D σ H:=λ{a1 y us} eu ha hl rr=>by
     subst eu;refine⟨_,g1,h0,w.C,dx',fs',_,rfl,k1,hcl,hnf,k3,PF X.K ha,a1,y::us,0,0,y,rfl,rfl,ha,by decide,by decide,?_,rfl,?_⟩
     . simp [Dn]
     . exact q σ _ (R.updF hrw ⟨dx',fs',f,_,k1,hat,k3,e1,hl⟩ ha rr)
    cases x with
    | pics l=>
     cases l with
     | nil=>cases e4
     | cons q0 l=>
      cases e4;obtain⟨a1,us,ra,ha,rp⟩:=k4;cases rp with
      | cons r0 rp=>exact fin ra ha rfl ⟨a1,_,rfl,bB,Paired.mapP rp λ_ _=>jK.change λb zs h=>iT ha h⟩
    | il l=>
     cases l with
     | nil=>cases e4
     | cons q0 l=>
      cases e4;obtain⟨a1,ra,ha⟩:=k4;exact fin ra ha rfl ⟨a1,rfl,bB⟩
    | _=>cases e4
  . cases e3
end
section
variable {w:Wd} {G:gH} {X:Cx} {e ix a r as:CE} {ea eb ec:Expr} {es:List Expr} {pos p0 p1:Pos} {h0:ai} {Fz H:Hp} {S:Sx} {σ:L2.St}
theorem vx{α β:Type}(f:α->β):∀(l:List α) (k:Nat),(l.map f).eraseIdx k=(l.eraseIdx k).map f
 | [],_=>rfl
 | x::r,0=>rfl
 | x::r,k+1=>by rw[ax,pF,pF,ax,vx f r k]
theorem AM:∀{xs:List Int} {its:List Value},cv (xs.map V.int) its->∀u∈its,∃k t,u=.int k t
 | [],_,.nil,u,h=>by cases h
 | x::xs,_,.cons r t,u,h=>by
  rcases aE.mp h with q | q
  . subst q;obtain⟨t,rfl⟩:=r;exact⟨x,t,rfl⟩
  . exact AM t u q
abbrev isI(i:Int):Value->Bool
 | .int k _=>k==i
 | _=>false
abbrev a1B:V->List V->Hp->VK->Prop:=λx vs H Q=>∃(l:ai) (xs:List Int) (i:Int),x=.ref l/\vs=[.int i]/\H l=some (.lst (xs.map V.int))/\i∈xs/\Q .non (L2.upd H l (.lst ((xs.erase i).map V.int)))
theorem Q0:YC X "list.remove" a1B:=by
 intro pins s σ H x vs v us Q I rx rv h;obtain⟨l,xs,i,rfl,rfl,hH,hi,q⟩:=h;cases rx;obtain⟨u,rfl,ru⟩:=rv.one;obtain⟨t,rfl⟩:=ru;obtain⟨z,its,n,r,hl,e⟩:=I.lstM hH;rw[ae]at hl;have hj:xs.idxOf i<xs.length:=dO hi;have at_:∀m (hm:m<its.toArray.size),∃t,its.toArray[m]=.int (xs[m]'(by rw[aK]at hm;lia)) t:=λm hm=>by
  have hm':m<xs.length:=by rw[aK]at hm;lia
  obtain⟨w',hw,t',rw'⟩:=r.get (i:=m) (x:=.int xs[m]) (by rw[ak,ay hm'];rfl);refine⟨t',?_⟩;have:=(az.mp hw).2;rw[<-rw',<-this];simp
 refine j9 F.slot_list_remove ⟨_,e,rfl⟩ F.entry_list_remove (F.args_list_remove_2 _ _)
  (MeetsSeq.list_remove l its.toArray n _ (isI i) (λy hy=>?_) (xs.idxOf i) (by rw[aK];lia) ?_ (λm hm hlt=>?_) (by rw[aK];rw[ae]at z;lia)) ⟨e,?_⟩
 . obtain⟨k,t',rfl⟩:=AM r y (by simpa using hy);exact MeetsSeq.EqGives.int k i t' t
 . obtain⟨t',ht⟩:=at_ (xs.idxOf i) (by rw[aK];lia);rw[ht];show(xs[xs.idxOf i]==i)=true;rw[mZ];exact beq_self_eq_true i
 . obtain⟨t',ht⟩:=at_ m hm;rw[ht];show(xs[m]'_==i)=false;rw[beq_eq_false_iff_ne];exact List.not_of_lt_findIdx (p:=(·==i)) hlt |>λh=>by simpa using h
 . refine⟨.non,_,I.lset (its':=its.eraseIdx (xs.idxOf i)) hH e ?_ (r.eraseIdx _) ?_,rfl,?_⟩
   . show its.toArray.eraseIdxIfInBounds _=(its.eraseIdx _).toArray;rw[kv]
   . have:=ve (xs.map V.int) (xs.idxOf i);lia
   . have:(xs.map V.int).eraseIdx (xs.idxOf i)=(xs.erase i).map V.int:=by
      rw[vx,List.erase_eq_eraseIdx_of_idxOf (by rfl)]
     rw[this];exact q
theorem Zn {v j:Nat} {f:Str} {fp apos:Pos} (hK:w.K=X.K) (pv:PE X ea (ou v)) (pb:PE X eb (tP w G e)) (hat:w.at_[j]?=some f) (hcl:zN X.K w.C) (hno:gv X.K w.C f) (hb1:cr ea f X.env (b4 ea X.env)=b4 ea X.env)
 (hbase:cr (.Attribute ea f fp) "remove" X.env (b4 (.Attribute ea f fp) X.env)=b4 (.Attribute ea f fp) X.env) (hst:aW [eb] X.env=[(false,b4 eb X.env)]) (hline:(apos.endLine==p0.line)=true):
 PS X (.Expr (.Call (.Attribute (.Attribute ea f fp) "remove" apos) [eb] [] p0) pos) (tS w G (.rmF v j e)):=
 (lh (vY cF PySem.F.slot_list_remove PySem.F.type_list_remove Q0 (pY pv hb1) (dG pb gd (by rw[hst];rfl)) hbase (by rw[hst];rfl) hline (by rw[hst];rfl) rfl)).imp<|tSe λD σ H h0 Fz S n fl S' R e' q=>by
  refine aaE (show(getL S.loc v).bind _=some (fl,S')from e') λo e1 e2=>?_;refine aaE e2 λx e3 e4=>?_;refine aaE e4 λy e5 e6=>?_;have e7:(if o=.obj/\S.rw=true then(rmv x y).map λp=>(Fl.next,{S with hs:=S.hs.set j p})else none)=some (fl,S'):=e6;split at e7
  . rename_i hoo;obtain⟨ho,hrw⟩:=hoo;subst ho;refine aPE e7 λp e8 e9=>?_;cases e9;obtain⟨v0,g1,g2⟩:=R.env.loc v _ e1;cases g2;obtain⟨dx,fs,n',u,k1,k2,k3,k4⟩:=R.env.fld j x e3;rw[hat]at k2;cases k2;obtain⟨xs,i,rfl,rfl⟩:=rmi e8;have e10:(if i∈xs then some (PV.il (xs.erase i))else none)=some p:=e8;split at e10
    . rename_i hi;cases e10;obtain⟨a1,rfl,ha⟩:=k4;refine⟨_,g1,h0,w.C,dx,fs,_,rfl,k1,hcl,hno,k3,PF X.K ha,h0,S.loc,_,_,R.env,e5,λu' H1 s1 r1 _=>?_⟩;cases r1;exact⟨a1,xs,i,rfl,rfl,s1 _ _ ha,hi,q σ _ ((R.same s1).updF hrw ⟨dx,fs,f,_,s1 _ _ k1,hat,k3,e3,rfl⟩ (s1 _ _ ha) ⟨a1,rfl,bB⟩)⟩
    . cases e10
  . cases e7
theorem VD {v j:Nat} {f:Str} {fp apos:Pos} (hK:w.K=X.K) (pv:PE X ea (ou v)) (pb:PE X eb (tP w G e)) (hat:w.at_[j]?=some f) (hcl:zN X.K w.C) (hno:gv X.K w.C f) (hb1:cr ea f X.env (b4 ea X.env)=b4 ea X.env)
 (hbase:cr (.Attribute ea f fp) "pop" X.env (b4 (.Attribute ea f fp) X.env)=b4 (.Attribute ea f fp) X.env) (hst:aW [eb] X.env=[(false,b4 eb X.env)]) (hline:(apos.endLine==p0.line)=true):
 PS X (.Expr (.Call (.Attribute (.Attribute ea f fp) "pop" apos) [eb] [] p0) pos) (tS w G (.popI v j e)):=
 (lh (vY cF pN pO DM (pY pv hb1) (dG pb gd (by rw[hst];rfl)) hbase (by rw[hst];rfl) hline (by rw[hst];rfl) rfl)).imp<|tSe λD σ H h0 Fz S n fl S' R e' q=>by
  refine aaE (show(getL S.loc v).bind _=some (fl,S')from e') λo e1 e2=>?_;refine aaE e2 λx e3 e4=>?_;refine aaE e4 λy e5 e6=>?_;have e7:(if o=.obj/\S.rw=true then(IU x y).map λp=>(Fl.next,{S with hs:=S.hs.set j p})else none)=some (fl,S'):=e6;split at e7
  . rename_i hoo;obtain⟨ho,hrw⟩:=hoo;subst ho;refine aPE e7 λp e8 e9=>?_;cases e9;obtain⟨v0,g1,g2⟩:=R.env.loc v _ e1;cases g2;obtain⟨dx,fs,n',u,k1,k2,k3,k4⟩:=R.env.fld j x e3;rw[hat]at k2;cases k2;obtain⟨xs,i,rfl,rfl⟩:=IUi e8;have e10:(if 0<=i/\i<xs.length/\xs.length<=mq then some (PV.il (xs.eraseIdx i.toNat))else none)=some p:=e8;split at e10
    . rename_i hi;obtain⟨h1,h2,h3⟩:=hi;cases e10;obtain⟨a1,rfl,ha⟩:=k4;refine⟨_,g1,h0,w.C,dx,fs,_,rfl,k1,hcl,hno,k3,PF X.K ha,h0,S.loc,_,_,R.env,e5,λu' H1 s1 r1 _=>?_⟩;cases r1;have hL:mq=16000000:=rfl;have hk:i.toNat<xs.length:=by lia
      refine⟨a1,xs.map V.int,i,i.toNat,.int xs[i.toNat],rfl,rfl,s1 _ _ ha,by lia,by lia,?_,?_,q σ _ ((R.same s1).updF hrw ⟨dx,fs,f,_,s1 _ _ k1,hat,k3,e3,rfl⟩ (s1 _ _ ha) ⟨a1,rfl,by rw[bB,vx]⟩)⟩
      . have h4:¬i<0:=by lia
        simp [Dn,h4,h1,h2]
      . rw[ak,ay hk];rfl
    . cases e10
  . cases e7
theorem VE {v j:Nat} {f:Str} {fp tpos:Pos} (hK:w.K=X.K) (pv:PE X ea (ou v)) (pk:PE X ec (tP w G ix)) (pb:PE X eb (tP w G e)) (hat:w.at_[j]?=some f) (hcl:zN X.K w.C) (hno:gv X.K w.C f) (hb1:cr ea f X.env (b4 ea X.env)=b4 ea X.env)
 (ha:∀v,pz (.Subscript (.Attribute ea f fp) ec tpos) X.env v=(do
  let ov<-eF [v] (b4 (.Attribute ea f fp) X.env)
  let iv<-eF [v,ov] (b4 ec X.env)
  mr tpos
  eF [v,ov,iv] (tE ov iv v)
  wA [v,ov,iv] [])) (hs:qL [.Subscript (.Attribute ea f fp) ec tpos] eb pos.line X.env=pure false) (hw:Lw [.Subscript (.Attribute ea f fp) ec tpos] eb X.env=pure none) (h1:(mj [.Subscript (.Attribute ea f fp) ec tpos] X.env).map (·.2)=[pz (.Subscript (.Attribute ea f fp) ec tpos) X.env]):
 PS X (.Assign [.Subscript (.Attribute ea f fp) ec tpos] eb pos) (tS w G (.setI v j ix e)):=
 (L9 pb (L8 (pY pv hb1) pk xQ ha) hs hw h1).imp<|tSe λD σ H h0 Fz S n fl S' R e' q=>by
  refine aaE (show(S.ev G e).bind _=some (fl,S')from e') λy e1 e2=>?_;refine aaE e2 λo e3 e4=>?_;refine aaE e4 λx e5 e6=>?_;refine aaE e6 λk e7 e8=>?_;have e9:(if o=.obj/\S.rw=true then(mM x k y).map λp=>(Fl.next,{S with hs:=S.hs.set j p})else none)=some (fl,S'):=e8;split at e9
  . rename_i hoo;obtain⟨ho,hrw⟩:=hoo;subst ho;refine aPE e9 λp e10 e11=>?_;cases e11;obtain⟨v0,g1,g2⟩:=R.env.loc v _ e3;cases g2;obtain⟨dx,fs,n',u,k1,k2,k3,k4⟩:=R.env.fld j x e5;rw[hat]at k2;cases k2;haveI hl:=Jq e10;obtain⟨a1,vs,rfl,hav⟩:=oY k4 hl;refine⟨h0,S.loc,_,y,R.env,e1,λu' H1 s1 r1 _=>⟨_,g1,h0,w.C,dx,fs,_,rfl,s1 _ _ k1,hcl,hno,k3,h0,S.loc,_,k,R.env.mono s1,e7,λku H2 s2 r2 _=>?_⟩⟩;haveI s12:=s1.trans s2;obtain⟨_,kz,jj,ek,ej,rr⟩:=B4 (s12 _ _ hav) (k4.mono s12) r2 (r1.mono s2) e10;exact⟨a1,vs,kz,jj,rfl,ek,s12 _ _ hav,ej,q σ _ ((R.same s12).updF hrw ⟨dx,fs,f,_,s12 _ _ k1,hat,k3,e5,hl⟩ (s12 _ _ hav) rr)⟩
  . cases e9
end
abbrev qw(sc:Sc)(n:Str):Bool:=match sc.lookup n with
 | some .local=>true
 | some .cell=>true
 | _=>false
abbrev Zo:CE->Bool
 | .fz _=>true
 | _=>false
abbrev B5:Expr->Bool
 | .ListComp _ _ _ _=>false
 | .SetComp _ _ _ _=>false
 | .DictComp _ _ _ _ _=>false
 | _=>true
structure K2 where
 s:Sc->Stmt->Bool
 b:Sc->List Stmt->Bool
abbrev K2.st(f:Sc->Stmt->Bool):K2:=⟨f,λ_ _=>false⟩
abbrev K2.bl(f:Sc->List Stmt->Bool):K2:=⟨λ_ _=>false,f⟩
abbrev Tw(o:vi)(op:vR):Bool:=decide (op=opA o)
abbrev B6(T:sR):CS->K2
 | .nil=>.bl λ_ sts=>match sts with
  | []=>true
  | _=>false
 | .seq s r=>.bl λsc sts=>match sts with
  | st::rest=>(B6 T s).s sc st&&(B6 T r).b sc rest
  | _=>false
 | .set i e=>.st λsc st=>vqs st λy1 v _=>vq1 y1 λy2=>vqN y2 λn _=>!Zo e&&(decide (T.N[i]?=some n)&&qw sc n&&(ck T e).e sc v)
 | .setIdx i ix e=>.st λsc st=>vqs st λy1 v _=>vq1 y1 λy2=>vqS y2 λy3 k _=>vqN y3 λn _=>nm3 T sc i n&&lu k&&(ck T ix).e sc k&&(ck T e).e sc v&&B5 v
 | .aug o i e=>.st λsc st=>vqu st λy1 op v _=>vqN y1 λn _=>decide (T.N[i]?=some n)&&qw sc n&&Tw o op&&(ck T e).e sc v
 | .augIdx o i ix e=>.st λsc st=>vqu st λy1 op v _=>vqS y1 λy2 k _=>vqN y2 λn _=>nm3 T sc i n&&lu k&&Tw o op&&(ck T ix).e sc k&&(ck T e).e sc v
 | .app i e=>.st λsc st=>vqe st λy1 _=>vqC y1 λy2 y3 y4 p=>vqA y2 λy5 m ap=>vqN y5 λn _=>vq1 y3 λv=>vq0 y4 (nm3 T sc i n&&decide (m="append")&&cU v&&(ap.endLine==p.line)&&(ck T e).e sc v)
 | .ext i e=>.st λsc st=>vqe st λy1 _=>vqC y1 λy2 y3 y4 p=>vqA y2 λy5 m ap=>vqN y5 λn _=>vq1 y3 λv=>vq0 y4 (nm3 T sc i n&&decide (m="extend")&&cU v&&(ap.endLine==p.line)&&(ck T e).e sc v)
 | .ret e=>.st λsc st=>vqr st λy1 _=>vqo y1 λv=>(ck T e).e sc v
 | .i c a b=>.st λsc st=>match st with
  | .If t x y _=>(ck T c).t sc t&&(B6 T a).b sc x&&(B6 T b).b sc y
  | _=>false
 | .whl c b=>.st λsc st=>vqw st λt x y1 _=>vq0 y1 ((ck T c).t sc t&&(B6 T b).b sc x)
 | .for1 i it b=>.st λsc st=>vqf st λy1 iter x y2 _=>vqN y1 λn _=>vq0 y2 (decide (T.N[i]?=some n)&&qw sc n&&lX iter&&(ck T it).s false sc iter&&(B6 T b).b sc x)
 | .for2 i j it b=>.st λsc st=>vqf st λy1 iter x y2 _=>vqT y1 λy3 _ _=>vq2 y3 λy4 y5=>vqN y4 λn _=>vqN y5 λm _=>vq0 y2 (decide (T.N[i]?=some n)&&qw sc n&&decide (T.N[j]?=some m)&&qw sc m&&lX iter&&(ck T it).s true sc iter&&(B6 T b).b sc x)
 | .brk=>.st λ_ st=>match st with
  | .Break _=>true
  | _=>false
 | .cont=>.st λ_ st=>match st with
  | .Continue _=>true
  | _=>false
 | .pass=>.st λ_ st=>match st with
  | .Pass _=>true
  | _=>false
 | .setF v j e=>.st λsc st=>vqs st λy1 x _=>vq1 y1 λy2=>vqA y2 λy3 f _=>vqN y3 λn _=>nm3 T sc v n&&decide (T.at_[j]?=some f)&&(ck T e).e sc x
 | .appF v j e=>.st λsc st=>vqe st λy1 _=>vqC y1 λy2 y3 y4 p=>vqA y2 λy5 m ap=>vqA y5 λy6 f _=>vqN y6 λn _=>vq1 y3 λx=>vq0 y4 (nm3 T sc v n&&decide (T.at_[j]?=some f)&&decide (m="append")&&cU x&&(ap.endLine==p.line)&&(ck T e).e sc x)
 | .exM k as=>.st λsc st=>vqe st λy1 _=>vqC y1 λy2 y3 y4 _=>vqN y2 λn _=>vqc y3 λx xs=>vq0 y4 (decide (k<T.jm)&&decide (T.ms[k]?=some n/\n≠"")&&pK sc n&&MV n&&cU x&&xs.all cU&&(ck T as).a sc (x::xs))
 | .setM i k as=>.st λsc st=>vqs st λy1 y2 _=>vq1 y1 λy3=>vqN y3 λy _=>vqC y2 λy4 y5 y6 _=>vqN y4 λn _=>vqc y5 λx xs=>vq0 y6 (decide (T.N[i]?=some y)&&qw sc y&&(decide (k<T.jm)&&decide (T.ms[k]?=some n/\n≠"")&&pK sc n&&MV n&&cU x&&xs.all cU&&(ck T as).a sc (x::xs)))
 | .retM k as=>.st λsc st=>vqr st λy1 _=>vqo y1 λy2=>vqC y2 λy3 y4 y5 _=>vqN y3 λn _=>vqc y4 λx xs=>vq0 y5 (decide (k<T.jm)&&decide (T.ms[k]?=some n/\n≠"")&&pK sc n&&MV n&&cU x&&xs.all cU&&(ck T as).a sc (x::xs))
 | .retD i as=>.st λsc st=>vqr st λy1 _=>vqo y1 λy2=>vqC y2 λy3 y4 y5 _=>vqN y3 λn _=>vqc y4 λx xs=>vq0 y5 (T.jd&&(nm3 T sc i n&&cU x&&xs.all cU&&(ck T as).a sc (x::xs)))
 | .exMm v k as=>.st λsc st=>vqe st λy1 _=>vqC y1 λy2 y3 y4 p=>vqA y2 λy5 m ap=>vqN y5 λn _=>vqc y3 λx xs=>vq0 y4 ((nm3 T sc v n)&&(decide (k<T.jm)&&decide ((m,k)∈T.mm/\m∉T.at_)&&decide ((x::xs).length<30)&&(ap.endLine==p.line)&&cU x&&xs.all cU&&(ck T as).a sc (x::xs)))
 | .exPop v k j=>.st λsc st=>vqe st λy1 _=>vqC y1 λy2 y3 y4 p=>vqA y2 λy5 m ap=>vqN y5 λn _=>vq1 y3 λy6=>vqC y6 λy7 y8 y9 p'=>vqA y7 λy10 m' ap'=>vqA y10 λy11 f _=>vqN y11 λn' _=>vq0 y8 (vq0 y9 (vq0 y4 ((nm3 T sc v n)&&(decide (n'=n)&&decide (k<T.jm)&&decide ((m,k)∈T.mm/\m∉T.at_)&&(ap.endLine==p.line)&&decide (T.at_[j]?=some f)&&decide (m'="pop")&&(ap'.endLine==p'.line)))))
 | .rmF v j e=>.st λsc st=>vqe st λy1 _=>vqC y1 λy2 y3 y4 p=>vqA y2 λy5 m ap=>vqA y5 λy6 f _=>vqN y6 λn _=>vq1 y3 λx=>vq0 y4 (nm3 T sc v n&&decide (T.at_[j]?=some f)&&decide (m="remove")&&cU x&&(ap.endLine==p.line)&&(ck T e).e sc x)
 | .popI v j e=>.st λsc st=>vqe st λy1 _=>vqC y1 λy2 y3 y4 p=>vqA y2 λy5 m ap=>vqA y5 λy6 f _=>vqN y6 λn _=>vq1 y3 λx=>vq0 y4 (nm3 T sc v n&&decide (T.at_[j]?=some f)&&decide (m="pop")&&cU x&&(ap.endLine==p.line)&&(ck T e).e sc x)
 | .setI v j ix e=>.st λsc st=>vqs st λy1 x _=>vq1 y1 λy2=>vqS y2 λy3 k _=>vqA y3 λy4 f _=>vqN y4 λn _=>nm3 T sc v n&&decide (T.at_[j]?=some f)&&lu k&&(ck T ix).e sc k&&(ck T e).e sc x&&B5 x
 | .popF v j=>.st λsc st=>vqe st λy1 _=>vqC y1 λy2 y3 y4 p=>vqA y2 λy5 m ap=>vqA y5 λy6 f _=>vqN y6 λn _=>vq1 y3 λy7=>vqk y7 (vq0 y4 ((nm3 T sc v n)&&(decide (T.at_[j]?=some f)&&decide (m="pop")&&(ap.endLine==p.line))))
structure M8 (T:sR) (w:Wd) (G:gH) (lv:Nat) (sc:Sc) (X:Cx):Prop where
 fn:∀x,X.fn x=true
 xe:X.xe=λ_ _=>False
 names:X.env.scope.names=sc
 kind:X.env.scope.kind=.function
 atnd:w.at_.Nodup
 fms:∀k n,k<T.jm->T.ms[k]?=some n->n≠""->∃f fd ps,gC X.prog X.w X.K X.mg X.base sH lv f fd ps (wO w G k)/\X.mg n=some (.ref f)/\cx X.K (.ref f)=true/\Binds X.K fd ps []
 mms:∀k m,k<T.jm->(m,k)∈T.mm->∃f fd ps,gC X.prog X.w X.K X.mg X.base sH lv f fd ps (wO w G k)/\vd X.K w.C m f/\Binds X.K fd ps []
 fds:T.jd=true->∀k,(∃as hs r,G.fm k as hs=some r)->∃fd ps,gC X.prog X.w X.K X.mg X.base sH lv (w.fa k) fd ps (wO w G k)/\cx X.K (.ref (w.fa k))=true/\Binds X.K fd ps []
structure VF (T:sR) (w:Wd) (G:gH) (lv:Nat) (c:CS):Prop where
 s:∀X sc st,n9 T w G lv X->lY sc X->M8 T w G lv sc X->(B6 T c).s sc st=true->PS X st (tS w G c)
 b:∀X sc sts,n9 T w G lv X->lY sc X->M8 T w G lv sc X->(B6 T c).b sc sts=true->PSs X sts (tS w G c)
section
variable {T:sR} {w:Wd} {G:gH} {lv:Nat} {X:Cx} {sc:Sc}
theorem M8.loc(h:M8 T w G lv sc X){n:Str}(hv:qw sc n=true):L2.Loc X.env.scope n:=by
 unfold qw at hv;unfold L2.Loc;rw[h.names];cases e:sc.lookup n with
 | none=>rw[e]at hv;cases hv
 | some k=>
  rw[e]at hv;cases k with
  | «local»=>exact .inl rfl
  | cell=>exact .inr rfl
  | free=>cases hv
  | globalImplicit=>cases hv
  | globalExplicit=>cases hv
theorem gr{c:CS}{f:Sc->Stmt->Bool}(hck:B6 T c=.st f)(h:∀X sc st,n9 T w G lv X->lY sc X->M8 T w G lv sc X->f sc st=true->PS X st (tS w G c)):VF T w G lv c:=
 ⟨λX sc st C S F q=>h X sc st C S F (by rw[hck]at q;exact q),λX sc sts C S F q=>by rw[hck]at q;cases q⟩
theorem Tz{c:CS}{f:Sc->List Stmt->Bool}(hck:B6 T c=.bl f)(h:∀X sc st,n9 T w G lv X->lY sc X->M8 T w G lv sc X->f sc st=true->PSs X st (tS w G c)):VF T w G lv c:=
 ⟨λX sc st C S F q=>(by rw[hck]at q;cases q),λX sc sts C S F q=>h X sc sts C S F (by rw[hck]at q;exact q)⟩
theorem hZ{i:Nat}{n:Str}{p:Pos}(C:n9 T w G lv X)(S:lY sc X)(h:(decide (T.N[i]?=some n)&&iL sc n&&AK n)=true):PE X (.Name n p) (ou i):=by
 fail"b";fail"c";obtain⟨h5,h6⟩:=MX h2;exact F3 (by rw[C.N];exact oD h3) (S.vis h4) h5 h6
theorem B7{v:Expr}(h:B5 v=true)(t:Option Expr)(l:Nat)(env:tD):eT v t l env=pure false:=by
 cases v<;>first | rfl | cases h
theorem GM{n:Str}{np tp:Pos}{k:Expr}(h:lu k=true)(env:tD)(v:Value):pz (.Subscript (.Name n np) k tp) env v=(do
 let ov<-eF [v] (b4 (.Name n np) env)
 let iv<-eF [v,ov] (b4 k env)
 mr tp
 eF [v,ov,iv] (tE ov iv v)
 wA [v,ov,iv] []):=by
 cases k<;>first | rfl | cases h
theorem Ey{n f:Str}{np fp tp:Pos}{k:Expr}(h:lu k=true)(env:tD)(v:Value):pz (.Subscript (.Attribute (.Name n np) f fp) k tp) env v=(do
 let ov<-eF [v] (b4 (.Attribute (.Name n np) f fp) env)
 let iv<-eF [v,ov] (b4 k env)
 mr tp
 eF [v,ov,iv] (tE ov iv v)
 wA [v,ov,iv] []):=by
 cases k<;>first | rfl | cases h
theorem Q1{k:Expr}(h:lu k=true)(ov iv new:Value):a2G k ov iv new=(do eF [new,ov,iv] (tE ov iv new);wA [new,ov,iv] [];pure .next):=by
 cases k<;>first | rfl | cases h
theorem AN{elt:Expr}{gs:List a3m}{scope:fV}{p np:Pos}{n:Str}{l:Nat}{env:tD}:eT (.ListComp elt gs scope p) (some (.Name n np)) l env=
 pure (env.blockKind==.function&&env.kindOf n==some .local&&np.line==p.line&&!(scope.names.any λ(m,k)=>m==n&&(k==.local||k==.cell))):=rfl
theorem Zp{i:Nat}{e:CE}{n:Str}{np pos:Pos}{v:Expr}(C:n9 T w G lv X)(S:lY sc X)(F:M8 T w G lv sc X)(hz:Zo e=false)(h:(decide (T.N[i]?=some n)&&qw sc n&&(ck T e).e sc v)=true):PS X (.Assign [.Name n np] v pos) (tS w G (.set i e)):=by
 fail"b";fail"c";have hi:X.N[i]?=some n:=by rw[C.N];exact oD h3
 haveI hx:=F.loc h4;have plain:eT v (some (.Name n np)) pos.line X.env=pure false->PS X (.Assign [.Name n np] v pos) (tS w G (.set i e)):=λhs=>
  (F6 C.nd hi hx ((dt e).e X sc v C S h2) hs (.inl (F.fn n))).imp B3
 by_cases hn:B5 v=true
 . exact plain (B7 hn _ _ _)
 . cases v with
   | ListComp elt gs scope p=>
    cases hb:(X.env.blockKind==.function&&X.env.kindOf n==some .local&&np.line==p.line&&!(scope.names.any λ(m,k)=>m==n&&(k==.local||k==.cell)))with
    | false=>exact plain (by rw[AN,hb])
    | true=>
     have hyl:X.env.scope.names.lookup n=some .local:=by
      have:=(aF (aF (aF hb).1).1).2;exact eq_of_beq this
     have hsw:∀{gs:List a3m},eT (.ListComp elt gs scope p) (some (.Name n np)) pos.line X.env=pure true:=λ{gs}=>by rw[AN,hb]
     cases e with
     | comp ty s it c e=>
      haveI h:vq1 _ _=true:=ckv rfl h2;fail"sp";obtain⟨g1,g2⟩:=aF h;obtain⟨g3,g4⟩:=aF g1;obtain⟨g5,g6⟩:=aF g3;obtain⟨g7,g8⟩:=aF g5;obtain⟨g9,g10⟩:=aF g7;obtain⟨g11,g12⟩:=aF g9;exact(Vl C.calm C.nd ((dt it).i X sc _ _ C S g6) (by rw[C.N];exact xj S g10) rfl (λs' H Ca cl fp=>vw C g11 g12 s' H Ca cl fp)
       (λs' H Ca cl fp=>Jo (dt c) (C.blk s' H _ _ fp) (lY.blk s' H _ cl Ca fp) g4) (λs' H Ca cl fp=>(dt e).e _ _ _ (C.blk s' H _ _ fp) (lY.blk s' H _ cl Ca fp) g2) (rJ g8 _) hi hyl hsw).imp B3
     | comp2 ty s s' it c e=>
      haveI h:vq1 _ _=true:=ckv rfl h2;fail"sp";obtain⟨g1,g2⟩:=aF h;obtain⟨g3,g4⟩:=aF g1;obtain⟨g5,g6⟩:=aF g3;obtain⟨g7,g8⟩:=aF g5;obtain⟨g9,g10⟩:=aF g7;obtain⟨g11,g12⟩:=aF g9;obtain⟨g13,g14⟩:=aF g11;obtain⟨g15,g16⟩:=aF g13;obtain⟨g17,g18⟩:=aF g15;exact(QQ C.K (oD g17) C.calm C.nd ((dt it).i2 X sc _ _ _ _ C S g6) (by rw[C.N];exact xj S g10) rfl
       (λs' H Ca cl fp=>F5 C.calm (nj (vw C g18 g14 s' H Ca cl fp) (nj (vw C g16 g12 s' H Ca cl fp) Bn)))
       (λs' H Ca cl fp=>Jo (dt c) (C.blk s' H _ _ fp) (lY.blk s' H _ cl Ca fp) g4) (λs' H Ca cl fp=>(dt e).e _ _ _ (C.blk s' H _ _ fp) (lY.blk s' H _ cl Ca fp) g2) (rJ g8 _) hi hyl hsw).imp B3
     | fz _=>cases hz
     | _=>cases h2
   | SetComp _ _ _ _=>cases e<;>first | (cases h2;done) | cases hz
   | DictComp _ _ _ _ _=>cases e<;>first | (cases h2;done) | cases hz
   | _=>exact absurd rfl hn
theorem AO{v o:Expr}{f:Str}{p:Pos}{l:Nat}{env:tD}:eT v (some (.Attribute o f p)) l env=pure false:=by cases v<;>rfl
theorem GN:∀(c:CE) (X:Cx) (sc:Sc) (es:List Expr),n9 T w G lv X->lY sc X->(ck T c).a sc es=true->PA X es (Ew w G c):=by
 intro c;induction c with
 | z=>
  intro X sc es C S h;cases es with
  | nil=>exact Vu
  | cons x xs=>cases h
 | k a r iha ihr=>
  intro X sc es C S h;cases es with
  | nil=>cases h
  | cons x xs=>
   have h':(cU x&&(ck T a).e sc x&&(ck T r).a sc xs)=true:=h;obtain⟨h1,h2⟩:=aF h';fail"c";by_cases hv:Ev a=true
   . cases a with
     | v i=>
      cases x with
      | Name n np=>exact Vv (hZ C S h4) (ihr X sc xs C S h2) (cg h3 _ _)
      | _=>cases h4
     | _=>cases hv
   . exact QW (λi hi=>hv (by rw[hi];rfl)) ((dt a).e X sc x C S h4) (ihr X sc xs C S h2) (cg h3 _ _)
 | _=>intro X sc es C S h;cases h
theorem yE {k:Nat} {as:CE} {n:Str} {x:Expr} {xs:List Expr} {p0 pos:Pos} (C:n9 T w G lv X) (S:lY sc X) (F:M8 T w G lv sc X)
 (h:(decide (k<T.jm)&&decide (T.ms[k]?=some n/\n≠"")&&pK sc n&&MV n&&cU x&&xs.all cU&&(ck T as).a sc (x::xs))=true):PE X (.Call (.Name n p0) (x::xs) [] pos) (vX (wO w G k) [] E0 (Ew w G as)):=by
 fail"b";fail"c";fail"d";fail"j";fail"m";obtain⟨h11,h12⟩:=aF h9;obtain⟨f,fd,ps,Fn,hm,hk,hb⟩:=F.fms k n (oD h11) (oD h12).1 (oD h12).2;exact QX Fn C.room (S.gl h10) hm hk hb (GN as X sc _ C S h2) (sS h8) (cg h6 _ _) (qu h4 _ _)
theorem GO(F:M8 T w G lv sc X):r9 (bF X.prog X.w) X.A X.env X.xe:=by rw[F.xe];exact r9.never
theorem M9{i:Nat}{n:Str}{p:Pos}(C:n9 T w G lv X)(F:M8 T w G lv sc X)(h1:decide (T.N[i]?=some n)=true)(h2:qw sc n=true):PG X (.Name n p) (iH i):=
 II C.nd (by rw[C.N];exact oD h1) (F.loc h2) (.inl (F.fn n))
theorem Q2{es:List Expr}(h:es.all cU=true)(hl:es.length<30)(pos:Pos)(env:tD):Ir (es.length+([]:List Pq).length) (gP pos (aW es env)) (vS pos (mB [] env))=true:=by
 unfold Ir;have h1:(gP pos (aW es env)).all (λx=>!x.1)=true:=by
  rw[<-List.not_any_eq_all_not,qu h pos env];rfl
 rw[h1];show(true&&(true&&decide (es.length+0+0<30)))=true;simp
 exact hl
theorem yF:∀c:CS,VF T w G lv c:=by
 intro c;induction c with
 | nil=>
  exact Tz rfl λX sc sts C S F h=>by
   split at h
   . exact Zc
   . cases h
 | seq s r ihs ihr=>
  exact Tz rfl λX sc sts C S F h=>by
   split at h
   . exact Zd (ihs.s X sc _ C S F (aF h).1) (ihr.b X sc _ C S F (aF h).2)
   . cases h
 | set i e=>
  fail"gr";exact Zp C S F (by simpa using(aF h).1) (aF h).2
 | setIdx i ix e=>
  fail"gr";fail"b";fail"c";fail"d";fail"j";exact MY (hZ C S h7) ((dt ix).e X sc _ C S h6) ((dt e).e X sc _ C S h4) (GM h8 _) (by unfold qL;exact B7 h2 _ _ _) rfl rfl
 | aug o i e=>
  fail"gr";fail"b";fail"c";fail"d";haveI e1:=oD h4;subst e1;exact Zl C.nd (by rw[C.N];exact oD h5) (F.loc h6) (.inl (F.fn _)) ((dt e).e X sc _ C S h2)
 | augIdx o i ix e=>
  fail"gr";fail"b";fail"c";fail"d";fail"j";haveI e1:=oD h6;subst e1;exact M0 (hZ C S h7) ((dt ix).e X sc _ C S h4) ((dt e).e X sc _ C S h2) (Q1 h8)
 | app i e=>
  fail"gr";fail"b";fail"c";fail"d";fail"j";haveI e1:=oD h8;subst e1;exact Zi (hZ C S h7) ((dt e).e X sc _ C S h2) (dQ rfl _ _ _) (cg h6 _ _) h4
 | ext i e=>
  fail"gr";fail"b";fail"c";fail"d";fail"j";haveI e1:=oD h8;subst e1;exact Zj (hZ C S h7) ((dt e).e X sc _ C S h2) (dQ rfl _ _ _) (cg h6 _ _) h4
 | ret e=>
  fail"gr";by_cases hv:Ev e=true
  . cases e with
    | v i=>
     rename_i v;cases v with
     | Name n np=>exact Vq (hZ C S h)
     | _=>cases h
    | _=>cases hv
  . exact Zf ((dt e).e X sc _ C S h) λi hi=>hv (by rw[hi];rfl)
 | i c a b iha ihb=>
  exact gr rfl λX sc st C S F h=>by
   split at h
   . fail"b";exact Zg ((dt c).t X sc _ C S (aF h1).1) (iha.b X sc _ C S F (aF h1).2) (ihb.b X sc _ C S F h2)
   . cases h
 | whl c b ihb=>
  fail"gr";exact Zh (GO F) ((dt c).t X sc _ C S (aF h).1) (ihb.b X sc _ C S F (aF h).2)
 | for1 i it b ihb=>
  fail"gr";fail"b";fail"c";fail"d";exact Vr (GO F) C.calm ((dt it).s X sc _ _ C S h4) (M9 C F (aF h5).1 (aF h5).2) (ihb.b X sc _ C S F h2) (rJ h6 _)
 | for2 i j it b ihb=>
  fail"gr";fail"b";fail"c";fail"d";fail"j";fail"m";exact Vs C.K (GO F) C.calm ((dt it).s2 X sc _ _ _ _ C S h4) (F5 C.calm (nj (M9 C F (aF h9).1 (aF h9).2) (nj (M9 C F h10 h8) Bn))) (ihb.b X sc _ C S F h2) (rJ h6 _)
 | brk=>
  exact gr rfl λX sc st C S F h=>by
   split at h
   . exact Ze
   . cases h
 | cont=>
  exact gr rfl λX sc st C S F h=>by
   split at h
   . exact Vp
   . cases h
 | pass=>
  exact gr rfl λX sc st C S F h=>by
   split at h
   . exact Vo
   . cases h
 | setF v j e=>
  fail"gr";fail"b";fail"c";haveI h5:=oD h4;exact Vz C.K (hZ C S h3) ((dt e).e X sc _ C S h2) (by rw[C.at_];exact h5) F.atnd C.cls (C.noat _ (aL h5)) AO
 | appF v j e=>
  fail"gr";fail"b";fail"c";fail"d";fail"j";fail"m";haveI h11:=oD h10;haveI e1:=oD h8;subst e1;exact VA C.K (hZ C S h9) ((dt e).e X sc _ C S h2) (by rw[C.at_];exact h11) C.cls (C.noat _ (aL h11)) (dQ rfl _ _ _) (dQ rfl _ _ _) (cg h6 _ _) h4
 | exM k as=>
  fail"gr";exact Zm (yE C S F h) rfl
 | setM i k as=>
  fail"gr";fail"b";exact Vy C.nd (by rw[C.N];exact oD (aF h1).1) (F.loc (aF h1).2) (.inl (F.fn _)) (yE C S F h2) rfl
 | retM k as=>
  fail"gr";exact Vw (yE C S F h)
 | retD i as=>
  fail"gr";obtain⟨h0,h⟩:=aF h;fail"b";fail"c";fail"d";exact Vx (QY (F.fds h0) C.room (hZ C S h5) (GN as X sc _ C S h2) (cg h6 _ _) (qu h4 _ _))
 | exMm v k as=>
  fail"gr";fail"b";obtain⟨h3,h4⟩:=aF h2;fail"d";fail"j";fail"m";obtain⟨h11,h12⟩:=aF h9;obtain⟨h13,h14⟩:=aF h11;haveI hm':=oD h14;obtain⟨f,fd,ps,Fn,hm,hb⟩:=F.mms k _ (oD h13) hm'.1;exact VB (by rw[C.at_];exact hm'.2) (IP (hZ C S h1) C.cls hm Fn C.room hb .nil xT (GN as X sc _ C S h4) (cg h8 _ _) (qu h6 _ _) (sQ (dQ rfl _ _ _) h10 (Q2 (by rw[dz,h8,h6];rfl) (oD h12) _ _))) rfl
 | exPop v k j=>
  fail"gr";fail"b";obtain⟨h3,h4⟩:=aF h2;fail"d";fail"j";fail"m";obtain⟨h11,h12⟩:=aF h9;obtain⟨h13,h14⟩:=aF h11;haveI hm':=oD h12;haveI hf:=oD h8;haveI ep:=oD h6;haveI en:=oD h13;subst ep en;obtain⟨f,fd,ps,Fn,hm,hb⟩:=F.mms k _ (oD h14) hm'.1;exact QZ (by rw[C.at_];exact hm'.2) (by rw[C.at_];exact hf) C.cls (C.noat _ (aL hf)) (IP (hZ C S h1) C.cls hm Fn C.room hb .nil xT
   (dG (UC cF pN pO UD (pY (hZ C S h1) (dQ rfl _ _ _)) (dQ rfl _ _ _) h4) gd rfl) rfl rfl (sQ (dQ rfl _ _ _) h10 rfl)) rfl
 | rmF v j e=>
  fail"gr";fail"b";fail"c";fail"d";fail"j";fail"m";haveI h11:=oD h10;haveI e1:=oD h8;subst e1;exact Zn C.K (hZ C S h9) ((dt e).e X sc _ C S h2) (by rw[C.at_];exact h11) C.cls (C.noat _ (aL h11)) (dQ rfl _ _ _) (dQ rfl _ _ _) (cg h6 _ _) h4
 | popI v j e=>
  fail"gr";fail"b";fail"c";fail"d";fail"j";fail"m";haveI h11:=oD h10;haveI e1:=oD h8;subst e1;exact VD C.K (hZ C S h9) ((dt e).e X sc _ C S h2) (by rw[C.at_];exact h11) C.cls (C.noat _ (aL h11)) (dQ rfl _ _ _) (dQ rfl _ _ _) (cg h6 _ _) h4
 | setI v j ix e=>
  fail"gr";fail"b";fail"c";fail"d";fail"j";fail"m";haveI h11:=oD h10;exact VE C.K (hZ C S h9) ((dt ix).e X sc _ C S h6) ((dt e).e X sc _ C S h4) (by rw[C.at_];exact h11) C.cls (C.noat _ (aL h11)) (dQ rfl _ _ _) (λv=>Ey h8 _ v) (by unfold qL;exact B7 h2 _ _ _) rfl rfl
 | popF v j=>
  fail"gr";fail"b";obtain⟨h3,h4⟩:=aF h2;fail"d";haveI hf:=oD h5;haveI ep:=oD h6;subst ep;exact VC (by rw[C.at_];exact hf) C.cls (C.noat _ (aL hf))
   (vY cF pN pO DM (pY (hZ C S h1) (dQ rfl _ _ _)) (dG F4 gd rfl) (dQ rfl _ _ _) rfl h4 rfl rfl) rfl
abbrev sv(N:List Str)(ps:List PV):Loc:=ps.map some++aJ (N.length-ps.length) none
theorem nR{N:List Str}{ps:List PV}{i:Nat}{p:PV}(h:getL (sv N ps) i=some p):ps[i]?=some p:=by
 unfold getL sv at h;by_cases hi:i<ps.length
 . rw[iM (by simpa using hi),ak]at h;cases e:ps[i]? with
   | none=>rw[e]at h;cases h
   | some q=>rw[e]at h;exact h
 . rw[iz (by simpa using hi),dN]at h;split at h
   . rename_i v e;split at e<;>cases e
   . cases h
theorem vy{N:List Str}{vs:List V}{i:Nat}{v:V}(h:vs[i]?=some v):(L2.start N vs)[i]?=some (some v):=by
 haveI hi:=(az.mp h).1;unfold L2.start;rw[iM (by simpa using hi),ak,h];rfl
theorem Paired.at{α β:Type}{F:α->β->Prop}:∀{l:List α} {m:List β} {i:Nat} {y:β},Paired F l m->m[i]?=some y->∃x,l[i]?=some x/\F x y
 | _,_,_,_,.nil,h=>by simp at h
 | _,_,0,_,.cons r _,h=>by simp at h;subst h;exact⟨_,rfl,r⟩
 | _,_,i+1,y,.cons _ t,h=>by
  obtain⟨x,h1,h2⟩:=Paired.at (i:=i) t (by simpa using h);exact⟨x,by simpa using h1,h2⟩
structure VG (w:Wd) (P:Program) (wl:World) (mg:Str->Option Value) (G:gH) (g:Nat) (n:Str):Prop where
 ex:∃a f,mg n=some (.ref a)/\(a==tz)=false/\(∀h:Heap,w.K.In h->h.MapOf (Pp P wl) a f)/\
  (∀i p,G.d g i=some p->fJ p=false/\∃v u,f i=some u/\RelV v u/\∀h0 H,gk w h0 H v p)/\∀i,G.d g i=none->f i=none
structure Zq (T:sR) (w:Wd) (G:gH) (lv:Nat) (P:Program) (wl:World) (mg:Str->Option Value) (base:Heap):Prop where
 at_:w.at_=T.at_
 fns:∀k n,k<T.j->T.fns[k]?=some n->n≠""->∃f fd ps,gC P wl w.K mg base sH lv f fd ps (Jh w G k)/\mg n=some (.ref f)/\cx w.K (.ref f)=true/\Binds w.K fd ps []
 cs:∀i n z,T.cs[i]?=some (n,z)->G.c i=some (.int z)/\∃t,mg n=some (.int z t)
 blt:∀n∈MW,mg n=none
 cls:zN w.K w.C
 noat:∀f∈T.at_,gv w.K w.C f
 atnd:w.at_.Nodup
 fms:∀k n,k<T.jm->T.ms[k]?=some n->n≠""->∃f fd ps,gC P wl w.K mg base sH lv f fd ps (wO w G k)/\mg n=some (.ref f)/\cx w.K (.ref f)=true/\Binds w.K fd ps []
 fds:T.jd=true->∀k,(∃as hs r,G.fm k as hs=some r)->∃fd ps,gC P wl w.K mg base sH lv (w.fa k) fd ps (wO w G k)/\cx w.K (.ref (w.fa k))=true/\Binds w.K fd ps []
 ds:∀g n,T.ds[g]?=some n->VG w P wl mg G g n
 mps:∀k m,k<T.j->(m,k)∈T.mp->∃f fd ps,gC P wl w.K mg base sH lv f fd ps (Jh w G k)/\vd w.K w.C m f/\Binds w.K fd ps []
 mms:∀k m,k<T.jm->(m,k)∈T.mm->∃f fd ps,gC P wl w.K mg base sH lv f fd ps (wO w G k)/\vd w.K w.C m f/\Binds w.K fd ps []
theorem Q3 {G':gH} {P:Program} {wl:World} {mg:Str->Option Value} {base:Heap} {x qual:Str} {st:Stmt} {f:ai} {fd:dJ} {ps:List Str} {k:Nat} {c:CS} (g:Zq T w G lv P wl mg base) (F:LM w.K x qual st f fd)
 (Sc:jq T.N ps (bW st)) (hck:(B6 T c).b (bW st).names (gT st)=true)
 (hG:∀pvs hs p,G'.fn k pvs hs=some p->pvs.length=ps.length/\∃n S',exec G n c ⟨sv T.N pvs,[],hs,false⟩=some (.ret p,S')):gC P wl w.K mg base sH (lv+1) f fd ps (Jh w G' k):=by
 refine F.ok Sc (λvs H Q E h=>?_) λcdv A outer s H vs Q E hr h=>?_
 . obtain⟨h0,pvs,hs,p,r,_,e,_⟩:=h;rw[Paired.length r];exact(hG pvs hs p e).1
 . obtain⟨h0,pvs,hs,p,r,fr,e,q⟩:=h;obtain⟨hl,n,S',hx⟩:=hG pvs hs p e;refine⟨tS w G c,(yF c).b _ (bW st).names _ ⟨rfl,g.at_,rfl,rfl,Sc.nd,hr,g.fns,g.cs,g.blt,g.cls,g.noat,λg' n' e'=>⟨(g.ds g' n' e').ex⟩,g.mps⟩ (λy kd hy=>?_) ⟨λ_=>rfl,rfl,rfl,Sc.kind,g.atnd,g.fms,g.mms,g.fds⟩ hck,h0,H,_,n,_,S',?_,hx,?_⟩
   . cases kd with
     | «local»=>exact hy
     | cell=>exact .inl hy
     | free=>exact .inr hy
     | globalImplicit=>exact hy
     | globalExplicit=>trivial
   . have hlen:vs.length=pvs.length:=Paired.length r;refine⟨⟨?_,λi p' hi=>?_,fr.1,fr.2⟩,λb o hb=>hb,λr' a m hr'=>?_,λr' r'' a m _ hr'=>?_,λhh=>nomatch hh⟩
     . unfold L2.start sv;rw[aA,aA,ae,ae,bn,bn,hlen]
     . obtain⟨v,h1,h2⟩:=Paired.at r (nR hi);exact⟨v,vy h1,h2⟩
     . cases r' with
       | inl i=>cases m
       | inr j=>cases m
     . cases r' with
       | inl i=>cases m
       | inr j=>cases m
   . intro v σ' H' R rv nv;exact q v H' R.frz rv λa ea l=>(nv a ea l).1
theorem KB{N:List Str}{vs:List V}{i:Nat}{v:V}(h:(L2.start N vs)[i]?=some (some v)):vs[i]?=some v:=by
 unfold L2.start at h;by_cases hi:i<vs.length
 . rw[iM (by simpa using hi),ak]at h;cases e:vs[i]? with
   | none=>rw[e]at h;cases h
   | some q=>rw[e]at h;cases h;rfl
 . rw[iz (by simpa using hi),dN]at h;split at h<;>cases h
abbrev a1D(fl:Fl)(p:PV):Prop:=fl=.ret p\/(fl=.next/\p=.non)
theorem a1E {G':gH} {P:Program} {wl:World} {mg:Str->Option Value} {base:Heap} {x qual:Str} {st:Stmt} {f:ai} {fd:dJ} {ps:List Str} {k:Nat} {c:CS} (g:Zq T w G lv P wl mg base) (F:LM w.K x qual st f fd)
 (Sc:jq T.N ps (bW st)) (hck:(B6 T c).b (bW st).names (gT st)=true)
 (hG:∀pvs hs p hs',G'.fm k pvs hs=some (p,hs')->pvs.length=ps.length/\∃n fl S',exec G n c ⟨sv T.N pvs,[],hs,true⟩=some (fl,S')/\a1D fl p/\S'.hs=hs'/\S'.rw=true):gC P wl w.K mg base sH (lv+1) f fd ps (wO w G' k):=by
 refine F.ok Sc (λvs H Q E h=>?_) λcdv A outer s H vs Q E hr h=>?_
 . obtain⟨h0,Fz,hs,pvs,p,hs',_,r,_,e,_⟩:=h;rw[Paired.length r];exact(hG pvs hs p hs' e).1
 . obtain⟨h0,Fz,hs,pvs,p,hs',hR,r,ha,e,q⟩:=h;obtain⟨hl,n,fl,S',hx,hfl,hS,hrw⟩:=hG pvs hs p hs' e;have fin:∀{v σ' H'},SR w h0 Fz S' σ' H'->gk w h0 H' v p->(∀a,v=.ref a->fJ p=true->Fz a=none/\∀j,¬dD w h0 S' σ' H' (.inr j) a)->Q v H':=λ{v σ' H'} R rv nv=>by
    refine q v H' ⟨λj p' hp=>?_,λj p' hp=>R.env.nom j p' (by rw[hS];exact hp),R.frz,λj a hj=>?_,λj j' a n hj hj'=>?_,R.hou hrw⟩ rv λa ea l=>⟨(nv a ea l).1,λj hj=>?_⟩
    . exact R.env.fld j p' (by rw[hS];exact hp)
    . exact R.mut_ (.inr j) a hrw (by subst hS;exact hj)
    . exact R.sep (.inr j) (.inr j') a hrw (λz=>n (k9.inj z)) (by subst hS;exact hj) (by subst hS;exact hj')
    . exact(nv a ea l).2 j (by subst hS;exact hj)
   refine⟨tS w G c,(yF c).b _ (bW st).names _ ⟨rfl,g.at_,rfl,rfl,Sc.nd,hr,g.fns,g.cs,g.blt,g.cls,g.noat,λg' n' e'=>⟨(g.ds g' n' e').ex⟩,g.mps⟩ (λy kd hy=>?_) ⟨λ_=>rfl,rfl,rfl,Sc.kind,g.atnd,g.fms,g.mms,g.fds⟩ hck,h0,Fz,_,n,fl,S',?_,hx,?_⟩
   . cases kd with
     | «local»=>exact hy
     | cell=>exact .inl hy
     | free=>exact .inr hy
     | globalImplicit=>exact hy
     | globalExplicit=>trivial
   . have hlen:vs.length=pvs.length:=Paired.length r;refine⟨⟨?_,λi p' hi=>?_,hR.fld,hR.nom⟩,hR.frz,λr' a m hr'=>?_,λr' r'' a m n' hr' hr''=>?_,λ_=>hR.hou⟩
     . unfold L2.start sv;rw[aA,aA,ae,ae,bn,bn,hlen]
     . obtain⟨v,h1,h2⟩:=Paired.at r (nR hi);exact⟨v,vy h1,h2⟩
     . cases r' with
       | inl i=>cases m
       | inr j=>exact hR.mut_ j a hr'
     . cases r' with
       | inl i=>cases m
       | inr j=>
        cases r'' with
        | inr j'=>exact hR.sep j j' a (λz=>n' (by rw[z])) hr' hr''
        | inl i=>
         obtain⟨h1,p',h2,h3⟩:=hr'';exact ha i a p' (KB h1) (nR h2) h3 j hr'
   . rcases hfl with e1 | ⟨e1,e2⟩
     . subst e1;exact λv σ' H' R rv nv=>fin R rv nv
     . subst e1 e2;exact λσ' H' R=>fin R rfl λa ea _=>nomatch ea
end
section
variable {w:Wd} {P:Program} {wl:World} {mg:Str->Option Value} {base:Heap} {fns ms:List Str} {csl:List (Str×Int)} {ats:List Str} {cs:Nat->Option PV} {ds:Nat->Int->Option PV} {dsl:List Str} {mp mm:List (Str×Nat)} {n:Nat} {BP BM:Nat->rX} {J:Nat}
theorem KC{G G':gH}{k:Nat}(h:G.fn k=G'.fn k):Jh w G k=Jh w G' k:=by
 unfold Jh;rw[h]
theorem KD{G G':gH}{k:Nat}(h:G.fm k=G'.fm k):wO w G k=wO w G' k:=by
 unfold wO;rw[h]
structure VH (w:Wd) (P:Program) (wl:World) (mg:Str->Option Value) (csl:List (Str×Int)) (ats dsl:List Str) (cs:Nat->Option PV) (ds:Nat->Int->Option PV):Prop where
 at_:w.at_=ats
 cs:∀i n z,csl[i]?=some (n,z)->cs i=some (.int z)/\∃t,mg n=some (.int z t)
 blt:∀n∈MW,mg n=none
 cls:zN w.K w.C
 noat:∀f∈ats,gv w.K w.C f
 atnd:w.at_.Nodup
 ds:∀(G:gH),G.d=ds->∀g n,dsl[g]?=some n->VG w P wl mg G g n
abbrev sT(w:Wd)(P:Program)(wl:World)(mg:Str->Option Value)(base:Heap)(fns:List Str)(mp:List (Str×Nat))(G:gH)(j lv:Nat):Prop:=
 ∀k n,k<j->fns[k]?=some n->∃f fd ps,gC P wl w.K mg base sH lv f fd ps (Jh w G k)/\Binds w.K fd ps []/\(n≠""->mg n=some (.ref f)/\cx w.K (.ref f)=true)/\∀m,(m,k)∈mp->vd w.K w.C m f
abbrev vz(w:Wd)(P:Program)(wl:World)(mg:Str->Option Value)(base:Heap)(ms:List Str)(mm:List (Str×Nat))(G:gH)(j lv:Nat):Prop:=
 ∀k n,k<j->ms[k]?=some n->∃fd ps,gC P wl w.K mg base sH lv (w.fa k) fd ps (wO w G k)/\Binds w.K fd ps []/\(n≠""->mg n=some (.ref (w.fa k)))/\(∀m,(m,k)∈mm->vd w.K w.C m (w.fa k))/\cx w.K (.ref (w.fa k))=true
theorem sT.zero{G:gH}{lv:Nat}:sT w P wl mg base fns mp G 0 lv:=λk _ h=>absurd h (cV k)
theorem vz.zero{G:gH}{lv:Nat}:vz w P wl mg base ms mm G 0 lv:=λk _ h=>absurd h (cV k)
theorem sT.up{G:gH}{j lv lv':Nat}(t:sT w P wl mg base fns mp G j lv)(h:lv<=lv'):sT w P wl mg base fns mp G j lv':=λk n hk hn=>let⟨f,fd,ps,F,r⟩:=t k n hk hn;⟨f,fd,ps,F.mono h,r⟩
theorem vz.up{G:gH}{j lv lv':Nat}(t:vz w P wl mg base ms mm G j lv)(h:lv<=lv'):vz w P wl mg base ms mm G j lv':=λk n hk hn=>let⟨fd,ps,F,r⟩:=t k n hk hn;⟨fd,ps,F.mono h,r⟩
@[reducible]def GF(cs:Nat->Option PV)(ds:Nat->Int->Option PV)(n:Nat)(BP BM:Nat->rX)(J K:Nat):gH:=⟨iJ cs ds n BP J,cs,js cs ds n (iJ cs ds n BP J) BM K,ds⟩
structure Dok (w:Wd) (mg:Str->Option Value) (x qual:Str) (st:Stmt) (ps:List Str) (nm:Str) (mths:List Str):Prop where
 ex:∃f fd,LM w.K x qual st f fd/\Binds w.K fd ps []/\(nm≠""->mg nm=some (.ref f)/\cx w.K (.ref f)=true)/\∀m∈mths,vd w.K w.C m f
structure Zr (w:Wd) (mg:Str->Option Value) (x qual:Str) (st:Stmt) (ps:List Str) (nm:Str) (mths:List Str) (j:Nat):Prop where
 ex:∃fd,LM w.K x qual st (w.fa j) fd/\Binds w.K fd ps []/\(nm≠""->mg nm=some (.ref (w.fa j)))/\∀m∈mths,vd w.K w.C m (w.fa j)
theorem Zs {j j' lv K:Nat} {x qual nm:Str} {mths:List Str} {st:Stmt} {ps N:List Str} {c:CS} (b:VH w P wl mg csl ats dsl cs ds) (hj:j<J) (hjj:j'<=j) (t0:sT w P wl mg base fns mp (GF cs ds n BP BM J K) j' lv) (t:sT w P wl mg base fns mp (GF cs ds n BP BM J K) j (lv+1)) (d:Dok w mg x qual st ps nm mths) (hx:fns[j]?=some nm) (hmp:∀m,(m,j)∈mp->m∈mths) (hlen:∀k,k<J->k<fns.length) (hB:BP j=⟨ps.length,N.length,c⟩)
 (Sc:jq N ps (bW st)) (hck:(B6 ⟨fns,ms,csl,ats,N,j',0,false,dsl,mp,[]⟩ c).b (bW st).names (gT st)=true):sT w P wl mg base fns mp (GF cs ds n BP BM J K) (j+1) (lv+1):=by
 obtain⟨f,fd,F,hb,hm,hmt⟩:=d.ex;have low:sT w P wl mg base fns mp ⟨iJ cs ds n BP j,cs,λ_ _ _=>none,ds⟩ j' lv:=λk n' hk' hn'=>by
  obtain⟨f',fd',ps',F',r'⟩:=t0 k n' hk' hn';haveI hk':=ba hk' hjj;refine⟨f',fd',ps',?_,r'⟩;have e:(GF cs ds n BP BM J K).fn k=iJ cs ds n BP j k:=by
   show iJ cs ds n BP J k=iJ cs ds n BP j k;rw[ox cs ds n BP (mD hk' hj),ox cs ds n BP hk']
  rw[KC (G':=⟨iJ cs ds n BP j,cs,λ_ _ _=>none,ds⟩) e]at F';exact F'
 have fo:gC P wl w.K mg base sH (lv+1) f fd ps (Jh w (GF cs ds n BP BM J K) j):=
  Q3 (T:=⟨fns,ms,csl,ats,N,j',0,false,dsl,mp,[]⟩) (G:=⟨iJ cs ds n BP j,cs,λ_ _ _=>none,ds⟩) ⟨b.at_,λk n' hk' hn' hne=>by
   obtain⟨f',fd',ps',F',r1,r2,r3⟩:=low k n' hk' hn';exact⟨f',fd',ps',F',(r2 hne).1,(r2 hne).2,r1⟩,
   b.cs,b.blt,b.cls,b.noat,b.atnd,λk n' h=>absurd h (cV k),(λh=>nomatch h),b.ds _ rfl,λk m hk' hm'=>by
    obtain⟨f',fd',ps',F',r1,r2,r3⟩:=low k _ hk' (ay (hlen k (mD (ba hk' hjj) hj)));exact⟨f',fd',ps',F',r3 m hm',r1⟩,λk m h=>absurd h (cV k)⟩ F Sc hck λpvs hs p e=>by
   have e1:iJ cs ds n BP J j pvs hs=some p:=e;rw[ox cs ds n BP hj]at e1;have e2:DR ⟨iJ cs ds n BP j,cs,λ_ _ _=>none,ds⟩ n (BP j) pvs hs=some p:=e1;unfold DR at e2;rw[hB]at e2;split at e2
   . rename_i hl;obtain⟨⟨fl,S'⟩,e3,e4⟩:=aa e2;cases fl with
     | ret p'=>cases e4;exact⟨hl,n,S',e3⟩
     | _=>cases e4
   . cases e2
 intro k n' hk' hn';by_cases e:k=j
 . subst e;rw[hx]at hn';cases hn';exact⟨f,fd,ps,fo,hb,hm,λm h=>hmt m (hmp m h)⟩
 . exact t k n' (by lia) hn'
theorem Zt {j j' lv K:Nat} {jd:Bool} {x qual nm:Str} {mths:List Str} {st:Stmt} {ps N:List Str} {c:CS} (b:VH w P wl mg csl ats dsl cs ds) (hj:j<K) (hjj:j'<=j) (hjd:jd=true->j'=j) (tp:sT w P wl mg base fns mp (GF cs ds n BP BM J K) J lv) (t0:vz w P wl mg base ms mm (GF cs ds n BP BM J K) j' lv) (t:vz w P wl mg base ms mm (GF cs ds n BP BM J K) j (lv+1)) (d:Zr w mg x qual st ps nm mths j)
 (hx:ms[j]?=some nm) (hmm:∀m,(m,j)∈mm->m∈mths) (hlen:∀k,k<J->k<fns.length) (hlenM:∀k,k<K->k<ms.length) (hB:BM j=⟨ps.length,N.length,c⟩) (Sc:jq N ps (bW st)) (hck:(B6 ⟨fns,ms,csl,ats,N,J,j',jd,dsl,mp,mm⟩ c).b (bW st).names (gT st)=true):
 vz w P wl mg base ms mm (GF cs ds n BP BM J K) (j+1) (lv+1):=by
 obtain⟨fd,F,hb,hm,hmt⟩:=d.ex;have low:vz w P wl mg base ms mm ⟨iJ cs ds n BP J,cs,js cs ds n (iJ cs ds n BP J) BM j,ds⟩ j' lv:=λk n' hk' hn'=>by
  obtain⟨fd',ps',F',r'⟩:=t0 k n' hk' hn';haveI hk':=ba hk' hjj;refine⟨fd',ps',?_,r'⟩;have e:(GF cs ds n BP BM J K).fm k=js cs ds n (iJ cs ds n BP J) BM j k:=by
   show js cs ds n (iJ cs ds n BP J) BM K k=_;rw[oy cs ds n _ BM (mD hk' hj),oy cs ds n _ BM hk']
  rw[KD (G':=⟨iJ cs ds n BP J,cs,js cs ds n (iJ cs ds n BP J) BM j,ds⟩) e]at F';exact F'
 have fo:gC P wl w.K mg base sH (lv+1) (w.fa j) fd ps (wO w (GF cs ds n BP BM J K) j):=
  a1E (T:=⟨fns,ms,csl,ats,N,J,j',jd,dsl,mp,mm⟩) (G:=⟨iJ cs ds n BP J,cs,js cs ds n (iJ cs ds n BP J) BM j,ds⟩) ⟨b.at_,λk n' hk' hn' hne=>by
   obtain⟨f',fd',ps',F',r1,r2,r3⟩:=tp k n' hk' hn';exact⟨f',fd',ps',F',(r2 hne).1,(r2 hne).2,r1⟩,
   b.cs,b.blt,b.cls,b.noat,b.atnd,λk n' hk' hn' hne=>by
    obtain⟨fd',ps',F',r1,r2,r3,r4⟩:=low k n' hk' hn';exact⟨_,fd',ps',F',r2 hne,r4,r1⟩,(λhd k x=>by
    obtain⟨_,_,_,e⟩:=x;haveI hk':=IV cs ds n _ BM e;obtain⟨fd',ps',F',r1,r2,r3,r4⟩:=low k _ (by rw[hjd hd];exact hk') (ay (hlenM k (mD hk' hj)));exact⟨fd',ps',F',r4,r1⟩),b.ds _ rfl,λk m hk' hm'=>by
    obtain⟨f',fd',ps',F',r1,r2,r3⟩:=tp k _ hk' (ay (hlen k hk'));exact⟨f',fd',ps',F',r3 m hm',r1⟩,λk m hk' hm'=>by
    obtain⟨fd',ps',F',r1,r2,r3,r4⟩:=low k _ hk' (ay (hlenM k (mD (ba hk' hjj) hj)));exact⟨_,fd',ps',F',r3 m hm',r1⟩⟩ F Sc hck λpvs hs p hs' e=>by
   have e1:js cs ds n (iJ cs ds n BP J) BM K j pvs hs=some (p,hs'):=e;rw[oy cs ds n _ BM hj]at e1;have e2:BB ⟨iJ cs ds n BP J,cs,js cs ds n (iJ cs ds n BP J) BM j,ds⟩ n (BM j) pvs hs=some (p,hs'):=e1;unfold BB at e2;rw[hB]at e2;split at e2
   . rename_i hl;obtain⟨⟨fl,S'⟩,e3,e4⟩:=aa e2;have e5:(if S'.rw then(match fl with | .ret p=>some (p,S'.hs) | .next=>some (.non,S'.hs) | _=>none)else none)=some (p,hs'):=e4;split at e5
     . rename_i hrw;cases fl with
       | ret p'=>cases e5;exact⟨hl,n,_,S',e3,.inl rfl,rfl,hrw⟩
       | next=>cases e5;exact⟨hl,n,_,S',e3,.inr ⟨rfl,rfl⟩,rfl,hrw⟩
       | _=>cases e5
     . cases e5
   . cases e2
 intro k n' hk' hn';by_cases e:k=j
 . subst e;rw[hx]at hn';cases hn';exact⟨fd,ps,fo,hb,hm,λm h=>hmt m (hmm m h),F.kp⟩
 . exact t k n' (by lia) hn'
end
abbrev Ez(T:sR)(sc:Sc):List (Str×Option Int)->List Stmt->Bool
 | [],[]=>true
 | (f,o)::r,st::rest=>vqs st λy x _=>vq1 y λy=>vqA y λy g _=>vqN y λn _=>(nm3 T sc 0 n)&&decide (g=f)&&(match o,x with
  | some i,.Constant (.int k) _ _=>decide (k=i)
  | none,.List [] _=>true
  | _,_=>false)&&Ez T sc r rest
 | _,_=>false
structure IR (w:Wd) (h0:ai) (Fz:Hp) (l:List (Str×Option Int)) (H:Hp):Prop where
 ins:∃dx fs,H h0=some (.ins w.C dx fs)/\fs.length<=l.length/\
  (∀f o,(f,o)∈l->∃v,fs.lookup f=some v/\(∀i,o=some i->v=.int i)/\(o=none->∃a,v=.ref a/\H a=some (.lst [])/\Fz a=none))/\
  (∀m,m∉l.map lf->fs.lookup m=none)/\
  (∀f f' a,f≠f'->fs.lookup f=some (.ref a)->fs.lookup f'=some (.ref a)->False)/\
  (∀f a,fs.lookup f=some (.ref a)->H a≠none)
 frz:Sub Fz H
 z:Fz h0=none
section
variable {w:Wd} {h0:ai} {Fz H:Hp} {l:List (Str×Option Int)}
theorem B8{f:Str}{y:V}:∀fs:List (Str×V),(jp f y fs).length<=fs.length+1
 | []=>by simp [jp]
 | (g,x)::r=>by
  unfold jp;split
  . simp
  . have:=B8 (f:=f) (y:=y) r;simp
    lia
theorem IR.addI{f:Str}{i:Int}{dx:ai}{fs:List (Str×V)}(R:IR w h0 Fz l H)(hi:H h0=some (.ins w.C dx fs))(hf:f∉l.map lf):IR w h0 Fz (l++[(f,some i)]) (L2.upd H h0 (.ins w.C dx (jp f (.int i) fs))):=by
 obtain⟨dx',fs',h1,h2,h3,h4,h5,h6⟩:=R.ins;rw[hi]at h1;cases h1;refine⟨⟨dx,_,bB,?_,λg o hg=>?_,λm hm=>?_,λg g' a n e e'=>?_,λg a e=>?_⟩,λb o hb=>?_,R.z⟩
 . have:=B8 (f:=f) (y:=.int i) fs;rw[aA];simp
   lia
 . rcases bV.mp hg with q | q
   . obtain⟨v,g1,g2,g3⟩:=h3 g o q;have hne:g≠f:=λe=>hf (by rw[<-e];exact aH.mpr ⟨_,q,rfl⟩);refine⟨v,by rw[cM,if_neg hne];exact g1,g2,λe=>?_⟩;obtain⟨a,k1,k2,k3⟩:=g3 e;exact⟨a,k1,by rw[bU (lJ k2 hi (by intro z;cases z))];exact k2,k3⟩
   . cases (aZ.mp q);exact⟨_,by rw[cM,if_pos rfl],λj e=>by cases e;rfl,λe=>nomatch e⟩
 . rw[bQ,bV]at hm;have hne:m≠f:=λe=>hm (.inr (by rw[e];exact aZ.mpr rfl));rw[cM,if_neg hne];exact h4 m λq=>hm (.inl q)
 . rw[cM]at e e';split at e
   . cases e
   . split at e'
     . cases e'
     . exact h5 g g' a n e e'
 . rw[cM]at e;split at e
   . cases e
   . by_cases ea:a=h0
     . rw[ea,bB];exact λz=>nomatch z
     . rw[bU ea];exact h6 g a e
 . rw[bU (λe=>by rw[e,R.z]at hb;cases hb)];exact R.frz b o hb
theorem IR.addL{f:Str}{p dx:ai}{fs:List (Str×V)}(R:IR w h0 Fz l H)(hp:H p=none)(hi:H h0=some (.ins w.C dx fs))(hf:f∉l.map lf):
 IR w h0 Fz (l++[(f,none)]) (L2.upd (L2.upd H p (.lst [])) h0 (.ins w.C dx (jp f (.ref p) fs))):=by
 have hp0:p≠h0:=λe=>by rw[e,hi]at hp;cases hp
 obtain⟨dx',fs',h1,h2,h3,h4,h5,h6⟩:=R.ins;rw[hi]at h1;cases h1;have keep:∀b,b≠h0->H b≠none->L2.upd (L2.upd H p (.lst [])) h0 (.ins w.C dx (jp f (.ref p) fs)) b=H b:=λb hb hn=>by
  rw[bU hb,bU (λe=>hn (by rw[e];exact hp))]
 have at_p:L2.upd (L2.upd H p (.lst [])) h0 (.ins w.C dx (jp f (.ref p) fs)) p=some (.lst []):=by rw[bU hp0,bB]
 have fzp:Fz p=none:=by
  cases e:Fz p with
  | none=>rfl
  | some o=>rw[R.frz p o e]at hp;cases hp
 refine⟨⟨dx,_,bB,?_,λg o hg=>?_,λm hm=>?_,λg g' a n e e'=>?_,λg a e=>?_⟩,λb o hb=>?_,R.z⟩
 . have:=B8 (f:=f) (y:=.ref p) fs;rw[aA];simp
   lia
 . rcases bV.mp hg with q | q
   . obtain⟨v,g1,g2,g3⟩:=h3 g o q;have hne:g≠f:=λe=>hf (by rw[<-e];exact aH.mpr ⟨_,q,rfl⟩);refine⟨v,by rw[cM,if_neg hne];exact g1,g2,λe=>?_⟩;obtain⟨a,k1,k2,k3⟩:=g3 e;exact⟨a,k1,by rw[keep a (lJ k2 hi (by intro z;cases z)) (by rw[k2];exact λz=>nomatch z)];exact k2,k3⟩
   . cases (aZ.mp q);exact⟨_,by rw[cM,if_pos rfl],(λj e=>nomatch e),λe=>⟨p,rfl,at_p,fzp⟩⟩
 . rw[bQ,bV]at hm;have hne:m≠f:=λe=>hm (.inr (by rw[e];exact aZ.mpr rfl));rw[cM,if_neg hne];exact h4 m λq=>hm (.inl q)
 . rw[cM]at e e';split at e
   . rename_i eg;cases e;split at e'
     . rename_i eg';exact n (by rw[eg,eg'])
     . exact h6 g' _ e' hp
   . split at e'
     . cases e';exact h6 g _ e hp
     . exact h5 g g' a n e e'
 . rw[cM]at e;split at e
   . cases e;rw[at_p];exact λz=>nomatch z
   . by_cases ea:a=h0
     . rw[ea,bB];exact λz=>nomatch z
     . rw[keep a ea (h6 g a e)];exact h6 g a e
 . haveI hb':=R.frz b o hb;rw[keep b (λe=>by rw[e,R.z]at hb;cases hb) (by rw[hb'];exact λz=>nomatch z)];exact hb'
abbrev VI(w:Wd)(l:List (Str×Option Int)):TS:=λD σ H=>∃h0 Fz done,σ[0]?=some (some (.ref h0))/\IR w h0 Fz done H/\((done++l).map lf).Nodup/\(done++l).length<1000/\∀H',IR w h0 Fz (done++l) H'->D.nx σ H'
theorem Na{T:sR}{G:gH}{lv:Nat}{X:Cx}{sc:Sc}(C:n9 T w G lv X)(S:lY sc X):∀(l:List (Str×Option Int)) (sts:List Stmt),(∀f∈l.map lf,gv X.K w.C f)->Ez T sc l sts=true->PSs X sts (VI w l)
 | [],[],_,_=>IH.imp λD σ H x=>by
  obtain⟨h0,Fz,done,_,R,_,_,q⟩:=x;rw[cJ]at q;exact q H R
 | (f,o)::r,st::rest,hno,h=>by
  have h:vqs st _=true:=h;apply vqs' h;intro _ x pos h;apply vq1' h;intro _ h;apply vqA' h;intro _ g gp h;apply vqN' h;intro n np h;fail"b";fail"c";fail"d";haveI eg:=oD h6;subst eg;haveI ih:=Na C S r rest (λf hf=>hno f (ao _ hf)) h2;haveI hn:=hno g (aI ..);have fin:∀{tv:TE},PE X x tv->(∀h0 Fz done σ H Q,IR w h0 Fz done H->g∉done.map lf->done.length<1000->(∀y H1 dx fs,H1 h0=some (.ins w.C dx fs)->fs.length<1000->IR w h0 Fz (done++[(g,o)]) (L2.upd H1 h0 (.ins w.C dx (jp g y fs)))->Q y H1)->tv σ H Q)->
   PSs X (.Assign [.Attribute (.Name n np) g gp] x pos::rest) (VI w ((g,o)::r)):=λ{tv} pv hv=>
   (xL (Mj (hZ C S h5) pv AO) ih).imp λD σ H x=>by
    obtain⟨h0,Fz,done,e0,R,nd,hl,q⟩:=x;have hg:g∉done.map lf:=λhm=>by
     rw[bQ,ax,jR]at nd;exact nd.2.2 _ hm _ (aI ..) rfl
    have hl2:(done++[(g,o)]++r).length<1000:=by simpa using hl
    refine hv h0 Fz done σ H _ R hg (by rw[aA]at hl;lia) λy H1 dx fs i1 i2 R2=>?_;exact⟨_,e0,h0,w.C,dx,fs,rfl,i1,C.cls,hn,i2,h0,Fz,done++[(g,o)],e0,R2,by rw[dw];exact nd,hl2,λH' RR=>q H' (by rw[dw]at RR;exact RR)⟩
  cases o with
  | some i=>
   cases x with
   | Constant c k p=>
    cases c with
    | int z=>
     haveI ez:=oD h4;subst ez;refine fin F4 λh0 Fz done σ H Q R hg hl q=>?_;obtain⟨dx,fs,i1,i2,_⟩:=R.ins;exact q _ H dx fs i1 (by lia) (R.addI i1 hg)
    | _=>cases h4
   | _=>cases h4
  | none=>
   cases x with
   | List es p=>
    cases es with
    | nil=>
     refine fin (Ml gd) λh0 Fz done σ H Q R hg hl q=>?_;refine⟨dj _,λp hp=>?_⟩;obtain⟨dx,fs,i1,i2,_⟩:=R.ins;exact q _ _ dx fs (by rw[bU (λe=>by rw[<-e,i1]at hp;cases hp)];exact i1) (by lia) (R.addL hp i1 hg)
    | cons _ _=>cases h4
   | _=>cases h4
 | [],_::_,_,h=>by cases h
 | _::_,[],_,h=>by cases h
abbrev spI(w:Wd)(l:List (Str×Option Int)):Sp:=λvs H Q _=>∃h0 dx Fz,vs=[.ref h0]/\H h0=some (.ins w.C dx [])/\Sub Fz H/\Fz h0=none/\∀H',IR w h0 Fz l H'->Q .non H'
abbrev TB:Option Int->PV->Bool
 | some i,.int j=>decide (i=j)
 | none,.il []=>true
 | none,.bls []=>true
 | none,.tups []=>true
 | none,.pics []=>true
 | _,_=>false
abbrev B9:List (Str×Option Int)->List PV->Bool
 | [],[]=>true
 | (_,o)::r,p::ps=>TB o p&&B9 r ps
 | _,_=>false
theorem AQ:∀{l:List (Str×Option Int)} {hs:List PV} {j:Nat} {p:PV},B9 l hs=true->hs[j]?=some p->∃f o,l[j]?=some (f,o)/\TB o p=true:=by
 intro l;induction l with
 | nil=>intro hs j p h e;cases hs with
  | nil=>cases e
  | cons=>cases h
 | cons x r ih=>intro hs j p h e;cases hs with
  | nil=>cases h
  | cons q ps=>cases j with
   | zero=>cases e;exact⟨x.1,x.2,rfl,(aF h).1⟩
   | succ j=>exact ih (aF h).2 e
theorem IR.hr{hs:List PV}(R:IR w h0 Fz l H)(hat:w.at_=l.map lf)(nd:w.at_.Nodup)(hl:l.length<1000)(hi:B9 l hs=true):HR w h0 Fz hs H:=by
 obtain⟨dx,fs,h1,h2,h3,h4,h5,h6⟩:=R.ins;have one:∀(j:Nat) p,hs[j]?=some p->∃f v,w.at_[j]?=some f/\fs.lookup f=some v/\gk w h0 H v p/\(fJ p=true->∃a,v=.ref a/\Fz a=none):=λj p e=>by
  obtain⟨f,o,g1,g2⟩:=AQ hi e;obtain⟨v,k1,k2,k3⟩:=h3 f o (aL g1);refine⟨f,v,by rw[hat,ak,g1];rfl,k1,?_⟩;cases o with
  | some i=>
   haveI ev:=k2 i rfl;subst ev;cases p with
   | int z=>cases oD g2;exact⟨rfl,λz=>nomatch z⟩
   | _=>cases g2
  | none=>
   obtain⟨a,rfl,ha,hz⟩:=k3 rfl;cases p with
   | il xs=>cases xs with
    | nil=>exact⟨⟨a,rfl,ha⟩,λ_=>⟨a,rfl,hz⟩⟩
    | cons _ _=>cases g2
   | bls xs=>cases xs with
    | nil=>exact⟨⟨a,rfl,ha⟩,λ_=>⟨a,rfl,hz⟩⟩
    | cons _ _=>cases g2
   | tups xs=>cases xs with
    | nil=>exact⟨⟨a,[],rfl,ha,.nil⟩,λ_=>⟨a,rfl,hz⟩⟩
    | cons _ _=>cases g2
   | pics xs=>cases xs with
    | nil=>exact⟨⟨a,[],rfl,ha,.nil⟩,λ_=>⟨a,rfl,hz⟩⟩
    | cons _ _=>cases g2
   | _=>cases g2
 refine⟨λj p e=>?_,λj p e=>⟨dx,fs,h1,λm hm=>h4 m (by rw[<-hat];exact hm)⟩,R.frz,λj a h=>?_,λj j' a n h h'=>?_,R.z,dx,fs,h1,by lia⟩
 . obtain⟨f,v,g1,g2,g3,_⟩:=one j p e;exact⟨dx,fs,f,v,h1,g1,g2,g3⟩
 . obtain⟨dx',fs',f,p,k1,k2,k3,k4,k5⟩:=h;rw[h1]at k1;cases k1;obtain⟨f',v,g1,g2,_,g4⟩:=one j p k4;rw[k2]at g1;cases g1;rw[k3]at g2;cases g2;obtain⟨b,e,hz⟩:=g4 k5;cases e;exact hz
 . obtain⟨dx',fs',f,p,k1,k2,k3,k4,k5⟩:=h;obtain⟨dx2,fs2,f2,p2,l1,l2,l3,l4,l5⟩:=h';rw[h1]at k1 l1;cases k1;cases l1;exact h5 f f2 a (λe=>n (Tk nd (by rw[e]at k2;exact k2) l2)) k3 l3
theorem Q4 {T:sR} {G:gH} {lv:Nat} {P:Program} {wl:World} {mg:Str->Option Value} {base:Heap} {x qual:Str} {st:Stmt} {f:ai} {fd:dJ} {ps:List Str} (g:Zq T w G lv P wl mg base) (F:LM w.K x qual st f fd)
 (Sc:jq T.N ps (bW st)) (hps:ps.length=1) (hck:Ez T (bW st).names l (gT st)=true) (hat:w.at_=l.map lf) (hl:l.length<1000):gC P wl w.K mg base sH (lv+1) f fd ps (spI w l):=by
 refine F.ok Sc (λvs H Q E h=>?_) λcdv A outer s H vs Q E hr h=>?_
 . obtain⟨h0,dx,Fz,e,_⟩:=h;rw[e,hps];rfl
 . obtain⟨h0,dx,Fz,e,hi,hs,hz,q⟩:=h;subst e;refine⟨VI w l,Na (T:=T) (G:=G) (lv:=lv) (sc:=(bW st).names) ⟨rfl,g.at_,rfl,rfl,Sc.nd,hr,g.fns,g.cs,g.blt,g.cls,g.noat,λg' n' e'=>⟨(g.ds g' n' e').ex⟩,g.mps⟩ (λy kd hy=>?_) l _ (λf hf=>g.noat f (by rw[<-g.at_,hat];exact hf)) hck,h0,Fz,[],rfl,?_,by rw[fb,<-hat];exact g.atnd,hl,λH' R=>q H' R⟩
   . cases kd with
     | «local»=>exact hy
     | cell=>exact .inl hy
     | free=>exact .inr hy
     | globalImplicit=>exact hy
     | globalExplicit=>trivial
   . exact⟨⟨dx,[],hi,aO _,(λf o hf=>nomatch hf),(λm _=>rfl),(λf f' a _ e=>nomatch e),(λf a e=>nomatch e)⟩,hs,hz⟩
abbrev spA(K:al)(R:List Int->Option (List Int)):Sp:=λvs H Q _=>∃a xs ys,vs=[.ref a]/\FzL K H a (xs.map V.int)/\R xs=some ys/\∀b H',cZ H H'->H' b=some (.lst (ys.map V.int))->Q (.ref b) H'
theorem GP {T:sR} {G:gH} {lv:Nat} {P:Program} {wl:World} {mg:Str->Option Value} {base:Heap} {x qual:Str} {st:Stmt} {f:ai} {fd:dJ} {ps:List Str} {c:CS} {hs0:List PV} {R:List Int->Option (List Int)}
 {fI:ai} {fdI:dJ} {psI:List Str} {y cn:Str} {yp p0 p1 pos:Pos} {rest:List Stmt} (g:Zq T w G lv P wl mg base) (F:LM w.K x qual st f fd)
 (Sc:jq T.N ps (bW st)) (hps:ps.length=1) (hbody:gT st=.Assign [.Name y yp] (.Call (.Name cn p0) [] [] p1) pos::rest) (hy:T.N[1]?=some y) (hyl:qw (bW st).names y=true) (hg:pK (bW st).names cn=true) (hdb:MV cn=true)
 (hm:mg cn=some (.ref w.C)) (M:Mk w.K w.C fI) (FI:∃k,k+1<=lv/\gC P wl w.K mg base sH k fI fdI psI (spI w l)) (hbI:Binds w.K fdI psI [])
 (hck:(B6 T c).b (bW st).names rest=true) (hat:w.at_=l.map lf) (hl:l.length<1000) (hi:B9 l hs0=true)
 (hG:∀xs ys,R xs=some ys->∃n S',exec G n c ⟨(sv T.N [.fil xs]).set 1 (some .obj),[],hs0,true⟩=some (.ret (.il ys),S')):gC P wl w.K mg base sH (lv+1) f fd ps (spA w.K R):=by
 obtain⟨kI,hkI,FI⟩:=FI;refine F.ok Sc (λvs H Q E h=>?_) λcdv A outer s H vs Q E hr h=>?_
 . obtain⟨a,xs,ys,e,_⟩:=h;rw[e,hps];rfl
 . obtain⟨a,xs,ys,e,ha,hR,q⟩:=h;subst e;obtain⟨n,S',hx⟩:=hG xs ys hR;have C:n9 T w G lv (Bs sH P wl w.K mg base T.N qual (bW st) f cdv A outer s H E).nox:=⟨rfl,g.at_,rfl,rfl,Sc.nd,hr,g.fns,g.cs,g.blt,g.cls,g.noat,λg' n' e'=>⟨(g.ds g' n' e').ex⟩,g.mps⟩;have S:lY (bW st).names (Bs sH P wl w.K mg base T.N qual (bW st) f cdv A outer s H E).nox:=λy kd hy=>by
    cases kd with
    | «local»=>exact hy
    | cell=>exact .inl hy
    | free=>exact .inr hy
    | globalImplicit=>exact hy
    | globalExplicit=>trivial
   have Fo:M8 T w G lv (bW st).names (Bs sH P wl w.K mg base T.N qual (bW st) f cdv A outer s H E).nox:=⟨λ_=>rfl,rfl,rfl,Sc.kind,g.atnd,g.fms,g.mms,g.fds⟩;rw[hbody];refine⟨_,xL (F6 Sc.nd hy (Fo.loc hyl) (Mo M FI (hr.mono hkI) (S.gl hg) hm hbI .nil xT (sS hdb)) rfl (.inl rfl)) ((yF c).b _ (bW st).names _ C S Fo hck),?_⟩;intro x0 dx hx0 hdx hne;have hH2:∀b o,H b=some o->L2.upd (L2.upd H dx (.own x0)) x0 (.ins w.C dx []) b=some o:=λb o hb=>by
    rw[bU (λz=>by rw[z,hx0]at hb;cases hb),bU (λz=>by rw[z,hdx]at hb;cases hb)];exact hb
   refine⟨x0,dx,H,rfl,bB,hH2,hx0,λH2 R2=>⟨rfl,?_⟩⟩;haveI hr2:=R2.hr hat g.atnd hl hi;refine⟨x0,H,⟨(sv T.N [.fil xs]).set 1 (some .obj),[],hs0,true⟩,n,_,S',?_,hx,?_⟩
   . refine⟨⟨?_,λi p' hi'=>?_,hr2.fld,hr2.nom⟩,hr2.frz,λr' a' m hr'=>?_,λr' r'' a' m n' hr' hr''=>?_,λ_=>hr2.hou⟩
     . unfold L2.start sv;simp
     . rcases kK hi' with⟨e1,e0,e2⟩ | ⟨e1,e2⟩
       . subst e1;cases e2;refine⟨.ref x0,?_,rfl⟩;rw[ci];unfold L2.start;unfold sv at e0;simpa using e0
       . have:=nR e2;cases i with
         | zero=>
          cases(show some (PV.fil xs)=some p' from this)
          refine⟨.ref a,?_,a,rfl,?_⟩
          . rw[cy (by decide)];exact vy rfl
          . exact ha.elim (λ⟨o,e⟩=>.inl ⟨o,hr2.frz _ _ e⟩) .inr
         | succ i=>simp at this
     . cases r' with
       | inl i=>cases m
       | inr j=>exact hr2.mut_ j a' hr'
     . cases r' with
       | inl i=>cases m
       | inr j=>
        cases r'' with
        | inr j'=>exact hr2.sep j j' a' (λz=>n' (by rw[z])) hr' hr''
        | inl i=>
         obtain⟨k1,p',k2,k3⟩:=hr'';rcases kK k2 with⟨e1,e0,e2⟩ | ⟨e1,e2⟩
         . subst e1;cases e2;cases k3
         . have:=nR e2;cases i with
           | zero=>cases(show some (PV.fil xs)=some p' from this);cases k3
           | succ i=>simp at this
   . intro v σ' H' R3 rv nv;obtain⟨b,rfl,hb⟩:=rv;exact q b H' R3.frz hb
end
abbrev yG(K:al)(v:Value)(f:ai)(n:Int):Bool:=match v with
 | .ref b=>(match K.lookup b with
  | some o=>(o.cls==.type "tuple")&&(match o.data with
   | .seq its _=>(match its.toList with
    | [.ref f',.int n' _]=>decide (f'=f)&&decide (n'=n)
    | _=>false)
   | _=>false)
  | none=>false)
 | _=>false
abbrev Cb(K:al):List Dj->List (Int×ai×Int)->Bool
 | [],[]=>true
 | e::es,(i,f,n)::r=>(match e.key with
  | .int k _=>decide (k=i)
  | _=>false)&&decide (e.hash=XN i)&&yG K e.val f n&&Cb K es r
 | _,_=>false
abbrev tabIn(K:al)(a:ai)(t:List (Int×ai×Int)):Bool:=match K.lookup a with
 | some o=>(o.cls==.type "dict")&&o.dict.isNone&&o.slots.isEmpty&&(match o.data with
  | .dict es _=>Cb K es.toList t
  | _=>false)
 | none=>false
theorem GQ{w:Wd}{v:Value}{f:Nat}{n:Int}(h:yG w.K v (w.fa f) n=true):∃x,RelV x v/\∀h0 H,gk w h0 H x (.ent f n):=by
 unfold yG at h;split at h
 . rename_i b;split at h
   . rename_i o ho;fail"b";split at h2
     . rename_i its m hd;split at h2
       . rename_i f' n' t hl;obtain⟨h3,h4⟩:=aF h2;haveI e3:=oD h3;haveI e4:=oD h4;subst e3 e4;refine⟨.ref b,rfl,λh0 H=>⟨b,rfl,.inr ⟨o,its,m,ho,eq_of_beq h1,hd,?_,?_⟩⟩⟩
         . have:its.size=its.toList.length:=rfl;rw[this,hl];show(2:Nat)<=bY;decide
         . rw[hl];exact .cons rfl (.cons ⟨_,rfl⟩ .nil)
       . cases h2
     . cases h2
   . cases h
 . cases h
theorem wn{K:al}:∀{es:List Dj} {t:List (Int×ai×Int)},Cb K es t=true->
 (∀e∈es,∃k,Value.isInt k e.key=true/\e.hash=XN k)/\
 (∀i,match t.lookup i with
  | some (f,n)=>∃u,(es.find? λe=>Value.isInt i e.key).map (·.val)=some u/\yG K u f n=true
  | none=>(es.find? λe=>Value.isInt i e.key).map (·.val)=none)
 | [],[],_=>⟨(λe h=>nomatch h),λi=>rfl⟩
 | e::es,(i,f,n)::r,h=>by
  have h':((match e.key with
   | .int k _=>decide (k=i)
   | _=>false)&&decide (e.hash=XN i)&&yG K e.val f n&&Cb K es r)=true:=h
  obtain⟨h1,h2⟩:=aF h';fail"c";fail"d";obtain⟨ih1,ih2⟩:=wn h2;have hk:∃t,e.key=.int i t:=by
   split at h5
   . rename_i k t ek;exact⟨t,by rw[ek,oD h5]⟩
   . cases h5
  obtain⟨t,hk⟩:=hk;refine⟨λx hx=>?_,λj=>?_⟩
  . rcases aE.mp hx with q | q
    . subst q;exact⟨i,by rw[hk];simp [Value.isInt],oD h6⟩
    . exact ih1 x q
  . haveI hj:=ih2 j;rw[bx];by_cases e1:j=i
    . subst e1;rw[beq_self_eq_true];refine⟨e.val,?_,h4⟩;rw[List.find?_cons_of_pos (by rw[hk];simp [Value.isInt])];rfl
    . rw[beq_eq_false_iff_ne.mpr e1,List.find?_cons_of_neg (by rw[hk];simp [Value.isInt];exact λz=>e1 (by lia))];exact hj
 | [],_::_,h=>by cases h
 | _::_,[],h=>by cases h
theorem sU{β γ:Type}(f:β->γ)(i:Int):∀t:List (Int×β),(t.map λp=>(p.1,f p.2)).lookup i=(t.lookup i).map f
 | []=>rfl
 | (k,b)::r=>by
  rw[ax,bx,bx];cases i==k with
  | true=>rfl
  | false=>exact sU f i r
theorem VJ {w:Wd} {P:Program} {wl:World} {mg:Str->Option Value} {G:gH} {g:Nat} {n:Str} {a:ai} {t:List (Int×Nat×Int)} (hm:mg n=some (.ref a)) (hs:(a==tz)=false)
 (ht:tabIn w.K a (t.map λp=>(p.1,w.fa p.2.1,p.2.2))=true) (hG:G.d g=Qv t):VG w P wl mg G g n:=by
 unfold tabIn at ht;split at ht
 . rename_i o ho;obtain⟨h1,h2⟩:=aF ht;fail"c";fail"d";split at h2
   . rename_i es ep hd;obtain⟨f1,f2⟩:=wn h2;refine⟨a,λi=>(es.toList.find? λe=>Value.isInt i e.key).map (·.val),hm,hs,λh hK=>?_,λi p e=>?_,λi e=>?_⟩
     . refine⟨o,es,ep,hK a o ho,⟨eq_of_beq h5,?_,?_⟩,hd,λe he=>?_,λk=>?_⟩
       . exact m3.mp h6
       . exact Array.isEmpty_iff.mp h4
       . exact f1 e (Iq.mpr he)
       . show findBy Value.isInt es k=_;unfold findBy;rw[<-Lx]
     . rw[hG]at e;obtain⟨⟨k,m⟩,e1,e2⟩:=aP e;cases e2;have:=f2 i;have lk:(t.map λp=>(p.1,w.fa p.2.1,p.2.2)).lookup i=some (w.fa k,m):=by
        rw[sU (λq:Nat×Int=>(w.fa q.1,q.2)) i t,e1];rfl
       rw[lk]at this;obtain⟨u,q1,q2⟩:=this;obtain⟨x,r1,r2⟩:=GQ q2;exact⟨rfl,x,u,q1,r1,r2⟩
     . rw[hG]at e;have e1:t.lookup i=none:=by
        unfold Qv at e;cases q:t.lookup i with
        | none=>rfl
        | some z=>rw[q]at e;cases e
       have:=f2 i;have lk:(t.map λp=>(p.1,w.fa p.2.1,p.2.2)).lookup i=none:=by
        rw[sU (λq:Nat×Int=>(w.fa q.1,q.2)) i t,e1];rfl
       rw[lk]at this;exact this
   . cases h2
 . cases ht
section
variable {w:Wd} {P:Program} {wl:World} {mg:Str->Option Value} {base:Heap} {fns ms:List Str} {csl:List (Str×Int)} {ats:List Str} {cs:Nat->Option PV} {ds:Nat->Int->Option PV} {dsl:List Str} {mp mm:List (Str×Nat)}
theorem TC{mp:List (Str×Nat)}{mths:List Str}{j:Nat}(h:(mp.all λq=>decide (q.2=j->q.1∈mths))=true):∀m,(m,j)∈mp->m∈mths:=λm hm=>oD (bw.mp h _ hm) rfl
theorem Nb{G:gH}{N:List Str}{j k lv:Nat}(b:VH w P wl mg csl ats dsl cs ds)(hc:G.c=cs)(hd:G.d=ds)(tp:sT w P wl mg base fns mp G j lv)(tm:vz w P wl mg base ms mm G k lv)(hl:j<=fns.length)(hm:k<=ms.length):
 Zq ⟨fns,ms,csl,ats,N,j,k,false,dsl,mp,mm⟩ w G lv P wl mg base:=
 ⟨b.at_,λi n hi hn hne=>by
  obtain⟨f',fd',ps',F',r1,r2,r3⟩:=tp i n hi hn;exact⟨f',fd',ps',F',(r2 hne).1,(r2 hne).2,r1⟩,
  λi n z e=>by rw[hc];exact b.cs i n z e,b.blt,b.cls,b.noat,b.atnd,λi n hi hn hne=>by
   obtain⟨fd',ps',F',r1,r2,r3,r4⟩:=tm i n hi hn;exact⟨_,fd',ps',F',r2 hne,r4,r1⟩,(λh=>nomatch h),b.ds _ hd,λi m hi hm'=>by
   obtain⟨f',fd',ps',F',r1,r2,r3⟩:=tp i _ hi (ay (ba hi hl));exact⟨f',fd',ps',F',r3 m hm',r1⟩,λi m hi hm'=>by
   obtain⟨fd',ps',F',r1,r2,r3,r4⟩:=tm i _ hi (ay (ba hi hm));exact⟨_,fd',ps',F',r3 m hm',r1⟩⟩
end
end Sq
section
namespace L2
open PySem PySem.Spec PyProof.Rows
open PySem.W (WData Codec OpenSpec Well WellAll ReadsW ReadsAllW)
mutual
inductive Dw (K:al) (H:Hp):V->WData->Prop
 | non:Dw K H .non .none
 | bl (b:Bool):Dw K H (.bl b) (.bool b)
 | int (i:Int):Dw K H (.int i) (.int i)
 | str (x:Str):Dw K H (.str x) (.str x)
 | byt (b:Array UInt8):Dw K H (.byt b) (.bytes b.toList)
 | lst {a:ai} {xs:List V} {ds:List WData}:fj K H a xs->pD K H xs ds->Dw K H (.ref a) (.list ds)
 | tup {a:ai} {xs:List V} {ds:List WData}:lK K H a xs->pD K H xs ds->Dw K H (.ref a) (.tuple ds)
inductive pD (K:al) (H:Hp):List V->List WData->Prop
 | nil:pD K H [] []
 | cons {v:V} {vs:List V} {d:WData} {ds:List WData}:Dw K H v d->pD K H vs ds->pD K H (v::vs) (d::ds)
end
theorem Jr{K:al}{H:Hp}:∀ns:List Int,pD K H (ns.map V.int) (ns.map WData.int)
 | []=>.nil
 | n::r=>.cons (.int n) (Jr r)
theorem Js{K:al}{H:Hp}:∀(ns:List Int) (xs:List V),pD K H xs (ns.map WData.int)->xs=ns.map V.int
 | [],xs,h=>by
  cases h;rfl
 | n::r,xs,h=>by
  cases h with
  | cons h1 h2=>
   cases h1;rw[Js r _ h2]<;>rfl
section
variable {P:Program} {w:World} {K:al} {H:Hp} {h:Heap} {R:LB} {cl:Str->Option ai}
theorem VL{a:ai}{xs:List V}(hok:tQ P w H h)(KX:K.In h)(q:fj K H a xs):∃(its:List Value) (o:fB) (n:Nat),cv xs its/\h.get? a=some o/\o.cls=.type "list"/\o.data=.seq its.toArray n:=by
 rcases q with q | ⟨o,its,n,e,hc,_,hd,_,hv⟩
 . obtain⟨_,its,n,hv,e⟩:=(show iG P w H h a (.lst xs)from q.ok hok);exact⟨its,_,n,hv,e,rfl,rfl⟩
 . exact⟨its.toList,o,n,hv,KX _ _ e,hc,by simp [hd]⟩
theorem VM{a:ai}{xs:List V}(hok:tQ P w H h)(KX:K.In h)(q:lK K H a xs):∃(its:List Value) (o:fB) (n:Nat),cv xs its/\h.get? a=some o/\o.cls=.type "tuple"/\o.data=.seq its.toArray n:=by
 rcases q with q | ⟨o,its,n,e,hc,hd,_,hv⟩
 . obtain⟨_,its,hv,o,e,hc,n,hd⟩:=(show iG P w H h a (.tup xs)from q.ok hok);exact⟨its,o,n,hv,e,hc,hd⟩
 . exact⟨its.toList,o,n,hv,KX _ _ e,hc,by simp [hd]⟩
mutual
theorem Dw.reads(hok:tQ P w H h)(KX:K.In h):∀(d:WData) (v:V) (u:Value),Dw K H v d->RelV v u->∃as,vT R cl h u d as
 | .none,_,_,x,r=>by
  cases x;cases r;exact⟨_,vT.none⟩
 | .bool b,_,_,x,r=>by
  cases x;cases r;exact⟨_,vT.bool b⟩
 | .int i,_,_,x,r=>by
  cases x;obtain⟨t,rfl⟩:=r;exact⟨_,vT.int i t⟩
 | .str s,_,_,x,r=>by
  cases x;obtain⟨t,rfl⟩:=r;exact⟨_,vT.str s t⟩
 | .bytes b,_,_,x,r=>by
  cases x;obtain⟨t,rfl⟩:=r;exact⟨_,vT.bytes _ t⟩
 | .list ds,_,_,x,r=>by
  cases x with
  | lst hs ha=>
   cases r;obtain⟨its,o,n,rv,ho,hc,hd⟩:=VL hok KX hs;obtain⟨as,hr⟩:=Dw.readsAll hok KX ds _ its ha rv;exact⟨_,vT.list ho hc hd hr⟩
 | .tuple ds,_,_,x,r=>by
  cases x with
  | tup hs ha=>
   cases r;obtain⟨its,o,n,rv,ho,hc,hd⟩:=VM hok KX hs;obtain⟨as,hr⟩:=Dw.readsAll hok KX ds _ its ha rv;exact⟨_,vT.tuple ho hc hd hr⟩
 | .float _,_,_,x,_=>by cases x
 | .dict _,_,_,x,_=>by cases x
 | .bytearray _,_,_,x,_=>by cases x
 | .set _,_,_,x,_=>by cases x
 | .frozenset _,_,_,x,_=>by cases x
 | .obj _ _,_,_,x,_=>by cases x
theorem Dw.readsAll(hok:tQ P w H h)(KX:K.In h):∀(ds:List WData) (vs:List V) (us:List Value),pD K H vs ds->cv vs us->∃as,LV R cl h us ds as
 | [],_,_,x,r=>by
  cases x;cases r;exact⟨_,LV.nil⟩
 | d::ds,_,_,x,r=>by
  cases x with
  | cons h1 h2=>
   cases r with
   | cons r1 r2=>
    obtain⟨as,q1⟩:=Dw.reads hok KX d _ _ h1 r1;obtain⟨bs,q2⟩:=Dw.readsAll hok KX ds _ _ h2 r2;exact⟨_,LV.cons q1 q2⟩
end
end
mutual
abbrev Jt:WData->Bool
 | .none=>true
 | .bool _=>true
 | .int _=>true
 | .str _=>true
 | .bytes _=>true
 | .list xs=>wP xs
 | .tuple xs=>wP xs
 | _=>false
abbrev wP:List WData->Bool
 | []=>true
 | x::r=>Jt x&&wP r
end
theorem EA{α:Type}{f:α->WData}(h:∀a,Jt (f a)=true):∀l:List α,wP (l.map f)=true
 | []=>rfl
 | x::r=>by
  show(Jt (f x)&&wP (r.map f))=true;rw[h x,EA h r]<;>rfl
theorem qx:∀(c:Codec) (a:c.denote),Jt (c.enc a)=true
 | .unit,_=>rfl
 | .bool,_=>rfl
 | .int _ _,_=>rfl
 | .nat _ _,_=>rfl
 | .u8,_=>rfl
 | .bytes _ _,_=>rfl
 | .text _ _ _ _,_=>rfl
 | .list _ _ c,a=>EA (λx=>qx c x) a
 | .pair c d,a=>by
  show(Jt (c.enc a.1)&&(Jt (d.enc a.2)&&true))=true;rw[qx c a.1,qx d a.2]<;>rfl
 | .triple c d e,a=>by
  show(Jt (c.enc a.1)&&(Jt (d.enc a.2.1)&&(Jt (e.enc a.2.2)&&true)))=true;rw[qx c a.1,qx d a.2.1,qx e a.2.2]<;>rfl
 | .option c,none=>rfl
 | .option c,some x=>qx c x
theorem AR:∀(cs:List Codec) (a:Codec.denoteAll cs),wP (Codec.encAll cs a)=true
 | [],_=>rfl
 | c::cs,a=>by
  show(Jt (c.enc a.1)&&wP (Codec.encAll cs a.2))=true;rw[qx c a.1,AR cs a.2]<;>rfl
theorem sV:∀{xs:List WData} {d:WData},d∈xs->d.weight<=WData.weightAll xs
 | [],d,h=>absurd h (by simp)
 | x::r,d,h=>by
  show d.weight<=x.weight+1+WData.weightAll r;rcases aE.mp h with e | m
  . rw[e];lia
  . haveI z:=sV m;lia
abbrev EB:Value->V
 | .none=>.non
 | .bool b=>.bl b
 | .int i _=>.int i
 | .str x _=>.str x
 | .bytes b _=>.byt b
 | .ref a=>.ref a
 | _=>.non
abbrev KF(A:List ai):Value->Prop
 | .none=>True
 | .bool _=>True
 | .int _ _=>True
 | .str _ _=>True
 | .bytes _ _=>True
 | .ref a=>a∈A
 | _=>False
theorem KF.mono{A B:List ai}(h:∀a∈A,a∈B):∀{u:Value},KF A u->KF B u:=λ{u} x=>by
 cases u with
 | ref a=>exact h a x
 | none=>trivial
 | bool b=>trivial
 | int i t=>trivial
 | str s t=>trivial
 | bytes b t=>trivial
 | _=>exact dE x
theorem Nc{A:List ai}{u:Value}(x:KF A u):RelV (EB u) u:=by
 cases u with
 | ref a=>rfl
 | none=>rfl
 | bool b=>rfl
 | int i t=>exact⟨t,rfl⟩
 | str s t=>exact⟨t,rfl⟩
 | bytes b t=>exact⟨t,rfl⟩
 | _=>exact dE x
theorem nS{A:List ai}:∀{vs:List Value},(∀u∈vs,KF A u)->cv (vs.map EB) vs
 | [],_=>.nil
 | u::r,h=>.cons (Nc (h u (aI ..))) (nS λx hx=>h x (ao _ hx))
abbrev pE(h:Heap)(A:List ai)(a:ai):Prop:=∃vs:List Value,vs.length<=bY/\(∀u∈vs,KF A u)/\
 (h.get? a=some {cls:=.type "list",data:=.seq vs.toArray}\/h.get? a=some {cls:=.type "tuple",data:=.seq vs.toArray})
theorem pE.mono{h:Heap}{A B:List ai}{a:ai}(k:∀a∈A,a∈B)(x:pE h A a):pE h B a:=by
 obtain⟨vs,h1,h2,h3⟩:=x;exact⟨vs,h1,λu hu=>(h2 u hu).mono k,h3⟩
theorem mU{P:Params}{h:Heap}:∀{vs:List Value} {ds:List WData},tG P h vs ds->vs.length=ds.length
 | _,_,.nil=>rfl
 | _,_,.cons _ b=>by
  show _+1=_+1;rw[mU b]
theorem AS{P:Params}{h:Heap}{v:Value}{ds:List WData}(x:Well P h v (.list ds)):∃(a:ai) (vs:List Value),v=.ref a/\h.get? a=some {cls:=.type "list",data:=.seq vs.toArray}/\tG P h vs ds:=by
 cases x with
 | list ho hall=>exact⟨_,_,rfl,ho,hall⟩
theorem yH{P:Params}{h:Heap}{v:Value}{ds:List WData}(x:Well P h v (.tuple ds)):∃(a:ai) (vs:List Value),v=.ref a/\h.get? a=some {cls:=.type "tuple",data:=.seq vs.toArray}/\tG P h vs ds:=by
 cases x with
 | tuple ho hall=>exact⟨_,_,rfl,ho,hall⟩
theorem AT{P:Params}{h:Heap}{us:List Value}{d:WData}{ds:List WData}(x:tG P h us (d::ds)):∃(v:Value) (vs:List Value),us=v::vs/\Well P h v d/\tG P h vs ds:=by
 cases x with
 | cons a b=>exact⟨_,_,rfl,a,b⟩
theorem Ju{n:Nat}(h:n<=1048576):n<=bY:=bb h (by decide)
section
variable {P:Params} {h:Heap}
mutual
theorem area_one:∀(d:WData) (v:Value),Well P h v d->Jt d=true->d.weight<=1048576->∃A:List ai,KF A v/\∀a∈A,pE h A a
 | .none,_,x,_,_=>by
  cases x;exact⟨[],trivial,λa m=>absurd m (by simp)⟩
 | .bool b,_,x,_,_=>by
  cases x;exact⟨[],trivial,λa m=>absurd m (by simp)⟩
 | .int i,_,x,_,_=>by
  cases x;exact⟨[],trivial,λa m=>absurd m (by simp)⟩
 | .str s,_,x,_,_=>by
  cases x;exact⟨[],trivial,λa m=>absurd m (by simp)⟩
 | .bytes b,_,x,_,_=>by
  cases x;exact⟨[],trivial,λa m=>absurd m (by simp)⟩
 | .list ds,_,x,p,z=>by
  obtain⟨a,vs,rfl,ho,hall⟩:=AS x;have z2:WData.weightAll ds<=1048576:=z;obtain⟨A,h1,h2⟩:=uD ds _ hall p λd hd=>bb (sV hd) z2;have k:∀b∈A,b∈a::A:=λb hb=>ao _ hb;refine⟨a::A,aI ..,λb hb=>?_⟩;rcases aE.mp hb with e | m
  . rw[e];exact⟨vs,Ju (by rw[mU hall];exact bb (PySem.W.length_le_weightAllW ds) z2),λu hu=>(h1 u hu).mono k,.inl ho⟩
  . exact(h2 b m).mono k
 | .tuple ds,_,x,p,z=>by
  obtain⟨a,vs,rfl,ho,hall⟩:=yH x;have z2:WData.weightAll ds<=1048576:=z;obtain⟨A,h1,h2⟩:=uD ds _ hall p λd hd=>bb (sV hd) z2;have k:∀b∈A,b∈a::A:=λb hb=>ao _ hb;refine⟨a::A,aI ..,λb hb=>?_⟩;rcases aE.mp hb with e | m
  . rw[e];exact⟨vs,Ju (by rw[mU hall];exact bb (PySem.W.length_le_weightAllW ds) z2),λu hu=>(h1 u hu).mono k,.inr ho⟩
  . exact(h2 b m).mono k
 | .float _,_,_,p,_=>cK (show false=true from p)
 | .dict _,_,_,p,_=>cK (show false=true from p)
 | .bytearray _,_,_,p,_=>cK (show false=true from p)
 | .set _,_,_,p,_=>cK (show false=true from p)
 | .frozenset _,_,_,p,_=>cK (show false=true from p)
 | .obj _ _,_,_,p,_=>cK (show false=true from p)
theorem uD:∀(ds:List WData) (vs:List Value),tG P h vs ds->wP ds=true->(∀d∈ds,d.weight<=1048576)->∃A:List ai,(∀u∈vs,KF A u)/\∀a∈A,pE h A a
 | [],_,x,_,_=>by
  cases x;exact⟨[],λu m=>absurd m (by simp),λa m=>absurd m (by simp)⟩
 | d::ds,_,x,p,z=>by
  obtain⟨v,vs,rfl,x1,x2⟩:=AT x;have q:Jt d=true/\wP ds=true:=be.mp p;obtain⟨A,a1,a2⟩:=area_one d v x1 q.1 (z d (aI ..));obtain⟨B,b1,b2⟩:=uD ds vs x2 q.2 λe he=>z e (ao _ he);have kA:∀b∈A,b∈A++B:=λb hb=>bV.mpr (.inl hb);have kB:∀b∈B,b∈A++B:=λb hb=>bV.mpr (.inr hb);refine⟨A++B,λu hu=>?_,λb hb=>?_⟩
  . rcases aE.mp hu with e | m
    . rw[e];exact a1.mono kA
    . exact(b1 u m).mono kB
  . rcases bV.mp hb with m | m
    . exact(a2 b m).mono kA
    . exact(b2 b m).mono kB
end
end
abbrev Q5(o:fB):Option HO:=match o.data with
 | .seq vs _=>if(o.cls==Value.type "list")=true then some (.frz o (.lst (vs.toList.map EB)))else some (.frz o (.tup (vs.toList.map EB)))
 | _=>none
abbrev o0(K:al)(h:Heap)(A:List ai):Hp:=λb=>if b∈A then(if(K.lookup b).isNone=true then(h.get? b).bind Q5 else none)else none
abbrev EC(H:Hp):Prop:=∀b,H b=none\/∃o u,H b=some (.frz o u)
theorem ED(vs:List Value):Q5 {cls:=.type "list",data:=.seq vs.toArray}=some (.frz {cls:=.type "list",data:=.seq vs.toArray} (.lst (vs.map EB))):=by
 show(if(Value.type "list"==Value.type "list")=true then some (HO.frz {cls:=.type "list",data:=.seq vs.toArray} (.lst (vs.toArray.toList.map EB)))else some (HO.frz {cls:=.type "list",data:=.seq vs.toArray} (.tup (vs.toArray.toList.map EB))))=_;rw[if_pos (beq_self_eq_true _)]
theorem EE(vs:List Value):Q5 {cls:=.type "tuple",data:=.seq vs.toArray}=some (.frz {cls:=.type "tuple",data:=.seq vs.toArray} (.tup (vs.map EB))):=by
 show(if(Value.type "tuple"==Value.type "list")=true then some (HO.frz {cls:=.type "tuple",data:=.seq vs.toArray} (.lst (vs.toArray.toList.map EB)))else some (HO.frz {cls:=.type "tuple",data:=.seq vs.toArray} (.tup (vs.toArray.toList.map EB))))=_;rw[if_neg (by decide)]
section
variable {P:Program} {w:World} {K:al} {h:Heap} {A:List ai}
theorem xn{b:ai}{o:fB}(hb:b∈A)(hk:K.lookup b=none)(e:h.get? b=some o):o0 K h A b=Q5 o:=by
 unfold o0;rw[if_pos hb,hk,if_pos (show(none:Option fB).isNone=true from rfl),e]<;>rfl
theorem Q6{b:ai}{u:HO}(q:o0 K h A b=some u):b∈A/\K.lookup b=none:=by
 unfold o0 at q;by_cases hb:b∈A
 . rw[if_pos hb]at q;cases hk:K.lookup b with
   | none=>exact⟨hb,rfl⟩
   | some o=>
    rw[hk,if_neg (by simp)]at q;cases q
 . rw[if_neg hb]at q;cases q
theorem xo(ar:∀a∈A,pE h A a){b:ai}{u:HO}(q:o0 K h A b=some u):K.lookup b=none/\∃vs:List Value,vs.length<=bY/\(∀u∈vs,KF A u)/\
 ((h.get? b=some {cls:=.type "list",data:=.seq vs.toArray}/\u=.frz {cls:=.type "list",data:=.seq vs.toArray} (.lst (vs.map EB)))\/
  (h.get? b=some {cls:=.type "tuple",data:=.seq vs.toArray}/\u=.frz {cls:=.type "tuple",data:=.seq vs.toArray} (.tup (vs.map EB)))):=by
 obtain⟨hb,hk⟩:=Q6 q;obtain⟨vs,h1,h2,h3⟩:=ar b hb;refine⟨hk,vs,h1,h2,?_⟩;rcases h3 with e | e
 . rw[xn hb hk e,ED]at q;exact .inl ⟨e,(bv.inj q).symm⟩
 . rw[xn hb hk e,EE]at q;exact .inr ⟨e,(bv.inj q).symm⟩
theorem KG(ar:∀a∈A,pE h A a):EC (o0 K h A):=λb=>by
 cases q:o0 K h A b with
 | none=>exact .inl rfl
 | some u=>
  obtain⟨_,vs,_,_,⟨_,e⟩ | ⟨_,e⟩⟩:=xo ar q
  . exact .inr ⟨_,_,by rw[e]⟩
  . exact .inr ⟨_,_,by rw[e]⟩
theorem Q7(ar:∀a∈A,pE h A a):tQ P w (o0 K h A) h:=λb u q=>by
 obtain⟨_,vs,h1,h2,⟨e,rfl⟩ | ⟨e,rfl⟩⟩:=xo ar q
 . exact⟨e,by rw[ae];exact h1,vs,_,nS h2,e⟩
 . exact⟨e,by rw[ae];exact h1,vs,nS h2,_,e,rfl,_,rfl⟩
theorem xp{c c':Value}{vs us:List Value}(e:(some {cls:=c,data:=.seq vs.toArray}:Option fB)=some {cls:=c',data:=.seq us.toArray}):c=c'/\vs=us:=by
 haveI e1:=bv.inj e;have e2:c=c':=congrArg fB.cls e1;have e3:ZQ.seq vs.toArray=ZQ.seq us.toArray:=congrArg fB.data e1;injection e3 with e4
 refine⟨e2,?_⟩;haveI e5:=congrArg Xr e4;simpa using e5
theorem a1G(KX:K.In h)(ar:∀a∈A,pE h A a){a:ai}{vs:List Value}(ha:a∈A)(e:h.get? a=some {cls:=.type "list",data:=.seq vs.toArray}):(∀u∈vs,KF A u)/\fj K (o0 K h A) a (vs.map EB):=by
 obtain⟨us,h1,h2,h3⟩:=ar a ha;have hu:us=vs:=by
  rcases h3 with q | q
  . rw[e]at q;exact(xp q).2.symm
  . rw[e]at q;exact absurd (Value.type.inj (xp q).1) (by decide)
 subst hu;refine⟨h2,?_⟩;cases hk:K.lookup a with
 | none=>exact .inl (.inr ⟨_,by rw[xn ha hk e,ED]⟩)
 | some o=>
  haveI e2:=KX a o hk;rw[e]at e2;obtain rfl:=bv.inj e2;exact .inr ⟨_,us.toArray,_,hk,rfl,rfl,rfl,by rw[aK];exact h1,by simpa using nS h2⟩
theorem a1H(KX:K.In h)(ar:∀a∈A,pE h A a){a:ai}{vs:List Value}(ha:a∈A)(e:h.get? a=some {cls:=.type "tuple",data:=.seq vs.toArray}):(∀u∈vs,KF A u)/\lK K (o0 K h A) a (vs.map EB):=by
 obtain⟨us,h1,h2,h3⟩:=ar a ha;have hu:us=vs:=by
  rcases h3 with q | q
  . rw[e]at q;exact absurd (Value.type.inj (xp q).1) (by decide)
  . rw[e]at q;exact(xp q).2.symm
 subst hu;refine⟨h2,?_⟩;cases hk:K.lookup a with
 | none=>exact .inl (.inr ⟨_,by rw[xn ha hk e,EE]⟩)
 | some o=>
  haveI e2:=KX a o hk;rw[e]at e2;obtain rfl:=bv.inj e2;exact .inr ⟨_,us.toArray,_,hk,rfl,rfl,by rw[aK];exact h1,by simpa using nS h2⟩
mutual
theorem dw_one{Pm:Params}(KX:K.In h)(ar:∀a∈A,pE h A a):∀(d:WData) (v:Value),Well Pm h v d->Jt d=true->KF A v->Dw K (o0 K h A) (EB v) d
 | .none,_,x,_,_=>by
  cases x;exact .non
 | .bool b,_,x,_,_=>by
  cases x;exact .bl b
 | .int i,_,x,_,_=>by
  cases x;exact .int i
 | .str s,_,x,_,_=>by
  cases x;exact .str s
 | .bytes b,_,x,_,_=>by
  cases x;haveI z:=Dw.byt (K:=K) (H:=o0 K h A) b.toArray;exact z
 | .list ds,_,x,p,hu=>by
  obtain⟨a,vs,rfl,ho,hall⟩:=AS x;obtain⟨h2,hs⟩:=a1G KX ar hu ho;exact .lst hs (Cc KX ar ds _ hall p h2)
 | .tuple ds,_,x,p,hu=>by
  obtain⟨a,vs,rfl,ho,hall⟩:=yH x;obtain⟨h2,hs⟩:=a1H KX ar hu ho;exact .tup hs (Cc KX ar ds _ hall p h2)
 | .float _,_,_,p,_=>cK (show false=true from p)
 | .dict _,_,_,p,_=>cK (show false=true from p)
 | .bytearray _,_,_,p,_=>cK (show false=true from p)
 | .set _,_,_,p,_=>cK (show false=true from p)
 | .frozenset _,_,_,p,_=>cK (show false=true from p)
 | .obj _ _,_,_,p,_=>cK (show false=true from p)
theorem Cc{Pm:Params}(KX:K.In h)(ar:∀a∈A,pE h A a):∀(ds:List WData) (vs:List Value),tG Pm h vs ds->wP ds=true->(∀u∈vs,KF A u)->pD K (o0 K h A) (vs.map EB) ds
 | [],_,x,_,_=>by
  cases x;exact .nil
 | d::ds,_,x,p,hu=>by
  obtain⟨v,vs,rfl,x1,x2⟩:=AT x;have q:Jt d=true/\wP ds=true:=be.mp p;exact .cons (dw_one KX ar d v x1 q.1 (hu _ (aI ..))) (Cc KX ar ds vs x2 q.2 λu m=>hu u (ao _ m))
end
end
theorem KH {P:Program} {w:World} {K:al} {mg mb:Str->Option Value} {CX:Ke} {k:Nat} {fa:ai} {fd:dJ} {ps:List Str} {sp:Sp} {s₁:Shared} {vals:List Value} {ds:List WData} {R:LB} {cl:Str->Option ai} {d0:WData}
 (KX:K.In s₁.heap) (hns:s₁.heap.Ns mainGlobals mg) (hb:s₁.heap.Ns builtinsNs mb) (hbb:∀x:Str,x≠"__name__"->mb x=jf x) (hlim:s₁.heap.NoLimit) (hg:s₁.gens=#[])
 (hwl:tG w.params s₁.heap vals ds) (hpl:wP ds=true) (hwt:∀d∈ds,d.weight<=1048576) (hr:je k F0)
 (F:∀base:Heap,K.In base->base.Ns mainGlobals mg->gC P w K mg base CX k fa fd ps sp) (hbind:∀(s:Shared) (us:List Value),us.length=ps.length->FV s fd ⟨us,[]⟩ (ps.zip us)) (hlen:ds.length=ps.length)
 (hsp:∀(H:Hp) (xs:List V),EC H->pD K H xs ds->sp xs H (λv H'=>Dw K H' v d0) λ_ _ _=>False)
 (hCX:∀H e s',CX [] H s₁ (λ_ _ _=>False) e s'->False):
 Ad (bF P w) F0 (.call (.ref fa) ⟨vals,[]⟩) (λr s'=>∃u as,r=.ok (.ret u)/\vT R cl s'.heap u d0 as/\OldK s₁.heap s'.heap/\s'.os=s₁.os/\Ac s'.gens) s₁:=by
 obtain⟨A,ho,ar⟩:=uD ds vals hwl hpl hwt;have hO:EC (o0 K s₁.heap A):=KG ar;have hok:tQ P w (o0 K s₁.heap A) s₁.heap:=Q7 ar;haveI hS:=Cc KX ar ds vals hwl hpl ho;haveI hV:=nS ho;have hK:∀b u,o0 K s₁.heap A b=some u->K.lookup b=none:=λb u q=>(xo ar q).1;have noA:∀{b:ai} {o:fB} {es:Array Dj} {ep:Nat},s₁.heap.get? b=some o->o.data=.dict es ep->o0 K s₁.heap A b=none:=λ{b o es ep} e d=>by
  cases q:o0 K s₁.heap A b with
  | none=>rfl
  | some u=>
   obtain⟨_,vs,_,_,⟨e2,_⟩ | ⟨e2,_⟩⟩:=xo ar q
   . rw[e2]at e;cases e;have d':ZQ.seq vs.toArray _=ZQ.dict es ep:=d;cases d'
   . rw[e2]at e;cases e;have d':ZQ.seq vs.toArray _=ZQ.dict es ep:=d;cases d'
 generalize o0 K s₁.heap A=H at hO hok hS hK noA;have dQ:∀{b:ai} {o:fB},s₁.heap.get? b=some o->H b=none->(Bl s₁.heap H).get? b=some o:=λe n=>L0 e n;have nsK:∀{b:ai} {m:Str->Option Value},s₁.heap.Ns b m->(Bl s₁.heap H).Ns b m:=λ{b m} ⟨o,es,ep,e,d,r⟩=>⟨o,es,ep,dQ e (noA e d),d,r⟩;have nK:∀b o,K.lookup b=some o->H b=none:=λb o e=>by
  cases q:H b with
  | none=>rfl
  | some u=>
   rw[hK b u q]at e;cases e
 have hKb:K.In (Bl s₁.heap H):=λb o e=>dQ (KX b o e) (nK b o e);have hM:Mod K mg (Bl s₁.heap H):=⟨hKb,nsK hns,⟨mb,nsK hb,hbb⟩,let⟨mc,h1,h2⟩:=hlim;⟨mc,nsK h1,h2⟩⟩;have e0:Ge P w K mg (Bl s₁.heap H) F0 [] s₁ H:=⟨rfl,hM,λb o e=>PU e,mz (J3 _ _),trivial,λb hb=>absurd (show b∈([]:List ai)from hb) (by simp),hok,.of_eq hg⟩;have hl:vals.length=ps.length:=by rw[mU hwl];exact hlen
 refine Ae ((F _ hKb (nsK hns)).run F0 [] s₁ H ⟨vals,[]⟩ vals (vals.map EB) _ _ hr e0 (hbind s₁ vals hl) hV (hsp H _ hO hS)) λr s' x=>?_;cases r with
 | error e=>exact(hCX H e s' x).elim
 | ok fl=>
  cases fl with
  | next=>exact dE x
  | brk=>exact dE x
  | cont=>exact dE x
  | ret u=>
   obtain⟨v,H',os,bare,un,hok',r',q⟩:=x;have kept:∀b o,s₁.heap.get? b=some o->s'.heap.get? b=some o:=λb o e=>by
    cases q2:H b with
    | none=>exact un.keep b o e q2 (by intro z;exact absurd (show b∈([]:List ai)from z) (by simp)) (by simp)
    | some u2=>
     rcases hO b with z | ⟨ob,u3,z⟩
     . rw[q2]at z;cases z
     . haveI z2:=un.frzs b ob _ z;obtain⟨e1,_⟩:=hok b _ z;obtain⟨e2,_⟩:=hok' b _ z2;rw[e]at e1;cases e1;exact e2
   have KX':K.In s'.heap:=λb o e=>kept b o (KX b o e);obtain⟨as,hrd⟩:=Dw.reads (R:=R) (cl:=cl) hok' KX' d0 v u q r';exact⟨u,as,rfl,hrd,OldK.of_keep kept,os,bare⟩
theorem yI{ds:List WData}(h:WData.layableAll ds=true):∀d∈ds,d.weight<=1048576:=λd hd=>
 (PySem.W.layableW_iff.mp (bw.mp h d hd)).2.2
theorem yJ:∀(cs:List Codec) (a:Codec.denoteAll cs),(Codec.encAll cs a).length=cs.length
 | [],_=>rfl
 | c::cs,a=>by
  show(Codec.encAll cs a.2).length+1=cs.length+1;rw[yJ cs a.2]
theorem KI {r:OpenSpec} {k:Nat} {q:Program} {loose:List Str} {XP:(Str->Option Value)->Heap->Prop} {YP:World->Heap->Prop} {d:DefRec} {K:Params->al} {CX:World->Ke} {ps:List Str} {sp:World->Sp}
 (hwell:r.wellSaid=true) (hdf:d.params.defaults=[]) (hlen:r.args.length=ps.length) (hr:je k F0)
 (hY:∀(w:World) (h:Heap),YP w h->(K w.params).In h)
 (F:∀(w:World) (mg:Str->Option Value) (fa:ai) (h:Heap),YP w h->(K w.params).In h->h.Ns mainGlobals mg->mg d.name=some (.ref fa)->
  ∃fd:dJ,(∀(s:Shared) (us:List Value),us.length=ps.length->FV s fd ⟨us,[]⟩ (ps.zip us))/\
   ∀base:Heap,(K w.params).In base->base.Ns mainGlobals mg->gC r.prog w (K w.params) mg base (CX w) k fa fd ps (sp w))
 (hsp:∀(w:World) (H:Hp) (xs:List V) (a:Codec.denoteAll r.args),EC H->Codec.withinAll r.args a=true->Codec.app r.args r.asked a=true->pD (K w.params) H xs (Codec.encAll r.args a)->
  sp w xs H (λv H'=>Dw (K w.params) H' v (r.ret.enc (Codec.app r.args r.f a))) λ_ _ _=>False)
 (hCX:∀(w:World) (H:Hp) (s:Shared) (e:Value) (s':Shared),CX w [] H s (λ_ _ _=>False) e s'->False):
 Pv q loose XP YP r d [] (λf vs=>LC f vs):=by
 intro w s_0 s₁ mg mb G Y fa o pm cd doc dV kV ho hd hcd hD hmg hg args vals as hpre hlay hrd hwl hlo;obtain⟨a,e1,e2⟩:=PySem.W.os_pre_some hpre;obtain⟨e3,hwi⟩:=Codec.encAll_of_decAll r.args args a e1;subst e3;haveI KX:=hY w _ Y;obtain⟨fd,hb,hF⟩:=F w mg fa _ Y KX G.T.g hmg;refine PySem.W.enter_call (Ae (KH (R:=[]) (cl:=classAt s_0.heap) (d0:=r.ret.enc (Codec.app r.args r.f a)) KX G.T.g G.T.b G.T.builtins G.T.nolimit hg hwl (AR _ _) (yI hlay) hr hF hb (by rw[yJ];exact hlen)
  (λH xs hO hS=>hsp w H xs a hO hwi e2 hS) λH e s'=>hCX w H s₁ e s') λr' s' hq=>?_)
 obtain⟨u,as',rfl,h1,h2,h3,h4⟩:=hq;exact⟨.inl ⟨u,_,as',rfl,λ_=>rfl,h1,(OpenSpec.post_iff hwell hwi _ _).mpr rfl,λz=>cK (show false=true from z)⟩,h2,h3,h4⟩
theorem GR {r:OpenSpec} {k:Nat} {q:Program} {loose:List Str} {XP:(Str->Option Value)->Heap->Prop} {YP:World->Heap->Prop} {d:DefRec} {K:Params->al} {CX:Ke} {ps:List Str} {sp:al->Sp}
 (hwell:r.wellSaid=true) (hdf:d.params.defaults=[]) (hlen:r.args.length=ps.length) (hr:je k F0)
 (hY:∀(w:World) (h:Heap),YP w h->(K w.params).In h)
 (F:∀(w:World) (mg:Str->Option Value) (fa:ai) (h:Heap),YP w h->(K w.params).In h->h.Ns mainGlobals mg->mg d.name=some (.ref fa)->
  ∃fd:dJ,(∀(s:Shared) (us:List Value),us.length=ps.length->FV s fd ⟨us,[]⟩ (ps.zip us))/\
   ∀base:Heap,(K w.params).In base->base.Ns mainGlobals mg->gC r.prog w (K w.params) mg base CX k fa fd ps (sp (K w.params)))
 (hsp:∀(K:al) (H:Hp) (xs:List V) (a:Codec.denoteAll r.args),EC H->Codec.withinAll r.args a=true->Codec.app r.args r.asked a=true->pD K H xs (Codec.encAll r.args a)->
  sp K xs H (λv H'=>Dw K H' v (r.ret.enc (Codec.app r.args r.f a))) λ_ _ _=>False)
 (hCX:∀(H:Hp) (s:Shared) (e:Value) (s':Shared),CX [] H s (λ_ _ _=>False) e s'->False):
 Pv q loose XP YP r d [] (λf vs=>LC f vs):=
 KI (K:=K) (CX:=λ_=>CX) (sp:=λw=>sp (K w.params)) hwell hdf hlen hr hY F (λw H xs a h1 h2 h3 h4=>hsp (K w.params) H xs a h1 h2 h3 h4) λ_ H s e s'=>hCX H s e s'
end L2
end
namespace Sq
open PySem PySem.W PyProof.Rows L2
theorem TD:∀{ps:List Str} {us:List Value},us.length=ps.length->∀n∈ps,((ps.zip us).lookup n).isNone=false
 | [],_,_,n,hn=>nomatch hn
 | p::ps,u::us,h,n,hn=>by
  rw[ji,bx];cases e:n==p with
  | true=>rfl
  | false=>
   rcases aE.mp hn with rfl | k
   . rw[beq_self_eq_true]at e;cases e
   . exact TD (by simpa using h) n k
 | p::ps,[],h,n,hn=>by cases h
theorem TF:∀{ps:List Str} {us:List Value} {sl:List (Str×Value)},us.length=ps.length->ps.Nodup->(∀n∈ps,sl.lookup n=(ps.zip us).lookup n)->ps.filterMap (λn=>XT (λx=>(n,x)) (sl.lookup n))=ps.zip us
 | [],[],_,_,_,_=>rfl
 | p::ps,u::us,sl,h,nd,k=>by
  obtain⟨n1,n2⟩:=dA.mp nd;have e:sl.lookup p=some u:=by rw[k p aI,ji,bx,beq_self_eq_true]
  rw[mi,e,ji];show(p,u)::_=_;rw[TF (us:=us) (by simpa using h) n2 λn hn=>by
   have e':(n==p)=false:=beq_eq_false_iff_ne.mpr λz=>n1 (by rw[<-z];exact hn);rw[k n (ao _ hn),ji,bx,e']]
 | p::ps,[],_,h,_,_=>by cases h
 | [],_::_,_,h,_,_=>by cases h
theorem yK{fd:dJ}{ps:List Str}{us:List Value}(h1:fd.params.posonlyargs=[])(h2:fd.params.args.map (λx=>x.arg)=ps)(h3:fd.params.vararg=none)(h4:fd.params.kwonlyargs=[])(h5:fd.params.kwarg=none)(hd:fd.defaults=.none)(nd:ps.Nodup)(hl:us.length=ps.length):
 SS fd ⟨us,[]⟩=pure (ps.zip us):=by
 have e1:(ps.filter λn=>((ps.zip us).lookup n).isNone)=[]:=pT.mpr λn hn=>by rw[TD hl n hn];decide
 haveI e2:=TF hl nd (λn _=>rfl);have e3:seqItems? Value.none=pure none:=rfl;have e4:decide (us.length>ps.length)=false:=decide_eq_false (by lia);unfold SS;simp only[h1,h2,h3,h4,h5,hd,e3,gL,fb,cJ,Bf,pure_bind,e4,iy,og,Array.toList_empty,gZ,Z2,mE,List.drop_nil,PP,e1,List.isEmpty_nil,ol,iF,List.zip_nil_right,e2];rfl
structure Rc where
 x:Str
 qual:Str
 nm:Str
 mths:List Str
 st:Stmt
 ps:List Str
 N:List Str
 c:CS
 f:ai
abbrev XG(N ps:List Str)(sc:fV):Bool:=(match sc.kind with | .function=>true | _=>false)&&!sc.isCoroutine&&!sc.isGenerator&&decide N.Nodup&&decide (N.take ps.length=ps)&&ps.all (λx=>match sc.names.lookup x with | some .local=>true | some .cell=>true | _=>false)&&sc.names.all (λy=>match y.2 with | .free=>false | _=>true)
theorem Cd{N ps:List Str}{sc:fV}(h:XG N ps sc=true):jq N ps sc:=by
 unfold XG at h;simp only[aG,nZ,decide_eq_true_eq,bw]at h;obtain⟨⟨⟨⟨⟨⟨h1,h2⟩,h3⟩,h4⟩,h5⟩,h6⟩,h7⟩:=h;refine⟨?_,h2,h3,h4,h5,λx hx=>?_,λy hy e=>?_⟩
 . split at h1
   . assumption
   . cases h1
 . have:=h6 x hx;split at this
   . left;assumption
   . right;assumption
   . cases this
 . have:=h7 y hy;rw[e]at this;cases this
abbrev VN(a:Dm)(ps:List Str):Bool:=a.posonlyargs.isEmpty&&decide (a.args.map (λx=>x.arg)=ps)&&a.vararg.isNone&&a.kwonlyargs.isEmpty&&a.kwarg.isNone
abbrev uE(K:Frag)(f:ai):Option (Str×Str×Dm×FuncBody×fV×ai×List (Str×ai)×Value×ai):=match K.lookup f with
 | some ⟨_,_,.func d,_⟩=>some (d.name,d.qualname,d.params,d.body,d.scope,d.globals,d.closure,d.defaults,d.builtins)
 | _=>none
abbrev yL(r:Rc):Str×Str×Dm×FuncBody×fV×ai×List (Str×ai)×Value×ai:=(r.x,r.qual,mL r.st,.stmts (gT r.st),bW r.st,mainGlobals,[],.none,builtinsNs)
abbrev codeOf(K:Frag)(f:ai)(q:Str):Bool:=match K.lookup f with
 | some ⟨_,_,.func d,_⟩=>codeIn K d.code q
 | _=>false
abbrev EF(v:Option (Option Value))(f:ai):Bool:=match v with
 | some (some (.ref a))=>decide (a=f)
 | _=>false
theorem yM{v:Option (Option Value)}{f:ai}(h:EF v f=true):v=some (some (.ref f)):=by
 unfold EF at h;split at h
 . rw[oD h]
 . cases h
abbrev Q8(K:Frag)(C:ai)(r:Rc):Bool:=codeOf K r.f r.qual&&(decide (r.nm="")||EF (nsIn K mainGlobals r.nm) r.f)&&(r.mths.isEmpty||isFn K (.ref r.f))&&r.mths.all (λm=>EF (findIn K (.ref C) m) r.f)
theorem Ce{K:Frag}{r:Rc}(v:uE K r.f=some (yL r))(c:codeOf K r.f r.qual=true):∃fd,LM K r.x r.qual r.st r.f fd:=by
 unfold uE at v;unfold codeOf at c;split at v
 . rename_i oc od d osl hl;rw[hl]at c;obtain⟨n,q,pa,bo,sc,gl,cl,de,kd,doc,pm,an,co,ct,bu⟩:=d;haveI v':=bv.inj v;unfold yL at v';simp only[Prod.mk.injEq]at v';obtain⟨rfl,rfl,rfl,rfl,rfl,rfl,rfl,rfl,rfl⟩:=v';refine⟨_,⟨oc,od,kd,doc,pm,an,co,ct,osl,rfl,hl,c⟩,?_⟩;simp only[keepIn,hl]
 . cases v
theorem uF{K:Frag}{r:Rc}{fd:dJ}(F:LM K r.x r.qual r.st r.f fd)(a:VN (mL r.st) r.ps=true)(nd:r.ps.Nodup):Binds K fd r.ps []:=by
 unfold VN at a;simp only[aG,pG,decide_eq_true_eq,m3]at a;obtain⟨⟨⟨⟨h1,h2⟩,h3⟩,h4⟩,h5⟩:=a;exact F.binds λ_ _ _ _ _ _ us hl=>yK h1 h2 h3 h4 h5 rfl nd hl
theorem EG{N ps:List Str}{sc:fV}(S:jq N ps sc):ps.Nodup:=by
 have:=S.nd;rw[<-S.pre];exact this.sublist (Pr _ _)
structure Tx where
 FNS:List Str
 MS:List Str
 CST:List (Str×Int)
 ATS:List Str
 DS:List Str
 MP:List (Str×Nat)
 MM:List (Str×Nat)
abbrev ckP(T:Tx)(r:Rc)(j:Nat):Bool:=(B6 ⟨T.FNS,T.MS,T.CST,T.ATS,r.N,j,0,false,T.DS,T.MP,[]⟩ r.c).b (bW r.st).names (gT r.st)&&XG r.N r.ps (bW r.st)&&VN (mL r.st) r.ps&&T.MP.all (λq=>decide (q.2=j->q.1∈r.mths))
abbrev ckM(T:Tx)(J:Nat)(r:Rc)(j:Nat):Bool:=(B6 ⟨T.FNS,T.MS,T.CST,T.ATS,r.N,J,j,true,T.DS,T.MP,T.MM⟩ r.c).b (bW r.st).names (gT r.st)&&XG r.N r.ps (bW r.st)&&VN (mL r.st) r.ps&&T.MM.all (λq=>decide (q.2=j->q.1∈r.mths))
section
variable {w:Wd} {P:Program} {wl:World} {mg:Str->Option Value} {base:Heap} {T:Tx} {cs:Nat->Option PV} {ds:Nat->Int->Option PV} {n:Nat} {BP BM:Nat->rX} {RP RM:List Rc} {h:Heap}
theorem GS(X:w.K.In h)(G:h.Ns mainGlobals mg){r:Rc}(c:Q8 w.K w.C r=true)(hn:r.nm≠""):mg r.nm=some (.ref r.f):=by
 unfold Q8 at c;simp only[aG,zQ,decide_eq_true_eq]at c;exact mg_of X G (yM (c.1.1.2.resolve_left hn))
theorem Cf{r:Rc}(c:Q8 w.K w.C r=true)(kp:keepIn w.K (.ref r.f)=true):∀m∈r.mths,vd w.K w.C m r.f:=λm hm=>by
 unfold Q8 at c;simp only[aG,zQ,bw]at c;refine⟨yM (c.2 m hm),c.1.2.resolve_left λe=>?_,kp⟩;rw[pG.mp e]at hm;cases hm
theorem xr{r:Rc}(c:Q8 w.K w.C r=true):codeOf w.K r.f r.qual=true:=by
 unfold Q8 at c;simp only[aG]at c;exact c.1.1.1
theorem EH (b:VH w P wl mg T.CST T.ATS T.DS cs ds) (X:w.K.In h) (G:h.Ns mainGlobals mg) (hF:T.FNS=RP.map (·.nm)) (hB:∀j r,RP[j]?=some r->BP j=⟨r.ps.length,r.N.length,r.c⟩)
 (hv:∀r∈RP,uE w.K r.f=some (yL r)) (hc:∀r∈RP,Q8 w.K w.C r=true) (hk:∀j r,RP[j]?=some r->ckP T r j=true) {K:Nat}:
 ∀j,j<=RP.length->sT w P wl mg base T.FNS T.MP (GF cs ds n BP BM RP.length K) j j
 | 0,_=>sT.zero
 | j+1,hj=>by
  haveI ih:=EH b X G hF hB hv hc hk (K:=K) j (by lia);have hr:RP[j]?=some RP[j]:=ay hj;have hm:RP[j]∈RP:=xC hj;haveI k:=hk j _ hr;unfold ckP at k;simp only[aG]at k;obtain⟨⟨⟨k1,k2⟩,k3⟩,k4⟩:=k;haveI Sc:=Cd k2;obtain⟨fd,F⟩:=Ce (hv _ hm) (xr (hc _ hm));exact Zs (ms:=T.MS) (x:=RP[j].x) (qual:=RP[j].qual) (j:=j) (j':=j) (lv:=j) (mths:=RP[j].mths) b hj (aO _) ih (ih.up (zO _)) ⟨RP[j].f,fd,F,uF F k3 (EG Sc),λhn=>⟨GS X G (hc _ hm) hn,F.kp⟩,Cf (hc _ hm) F.kp⟩
   (by rw[hF,ak,hr];rfl) (TC k4) (λk hk=>by rw[hF,ae];exact hk) (hB j _ hr) Sc k1
theorem EI (b:VH w P wl mg T.CST T.ATS T.DS cs ds) (X:w.K.In h) (G:h.Ns mainGlobals mg) (hF:T.FNS=RP.map (·.nm)) (hM:T.MS=RM.map (·.nm)) (hB:∀j r,RM[j]?=some r->BM j=⟨r.ps.length,r.N.length,r.c⟩) (hfa:∀j r,RM[j]?=some r->w.fa j=r.f)
 (hv:∀r∈RM,uE w.K r.f=some (yL r)) (hc:∀r∈RM,Q8 w.K w.C r=true) (hk:∀j r,RM[j]?=some r->ckM T RP.length r j=true) (tp:sT w P wl mg base T.FNS T.MP (GF cs ds n BP BM RP.length RM.length) RP.length RP.length):
 ∀j,j<=RM.length->vz w P wl mg base T.MS T.MM (GF cs ds n BP BM RP.length RM.length) j (RP.length+j)
 | 0,_=>vz.zero
 | j+1,hj=>by
  haveI ih:=EI b X G hF hM hB hfa hv hc hk tp j (by lia);have hr:RM[j]?=some RM[j]:=ay hj;have hm:RM[j]∈RM:=xC hj;haveI k:=hk j _ hr;unfold ckM at k;simp only[aG]at k;obtain⟨⟨⟨k1,k2⟩,k3⟩,k4⟩:=k;haveI Sc:=Cd k2;obtain⟨fd,F⟩:=Ce (hv _ hm) (xr (hc _ hm));haveI hf:=hfa j _ hr;have d:Zr w mg RM[j].x RM[j].qual RM[j].st RM[j].ps RM[j].nm RM[j].mths j:=⟨fd,by rw[hf];exact F,uF F k3 (EG Sc),λhn=>by rw[hf];exact GS X G (hc _ hm) hn,λm hm'=>by rw[hf];exact Cf (hc _ hm) F.kp m hm'⟩;exact Zt (j:=j) (j':=j) (lv:=RP.length+j) (jd:=true) b hj (aO _) (λ_=>rfl) (tp.up (gz _ _)) ih (ih.up (zO _)) d
   (by rw[hM,ak,hr];rfl) (TC k4) (λk hk=>by rw[hF,ae];exact hk) (λk hk=>by rw[hM,ae];exact hk) (hB j _ hr) Sc k1
abbrev clB(K:Frag)(C:ai)(cn:Str)(T:Tx):Bool:=plainGet K C Str.empty&&hasDictIn K C&&plainOver K C&&(match findIn K (.ref C) "__setattr__" with | some (some (.builtin b))=>decide (b="object.__setattr__") | _=>false)&&makesIn K C&&keepIn K (.ref C)&&EF (nsIn K mainGlobals cn) C
 &&T.ATS.all (λf=>match findIn K (.ref C) f with | some none=>true | _=>false)
 &&T.CST.all (λq=>match nsIn K mainGlobals q.1 with | some (some (.int z _))=>decide (z=q.2) | _=>false)
 &&MW.all (λn=>match nsIn K mainGlobals n with | some none=>true | _=>false)
abbrev tbB(K:Frag)(fa:Nat->ai)(n:Str)(t:List (Int×Nat×Int)):Bool:=match nsIn K mainGlobals n with
 | some (some (.ref d))=>!(d==tz)&&tabIn K d (t.map λp=>(p.1,fa p.2.1,p.2.2))
 | _=>false
theorem VO {cn:Str} {TAB:List (List (Int×Nat×Int))} (X:w.K.In h) (G:h.Ns mainGlobals mg) (hat:w.at_=T.ATS) (hnd:T.ATS.Nodup) (hcs:∀i n z,T.CST[i]?=some (n,z)->cs i=some (.int z)) (hds:∀g,g<T.DS.length->ds g=Qv (TAB.getD g []))
 (c:clB w.K w.C cn T=true) (t:∀g n,T.DS[g]?=some n->tbB w.K w.fa n (TAB.getD g [])=true):VH w P wl mg T.CST T.ATS T.DS cs ds:=by
 unfold clB at c;simp only[aG,bw]at c;obtain⟨⟨⟨⟨⟨⟨⟨⟨⟨c1,c2⟩,c3⟩,c4⟩,c5⟩,c6⟩,c7⟩,c8⟩,c9⟩,c10⟩:=c;refine⟨hat,λi n z e=>⟨hcs i n z e,?_⟩,λn hn=>?_,⟨c1,c2,c3,?_⟩,λf hf=>?_,by rw[hat];exact hnd,λG' hG g n e=>?_⟩
 . have:=c9 _ (aL e);split at this
   . rename_i z' t' hz;have e2:z'=z:=oD this;subst e2;exact⟨t',mg_of X G hz⟩
   . cases this
 . have:=c10 n hn;split at this
   . rename_i hz;exact ns_none_of X G hz
   . cases this
 . split at c4
   . rename_i b' hz;rw[hz,oD c4]
   . cases c4
 . have:=c8 f hf;split at this
   . rename_i hz;exact hz
   . cases this
 . have:=t g n e;unfold tbB at this;split at this
   . rename_i d hz;rw[aG,nZ]at this;exact VJ (t:=TAB.getD g []) (mg_of X G hz) this.1 this.2 (by rw[hG];exact hds g (az.mp e).1)
   . cases this
end
end Sq
namespace Sq
abbrev zl(l:List Nat):List Int:=l.map λ(x:Nat)=>(x:Int)
theorem fu(l:List Nat):(zl l).length=l.length:=ae _
theorem yN(a b:List Nat):zl (a++b)=zl a++zl b:=bQ
theorem VP(l:List Nat)(i v:Nat):zl (l.set i v)=(zl l).set i (v:Int):=wC
theorem Nd(l:List Nat)(i:Nat):(zl l)[i]?=XT (λ(x:Nat)=>(x:Int)) l[i]?:=ak
theorem GT(v:PV)(l:Loc):getL (some v::l) 0=some v:=rfl
theorem GU(o:Option PV)(l:Loc)(i:Nat):getL (o::l) (i+1)=getL l i:=rfl
theorem bs{α β:Type}(a:α)(f:α->Option β):(some a).bind f=f a:=rfl
theorem om{α β:Type}(a:α)(f:α->β):(some a).map f=some (f a):=rfl
class Kcz(α:Type)where k:α
abbrev bdb{α β:Type}[h:Kcz (α->Option β)](x:Option α):Option β:=x.bind h.k
abbrev bdm{α β:Type}[h:Kcz (α->β)](x:Option α):Option β:=x.map h.k
abbrev bdc[f:Kcz (PV->Option (Option PV))](l:List PV):=jr f.k l
theorem ba0{α β:Type}(x:Option α)(f:α->Option β):x.bind f=@bdb _ _ ⟨f⟩ x:=rfl
theorem ba1{α β:Type}(x:Option α)(f:α->β):x.map f=@bdm _ _ ⟨f⟩ x:=rfl
theorem ba4(f l):jr f l=@bdc ⟨f⟩ l:=rfl
theorem ba6{α β:Type}(a:α)(f:α->Option β):@bdb _ _ ⟨f⟩ (some a)=f a:=rfl
theorem ba7{α β:Type}(a:α)(f:α->β):@bdm _ _ ⟨f⟩ (some a)=some (f a):=rfl
theorem ba8{α β γ:Type}(x:Option α)(f:α->Option β)(g:β->Option γ):@bdb _ _ ⟨g⟩ (@bdb _ _ ⟨f⟩ x)=@bdb _ _ ⟨λa=>(f a).bind g⟩ x:=by cases x<;>rfl
theorem Cg(n:Nat):(XU n:Int)=((XU n:Nat):Int):=rfl
theorem GV(a b:Nat):sJ .add (.int a) (.int b)=some (.int ((a+b:Nat):Int)):=rfl
theorem vA(a b:Int):sJ .add (.int a) (.int b)=some (.int (a+b)):=rfl
theorem pd(a b:Int):sJ .sub (.int a) (.int b)=some (.int (a-b)):=rfl
theorem Ch{a b:Nat}(h:b<=a):sJ .sub (.int a) (.int b)=some (.int ((a-b:Nat):Int)):=by
 rw[pd,u6 h]
theorem Ci{i j:Int}(h:(-18446744073709551616<i/\i<18446744073709551616)\/(-18446744073709551616<j/\j<18446744073709551616)):sJ .mul (.int i) (.int j)=some (.int (i*j)):=if_pos h
theorem Cj{i j:Nat}(h:i<18446744073709551616\/j<18446744073709551616):sJ .mul (.int i) (.int j)=some (.int ((i*j:Nat):Int)):=by
 rw[Ci (by lia)];rfl
theorem sW{i j:Int}(h:0<j):sJ .mod (.int i) (.int j)=some (.int (i%j)):=if_pos h
theorem GW{i j:Nat}(h:0<j):sJ .mod (.int i) (.int j)=some (.int ((i%j:Nat):Int)):=by
 rw[sW (by lia)];rfl
theorem Ck{i j:Nat}(h:0<j/\j<1073741824):sJ .fdiv (.int i) (.int j)=some (.int ((i/j:Nat):Int)):=by
 show(if 0<(j:Int)/\(j:Int)<1073741824 then some (PV.int ((i:Int)/j))else none)=_;rw[if_pos (by lia)];rfl
theorem yO{xs ys:List Int}(h:xs.length+ys.length<=16000000):sJ .add (.il xs) (.il ys)=some (.il (xs++ys)):=if_pos h
theorem Nf(a b:Nat):u5 .lt (.int a) (.int b)=some (decide (a<b)):=by show some (decide ((a:Int)<b))=_;simp
theorem Ng(a b:Nat):u5 .le (.int a) (.int b)=some (decide (a<=b)):=by show some (decide ((a:Int)<=b))=_;simp
theorem Nh(a b:Nat):u5 .gt (.int a) (.int b)=some (decide (b<a)):=by show some (decide ((b:Int)<a))=_;simp
theorem Ni(a b:Nat):u5 .ge (.int a) (.int b)=some (decide (b<=a)):=by show some (decide ((b:Int)<=a))=_;simp
theorem Nj(a b:Nat):u5 .eq (.int a) (.int b)=some (decide (a=b)):=by show some (decide ((a:Int)=b))=_;simp [d9]
theorem Nk(a b:Nat):u5 .ne (.int a) (.int b)=some (!decide (a=b)):=by show some (!decide ((a:Int)=b))=_;simp [d9]
theorem Nl{a:Nat}{l:List Nat}:(a:Int)∈zl l↔a∈l:=by simp [zl,d9]
theorem GX(a:Nat)(l:List Nat):u5 .mem (.int a) (.il (zl l))=some (decide (a∈l)):=by show some (decide ((a:Int)∈zl l))=_;simp [zl,d9]
theorem xt(a:Nat)(l:List Nat):u5 .nmem (.int a) (.il (zl l))=some (!decide (a∈l)):=by show some (!decide ((a:Int)∈zl l))=_;simp [zl,d9]
theorem Jv{n i:Nat}(h:i<n):ixN n (i:Int)=some i:=by
 unfold ixN;rw[if_pos (by lia),if_pos (by lia)];rfl
theorem rK{α:Type}{xs:List α}{i:Nat}:atI xs (i:Int)=xs[i]?:=by
 unfold atI ixN;by_cases h:i<xs.length
 . rw[if_pos (by lia),if_pos (by lia)];rfl
 . rw[if_pos (by lia),if_neg (by lia)];simp;lia
theorem VQ(l:List Nat)(i:Nat):iI (.il (zl l)) (.int i)=(l[i]?).map λx=>.int x:=by
 show(atI _ _).map _=_;rw[rK,Nd];cases l[i]?<;>rfl
theorem cu{l:List Nat}{i v:Nat}(h:l[i]?=some v):iI (.il (zl l)) (.int i)=some (.int v):=by
 rw[VQ,h];rfl
theorem Cm(l:List Nat):mx .len (.il (zl l))=some (.int (l.length:Nat)):=by rw[<-fu];rfl
abbrev wo{α:Type}(f:α->Option (Option PV)):List α->Option (List PV)
 | []=>some []
 | x::r=>(f x).bind λo=>(wo f r).bind λl=>some (match o with
  | some y=>y::l
  | none=>l)
theorem AU{α:Type}(f:PV->Option (Option PV))(g:α->PV):∀l:List α,jr f (l.map g)=wo (λx=>f (g x)) l
 | []=>rfl
 | x::r=>by rw[ax];unfold jr wo;rw[AU f g r]<;>rfl
theorem yP{α:Type}{f:α->Option (Option PV)}(c:α->Bool)(e:α->PV):∀{l:List α},(∀x∈l,f x=some (if c x then some (e x)else none))->wo f l=some ((l.filter c).map e)
 | [],_=>rfl
 | x::r,h=>by
  unfold wo;rw[h x (by simp),yP c e (l:=r) λy hy=>h y (by simp [hy])];by_cases q:c x=true<;>simp [q]
theorem VR(l:List Int):nr .I (l.map .int)=some (.il l):=by
 show(fH dB (l.map PV.int)).map PV.il=_;have:∀l:List Int,fH dB (l.map PV.int)=some l:=by
  intro l;induction l with
  | nil=>rfl
  | cons x r ih=>rw[ax];unfold fH;rw[ih];rfl
 rw[this];rfl
theorem VS{α:Type}(l:List α)(e:α->Nat):nr .I (l.map λx=>.int (e x:Nat))=some (.il (zl (l.map e))):=by
 rw[<-VR];simp [zl,tN]
theorem Nm(n:Nat):gf 0 n=zl (af n):=by
 unfold gf zl;congr 1;funext i;simp
theorem Nn(a n:Nat):gf (a:Int) n=zl ((af n).map λi=>i+a):=by
 unfold gf zl;rw[cG];congr 1;funext i;simp;lia
theorem uG(l:List Nat):items (.il (zl l))=some (l.map λx=>.int (x:Nat)):=by
 show some ((zl l).map PV.int)=_;simp [zl,tN]
theorem No(l:List Nat):(zl l).map PV.int=l.map λx=>.int (x:Nat):=by simp [zl,tN]
theorem VT(n:Nat):(n<=mq)=(n<=16000000):=rfl
theorem qy{α β:Type}{step:PV->Sx->Option Sx}{body:Sx->Option (Fl×Sx)}{g:α->PV}(P:β->Sx->Prop)(f:β->α->β):
 ∀{l:List α} {b:β} {S:Sx},(∀b S x,x∈l->P b S->∃S',(step (g x) S).bind body=some (.next,S')/\P (f b x) S')->P b S->∃S',hC step body (l.map g) S=some (.next,S')/\P (l.foldl f b) S'
 | [],b,S,_,h=>⟨S,rfl,h⟩
 | x::r,b,S,k,h=>by
  obtain⟨S',e,h'⟩:=k b S x (by simp) h;obtain⟨S2,e2,h2⟩:=qy P f (l:=r) (λb S y hy=>k b S y (by simp [hy])) h';refine⟨S2,?_,h2⟩;rw[ax];unfold hC;cases hs:step (g x) S with
  | none=>rw[hs]at e;cases e
  | some S1=>
   rw[hs]at e;have e':body S1=some (.next,S'):=e;show((body S1).bind _)=_;rw[e'];exact e2
theorem sX{tst:Sx->Option Bool}{body:Sx->Option (Fl×Sx)}{β:Type}(P:β->Sx->Prop)(f:β->β)(go:β->Bool)(m:β->Nat):
 ∀{n:Nat} {b:β} {S:Sx},(∀b S,P b S->tst S=some (go b))->(∀b S,P b S->go b=true->∃S',body S=some (.next,S')/\P (f b) S'/\m (f b)<m b)->P b S->m b<n->∃S' b',jU tst body n S=some (.next,S')/\P b' S'/\go b'=false
 | 0,_,_,_,_,_,h=>absurd h (cV _)
 | n+1,b,S,ht,hb,hp,hm=>by
  unfold jU;rw[ht b S hp];cases hg:go b with
  | false=>exact⟨S,b,rfl,hp,hg⟩
  | true=>
   obtain⟨S',e,h',hl⟩:=hb b S hp hg;obtain⟨S2,b2,e2,h2⟩:=sX P f go m (n:=n) ht hb h' (by lia);refine⟨S2,b2,?_,h2⟩;show((body S).bind _)=_;rw[e];exact e2
theorem pf{l:List Nat}{i v:Nat}(h:i<l.length):mM (.il (zl l)) (.int i) (.int v)=some (.il (zl (l.set i v))):=by
 show((ixN _ _).map _)=_;rw[fu,Jv h,om,VP]
theorem GY{v k:Nat}(h:k<=16000000):sJ .mul (.il [(v:Int)]) (.int k)=some (.il (zl (aJ k v))):=by
 show(if(k:Int)<vZ/2/\ -(vZ/2)<=(k:Int)/\[(v:Int)].length*(k:Int).toNat<=mq then some (PV.il (aJ (k:Int).toNat [(v:Int)]).flatten)else none)=_;have hb:vZ/2=9223372036854775808:=by decide
 have hl:[(v:Int)].length=1:=rfl;rw[if_pos (by rw[hb,hl];unfold mq;lia)];have:∀n:Nat,(aJ n [(v:Int)]).flatten=zl (aJ n v):=by
  intro n;induction n with
  | zero=>rfl
  | succ n ih=>rw[bS,eV,ih,bS];rfl
 rw[cY,this]
theorem GZ{l:List Nat}{v:Nat}(h:l.length<16000000):pB (.il (zl l)) (.int v)=some (.il (zl (l++[v]))):=by
 show(if(zl l).length<mq then some (PV.il (zl l++[(v:Int)]))else none)=_;rw[if_pos (by rw[fu];exact h),yN];rfl
theorem yQ{a b:List Nat}(h:a.length+b.length<=16000000):sJ .add (.il (zl a)) (.il (zl b))=some (.il (zl (a++b))):=by
 rw[yO (by rw[fu,fu];exact h),yN]
theorem Cn{a b:List Nat}(h:a.length+b.length<=16000000):DQ (.il (zl a)) (.il (zl b))=some (.il (zl (a++b))):=by
 show(if(zl a).length+(zl b).length<=mq then some (PV.il (zl a++zl b))else none)=_;rw[if_pos (by rw[fu,fu];exact h),yN]
theorem du{own:List Nat}{i j:Nat}(h:i≠j):(own.filter λk=>!(k==j)).contains i=own.contains i:=by
 rw[bH,aY,aY,aX];simp [h]
theorem G0{own is:List Nat}{i:Nat}(h:is.contains i=false):(own.filter λk=>!is.contains k).contains i=own.contains i:=by
 rw[bH,aY,aY,aX];simp only[h,sD,and_true]
theorem G1{a b:Nat}(ha:a<4611686018427387904)(hb:b<4611686018427387904):(if -dr<=(a:Int)/\(a:Int)<dr/\ -dr<=(b:Int)/\(b:Int)<dr then some ((gf (a:Int) ((b:Int)-(a:Int)).toNat).map PV.int)else none)=some (((af (b-a)).map λi=>i+a).map λx=>PV.int (x:Nat)):=by
 rw[if_pos (by unfold dr;lia),Nn,No];congr 4;lia
theorem Co{b:Nat}(hb:b<4611686018427387904):(if -dr<=(b:Int)/\(b:Int)<dr then some ((gf ((0:Nat):Int) (b:Int).toNat).map PV.int)else none)=some ((af b).map λx=>PV.int (x:Nat)):=by
 show(if _ then some ((gf 0 (b:Int).toNat).map PV.int)else none)=_;rw[if_pos (by unfold dr;lia),cY,Nm,No]
theorem mV{α:Type}(l:List α)(e:α->Int):(l.map λx=>PV.int (e x)).all (λp=>!fJ p)=true:=by
 induction l with
 | nil=>rfl
 | cons x r ih=>rw[ax,dz,ih];rfl
theorem cv0:ie 0=some (.int (-2)):=rfl
theorem cv1:ie 1=some (.int (-6)):=rfl
theorem cv2:ie 2=some (.int (-11)):=rfl
theorem cv3:ie 3=some (.int (-17)):=rfl
theorem cv4:ie 4=some (.int (-22)):=rfl
theorem cv5:ie 5=some (.int (-28)):=rfl
theorem cv6:ie 6=some (.int (-33)):=rfl
theorem cv7:ie 7=some (.int ((20:Nat):Int)):=rfl
theorem cv8:ie 8=some (.int ((0:Nat):Int)):=rfl
theorem cv9:ie 9=some (.int ((1:Nat):Int)):=rfl
theorem VU:ie 10=some (.int ((2:Nat):Int)):=rfl
theorem VV:ie 11=some (.int ((4:Nat):Int)):=rfl
theorem VW:ie 12=some (.int ((200:Nat):Int)):=rfl
theorem VX:ie 13=some (.int ((12:Nat):Int)):=rfl
theorem VY:ie 14=some (.int ((0:Nat):Int)):=rfl
theorem VZ:ie 15=some (.int ((2:Nat):Int)):=rfl
theorem V0:ie 16=some (.int ((2:Nat):Int)):=rfl
theorem V1:ie 17=some (.int ((8:Nat):Int)):=rfl
theorem V2:ie 18=some (.int (-1)):=rfl
theorem V3:ie 19=some (.int ((5:Nat):Int)):=rfl
theorem V4:ie 20=some (.int ((97:Nat):Int)):=rfl
theorem V5:ie 21=some (.int ((3:Nat):Int)):=rfl
theorem V6:ie 22=some (.int ((12:Nat):Int)):=rfl
theorem V7:ie 23=some (.int ((0:Nat):Int)):=rfl
theorem V8:ie 24=some (.int ((2:Nat):Int)):=rfl
theorem Cp(i:Int):fJ (.int i)=false:=rfl
theorem G3(i:List Int):fJ (.il i)=true:=rfl
theorem yR(i:List (List Int)):fJ (.tups i)=true:=rfl
theorem Cs(i:List Int):fJ (.fzl i)=false:=rfl
theorem Ct(i:List (List Int×List Int)):fJ (.prs i)=true:=rfl
theorem Cu(i:jP):fJ (.pic i)=false:=rfl
theorem G5(k:Nat):fJ (.fn k)=false:=rfl
theorem yS(i:Int):dB (.int i)=some i:=rfl
theorem Np(i:Bool):gn (.bl i)=some i:=rfl
abbrev drk(o:Fl×Sx):Option PV:=match o.1 with
 | .ret p=>some p
 | _=>none
theorem DRe(G n r m b ps hs):DR G n ⟨r,m,b⟩ ps hs=if ps.length=r then(exec G n b ⟨wa m ps,[],hs,false⟩).bind drk else none:=rfl
theorem bk1(p S):drk (.ret p,S)=some p:=rfl
abbrev bbk(o:Fl×Sx):=if o.2.rw then(match o.1 with | .ret p=>some (p,o.2.hs) | .next=>some (.non,o.2.hs) | _=>none)else none
theorem BBe(G n r m b ps hs):BB G n ⟨r,m,b⟩ ps hs=if ps.length=r then(exec G n b ⟨wa m ps,[],hs,true⟩).bind bbk else none:=rfl
theorem bk2(p l o h):bbk (.ret p,⟨l,o,h,true⟩)=some (p,h):=rfl
theorem bl7(p S):bbk (.ret p,S)=if S.rw then some (p,S.hs)else none:=rfl
theorem bk3(l o h):bbk (.next,⟨l,o,h,true⟩)=some (.non,h):=rfl
section
variable {α:Type} (x y:α) (a b c d:PV)
theorem bk4:(if PV.obj=PV.obj then x else y)=x:=rfl
theorem bk5:(if [a].length<=mq then x else y)=x:=rfl
theorem bk6:(if [a,b].length<=mq then x else y)=x:=rfl
theorem bk7:(if [a,b,c].length<=mq then x else y)=x:=rfl
theorem bk8:(if [a].length=1 then x else y)=x:=rfl
theorem bk9:(if [a,b].length=2 then x else y)=x:=rfl
theorem bl0:(if [a,b,c].length=3 then x else y)=x:=rfl
theorem bl1:(if [a,b,c,d].length=4 then x else y)=x:=rfl
theorem bl2(i t e)(r:Bool):(if !fJ (.il i)||jT (.lst t e)||r then x else y)=x:=rfl
theorem bl3(i)(e r:Bool):(if !fJ (.int i)||e||r then x else y)=x:=rfl
theorem bl4(i)(e r:Bool):(if !fJ (.bl i)||e||r then x else y)=x:=rfl
theorem bl5(k e):(if jT (.call k e) then x else y)=x:=rfl
theorem bl6(t e):(if jT (.lst t e) then x else y)=x:=rfl
end
theorem bb6{α:Type}(p:α->Bool)(a:α)(l:List α):(a::l).filter p=match p a with
 | true=>a::l.filter p
 | false=>l.filter p:=rfl
theorem bm0{α β:Type}(f:α->β)(a:α)(l:List α):(a::l).map f=f a::l.map f:=rfl
theorem bm1{α β:Type}(f:α->β):[].map f=[]:=rfl
theorem bm2(a x:Nat)(l:List Nat):(a::l).contains x=match x==a with
 | true=>true
 | false=>l.contains x:=rfl
theorem bm3:(!false)=true:=rfl
theorem bm4:(!true)=false:=rfl
theorem bm5(b:Bool):(true||b)=true:=rfl
theorem bm6(b:Bool):(false||b)=b:=rfl
theorem bm7(b:Bool):(true&&b)=b:=rfl
theorem bm8(b:Bool):(false&&b)=false:=rfl
theorem bm9{α:Type}(a b:α):(if true=true then a else b)=a:=rfl
theorem bn0{α:Type}(a b:α):(if false=true then a else b)=b:=rfl
theorem bc0{α:Type}(a b:α)(i:Int):(if fJ (.int i) then a else b)=b:=rfl
theorem bc2{α:Type}(a b:α)(i:List Int):(if fJ (.il i) then a else b)=a:=rfl
theorem bc3{α:Type}(a b:α)(i:List Bool):(if fJ (.bls i) then a else b)=a:=rfl
theorem bc4{α:Type}(a b:α)(i:List (List Int)):(if fJ (.tups i) then a else b)=a:=rfl
theorem bc6{α:Type}(a b:α)(i:List Int):(if fJ (.fzl i) then a else b)=b:=rfl
theorem bc8{α:Type}(a b:α)(i:List (List Int×List Int)):(if fJ (.prs i) then a else b)=a:=rfl
theorem bc9{α:Type}(a b:α)(i:jP):(if fJ (.pic i) then a else b)=b:=rfl
theorem ia {G:gH} {n i:Nat} {it:CE} {body:CS} {S:Sx} {β γ:Type} {k:Fl×Sx->Option γ} {r:Option γ} (l:List Nat) (P:β->Sx->Prop) (f:β->Nat->β) (b0:β)
 (hi:S.evI G it=some (l.map λx=>.int (x:Nat))) (hF:(rW it&&S.rw)=false) (h0:P b0 (S.drop (ft it)))
 (step:∀b S x,x∈l->P b S->∃S',exec G n body (S.put i (.int (x:Nat)))=some (.next,S')/\P (f b x) S')
 (cont:∀S',P (l.foldl f b0) S'->k (.next,S')=r):(exec G n (.for1 i it body) S).bind k=r:=by
 obtain⟨S',e,h⟩:=qy (step:=λx S=>some (S.put i x)) (body:=exec G n body) (g:=λx:Nat=>PV.int (x:Nat)) P f (l:=l) (S:=S.drop (ft it)) (λb S x hx hP=>step b S x hx hP) h0;have e2:exec G n (.for1 i it body) S=some (.next,S'):=by
  show((S.evI G it).bind λps=>if ps.all (λp=>!fJ p)&&!(rW it&&S.rw)then hC (λx S=>some (S.put i x)) (exec G n body) ps (S.drop (ft it))else none)=_;rw[hi,bs,mV,hF];exact e
 rw[e2];exact cont S' h
theorem rL {G:gH} {n:Nat} {c:CE} {body:CS} {S:Sx} {β γ:Type} {k:Fl×Sx->Option γ} {r:Option γ} (P:β->Sx->Prop) (f:β->β) (go:β->Bool) (m:β->Nat) (b0:β)
 (ht:∀b S,P b S->(S.ev G c).bind gn=some (go b)) (hb:∀b S,P b S->go b=true->∃S',exec G n body S=some (.next,S')/\P (f b) S'/\m (f b)<m b) (h0:P b0 S) (hm:m b0<n)
 (cont:∀b S',P b S'->go b=false->k (.next,S')=r):(exec G n (.whl c body) S).bind k=r:=by
 obtain⟨S',b',e,h1,h2⟩:=sX (tst:=λS=>(S.ev G c).bind gn) (body:=exec G n body) P f go m ht hb h0 hm;have e2:exec G n (.whl c body) S=some (.next,S'):=e;rw[e2];exact cont b' S' h1 h2
theorem Cy {α γ:Type} {g:α->PV} {f:PV->Option (Option PV)} {l:List α} {k:PV->Option γ} {r:Option γ} (c:α->Bool) (e:α->Nat) (hl:l.length<=16000000)
 (h:∀x∈l,f (g x)=some (if c x then some (.int (e x:Nat))else none)) (cont:k (.il (zl ((l.filter c).map e)))=r):
 (if(l.map g).length<=16000000 then(jr f (l.map g)).bind (nr .I)else none).bind k=r:=by
 rw[if_pos (by rw[ae];exact hl),AU,yP c (λx=>.int (e x:Nat)) h,bs,VS,bs];exact cont
theorem dc {γ:Type} {f:PV->Option (Option PV)} {l:List Nat} {k:PV->Option γ} {r:Option γ} (c:Nat->Bool) (hl:l.length<=16000000)
 (h:∀x∈l,f (.int (x:Nat))=some (if c x then some (.int (x:Nat))else none)) (cont:k (.il (zl (l.filter c)))=r):
 (if(l.map λx=>PV.int (x:Nat)).length<=16000000 then(jr f (l.map λx=>PV.int (x:Nat))).bind (nr .I)else none).bind k=r:=
 Cy c (λx=>x) hl h (by rw[show(l.filter c).map (λx=>x)=l.filter c from XV _];exact cont)
theorem lZ {α γ:Type} {g:α->PV} {f:PV->Option (Option PV)} {l:List α} {k:PV->Option γ} {r:Option γ} (e:α->Nat) (hl:l.length<=16000000)
 (h:∀x∈l,f (g x)=some (some (.int (e x:Nat)))) (cont:k (.il (zl (l.map e)))=r):
 (if(l.map g).length<=16000000 then(jr f (l.map g)).bind (nr .I)else none).bind k=r:=
 Cy (λ_=>true) e hl (λx hx=>by rw[h x hx];rfl) (by rw[fh.mpr (λ_ _=>rfl)];exact cont)
theorem sY(b:Bool)(x y:Option PV):(if b=true then some x else some y)=some (if b then x else y):=by cases b<;>rfl
theorem Nq(a b:Bool):(if a=true then some (PV.bl b)else some (PV.bl false))=some (PV.bl (a&&b)):=by cases a<;>rfl
theorem V9(a b:Bool):(if a=true then some (PV.bl true)else some (PV.bl b))=some (PV.bl (a||b)):=by cases a<;>rfl
theorem Wa(l:List Nat)(a b:Nat)(h:a<=b)(hb:b<=l.length):xU (zl l) (some (a:Int)) (some (b:Int))=zl ((l.drop a).take (b-a)):=by
 unfold xU sIx;simp only[fu];rw[if_neg (by lia),if_neg (by lia),cY,cY,fg (by lia),fg (by lia)];unfold zl;rw[k7,uY]
theorem Cz(l:List Nat)(a:Nat)(h:a<=l.length):xU (zl l) (some (a:Int)) none=zl (l.drop a):=by
 unfold xU sIx;simp only[fu];rw[if_neg (by lia),cY,fg (by lia)];unfold zl;rw[uY,pR (by simp)]
theorem Nr(l:List Nat)(b:Nat)(h:b<=l.length):xU (zl l) none (some (b:Int))=zl (l.take b):=by
 unfold xU sIx;simp only[fu];rw[if_neg (by lia),cY,fg (by lia)];unfold zl;rw[k7,Bh,mE]
theorem Nt(lo hi:Option Int)(xs:List Int):xX lo hi (.il xs)=some (.il (xU xs lo hi)):=rfl
theorem Wb(lo hi:Option Int)(xs:List Int):xX lo hi (.fil xs)=some (.il (xU xs lo hi)):=rfl
theorem Nu(xs ys:List Int):u5 .eq (.il xs) (.il ys)=some (decide (xs=ys)):=rfl
theorem nT {α β:Type} {step:PV->Sx->Option Sx} {body:Sx->Option (Fl×Sx)} {g:α->PV} {L:List α} (P:Nat->β->Sx->Prop) (f:β->α->β)
 (k:∀i b S x,L[i]?=some x->P i b S->∃S',(step (g x) S).bind body=some (.next,S')/\P (i+1) (f b x) S'):
 ∀{l:List α} {i:Nat} {b:β} {S:Sx},(∀(j:Nat) x,l[j]?=some x->L[i+j]?=some x)->P i b S->∃S',hC step body (l.map g) S=some (.next,S')/\P (i+l.length) (l.foldl f b) S'
 | [],i,b,S,_,h=>⟨S,rfl,h⟩
 | x::r,i,b,S,hl,h=>by
  obtain⟨S',e,h'⟩:=k i b S x (by simpa using hl 0 x rfl) h;obtain⟨S2,e2,h2⟩:=nT P f k (l:=r) (i:=i+1) (λj y hy=>by have:=hl (j+1) y (by simpa using hy);rw[show i+1+j=i+(j+1) by lia];exact this) h';refine⟨S2,?_,by rw[aV,show i+(r.length+1)=i+1+r.length by lia];exact h2⟩;rw[ax];unfold hC;cases hs:step (g x) S with
  | none=>rw[hs]at e;cases e
  | some S1=>
   rw[hs]at e;have e':body S1=some (.next,S'):=e;show((body S1).bind _)=_;rw[e'];exact e2
theorem rM {G:gH} {n i:Nat} {it:CE} {body:CS} {S:Sx} {β γ:Type} {k:Fl×Sx->Option γ} {r:Option γ} (l:List Nat) (P:Nat->β->Sx->Prop) (f:β->Nat->β) (b0:β)
 (hi:S.evI G it=some (l.map λx=>.int (x:Nat))) (hF:(rW it&&S.rw)=false) (h0:P 0 b0 (S.drop (ft it)))
 (step:∀j b S x,l[j]?=some x->P j b S->∃S',exec G n body (S.put i (.int (x:Nat)))=some (.next,S')/\P (j+1) (f b x) S')
 (cont:∀S',P l.length (l.foldl f b0) S'->k (.next,S')=r):(exec G n (.for1 i it body) S).bind k=r:=by
 obtain⟨S',e,h⟩:=nT (step:=λx S=>some (S.put i x)) (body:=exec G n body) (g:=λx:Nat=>PV.int (x:Nat)) (L:=l) P f (λj b S x hx hP=>step j b S x hx hP) (l:=l) (i:=0) (S:=S.drop (ft it)) (λj x hj=>by rw[bJ];exact hj) h0;rw[bJ]at h;have e2:exec G n (.for1 i it body) S=some (.next,S'):=by
  show((S.evI G it).bind λps=>if ps.all (λp=>!fJ p)&&!(rW it&&S.rw)then hC (λx S=>some (S.put i x)) (exec G n body) ps (S.drop (ft it))else none)=_;rw[hi,bs,mV,hF];exact e
 rw[e2];exact cont S' h
theorem KJ{step:PV->Sx->Option Sx}{body:Sx->Option (Fl×Sx)}{x:PV}{r:List PV}{S:Sx}:hC step body (x::r) S=(step x S).bind λS1=>(body S1).bind λo=>match o.1 with
 | .next=>hC step body r o.2
 | .cont=>hC step body r o.2
 | .brk=>some (.next,o.2)
 | .ret v=>some (.ret v,o.2):=rfl
theorem AV {α:Type} {step:PV->Sx->Option Sx} {body:Sx->Option (Fl×Sx)} {g:α->PV} {L:List α} (P:Nat->Sx->Prop) (q:Nat->α->Bool) (R:Nat->α->PV->Sx->Prop)
 (k:∀i S x,L[i]?=some x->P i S->(q i x=false->∃S',(step (g x) S).bind body=some (.next,S')/\P (i+1) S')/\(q i x=true->∃v S',(step (g x) S).bind body=some (.ret v,S')/\R i x v S')):
 ∀{l:List α} {i:Nat} {S:Sx},(∀(j:Nat) x,l[j]?=some x->L[i+j]?=some x)->P i S->
  ((∀(j:Nat) x,l[j]?=some x->q (i+j) x=false)/\∃S',hC step body (l.map g) S=some (.next,S')/\P (i+l.length) S')\/
  (∃(j:Nat) (x:α),l[j]?=some x/\q (i+j) x=true/\(∀(j':Nat) y,j'<j->l[j']?=some y->q (i+j') y=false)/\∃v S',hC step body (l.map g) S=some (.ret v,S')/\R (i+j) x v S')
 | [],i,S,_,h=>.inl ⟨λj x hx=>by simp at hx,S,rfl,h⟩
 | x::r,i,S,hl,h=>by
  obtain⟨k1,k2⟩:=k i S x (by simpa using hl 0 x rfl) h;have unf:∀{F:Fl} {S':Sx},(step (g x) S).bind body=some (F,S')->hC step body ((x::r).map g) S=(match F with | .next=>hC step body (r.map g) S' | .cont=>hC step body (r.map g) S' | .brk=>some (.next,S') | .ret v=>some (.ret v,S')):=λ{F S'} e=>by
   rw[ax,KJ];cases hs:step (g x) S with
   | none=>rw[hs]at e;cases e
   | some S1=>
    rw[hs]at e;have e':body S1=some (F,S'):=e;show((body S1).bind _)=_;rw[e'];cases F<;>rfl
  cases hq:q i x with
  | true=>
   obtain⟨v,S',e,hR⟩:=k2 hq;exact .inr ⟨0,x,rfl,hq,λj' y h _=>absurd h (cV _),v,S',unf e,hR⟩
  | false=>
   obtain⟨S',e,h'⟩:=k1 hq;rcases AV P q R k (l:=r) (i:=i+1) (λj y hy=>by have:=hl (j+1) y (by simpa using hy);rw[show i+1+j=i+(j+1) by lia];exact this) h' with⟨a1,S2,e2,h2⟩ | ⟨j,y,b1,b2,b3,v,S2,e2,h2⟩
   . refine .inl ⟨λj z hz=>?_,S2,by rw[unf e];exact e2,by rw[aV,show i+(r.length+1)=i+1+r.length by lia];exact h2⟩;cases j with
     | zero=>
      have:x=z:=by simpa using hz
      subst this;exact hq
     | succ j=>rw[show i+(j+1)=i+1+j by lia];exact a1 j z (by simpa using hz)
   . refine .inr ⟨j+1,y,by simpa using b1,by rw[show i+(j+1)=i+1+j by lia];exact b2,λj' z hj hz=>?_,v,S2,by rw[unf e];exact e2,by rw[show i+(j+1)=i+1+j by lia];exact h2⟩;cases j' with
     | zero=>
      have:x=z:=by simpa using hz
      subst this;exact hq
     | succ j'=>rw[show i+(j'+1)=i+1+j' by lia];exact b3 j' z (by lia) (by simpa using hz)
theorem yT {G:gH} {n i:Nat} {it:CE} {body:CS} {S:Sx} {γ:Type} {k:Fl×Sx->Option γ} {r:Option γ} (l:List Nat) (P:Nat->Sx->Prop) (q:Nat->Nat->Bool) (R:Nat->Nat->PV->Sx->Prop)
 (hi:S.evI G it=some (l.map λx=>.int (x:Nat))) (hF:(rW it&&S.rw)=false) (h0:P 0 (S.drop (ft it)))
 (step:∀j S x,l[j]?=some x->P j S->(q j x=false->∃S',exec G n body (S.put i (.int (x:Nat)))=some (.next,S')/\P (j+1) S')/\(q j x=true->∃v S',exec G n body (S.put i (.int (x:Nat)))=some (.ret v,S')/\R j x v S'))
 (c0:∀S',(∀(j:Nat) x,l[j]?=some x->q j x=false)->P l.length S'->k (.next,S')=r)
 (c1:∀(j x:Nat) v S',l[j]?=some x->q j x=true->(∀(j':Nat) y,j'<j->l[j']?=some y->q j' y=false)->R j x v S'->k (.ret v,S')=r):(exec G n (.for1 i it body) S).bind k=r:=by
 have e2:∀{X},hC (λx S=>some (S.put i x)) (exec G n body) (l.map λx=>PV.int (x:Nat)) (S.drop (ft it))=some X->exec G n (.for1 i it body) S=some X:=λ{X} e=>by
  show((S.evI G it).bind λps=>if ps.all (λp=>!fJ p)&&!(rW it&&S.rw)then hC (λx S=>some (S.put i x)) (exec G n body) ps (S.drop (ft it))else none)=_;rw[hi,bs,mV,hF];exact e
 rcases AV (step:=λx S=>some (S.put i x)) (body:=exec G n body) (g:=λx:Nat=>PV.int (x:Nat)) (L:=l) P q R (λj S x hx hP=>step j S x hx hP) (l:=l) (i:=0) (λj x hj=>by rw[bJ];exact hj) h0 with⟨a1,S',e,h⟩ | ⟨j,x,b1,b2,b3,v,S',e,h⟩
 . rw[e2 e];rw[bJ]at h;exact c0 S' (λj x hx=>by have:=a1 j x hx;rw[bJ]at this;exact this) h
 . rw[e2 e];rw[bJ]at b2 h;exact c1 j x v S' b1 b2 (λj' y hj hy=>by have:=b3 j' y hj hy;rw[bJ]at this;exact this) h
theorem Nv(a b:Int):gg (.tup [a,b])=some (.int a,.int b):=rfl
theorem G7(l:List Nat):((zl l).zipIdx.map λ(p:Int×Nat)=>PV.tup [(p.2:Int),p.1])=l.zipIdx.map λ(p:Nat×Nat)=>PV.tup [(p.2:Int),(p.1:Int)]:=by
 unfold zl;rw[List.zipIdx_map,cG];rfl
theorem yU {G:gH} {n i i2:Nat} {it:CE} {body:CS} {S:Sx} {β γ:Type} {k:Fl×Sx->Option γ} {r:Option γ} (l:List Nat) (P:Nat->β->Sx->Prop) (f:β->Nat×Nat->β) (b0:β)
 (hi:S.evI G it=some (l.zipIdx.map λ(p:Nat×Nat)=>.tup [(p.2:Int),(p.1:Int)])) (hF:(rW it&&S.rw)=false) (h0:P 0 b0 (S.drop (ft it)))
 (step:∀j b S x,l[j]?=some x->P j b S->∃S',exec G n body ((S.put i (.int (j:Nat))).put i2 (.int (x:Nat)))=some (.next,S')/\P (j+1) (f b (x,j)) S')
 (cont:∀b S',P l.length b S'->k (.next,S')=r):(exec G n (.for2 i i2 it body) S).bind k=r:=by
 obtain⟨S',e,h⟩:=nT (step:=λx S=>(gg x).map λp=>(S.put i p.1).put i2 p.2) (body:=exec G n body) (g:=λ(p:Nat×Nat)=>PV.tup [(p.2:Int),(p.1:Int)]) (L:=l.zipIdx) P f (λj b S x hx hP=>by
  obtain⟨x,j'⟩:=x;rw[lc]at hx;cases e:l[j]? with
  | none=>rw[e]at hx;cases hx
  | some y=>
   rw[e]at hx;have hx':y=x/\0+j=j':=by simpa using hx
   obtain⟨rfl,rfl⟩:=hx';rw[bJ];exact step j b S y e hP) (l:=l.zipIdx) (i:=0) (S:=S.drop (ft it)) (λj x hj=>by rw[bJ];exact hj) h0
 rw[bJ,LW]at h;have e2:exec G n (.for2 i i2 it body) S=some (.next,S'):=by
  show((S.evI G it).bind λps=>if rW it&&S.rw then none else hC (λx S=>(gg x).map λp=>(S.put i p.1).put i2 p.2) (exec G n body) ps (S.drop (ft it)))=_;rw[hi,bs,hF];exact e
 rw[e2];exact cont _ S' h
theorem G8(xs:List Int):ow (.il xs)=some xs:=rfl
section
set_option autoImplicit true
theorem Nw:(b6 G hs (.n i)).v l=(some (.int i)):=rfl
theorem G9:(b6 G hs (.litb b)).v l=(some (.bl b)):=rfl
theorem Ny:(b6 G hs (.v i)).v l=(getL l i):=rfl
theorem Nz:(b6 G hs (.v i)).it l=((b6 G hs (.v i)).v l).bind items:=rfl
theorem Ha:(b6 G hs (.g j)).v l=(G.c j):=rfl
theorem NA:(b6 G hs (.fld v j)).v l=((getL l v).bind λo=>if o=.obj then hs[j]? else none):=rfl
theorem NB:(b6 G hs (.fld v j)).it l=((b6 G hs (.fld v j)).v l).bind items:=rfl
theorem NC:(b6 G hs (.b o a b)).v l=(((b6 G hs a).v l).bind λx=>((b6 G hs b).v l).bind λy=>sJ o x y):=rfl
theorem NE:(b6 G hs (.neg a)).v l=(((b6 G hs a).v l).bind λx=>(dB x).map λi=>.int (-i)):=rfl
theorem NF:(b6 G hs (.c o a b)).v l=(((b6 G hs a).v l).bind λx=>((b6 G hs b).v l).bind λy=>(u5 o x y).map .bl):=rfl
theorem CC:(b6 G hs (.chain o o' a b c)).v l=(((b6 G hs a).v l).bind λx=>((b6 G hs b).v l).bind λy=>(u5 o x y).bind λk=>if k then((b6 G hs c).v l).bind λz=>(u5 o' y z).map .bl else some (.bl false)):=rfl
theorem NG:(b6 G hs (.and a b)).v l=(((b6 G hs a).v l).bind λx=>(gn x).bind λk=>if k then((b6 G hs b).v l).bind λy=>(gn y).map .bl else some (.bl false)):=rfl
theorem Wc:(b6 G hs (.or a b)).v l=(((b6 G hs a).v l).bind λx=>(gn x).bind λk=>if k then some (.bl true)else((b6 G hs b).v l).bind λy=>(gn y).map .bl):=rfl
theorem NH:(b6 G hs (.not a)).v l=(((b6 G hs a).v l).bind λx=>(gn x).map λk=>.bl (!k)):=rfl
theorem NI:(b6 G hs (.i c a b)).v l=(((b6 G hs c).v l).bind λx=>(gn x).bind λk=>if k then(b6 G hs a).v l else(b6 G hs b).v l):=rfl
theorem Hb:(b6 G hs (.call k as)).v l=(((b6 G hs as).as l).bind λvs=>G.fn k vs hs):=rfl
theorem Hc:(b6 G hs (.call k as)).it l=((b6 G hs (.call k as)).v l).bind items:=rfl
theorem Hd:(b6 G hs (.z)).as l=(some []):=rfl
theorem CD:(b6 G hs (.k a r)).as l=(((b6 G hs a).v l).bind λx=>((b6 G hs r).as l).bind λxs=>some (x::xs)):=rfl
theorem We:(b6 G hs (.bi f a)).v l=(((b6 G hs a).v l).bind λx=>mx f x):=rfl
theorem NK:(b6 G hs (.idx a i)).v l=(((b6 G hs a).v l).bind λx=>((b6 G hs i).v l).bind λy=>iI x y):=rfl
theorem Hg:(b6 G hs (.slLo a lo)).v l=(((b6 G hs a).v l).bind λx=>((b6 G hs lo).v l).bind λy=>(dB y).bind λi=>xX (some i) none x):=rfl
theorem Hh:(b6 G hs (.slLo a lo)).it l=((b6 G hs (.slLo a lo)).v l).bind items:=rfl
theorem Hi:(b6 G hs (.slHi a hi)).v l=(((b6 G hs a).v l).bind λx=>((b6 G hs hi).v l).bind λy=>(dB y).bind λi=>xX none (some i) x):=rfl
theorem yV:(b6 G hs (.slBoth a lo hi)).v l=(((b6 G hs a).v l).bind λx=>((b6 G hs lo).v l).bind λy=>((b6 G hs hi).v l).bind λz=>(dB y).bind λi=>(dB z).bind λj=>xX (some i) (some j) x):=rfl
theorem CF:(b6 G hs (.index a b)).v l=(((b6 G hs a).v l).bind λx=>((b6 G hs b).v l).bind λy=>By x y):=rfl
theorem CG:(b6 G hs (.count a b)).v l=(((b6 G hs a).v l).bind λx=>((b6 G hs b).v l).bind λy=>t8 x y):=rfl
theorem NM:(b6 G hs (.lst ty as)).v l=(((b6 G hs as).as l).bind λvs=>if vs.length<=mq then nr ty vs else none):=rfl
theorem NP:(b6 G hs (.tpl as)).v l=(((b6 G hs as).as l).bind λvs=>if vs.length<=mq then xY vs else none):=rfl
theorem Hk:(b6 G hs (.comp ty s it c e)).v l=(((b6 G hs it).it l).bind λxs=>if xs.length<=mq then(jr (λx=>((b6 G hs c).v (l.set s (some x))).bind λb=>(gn b).bind λk=>if k then((b6 G hs e).v (l.set s (some x))).map some else some none) xs).bind (nr ty)else none):=rfl
theorem CH:(b6 G hs (.comp2 ty s s' it c e)).v l=(((b6 G hs it).it l).bind λxs=>if xs.length<=mq then(jr (λx=>(gg x).bind λp=>((b6 G hs c).v ((l.set s (some p.1)).set s' (some p.2))).bind λb=>(gn b).bind λk=>if k then((b6 G hs e).v ((l.set s (some p.1)).set s' (some p.2))).map some else some none) xs).bind (nr ty)else none):=rfl
theorem Hm:(b6 G hs (.rng1 a)).it l=(((b6 G hs a).v l).bind λx=>(dB x).bind λj=>if -dr<=j/\j<dr then some ((gf 0 j.toNat).map .int)else none):=rfl
theorem NQ:(b6 G hs (.rng a b)).it l=(((b6 G hs a).v l).bind λx=>((b6 G hs b).v l).bind λy=>(dB x).bind λi=>(dB y).bind λj=>if -dr<=i/\i<dr/\ -dr<=j/\j<dr then some ((gf i (j-i).toNat).map .int)else none):=rfl
theorem Hn:(b6 G hs (.enum a)).it l=(((b6 G hs a).v l).bind λx=>(ow x).map λxs=>(xs.zipIdx.map λp=>.tup [(p.2:Int),p.1])):=rfl
theorem NR:(b6 G hs (.zip a b)).it l=(((b6 G hs a).v l).bind λx=>((b6 G hs b).v l).bind λy=>(ow x).bind λxs=>(ow y).map λys=>(xs.zip ys).map λp=>.tup [p.1,p.2]):=rfl
theorem Wi:(b6 G hs (.fz a)).v l=(((b6 G hs a).v l).bind Av):=rfl
theorem NT:(b6 G hs (.mth v k)).v l=((getL l v).bind λo=>if o=.obj then(hs[0]?).bind λ_=>G.fn k [.obj] hs else none):=rfl
theorem NU:exec G n (.nil) S=(some (.next,S)):=rfl
theorem yX:exec G n (.seq s r) S=((exec G n s S).bind λo=>match o.1 with
 | .next=>exec G n r o.2
 | f=>some (f,o.2)):=rfl
theorem NV:exec G n (.set i e) S=((S.ev G e).bind λp=>if fJ p then(if jT e then some (.next,S.putL i p)else none)else some (.next,S.put i p)):=rfl
theorem yY:exec G n (.setIdx i ix e) S=((S.ev G e).bind λv=>(S.ev G ix).bind λk=>(getL S.loc i).bind λx=>if S.own.contains i then(mM x k v).map λp=>(.next,S.upd i p)else none):=rfl
theorem NW:exec G n (.aug o i e) S=((getL S.loc i).bind λx=>(S.ev G e).bind λy=>(Bz o x y).map λp=>(.next,S.put i p)):=rfl
theorem yZ:exec G n (.augIdx o i ix e) S=((getL S.loc i).bind λx=>(S.ev G ix).bind λk=>(iI x k).bind λold=>(S.ev G e).bind λy=>(Bz o old y).bind λnew=>
 if S.own.contains i then(mM x k new).map λp=>(.next,S.upd i p)else none):=rfl
theorem NX:exec G n (.app i e) S=((getL S.loc i).bind λx=>(S.ev G e).bind λv=>if S.own.contains i then(pB x v).map λp=>(.next,S.upd i p)else none):=rfl
theorem NY:exec G n (.ext i e) S=((getL S.loc i).bind λx=>(S.ev G e).bind λv=>if S.own.contains i then(DQ x v).map λp=>(.next,S.upd i p)else none):=rfl
theorem NZ:exec G n (.ret e) S=((S.ev G e).bind λp=>if !fJ p||jT e||Gk S.own e then some (.ret p,S)else none):=rfl
theorem AW:exec G n (.i c a b) S=((S.ev G c).bind λp=>(gn p).bind λk=>if k then exec G n a S else exec G n b S):=rfl
theorem Hs:exec G n (.setF v j e) S=((S.ev G e).bind λp=>(getL S.loc v).bind λo=>if o=.obj/\S.rw=true/\j<S.hs.length/\(fJ p=true->jT e=true)then some (.next,{S with hs:=S.hs.set j p})else none):=rfl
theorem N1:exec G n (.exM k as) S=((S.evA G as).bind λvs=>if argsOk as vs&&S.rw then(G.fm k vs S.hs).map λr=>(.next,{S with hs:=r.2})else none):=rfl
theorem Ht:exec G n (.setM i k as) S=((S.evA G as).bind λvs=>if argsOk as vs&&S.rw then(G.fm k vs S.hs).map λr=>(.next,if fJ r.1 then{S with hs:=r.2}.putL i r.1 else{S with hs:=r.2}.put i r.1)else none):=rfl
theorem Hu:exec G n (.retM k as) S=((S.evA G as).bind λvs=>if argsOk as vs&&S.rw then(G.fm k vs S.hs).map λr=>(.ret r.1,{S with hs:=r.2})else none):=rfl
theorem CJ:exec G n (.retD i as) S=((getL S.loc i).bind λf=>(S.evA G as).bind λvs=>match f with
 | .fn k=>if argsOk as vs&&S.rw then(G.fm k vs S.hs).map λr=>(.ret r.1,{S with hs:=r.2})else none
 | _=>none):=rfl
theorem Hv:exec G n (.appF v j e) S=((getL S.loc v).bind λo=>(S.hs[j]?).bind λx=>(S.ev G e).bind λy=>if o=.obj/\S.rw=true then(pB x y).map λp=>(.next,{S with hs:=S.hs.set j p})else none):=rfl
theorem Hw:exec G n (.exMm v k as) S=((getL S.loc v).bind λo=>(S.evA G as).bind λvs=>if o=.obj/\S.hs≠[]/\(argsOk as vs&&S.rw)=true then(G.fm k (.obj::vs) S.hs).map λr=>(.next,{S with hs:=r.2})else none):=rfl
theorem CK:exec G n (.exPop v k j) S=((getL S.loc v).bind λo=>(S.hs[j]?).bind λx=>(UM x).bind λr=>if o=.obj/\S.rw=true then(G.fm k [.obj,r.1] (S.hs.set j r.2)).map λt=>(.next,{S with hs:=t.2})else none):=rfl
theorem Hx:exec G n (.popF v j) S=((getL S.loc v).bind λo=>(S.hs[j]?).bind λx=>if o=.obj/\S.rw=true then(Qu x).map λp=>(.next,{S with hs:=S.hs.set j p})else none):=rfl
theorem Hy:exec G n (.popI v j e) S=((getL S.loc v).bind λo=>(S.hs[j]?).bind λx=>(S.ev G e).bind λy=>if o=.obj/\S.rw=true then(IU x y).map λp=>(.next,{S with hs:=S.hs.set j p})else none):=rfl
theorem N2:exec G n (.rmF v j e) S=((getL S.loc v).bind λo=>(S.hs[j]?).bind λx=>(S.ev G e).bind λy=>if o=.obj/\S.rw=true then(rmv x y).map λp=>(.next,{S with hs:=S.hs.set j p})else none):=rfl
theorem Hz:exec G n (.setI v j ix e) S=((S.ev G e).bind λy=>(getL S.loc v).bind λo=>(S.hs[j]?).bind λx=>(S.ev G ix).bind λk=>if o=.obj/\S.rw=true then(mM x k y).map λp=>(.next,{S with hs:=S.hs.set j p})else none):=rfl
end
end Sq
namespace Sq
open Kp303 (House)
set_option hygiene false in
local macro_rules
  | `(tactic| simp! []) => `(tactic| simp! [true_and])
  | `(tactic| simp! [$xs,*] $[$l:location]?) => `(tactic| simp (maxSteps := 1000000) (disch := (first | with_unfolding_all exact Eq.refl true | lia | ((try simp only[bP,bn,ae,aB,aA,aV,gZ,fu]); lia))) only[DRe,BBe,bk1,bk2,↓bk4,↓bk5,↓bk6,↓bk8,↓bk9,↓bl0,↓bl1,↓bl2,↓bl3,↓bl4,↓bl5,↓bl6,Sx.ev,Sx.evI,Sx.evA,Nw,G9,Ny,Ha,NA,NC,NE,NF,CC,NG,Wc,NH,NI,Hb,Hd,CD,We,NK,CF,CG,NM,NP,Hk,Hm,NQ,Hn,Nz,NB,Hc,NU,yX,NV,yY,NW,NX,NZ,AW,Hs,Hu,Hv,Sx.put,Sx.putL,Sx.upd,aV,gZ,wa,bm0,bm1,xI,fb,GT,GU,ba6,ba7,ba8,↓ba0,↓ba1,↓ba4,↓bm9,↓bn0,↓bc0,↓bc2,MJ,Jg,if_true,if_false,Cp,G3,cv0,cv4,cv6,cv8,cv9,VU,VW,VX,VY,pI,pJ,bb6,zV,bm2,wE,du,fH,nr,VT,GY,GZ,FP,beq_self_eq_true,bP,bn,bm3,bm4,pS,DD,bm7,gb,bm8,d5,IE,zM,FS,pA,gB,bS,tO,u9,va,Cg,GV,Ch,Cj,GW,Ck,Nf,Ng,Nh,Ni,Nj,Nk,GX,xt,Cm,yS,Np,G8,G7,G1,Co,uG,jT,Gk,ft,Nq,sY,Nt,true_and,and_true,and_self,false_implies,implies_true,eq_self,reduceCtorEq,decide_true,decide_false,gM,↓reduceIte,$xs,*] $[$l:location]?)
set_option hygiene false in
local macro_rules
  | `(tactic| dsimp! []) => `(tactic| dsimp! [or_self])
  | `(tactic| dsimp! [$xs,*]) => `(tactic| simp only[ag,Z7,a0R,Z8,a0S,Z9,a0T,a0a,a0U,a0b,a0V,a0c,a0W,Wl,aw,a0d,a0e,a0X,a0f,a0g,aq,↓reduceIte,gM,or_true,true_or,or_false,false_or,reduceCtorEq,or_self,$xs,*])
set_option hygiene false in
local macro_rules
  | `(tactic| simp? []) => `(tactic| simp? [or_self])
  | `(tactic| simp? [$xs,*]) => let ys:Lean.Syntax.TSepArray _ ",":=⟨xs.elemsAndSeps⟩;`(tactic| (dsimp! [$ys,*];try rfl))
abbrev PL:List Nat:=[5,7,11,13,17,19,23,29,31,37,41,43,47,53,59,61,67,71,73,79,83,89,97]
theorem a9{p:Nat}(h:p∈PL):5<=p/\p<=97:=by
 have:PL.all (λp=>decide (5<=p/\p<=97))=true:=by decide
 exact oD (bw.mp this p h)
theorem iY(p:Nat)(hs:List PV):FN 8 [.int p] hs=some (.int (p/2:Nat)):=by
 simp![Km,qS]
theorem dR(k p:Nat)(hs:List PV):FN 28 [.int k,.int p] hs=some (.bl (decide (1<=k)&&decide (k<=p/2))):=by
 simp![Kr,qW,iY]
abbrev markL(p:Nat):List Nat:=((af (p-1)).map λi=>i+1).foldl (λ(k:List Nat) x=>k.set (x*x%p) 1) ((aJ p 2).set 0 0)
theorem gu{p:Nat}(hp:p∈PL)(hs:List PV):FN 2 [.int p] hs=some (.il (zl (markL p))):=by
 fail"h";simp![pf,Gm,oz];refine ia ((af (p-1)).map λi=>i+1) (λ(b:List Nat) S=>b.length=p/\∃own v2,own.contains 1=true/\S=⟨[some (.int p),some (.il (zl b)),v2],own,hs,false⟩) (λ(k:List Nat) x=>k.set (x*x%p) 1) ((aJ p 2).set 0 0) ?_ rfl ?_ ?_ ?_
 . simp![]
 . exact⟨by simp,_,_,by simp![],rfl⟩
 . rintro b S x hx ⟨hl,own,v2,ho,rfl⟩;have hx2:x<97:=by simp only[aH,au]at hx;lia
   have:=aN (x*x) (show p>0 by lia);refine⟨_,by simp![pf,ho];rfl,by simp [hl],_,_,by rw[du (by decide)];exact ho,rfl⟩
 . rintro S ⟨hl,own,v2,ho,rfl⟩;simp![ho];rfl
theorem AX:∀p∈PL,markL p=(af p).map (a8 p):=by decide+kernel
theorem EJ{p:Nat}(hp:p∈PL):(markL p).length=p:=by rw[AX p hp];simp
theorem iU{p a:Nat}(hp:p∈PL)(ha:a<p):(markL p)[a]?=some (a8 p a):=by
 rw[AX p hp,ak,aS ha];rfl
theorem dS(p a:Nat):a8 p (a%p)=a8 p a:=by
 unfold a8 Z3;simp
theorem fU{p:Nat}(hp:p∈PL)(a:Nat)(hs:List PV):FN 25 [.int a,.int p] hs=some (.int (a8 p a:Nat)):=by
 fail"h";have e:=iU hp (aN a (show p>0 by lia));rw[dS]at e;simp![Aw,nt,gu hp,cu e]
theorem EK{p:Nat}(hp:p∈PL)(z:Int)(hs:List PV):FN 25 [.int z,.int p] hs=some (.int (a8 p (z%p).toNat:Nat)):=by
 fail"h";have h0:0<=z%(p:Int):=ml _ (by lia);have h1:z%(p:Int)<p:=Int.emod_lt_of_pos _ (by lia);have e:=iU hp (a:=(z%p).toNat) (by lia);have e2:z%(p:Int)=((z%(p:Int)).toNat:Int):=by lia
 simp![Aw,nt,gu hp,sW];rw[e2,cu e];simp![];rw[<-e2]
theorem iZ{p:Nat}(hp:p∈PL)(u:Nat)(hs:List PV):FN 26 [.int u,.int p] hs=some (.il (zl (b9 p u))):=by
 fail"h";simp![qi,fO,gu hp];refine dc (λa=>a8 p a==u) ?_ (λx hx=>?_) ?_
 . simp only[ae,aB];lia
 . simp only[aH,au]at hx;obtain⟨i,hi,rfl⟩:=hx;simp![cu (iU hp (a:=i+1) (by lia)),sY];rfl
 . rfl
abbrev a1X(n:Nat):Bool:=iB n
theorem Q9(hs:List PV):((af 200).map λn=>FN 1 [.int (n:Nat)] hs)=(af 200).map λn=>some (.bl (a1X n)):=by kernel_rfl
theorem vB{n:Nat}(h:n<200)(hs:List PV):FN 1 [.int n] hs=some (.bl (iB n)):=by
 have e:=congrArg (λl=>l[n]?) (Q9 hs);simp only[ak,aS h,xD]at e;exact bv.inj e
abbrev aw(h:House)(o:List jP):List PV:=[.int h.p,.int h.x,.int h.q,.il (zl h.terms),.il (zl h.kept),.int h.e,.int h.g,.pics o]
abbrev Wl(a:wX):List Int:=a.num::a.nums
structure Good (h:House):Prop where
 p:h.p∈PL
 x:h.x<h.p
 q:dy h.q=true
 qp:h.q≠h.p
 tl:h.terms.length<=4
 t:∀a∈h.terms,0<a/\a<h.p
 kl:h.kept.length<=12
 k:∀a∈h.kept,a<h.p
 kn:h.kept.Nodup
 e:jk h.p h.e=true
 g:bL h.p h.g=true
 gl:h.g<h.p
theorem b8(u:Nat)(hs:List PV):FN 17 [.int u] hs=some (.bl (dL u)):=by
 simp![V9,Ko,qU];unfold dL;by_cases h:u=1
 . simp![h]
 . simp![bm6,h];rw[beq_eq_false_iff_ne.mpr h,jc];rfl
abbrev b7(k:Nat)(args:List PV)(h:House)(r:House×wX):Prop:=∀o,FM k (.obj::args) (aw h o)=some (.il (Wl r.2),aw r.1 o)
theorem vC{u:Nat}:dL u=true->u=1\/u=2:=by unfold dL;simp
theorem a1Y{h:House}(g:Good h)(a:Nat):b7 65 [.int a] h (ag h (.one (.go a))):=by
 intro o;fail"a";simp![a1x,BC,aw];rfl
theorem Ra{h:House}(g:Good h):b7 68 [] h (ag h (.one .stand)):=by
 intro o;fail"a";simp![QB,rn,aw,fU g.p];rfl
theorem Wm{h:House}(g:Good h)(a:Nat):b7 69 [.int a] h (ag h (.one (.kind a))):=by
 intro o;fail"a";simp![UU,uh,aw,fU g.p];rfl
theorem HA{p u x:Nat}(h:x∈b9 p u):1<=x/\x<p:=by
 unfold b9 dF at h;simp only[aX,aH,au]at h;lia
theorem ph(p u:Nat):(b9 p u).length<=p:=by
 unfold b9 dF;refine bb (br _ _) ?_;simp
theorem CL:∀p∈PL,∀u∈[1,2],b9 p u≠[]:=by decide+kernel
theorem N3{l:List Nat}(h:l≠[]):l[0]?=some (l.headD 0):=by
 cases l with
 | nil=>exact absurd rfl h
 | cons x r=>rfl
theorem KL{l:List Nat}(h:l≠[])(a:Nat){b:Nat}:l.headD b=l.headD a:=by
 cases l with
 | nil=>exact absurd rfl h
 | cons x r=>rfl
theorem EL{l:List Nat}(h:l≠[])(a:Nat){b:Nat}:l.getLast?.getD b=l.getLast?.getD a:=by
 have hl:=fi.mpr h;rw[iN,ay (by lia)];rfl
theorem y6{l:List Nat}(h:l≠[]):iI (.il (zl l)) (.int (-((1:Nat):Int)))=some (.int (l.getLast?.getD 0:Nat)):=by
 have hl:=fi.mpr h;show(atI (zl l) (-((1:Nat):Int))).map PV.int=_;have e:ixN (zl l).length (-((1:Nat):Int))=some (l.length-1):=by
  unfold ixN;rw[fu,if_neg (by lia),if_pos (by lia)];congr 1;lia
 unfold atI;rw[e,bs,Nd,iN,ay (by lia)];rfl
theorem a1Z{h:House}(g:Good h)(u:Nat):b7 66 [.int u] h (ag h (.one (.on_ u))):=by
 intro o;fail"a";have hlen:=ph h.p u;cases hk:dL u with
 | false=>
  simp![YK,x6,aw,b8,hk];simp?[hk]
 | true=>
  have e:ag h (.one (.on_ u))=({h with x:=FG h.p h.x u},⟨(FG h.p h.x u:Nat),[]⟩):=by dsimp![hk]
  have hne:=CL h.p g.p u (by rcases vC hk with e | e<;>simp [e]);rw[e];simp![YK,x6,aw,b8,hk,iZ g.p];refine dc (λa=>decide (h.x<a)) (by lia) (λx hx=>?_) ?_
  . simp![sY]
  . by_cases he:(b9 h.p u).filter (λa=>decide (h.x<a))=[]
    . simp![he,cu (N3 hne)];simp only[FG,he,List.headD_nil];rfl
    . have h2:=fi.mpr he;simp![h2,cu (N3 he)];rw[KL he ((b9 h.p u).headD 0)];rfl
theorem N4{h:House}(g:Good h)(u:Nat):b7 67 [.int u] h (ag h (.one (.back u))):=by
 intro o;fail"a";have hlen:=ph h.p u;cases hk:dL u with
 | false=>
  simp![D5,lU,aw,b8,hk];simp?[hk]
 | true=>
  have e:ag h (.one (.back u))=({h with x:=FH h.p h.x u},⟨(FH h.p h.x u:Nat),[]⟩):=by dsimp![hk]
  have hne:=CL h.p g.p u (by rcases vC hk with e | e<;>simp [e]);rw[e];simp![D5,lU,aw,b8,hk,iZ g.p];refine dc (λa=>decide (a<h.x)) (by lia) (λx hx=>?_) ?_
  . simp![sY]
  . by_cases he:(b9 h.p u).filter (λa=>decide (a<h.x))=[]
    . simp![he,y6 hne];simp only[FH,he,List.getLast?_nil,og];rfl
    . have h2:=fi.mpr he;simp![h2,y6 he];rw[EL he ((b9 h.p u).getLast?.getD 0)];rfl
theorem HB(n m:Nat)(h:n<=m):((af m).map λi=>i+1).filter (λa=>decide (a<=n))=(af n).map λi=>i+1:=by
 induction m with
 | zero=>
  have:n=0:=by lia
  subst this;rfl
 | succ m ih=>
  rw[dk,bQ,m4];by_cases e:n=m+1
  . subst e;rw[fh.mpr,fh.mpr,dk,bQ]
    . intro a ha;simp at ha;simp;lia
    . intro a ha;simp at ha;simp;lia
  . rw[ih (by lia)];have:([m].map λi=>i+1).filter (λa=>decide (a<=n))=[]:=by simp;lia
    rw[this,cJ]
theorem EM(p u n m:Nat)(h:n<=m):(dF p u m).filter (λa=>decide (a<=n))=dF p u n:=by
 unfold dF;rw[dh,<-HB n m h,dh];congr 1;funext a;exact fw _ _
theorem N5{h:House}(g:Good h)(u n:Nat):b7 70 [.int u,.int n] h (ag h (.one (.many u n))):=by
 intro o;fail"a";have hlen:=ph h.p u;cases hk:dL u with
 | false=>
  simp![yk,jY,aw,b8,hk];simp?[hk]
 | true=>
  by_cases hn:h.p<=n
  . simp![yk,jY,aw,b8,hk,hn];dsimp![hk,hn];rfl
  . simp![yk,jY,aw,b8,hk,hn,iZ g.p];refine dc (λa=>decide (a<=n)) (by lia) (λx hx=>?_) ?_
    . simp![sY]
    . simp![b9,EM h.p u n (h.p-1) (by lia)];dsimp![hk,hn]
theorem Zv{h:House}(g:Good h)(u k:Nat):b7 71 [.int u,.int k] h (ag h (.one (.nth u k))):=by
 intro o;fail"a";cases hk:dL u with
 | false=>
  simp![ME,rq,aw,b8,hk];simp?[hk]
 | true=>
  by_cases hn:(b9 h.p u).length<=k
  . have e:=bA hn;simp![ME,rq,aw,b8,hk,hn,iZ g.p];dsimp![hk,e];rfl
  . have e:=ay (show k<(b9 h.p u).length by lia);simp![ME,rq,aw,b8,hk,hn,iZ g.p,cu e];dsimp![hk,e]
theorem HC(p u:Nat):(b9 p u).Pairwise (· < ·):=by
 unfold b9 dF;refine uZ.filter _ ?_;rw[ic];exact(pU).imp (λh=>by lia)
theorem AY:∀{l:List Nat} {a:Nat},l.Pairwise (· < ·)->a∈l->l.idxOf a=(l.filter λb=>decide (b<a)).length
 | [],_,_,h=>by cases h
 | x::r,a,hs,h=>by
  rw[List.pairwise_cons]at hs;by_cases e:x=a
  . subst e;rw[List.idxOf_cons_self,cp,if_neg (by simp),pT.mpr]
    . rfl
    . intro y hy;have:=hs.1 y hy;simp;lia
  . have ha:a∈r:=(aE.mp h).resolve_left (λz=>e z.symm);rw[jg,beq_eq_false_iff_ne.mpr e,cond_false,AY hs.2 ha,cp,if_pos (by simpa using hs.1 a ha)];rfl
theorem kL{l:List Nat}{a:Nat}(h:a∈l):By (.il (zl l)) (.int a)=some (.int (l.idxOf a:Nat)):=by
 show(if(a:Int)∈zl l then some (PV.int ((zl l).idxOf (a:Int):Nat))else none)=_;rw[if_pos (Nl.mpr h)];have:∀l:List Nat,(zl l).idxOf (a:Int)=l.idxOf a:=by
  intro l;induction l with
  | nil=>rfl
  | cons x r ih=>
   show((x:Int)::zl r).idxOf (a:Int)=_;rw[jg,jg,ih];have:((x:Int)==(a:Int))=(x==a):=by rw[bH];simp [d9]
   rw[this]
 rw[this]
theorem N6{p a:Nat}(h:a%p≠0):a8 p a=1\/a8 p a=2:=by
 unfold a8;rw[if_neg h];by_cases q:Z3 p a=true<;>simp [q]
theorem Rb{p a:Nat}(h0:1<=a)(h:a<p):a∈b9 p (a8 p a):=by
 unfold b9 dF;simp only[aX,aH,au,beq_self_eq_true,and_true];exact⟨a-1,by lia,by lia⟩
theorem Re{h:House}(g:Good h)(a:Nat):b7 72 [.int a] h (ag h (.one (.place a))):=by
 intro o;fail"a";by_cases h0:a%h.p=0
 . simp![I0,nE,aw,h0];dsimp![h0];rfl
 . have hl:=aN a (show h.p>0 by lia);have hm:=Rb (show 1<=a%h.p by lia) hl;rw[dS]at hm;simp![I0,nE,aw,h0,fU g.p,dS,iZ g.p,kL hm];dsimp![h0,Kp297.place];rw[AY (HC _ _) hm];rfl
theorem Wn:∀l:List Nat,(zl l).sum=((l.foldl (λ(a b:Nat)=>a+b) 0:Nat):Int):=by
 have k:∀(l:List Nat) (s:Nat),(s:Int)+(zl l).sum=((l.foldl (λ(a b:Nat)=>a+b) s:Nat):Int):=by
  intro l;induction l with
  | nil=>intro s;simp [zl]
  | cons x r ih=>
   intro s;rw[aU,<-ih];show(s:Int)+((x:Int)::zl r).sum=_;rw[bX];lia
 intro l;have:=k l 0;simpa using this
theorem y8(l:List Nat):mx .sum (.il (zl l))=some (.int (Kp297.sum l:Nat)):=by
 show some (PV.int (zl l).sum)=_;rw[Wn];rfl
theorem Zw{h:House}(g:Good h)(u:Nat):b7 73 [.int u] h (ag h (.one (.sum u))):=by
 intro o;fail"a";cases hk:dL u with
 | false=>
  simp![su,gF,aw,b8,hk];simp?[hk]
 | true=>
  simp![su,gF,aw,b8,hk,iZ g.p,y8];simp?[hk]
theorem Rf{h:House}(g:Good h):b7 79 [] h (ag h (.one .least)):=by
 intro o;fail"a";have hne:=CL h.p g.p 2 (by simp);have e:=cu (N3 hne);simp![QC,rz,aw,iZ g.p,e];simp?[]
theorem KM{h:House}(g:Good h)(u:Nat):b7 80 [.int u] h (ag h (.one (.product u))):=by
 intro o;fail"a";cases hk:dL u with
 | false=>
  simp![Az,kF,aw,b8,hk];simp?[hk]
 | true=>
  simp![Az,kF,aw,b8,hk];refine ia (b9 h.p u) (λ(b:Nat) S=>b<h.p/\∃own v3,S=⟨[some .obj,some (.int u),some (.int b),v3],own,aw h o,true⟩) (λv a=>v*a%h.p) 1 ?_ rfl ?_ ?_ ?_
  . simp![aw,iZ g.p]
  . exact⟨by lia,_,_,rfl⟩
  . rintro b S x hx ⟨hl,own,v3,rfl⟩;have:=HA hx;exact⟨_,by simp![aw];rfl,aN _ (by lia),_,_,rfl⟩
  . rintro S ⟨hl,own,v3,rfl⟩;simp![aw];simp?[hk]
theorem Wo{p u:Nat}(hp:5<=p)(hu:u=1\/u=2):dF p u p=dF p u (p-1):=by
 unfold dF;obtain⟨q,rfl⟩:∃q,p=q+1:=⟨p-1,by lia⟩;rw[cD,dk,bQ,m4];have:([q].map λi=>i+1).filter (λa=>a8 (q+1) a==u)=[]:=by
  have e:a8 (q+1) (q+1)=0:=by unfold a8;simp
  rcases hu with e1 | e1<;>simp [e,e1]
 rw[this,cJ]
theorem Jw{p u n:Nat}(hp:5<=p)(hu:u=1\/u=2)(hn:n<=p):(b9 p u).filter (λa=>decide (a<=n))=dF p u n:=by
 unfold b9;by_cases e:n=p
 . subst e;rw[Wo hp hu,fh.mpr];intro a ha;have:=HA (p:=n) (u:=u) ha;simp;lia
 . exact EM p u n (p-1) (by lia)
theorem Wp{h:House}(g:Good h)(k:Nat):b7 74 [.int k] h (ag h (.one (.part k))):=by
 intro o;fail"a";have hl1:=ph h.p 1;have hl2:=ph h.p 2;by_cases h1:k<1
 . have h0:k=0:=by lia
   simp![GB,nF,aw,h1];simp?[h0]
 . by_cases h2:h.p<k
   . simp![GB,nF,aw,h1,h2];simp?[h2]
   . have hd:h.p/k<=h.p:=T0 _ _;have hk0:k≠0:=by lia
     simp![GB,nF,aw,h1,h2,iZ g.p];refine dc (λa=>decide (a<=h.p/k)) (by lia) (λx hx=>?_) ?_
     . simp![]
     . rw[Jw (by lia) (.inl rfl) hd];simp![iZ g.p];refine dc (λa=>decide (a<=h.p/k)) (by lia) (λx hx=>?_) ?_
       . simp![]
       . rw[Jw (by lia) (.inr rfl) hd];simp![pd];simp?[hk0,h2]
theorem Rg{h:House}(g:Good h)(u v:Nat):b7 75 [.int u,.int v] h (ag h (.one (.pairs u v))):=by
 intro o;fail"a";cases hk:dL u with
 | false=>
  simp![BW,lF,aw,b8,hk];simp?[hk]
 | true=>
  cases hv:dL v with
  | false=>
   simp![BW,lF,aw,b8,hk,hv];simp?[hk,hv]
  | true=>
   simp![BW,lF,aw,b8,hk,hv,gu g.p];refine dc (λa=>decide (a8 h.p a=u)&&decide (a8 h.p (a+1)=v)) (by simp only[ae,aB];lia) (λx hx=>?_) ?_
   . simp only[aH,au]at hx;obtain⟨i,hi,rfl⟩:=hx;simp![cu (iU g.p (a:=i+1) (by lia)),cu (iU g.p (a:=i+1+1) (by lia))]
   . have e:((af (h.p-1-1)).map λi=>i+1).filter (λa=>decide (a8 h.p a=u)&&decide (a8 h.p (a+1)=v))=(dF h.p u (h.p-2)).filter λa=>a8 h.p (a+1)==v:=by
      unfold dF;rw[dh,a0M];congr 1;funext a;rw[fw];rfl
     rw[e];simp![];simp?[hk,hv]
theorem N7{h:House}(g:Good h)(u v w:Nat):b7 76 [.int u,.int v,.int w] h (ag h (.one (.threes u v w))):=by
 intro o;fail"a";cases hk:dL u with
 | false=>
  simp![ux,iX,aw,b8,hk];simp?[hk]
 | true=>
  cases hv:dL v with
  | false=>
   simp![ux,iX,aw,b8,hk,hv];simp?[hk,hv]
  | true=>
   cases hw:dL w with
   | false=>
    simp![ux,iX,aw,b8,hk,hv,hw];simp?[hk,hv,hw]
   | true=>
    simp![↓bk7,ux,iX,aw,b8,hk,hv,hw,gu g.p];refine dc (λa=>decide (a8 h.p a=u)&&(decide (a8 h.p (a+1)=v)&&decide (a8 h.p (a+2)=w))) (by simp only[ae,aB];lia) (λx hx=>?_) ?_
    . simp only[aH,au]at hx;obtain⟨i,hi,rfl⟩:=hx;have e:((markL h.p).drop (i+1)).take (i+1+3-(i+1))=[a8 h.p (i+1),a8 h.p (i+1+1),a8 h.p (i+1+2)]:=by
       have hl:=EJ g.p;have e0:=iU g.p (a:=i+1) (by lia);have e1:=iU g.p (a:=i+1+1) (by lia);have e2:=iU g.p (a:=i+1+2) (by lia);rw[show i+1+3-(i+1)=3 by lia];refine jS λj=>?_;rw[List.getElem?_take];match j with
       | 0=>simpa using e0
       | 1=>simpa using e1
       | 2=>simpa using e2
       | j+3=>rw[if_neg (by lia)];rfl
      simp![Nu,yV,Wa (markL h.p) (i+1) (i+1+3) (by lia) (by rw[EJ g.p];lia),e];congr 2
      simp only[zl,ax,gL,FJ.injEq,and_true,d9];simp
    . have e:((af (h.p-2-1)).map λi=>i+1).filter (λa=>decide (a8 h.p a=u)&&(decide (a8 h.p (a+1)=v)&&decide (a8 h.p (a+2)=w)))=(dF h.p u (h.p-3)).filter λa=>a8 h.p (a+1)==v&&a8 h.p (a+2)==w:=by
       unfold dF;rw[dh,a0M];congr 1;funext a;rw[fw];rfl
      rw[e];simp![];simp?[hk,hv,hw]
abbrev j3(b:List (Nat×Nat)):List (List Int):=b.map λq=>[(q.1:Int),(q.2:Int)]
abbrev CM(p u:Nat)(b:List (Nat×Nat))(x:Nat):List (Nat×Nat):=
 if a8 p x=u/\a8 p (x-1)=u then b.set (b.length-1) ((b.getLast?.getD (0,0)).1,(b.getLast?.getD (0,0)).2+1)else if a8 p x=u then b++[(x,1)]else b
abbrev vD(p u:Nat):List (Nat×Nat):=((af (p-1)).map λi=>i+1).foldl (CM p u) []
theorem Wq{b:List (Nat×Nat)}(h:b≠[]):iI (.tups (j3 b)) (.int (-((1:Nat):Int)))=some (.tup [((b.getLast?.getD (0,0)).1:Int),((b.getLast?.getD (0,0)).2:Int)]):=by
 have hl:=fi.mpr h;show(atI (j3 b) (-((1:Nat):Int))).map PV.tup=_;have e:ixN (j3 b).length (-((1:Nat):Int))=some (b.length-1):=by
  unfold ixN j3;rw[ae,if_neg (by lia),if_pos (by lia)];congr 1;lia
 unfold atI;rw[e,bs];unfold j3;rw[ak,iN,ay (by lia)];rfl
theorem Wr{b:List (Nat×Nat)}(h:b≠[])(q:Nat×Nat):mM (.tups (j3 b)) (.int (-((1:Nat):Int))) (.tup [(q.1:Int),(q.2:Int)])=some (.tups (j3 (b.set (b.length-1) q))):=by
 have hl:=fi.mpr h;show((ixN _ _).map _)=_;have e:ixN (j3 b).length (-((1:Nat):Int))=some (b.length-1):=by
  unfold ixN j3;rw[ae,if_neg (by lia),if_pos (by lia)];congr 1;lia
 rw[e,om];unfold j3;rw[wC]
theorem Ws{b:List (Nat×Nat)}(h:b.length<16000000)(q:Nat×Nat):pB (.tups (j3 b)) (.tup [(q.1:Int),(q.2:Int)])=some (.tups (j3 (b++[q]))):=by
 show(if(j3 b).length<mq then some (PV.tups (j3 b++[_]))else none)=_;have:(j3 b).length=b.length:=by unfold j3;simp
 rw[if_pos (by rw[this];exact h)];unfold j3;rw[bQ];rfl
theorem TH(a c:Int):iI (.tup [a,c]) (.int ((0:Nat):Int))=some (.int a):=rfl
theorem TJ(a c:Int):iI (.tup [a,c]) (.int ((1:Nat):Int))=some (.int c):=rfl
theorem Zx(a c:Int):xY [.int a,.int c]=some (.tup [a,c]):=rfl
theorem y9{p u:Nat}(hp:p∈PL)(hu:u=1\/u=2)(hs:List PV):FN 38 [.int u,.int p] hs=some (.tups (j3 (vD p u))):=by
 fail"h";simp![↓bc4,x9,jv,gu hp];refine rM ((af (p-1)).map λi=>i+1) (λi (b:List (Nat×Nat)) S=>b.length<=i/\i<p/\(a8 p i=u->b≠[])/\∃own v4,own.contains 3=true/\S=⟨[some (.int u),some (.int p),some (.il (zl (markL p))),some (.tups (j3 b)),v4],own,hs,false⟩) (CM p u) [] ?_ rfl ?_ ?_ ?_
 . simp![]
 . refine⟨by simp,by lia,λh=>?_,_,_,?_,rfl⟩
   . have:a8 p 0=0:=by unfold a8;simp
     lia
   . simp![]
 . rintro i b S x hx ⟨hl,hi,hne,own,v4,ho,rfl⟩;obtain⟨hi2,rfl⟩:i<p-1/\x=i+1:=by
    rw[ak]at hx;by_cases q:i<p-1
    . rw[aS q]at hx;exact⟨q,by simpa using hx.symm⟩
    . rw[bA (by simpa using q)]at hx;cases hx
   have m1:=cu (iU hp (a:=i+1) (by lia));have m0:=cu (iU hp (a:=i) (by lia));unfold CM;rw[cD];by_cases k1:a8 p (i+1)=u
   . by_cases k0:a8 p i=u
     . have hb0:=hne k0;rw[if_pos ⟨k1,k0⟩];refine⟨_,by simp![m1,m0,k1,k0,cD,ho,Wq hb0,TH,TJ,Zx,Wr hb0 ((b.getLast?.getD (0,0)).1,(b.getLast?.getD (0,0)).2+1)];rfl,by simp;lia,by lia,λ_=>by simpa using hb0,_,_,by simp![ho],rfl⟩
     . rw[if_neg (λz=>k0 z.2),if_pos k1];refine⟨_,by simp![m1,m0,k1,k0,cD,ho,Zx,Ws (show b.length<16000000 by lia) (i+1,1)];rfl,by simp;lia,by lia,λ_=>by simp,_,_,by simp![ho],rfl⟩
   . rw[if_neg (λz=>k1 z.1),if_neg k1];refine⟨_,by simp![m1,m0,k1,cD,ho];rfl,by lia,by lia,λz=>absurd z k1,_,_,by simp![ho],rfl⟩
 . rintro S ⟨hl,hi,hne,own,v4,ho,rfl⟩;simp![yR,ho];rfl
abbrev vE(p u:Nat):List Nat:=(vD p u).map (·.2)
theorem Jx:∀p∈PL,∀u∈[1,2],(vD p u).map (·.1)=Xx p u/\mx .max (.il (zl (vE p u)))=some (.int ((mw p u).1:Nat))/\(mw p u).1∈vE p u/\((vD p u).map (·.1))[(vE p u).idxOf (mw p u).1]?=some (mw p u).2:=by decide+kernel
theorem Wt{h:House}(g:Good h)(u:Nat):b7 78 [.int u] h (ag h (.one (.runs u))):=by
 intro o;fail"a";cases hk:dL u with
 | false=>
  simp![MF,qf,aw,b8,hk];simp?[hk]
 | true=>
  obtain⟨e0,_⟩:=Jx h.p g.p u (by rcases vC hk with e | e<;>simp [e]);have e:mx .len (.tups (j3 (vD h.p u)))=some (.int ((Xx h.p u).length:Nat)):=by
   show some (PV.int ((j3 (vD h.p u)).length:Nat))=_;rw[<-e0];unfold j3;rw[ae,ae]
  simp![MF,qf,aw,b8,hk,y9 g.p (vC hk),e];simp?[hk]
theorem Zy{h:House}(g:Good h)(u:Nat):b7 77 [.int u] h (ag h (.one (.run u))):=by
 intro o;fail"a";cases hk:dL u with
 | false=>
  simp![To,ui,aw,b8,hk];simp?[hk]
 | true=>
  obtain⟨e0,e1,e2,e3⟩:=Jx h.p g.p u (by rcases vC hk with e | e<;>simp [e]);have hl:(vD h.p u).length<=h.p:=by
   have:=congrArg sC e0;rw[ae]at this;rw[this];exact bb (br _ _) (ph h.p u)
  have hi:items (.tups (j3 (vD h.p u)))=some ((vD h.p u).map λq=>PV.tup [(q.1:Int),(q.2:Int)]):=by
   show some ((j3 (vD h.p u)).map PV.tup)=_;unfold j3;rw[cG];rfl
  simp![↓bc4,To,ui,aw,b8,hk,y9 g.p (vC hk),hi];refine lZ (λq:Nat×Nat=>q.2) (by lia) (λx hx=>?_) ?_
  . simp![TJ]
  . have e4:∃n:Nat,iI (.tups (j3 (vD h.p u))) (.int ((vE h.p u).idxOf (mw h.p u).1:Nat))=some (.tup [((mw h.p u).2:Int),(n:Int)]):=by
     rw[ak]at e3;cases e5:(vD h.p u)[(vE h.p u).idxOf (mw h.p u).1]? with
     | none=>rw[e5]at e3;cases e3
     | some q=>
      rw[e5]at e3;refine⟨q.2,?_⟩;show(atI _ _).map _=_;rw[rK];unfold j3;rw[ak,e5];have:q.1=(mw h.p u).2:=by simpa using e3
      rw[<-this];rfl
    obtain⟨n,e4⟩:=e4;simp![show(vD h.p u).map (λq:Nat×Nat=>q.2)=vE h.p u from rfl,e1,kL e2,e4,TH];simp?[hk]
abbrev j4(p:Nat):Nat->Nat->List Nat->List Nat
 | 0,_,acc=>acc
 | f+1,here,acc=>if here∈acc then acc else j4 p f (here*here%p) (acc++[here])
abbrev bK(p a:Nat):List Nat:=j4 p (p+1) (a%p) []
theorem sZ:∀(p:Nat) (l:List Nat),l.Nodup->(∀x∈l,x<p)->l.length<=p
 | 0,l,_,h=>by
  cases l with
  | nil=>exact aO _
  | cons x r=>exact absurd (h x (by simp)) (cV _)
 | p+1,l,hn,h=>by
  by_cases hp:p∈l
  . have:=sZ p (l.erase p) (hn.erase p) (λx hx=>by
     have h1:=h x (List.mem_of_mem_erase hx);have h2:x≠p:=λe=>by subst e;exact(List.Nodup.not_mem_erase hn) hx
     lia)
    rw[oq hp]at this;lia
  . have:=sZ p l hn (λx hx=>by
     have h1:=h x hx;have h2:x≠p:=λe=>hp (e▸hx);lia)
    lia
theorem uH{p:Nat}(hp:p∈PL)(a:Nat)(hs:List PV):FN 0 [.int a,.int p] hs=some (.il (zl (bK p a))):=by
 fail"h";simp![DU,mN];refine rL (λ(b:List Nat×Nat) S=>b.1.Nodup/\(∀x∈b.1,x<p)/\b.2<p/\j4 p (p+1-b.1.length) b.2 b.1=bK p a/\∃own,own.contains 2=true/\S=⟨[some (.int a),some (.int p),some (.il (zl b.1)),some (.int b.2)],own,hs,false⟩)
  (λb=>(b.1++[b.2],b.2*b.2%p)) (λb=>!decide (b.2∈b.1)) (λb=>p+1-b.1.length) ([],a%p) ?_ ?_ ?_ ?_ ?_
 . rintro⟨l,x⟩ S ⟨h1,h2,h3,h4,own,ho,rfl⟩
   simp![]
 . rintro⟨l,x⟩ S ⟨h1,h2,h3,h4,own,ho,rfl⟩ hg
   have hx:x∉l:=by simpa using hg
   have hl:=sZ p l h1 h2;have hn:(l++[x]).Nodup:=by
    rw[jR];exact⟨h1,by simp,λy hy z hz e=>by simp at hz;subst hz e;exact hx hy⟩
   have hlt:∀y∈l++[x],y<p:=λy hy=>by
    rcases bV.mp hy with q | q
    . exact h2 y q
    . simp at q;subst q;exact h3
   have hl2:=sZ p _ hn hlt;rw[aA,bc]at hl2;refine⟨_,by simp![ho];rfl,⟨hn,hlt,aN _ (by lia),?_,_,by simp![ho],rfl⟩,by simp;lia⟩;rw[<-h4,show p+1-l.length=(p+1-(l++[x]).length)+1 by rw[aA,bc];lia];show _=(if x∈l then l else _);rw[if_neg hx]
 . exact⟨by simp,by simp,aN _ (by lia),rfl,[2],rfl,rfl⟩
 . simp [NN];lia
 . rintro⟨l,x⟩ S ⟨h1,h2,h3,h4,own,ho,rfl⟩ hg
   have hx:x∈l:=by simpa using hg
   have hl:=sZ p l h1 h2;simp![ho];have:j4 p (p+1-l.length) x l=l:=by
    rw[show p+1-l.length=(p-l.length)+1 by lia];show(if x∈l then l else _)=l;rw[if_pos hx]
   rw[<-h4,this]
@[reducible]def sq(p a i:Nat):Nat:=a0 p i a
theorem N8(p n a:Nat):a0 p n (a%p)=a0 p n a:=by
 cases n with
 | zero=>exact dm _ _
 | succ n=>
  show a0 p n (a%p*(a%p)%p)=a0 p n (a*a%p);rw[<-cj]
theorem kr(p:Nat):∀n a,a0 p (n+1) a=a0 p n a*a0 p n a%p
 | 0,a=>by
  show a*a%p%p=a%p*(a%p)%p;rw[dm,<-cj]
 | n+1,a=>kr p n (a*a%p)
theorem wp{p:Nat}(hp:0<p):∀n a,a0 p n a<p
 | 0,a=>aN _ hp
 | n+1,a=>wp hp n _
theorem jL{p:Nat}(hp:0<p)(j a:Nat):∀k,a0 p k (a0 p j a)=a0 p (j+k) a
 | 0=>aj (wp hp j a)
 | k+1=>by rw[kr,jL hp j a k,<-jh,kr]
theorem qz(p:Nat):∀n a,nc p n a=(af (n+1)).map (sq p a)
 | 0,a=>rfl
 | n+1,a=>by
  show a%p::nc p n (a*a%p)=_;rw[qz p n, @bM (n+1),ax,cG];rfl
theorem Jy{p a:Nat}(hp:0<p):∀(f:Nat) (acc:List Nat),acc=(af acc.length).map (sq p a)->acc.Nodup->p+1<=f+acc.length->
 j4 p f (sq p a acc.length) acc=(af (j4 p f (sq p a acc.length) acc).length).map (sq p a)/\(j4 p f (sq p a acc.length) acc).Nodup/\sq p a (j4 p f (sq p a acc.length) acc).length∈j4 p f (sq p a acc.length) acc
 | 0,acc,h1,h2,h3=>by
  have:=sZ p acc h2 (λx hx=>by rw[h1]at hx;obtain⟨i,_,rfl⟩:=aH.mp hx;exact wp hp _ _);lia
 | f+1,acc,h1,h2,h3=>by
  by_cases hm:sq p a acc.length∈acc
  . have e:j4 p (f+1) (sq p a acc.length) acc=acc:=if_pos hm;rw[e];exact⟨h1,h2,hm⟩
  . have e:j4 p (f+1) (sq p a acc.length) acc=j4 p f (sq p a (acc++[sq p a acc.length]).length) (acc++[sq p a acc.length]):=by
     rw[aA,bc];show(if sq p a acc.length∈acc then acc else _)=_;rw[if_neg hm];show _=j4 p f (a0 p (acc.length+1) a) _;rw[kr]
    rw[e];refine Jy hp f _ ?_ ?_ (by rw[aA,bc];lia)
    . rw[aA,bc,dk,bQ,<-h1];rfl
    . rw[jR];exact⟨h2,by simp,λy hy z hz e=>by simp at hz;subst hz e;exact hm hy⟩
theorem j5{p:Nat}(hp:0<p)(a:Nat):bK p a=(af (bK p a).length).map (sq p a)/\(bK p a).Nodup/\sq p a (bK p a).length∈bK p a:=
 Jy hp (p+1) [] rfl List.nodup_nil (by simp)
abbrev bh(p a:Nat):Nat:=(bK p a).idxOf (sq p a (bK p a).length)
theorem tw{f:Nat}:∀{m N:Nat} {g:Nat->Nat},m<N->(∀i,i<m->g i≠f)->g m=f->((af N).map g).takeWhile (λx=>x !=f)=(af m).map g
 | 0,N+1,g,_,_,h=>by
  rw[@bM N,ax,LD,h];simp
 | m+1,N+1,g,h1,h2,h3=>by
  rw[@bM N,ax,LD,cG,tw (m:=m) (N:=N) (g:=g∘Xy) (by lia) (λi hi=>h2 (i+1) (by lia)) h3, @bM m,ax,cG];have:=h2 0 (by lia);simp [this]
section
variable {p:Nat} (hp:0<p) (a:Nat)
include hp
theorem mW:(bK p a).length<=p:=sZ p _ (j5 hp a).2.1 (λx hx=>by
 rw[(j5 hp a).1]at hx;obtain⟨i,_,rfl⟩:=aH.mp hx;exact wp hp _ _)
theorem eM:bh p a<(bK p a).length:=dO (j5 hp a).2.2
theorem kt{i:Nat}(h:i<(bK p a).length):(bK p a)[i]?=some (sq p a i):=by
 rw[(j5 hp a).1,ak,aS h];rfl
theorem Jz{i j:Nat}(h:i<j)(hj:j<(bK p a).length):sq p a i≠sq p a j:=λe=>by
 have hn:=(j5 hp a).2.1;have h1:=kt hp a (show i<(bK p a).length by lia);have h2:=kt hp a hj;obtain⟨_,e1⟩:=az.mp h1;obtain⟨_,e2⟩:=az.mp h2;exact List.pairwise_iff_getElem.mp hn i j (by lia) hj h (by rw[e1,e2,e])
theorem EN:sq p a (bh p a)=sq p a (bK p a).length:=by
 have h1:=kt hp a (eM hp a);have h2:(bK p a)[bh p a]?=some (sq p a (bK p a).length):=by
  exact az.mpr ⟨eM hp a,mZ (eM hp a)⟩
 rw[h1]at h2;exact bv.inj h2
theorem Wu{m:Nat}(h:bh p a<=m):sq p a (m+((bK p a).length-bh p a))=sq p a m:=by
 have ht:=eM hp a;have e:=EN hp a;have k1:=jL hp (bh p a) a (m-bh p a);have k2:=jL hp (bK p a).length a (m-bh p a);rw[show bh p a+(m-bh p a)=m by lia]at k1;rw[show(bK p a).length+(m-bh p a)=m+((bK p a).length-bh p a) by lia]at k2;show a0 p _ a=a0 p _ a;rw[<-k1,<-k2];show a0 p _ (sq p a (bK p a).length)=a0 p _ (sq p a (bh p a));rw[e]
theorem rN(x:Nat):dX p x=true↔∃k,k<=p/\sq p x (k+1)=x%p:=by
 unfold dX;rw[aY,qz];simp only[aH,au];constructor
 . rintro⟨k,hk,e⟩;exact⟨k,by lia,e⟩
 . rintro⟨k,hk,e⟩;exact⟨k,by lia,e⟩
theorem CN{j:Nat}:dX p (sq p a j)=true↔bh p a<=j:=by
 have ht:=eM hp a;have hle:=mW hp a;rw[rN hp];have e0:sq p a j%p=sq p a j:=aj (wp hp _ _);constructor
 . rintro⟨k,hk,e⟩
   rw[e0]at e;have e1:sq p a (j+(k+1))=sq p a j:=by rw[<-e];exact(jL hp j a (k+1)).symm
   refine fG λhj=>?_;have e2:∀m,sq p a (j+(k+1)*m)=sq p a j:=by
    intro m;induction m with
    | zero=>rfl
    | succ m ih=>
     have q1:=jL hp (j+(k+1)*m) a (k+1);have q2:=jL hp j a (k+1);rw[Is,<-jh];show a0 p _ a=_;rw[<-q1];show a0 p (k+1) (sq p a (j+(k+1)*m))=_;rw[ih,q2];exact e1
   have e3:=e2 (bh p a);have e4:=Wu hp a (m:=j+(k+1)*bh p a) (by have:bh p a<=(k+1)*bh p a:=qO _ (by lia);lia);have q1:=jL hp (j+(k+1)*bh p a) a ((bK p a).length-bh p a);have q2:=jL hp j a ((bK p a).length-bh p a);have e5:sq p a (j+((bK p a).length-bh p a))=sq p a j:=by
    show a0 p _ a=_;rw[<-q2];show a0 p _ (sq p a j)=_;rw[<-e3];show a0 p _ (a0 p _ a)=_;rw[q1];exact e4
   exact Jz hp a (show j<j+((bK p a).length-bh p a) by lia) (by lia) e5.symm
 . intro h;refine⟨(bK p a).length-bh p a-1,by lia,?_⟩;rw[e0,show(bK p a).length-bh p a-1+1=(bK p a).length-bh p a by lia];show a0 p _ (a0 p j a)=_;rw[jL hp];exact Wu hp a h
theorem kZ:eI p a=bh p a:=by
 have ht:=eM hp a;have hle:=mW hp a;unfold eI;rw[qz];refine(List.findIdx_eq (by simp;lia)).mpr ⟨?_,λj hj=>?_⟩
 . simp only[kY,jl];exact(CN hp a).mpr (aO _)
 . simp only[kY,jl];cases e:dX p (sq p a j)with
   | false=>rfl
   | true=>have:=(CN hp a).mp e;lia
theorem za:cO p a=sq p a (bh p a):=by unfold cO;rw[kZ hp a]
theorem uI:bI p a=(bK p a).drop (bh p a):=by
 have ht:=eM hp a;have hle:=mW hp a;unfold bI;rw[za hp a];have e1:nc p p (sq p a (bh p a)*sq p a (bh p a)%p)=(af (p+1)).map λi=>sq p a (bh p a+1+i):=by
  rw[qz];refine bT λi _=>?_;show a0 p i _=_;rw[<-kr];exact jL hp _ a i
 show sq p a (bh p a)::(nc p p (sq p a (bh p a)*sq p a (bh p a)%p)).takeWhile (λx=>x !=sq p a (bh p a))=_;rw[e1,tw (m:=(bK p a).length-bh p a-1) (by lia) (λi hi=>(Jz hp a (by lia) (by lia)).symm) (by
  rw[show bh p a+1+((bK p a).length-bh p a-1)=(bK p a).length by lia];exact(EN hp a).symm)]
 have e2:(bK p a).drop (bh p a)=(af ((bK p a).length-bh p a)).map λi=>sq p a (bh p a+i):=by
  refine jS λj=>?_;rw[gN,ak];by_cases hj:j<(bK p a).length-bh p a
  . rw[kt hp a (by lia),aS hj];rfl
  . rw[bA (by lia),bA (by simpa using hj)];rfl
 rw[e2];obtain⟨c,hc⟩:∃c,(bK p a).length-bh p a=c+1:=⟨(bK p a).length-bh p a-1,by lia⟩;rw[hc, @bM c,ax,cG,cD];refine congrArg _ (bT λi _=>?_);show sq p a (bh p a+1+i)=sq p a (bh p a+(i+1));rw[jh,qN 1 i]
end
section
variable {p:Nat} (hp:p∈PL) (a:Nat) (hs:List PV)
include hp
theorem i4:0<p:=by have:=a9 hp;lia
theorem KN:iI (.il (zl (bK p a))) (.int (-((1:Nat):Int)))=some (.int (sq p a ((bK p a).length-1):Nat)):=by
 have ht:=eM (i4 hp) a;rw[y6 (fi.mp (by lia)),iN,kt (i4 hp) a (by lia)];rfl
theorem eC:FN 24 [.int a,.int p] hs=some (.int (eI p a:Nat)):=by
 fail"h";have hp0:=i4 hp;have ht:=eM hp0 a;have hl:sq p a ((bK p a).length-1)<p:=wp hp0 ((bK p a).length-1) a;have hm:=(j5 hp0 a).2.2;have e:sq p a ((bK p a).length-1)*sq p a ((bK p a).length-1)%p=sq p a (bK p a).length:=by
  rw[<-kr,fL (by lia)]
 simp![Kq,qV,uH hp,KN hp a,e,kL hm];rw[kZ hp0 a,bh]
theorem l6:FN 44 [.int a,.int p] hs=some (.il (zl (bI p a))):=by
 have hp0:=i4 hp;have ht:=eM hp0 a;have e:=kZ hp0 a;simp![Hg,ya,jw,uH hp,eC hp a,e,Cz (bK p a) (bh p a) (by lia)];rw[uI hp0 a]
theorem N9:(bI p a)[0]?=some (cO p a):=rfl
theorem xu:FN 60 [.int a,.int p] hs=some (.int (cO p a:Nat)):=by
 simp![Ku,qZ,l6 hp a,cu (N9 hp a)]
theorem AZ:(bI p a).length<=p:=by
 rw[uI (i4 hp) a,fC];have:=mW (i4 hp) a;lia
end
section
variable {p:Nat} (hp:0<p) (a:Nat)
include hp
theorem Oa{m:Nat}:∃i,i<(bK p a).length/\sq p a m=sq p a i:=by
 have ht:=eM hp a;induction m using Ai with
 | _ m ih=>
  by_cases h:m<(bK p a).length
  . exact⟨m,h,rfl⟩
  . obtain⟨i,hi,e⟩:=ih (m-((bK p a).length-bh p a)) (by lia);refine⟨i,hi,?_⟩;rw[<-e];have:=Wu hp a (m:=m-((bK p a).length-bh p a)) (by lia);rw[fL (by lia)]at this;exact this
theorem Ob(v:Nat):v∈bK p a↔∃m,sq p a m=v:=by
 constructor
 . intro h;rw[(j5 hp a).1]at h;obtain⟨i,_,e⟩:=aH.mp h;exact⟨i,e⟩
 . rintro⟨m,rfl⟩
   obtain⟨i,hi,e⟩:=Oa hp a (m:=m);rw[e];exact aL (kt hp a hi)
theorem KQ(v:Nat):v∈nc p p a↔∃m,sq p a m=v:=by
 rw[qz];simp only[aH,au];constructor
 . rintro⟨i,_,e⟩;exact⟨i,e⟩
 . rintro⟨m,rfl⟩
   obtain⟨i,hi,e⟩:=Oa hp a (m:=m);have:=mW hp a;exact⟨i,by lia,e.symm⟩
theorem vF(v:Nat):v∈bI p a↔∃m,bh p a<=m/\sq p a m=v:=by
 have ht:=eM hp a;rw[uI hp a];constructor
 . intro h;obtain⟨j,hj⟩:=kP.mp h;rw[gN]at hj;have hl:=(az.mp hj).1;rw[kt hp a hl]at hj;exact⟨_,by lia,bv.inj hj⟩
 . rintro⟨m,hm,rfl⟩
   have:∃i,bh p a<=i/\i<(bK p a).length/\sq p a m=sq p a i:=by
    induction m using Ai with
    | _ m ih=>
     by_cases h:m<(bK p a).length
     . exact⟨m,hm,h,rfl⟩
     . obtain⟨i,h1,h2,e⟩:=ih (m-((bK p a).length-bh p a)) (by lia) (by lia);refine⟨i,h1,h2,?_⟩;rw[<-e];have:=Wu hp a (m:=m-((bK p a).length-bh p a)) (by lia);rw[fL (by lia)]at this;exact this
   obtain⟨i,h1,h2,e⟩:=this;rw[e];refine aL (i:=i-bh p a) ?_;rw[gN,show bh p a+(i-bh p a)=i by lia];exact kt hp a h2
theorem TK:dX p a=decide (bh p a=0):=by
 have:=CN hp a (j:=0);have e1:dX p (sq p a 0)=dX p a:=by
  rw[bH,rN hp,rN hp];show(∃k,k<=p/\a0 p (k+1) (a%p)=a%p%p)↔_;simp only[N8,dm]
 rw[<-e1,bH,this];simp
theorem A0(b:Nat)(h:cO p a∈bI p b):cO p b∈bI p a:=by
 obtain⟨m,hm,e⟩:=(vF hp b _).mp h;rw[za hp a]at e;rw[za hp b,vF hp a];have htb:=eM hp b;have k:∀n,sq p b (bh p b+((bK p b).length-bh p b)*n)=sq p b (bh p b):=by
  intro n;induction n with
  | zero=>rfl
  | succ n ih=>
   have:=Wu hp b (m:=bh p b+((bK p b).length-bh p b)*n) (by lia);rw[Is,<-jh,this];exact ih
 have hge:m<=bh p b+((bK p b).length-bh p b)*m:=by
  have:1*m<=((bK p b).length-bh p b)*m:=tH _ (by lia);lia
 refine⟨bh p a+(bh p b+((bK p b).length-bh p b)*m-m),by lia,?_⟩;rw[<-k m];have q1:=jL hp (bh p a) a (bh p b+((bK p b).length-bh p b)*m-m);have q2:=jL hp m b (bh p b+((bK p b).length-bh p b)*m-m);rw[show m+(bh p b+((bK p b).length-bh p b)*m-m)=bh p b+((bK p b).length-bh p b)*m by lia]at q2;show a0 p _ a=a0 p _ b;rw[<-q1,<-q2];show a0 p _ (sq p a (bh p a))=a0 p _ (sq p b m);rw[e]
theorem same_iff(b:Nat):cO p a∈bI p b↔cO p b∈bI p a:=⟨A0 hp a b,A0 hp b a⟩
end
theorem Wv{h:House}(g:Good h)(a:Nat):b7 3 [.int a] h (ag h (.again (.tail a))):=by
 intro o;fail"a";by_cases h0:a%h.p=0
 . simp![Mx,qa,aw,h0];simp?[sh,h0]
 . simp![Mx,qa,aw,h0,eC g.p];have e:sh ⟨h.p,h.x⟩ a=true:=by unfold sh;simpa using h0
   simp?[e]
theorem nU{h:House}{a:Nat}(h0:a%h.p≠0):sh ⟨h.p,h.x⟩ a=true:=by unfold sh;simpa using h0
theorem sw{h:House}{a:Nat}(h0:a%h.p=0):sh ⟨h.p,h.x⟩ a=false:=by unfold sh;simpa using h0
theorem Ww{h:House}(g:Good h)(a:Nat):b7 4 [.int a] h (ag h (.again (.foot a))):=by
 intro o;fail"a";by_cases h0:a%h.p=0
 . simp![My,qb,aw,h0];simp?[sw h0]
 . simp![My,qb,aw,h0,xu g.p];simp?[nU h0]
theorem Rh{h:House}(g:Good h)(a:Nat):b7 5 [.int a] h (ag h (.again (.round a))):=by
 intro o;fail"a";by_cases h0:a%h.p=0
 . simp![ye,jA,aw,h0];simp?[sw h0]
 . have hl:=AZ g.p a;simp![ye,jA,aw,h0,l6 g.p,yO,fu];simp?[nU h0,Kp298.tellAll]
theorem KR{h:House}(g:Good h)(a:Nat):b7 6 [.int a] h (ag h (.again (.on_ a))):=by
 intro o;fail"a";have hp0:=i4 g.p;by_cases h0:a%h.p=0
 . simp![vn,i8,aw,h0];simp?[sw h0]
 . have e:dX h.p a=decide (bh h.p a=0):=by
    have:=CN hp0 a (j:=0);have e1:dX h.p (sq h.p a 0)=dX h.p a:=by
     rw[bH,rN hp0,rN hp0];show(∃k,k<=h.p/\a0 h.p (k+1) (a%h.p)=a%h.p%h.p)↔_;simp only[N8,dm]
    rw[<-e1,bH,this];simp
   by_cases ht:bh h.p a=0
   . simp![vn,i8,aw,h0,eC g.p,kZ hp0,ht];simp?[nU h0,e,ht]
   . simp![vn,i8,aw,h0,eC g.p,kZ hp0,ht];simp?[nU h0,e,ht]
theorem Wx{h:House}(g:Good h)(a b:Nat):b7 8 [.int a,.int b] h (ag h (.again (.same a b))):=by
 intro o;fail"a";have hp0:=i4 g.p;by_cases h0:a%h.p=0
 . simp![BK,lO,aw,h0];simp?[sw h0]
 . by_cases h1:b%h.p=0
   . simp![BK,lO,aw,h0,h1];simp?[sw h1,nU h0]
   . have key:(cO h.p a∈bI h.p b)↔(bI h.p a).contains (cO h.p b)=true:=by
      rw[aY];exact same_iff hp0 a b
     by_cases hm:cO h.p a∈bI h.p b
     . simp![BK,lO,aw,h0,h1,xu g.p,l6 g.p,hm];simp?[nU h1,nU h0,key.mp hm]
     . have:(bI h.p a).contains (cO h.p b)=false:=by
        cases e:(bI h.p a).contains (cO h.p b)with
        | false=>rfl
        | true=>exact absurd (key.mpr e) hm
       simp![BK,lO,aw,h0,h1,xu g.p,l6 g.p,hm];simp?[nU h1,nU h0,this]
theorem Wy{h:House}(g:Good h)(a d:Nat):b7 9 [.int a,.int d] h (ag h (.again (.hang a d))):=by
 intro o;fail"a";have hp0:=i4 g.p;by_cases h0:a%h.p=0
 . simp![BL,lP,aw,h0];simp?[sw h0]
 . by_cases h1:20<d
   . simp![cv7,BL,lP,aw,h0,h1];simp?[h1,nU h0]
   . have eo:=TK hp0 a;by_cases ht:bh h.p a=0
     . simp![cv7,BL,lP,aw,h0,h1,eC g.p,kZ hp0,ht];refine dc (λx=>decide (bh h.p x=d)&&decide (cO h.p x=a%h.p)) (by simp only[ae,aB];lia) (λx hx=>?_) ?_
       . simp![eC g.p,kZ hp0,xu g.p]
       . have e:((af (h.p-1)).map λi=>i+1).filter (λx=>decide (bh h.p x=d)&&decide (cO h.p x=a%h.p))=(cX h.p).filter λx=>eI h.p x==d&&a0 h.p d x==a%h.p:=by
          unfold cX;congr 1;funext x
          rw[kZ hp0,za hp0];by_cases q:bh h.p x=d
          . subst q;simp;rfl
          . simp [q]
         rw[e];simp![];simp?[nU h0,h1,eo,ht,decide_true,Kp298.hang]
     . simp![cv7,BL,lP,aw,h0,h1,eC g.p,kZ hp0,ht];simp?[nU h0,h1,eo,ht,decide_false]
theorem KS{h:House}(g:Good h)(a:Nat):b7 10 [.int a] h (ag h (.again (.behind a))):=by
 intro o;fail"a";have hp0:=i4 g.p;by_cases h0:a%h.p=0
 . simp![Ax,kC,aw,h0];simp?[sw h0]
 . simp![Ax,kC,aw,h0];refine dc (λx=>decide (a%h.p∈bK h.p x)) (by simp only[ae,aB];lia) (λx hx=>?_) ?_
   . simp![uH g.p]
   . have e:((af (h.p-1)).map λi=>i+1).filter (λx=>decide (a%h.p∈bK h.p x))=(cX h.p).filter λx=>(nc h.p h.p x).contains (a%h.p):=by
      unfold cX;congr 1;funext x
      rw[bH,aY,decide_eq_true_eq];exact(Ob hp0 x _).trans (KQ hp0 x _).symm
     rw[e];simp![];simp?[nU h0,Kp298.behind]
abbrev XI(h:House)(r:House×wX):House×wX:=if h.x=0 then(h,dM (-6))else r
theorem Oc{h:House}(g:Good h):b7 0 [] h (XI h (ag h (.again .square))):=by
 intro o;fail"a";have hx:=g.x;unfold XI;by_cases h0:h.x=0
 . simp![cv1,D0,lN,aw,h0];simp?[h0,dM]
 . simp![D0,lN,aw,h0];simp?[h0]
theorem CO{h:House}(g:Good h):b7 1 [] h (XI h (ag h (.again .back))):=by
 intro o;fail"a";have hx:=g.x;unfold XI;by_cases h0:h.x=0
 . simp![cv1,uv,hJ,aw,h0];simp?[h0,dM]
 . rw[if_neg h0];simp![uv,hJ,aw,h0];refine dc (λx=>decide (x*x%h.p=h.x)) (by simp only[ae,aB];lia) (λx hx=>?_) ?_
   . have:x<18446744073709551616:=by
      simp only[aH,au]at hx;lia
     simp![]
   . have er:LF h.p h.x=(((af (h.p-1)).map λi=>i+1).filter (λx=>decide (x*x%h.p=h.x))).head?:=by
      unfold LF cX;rw[Pw,aj hx];rfl
     cases hl:((af (h.p-1)).map λi=>i+1).filter (λx=>decide (x*x%h.p=h.x))with
     | nil=>
      rw[hl]at er;simp![];simp?[er,T1]
     | cons y r=>
      rw[hl]at er;have e0:(y::r)[0]?=some y:=rfl;have e1:¬(y::r).length=0:=by simp
      simp![cu e0,e1];simp?[er,SZ]
theorem EO(p:Nat):∀(f a e:Nat),e<2^f->XW p f a e=a^e%p
 | 0,a,e,h=>by
  have:e=0:=by simpa using h
  subst this;rfl
 | f+1,a,e,h=>by
  unfold XW;by_cases h0:e=0
  . subst h0;rw[if_pos rfl];rfl
  . rw[if_neg h0];have ih:=EO p f (a*a%p) (e/2) (by rw[fA]at h;lia);have e1:(a*a%p)^(e/2)%p=a^(2*(e/2))%p:=by rw[<-ot,tJ,a0N]
    dsimp only
    rw[ih,e1];by_cases h1:e%2=1
    . rw[if_pos h1];have:e=2*(e/2)+1:=by lia
      conv=>rhs;rw[this,fA]
      rw[jn]
    . rw[if_neg h1];have:e=2*(e/2):=by lia
      conv=>rhs;rw[this]
theorem vG{p a e:Nat}(h:e<2^40):wY p a e=a^e%p:=by
 unfold wY;rw[EO p 40 _ e h,<-ot]
theorem Od(p a:Nat):∀n,sq p a n=a^(2^n)%p
 | 0=>by show a%p=_;rw[eP,iC]
 | n+1=>by
  show a0 p (n+1) a=_;rw[kr];show sq p a n*sq p a n%p=_;rw[Od p a n,<-cj,fA,tJ,a0N]
theorem HD:∀p∈PL,∀a∈(af (p-1)).map (λi=>i+1),a^(p-1)%p=1:=by decide+kernel
theorem zb{p a:Nat}(hp:p∈PL)(h:a%p≠0):a^(p-1)%p=1:=by
 fail"h";rw[ot];have:=aN a (show p>0 by lia);exact HD p hp (a%p) (aH.mpr ⟨a%p-1,au.mpr (by lia),by lia⟩)
theorem Ri{p a:Nat}(hp:p∈PL)(h:a%p≠0)(n:Nat):a^n%p=a^(n%(p-1))%p:=by
 fail"h";have e:n=(p-1)*(n/(p-1))+n%(p-1):=(Aj n (p-1)).symm;have e1:(a^(p-1))^(n/(p-1))%p=1:=by
  rw[ot,zb hp h,LG,aj (by lia)]
 conv=>lhs;rw[e,lx,tJ,cj,e1,iD,dm]
theorem Rj{p a n:Nat}(hp:p∈PL)(h:a%p≠0)(hn:n<4294967296):XX p a n=sq p a n:=by
 fail"h";unfold XX;have h40:(1099511627776:Nat)=2^40:=by decide
 rw[vG (p:=p-1) (a:=2) (by lia),vG (by have:=aN (2^n) (show p-1>0 by lia);lia),Od,<-Ri hp h]
theorem Rk{p:Nat}(hp:0<p)(a:Nat){m:Nat}(h:bh p a<=m):sq p a (bh p a+(m-bh p a)%((bK p a).length-bh p a))=sq p a m:=by
 have ht:=eM hp a;induction m using Ai with
 | _ m ih=>
  by_cases hm:m-bh p a<(bK p a).length-bh p a
  . rw[aj hm,u0 h]
  . have:=Wu hp a (m:=m-((bK p a).length-bh p a)) (by lia);rw[fL (by lia)]at this;rw[this,<-ih (m-((bK p a).length-bh p a)) (by lia) (by lia)];rw[show m-((bK p a).length-bh p a)-bh p a=m-bh p a-((bK p a).length-bh p a) by lia,<-m9 (by lia)]
theorem Rl{h:House}(g:Good h)(a n:Nat)(hn:n<4294967296):b7 2 [.int a,.int n] h (ag h (.again (.after a n))):=by
 intro o;fail"a";have hp0:=i4 g.p;by_cases h0:a%h.p=0
 . simp![w_after,lA,aw,h0];simp?[sw h0]
 . have ht:=eM hp0 a;have hle:=mW hp0 a;have es:=Rj g.p h0 hn;by_cases hc:n<(bK h.p a).length
   . simp![w_after,lA,aw,h0,uH g.p,hc,cu (kt hp0 a hc)];simp?[nU h0,es]
   . have el:(bI h.p a).length=(bK h.p a).length-bh h.p a:=by rw[uI hp0,fC]
     have hlt:=aN (n-bh h.p a) (show(bK h.p a).length-bh h.p a>0 by lia);have ei:(bI h.p a)[(n-bh h.p a)%((bK h.p a).length-bh h.p a)]?=some (sq h.p a n):=by
      rw[uI hp0,gN,kt hp0 a (by lia),Rk hp0 a (by lia)]
     simp![w_after,lA,aw,h0,uH g.p,hc,l6 g.p,eC g.p,kZ hp0,el,cu ei];simp?[nU h0,es]
theorem KT{p:Nat}(hp:0<p)(a b:Nat)(h:sq p a p=sq p b p):sq p a (p-1)=sq p b (p-1):=by
 have ta:=eM hp a;have tb:=eM hp b;have la:=mW hp a;have lb:=mW hp b;have k:∀(c n:Nat),bh p c<=p-1->bh p c<(bK p c).length->sq p c (p-1+((bK p c).length-bh p c)*n)=sq p c (p-1):=by
  intro c n h1 h2;induction n with
  | zero=>rfl
  | succ n ih=>
   have:=Wu hp c (m:=p-1+((bK p c).length-bh p c)*n) (by lia);rw[Is,<-jh,this];exact ih
 have ka:=k a ((bK p b).length-bh p b) (by lia) ta;have kb:=k b ((bK p a).length-bh p a) (by lia) tb;rw[cz]at kb;obtain⟨N,hN⟩:∃N,((bK p a).length-bh p a)*((bK p b).length-bh p b)=N+1:=by
  have:0<((bK p a).length-bh p a)*((bK p b).length-bh p b):=Nat.mul_pos (by lia) (by lia);exact⟨_,(fL this).symm⟩
 rw[hN,show p-1+(N+1)=p+N by lia]at ka kb;rw[<-ka,<-kb];show a0 p (p+N) a=a0 p (p+N) b;rw[<-jL hp,<-jL hp];show a0 p N (sq p a p)=a0 p N (sq p b p);rw[h]
theorem HE{n:Nat}{q:Nat->Bool}{j:Nat}(hj:j<n)(h1:q j=true)(h2:∀i,i<j->q i=false):(af n).find? q=some j:=by
 rw[gc];exact⟨h1,au.mpr hj,λi hi=>by rw[h2 i hi];rfl⟩
theorem Wz{h:House}(g:Good h)(a b:Nat):b7 7 [.int a,.int b] h (ag h (.again (.meet a b))):=by
 intro o;fail"a";have hp0:=i4 g.p;by_cases h0:a%h.p=0
 . simp![Gy,nu,aw,h0];simp?[sw h0]
 . by_cases h1:b%h.p=0
   . simp![Gy,nu,aw,h0,h1];simp?[sw h1,nU h0]
   . simp![Gy,nu,aw,h0,h1];refine yT (af h.p) (λj S=>∃own v6,S=⟨[some .obj,some (.int a),some (.int b),some (.int h.p),some (.int (sq h.p a j:Nat)),some (.int (sq h.p b j:Nat)),v6],own,aw h o,true⟩) (λj _=>decide (sq h.p a j=sq h.p b j)) (λj x v S=>v=.il [(j:Int),(sq h.p a j:Int)]/\S.hs=aw h o/\S.rw=true) ?_ rfl ?_ ?_ ?_ ?_
     . simp![]
     . exact⟨_,_,rfl⟩
     . rintro j S x hx ⟨own,v6,rfl⟩;have hxj:x=j:=by
        by_cases q:j<h.p
        . rw[aS q]at hx;exact(bv.inj hx).symm
        . rw[bA (by simpa using q)]at hx;cases hx
       subst hxj;have l1:sq h.p a x<h.p:=wp hp0 _ _;have l2:sq h.p b x<h.p:=wp hp0 _ _;have e1:sq h.p a x*sq h.p a x%h.p=sq h.p a (x+1):=(kr _ _ _).symm;have e2:sq h.p b x*sq h.p b x%h.p=sq h.p b (x+1):=(kr _ _ _).symm;refine⟨λhq=>?_,λhq=>?_⟩
       . have hq':¬sq h.p a x=sq h.p b x:=by simpa using hq
         exact⟨_,by simp![hq',e1,e2];rfl,_,_,rfl⟩
       . have hq':sq h.p a x=sq h.p b x:=by simpa using hq
         refine⟨_,_,by simp![hq'];rfl,?_,rfl,rfl⟩;rw[hq']
     . rintro S hall ⟨own,v6,rfl⟩;have hn:Ak h.p a b=none:=by
        unfold Ak;rw[dH];intro n hn he;rw[au]at hn;have he':sq h.p a n=sq h.p b n:=by simpa using he
        have hlt:∀j,j<h.p->sq h.p a j≠sq h.p b j:=λj hj=>by
         have:=hall j j (aS hj);simpa using this
        by_cases q:n<h.p
        . exact hlt n q he'
        . have:n=h.p:=by lia
          subst this;exact hlt (h.p-1) (by lia) (KT hp0 a b he')
       simp![aw];simp?[nU h1,nU h0,hn]
     . rintro j x v S hj hq hlt ⟨rfl,e1,e2⟩;have hjp:j<h.p:=by
        refine S0 λq=>?_;rw[bA (by simpa using q)]at hj;cases hj
       have hm:Ak h.p a b=some j:=by
        unfold Ak;refine HE (by lia) ?_ λi hi=>?_
        . have:sq h.p a j=sq h.p b j:=by simpa using hq
          simpa using this
        . have:=hlt i i hi (aS (by lia));have:sq h.p a i≠sq h.p b i:=by simpa using this
          simpa using this
       simp![e1,e2,bl7];simp?[nU h1,nU h0,hm]
theorem zc{l:List Nat}(h:l≠[]):mx .max (.il (zl l))=some (.int (l.foldl max 0:Nat)):=by
 cases l with
 | nil=>exact absurd rfl h
 | cons a r=>
  show some (PV.int (xW (a:Int) (zl r)))=_;have k:∀(r:List Nat) (a:Nat),xW (a:Int) (zl r)=((r.foldl max a:Nat):Int):=by
   intro r;induction r with
   | nil=>intro a;rfl
   | cons b r ih=>
    intro a;show xW (if(a:Int)<(b:Int)then(b:Int)else(a:Int)) (zl r)=_;rw[aU,<-ih];congr 1
    rw[Nat.max_def];split<;>split<;>lia
  rw[k,aU,Z4]
theorem CP{a:Nat}{r:List Nat}:mx .min (.il (zl (a::r)))=some (.int (r.foldl min a:Nat)):=by
 show some (PV.int (xV (a:Int) (zl r)))=_;have k:∀(r:List Nat) (a:Nat),xV (a:Int) (zl r)=((r.foldl min a:Nat):Int):=by
  intro r;induction r with
  | nil=>intro a;rfl
  | cons b r ih=>
   intro a;show xV (if(b:Int)<(a:Int)then(b:Int)else(a:Int)) (zl r)=_;rw[aU,<-ih];congr 1
   rw[Nat.min_def];split<;>split<;>lia
 rw[k]
theorem EQ{p:Nat}(hp:p∈PL)(hs:List PV):FN 45 [.int p] hs=some (.il (zl ((cX p).map (eI p)))):=by
 fail"h";simp![Gw,oJ];refine lZ (eI p) (by simp only[ae,aB];lia) (λx hx=>?_) ?_
 . simp![eC hp]
 . rfl
theorem JA{p:Nat}(hp:p∈PL):cX p≠[]:=by
 fail"h";unfold cX;intro h;have:=congrArg sC h;simp at this;lia
theorem pi{α:Type}(f:α->Nat):∀(l:List α) (m:Nat),(l.map f).foldl max m=l.foldl (λ(m:Nat) (a:α)=>max m (f a)) m
 | [],m=>rfl
 | x::r,m=>by rw[ax,aU,aU,pi f r]
theorem HF{p:Nat}(hp:p∈PL)(hs:List PV):FN 61 [.int p] hs=some (.int (ng p:Nat)):=by
 fail"h";have hne:(cX p).map (eI p)≠[]:=by simpa using JA hp
 simp![yd,jz,EQ hp,zc hne];rw[pi];rfl
theorem JB:∀{l:List Nat},l≠[]->l.foldl max 0∈l:=by
 have k:∀(l:List Nat) (m:Nat),l.foldl max m=m\/l.foldl max m∈l:=by
  intro l;induction l with
  | nil=>intro m;exact .inl rfl
  | cons x r ih=>
   intro m;rw[aU];rcases ih (max m x)with e | e
   . rw[e];rcases Iu m x with q | q
     . rw[Nat.max_eq_right q];exact .inr (by simp)
     . rw[Nat.max_eq_left q];exact .inl rfl
   . exact .inr (ao _ e)
 intro l h;cases l with
 | nil=>exact absurd rfl h
 | cons x r=>
  rw[aU,Z4];rcases k r x with e | e
  . rw[e];simp
  . exact ao _ e
theorem zd{f:Nat->Nat}{d:Nat}:∀{l:List Nat} {q:Nat->Bool},(∀a,q a=(f a==d))->d∈l.map f->l.find? q=l[(l.map f).idxOf d]?
 | [],_,_,h=>by simp at h
 | x::r,q,hq,h=>by
  rw[ax,jg,lI,hq x];cases e:f x==d with
  | true=>rfl
  | false=>
   rw[cond_false];have:d∈r.map f:=by
    rw[ax]at h;rcases aE.mp h with z | z
    . rw[z]at e;simp at e
    . exact z
   rw[zd hq this];rfl
theorem Rm{h:House}(g:Good h):b7 13 [] h (ag h (.again .depth)):=by
 intro o;fail"a";have hne:(cX h.p).map (eI h.p)≠[]:=by simpa using JA g.p
 have hm:=JB hne;have ed:((cX h.p).map (eI h.p)).foldl max 0=ng h.p:=by rw[pi];rfl
 rw[ed]at hm;have hlt:=dO hm;have hl:(cX h.p).length=h.p-1:=by unfold cX;simp
 rw[ae,hl]at hlt;have ef:S4 h.p=((cX h.p).map (eI h.p)).idxOf (ng h.p)+1:=by
  unfold S4;show((cX h.p).find? λa=>eI h.p a==ng h.p).getD 0=_;rw[zd (f:=eI h.p) (λa=>rfl) hm];conv=>lhs;unfold cX
  rw[ak];have:=aS hlt;unfold cX at this⊢;rw[this];rfl
 simp![Qw,rb,aw,EQ g.p,zc hne,ed,kL hm];simp?[ef]
theorem JC{x a:Nat}:∀{r:List Nat},x∈a::r->(r.foldl min a=x↔∀y∈a::r,x<=y):=by
 have k:∀(r:List Nat) (a:Nat),(∀y∈a::r,r.foldl min a<=y)/\r.foldl min a∈a::r:=by
  intro r;induction r with
  | nil=>intro a;exact⟨λy hy=>by simp at hy;subst hy;exact aO _,by simp⟩
  | cons b r ih=>
   intro a;rw[aU];obtain⟨h1,h2⟩:=ih (min a b);have h3:=h1 (min a b) (by simp);refine⟨λy hy=>?_,?_⟩
   . rcases aE.mp hy with e | e
     . subst e;lia
     . rcases aE.mp e with e | e
       . subst e;lia
       . exact h1 y (ao _ e)
   . rcases aE.mp h2 with e | e
     . rw[e];rcases Iu a b with q | q
       . rw[fg q];simp
       . rw[S5 q];simp
     . exact ao _ (ao _ e)
 intro r hx;obtain⟨h1,h2⟩:=k r a;exact⟨λe y hy=>e▸h1 y hy,λhy=>fY (h1 x hx) (hy _ h2)⟩
theorem ER{p:Nat}(hp:p∈PL)(hs:List PV):FN 62 [.int p] hs=some (.il (zl ((iq p).map λa=>(bI p a).length))):=by
 fail"h";have hp0:=i4 hp;let c:Nat->Bool:=λa=>dX p a&&(bI p a).all λx=>decide (a<=x)
 simp![wI,iR];refine rM ((af (p-1)).map λi=>i+1) (λi (b:List Nat) S=>b.length<=i/\∃own v2 v3,own.contains 1=true/\S=⟨[some (.int p),some (.il (zl b)),v2,v3],own,hs,false⟩) (λb x=>if c x then b++[(bI p x).length]else b) [] ?_ rfl ?_ ?_ ?_
 . simp![]
 . exact⟨by simp,[1],none,none,rfl,rfl⟩
 . rintro i b S x hx ⟨hl,own,v2,v3,ho,rfl⟩;have hi:i<p-1:=by
    refine S0 λq=>?_;rw[bA (by simpa using q)]at hx;cases hx
   have hxi:x=i+1:=by
    rw[ak,aS hi]at hx;simpa using hx.symm
   have hrl:=AZ hp x;have hc:c x=(decide (((bI p x).tail).foldl min (cO p x)=x)&&decide (bh p x=0)):=by
    show(dX p x&&_)=_;rw[TK hp0];by_cases ht:bh p x=0
    . have hf:cO p x=x:=by
       rw[za hp0,ht];exact aj (by lia)
      have hm:x∈cO p x::(bI p x).tail:=by rw[hf];simp
      have:=JC hm;rw[bH];simp only[ht,decide_true,dZ,gb,decide_eq_true_eq,this,bw];rfl
    . simp [ht]
   have em:mx .min (.il (zl (bI p x)))=some (.int (((bI p x).tail).foldl min (cO p x):Nat)):=CP (a:=cO p x);by_cases q:c x=true
   . rw[if_pos q];rw[hc]at q;obtain⟨q1,q2⟩:=be.mp q;have q1:=oD q1;have q2:=oD q2;refine⟨_,by simp![l6 hp,em,eC hp,kZ hp0,q1,q2,ho,eL,du];rfl,by simp;lia,_,_,_,?_,rfl⟩;simp![ho]
   . rw[if_neg q];rw[hc]at q;have q':(decide (((bI p x).tail).foldl min (cO p x)=x)&&decide (bh p x=0))=false:=by simpa using q
     refine⟨_,by simp![l6 hp,em,eC hp,kZ hp0,q',ho];rfl,by lia,_,_,_,?_,rfl⟩;simp![ho]
 . rintro S ⟨hl,own,v2,v3,ho,rfl⟩;have e:((af (p-1)).map λi=>i+1).foldl (λb x=>if c x then b++[(bI p x).length]else b) []=(iq p).map λa=>(bI p a).length:=by
    have k:∀(l:List Nat) (b:List Nat),l.foldl (λb x=>if c x then b++[(bI p x).length]else b) b=b++(l.filter c).map λa=>(bI p a).length:=by
     intro l;induction l with
     | nil=>intro b;simp
     | cons x r ih=>
      intro b;rw[aU,ih,cp];by_cases q:c x=true<;>simp [q]
    rw[k,fb];rfl
   rw[e];simp![ho]
theorem Oe:∀p∈PL,iq p≠[]:=by
 intro p hp;fail"h";have hp0:=i4 hp;have h1:∀n,sq p 1 n=1:=by
  intro n;induction n with
  | zero=>exact aj (by lia)
  | succ n ih=>show a0 p (n+1) 1=1;rw[kr];show sq p 1 n*sq p 1 n%p=1;rw[ih];exact aj (by lia)
 have:1∈iq p:=by
  unfold iq cX;rw[aX];refine⟨aH.mpr ⟨0,au.mpr (by lia),rfl⟩,?_⟩;rw[aG,rN hp0,bw];refine⟨⟨0,by lia,by rw[h1];exact(aj (by lia)).symm⟩,λx hx=>?_⟩;obtain⟨m,_,e⟩:=(vF hp0 1 x).mp hx;rw[h1]at e;simp;lia
 exact List.ne_nil_of_mem this
theorem Of(l:List Nat)(k:Nat):(zl l).count (k:Int)=l.count k:=by
 induction l with
 | nil=>rfl
 | cons x r ih=>
  show((x:Int)::zl r).count (k:Int)=_;rw[zP,zP,ih];have:((x:Int)==(k:Int))=(x==k):=by rw[bH];simp [d9]
  rw[this]
theorem ES(l:List Nat)(k:Nat):t8 (.il (zl l)) (.int k)=some (.int (l.count k:Nat)):=by
 show some (PV.int ((zl l).count (k:Int):Nat))=_;rw[Of]
theorem HG{h:House}(g:Good h)(k:Nat):b7 11 [.int k] h (ag h (.again (.many k))):=by
 intro o;fail"a";by_cases h0:h.p<=k
 . simp![yf,jB,aw,h0];simp?[h0]
 . simp![yf,jB,aw,h0,ER g.p,ES];have e:((iq h.p).map λa=>(bI h.p a).length).count k=Z5 h.p k:=by
    unfold Z5;rw[J1,S6,zR];rfl
   simp?[h0,e]
theorem Og{h:House}(g:Good h):b7 12 [] h (ag h (.again .rounds)):=by
 intro o;fail"a";have hne:((iq h.p).map λa=>(bI h.p a).length)≠[]:=by simpa using Oe h.p g.p
 simp![Mz,oM,aw,ER g.p,zc hne];rw[pi,ae];simp?[]
theorem CQ{p:Nat}(hp:p∈PL)(a:Nat)(hs:List PV):FN 9 [.int a,.int p] hs=some (.il (zl (cH p a))):=by
 fail"h";simp![x8,jt];refine lZ (λk=>k*a%p) (by simp only[ae,aB];lia) (λx hx=>?_) ?_
 . simp only[aH,au]at hx;have hx':x<98:=by lia
   simp![];rw[cz]
 . rfl
theorem ze(p a:Nat):(cH p a).length=p-1:=by unfold cH eW;simp
theorem nV(x p:Nat)(hs:List PV):FN 29 [.int x,.int p] hs=some (.bl (decide (p/2<x))):=by
 simp![DX,mQ,iY]
theorem vH{x p:Nat}(hx:x<=p)(hs:List PV):FN 49 [.int x,.int p] hs=some (.int ((if p/2<x then p-x else x:Nat):Int)):=by
 by_cases h:p/2<x
 . simp![DY,p9,nV,h]
 . simp![DY,p9,nV,h]
theorem JD{p:Nat}(hp:p∈PL)(a:Nat)(hs:List PV):FN 30 [.int a,.int p] hs=some (.il (zl ((eW (p/2)).map (ir p a)))):=by
 fail"h";simp![Hi,oO,fc,CQ hp,iY,Nr (cH p a) (p/2) (by rw[ze];lia)];unfold cH eW;rw[<-k7,<-k7,List.take_range,fg (by lia)]
theorem place_lt{p:Nat}(hp:p∈PL)(a k:Nat):ir p a k<p:=aN _ (i4 hp)
theorem ET{p:Nat}(hp:p∈PL)(a:Nat)(hs:List PV):FN 50 [.int a,.int p] hs=some (.int (Iv p a:Nat)):=by
 fail"h";simp![yb,jx,JD hp];refine dc (λx=>decide (p/2<x)) (by unfold eW;simp only[ae,aB];lia) (λx hx=>?_) ?_
 . simp![nV]
 . simp![];rw[qP,ae];rfl
theorem pM{h:House}{a:Nat}(h0:a%h.p≠0):Iw ⟨h.p,h.q⟩ a=true:=by unfold Iw;simpa using h0
theorem qA{h:House}{a:Nat}(h0:a%h.p=0):Iw ⟨h.p,h.q⟩ a=false:=by unfold Iw;simpa using h0
theorem Rn{h:House}(g:Good h)(a:Nat):b7 32 [.int a] h (ag h (.between (.folds a))):=by
 intro o;fail"a";by_cases h0:a%h.p=0
 . simp![IX,ny,aw,h0];simp?[qA h0]
 . simp![IX,ny,aw,h0,ET g.p];simp?[pM h0]
theorem EU{h:House}(g:Good h)(a:Nat):b7 33 [.int a] h (ag h (.between (.foldedAll a))):=by
 intro o;fail"a";by_cases h0:a%h.p=0
 . simp![wb,iK,aw,h0];simp?[qA h0]
 . have hl:(eW (h.p/2)).length=h.p/2:=by unfold eW;simp
   simp![wb,iK,aw,h0,JD g.p];refine lZ (λx=>if h.p/2<x then h.p-x else x) (by rw[ae,hl];lia) (λx hx=>?_) ?_
   . obtain⟨k,_,rfl⟩:=aH.mp hx;have:=place_lt g.p a k;simp![vH (show ir h.p a k<=h.p by lia)]
   . rw[cG];simp![yO,fu,hl,ae];dsimp![pM h0,T2];simp only[ae,eX,hl];rfl
theorem HH{h:House}(g:Good h)(a k:Nat):b7 39 [.int a,.int k] h (ag h (.between (.place a k))):=by
 intro o;fail"a";by_cases h0:a%h.p=0
 . simp![oR,gy,aw,h0];simp?[qA h0]
 . by_cases h1:k<1
   . have hk:k=0:=by lia
     simp![oR,gy,aw,h0,h1];simp?[pM h0,hk]
   . by_cases h2:h.p<=k
     . have hk:¬k=0:=by lia
       simp![oR,gy,aw,h0,h1,h2];simp?[pM h0,h2,hk]
     . have hk:¬k=0:=by lia
       simp![oR,gy,aw,h0,h1,h2];dsimp![pM h0,h2,hk,ir];rw[cz]
theorem WA{h:House}(g:Good h)(a k:Nat):b7 31 [.int a,.int k] h (ag h (.between (.fold a k))):=by
 intro o;fail"a";by_cases h0:a%h.p=0
 . simp![w_fold,kD,aw,h0];simp?[qA h0]
 . by_cases h1:1<=k
   . by_cases h2:k<=h.p/2
     . have hk:¬k=0:=by lia
       have h3:¬h.p/2<k:=by lia
       have hl:a*k%h.p<h.p:=aN _ (by lia);by_cases h4:h.p/2<a*k%h.p
       . simp![w_fold,kD,aw,h0,dR,h1,h2,vH (show a*k%h.p<=h.p by lia),nV,h4];have h5:h.p/2<k*a%h.p:=by rw[cz];exact h4
         dsimp![pM h0,hk,h3,eX,Xz,XA,ir,h5,decide_true];rw[cz];rfl
       . simp![w_fold,kD,aw,h0,dR,h1,h2,vH (show a*k%h.p<=h.p by lia),nV,h4];have h5:¬h.p/2<k*a%h.p:=by rw[cz];exact h4
         dsimp![pM h0,hk,h3,eX,Xz,XA,ir,h5,decide_false];rw[cz];rfl
     . have h3:h.p/2<k:=by lia
       simp![w_fold,kD,aw,h0,dR,h1,h2];simp?[pM h0,h3,eX]
   . have hk:k=0:=by lia
     simp![w_fold,kD,aw,h0,dR,h1];simp?[pM h0,hk]
theorem Oh{p a b:Nat}(hp:p∈PL)(ha:a%p≠0)(hb:b%p≠0):b%p∈cH p a:=by
 have hpb:=a9 hp;have e:=zb hp ha;unfold cH eW ir;have hk:b*a^(p-2)%p*a%p=b%p:=by
  rw[jn,fD,<-fA,show(p-2).succ=p-1 by lia,cj,e,ly,dm]
 have h0:b*a^(p-2)%p≠0:=λz=>by rw[z,wZ,gR]at hk;exact hb hk.symm
 have hl:=aN (b*a^(p-2)) (show p>0 by lia);rw[cG];exact aH.mpr ⟨b*a^(p-2)%p-1,au.mpr (by lia),by show(b*a^(p-2)%p-1+1)*a%p=b%p;rw[fL (by lia)];exact hk⟩
theorem Ro{h:House}(g:Good h)(a b:Nat):b7 40 [.int a,.int b] h (ag h (.between (.where_ a b))):=by
 intro o;fail"a";by_cases h0:a%h.p=0
 . simp![BR,lC,aw,h0];simp?[qA h0]
 . by_cases h1:b%h.p=0
   . simp![BR,lC,aw,h0,h1];simp?[pM h0,qA h1]
   . have hm:=Oh g.p h0 h1;have hlt:=dO hm;rw[ze]at hlt;have ef:((eW (h.p-1)).find? λk=>ir h.p a k==b%h.p).getD 0=(cH h.p a).idxOf (b%h.p)+1:=by
      have e:=zd (f:=ir h.p a) (d:=b%h.p) (l:=eW (h.p-1)) (λ_=>rfl) hm;rw[e];show((eW (h.p-1))[(cH h.p a).idxOf (b%h.p)]?).getD 0=_;conv=>lhs;unfold eW
      rw[ak,aS hlt];rfl
     simp![BR,lC,aw,h0,h1,CQ g.p,kL hm];simp?[pM h0,pM h1,ef]
theorem PH{q:Nat}(h:dy q=true):3<=q/\q<200/\q%2=1:=by
 unfold dy iB at h;simp only[aG,decide_eq_true_eq,beq_iff_eq]at h;lia
theorem Rp:∀p∈PL,∀q∈af 200,dy q=true->q≠p->Nat.gcd p q=1:=by decide+kernel
theorem cop{h:House}(g:Good h):Nat.Coprime h.p h.q:=Rp h.p g.p h.q (au.mpr (PH g.q).2.1) g.q g.qp
theorem WB:∀p∈PL,p%2=1:=by decide
theorem A1{p q k:Nat}(hp:0<p)(h2:2*k<=p):k*q/p<=q/2:=by
 rw[si (by lia)];refine fG λhc=>?_;have h3:k*q/p*p<=k*q:=Nat.div_mul_le_self _ _;have h4:(q+1)*p<=k*q/p*2*p:=tH _ hc;have h5:2*k*q<=p*q:=tH _ h2;have h6:k*q/p*2*p=2*(k*q/p*p):=by rw[Nat.mul_right_comm,cz]
 have h7:2*k*q=2*(k*q):=fD _ _ _;have h8:(q+1)*p=p*q+p:=by rw[gQ,cz]
 lia
theorem qB(x y:Nat)(h:House)(o:List jP)(g:Good h):FN 11 [.int x,.int y,.obj] (aw h o)=some (.bl (decide (y*h.p<x*h.q))):=by
 fail"a";have hq:=PH g.q;simp![Gp,oC,aw]
theorem wr{h:House}(g:Good h)(o:List jP){k:Nat}(h1:1<=k)(h2:k<=h.p/2):FN 33 [.int k,.obj] (aw h o)=some (.int (mn h.p h.q k:Nat)):=by
 fail"a";have hq:=PH g.q;have hodd:=WB h.p g.p;have hu:=qB k (g:=g) (o:=o);have hs:=aw h o;simp![Gu,oG,show aw h o=[.int h.p,.int h.x,.int h.q,.il (zl h.terms),.il (zl h.kept),.int h.e,.int h.g,.pics o]from rfl,iY];refine dc (λy=>decide (y<=k*h.q/h.p)) (by simp only[ae,aB];lia) (λy hy=>?_) ?_
 . have e:=hu y;rw[show aw h o=[.int h.p,.int h.x,.int h.q,.il (zl h.terms),.il (zl h.kept),.int h.e,.int h.g,.pics o]from rfl]at e;have hne:y*h.p≠k*h.q:=λz=>by
    have hd:h.p∣k*h.q:=⟨y,by rw[<-z,cz]⟩;have:=XY (by lia) ((cop g).dvd_of_dvd_mul_right hd);lia
   have hi:(y*h.p<k*h.q)↔y<=k*h.q/h.p:=by
    rw[si (by lia)];lia
   simp![e,hi]
 . rw[cD,HB _ _ (A1 (by lia) (by lia))];simp![];simp [mn]
theorem zf{h:House}(g:Good h)(o:List jP){k:Nat}(h1:1<=k)(h2:k<=h.q/2):FN 34 [.int k,.obj] (aw h o)=some (.int (mn h.q h.p k:Nat)):=by
 fail"a";have hq:=PH g.q;simp![Ks,qX,show aw h o=[.int h.p,.int h.x,.int h.q,.il (zl h.terms),.il (zl h.kept),.int h.e,.int h.g,.pics o]from rfl,iY];refine dc (λx=>decide (x<=k*h.p/h.q)) (by simp only[ae,aB];lia) (λx hx=>?_) ?_
 . have e:=qB x k h o g;rw[show aw h o=[.int h.p,.int h.x,.int h.q,.il (zl h.terms),.il (zl h.kept),.int h.e,.int h.g,.pics o]from rfl]at e;have hi:(k*h.p<x*h.q)↔¬x<=k*h.p/h.q:=by
    rw[si (by lia)];lia
   simp![e,hi];simp
 . rw[cD,HB _ _ (A1 (by lia) (by lia))];simp![];simp [mn]
theorem bz(h:House)(o:List jP):aw h o=[.int h.p,.int h.x,.int h.q,.il (zl h.terms),.il (zl h.kept),.int h.e,.int h.g,.pics o]:=rfl
theorem Oi{h:House}(g:Good h)(k:Nat):b7 34 [.int k] h (ag h (.between (.column k))):=by
 intro o;fail"a";by_cases h1:1<=k
 . by_cases h2:k<=h.p/2
   . have hk:¬k=0:=by lia
     have h3:¬h.p/2<k:=by lia
     have e:=wr g o h1 h2;rw[bz]at e;simp![yg,jV,aw,dR,h1,h2,e];simp?[hk,h3,eX]
   . have h3:h.p/2<k:=by lia
     simp![yg,jV,aw,dR,h1,h2];simp?[h3,eX]
 . have hk:k=0:=by lia
   simp![yg,jV,aw,dR,h1];simp?[hk]
theorem Zz{h:House}(g:Good h)(k:Nat):b7 35 [.int k] h (ag h (.between (.row k))):=by
 intro o;fail"a";by_cases h1:1<=k
 . by_cases h2:k<=h.q/2
   . have hk:¬k=0:=by lia
     have h3:¬h.q/2<k:=by lia
     have e:=zf g o h1 h2;rw[bz]at e;simp![MB,rh,aw,dR,h1,h2,e];simp?[hk,h3,eX]
   . have h3:h.q/2<k:=by lia
     simp![MB,rh,aw,dR,h1,h2];simp?[h3,eX]
 . have hk:k=0:=by lia
   simp![MB,rh,aw,dR,h1];simp?[hk]
theorem Rq{h:House}(g:Good h):b7 36 [] h (ag h (.between .under)):=by
 intro o;fail"a";have hq:=PH g.q;simp![QA,rm,aw,iY];refine lZ (mn h.p h.q) (by simp only[ae,aB];lia) (λx hx=>?_) ?_
 . simp only[aH,au]at hx;have e:=wr g o (k:=x) (by lia) (by lia);rw[bz]at e;simp![e]
 . rw[cD];simp![y8];simp?[XZ,eX]
theorem WC{h:House}(g:Good h):b7 37 [] h (ag h (.between .over)):=by
 intro o;fail"a";have hq:=PH g.q;simp![UR,ud,aw,iY];refine lZ (mn h.q h.p) (by simp only[ae,aB];lia) (λx hx=>?_) ?_
 . simp only[aH,au]at hx;have e:=zf g o (k:=x) (by lia) (by lia);rw[bz]at e;simp![e]
 . rw[cD];simp![y8];simp?[XZ,eX]
theorem Oj{h:House}(g:Good h)(x y:Nat):b7 38 [.int x,.int y] h (ag h (.between (.inside x y))):=by
 intro o;fail"a";have hi:∀{k n:Nat},(decide (1<=k)&&decide (k<=n/2))=false->k=0\/n/2<k:=λ{k n} h=>by
  simp only[Bool.and_eq_false_iff,decide_eq_false_iff_not]at h;lia
 cases c1:(decide (1<=x)&&decide (x<=h.p/2))with
 | false=>
  simp![uw,iW,aw,dR,c1];rcases hi c1 with e | e
  . simp?[e]
  . simp?[e,eX]
 | true=>
  have d1:¬x=0/\¬h.p/2<x:=by simp only[aG,decide_eq_true_eq]at c1;lia
  cases c2:(decide (1<=y)&&decide (y<=h.q/2))with
  | false=>
   simp![uw,iW,aw,dR,c1,c2];rcases hi c2 with e | e
   . simp?[e]
   . simp?[e,eX]
  | true=>
   have d2:¬y=0/\¬h.q/2<y:=by simp only[aG,decide_eq_true_eq]at c2;lia
   have e:=qB x y h o g;rw[bz]at e;by_cases hu:y*h.p<x*h.q
   . simp![uw,iW,aw,dR,c1,c2,e,hu];simp?[d1.1,d1.2,d2.1,d2.2,eX,hu]
   . simp![uw,iW,aw,dR,c1,c2,e,hu];simp?[d1.1,d1.2,d2.1,d2.2,eX,hu]
theorem JE(i:Nat){h:House}(g:Good h)(o:List jP):FN 12 [.int i,.obj] (aw h o)=some (.bl (decide (i<h.p*h.q))):=by
 fail"a";simp![Kn,qT,aw]
theorem Rr{h:House}(g:Good h)(i:Nat):b7 45 [.int i] h (ag h (.between (.dealt i))):=by
 intro o;fail"a";have hq:=PH g.q;have e:=JE i g o;rw[bz]at e;by_cases hc:i<h.p*h.q
 . have hn:¬h.p*h.q<=i:=by lia
   simp![IY,nz,aw,e,hc];simp?[hn,X0]
 . have hn:h.p*h.q<=i:=by lia
   simp![IY,nz,aw,e,hc];simp?[hn]
theorem KU{h:House}(g:Good h)(i:Nat):b7 46 [.int i] h (ag h (.between (.dealtTo i))):=by
 intro o;fail"a";have hq:=PH g.q;have e:=JE i g o;rw[bz]at e;by_cases hc:i<h.p*h.q
 . have hn:¬h.p*h.q<=i:=by lia
   simp![Ay,kE,aw,e,hc];simp?[hn,X0]
 . have hn:h.p*h.q<=i:=by lia
   simp![Ay,kE,aw,e,hc];simp?[hn]
theorem Ol{n:Nat}(h1:1<=n)(h2:n<1000)(hs:List PV):FN 13 [.int n] hs=some (.int (n*(n-1)/2:Nat)):=by
 simp![zZ,kc]
theorem CT{h:House}(g:Good h):b7 47 [] h (ag h (.between .dealtPairs)):=by
 intro o;fail"a";have hq:=PH g.q;have hlt:h.p*(h.p-1)/2<18446744073709551616:=by
  have:h.p*(h.p-1)<=97*97:=iE (by lia) (by lia);lia
 simp![BS,jD,aw,Ol];simp?[Kp299.dealtPairs]
theorem CU{α:Type}{p q:α->Bool}:∀{l:List α},(∀x∈l,p x=q x)->l.find? p=l.find? q
 | [],_=>rfl
 | x::r,h=>by
  rw[lI,lI,h x (by simp),CU (l:=r) λy hy=>h y (by simp [hy])]
theorem s0{α:Type}{q:α->Bool}:∀{l:List α} {j:Nat} {x:α},l[j]?=some x->q x=true->(∀(j':Nat) y,j'<j->l[j']?=some y->q y=false)->l.find? q=some x
 | [],_,_,h,_,_=>by simp at h
 | y::r,0,x,h,hq,_=>by
  have:y=x:=by simpa using h
  subst this;rw[lI,hq]
 | y::r,j+1,x,h,hq,hl=>by
  rw[lI,hl 0 y (by lia) rfl];exact s0 (l:=r) (j:=j) (by simpa using h) hq λj' z hj hz=>hl (j'+1) z (by lia) (by simpa using hz)
theorem CV{h:House}(g:Good h):b7 30 [] h (ag h (.between .next)):=by
 intro o;fail"a";have hq:=PH g.q;let c:Nat->Bool:=λn=>iB n&&!decide (n=h.p)
 have en:n6 h.p h.q=((af (200-(h.q+1))).map λi=>i+(h.q+1)).find? c:=by
  unfold n6;rw[Pw];have e1:af 200=af (h.q+1)++(af (200-(h.q+1))).map λi=>i+(h.q+1):=by
   have:(200:Nat)=(h.q+1)+(200-(h.q+1)):=by lia
   conv=>lhs;rw[this,List.range_add]
   congr 1;refine bT λi _=>?_;lia
  rw[e1,List.find?_append];have e2:(af (h.q+1)).find? (λn=>decide (h.q<n)&&(n !=h.p&&dy n))=none:=by
   rw[dH];intro n hn;rw[au]at hn;have:¬h.q<n:=by lia
   simp [this]
  rw[e2,Option.none_or];refine CU λn hn=>?_;simp only[aH,au]at hn;have h1:h.q<n:=by lia
  have h2:n<200:=by lia
  show(decide (h.q<n)&&(n !=h.p&&(decide (n<200)&&iB n)))=(iB n&&!decide (n=h.p));rw[decide_eq_true h1,decide_eq_true h2,dZ,dZ,fw];rfl
 simp![BQ,jC,aw];refine yT ((af (200-(h.q+1))).map λi=>i+(h.q+1)) (λ_ S=>∃own v1,S=⟨[some .obj,v1],own,aw h o,true⟩) (λ_ x=>c x) (λ_ x v S=>v=.il [(x:Int)]/\S.hs=aw {h with q:=x} o/\S.rw=true) ?_ rfl ?_ ?_ ?_ ?_
 . simp![]
 . exact⟨_,_,rfl⟩
 . rintro j S x hx ⟨own,v1,rfl⟩;have hm:=aL hx;simp only[aH,au]at hm;have h2:x<200:=by lia
   refine⟨λhq=>?_,λhq=>?_⟩
   . have hq':(iB x&&!decide (x=h.p))=false:=hq;exact⟨_,by simp![aw,vB h2,hq'];rfl,_,_,rfl⟩
   . have hq':(iB x&&!decide (x=h.p))=true:=hq;exact⟨_,_,by simp![aw,vB h2,hq'];rfl,rfl,rfl,rfl⟩
 . rintro S hall ⟨own,v1,rfl⟩;have hn:n6 h.p h.q=none:=by
    rw[en,dH];intro x hx;obtain⟨j,hj⟩:=kP.mp hx;rw[hall j x hj];simp
   simp![aw];simp?[hn]
 . rintro j x v S hj hq hlt ⟨rfl,e1,e2⟩;have hn:n6 h.p h.q=some x:=by
    rw[en];exact s0 hj hq hlt
   simp![e1,e2,bl7];simp?[hn]
theorem l7(a b:Nat):Bz .add (.int a) (.int b)=some (.int ((a+b:Nat):Int)):=rfl
theorem zh{p:Nat}(hp:p∈PL)(a:Nat)(hs:List PV):FN 31 [.int a,.int p] hs=some (.int (sj p a:Nat)):=by
 fail"h";have hl:=ze p a;simp![wG,iP,CQ hp];refine yU (cH p a) (λj (b:Nat) S=>b+Kp299.inversions ((cH p a).drop j)=sj p a/\∃own v4 v5 v6,S=⟨[some (.int a),some (.int p),some (.il (zl (cH p a))),some (.int b),v4,v5,v6],own,hs,false⟩) (λb q=>b+(((cH p a).drop (q.2+1)).filter λy=>decide (y<q.1)).length) 0 ?_ rfl ?_ ?_ ?_
 . simp![]
 . exact⟨by rw[Bh,bJ];rfl,_,_,_,_,rfl⟩
 . rintro j b S x hx ⟨hinv,own,v4,v5,v6,rfl⟩;have hj:=(az.mp hx).1;refine⟨_,by
    simp![Hh,Hg,Cz (cH p a) (j+1) (by lia)];refine dc (λy=>decide (y<x)) (by rw[fC];lia) (λy hy=>by simp![]) ?_;simp![l7];rfl,?_,_,_,_,_,rfl⟩
   . rw[<-hinv,fR hj,(az.mp hx).2];exact jh _ _ _
 . rintro b S ⟨hinv,own,v4,v5,v6,rfl⟩;rw[iF]at hinv;have:b=sj p a:=by rw[<-hinv];rfl
   subst this;simp![]
theorem z6{h:House}(g:Good h)(a:Nat):b7 41 [.int a] h (ag h (.between (.pairs a))):=by
 intro o;fail"a";by_cases h0:a%h.p=0
 . simp![sr,gD,aw,h0];simp?[qA h0]
 . simp![sr,gD,aw,h0,zh g.p];simp?[pM h0]
theorem Om{p a:Nat}(hp:p∈PL)(h:a%p≠0):1<=aM p a/\aM p a<=p-1/\a^aM p a%p=1/\∀j,1<=j->j<aM p a->a^j%p≠1:=by
 fail"h";have h40:(1099511627776:Nat)=2^40:=by decide
 have hf:=zb hp h;have hx:∃d,aM p a=d/\((eW (p-1)).find? λk=>wY p a k==1)=some d:=by
  unfold aM;cases e:(eW (p-1)).find? λk=>wY p a k==1 with
  | some d=>exact⟨d,rfl,rfl⟩
  | none=>
   rw[dH]at e;have:=e (p-1) (aH.mpr ⟨p-2,au.mpr (by lia),by lia⟩);rw[vG (by lia),hf]at this;exact absurd rfl this
 obtain⟨d,e1,e2⟩:=hx;rw[e1];have hm:=nh e2;have hq:=zS e2;unfold eW at hm e2;simp only[aH,au]at hm;have hd:1<=d/\d<=p-1:=by lia
 rw[vG (by lia)]at hq;refine⟨hd.1,hd.2,by simpa using hq,λj h1 h2 e=>?_⟩;obtain⟨_,as,bs,hab,hno⟩:=List.find?_eq_some_iff_append.mp e2;have hj:j∈as:=by
  have hjm:j∈(af (p-1)).map λi=>i+1:=aH.mpr ⟨j-1,au.mpr (by lia),by lia⟩;have hs:((af (p-1)).map λi=>i+1).Pairwise (· < ·):=by
   rw[ic];exact pU.imp λh=>by lia
  rw[hab]at hjm hs;rcases bV.mp hjm with z | z
  . exact z
  . rcases aE.mp z with z | z
    . lia
    . have:=List.rel_of_pairwise_cons (List.pairwise_append.mp hs).2.1 z;lia
 have:=hno j hj;rw[vG (by lia),e]at this;simp at this
theorem A2{p a:Nat}:∀(i k:Nat),k<p->bm p a i k=(af i).map λj=>k*a^j%p
 | 0,_,_=>rfl
 | i+1,k,hk=>by
  show k::bm p a i (k*a%p)=_;rw[A2 i (k*a%p) (aN _ (by lia)), @bM i,ax,cG,eP,ly,aj hk];refine congrArg _ (bT λj _=>?_);show k*a%p*a^j%p=k*a^(j+1)%p;rw[jn,fD,fA,cz a]
theorem On{p s n:Nat}(hp:p∈PL)(hs:s%p≠0)(h:s*n%p=s%p):n%p=1:=by
 fail"h";have hf:=zb hp hs;have e:s^(p-2)*(s*n)%p=n%p:=by
  rw[<-fD,<-fA,show(p-2).succ=p-1 by lia,cj,hf,iD,dm]
 rw[<-e,cj,h,<-cj,<-fA,show(p-2).succ=p-1 by lia,hf]
theorem qC{p a s:Nat}(hp:p∈PL)(ha:a%p≠0)(h0:0<s)(h1:s<p)(hs:List PV):FN 10 [.int a,.int s,.int p] hs=some (.il (zl (bm p a (aM p a) s))):=by
 fail"h";obtain⟨o1,o2,o3,o4⟩:=Om hp ha;have hsp:s%p=s:=aj h1;simp![Go,oB];refine rL (λ(i:Nat) S=>1<=i/\i<=aM p a/\∃own,own.contains 3=true/\S=⟨[some (.int a),some (.int s),some (.int p),some (.il (zl ((af i).map λj=>s*a^j%p))),some (.int (s*a^i%p:Nat))],own,hs,false⟩)
  (λi=>i+1) (λi=>!decide (s*a^i%p=s)) (λi=>aM p a-i) 1 ?_ ?_ ?_ ?_ ?_
 . rintro i S ⟨i1,i2,own,ho,rfl⟩;simp![]
 . rintro i S ⟨i1,i2,own,ho,rfl⟩ hg;have hne:s*a^i%p≠s:=by simpa using hg
   have hlt:i<aM p a:=by
    refine Px i2 λz=>hne ?_;rw[z,cj,o3,ly,dm,hsp]
   have hl:s*a^i%p<p:=aN _ (by lia);have e1:a*(s*a^i%p)%p=s*a^(i+1)%p:=by
    rw[jo,fA,Nat.mul_left_comm,cz a]
   have e2:((af i).map λj=>s*a^j%p)++[s*a^i%p]=(af (i+1)).map λj=>s*a^j%p:=by
    rw[dk,bQ];rfl
   refine⟨_,by simp![ho,ae,aB,e1,e2];rfl,⟨by lia,by lia,_,?_,rfl⟩,by lia⟩;simp![ho]
 . refine⟨by lia,o1,[3],rfl,?_⟩
   . rw[iC,cz s a];simp only[T3,ax,gL,eP,ly,hsp];rfl
 . show aM p a-1<NN;unfold NN;lia
 . rintro i S ⟨i1,i2,own,ho,rfl⟩ hg;have he:s*a^i%p=s:=by simpa using hg
   have hi:i=aM p a:=by
    refine fY i2 (fG λz=>?_);exact o4 i i1 z (On hp (by rw[hsp];lia) (by rw[he,hsp]))
   simp![ho];rw[A2 _ _ h1,hi]
theorem vI(p a d k:Nat):(bm p a d k).length=d:=by
 induction d generalizing k with
 | zero=>rfl
 | succ d ih=>show(k::_).length=_;rw[aV,ih]
theorem WD{h:House}(g:Good h)(a:Nat):b7 42 [.int a] h (ag h (.between (.long a))):=by
 intro o;fail"a";by_cases h0:a%h.p=0
 . simp![MC,qd,aw,h0];simp?[qA h0]
 . obtain⟨o1,o2,o3,o4⟩:=Om g.p h0;simp![MC,qd,aw,h0,qC g.p h0,vI];simp?[pM h0,vU]
theorem KW{h:House}(g:Good h)(a k:Nat):b7 44 [.int a,.int k] h (ag h (.between (.round a k))):=by
 intro o;fail"a";by_cases h0:a%h.p=0
 . simp![vo,i9,aw,h0];simp?[qA h0]
 . by_cases h1:k%h.p=0
   . simp![vo,i9,aw,h0,h1];simp?[pM h0,qA h1]
   . obtain⟨o1,o2,o3,o4⟩:=Om g.p h0;have hl:k%h.p<h.p:=aN _ (by lia);simp![vo,i9,aw,h0,h1,qC g.p h0,vI,yO (xs:=[((aM h.p a:Nat):Int)]) (ys:=zl (bm h.p a (aM h.p a) (k%h.p))) (by rw[fu,vI,bc];lia)];dsimp![pM h0,pM h1,T2,Kp299.roundOf];simp only[vI];rfl
theorem uJ:∀{l m:List Nat},l.Nodup->(∀x∈l,x∈m)->l.length<=m.length
 | [],m,_,_=>dj _
 | x::r,m,hn,h=>by
  rw[dA]at hn;have hx:=h x (by simp);have:=uJ (l:=r) (m:=m.erase x) hn.2 (λy hy=>(List.mem_erase_of_ne (λe:y=x=>hn.1 (by rw[<-e];exact hy))).mpr (h y (by simp [hy])));rw[oq hx]at this;have:=List.length_pos_of_mem hx;rw[aV];lia
theorem TM{f:Nat->Nat}:∀{l R:List Nat},R.Nodup->(∀y∈l,f y∈R)->l.length=(R.map λr=>(l.filter λy=>decide (f y=r)).length).sum
 | [],R,_,_=>by
  induction R with
  | nil=>rfl
  | cons r R ih=>rw[ax,bX,<-ih (by rename_i h _;exact(dA.mp h).2) (λy hy=>by cases hy)];rfl
 | y::l,R,hn,h=>by
  have ih:=TM (l:=l) hn λz hz=>h z (by simp [hz]);have k:∀{R:List Nat},R.Nodup->f y∈R->(R.map λr=>((y::l).filter λz=>decide (f z=r)).length).sum=(R.map λr=>(l.filter λz=>decide (f z=r)).length).sum+1:=by
   intro R;induction R with
   | nil=>intro _ h;cases h
   | cons r R ih2=>
    intro hn hm;rw[ax,ax,bX,bX];rw[dA]at hn;by_cases e:f y=r
    . have hR:(R.map λr=>((y::l).filter λz=>decide (f z=r)).length)=R.map λr=>(l.filter λz=>decide (f z=r)).length:=by
       refine bT λr' hr'=>?_;rw[cp,if_neg (by simp;intro z;rw[e]at z;exact hn.1 (z▸hr'))]
      rw[hR,cp,if_pos (by simpa using e),aV];lia
    . have hm':f y∈R:=(aE.mp hm).resolve_left e;rw[ih2 hn.2 hm',cp,if_neg (by simpa using e)];lia
  rw[k hn (h y (by simp)),<-ih,aV]
section
variable {p a:Nat} (hp:p∈PL) (ha:a%p≠0)
include hp ha
theorem CW(j:Nat):a^j%p=a^(j%aM p a)%p:=by
 fail"h";obtain⟨o1,o2,o3,o4⟩:=Om hp ha;have e:j=aM p a*(j/aM p a)+j%aM p a:=(Aj j _).symm;have e1:(a^aM p a)^(j/aM p a)%p=1:=by
  rw[ot,o3,LG,aj (by lia)]
 conv=>lhs;rw[e,lx,tJ,cj,e1,iD,dm]
theorem sx{x y:Nat}(hx:x<p):y∈bm p a (aM p a) x↔∃j,y=x*a^j%p:=by
 fail"h";obtain⟨o1,o2,o3,o4⟩:=Om hp ha;rw[A2 _ _ hx];simp only[aH,au];constructor
 . rintro⟨j,_,e⟩;exact⟨j,e.symm⟩
 . rintro⟨j,rfl⟩
   exact⟨j%aM p a,aN _ (by lia),by rw[cj,<-CW hp ha,<-cj]⟩
theorem HI{x y:Nat}(hx:x<p)(h:y∈bm p a (aM p a) x):y<p:=by
 fail"h";obtain⟨j,rfl⟩:=(sx hp ha hx).mp h;exact aN _ (by lia)
theorem JF{x y z:Nat}(hx:x<p)(h:y∈bm p a (aM p a) x)(h2:z∈bm p a (aM p a) y):z∈bm p a (aM p a) x:=by
 have hy:=HI hp ha hx h;obtain⟨i,rfl⟩:=(sx hp ha hx).mp h;obtain⟨j,rfl⟩:=(sx hp ha hy).mp h2;refine(sx hp ha hx).mpr ⟨i+j,?_⟩;rw[jn,fD,<-lx]
theorem Oo{x y:Nat}(hx:x<p)(h:y∈bm p a (aM p a) x):x∈bm p a (aM p a) y:=by
 fail"h";obtain⟨o1,o2,o3,o4⟩:=Om hp ha;have hy:=HI hp ha hx h;obtain⟨i,rfl⟩:=(sx hp ha hx).mp h;refine(sx hp ha hy).mpr ⟨aM p a*i-i,?_⟩;have hle:i<=aM p a*i:=qO _ (by lia);rw[jn,fD,<-lx,u0 hle,tJ,cj,ot,o3,LG,aj (show 1<p by lia),ly,dm,aj hx]
theorem A3{x y:Nat}(h0:0<x)(hx:x<p)(h:y∈bm p a (aM p a) x):0<y:=by
 refine vV λe=>?_;subst e;have:=Oo hp ha hx h;obtain⟨j,e⟩:=(sx hp ha (by lia)).mp this;rw[wZ,gR]at e;lia
theorem xw{x:Nat}(h0:0<x)(hx:x<p):(bm p a (aM p a) x).Nodup:=by
 fail"h";obtain⟨o1,o2,o3,o4⟩:=Om hp ha;rw[A2 _ _ hx];refine ic.mpr (uZ.imp_of_mem (λ{i j} hi hj hlt e=>?_) pU);rw[au]at hi hj;have e1:x*a^i*a^(j-i)%p=x*a^i%p:=by
  rw[fD,<-lx,u0 (wS hlt)];exact e.symm
 have hne:x*a^i%p≠0:=by
  have:=A3 hp ha h0 hx ((sx hp ha hx).mpr ⟨i,rfl⟩);lia
 exact o4 (j-i) (by lia) (by lia) (On hp hne e1)
abbrev mH(p a x:Nat):Nat:=(bm p a (aM p a) x).tail.foldl min x
theorem CY(x:Nat):bm p a (aM p a) x=x::(bm p a (aM p a) x).tail:=by
 obtain⟨o1,_⟩:=Om hp ha;obtain⟨d,hd⟩:∃d,aM p a=d+1:=⟨_,(fL o1).symm⟩;rw[hd];rfl
theorem Op{x y:Nat}(hy:y∈bm p a (aM p a) x):mH p a x=y↔∀z∈bm p a (aM p a) x,y<=z:=by
 rw[CY hp ha x]at hy;have:=JC hy;rw[<-CY hp ha x]at this;exact this
theorem CZ{x:Nat}:mH p a x∈bm p a (aM p a) x:=by
 have k:∀(r:List Nat) (m:Nat),r.foldl min m∈m::r:=by
  intro r;induction r with
  | nil=>intro m;simp
  | cons b r ih=>
   intro m;rw[aU];rcases aE.mp (ih (min m b))with e | e
   . rw[e];rcases Iu m b with q | q
     . rw[fg q];simp
     . rw[S5 q];simp
   . exact ao _ (ao _ e)
 rw[CY hp ha x];exact k _ _
theorem TN{x y:Nat}(hx:x<p)(hy:y∈bm p a (aM p a) x):mH p a y=mH p a x:=by
 have hyp:=HI hp ha hx hy;have h1:mH p a x∈bm p a (aM p a) y:=JF hp ha hyp (Oo hp ha hx hy) (CZ hp ha);refine(Op hp ha h1).mpr λz hz=>?_;exact(Op hp ha (CZ hp ha)).mp rfl z (JF hp ha hx hy hz)
theorem HJ:(((af (p-1)).map λi=>i+1).filter λx=>decide (mH p a x=x)).length=(p-1)/aM p a:=by
 fail"h";obtain⟨o1,o2,o3,o4⟩:=Om hp ha;have hnums:∀{y:Nat},y∈(af (p-1)).map (λi=>i+1)↔0<y/\y<p:=by
  intro y;simp only[aH,au];exact⟨λ⟨i,h1,h2⟩=>by lia,λh=>⟨y-1,by lia,by lia⟩⟩
 have hnd:((af (p-1)).map λi=>i+1).Nodup:=ic.mpr (PQ.imp λh e=>h (by lia));have hpart:=TM (f:=mH p a) (l:=(af (p-1)).map λi=>i+1) (R:=((af (p-1)).map λi=>i+1).filter λx=>decide (mH p a x=x)) (hnd.filter _) (λy hy=>by
  obtain⟨y0,y1⟩:=hnums.mp hy;have hm:=CZ hp ha (x:=y);rw[aX,hnums,decide_eq_true_eq];exact⟨⟨A3 hp ha y0 y1 hm,HI hp ha y1 hm⟩,TN hp ha y1 hm⟩)
 have heach:(((af (p-1)).map λi=>i+1).filter λx=>decide (mH p a x=x)).map (λr=>(((af (p-1)).map λi=>i+1).filter λy=>decide (mH p a y=r)).length)=(((af (p-1)).map λi=>i+1).filter λx=>decide (mH p a x=x)).map λ_=>aM p a:=by
  refine bT λr hr=>?_;rw[aX,hnums,decide_eq_true_eq]at hr;obtain⟨⟨r0,r1⟩,r2⟩:=hr;have hl:=vI p a (aM p a) r;refine fY ?_ ?_
  . rw[<-hl];refine uJ (hnd.filter _) λy hy=>?_;rw[aX,hnums,decide_eq_true_eq]at hy;have:=CZ hp ha (x:=y);rw[hy.2]at this;exact Oo hp ha hy.1.2 this
  . conv=>lhs;rw[<-hl]
    refine uJ (xw hp ha r0 r1) λy hy=>?_;rw[aX,hnums,decide_eq_true_eq];exact⟨⟨A3 hp ha r0 r1 hy,HI hp ha r1 hy⟩,by rw[TN hp ha r1 hy,r2]⟩
 rw[heach,ae,aB]at hpart;have hsum:∀(l:List Nat) (d:Nat),(l.map λ_=>d).sum=l.length*d:=by
  intro l d;induction l with
  | nil=>simp
  | cons x r ih=>rw[ax,bX,ih,aV,gQ,qN]
 rw[hsum]at hpart;exact(Nat.div_eq_of_eq_mul_left (by lia) hpart).symm
theorem A4(hs:List PV):FN 32 [.int a,.int p] hs=some (.int (p-1-vU p a:Nat)):=by
 fail"h";have hsl:=HJ hp ha;have hle:(p-1)/aM p a<=p-1:=T0 _ _;simp![sM,gx];refine dc (λx=>decide (mH p a x=x)) (by simp only[ae,aB];lia) (λx hx=>?_) ?_
 . simp only[aH,au]at hx;have em:mx .min (.il (zl (bm p a (aM p a) x)))=some (.int (mH p a x:Nat)):=by
    rw[CY hp ha x];exact CP
   simp![qC hp ha (show 0<x by lia) (show x<p by lia),em]
 . simp![hsl];rfl
end
theorem Oq{h:House}(g:Good h)(a:Nat):b7 43 [.int a] h (ag h (.between (.fewest a))):=by
 intro o;fail"a";by_cases h0:a%h.p=0
 . simp![D3,lS,aw,h0];simp?[qA h0]
 . simp![D3,lS,aw,h0,A4 g.p h0];simp?[pM h0]
theorem qD{p x y:Nat}(hp:0<p)(hx:x<=p):(((y:Int)-(x:Int))%(p:Int)).toNat=(y+p-x)%p:=by
 have e:(y:Int)-(x:Int)=((y+p-x:Nat):Int)-(p:Int):=by lia
 rw[e,Int.sub_emod_right];show((((y+p-x:Nat):Int)%(p:Int))).toNat=_;rw[<-zK,cY]
theorem kM{p x y:Nat}(hp:p∈PL)(hx:x<=p)(hs:List PV):FN 51 [.int x,.int y,.int p] hs=some (.bl (ah p x y)):=by
 fail"h";simp![Gx,oK,pd,EK hp];rw[qD (by lia) hx,dS];rfl
theorem tj{p x:Nat}(hp:p∈PL)(hx:x<=p)(hs:List PV):FN 35 [.int x,.int p] hs=some (.il (zl (b5 p x))):=by
 fail"h";simp![wH,iQ,gu hp];refine dc (ah p x) (by simp only[aB];lia) (λy hy=>?_) ?_
 . have hl:=aN (y+p-x) (show p>0 by lia);have em:sJ .mod (.int ((y:Int)-(x:Int))) (.int (p:Int))=some (.int ((y+p-x)%p:Nat)):=by
    rw[sW (by lia),<-qD (by lia) hx];have:0<=((y:Int)-(x:Int))%(p:Int):=ml _ (by lia);congr 2;lia
   simp![pd,em,cu (iU hp hl),dS];rfl
 . rfl
theorem l8{p x:Nat}(hp:p∈PL)(hx:x<=p)(hs:List PV):FN 36 [.int x,.int p] hs=some (.il (zl ((cA p).filter λy=>ah p y x))):=by
 fail"h";simp![rZ,ga,gu hp];refine dc (λy=>ah p y x) (by simp only[aB];lia) (λy hy=>?_) ?_
 . rw[au]at hy;have hl:=aN (x+p-y) (show p>0 by lia);have em:sJ .mod (.int ((x:Int)-(y:Int))) (.int (p:Int))=some (.int ((x+p-y)%p:Nat)):=by
    rw[sW (by lia),<-qD (by lia) (by lia)];have:0<=((x:Int)-(y:Int))%(p:Int):=ml _ (by lia);congr 2;lia
   simp![pd,em,cu (iU hp hl),dS];rfl
 . rfl
theorem kN(x:Nat)(h:House)(o:List jP):FN 15 [.int x,.obj] (aw h o)=some (.bl (decide (x<h.p))):=by
 simp![Gq,oE,aw]
theorem l9{l:List Nat}(hl:l.length<=1000)(hs:List PV):FN 16 [.il (zl l)] hs=some (.il ((l.length:Int)::zl l)):=by
 simp![uq,ju,yO (xs:=[((l.length:Nat):Int)]) (ys:=zl l) (by rw[fu,bc];lia)]
theorem a2b{h:House}(g:Good h)(x:Nat):b7 55 [.int x] h (ag h (.points (.of_ x))):=by
 intro o;fail"a";have e:=kN x h o;rw[bz]at e;by_cases hx:x<h.p
 . have hn:¬h.p<=x:=by lia
   have hl:(b5 h.p x).length<=1000:=by
    unfold b5 cA;refine bb (br _ _) ?_;rw[aB];lia
   simp![YI,xZ,aw,e,hx,tj g.p (show x<=h.p by lia),l9 hl];simp?[hn,i6]
 . have hn:h.p<=x:=by lia
   simp![YI,xZ,aw,e,hx];simp?[hn]
theorem WE{h:House}(g:Good h):b7 50 [] h (ag h (.points .kept)):=by
 intro o;fail"a";have:=g.kl;simp![US,ue,aw,l9 (show h.kept.length<=1000 by lia)];simp?[i6]
theorem JG{h:House}(g:Good h){x:Nat}(hx:x<h.p):b7 48 [.int x] h (ag h (.points (.put x))):=by
 intro o;fail"a";have hkl:=g.kl;have hn:¬h.p<=x:=by lia
 by_cases hm:x∈h.kept
 . have hc:h.kept.contains x=true:=aY.mpr hm;simp![cv3,oT,gi,aw,hm];simp?[hn,hc]
 . have hc:h.kept.contains x=false:=by
    cases e:h.kept.contains x with
    | false=>rfl
    | true=>exact absurd (aY.mp e) hm
   by_cases h12:h.kept.length=12
   . have h12':iu<=h.kept.length:=by unfold iu;lia
     simp![cv5,oT,gi,aw,hm,h12];simp?[hn,hc,h12']
   . have h12':¬iu<=h.kept.length:=by unfold iu;lia
     have hl:(h.kept++[x]).length=h.kept.length+1:=by simp
     simp![oT,gi,aw,hm,h12,hl];simp?[hn,hc,h12']
theorem ZA{h:House}(g:Good h)(x:Nat):b7 114 [.int x] h (ag h (.points (.put x))):=by
 intro o;fail"a";have e:=kN x h o;by_cases hx:x<h.p
 . have k:=JG g hx o;rw[bz]at e;rw[bz h o]at k⊢;simp![Tp,um,e,hx,k,argsOk]
 . have hn:h.p<=x:=by lia
   rw[bz]at e;simp![Tp,um,aw,e,hx];simp?[hn]
theorem Os(l:List Nat)(x:Nat):(zl l).erase (x:Int)=zl (l.erase x):=by
 induction l with
 | nil=>rfl
 | cons y r ih=>
  show((y:Int)::zl r).erase (x:Int)=_;rw[S7,S7];have:((y:Int)==(x:Int))=(y==x):=by rw[bH];simp [d9]
  rw[this];cases y==x with
  | true=>rfl
  | false=>show(y:Int)::_=_;rw[ih];rfl
theorem ZB{l:List Nat}{x:Nat}(h:x∈l):rmv (.il (zl l)) (.int x)=some (.il (zl (l.erase x))):=by
 show(if(x:Int)∈zl l then some (PV.il ((zl l).erase (x:Int)))else none)=_;rw[if_pos (Nl.mpr h),Os]
theorem WF{h:House}(g:Good h)(x:Nat):b7 49 [.int x] h (ag h (.points (.take x))):=by
 intro o;fail"a";by_cases hm:x∈h.kept
 . have hc:h.kept.contains x=true:=aY.mpr hm;have hl:=oq hm;have he:=g.kn.erase_eq_filter x;simp![N2,MD,qe,aw,hm,ZB hm,hl];dsimp![hc];rw[he]
 . have hc:h.kept.contains x=false:=by
    cases e:h.kept.contains x with
    | false=>rfl
    | true=>exact absurd (aY.mp e) hm
   simp![MD,qe,aw,hm];simp?[hc]
theorem WG{h:House}(g:Good h)(t:Nat):b7 51 [.int t] h (ag h (.points (.move t))):=by
 intro o;fail"a";have hkl:=g.kl;have hl:(xE h.p (t%h.p) h.kept).length=h.kept.length:=by unfold xE;simp
 simp![UT,ug,aw];refine lZ (λx=>(x+t%h.p)%h.p) (by lia) (λx hx=>?_) ?_
 . simp![];rw[T4]
 . have e:(h.kept.map λx=>(x+t%h.p)%h.p)=xE h.p (t%h.p) h.kept:=rfl;rw[e];simp![l9 (show(xE h.p (t%h.p) h.kept).length<=1000 by lia)];simp?[i6]
theorem HK{h:House}(g:Good h)(k:Nat):b7 52 [.int k] h (ag h (.points (.times k))):=by
 intro o;fail"a";have hkl:=g.kl;by_cases h0:k%h.p=0
 . simp![yh,jE,aw,h0];simp?[h0]
 . have hl:(sk h.p (k%h.p) h.kept).length=h.kept.length:=by unfold sk;simp
   simp![yh,jE,aw,h0];refine lZ (λx=>x*(k%h.p)%h.p) (by lia) (λx hx=>?_) ?_
   . have:=g.k x hx;simp![];rw[jo]
   . have e:(h.kept.map λx=>x*(k%h.p)%h.p)=sk h.p (k%h.p) h.kept:=rfl;rw[e];simp![l9 (show(sk h.p (k%h.p) h.kept).length<=1000 by lia)];simp?[h0,i6]
abbrev qE(h:House)(x y:Nat):Int:=if h.p<=x\/h.p<=y then -2 else if x=y then -22 else 0
theorem C0(h:House)(o:List jP)(x y:Nat):FN 37 [.obj,.int x,.int y] (aw h o)=some (.int (qE h x y)):=by
 have e1:=kN x h o;have e2:=kN y h o;rw[bz]at e1 e2⊢;unfold qE;by_cases hx:x<h.p
 . by_cases hy:y<h.p
   . have hn:¬(h.p<=x\/h.p<=y):=by lia
     by_cases hxy:x=y
     . subst hxy;simp![im,eA,e1,hx,hn];try rfl
     . simp![im,eA,e1,e2,hx,hy,hn,hxy];try rfl
   . have hn:h.p<=x\/h.p<=y:=by lia
     simp![im,eA,e1,e2,hx,hy,hn];try rfl
 . have hn:h.p<=x\/h.p<=y:=by lia
   simp![im,eA,e1,hx,hn];try rfl
theorem Ot:u5 .ne (.int (-((2:Nat):Int))) (.int ((0:Nat):Int))=some true:=rfl
theorem HL:u5 .ne (.int (-((22:Nat):Int))) (.int ((0:Nat):Int))=some true:=rfl
theorem Rs{h:House}(g:Good h)(x y:Nat):b7 54 [.int x,.int y] h (ag h (.points (.leads x y))):=by
 intro o;fail"a";have e:=C0 h o x y;rw[bz]at e;by_cases hn:h.p<=x\/h.p<=y
 . have er:qE h x y= -((2:Nat):Int):=if_pos hn;simp![xi,jW,aw,e,er,Ot];simp?[hn]
 . by_cases hxy:x=y
   . subst hxy;have er:qE h x x= -((22:Nat):Int):=by unfold qE;rw[if_neg hn,if_pos rfl];rfl
     have hn':¬h.p<=x:=λz=>hn (.inl z);simp![xi,jW,aw,e,er,HL];simp?[hn']
   . have er:qE h x y=((0:Nat):Int):=by unfold qE;rw[if_neg hn,if_neg hxy];rfl
     cases hL:ah h.p x y with
     | true=>
      simp![xi,jW,aw,e,er,kM g.p (show x<=h.p by lia),hL];simp?[hn,hxy,hL]
     | false=>
      simp![xi,jW,aw,e,er,kM g.p (show x<=h.p by lia),hL];simp?[hn,hxy,hL]
theorem tq{p:Nat}(hp:p∈PL)(c:Nat->Bool):((cA p).filter c).length<=1000:=by
 fail"h";unfold cA;refine bb (br _ _) ?_;rw[aB];lia
theorem Ou{h:House}(g:Good h)(x y:Nat):b7 56 [.int x,.int y] h (ag h (.points (.common x y))):=by
 intro o;fail"a";have e:=C0 h o x y;rw[bz]at e;by_cases hn:h.p<=x\/h.p<=y
 . have er:qE h x y= -((2:Nat):Int):=if_pos hn;simp![yi,jX,aw,e,er,Ot];simp?[hn]
 . by_cases hxy:x=y
   . subst hxy;have er:qE h x x= -((22:Nat):Int):=by unfold qE;rw[if_neg hn,if_pos rfl];rfl
     have hn':¬h.p<=x:=λz=>hn (.inl z);simp![yi,jX,aw,e,er,HL];simp?[hn']
   . have er:qE h x y=((0:Nat):Int):=by unfold qE;rw[if_neg hn,if_neg hxy];rfl
     simp![yi,jX,aw,e,er,tj g.p (show x<=h.p by lia),tj g.p (show y<=h.p by lia)];refine dc (λz=>decide (z∈b5 h.p y)) (bb (tq g.p _) (by lia)) (λz hz=>?_) ?_
     . simp![]
     . have ee:(b5 h.p x).filter (λz=>decide (z∈b5 h.p y))=FK h.p x y:=by
        unfold b5 FK;rw[dh];refine d6 λz hz=>?_;rw[fw,bH];simp only[aG,decide_eq_true_eq,aX];exact⟨λq=>⟨q.1,q.2.2⟩,λq=>⟨q.1,hz,q.2⟩⟩
       rw[ee];simp![l9 (show(FK h.p x y).length<=1000 from tq g.p _)];simp?[hn,hxy,i6]
theorem WH{h:House}(g:Good h)(x y:Nat):b7 57 [.int x,.int y] h (ag h (.points (.into x y))):=by
 intro o;fail"a";have e:=C0 h o x y;rw[bz]at e;by_cases hn:h.p<=x\/h.p<=y
 . have er:qE h x y= -((2:Nat):Int):=if_pos hn;simp![GA,nB,aw,e,er,Ot];simp?[hn]
 . by_cases hxy:x=y
   . subst hxy;have er:qE h x x= -((22:Nat):Int):=by unfold qE;rw[if_neg hn,if_pos rfl];rfl
     have hn':¬h.p<=x:=λz=>hn (.inl z);simp![GA,nB,aw,e,er,HL];simp?[hn']
   . have er:qE h x y=((0:Nat):Int):=by unfold qE;rw[if_neg hn,if_neg hxy];rfl
     simp![GA,nB,aw,e,er,l8 g.p (show x<=h.p by lia),l8 g.p (show y<=h.p by lia)];refine dc (λz=>decide (z∈(cA h.p).filter λw=>ah h.p w y)) (bb (tq g.p _) (by lia)) (λz hz=>?_) ?_
     . simp![]
     . have ee:((cA h.p).filter λw=>ah h.p w x).filter (λz=>decide (z∈(cA h.p).filter λw=>ah h.p w y))=LH h.p x y:=by
        unfold LH;rw[dh];refine d6 λz hz=>?_;rw[fw,bH];simp only[aG,decide_eq_true_eq,aX];exact⟨λq=>⟨q.1,q.2.2⟩,λq=>⟨q.1,hz,q.2⟩⟩
       rw[ee];simp![l9 (show(LH h.p x y).length<=1000 from tq g.p _)];simp?[hn,hxy,i6]
theorem Ov{h:House}(g:Good h)(d:Nat):b7 59 [.int d] h (ag h (.points (.differ d))):=by
 intro o;fail"a";have hlen:=ph h.p 1;by_cases h0:d%h.p=0
 . simp![D4,lT,aw,h0];simp?[h0]
 . have hdl:=aN d (show h.p>0 by lia);simp![D4,lT,aw,h0,iZ g.p];refine dc (λs=>decide ((s+h.p-d%h.p)%h.p∈b9 h.p 1)) (by lia) (λs hs=>?_) ?_
   . have em:sJ .mod (.int ((s:Int)-(d:Int))) (.int (h.p:Int))=some (.int ((s+h.p-d%h.p)%h.p:Nat)):=by
      rw[sW (by lia),<-qD (by lia) (show d%h.p<=h.p by lia)];have h1:0<=((s:Int)-(d:Int))%(h.p:Int):=ml _ (by lia);have h2:((s:Int)-(d:Int))%(h.p:Int)=((s:Int)-((d%h.p:Nat):Int))%(h.p:Int):=by
       rw[zK,Int.sub_emod_emod]
      rw[<-h2];congr 2;lia
     simp![pd,em]
   . have e:(b9 h.p 1).filter (λs=>decide ((s+h.p-d%h.p)%h.p∈b9 h.p 1))=(Dq h.p).filter λs=>(Dq h.p).contains ((s+h.p-d%h.p)%h.p):=by
      unfold Dq;refine d6 λs _=>?_;rw[bH,aY,decide_eq_true_eq]
     rw[e];simp![];simp?[h0,Kp301.differ]
theorem EV(p:Nat)(kept:List Nat):kept.foldl (λb x=>b.filter λz=>decide (z∈(cA p).filter λy=>ah p y x)) ((af p).filter λz=>!decide (z∈kept))=kQ p kept:=by
 have k:∀(l:List Nat) (b:List Nat),(∀z∈b,z<p)->l.foldl (λb x=>b.filter λz=>decide (z∈(cA p).filter λy=>ah p y x)) b=b.filter λz=>l.all (ah p z):=by
  intro l;induction l with
  | nil=>intro b _;exact(fh.mpr λ_ _=>rfl).symm
  | cons x r ih=>
   intro b hb2;rw[aU,ih _ (λz hz=>hb2 z ((aX.mp hz).1)),dh];refine d6 λz hz=>?_;have hz2:=hb2 z hz;rw[dz,fw,bH];simp only[aG,decide_eq_true_eq,aX,cA,au];exact⟨λq=>⟨q.1.2,q.2⟩,λq=>⟨⟨hz2,q.1⟩,q.2⟩⟩
 rw[k _ _ (λz hz=>au.mp ((aX.mp hz).1)),dh];unfold kQ cA;refine d6 λz _=>?_;rw[fw];have:(!decide (z∈kept))=!kept.contains z:=by
  congr 1;rw[bH,aY,decide_eq_true_eq]
 rw[this]
theorem qF{p:Nat}(hp:p∈PL){kept:List Nat}(hk:∀x∈kept,x<p)(hs:List PV):FN 52 [.il (zl kept),.int p] hs=some (.il (zl (kQ p kept))):=by
 fail"h";simp![nP,gh];refine dc (λz=>!decide (z∈kept)) (by simp only[aB];lia) (λz hz=>?_) ?_
 . simp![]
 . simp![];refine ia kept (λ(b:List Nat) S=>b.length<=p/\∃own v3 v4 v5,own.contains 2=true/\S=⟨[some (.il (zl kept)),some (.int p),some (.il (zl b)),v3,v4,v5],own,hs,false⟩) (λb x=>b.filter λz=>decide (z∈(cA p).filter λy=>ah p y x)) ((af p).filter λz=>!decide (z∈kept)) ?_ rfl ?_ ?_ ?_
   . simp![]
   . refine⟨bb (br _ _) (by rw[aB];lia),_,none,none,none,?_,rfl⟩;rfl
   . rintro b S x hx ⟨hl,own,v3,v4,v5,ho,rfl⟩;have:=hk x hx;refine⟨_,by
      simp![l8 hp (show x<=p by lia)];refine dc (λz=>decide (z∈(cA p).filter λy=>ah p y x)) (by lia) (λz hz=>by simp![]) ?_;simp![];rfl,bb (br _ _) hl,_,_,_,_,?_,rfl⟩
     simp![ho]
   . rintro S ⟨hl,own,v3,v4,v5,ho,rfl⟩;rw[EV];simp![ho]
theorem Ow{p:Nat}(hp:p∈PL)(l:List Nat):(kQ p l).length<=1000:=tq hp _
theorem ZC{h:House}(g:Good h):b7 60 [] h (ag h (.points .who)):=by
 intro o;fail"a";simp![YJ,xh,aw,qF g.p g.k,l9 (Ow g.p h.kept)];simp?[i6]
theorem WI{h:House}(g:Good h):b7 53 [] h (ag h (.points .grow)):=by
 intro o;fail"a";have hkl:=g.kl;by_cases h12:h.kept.length=12
 . have h12':iu<=h.kept.length:=by unfold iu;lia
   simp![cv5,Gz,nA,aw,h12];simp?[h12']
 . have h12':¬iu<=h.kept.length:=by unfold iu;lia
   cases hw:kQ h.p h.kept with
   | nil=>
    simp![Gz,nA,aw,h12,qF g.p g.k,hw];simp?[h12',hw,T1]
   | cons z r=>
    have e0:(z::r)[0]?=some z:=rfl;have e1:¬(z::r).length=0:=by simp
    simp![Gz,nA,aw,h12,qF g.p g.k,hw,cu e0,e1];simp?[h12',hw,SZ]
abbrev zi(k:Nat)(args:List PV)(h:House)(h':House)(a:List Int):Prop:=∀o,FM k (.obj::args) (aw h o)=some (.il a,aw h' o)
theorem WJ{h:House}(o:List jP):FM 82 [.obj] (aw h o)=some (.il [(o.length:Int)],aw h o):=by
 have e:mx .len (.pics o)=some (.int (o.length:Nat)):=rfl;simp![UV,uj,aw,e]
theorem WK(h:House):zi 83 [] h h [(h.p:Int),(h.x:Int),(h.q:Int),(h.terms.length:Int),(h.kept.length:Int),(h.e:Int),(h.g:Int)]:=by
 intro o;simp![UW,uk,aw]
theorem Ox(h:House)(k:Nat):zi 85 [.int k] h (match h.kept[k]? with | some x=>{h with x:=x} | none=>h) (match h.kept[k]? with | some x=>[(x:Int)] | none=>[-2]):=by
 intro o;by_cases hk:h.kept.length<=k
 . have e:=bA hk;simp![D6,lV,aw,hk,e];try rfl
 . have e:=ay (show k<h.kept.length by lia);simp![D6,lV,aw,hk,cu e,e];try rfl
theorem WL{h:House}(g:Good h):zi 87 [] h h [((h.kept.filter (ah h.p h.x)).length:Int),((h.kept.filter λz=>ah h.p z h.x).length:Int)]:=by
 intro o;fail"a";have hkl:=g.kl;have hx:=g.x;simp![D7,kj,aw];refine dc (ah h.p h.x) (by lia) (λz hz=>?_) ?_
 . simp![kM g.p (show h.x<=h.p by lia)]
 . simp![];refine dc (λz=>ah h.p z h.x) (by lia) (λz hz=>?_) ?_
   . have:=g.k z hz;simp![kM g.p (show z<=h.p by lia)]
   . simp![]
theorem EW{h:House}(g:Good h):zi 92 [] h h [(h.kept.length:Int),(pP h 0:Int),(pP h 1:Int),(pP h 2:Int)]:=by
 intro o;fail"a";have hkl:=g.kl;have ec:∀u,(h.kept.map (a8 h.p)).count u=pP h u:=by
  intro u;unfold pP;rw[J1,S6,zR];rfl
 simp![D8,km,aw];refine lZ (a8 h.p) (by lia) (λz hz=>?_) ?_
 . simp![fU g.p]
 . simp![ES,ec,ae]
theorem Rt{h:House}(g:Good h):b7 117 [] h (ag h (.points (.put h.x))):=by
 intro o;have k:=JG g g.x o;rw[bz h o]at k⊢;simp![QG,rF,k,argsOk]
theorem Oy{h:House}(g:Good h):zi 86 [] h (match gG h with | some z=>{h with x:=z} | none=>h) (match gG h with | some z=>[(z:Int)] | none=>[-33]):=by
 intro o;fail"a";have hx:=g.x;let f:Nat->Nat:=λi=>(h.x+i)%h.p
 let c:Nat->Bool:=λz=>ah h.p h.x z&&!decide (z∈h.kept)
 have en:gG h=(((af (h.p-1)).map λi=>i+1).find? λi=>c (f i)).map f:=by
  unfold gG;have e1:((af (h.p-1)).map λi=>(h.x+i+1)%h.p)=((af (h.p-1)).map λi=>i+1).map f:=by
   rw[cG];rfl
  rw[e1,T5];congr 1
  refine CU λi _=>?_;show(ah h.p h.x (f i)&&!h.kept.contains (f i))=(ah h.p h.x (f i)&&!decide (f i∈h.kept));congr 2
  rw[bH,aY,decide_eq_true_eq]
 simp![MG,oN,aw];refine yT ((af (h.p-1)).map λi=>i+1) (λ_ S=>∃own v1 v2,S=⟨[some .obj,v1,v2],own,aw h o,true⟩) (λ_ x=>c (f x)) (λ_ x v S=>v=.il [(f x:Int)]/\S.hs=aw {h with x:=f x} o/\S.rw=true) ?_ rfl ?_ ?_ ?_ ?_
 . simp![aw]
 . exact⟨_,_,_,rfl⟩
 . rintro j S x hxm ⟨own,v1,v2,rfl⟩;have el:=kM (y:=(h.x+x)%h.p) g.p (show h.x<=h.p by lia);refine⟨λhq=>?_,λhq=>?_⟩
   . have hq':(ah h.p h.x ((h.x+x)%h.p)&&!decide ((h.x+x)%h.p∈h.kept))=false:=hq;exact⟨_,by simp![aw,el,hq'];rfl,_,_,_,rfl⟩
   . have hq':(ah h.p h.x ((h.x+x)%h.p)&&!decide ((h.x+x)%h.p∈h.kept))=true:=hq;exact⟨_,_,by simp![aw,el,hq'];rfl,rfl,rfl,rfl⟩
 . rintro S hall ⟨own,v1,v2,rfl⟩;have hn:gG h=none:=by
    rw[en,dH.mpr]
    . rfl
    . intro x hx;obtain⟨j,hj⟩:=kP.mp hx;rw[hall j x hj];simp
   rw[hn];simp![aw];try rfl
 . rintro j x v S hj hq hlt ⟨rfl,e1,e2⟩;have hn:gG h=some (f x):=by
    rw[en,s0 hj hq hlt];rfl
   rw[hn];simp![e1,e2,bl7];try rfl
theorem wu{h:House}(g:Good h)(a:Nat):b7 14 [.int a] h (ag h (.answers (.term a))):=by
 intro o;fail"a";have htl:=g.tl;by_cases h0:a%h.p=0
 . simp![sN,ii,aw,h0];simp?[h0]
 . by_cases h4:h.terms.length=4
   . have h4':k8<=h.terms.length:=by unfold k8;lia
     simp![cv5,VV,sN,ii,aw,h0,h4];simp?[h0,h4']
   . have h4':¬k8<=h.terms.length:=by unfold k8;lia
     have hl:(h.terms++[a%h.p]).length=h.terms.length+1:=by simp
     simp![VV,sN,ii,aw,h0,h4,hl,cD];simp?[h0,h4']
theorem WM{h:House}(g:Good h)(a:Nat):b7 113 [.int a] h (ag h (.answers (.term a))):=by
 intro o;have k:=wu g a o;rw[bz h o]at k⊢;simp![UX,ul,k,argsOk]
theorem HM{h:House}(g:Good h):b7 118 [] h (ag h (.answers (.term h.x))):=by
 intro o;have k:=wu g h.x o;rw[bz h o]at k⊢;simp![GE,lr,k,argsOk]
theorem pj(i:Nat)(h:House)(o:List jP):FN 7 [.int i,.obj] (aw h o)=some (.bl (mF ⟨h.p,h.terms⟩ i)):=by
 simp![Kl,qR,aw];rfl
theorem WN{l:List Nat}{i:Nat}(h:i<l.length)(h2:l.length<=16000000):IU (.il (zl l)) (.int i)=some (.il (zl (l.eraseIdx i))):=by
 show(if 0<=(i:Int)/\(i:Int)<(zl l).length/\(zl l).length<=mq then some (PV.il ((zl l).eraseIdx (i:Int).toNat))else none)=_;rw[if_pos (by rw[fu];unfold mq;lia),cY];have:∀(l:List Nat) (i:Nat),(zl l).eraseIdx i=zl (l.eraseIdx i):=by
  intro l;induction l with
  | nil=>intro i;rfl
  | cons x r ih=>
   intro i;cases i with
   | zero=>rfl
   | succ i=>show(x:Int)::(zl r).eraseIdx i=_;rw[ih];rfl
 rw[this]
theorem ZD{h:House}(g:Good h)(i:Nat):b7 15 [.int i] h (ag h (.answers (.out i))):=by
 intro o;have htl:=g.tl;have e:=pj i h o;rw[bz]at e;cases hi:mF ⟨h.p,h.terms⟩ i with
 | false=>
  simp![Tn,t9,aw,e,hi];simp?[hi]
 | true=>
  have hlt:i<h.terms.length:=oD hi;have hl:=List.length_eraseIdx_of_lt hlt;simp![Hy,Tn,t9,aw,e,hi,WN hlt (show h.terms.length<=16000000 by lia),hl];dsimp![hi];rw[List.eraseIdx_eq_take_drop_succ]
theorem C1{l:List Nat}{i:Nat}(h:i<l.length):l[i]?=some (aR l i):=by
 unfold aR;rw[aD,ay h];rfl
theorem A5{h:House}(g:Good h){i:Nat}(hi:i<h.terms.length):0<aR h.terms i/\aR h.terms i<h.p:=g.t _ (aL (C1 hi))
theorem Ru{l:List Nat}{i v:Nat}(h:i<l.length):(l.set i v)[i]?=some v:=by rw[ci h]
theorem Rv{h:House}(g:Good h)(i k:Nat)(hk:k<4294967296):b7 16 [.int i,.int k] h (ag h (.answers (.times i k))):=by
 intro o;fail"a";have e:=pj i h o;rw[bz]at e;cases hi:mF ⟨h.p,h.terms⟩ i with
 | false=>
  simp![BN,lB,aw,e,hi];simp?[hi]
 | true=>
  have hlt:i<h.terms.length:=oD hi;have hat:=A5 g hlt;by_cases h0:k%h.p=0
  . simp![BN,lB,aw,e,hi,h0];simp?[hi,h0]
  . have ev:aR h.terms i*(k*k%h.p)%h.p=aR h.terms i*k*k%h.p:=by rw[jo,fD]
    simp![Hz,BN,lB,aw,e,hi,h0,cu (C1 hlt),pf hlt,cu (Ru hlt)];simp?[hi,h0,ev]
theorem WO{h:House}(g:Good h)(i j:Nat):b7 17 [.int i,.int j] h (ag h (.answers (.pair i j))):=by
 intro o;fail"a";have e1:=pj i h o;have e2:=pj j h o;rw[bz]at e1 e2;cases hi:mF ⟨h.p,h.terms⟩ i with
 | false=>
  simp![BO,lQ,aw,e1,hi];simp?[hi]
 | true=>
  cases hj:mF ⟨h.p,h.terms⟩ j with
  | false=>
   simp![BO,lQ,aw,e1,e2,hi,hj];simp?[hi,hj]
  | true=>
   by_cases hij:i=j
   . simp![BO,lQ,aw,e1,e2,hi,hj,hij];subst hij;simp?[hi]
   . have l1:i<h.terms.length:=oD hi;have l2:j<h.terms.length:=oD hj;have a1:=A5 g l1;have a2:=A5 g l2;have l3:i<(h.terms.set j (aR h.terms i*aR h.terms j%h.p)).length:=by rw[bP];exact l1
     have e3:((h.terms.set j (aR h.terms i*aR h.terms j%h.p)).set i 1)[j]?=some (aR h.terms i*aR h.terms j%h.p):=by
      rw[cy hij,ci l2]
     have e4:(h.terms.set j (aR h.terms i*aR h.terms j%h.p)).set i 1=FL h.p h.terms i j:=by
      unfold FL;rw[oo _ _ (λz=>hij z.symm)]
     simp![Hz,BO,lQ,aw,e1,e2,hi,hj,hij,cu (C1 l1),cu (C1 l2),pf l2,pf l3,cu e3];simp?[hi,hj,hij,e4]
theorem JH{p:Nat}(hp:p∈PL){l:List Nat}(ht:∀a∈l,a<p)(hs:List PV):FN 4 [.il (zl l),.int p] hs=some (.int (di p l:Nat)):=by
 fail"h";simp![sL,gw];refine ia l (λ(b:Nat) S=>b<p/\∃own v3,S=⟨[some (.il (zl l)),some (.int p),some (.int b),v3],own,hs,false⟩) (λv a=>v*a%p) 1 ?_ rfl ?_ ?_ ?_
 . simp![]
 . exact⟨by lia,_,_,rfl⟩
 . rintro b S x hx ⟨hl,own,v3,rfl⟩;have:=ht x hx;exact⟨_,by simp![];rfl,aN _ (by lia),_,_,rfl⟩
 . rintro S ⟨hl,own,v3,rfl⟩;simp![];rfl
theorem EX{h:House}(g:Good h):b7 28 [] h (ag h (.answers .product)):=by
 intro o;fail"a";simp![D2,ki,aw,JH g.p (λa ha=>(g.t a ha).2),fU g.p];simp?[]
theorem WP(a b:List Nat):(((zl a).zip (zl b)).map λ(p:Int×Int)=>PV.tup [p.1,p.2])=(a.zip b).map λ(p:Nat×Nat)=>PV.tup [(p.1:Int),(p.2:Int)]:=by
 unfold zl;rw[List.zip_map,cG];rfl
theorem Rw {G:gH} {n i i2:Nat} {it:CE} {body:CS} {S:Sx} {β γ:Type} {k:Fl×Sx->Option γ} {r:Option γ} (l:List (Nat×Nat)) (P:β->Sx->Prop) (f:β->Nat×Nat->β) (b0:β)
 (hi:S.evI G it=some (l.map λ(p:Nat×Nat)=>.tup [(p.1:Int),(p.2:Int)])) (hF:(rW it&&S.rw)=false) (h0:P b0 (S.drop (ft it)))
 (step:∀b S x,x∈l->P b S->∃S',exec G n body ((S.put i (.int (x.1:Nat))).put i2 (.int (x.2:Nat)))=some (.next,S')/\P (f b x) S')
 (cont:∀S',P (l.foldl f b0) S'->k (.next,S')=r):(exec G n (.for2 i i2 it body) S).bind k=r:=by
 obtain⟨S',e,h⟩:=qy (step:=λx S=>(gg x).map λ(p:PV×PV)=>(S.put i p.1).put i2 p.2) (body:=exec G n body) (g:=λ(p:Nat×Nat)=>PV.tup [(p.1:Int),(p.2:Int)]) P f (l:=l) (S:=S.drop (ft it)) (λb S x hx hP=>step b S x hx hP) h0;have e2:exec G n (.for2 i i2 it body) S=some (.next,S'):=by
  show((S.evI G it).bind λps=>if rW it&&S.rw then none else hC (λx S=>(gg x).map λp=>(S.put i p.1).put i2 p.2) (exec G n body) ps (S.drop (ft it)))=_;rw[hi,bs,hF];exact e
 rw[e2];exact cont S' h
theorem zj(p:Nat):∀(l r:List Nat) (s:Nat),(l.zip r).foldl (λt q=>t+q.1*q.2*q.2) s%p=(s+fq p l (r.map (·%p)))%p
 | [],r,s=>by simp [fq]
 | a::l,[],s=>by simp [fq]
 | a::l,x::r,s=>by
  rw[ji,aU,zj p l r,ax];show _=(s+(a*(x%p*(x%p))+fq p l (r.map (·%p)))%p)%p;rw[T4,<-jh];rw[zT (s+a*x*x),zT (s+a*(x%p*(x%p)))];congr 2
  rw[zT s,zT s (a*(x%p*(x%p))),fD,cj a,cj x,cj a (x%p*(x%p))]
theorem A6{p:Nat}(hp:p∈PL){l r:List Nat}(hl:∀a∈l,a<4294967296)(hr:∀a∈r,a<4294967296)(hs:List PV):FN 3 [.il (zl l),.il (zl r),.int p] hs=some (.int (fq p l (r.map (·%p)):Nat)):=by
 fail"h";simp![BD,li];refine Rw (l.zip r) (λ(b:Nat) S=>∃own v4 v5,S=⟨[some (.il (zl l)),some (.il (zl r)),some (.int p),some (.int b),v4,v5],own,hs,false⟩) (λt q=>t+q.1*q.2*q.2) 0 ?_ rfl ?_ ?_ ?_
 . simp![NR,WP]
 . exact⟨_,_,_,rfl⟩
 . rintro b S ⟨x,y⟩ hx ⟨own,v4,v5,rfl⟩;have h1:=hl x (lH hx).1;have h2:=hr y (lH hx).2;exact⟨_,by simp![l7];rfl,_,_,_,rfl⟩
 . rintro S ⟨own,v4,v5,rfl⟩;simp![];rw[zj,bJ];have hlt:fq p l (r.map (·%p))<p:=by
    cases l with
    | nil=>show 0<p;lia
    | cons a l=>
     cases r with
     | nil=>show 0<p;lia
     | cons x r=>exact aN _ (by lia)
   rw[aj hlt]
theorem Rx{h:House}(g:Good h)(x y z w:Nat)(hx:x<4294967296)(hy:y<4294967296)(hz:z<4294967296)(hw:w<4294967296):b7 27 [.int x,.int y,.int z,.int w] h (ag h (.answers (.worth x y z w))):=by
 intro o;fail"a";have e:=A6 (r:=[x,y,z,w]) g.p (λa ha=>by have:=(g.t a ha).2;lia) (λa ha=>by simp at ha;lia) (aw h o);rw[bz]at e;have e':FN 3 [.il (zl h.terms),.il [(x:Int),(y:Int),(z:Int),(w:Int)],.int h.p] [.int h.p,.int h.x,.int h.q,.il (zl h.terms),.il (zl h.kept),.int h.e,.int h.g,.pics o]=_:=e;simp![Qz,rg,aw,e'];simp?[]
theorem Ry{h:House}(g:Good h):zi 88 [] h h (if h.kept.length<h.terms.length then [-33]else [(fq h.p h.terms h.kept:Int)]):=by
 intro o;fail"a";by_cases hc:h.kept.length<h.terms.length
 . rw[if_pos hc];simp![Ja,nG,aw,hc];try rfl
 . rw[if_neg hc];have e:=A6 (r:=h.kept.take h.terms.length) g.p (λa ha=>by have:=(g.t a ha).2;lia) (λa ha=>by have:=g.k a (lg ha);lia) (aw h o);rw[bz]at e;have ew:fq h.p h.terms ((h.kept.take h.terms.length).map (·%h.p))=fq h.p h.terms h.kept:=by
    have em:(h.kept.take h.terms.length).map (·%h.p)=h.kept.take h.terms.length:=by
     have:∀(l:List Nat),(∀a∈l,a<h.p)->l.map (·%h.p)=l:=by
      intro l hl;induction l with
      | nil=>rfl
      | cons a r ih=>rw[ax,ih λb hb=>hl b (by simp [hb]),aj (hl a (by simp))]
     exact this _ λa ha=>g.k a (lg ha)
    rw[em];have k:∀(l r:List Nat),fq h.p l (r.take l.length)=fq h.p l r:=by
     intro l;induction l with
     | nil=>intro r;rfl
     | cons a l ih=>
      intro r;cases r with
      | nil=>rfl
      | cons x r=>
       show(a*(x*x)+fq h.p l (r.take l.length))%h.p=_;rw[ih];rfl
    exact k _ _
   rw[ew]at e;simp![Hi,Ja,nG,aw,hc,Nr h.kept h.terms.length (by lia),e]
theorem KY {G:gH} {n i i2:Nat} {it:CE} {body:CS} {S:Sx} {β γ:Type} {k:Fl×Sx->Option γ} {r:Option γ} (l:List Nat) (P:β->Sx->Prop) (f:β->Nat×Nat->β) (b0:β)
 (hi:S.evI G it=some (l.zipIdx.map λ(p:Nat×Nat)=>.tup [(p.2:Int),(p.1:Int)])) (hF:(rW it&&S.rw)=false) (h0:P b0 (S.drop (ft it)))
 (step:∀b S x,x∈l.zipIdx->P b S->∃S',exec G n body ((S.put i (.int (x.2:Nat))).put i2 (.int (x.1:Nat)))=some (.next,S')/\P (f b x) S')
 (cont:∀S',P (l.zipIdx.foldl f b0) S'->k (.next,S')=r):(exec G n (.for2 i i2 it body) S).bind k=r:=by
 obtain⟨S',e,h⟩:=qy (step:=λx S=>(gg x).map λ(p:PV×PV)=>(S.put i p.1).put i2 p.2) (body:=exec G n body) (g:=λ(p:Nat×Nat)=>PV.tup [(p.2:Int),(p.1:Int)]) P f (l:=l.zipIdx) (S:=S.drop (ft it)) (λb S x hx hP=>step b S x hx hP) h0;have e2:exec G n (.for2 i i2 it body) S=some (.next,S'):=by
  show((S.evI G it).bind λps=>if rW it&&S.rw then none else hC (λx S=>(gg x).map λp=>(S.put i p.1).put i2 p.2) (exec G n body) ps (S.drop (ft it)))=_;rw[hi,bs,hF];exact e
 rw[e2];exact cont S' h
theorem JI {G:gH} {n i:Nat} {it:CE} {body:CS} {S:Sx} {β:Type} (l:List Nat) (P:β->Sx->Prop) (f:β->Nat->β) (b0:β)
 (hi:S.evI G it=some (l.map λx=>.int (x:Nat))) (hF:(rW it&&S.rw)=false) (h0:P b0 (S.drop (ft it)))
 (step:∀b S x,x∈l->P b S->∃S',exec G n body (S.put i (.int (x:Nat)))=some (.next,S')/\P (f b x) S'):∃S',exec G n (.for1 i it body) S=some (.next,S')/\P (l.foldl f b0) S':=by
 obtain⟨S',e,h⟩:=qy (step:=λx S=>some (S.put i x)) (body:=exec G n body) (g:=λx:Nat=>PV.int (x:Nat)) P f (l:=l) (S:=S.drop (ft it)) (λb S x hx hP=>step b S x hx hP) h0;refine⟨S',?_,h⟩;show((S.evI G it).bind λps=>if ps.all (λp=>!fJ p)&&!(rW it&&S.rw)then hC (λx S=>some (S.put i x)) (exec G n body) ps (S.drop (ft it))else none)=_;rw[hi,bs,mV,hF];exact e
theorem getD_at{l:List Nat}{i:Nat}(h:i<l.length):l[i]?=some (l.getD i 0):=by
 rw[aD,ay h];rfl
abbrev HN(p left rows:Nat)(g:List Nat)(m:Nat):List Nat:=g.set ((left+m)%p) (g.getD ((left+m)%p) 0+rows)
abbrev putAll(p:Nat)(added:List Nat)(g:List Nat)(q:Nat×Nat):List Nat:=added.foldl (HN p q.2 q.1) g
theorem JJ(p left rows:Nat)(l:List Nat):∀g:List Nat,(l.foldl (HN p left rows) g).length=g.length:=by
 induction l with
 | nil=>intro g;rfl
 | cons m r ih=>intro g;rw[aU,ih];exact bP
abbrev m6(p a lo:Nat):List Nat:=((af (p-lo)).map λi=>i+lo).map λu=>a*u*u%p
abbrev vJ(p a lo:Nat)(t:List Nat):List Nat:=t.zipIdx.foldl (putAll p (m6 p a lo)) (aJ p 0)
theorem z7{p a lo:Nat}(hp:p∈PL)(ha:a<p)(hlo:lo<=1){t:List Nat}(ht:t.length=p)(hs:List PV):FN 6 [.il (zl t),.int a,.int p,.int lo] hs=some (.il (zl (vJ p a lo t))):=by
 fail"h";simp![BE,lj];refine lZ (λu=>a*u*u%p) (by simp only[ae,aB];lia) (λu hu=>?_) ?_
 . have:u<98:=by simp only[aH,au]at hu;lia
   simp![]
 . have ea:(((af (p-lo)).map λi=>i+lo).map λu=>a*u*u%p)=m6 p a lo:=rfl;rw[ea];have hal:∀m∈m6 p a lo,m<p:=λm hm=>by
    obtain⟨u,_,rfl⟩:=aH.mp hm;exact aN _ (by lia)
   simp![];refine KY t (λ(b:List Nat) S=>b.length=p/\∃own v6 v7 v8 v9,own.contains 5=true/\S=⟨[some (.il (zl t)),some (.int a),some (.int p),some (.int lo),some (.il (zl (m6 p a lo))),some (.il (zl b)),v6,v7,v8,v9],own,hs,false⟩) (putAll p (m6 p a lo)) (aJ p 0) ?_ rfl ?_ ?_ ?_
   . simp![]
   . exact⟨by simp,_,none,none,none,none,rfl,rfl⟩
   . rintro b S ⟨rows,left⟩ hx ⟨hbl,own,v6,v7,v8,v9,ho,rfl⟩;simp![];obtain⟨S',e,hbl',own',v8',v9',ho',rfl⟩:=JI (G:=⟨iJ ie my NN BP 6,ie,λ_ _ _=>none,my⟩) (n:=NN) (i:=8) (it:=.v 4) (body:=.seq (.augIdx .add 5 (.b .mod (.b .add (.v 6) (.v 8)) (.v 2)) (.v 7)) .nil) (S:=⟨[some (.il (zl t)),some (.int a),some (.int p),some (.int lo),some (.il (zl (m6 p a lo))),some (.il (zl b)),some (.int (left:Nat)),some (.int (rows:Nat)),v8,v9],bC (λk=>!k==7) (bC (λk=>!k==6) own),hs,false⟩)
      (m6 p a lo) (λ(b:List Nat) S=>b.length=p/\∃own v8 v9,own.contains 5=true/\S=⟨[some (.il (zl t)),some (.int a),some (.int p),some (.int lo),some (.il (zl (m6 p a lo))),some (.il (zl b)),some (.int (left:Nat)),some (.int (rows:Nat)),v8,v9],own,hs,false⟩) (HN p left rows) b (by simp![]) rfl ⟨hbl,_,v8,v9,by
       show(bC _ _).contains 5=true;rw[G0 (by decide),du (by decide),du (by decide)];exact ho,rfl⟩ (by
       rintro b S m hm ⟨hbl,own,v8,v9,ho,rfl⟩;have hl:(left+m)%p<b.length:=by rw[hbl];exact aN _ (by lia)
       refine⟨_,by simp![yZ,cu (getD_at hl),l7,ho,pf hl];rfl,by rw[<-hbl];exact bP,_,_,_,?_,rfl⟩;rw[du (by decide)];exact ho)
     rw[e];exact⟨_,by simp![];rfl,hbl',_,_,_,_,_,ho',rfl⟩
   . rintro S ⟨hbl,own,v6,v7,v8,v9,ho,rfl⟩;simp![ho];rfl
theorem Oz(g:List Nat)(i v c:Nat)(h:i<g.length):(g.set i v).getD c 0=if i=c then v else g.getD c 0:=by
 rw[aD,aD,wD];by_cases e:i=c
 . subst e;simp [h]
 . simp [e]
theorem JK{p left rows c:Nat}(hp:0<p):∀(l:List Nat) (g:List Nat),g.length=p->(l.foldl (HN p left rows) g).getD c 0=g.getD c 0+rows*l.countP λm=>decide ((left+m)%p=c)
 | [],g,_=>by simp
 | m::r,g,hg=>by
  have hl:(left+m)%p<g.length:=by rw[hg];exact aN _ hp
  rw[aU,JK hp r (HN p left rows g m) (by unfold HN;rw[bP];exact hg)];unfold HN;rw[Oz _ _ _ _ hl,kX];by_cases e:(left+m)%p=c
  . rw[if_pos e,e];simp [LI];lia
  . rw[if_neg e];simp [e]
theorem zk{p c:Nat}(hp:0<p)(added:List Nat):∀(z:List (Nat×Nat)) (g:List Nat),g.length=p->(z.foldl (putAll p added) g).getD c 0=g.getD c 0+(z.map λq=>q.1*added.countP λm=>decide ((q.2+m)%p=c)).sum
 | [],g,_=>by simp
 | q::r,g,hg=>by
  rw[aU,zk hp added r (putAll p added g q) (by unfold putAll;rw[JJ];exact hg),ax,bX];unfold putAll;rw[JK hp added g hg];lia
theorem zm(p:Nat)(added:List Nat):∀(z:List (Nat×Nat)) (g:List Nat),(z.foldl (putAll p added) g).length=g.length
 | [],_=>rfl
 | q::r,g=>by rw[aU,zm p added r];unfold putAll;exact JJ _ _ _ _ _
theorem zn(p a lo:Nat)(t:List Nat):(vJ p a lo t).length=p:=by unfold vJ;rw[zm];simp
theorem HP{p a lo c:Nat}(hp:0<p)(t:List Nat):(vJ p a lo t).getD c 0=(t.zipIdx.map λq=>q.1*(m6 p a lo).countP λm=>decide ((q.2+m)%p=c)).sum:=by
 unfold vJ;rw[zk hp _ _ _ (by simp)];have:(aJ p 0).getD c 0=0:=by
  rw[aD,dN];split<;>rfl
 rw[this,bJ]
theorem JL{α:Type}(l:List α)(f g:α->Nat):(l.map λx=>f x+g x).sum=(l.map f).sum+(l.map g).sum:=by
 induction l with
 | nil=>rfl
 | cons x r ih=>rw[ax,ax,ax,bX,bX,bX,ih];lia
theorem OA:∀(t:List Nat) (n k:Nat),((t.zipIdx n).map λq=>q.1*if q.2=k then 1 else 0).sum=if n<=k then t.getD (k-n) 0 else 0
 | [],n,k=>by simp
 | x::r,n,k=>by
  rw[List.zipIdx_cons,ax,bX,OA r (n+1) k];by_cases e:n=k
  . subst e;rw[if_neg (show¬n+1<=n by lia),if_pos (aO n)];simp
  . by_cases h:n<=k
    . obtain⟨d,hd⟩:∃d,k-n=d+1:=⟨k-n-1,by lia⟩;rw[if_pos (show n+1<=k by lia),if_pos h,hd,show k-(n+1)=d by lia];simp [e]
    . rw[if_neg (show¬n+1<=k by lia),if_neg h];simp [e]
theorem EY{p m c x:Nat}(hm:m<p)(hc:c<p)(hx:x<p):(x+m)%p=c↔x=(c+(p-m))%p:=by
 constructor
 . rintro rfl;rw[mo,show x+m+(p-m)=x+p by lia,cc,aj hx]
 . rintro rfl;rw[mo,show c+(p-m)+m=c+p by lia,cc,aj hc]
theorem OB{p c:Nat}(hc:c<p){t:List Nat}(ht:t.length=p):∀{added:List Nat},(∀m∈added,m<p)->(t.zipIdx.map λq=>q.1*added.countP λm=>decide ((q.2+m)%p=c)).sum=(added.map λm=>t.getD ((c+(p-m))%p) 0).sum
 | [],_=>by
  rw[gL,List.sum_nil];have:∀z:List (Nat×Nat),(z.map λq=>q.1*([]:List Nat).countP λm=>decide ((q.2+m)%p=c)).sum=0:=by
   intro z;induction z with
   | nil=>rfl
   | cons q r ih=>rw[ax,bX,ih];simp
  exact this _
 | m::r,h=>by
  have ih:=OB hc ht (added:=r) λy hy=>h y (by simp [hy]);have hm:=h m (by simp);have e:(t.zipIdx.map λq=>q.1*(m::r).countP λm=>decide ((q.2+m)%p=c))=t.zipIdx.map λq=>(q.1*r.countP λm=>decide ((q.2+m)%p=c))+(q.1*if q.2=(c+(p-m))%p then 1 else 0):=by
   refine bT λq hq=>?_;have hql:q.2<p:=by
    obtain⟨j,hj⟩:=kP.mp hq;rw[lc]at hj;cases e:t[j]? with
    | none=>rw[e]at hj;cases hj
    | some y=>
     rw[e]at hj;have h1:=(az.mp e).1;have h2:q=(y,0+j):=by simpa using hj.symm
     rw[h2];show 0+j<p;lia
   rw[kX,LI];congr 1
   by_cases z:(q.2+m)%p=c
   . rw[if_pos ((EY hm hc hql).mp z)];simp [z]
   . rw[if_neg (λy=>z ((EY hm hc hql).mpr y))];simp [z]
  rw[e,JL,ih,OA,if_pos (dj _),mE,ax,bX];lia
theorem zp:∀(l:List Nat) (s:Nat),l.foldl (λ(a b:Nat)=>a+b) s=s+l.sum
 | [],s=>by simp
 | x::r,s=>by rw[aU,zp r,bX];lia
abbrev eH(p a lo:Nat)(t:List Nat):List Nat:=(af p).map λc=>DB (((af p).drop lo).map λx=>aR t (bq p a x c))
theorem C2{p a lo:Nat}(hp:p∈PL)(hlo:lo<=1){t:List Nat}(ht:t.length=p):vJ p a lo t=eH p a lo t:=by
 fail"h";refine jS λc=>?_;by_cases hc:c<p
 . rw[getD_at (by rw[zn];exact hc),HP (by lia),OB hc ht (λm hm=>by
    obtain⟨u,_,rfl⟩:=aH.mp hm;exact aN _ (by lia))]
   unfold eH;rw[ak,aS hc];show some _=some _;congr 1
   unfold DB;dsimp only
   rw[zp,bJ];unfold m6;rw[cG];congr 1
   have e:(af p).drop lo=(af (p-lo)).map λi=>i+lo:=by
    refine jS λj=>?_;rw[gN,ak];by_cases hj:j<p-lo
    . rw[aS (by lia),aS hj];exact congrArg some (qN lo j)
    . rw[bA (by simp;lia),bA (by simp;lia)];rfl
   rw[e];rfl
 . rw[bA (by rw[zn];lia),bA (by unfold eH;simp;lia)]
theorem OC{α β:Type}(l:List α)(m:List β)(f:α->β->Nat):(l.map λx=>(m.map λy=>f x y).sum).sum=(m.map λy=>(l.map λx=>f x y).sum).sum:=by
 induction l with
 | nil=>
  induction m with
  | nil=>rfl
  | cons y r ih=>rw[ax,bX,<-ih];rfl
 | cons x r ih=>
  rw[ax,bX,ih,<-JL];congr 1
theorem mX{p:Nat}(hp:0<p)(a x c:Nat):bq p a x c<p:=aN _ hp
theorem KZ(p a b x y c:Nat):bq p b y (bq p a x c)=bq p a x (bq p b y c):=by
 unfold bq;rw[mo,mo,Nat.add_right_comm]
theorem ZE(l:List Nat):DB l=l.sum:=by unfold DB;rw[zp,bJ]
theorem JM{p a lo c:Nat}(t:List Nat)(hc:c<p):aR (eH p a lo t) c=(((af p).drop lo).map λx=>aR t (bq p a x c)).sum:=by
 unfold aR eH;rw[aD,ak,aS hc];exact ZE _
theorem K0{p lo:Nat}(hp:0<p)(a b:Nat)(t:List Nat):eH p a lo (eH p b lo t)=eH p b lo (eH p a lo t):=by
 have k:∀a b:Nat,eH p a lo (eH p b lo t)=(af p).map λc=>(((af p).drop lo).map λx=>(((af p).drop lo).map λy=>aR t (bq p b y (bq p a x c))).sum).sum:=by
  intro a b;show(af p).map _=_;refine bT λc _=>?_;rw[ZE];congr 1
  refine bT λx _=>?_;exact JM t (mX hp a x c)
 rw[k a b,k b a];refine bT λc _=>?_;rw[OC];congr 1
 refine bT λy _=>?_;congr 1
 refine bT λx _=>?_;rw[KZ]
theorem vK{p lo:Nat}(hp:0<p):∀(l:List Nat) (a:Nat) (t:List Nat),l.foldl (λt b=>eH p b lo t) (eH p a lo t)=eH p a lo (l.foldl (λt b=>eH p b lo t) t)
 | [],a,t=>rfl
 | b::r,a,t=>by
  rw[aU,aU,K0 hp b a,vK hp r a]
abbrev zq(p:Nat):List Nat:=(af p).map λc=>if c=0 then 1 else 0
theorem wv{p:Nat}(hp:0<p):∀l:List Nat,l.foldl (λt b=>eH p b 0 t) (zq p)=am p l
 | []=>rfl
 | a::r=>by
  rw[aU,vK hp,wv hp r];rfl
theorem A7{p:Nat}(hp:0<p):∀l:List Nat,l.foldl (λt b=>eH p b 1 t) (zq p)=kR p l
 | []=>rfl
 | a::r=>by
  rw[aU,vK hp,A7 hp r];rfl
theorem OD(p a lo:Nat)(t:List Nat):(eH p a lo t).length=p:=by unfold eH;simp
theorem OE{p:Nat}(hp:0<p):(aJ p 0).set 0 1=zq p:=by
 unfold zq;refine pH (by simp) λi h1 h2=>?_;simp only[List.getElem_set,List.getElem_replicate,kY,jl];by_cases h:i=0
 . rw[if_pos h,if_pos h.symm]
 . rw[if_neg h,if_neg (λe=>h e.symm)]
theorem sy{p lo:Nat}(hp:p∈PL)(hlo:lo<=1){l:List Nat}(hl:∀a∈l,a<p)(hs:List PV):FN 27 [.il (zl l),.int p,.int lo] hs=some (.il (zl (l.foldl (λt b=>eH p b lo t) (zq p)))):=by
 fail"h";simp![pf,BF,ll];rw[OE (by lia)];refine ia l (λ(b:List Nat) S=>b.length=p/\∃own v4,own.contains 3=true/\S=⟨[some (.il (zl l)),some (.int p),some (.int lo),some (.il (zl b)),v4],own,hs,false⟩) (λt a=>eH p a lo t) (zq p) ?_ rfl ?_ ?_ ?_
 . simp![]
 . exact⟨by unfold zq;simp,_,none,rfl,rfl⟩
 . rintro b S a ha ⟨hbl,own,v4,ho,rfl⟩;have:=hl a ha;refine⟨_,by simp![z7 hp this hlo hbl];rfl,OD _ _ _ _,_,_,?_,by rw[C2 hp hlo hbl]⟩;rfl
 . rintro S ⟨hbl,own,v4,ho,rfl⟩;simp![ho]
theorem pw{p:Nat}(hp:p∈PL){l:List Nat}(hl:∀a∈l,a<p)(hs:List PV):FN 47 [.il (zl l),.int p] hs=some (.il (zl (am p l))):=by
 fail"h";have e:=sy hp (lo:=0) (by lia) hl hs;rw[wv (by lia)]at e;simp![vm,ig];rw[e];rfl
theorem z8{p:Nat}(hp:p∈PL){l:List Nat}(hl:∀a∈l,a<p)(hs:List PV):FN 48 [.il (zl l),.int p] hs=some (.il (zl (kR p l))):=by
 fail"h";have e:=sy hp (lo:=1) (by lia) hl hs;rw[A7 (by lia)]at e;simp![ur,gW];rw[e];rfl
theorem eD(p:Nat)(l:List Nat):(am p l).length=p:=by cases l<;>simp [am,eY]
theorem OF(p:Nat)(l:List Nat):(kR p l).length=p:=by cases l<;>simp [kR,eY]
theorem eN{h:House}(g:Good h)(o:List jP):FN 65 [.obj] (aw h o)=some (.il (zl (am h.p h.terms))):=by
 fail"a";have e:=pw g.p (λa ha=>(g.t a ha).2) (aw h o);rw[bz]at e⊢;simp![z4,kg,e]
theorem WQ{h:House}(g:Good h)(c:Nat):b7 18 [.int c] h (ag h (.answers (.many c))):=by
 intro o;fail"a";have e:=eN g o;have hl:c%h.p<(am h.p h.terms).length:=by rw[eD];exact aN _ (by lia)
 rw[bz]at e;simp![UO,ua,aw,e,cu (getD_at hl)];simp?[]
theorem WR{h:House}(g:Good h)(c:Nat):b7 19 [.int c] h (ag h (.answers (.full c))):=by
 intro o;fail"a";have e:=z8 g.p (λa ha=>(g.t a ha).2) (aw h o);have hl:c%h.p<(kR h.p h.terms).length:=by rw[OF];exact aN _ (by lia)
 rw[bz]at e;simp![UP,ub,aw,e,cu (getD_at hl)];simp?[]
theorem EZ{h:House}(g:Good h)(a c:Nat):b7 29 [.int a,.int c] h (ag h (.answers (.with_ a c))):=by
 intro o;fail"a";have ht:=g.tl;by_cases h1:a%h.p=0
 . simp![qk,gJ,aw,h1];simp?[h1]
 . by_cases h2:h.terms.length=4
   . have h3:k8<=h.terms.length:=by rw[h2];decide
     simp![cv5,VV,qk,gJ,aw,h1,h2];simp?[h1,h3]
   . have h3:¬k8<=h.terms.length:=by show¬4<=_;lia
     have e:=pw (l:=h.terms++[a%h.p]) g.p (λb hb'=>by
      rcases bV.mp hb' with k | k
      . exact(g.t b k).2
      . rw[aZ.mp k];exact aN _ (by lia)) (aw h o)
     have hl:c%h.p<(am h.p (h.terms++[a%h.p])).length:=by rw[eD];exact aN _ (by lia)
     have e1:sJ .add (.il (zl h.terms)) (.il [((a%h.p:Nat):Int)])=some (.il (zl (h.terms++[a%h.p]))):=yQ (b:=[a%h.p]) (by rw[bc];lia);rw[bz]at e;simp![VV,qk,gJ,aw,h1,h2,e1,e,cu (getD_at hl)];simp?[h1,h3]
theorem vL:∀{t:List Nat} {i:Nat},i<t.length->(∀c<i,t.getD c 0≠t.getD i 0)->t.idxOf (t.getD i 0)=i
 | [],i,h,_=>absurd h (cV _)
 | a::r,0,_,_=>by simp
 | a::r,i+1,h,k=>by
  have k0:=k 0 (by lia);simp only[List.getD_cons_zero,LJ]at k0⊢;rw[jg,beq_false_of_ne k0];have:=vL (t:=r) (i:=i) (by simpa using h) (λc hc=>by have:=k (c+1) (by lia);simpa only[LJ]using this);rw[this];rfl
theorem OG:∀(l:List Nat) (m:Nat),m<=l.foldl max m/\∀a∈l,a<=l.foldl max m
 | [],m=>⟨aO _,λa h=>absurd h (by simp)⟩
 | b::r,m=>by
  obtain⟨h1,h2⟩:=OG r (max m b);rw[aU];refine⟨by lia,λa ha=>?_⟩;rcases aE.mp ha with rfl | h
  . lia
  . exact h2 a h
theorem OH{v:Nat}:∀(l:List Nat) (m:Nat),m<=v->(∀a∈l,a<=v)->l.foldl max m<=v
 | [],m,h,_=>h
 | b::r,m,h,k=>by
  rw[aU];exact OH r _ (by have:=k b (by simp);lia) λa ha=>k a (by simp [ha])
theorem JN:∀(l:List Nat) (m:Nat),l.foldl min m<=m/\∀a∈l,l.foldl min m<=a
 | [],m=>⟨aO _,λa h=>absurd h (by simp)⟩
 | b::r,m=>by
  obtain⟨h1,h2⟩:=JN r (min m b);rw[aU];refine⟨by lia,λa ha=>?_⟩;rcases aE.mp ha with rfl | h
  . lia
  . exact h2 a h
theorem OI{v:Nat}:∀(l:List Nat) (m:Nat),v<=m->(∀a∈l,v<=a)->v<=l.foldl min m
 | [],m,h,_=>h
 | b::r,m,h,k=>by
  rw[aU];exact OI r _ (by have:=k b (by simp);lia) λa ha=>k a (by simp [ha])
theorem getD_mem{l:List Nat}{i:Nat}(h:i<l.length):l.getD i 0∈l:=aL (getD_at h)
theorem mem_getD{l:List Nat}{a:Nat}(h:a∈l):∃i,i<l.length/\l.getD i 0=a:=by
 obtain⟨i,hi,e⟩:=List.getElem_of_mem h;exact⟨i,hi,by rw[aD,ay hi];exact e⟩
theorem zr{β:Type}(f:β->Nat->β)(P:Nat->β->Prop){b:β}(h0:P 0 b)(n:Nat)(hs:∀k b,k<n->P k b->P (k+1) (f b k)):P n ((af n).foldl f b):=by
 induction n with
 | zero=>exact h0
 | succ n ih=>
  rw[dk,Py];exact hs n _ (by lia) (ih λk b hk=>hs k b (by lia))
theorem Rz{t:List Nat}(h:0<t.length):(Al t).1=t.foldl max 0/\(Al t).2=t.idxOf (t.foldl max 0):=by
 have:=zr (λ(b:Nat×Nat) (c:Nat)=>if b.1<aR t c then(aR t c,c)else b) (λk b=>b.2<t.length/\b.1=t.getD b.2 0/\(∀c<k,t.getD c 0<=b.1)/\∀c<b.2,t.getD c 0<b.1/\c<k) (b:=(aR t 0,0)) ⟨h,rfl,λc hc=>absurd hc (by lia),λc hc=>absurd hc (cV _)⟩ t.length (by
  rintro k ⟨v,j⟩ hk ⟨h1,h2,h3,h4⟩;show _/\_;by_cases hc:v<aR t k
  . simp only[hc,if_true];refine⟨hk,rfl,λc hc'=>?_,λc hc'=>⟨?_,by lia⟩⟩
    . by_cases e:c=k
      . subst e;exact aO _
      . have:=h3 c (by lia);simp only at this;lia
    . have:=h3 c hc';simp only at this;lia
  . simp only[hc,if_false];refine⟨h1,h2,λc hc'=>?_,λc hc'=>⟨(h4 c hc').1,by have:=(h4 c hc').2;lia⟩⟩;by_cases e:c=k
    . subst e;exact a2O.mp hc
    . exact h3 c (by lia))
 obtain⟨h1,h2,h3,h4⟩:=this;have e1:(Al t).1=t.foldl max 0:=by
  refine fY ?_ (OH t 0 (dj _) λa ha=>?_)
  . exact bb (mz h2) ((OG t 0).2 _ (getD_mem h1))
  . obtain⟨i,hi,rfl⟩:=mem_getD ha;exact h3 i hi
 refine⟨e1,?_⟩;rw[<-e1];have:=vL h1 (λc hc=>cQ (by rw[<-h2];exact(h4 c hc).1));rw[<-h2]at this;exact this.symm
theorem WS{h:House}(g:Good h):b7 25 [] h (ag h (.answers .most)):=by
 intro o;fail"a";have e:=eN g o;have hl:0<(am h.p h.terms).length:=by rw[eD];lia
 obtain⟨e1,e2⟩:=Rz hl;have hm:(Al (am h.p h.terms)).1∈am h.p h.terms:=by
  rw[e1];exact JB (Dr hl)
 rw[bz]at e;simp![UQ,uc,aw,e,zc (Dr hl)];rw[<-e1];simp![kL hm];rw[e1,<-e2,<-e1];simp?[]
theorem K1{a:Nat}{r:List Nat}:(pQ (a::r)).1=r.foldl min a/\(pQ (a::r)).2=(a::r).idxOf (r.foldl min a)/\r.foldl min a∈a::r:=by
 have:=zr (λ(b:Nat×Nat) (c:Nat)=>if aR (a::r) c<b.1 then(aR (a::r) c,c)else b) (λk b=>b.2<(a::r).length/\b.1=(a::r).getD b.2 0/\(∀c<k,b.1<=(a::r).getD c 0)/\∀c<b.2,b.1<(a::r).getD c 0/\c<k) (b:=(aR (a::r) 0,0)) ⟨by simp,rfl,λc hc=>absurd hc (by lia),λc hc=>absurd hc (cV _)⟩ (a::r).length (by
  rintro k ⟨v,j⟩ hk ⟨h1,h2,h3,h4⟩;show _/\_;by_cases hc:aR (a::r) k<v
  . simp only[hc,if_true];refine⟨hk,rfl,λc hc'=>?_,λc hc'=>⟨?_,by lia⟩⟩
    . by_cases e:c=k
      . subst e;exact aO _
      . have:=h3 c (by lia);simp only at this;lia
    . have:=h3 c hc';simp only at this;lia
  . simp only[hc,if_false];refine⟨h1,h2,λc hc'=>?_,λc hc'=>⟨(h4 c hc').1,by have:=(h4 c hc').2;lia⟩⟩;by_cases e:c=k
    . subst e;exact a2O.mp hc
    . exact h3 c (by lia))
 obtain⟨h1,h2,h3,h4⟩:=this;have hall:∀b∈a::r,(pQ (a::r)).1<=b:=λb hb=>by
  obtain⟨i,hi,rfl⟩:=mem_getD hb;exact h3 i hi
 have hin:(pQ (a::r)).1∈a::r:=by
  have:=getD_mem h1;rw[<-h2]at this;exact this
 have e1:(pQ (a::r)).1=r.foldl min a:=by
  refine fY (OI r a (hall a (by simp)) λb hb=>hall b (by simp [hb])) ?_;rcases aE.mp hin with e | e
  . rw[e];exact(JN r a).1
  . exact(JN r a).2 _ e
 refine⟨e1,?_,by rw[<-e1];exact hin⟩;rw[<-e1];have:=vL h1 (λc hc=>wT (by rw[<-h2];exact(h4 c hc).1));rw[<-h2]at this;exact this.symm
theorem wQ{h:House}(g:Good h):b7 26 [] h (ag h (.answers .fewest)):=by
 intro o;fail"a";have e:=eN g o;have hl:0<(am h.p h.terms).length:=by rw[eD];lia
 rw[bz]at e;simp![wK,gX,aw,e];dsimp![];generalize am h.p h.terms=t at*;cases t with
 | nil=>exact absurd hl (eO 0)
 | cons a r=>
  obtain⟨e1,e2,hm⟩:=K1 (a:=a) (r:=r);simp![CP,kL hm];rw[e2,e1];try rfl
theorem K4:∀p∈PL,(b9 p 2)[0]?=some (Ix p)/\Ix p<p:=by decide+kernel
theorem RA{h:House}(g:Good h):b7 23 [] h (ag h (.answers .three)):=by
 intro o;fail"a";have e:=eN g o;obtain⟨l1,l2⟩:=K4 _ g.p;have n0:=cu (getD_at (l:=am h.p h.terms) (i:=0) (by rw[eD];lia));have n1:=cu (getD_at (l:=am h.p h.terms) (i:=1) (by rw[eD];lia));have n2:=cu (getD_at (l:=am h.p h.terms) (i:=Ix h.p) (by rw[eD];lia));have a2:∀hs,FN 26 [.int 2,.int h.p] hs=some (.il (zl (b9 h.p 2))):=iZ g.p 2;rw[bz]at e;simp![Qy,re,aw,e,iZ g.p,a2,cu l1,n0,n1,n2];simp?[Kp300.many,gR,aj (show 1<h.p by lia),aj l2]
theorem K5(t:List Nat):t.zipIdx=(af t.length).map λi=>(t.getD i 0,i):=by
 refine pH (by simp) λi h1 h2=>?_;have hi:i<t.length:=by simpa using h1
 simp only[List.getElem_zipIdx,kY,jl,bJ];rw[aD,ay hi];rfl
theorem lw(l:List Nat)(n:Nat)(h:l.length+1<=16000000):sJ .add (.il [(n:Int)]) (.il (zl l))=some (.il (zl (n::l))):=yQ (a:=[n]) (by rw[bc];lia)
theorem OJ{h:House}(g:Good h)(u:Nat):b7 24 [.int u] h (ag h (.answers (.ofKind u))):=by
 intro o;fail"a";by_cases h1:u=1\/u=2
 . have e:=eN g o;rw[bz]at e;have hk:(b9 h.p u).length<=16000000:=by
    have:(b9 h.p u).length<=h.p:=by unfold b9 dF;exact bb (br _ _) (by simp)
    lia
   have ea:∀hs,FN 26 [.int u,.int h.p] hs=some (.il (zl (b9 h.p u))):=iZ g.p u;have hn:(¬u=1/\¬u=2)=False:=by simp;lia
   rcases h1 with rfl | rfl
   all_goals
    simp![D1,lR,aw,e,ea];refine lZ (λa=>aR (am h.p h.terms) a) hk (λa ha=>?_) ?_
    . have hl:a<(am h.p h.terms).length:=by rw[eD];exact(HA ha).2
      simp![cu (getD_at hl)];try rfl
    . simp![y8];simp?[Kp300.ofKind]
 . have a1:¬u=1:=λe=>h1 (Or.inl e);have a2:¬u=2:=λe=>h1 (Or.inr e);simp![D1,lR,aw,a1,a2];simp?[a1,a2]
theorem RB{h:House}(g:Good h):b7 22 [] h (ag h (.answers .never)):=by
 intro o;fail"a";have e:=eN g o;have hl:=eD h.p h.terms;rw[bz]at e;simp![CH,Qx,rc,aw,e];refine Cy (λq:Nat×Nat=>q.1==0) (λq=>q.2) (by rw[LW];lia) (λq _=>?_) ?_
 . simp![Nv];try rfl
 . have ef:(((am h.p h.terms).zipIdx.filter λq:Nat×Nat=>q.1==0).map λq=>q.2)=X1 h.p h.terms:=by
    rw[K5,qP,cG,hl];exact XV _
   have hnl:(X1 h.p h.terms).length<=h.p:=bb (br _ _) (by simp [eY]);rw[ef];simp![lw];simp?[Kp300.tellAll]
theorem rO{p:Nat}(hp:0<p)(a c:Nat)(hc:c<p):bq p a 0 c=c:=by
 unfold bq;rw[Nat.mul_zero,gR,mE,cc,aj hc]
theorem vM{p c:Nat}(a:Nat)(l:List Nat)(hc:c<p):aR (am p (a::l)) c=((af p).map λx=>aR (am p l) (bq p a x c)).sum:=by
 have:=JM (p:=p) (a:=a) (lo:=0) (c:=c) (am p l) hc;rw[Bh]at this;exact this
theorem px{p c:Nat}(a:Nat)(l:List Nat)(hc:c<p):aR (am p (a::l)) c=aR (am p l) c+(((af p).drop 1).map λx=>aR (am p l) (bq p a x c)).sum:=by
 rw[vM a l hc];have hp:0<p:=by lia
 obtain⟨n,rfl⟩:∃n,p=n+1:=⟨p-1,by lia⟩;rw[bM,ax,bX,rO hp a c hc];rfl
theorem zt{p:Nat}(hp:0<p):∀l:List Nat,1<=aR (am p l) 0
 | []=>by
  have:aR (am p []) 0=1:=by
   obtain⟨n,rfl⟩:∃n,p=n+1:=⟨p-1,by lia⟩;unfold aR am eY;rw[bM];rfl
  lia
 | a::l=>by
  rw[px a l hp];have:=zt hp l;lia
theorem C3{α:Type}{f:α->Nat}:∀{l:List α},(l.map f).sum≠0->∃x∈l,f x≠0
 | [],h=>absurd rfl h
 | a::r,h=>by
  by_cases e:f a=0
  . rw[ax,bX,e,bJ]at h;obtain⟨x,hx,k⟩:=C3 h;exact⟨x,by simp [hx],k⟩
  . exact⟨a,by simp,e⟩
theorem tu{p:Nat}(hp:0<p):∀(l:List Nat) (c:Nat),c<p->aR (am p l) c≠0->∃r,fX p l c=some r
 | [],c,hc,h=>by
  have:aR (am p []) c=if c=0 then 1 else 0:=by
   unfold aR am eY;rw[aD,ak,aS hc];rfl
  rw[this]at h;by_cases e:c=0
  . exact⟨[],by unfold fX;rw[e,gR];rfl⟩
  . rw[if_neg e]at h;exact absurd rfl h
 | a::l,c,hc,h=>by
  rw[vM a l hc]at h;obtain⟨x,hx,k⟩:=C3 h;unfold fX;rw[aj hc];cases e:(eY p).find? λx=>aR (am p l) (bq p a x c)!=0 with
  | none=>
   have:=dH.mp e x hx;simp [k]at this
  | some y=>
   have hy:=zS e;obtain⟨r,hr⟩:=tu hp l (bq p a y c) (mX hp a y c) (by simpa using hy);exact⟨y::r,by simp only[e,hr];rfl⟩
theorem zu{α:Type}{f:α->Nat}:∀{l:List α},(l.map f).sum=0->∀x∈l,f x=0
 | [],_,x,hx=>absurd hx (by simp)
 | a::r,h,x,hx=>by
  rw[ax,bX]at h;rcases aE.mp hx with rfl | k
  . lia
  . exact zu (by lia) x k
theorem HQ{p:Nat}(hp:0<p):∀(l:List Nat) (c:Nat),c<p->aR (am p l) c=0->fX p l c=none
 | [],c,hc,h=>by
  have:aR (am p []) c=if c=0 then 1 else 0:=by
   unfold aR am eY;rw[aD,ak,aS hc];rfl
  rw[this]at h;by_cases e:c=0
  . rw[if_pos e]at h;exact absurd h (by decide)
  . unfold fX;rw[aj hc,if_neg e]
 | a::l,c,hc,h=>by
  rw[vM a l hc]at h;have k:=zu h;have e:(eY p).find? (λx=>aR (am p l) (bq p a x c)!=0)=none:=dH.mpr λx hx=>by
   have:=k x hx;simp [this]
  unfold fX;rw[aj hc];simp only[e]
theorem rP{p:Nat}(hp:0<p):∀l:List Nat,aR (am p l) 0<2->kS p l=none
 | [],_=>rfl
 | a::l,h=>by
  rw[px a l hp]at h;have h1:=zt hp l;have k:=zu (show(((af p).drop 1).map λx=>aR (am p l) (bq p a x 0)).sum=0 by lia);have e:((eY p).drop 1).find? (λx=>aR (am p l) (bq p a x 0)!=0)=none:=dH.mpr λx hx=>by
   have:=k x hx;simp [this]
  unfold kS;rw[rP hp l (by lia)];simp only[e]
theorem vN{p:Nat}(hp:0<p):∀l:List Nat,2<=aR (am p l) 0->∃r,kS p l=some r
 | [],h=>by
  have:aR (am p []) 0=1:=by
   obtain⟨n,rfl⟩:∃n,p=n+1:=⟨p-1,by lia⟩;unfold aR am eY;rw[bM];rfl
  lia
 | a::l,h=>by
  by_cases hl:2<=aR (am p l) 0
  . obtain⟨r,hr⟩:=vN hp l hl;exact⟨0::r,by unfold kS;rw[hr]⟩
  . have hz:=rP hp l (by lia);rw[px a l hp]at h;obtain⟨x,hx,k⟩:=C3 (show(((af p).drop 1).map λx=>aR (am p l) (bq p a x 0)).sum≠0 by lia);unfold kS;rw[hz];cases e:((eY p).drop 1).find? λx=>aR (am p l) (bq p a x 0)!=0 with
    | none=>
     have:=dH.mp e x hx;simp [k]at this
    | some y=>
     have hy:=zS e;obtain⟨r,hr⟩:=tu hp l (bq p a y 0) (mX hp a y 0) (by simpa using hy);exact⟨y::r,by simp only[e,hr];rfl⟩
theorem WT {G:gH} {n:Nat} {c:CE} {body:CS} {S:Sx} {β:Type} (P:β->Sx->Prop) (f:β->β) (go:β->Bool) (m:β->Nat) (b0:β)
 (ht:∀b S,P b S->(S.ev G c).bind gn=some (go b)) (hb:∀b S,P b S->go b=true->∃S',exec G n body S=some (.next,S')/\P (f b) S'/\m (f b)<m b) (h0:P b0 S) (hm:m b0<n):
 ∃S' b,exec G n (.whl c body) S=some (.next,S')/\P b S'/\go b=false:=
 sX (tst:=λS=>(S.ev G c).bind gn) (body:=exec G n body) P f go m ht hb h0 hm
theorem OK{p a u c:Nat}(hp:0<p):(((c:Int)-((a*u*u:Nat):Int))%(p:Int))=((bq p a u c:Nat):Int):=by
 unfold bq;have h:=aN (a*u*u) hp;have e:=Aj (a*u*u) p;rw[zK,T6,u6 (by lia)];rw[show((c:Int)+((p:Int)-((a*u*u%p:Nat):Int)))=((c:Int)-((a*u*u:Nat):Int))+(p:Int)*(((a*u*u/p:Nat):Int)+1) by
  have e':((a*u*u:Nat):Int)=(p:Int)*((a*u*u/p:Nat):Int)+((a*u*u%p:Nat):Int):=by rw[<-T7,<-T6,e]
  rw[Int.mul_add,oe];lia]
 rw[Int.add_mul_emod_self_left]
abbrev acc(p:Nat)(t:List Nat)(a c x:Nat):Nat:=((af x).map λy=>aR t (bq p a y c)).sum
theorem uK(p:Nat)(t:List Nat)(a c x:Nat):acc p t a c (x+1)=acc p t a c x+aR t (bq p a x c):=by
 unfold acc;rw[dk,bQ,S8,LX,LY]
inductive TQ (p:Nat):List Nat->Nat->Nat->List Nat->Prop
 | nil (c b:Nat):TQ p [] c b []
 | cons {a:Nat} {l:List Nat} {c b x:Nat} {r:List Nat} (hx:x<p) (h1:acc p (am p l) a c x<=b) (h2:b<acc p (am p l) a c (x+1)) (h:TQ p l (bq p a x c) (b-acc p (am p l) a c x) r):TQ p (a::l) c b (x::r)
theorem RC{a b:Nat}(h:b<=a):Bz .sub (.int a) (.int b)=some (.int ((a-b:Nat):Int)):=Ch h
theorem zw(p:Nat)(t:List Nat)(a c:Nat){x y:Nat}(h:x<=y):acc p t a c x<=acc p t a c y:=by
 induction y with
 | zero=>rw[Nat.le_zero.mp h];exact aO _
 | succ y ih=>
  rcases iO y x with k | k
  . rw[show x=y+1 by lia];exact aO _
  . rw[uK];have:=ih k;lia
theorem xx{p:Nat}:∀{l:List Nat} {c b:Nat} {r:List Nat},TQ p l c b r->r.length=l.length
 | _,_,_,_,.nil _ _=>rfl
 | _,_,_,_,.cons _ _ _ h=>by rw[aV,aV,xx h]
theorem A8{p:Nat}(hp:p∈PL){l:List Nat}(hl:∀a∈l,a<p)(hll:l.length<=4)(w b0:Nat){r:List Nat}(hw:TQ p l (w%p) b0 r)(hs:List PV):
 FN 64 [.il (zl l),.int w,.int b0,.int p] hs=some (.il (zl r)):=by
 fail"h";have hrl:=xx hw;simp![wJ,iS];refine yU l (λj (_:Unit) S=>∃row left b r',r=row++r'/\left<p/\TQ p (l.drop j) left b r'/\∃own v7 v8 v9 v10 v11,own.contains 4=true/\S=⟨[some (.il (zl l)),some (.int w),some (.int b0),some (.int p),some (.il (zl row)),some (.int left),some (.int b),v7,v8,v9,v10,v11],own,hs,false⟩) (λu _=>u) () ?_ rfl ?_ ?_ ?_
 . simp![]
 . exact⟨[],w%p,b0,r,rfl,aN _ (by lia),hw,_,none,none,none,none,none,rfl,rfl⟩
 . rintro j _ S a ha ⟨row,left,b,r',hr,hlt,hB,own,v7,v8,v9,v10,v11,ho,rfl⟩;have hj:j<l.length:=(az.mp ha).1;have hja:l[j]=a:=(az.mp ha).2;have hd:l.drop j=a::l.drop (j+1):=by rw[<-hja];exact fR hj
   have hap:a<p:=hl a (aL ha);rw[hd]at hB;cases hB with
   | @cons _ _ _ _ x r2 hx h1 h2 h3=>
   have e1:=pw hp (l:=l.drop (j+1)) (λa h=>hl a (J2 h)) hs;have ecut:=Cz l (j+1) (by lia);have hrow:row.length<=4:=by
    have:r.length=row.length+(x::r2).length:=by rw[hr,aA]
    lia
   simp![Hg,ecut,e1];obtain⟨S',u,e,⟨hu,own',ho',rfl⟩,hg⟩:=WT (G:=⟨iJ ie my NN BP 64,ie,λ_ _ _=>none,my⟩) (n:=NN) (c:=.c .ge (.v 6) (.idx (.v 9) (.v 11))) (body:=(.seq (.aug .sub 6 (.idx (.v 9) (.v 11))) (.seq (.aug .add 10 (.n ((1:Nat):Int))) (.seq (.set 11 (.b .mod (.b .sub (.v 5) (.b .mul (.b .mul (.v 8) (.v 10)) (.v 10))) (.v 3))) .nil))))
    (S:=⟨[some (.il (zl l)),some (.int w),some (.int b0),some (.int p),some (.il (zl row)),some (.int left),some (.int b),some (.int j),some (.int a),some (.il (zl (am p (l.drop (j+1))))),some (.int (0:Nat)),some (.int left)],9::bC (λk=>!k==11) (bC (λk=>!k==10) (bC (λk=>!k==9) (bC (λk=>!k==8) (bC (λk=>!k==7) own)))),hs,false⟩)
    (λ(u:Nat) S=>u<=x/\∃own,own.contains 4=true/\S=⟨[some (.il (zl l)),some (.int w),some (.int b0),some (.int p),some (.il (zl row)),some (.int left),some (.int (b-acc p (am p (l.drop (j+1))) a left u:Nat)),some (.int j),some (.int a),some (.il (zl (am p (l.drop (j+1))))),some (.int (u:Nat)),some (.int (bq p a u left:Nat))],own,hs,false⟩)
    (λu=>u+1) (λu=>decide (u<x)) (λu=>p-u) 0 (by
     rintro u S ⟨hu,own,ho,rfl⟩;have hlx:bq p a u left<(am p (l.drop (j+1))).length:=by rw[eD];exact mX (by lia) _ _ _
     have k1:=uK p (am p (l.drop (j+1))) a left u;have ek:decide ((am p (l.drop (j+1))).getD (bq p a u left) 0<=b-acc p (am p (l.drop (j+1))) a left u)=decide (u<x):=by
      have k0:=zw p (am p (l.drop (j+1))) a left hu;unfold aR at k1;by_cases hux:u<x
      . have k2:=zw p (am p (l.drop (j+1))) a left (show u+1<=x from hux);rw[decide_eq_true hux,decide_eq_true];lia
      . have:u=x:=by lia
        subst this;rw[decide_eq_false hux,decide_eq_false];lia
     simp![cu (getD_at hlx),ek]) (by
     rintro u S ⟨hu,own,ho,rfl⟩ hg;have hux:u<x:=oD hg;have hlx:bq p a u left<(am p (l.drop (j+1))).length:=by rw[eD];exact mX (by lia) _ _ _
     have k1:=uK p (am p (l.drop (j+1))) a left u;have k2:=zw p (am p (l.drop (j+1))) a left (show u+1<=x from hux);unfold aR at k1;have hs1:(am p (l.drop (j+1))).getD (bq p a u left) 0<=b-acc p (am p (l.drop (j+1))) a left u:=by lia
     have hmul:a*(u+1)<18446744073709551616:=na (iE (show a<=97 by lia) (show u+1<=97 by lia)) (by decide);refine⟨_,by simp![cu (getD_at hlx),l7,RC hs1,pd,sW,OK];rfl,⟨hux,bC (λk=>!k==11) (bC (λk=>!k==10) (bC (λk=>!k==6) own)),?_,?_⟩,by lia⟩;rotate_left
     . rw[show b-acc p (am p (l.drop (j+1))) a left u-(am p (l.drop (j+1))).getD (bq p a u left) 0=b-acc p (am p (l.drop (j+1))) a left (u+1) by lia]
     . rw[du (by decide),du (by decide),du (by decide)];exact ho) (by
     refine⟨dj _,_,?_,by rw[show acc p (am p (l.drop (j+1))) a left 0=0 from rfl,mE,rO (by lia) _ _ hlt]⟩;rw[eL,du (by decide),du (by decide),du (by decide),du (by decide),du (by decide),ho];rfl) (by
     show p-0<NN;have:100<NN:=by decide
     lia)
   have hux:u=x:=by have:=of_decide_eq_false hg;lia
   subst hux;rw[e];refine⟨_,by simp![ho'];rfl,row++[u],bq p a u left,b-acc p (am p (l.drop (j+1))) a left u,r2,by rw[hr,dw];rfl,mX (by lia) _ _ _,h3,_,_,_,_,_,_,?_,rfl⟩;rw[du (by decide)];exact ho'
 . rintro _ S ⟨row,left,b,r',hr,hlt,hB,own,v7,v8,v9,v10,v11,ho,rfl⟩;rw[iF]at hB;cases hB;rw[cJ]at hr;simp![ho,hr]
theorem acc_zero{p:Nat}{t:List Nat}{a c:Nat}:∀{x:Nat},(∀y<x,aR t (bq p a y c)=0)->acc p t a c x=0
 | 0,_=>rfl
 | x+1,h=>by rw[uK,acc_zero (λy hy=>h y (by lia)),h x (by lia)]
theorem JO{p:Nat}{t:List Nat}{a c:Nat}:∀{x:Nat},(∀y<x,aR t (bq p a (y+1) c)=0)->acc p t a c (x+1)=aR t (bq p a 0 c)
 | 0,_=>by rw[uK];show 0+_=_;lia
 | x+1,h=>by rw[uK,JO (λy hy=>h y (by lia)),h x (by lia)];rfl
theorem vO{p:Nat}(hp:0<p):∀{l:List Nat} {c:Nat} {r:List Nat},c<p->fX p l c=some r->TQ p l c 0 r
 | [],c,r,hc,h=>by
  unfold fX at h;by_cases e:c%p=0
  . rw[if_pos e]at h;cases h;exact .nil _ _
  . rw[if_neg e]at h;cases h
 | a::l,c,r,hc,h=>by
  unfold fX at h;rw[aj hc]at h;simp only at h;cases e:(eY p).find? λx=>aR (am p l) (bq p a x c)!=0 with
  | none=>rw[e]at h;cases h
  | some x=>
   rw[e]at h;simp only at h;cases e2:fX p l (bq p a x c)with
   | none=>rw[e2]at h;cases h
   | some r2=>
    rw[e2]at h;cases h;obtain⟨k1,k2,k3⟩:=gc.mp e;have z:acc p (am p l) a c x=0:=acc_zero λy hy=>by simpa using k3 y hy
    have k4:aR (am p l) (bq p a x c)≠0:=by simpa using k1
    refine .cons (au.mp k2) (by lia) (by rw[uK,z];lia) ?_;rw[Z2];exact vO hp (mX hp _ _ _) e2
theorem E4{p:Nat}(hp:0<p):∀{l:List Nat} {r:List Nat},kS p l=some r->TQ p l 0 1 r
 | [],r,h=>by cases h
 | a::l,r,h=>by
  unfold kS at h;cases e:kS p l with
  | some r2=>
   rw[e]at h;cases h;have k:2<=aR (am p l) 0:=fG λk=>by rw[rP hp l k]at e;cases e
   have z:=rO hp a 0 hp;refine .cons hp (dj _) (by rw[uK,z];show 1<0+_;lia) ?_;rw[z];exact E4 hp e
  | none=>
   rw[e]at h;simp only at h;have k:aR (am p l) 0=1:=by
    have h1:=zt hp l;rcases iO (aR (am p l) 0) 2 with k | k
    . lia
    . obtain⟨r,hr⟩:=vN hp l k;rw[hr]at e;cases e
   obtain⟨n,rfl⟩:∃n,p=n+1:=⟨p-1,by lia⟩;have ed:(eY (n+1)).drop 1=(af n).map Xy:=by
    unfold eY;rw[bM];rfl
   rw[ed,T5]at h;cases e1:(af n).find? ((λx=>aR (am (n+1) l) (bq (n+1) a x 0)!=0)∘Xy)with
   | none=>rw[e1]at h;cases h
   | some x=>
    rw[e1]at h;simp only[xD]at h;cases e2:fX (n+1) l (bq (n+1) a x.succ 0)with
    | none=>rw[e2]at h;cases h
    | some r2=>
     rw[e2]at h;cases h;obtain⟨k1,k2,k3⟩:=gc.mp e1;have z:=rO hp a 0 hp;have z1:acc (n+1) (am (n+1) l) a 0 (x+1)=1:=by
      rw[JO λy hy=>by simpa using k3 y hy,z,k]
     have k4:aR (am (n+1) l) (bq (n+1) a (x+1) 0)≠0:=by simpa using k1
     have:=au.mp k2;refine .cons (by lia) (by rw[z1];exact aO _) (by rw[uK,z1];lia) ?_;rw[z1];exact vO hp (mX hp _ _ _) e2
theorem RD{h:House}(g:Good h)(c:Nat):b7 20 [.int c] h (ag h (.answers (.first c))):=by
 intro o;fail"a";have e:=eN g o;have hp:0<h.p:=by lia
 have hc:c%h.p<h.p:=aN _ hp;have hl:c%h.p<(am h.p h.terms).length:=by rw[eD];exact hc
 rw[bz]at e;by_cases h1:(am h.p h.terms).getD (c%h.p) 0=0
 . have n:=HQ hp h.terms (c%h.p) hc h1;simp![IW,nw,aw,e,cu (getD_at hl),h1];simp?[n]
 . obtain⟨r,hr⟩:=tu hp h.terms (c%h.p) hc h1;have hB:=vO hp hc hr;have e2:=A8 g.p (λa ha=>(g.t a ha).2) g.tl c 0 hB (aw h o);have hrl:r.length+1<=16000000:=by rw[xx hB];have:=g.tl;lia
   rw[bz]at e2;simp![IW,nw,aw,e,e2,cu (getD_at hl),h1,lw r r.length hrl];simp?[hr]
theorem WU{h:House}(g:Good h):b7 21 [] h (ag h (.answers .zero)):=by
 intro o;fail"a";have e:=eN g o;have hp:0<h.p:=by lia
 have hl:0<(am h.p h.terms).length:=by rw[eD];exact hp
 rw[bz]at e;by_cases h1:(am h.p h.terms).getD 0 0<2
 . have n:=rP hp h.terms h1;simp![MA,qc,aw,e,cu (getD_at hl),h1];simp?[n]
 . obtain⟨r,hr⟩:=vN hp h.terms (by unfold aR;lia);have hB:=E4 hp hr;have e2:=A8 g.p (λa ha=>(g.t a ha).2) g.tl 0 1 (by rw[gR];exact hB) (aw h o);have hrl:r.length+1<=16000000:=by rw[xx hB];have:=g.tl;lia
   rw[bz]at e2;simp![MA,qc,aw,e,e2,cu (getD_at hl),h1,lw r r.length hrl];simp?[hr]
abbrev Sm:Nat->(Nat->Nat)->Nat
 | 0,_=>0
 | n+1,f=>Sm n f+f n
theorem C4(n:Nat)(f:Nat->Nat):((af n).map f).sum=Sm n f:=by
 induction n with
 | zero=>rfl
 | succ n ih=>rw[dk,bQ,S8,LX,LY,ih];rfl
theorem C5(n:Nat)(f g:Nat->Nat):Sm n (λi=>f i+g i)=Sm n f+Sm n g:=by
 induction n with
 | zero=>rfl
 | succ n ih=>show Sm n (λi=>f i+g i)+(f n+g n)=(Sm n f+f n)+(Sm n g+g n);rw[ih];lia
theorem dn{n:Nat}{f g:Nat->Nat}(h:∀i<n,f i=g i):Sm n f=Sm n g:=by
 induction n with
 | zero=>rfl
 | succ n ih=>show Sm n _+_=Sm n g+g n;rw[ih (λi hi=>h i (by lia)),h n (by lia)]
theorem OL{n:Nat}{f g:Nat->Nat}(h:∀i<n,f i<=g i):Sm n f<=Sm n g/\(Sm n f=Sm n g->∀i<n,f i=g i):=by
 induction n with
 | zero=>exact⟨aO _,λ_ i hi=>absurd hi (cV _)⟩
 | succ n ih=>
  obtain⟨a,b⟩:=ih λi hi=>h i (by lia);have c:=h n (by lia);refine⟨Ds a c,λe i hi=>?_⟩;have e':Sm n f+f n=Sm n g+g n:=e;rcases iO i n with k | k
  . exact b (by lia) i k
  . rw[show i=n by lia];lia
theorem E5(n:Nat)(A:Nat->Nat->Nat):Sm n (λi=>Sm n (A i))=Sm n (λi=>Sm n (λj=>if i<j then A i j+A j i else 0))+Sm n (λi=>A i i):=by
 induction n with
 | zero=>rfl
 | succ n ih=>
  show Sm n (λi=>Sm n (A i)+A i n)+(Sm n (A n)+A n n)=(Sm n (λi=>Sm n (λj=>if i<j then A i j+A j i else 0)+if i<n then A i n+A n i else 0)+(Sm n (λj=>if n<j then A n j+A j n else 0)+if n<n then A n n+A n n else 0))+(Sm n (λi=>A i i)+A n n);rw[C5,C5,ih];have e1:Sm n (λi=>if i<n then A i n+A n i else 0)=Sm n (λi=>A i n)+Sm n (A n):=by
   rw[<-C5];exact dn λi hi=>if_pos hi
  have e2:Sm n (λj=>if n<j then A n j+A j n else 0)=0:=by
   have:∀m≤n,Sm m (λj=>if n<j then A n j+A j n else 0)=0:=λm=>by
    induction m with
    | zero=>intro _;rfl
    | succ m ihm=>intro hm;show Sm m _+(if n<m then A n m+A m n else 0)=0;rw[ihm (by lia),if_neg (by lia)]
   exact this n (aO _)
  rw[e1,e2,if_neg (eO n)];lia
theorem C6(n:Nat)(c:Nat->Bool):((af n).filter c).length=Sm n (λj=>(c j).toNat):=by
 induction n with
 | zero=>rfl
 | succ n ih=>
  rw[dk,m4,aA,ih];show _=Sm n _+_;cases h:c n<;>simp [h]
theorem E6(l:List Nat):l=(af l.length).map λi=>l.getD i 0:=by
 apply pH
 . simp
 . intro i h1 h2;rw[kY,jl,aD,ay h1];rfl
theorem WV(l:List Nat)(f:Nat->Nat):(l.map f).sum=Sm l.length λi=>f (l.getD i 0):=by
 conv=>lhs;rw[E6 l,cG,C4]
 rfl
theorem WW(l:List Nat)(c:Nat->Bool):(l.filter c).length=Sm l.length λi=>(c (l.getD i 0)).toNat:=by
 conv=>lhs;rw[E6 l,qP,ae,C6]
 rfl
theorem ma{p x y:Nat}:y∈b5 p x↔y<p/\ah p x y=true:=by
 unfold b5 cA;rw[aX,au]
theorem md{p x:Nat}(hp:p∈PL):ah p x x=false:=by
 unfold ah;rw[show x+p-x=p by lia];revert p;decide+kernel
theorem OM:∀p∈PL,p%4=1->∀d<p,a8 p d=a8 p (p-d):=by decide+kernel
theorem K6:∀p∈PL,p%4=3->∀d<p,d≠0->(a8 p d==1)=!(a8 p (p-d)==1):=by decide+kernel
theorem PL4:∀p∈PL,p%4=1\/p%4=3:=by decide+kernel
theorem A9{α:Type}(f:α->Nat)(l:List α):∀b:Nat,l.foldl (λa x=>a+f x) b=b+(l.map f).sum:=by
 induction l with
 | nil=>intro b;rfl
 | cons x r ih=>intro b;rw[aU,ih,ax,bX];lia
theorem rQ{p x y:Nat}(hp:p∈PL)(h4:p%4=1)(hx:x<p)(hy:y<p):ah p x y=ah p y x:=by
 fail"h";unfold ah;rw[<-dS p (y+p-x),<-dS p (x+p-y)];rw[OM p hp h4 ((y+p-x)%p) (aN _ (by lia))];have e:(p-(y+p-x)%p)%p=(x+p-y)%p:=by
  rcases Nat.lt_trichotomy x y with h | h | h
  . rw[show y+p-x=(y-x)+p by lia,cc,aj (show y-x<p by lia)];congr 1;lia
  . subst h;rw[show x+p-x=p by lia,Iy,mE,Iy]
  . rw[aj (show y+p-x<p by lia),show p-(y+p-x)=x-y by lia,show x+p-y=(x-y)+p by lia,cc]
 rw[<-dS p (p-_),e,dS]
theorem HS{p x y:Nat}(hp:p∈PL)(h4:p%4=3)(hx:x<p)(hy:y<p)(hne:x≠y):ah p x y=!ah p y x:=by
 fail"h";unfold ah;rw[<-dS p (y+p-x),<-dS p (x+p-y)];have e:(p-(y+p-x)%p)%p=(x+p-y)%p:=by
  rcases iO x y with h | h
  . rw[show y+p-x=(y-x)+p by lia,cc,aj (show y-x<p by lia)];congr 1;lia
  . rw[aj (show y+p-x<p by lia),show p-(y+p-x)=x-y by lia,show x+p-y=(x-y)+p by lia,cc]
 have n0:(y+p-x)%p≠0:=by
  rcases iO x y with h | h
  . rw[show y+p-x=(y-x)+p by lia,cc,aj (show y-x<p by lia)];lia
  . rw[aj (show y+p-x<p by lia)];lia
 rw[K6 p hp h4 ((y+p-x)%p) (aN _ (by lia)) n0,<-dS p (p-_),e]
theorem RE{p x:Nat}{l:List Nat}(h:∀y∈l,y<p):l.filter (λy=>decide (y∈b5 p x))=l.filter (ah p x):=
 d6 λy hy=>by
  cases e:ah p x y with
  | true=>exact decide_eq_true (ma.mpr ⟨h y hy,e⟩)
  | false=>exact decide_eq_false λk=>by rw[(ma.mp k).2]at e;cases e
abbrev me(p:Nat)(l:List Nat):Nat:=Sm l.length λi=>Sm l.length λj=>(ah p (l.getD i 0) (l.getD j 0)).toNat
theorem E7{h:House}(g:Good h)(o:List jP):FN 55 [.obj] (aw h o)=some (.int (me h.p h.kept:Nat)):=by
 fail"a";have hk:=g.kl;have hl:∀x≤h.p,FN 35 [.int x,.int h.p] (aw h o)=some (.il (zl (b5 h.p x))):=λx hx=>tj g.p hx (aw h o);rw[bz]at hl⊢;simp![nQ,eQ];refine ia h.kept (λ(b:Nat) S=>∃own v2 v3 v4,S=⟨[some .obj,some (.int b),v2,v3,v4],own,aw h o,false⟩) (λb x=>b+(h.kept.filter (λy=>decide (y∈b5 h.p x))).length) 0 ?_ rfl ?_ ?_ ?_
 . simp![]
 . rw[bz];exact⟨_,none,none,none,rfl⟩
 . rintro b S x hx ⟨own,v2,v3,v4,rfl⟩;have hxp:=g.k x hx;rw[bz];simp![hl x (by lia)];exact⟨_,by
    refine dc (λy=>decide (y∈b5 h.p x)) (by lia) (λy hy=>?_) ?_
    . simp![]
    . simp![l7];rfl,_,_,_,_,rfl⟩
 . rintro S ⟨own,v2,v3,v4,rfl⟩;rw[A9,bJ,WV];have e:(Sm h.kept.length λi=>(h.kept.filter λy=>decide (y∈b5 h.p (h.kept.getD i 0))).length)=me h.p h.kept:=by
    refine dn λi _=>?_;rw[RE g.k,WW]
   rw[e];simp![]
theorem rR(p:Nat)(hs:List PV):FN 14 [.int p] hs=some (.bl (decide (p%4=1))):=by
 simp![uo,gU]
theorem RF{l:List Nat}(hn:l.Nodup){i j:Nat}(hi:i<l.length)(hj:j<l.length)(h:i≠j):l.getD i 0≠l.getD j 0:=by
 rw[aD,aD,ay hi,ay hj];intro e;exact h ((kU hn).mp e)
theorem ON(p:Nat)(l:List Nat):Iz p l=Sm l.length λi=>Sm l.length λj=>(decide (i<j)&&(ah p (l.getD i 0) (l.getD j 0)||ah p (l.getD j 0) (l.getD i 0))).toNat:=by
 unfold Iz;rw[LK,C4];exact dn λi _=>C6 _ _
theorem C7(n:Nat)(f:Nat->Nat):Sm n (λi=>2*f i)=2*Sm n f:=by
 rw[show(λi=>2*f i)=λi=>f i+f i from funext λi=>by lia,C5];lia
theorem C8(n:Nat):Sm n (λ_=>0)=0:=by
 induction n with
 | zero=>rfl
 | succ n ih=>show Sm n _+0=0;rw[ih]
theorem OO{p:Nat}(hp:p∈PL){l:List Nat}(hk:∀a∈l,a<p)(hn:l.Nodup):(if p%4=1 then me p l/2 else me p l)=Iz p l:=by
 fail"h";have hlt:∀i<l.length,l.getD i 0<p:=λi hi=>hk _ (getD_mem hi);have e0:me p l=Sm l.length λi=>Sm l.length λj=>if i<j then(ah p (l.getD i 0) (l.getD j 0)).toNat+(ah p (l.getD j 0) (l.getD i 0)).toNat else 0:=by
  unfold me;rw[E5,dn (n:=l.length) (f:=λi=>(ah p (l.getD i 0) (l.getD i 0)).toNat) (g:=λ_=>0) (λi _=>by rw[md hp];rfl),C8];rfl
 rw[ON];by_cases h4:p%4=1
 . rw[if_pos h4,e0];have:(Sm l.length λi=>Sm l.length λj=>if i<j then(ah p (l.getD i 0) (l.getD j 0)).toNat+(ah p (l.getD j 0) (l.getD i 0)).toNat else 0)=2*Sm l.length λi=>Sm l.length λj=>(decide (i<j)&&(ah p (l.getD i 0) (l.getD j 0)||ah p (l.getD j 0) (l.getD i 0))).toNat:=by
    rw[<-C7];refine dn λi hi=>?_;rw[<-C7];refine dn λj hj=>?_;rw[rQ hp h4 (hlt j hj) (hlt i hi),Bool.or_self];by_cases k:i<j
    . rw[if_pos k,decide_eq_true k,dZ];lia
    . rw[if_neg k,decide_eq_false k];rfl
   rw[this];lia
 . have h3:p%4=3:=by rcases PL4 p hp with k | k;exact absurd k h4;exact k
   rw[if_neg h4,e0];refine dn λi hi=>dn λj hj=>?_;by_cases k:i<j
   . rw[if_pos k,decide_eq_true k,dZ,HS hp h3 (hlt i hi) (hlt j hj) (RF hn hi hj (by lia))];cases ah p (l.getD j 0) (l.getD i 0)<;>rfl
   . rw[if_neg k,decide_eq_false k];rfl
theorem Ba(p:Nat){l:List Nat}(hl:l.length<=12):me p l<=144:=by
 have h1:∀n (f:Nat->Nat) c,(∀i,f i<=c)->Sm n f<=n*c:=λn f c hf=>by
  induction n with
  | zero=>exact dj _
  | succ n ih=>show Sm n f+f n<=_;rw[gQ];exact Ds ih (hf n)
 have h2:=h1 l.length (λi=>Sm l.length λj=>(ah p (l.getD i 0) (l.getD j 0)).toNat) 12 λi=>by
  have:=h1 l.length (λj=>(ah p (l.getD i 0) (l.getD j 0)).toNat) 1 λj=>by cases ah p (l.getD i 0) (l.getD j 0)<;>decide
  show Sm _ _<=12;lia
 unfold me;lia
theorem RG{h:House}(g:Good h):b7 61 [] h (ag h (.points .inner)):=by
 intro o;fail"a";have e:=E7 g o;have e2:=OO g.p g.k g.kn;have e3:=Ba h.p g.kl;rw[bz]at e;by_cases h4:h.p%4=1
 . rw[if_pos h4]at e2;simp![IZ,nD,aw,e,rR,h4,e2];simp?[]
 . rw[if_neg h4]at e2;simp![IZ,nD,aw,e,rR,h4,e2];simp?[]
theorem OP(n c:Nat):Sm n (λ_=>c)=n*c:=by
 induction n with
 | zero=>exact(wZ c).symm
 | succ n ih=>show Sm n _+c=_;rw[ih,gQ]
theorem WX(n i:Nat)(h:i<n):Sm n (λj=>if i=j then 0 else 1)=n-1:=by
 have:∀m,Sm m (λj=>if i=j then 0 else 1)=if i<m then m-1 else m:=λm=>by
  induction m with
  | zero=>rfl
  | succ m ih=>
   show Sm m _+(if i=m then 0 else 1)=_;rw[ih];by_cases h1:i<m
   . rw[if_pos h1,if_pos (show i<m+1 by lia),if_neg (by lia)];lia
   . rw[if_neg h1];by_cases h2:i=m
     . rw[if_pos h2,if_pos (by lia)];rfl
     . rw[if_neg h2,if_neg (by lia)]
 rw[this,if_pos h]
theorem OQ{p:Nat}(hp:p∈PL)(l:List Nat):decide (me p l=l.length*(l.length-1))=ni p l:=by
 have e1:Sm l.length (λi=>Sm l.length λj=>if i=j then 0 else 1)=l.length*(l.length-1):=by
  rw[dn (g:=λ_=>l.length-1) λi hi=>WX _ i hi,OP]
 have hle:∀i j,(ah p (l.getD i 0) (l.getD j 0)).toNat<=if i=j then 0 else 1:=λi j=>by
  by_cases h:i=j
  . subst h;rw[md hp,if_pos rfl];exact aO _
  . rw[if_neg h];cases ah p (l.getD i 0) (l.getD j 0)<;>decide
 obtain⟨_,k⟩:=OL (n:=l.length) (f:=λi=>Sm l.length λj=>(ah p (l.getD i 0) (l.getD j 0)).toNat) (g:=λi=>Sm l.length λj=>if i=j then 0 else 1) λi _=>(OL λj _=>hle i j).1;cases hg:ni p l with
 | true=>
  refine decide_eq_true ?_;rw[<-e1];unfold ni at hg;refine dn λi hi=>dn λj hj=>?_;have:=bw.mp (bw.mp hg i (au.mpr hi)) j (au.mpr hj);by_cases h:i=j
  . subst h;rw[md hp,if_pos rfl];rfl
  . rw[beq_eq_false_iff_ne.mpr h,jc]at this;rw[this,if_neg h];rfl
 | false=>
  refine decide_eq_false λe=>?_;rw[<-e1]at e;have k2:=k e;have:ni p l=true:=by
   unfold ni;refine bw.mpr λi hi=>bw.mpr λj hj=>?_;by_cases h:i=j
   . rw[beq_iff_eq.mpr h];rfl
   . have h3:=(OL λj _=>hle i j).2 (k2 i (au.mp hi)) j (au.mp hj);simp only[if_neg h]at h3;cases h5:ah p (l.getD i 0) (l.getD j 0)with
     | true=>exact pS _
     | false=>rw[h5]at h3;cases h3
  rw[this]at hg;cases hg
theorem RH{h:House}(g:Good h):b7 62 [] h (ag h (.points .group)):=by
 intro o;fail"a";have e:=E7 g o;have e2:=OQ g.p h.kept;have e3:=Ba h.p g.kl;have e4:=g.kl;rw[bz]at e;by_cases h0:h.kept.length=0
 . have k0:h.kept=[]:=zL h0;have k1:me h.p h.kept=0:=by rw[k0];rfl
   have k2:ni h.p h.kept=true:=by rw[k0];rfl
   rw[k1]at e;have k3:sJ .mul (.int ((0:Nat):Int)) (.int ((0:Nat)-(1:Nat):Int))=some (.int ((0:Nat):Int)):=by decide
   simp![BU,lD,aw,e,h0,pd,k3];simp?[k2]
 . by_cases h1:me h.p h.kept=h.kept.length*(h.kept.length-1)
   . rw[decide_eq_true h1]at e2;simp![BU,lD,aw,e,h1];simp?[<-e2]
   . rw[decide_eq_false h1]at e2;simp![BU,lD,aw,e,h1];simp?[<-e2]
abbrev ways(p x:Nat):Nat:=Sm p λy=>(ah p x y).toNat*Sm p λz=>(ah p y z&&ah p z x).toNat
theorem RI(l:List Nat)(c:Nat->Bool)(f:Nat->Nat):((l.filter c).map f).sum=(l.map λy=>(c y).toNat*f y).sum:=by
 induction l with
 | nil=>rfl
 | cons a r ih=>
  rw[cp,ax,bX];cases h:c a with
  | true=>simp [ih]
  | false=>simp [ih]
theorem K7(a b:Bool):a.toNat*b.toNat=(a&&b).toNat:=by cases a<;>cases b<;>rfl
theorem WY(n c:Nat)(f:Nat->Nat):c*Sm n f=Sm n λi=>c*f i:=by
 induction n with
 | zero=>rfl
 | succ n ih=>show c*(Sm n f+f n)=Sm n (λi=>c*f i)+c*f n;rw[LI,ih]
theorem K8(p x:Nat):(FO p x).length=Sm p λy=>Sm p λz=>(ah p x y&&(ah p y z&&(ah p z x&&(p%4==3||decide (y<z))))).toNat:=by
 unfold FO cA;rw[LK,C4];refine dn λy _=>?_;cases h:ah p x y with
 | true=>
  rw[if_pos rfl,ae,C6];exact dn λz _=>by rw[dZ]
 | false=>
  rw[if_neg (by decide)];exact(C8 p).symm
theorem JP(p x:Nat):ways p x=Sm p λy=>Sm p λz=>(ah p x y&&(ah p y z&&ah p z x)).toNat:=by
 unfold ways;refine dn λy _=>?_;rw[WY];exact dn λz _=>K7 _ _
theorem K9{p x:Nat}(hp:p∈PL)(hx:x<p):(if p%4=1 then ways p x/2 else ways p x)=(FO p x).length:=by
 rw[JP,K8];by_cases h4:p%4=1
 . rw[if_pos h4,E5];rw[dn (n:=p) (f:=λy=>(ah p x y&&(ah p y y&&ah p y x)).toNat) (g:=λ_=>0) (λy _=>by rw[md hp,iy,d5];rfl),C8];have:(Sm p λy=>Sm p λz=>if y<z then(ah p x y&&(ah p y z&&ah p z x)).toNat+(ah p x z&&(ah p z y&&ah p y x)).toNat else 0)=2*Sm p λy=>Sm p λz=>(ah p x y&&(ah p y z&&(ah p z x&&(p%4==3||decide (y<z))))).toNat:=by
    rw[<-C7];refine dn λy hy=>?_;rw[<-C7];refine dn λz hz=>?_;rw[h4,show((1:Nat)==3)=false from rfl,jc,rQ hp h4 hx hz,rQ hp h4 hz hy,rQ hp h4 hy hx];by_cases k:y<z
    . rw[if_pos k,decide_eq_true k,gb];cases ah p x y<;>cases ah p y z<;>cases ah p z x<;>rfl
    . rw[if_neg k,decide_eq_false k,d5,d5,d5];rfl
   rw[this];lia
 . have h3:p%4=3:=by rcases PL4 p hp with k | k;exact absurd k h4;exact k
   rw[if_neg h4,h3];exact dn λy _=>dn λz _=>by rw[show((3:Nat)==3)=true from rfl,pV,gb]
theorem RJ{p x:Nat}(hp:p∈PL):ways p x<=10000:=by
 fail"h";have h1:∀n (f:Nat->Nat) c,(∀i,f i<=c)->Sm n f<=n*c:=λn f c hf=>by
  induction n with
  | zero=>exact dj _
  | succ n ih=>show Sm n f+f n<=_;rw[gQ];exact Ds ih (hf n)
 have h2:=h1 p (λy=>Sm p λz=>(ah p x y&&(ah p y z&&ah p z x)).toNat) 97 λy=>by
  have:=h1 p (λz=>(ah p x y&&(ah p y z&&ah p z x)).toNat) 1 λz=>by cases ah p x y&&(ah p y z&&ah p z x)<;>decide
  show Sm _ _<=97;lia
 rw[JP];lia
theorem z9{h:House}(g:Good h)(x:Nat):b7 58 [.int x] h (ag h (.points (.rounds x))):=by
 intro o;fail"a";by_cases h1:x<h.p
 . have e1:=kN x h o;have e2:=l8 (x:=x) g.p (by lia) (aw h o);have hl:∀x≤h.p,FN 35 [.int x,.int h.p] (aw h o)=some (.il (zl (b5 h.p x))):=λx hx=>tj g.p hx (aw h o);have hn:¬h.p<=x:=by lia
   have e5:=K9 g.p h1;rw[bz]at e1 e2 hl;simp![ss,gE,aw,e1,e2,h1];refine ia (b5 h.p x) (λ(b:Nat) S=>∃own v4 v5,S=⟨[some .obj,some (.int x),some (.il (zl ((cA h.p).filter λy=>ah h.p y x))),some (.int b),v4,v5],own,aw h o,true⟩) (λb y=>b+((b5 h.p y).filter (λz=>decide (z∈(cA h.p).filter λy=>ah h.p y x))).length) 0 ?_ rfl ?_ ?_ ?_
   . simp![hl x (by lia)]
   . rw[bz];exact⟨_,none,none,rfl⟩
   . rintro b S y hy ⟨own,v4,v5,rfl⟩;have hyp:=(ma.mp hy).1;rw[bz];simp![hl y (by lia)];exact⟨_,by
      refine dc (λz=>decide (z∈(cA h.p).filter λy=>ah h.p y x)) (bb (tq g.p _) (by decide)) (λy hy=>?_) ?_
      . simp![]
      . simp![l7];rfl,_,_,_,rfl⟩
   . rintro S ⟨own,v4,v5,rfl⟩;have e:(b5 h.p x).foldl (λb y=>b+((b5 h.p y).filter (λz=>decide (z∈(cA h.p).filter λy=>ah h.p y x))).length) 0=ways h.p x:=by
      rw[A9,bJ];unfold b5;rw[RI];unfold cA;rw[C4];refine dn λy _=>?_;rw[dh,C6];refine congrArg (λt=>(ah h.p x y).toNat*t) (dn λz hz=>?_);have k:decide (z∈(af h.p).filter λy=>ah h.p y x)=ah h.p z x:=by
       cases k:ah h.p z x with
       | true=>exact decide_eq_true (aX.mpr ⟨au.mpr hz,k⟩)
       | false=>exact decide_eq_false λk2=>by rw[(aX.mp k2).2]at k;cases k
      rw[k,fw]
     rw[e,bz];have hw:=RJ (x:=x) g.p;by_cases h4:h.p%4=1
     . rw[if_pos h4]at e5;simp![rR,h4,e5];simp?[hn]
     . rw[if_neg h4]at e5;simp![rR,h4,e5];simp?[hn]
 . have e1:=kN x h o;have hn:h.p<=x:=by lia
   rw[bz]at e1;simp![ss,gE,aw,e1,h1];simp?[hn]
theorem RK(xs:List Int):mx .list (.il xs)=some (.il xs):=rfl
abbrev jM(p:Nat)(found:List Nat)(x:Nat):List Nat:=found++(b5 p x).filter λz=>!decide (z∈found)
abbrev iV(p:Nat)(l:List Nat):List Nat:=l.foldl (jM p) l
theorem OR{p:Nat}(hp:p∈PL)(x:Nat):(b5 p x).length<=1000:=tq hp _
theorem E8{p:Nat}(hp:p∈PL){l:List Nat}(hl:∀x∈l,x<p)(hll:l.length<=2000)(hs:List PV):FN 53 [.il (zl l),.int p] hs=some (.il (zl (iV p l)))/\(iV p l).length<=l.length+l.length*1000:=by
 fail"h";have hlen:∀(r:List Nat) (f:List Nat),(r.foldl (jM p) f).length<=f.length+r.length*1000:=λr=>by
  induction r with
  | nil=>intro f;exact gz _ _
  | cons x r ih=>
   intro f;rw[aU];have h1:=ih (jM p f x);have h2:(jM p f x).length<=f.length+1000:=by
    unfold jM;rw[aA];have:=OR hp x;have:=br (λz=>!decide (z∈f)) (b5 p x);lia
   rw[aV,gQ];lia
 refine⟨?_,hlen l l⟩;simp![z3,kf,RK];refine rM l (λj (b:List Nat) S=>b.length<=l.length+j*1000/\∃own v3 v4,own.contains 2=true/\S=⟨[some (.il (zl l)),some (.int p),some (.il (zl b)),v3,v4],own,hs,false⟩) (jM p) l ?_ rfl ?_ ?_ ?_
 . simp![]
 . exact⟨by lia,_,none,none,rfl,rfl⟩
 . rintro j b S x hx ⟨hbl,own,v3,v4,ho,rfl⟩;have hxp:=hl x (aL hx);have hj:j<l.length:=(az.mp hx).1;have h0:=OR hp x;have h1:=br (λz=>!decide (z∈b)) (b5 p x);have ho2:(own.filter λk=>!k==3).contains 2=true:=by rw[du (by decide)];exact ho
   simp![NY,tj hp (show x<=p by lia) hs];exact⟨_,by
    refine dc (λz=>!decide (z∈b)) (by lia) (λz hz=>?_) ?_
    . simp![]
    . simp![Cn,ho];rfl,by unfold jM;rw[aA,gQ];lia,_,_,_,ho2,rfl⟩
 . rintro S ⟨_,own,v3,v4,ho,rfl⟩;simp![ho];rfl
theorem E9{p:Nat}:∀(r f:List Nat) (z:Nat),z∈r.foldl (jM p) f↔z∈f\/∃x∈r,z∈b5 p x
 | [],f,z=>by simp
 | x::r,f,z=>by
  rw[aU,E9 r];have:z∈jM p f x↔z∈f\/z∈b5 p x:=by
   unfold jM;rw[bV,aX];by_cases h:z∈f<;>simp [h]
  rw[this];simp only[aE,exists_eq_or_imp,or_assoc]
theorem RL{p:Nat}{l:List Nat}{z:Nat}:z∈iV p l↔z∈l\/∃x∈l,z∈b5 p x:=E9 l l z
theorem Fa:∀p∈PL,∀d<p,d≠0->a8 p d=1\/(af p).any (λe=>a8 p e==1&&a8 p (d+p-e)==1)=true:=by decide+kernel
theorem WZ{p x y:Nat}(hp:p∈PL)(hx:x<p)(hy:y<p)(h:x≠y)(hl:ah p x y=false):∃z,z∈b5 p x/\y∈b5 p z:=by
 fail"h";have n0:(y+p-x)%p≠0:=by
  rcases iO x y with h | h
  . rw[show y+p-x=(y-x)+p by lia,cc,aj (show y-x<p by lia)];lia
  . rw[aj (show y+p-x<p by lia)];lia
 have hm:=aN (y+p-x) (show p>0 by lia);rcases Fa p hp _ hm n0 with k | k
 . unfold ah at hl;rw[<-dS,k]at hl;cases hl
 . obtain⟨e,he,ke⟩:=List.any_eq_true.mp k;have hep:=au.mp he;rw[aG,beq_iff_eq,beq_iff_eq]at ke;refine⟨(x+e)%p,ma.mpr ⟨aN _ (by lia),?_⟩,ma.mpr ⟨hy,?_⟩⟩
   . unfold ah;have:((x+e)%p+p-x)%p=e%p:=by
      rcases iO (x+e) p with k | k
      . rw[aj k,show x+e+p-x=e+p by lia,cc]
      . rw[m9 k,aj (show x+e-p<p by lia)];congr 1;lia
     rw[<-dS,this,dS,ke.1];rfl
   . unfold ah;have:(y+p-(x+e)%p)%p=((y+p-x)%p+p-e)%p:=by
      have e1:(x+e)%p=if x+e<p then x+e else x+e-p:=by
       split
       . rename_i k;exact aj k
       . rename_i k;rw[m9 (by lia),aj (by lia)]
      have e2:(y+p-x)%p=if x<=y then y-x else y+p-x:=by
       split
       . rw[show y+p-x=(y-x)+p by lia,cc,aj (by lia)]
       . exact aj (by lia)
      rw[e1,e2];have m:∀a b:Nat,(a=b\/a=b+p\/a+p=b)->a%p=b%p:=λa b k=>by
       rcases k with k | k | k
       . rw[k]
       . rw[k,cc]
       . rw[<-k,cc]
      split<;>split<;>exact m _ _ (by lia)
     rw[<-dS,this,dS,ke.2];rfl
theorem RN{h:House}(g:Good h)(x y:Nat):b7 64 [.int x,.int y] h (ag h (.points (.steps x y))):=by
 intro o;fail"a";have e1:=kN x h o;have e2:=kN y h o;have h53:∀l:List Nat,(∀z∈l,z<h.p)->l.length<=2000->FN 53 [.il (zl l),.int h.p] (aw h o)=some (.il (zl (iV h.p l))):=λl a b=>(E8 g.p a b (aw h o)).1;rw[bz]at e1 e2 h53;by_cases h1:x<h.p
 . by_cases h2:y<h.p
   . have hn:¬(h.p<=x\/h.p<=y):=by lia
     have o1:iV h.p [x]=x::b5 h.p x:=by
      unfold iV jM;rw[aU,List.foldl_nil];rw[fh.mpr λz hz=>by
       rw[nZ,decide_eq_false_iff_not,aZ];rintro rfl;have:=(ma.mp hz).2;rw[md g.p]at this;cases this]
      rfl
     have o1l:(iV h.p [x]).length<=2000:=by rw[o1,aV];have:=OR g.p x;lia
     have o1p:∀z∈iV h.p [x],z<h.p:=λz hz=>by
      rw[o1]at hz;rcases aE.mp hz with rfl | k
      . exact h1
      . exact(ma.mp k).1
     have st:∀l:List Nat,y∈l->True:=λ_ _=>trivial;simp![BV,lE,aw,e1,e2,h1,h2];refine rL (λ(b:Nat×List Nat) S=>((b.1=0/\b.2=[x])\/(b.1=1/\b.2=iV h.p [x]/\x≠y)\/(b.1=2/\b.2=iV h.p (iV h.p [x])/\x≠y/\ah h.p x y=false))/\∃own,S=⟨[some .obj,some (.int x),some (.int y),some (.il (zl b.2)),some (.int b.1)],own,aw h o,true⟩)
      (λb=>(b.1+1,iV h.p b.2)) (λb=>!decide (y∈b.2)) (λb=>3-b.1) (0,[x]) ?_ ?_ ?_ ?_ ?_
     . rintro⟨t,l⟩ S ⟨_,own,rfl⟩
       simp![]
     . rintro⟨t,l⟩ S ⟨hc,own,rfl⟩ hg
       have hy:y∉l:=by simpa using hg
       rw[bz];rcases hc with⟨rfl,rfl⟩ | ⟨rfl,rfl,hne⟩ | ⟨rfl,rfl,hne,hnl⟩
       . have hne:x≠y:=λe=>hy (by simp [e]);refine⟨_,by simp![h53 [x] (λz hz=>by rw[aZ.mp hz];exact h1) (by simp),l7];rfl,⟨.inr (.inl ⟨rfl,rfl,hne⟩),_,rfl⟩,by show 3-1<3-0;decide⟩
       . have hnl:ah h.p x y=false:=by
          cases k:ah h.p x y with
          | false=>rfl
          | true=>exact absurd (by rw[o1];exact ao _ (ma.mpr ⟨h2,k⟩)) hy
         refine⟨_,by simp![h53 _ o1p o1l,l7];rfl,⟨.inr (.inr ⟨rfl,rfl,hne,hnl⟩),_,rfl⟩,by show 3-2<3-1;decide⟩
       . obtain⟨z,hz,hzy⟩:=WZ g.p h1 h2 hne hnl;exact absurd (RL.mpr (.inr ⟨z,by rw[o1];exact ao _ hz,hzy⟩)) hy
     . rw[bz];exact⟨.inl ⟨rfl,rfl⟩,_,rfl⟩
     . show 3-0<NN;decide
     . rintro⟨t,l⟩ S ⟨hc,own,rfl⟩ hg
       have hy:y∈l:=by simpa using hg
       rw[bz];rcases hc with⟨rfl,rfl⟩ | ⟨rfl,rfl,hne⟩ | ⟨rfl,rfl,hne,hnl⟩
       . have e:x=y:=(aZ.mp hy).symm;subst e;have hn2:¬h.p<=x:=by lia
         simp![];simp?[hn2,IA]
       . have hnl:ah h.p x y=true:=by
          rw[o1]at hy;rcases aE.mp hy with k | k
          . exact absurd k.symm hne
          . exact(ma.mp k).2
         simp![];simp?[hn,IA,hne,hnl]
       . simp![];simp?[hn,IA,hne,hnl]
   . have hn:h.p<=y:=by lia
     simp![BV,lE,aw,e1,e2,h1,h2];simp?[hn]
 . have hn:h.p<=x:=by lia
   simp![BV,lE,aw,e1,e2,h1];simp?[hn]
@[reducible]def Gr:=List Nat×List Nat
abbrev qG(p:Nat)(q:Gr)(x:Nat):Gr:=(q.1++[x],q.2.filter λz=>decide (x<z)&&ah p x z)
abbrev Bb(p:Nat)(gs:List Gr):List Gr:=gs.flatMap λq=>q.2.map (qG p q)
abbrev g0(p:Nat):List Gr:=[([0,1],(kQ p [0,1]).filter λz=>decide (1<z))]
abbrev W0(p:Nat)(gs:List Gr):Bool:=decide (gs.length<=5000)&&gs.all λq=>decide (q.1.length<=20)&&(decide (q.2.length<=100)&&q.2.all λz=>decide (z<p))
abbrev gGo(p:Nat):Nat->List Gr->List Nat->Option (List Nat)
 | 0,_,_=>none
 | n+1,gs,b=>if W0 p gs then(match gs with
  | []=>some b
  | q::_=>gGo p n (Bb p gs) q.1)else none
theorem uL:∀p∈PL,p%4=1->gGo p 12 (g0 p) [0,1]=some (gq p)/\(gq p).length<=20:=by decide+kernel
theorem RO(a:Nat)(l:List Nat):u5 .nmem (.int a) (.fzl (zl l))=some (!decide (a∈l)):=xt a l
theorem zx(l:List Nat):items (.fzl (zl l))=some (l.map λx=>.int (x:Nat)):=uG l
theorem W1(l:List Nat):mx .len (.fzl (zl l))=some (.int (l.length:Nat)):=Cm l
theorem W2{a b:List Nat}(h:a.length+b.length<=16000000):sJ .add (.fzl (zl a)) (.il (zl b))=some (.il (zl (a++b))):=by
 rw[yN];exact if_pos (by rw[fu,fu];exact h)
theorem RQ{a b:List Nat}(h:a.length+b.length<=16000000):sJ .add (.il (zl a)) (.fzl (zl b))=some (.il (zl (a++b))):=by
 rw[yN];exact if_pos (by rw[fu,fu];exact h)
theorem OS(xs:List Int):Av (.il xs)=some (.fzl xs):=rfl
theorem TR(a b:List Int):xY [.fzl a,.fzl b]=some (.pr a b):=rfl
abbrev zg(gs:List Gr):List (List Int×List Int):=gs.map λq=>(zl q.1,zl q.2)
theorem W3{gs:List Gr}(q:Gr)(h:gs.length<16000000):pB (.prs (zg gs)) (.pr (zl q.1) (zl q.2))=some (.prs (zg (gs++[q]))):=by
 have:zg (gs++[q])=zg gs++[(zl q.1,zl q.2)]:=bQ;rw[this];exact if_pos (by unfold zg;rw[ae];exact h)
theorem La(gs:List Gr):items (.prs (zg gs))=some (gs.map λq=>.pr (zl q.1) (zl q.2)):=by
 show some ((zg gs).map _)=_;unfold zg;rw[cG];rfl
theorem Fb{p:Nat}(hp:p∈PL){kept:List Nat}(hk:∀x∈kept,x<p)(hs:List PV):FN 52 [.fzl (zl kept),.int p] hs=some (.il (zl (kQ p kept))):=by
 fail"h";simp![nP,gh];refine dc (λz=>!decide (z∈kept)) (by simp only[aB];lia) (λz hz=>?_) ?_
 . simp![RO]
 . simp![];refine ia kept (λ(b:List Nat) S=>b.length<=p/\∃own v3 v4 v5,own.contains 2=true/\S=⟨[some (.fzl (zl kept)),some (.int p),some (.il (zl b)),v3,v4,v5],own,hs,false⟩) (λb x=>b.filter λz=>decide (z∈(cA p).filter λy=>ah p y x)) ((af p).filter λz=>!decide (z∈kept)) ?_ rfl ?_ ?_ ?_
   . simp![zx]
   . refine⟨bb (br _ _) (by rw[aB];lia),_,none,none,none,?_,rfl⟩;rfl
   . rintro b S x hx ⟨hl,own,v3,v4,v5,ho,rfl⟩;have:=hk x hx;refine⟨_,by
      simp![l8 hp (show x<=p by lia)];refine dc (λz=>decide (z∈(cA p).filter λy=>ah p y x)) (by lia) (λz hz=>by simp![]) ?_;simp![];rfl,bb (br _ _) hl,_,_,_,_,?_,rfl⟩
     simp![ho]
   . rintro S ⟨hl,own,v3,v4,v5,ho,rfl⟩;rw[EV];simp![ho]
theorem RS {G:gH} {n i i2:Nat} {it:CE} {body:CS} {S:Sx} {β γ:Type} {k:Fl×Sx->Option γ} {r:Option γ} (l:List Gr) (P:Nat->β->Sx->Prop) (f:β->Gr->β) (b0:β)
 (hi:S.evI G it=some (l.map λ(q:Gr)=>.pr (zl q.1) (zl q.2))) (hF:(rW it&&S.rw)=false) (h0:P 0 b0 (S.drop (ft it)))
 (step:∀j b S x,l[j]?=some x->P j b S->∃S',exec G n body ((S.put i (.fzl (zl x.1))).put i2 (.fzl (zl x.2)))=some (.next,S')/\P (j+1) (f b x) S')
 (cont:∀S',P l.length (l.foldl f b0) S'->k (.next,S')=r):(exec G n (.for2 i i2 it body) S).bind k=r:=by
 obtain⟨S',e,h⟩:=nT (step:=λx S=>(gg x).map λ(p:PV×PV)=>(S.put i p.1).put i2 p.2) (body:=exec G n body) (g:=λ(q:Gr)=>PV.pr (zl q.1) (zl q.2)) (L:=l) P f (λj b S x hx hP=>step j b S x hx hP) (l:=l) (i:=0) (S:=S.drop (ft it)) (λj x hj=>by rw[bJ];exact hj) h0;rw[bJ]at h;have e2:exec G n (.for2 i i2 it body) S=some (.next,S'):=by
  show((S.evI G it).bind λps=>if rW it&&S.rw then none else hC (λx S=>(gg x).map λp=>(S.put i p.1).put i2 p.2) (exec G n body) ps (S.drop (ft it)))=_;rw[hi,bs,hF];exact e
 rw[e2];exact cont S' h
theorem OT {G:gH} {n i:Nat} {it:CE} {body:CS} {S:Sx} {β:Type} (l:List Nat) (P:Nat->β->Sx->Prop) (f:β->Nat->β) (b0:β)
 (hi:S.evI G it=some (l.map λx=>.int (x:Nat))) (hF:(rW it&&S.rw)=false) (h0:P 0 b0 (S.drop (ft it)))
 (step:∀j b S x,l[j]?=some x->P j b S->∃S',exec G n body (S.put i (.int (x:Nat)))=some (.next,S')/\P (j+1) (f b x) S'):∃S',exec G n (.for1 i it body) S=some (.next,S')/\P l.length (l.foldl f b0) S':=by
 obtain⟨S',e,h⟩:=nT (step:=λx S=>some (S.put i x)) (body:=exec G n body) (g:=λx:Nat=>PV.int (x:Nat)) (L:=l) P f (λj b S x hx hP=>step j b S x hx hP) (l:=l) (i:=0) (S:=S.drop (ft it)) (λj x hj=>by rw[bJ];exact hj) h0;rw[bJ]at h;refine⟨S',?_,h⟩;show((S.evI G it).bind λps=>if ps.all (λp=>!fJ p)&&!(rW it&&S.rw)then hC (λx S=>some (S.put i x)) (exec G n body) ps (S.drop (ft it))else none)=_;rw[hi,bs,mV,hF];exact e
abbrev RT(p:Nat)(b:List Gr)(q:Gr):List Gr:=b++q.2.map (qG p q)
theorem HU(p:Nat)(gs:List Gr):∀b,gs.foldl (RT p) b=b++Bb p gs:=by
 induction gs with
 | nil=>intro b;exact(cJ b).symm
 | cons q r ih=>intro b;rw[aU,ih];unfold RT Bb;rw[Pz,dw]
theorem RU{p:Nat}(hp:p∈PL){gs:List Gr}(hg:W0 p gs=true)(hs:List PV):FN 54 [.prs (zg gs),.int p] hs=some (.prs (zg (Bb p gs))):=by
 fail"h";unfold W0 at hg;rw[aG,decide_eq_true_eq]at hg;obtain⟨hl,ha⟩:=hg;have hq:∀q∈gs,q.1.length<=20/\q.2.length<=100/\∀z∈q.2,z<p:=λq hq=>by
  have:=bw.mp ha q hq;simp only[aG,decide_eq_true_eq,bw]at this;exact this
 have fin:∀(x:Nat) (q:Gr),(∀z∈q.2,z<p)->q.2.filter (λz=>decide (x<z)&&decide (z∈b5 p x))=(qG p q x).2:=λx q h=>by
  refine d6 λz hz=>?_;cases e:ah p x z with
  | true=>rw[decide_eq_true (ma.mpr ⟨h z hz,e⟩)]
  | false=>rw[decide_eq_false (p:=z∈b5 p x) λk=>by rw[(ma.mp k).2]at e;cases e]
 simp![↓bc8,oP,fe];refine RS gs (λj (b:List Gr) S=>b.length<=100*j/\∃own v3 v4 v5 v6 v7,own.contains 2=true/\S=⟨[some (.prs (zg gs)),some (.int p),some (.prs (zg b)),v3,v4,v5,v6,v7],own,hs,false⟩) (RT p) [] ?_ rfl ?_ ?_ ?_
 . simp![La]
 . exact⟨by decide,_,none,none,none,none,none,rfl,rfl⟩
 . rintro j b S q hx ⟨hbl,own,v3,v4,v5,v6,v7,ho,rfl⟩;obtain⟨q1,q2,q3⟩:=hq q (aL hx);have hj:j<gs.length:=(az.mp hx).1;simp![];obtain⟨S',e,hbl',own',v5',v6',v7',ho',rfl⟩:=OT (G:=⟨iJ ie my NN BP 54,ie,λ_ _ _=>none,my⟩) (n:=NN) (i:=5) (it:=.v 4) (body:=(.seq (.set 6 (.call 35 (.k (.v 5) (.k (.v 1) .z)))) (.seq (.app 2 (.tpl (.k (.fz (.b .add (.v 3) (.lst .I (.k (.v 5) .z)))) (.k (.fz (.comp .I 7 (.v 4) (.and (.c .gt (.v 7) (.v 5)) (.c .mem (.v 7) (.v 6))) (.v 7))) .z)))) .nil)))
    (S:=⟨[some (.prs (zg gs)),some (.int p),some (.prs (zg b)),some (.fzl (zl q.1)),some (.fzl (zl q.2)),v5,v6,v7],bC (λk=>!k==4) (bC (λk=>!k==3) own),hs,false⟩)
    q.2 (λi (c:List Gr) S=>c.length=b.length+i/\∃own v5 v6 v7,own.contains 2=true/\S=⟨[some (.prs (zg gs)),some (.int p),some (.prs (zg c)),some (.fzl (zl q.1)),some (.fzl (zl q.2)),v5,v6,v7],own,hs,false⟩) (λc x=>c++[qG p q x]) b (by simp![zx]) rfl ⟨rfl,_,v5,v6,v7,by
     show(bC _ _).contains 2=true;rw[G0 (by decide),du (by decide),du (by decide)];exact ho,rfl⟩ (by
     rintro i c S x hx ⟨hcl,own,v5,v6,v7,ho,rfl⟩;have hi:i<q.2.length:=(az.mp hx).1;have hxp:=q3 x (aL hx);have e1:sJ .add (.fzl (zl q.1)) (.il [(x:Int)])=some (.il (zl (q.1++[x]))):=W2 (b:=[x]) (by rw[bc];lia);have e2:=W3 (gs:=c) (qG p q x) (by lia);have e3:(qG p q x).1=q.1++[x]:=rfl;have ho2:(bC (λk=>!k==6) (bC (λk=>!k==5) own)).contains 2=true:=by rw[du (by decide),du (by decide)];exact ho
     rw[e3]at e2;refine⟨_,by
      simp![Wi,tj hp (show x<=p by lia) hs,e1,OS,zx];refine dc (λz=>decide (x<z)&&decide (z∈b5 p x)) (by lia) (λz hz=>by simp![]) ?_;rw[fin x q q3];simp![OS,TR,e2,ho];rfl,by rw[aA,bc,hcl];lia,_,_,_,_,?_,rfl⟩
     rw[eL,ho2];rfl)
   rw[e];have efold:∀(l:List Nat) (c:List Gr),l.foldl (λc x=>c++[qG p q x]) c=c++l.map (qG p q):=λl=>by
    induction l with
    | nil=>intro c;exact(cJ c).symm
    | cons x r ih=>intro c;rw[aU,ih,dw];rfl
   rw[efold];refine⟨_,by simp![];rfl,by unfold RT;rw[aA,ae];lia,_,_,_,_,_,_,ho',rfl⟩
 . rintro S ⟨_,own,v3,v4,v5,v6,v7,ho,rfl⟩;rw[HU,fb];simp![Ct,ho]
theorem RV(gs:List Gr):mx .len (.prs (zg gs))=some (.int (gs.length:Nat)):=by
 show some (PV.int ((zg gs).length:Int))=_;unfold zg;rw[ae]
theorem RY(q:Gr)(r:List Gr):iI (.prs (zg (q::r))) (.int ((0:Nat):Int))=some (.pr (zl q.1) (zl q.2)):=by
 show(atI (zg (q::r)) ((0:Nat):Int)).map _=_;rw[rK];rfl
theorem W4(g f:List Int):iI (.pr g f) (.int ((0:Nat):Int))=some (.fzl g):=rfl
theorem Fd(i:List (List Int×List Int)):fJ (.prs i)=true:=rfl
theorem a2d(a b:List Int):Gj (.pr a b)=some (a,b):=rfl
theorem Fe{p:Nat}(hp:p∈PL)(h4:p%4=1)(hs:List PV):FN 66 [.fzl (zl [0,1]),.int p] hs=some (.fzl (zl (gq p))):=by
 fail"h";have hg:=(uL p hp h4).1;have e1:=Fb hp (kept:=[0,1]) (λx hx=>by simp only[aE,PN,or_false]at hx;lia) hs;have hw:=Ow hp [0,1];have e2:iI (.fzl (zl [0,1])) (.int (-((1:Nat):Int)))=some (.int ((1:Nat):Int)):=(rfl);simp![Wi,oQ,ff,e1];refine dc (λz=>decide (1<z)) (by lia) (λz hz=>by simp![e2]) ?_;simp![↓bc6,↓bc8,OS,TR,a2d,Fd];refine rL (λ(b:Nat×List Gr×List Nat) S=>gGo p b.1 b.2.1 b.2.2=some (gq p)/\∃own v4,S=⟨[some (.fzl (zl [0,1])),some (.int p),some (.prs (zg b.2.1)),some (.fzl (zl b.2.2)),v4],own,hs,false⟩)
  (λb=>(b.1-1,Bb p b.2.1,match b.2.1 with | []=>[] | q::_=>q.1)) (λb=>decide (0<b.2.1.length)) (λb=>b.1) (12,g0 p,[0,1]) ?_ ?_ ?_ ?_ ?_
 . rintro⟨n,gs,b⟩ S ⟨_,own,v4,rfl⟩
   simp![RV]
 . rintro⟨n,gs,b⟩ S ⟨hG,own,v4,rfl⟩ hgo
   have hgl:0<gs.length:=oD hgo;obtain _ | n:=n
   . cases hG
   . obtain _ | ⟨q,r⟩:=gs
     . cases hgl
     . have hG':(if W0 p (q::r)then gGo p n (Bb p (q::r)) q.1 else none)=some (gq p):=hG;cases hk:W0 p (q::r)with
       | false=>rw[hk]at hG';cases hG'
       | true=>
        rw[hk]at hG';refine⟨_,by simp![↓bc6,↓bc8,RY,W4,RU hp hk hs,Fd];rfl,⟨hG',_,_,rfl⟩,?_⟩;show n+1-1<n+1;lia
 . exact⟨hg,_,none,rfl⟩
 . show 12<NN;decide
 . rintro⟨n,gs,b⟩ S ⟨hG,own,v4,rfl⟩ hgo
   obtain _ | n:=n
   . cases hG
   . obtain _ | ⟨q,r⟩:=gs
     . have:b=gq p:=by
        have hG':(if W0 p []then some b else none)=some (gq p):=hG;rw[if_pos (show W0 p []=true from rfl)]at hG';exact bv.inj hG'
       subst this;simp![Cs,bm5]
     . cases hgo
theorem OU{l:List Nat}(hl:l.length<=1000)(hs:List PV):FN 16 [.fzl (zl l)] hs=some (.il ((l.length:Int)::zl l)):=by
 simp![uq,ju,W1];have e:sJ .add (.il [((l.length:Nat):Int)]) (.fzl (zl l))=some (.il (zl ([l.length]++l))):=RQ (a:=[l.length]) (b:=l) (by rw[bc];lia);rw[e];rfl
theorem HV{h:House}(g:Good h):b7 63 [] h (ag h (.points .greatest)):=by
 intro o;fail"a";by_cases h4:h.p%4=1
 . have e:=Fe g.p h4 (aw h o);have hl:=(uL h.p g.p h4).2;have h3:¬h.p%4=3:=by lia
   have e0:Av (.il [((0:Nat):Int),((1:Nat):Int)])=some (.fzl (zl [0,1])):=(rfl);rw[bz]at e;simp![Wi,yj,jF,aw,rR,h4,e0,e,OU (show(gq h.p).length<=1000 by lia)];simp?[h3,h4]
 . have h3:h.p%4=3:=by rcases PL4 h.p g.p with k | k;exact absurd k h4;exact k
   simp![yj,jF,aw,rR,h4];simp?[h3]
theorem TU(p g:Nat):∀n v,sn p g n v=bm p g n v
 | 0,_=>rfl
 | n+1,v=>congrArg (FJ v) (TU p g n _)
theorem lG{p:Nat}(hp:p∈PL)(g:Nat):bD p g=(af (p-1)).map λj=>g^j%p:=by
 fail"h";unfold bD;rw[TU,A2 _ _ (by lia)];exact bT λj _=>by rw[iD]
abbrev JQ(p a:Nat):List Nat:=(af (aM p a)).map λj=>a^j%p
theorem C9{p:Nat}(hp:p∈PL)(a:Nat):JQ p a=bm p a (aM p a) 1:=by
 fail"h";rw[A2 _ _ (by lia)];exact bT λj _=>by rw[iD]
theorem uM{p a:Nat}(hp:p∈PL)(ha:a%p≠0)(hs:List PV):FN 18 [.int a,.int p] hs=some (.il (zl (JQ p a))):=by
 fail"h";obtain⟨o1,o2,o3,o4⟩:=Om hp ha;have hnd:(JQ p a).Nodup:=by rw[C9 hp];exact xw hp ha (by lia) (by lia)
 have h1p:1%p=1:=aj (by lia);have hin:∀i,1<=i->i<=aM p a->(a^i%p∈(af i).map (λj=>a^j%p)↔i=aM p a):=λi i1 i2=>by
  constructor
  . intro hm;refine fY i2 (fG λhlt=>?_);obtain⟨j,hj,e⟩:=aH.mp hm;have hji:=au.mp hj;have hn:(JQ p a)[j]?=(JQ p a)[i]?:=by
     unfold JQ;rw[ak,ak,aS hlt,aS (by lia)];exact congrArg some e
    have hl:(JQ p a).length=aM p a:=by unfold JQ;rw[ae,aB]
    rw[ay (by lia),ay (by lia)]at hn;have:=(kU hnd).mp (bv.inj hn);lia
  . rintro rfl;exact aH.mpr ⟨0,au.mpr (by lia),by rw[o3,eP,h1p]⟩
 simp![DV,mO];refine rL (λ(i:Nat) S=>1<=i/\i<=aM p a/\∃own,own.contains 2=true/\S=⟨[some (.int a),some (.int p),some (.il (zl ((af i).map λj=>a^j%p))),some (.int (a^i%p:Nat))],own,hs,false⟩)
  (λi=>i+1) (λi=>!decide (a^i%p∈(af i).map λj=>a^j%p)) (λi=>aM p a-i) 1 ?_ ?_ ?_ ?_ ?_
 . rintro i S ⟨i1,i2,own,ho,rfl⟩;simp![]
 . rintro i S ⟨i1,i2,own,ho,rfl⟩ hg;have hlt:i<aM p a:=Px i2 λz=>by
    rw[decide_eq_true ((hin i i1 i2).mpr z)]at hg;cases hg
   have hl:a^i%p<p:=aN _ (by lia);have e1:a^i%p*a%p=a^(i+1)%p:=by
    rw[jn,fA]
   have e2:((af i).map λj=>a^j%p)++[a^i%p]=(af (i+1)).map λj=>a^j%p:=by
    rw[dk,bQ];rfl
   refine⟨_,by simp![ho,ae,aB,e1,e2];rfl,⟨by lia,by lia,_,?_,rfl⟩,by lia⟩;simp![ho]
 . refine⟨by lia,o1,[2],rfl,?_⟩;rw[iC];simp only[T3,ax,gL,eP,h1p];rfl
 . show aM p a-1<NN;unfold NN;lia
 . rintro i S ⟨i1,i2,own,ho,rfl⟩ hg;have hi:i=aM p a:=by
    refine(hin i i1 i2).mp ?_;simpa using hg
   simp![ho];rw[hi];rfl
theorem zy{p a:Nat}(hp:p∈PL)(ha:a%p≠0):decide (aM p a=p-1)=bL p a:=by
 fail"h";obtain⟨o1,o2,o3,o4⟩:=Om hp ha;unfold bL;have e0:(a%p !=0)=true:=by simpa using ha
 rw[e0,dZ,lG hp];have hm:(((af (p-1)).map λj=>a^j%p).drop 1).contains 1=true↔aM p a<p-1:=by
  rw[aY,<-uY,aH];constructor
  . rintro⟨j,hj,e⟩
    have hj1:1<=j/\j<p-1:=by
     obtain⟨n,hn⟩:∃n,p-1=n+1:=⟨p-2,by lia⟩;rw[hn,bM,XB,T8,aH]at hj;obtain⟨k,hk,rfl⟩:=hj;have:=au.mp hk;lia
    refine na (fG λk=>o4 j hj1.1 k e) hj1.2
  . intro hlt;refine⟨aM p a,?_,o3⟩;obtain⟨n,hn⟩:∃n,p-1=n+1:=⟨p-2,by lia⟩;rw[hn,bM,XB,T8,aH];exact⟨aM p a-1,au.mpr (by lia),by lia⟩
 cases hc:(((af (p-1)).map λj=>a^j%p).drop 1).contains 1 with
 | true=>exact decide_eq_false (by have:=hm.mp hc;lia)
 | false=>
  refine decide_eq_true (fY o2 (fG λk=>?_));rw[hm.mpr k]at hc;cases hc
theorem m7{p a:Nat}(hp:p∈PL)(ha:a%p≠0)(hs:List PV):FN 39 [.int a,.int p] hs=some (.bl (bL p a)):=by
 fail"h";have hl:(JQ p a).length=aM p a:=by unfold JQ;rw[ae,aB]
 simp![BG,lm,uM hp ha,hl,zy hp ha]
structure wR (p g:Nat):Prop where
 n:g%p≠0
 l:aM p g=p-1
theorem JR{p g:Nat}(hp:p∈PL)(h:bL p g=true):wR p g:=by
 have hn:g%p≠0:=λe=>by
  unfold bL at h;rw[e]at h;cases h
 rw[<-zy hp hn]at h;exact⟨hn,oD h⟩
theorem uN{p g:Nat}(hp:p∈PL)(r:wR p g):JQ p g=bD p g:=by
 rw[lG hp];unfold JQ;rw[r.l]
theorem nW{p g x:Nat}(hp:p∈PL)(r:wR p g):x∈bD p g↔0<x/\x<p:=by
 fail"h";rw[<-uN hp r,C9 hp];have h1:∀y∈bm p g (aM p g) 1,y∈(af (p-1)).map λi=>i+1:=λy hy=>
  aH.mpr ⟨y-1,au.mpr (by have:=HI hp r.n (by lia) hy;have:=A3 hp r.n (by lia) (by lia) hy;lia),by have:=A3 hp r.n (by lia) (by lia) hy;lia⟩
 refine⟨λhy=>⟨A3 hp r.n (by lia) (by lia) hy,HI hp r.n (by lia) hy⟩,λ⟨a,b⟩=>?_⟩;refine a4a λhn=>?_;have hnd:=xw hp r.n (x:=1) (by lia) (by lia);have:=uJ (l:=x::bm p g (aM p g) 1) (m:=(af (p-1)).map λi=>i+1) (dA.mpr ⟨hn,hnd⟩) (λy hy=>by
  rcases aE.mp hy with rfl | k
  . exact aH.mpr ⟨y-1,au.mpr (by lia),by lia⟩
  . exact h1 y k)
 rw[aV,vI,r.l,ae,aB]at this;lia
theorem qH{p g:Nat}(hp:p∈PL)(r:wR p g)(hs:List PV):FN 18 [.int g,.int p] hs=some (.il (zl (bD p g))):=by
 rw[uM hp r.n,uN hp r]
theorem HW{p:Nat}(hp:p∈PL)(g:Nat):(bD p g).length=p-1:=by rw[lG hp,ae,aB]
theorem uO{p g x:Nat}(hp:p∈PL)(r:wR p g)(hx:x%p≠0)(e:Nat)(hs:List PV):FN 40 [.int x,.int g,.int p] hs=some (.int (cN ⟨p,e,g⟩ x:Nat)):=by
 fail"h";have hm:x%p∈bD p g:=(nW hp r).mpr ⟨by lia,aN _ (by lia)⟩;simp![Gv,oH,qH hp r,kL hm];rfl
theorem zz:∀p∈PL,(af p).find? (bL p)=some (eZ p):=by decide+kernel
theorem sB{p:Nat}(hp:p∈PL)(hs:List PV):FN 56 [.int p] hs=some (.int (eZ p:Nat)):=by
 fail"h";obtain⟨k1,k2,k3⟩:=gc.mp (zz p hp);have k2':=au.mp k2;have r:=JR hp k1;have r0:1<=eZ p:=by
  refine vV λe=>?_;have:=r.n;rw[e,gR]at this;exact this rfl
 simp![BH,ln];refine rL (λ(i:Nat) S=>1<=i/\i<=eZ p/\∃own,S=⟨[some (.int p),some (.int i)],own,hs,false⟩)
  (λi=>i+1) (λi=>!bL p i) (λi=>p-i) 1 ?_ ?_ ?_ ?_ ?_
 . rintro i S ⟨i1,i2,own,rfl⟩;simp![m7 hp (show i%p≠0 by rw[aj (by lia)];lia)]
 . rintro i S ⟨i1,i2,own,rfl⟩ hg;have hne:i≠eZ p:=λe=>by
    rw[e,k1]at hg;cases hg
   exact⟨_,by simp![l7];rfl,⟨by lia,by lia,_,rfl⟩,by lia⟩
 . exact⟨aO _,r0,_,rfl⟩
 . show p-1<NN;unfold NN;lia
 . rintro i S ⟨i1,i2,own,rfl⟩ hg;have hi:i=eZ p:=by
    refine fY i2 (fG λk=>?_);have:=k3 i k;rw[this]at hg;cases hg
   simp![hi]
theorem Ff{p:Nat}:bL p 0=false:=by unfold bL;rw[gR];rfl
theorem Da{p:Nat}(hp:p∈PL)(hs:List PV):FN 57 [.int p] hs=some (.il (zl (so p))):=by
 fail"h";have e:((af (p-1)).map λi=>i+1).filter (bL p)=so p:=by
  unfold so;obtain⟨n,rfl⟩:∃n,p=n+1:=⟨p-1,by lia⟩;rw[bM,cp,Ff];rfl
 simp![DZ,mR];refine dc (bL p) (by simp only[ae,aB];lia) (λz hz=>?_) ?_
 . have:1<=z/\z<p:=by simp only[aH,au]at hz;lia
   simp![m7 hp (show z%p≠0 by rw[aj (by lia)];lia)]
 . rw[e];rfl
theorem Fg{h:House}(g:Good h):b7 95 [] h (ag h (.split .root)):=by
 intro o;have e:=sB g.p (aw h o);rw[bz]at e;simp![D9,ko,aw,e];simp?[]
theorem Lb{p:Nat}(hp:p∈PL):(so p).length<=97:=by
 fail"h";exact bb (br _ _) (by rw[aB];lia)
theorem RZ{h:House}(g:Good h):b7 96 [] h (ag h (.split .roots)):=by
 intro o;have e:=Da g.p (aw h o);have hl:=Lb g.p;rw[bz]at e;simp![QD,rB,aw,e,lw (so h.p) _ (show _+1<=16000000 by lia)];simp?[]
theorem Good.r{h:House}(g:Good h):wR h.p h.g:=JR g.p g.g
theorem R0{p x:Nat}{e g:Nat}(h:x%p≠0):IB ⟨p,e,g⟩ x=false:=by unfold IB;simpa using h
theorem R5{p x:Nat}{e g:Nat}(h:x%p=0):IB ⟨p,e,g⟩ x=true:=by unfold IB;simpa using h
theorem R6{h:House}(g:Good h)(x:Nat):b7 97 [.int x] h (ag h (.split (.index x))):=by
 intro o;fail"a";by_cases h0:x%h.p=0
 . simp![Jc,nJ,aw,h0];simp?[R5 h0]
 . have e:=uO g.p g.r h0 h.e (aw h o);rw[bz]at e;simp![Jc,nJ,aw,h0,e];simp?[R0 h0]
theorem R7{h:House}(g:Good h)(n:Nat)(hn:n<4294967296):b7 99 [.int n] h (ag h (.split (.power n))):=by
 intro o;fail"a";have e:=qH g.p g.r (aw h o);have hl:n%(h.p-1)<h.p-1:=aN _ (by lia);have hi:(bD h.p h.g)[n%(h.p-1)]?=some (h.g^(n%(h.p-1))%h.p):=by
  rw[lG g.p,ak,aS hl];rfl
 have hp:wY h.p h.g n=h.g^(n%(h.p-1))%h.p:=by
  rw[vG (mD hn (by decide)),CW g.p g.r.n,g.r.l]
 rw[bz]at e;simp![QE,rD,aw,e,cu hi];simp?[hp]
theorem uP{p e:Nat}(hp:p∈PL)(hs:List PV):FN 19 [.int e,.int p] hs=some (.bl (jk p e)):=by
 fail"h";unfold jk;by_cases h1:2<=e
 . by_cases h2:e<=8
   . simp![V1,V0,qh,i7,h1,h2];rfl
   . simp![V1,V0,qh,i7,h1,h2]
 . simp![V0,qh,i7,h1]
theorem R8{h:House}(g:Good h)(e:Nat):b7 93 [.int e] h (ag h (.split (.split e))):=by
 intro o;fail"a";cases h1:jk h.p e with
 | false=>
  simp![Jb,nI,aw,uP g.p,h1];simp?[h1]
 | true=>
  have he:2<=e/\e<=8:=by
   unfold jk at h1;simp only[aG,decide_eq_true_eq]at h1;exact⟨h1.1,h1.2.1⟩
  simp![Jb,nI,aw,uP g.p,h1];simp?[h1]
theorem Fh{h:House}(g:Good h)(a:Nat):b7 94 [.int a] h (ag h (.split (.other a))):=by
 intro o;fail"a";by_cases h0:a%h.p=0
 . have h1:bL h.p a=false:=by unfold bL;rw[h0];rfl
   simp![ql,gK,aw,h0];simp?[h1]
 . have e1:=m7 g.p h0 (aw h o);rw[bz]at e1;cases h1:bL h.p a with
   | false=>
    rw[h1]at e1;simp![ql,gK,aw,h0,e1];simp?[h1]
   | true=>
    rw[h1]at e1;have e2:=λhs=>uO g.p g.r h0 h.e hs;have e3:cN ⟨h.p,h.e,h.g⟩ (a%h.p)=cN ⟨h.p,h.e,h.g⟩ a:=by unfold cN;rw[dm]
    simp![ql,gK,aw,h0,e1,e2];simp?[h1,e3]
theorem W5{l:List Int}{i:Nat}{v:Int}(h:i<l.length):mM (.il l) (.int i) (.int v)=some (.il (l.set i v)):=by
 show((ixN _ _).map _)=_;rw[Jv h];rfl
theorem W6{v:Int}{k:Nat}(h:k<=16000000):sJ .mul (.il [v]) (.int k)=some (.il (aJ k v)):=by
 show(if(k:Int)<vZ/2/\ -(vZ/2)<=(k:Int)/\[v].length*(k:Int).toNat<=mq then some (PV.il (aJ (k:Int).toNat [v]).flatten)else none)=_;have hb:vZ/2=9223372036854775808:=by decide
 have hl:[v].length=1:=rfl;rw[if_pos (by rw[hb,hl];unfold mq;lia)];have:∀n:Nat,(aJ n [v]).flatten=aJ n v:=by
  intro n;induction n with
  | zero=>rfl
  | succ n ih=>rw[bS,eV,ih,bS];rfl
 rw[cY,this]
theorem W7{l:List Int}{i:Nat}{v:Int}(h:l[i]?=some v):iI (.il l) (.int i)=some (.int v):=by
 show(atI l (i:Int)).map _=_;rw[rK,h];rfl
abbrev Lc(h:House):List Int:=(af h.p).map λx=>if x=0 then -1 else((cB (aq h) x:Nat):Int)
theorem uQ{p g:Nat}(hp:p∈PL)(r:wR p g):(bD p g).Nodup:=by
 fail"h";rw[<-uN hp r,C9 hp];exact xw hp r.n (by lia) (by lia)
theorem Bc{l:List Nat}(hn:l.Nodup){j x:Nat}(h:l[j]?=some x):l.idxOf x=j:=by
 have hj:j<l.length:=(az.mp h).1;have hx:l[j]=x:=(az.mp h).2;have hm:x∈l:=aL h;have hlt:l.idxOf x<l.length:=dO hm;have:l[l.idxOf x]=l[j]:=by rw[hx];exact mZ hlt
 exact(kU hn).mp this
theorem rS{h:House}(g:Good h)(o:List jP):FN 41 [.obj] (aw h o)=some (.il (Lc h)):=by
 fail"a";have e1:=qH g.p g.r (aw h o);have hnd:=uQ g.p g.r;have hE:0<h.e:=by
  have:=g.e;unfold jk at this;simp only[aG,decide_eq_true_eq]at this;lia
 rw[bz]at e1⊢;simp![V2,qj,fP,W6];refine yU (bD h.p h.g) (λj (_:Unit) S=>∃F:List Int,F.length=h.p/\(∀x<h.p,F[x]?=some (if x∈(bD h.p h.g).take j then(((bD h.p h.g).idxOf x%h.e:Nat):Int)else -1))/\∃own v2 v3,own.contains 1=true/\S=⟨[some .obj,some (.il F),v2,v3],own,aw h o,false⟩) (λu _=>u) () ?_ rfl ?_ ?_ ?_
 . simp![e1]
 . refine⟨aJ h.p (-1),bn,λx hx=>?_,[1],none,none,rfl,?_⟩
   . rw[dN,if_pos hx,List.take_zero,if_neg (by simp)]
   . rw[bz];rfl
 . rintro j _ S x hx ⟨F,hF,hall,own,v2,v3,ho,rfl⟩;have hxp:x<h.p:=((nW g.p g.r).mp (aL hx)).2;have hj:j<(bD h.p h.g).length:=(az.mp hx).1;have ho2:(bC (λk=>!k==3) (bC (λk=>!k==2) own)).contains 1=true:=by rw[du (by decide),du (by decide)];exact ho
   rw[bz];refine⟨_,by simp![ho,W5 (show x<F.length by lia)];rfl,F.set x ((j%h.e:Nat):Int),by rw[bP];exact hF,λy hy=>?_,_,_,_,ho2,rfl⟩;have ht:(bD h.p h.g).take (j+1)=(bD h.p h.g).take j++[x]:=by
    rw[List.take_succ,hx];rfl
   rw[ht,wD];by_cases hxy:x=y
   . subst hxy;rw[if_pos rfl,if_pos (by lia),if_pos (by simp),Bc hnd hx]
   . rw[if_neg hxy,hall y hy];have:y∈(bD h.p h.g).take j++[x]↔y∈(bD h.p h.g).take j:=by
      rw[bV,aZ];exact⟨λk=>k.resolve_right λe=>hxy e.symm,.inl⟩
     simp only[this]
 . rintro _ S ⟨F,hF,hall,own,v2,v3,ho,rfl⟩;have:F=Lc h:=by
    apply jS
    intro x;unfold Lc;by_cases hx:x<h.p
    . rw[hall x hx,PP,ak,aS hx];show some _=some (if x=0 then -1 else((cB (aq h) x:Nat):Int));congr 1
      by_cases h0:x=0
      . rw[if_pos h0,if_neg (λk=>by have:=((nW g.p g.r).mp k).1;lia)]
      . rw[if_neg h0,if_pos ((nW g.p g.r).mpr ⟨by lia,hx⟩)];unfold cB cN aq;rw[aj hx];rfl
    . rw[bA (by lia),bA (by simp;lia)]
   rw[bz];simp![ho,this]
theorem rT{h:House}{x:Nat}(h0:0<x)(hx:x<h.p):iI (.il (Lc h)) (.int x)=some (.int (cB (aq h) x:Nat)):=by
 refine W7 ?_;unfold Lc;rw[ak,aS hx];show some (if x=0 then -1 else((cB (aq h) x:Nat):Int))=some _;rw[if_neg (by lia)]
theorem i5{h:House}(g:Good h)(i:Nat)(o:List jP):FN 58 [.int i,.obj] (aw h o)=some (.il (zl (bG (aq h) i))):=by
 fail"a";have e:=rS g o;rw[bz]at e⊢;simp![BJ,lp,e];refine dc (λx=>decide (cB (aq h) x=i)) (by simp only[ae,aB];lia) (λx hx=>?_) ?_
 . have:1<=x/\x<h.p:=by simp only[aH,au]at hx;lia
   simp![rT this.1 this.2]
 . congr 2
theorem Fi(i:Nat)(h:House)(o:List jP):FN 21 [.int i,.obj] (aw h o)=some (.bl (S9 (aq h) i)):=by
 simp![Gs,oF,aw];rfl
theorem xy{p g e x:Nat}(hp:p∈PL)(r:wR p g)(hx:x%p≠0):cN ⟨p,e,g⟩ x<p-1/\g^cN ⟨p,e,g⟩ x%p=x%p:=by
 fail"h";have hm:x%p∈bD p g:=(nW hp r).mpr ⟨by lia,aN _ (by lia)⟩;have hlt:=dO hm;have hl:=hlt;rw[HW hp]at hl;refine⟨hl,?_⟩;have h1:(bD p g)[(bD p g).idxOf (x%p)]?=some (x%p):=by
  rw[ay hlt,mZ hlt]
 have h2:(bD p g)[(bD p g).idxOf (x%p)]?=some (g^(bD p g).idxOf (x%p)%p):=by
  conv=>lhs;rw[show(bD p g)[(bD p g).idxOf (x%p)]?=((af (p-1)).map λj=>g^j%p)[(bD p g).idxOf (x%p)]? from congrArg (λl:List Nat=>l[(bD p g).idxOf (x%p)]?) (lG hp g)]
  rw[ak,aS hl];rfl
 rw[h1]at h2;exact(bv.inj h2).symm
theorem OV{p g e n:Nat}(hp:p∈PL)(r:wR p g):cN ⟨p,e,g⟩ (g^n)=n%(p-1):=by
 fail"h";have hl:n%(p-1)<p-1:=aN _ (by lia);unfold cN;show(bD p g).idxOf (g^n%p)=_;rw[CW hp r.n n,r.l];refine Bc (uQ hp r) ?_;rw[lG hp,ak,aS hl];rfl
theorem uR{p g e x:Nat}:cN ⟨p,e,g⟩ (x%p)=cN ⟨p,e,g⟩ x:=by unfold cN;rw[dm]
theorem R9{p g e x y:Nat}(hp:p∈PL)(r:wR p g)(hx:x%p≠0)(hy:y%p≠0):cN ⟨p,e,g⟩ (x*y)=(cN ⟨p,e,g⟩ x+cN ⟨p,e,g⟩ y)%(p-1):=by
 have h1:=(xy (e:=e) hp r hx).2;have h2:=(xy (e:=e) hp r hy).2;rw[<-OV (e:=e) hp r,<-uR,cj,<-h1,<-h2,<-cj,<-lx,uR]
theorem OW{p g n:Nat}(hp:p∈PL)(r:wR p g):g^n%p≠0:=by
 fail"h";have hm:g^n%p∈bD p g:=by
  rw[<-uN hp r,C9 hp];exact(sx hp r.n (by lia)).mpr ⟨n,by rw[iD]⟩
 have:=((nW hp r).mp hm).1;lia
theorem Db{p g x y:Nat}(hp:p∈PL)(r:wR p g)(hx:x%p≠0)(hy:y%p≠0):x*y%p≠0:=by
 have h1:=(xy (e:=0) hp r hx).2;have h2:=(xy (e:=0) hp r hy).2;rw[cj,<-h1,<-h2,<-cj,<-lx];exact OW hp r
theorem Good.e'{h:House}(g:Good h):2<=h.e/\h.e<=8/\(h.p-1)%h.e=0:=by
 have:=g.e;unfold jk at this;simp only[aG,decide_eq_true_eq,beq_iff_eq]at this;exact this
theorem jb{h:House}{i x:Nat}:x∈bG (aq h) i↔0<x/\x<h.p/\cB (aq h) x=i:=by
 unfold bG Am aq;rw[aX,aH];simp only[au,beq_iff_eq];constructor
 . rintro⟨⟨a,ha,rfl⟩,k⟩;exact⟨by lia,by lia,k⟩
 . rintro⟨a,b,c⟩;exact⟨⟨x-1,by lia,by lia⟩,c⟩
theorem ww{h:House}(g:Good h)(i:Nat):(bG (aq h) i).length<=96:=by
 fail"a";refine bb (br _ _) ?_;unfold Am aq;rw[ae,aB];show h.p-1<=96;lia
theorem uS{h:House}(g:Good h){i:Nat}(hi:i<h.e):∃m r,bG (aq h) i=m::r/\0<m/\m<h.p/\cB (aq h) m=i:=by
 fail"a";obtain⟨e1,e2,e3⟩:=g.e';have hle:h.e<=h.p-1:=XY (by lia) (IC e3);have hm:h.g^i%h.p∈bG (aq h) i:=by
  refine jb.mpr ⟨vV (OW g.p g.r),aN _ (by lia),?_⟩;unfold cB aq;rw[uR,OV g.p g.r,aj (show i<h.p-1 by lia)];exact aj hi
 cases hl:bG (aq h) i with
 | nil=>rw[hl]at hm;cases hm
 | cons m r=>
  obtain⟨k1,k2,k3⟩:=jb.mp (show m∈bG (aq h) i by rw[hl];exact aI);exact⟨m,r,rfl,k1,k2,k3⟩
theorem HX{h:House}(g:Good h)(x:Nat):b7 98 [.int x] h (ag h (.split (.cls x))):=by
 intro o;fail"a";by_cases h0:x%h.p=0
 . simp![yo,jH,aw,h0];simp?[R5 h0]
 . have e:=rS g o;have hx:=aN x (show h.p>0 by lia);have e2:cB ⟨h.p,h.e,h.g⟩ (x%h.p)=cB ⟨h.p,h.e,h.g⟩ x:=by unfold cB;rw[uR]
   rw[bz]at e;simp![yo,jH,aw,h0,e,rT (h:=h) (show 0<x%h.p by lia) hx];simp?[R0 h0,e2]
theorem r8{h:House}{i:Nat}(hi:i<h.e):S9 ⟨h.p,h.e,h.g⟩ i=true:=decide_eq_true hi
theorem zA{h:House}{i:Nat}(hi:¬i<h.e):S9 ⟨h.p,h.e,h.g⟩ i=false:=decide_eq_false hi
theorem mf(i:Nat)(h:House)(o:List jP):FN 21 [.int i,.obj] (aw h o)=some (.bl (decide (i<h.e))):=Fi i h o
theorem Ld{h:House}(g:Good h)(i:Nat):b7 100 [.int i] h (ag h (.split (.members i))):=by
 intro o;have e1:=mf i h o;have e2:=i5 g i o;have hl:=ww g i;rw[bz]at e1 e2;by_cases hi:i<h.e
 . simp![AA,kG,aw,e1,e2,hi,lw (bG (aq h) i) _ (show _+1<=16000000 by lia)];simp?[r8 hi]
 . simp![AA,kG,aw,e1,hi];simp?[zA hi]
theorem Le{h:House}(g:Good h)(i:Nat):b7 101 [.int i] h (ag h (.split (.first i))):=by
 intro o;have e1:=mf i h o;have e2:=i5 g i o;rw[bz]at e1 e2;by_cases hi:i<h.e
 . obtain⟨m,r,hm,k1,k2,k3⟩:=uS g hi;rw[hm]at e2;have hm':bG ⟨h.p,h.e,h.g⟩ i=m::r:=hm;simp![AB,kH,aw,e1,e2,hi,cu (l:=m::r) (i:=0) (v:=m) rfl];simp?[r8 hi,hm']
 . simp![AB,kH,aw,e1,hi];simp?[zA hi]
theorem Sa{h:House}(g:Good h)(i:Nat):b7 108 [.int i] h (ag h (.split (.sum i))):=by
 intro o;have e1:=mf i h o;have e2:=i5 g i o;rw[bz]at e1 e2;by_cases hi:i<h.e
 . simp![Je,nN,aw,e1,e2,hi,y8];simp?[r8 hi]
 . simp![Je,nN,aw,e1,hi];simp?[zA hi]
theorem Fj{h:House}(g:Good h){i a:Nat}(hi:i<h.e)(ha:a%h.p≠0)(o:List jP):FN 67 [.obj,.int i,.int a] (aw h o)=some (.int (ID (aq h) i a:Nat)):=by
 fail"a";have e0:=rS g o;have e2:=i5 g i o;obtain⟨E1,E2,E3⟩:=g.e';obtain⟨m,r,hm,k1,k2,k3⟩:=uS g hi;have hmp:m%h.p≠0:=by rw[aj k2];lia
 have hne:=Db g.p g.r hmp ha;have hlt:=aN (m*a) (show h.p>0 by lia);rw[hm]at e2;rw[bz]at e0 e2⊢;have e3:cB (aq h) (m*a%h.p)=ID (aq h) i a:=by
  unfold cB aq at k3;unfold cB ID aq;rw[uR,R9 g.p g.r hmp ha];show _%(h.p-1)%h.e=_%h.e;rw[Nat.mod_mod_of_dvd _ (IC E3),<-mo];show(cN ⟨h.p,h.e,h.g⟩ m%h.e+_)%h.e=_;rw[k3]
 simp![z5,kh,e0,e2,cu (l:=m::r) (i:=0) (v:=m) rfl,rT (h:=h) (show 0<m*a%h.p by lia) hlt,e3]
theorem Dc{h:House}(g:Good h)(i a:Nat):b7 109 [.int i,.int a] h (ag h (.split (.times i a))):=by
 intro o;fail"a";have e1:=mf i h o;rw[bz]at e1;by_cases hi:i<h.e
 . by_cases h0:a%h.p=0
   . simp![oU,gj,aw,e1,hi,h0];simp?[r8 hi,R5 h0]
   . have e2:=Fj g hi h0 o;rw[bz]at e2;simp![oU,gj,aw,e1,hi,h0,e2];simp?[r8 hi,R0 h0]
 . simp![oU,gj,aw,e1,hi];simp?[zA hi]
theorem HY{h:House}(g:Good h)(i:Nat):b7 110 [.int i] h (ag h (.split (.opposite i))):=by
 intro o;fail"a";have e1:=mf i h o;rw[bz]at e1;by_cases hi:i<h.e
 . have e2:=Fj g hi (a:=h.p-1) (by rw[aj (by lia)];lia) o;rw[bz]at e2;simp![yt,jI,aw,e1,hi,e2];simp?[r8 hi]
 . simp![yt,jI,aw,e1,hi];simp?[zA hi]
abbrev bump(row:List Nat)(j:Nat):List Nat:=row.set j (row.getD j 0+1)
theorem uT(row:List Nat)(j:Nat):(bump row j).length=row.length:=bP
theorem Sb{row:List Nat}{j:Nat}(h:j<row.length)(k:Nat):(bump row j).getD k 0=row.getD k 0+(decide (j=k)).toNat:=by
 unfold bump;rw[aD,wD];by_cases e:j=k
 . subst e;rw[if_pos rfl,if_pos h,decide_eq_true rfl];rfl
 . rw[if_neg e,decide_eq_false e,aD];rfl
theorem Sd{α:Type}(c:α->Bool)(T:α->Nat):∀(L:List α) (row:List Nat),(∀x∈L,T x<row.length)->(L.foldl (λr x=>if c x then bump r (T x)else r) row).length=row.length/\∀k,(L.foldl (λr x=>if c x then bump r (T x)else r) row).getD k 0=row.getD k 0+(L.filter λx=>c x&&decide (T x=k)).length
 | [],row,_=>⟨rfl,λ_=>rfl⟩
 | x::L,row,h=>by
  rw[aU];cases hc:c x with
  | true=>
   obtain⟨a,b⟩:=Sd c T L (bump row (T x)) (λy hy=>by rw[uT];exact h y (ao _ hy));refine⟨by rw[if_pos rfl,a,uT],λk=>?_⟩;rw[if_pos rfl,b k,Sb (h x aI),cp,hc,dZ];by_cases e:T x=k
   . rw[if_pos (decide_eq_true e),decide_eq_true e,aV];show _+1+_=_;lia
   . rw[decide_eq_false e,if_neg (by decide)];rfl
  | false=>
   obtain⟨a,b⟩:=Sd c T L row (λy hy=>h y (ao _ hy));refine⟨by rw[if_neg (by decide),a],λk=>?_⟩;rw[if_neg (by decide),b k,cp,hc,iy,if_neg (by decide)]
theorem Fk{a b:List Nat}(h:a.length=b.length)(k:∀i<a.length,a.getD i 0=b.getD i 0):a=b:=by
 refine pH h λi h1 h2=>?_;have:=k i h1;rw[aD,aD,ay h1,ay h2]at this;exact this
theorem map_getD{f:Nat->Nat}{n i:Nat}(h:i<n):((af n).map f).getD i 0=f i:=by
 rw[aD,ak,aS h];rfl
abbrev HZ(h:House):List Nat:=(af (h.p-1-1)).map λi=>i+1
theorem W8{h:House}(g:Good h)(i:Nat):(HZ h).foldl (λr x=>if decide (cB (aq h) x=i)then bump r (cB (aq h) (x+1))else r) (aJ h.e 0)=eJ (aq h) i:=by
 fail"a";obtain⟨E1,E2,E3⟩:=g.e';obtain⟨a,b⟩:=Sd (λx=>decide (cB (aq h) x=i)) (λx=>cB (aq h) (x+1)) (HZ h) (aJ h.e 0) (λx _=>by rw[bn];exact aN _ (by show 0<h.e;lia));have hl:(eJ (aq h) i).length=h.e:=by unfold eJ;rw[ae,aB];rfl
 refine Fk (by rw[a,bn,hl]) λk hk=>?_;rw[a,bn]at hk;rw[b k,aD,dN,if_pos hk];unfold eJ;rw[map_getD (show k<(aq h).e from hk)];unfold XC bG Am;rw[dh];have e1:((af ((aq h).p-1)).map λi=>i+1)=HZ h++[h.p-1]:=by
  unfold HZ;show((af (h.p-1)).map λi=>i+1)=_;obtain⟨n,hn⟩:∃n,h.p-1=n+1:=⟨h.p-2,by lia⟩;rw[hn,dk,bQ];rfl
 rw[e1,m4,aA];have e2:([h.p-1].filter λa=>((a+1)%(aq h).p !=0&&cB (aq h) (a+1)==k)&&cB (aq h) a==i)=[]:=by
  refine pT.mpr λx hx=>?_;rw[aZ.mp hx,show h.p-1+1=h.p by lia,show(aq h).p=h.p from rfl,Iy];simp
 rw[e2];show 0+_=_+0;rw[bJ,Nat.add_zero];refine congrArg sC (d6 λx hx=>?_);have hx':1<=x/\x+1<h.p:=by
  unfold HZ at hx;simp only[aH,au]at hx;lia
 have:((x+1)%(aq h).p !=0)=true:=by
  show((x+1)%h.p !=0)=true;rw[aj hx'.2];simp
 rw[this,dZ,fw];rfl
theorem H0{h:House}(g:Good h)(i:Nat)(o:List jP):FN 59 [.int i,.obj] (aw h o)=some (.il (zl (eJ (aq h) i))):=by
 fail"a";obtain⟨E1,E2,E3⟩:=g.e';have e:=rS g o;have er:=W8 g i;rw[bz]at e⊢;simp![yc,jy,e];refine ia (HZ h) (λ(b:List Nat) S=>b.length=h.e/\∃own v4,own.contains 3=true/\S=⟨[some (.int i),some .obj,some (.il (Lc h)),some (.il (zl b)),v4],own,aw h o,false⟩) (λr x=>if decide (cB (aq h) x=i)then bump r (cB (aq h) (x+1))else r) (aJ h.e 0) ?_ rfl ?_ ?_ ?_
 . simp![];rfl
 . refine⟨bn,_,none,?_,by rw[bz];rfl⟩;rfl
 . rintro b S x hx ⟨hbl,own,v4,ho,rfl⟩;have hx':1<=x/\x+1<h.p:=by
    unfold HZ at hx;simp only[aH,au]at hx;lia
   have hc:cB (aq h) (x+1)<b.length:=by rw[hbl];exact aN _ (by show 0<h.e;lia)
   have ho2:(bC (λk=>!k==4) own).contains 3=true:=by rw[du (by decide)];exact ho
   rw[bz];by_cases k:cB (aq h) x=i
   . refine⟨_,by simp![yZ,rT (h:=h) (show 0<x by lia) (show x<h.p by lia),k,rT (h:=h) (show 0<x+1 by lia) hx'.2,cu (getD_at hc),l7,ho,pf hc];rfl,by rw[if_pos (decide_eq_true k),uT];exact hbl,_,_,ho2,by rw[if_pos (decide_eq_true k)];rfl⟩
   . refine⟨_,by simp![rT (h:=h) (show 0<x by lia) (show x<h.p by lia),k];rfl,by rw[decide_eq_false k,if_neg (by decide)];exact hbl,_,_,ho2,by rw[decide_eq_false k,if_neg (by decide)]⟩
 . rintro S ⟨hbl,own,v4,ho,rfl⟩;rw[bz,er];simp![ho]
theorem JS(h:House)(i:Nat):(eJ (aq h) i).length=h.e:=by unfold eJ;rw[ae,aB];rfl
theorem OX{h:House}(g:Good h)(i j:Nat):b7 102 [.int i,.int j] h (ag h (.split (.behind i j))):=by
 intro o;have e1:=mf i h o;have e2:=mf j h o;have e3:=H0 g i o;rw[bz]at e1 e2 e3;by_cases hi:i<h.e
 . by_cases hj:j<h.e
   . have e4:(eJ (aq h) i)[j]?=some (XC (aq h) i j):=by
      unfold eJ;rw[ak,aS (show j<(aq h).e from hj)];rfl
     simp![yr,jZ,aw,e1,e2,e3,hi,hj,cu e4];simp?[r8 hi,r8 hj]
   . simp![yr,jZ,aw,e1,e2,hi,hj];simp?[r8 hi,zA hj]
 . simp![yr,jZ,aw,e1,hi];simp?[zA hi]
theorem Se{h:House}(g:Good h)(i:Nat):b7 103 [.int i] h (ag h (.split (.row i))):=by
 intro o;obtain⟨E1,E2,E3⟩:=g.e';have e1:=mf i h o;have e3:=H0 g i o;have hl:=JS h i;have hl':(eJ ⟨h.p,h.e,h.g⟩ i).length=h.e:=hl;rw[bz]at e1 e3;by_cases hi:i<h.e
 . simp![Jd,nL,aw,e1,e3,hi,lw (eJ (aq h) i) h.e (by lia)];simp?[r8 hi,Kp302.tellAll,hl']
 . simp![Jd,nL,aw,e1,hi];simp?[zA hi]
theorem Sf{h:House}(g:Good h):b7 104 [] h (ag h (.split .table)):=by
 intro o;obtain⟨E1,E2,E3⟩:=g.e';have e3:∀i:Nat,FN 59 [.int i,.obj] (aw h o)=some (.il (zl (eJ (aq h) i))):=λi=>H0 g i o;have hl:=JS h;rw[bz]at e3;simp![QF,rE,aw];refine rM (af h.e) (λj (b:List Nat) S=>b.length=j*h.e/\∃own v2,own.contains 1=true/\S=⟨[some .obj,some (.il (zl b)),v2],own,aw h o,true⟩) (λb i=>b++eJ (aq h) i) [] ?_ rfl ?_ ?_ ?_
 . simp![]
 . rw[bz];exact⟨(wZ _).symm,[1],none,rfl,rfl⟩
 . rintro j b S i hi ⟨hbl,own,v2,ho,rfl⟩;have hj:j<h.e:=by have:=(az.mp hi).1;rw[aB]at this;exact this
   have hm:j*h.e<=8*8:=iE (by lia) E2;have hbb:b.length+(eJ (aq h) i).length<=16000000:=by rw[hl];lia
   have ho2:(bC (λk=>!k==2) own).contains 1=true:=by rw[du (by decide)];exact ho
   rw[bz];exact⟨_,by simp![NY,e3,ho,Cn hbb];rfl,by rw[aA,hl,hbl,gQ],_,_,ho2,rfl⟩
 . rintro S ⟨hbl,own,v2,ho,rfl⟩;have e5:∀(l:List Nat) (b:List Nat),l.foldl (λb i=>b++eJ (aq h) i) b=b++l.flatMap (eJ (aq h)):=λl=>by
    induction l with
    | nil=>intro b;exact(cJ b).symm
    | cons x r ih=>intro b;rw[aU,ih,Pz,dw]
   rw[e5,fb]at hbl⊢;rw[aB]at hbl;have hm:h.e*h.e<=8*8:=iE E2 E2;rw[bz];simp![lw ((af h.e).flatMap (eJ (aq h))) _ (show _+1<=16000000 by lia)];simp?[]
theorem Lf{p x y:Nat}(hp:0<p)(hx:x<=p):(((y:Int)-(x:Int))%(p:Int))=(((y+p-x)%p:Nat):Int):=by
 have:=qD (y:=y) hp hx;rw[<-this,LZ (ml _ (by lia))]
theorem Fm{α:Type}(l:List α)(c:α->Bool):(l.filter c).length=(l.map λs=>(c s).toNat).sum:=by
 induction l with
 | nil=>rfl
 | cons a r ih=>
  rw[cp,ax,bX,<-ih];cases c a with
  | true=>rw[if_pos rfl,aV];show _=1+_;lia
  | false=>rw[if_neg (by decide)];show _=0+_;lia
theorem Dd{v:Nat}:∀{l:List Nat},l.Nodup->(l.filter λx=>decide (x=v)).length=(l.contains v).toNat
 | [],_=>rfl
 | a::r,h=>by
  obtain⟨h1,h2⟩:=dA.mp h;rw[cp,eL];by_cases e:a=v
  . subst e;rw[if_pos (decide_eq_true rfl),aV,Dd h2,beq_self_eq_true,pV];have:r.contains a=false:=Bool.eq_false_iff.mpr λk=>h1 (aY.mp k);rw[this];rfl
  . rw[if_neg (by simpa using e),Dd h2,beq_eq_false_iff_ne.mpr (λk=>e k.symm),jc]
abbrev Sg(p:Nat)(l:List Nat)(c:List Nat)(one:Nat):List Nat:=l.foldl (λc other=>bump c ((one+p-other)%p)) c
abbrev Fp(p:Nat)(l:List Nat):List Nat:=l.foldl (Sg p l) (aJ p 0)
theorem W9{p:Nat}(hp:0<p)(l c:List Nat)(one:Nat)(hc:c.length=p):(Sg p l c one).length=p/\∀k,(Sg p l c one).getD k 0=c.getD k 0+(l.filter λo=>decide ((one+p-o)%p=k)).length:=by
 obtain⟨a,b⟩:=Sd (λ_=>true) (λo=>(one+p-o)%p) l c (λx _=>by rw[hc];exact aN _ hp);exact⟨a.trans hc,λk=>b k⟩
theorem zB{p:Nat}(hp:0<p)(l:List Nat):∀(L c:List Nat),c.length=p->(L.foldl (Sg p l) c).length=p/\∀k,(L.foldl (Sg p l) c).getD k 0=c.getD k 0+(L.map λone=>(l.filter λo=>decide ((one+p-o)%p=k)).length).sum
 | [],c,hc=>⟨hc,λ_=>rfl⟩
 | x::L,c,hc=>by
  obtain⟨a,b⟩:=W9 hp l c x hc;obtain⟨a2,b2⟩:=zB hp l L (Sg p l c x) a;rw[aU];refine⟨a2,λk=>?_⟩;rw[b2 k,b k,ax,bX];lia
theorem Lg{p:Nat}(hp:0<p){l:List Nat}(hl:∀x∈l,x<p)(hn:l.Nodup):(Fp p l).drop 1=(af (p-1)).map λk=>cW p l (k+1):=by
 obtain⟨a,b⟩:=zB hp l l (aJ p 0) bn;have hlen:(Fp p l).length=p:=a;refine Fk (by rw[fC,hlen,ae,aB]) λk hk=>?_;rw[fC,hlen]at hk;rw[map_getD hk];have e1:((Fp p l).drop 1).getD k 0=(Fp p l).getD (k+1) 0:=by
  rw[aD,aD,gN,qN 1 k]
 rw[e1,show Fp p l=l.foldl (Sg p l) (aJ p 0)from rfl,b (k+1),aD,dN,if_pos (by lia)];show 0+_=_;rw[bJ];unfold cW;rw[Fm];refine congrArg List.sum (bT λs hs=>?_);have hs':=hl s hs;rw[<-Dd hn];refine congrArg sC (d6 λo ho=>?_);have ho':=hl o ho;have hk1:(k+1)%p=k+1:=aj (by lia);rw[hk1];have ea:(s+p-o)%p=if o<=s then s-o else s+p-o:=by
  split
  . rw[show s+p-o=(s-o)+p by lia,cc,aj (by lia)]
  . exact aj (by lia)
 have eb:(s+p-(k+1))%p=if k+1<=s then s-(k+1)else s+p-(k+1):=by
  split
  . rw[show s+p-(k+1)=(s-(k+1))+p by lia,cc,aj (by lia)]
  . exact aj (by lia)
 rw[ea,eb];refine decide_eq_decide.mpr ?_;split<;>split<;>lia
theorem Fq{p:Nat}(hp:p∈PL){l:List Nat}(hl:∀x∈l,x<p)(hn:l.Nodup)(hs:List PV):FN 20 [.il (zl l),.int p] hs=some (.il (zl ((af (p-1)).map λk=>cW p l (k+1)))):=by
 fail"h";have hd:=Lg (show 0<p by lia) hl hn;obtain⟨hlen,_⟩:=zB (show 0<p by lia) l l (aJ p 0) bn;simp![rY,f8];refine ia l (λ(b:List Nat) S=>b.length=p/\∃own v3 v4,own.contains 2=true/\S=⟨[some (.il (zl l)),some (.int p),some (.il (zl b)),v3,v4],own,hs,false⟩) (Sg p l) (aJ p 0) ?_ rfl ?_ ?_ ?_
 . simp![]
 . exact⟨bn,_,none,none,rfl,rfl⟩
 . rintro b S one hone ⟨hbl,own,v3,v4,ho,rfl⟩;simp![];obtain⟨S',e,hbl',own',v4',ho',rfl⟩:=JI (G:=⟨iJ ie my NN BP 20,ie,λ_ _ _=>none,my⟩) (n:=NN) (i:=4) (it:=.v 0) (body:=.seq (.augIdx .add 2 (.b .mod (.b .sub (.v 3) (.v 4)) (.v 1)) (.n ((1:Nat):Int))) .nil) (S:=⟨[some (.il (zl l)),some (.int p),some (.il (zl b)),some (.int one),v4],bC (λk=>!k==3) own,hs,false⟩)
    l (λ(b:List Nat) S=>b.length=p/\∃own v4,own.contains 2=true/\S=⟨[some (.il (zl l)),some (.int p),some (.il (zl b)),some (.int one),v4],own,hs,false⟩) (λc other=>bump c ((one+p-other)%p)) b (by simp![]) rfl ⟨hbl,_,v4,by
     show(bC _ _).contains 2=true;rw[G0 (by decide),du (by decide)];exact ho,rfl⟩ (by
     rintro c S other hother ⟨hcl,own,v4,ho,rfl⟩;have hlt:(one+p-other)%p<c.length:=by rw[hcl];exact aN _ (by lia)
     have hop:=hl other hother;have ho2:(bC (λk=>!k==4) own).contains 2=true:=by rw[du (by decide)];exact ho
     exact⟨_,by simp![yZ,pd,sW,Lf (y:=one) (show 0<p by lia) (show other<=p by lia),cu (getD_at hlt),l7,ho,pf hlt];rfl,by rw[uT];exact hcl,_,_,ho2,rfl⟩)
   rw[e];exact⟨_,by simp![];rfl,hbl',_,_,_,ho',rfl⟩
 . rintro S ⟨hbl,own,v3,v4,ho,rfl⟩;have hcut:=Cz (Fp p l) 1 (by rw[show(Fp p l).length=p from hbl];lia);rw[show l.foldl (Sg p l) (aJ p 0)=Fp p l from rfl];simp![Hg,hcut,hd]
theorem Sh(f:Nat->Nat)(n:Nat):decide (((af n).map λk=>f (k+2)).foldl min (f 1)=((af (n+1)).map λk=>f (k+1)).foldl max 0)=(af (n+1)).all λk=>f (k+1)==f 1:=by
 obtain⟨a1,a2⟩:=JN ((af n).map λk=>f (k+2)) (f 1);obtain⟨b1,b2⟩:=OG ((af (n+1)).map λk=>f (k+1)) 0;have hm:∀k<n+1,f (k+1)<=((af (n+1)).map λk=>f (k+1)).foldl max 0:=λk hk=>b2 _ (aH.mpr ⟨k,au.mpr hk,rfl⟩);have hn:∀k<n+1,((af n).map λk=>f (k+2)).foldl min (f 1)<=f (k+1):=λk hk=>by
  cases k with
  | zero=>exact a1
  | succ k=>exact a2 _ (aH.mpr ⟨k,au.mpr (by lia),rfl⟩)
 cases he:(af (n+1)).all λk=>f (k+1)==f 1 with
 | true=>
  have k:∀k<n+1,f (k+1)=f 1:=λk hk=>by
   have:=bw.mp he k (au.mpr hk);exact beq_iff_eq.mp this
  refine decide_eq_true ?_;have h1:f 1<=((af n).map λk=>f (k+2)).foldl min (f 1):=OI _ _ (aO _) λa ha=>by
   obtain⟨j,hj,rfl⟩:=aH.mp ha;exact mz (k (j+1) (by have:=au.mp hj;lia)).symm
  have h2:((af (n+1)).map λk=>f (k+1)).foldl max 0<=f 1:=OH _ _ (dj _) λa ha=>by
   obtain⟨j,hj,rfl⟩:=aH.mp ha;have:=k j (au.mp hj);lia
  have h3:=hm 0 (by lia);have h4:=hn 0 (by lia);simp only[bJ]at h3 h4;lia
 | false=>
  refine decide_eq_false λe=>?_;have:((af (n+1)).all λk=>f (k+1)==f 1)=true:=bw.mpr λk hk=>by
   have hk':=au.mp hk;have h1:=hm k hk';have h2:=hn k hk';have h3:=hm 0 (by lia);have h4:=hn 0 (by lia);simp only[bJ]at h3 h4;exact beq_iff_eq.mpr (by lia)
  rw[this]at he;cases he
theorem zC{p:Nat}(hp:p∈PL){l:List Nat}(hl:∀x∈l,x<p)(hn:l.Nodup)(hs:List PV):FN 42 [.il (zl l),.int p] hs=some (.bl (kT p l)):=by
 fail"h";have e:=Fq hp hl hn hs;obtain⟨n,hn'⟩:∃n,p-1=n+1:=⟨p-2,by lia⟩;have ee:=Sh (cW p l) n;have e0:(af (n+1)).map (λk=>cW p l (k+1))=cW p l 1::(af n).map λk=>cW p l (k+2):=by
  rw[bM,ax,cG];rfl
 rw[hn']at e;have hmax:=zc (l:=(af (n+1)).map λk=>cW p l (k+1)) (by rw[e0];exact List.cons_ne_nil _ _);have hmin:mx .min (.il (zl ((af (n+1)).map λk=>cW p l (k+1))))=some (.int (((af n).map λk=>cW p l (k+2)).foldl min (cW p l 1):Nat)):=by
  rw[e0];exact CP
 simp![Kt,qY,e,hmax,hmin,ee];unfold kT;rw[hn']
theorem m8(h:House)(i:Nat):(bG (aq h) i).Nodup:=by
 unfold bG Am;refine uZ.filter _ ?_;exact ic.mpr (PQ.imp λh e=>h (by lia))
theorem Lh{h:House}(g:Good h)(i d:Nat):b7 105 [.int i,.int d] h (ag h (.split (.differs i d))):=by
 intro o;fail"a";have e1:=mf i h o;have e2:=i5 g i o;have e3:=Fq g.p (l:=bG (aq h) i) (λx hx=>(jb.mp hx).2.1) (m8 h i) (aw h o);rw[bz]at e1 e2 e3;by_cases hi:i<h.e
 . by_cases h0:d%h.p=0
   . simp![vp,ja,aw,e1,hi,h0];simp?[r8 hi,R5 h0]
   . have hd:=aN d (show h.p>0 by lia);have e4:((af (h.p-1)).map λk=>cW h.p (bG (aq h) i) (k+1))[d%h.p-1]?=some (cW h.p (bG (aq h) i) d):=by
      rw[ak,aS (by lia)];show some (cW _ _ (d%h.p-1+1))=_;rw[show d%h.p-1+1=d%h.p by lia];unfold cW;rw[dm]
     simp![vp,ja,aw,e1,e2,e3,hi,h0,cu e4];simp?[r8 hi,R0 h0]
 . simp![vp,ja,aw,e1,hi];simp?[zA hi]
theorem Xa{h:House}(g:Good h)(i:Nat):b7 106 [.int i] h (ag h (.split (.even i))):=by
 intro o;have e1:=mf i h o;have e2:=i5 g i o;have e3:=zC g.p (l:=bG (aq h) i) (λx hx=>(jb.mp hx).2.1) (m8 h i) (aw h o);rw[bz]at e1 e2 e3;by_cases hi:i<h.e
 . cases hv:kT h.p (bG (aq h) i)with
   | true=>
    rw[hv]at e3;have hv':kT h.p (bG ⟨h.p,h.e,h.g⟩ i)=true:=hv;simp![GD,nM,aw,e1,e2,e3,hi];simp?[r8 hi,hv']
   | false=>
    rw[hv]at e3;have hv':kT h.p (bG ⟨h.p,h.e,h.g⟩ i)=false:=hv;simp![GD,nM,aw,e1,e2,e3,hi];simp?[r8 hi,hv']
 . simp![GD,nM,aw,e1,hi];simp?[zA hi]
theorem Ia{h:House}(g:Good h)(i:Nat):b7 107 [.int i] h (ag h (.split (.evenZero i))):=by
 intro o;fail"a";have e1:=mf i h o;have e2:=i5 g i o;have hl:=ww g i;have e3:=zC g.p (l:=0::bG (aq h) i) (λx hx=>by
  rcases aE.mp hx with rfl | k
  . lia
  . exact(jb.mp k).2.1) (dA.mpr ⟨λk=>by have:=(jb.mp k).1;lia,m8 h i⟩) (aw h o)
 rw[bz]at e1 e2 e3;by_cases hi:i<h.e
 . cases hv:kT h.p (0::bG (aq h) i)with
   | true=>
    rw[hv]at e3;have hv':kT h.p (0::bG ⟨h.p,h.e,h.g⟩ i)=true:=hv;simp![sO,ik,aw,e1,e2,lw (bG (aq h) i) 0 (show _+1<=16000000 by lia),e3,hi];simp?[r8 hi,hv']
   | false=>
    rw[hv]at e3;have hv':kT h.p (0::bG ⟨h.p,h.e,h.g⟩ i)=false:=hv;simp![sO,ik,aw,e1,e2,lw (bG (aq h) i) 0 (show _+1<=16000000 by lia),e3,hi];simp?[r8 hi,hv']
 . simp![sO,ik,aw,e1,hi];simp?[zA hi]
theorem Xb:∀n<100,dq n=true->n∈PL:=by decide+kernel
theorem Xc:∀n∈PL,dq n=true:=by decide+kernel
theorem Xd{n:Nat}(h:dq n=true):n<100:=by
 unfold dq at h;simp only[aG,decide_eq_true_eq]at h;exact h.2.1
theorem xz{n:Nat}:dq n=true↔n∈PL:=⟨λh=>Xb n (Xd h) h,Xc n⟩
theorem Xe:∀n<100,97<n->iB n=false:=by decide+kernel
theorem ib(n:Nat)(hs:List PV):FN 43 [.int n] hs=some (.bl (dq n)):=by
 unfold dq;by_cases h1:5<=n
 . by_cases h2:n<=97
   . have h3:n<100:=by lia
     simp![V4,V3,io,eB,h1,h2,h3,vB (show n<200 by lia)]
   . by_cases h3:n<100
     . simp![V4,V3,io,eB,h1,h2,h3,Xe n h3 (by lia)]
     . simp![V4,V3,io,eB,h1,h2,h3]
 . simp![V3,io,eB,h1]
theorem Li(h:House)(q:Nat):zi 84 [.int q] h (if dy q=false\/q=h.p then h else{h with q:=q}) (if dy q=false\/q=h.p then [-22]else [(h.q:Int)]):=by
 intro o;by_cases h1:200<=q
 . have e:dy q=false:=by
    unfold dy;rw[decide_eq_false (by lia)];rfl
   have e2:(dy q=false\/q=h.p)=True:=by rw[e];simp
   simp![rG,hU,aw,h1,e2];try rfl
 . have e:dy q=iB q:=by
    unfold dy;rw[decide_eq_true (by lia)];rfl
   rw[e];cases h2:iB q with
   | false=>simp![rG,hU,aw,h1,vB (show q<200 by lia),h2,true_or];try rfl
   | true=>
    by_cases h3:q=h.p
    . subst h3;simp![rG,hU,aw,h1,vB (show h.p<200 by lia),h2,or_true];try rfl
    . simp![rG,hU,aw,h1,vB (show q<200 by lia),h2,h3,or_self];try rfl
theorem dU{G:gH}{n:Nat}{s r:CS}{S S':Sx}(h:exec G n s S=some (.next,S')):exec G n (.seq s r) S=exec G n r S':=by rw[yX,h];rfl
theorem JT{p:Nat}(hp:p∈PL)(x q e g:PV)(t k o:PV):FM 81 [.obj] [.int p,x,q,t,k,e,g,o]=some (.non,[.int p,x,q,t,k,.int (2:Nat),.int (eZ p:Nat),o]):=by
 simp![VZ,bk3,ym,ij,sB hp]
theorem Si(h:House)(o:List jP)(p:Nat):FM 115 [.obj,.int p] (aw h o)=if dq p=false then some (.il [-22],aw h o)else some (.il [0],aw (iw p) []):=by
 cases h1:dq p with
 | false=>simp![Jf,nO,aw,ib,h1];try rfl
 | true=>
  have hp:=xz.mp h1;simp![V5,N1,Jf,nO,aw,ib,h1,JT hp,argsOk];try rfl
theorem Sj{h:House}(g:Good h)(p:Nat):zi 116 [.int p] h (if dq p=false then h else if p=h.p then h else cb h p) (if dq p=false then [-22]else if p=h.p then [-17]else [((cb h p).terms.length:Int),((cb h p).kept.length:Int)]):=by
 intro o;fail"a";have htl:=g.tl;have hkl:=g.kl;cases h1:dq p with
 | false=>simp![BX,j0,aw,ib,h1];try rfl
 | true=>
  have hp:=xz.mp h1;have hpb:=a9 hp;by_cases h2:p=h.p
  . subst h2;simp![cv3,BX,j0,aw,ib,h1];try rfl
  . have et:(h.terms.filter λa=>!decide (a%p=0)).map (λa=>a%p)=(cb h p).terms:=by
     unfold cb;show _=(h.terms.map λa=>a%p).filter λa=>a !=0;rw[qP];rfl
    have ek:h.kept.filter (λa=>decide (a<p))=(cb h p).kept:=rfl;have go:∀q:Nat,q=(cb h p).q->((exec ⟨FN,ie,js ie my NN FN BM 116,my⟩ NN (.seq (.setF 0 0 (.v 1)) (.seq (.setF 0 1 (.b .mod (.fld 0 1) (.v 1))) (.seq (.setF 0 3 (.comp .I 2 (.fld 0 3) (.c .ne (.b .mod (.v 2) (.v 1)) (.n ((0:Nat):Int))) (.b .mod (.v 2) (.v 1)))) (.seq (.setF 0 4 (.comp .I 3 (.fld 0 4) (.c .lt (.v 3) (.v 1)) (.v 3))) (.seq (.exM 81 (.k (.v 0) .z)) (.seq (.ret (.lst .I (.k (.bi .len (.fld 0 3)) (.k (.bi .len (.fld 0 4)) .z)))) .nil)))))) ⟨[some .obj,some (.int p),none,none],[],[.int h.p,.int h.x,.int q,.il (zl h.terms),.il (zl h.kept),.int h.e,.int h.g,.pics o],true⟩).bind λo=>if o.2.rw=true then match o.1 with | .ret p=>some (p,o.2.hs) | .next=>some (.non,o.2.hs) | _=>none else none)=some (.il [((cb h p).terms.length:Int),((cb h p).kept.length:Int)],aw (cb h p) o):=by
     intro q hq;simp![];refine Cy (λa=>!decide (a%p=0)) (λa=>a%p) (by lia) (λa ha=>?_) ?_
     . by_cases ha0:a%p=0
       . simp![ha0]
       . simp![ha0]
     . rw[et];simp![];refine dc (λa=>decide (a<p)) (by lia) (λa ha=>by simp![]) ?_;rw[ek];simp![N1,JT hp,argsOk,aw,hq];rfl
    have st:∀q S',exec ⟨FN,ie,js ie my NN FN BM 116,my⟩ NN (.i (.c .eq (.fld 0 2) (.v 1)) (.seq (.setF 0 2 (.fld 0 0)) .nil) .nil) ⟨[some .obj,some (.int p),none,none],[],[.int h.p,.int h.x,.int h.q,.il (zl h.terms),.il (zl h.kept),.int h.e,.int h.g,.pics o],true⟩=some (.next,S')->S'=⟨[some .obj,some (.int p),none,none],[],[.int h.p,.int h.x,.int (q:Nat),.il (zl h.terms),.il (zl h.kept),.int h.e,.int h.g,.pics o],true⟩->q=(cb h p).q->FM 116 [.obj,.int p] (aw h o)=some (.il [((cb h p).terms.length:Int),((cb h p).kept.length:Int)],aw (cb h p) o):=λq S' e1 e2 e3=>by
     subst e2;rw[BX];have e:=go q e3;show(exec _ NN j0 ⟨[some .obj,some (.int p),none,none],[],aw h o,true⟩).bind _=_;unfold j0 aw;rw[dU (S':=⟨[some .obj,some (.int p),none,none],[],[.int h.p,.int h.x,.int h.q,.il (zl h.terms),.il (zl h.kept),.int h.e,.int h.g,.pics o],true⟩) (by simp![ib,h1]),dU (S':=⟨[some .obj,some (.int p),none,none],[],[.int h.p,.int h.x,.int h.q,.il (zl h.terms),.il (zl h.kept),.int h.e,.int h.g,.pics o],true⟩) (by simp![h2]),dU e1];exact e
    rw[if_neg (by decide),if_neg h2,if_neg (by decide),if_neg h2];by_cases h3:h.q=p
    . exact st h.p _ (by simp![h3]) rfl (by unfold cb;rw[if_pos h3])
    . exact st h.q _ (by simp![h3]) rfl (by unfold cb;rw[if_neg h3])
theorem Ib{h:House}(g:Good h):zi 91 [] h h (if h.x=0 then [-6]else [(a8 h.p h.x:Int),(eI h.p h.x:Int),(cN (aq h) h.x:Int),(cB (aq h) h.x:Int)]):=by
 intro o;fail"a";obtain⟨E1,E2,E3⟩:=g.e';by_cases h0:h.x=0
 . simp![cv1,yn,jG,aw,h0];try rfl
 . have hx:=g.x;have e:=uO g.p g.r (x:=h.x) (by rw[aj hx];exact h0) h.e (aw h o);rw[bz]at e;simp![yn,jG,aw,h0,e,fU g.p,eC g.p];try rfl
theorem Lj(l:List Bool):t8 (.bls l) (.bl true)=some (.int ((l.filter λb=>b).length:Nat)):=by
 show some (PV.int ((l.count true:Nat):Int))=_;congr 2
 induction l with
 | nil=>rfl
 | cons a r ih=>cases a<;>simp_all
theorem Xf{h:House}(g:Good h)(a:Nat):zi 89 [.int a] h h (if a%h.p=0 then [-22]else [(Z6 h a:Int)]):=by
 intro o;fail"a";by_cases h0:a%h.p=0
 . simp![MH,nH,aw,h0];try rfl
 . have e:=uO g.p g.r h0 h.e (aw h o);rw[bz]at e;rw[MH];show(exec _ NN nH ⟨[some .obj,some (.int a),none,none],[],aw h o,true⟩).bind _=_;unfold nH;rw[bz];rw[dU (S':=⟨[some .obj,some (.int a),some (.int h.p),none],[],[.int h.p,.int h.x,.int h.q,.il (zl h.terms),.il (zl h.kept),.int h.e,.int h.g,.pics o],true⟩) (by simp![]),dU (S':=⟨[some .obj,some (.int a),some (.int h.p),none],[],[.int h.p,.int h.x,.int h.q,.il (zl h.terms),.il (zl h.kept),.int h.e,.int h.g,.pics o],true⟩) (by simp![h0])];rw[dU (S':=⟨[some .obj,some (.int a),some (.int h.p),some (.bls [decide (a8 h.p a=1),decide (Iv h.p a%2=0),decide (sj h.p a%2=0),decide ((h.p-1-vU h.p a)%2=0),decide (cN (aq h) a%2=0),decide (eI h.p a<ng h.p)])],[3],[.int h.p,.int h.x,.int h.q,.il (zl h.terms),.il (zl h.kept),.int h.e,.int h.g,.pics o],true⟩) (by simp![↓bc3,e,fU g.p,ET g.p,zh g.p,A4 g.p h0,eC g.p,HF g.p];rfl)];have ec:t8 (.bls [decide (a8 h.p a=1),decide (Iv h.p a%2=0),decide (sj h.p a%2=0),decide ((h.p-1-vU h.p a)%2=0),decide (cN (aq h) a%2=0),decide (eI h.p a<ng h.p)]) (.bl true)=some (.int (Z6 h a:Nat)):=Lj _;simp![ec,h0]
theorem Sk{p:Nat}(hp:p∈PL)(n:Nat)(hs:List PV):FN 46 [.int n,.int p] hs=some (.int (cP p n)):=by
 unfold cP;by_cases h0:n%p=0
 . have e:a8 p n=0:=by unfold a8;rw[if_pos h0]
   simp![vk,lz,fU hp,e];try rfl
 . rcases N6 h0 with e | e
   . simp![vk,lz,fU hp,e];try rfl
   . simp![vk,lz,fU hp,e];try rfl
theorem Sl{a b:Nat}(h:b<18446744073709551616):Bz .mul (.int a) (.int b)=some (.int ((a*b:Nat):Int)):=by
 unfold Bz;rw[yS,bs,yS,bs];exact Cj (.inr h)
theorem OY{p:Nat}(hp:p∈PL){k:Nat}(hk:k<100)(hs:List PV):FN 5 [.int p,.int k] hs=some (.int (p^k:Nat)):=by
 fail"h";simp![Gn,oA];refine ia (af k) (λ(b:Nat) S=>∃own v3,S=⟨[some (.int p),some (.int k),some (.int b),v3],own,hs,false⟩) (λb _=>b*p) 1 ?_ rfl ?_ ?_ ?_
 . simp![]
 . exact⟨_,none,rfl⟩
 . rintro b S x hx ⟨own,v3,rfl⟩;exact⟨_,by simp![Sl];rfl,_,_,rfl⟩
 . rintro S ⟨own,v3,rfl⟩;have:∀n,(af n).foldl (λb _=>b*p) 1=p^n:=λn=>by
    induction n with
    | zero=>rfl
    | succ n ih=>rw[dk,Py,ih];rfl
   rw[this];simp![]
theorem uU(p a:Nat):cP p (a%p)=cP p a:=by unfold cP;rw[dS]
theorem De(p a:Nat): -1<=cP p a/\cP p a<=1:=by
 unfold cP;split
 . decide
 . split<;>decide
theorem Sn{p:Nat}(hp:1<p)(l:List Nat):di p l<p:=by
 unfold di;have:∀(l:List Nat) (v:Nat),v<p->l.foldl (λv a=>v*a%p) v<p:=λl=>by
  induction l with
  | nil=>intro v h;exact h
  | cons a r ih=>intro v h;exact ih _ (aN _ (by lia))
 exact this l 1 hp
theorem ZF{p:Nat}(h:1<=p):p<=p*p:=qO p h
theorem rV{s n:Int}(h: -1<=s/\s<=1)(hn:0<=n): -n<=s*n/\s*n<=n:=by
 obtain⟨a,b⟩:=h;have:s= -1\/s=0\/s=1:=by lia
 rcases this with rfl | rfl | rfl<;>lia
theorem ft0{p:Nat}{l:List Nat}{c:Nat}(h:l.length=0):cS p l c=(if c%p=0 then(1:Int)else 0).toNat:=by
 unfold cS;simp only[h,Nat.zero_div,gR,if_pos]
theorem ft1{p:Nat}{l:List Nat}{c:Nat}(h:l.length=1):cS p l c=((p:Int)^0+(p:Int)^0*cP p (1*di p l*(c%p))).toNat:=by
 unfold cS xF;simp only[h,fE,fF,u7,gB,if_true,if_false,↓reduceIte]
theorem ft3{p:Nat}{l:List Nat}{c:Nat}(h:l.length=3):cS p l c=((p:Int)^2+(p:Int)^1*cP p ((p-1)*di p l*(c%p))).toNat:=by
 unfold cS xF;simp only[h,fE,fF,u7,gB,if_true,if_false,↓reduceIte]
theorem ft2{p:Nat}{l:List Nat}{c:Nat}(h:l.length=2):cS p l c=((p:Int)^1+(if c%p=0 then(p:Int)-1 else -1)*(p:Int)^0*cP p ((p-1)*di p l)).toNat:=by
 unfold cS xF;simp only[h,fE,fF,u7,pA,gB,if_true,if_false,↓reduceIte]
theorem ft4{p:Nat}{l:List Nat}{c:Nat}(h:l.length=4):cS p l c=((p:Int)^3+(if c%p=0 then(p:Int)-1 else -1)*(p:Int)^1*cP p (1*di p l)).toNat:=by
 unfold cS xF;simp only[h,fE,fF,u7,pA,gB,if_true,if_false,↓reduceIte]
theorem Ft{p:Nat}(hp:p∈PL){l:List Nat}(hl:∀a∈l,a<p)(hll:l.length<=4)(c:Nat)(hc:c<4294967296)(hs:List PV):FN 63 [.il (zl l),.int c,.int p] hs=some (.int (cS p l c:Nat)):=by
 fail"h";have hpl:=Sn (p:=p) (by lia) l;have e4:=JH hp hl hs;have e5:∀k<100,FN 5 [.int p,.int (k:Nat)] hs=some (.int (p^k:Nat)):=λk hk=>OY hp hk hs;have e46:∀n:Nat,FN 46 [.int n,.int p] hs=some (.int (cP p n)):=λn=>Sk hp n hs;have hlen:l.length=0\/l.length=1\/l.length=2\/l.length=3\/l.length=4:=by lia
 have fin:∀v:Int,cS p l c=v.toNat->0<=v->∀x,x=v->some (PV.int x)=some (.int (cS p l c:Nat)):=λv e h0 x hx=>by
  rw[e,hx,LZ h0]
 have em:∀(m n:Nat),n<18446744073709551616->sJ .mul (.int (cP p m)) (.int (n:Nat))=some (.int (cP p m*(n:Int))):=λs n hn=>Ci (.inr (by lia));have em2:∀(m n k:Nat),k<18446744073709551616->sJ .mul (.int (cP p m*(n:Int))) (.int (k:Nat))=some (.int (cP p m*(n:Int)*(k:Int))):=λs n k hn=>Ci (.inr (by lia));have em3:∀(m n:Nat),sJ .mul (.int (cP p m*(n:Int))) (.int (-((1:Nat):Int)))=some (.int (cP p m*(n:Int)*(-((1:Nat):Int)))):=λs n=>Ci (.inr (by lia));have hp2:p^2=p*p:=by rw[fA,iC]
 have hp3:p^3=p*p*p:=by rw[fA,hp2]
 have hpp:p*p<=97*97:=iE hbb hbb;have hppp:p*p*p<=97*97*97:=iE hpp hbb;have g1:p<=p*p:=ZF (by lia);have g2:p*p<=p*p*p:=Nat.le_mul_of_pos_right _ (by lia);have hprod:di p l*(p-1)<18446744073709551616:=na (iE (show _<=97 by lia) (show p-1<=97 by lia)) (by decide);have i2:(p:Int)^2=((p*p:Nat):Int):=by rw[<-hp2,T9]
 have i3:(p:Int)^3=((p*p*p:Nat):Int):=by rw[<-hp3,T9]
 rcases hlen with h | h | h | h | h
 . by_cases h0:c%p=0
   . simp![db,cq,h,h0];rw[ft0 h,if_pos h0];rfl
   . simp![db,cq,h,h0];rw[ft0 h,if_neg h0];rfl
 . simp![db,cq,h,e4,fE,fF,e5 0 (by decide),e46,eP,em,vA];have s1:=De p (1*di p l*(c%p));refine fin _ (ft1 h) ?_ _ ?_
   . rw[mG];lia
   . rw[<-uU p (c*_),iD,<-uU p (di p l*(c%p)),jo,cz c,mG];lia
 . have s1:=De p ((p-1)*di p l);by_cases h0:c%p=0
   . simp![db,cq,h,h0,e4,fE,fF,e5 0 (by decide),e5 1 (by decide),e46,eP,iC,em,em2,vA];refine fin _ (ft2 h) ?_ _ ?_
     . rw[if_pos h0,mG,oe,gS,gO];have:=rV s1 (n:=(p:Int)-1) (by lia);lia
     . rw[if_pos h0,mG,oe,gO,cz (p-1),gS ((p:Int)-1),u6 (by lia),show((1:Nat):Int)=1 from rfl,oe]
   . simp![db,cq,h,h0,e4,fE,fF,e5 0 (by decide),e5 1 (by decide),e46,eP,iC,em,em3,vA];refine fin _ (ft2 h) ?_ _ ?_
     . rw[if_neg h0,mG,gO];lia
     . rw[if_neg h0,mG,gO,cz (p-1)];lia
 . have s1:=De p ((p-1)*di p l*(c%p));have s2:=rV s1 (n:=(p:Int)) (by lia);simp![db,cq,h,e4,fE,fF,e5 1 (by decide),e5 2 (by decide),e46,eP,iC,em,vA];refine fin _ (ft3 h) ?_ _ ?_
   . rw[gO,gS,i2];lia
   . rw[<-uU p (c*_),<-uU p ((p-1)*di p l*(c%p)),jo,cz c,cz (p-1),gO,i2,hp2,gS (p:Int)]
 . have s1:=De p (1*di p l);have s2:=rV s1 (n:=(p:Int)) (by lia);by_cases h0:c%p=0
   . simp![db,cq,h,h0,e4,fE,fF,e5 1 (by decide),e5 3 (by decide),e46,eP,iC,em,em2,vA];refine fin _ (ft4 h) ?_ _ ?_
     . rw[if_pos h0,gO,i3];have s3:=rV s1 (n:=((p:Int)-1)*p) (Int.mul_nonneg (by lia) (by lia));rw[gS _ (cP _ _)];have s4:((p:Int)-1)*p=((p*p:Nat):Int)-(p:Int):=by rw[Int.sub_mul,a0O,T7]
       rw[s4]at s3⊢;lia
     . rw[if_pos h0,gO,i3,hp3,iD,u6 (by lia),gS _ (cP _ _),gS ((p:Int)-1),X2];rfl
   . simp![db,cq,h,h0,e4,fE,fF,e5 1 (by decide),e5 3 (by decide),e46,eP,iC,em,em3,vA];refine fin _ (ft4 h) ?_ _ ?_
     . rw[if_neg h0,gO,i3,X2,gS (p:Int)];lia
     . rw[if_neg h0,gO,i3,hp3,iD,show((1:Nat):Int)=1 from rfl,Int.mul_neg,oe,a0P,a0P,a0O,gS (p:Int)]
theorem Ic{h:House}(g:Good h)(c:Nat)(hc:c<4294967296):zi 90 [.int c] h h [(cS h.p h.terms c:Int)]:=by
 intro o;have e:=Ft g.p (λa ha=>(g.t a ha).2) g.tl c hc (aw h o);rw[bz]at e;simp![GC,lq,aw,e]
abbrev gY(h:House):jP:=⟨h.p,h.x,h.q,zl h.terms,zl h.kept,h.e,h.g⟩
theorem OZ(xs:List Int):mx .tuple (.il xs)=some (.tup xs):=rfl
theorem O0(xs:List Int):mx .list (.tup xs)=some (.il xs):=rfl
theorem Xg(a b c:Int)(ts ks:List Int)(e g:Int):xY [.int a,.int b,.int c,.tup ts,.tup ks,.int e,.int g]=some (.pic ⟨a,b,c,ts,ks,e,g⟩):=rfl
theorem O1(h:House)(o:List jP):FN 22 [.obj] (aw h o)=some (.pic (gY h)):=by
 rw[bz];simp![Cu,DW,mP,OZ,Xg];rfl
theorem So(q:jP)(i:Nat):iI (.pic q) (.int i)=[PV.int q.a,.int q.b,.int q.c,.tup q.ts,.tup q.ks,.int q.e,.int q.g][i]?:=by
 show atI _ _=_;rw[rK]
theorem Ie(h h':House)(o:List jP):FM 111 [.obj,.pic (gY h')] (aw h o)=some (.non,aw h' o):=by
 rw[bz,bz];simp![bk3,Ea,kq,So,O0];rfl
theorem JU{o:List jP}(q:jP)(h:o.length<16000000):pB (.pics o) (.pic q)=some (.pics (o++[q])):=if_pos h
theorem qI(o:List jP):mx .len (.pics o)=some (.int (o.length:Nat)):=rfl
theorem Lk(q:jP)(r:List jP):Qu (.pics (q::r))=some (.pics r):=rfl
theorem Fu(h:House)(o:List jP)(ho:o.length<=12)(q:jP):FM 112 [.obj,.pic q] (aw h o)=some (.non,aw h (if o.length=12 then(o++[q]).drop 1 else o++[q])):=by
 rw[bz,bz];by_cases h12:o.length=12
 . obtain _ | ⟨a,r⟩:=o
   . cases h12
   . have hl:¬((a::r)++[q]).length<=12:=by rw[aA,h12,bc];decide
     have hl2:12<((a::r)++[q]).length:=by lia
     have hl3:(r++[q]).length+1=13:=by
      have:((a::r)++[q]).length=(r++[q]).length+1:=rfl;rw[<-this,aA,h12];rfl
     have e:=JU (o:=a::r) q (by lia);rw[if_pos h12];simp![Hx,V6,bk3,uz,hW,e,qI,hl3,Lk];rfl
 . have e:=JU (o:=o) q (by lia);have hl2:¬12<(o++[q]).length:=by rw[aA,bc];lia
   rw[if_neg h12];simp![V6,bk3,uz,hW,e,qI,hl2]
theorem O2(o:List jP)(q:jP):UM (.pics (o++[q]))=some (.pic q,.pics o):=by
 show(((o++[q])[(o++[q]).length-1]?).map λq'=>(PV.pic q',PV.pics (o++[q]).dropLast))=_;rw[aA,bc,cD,iz (aO _),Nat.sub_self,List.dropLast_concat];rfl
theorem O3(h:House):FM 119 [.obj] (aw h [])=some (.il [-6],aw h []):=by
 rw[bz];simp![cv1,MI,qg,qI]
theorem O4(h h':House)(o:List jP):FM 119 [.obj] (aw h (o++[gY h']))=some (.il [(o.length:Int)],aw h' o):=by
 have e:=Ie h h' o;rw[bz]at e;rw[bz h];have hl:¬(o++[gY h']).length=0:=by rw[aA,bc];lia
 simp![CK,MI,qg,qI,hl,O2,e];rw[bz];simp![qI]
theorem O5{a b:List Nat}(h:zl a=zl b):a=b:=by
 unfold zl at h;exact List.map_inj_right (λx y e=>Int.ofNat.inj e) |>.mp h
theorem Sr{h h':House}(e:gY h=gY h'):h=h':=by
 obtain⟨a,b,c,d,k,f,g⟩:=h;obtain⟨a',b',c',d',k',f',g'⟩:=h';simp only[gY,jP.mk.injEq,d9]at e;obtain⟨rfl,rfl,rfl,e4,e5,rfl,rfl⟩:=e;rw[O5 e4,O5 e5]
theorem Good.wx{h:House}(g:Good h){x:Nat}(hx:x<h.p):Good {h with x:=x}:=⟨g.p,hx,g.q,g.qp,g.tl,g.t,g.kl,g.k,g.kn,g.e,g.g,g.gl⟩
theorem Good.wq{h:House}(g:Good h){q:Nat}(h1:dy q=true)(h2:q≠h.p):Good {h with q:=q}:=⟨g.p,g.x,h1,h2,g.tl,g.t,g.kl,g.k,g.kn,g.e,g.g,g.gl⟩
theorem Good.wt{h:House}(g:Good h){t:List Nat}(h1:t.length<=4)(h2:∀a∈t,0<a/\a<h.p):Good {h with terms:=t}:=⟨g.p,g.x,g.q,g.qp,h1,h2,g.kl,g.k,g.kn,g.e,g.g,g.gl⟩
theorem Good.wk{h:House}(g:Good h){k:List Nat}(h1:k.length<=12)(h2:∀a∈k,a<h.p)(h3:k.Nodup):Good {h with kept:=k}:=⟨g.p,g.x,g.q,g.qp,g.tl,g.t,h1,h2,h3,g.e,g.g,g.gl⟩
theorem Good.we{h:House}(g:Good h){e:Nat}(h1:jk h.p e=true):Good {h with e:=e}:=⟨g.p,g.x,g.q,g.qp,g.tl,g.t,g.kl,g.k,g.kn,h1,g.g,g.gl⟩
theorem Good.wg{h:House}(g:Good h){r:Nat}(h1:bL h.p r=true)(h2:r<h.p):Good {h with g:=r}:=⟨g.p,g.x,g.q,g.qp,g.tl,g.t,g.kl,g.k,g.kn,g.e,h1,h2⟩
theorem ZG{h:House}(g:Good h)(a:Nat):Good (ag h (.one (.go a))).1:=by
 fail"a";dsimp![];exact g.wx (aN _ (by lia))
theorem xA{p u a:Nat}(h:a∈b9 p u):a<p:=by
 unfold b9 dF at h;have:=(aX.mp h).1;simp only[aH,au]at this;lia
theorem Fv{p d:Nat}{l:List Nat}(h:∀a∈l,a<p)(hd:d<p):l.headD d<p:=by
 cases l with
 | nil=>exact hd
 | cons a r=>exact h a aI
theorem Fw{p d:Nat}{l:List Nat}(h:∀a∈l,a<p)(hd:d<p):(l.getLast?).getD d<p:=by
 cases e:l.getLast? with
 | none=>exact hd
 | some a=>exact h a (List.mem_of_getLast? e)
theorem ZH{h:House}(g:Good h)(u:Nat):Good (ag h (.one (.on_ u))).1:=by
 fail"a";cases e:dL u with
 | false=>dsimp![e];exact g
 | true=>
  dsimp![e];exact g.wx (Fv (λa ha=>xA (aX.mp ha).1) (Fv (λa ha=>xA ha) (by lia)))
theorem Ll{h:House}(g:Good h)(u:Nat):Good (ag h (.one (.back u))).1:=by
 fail"a";cases e:dL u with
 | false=>dsimp![e];exact g
 | true=>
  dsimp![e];exact g.wx (Fw (λa ha=>xA (aX.mp ha).1) (Fw (λa ha=>xA ha) (by lia)))
theorem Lm{h:House}(g:Good h):Good (ag h (.again .square)).1:=by
 fail"a";dsimp![];exact g.wx (aN _ (by lia))
theorem Ln{h:House}(g:Good h):Good (ag h (.again .back)).1:=by
 cases e:LF h.p h.x with
 | none=>dsimp![e];exact g
 | some r=>
  dsimp![e];have:=nh e;unfold cX at this;simp only[aH,au]at this;exact g.wx (by lia)
theorem Ss{h:House}(g:Good h):Good (ag h (.between .next)).1:=by
 cases e:n6 h.p h.q with
 | none=>dsimp![e];exact g
 | some r=>
  dsimp![e];have:=(aX.mp (PB e)).2;rw[aG,aG,bne_iff_ne]at this;exact g.wq this.2.2 this.2.1
theorem JV{h:House}(g:Good h)(a:Nat):Good (ag h (.answers (.term a))).1:=by
 fail"a";have hl:=g.tl;by_cases h1:a%h.p=0
 . dsimp![h1];exact g
 . by_cases h2:k8<=h.terms.length
   . dsimp![h1,h2];exact g
   . dsimp![h1,h2];have h3:¬4<=h.terms.length:=h2;exact g.wt (by rw[aA,bc];lia) λb hb'=>by
      rcases bV.mp hb' with k | k
      . exact g.t b k
      . rw[aZ.mp k];exact⟨by lia,aN _ (by lia)⟩
theorem Xh{h:House}(g:Good h)(i:Nat):Good (ag h (.answers (.out i))).1:=by
 have hl:=g.tl;cases h1:mF ⟨h.p,h.terms⟩ i with
 | false=>dsimp![h1];exact g
 | true=>
  dsimp![h1];exact g.wt (by rw[aA,kW,fC];lia) λb hb=>by
   rcases bV.mp hb with k | k
   . exact g.t b (lg k)
   . exact g.t b (J2 k)
theorem zD{l:List Nat}{i v b:Nat}(h:b∈l.set i v):b=v\/b∈l:=by
 rcases List.mem_or_eq_of_mem_set h with k | k
 . exact .inr k
 . exact .inl k
theorem O6{h:House}(g:Good h)(i k:Nat):Good (ag h (.answers (.times i k))).1:=by
 fail"a";cases h1:mF ⟨h.p,h.terms⟩ i with
 | false=>dsimp![h1];exact g
 | true=>
  have hi:i<h.terms.length:=oD h1;by_cases h2:k%h.p=0
  . dsimp![h1,h2];exact g
  . dsimp![h1,h2];obtain⟨t1,t2⟩:=A5 g hi;have e1:k*k%h.p%h.p≠0:=by rw[dm];exact Db g.p g.r h2 h2
    have e2:=Db g.p g.r (x:=aR h.terms i) (by rw[aj t2];lia) e1;exact g.wt (by rw[bP];exact g.tl) λb hb'=>by
     rcases zD hb' with rfl | k
     . exact⟨by lia,aN _ (by lia)⟩
     . exact g.t b k
theorem Su{h:House}(g:Good h)(i j:Nat):Good (ag h (.answers (.pair i j))).1:=by
 fail"a";cases h1:mF ⟨h.p,h.terms⟩ i with
 | false=>dsimp![h1];exact g
 | true=>
  cases h2:mF ⟨h.p,h.terms⟩ j with
  | false=>dsimp![h1,h2];exact g
  | true=>
   have hi:i<h.terms.length:=oD h1;have hj:j<h.terms.length:=oD h2;by_cases h3:i=j
   . dsimp![h1,h2,h3];exact g
   . dsimp![h1,h2,h3];obtain⟨t1,t2⟩:=A5 g hi;obtain⟨s1,s2⟩:=A5 g hj;have e2:=Db g.p g.r (x:=aR h.terms i) (y:=aR h.terms j) (by rw[aj t2];lia) (by rw[aj s2];lia);unfold FL;exact g.wt (by rw[bP,bP];exact g.tl) λb hb'=>by
      rcases zD hb' with rfl | k
      . exact⟨by lia,aN _ (by lia)⟩
      . rcases zD k with rfl | k
        . lia
        . exact g.t b k
theorem O7{h:House}(g:Good h)(x:Nat):Good (ag h (.points (.put x))).1:=by
 have hl:=g.kl;by_cases h1:h.p<=x
 . dsimp![h1];exact g
 . cases h2:h.kept.contains x with
   | true=>dsimp![h1,h2];exact g
   | false=>
    by_cases h3:iu<=h.kept.length
    . dsimp![h1,h2,h3];exact g
    . dsimp![h1,h2,h3];have h4:¬12<=h.kept.length:=h3;have hn:x∉h.kept:=λk=>by rw[aY.mpr k]at h2;cases h2
      exact g.wk (by rw[aA,bc];lia) (λb hb=>by
       rcases bV.mp hb with k | k
       . exact g.k b k
       . rw[aZ.mp k];lia) (jR.mpr ⟨g.kn,by simp,λa ha b hb e=>hn (by rw[<-aZ.mp hb,<-e];exact ha)⟩)
theorem Sv{h:House}(g:Good h)(x:Nat):Good (ag h (.points (.take x))).1:=by
 cases h2:h.kept.contains x with
 | false=>dsimp![h2];exact g
 | true=>
  dsimp![h2];exact g.wk (bb (br _ _) g.kl) (λb hb=>g.k b (aX.mp hb).1) (g.kn.filter _)
theorem Bd{l:List Nat}{f:Nat->Nat}(hn:l.Nodup)(hf:∀a∈l,∀b∈l,f a=f b->a=b):(l.map f).Nodup:=
 ic.mpr (uZ.imp_of_mem (λ{a b} ha hb hne e=>hne (hf a ha b hb e)) hn)
theorem Sw{h:House}(g:Good h)(t:Nat):Good (ag h (.points (.move t))).1:=by
 fail"a";have ht:=aN t (show h.p>0 by lia);refine g.wk (by show(h.kept.map _).length<=12;rw[ae];exact g.kl) (λb hb'=>?_) (Bd g.kn λa ha b hb' e=>?_)
 . obtain⟨x,_,rfl⟩:=aH.mp hb';exact aN _ (by show 0<h.p;lia)
 . have h1:=g.k a ha;have h2:=g.k b hb';have e':(a+t%h.p)%h.p=(b+t%h.p)%h.p:=e;have m:∀y,y<h.p->(y+t%h.p)%h.p=if y+t%h.p<h.p then y+t%h.p else y+t%h.p-h.p:=λy hy=>by
    split
    . rename_i k;exact aj k
    . rename_i k;rw[m9 (by lia),aj (by lia)]
   rw[m a h1,m b h2]at e';split at e'<;>split at e'<;>lia
theorem Sy{p k a b:Nat}(hp:p∈PL)(hk:k%p≠0)(ha:a<p)(hb:b<p)(e:a*k%p=b*k%p):a=b:=by
 have hpb:=a9 hp;have hf:=zb hp hk;have m:∀y,y<p->y*k*k^(p-2)%p=y:=λy hy=>by
  rw[fD,<-Nat.pow_succ',show(p-2).succ=p-1 by lia,cj,hf,ly,dm,aj hy]
 rw[<-m a ha,<-m b hb,cj,e,<-cj]
theorem Fx{h:House}(g:Good h)(k:Nat):Good (ag h (.points (.times k))).1:=by
 fail"a";by_cases h1:k%h.p=0
 . dsimp![h1];exact g
 . dsimp![h1];unfold sk;refine g.wk (by rw[ae];exact g.kl) (λb hb'=>?_) (Bd g.kn λa ha b hb' e=>?_)
   . obtain⟨x,_,rfl⟩:=aH.mp hb';exact aN _ (by lia)
   . exact Sy g.p (by rw[dm];exact h1) (g.k a ha) (g.k b hb') e
theorem Sz{h:House}(g:Good h):Good (ag h (.points .grow)).1:=by
 by_cases h3:iu<=h.kept.length
 . dsimp![h3];exact g
 . have h4:¬12<=h.kept.length:=h3;cases e:(kQ h.p h.kept).head? with
   | none=>dsimp![h3,e];exact g
   | some z=>
    dsimp![h3,e];have hz:=PB e;unfold kQ cA at hz;obtain⟨k1,k2⟩:=aX.mp hz;rw[aG,nZ]at k2;have hn:z∉h.kept:=λk=>by rw[aY.mpr k]at k2;exact absurd k2.1 (by decide)
    exact g.wk (by rw[aA,bc];lia) (λb hb=>by
     rcases bV.mp hb with k | k
     . exact g.k b k
     . rw[aZ.mp k];exact au.mp k1) (jR.mpr ⟨g.kn,by simp,λa ha b hb e=>hn (by rw[<-aZ.mp hb,<-e];exact ha)⟩)
theorem O8{h:House}(g:Good h)(e:Nat):Good (ag h (.split (.split e))).1:=by
 cases h1:jk h.p e with
 | false=>dsimp![h1];exact g
 | true=>dsimp![h1];exact g.we h1
theorem Ig(p a:Nat):bL p (a%p)=bL p a:=by
 unfold bL bD;rw[dm];have:∀n v,sn p (a%p) n v=sn p a n v:=λn=>by
  induction n with
  | zero=>intro v;rfl
  | succ n ih=>intro v;unfold sn;rw[jo,ih]
 rw[this]
theorem O9{h:House}(g:Good h)(a:Nat):Good (ag h (.split (.other a))).1:=by
 fail"a";cases h1:bL h.p a with
 | false=>dsimp![h1];exact g
 | true=>dsimp![h1];exact g.wg (by rw[Ig];exact h1) (aN _ (by lia))
theorem zE:∀p∈PL,dy p=true/\jk p 2=true/\p≠3:=by decide+kernel
theorem zF{p:Nat}(hp:p∈PL):bL p (eZ p)=true/\eZ p<p:=by
 obtain⟨k1,k2,k3⟩:=gc.mp (zz p hp);exact⟨k1,au.mp k2⟩
theorem Pa{p:Nat}(hp:p∈PL):Good (iw p):=by
 fail"h";obtain⟨a,b,c⟩:=zE p hp;obtain⟨d,e⟩:=zF hp;exact⟨hp,by show 1<p;lia,by show dy 3=true;decide,λe=>c e.symm,by simp [iw],λ_ h=>absurd h (by simp [iw]),by simp [iw],λ_ h=>absurd h (by simp [iw]),by simp [iw],b,d,e⟩
theorem Pb{h:House}(g:Good h){p:Nat}(hp:p∈PL)(hne:p≠h.p):Good (cb h p):=by
 fail"h";obtain⟨a,b,c⟩:=zE p hp;obtain⟨a',_,_⟩:=zE h.p g.p;obtain⟨d,e⟩:=zF hp;refine⟨hp,aN _ (by show 0<p;lia),?_,?_,?_,?_,?_,?_,?_,b,d,e⟩
 . show dy (if h.q=p then h.p else h.q)=true;split
   . exact a'
   . exact g.q
 . show(if h.q=p then h.p else h.q)≠p;split
   . exact λe=>hne e.symm
   . rename_i k;exact k
 . exact bb (br _ _) (by rw[ae];exact g.tl)
 . intro x hx;obtain⟨k1,k2⟩:=aX.mp hx;obtain⟨y,_,rfl⟩:=aH.mp k1;have:y%p≠0:=by simpa using k2
   exact⟨by lia,aN _ (by show 0<p;lia)⟩
 . exact bb (br _ _) g.kl
 . intro x hx;exact oD (aX.mp hx).2
 . exact g.kn.filter _
abbrev nX(m:Nat)(args:List PV)(c:u4):Prop:=∀d:mJ,Good d.now->∃h' a,fZ (some d) c=(some (sE d h'),a)/\Good h'/\∀o:List jP,o.length=d.old.length->FM m (.obj::args) (aw d.now o)=some (.il (a.num::a.nums),aw h' o)
structure Xi (k:Nat) (xs:List Nat) (m:Nat) (c:u4):Prop where
 w:nb [(k:Int)::zl xs]=[(k:Int)::zl xs]
 co:a0Q [(k:Int)::zl xs]=some c
 n:fZ none c=(none,dM (-11))
 a:nX m (xs.map λ(x:Nat)=>PV.int x) c
theorem mh(d:mJ):sE d d.now=d:=if_pos rfl
theorem aQ {m:Nat} {args:List PV} {c:u4} (hd:∀h,Good h->b7 m args h (ag h c)) (hs:∀d:mJ,fZ (some d) c=if xG c=true then(some d,dM (-22))else if pW d.now c=true then(some d,dM (-6))else(some (sE d (ag d.now c).1),(ag d.now c).2):=by exact λ_=>rfl)
 (h1:xG c=false:=by rfl) (h2:∀h:House,pW h c=false:=by exact λ_=>d5 _) (hg:∀h,Good h->Good (ag h c).1:=by exact λ_ g=>g):nX m args c:=λd g=>by
 refine⟨_,_,by rw[hs d,h1,h2];rfl,hg _ g,λo _=>hd _ g o⟩
theorem Pc {m:Nat} {c:u4} (hs:∀d:mJ,fZ (some d) c=if xG c=true then(some d,dM (-22))else if pW d.now c=true then(some d,dM (-6))else(some (sE d (ag d.now c).1),(ag d.now c).2))
 (h1:xG c=false) (h2:∀h:House,pW h c=(h.x==0)) (hd:∀h,Good h->b7 m [] h (XI h (ag h c))) (hg:∀h,Good h->Good (ag h c).1):nX m [] c:=λd g=>by
 have k:=hd _ g;unfold XI at k;by_cases h0:d.now.x=0
 . rw[if_pos h0]at k;refine⟨d.now,dM (-6),?_,g,λo _=>k o⟩;rw[hs d,h1,h2,h0,mh];rfl
 . rw[if_neg h0]at k;refine⟨_,_,?_,hg _ g,λo _=>k o⟩;rw[hs d,h1,h2,beq_eq_false_iff_ne.mpr h0];rfl
theorem Lo:nX 0 [] (.again .square):=Pc (λ_=>rfl) rfl (λh=>gb _) (λh g=>Oc g) (λh g=>Lm g)
theorem Aa:nX 1 [] (.again .back):=Pc (λ_=>rfl) rfl (λh=>gb _) (λh g=>CO g) (λh g=>Ln g)
theorem mY{m:Nat}{args:List PV}{c:u4}(a:mJ->wX)(hs:∀d,fZ (some d) c=(some d,a d))(hd:∀d:mJ,Good d.now->∀o:List jP,o.length=d.old.length->FM m (.obj::args) (aw d.now o)=some (.il ((a d).num::(a d).nums),aw d.now o)):nX m args c:=λd g=>
 ⟨d.now,a d,by rw[hs d,mh],g,hd d g⟩
theorem SC:nX 82 [] .past:=mY _ (λ_=>rfl) λd g o ho=>by rw[WJ,ho];rfl
theorem SD:nX 83 [] .sums:=mY _ (λ_=>rfl) λd g o ho=>WK d.now o
theorem SE:nX 87 [] .from_:=mY _ (λ_=>rfl) λd g o ho=>WL g o
theorem Df:nX 92 [] .keptKinds:=mY _ (λ_=>rfl) λd g o ho=>EW g o
theorem Fy(a:Nat)(ha:a<4294967296):nX 90 [.int a] (.foretold a):=mY _ (λ_=>rfl) λd g o ho=>Ic g a ha o
theorem Pd:nX 88 [] .value:=mY _ (λ_=>rfl) λd g o ho=>by
 rw[Ry g o];by_cases h:d.now.kept.length<d.now.terms.length
 . simp only[if_pos h];rfl
 . simp only[if_neg h];rfl
theorem SF(a:Nat):nX 89 [.int a] (.ways a):=mY _ (λ_=>rfl) λd g o ho=>by
 rw[Xf g a o];by_cases h:a%d.now.p=0
 . simp only[if_pos h];rfl
 . simp only[if_neg h];rfl
theorem FB:nX 91 [] .standing:=mY _ (λ_=>rfl) λd g o ho=>by
 rw[Ib g o];by_cases h:d.now.x=0
 . simp only[if_pos h];rfl
 . simp only[if_neg h]
theorem Pe:nX 117 [] .bring:=λd g=>⟨_,_,rfl,O7 g _,λo _=>Rt g o⟩
theorem FC:nX 118 [] .termHere:=λd g=>⟨_,_,rfl,JV g _,λo _=>HM g o⟩
theorem Pf(p:Nat):nX 116 [.int p] (.prime p):=λd g=>by
 have e:=Sj g p;cases h1:dq p with
 | false=>
  refine⟨d.now,dM (-22),?_,g,λo _=>?_⟩
  . rw[mh];show(if dq p=false then _ else _)=_;rw[if_pos h1]
  . have:=e o;rw[h1]at this;exact this
 | true=>
  have hf:¬dq p=false:=by rw[h1];decide
  by_cases h2:p=d.now.p
  . refine⟨d.now,dM (-17),?_,g,λo _=>?_⟩
    . rw[mh];show(if dq p=false then _ else if p=d.now.p then _ else _)=_;rw[if_neg (by rw[h1];decide),if_pos h2]
    . have:=e o;rw[if_neg hf,if_neg hf,if_pos h2,if_pos h2]at this;exact this
  . refine⟨cb d.now p,⟨((cb d.now p).terms.length:Int),[((cb d.now p).kept.length:Int)]⟩,?_,Pb g (xz.mp h1) h2,λo _=>?_⟩
    . show(if dq p=false then _ else if p=d.now.p then _ else _)=_;rw[if_neg (by rw[h1];decide),if_neg h2]
    . have:=e o;rw[if_neg hf,if_neg hf,if_neg h2,if_neg h2]at this;exact this
theorem Ih(q:Nat):nX 84 [.int q] (.besides q):=λd g=>by
 have e:=Li d.now q;by_cases h1:dy q=false\/q=d.now.p
 . refine⟨d.now,dM (-22),?_,g,λo _=>?_⟩
   . rw[mh];show(if dy q=false\/q=d.now.p then _ else _)=_;rw[if_pos h1]
   . have:=e o;rw[if_pos h1,if_pos h1]at this;exact this
 . refine⟨{d.now with q:=q},dM (d.now.q:Nat),?_,?_,λo _=>?_⟩
   . show(if dy q=false\/q=d.now.p then _ else _)=_;rw[if_neg h1]
   . refine g.wq ?_ λk=>h1 (.inr k);cases h2:dy q with
     | true=>rfl
     | false=>exact absurd (.inl h2) h1
   . have:=e o;rw[if_neg h1,if_neg h1]at this;exact this
theorem Lp(k:Nat):nX 85 [.int k] (.stayAt k):=λd g=>by
 have e:=Ox d.now k;cases h1:d.now.kept[k]? with
 | none=>
  refine⟨d.now,dM (-2),?_,g,λo _=>?_⟩
  . rw[mh];show(match d.now.kept[k]? with | some x=>_ | none=>_)=_;rw[h1]
  . have:=e o;rw[h1]at this;exact this
 | some x=>
  refine⟨{d.now with x:=x},dM (x:Nat),?_,g.wx (g.k x (aL h1)),λo _=>?_⟩
  . show(match d.now.kept[k]? with | some x=>_ | none=>_)=_;rw[h1]
  . have:=e o;rw[h1]at this;exact this
theorem Lq:nX 86 [] .wander:=λd g=>by
 have e:=Oy g;fail"a";cases h1:gG d.now with
 | none=>
  refine⟨d.now,dM (-33),?_,g,λo _=>?_⟩
  . rw[mh];show(match gG d.now with | some x=>_ | none=>_)=_;rw[h1]
  . have:=e o;rw[h1]at this;exact this
 | some x=>
  have hx:x<d.now.p:=by
   have:=nh h1;obtain⟨i,_,rfl⟩:=aH.mp this;exact aN _ (by lia)
  refine⟨{d.now with x:=x},dM (x:Nat),?_,g.wx hx,λo _=>?_⟩
  . show(match gG d.now with | some x=>_ | none=>_)=_;rw[h1]
  . have:=e o;rw[h1]at this;exact this
abbrev qJ:List (Nat×Nat):=[(1,115),(1,116),(0,119),(0,82),(0,83),(1,84),(1,85),(0,117),(0,118),(0,86),(0,87),(0,88),(1,89),(1,90),(0,91),(0,92),(1,65),(1,66),(1,67),(0,68),(1,69),(2,70),(2,71),(1,72),(1,73),(1,74),(2,75),(3,76),(1,77),(1,78),(0,79),(1,80),(0,0),(0,1),(2,2),(1,3),(1,4),(1,5),(1,6),(2,7),(2,8),(2,9),(1,10),(1,11),(0,12),(0,13),(0,30),(2,31),(1,32),(1,33),(1,34),(1,35),(0,36),(0,37),(2,38),(2,39),(2,40),(1,41),(1,42),(1,43),(2,44),(1,45),(1,46),(0,47),(1,113),(1,15),(2,16),(2,17),(1,18),(1,19),(1,20),(0,21),(0,22),(0,23),(1,24),(0,25),(0,26),(4,27),(0,28),(2,29),(1,114),(1,49),(0,50),(1,51),(1,52),(0,53),(2,54),(1,55),(2,56),(2,57),(1,58),(1,59),(0,60),(0,61),(0,62),(0,63),(2,64),(1,93),(1,94),(0,95),(0,96),(1,97),(1,98),(1,99),(1,100),(1,101),(2,102),(1,103),(0,104),(2,105),(1,106),(1,107),(1,108),(2,109),(1,110)]
abbrev Qk(k:Nat):Prop:=k≠0->k≠2->∀xs:List Nat,xs.length=(qJ.getD k (0,0)).1->(∀x∈xs,x<4294967296)->∃c,Xi k xs (qJ.getD k (0,0)).2 c
theorem d7{n:Nat}(h:∀k<n,Qk k)(q:Qk n):∀k<n+1,Qk k:=λk hk=>by
 rcases iO k n with e | e
 . exact h k e
 . rw[show k=n by lia];exact q
theorem d0{P:List Nat->Prop}(h:(∀x∈([]:List Nat),x<4294967296)->P []):∀xs:List Nat,xs.length=0->(∀x∈xs,x<4294967296)->P xs
 | [],_,k=>h k
theorem d1{P:List Nat->Prop}(h:∀a,(∀x∈[a],x<4294967296)->P [a]):∀xs:List Nat,xs.length=1->(∀x∈xs,x<4294967296)->P xs
 | [a],_,k=>h a k
theorem d2{P:List Nat->Prop}(h:∀a b,(∀x∈[a,b],x<4294967296)->P [a,b]):∀xs:List Nat,xs.length=2->(∀x∈xs,x<4294967296)->P xs
 | [a,b],_,k=>h a b k
theorem d3{P:List Nat->Prop}(h:∀a b c,(∀x∈[a,b,c],x<4294967296)->P [a,b,c]):∀xs:List Nat,xs.length=3->(∀x∈xs,x<4294967296)->P xs
 | [a,b,c],_,k=>h a b c k
theorem d4{P:List Nat->Prop}(h:∀a b c d,(∀x∈[a,b,c,d],x<4294967296)->P [a,b,c,d]):∀xs:List Nat,xs.length=4->(∀x∈xs,x<4294967296)->P xs
 | [a,b,c,d],_,k=>h a b c d k
theorem q_0:∀k<0,Qk k:=λ_ h=>absurd h (cV _)
theorem q_5:∀k<5,Qk k:=d7 (d7 (d7 (d7 (d7 (q_0) (λh _=>absurd rfl h)) (λ_ _=>d1 λa _=>⟨(.prime a),rfl,rfl,rfl,Pf a⟩)) (λ_ h=>absurd rfl h)) (λ_ _=>d0 λ_=>⟨.past,rfl,rfl,rfl,SC⟩)) (λ_ _=>d0 λ_=>⟨.sums,rfl,rfl,rfl,SD⟩)
theorem a2e:∀k<10,Qk k:=d7 (d7 (d7 (d7 (d7 (q_5) (λ_ _=>d1 λa _=>⟨(.besides a),rfl,rfl,rfl,Ih a⟩)) (λ_ _=>d1 λa _=>⟨(.stayAt a),rfl,rfl,rfl,Lp a⟩)) (λ_ _=>d0 λ_=>⟨.bring,rfl,rfl,rfl,Pe⟩)) (λ_ _=>d0 λ_=>⟨.termHere,rfl,rfl,rfl,FC⟩)) (λ_ _=>d0 λ_=>⟨.wander,rfl,rfl,rfl,Lq⟩)
theorem a2f:∀k<15,Qk k:=d7 (d7 (d7 (d7 (d7 (a2e) (λ_ _=>d0 λ_=>⟨.from_,rfl,rfl,rfl,SE⟩)) (λ_ _=>d0 λ_=>⟨.value,rfl,rfl,rfl,Pd⟩)) (λ_ _=>d1 λa _=>⟨(.ways a),rfl,rfl,rfl,SF a⟩)) (λ_ _=>d1 λa hh=>⟨(.foretold a),rfl,rfl,rfl,Fy a (hh a (by simp))⟩)) (λ_ _=>d0 λ_=>⟨.standing,rfl,rfl,rfl,FB⟩)
theorem a2g:∀k<20,Qk k:=d7 (d7 (d7 (d7 (d7 (a2f) (λ_ _=>d0 λ_=>⟨.keptKinds,rfl,rfl,rfl,Df⟩)) (λ_ _=>d1 λa _=>⟨(.one (.go a)),rfl,rfl,rfl,aQ (λh g=>a1Y g a) (hg:=λh g=>ZG g a)⟩)) (λ_ _=>d1 λa _=>⟨(.one (.on_ a)),rfl,rfl,rfl,aQ (λh g=>a1Z g a) (hg:=λh g=>ZH g a)⟩)) (λ_ _=>d1 λa _=>⟨(.one (.back a)),rfl,rfl,rfl,aQ (λh g=>N4 g a) (hg:=λh g=>Ll g a)⟩)) (λ_ _=>d0 λ_=>⟨(.one .stand),rfl,rfl,rfl,aQ (λh g=>Ra g)⟩)
theorem a2h:∀k<25,Qk k:=d7 (d7 (d7 (d7 (d7 (a2g) (λ_ _=>d1 λa _=>⟨(.one (.kind a)),rfl,rfl,rfl,aQ (λh g=>Wm g a)⟩)) (λ_ _=>d2 λa b _=>⟨(.one (.many a b)),rfl,rfl,rfl,aQ (λh g=>N5 g a b)⟩)) (λ_ _=>d2 λa b _=>⟨(.one (.nth a b)),rfl,rfl,rfl,aQ (λh g=>Zv g a b)⟩)) (λ_ _=>d1 λa _=>⟨(.one (.place a)),rfl,rfl,rfl,aQ (λh g=>Re g a)⟩)) (λ_ _=>d1 λa _=>⟨(.one (.sum a)),rfl,rfl,rfl,aQ (λh g=>Zw g a)⟩)
theorem a2i:∀k<30,Qk k:=d7 (d7 (d7 (d7 (d7 (a2h) (λ_ _=>d1 λa _=>⟨(.one (.part a)),rfl,rfl,rfl,aQ (λh g=>Wp g a)⟩)) (λ_ _=>d2 λa b _=>⟨(.one (.pairs a b)),rfl,rfl,rfl,aQ (λh g=>Rg g a b)⟩)) (λ_ _=>d3 λa b c _=>⟨(.one (.threes a b c)),rfl,rfl,rfl,aQ (λh g=>N7 g a b c)⟩)) (λ_ _=>d1 λa _=>⟨(.one (.run a)),rfl,rfl,rfl,aQ (λh g=>Zy g a)⟩)) (λ_ _=>d1 λa _=>⟨(.one (.runs a)),rfl,rfl,rfl,aQ (λh g=>Wt g a)⟩)
theorem a2j:∀k<35,Qk k:=d7 (d7 (d7 (d7 (d7 (a2i) (λ_ _=>d0 λ_=>⟨(.one .least),rfl,rfl,rfl,aQ (λh g=>Rf g)⟩)) (λ_ _=>d1 λa _=>⟨(.one (.product a)),rfl,rfl,rfl,aQ (λh g=>KM g a)⟩)) (λ_ _=>d0 λ_=>⟨(.again .square),rfl,rfl,rfl,Lo⟩)) (λ_ _=>d0 λ_=>⟨(.again .back),rfl,rfl,rfl,Aa⟩)) (λ_ _=>d2 λa b hh=>⟨(.again (.after a b)),rfl,rfl,rfl,aQ (λh g=>Rl g a b (hh b (by simp)))⟩)
theorem a2k:∀k<40,Qk k:=d7 (d7 (d7 (d7 (d7 (a2j) (λ_ _=>d1 λa _=>⟨(.again (.tail a)),rfl,rfl,rfl,aQ (λh g=>Wv g a)⟩)) (λ_ _=>d1 λa _=>⟨(.again (.foot a)),rfl,rfl,rfl,aQ (λh g=>Ww g a)⟩)) (λ_ _=>d1 λa _=>⟨(.again (.round a)),rfl,rfl,rfl,aQ (λh g=>Rh g a)⟩)) (λ_ _=>d1 λa _=>⟨(.again (.on_ a)),rfl,rfl,rfl,aQ (λh g=>KR g a)⟩)) (λ_ _=>d2 λa b _=>⟨(.again (.meet a b)),rfl,rfl,rfl,aQ (λh g=>Wz g a b)⟩)
theorem a2l:∀k<45,Qk k:=d7 (d7 (d7 (d7 (d7 (a2k) (λ_ _=>d2 λa b _=>⟨(.again (.same a b)),rfl,rfl,rfl,aQ (λh g=>Wx g a b)⟩)) (λ_ _=>d2 λa b _=>⟨(.again (.hang a b)),rfl,rfl,rfl,aQ (λh g=>Wy g a b)⟩)) (λ_ _=>d1 λa _=>⟨(.again (.behind a)),rfl,rfl,rfl,aQ (λh g=>KS g a)⟩)) (λ_ _=>d1 λa _=>⟨(.again (.many a)),rfl,rfl,rfl,aQ (λh g=>HG g a)⟩)) (λ_ _=>d0 λ_=>⟨(.again .rounds),rfl,rfl,rfl,aQ (λh g=>Og g)⟩)
theorem a2m:∀k<50,Qk k:=d7 (d7 (d7 (d7 (d7 (a2l) (λ_ _=>d0 λ_=>⟨(.again .depth),rfl,rfl,rfl,aQ (λh g=>Rm g)⟩)) (λ_ _=>d0 λ_=>⟨(.between .next),rfl,rfl,rfl,aQ (λh g=>CV g) (hg:=λh g=>Ss g)⟩)) (λ_ _=>d2 λa b _=>⟨(.between (.fold a b)),rfl,rfl,rfl,aQ (λh g=>WA g a b)⟩)) (λ_ _=>d1 λa _=>⟨(.between (.folds a)),rfl,rfl,rfl,aQ (λh g=>Rn g a)⟩)) (λ_ _=>d1 λa _=>⟨(.between (.foldedAll a)),rfl,rfl,rfl,aQ (λh g=>EU g a)⟩)
theorem a2n:∀k<55,Qk k:=d7 (d7 (d7 (d7 (d7 (a2m) (λ_ _=>d1 λa _=>⟨(.between (.column a)),rfl,rfl,rfl,aQ (λh g=>Oi g a)⟩)) (λ_ _=>d1 λa _=>⟨(.between (.row a)),rfl,rfl,rfl,aQ (λh g=>Zz g a)⟩)) (λ_ _=>d0 λ_=>⟨(.between .under),rfl,rfl,rfl,aQ (λh g=>Rq g)⟩)) (λ_ _=>d0 λ_=>⟨(.between .over),rfl,rfl,rfl,aQ (λh g=>WC g)⟩)) (λ_ _=>d2 λa b _=>⟨(.between (.inside a b)),rfl,rfl,rfl,aQ (λh g=>Oj g a b)⟩)
theorem a2o:∀k<60,Qk k:=d7 (d7 (d7 (d7 (d7 (a2n) (λ_ _=>d2 λa b _=>⟨(.between (.place a b)),rfl,rfl,rfl,aQ (λh g=>HH g a b)⟩)) (λ_ _=>d2 λa b _=>⟨(.between (.where_ a b)),rfl,rfl,rfl,aQ (λh g=>Ro g a b)⟩)) (λ_ _=>d1 λa _=>⟨(.between (.pairs a)),rfl,rfl,rfl,aQ (λh g=>z6 g a)⟩)) (λ_ _=>d1 λa _=>⟨(.between (.long a)),rfl,rfl,rfl,aQ (λh g=>WD g a)⟩)) (λ_ _=>d1 λa _=>⟨(.between (.fewest a)),rfl,rfl,rfl,aQ (λh g=>Oq g a)⟩)
theorem a2p:∀k<65,Qk k:=d7 (d7 (d7 (d7 (d7 (a2o) (λ_ _=>d2 λa b _=>⟨(.between (.round a b)),rfl,rfl,rfl,aQ (λh g=>KW g a b)⟩)) (λ_ _=>d1 λa _=>⟨(.between (.dealt a)),rfl,rfl,rfl,aQ (λh g=>Rr g a)⟩)) (λ_ _=>d1 λa _=>⟨(.between (.dealtTo a)),rfl,rfl,rfl,aQ (λh g=>KU g a)⟩)) (λ_ _=>d0 λ_=>⟨(.between .dealtPairs),rfl,rfl,rfl,aQ (λh g=>CT g)⟩)) (λ_ _=>d1 λa _=>⟨(.answers (.term a)),rfl,rfl,rfl,aQ (λh g=>WM g a) (hg:=λh g=>JV g a)⟩)
theorem a2q:∀k<70,Qk k:=d7 (d7 (d7 (d7 (d7 (a2p) (λ_ _=>d1 λa _=>⟨(.answers (.out a)),rfl,rfl,rfl,aQ (λh g=>ZD g a) (hg:=λh g=>Xh g a)⟩)) (λ_ _=>d2 λa b hh=>⟨(.answers (.times a b)),rfl,rfl,rfl,aQ (λh g=>Rv g a b (hh b (by simp))) (hg:=λh g=>O6 g a b)⟩)) (λ_ _=>d2 λa b _=>⟨(.answers (.pair a b)),rfl,rfl,rfl,aQ (λh g=>WO g a b) (hg:=λh g=>Su g a b)⟩)) (λ_ _=>d1 λa _=>⟨(.answers (.many a)),rfl,rfl,rfl,aQ (λh g=>WQ g a)⟩)) (λ_ _=>d1 λa _=>⟨(.answers (.full a)),rfl,rfl,rfl,aQ (λh g=>WR g a)⟩)
theorem a2r:∀k<75,Qk k:=d7 (d7 (d7 (d7 (d7 (a2q) (λ_ _=>d1 λa _=>⟨(.answers (.first a)),rfl,rfl,rfl,aQ (λh g=>RD g a)⟩)) (λ_ _=>d0 λ_=>⟨(.answers .zero),rfl,rfl,rfl,aQ (λh g=>WU g)⟩)) (λ_ _=>d0 λ_=>⟨(.answers .never),rfl,rfl,rfl,aQ (λh g=>RB g)⟩)) (λ_ _=>d0 λ_=>⟨(.answers .three),rfl,rfl,rfl,aQ (λh g=>RA g)⟩)) (λ_ _=>d1 λa _=>⟨(.answers (.ofKind a)),rfl,rfl,rfl,aQ (λh g=>OJ g a)⟩)
theorem a2s:∀k<80,Qk k:=d7 (d7 (d7 (d7 (d7 (a2r) (λ_ _=>d0 λ_=>⟨(.answers .most),rfl,rfl,rfl,aQ (λh g=>WS g)⟩)) (λ_ _=>d0 λ_=>⟨(.answers .fewest),rfl,rfl,rfl,aQ (λh g=>wQ g)⟩)) (λ_ _=>d4 λa b c d hh=>⟨(.answers (.worth a b c d)),rfl,rfl,rfl,aQ (λh g=>Rx g a b c d (hh a (by simp)) (hh b (by simp)) (hh c (by simp)) (hh d (by simp)))⟩)) (λ_ _=>d0 λ_=>⟨(.answers .product),rfl,rfl,rfl,aQ (λh g=>EX g)⟩)) (λ_ _=>d2 λa b _=>⟨(.answers (.with_ a b)),rfl,rfl,rfl,aQ (λh g=>EZ g a b)⟩)
theorem a2t:∀k<85,Qk k:=d7 (d7 (d7 (d7 (d7 (a2s) (λ_ _=>d1 λa _=>⟨(.points (.put a)),rfl,rfl,rfl,aQ (λh g=>ZA g a) (hg:=λh g=>O7 g a)⟩)) (λ_ _=>d1 λa _=>⟨(.points (.take a)),rfl,rfl,rfl,aQ (λh g=>WF g a) (hg:=λh g=>Sv g a)⟩)) (λ_ _=>d0 λ_=>⟨(.points .kept),rfl,rfl,rfl,aQ (λh g=>WE g)⟩)) (λ_ _=>d1 λa _=>⟨(.points (.move a)),rfl,rfl,rfl,aQ (λh g=>WG g a) (hg:=λh g=>Sw g a)⟩)) (λ_ _=>d1 λa _=>⟨(.points (.times a)),rfl,rfl,rfl,aQ (λh g=>HK g a) (hg:=λh g=>Fx g a)⟩)
theorem a2u:∀k<90,Qk k:=d7 (d7 (d7 (d7 (d7 (a2t) (λ_ _=>d0 λ_=>⟨(.points .grow),rfl,rfl,rfl,aQ (λh g=>WI g) (hg:=λh g=>Sz g)⟩)) (λ_ _=>d2 λa b _=>⟨(.points (.leads a b)),rfl,rfl,rfl,aQ (λh g=>Rs g a b)⟩)) (λ_ _=>d1 λa _=>⟨(.points (.of_ a)),rfl,rfl,rfl,aQ (λh g=>a2b g a)⟩)) (λ_ _=>d2 λa b _=>⟨(.points (.common a b)),rfl,rfl,rfl,aQ (λh g=>Ou g a b)⟩)) (λ_ _=>d2 λa b _=>⟨(.points (.into a b)),rfl,rfl,rfl,aQ (λh g=>WH g a b)⟩)
theorem a2v:∀k<95,Qk k:=d7 (d7 (d7 (d7 (d7 (a2u) (λ_ _=>d1 λa _=>⟨(.points (.rounds a)),rfl,rfl,rfl,aQ (λh g=>z9 g a)⟩)) (λ_ _=>d1 λa _=>⟨(.points (.differ a)),rfl,rfl,rfl,aQ (λh g=>Ov g a)⟩)) (λ_ _=>d0 λ_=>⟨(.points .who),rfl,rfl,rfl,aQ (λh g=>ZC g)⟩)) (λ_ _=>d0 λ_=>⟨(.points .inner),rfl,rfl,rfl,aQ (λh g=>RG g)⟩)) (λ_ _=>d0 λ_=>⟨(.points .group),rfl,rfl,rfl,aQ (λh g=>RH g)⟩)
theorem ZI:∀k<100,Qk k:=d7 (d7 (d7 (d7 (d7 (a2v) (λ_ _=>d0 λ_=>⟨(.points .greatest),rfl,rfl,rfl,aQ (λh g=>HV g)⟩)) (λ_ _=>d2 λa b _=>⟨(.points (.steps a b)),rfl,rfl,rfl,aQ (λh g=>RN g a b)⟩)) (λ_ _=>d1 λa _=>⟨(.split (.split a)),rfl,rfl,rfl,aQ (λh g=>R8 g a) (hg:=λh g=>O8 g a)⟩)) (λ_ _=>d1 λa _=>⟨(.split (.other a)),rfl,rfl,rfl,aQ (λh g=>Fh g a) (hg:=λh g=>O9 g a)⟩)) (λ_ _=>d0 λ_=>⟨(.split .root),rfl,rfl,rfl,aQ (λh g=>Fg g)⟩)
theorem ZJ:∀k<105,Qk k:=d7 (d7 (d7 (d7 (d7 (ZI) (λ_ _=>d0 λ_=>⟨(.split .roots),rfl,rfl,rfl,aQ (λh g=>RZ g)⟩)) (λ_ _=>d1 λa _=>⟨(.split (.index a)),rfl,rfl,rfl,aQ (λh g=>R6 g a)⟩)) (λ_ _=>d1 λa _=>⟨(.split (.cls a)),rfl,rfl,rfl,aQ (λh g=>HX g a)⟩)) (λ_ _=>d1 λa hh=>⟨(.split (.power a)),rfl,rfl,rfl,aQ (λh g=>R7 g a (hh a (by simp)))⟩)) (λ_ _=>d1 λa _=>⟨(.split (.members a)),rfl,rfl,rfl,aQ (λh g=>Ld g a)⟩)
theorem ZK:∀k<110,Qk k:=d7 (d7 (d7 (d7 (d7 (ZJ) (λ_ _=>d1 λa _=>⟨(.split (.first a)),rfl,rfl,rfl,aQ (λh g=>Le g a)⟩)) (λ_ _=>d2 λa b _=>⟨(.split (.behind a b)),rfl,rfl,rfl,aQ (λh g=>OX g a b)⟩)) (λ_ _=>d1 λa _=>⟨(.split (.row a)),rfl,rfl,rfl,aQ (λh g=>Se g a)⟩)) (λ_ _=>d0 λ_=>⟨(.split .table),rfl,rfl,rfl,aQ (λh g=>Sf g)⟩)) (λ_ _=>d2 λa b _=>⟨(.split (.differs a b)),rfl,rfl,rfl,aQ (λh g=>Lh g a b)⟩)
theorem ZL:∀k<115,Qk k:=d7 (d7 (d7 (d7 (d7 (ZK) (λ_ _=>d1 λa _=>⟨(.split (.even a)),rfl,rfl,rfl,aQ (λh g=>Xa g a)⟩)) (λ_ _=>d1 λa _=>⟨(.split (.evenZero a)),rfl,rfl,rfl,aQ (λh g=>Ia g a)⟩)) (λ_ _=>d1 λa _=>⟨(.split (.sum a)),rfl,rfl,rfl,aQ (λh g=>Sa g a)⟩)) (λ_ _=>d2 λa b _=>⟨(.split (.times a b)),rfl,rfl,rfl,aQ (λh g=>Dc g a b)⟩)) (λ_ _=>d1 λa _=>⟨(.split (.opposite a)),rfl,rfl,rfl,aQ (λh g=>HY g a)⟩)
theorem SG(hs:List PV):((af 115).map λn=>FN 23 [.int (n:Nat)] hs)=(af 115).map λk=>some (.ent (qJ.getD k (0,0)).2 ((qJ.getD k (0,0)).1:Nat)):=by kernel_rfl
theorem Pg{k:Nat}(h:k<115)(hs:List PV):FN 23 [.int k] hs=some (.ent (qJ.getD k (0,0)).2 ((qJ.getD k (0,0)).1:Nat)):=by
 have e:=congrArg (λl=>l[k]?) (SG hs);simp only[ak,aS h,xD]at e;exact bv.inj e
theorem Ii:∀k<115,(qJ.getD k (0,0)).2<120/\(qJ.getD k (0,0)).1<=4:=by decide
theorem JW{G:gH}{n:Nat}{c:CE}{a r:CS}{S:Sx}(hc:S.ev G c=some (.bl false)):exec G n (.seq (.i c a .nil) r) S=exec G n r S:=by
 rw[yX,AW,hc];rfl
theorem XM{G:gH}{n:Nat}{c:CE}{a b r:CS}{S S':Sx}{v:PV}(hc:S.ev G c=some (.bl true))(ha:exec G n a S=some (.ret v,S')):exec G n (.seq (.i c a b) r) S=some (.ret v,S'):=by
 rw[yX,AW,hc];show((exec G n a S).bind _)=_;rw[ha];rfl
theorem Xj(G:gH)(f o:Option PV)(xs:List Nat)(own:List Nat)(hs:List PV)(j:Nat):Sx.ev ⟨[f,o,some (.il (zl xs))],own,hs,true⟩ G (.c .eq (.bi .len (.v 2)) (.n (j:Nat)))=some (.bl (decide (xs.length=j))):=by
 simp![]
theorem zG {m:Nat} (hm:m<120) {xs:List Nat} {hs hs':List PV} {v:PV} {as:CE} (ha:Sx.evA ⟨[some (.fn m),some .obj,some (.il (zl xs))],[],hs,true⟩ ⟨FN,ie,js ie my NN FN BM 120,my⟩ as=some (.obj::xs.map λ(x:Nat)=>PV.int x)) (hk:argsOk as (.obj::xs.map λ(x:Nat)=>PV.int x)=true)
 (e:FM m (.obj::xs.map λ(x:Nat)=>PV.int x) hs=some (v,hs')):exec ⟨FN,ie,js ie my NN FN BM 120,my⟩ NN (.seq (.retD 0 as) .nil) ⟨[some (.fn m),some .obj,some (.il (zl xs))],[],hs,true⟩=some (.ret v,⟨[some (.fn m),some .obj,some (.il (zl xs))],[],hs',true⟩):=by
 rw[yX,CJ,ha];show((if argsOk as _&&true then((js ie my NN FN BM 120) m _ hs).map _ else none).bind _)=_;rw[hk,Jg (decide_eq_true hm) rfl,e];rfl
theorem wy{m:Nat}(hm:m<120){xs:List Nat}(hx:xs.length<=4){hs hs':List PV}{v:PV}(e:FM m (.obj::xs.map λ(x:Nat)=>PV.int x) hs=some (v,hs')):FM 120 [.fn m,.obj,.il (zl xs)] hs=some (v,hs'):=by
 rw[GH];show(exec _ NN jJ ⟨[some (.fn m),some .obj,some (.il (zl xs))],[],hs,true⟩).bind _=_;have hl:=Xj ⟨FN,ie,js ie my NN FN BM 120,my⟩ (some (.fn m)) (some .obj) xs [] hs;have l0:Sx.ev ⟨[some (.fn m),some .obj,some (.il (zl xs))],[],hs,true⟩ ⟨FN,ie,js ie my NN FN BM 120,my⟩ (.c .eq (.bi .len (.v 2)) (.n 0))=some (.bl (decide (xs.length=0))):=hl 0;have l1:Sx.ev ⟨[some (.fn m),some .obj,some (.il (zl xs))],[],hs,true⟩ ⟨FN,ie,js ie my NN FN BM 120,my⟩ (.c .eq (.bi .len (.v 2)) (.n 1))=some (.bl (decide (xs.length=1))):=hl 1;have l2:Sx.ev ⟨[some (.fn m),some .obj,some (.il (zl xs))],[],hs,true⟩ ⟨FN,ie,js ie my NN FN BM 120,my⟩ (.c .eq (.bi .len (.v 2)) (.n 2))=some (.bl (decide (xs.length=2))):=hl 2;have l3:Sx.ev ⟨[some (.fn m),some .obj,some (.il (zl xs))],[],hs,true⟩ ⟨FN,ie,js ie my NN FN BM 120,my⟩ (.c .eq (.bi .len (.v 2)) (.n 3))=some (.bl (decide (xs.length=3))):=hl 3;have fin:∀X,X=some (Fl.ret v,(⟨[some (.fn m),some .obj,some (.il (zl xs))],[],hs',true⟩:Sx))->X.bind (λo=>if o.2.rw=true then match o.1 with | .ret p=>some (p,o.2.hs) | .next=>some (.non,o.2.hs) | _=>none else none)=some (v,hs'):=λX h=>by rw[h];rfl
 refine fin _ ?_;unfold jJ;rcases xs with _ | ⟨a,_ | ⟨b,_ | ⟨c,_ | ⟨d,_ | ⟨f,r⟩⟩⟩⟩⟩
 . exact XM l0 (zG hm rfl rfl e)
 . rw[JW l0];exact XM l1 (zG hm rfl rfl e)
 . rw[JW l0,JW l1];exact XM l2 (zG hm rfl rfl e)
 . rw[JW l0,JW l1,JW l2];exact XM l3 (zG hm rfl rfl e)
 . rw[JW l0,JW l1,JW l2,JW l3];exact zG hm rfl rfl e
 . simp at hx
@[reducible]noncomputable def Ab:gH:=⟨FN,ie,js ie my NN FN BM 121,my⟩
abbrev j6(k:Nat)(xs:List Nat)(v3 v4 v5:Option PV)(own:List Nat)(hs:List PV):Sx:=⟨[some .obj,some (.int k),some (.il (zl xs)),v3,v4,v5],own,hs,true⟩
abbrev Xk(o:Option (Fl×Sx)):Option (PV×List PV):=o.bind λo=>if o.2.rw=true then match o.1 with | .ret p=>some (p,o.2.hs) | .next=>some (.non,o.2.hs) | _=>none else none
theorem Xl(k:Nat)(xs:List Nat)(hs:List PV):FM 121 [.obj,.int k,.il (zl xs)] hs=Xk (exec Ab NN fS (j6 k xs none none none [] hs)):=Eb _ _
theorem Ij(k:Nat)(xs:List Nat)(h:House)(o:List jP):(j6 k xs none none none [] (aw h o)).ev Ab (.and (.c .ne (.v 1) (.g 23)) (.c .eq (.fld 0 0) (.n 0)))=some (.bl (!decide (k=0)&&decide (h.p=0))):=by
 unfold j6;rw[bz];by_cases hk:k=0
 . simp![V7,hk]
 . simp![V7,hk]
theorem Ph{k:Nat}(hk:k<115)(xs:List Nat)(hs:List PV):exec Ab NN (.set 3 (.idx (.call 23 (.k (.v 1) .z)) (.n 0))) (j6 k xs none none none [] hs)=some (.next,j6 k xs (some (.fn (qJ.getD k (0,0)).2)) none none [] hs):=by
 unfold j6;have e:∀(m:Nat) (n:Int),iI (.ent m n) (.int ((0:Nat):Int))=some (.fn m):=λ_ _=>rfl;simp![G5,Pg hk,e]
theorem JX(k:Nat)(xs:List Nat)(v3:Option PV)(hs:List PV):(j6 k xs v3 none none [] hs).ev Ab (.or (.c .eq (.v 1) (.g 23)) (.c .eq (.v 1) (.g 24)))=some (.bl (decide (k=0)||decide (k=2))):=by
 unfold j6;simp![V8,V9,V7]
theorem FD{k:Nat}(hk:k≠0)(xs:List Nat):FM 121 [.obj,.int k,.il (zl xs)] DT=some (.il [-11],DT):=by
 rw[Xl];unfold fS;have t:=Ij k xs ⟨0,0,0,[],[],0,0⟩ [];rw[decide_eq_false hk,decide_eq_true (show(⟨0,0,0,[],[],0,0⟩:House).p=0 from rfl)]at t;have t':(j6 k xs none none none [] DT).ev Ab (.and (.c .ne (.v 1) (.g 23)) (.c .eq (.fld 0 0) (.n 0)))=some (.bl true):=t;rw[XM t' (v:=.il [-11]) (S':=j6 k xs none none none [] DT) (by unfold j6;simp![cv2])];rfl
theorem xB{k:Nat}(hk:k<115)(h02:k=0\/k=2){xs:List Nat}{h:House}(hb:k=0\/h.p≠0){o:List jP}{hs':List PV}{v:PV}(hx:xs.length<=4)(e:FM (qJ.getD k (0,0)).2 (.obj::xs.map λ(x:Nat)=>PV.int x) (aw h o)=some (v,hs')):FM 121 [.obj,.int k,.il (zl xs)] (aw h o)=some (v,hs'):=by
 rw[Xl];unfold fS;have t:=Ij k xs h o;have tf:(!decide (k=0)&&decide (h.p=0))=false:=by
  rcases hb with rfl | hb
  . rfl
  . rw[decide_eq_false hb,d5]
 rw[tf]at t;have ta:=JX k xs (some (.fn (qJ.getD k (0,0)).2)) (aw h o);have tt:(decide (k=0)||decide (k=2))=true:=by
  rcases h02 with rfl | rfl<;>rfl
 rw[tt]at ta;have a:=wy (Ii k hk).1 hx e;rw[JW t,dU (Ph hk xs (aw h o)),XM ta (v:=v) (S':=j6 k xs (some (.fn (qJ.getD k (0,0)).2)) none none [] hs') (by unfold j6;simp![argsOk,a])];rfl
abbrev keep(o:List jP)(h h':House):List jP:=if h'=h then o else if o.length=12 then(o++[gY h]).drop 1 else o++[gY h]
theorem SH{k:Nat}(hk:k<115)(h0:k≠0)(h2:k≠2){xs:List Nat}{h h':House}(hb:h.p≠0){o:List jP}(ho:o.length<=12){a:List Int}(hx:xs.length<=4)(e:FM (qJ.getD k (0,0)).2 (.obj::xs.map λ(x:Nat)=>PV.int x) (aw h o)=some (.il a,aw h' o)):FM 121 [.obj,.int k,.il (zl xs)] (aw h o)=some (.il a,aw h' (keep o h h')):=by
 rw[Xl];unfold fS;have t:=Ij k xs h o;rw[decide_eq_false hb,d5]at t;have ta:=JX k xs (some (.fn (qJ.getD k (0,0)).2)) (aw h o);rw[decide_eq_false h0,decide_eq_false h2]at ta;have ac:=wy (Ii k hk).1 hx e;have p1:exec Ab NN (.set 4 (.mth 0 22)) (j6 k xs (some (.fn (qJ.getD k (0,0)).2)) none none [] (aw h o))=some (.next,j6 k xs (some (.fn (qJ.getD k (0,0)).2)) (some (.pic (gY h))) none [] (aw h o)):=by
  have:=O1 h o;unfold j6;rw[bz]at this⊢;simp![↓bc9,NT,this]
 have p2:exec Ab NN (.setM 5 120 (.k (.v 3) (.k (.v 0) (.k (.v 2) .z)))) (j6 k xs (some (.fn (qJ.getD k (0,0)).2)) (some (.pic (gY h))) none [] (aw h o))=some (.next,j6 k xs (some (.fn (qJ.getD k (0,0)).2)) (some (.pic (gY h))) (some (.il a)) [5] (aw h' o)):=by
  unfold j6;simp![Ht,argsOk,ac]
 have p3:(j6 k xs (some (.fn (qJ.getD k (0,0)).2)) (some (.pic (gY h))) (some (.il a)) [5] (aw h' o)).ev Ab (.c .ne (.mth 0 22) (.v 4))=some (.bl (!decide (h'=h))):=by
  have:=O1 h' o;have en:∀x y:jP,u5 .ne (.pic x) (.pic y)=some (!decide (x=y)):=λ_ _=>rfl;have ed:decide (gY h'=gY h)=decide (h'=h):=decide_eq_decide.mpr ⟨Sr,λe=>by rw[e]⟩;unfold j6;rw[bz]at this⊢;simp![NT,this,en,ed]
 have p4:∀hs,exec Ab NN (.seq (.ret (.v 5)) .nil) (j6 k xs (some (.fn (qJ.getD k (0,0)).2)) (some (.pic (gY h))) (some (.il a)) [5] hs)=some (.ret (.il a),j6 k xs (some (.fn (qJ.getD k (0,0)).2)) (some (.pic (gY h))) (some (.il a)) [5] hs):=λhs=>by
  unfold j6;simp![]
 rw[JW t,dU (Ph hk xs (aw h o)),JW ta,dU p1,dU p2];unfold keep;by_cases hh:h'=h
 . rw[decide_eq_true hh]at p3;rw[JW p3,p4,if_pos hh];rfl
 . rw[decide_eq_false hh]at p3;have r:=Fu h' o ho (gY h);have p5:exec Ab NN (.i (.c .ne (.mth 0 22) (.v 4)) (.seq (.exMm 0 112 (.k (.v 4) .z)) .nil) .nil) (j6 k xs (some (.fn (qJ.getD k (0,0)).2)) (some (.pic (gY h))) (some (.il a)) [5] (aw h' o))=some (.next,j6 k xs (some (.fn (qJ.getD k (0,0)).2)) (some (.pic (gY h))) (some (.il a)) [5] (aw h' (if o.length=12 then(o++[gY h]).drop 1 else o++[gY h]))):=by
    rw[AW,p3];unfold j6;rw[bz]at r⊢;simp![Hw,argsOk,r,ne_eq,not_false_eq_true,not_true_eq_false]
   rw[dU p5,p4,if_neg hh];rfl
abbrev pics(l:List House):List jP:=(l.map gY).reverse
theorem qK(l:List House):(pics l).length=l.length:=by unfold pics;rw[List.length_reverse,ae]
theorem vP(h:House)(l:List House):pics (h::l)=pics l++[gY h]:=by unfold pics;rw[ax,List.reverse_cons]
abbrev ZM:xH->List PV->Prop
 | none,hs=>hs=DT
 | some d,hs=>Good d.now/\(∀h∈d.old,Good h)/\d.old.length<=12/\hs=aw d.now (pics d.old)
theorem Lr{l:List House}(h:l.length=12):pics (l.take 11)=(pics l).drop 1:=by
 unfold pics;rw[k7,List.drop_reverse,ae,h]
theorem SI{d:mJ}{h':House}(g:Good d.now)(go:∀h∈d.old,Good h)(hl:d.old.length<=12)(g':Good h'):ZM (some (sE d h')) (aw h' (keep (pics d.old) d.now h')):=by
 unfold sE keep;by_cases hh:h'=d.now
 . rw[if_pos hh,if_pos hh,hh];exact⟨g,go,hl,rfl⟩
 . rw[if_neg hh,if_neg hh,qK];refine⟨g',λh hm=>?_,?_,?_⟩
   . rcases aE.mp (lg hm)with rfl | k
     . exact g
     . exact go h k
   . show((d.now::d.old).take 12).length<=12;rw[kW];lia
   . show aw h' _=aw h' (pics ((d.now::d.old).take 12));congr 1
     by_cases h12:d.old.length=12
     . rw[if_pos h12,List.take_succ_cons,vP,Lr h12,List.drop_append_of_le_length (by rw[qK];lia)]
     . rw[if_neg h12,pR (by rw[aV];lia),vP]
theorem Ik{k:Nat}(hk:k<115){xs:List Nat}(hx:xs.length=(qJ.getD k (0,0)).1)(hb:∀x∈xs,x<4294967296)(s:xH){hs:List PV}(r:ZM s hs):
 nb [(k:Int)::zl xs]=[(k:Int)::zl xs]/\∃hs',FM 121 [.obj,.int k,.il (zl xs)] hs=some (.il (aT s [(k:Int)::zl xs]).2,hs')/\ZM (aT s [(k:Int)::zl xs]).1 hs':=by
 have hx4:xs.length<=4:=by rw[hx];exact(Ii k hk).2
 by_cases h0:k=0
 . subst h0;have hx1:xs.length=1:=hx;obtain _ | ⟨p,_ | ⟨q,t⟩⟩:=xs
   . cases hx1
   . refine⟨rfl,?_⟩;have es:aT s [((0:Nat):Int)::zl [p]]=if dq p=false then(s,[-22])else(some ⟨iw p,[]⟩,[0]):=by
      show((fZ s (.begin_ p)).1,(fZ s (.begin_ p)).2.num::(fZ s (.begin_ p)).2.nums)=_;have:fZ s (.begin_ p)=if dq p=false then(s,dM (-22))else(some ⟨iw p,[]⟩,dM 0):=rfl
      rw[this];cases dq p<;>rfl
     have key:∀(h:House) (o:List jP),hs=aw h o->∃hs',FM 121 [.obj,.int ((0:Nat):Int),.il (zl [p])] hs=some (.il (aT s [((0:Nat):Int)::zl [p]]).2,hs')/\ZM (aT s [((0:Nat):Int)::zl [p]]).1 hs':=λh o e=>by
      subst e;have ab:=Si h o p;rw[es];cases h1:dq p with
      | false=>
       rw[h1,if_pos rfl]at ab;exact⟨_,xB hk (.inl rfl) (.inl rfl) hx4 ab,r⟩
      | true=>
       rw[h1,if_neg (by decide)]at ab;exact⟨_,xB hk (.inl rfl) (.inl rfl) hx4 ab,Pa (xz.mp h1),λ_ hm=>(by cases hm),(by show 0<=12;decide),rfl⟩
     cases s with
     | none=>exact key ⟨0,0,0,[],[],0,0⟩ [] r
     | some d=>exact key d.now (pics d.old) r.2.2.2
   . simp at hx1
 . by_cases h2:k=2
   . subst h2;have hx0:xs.length=0:=hx;have:xs=[]:=zL hx0;subst this;refine⟨rfl,?_⟩;cases s with
     | none=>
      have r':hs=DT:=r;subst r';exact⟨_,FD h0 [],rfl⟩
     | some d=>
      obtain⟨g,go,hl,e⟩:=r;have hp:d.now.p≠0:=by have:=a9 g.p;lia
      obtain⟨now,old⟩:=d;subst e;cases old with
      | nil=>exact⟨_,xB hk (.inr rfl) (.inr hp) hx4 (O3 now),g,go,hl,rfl⟩
      | cons o l=>
       have u:=O4 now o (pics l);rw[<-vP,qK]at u;exact⟨_,xB hk (.inr rfl) (.inr hp) hx4 u,go o aI,λh hm=>go h (ao _ hm),by show l.length<=12;simp only[aV]at hl;lia,rfl⟩
   . obtain⟨c,w,co,n,a⟩:=ZL k hk h0 h2 xs hx hb;refine⟨w,?_⟩;have es:aT s [(k:Int)::zl xs]=((fZ s c).1,(fZ s c).2.num::(fZ s c).2.nums):=by
      unfold aT;rw[co]
     rw[es];cases s with
     | none=>
      have r':hs=DT:=r;subst r';rw[n];exact⟨_,FD h0 xs,rfl⟩
     | some d=>
      obtain⟨g,go,hl,e⟩:=r;subst e;obtain⟨h',an,st,g',act⟩:=a d g;have hp:d.now.p≠0:=by have:=a9 g.p;lia
      rw[st];exact⟨_,SH hk h0 h2 hp (by rw[qK];exact hl) hx4 (act (pics d.old) (qK _)),SI g go hl g'⟩
theorem Pi:∀k<115,eK (k:Nat)=some ((qJ.getD k (0,0)).1,0):=by decide+kernel
theorem Pj:∀k<115,(kx (k:Nat)).1=aJ (qJ.getD k (0,0)).1 (0,4294967295):=by decide+kernel
theorem Ls{p:Int}(h:p<0\/115<=p):eK p=none:=by
 unfold eK;iterate 115 rw[if_neg (by lia)]
theorem Il{p:Int}{n m:Nat}(h:eK p=some (n,m)):∃k:Nat,k<115/\p=(k:Int)/\n=(qJ.getD k (0,0)).1/\m=0:=by
 by_cases ho:p<0\/115<=p
 . rw[Ls ho]at h;cases h
 . refine⟨p.toNat,by lia,by lia,?_⟩;have:=Pi p.toNat (by lia);rw[show((p.toNat:Nat):Int)=p by lia,h]at this;cases this;exact⟨rfl,rfl⟩
theorem FE:∀{xs:List Int} {n:Nat},xs.length=n->zU (aJ n (0,4294967295)) xs=true->∃ys:List Nat,xs=zl ys/\∀y∈ys,y<4294967296
 | [],_,_,_=>⟨[],rfl,λ_ h=>by cases h⟩
 | x::xs,0,h,_=>by cases h
 | x::xs,n+1,h,e=>by
  rw[bS]at e;have e':(LL 0 4294967295 x&&zU (aJ n (0,4294967295)) xs)=true:=e;rw[aG]at e';obtain⟨ys,rfl,hy⟩:=FE (by simpa using h) e'.2;have hw:=e'.1;unfold LL at hw;rw[aG,decide_eq_true_eq,decide_eq_true_eq]at hw;refine⟨x.toNat::ys,?_,λy hm=>?_⟩
  . show x::zl ys=((x.toNat:Nat):Int)::zl ys;rw[show((x.toNat:Nat):Int)=x by lia]
  . rcases aE.mp hm with rfl | k
    . lia
    . exact hy y k
theorem Im{f:Nat}{p:Int}{r:List Int}{cs:List (List (List Int))}(h:iA eK f (p::r)=some cs)(hin:pX kx cs=true):
 ∃(k:Nat) (ys:List Nat) (cs':List (List (List Int))) (f':Nat),k<115/\p=(k:Int)/\ys.length=(qJ.getD k (0,0)).1/\(∀y∈ys,y<4294967296)/\r.take ys.length=zl ys/\ys.length<=r.length/\cs=[(k:Int)::zl ys]::cs'/\iA eK f' (r.drop ys.length)=some cs'/\pX kx cs'=true:=by
 cases f with
 | zero=>cases h
 | succ f=>
  unfold iA PyFlat.call at h;simp only at h;cases hs:eK p with
  | none=>rw[hs]at h;cases h
  | some nm=>
   obtain⟨n,m⟩:=nm;obtain⟨k,hk,rfl,rfl,rfl⟩:=Il hs;rw[hs]at h;simp only at h;by_cases hl:r.length<(qJ.getD k (0,0)).1
   . rw[if_pos hl]at h;cases h
   . rw[if_neg hl]at h;simp only[PyFlat.rows]at h;cases ht:iA eK f (r.drop (qJ.getD k (0,0)).1)with
     | none=>rw[ht]at h;cases h
     | some cs'=>
      rw[ht]at h;simp only[bv.injEq]at h;subst h;unfold pX at hin;rw[dz,aG]at hin;have h1:(zU (kx (k:Int)).1 (r.take (qJ.getD k (0,0)).1)&&PyInside.lists (kx (k:Int)).2 [])=true:=hin.1;rw[aG,Pj k hk]at h1;have hlen:(r.take (qJ.getD k (0,0)).1).length=(qJ.getD k (0,0)).1:=by rw[kW];lia
      obtain⟨ys,hy,hb⟩:=FE hlen h1.1;have hyl:ys.length=(qJ.getD k (0,0)).1:=by rw[<-hlen,hy,fu]
      exact⟨k,ys,cs',f,hk,rfl,hyl,hb,by rw[hyl];exact hy,by lia,by rw[hy],by rw[hyl];exact ht,hin.2⟩
theorem wz{tst:Sx->Option Bool}{body:Sx->Option (Fl×Sx)}{β:Type}(P:β->Sx->Prop)(go:β->Bool)(m:β->Nat):
 ∀{n:Nat} {b:β} {S:Sx},(∀b S,P b S->tst S=some (go b))->(∀b S,P b S->go b=true->∃b' S',body S=some (.next,S')/\P b' S'/\m b'<m b)->P b S->m b<n->∃S' b',jU tst body n S=some (.next,S')/\P b' S'/\go b'=false
 | 0,_,_,_,_,_,h=>absurd h (cV _)
 | n+1,b,S,ht,hb,hp,hm=>by
  unfold jU;rw[ht b S hp];cases hg:go b with
  | false=>exact⟨S,b,rfl,hp,hg⟩
  | true=>
   obtain⟨b',S',e,h',hl⟩:=hb b S hp hg;obtain⟨S2,b2,e2,h2⟩:=wz P go m (n:=n) ht hb h' (by lia);refine⟨S2,b2,?_,h2⟩;show((body S).bind _)=_;rw[e];exact e2
theorem Xm(l:List Int)(a b:Nat)(h:a<=b)(hb:b<=l.length):xU l (some (a:Int)) (some (b:Int))=(l.drop a).take (b-a):=by
 unfold xU sIx;dsimp only
 rw[if_neg (by lia),if_neg (by lia),cY,cY,fg (by lia),fg (by lia)]
abbrev SA(xs:List Int)(t:List Int)(at_:Nat)(v4 v5 v6:Option PV)(own:List Nat)(hs:List PV):Sx:=⟨[some (.fil xs),some .obj,some (.il t),some (.int at_),v4,v5,v6],own,hs,true⟩
structure PA (xs:List Int) (b:xH×List (List (List Int))×Nat×List Int) (S:Sx):Prop where
 le:b.2.2.1<=xs.length
 ca:∃f,iA eK f (xs.drop b.2.2.1)=some b.2.1
 bd:pX kx b.2.1=true
 an:b.2.2.2++F1 (Bj aT b.1 (b.2.1.map nb))=eU xs
 st:∃own v4 v5 v6 hs,own.contains 2=true/\ZM b.1 hs/\S=SA xs b.2.2.2 b.2.2.1 v4 v5 v6 own hs
theorem SJ(xs:List Int):mx .len (.fil xs)=some (.int (xs.length:Nat)):=rfl
theorem SL{xs:List Int}{i:Nat}{v:Int}(h:xs[i]?=some v):iI (.fil xs) (.int i)=some (.int v):=by
 show(atI xs (i:Int)).map _=_;rw[rK,h];rfl
abbrev Pk:CS:=(.seq (.set 4 (.idx (.v 0) (.v 3))) (.seq (.set 5 (.b .add (.b .add (.v 3) (.n 1)) (.idx (.call 23 (.k (.v 4) .z)) (.n 1)))) (.seq (.setM 6 121 (.k (.v 1) (.k (.v 4) (.k (.slBoth (.v 0) (.b .add (.v 3) (.n 1)) (.v 5)) .z)))) (.seq (.app 2 (.bi .len (.v 6))) (.seq (.ext 2 (.v 6)) (.seq (.set 3 (.v 5)) .nil))))))
theorem SM{xs:List Int}{b:xH×List (List (List Int))×Nat×List Int}{S:Sx}(hsh:(eU xs).length<=10000000)(P:PA xs b S)(hlt:b.2.2.1<xs.length):∃b' S',exec GG NN Pk S=some (.next,S')/\PA xs b' S'/\b'.2.1.length<b.2.1.length:=by
 obtain⟨s,cs,at_,t⟩:=b;obtain⟨hle,⟨f,hc⟩,hbd,han,own,v4,v5,v6,hs,ho,hr,rfl⟩:=P;simp only at hle hc hbd han hr hlt;have hd:xs.drop at_=xs[at_]::xs.drop (at_+1):=fR hlt;rw[hd]at hc;obtain⟨k,ys,cs',f',hk,hp,hyl,hyb,htk,hyr,rfl,hc',hbd'⟩:=Im hc hbd;rw[fC]at hyr;obtain⟨hw,hs',hfm,hr'⟩:=Ik hk hyl hyb s hr;have hget:xs[at_]?=some (k:Int):=by rw[ay hlt,hp]
 have hle2:at_+1+ys.length<=xs.length:=by lia
 have hcut:xU xs (some ((at_+1:Nat):Int)) (some ((at_+1+ys.length:Nat):Int))=zl ys:=by
  rw[Xm _ _ _ (by lia) hle2,Nat.add_sub_cancel_left,htk]
 have hent:=Pg hk hs;rw[<-hyl]at hent;have hidx:iI (.ent (qJ.getD k (0,0)).2 ((ys.length:Nat):Int)) (.int ((1:Nat):Int))=some (.int ((ys.length:Nat):Int)):=rfl;have han2:=han;rw[ax,hw]at han2;have hsp:t++(((aT s [(k:Int)::zl ys]).2.length:Int)::(aT s [(k:Int)::zl ys]).2++F1 (Bj aT (aT s [(k:Int)::zl ys]).1 (cs'.map nb)))=eU xs:=han2;have hlen:t.length+((aT s [(k:Int)::zl ys]).2.length+1)<=10000000:=by
  rw[<-hsp]at hsh;simp only[aA,aV]at hsh;lia
 have sa:∀(t:List Int) (n:Nat),t.length<16000000->pB (.il t) (.int (n:Nat))=some (.il (t++[(n:Int)])):=λt n h=>if_pos h;have se:∀(t a:List Int),t.length+a.length<=16000000->DQ (.il t) (.il a)=some (.il (t++a)):=λt a h=>if_pos h;have s4:exec GG NN (.set 4 (.idx (.v 0) (.v 3))) (SA xs t at_ v4 v5 v6 own hs)=some (.next,SA xs t at_ (some (.int k)) v5 v6 (bC (λk=>!k==4) own) hs):=by
  unfold SA GG;simp![SL hget]
 have s5:∀own,exec GG NN (.set 5 (.b .add (.b .add (.v 3) (.n 1)) (.idx (.call 23 (.k (.v 4) .z)) (.n 1)))) (SA xs t at_ (some (.int k)) v5 v6 own hs)=some (.next,SA xs t at_ (some (.int k)) (some (.int (at_+1+ys.length:Nat))) v6 (bC (λk=>!k==5) own) hs):=λown=>by
  unfold SA GG;simp![hent,hidx]
 have s6:∀own,exec GG NN (.setM 6 121 (.k (.v 1) (.k (.v 4) (.k (.slBoth (.v 0) (.b .add (.v 3) (.n 1)) (.v 5)) .z)))) (SA xs t at_ (some (.int k)) (some (.int (at_+1+ys.length:Nat))) v6 own hs)=some (.next,SA xs t at_ (some (.int k)) (some (.int (at_+1+ys.length:Nat))) (some (.il (aT s [(k:Int)::zl ys]).2)) (6::bC (λk=>!k==6) own) hs'):=λown=>by
  unfold SA GG;simp![yV,Ht,Wb,hcut,argsOk,hfm]
 have s7:∀own,own.contains 2=true->exec GG NN (.app 2 (.bi .len (.v 6))) (SA xs t at_ (some (.int k)) (some (.int (at_+1+ys.length:Nat))) (some (.il (aT s [(k:Int)::zl ys]).2)) own hs')=some (.next,SA xs (t++[((aT s [(k:Int)::zl ys]).2.length:Int)]) at_ (some (.int k)) (some (.int (at_+1+ys.length:Nat))) (some (.il (aT s [(k:Int)::zl ys]).2)) own hs'):=λown ho=>by
  have el:∀a:List Int,mx .len (.il a)=some (.int (a.length:Nat)):=λ_=>rfl;unfold SA GG;simp![el,ho,sa t _ (by lia)]
 have s8:∀own,own.contains 2=true->exec GG NN (.ext 2 (.v 6)) (SA xs (t++[((aT s [(k:Int)::zl ys]).2.length:Int)]) at_ (some (.int k)) (some (.int (at_+1+ys.length:Nat))) (some (.il (aT s [(k:Int)::zl ys]).2)) own hs')=some (.next,SA xs (t++[((aT s [(k:Int)::zl ys]).2.length:Int)]++(aT s [(k:Int)::zl ys]).2) at_ (some (.int k)) (some (.int (at_+1+ys.length:Nat))) (some (.il (aT s [(k:Int)::zl ys]).2)) own hs'):=λown ho=>by
  unfold SA GG;simp![NY,ho,se _ _ (show(t++[((aT s [(k:Int)::zl ys]).2.length:Int)]).length+(aT s [(k:Int)::zl ys]).2.length<=16000000 by rw[aA,bc];lia)]
 have s9:∀own T,exec GG NN (.seq (.set 3 (.v 5)) .nil) (SA xs T at_ (some (.int k)) (some (.int (at_+1+ys.length:Nat))) (some (.il (aT s [(k:Int)::zl ys]).2)) own hs')=some (.next,SA xs T (at_+1+ys.length) (some (.int k)) (some (.int (at_+1+ys.length:Nat))) (some (.il (aT s [(k:Int)::zl ys]).2)) (bC (λk=>!k==3) own) hs'):=λown T=>by
  unfold SA GG;simp![]
 have o6:(6::bC (λk=>!k==6) (bC (λk=>!k==5) (bC (λk=>!k==4) own))).contains 2=true:=by
  rw[eL,du (by decide),du (by decide),du (by decide),ho];rfl
 have o3:(bC (λk=>!k==3) (6::bC (λk=>!k==6) (bC (λk=>!k==5) (bC (λk=>!k==4) own)))).contains 2=true:=by
  rw[du (by decide)];exact o6
 refine⟨((aT s [(k:Int)::zl ys]).1,cs',at_+1+ys.length,t++[((aT s [(k:Int)::zl ys]).2.length:Int)]++(aT s [(k:Int)::zl ys]).2),_,?_,⟨hle2,⟨f',?_⟩,hbd',?_,⟨_,some (.int k),some (.int (at_+1+ys.length:Nat)),some (.il (aT s [(k:Int)::zl ys]).2),_,o3,hr',rfl⟩⟩,k6 _⟩
 . unfold Pk;rw[dU s4,dU (s5 _),dU (s6 _),dU (s7 _ o6),dU (s8 _ o6)];exact s9 _ _
 . show iA eK f' (xs.drop (at_+1+ys.length))=some cs';rw[<-List.drop_drop];exact hc'
 . rw[<-hsp];show((t++[_])++_)++_=_;rw[dw,dw];rfl
theorem Xn{xs:List Int}(h:DC xs=true):run xs=some (eU xs):=by
 unfold DC at h;cases hc:iA eK xs.length xs with
 | none=>rw[hc]at h;cases h
 | some raw=>
  rw[hc]at h;simp only[aG]at h;obtain⟨⟨⟨⟨h1,h2⟩,h3⟩,h4⟩,h5⟩:=h;have hsh:(eU xs).length<=10000000:=oD h5;have h80:raw.length<=80:=oD h2;have ha:eU xs=F1 (Bj aT none (raw.map nb)):=by
   unfold eU PyKp303.calls;rw[hc];rfl
  have P0:PA xs (none,raw,0,[]) (SA xs [] 0 none none none [2] DT):=
   ⟨dj _,⟨xs.length,hc⟩,h3,by rw[ha];rfl,⟨[2],none,none,none,DT,rfl,rfl,rfl⟩⟩
  obtain⟨S',b',e,P',hg⟩:=wz (tst:=λS=>(S.ev GG (.c .lt (.v 3) (.bi .len (.v 0)))).bind gn) (body:=exec GG NN Pk) (PA xs) (λb=>decide (b.2.2.1<xs.length)) (λb=>b.2.1.length) (n:=NN)
   (λb S P=>by
    obtain⟨own,v4,v5,v6,hs,_,_,rfl⟩:=P.st;unfold SA GG;simp![SJ]) (λb S P hg=>SM hsh P (oD hg)) P0 (na h80 (by decide))
  obtain⟨s,cs,at_,t⟩:=b';obtain⟨hle,⟨f,hc'⟩,_,han,own,v4,v5,v6,hs,ho,_,rfl⟩:=P';have hat:at_=xs.length:=by
   have:=of_decide_eq_false hg;simp only at this hle;lia
  subst hat;simp only[iF]at hc' han;have hcs:cs=[]:=by
   cases f<;>(unfold iA at hc';exact(bv.inj hc').symm)
  subst hcs;have ht:t=eU xs:=by
   rw[<-han];show t=t++[];rw[cJ]
  have s2:exec GG NN (.set 2 (.lst .I .z)) ⟨(wa 7 [.fil xs]).set 1 (some .obj),[],DT,true⟩=some (.next,⟨[some (.fil xs),some .obj,some (.il []),none,none,none,none],[2],DT,true⟩):=rfl;have s3:exec GG NN (.set 3 (.n 0)) ⟨[some (.fil xs),some .obj,some (.il []),none,none,none,none],[2],DT,true⟩=some (.next,SA xs [] 0 none none none [2] DT):=rfl;have e':exec GG NN (.whl (.c .lt (.v 3) (.bi .len (.v 0))) Pk) (SA xs [] 0 none none none [2] DT)=some (.next,SA xs t xs.length v4 v5 v6 own hs):=e;have s4:exec GG NN (.seq (.ret (.v 2)) .nil) (SA xs t xs.length v4 v5 v6 own hs)=some (.ret (.il t),SA xs t xs.length v4 v5 v6 own hs):=by
   unfold SA GG;simp![ho]
  have tot:exec GG NN kJ ⟨(wa 7 [.fil xs]).set 1 (some .obj),[],DT,true⟩=some (.ret (.il t),SA xs t xs.length v4 v5 v6 own hs):=by
   have:kJ=.seq (.set 2 (.lst .I .z)) (.seq (.set 3 (.n 0)) (.seq (.whl (.c .lt (.v 3) (.bi .len (.v 0))) Pk) (.seq (.ret (.v 2)) .nil))):=rfl;rw[this,dU s2,dU s3,dU e',s4]
  unfold run;rw[tot,<-ht]
end Sq
namespace Sq
open PySem PySem.W PyProof.Rows L2
abbrev CST:List (Str×Int):=[("NO_SUCH", -2),("NOTHING_THERE", -6),("NOT_BEGUN", -11),("ALREADY", -17),("WRONG", -22),("FULL", -28),("NONE_FOUND", -33),("DEEPEST_ASKED",20),("ZERO",0),("SQUARE",1),("NOT_SQUARE",2),("MOST_TERMS",4),("BESIDE_END",200),("MOST_POINTS",12),("NOT_REFUSED",0),("CLASSES_AT_FIRST",2),("LEAST_CLASSES",2),("MOST_CLASSES",8),("NO_CLASS", -1),("LEAST_PRIME",5),("GREATEST_PRIME",97),("BESIDE_AT_FIRST",3),("CHANGES_KEPT",12),("BEGIN",0),("UNDO",2)]
abbrev ATS:List Str:=["prime","place","beside","terms","points","classes","root","earlier"]
abbrev DS:List Str:=["AGAIN_CALLS","ANSWERING_CALLS","BETWEEN_CALLS","DIFFERENCES_CALLS","LEFT_CALLS","OWN_CALLS","POWERS_CALLS"]
abbrev MP:List (Str×Nat):=[("picture",22)]
abbrev MM:List (Str×Nat):=[("restore",111),("remember",112)]
abbrev INI:List (Str×Option Int):=[("prime",some 0),("place",some 0),("beside",some 0),("terms",none),("points",none),("classes",some 0),("root",some 0),("earlier",none)]
abbrev top(i:Nat):Stmt:=PR.main.body.getD i (.Pass ⟨0,0,0,0⟩)
abbrev SN(i j:Nat):Stmt:=match top i with
 | .ClassDef _ _ _ b _ _ _ _ _ _ _=>b.getD j (.Pass ⟨0,0,0,0⟩)
 | _=>.Pass ⟨0,0,0,0⟩
abbrev rf(x:Str)(i:Nat)(ps N:List Str)(c:CS)(f:ai):Rc:=⟨x,x,x,[],top i,ps,ps++N,c,f⟩
abbrev RP0:List Rc:=[rf "path_from" 9 ["number","prime"] ["path","here"] mN 21,rf "is_odd_prime" 35 ["number"] ["divisor"] lM 175,rf "kinds_of" 36 ["prime"] ["kinds","x"] oz 182,rf "row_leaves" 43 ["terms","unknowns","prime"] ["total","term","unknown"] li 215,rf "product_of_terms" 44 ["terms","prime"] ["product","term"] gw 222,rf "power_of" 45 ["base","exponent"] ["power","step"] oA 229,rf "tally_with" 47 ["tally","term","prime","least"] ["added","grown","left","rows","more","unknown"] lj 241,rf "is_term" 53 ["number","house"] [] qR 276,rf "half_of" 74 ["prime"] [] qS 415,rf "multiples_of" 76 ["number","prime"] ["k"] jt 427,rf "round_by" 82 ["number","start","prime"] ["found","here"] oB 465,rf "is_under" 88 ["x","y","house"] [] oC 503,rf "is_card" 102 ["number","house"] [] qT 593,rf "pairs_among" 105 ["many"] [] kc 614,rf "leads_both_ways" 113 ["prime"] [] gU 665,rf "is_point" 121 ["number","house"] [] oE 699,rf "with_count" 122 ["found"] [] ju 706,rf "is_kind" 144 ["number"] [] qU 850,rf "powers_of" 168 ["number","prime"] ["powers","here"] mO 979,rf "can_split" 173 ["classes","prime"] [] i7 1012,rf "difference_counts" 176 ["numbers","prime"] ["counts","one","other"] f8 1031,rf "is_class" 202 ["number","house"] [] oF 1182,⟨"picture","House.picture","",["picture"],SN 226 1,["self"],["self"],mP,1363⟩,rf "entry_of" 230 ["number"] [] sK 1391,rf "tail_of" 10 ["number","prime"] ["path"] qV 28,rf "kind_of" 37 ["number","prime"] [] nt 189,rf "remainders_of_kind" 38 ["wanted","prime"] ["kinds","x"] fO 194,rf "tally_from" 48 ["terms","prime","least"] ["tally","term"] ll 248,rf "in_half" 75 ["number","prime"] [] qW 422,rf "is_turned" 77 ["left","prime"] [] mQ 434]
abbrev RP1:List Rc:=[rf "first_half_multiples" 79 ["number","prime"] [] fc 448,rf "crossed_pairs" 81 ["number","prime"] ["multiples","many","at","left","later"] iP 458,rf "fewest_exchanges" 83 ["number","prime"] ["starts","x"] gx 470,rf "under_at" 89 ["x","house"] ["y"] oG 508,rf "over_at" 90 ["y","house"] ["x"] qX 513,rf "points_led_to" 111 ["point","prime"] ["kinds","other"] iQ 653,rf "points_leading_to" 112 ["point","prime"] ["kinds","other"] ga 658,rf "refusal_of_two" 129 ["house","x","y"] [] eA 751,rf "runs_of_kind" 157 ["u","prime"] ["kinds","found","x"] jv 929,rf "leaves_all" 169 ["number","prime"] [] lm 986,rf "index_of" 171 ["number","root","prime"] [] oH 1000,rf "class_by_remainder" 174 ["house"] ["found","times","left"] fP 1019,rf "is_even" 177 ["numbers","prime"] ["counts"] qY 1038,rf "is_house_prime" 182 ["number"] [] eB 1045,rf "round_behind" 11 ["number","prime"] [] jw 35,rf "tails_of" 13 ["prime"] ["x"] oJ 47,rf "sign_of" 39 ["number","prime"] ["kind"] lz 201,rf "all_rows_tally" 49 ["terms","prime"] [] ig 255,rf "full_rows_tally" 50 ["terms","prime"] [] gW 262,rf "folded" 78 ["left","prime"] [] p9 441,rf "turned_count" 80 ["number","prime"] ["left"] jx 453,rf "leads_to" 110 ["point","other","prime"] [] oK 648,rf "leading_to_all" 115 ["kept","prime"] ["found","point","leading","other"] gh 677,rf "one_step_on" 116 ["reached","prime"] ["found","point","other"] kf 682,rf "groups_with_one_more" 117 ["groups","prime"] ["found","group","free","point","near","other"] fe 687,rf "ordered_leading_pairs" 137 ["house"] ["pairs","point","led","other"] eQ 797,rf "least_root" 170 ["prime"] ["root"] ln 993,rf "all_roots" 172 ["prime"] ["number"] mR 1005,rf "members_of" 175 ["wanted","house"] ["found","x"] lp 1024,rf "row_of_class" 212 ["i","house"] ["found","row","x"] jy 1252]
abbrev RP2:List Rc:=[rf "foot_of" 12 ["number","prime"] [] qZ 42,rf "longest_tail" 14 ["prime"] [] jz 54,rf "round_lengths" 15 ["prime"] ["lengths","x","found"] iR 61,rf "foretold_answers" 46 ["terms","wanted","prime"] ["many","half","turned","usual","times"] cq 236,rf "answer_behind" 51 ["terms","wanted","passed","prime"] ["row","left","before","at","term","tally","unknown","rest"] iS 269,rf "house_tally" 54 ["house"] [] kg 283,rf "first_greatest_group" 118 ["start","prime"] ["groups","greatest","point"] ff 692,rf "class_times" 220 ["house","i","number"] [] kh 1308]
abbrev RP:List Rc:=RP0++RP1++RP2
abbrev RM0:List Rc:=[rf "square" 16 ["house"] [] lN 68,rf "squareback" 17 ["house"] ["sources","x"] hJ 73,rf "after" 18 ["house","a","n"] ["path","found"] lA 80,rf "tail" 19 ["house","a"] [] qa 87,rf "foot" 20 ["house","a"] [] qb 94,rf "round_of" 21 ["house","a"] ["found"] jA 101,rf "onround" 22 ["house","a"] [] i8 108,rf "meet" 23 ["house","a","b"] ["prime","one","other","many"] nu 115,rf "same" 24 ["house","a","b"] ["prime"] lO 122,rf "hang" 25 ["house","a","d"] ["prime","left","x"] lP 127,rf "comesto" 26 ["house","a"] ["left","x"] kC 132,rf "roundsof" 27 ["house","k"] [] jB 139,rf "rounds" 28 ["house"] ["lengths"] oM 146,rf "depth" 29 ["house"] ["tails","longest"] rb 153,rf "add_term" 42 ["house","number"] ["left"] ii 208,rf "out" 56 ["house","i"] [] t9 297,rf "times" 57 ["house","i","k"] [] lB 304,rf "pair" 58 ["house","i","j"] [] lQ 311,rf "many" 59 ["house","c"] [] ua 318,rf "full" 60 ["house","c"] [] ub 325,rf "first" 61 ["house","c"] ["row"] nw 332,rf "zero" 62 ["house"] ["row"] qc 339,rf "never" 63 ["house"] ["found","left","rows"] rc 344,rf "three" 64 ["house"] ["tally","least_none"] re 351,rf "ofkind" 65 ["house","u"] ["tally","left"] lR 356,rf "most" 66 ["house"] ["tally","greatest"] uc 363,rf "fewestanswers" 67 ["house"] ["tally","least"] gX 370,rf "worth" 68 ["house","x","y","z","w"] [] rg 377,rf "productof" 69 ["house"] ["product"] ki 384,rf "with_more" 70 ["house","a","c"] [] gJ 391]
abbrev RM1:List Rc:=[rf "nextbeside" 84 ["house"] ["other"] jC 477,rf "fold" 85 ["house","a","k"] ["prime","left"] kD 484,rf "folds" 86 ["house","a"] [] ny 491,rf "foldedall" 87 ["house","a"] ["prime","found","left"] iK 496,rf "column" 91 ["house","k"] [] jV 520,rf "row" 92 ["house","k"] [] rh 527,rf "under" 93 ["house"] ["x"] rm 532,rf "over" 94 ["house"] ["y"] ud 537,rf "inside" 95 ["house","x","y"] [] iW 544,rf "multiple" 96 ["house","a","k"] [] gy 551,rf "where" 97 ["house","a","b"] [] lC 558,rf "turnedpairs" 98 ["house","a"] [] gD 565,rf "long" 99 ["house","a"] ["length"] qd 572,rf "fewest" 100 ["house","a"] [] lS 579,rf "roundby" 101 ["house","a","k"] ["found"] i9 586,rf "dealt" 103 ["house","i"] [] nz 600,rf "dealtto" 104 ["house","i"] [] kE 607,rf "dealtpairs" 106 ["house"] [] jD 621,rf "keep_point" 114 ["house","point"] [] gi 672,rf "take" 124 ["house","x"] [] qe 720,rf "kept" 125 ["house"] [] ue 727,rf "move" 126 ["house","t"] ["point"] ug 732,rf "timesall" 127 ["house","k"] ["point"] jE 737,rf "grow" 128 ["house"] ["leading"] nA 744,rf "leads" 130 ["house","x","y"] ["refusal"] jW 758,rf "of" 131 ["house","x"] [] xZ 765,rf "common" 132 ["house","x","y"] ["refusal","others","point"] jX 770,rf "into" 133 ["house","x","y"] ["refusal","others","point"] nB 775,rf "threesround" 134 ["house","x"] ["back","ways","middle","point"] gE 780,rf "differ" 135 ["house","d"] ["squares","x"] lT 785]
abbrev RM2:List Rc:=[rf "who" 136 ["house"] [] xh 792,rf "inner" 138 ["house"] ["pairs"] nD 804,rf "group" 139 ["house"] ["points"] lD 811,rf "greatest" 140 ["house"] [] jF 818,rf "steps" 141 ["house","x","y"] ["reached","taken"] lE 825,rf "go" 145 ["house","a"] [] BC 857,rf "on" 146 ["house","u"] ["those","greater","x"] x6 862,rf "before" 147 ["house","u"] ["those","less","x"] lU 867,rf "stand" 148 ["house"] [] rn 874,rf "kind" 149 ["house","a"] [] uh 881,rf "manyof" 150 ["house","u","n"] ["x"] jY 886,rf "nth" 151 ["house","u","k"] ["those"] rq 893,rf "place" 152 ["house","a"] ["left","alike"] nE 900,rf "sum_of_kind" 153 ["house","u"] [] gF 907,rf "part" 154 ["house","k"] ["end","squares","others","x"] nF 912,rf "pairs" 155 ["house","u","v"] ["kinds","x"] lF 917,rf "threes" 156 ["house","u","v","w"] ["kinds","wanted","x"] iX 922,rf "run" 158 ["house","u"] ["found","lengths","longest","one"] ui 934,rf "runs" 159 ["house","u"] [] qf 941,rf "least" 160 ["house"] [] rz 948,rf "product" 161 ["house","u"] ["left","x"] kF 955,rf "classes_anew" 183 ["house"] [] ij 1052,rf "past" 187 ["house"] [] uj 1078,rf "sums" 188 ["house"] [] uk 1085,rf "besides" 189 ["house","q"] ["old"] hU 1092,rf "stayat" 190 ["house","k"] [] lV 1099,rf "wander" 193 ["house"] ["further","point"] oN 1120,rf "from_here" 194 ["house"] ["led","leading","point"] kj 1125,rf "value" 195 ["house"] [] nG 1132,rf "ways" 196 ["house","a"] ["by","said"] nH 1139]
abbrev RM3:List Rc:=[rf "foretold" 197 ["house","c"] [] lq 1146,rf "standing" 198 ["house"] ["index"] jG 1153,rf "keptkinds" 199 ["house"] ["kinds","point"] km 1158,rf "split" 203 ["house","e"] [] nI 1189,rf "otherroot" 204 ["house","g"] ["old"] gK 1196,rf "leastroot" 205 ["house"] [] ko 1203,rf "roots" 206 ["house"] ["found"] rB 1210,rf "index" 207 ["house","x"] [] nJ 1217,rf "class_of" 208 ["house","x"] [] jH 1224,rf "power" 209 ["house","n"] [] rD 1231,rf "members" 210 ["house","i"] ["found"] kG 1238,rf "firstof" 211 ["house","i"] [] kH 1245,rf "behind" 213 ["house","i","j"] [] jZ 1259,rf "rowof" 214 ["house","i"] [] nL 1266,rf "table" 215 ["house"] ["numbers","i"] rE 1273,rf "differs" 216 ["house","i","d"] [] ja 1280,rf "even" 217 ["house","i"] [] nM 1287,rf "evenzero" 218 ["house","i"] [] ik 1294,rf "sumof" 219 ["house","i"] [] nN 1301,rf "timesclass" 221 ["house","i","a"] [] gj 1315,rf "opposite" 222 ["house","i"] [] jI 1322,⟨"restore","House.restore","",["restore"],SN 226 2,["self","old"],["self","old"],kq,1370⟩,⟨"remember","House.remember","",["remember"],SN 226 3,["self","old"],["self","old"],hW,1377⟩,rf "term" 55 ["house","a"] [] ul 290,rf "put" 123 ["house","x"] [] um 713,rf "begin" 184 ["house","p"] [] nO 1059,rf "prime" 185 ["house","p"] ["term","point"] j0 1064,rf "bring" 191 ["house"] [] rF 1106,rf "termhere" 192 ["house"] [] lr 1113,rf "undo" 186 ["house"] [] qg 1071]
abbrev RM4:List Rc:=[rf "act_with" 231 ["act","house","given"] [] jJ 1398,rf "answer_of" 232 ["house","number","given"] ["act","old","answer"] fS 1405]
abbrev RM:List Rc:=RM0++RM1++RM2++RM3++RM4
abbrev FNS:List Str:=RP.map (·.nm)
abbrev MS:List Str:=RM.map (·.nm)
abbrev TX:Tx:=⟨FNS,MS,CST,ATS,DS,MP,MM⟩
abbrev JY:Rc:=rf "answers" 233 ["calls"] ["house","told","at","number","end","answer"] kJ 1412
abbrev Pl:Rc:=⟨"__init__","House.__init__","",["__init__"],SN 226 0,["self"],["self"],.nil,1356⟩
abbrev CA:Nat:=1380
abbrev ADR:List Nat:=mainGlobals::[20,21,27,28,34,35,41,42,46,47,53,54,60,61,67,68,72,73,79,80,86,87,93,94,100,101,107,108,114,115,121,122,126,127,131,132,138,139,145,146,152,153,154,155,156,157,158,159,160,161,162,163,164,165,166,167,168,169,174,175,181,182,188,189,193,194,200,201,207,208,214,215,221,222,228,229,235,236,240,241,247,248,254,255,261,262,268,269,275,276,282,283,289,290,296,297,303,304,310,311,317,318,324,325,331,332,338,339,343,344,350,351,355,356,362,363,369,370,376,377,383,384,390,391,392,393,394,395,396,397,398,399,400,401,402,403,404,405,406,407,408,409,414,415,421,422,426,427,433,434,440,441,447,448,452,453,457,458,464,465,469,470,476,477,483,484,490,491,495,496,502,503,507,508,512,513,519,520,526,527,531,532,536,537,543,544,550,551,557,558,564,565,571,572,578,579,585,586,592,593,599,600,606,607,613,614,620,621,622,623,624,625,626,627,628,629,630,631,632,633,634,635,636,637,638,639,640,641,647,648,652,653,657,658,664,665,671,672,676,677,681,682,686,687,691,692,698,699,705,706,712,713,719,720,726,727,731,732,736,737,743,744,750,751,757,758,764,765,769,770,774,775,779,780,784,785,791,792,796,797,803,804,810,811,817,818,824,825,826,827,828,829,830,831,832,833,834,835,836,837,838,839,840,841,842,843,844,849,850,856,857,861,862,866,867,873,874,880,881,885,886,892,893,899,900,906,907,911,912,916,917,921,922,928,929,933,934,940,941,947,948,954,955,956,957,958,959,960,961,962,963,964,965,966,967,968,969,970,971,972,973,978,979,985,986,992,993,999,1000,1004,1005,1011,1012,1018,1019,1023,1024,1030,1031,1037,1038,1044,1045,1051,1052,1058,1059,1063,1064,1070,1071,1077,1078,1084,1085,1091,1092,1098,1099,1105,1106,1112,1113,1119,1120,1124,1125,1131,1132,1138,1139,1145,1146,1152,1153,1157,1158,1159,1160,1161,1162,1163,1164,1165,1166,1167,1168,1169,1170,1171,1172,1173,1174,1175,1176,1181,1182,1188,1189,1195,1196,1202,1203,1209,1210,1216,1217,1223,1224,1230,1231,1237,1238,1244,1245,1251,1252,1258,1259,1265,1266,1272,1273,1279,1280,1286,1287,1293,1294,1300,1301,1307,1308,1314,1315,1321,1322,1323,1324,1325,1326,1327,1328,1329,1330,1331,1332,1333,1334,1335,1336,1337,1338,1339,1340,1341,1342,1355,1356,1362,1363,1369,1370,1376,1377,1379,1380,1390,1391,1397,1398,1404,1405,1411,1412]
@[irreducible] noncomputable def KO(P:Params)(a:Nat):fB:=((Tp.TR P 234).get a).getD default
abbrev KP(P:Params):Frag:=ADR.map λa=>(a,KO P a)
end Sq
namespace Sq
open PySem PySem.W PyProof.Rows L2
abbrev RX:List Rc:=RP++RM++[JY,Pl]
theorem t_v(P:Params):RX.map (λr=>uE (KP P) r.f)=RX.map λr=>some (yL r):=by kernel_rfl
theorem t_c(P:Params):RX.all (Q8 (KP P) CA)=true:=by kernel_rfl
theorem t_l(P:Params):clB (KP P) CA "House" TX=true:=by kernel_rfl
theorem t_t(P:Params):(DS.zip TAB).all (λq=>tbB (KP P) (λk=>(RM.map (·.f)).getD k 0) q.1 q.2)=true:=by kernel_rfl
abbrev TV(o:fB):Bool:=match o.data with | .freed=>false | _=>true
theorem t_s(P:Params):ADR.all (λa=>decide (a<1413)&&TV (KO P a))=true:=by kernel_rfl
theorem s_p:RP.zipIdx.all (λq=>ckP TX q.1 q.2)=true:=by kernel_rfl
theorem s_m:RM.zipIdx.all (λq=>ckM TX 68 q.1 q.2)=true:=by kernel_rfl
theorem s_a:((B6 ⟨FNS,MS,CST,ATS,JY.N,68,122,false,DS,MP,MM⟩ JY.c).b (bW JY.st).names (gT JY.st).tail&&XG JY.N JY.ps (bW JY.st)&&VN (mL JY.st) JY.ps)=true:=by kernel_rfl
theorem s_i:(Ez ⟨FNS,MS,CST,ATS,Pl.N,0,0,false,DS,MP,[]⟩ (bW Pl.st).names INI (gT Pl.st)&&XG Pl.N Pl.ps (bW Pl.st)&&VN (mL Pl.st) Pl.ps)=true:=by kernel_rfl
end Sq
namespace Sq
open PySem PySem.W PyProof.Rows L2
theorem Xo{P:Params}{a:Nat}(h:a∈ADR):(H1 P).get? a=some (KO P a):=by
 have e:=bw.mp (t_s P) a h;rw[aG,decide_eq_true_eq]at e;have e2:(H1 P).objs[a]?=some (KO P a):=by
  show(absHeap (Tp.TR P 234) 1413 {}).objs[a]?=_;rw[absHeap_at,if_pos e.1];unfold KO;rfl
 unfold Heap.get?
 rw[e2];have e3:=e.2;unfold TV at e3;generalize KO P a=o at e3⊢;obtain⟨c,d,da,s⟩:=o;cases da<;>first | rfl | cases e3
theorem Pn{β:Type}{f:Nat->β}{a:Nat}{o:β}:∀{l:List Nat},(l.map λa=>(a,f a)).lookup a=some o->a∈l/\f a=o
 | [],h=>by cases h
 | b::r,h=>by
  rw[ax,bx]at h;cases e:a==b with
  | true=>
   rw[e]at h;have e':a=b:=eq_of_beq e;subst e';exact⟨aI,bv.inj h⟩
  | false=>
   rw[e]at h;obtain⟨h1,h2⟩:=Pn h;exact⟨ao _ h1,h2⟩
theorem ZN{P:Params}{h:Heap}(Y:∀a o,(H1 P).get? a=some o->h.get? a=some o):(KP P).In h:=λa o e=>by
 obtain⟨h1,h2⟩:=Pn e;rw[<-h2];exact Y a _ (Xo h1)
theorem Po{l:List Rc}{q:Rc×Nat->Bool}(h:l.zipIdx.all q=true):∀j r,l[j]?=some r->q (r,j)=true:=λj r e=>by
 refine bw.mp h _ (aL (i:=j) ?_);rw[lc,e];show some (r,0+j)=_;rw[bJ]
theorem JZ{α β:Type}{f g:α->β}:∀{l:List α},l.map f=l.map g->∀a∈l,f a=g a
 | [],_,a,h=>nomatch h
 | b::r,e,a,h=>by
  rw[ax,ax]at e;rcases aE.mp h with rfl | k
  . exact(FJ.inj e).1
  . exact JZ (FJ.inj e).2 a k
theorem a3T:RP.length=68:=rfl
theorem a3U:RM.length=122:=rfl
theorem ZO:FNS=RP.map (·.nm):=rfl
theorem msM:MS=RM.map (·.nm):=rfl
theorem a2y:BPL=RP.map λr=>⟨r.ps.length,r.N.length,r.c⟩:=rfl
theorem a2z:BML=RM.map λr=>⟨r.ps.length,r.N.length,r.c⟩:=rfl
theorem a2A:CSL=CST.map (·.2):=rfl
theorem Xp{Q:Program}(w:World){h:Heap}{mg:Str->Option Value}{fa:ai}(X:(KP w.params).In h)(G:h.Ns mainGlobals mg)(hfa:mg "answers"=some (.ref fa)):
 ∃fd:dJ,(∀(s:Shared) (us:List Value),us.length=(["calls"]:List Str).length->FV s fd ⟨us,[]⟩ ((["calls"]:List Str).zip us))/\∀base:Heap,(KP w.params).In base->base.Ns mainGlobals mg->gC Q w (KP w.params) mg base sH 191 fa fd ["calls"] (spA (KP w.params) run):=by
 let W:Wd:=⟨KP w.params,λk=>(RM.map (·.f)).getD k 0,CA,ATS⟩
 have hX:W.K.In h:=X;have hcl:=t_l w.params;have hv:=JZ (t_v w.params);have hc:=bw.mp (t_c w.params);have hP:∀r∈RP,r∈RX:=λr k=>eR _ (eR _ k);have hM:∀r∈RM,r∈RX:=λr k=>eR _ (bZ _ k);have hA:JY∈RX:=bZ _ aI;have hI:Pl∈RX:=bZ _ (ao _ aI);have B:VH W Q w mg TX.CST TX.ATS TX.DS ie my:=by
  refine VO (cn:="House") (TAB:=TAB) hX G rfl (by decide+kernel) (λi n z e=>?_) (λg _=>rfl) hcl (λg n e=>?_)
  . show(CSL[i]?).map _=_;rw[a2A,ak,show CST[i]?=some (n,z)from e];rfl
  . have hl:g<DS.length:=(az.mp e).1;have hz:(DS.zip TAB)[g]?=some (n,TAB.getD g []):=by
     have hl2:g<TAB.length:=hl;rw[Do];exact⟨e,by rw[aD,ay hl2];rfl⟩
    exact bw.mp (t_t w.params) _ (aL hz)
 have hBP:∀j r,RP[j]?=some r->BP j=⟨r.ps.length,r.N.length,r.c⟩:=λj r e=>by
  unfold BP;rw[a2y,aD,ak,e];rfl
 have hBM:∀j r,RM[j]?=some r->BM j=⟨r.ps.length,r.N.length,r.c⟩:=λj r e=>by
  unfold BM;rw[a2z,aD,ak,e];rfl
 have hfaM:∀j r,RM[j]?=some r->W.fa j=r.f:=λj r e=>by
  show(RM.map (·.f)).getD j 0=r.f;rw[aD,ak,e];rfl
 have sA:=s_a;have sI:=s_i;simp only[aG]at sA sI;obtain⟨⟨a1,a2⟩,a3⟩:=sA;obtain⟨⟨i1,i2⟩,i3⟩:=sI;have ScA:=Cd a2;have ScI:=Cd i2;obtain⟨fd,FA⟩:=Ce (hv _ hA) (xr (w:=W) (hc _ hA));obtain⟨fdI,FI⟩:=Ce (hv _ hI) (xr (w:=W) (hc _ hI));have BA:=uF FA a3 (EG ScA);have BI:=uF FI i3 (EG ScI);have hm:=GS (w:=W) hX G (hc _ hA) (by decide);have hfa':fa=JY.f:=by
  have e:=hfa.symm.trans (show mg "answers"=some (.ref JY.f)from hm);cases e;rfl
 subst hfa';refine⟨fd,λs us hu=>?_,λbase _ _=>?_⟩
 . obtain⟨oc,od,kV,doc,pm,an,cdv,ct,osl,rfl,lk,hcd⟩:=FA.ex;unfold VN at a3;simp only[aG,pG,decide_eq_true_eq,m3]at a3;obtain⟨⟨⟨⟨h1,h2⟩,h3⟩,h4⟩,h5⟩:=a3;exact .of_eq (yK h1 h2 h3 h4 h5 rfl (EG ScA) hu)
 . have tp:=EH (n:=1000000) (BP:=BP) (BM:=BM) (RP:=RP) (base:=base) (K:=122) B hX G ZO hBP (λr k=>hv r (hP r k)) (λr k=>hc r (hP r k)) (Po s_p) RP.length (aO _);have tm:=EI (n:=1000000) (BP:=BP) (BM:=BM) (RP:=RP) (RM:=RM) (base:=base) B hX G ZO msM hBM hfaM (λr k=>hv r (hM r k)) (λr k=>hc r (hM r k)) (Po s_m) tp RM.length (aO _);have gI:=Nb (N:=Pl.N) B rfl rfl (sT.zero (w:=W) (P:=Q) (wl:=w) (mg:=mg) (base:=base) (fns:=FNS) (mp:=MP) (G:=GG) (lv:=0)) (vz.zero (w:=W) (P:=Q) (wl:=w) (mg:=mg) (base:=base) (ms:=MS) (mm:=[]) (G:=GG) (lv:=0)) (dj _) (dj _);have oI:=Q4 (l:=INI) gI FI ScI rfl i1 rfl (by decide);have gA:=Nb (N:=JY.N) (lv:=190) B rfl rfl (tp.up (by decide)) (tm.up (by decide)) (by decide) (by decide);have cI:=hc _ hI;have mI:=Cf (w:=W) cI FI.kp "__init__" aI;unfold clB at hcl;simp only[aG]at hcl;have aC:=mg_of hX G (yM hcl.1.1.1.2);exact GP (w:=W) (c:=kJ) (hs0:=DT) (l:=INI) gA FA ScA rfl rfl rfl (by decide+kernel) (by decide+kernel) (by decide+kernel) aC ⟨hcl.1.1.1.1.1.2,mI.at_,mI.fn,hcl.1.1.1.1.2⟩ ⟨1,by decide,oI⟩ BI a1 rfl (by decide) (by decide+kernel) λxs ys e=>by
    unfold run at e;split at e
    . rename_i ys' S' hx;cases e;exact⟨_,_,hx⟩
    . cases e
end Sq
namespace Sq
open PySem PySem.W PyProof.Rows L2
theorem a2B{d:DefRec}(hn:d.name="answers")(hdf:d.params.defaults=[]):WalkOS qv lose (XL qv []) YP RW d [] λf vs=>LC f vs:=by
 refine GR (r:=RW) (k:=191) (CX:=sH) (K:=KP) (ps:=["calls"]) (sp:=λK=>spA K run) said hdf rfl ⟨rfl,by decide,by decide⟩ (λw h Y=>ZN Y) ?_ ?_ (λ_ _ _ _ z=>z)
 . intro w mg fa h Y KX G hmg;rw[hn]at hmg;exact Xp w KX G hmg
 . intro K H xs a hO hwi hask hx;cases hx with
   | cons h1 h2=>
    cases h2;cases h1 with
    | lst hs ha=>
     have e:=Js a.1 _ ha;subst e;refine⟨_,a.1,eU a.1,rfl,?_,Xn hask,λb H' _ hb=>.lst (fj.of hb) (Jr _)⟩;rcases hs with h | h
     . rcases h with h | ⟨o,h⟩
       . rcases hO _ with z | ⟨o,u,z⟩
         . rw[z]at h;cases h
         . rw[z]at h;cases h
       . exact .inl ⟨o,h⟩
     . exact .inr h
theorem a2C:(defOf qv RW.name).map (λq=>(q.2.isEmpty,q.1.name,q.1.params.defaults.isEmpty))=some (true,Str.ofString "answers",true):=by kernel_rfl
theorem a2D:RW.prog.theDef RW.name=(defOf qv RW.name).map λq=>(q.1.params,q.1.body,q.1.scope):=by kernel_rfl
theorem a2E:(defOf qv RW.name).map (λq=>kwWritten? q.1.params.kwonlyargs q.1.params.kw_defaults)=some (some []):=by kernel_rfl
theorem whole:RW.Holds:=by
 have a:=a2C;have b:=a2D;have c:=a2E;cases e:defOf qv RW.name with
 | none=>rw[e]at a;cases a
 | some q=>
  obtain⟨d,l⟩:=q;rw[e]at a b c;have a':=bv.inj a;simp only[Prod.mk.injEq,pG]at a';obtain⟨rfl,hn,hdf⟩:=a';exact hd e b (bv.inj c) (a2B hn hdf)
end Sq
theorem PySem.Challenge.cw_squarehouse_s01_answers_holds : PySem.Challenge.rw_squarehouse_s01_answers.Holds := by
  exact Sq.whole
